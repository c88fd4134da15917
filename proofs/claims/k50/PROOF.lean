import PyProof.Rows.All
import Wide.All
import OpenK.AllK
import Wide.FinOn
import PySem.Challenge.RW_strata_k50_whole_paths
set_option tactic.hygienic false
set_option genSizeOf false
set_option compiler.extract_closed false
set_option bootstrap.genMatcherCode false
set_option Elab.async false
set_option linter.all false
set_option maxRecDepth 100000
noncomputable section
def zn0{α:Type}{P:Prop}{e:α}(h:none=some e):P:=nomatch h
def gi0{α:Type}{l:List α}{i:Nat}{a:α}:l[i]?=some a->∃h:i<l.length,l[i]=a:=List.getElem?_eq_some_iff.1
def bf0{a:Bool}:¬a=true->a=false:=Bool.eq_false_iff.2
def is0{α:Type}{x:Option α}:x.isSome=true->∃a,x=some a:=Option.isSome_iff_exists.1
def lp0{α:Type}{l:List α}:l≠[]->0<l.length:=List.length_pos_iff.2
def bn0{α:Type}[BEq α][LawfulBEq α]{a b:α}:a≠b->(a==b)=false:=beq_eq_false_iff_ne.2
abbrev wb0:=@PySem.wpAny_bind
abbrev wq0:=@PySem.wpAny_pure
abbrev wh0:=@PySem.wpAny_holding
abbrev fg0:=@PySem.W.Frag
abbrev ml0:=@PySem.mem_of_lookup
abbrev hu0:=@PySem.Heap.get?_update_self
abbrev ez0:=@List.eq_nil_of_length_eq_zero
abbrev ui0:=@PySem.Around.under_plainId
def bx0{α β:Type}{f:α->Option β}{b:β}{x:Option α}:x.bind f=some b->∃a,x=some a/\f a=some b:=Option.bind_eq_some_iff.1
def mx0{α β:Type}{f:α->β}{b:β}{x:Option α}:x.map f=some b->∃a,x=some a/\f a=b:=Option.map_eq_some_iff.1
def ax0{a b:Bool}:(a&&b)=true->a=true/\b=true:=Bool.and_eq_true_iff.1
def fx0:false≠true:=Bool.false_ne_true
def mm0{α β:Type}{f:α->β}{l:List α}{b:β}:b∈l.map f->∃a,a∈l/\f a=b:=List.mem_map.1
def ma0{α:Type}{a:α}{s t:List α}:a∈s++t->a∈s\/a∈t:=List.mem_append.1
def mq0{α:Type}{a b:α}{l:List α}:a∈b::l->a=b\/a∈l:=List.mem_cons.1
abbrev bs0:=@Option.bind_some
abbrev mc0:=@List.mem_cons_of_mem
abbrev ps0:=@PySem.Heap.get?_push_of_some
abbrev ms0:=@List.mem_cons_self
abbrev lm0:=@List.length_map
abbrev ls0:=@List.size_toArray
abbrev ge0:=@List.getElem?_eq_getElem
abbrev hs0:=@PySem.Heap.lt_size
abbrev nr0:=@Nat.le_refl
abbrev nl0:=@Nat.lt_of_lt_of_le
abbrev pz0:=@PySem.Heap.get?_push_size
abbrev lc0:=@List.length_cons
abbrev nt0:=@Nat.le_trans
abbrev gn0:=@List.getElem?_set_ne
abbrev nn0:=@Nat.ne_of_lt
abbrev be0:=@Bool.and_eq_true
abbrev df0:=@decide_eq_false
abbrev dt0:=@decide_eq_true
abbrev od0:=@of_decide_eq_true
abbrev gm0:=@List.getElem?_map
abbrev lk0:=@List.lookup_cons
abbrev mo0:=@Option.map_some
abbrev mk0:=@List.map_cons
abbrev li0:=@Nat.lt_irrefl
abbrev al0:=@Array.length_toList
abbrev la0:=@List.length_append
abbrev mr0:=@List.mem_append_right
abbrev gs0:=@List.getElem?_set_self
abbrev mg0:=@List.mem_of_getElem?
abbrev gl0:=@List.getElem?_append_left
abbrev el0:=@Int.emod_lt_of_pos
abbrev en0:=@Int.emod_nonneg
abbrev lr0:=@List.length_range
namespace L2
open PySem PySem.Spec PyProof.Rows
noncomputable abbrev Key:=Sum Int Str
def gT:Key->Value->Bool
 |.inl k,v=>Value.isInt k v
 |.inr x,v=>Value.isStrOf x v
def JS(w:World):Key->Int
 |.inl k=>hashInt k
 |.inr x=>hashStr w x
def keyIs_shape:∀{k:Key}{v:Value},gT k v=true->(∃i t,k=Sum.inl i/\v=Value.int i t)\/(∃x t,k=Sum.inr x/\v=Value.str x t)
 |.inl i,v,h=>by
  obtain⟨t,e⟩:=Value.isInt_shape (k:=i) (v:=v) h;exact .inl ⟨i,t,rfl,e⟩
 |.inr x,v,h=>by
  obtain⟨t,e⟩:=Value.isStrOf_shape (x:=x) (v:=v) h;exact .inr ⟨x,t,rfl,e⟩
def sq(i:Int)(t:Tok):gT (.inl i) (.int i t)=true:=by simp[gT,Value.isInt]
def su(x:Str)(t:Tok):gT (.inr x) (.str x t)=true:=by simp[gT,Value.isStrOf]
def CB(a b:Int):decide ((Sum.inl a:Key)=Sum.inl b)=(a==b):=by
 by_cases e:a=b
 .subst e;simp
 .have h:¬ (Sum.inl a:Key)=Sum.inl b:=λq=>e (Sum.inl.inj q)
  rw[df0 h];exact (bn0 e).symm
def CC(a b:Str):decide ((Sum.inr a:Key)=Sum.inr b)=decide (a=b):=by
 by_cases e:a=b
 .subst e;simp
 .have h:¬ (Sum.inr a:Key)=Sum.inr b:=λq=>e (Sum.inr.inj q)
  rw[df0 h,df0 e]
def CD(a:Int)(b:Str):decide ((Sum.inl a:Key)=Sum.inr b)=false:=df0 (λq=>nomatch q)
def CF(a:Str)(b:Int):decide ((Sum.inr a:Key)=Sum.inl b)=false:=df0 (λq=>nomatch q)
noncomputable def av(prog:Program)(w:World):PySem.KeyKind prog w Key where
 is:=gT
 hash:=JS w
 inj:=λv a b ha hb=>by
  rcases keyIs_shape ha with⟨i,t,rfl,rfl⟩|⟨x,t,rfl,rfl⟩
  .rcases keyIs_shape hb with⟨j,u,rfl,e⟩|⟨y,u,rfl,e⟩
   .injection e with e1 _;rw[e1]
   .exact nomatch e
  .rcases keyIs_shape hb with⟨j,u,rfl,e⟩|⟨y,u,rfl,e⟩
   .exact nomatch e
   .injection e with e1 _;rw[e1]
 byValue:=λk v h=>by
  rcases keyIs_shape h with⟨i,t,rfl,rfl⟩|⟨x,t,rfl,rfl⟩<;>rfl
 pyHash:=λhv h=>by
  rcases keyIs_shape hv with⟨i,t,rfl,rfl⟩|⟨x,t,rfl,rfl⟩
  .exact wpAny_pyHash_int h
  .exact wpAny_pyHash_str h
 eqBool:=λhu hv h=>by
  rcases keyIs_shape hu with⟨i,t,rfl,rfl⟩|⟨x,t,rfl,rfl⟩
  .rcases keyIs_shape hv with⟨j,u,rfl,rfl⟩|⟨y,u,rfl,rfl⟩
   .rw[CB]at h;exact wpAny_eqBool_int h
   .rw[CD]at h;exact SeqAt.EqAt.int_str i t y u _ _ _ _ h
  .rcases keyIs_shape hv with⟨j,u,rfl,rfl⟩|⟨y,u,rfl,rfl⟩
   .rw[CF]at h;exact SeqAt.EqAt.str_int x t j u _ _ _ _ h
   .rw[CC]at h;exact wpAny_eqBool_str h
 «strs»:=λk x t v h=>by
  rcases keyIs_shape h with⟨i,u,rfl,e⟩|⟨y,u,rfl,e⟩
  .exact nomatch e
  .injection e with e1 _
   subst e1;cases v<;>rfl
def mj(prog:Program)(w:World)(i:Int)(t:Tok):(av prog w).is (.inl i) (.int i t)=true:=sq i t
def mq(prog:Program)(w:World)(x:Str)(t:Tok):(av prog w).is (.inr x) (.str x t)=true:=su x t
inductive V where
 |non|bl (b:Bool)|int (i:Int)|str (x:Str)|byt (b:Array UInt8)|flt (b:UInt64)|ref (a:Addr)|ty (n:String)
 deriving DecidableEq
noncomputable def RelV:V->Value->Prop
 |.non,u=>u=Value.none
 |.bl b,u=>u=Value.bool b
 |.int i,u=>∃t,u=Value.int i t
 |.str x,u=>∃t,u=Value.str x t
 |.byt b,u=>∃t,u=Value.bytes b t
 |.flt b,u=>∃t,u=Value.float b t
 |.ref a,u=>u=Value.ref a
 |.ty n,u=>u=Value.type n
noncomputable abbrev Vals:List V->List Value->Prop:=Paired RelV
theorem Vals.length{xs:List V}{us:List Value}(r:Vals xs us):xs.length=us.length:=Paired.length r
theorem Vals.get:∀{xs:List V}{us:List Value}{i:Nat}{x:V},Vals xs us->xs[i]?=some x->∃u,us[i]?=some u/\RelV x u
 |_,_,_,_,.nil,e=>by simp at e
 |_,_,0,_,.cons r _,e=>by simp at e;subst e;exact⟨_,rfl,r⟩
 |_,_,i+1,x,.cons _ t,e=>by
  obtain⟨u,h1,h2⟩:=Vals.get (i:=i) (x:=x) t (by simpa using e);exact⟨u,by simpa using h1,h2⟩
theorem Vals.set{x:V}{u:Value}(r:RelV x u):∀{xs:List V}{us:List Value}(i:Nat),Vals xs us->Vals (xs.set i x) (us.set i u)
 |_,_,_,.nil=>.nil
 |_,_,0,.cons _ t=>.cons r t
 |_,_,i+1,.cons q t=>.cons q (Vals.set r i t)
theorem Vals.append:∀{xs ys:List V}{us ws:List Value},Vals xs us->Vals ys ws->Vals (xs++ys) (us++ws)
 |_,_,_,_,.nil,s=>s
 |_,_,_,_,.cons r t,s=>.cons r (Vals.append t s)
theorem Vals.take:∀{xs:List V}{us:List Value}(n:Nat),Vals xs us->Vals (xs.take n) (us.take n)
 |_,_,0,_=>.nil
 |_,_,_+1,.nil=>.nil
 |_,_,n+1,.cons r t=>.cons r (Vals.take n t)
theorem Vals.drop:∀{xs:List V}{us:List Value}(n:Nat),Vals xs us->Vals (xs.drop n) (us.drop n)
 |_,_,0,r=>r
 |_,_,_+1,.nil=>.nil
 |_,_,n+1,.cons _ t=>Vals.drop n t
def Vals.none_of:∀{xs:List V}{us:List Value}{i:Nat},Vals xs us->xs[i]?=none->us[i]?=none:=λ{xs us i} r e=>by
 have h1:=r.length;have h2:xs.length<=i:=List.getElem?_eq_none_iff.mp e;exact List.getElem?_eq_none_iff.mpr (by omega)
noncomputable def RelO:Option V->Option Value->Prop
 |some v,some u=>RelV v u
 |none,none=>True
 |_,_=>False
noncomputable def KV{J:Type}:List (J×V)->List (J×Value)->Prop:=Paired λ(p:J×V) (q:J×Value)=>p.1=q.1/\RelV p.2 q.2
def kV:Key->V
 |.inl i=>.int i
 |.inr x=>.str x
inductive HO where
 |lst (xs:List V)
 |tup (xs:List V)
 |dK (kvs:List (Key×V))|dT (kvs:List (List Key×V))
 |set (S:Int->Bool) (n:Nat)
 |ins (C dx:Addr) (fs:List (Str×V))
 |own (x:Addr)
 |xd (fs:List (Str×V))
 |met (f x:Addr)
 |rng (lo hi:Int)
 |frz (o:Obj) (u:HO)
 |tbl (ps:Array Value)
 |ext (J:Heap->Prop)
noncomputable abbrev Hp:=Addr->Option HO
def upd(H:Hp)(a:Addr)(o:HO):Hp:=λb=>if b=a then some o else H b
def ae{H:Hp}{a:Addr}{o:HO}:upd H a o a=some o:=by unfold upd;rw[if_pos rfl]
def aa{H:Hp}{a b:Addr}{o:HO}(h:b≠a):upd H a o b=H b:=by unfold upd;rw[if_neg h]
def GD{H:Hp}{a b:Addr}{o u:HO}(h:H a=some o)(h':H b=some u)(d:o≠u):a≠b:=by
 intro e;subst e;rw[h]at h';exact d (Option.some.inj h')
def ai{H:Hp}{a b:Addr}{o:HO}(h:H a=some o)(h':H b=none):a≠b:=by
 intro e;subst e;rw[h]at h';cases h'
section
variable (P:Program)(w:World)
noncomputable def ObjOk(H:Hp)(h:Heap)(a:Addr):HO->Prop
 |.lst xs=>xs.length<=sizeLine/\∃(its:List Value)(n:Nat),Vals xs its/\h.get? a=some {cls:=.type "list",data:=.seq its.toArray n}
 |.tup xs=>xs.length<=sizeLine/\∃its:List Value,Vals xs its/\IsTup h a its.toArray
 |.dK kvs=>kvs.length<=sizeLine/\(a==sysModules)=false/\∃vs,KV kvs vs/\h.DictOf (av P w) a vs
 |.dT kvs=>kvs.length<=sizeLine/\(a==sysModules)=false/\∃xs:List (List Key×Addr×Value),
   Paired (λ(p:List Key×V) (q:List Key×Addr×Value)=>p.1=q.1/\H q.2.1=some (.tup (p.1.map kV))/\RelV p.2 q.2.2) kvs xs/\
   ∃o es ep,h.get? a=some o/\o.ExactDict/\o.data=.dict es ep/\es.toList=xs.map (entryOfKey (tupleKind (av P w)))/\(xs.map (·.1)).Nodup
 |.set S n=>h.SetOf (intKind P w) a S n
 |.ins C dx fs=>H dx=some (.own a)/\fs.length<=1000/\dx≠a/\h.get? a=some (PySem.W.instObj C dx)/\
   ∃mA,h.Ns1 dx mA/\(∀f,RelO (fs.lookup f) (mA f))/\PySem.Within mA (fs.map (·.1))
 |.own _=>∃o,h.get? a=some o
 |.xd fs=>∃mA,h.Ns1 a mA/\∀f,RelO (fs.lookup f) (mA f)
 |.rng lo hi=>∃t u v,h.get? a=some {cls:=.type "range",data:=.fields #[.int lo t,.int hi u,.int 1 v]}
 |.frz o u=>h.get? a=some o/\ObjOk H h a u
 |.tbl ps=>h.get? a=some {cls:=.none,data:=.fields ps}
 |.met f x=>h.get? a=some (PySem.W.methodObj (.ref f) (.ref x))
 |.ext J=>J h/\(∃o,h.get? a=some o)/\∀h1 h2:Heap,J h1->(∀o,h1.get? a=some o->h2.get? a=some o)->J h2
def HOk(H:Hp)(h:Heap):Prop:=∀a o,H a=some o->ObjOk P w H h a o
end
section
variable {P:Program}{w:World}{H H':Hp}{h h':Heap}{a:Addr}{o:HO}
theorem ObjOk.lt(x:ObjOk P w H h a o):a<h.objs.size:=by
 cases o with
 |lst xs=>obtain⟨_,_,_,_,e⟩:=x;exact hs0 e
 |tup xs=>obtain⟨_,_,_,p⟩:=x;exact p.lt
 |dK kvs=>obtain⟨_,_,_,_,o,_,_,e,_⟩:=x;exact hs0 e
 |dT kvs=>obtain⟨_,_,_,_,o,_,_,e,_⟩:=x;exact hs0 e
 |set S n=>obtain⟨o,_,_,_,e,_⟩:=x;exact hs0 e
 |ins C dx fs=>obtain⟨_,_,_,e,_⟩:=x;exact hs0 e
 |own y=>obtain⟨_,e⟩:=x;exact hs0 e
 |xd fs=>obtain⟨_,⟨_,_,_,e,_⟩,_⟩:=x;exact hs0 e
 |rng lo hi=>obtain⟨_,_,_,e⟩:=x;exact hs0 e
 |frz ob u=>obtain⟨e,_⟩:=x;exact hs0 e
 |tbl ps=>exact hs0 (show h.get? a=some _ from x)
 |met f y=>exact hs0 (show h.get? a=some _ from x)
 |ext J=>obtain⟨_,⟨_,e⟩,_⟩:=x;exact hs0 e
theorem Paired.mapP{α β:Type}{F G:α->β->Prop}:∀{l₁:List α}{l₂:List β},Paired F l₁ l₂->(∀a b,F a b->G a b)->Paired G l₁ l₂
 |_,_,.nil,_=>.nil
 |_,_,.cons r t,f=>.cons (f _ _ r) (Paired.mapP t f)
def ObjOk.stay(x:ObjOk P w H h a o)(k:∀b u,(b=a\/H b=some (.own a))->h.get? b=some u->h'.get? b=some u)
  (ho:∀b,H b=some (.own a)->H' b=some (.own a)) (ht:∀b xs,H b=some (.tup xs)->H' b=some (.tup xs)):ObjOk P w H' h' a o:=by
 induction o with
 |lst xs=>obtain⟨z,its,n,r,e⟩:=x;exact⟨z,its,n,r,k _ _ (.inl rfl) e⟩
 |tup xs=>obtain⟨z,its,r,ob,e,c⟩:=x;exact⟨z,its,r,ob,k _ _ (.inl rfl) e,c⟩
 |dK kvs=>obtain⟨z,y,vs,r,ob,es,ep,e,c⟩:=x;exact⟨z,y,vs,r,ob,es,ep,k _ _ (.inl rfl) e,c⟩
 |dT kvs=>
  obtain⟨z,y,xs,r,ob,es,ep,e,c⟩:=x;exact⟨z,y,xs,Paired.mapP r λp q z=>⟨z.1,ht _ _ z.2.1,z.2.2⟩,ob,es,ep,k _ _ (.inl rfl) e,c⟩
 |set S n=>obtain⟨ob,es,ep,t,e,c⟩:=x;exact⟨ob,es,ep,t,k _ _ (.inl rfl) e,c⟩
 |ins C dx fs=>
  obtain⟨d,z,ne,e,mA,⟨od,es,ep,e2,c⟩,r⟩:=x;exact⟨ho _ d,z,ne,k _ _ (.inl rfl) e,mA,⟨od,es,ep,k _ _ (.inr d) e2,c⟩,r⟩
 |own y=>obtain⟨ob,e⟩:=x;exact⟨ob,k _ _ (.inl rfl) e⟩
 |xd fs=>obtain⟨mA,⟨od,es,ep,e,c⟩,r⟩:=x;exact⟨mA,⟨od,es,ep,k _ _ (.inl rfl) e,c⟩,r⟩
 |rng lo hi=>obtain⟨t,u,v,e⟩:=x;exact⟨t,u,v,k _ _ (.inl rfl) e⟩
 |frz ob u ih=>obtain⟨e,q⟩:=x;exact⟨k _ _ (.inl rfl) e,ih q⟩
 |tbl ps=>
  have e:h.get? a=some {cls:=.none,data:=.fields ps}:=x;show h'.get? a=some {cls:=.none,data:=.fields ps};exact k a _ (.inl rfl) e
 |met f y=>
  have e:h.get? a=some (PySem.W.methodObj (.ref f) (.ref y)):=x;show h'.get? a=some (PySem.W.methodObj (.ref f) (.ref y));exact k a _ (.inl rfl) e
 |ext J=>obtain⟨p,⟨o,e⟩,st⟩:=x;exact⟨st _ _ p λo q=>k _ _ (.inl rfl) q,⟨o,k _ _ (.inl rfl) e⟩,st⟩
theorem HOk.lt(x:HOk P w H h)(e:H a=some o):a<h.objs.size:=(x a o e).lt
def HOk.fresh(x:HOk P w H h)(e:h.objs.size<=a):H a=none:=by
 cases q:H a with
 |none=>rfl
 |some u=>exact absurd (nl0 (x.lt q) e) (li0 _)
def HOk.kept(x:HOk P w H h)(k:∀b u,h.get? b=some u->h'.get? b=some u):HOk P w H h':=λa o e=>
 (x a o e).stay (λb u c q=>k b u q) (λc q=>q) λc c q=>q
def HOk.laid(x:HOk P w H h)(k:∀b u,h.get? b=some u->h'.get? b=some u)(hp:h.objs.size<=a)(new:ObjOk P w (upd H a o) h' a o):HOk P w (upd H a o) h':=λb u e=>by
 have hn:=x.fresh hp
 by_cases hb:b=a
 .subst hb;rw[ae]at e;cases e;exact new
 .rw[aa hb]at e
  exact (x b u e).stay (λc v d q=>k c v q) (λc q=>by rw[aa (ai q hn)];exact q) λc xs q=>by rw[aa (ai q hn)];exact q
end
def Rd(H:Hp)(a:Addr)(u:HO):Prop:=H a=some u\/∃o,H a=some (.frz o u)
def Rd.ok{P:Program}{w:World}{H:Hp}{h:Heap}{a:Addr}{u:HO}(r:Rd H a u)(x:HOk P w H h):ObjOk P w H h a u:=by
 rcases r with r|⟨o,r⟩
 .exact x a u r
 .obtain⟨_,q⟩:=x a _ r
  exact q
noncomputable def Mut:Option HO->Prop
 |some (.lst _)=>True
 |some (.dK _)=>True
 |some (.dT _)=>True
 |some (.set _ _)=>True
 |some (.ins _ _ _)=>True
 |some (.ext _)=>True
 |_=>False
section
variable {P:Program}{w:World}{H:Hp}{h h':Heap}{x e:Addr}{o':HO}
def HOk.write(ok:HOk P w H h)(mu:Mut (H x))(he:e=x\/H e=some (.own x))(k:∀b u,b≠e->h.get? b=some u->h'.get? b=some u)(heo:∃u,h'.get? e=some u)
  (new:ObjOk P w (upd H x o') h' x o'):HOk P w (upd H x o') h':=λb u q=>by
 have nown:∀c y,H c=some (.own y)->c≠x:=λc y r z=>by subst z;rw[r]at mu;exact mu
 have ntup:∀c xs,H c=some (.tup xs)->c≠x:=λc xs r z=>by subst z;rw[r]at mu;exact mu
 by_cases hb:b=x
 .subst hb;rw[ae]at q;cases q;exact new
 .rw[aa hb]at q
  by_cases hbe:b=e
  .have q':H b=some (.own x):=by
    rcases he with z|z
    .exact absurd (hbe.trans z) hb
    .rw[hbe];exact z
   rw[q]at q';cases q';obtain⟨v,hv⟩:=heo;exact⟨v,by rw[hbe];exact hv⟩
  .refine (ok b u q).stay (λc v hc r=>k c v ?_ r) (λc r=>by rw[aa (nown c b r)];exact r) λc xs r=>by rw[aa (ntup c xs r)];exact r
   rcases hc with rfl|hc
   .exact hbe
   .rintro rfl
    rcases he with z|z
    .exact nown c b hc z
    .rw[hc]at z;cases z;exact hb rfl
end
structure Un(fs ex:List Addr)(H H':Hp)(h h':Heap):Prop where
 keep:∀b o,h.get? b=some o->H b=none->b∉fs->b∉ex->h'.get? b=some o
 slot:∀b o,h.get? b=some o->H b=none->b∈fs->b∉ex->∃sl,h'.get? b=some {o with slots:=sl}
 free:∀b o,h.get? b=some o->H b=none->b∉ex->H' b=none
 there:∀b o,h.get? b=some o->b∉ex->∃o',h'.get? b=some o'
 tups:∀b xs,H b=some (.tup xs)->H' b=some (.tup xs)
 frzs:∀b o u,H b=some (.frz o u)->H' b=some (.frz o u)
 tbls:∀b ps,H b=some (.tbl ps)->∃more,H' b=some (.tbl (ps++more))
section
variable {fs fs' ex ex':List Addr}{H H1 H2:Hp}{h h1 h2 h':Heap}{a x e:Addr}{o:HO}
def Un.any(u:Un fs ex H H1 h h1){b:Addr}{ob:Obj}(q:h.get? b=some ob)(n:H b=none)(hx:b∉ex):∃sl,h1.get? b=some {ob with slots:=sl}:=by
 by_cases hb:b∈fs
 .exact u.slot b ob q n hb hx
 .exact⟨ob.slots,u.keep b ob q n hb hx⟩
def Un.kept(k:∀b u,h.get? b=some u->h'.get? b=some u):Un fs ex H H h h':=
 ⟨λb ob q a a a=>k b ob q,λb ob q a a a=>⟨ob.slots,k b ob q⟩,λa a a n a=>n,λb ob q a=>⟨ob,k b ob q⟩,λa a q=>q,λa a a q=>q,λa ps q=>⟨#[],by rw[q];simp⟩⟩
def Un.refl:Un fs ex H H h h:=Un.kept λa a q=>q
def Un.laid(k:∀b u,h.get? b=some u->h'.get? b=some u)(hp:h.objs.size<=a)(hn:H a=none):Un fs ex H (upd H a o) h h' where
 keep:=λb u q c c c=>k b u q
 slot:=λb u q c c c=>⟨u.slots,k b u q⟩
 free:=λb u q n c=>by rw[aa (nn0 (nl0 (hs0 q) hp))];exact n
 there:=λb u q c=>⟨u,k b u q⟩
 tups:=λb xs q=>by rw[aa (ai q hn)];exact q
 frzs:=λb u xs q=>by rw[aa (ai q hn)];exact q
 tbls:=λb ps q=>⟨#[],by rw[aa (ai q hn),q];simp⟩
def Un.write(mu:Mut (H x))(he:e=x\/H e=some (.own x))(k:∀b u,b≠e->h.get? b=some u->h'.get? b=some u)(heo:∃u,h'.get? e=some u):Un fs ex H (upd H x o) h h':=by
 have hx:∀b,H b=none->b≠x:=λb n z=>by subst z;rw[n]at mu;exact mu
 have hb:∀b,H b=none->b≠e:=λb n z=>by
  subst z;rcases he with r|r
  .exact hx b n r
  .rw[n]at r;cases r
 have hm:∀b u,H b=some u->¬ Mut (some u)->b≠x:=λb u q nm z=>by subst z;rw[q]at mu;exact nm mu
 refine⟨λb u q n a a=>k b u (hb b n) q,λb u q n a a=>⟨u.slots,k b u (hb b n) q⟩,λb u q n a=>by rw[aa (hx b n)];exact n,λb u q a=>?_,
  λb xs q=>by rw[aa (hm b _ q λz=>z)];exact q,λb u xs q=>by rw[aa (hm b _ q λz=>z)];exact q,λb ps q=>⟨#[],by rw[aa (hm b _ q λz=>z),q];simp⟩⟩
 by_cases hbe:b=e
 .subst hbe;exact heo
 .exact⟨u,k b u hbe q⟩
end
def trk(h:Heap)(H:Hp):List Addr:=(List.range h.objs.size).filter λa=>(H a).isSome
def kY(h:Heap)(H:Hp):Heap:=PySem.W.hideAll h (trk h H)
def sv(h:Heap)(H:Hp):(kY h H).objs.size=h.objs.size:=PySem.W.hideAll_size _ _
def uC{h:Heap}{H:Hp}{b:Addr}{o:Obj}(e:h.get? b=some o)(n:H b=none):(kY h H).get? b=some o:=
 PySem.W.hideAll_get _ e λhm=>by
  have q:(H b).isSome=true:=(List.mem_filter.mp hm).2;rw[n]at q;simp at q
def zc{h:Heap}{H:Hp}{b:Addr}{o:Obj}(e:(kY h H).get? b=some o):h.get? b=some o/\H b=none:=by
 have e':h.get? b=some o:=PySem.W.of_hideAll (trk h H) e;refine⟨e',?_⟩;cases q:H b with
 |none=>rfl
 |some x=>
  have hm:b∈trk h H:=List.mem_filter.mpr ⟨List.mem_range.mpr (hs0 e'),by simp[q]⟩;have z:(kY h H).get? b=none:=PySem.W.hideAll_none (trk h H) hm;rw[z]at e;cases e
noncomputable def zd(g h:Heap)(L:Addr):List (Addr×Obj):=(List.range h.objs.size).filterMap λa=>if a=L\/(g.get? a).isSome=true then none else (h.get? a).map λo=>(a,o)
def rest(g h:Heap)(L d:Addr):List (Addr×Obj):=(zd g h L).filter λp=>decide (p.1≠d)
structure Mod(K:fg0)(mg:Str->Option Value)(base:Heap):Prop where
 kin:K.In base
 glob:base.Ns mainGlobals mg
 blt:∃mb,base.Ns builtinsNs mb/\∀x:Str,x≠"__name__"->mb x=bootBuiltins x
 nolimit:base.NoLimit
structure Cx where
 prog:Program
 w:World
 K:fg0
 mg:Str->Option Value
 base:Heap
 A:Around
 N:List Str
 s₀:Shared
 H₀:Hp
 env:Env
 outer:List Env
 stack:List Env
 ex:List Addr
 fn:Str->Bool
 calm:Bool
 pn:List (Addr×Obj)
 xe:Value->Shared->Prop
def frs(l:List Env):List Addr:=l.filterMap (·.frame)
noncomputable abbrev Cx.fs(X:Cx):List Addr:=frs X.outer
def Vis(sc:Scope)(x:Str):Prop:=sc.names.lookup x=some .local\/sc.names.lookup x=some .cell\/sc.names.lookup x=some .free
def Loc(sc:Scope)(x:Str):Prop:=sc.names.lookup x=some .local\/sc.names.lookup x=some .cell
def Look(env:Env)(h:Heap)(m:Str->Option Value)(x:Str)(u:Value):Prop:=
 (env.kindOf x=some .local/\m x=some u)\/((env.kindOf x=some .cell\/env.kindOf x=some .free)/\∃c,env.cells.lookup x=some c/\h.IsCell c (some u))
structure Cx.Ok(X:Cx):Prop where
 mod:Mod X.K X.mg X.base
 kind:X.env.scope.kind=.function
 glob:X.env.globals=mainGlobals
 blt:X.env.builtins=builtinsNs
 above:X.s₀.heap.objs.size<=X.env.locals
 inj:∀x y c,X.env.cells.lookup x=some c->X.env.cells.lookup y=some c->x=y
 has:∀x,(X.env.kindOf x=some .cell\/X.env.kindOf x=some .free)->∃c,X.env.cells.lookup x=some c
 cab:∀x c,X.fn x=true->X.env.cells.lookup x=some c->X.s₀.heap.objs.size<=c
 hd:X.calm=true->X.A.handled=none
 frames:X.A.frames=some X.stack
 stk:X.stack=X.outer\/(X.stack=X.env::X.outer/\X.env.frame=some X.env.locals)
 exf:∀b∈X.ex,b≠X.env.locals/\∀x c,X.env.cells.lookup x=some c->c≠b
 bs:∀b o,X.base.get? b=some o->X.s₀.heap.get? b=some o/\X.H₀ b=none
 bsz:X.base.objs.size<=X.s₀.heap.objs.size
 noex:∀b o,X.base.get? b=some o->b∉X.ex
 exfs:∀b∈X.ex,b∉X.fs
 funs:X.s₀.heap.FunFrames X.base X.outer
 frf:∀b∈X.fs,X.H₀ b=none
structure Inv(X:Cx)(pins:List (Addr×Obj))(σ:List (Option V))(H:Hp)(s:Shared):Prop where
 ok:X.Ok
 os:s.os=X.s₀.os
 bare:AllBare s.gens
 base:Un X.fs X.ex X.H₀ H X.s₀.heap s.heap
 loc:∃m,s.heap.Ns X.env.locals m/\∀(i:Nat)(x:Str)(v:V),X.N[i]?=some x->σ[i]?=some (some v)->Vis X.env.scope x->∃u,RelV v u/\Look X.env s.heap m x u
 cell:∀x c,X.env.cells.lookup x=some c->∃v,s.heap.IsCell c v
 free:H X.env.locals=none
 freeC:∀x c,X.env.cells.lookup x=some c->H c=none
 pin:∀p∈X.pn++pins,s.heap.get? p.1=some p.2/\H p.1=none/\p.1≠X.env.locals/\p.1∉X.fs/\∀v,p.2.data≠.cell v
 hok:HOk X.prog X.w H s.heap
 len:σ.length=X.N.length
section
variable {X:Cx}{pins:List (Addr×Obj)}{σ:List (Option V)}{H H':Hp}{s:Shared}{h':Heap}
def Cx.Ok.nofr(ok:X.Ok){b:Addr}{o:Obj}(e:X.base.get? b=some o):b∉X.fs:=λhb=>by
 have:=(ok.funs.mem hb).1;rw[e]at this;cases this
theorem Inv.bs(I:Inv X pins σ H s):∀b o,X.base.get? b=some o->s.heap.get? b=some o/\H b=none:=λb o e=>
 ⟨I.base.keep b o (I.ok.bs b o e).1 (I.ok.bs b o e).2 (I.ok.nofr e) (I.ok.noex b o e),I.base.free b o (I.ok.bs b o e).1 (I.ok.bs b o e).2 (I.ok.noex b o e)⟩
def Inv.bk(I:Inv X pins σ H s):∀b o,X.base.get? b=some o->s.heap.get? b=some o:=λb o e=>(I.bs b o e).1
theorem Inv.mod(I:Inv X pins σ H s):Mod X.K X.mg X.base:=I.ok.mod
def Inv.kIn(I:Inv X pins σ H s):X.K.In s.heap:=I.ok.mod.kin.keeps I.bk
theorem Inv.lt(I:Inv X pins σ H s):X.env.locals<s.heap.objs.size:=let ⟨_,hn,_⟩:=I.loc;hn.lt
def Inv.sz(I:Inv X pins σ H s):X.s₀.heap.objs.size<=s.heap.objs.size:=nt0 I.ok.above (Nat.le_of_lt I.lt)
def Inv.nofs(I:Inv X pins σ H s){a:Addr}(h:s.heap.objs.size<=a):a∉X.fs:=λhb=>by
 obtain⟨_,o,ho,_⟩:=I.ok.funs.mem hb;exact absurd (nl0 (hs0 ho) (nt0 I.sz h)) (li0 _)
def Inv.cne(I:Inv X pins σ H s):∀x c,X.env.cells.lookup x=some c->c≠X.env.locals:=λx c e z=>by
 obtain⟨v,o,ho,hd⟩:=I.cell x c e;obtain⟨m,⟨o',es,ep,ho',hd',_⟩,_⟩:=I.loc;rw[z,ho']at ho;cases ho;rw[hd']at hd;cases hd
theorem Inv.funs(I:Inv X pins σ H s):s.heap.FunFrames X.base X.outer:=by
 have all:∀(l:List Env),(∀b∈frs l,b∈X.fs)->X.s₀.heap.FunFrames X.base l->s.heap.FunFrames X.base l:=by
  intro l
  induction l with
  |nil=>intro _ _;trivial
  |cons env r ih=>
   intro hs hl;obtain⟨hk,⟨L,o,hf,hn,ho,hd⟩,hr⟩:=hl;have hL:L∈X.fs:=hs L (by unfold frs;rw[List.filterMap_cons,hf];exact ms0);obtain⟨sl,e⟩:=I.base.slot L o ho (I.ok.frf L hL) hL λz=>I.ok.exfs L z hL
   exact⟨hk,⟨L,_,hf,hn,e,hd⟩,ih (λb hb=>hs b (by unfold frs;rw[List.filterMap_cons,hf];exact mc0 _ hb)) hr⟩
 exact all X.outer (λa hb=>hb) I.ok.funs
theorem Inv.stack(I:Inv X pins σ H s):s.heap.FunFrames X.base X.stack:=by
 rcases I.ok.stk with e|⟨e,hf⟩
 .rw[e];exact I.funs
 .rw[e]
  obtain⟨m,hn,_⟩:=I.loc;refine .cons (by rw[I.ok.kind];decide) hf hn ?_ I.funs;exact Heap.get?_none_of_le (nt0 I.ok.bsz I.ok.above)
def Inv.stkSub(I:Inv X pins σ H s):∀b∈frs X.stack,b∈X.env.locals::X.fs:=λb hb=>by
 rcases I.ok.stk with e|⟨e,hf⟩
 .rw[e]at hb;exact mc0 _ hb
 .rw[e]at hb
  unfold frs at hb;rw[List.filterMap_cons,hf]at hb;exact hb
def Inv.stkFree(I:Inv X pins σ H s):∀b∈frs X.stack,H b=none:=λb hb=>by
 rcases mq0 (I.stkSub b hb)with e|hb
 .rw[e];exact I.free
 .obtain⟨_,o,ho,_⟩:=I.ok.funs.mem hb
  exact I.base.free b o ho (I.ok.frf b hb) λz=>I.ok.exfs b z hb
def Inv.step{g':Array GenState}{t':Nat}{d':Drawn}{ch:List Addr}(I:Inv X pins σ H s)
  (hch:∀b∈ch,(b∈X.ex\/X.s₀.heap.objs.size<=b)/\b≠X.env.locals/\(∀x c,X.env.cells.lookup x=some c->c≠b)/\∀p∈X.pn++pins,p.1≠b)
  (keep:∀b o,b≠X.env.locals->b∉X.fs->b∉ch->s.heap.get? b=some o->H b=none->h'.get? b=some o)
  (slot:∀b o,b≠X.env.locals->b∈X.fs->b∉ch->s.heap.get? b=some o->H b=none->∃sl,h'.get? b=some {o with slots:=sl}) (free:∀b o,b∉ch->s.heap.get? b=some o->H b=none->H' b=none)
  (there:∀b o,b∉ch->s.heap.get? b=some o->∃o',h'.get? b=some o')
  (tups:∀b xs,H b=some (.tup xs)->H' b=some (.tup xs)) (frzs:∀b o u,H b=some (.frz o u)->H' b=some (.frz o u)) (tbls:∀b ps,H b=some (.tbl ps)->∃more,H' b=some (.tbl (ps++more)))
  (ns:∀m,s.heap.Ns X.env.locals m->h'.Ns X.env.locals m) (hok:HOk X.prog X.w H' h') (hg:AllBare g'):
  Inv X pins σ H' {s with heap:=h',gens:=g',drawn:=d',toks:=t'}:=by
 have neL:∀b o,X.s₀.heap.get? b=some o->b≠X.env.locals:=λb o e=>nn0 (nl0 (hs0 e) I.ok.above)
 have neC:∀b o,X.s₀.heap.get? b=some o->b∉X.ex->b∉ch:=λb o e hx hb=>by
  rcases (hch b hb).1 with z|z
  .exact hx z
  .exact absurd (nl0 (hs0 e) z) (li0 _)
 have cellK:∀x c,X.env.cells.lookup x=some c->∀v,s.heap.IsCell c v->h'.IsCell c v:=λx c e v ⟨o,ho,hd⟩=>by
  have nch:c∉ch:=λz=>(hch c z).2.2.1 x c e rfl
  by_cases hc:c∈X.fs
  .obtain⟨sl,q⟩:=slot c o (I.cne x c e) hc nch ho (I.freeC x c e)
   exact⟨_,q,hd⟩
  .exact⟨o,keep c o (I.cne x c e) hc nch ho (I.freeC x c e),hd⟩
 refine⟨I.ok,I.os,hg,⟨λb o e n hb hx=>?_,λb o e n hb hx=>?_,λb o e n hx=>?_,λb o e hx=>?_,λb xs e=>tups b xs (I.base.tups b xs e),λb o xs e=>frzs b o xs (I.base.frzs b o xs e),λb ps e=>?_⟩,?_,λx c e=>?_,?_,λx c e=>?_,λp hp=>?_,hok,I.len⟩
 .exact keep b o (neL b o e) hb (neC b o e hx) (I.base.keep b o e n hb hx) (I.base.free b o e n hx)
 .obtain⟨sl,e1⟩:=I.base.slot b o e n hb hx
  obtain⟨sl',e2⟩:=slot b _ (neL b o e) hb (neC b o e hx) e1 (I.base.free b o e n hx);exact⟨sl',e2⟩
 .obtain⟨o',e1⟩:=I.base.there b o e hx
  exact free b o' (neC b o e hx) e1 (I.base.free b o e n hx)
 .obtain⟨o',e1⟩:=I.base.there b o e hx
  exact there b o' (neC b o e hx) e1
 .obtain⟨m1,e1⟩:=I.base.tbls b ps e
  obtain⟨m2,e2⟩:=tbls b _ e1;exact⟨m1++m2,by rw[e2,Array.append_assoc]⟩
 .obtain⟨m,hn,hl⟩:=I.loc
  refine⟨m,ns m hn,λi x v e1 e2 e3=>?_⟩;obtain⟨u,r,l⟩:=hl i x v e1 e2 e3;refine⟨u,r,?_⟩;rcases l with l|⟨k,c,e,z⟩
  .exact .inl l
  .exact .inr ⟨k,c,e,cellK x c e _ z⟩
 .obtain⟨v,z⟩:=I.cell x c e
  exact⟨v,cellK x c e v z⟩
 .obtain⟨m,⟨o,_,_,ho,_⟩,_⟩:=I.loc
  exact free _ o (λz=>(hch _ z).2.1 rfl) ho I.free
 .obtain⟨v,o,ho,hd⟩:=I.cell x c e
  exact free c o (λz=>(hch c z).2.2.1 x c e rfl) ho (I.freeC x c e)
 .obtain⟨e,n,ne,nf,d⟩:=I.pin p hp
  have nch:p.1∉ch:=λz=>(hch p.1 z).2.2.2 p hp rfl
  exact⟨keep p.1 p.2 ne nf nch e n,free p.1 p.2 nch e n,ne,nf,d⟩
def Inv.un{t':Nat}(I:Inv X pins σ H s)(u:Un X.fs [] H H' s.heap h')(hok:HOk X.prog X.w H' h'):Inv X pins σ H' {s with heap:=h',toks:=t'}:=by
 obtain⟨m,⟨o,es,ep,ho,r⟩,_⟩:=id I.loc;obtain⟨sl,hL⟩:=u.any ho I.free (by simp);exact I.step (g':=s.gens) (d':=s.drawn) (ch:=[]) (λa z=>nomatch z) (λb o a hb a e n=>u.keep b o e n hb (by simp)) (λb o a hb a e n=>u.slot b o e n hb (by simp)) (λb o a e n=>u.free b o e n (by simp)) (λb o a e=>u.there b o e (by simp)) u.tups u.frzs u.tbls (λm' hm=>by
  obtain⟨o',es',ep',ho',r'⟩:=hm;rw[ho]at ho';cases ho';exact⟨_,es',ep',hL,r'⟩) hok I.bare
def Inv.call{g':Array GenState}{t':Nat}{d':Drawn}{ch:List Addr}(I:Inv X pins σ H s)(u:Un (frs X.stack) ch H H' s.heap h')(hok:HOk X.prog X.w H' h')(hg:AllBare g')
  (hch:∀b∈ch,(b∈X.ex\/X.s₀.heap.objs.size<=b)/\b≠X.env.locals/\(∀x c,X.env.cells.lookup x=some c->c≠b)/\∀p∈X.pn++pins,p.1≠b):
  Inv X pins σ H' {s with heap:=h',gens:=g',drawn:=d',toks:=t'}:=by
 obtain⟨m,⟨o,es,ep,ho,r⟩,_⟩:=id I.loc;obtain⟨sl,hL⟩:=u.any ho I.free λz=>(hch _ z).2.1 rfl
 exact I.step (ch:=ch) hch (λb o hL hb hc e n=>u.keep b o e n (λz=>(mq0 (I.stkSub b z)).elim hL hb) hc) (λb o a a hc e n=>u.any e n hc) (λb o hc e n=>u.free b o e n hc) (λb o hc e=>u.there b o e hc) u.tups u.frzs u.tbls (λm' hm=>by
  obtain⟨o',es',ep',ho',r'⟩:=hm;rw[ho]at ho';cases ho';exact⟨_,es',ep',hL,r'⟩) hok hg
def Inv.turned{t':Nat}{it:Addr}(I:Inv X pins σ H s)(k:∀b o,b≠it->s.heap.get? b=some o->h'.get? b=some o)(hn:H it=none)(hL:it≠X.env.locals)
  (h1:it∈X.ex\/X.s₀.heap.objs.size<=it) (h2:∀x c,X.env.cells.lookup x=some c->c≠it) (h3:∀p∈X.pn++pins,p.1≠it):Inv X pins σ H {s with heap:=h',toks:=t'}:=by
 have nit:∀b u,H b=some u->b≠it:=λb u e z=>by rw[z,hn]at e;cases e
 refine I.step (g':=s.gens) (d':=s.drawn) (ch:=[it]) (λb hb=>?_) (λb o a a hc e a=>k b o (λz=>hc (by simp[z])) e) (λb o a a hc e a=>⟨o.slots,k b o (λz=>hc (by simp[z])) e⟩) (λa a a a n=>n)
  (λb o hc e=>⟨o,k b o (λz=>hc (by simp[z])) e⟩) (λa a e=>e) (λa a a e=>e) (λb ps e=>⟨#[],by rw[e];simp⟩) (λm hm=>?_) (λb u e=>?_) I.bare
 .have e:b=it:=by simpa using hb
  subst e;exact⟨h1,hL,h2,h3⟩
 .obtain⟨o,es,ep,ho,r⟩:=hm
  exact⟨o,es,ep,k _ o (Ne.symm hL) ho,r⟩
 .refine (I.hok b u e).stay (λc v hc q=>k c v ?_ q) (λa q=>q) λa a q=>q
  rcases hc with z|z
  .rw[z];exact nit b u e
  .exact nit c _ z
def Inv.tok(I:Inv X pins σ H s)(t:Nat):Inv X pins σ H {s with toks:=t}:=I.un (h':=s.heap) (t':=t) Un.refl I.hok
theorem Inv.kept{t':Nat}(I:Inv X pins σ H s)(k:∀b u,s.heap.get? b=some u->h'.get? b=some u):Inv X pins σ H {s with heap:=h',toks:=t'}:=I.un (Un.kept k) (I.hok.kept k)
theorem Inv.laid{a:Addr}{o:HO}{t':Nat}(I:Inv X pins σ H s)(k:∀b u,s.heap.get? b=some u->h'.get? b=some u)(hp:s.heap.objs.size<=a)(new:ObjOk X.prog X.w (upd H a o) h' a o):
  Inv X pins σ (upd H a o) {s with heap:=h',toks:=t'}:=I.un (Un.laid k hp (I.hok.fresh hp)) (I.hok.laid k hp new)
theorem Inv.write{x e:Addr}{o:HO}{t':Nat}(I:Inv X pins σ H s)(mu:Mut (H x))(he:e=x\/H e=some (.own x))(k:∀b u,b≠e->s.heap.get? b=some u->h'.get? b=some u)(heo:∃u,h'.get? e=some u)
  (new:ObjOk X.prog X.w (upd H x o) h' x o):Inv X pins σ (upd H x o) {s with heap:=h',toks:=t'}:=I.un (Un.write mu he k heo) (I.hok.write mu he k heo new)
def Inv.pins_of{pins':List (Addr×Obj)}(I:Inv X pins σ H s)(h:∀p∈pins',s.heap.get? p.1=some p.2/\H p.1=none/\p.1≠X.env.locals/\p.1∉X.fs/\∀v,p.2.data≠.cell v):Inv X pins' σ H s:=
 ⟨I.ok,I.os,I.bare,I.base,I.loc,I.cell,I.free,I.freeC,λp hp=>(ma0 hp).elim (λz=>I.pin p (List.mem_append_left _ z)) (h p),I.hok,I.len⟩
def iF{N:List Str}(hN:N.Nodup){i j:Nat}{x:Str}(a:N[i]?=some x)(b:N[j]?=some x):i=j:=by
 obtain⟨h1,e1⟩:=gi0 a;obtain⟨h2,e2⟩:=gi0 b;exact (List.getElem_inj hN).mp (e1.trans e2.symm)
def store_ok2{M:Model}{A:Around}{E:Value->Shared->Prop}{i:Nat}{x:Str}{v:V}{u:Value}{Q:Unit->Shared->Prop}(I:Inv X pins σ H s)(hN:X.N.Nodup)(hi:X.N[i]?=some x)(hx:Loc X.env.scope x)(r:RelV v u)
  (h:∀s',Inv X pins (σ.set i (some v)) H s'->(∃a,Heap.SameBut a s.heap s'.heap/\(a=X.env.locals\/X.env.cells.lookup x=some a))->Q () s') (hf:X.fn x=true\/X.env.scope.names.lookup x=some .local:=by first|exact .inl rfl|exact .inr rfl|assumption):wpAny M A (storeName X.env x u) Q E s:=by
 obtain⟨m,hn,hl⟩:=id I.loc;have hcls:(X.env.scope.kind==.class||(X.env.scope.kind==.module&&X.env.locals != X.env.globals))=false:=by rw[I.ok.kind];rfl
 have hiσ:i<σ.length:=by rw[I.len];exact (gi0 hi).1
 have cne:=I.cne;have tracked:∀{a:Addr}{h':Heap},(∃o,s.heap.get? a=some o/\H a=none)->Heap.SameBut a s.heap h'->HOk X.prog X.w H h':=λ{a h'} ha hs b ob e=>by
  obtain⟨_,_,hfree⟩:=ha;refine (I.hok b ob e).stay (λc w' hc q=>(hs.2 c ?_).trans q) (λf q=>q) λf f q=>q
  rintro rfl
  rcases hc with rfl|hc
  .rw[hfree]at e;cases e
  .rw[hfree]at hc;cases hc
 rcases hx with hk|hk
 .refine wpAny_storeName_local hk hn (λh' hn' hs=>?_) hcls
  obtain⟨oL,_,_,hoL,_⟩:=id hn;refine h _ ⟨I.ok,I.os,I.bare,⟨λb o e n hb hx=>?_,λb o e n hb hx=>?_,I.base.free,λb o e hx=>?_,I.base.tups,I.base.frzs,I.base.tbls⟩,⟨_,hn',λj y v' e1 e2 e3=>?_⟩,λy c e=>?_,I.free,I.freeC,λp hp=>?_,tracked ⟨oL,hoL,I.free⟩ hs,by simpa using I.len⟩ ⟨_,hs,.inl rfl⟩
  .exact (hs.2 b (nn0 (nl0 (hs0 e) I.ok.above))).trans (I.base.keep b o e n hb hx)
  .obtain⟨sl,e1⟩:=I.base.slot b o e n hb hx
   exact⟨sl,(hs.2 b (nn0 (nl0 (hs0 e) I.ok.above))).trans e1⟩
  .obtain⟨o',e1⟩:=I.base.there b o e hx
   exact⟨o',(hs.2 b (nn0 (nl0 (hs0 e) I.ok.above))).trans e1⟩
  .by_cases hj:j=i
   .subst hj
    rw[hi]at e1;cases e1;rw[gs0 hiσ]at e2;cases e2;exact⟨u,r,.inl ⟨hk,by simp⟩⟩
   .rw[gn0 (Ne.symm hj)]at e2
    obtain⟨u',r',q⟩:=hl j y v' e1 e2 e3;refine⟨u',r',?_⟩;rcases q with⟨k,e⟩|⟨k,c,e,z⟩
    .refine .inl ⟨k,?_⟩
     have:y≠x:=λe=>hj (iF hN e1 (e▸hi))
     simp[this,e]
    .exact .inr ⟨k,c,e,z.sameBut hs (cne y c e)⟩
  .obtain⟨w',z⟩:=I.cell y c e
   exact⟨w',z.sameBut hs (cne y c e)⟩
  .obtain⟨e,n,ne,nf,d⟩:=I.pin p hp
   exact⟨(hs.2 p.1 ne).trans e,n,ne,nf,d⟩
 .have hfn:X.fn x=true:=by
   rcases hf with z|z
   .exact z
   .rw[z]at hk;cases hk
  obtain⟨c,hc⟩:=I.ok.has x (.inl hk);obtain⟨w',z⟩:=I.cell x c hc;refine wpAny_storeName_cell I.ok.kind hk hc z (λh' hc' hs=>?_);obtain⟨oc,hoc,hocd⟩:=id z;refine h {s with heap:=h'} ⟨I.ok,I.os,I.bare,⟨λb o e n hb hx=>?_,λb o e n hb hx=>?_,I.base.free,λb o e hx=>?_,I.base.tups,I.base.frzs,I.base.tbls⟩,⟨m,hn.sameBut hs (Ne.symm (cne x c hc)),λj y v' e1 e2 e3=>?_⟩,λy c' e=>?_,I.free,I.freeC,λp hp=>?_,tracked ⟨oc,hoc,I.freeC x c hc⟩ hs,by simpa using I.len⟩ ⟨c,hs,.inr hc⟩
  .exact (hs.2 b (nn0 (nl0 (hs0 e) (I.ok.cab x c hfn hc)))).trans (I.base.keep b o e n hb hx)
  .obtain⟨sl,e1⟩:=I.base.slot b o e n hb hx
   exact⟨sl,(hs.2 b (nn0 (nl0 (hs0 e) (I.ok.cab x c hfn hc)))).trans e1⟩
  .obtain⟨o',e1⟩:=I.base.there b o e hx
   exact⟨o',(hs.2 b (nn0 (nl0 (hs0 e) (I.ok.cab x c hfn hc)))).trans e1⟩
  .by_cases hj:j=i
   .subst hj
    rw[hi]at e1;cases e1;rw[gs0 hiσ]at e2;cases e2;exact⟨u,r,.inr ⟨.inl hk,c,hc,hc'⟩⟩
   .rw[gn0 (Ne.symm hj)]at e2
    obtain⟨u',r',q⟩:=hl j y v' e1 e2 e3;refine⟨u',r',?_⟩;rcases q with q|⟨k,c',e,z'⟩
    .exact .inl q
    .refine .inr ⟨k,c',e,z'.sameBut hs ?_⟩
     rintro rfl
     exact hj (iF hN e1 (I.ok.inj _ _ _ e hc▸hi))
  .by_cases hcc:c'=c
   .subst hcc;exact⟨_,hc'⟩
   .obtain⟨w2,z2⟩:=I.cell y c' e
    exact⟨w2,z2.sameBut hs hcc⟩
  .obtain⟨e,n,ne,nf,d⟩:=I.pin p hp
   refine⟨(hs.2 p.1 ?_).trans e,n,ne,nf,d⟩;intro q;rw[q,hoc]at e;have q':oc=p.2:=Option.some.inj e;exact d w' (by rw[<-q'];exact hocd)
def store_ok{M:Model}{A:Around}{E:Value->Shared->Prop}{i:Nat}{x:Str}{v:V}{u:Value}{Q:Unit->Shared->Prop}(I:Inv X pins σ H s)(hN:X.N.Nodup)(hi:X.N[i]?=some x)(hx:Loc X.env.scope x)(r:RelV v u)
  (h:∀s',Inv X pins (σ.set i (some v)) H s'->Q () s') (hf:X.fn x=true\/X.env.scope.names.lookup x=some .local:=by first|exact .inl rfl|exact .inr rfl|assumption):wpAny M A (storeName X.env x u) Q E s:=
 store_ok2 I hN hi hx r (λs' I' a=>h s' I') hf
def Inv.call'{s':Shared}{ch:List Addr}(I:Inv X pins σ H s)(ho:s'.os=s.os)(u:Un (frs X.stack) ch H H' s.heap s'.heap)(hok:HOk X.prog X.w H' s'.heap)(hg:AllBare s'.gens)
  (hch:∀b∈ch,(b∈X.ex\/X.s₀.heap.objs.size<=b)/\b≠X.env.locals/\(∀x c,X.env.cells.lookup x=some c->c≠b)/\∀p∈X.pn++pins,p.1≠b):Inv X pins σ H' s':=by
 obtain⟨h',g',d',t',o'⟩:=s';have e:o'=s.os:=ho;subst e;exact I.call (g':=g') (t':=t') (d':=d') u hok hg hch
end
noncomputable abbrev XK:=Value->Option Addr->Hp->Prop
noncomputable abbrev St:=List (Option V)
noncomputable abbrev VK:=V->Hp->Prop
noncomputable abbrev TE:=St->Hp->VK->Prop
noncomputable abbrev TT:=St->Hp->(Bool->Hp->Prop)->Prop
noncomputable abbrev TA:=St->Hp->(List V->Hp->Prop)->Prop
structure Ends where
 nx:St->Hp->Prop
 rt:VK
 bk:St->Hp->Prop:=λa a=>False
 ct:St->Hp->Prop:=λa a=>False
noncomputable abbrev TS:=Ends->St->Hp->Prop
def EP(X:Cx)(pins:List (Addr×Obj))(σ:St)(Q:VK)(u:Value)(s':Shared):Prop:=∃v H',Inv X pins σ H' s'/\RelV v u/\Q v H'
def TP(X:Cx)(pins:List (Addr×Obj))(σ:St)(Q:Bool->Hp->Prop)(b:Bool)(s':Shared):Prop:=∃H',Inv X pins σ H' s'/\Q b H'
def AP(X:Cx)(pins:List (Addr×Obj))(σ:St)(Q:List V->Hp->Prop)(us:List Value)(s':Shared):Prop:=∃vs H',Inv X pins σ H' s'/\Vals vs us/\Q vs H'
def SP(X:Cx)(pins:List (Addr×Obj))(D:Ends)(f:Flow)(s':Shared):Prop:=
 match f with
 |.next=>∃σ' H',Inv X pins σ' H' s'/\D.nx σ' H'
 |.brk=>∃σ' H',Inv X pins σ' H' s'/\D.bk σ' H'
 |.cont=>∃σ' H',Inv X pins σ' H' s'/\D.ct σ' H'
 |.ret u=>∃v σ' H',Inv X pins σ' H' s'/\RelV v u/\D.rt v H'
def PE(X:Cx)(e:Expr)(t:TE):Prop:=
 ∀(pins:List (Addr×Obj))(s:Shared)(σ:St)(H:Hp)(Q:VK),Inv X pins σ H s->t σ H Q->wpAny (model X.prog X.w) X.A (eval e X.env) (EP X pins σ Q) X.xe s
def PT(X:Cx)(e:Expr)(t:TT):Prop:=
 ∀(pins:List (Addr×Obj))(s:Shared)(σ:St)(H:Hp)(Q:Bool->Hp->Prop),Inv X pins σ H s->t σ H Q->wpAny (model X.prog X.w) X.A (isTrue e X.env (eval e X.env)) (TP X pins σ Q) X.xe s
def PW(X:Cx)(e:Expr)(t:TT):Prop:=
 ∀(whole:Sem Value)(pins:List (Addr×Obj))(s:Shared)(σ:St)(H:Hp)(Q:Bool->Hp->Prop),Inv X pins σ H s->t σ H Q->wpAny (model X.prog X.w) X.A (isTrue e X.env whole) (TP X pins σ Q) X.xe s
variable {α β:Type}{C a b dx f:Addr}{vs xs:List V}{us:List Value}{m x:Str}{u v:Value}{H H':Hp}{P prog:Program}{w:World}{base h h':Heap}{c e tg:Expr}{o:Option Value}{X:Cx}{pins:List (Addr×Obj)}{s s':Shared}{i k t':Nat}{ch fp:List Addr}{N ps:List Str}{A:Around}{E Q:Value->Shared->Prop}{t:TA}{ta tb te:TE}{σ:St}{apos p pos:Pos}{es:List Expr}{body:List Stmt}{mA mg:Str->Option Value}{fd:FuncData}
def PW.pt{t:TT}(h:PW X e t):PT X e t:=h _
def PA(X:Cx)(es:List Expr)(t:TA):Prop:=
 ∀(pos:Pos)(pins:List (Addr×Obj))(s:Shared)(σ:St)(H:Hp)(Q:List V->Hp->Prop),Inv X pins σ H s->t σ H Q->wpAny (model X.prog X.w) X.A (spliced (backTo pos (starEach es X.env))) (AP X pins σ Q) X.xe s
def PS(X:Cx)(st:Stmt)(t:TS):Prop:=
 ∀(pins:List (Addr×Obj))(s:Shared)(σ:St)(H:Hp)(D:Ends),Inv X pins σ H s->t D σ H->wpAny (model X.prog X.w) X.A (exec st X.env) (SP X pins D) X.xe s
def PSs(X:Cx)(st:List Stmt)(t:TS):Prop:=
 ∀(pins:List (Addr×Obj))(s:Shared)(σ:St)(H:Hp)(D:Ends),Inv X pins σ H s->t D σ H->wpAny (model X.prog X.w) X.A (execs st X.env) (SP X pins D) X.xe s
def thn{t:Sem α}{Q Q':α->Shared->Prop}{M:Model}(h:wpAny M A t Q E s)(hQ:∀a s,Q a s->Q' a s):wpAny M A t Q' E s:=wpAny_mono h hQ λb b x=>x
section
def bin{a b:Expr}(ha:PE X a ta)(hb:PE X b tb){R:V->V->Hp->Prop}(I:Inv X pins σ H s)(h:ta σ H λx H1=>tb σ H1 λy H2=>R x y H2)
   {Q:α->Shared->Prop}{f:Value->Value->Sem α}
  (hf:∀v u s2 x y H2,Inv X pins σ H2 s2->RelV x v->RelV y u->R x y H2->wpAny (model X.prog X.w) X.A (f v u) Q X.xe s2):
  wpAny (model X.prog X.w) X.A (eval a X.env) (λv s₁=>wpAny (model X.prog X.w) X.A (eval b X.env) (λu s₂=>wpAny (model X.prog X.w) X.A (f v u) Q X.xe s₂) X.xe s₁) X.xe s:=by
 refine thn (ha pins s σ H _ I h) λv s1 ⟨x,H1,I1,r1,q1⟩=>?_
 refine thn (hb pins s1 σ H1 _ I1 q1) λu s2 ⟨y,H2,I2,r2,q2⟩=>?_
 exact hf v u s2 x y H2 I2 r1 r2 q2
def uD(i:Nat):TE:=λσ H Q=>∃v,σ[i]?=some (some v)/\Q v H
def tC(v:V):TE:=λa H Q=>Q v H
def cN(hN:X.N[i]?=some x)(hv:Vis X.env.scope x)(hd:(x==("__debug__":Str))=false:=by decide)(hcd:(x==("__classdict__":Str))=false:=by decide):PE X (.Name x pos) (uD i):=by
 intro pins s σ H Q I h;obtain⟨v,e,h⟩:=h;obtain⟨m,hn,hl⟩:=I.loc;obtain⟨u,r,l⟩:=hl i x v hN e hv;have fin:EP X pins σ Q u s:=⟨v,H,I,r,h⟩;rcases l with⟨hk,hm⟩|⟨hk,c,hc,hcell⟩
 .exact wpAny_Name (wpAny_loadName_local I.ok.kind hk hn hm fin) hd
 .rcases hk with hk|hk
  .exact wpAny_Name (wpAny_loadName_cell I.ok.kind hk hc hcell fin) hd
  .exact wpAny_Name (wpAny_loadName_free I.ok.kind hk hc hcell fin hcd) hd
def oH{i j pos}:PE X (.Constant (.int i) j pos) (tC (.int i)):=λa a a H a I h=>wpAny_Constant_int ⟨.int i,H,I.tok _,⟨_,rfl⟩,h⟩
def GE{b j pos}:PE X (.Constant (.bool b) j pos) (tC (.bl b)):=λa a a H a I h=>Constant_bool ⟨.bl b,H,I,rfl,h⟩
def CG{j pos}:PE X (.Constant .none j pos) (tC .non):=λa a a H a I h=>Constant_none ⟨.non,H,I,rfl,h⟩
def CH{x j pos}:PE X (.Constant (.str x) j pos) (tC (.str x)):=λa a a H a I h=>Calls.Constant_str ⟨.str x,H,I.tok _,⟨_,rfl⟩,h⟩
def Gl(X:Cx)(x:Str):Prop:=X.env.kindOf x=some .globalImplicit
def ld_glob(I:Inv X pins σ H s)(hg:Gl X x)(hm:X.mg x=some u)(h:Q u s)
  (hd:(x==("__debug__":Str))=false:=by decide):wpAny (model X.prog X.w) X.A (eval (.Name x pos) X.env) Q E s:=
 Calls.Name_function_global I.ok.kind hg (Calls.loadGlobal_global (by rw[I.ok.glob];exact I.mod.glob.keeps I.bk) hm h) hd
def ld_blt(I:Inv X pins σ H s)(hg:Gl X x)(hm:X.mg x=none)(hv:bootBuiltins x=some u)(h:Q u s)
  (hn:x≠"__name__":=by decide) (hd:(x==("__debug__":Str))=false:=by decide):wpAny (model X.prog X.w) X.A (eval (.Name x pos) X.env) Q E s:=by
 obtain⟨mb,h1,h2⟩:=I.mod.blt;exact Calls.Name_function_global I.ok.kind hg (Calls.loadGlobal_builtin (by rw[I.ok.glob];exact I.mod.glob.keeps I.bk) hm (by rw[I.ok.blt];exact h1.keeps I.bk) ((h2 x hn).trans hv) h) hd
def qu{v:V}(hg:Gl X x)(hm:X.mg x=some u)(r:RelV v u)(hd:(x==("__debug__":Str))=false:=by decide):PE X (.Name x pos) (tC v):=
 λa a a H a I h=>ld_glob I hg hm ⟨v,H,I,r,h⟩ hd
def qv{v:V}(hg:Gl X x)(hm:X.mg x=none)(hv:bootBuiltins x=some u)(r:RelV v u)(hn:x≠"__name__":=by decide)(hd:(x==("__debug__":Str))=false:=by decide):PE X (.Name x pos) (tC v):=
 λa a a H a I h=>ld_blt I hg hm hv ⟨v,H,I,r,h⟩ hn hd
variable {a b:Expr}
variable {tA tB':TT}{rest:List Expr}
def JT(t u:TT):TT:=λσ H Q=>t σ H λc H1=>if c=true then u σ H1 Q else Q false H1
def tOr(t u:TT):TT:=λσ H Q=>t σ H λc H1=>if c=true then Q true H1 else u σ H1 Q
def JU(t:TT):TT:=λσ H Q=>t σ H λc H1=>Q (!c) H1
def ze(ha:PT X a tA):PW X (.BoolOp .And [a] pos) tA:=by
 intro wh pins s σ H Q I h;refine isTrue_and (thn (ha pins s σ H Q I h) λc s1 e=>?_);cases c with
 |true=>exact isTrue_and_nil e
 |false=>exact e
def uE(ha:PT X a tA):PW X (.BoolOp .Or [a] pos) tA:=by
 intro wh pins s σ H Q I h;refine isTrue_or (thn (ha pins s σ H Q I h) λc s1 e=>?_);cases c with
 |false=>exact isTrue_or_nil e
 |true=>exact e
def uF(ha:PT X a tA)(hb:PW X (.BoolOp .And (b::rest) pos) tB'):PW X (.BoolOp .And (a::b::rest) pos) (JT tA tB'):=by
 intro wh pins s σ H Q I h;refine isTrue_and (thn (ha pins s σ H _ I h) λc s1 ⟨H1,I1,q1⟩=>?_);cases c with
 |true=>exact hb wh pins s1 σ H1 Q I1 q1
 |false=>exact⟨H1,I1,q1⟩
def qw(ha:PT X a tA)(hb:PW X (.BoolOp .Or (b::rest) pos) tB'):PW X (.BoolOp .Or (a::b::rest) pos) (tOr tA tB'):=by
 intro wh pins s σ H Q I h;refine isTrue_or (thn (ha pins s σ H _ I h) λc s1 ⟨H1,I1,q1⟩=>?_);cases c with
 |true=>exact⟨H1,I1,q1⟩
 |false=>exact hb wh pins s1 σ H1 Q I1 q1
def CI(ha:PT X a tA):PT X (.UnaryOp .Not a pos) (JU tA):=by
 intro pins s σ H Q I h;exact isTrue_not (ha pins s σ H (λc H1=>Q (!c) H1) I h)
noncomputable def GF(ta tb:TE):TE:=λσ H Q=>ta σ H λx H1=>∃c,x=.bl c/\if c=true then tb σ H1 Q else Q (.bl false) H1
noncomputable def JV(ta tb:TE):TE:=λσ H Q=>ta σ H λx H1=>∃c,x=.bl c/\if c=true then Q (.bl true) H1 else tb σ H1 Q
def GG(ta:TE):TE:=λσ H Q=>ta σ H λx H1=>∃c,x=.bl c/\Q (.bl (!c)) H1
def CJ{op}{t:TE}(h:PE X a t):PE X (.BoolOp op [a] pos) t:=λpins s σ H Q I hw=>BoolOp_one (h pins s σ H Q I hw)
def oI(ha:PE X a ta)(hb:PE X (.BoolOp .And (b::rest) pos) tb):PE X (.BoolOp .And (a::b::rest) pos) (GF ta tb):=by
 intro pins s σ H Q I h;refine BoolOp_and (thn (ha pins s σ H _ I h) λv s1 ⟨x,H1,I1,r1,q1⟩=>?_);obtain⟨c,rfl,q1⟩:=q1;cases r1;refine wpAny_truthy_bool ?_;cases c with
 |true=>exact hb pins s1 σ H1 Q I1 q1
 |false=>exact⟨.bl false,H1,I1,rfl,q1⟩
def BA(ha:PE X a ta)(hb:PE X (.BoolOp .Or (b::rest) pos) tb):PE X (.BoolOp .Or (a::b::rest) pos) (JV ta tb):=by
 intro pins s σ H Q I h;refine BoolOp_or (thn (ha pins s σ H _ I h) λv s1 ⟨x,H1,I1,r1,q1⟩=>?_);obtain⟨c,rfl,q1⟩:=q1;cases r1;refine wpAny_truthy_bool ?_;cases c with
 |false=>exact hb pins s1 σ H1 Q I1 q1
 |true=>exact⟨.bl true,H1,I1,rfl,q1⟩
def CK(ha:PE X a ta):PE X (.UnaryOp .Not a pos) (GG ta):=by
 intro pins s σ H Q I h;refine UnaryOp_ (thn (ha pins s σ H _ I h) λv s1 ⟨x,H1,I1,r1,q1⟩=>?_);obtain⟨c,rfl,q1⟩:=q1;cases r1;exact not_of (wpAny_truthy_bool ⟨.bl (!c),H1,I1,rfl,q1⟩)
noncomputable def tIf(t:TT)(ta tb:TE):TE:=λσ H Q=>t σ H λc H1=>if c=true then ta σ H1 Q else tb σ H1 Q
def fB(hc:PT X c tA)(ha:PE X a ta)(hb:PE X b tb):PE X (.IfExp c a b pos) (tIf tA ta tb):=by
 intro pins s σ H Q I h;refine wpAny_IfExp (thn (hc pins s σ H _ I h) λd s1 ⟨H1,I1,q1⟩=>?_);cases d with
 |true=>exact ha pins s1 σ H1 Q I1 q1
 |false=>exact hb pins s1 σ H1 Q I1 q1
end
def SqL(K:fg0)(H:Hp)(a:Addr)(xs:List V):Prop:=
 Rd H a (.lst xs)\/
  ∃(o:Obj)(its:Array Value)(n:Nat),K.lookup a=some o/\o.cls=.type "list"/\o.dict=none/\o.data=.seq its n/\its.size<=sizeLine/\Vals xs its.toList
def SqT(K:fg0)(H:Hp)(a:Addr)(xs:List V):Prop:=
 Rd H a (.tup xs)\/
  ∃(o:Obj)(its:Array Value)(n:Nat),K.lookup a=some o/\o.cls=.type "tuple"/\o.data=.seq its n/\its.size<=sizeLine/\Vals xs its.toList
noncomputable def JW:Value->Option V
 |.none=>some .non
 |.bool b=>some (.bl b)
 |.int i _=>some (.int i)
 |.str x _=>some (.str x)
 |.bytes b _=>some (.byt b)
 |.float b _=>some (.flt b)
 |.ref a=>some (.ref a)
 |.type n=>some (.ty n)
 |_=>none
def RelV.abs{x:V}(r:RelV x u):JW u=some x:=by
 cases x with
 |non=>cases r;rfl
 |bl _=>cases r;rfl
 |int _=>obtain⟨t,rfl⟩:=r;rfl
 |str _=>obtain⟨t,rfl⟩:=r;rfl
 |byt _=>obtain⟨t,rfl⟩:=r;rfl
 |flt _=>obtain⟨t,rfl⟩:=r;rfl
 |ref _=>cases r;rfl
 |ty _=>cases r;rfl
theorem RelV.inj{x y:V}(r:RelV x u)(q:RelV y u):x=y:=Option.some.inj (r.abs.symm.trans q.abs)
theorem Vals.inj:∀{xs ys:List V}{us:List Value},Vals xs us->Vals ys us->xs=ys
 |_,_,_,.nil,.nil=>rfl
 |_,_,_,.cons r t,.cons r' t'=>by rw[r.inj r',Vals.inj t t']
section
variable {ys:List V}
def SqL.of{K:fg0}(h:H a=some (.lst xs)):SqL K H a xs:=.inl (.inl h)
def SqT.of{K:fg0}(h:H a=some (.tup xs)):SqT K H a xs:=.inl (.inl h)
def Inv.list(I:Inv X pins σ H s)(h:SqL X.K H a xs):∃its:List Value,Vals xs its/\PlainL s.heap a its.toArray/\xs.length<=sizeLine:=by
 rcases h with h|⟨o,its,n,hk,hc,hd,hs,hz,r⟩
 .obtain⟨z,its,n,r,e⟩:=h.ok I.hok
  exact⟨its,r,⟨_,n,e,rfl,rfl,rfl⟩,z⟩
 .refine⟨its.toList,r,⟨o,n,I.kIn a o hk,hc,hd,by simpa using hs⟩,?_⟩
  have e:=r.length;simp only[al0]at e;omega
def Inv.tuple(I:Inv X pins σ H s)(h:SqT X.K H a xs):∃its:List Value,Vals xs its/\IsTup s.heap a its.toArray/\xs.length<=sizeLine:=by
 rcases h with h|⟨o,its,n,hk,hc,hs,hz,r⟩
 .obtain⟨z,its,r,p⟩:=h.ok I.hok
  exact⟨its,r,p,z⟩
 .refine⟨its.toList,r,⟨o,I.kIn a o hk,hc,n,by simpa using hs⟩,?_⟩
  have e:=r.length;simp only[al0]at e;omega
def Inv.list_inj(I:Inv X pins σ H s)(h:SqL X.K H a xs)(h':SqL X.K H a ys):xs=ys:=by
 obtain⟨its,r,⟨o,n,e,_,_,d⟩,_⟩:=I.list h;obtain⟨its',r',⟨o',n',e',_,_,d'⟩,_⟩:=I.list h';rw[e]at e';cases e';rw[d]at d';injection d' with d1 _
 have:its=its':=by simpa using congrArg Array.toList d1
 subst this;exact r.inj r'
end
noncomputable abbrev Cx.wish(X:Cx)(E:Value->Shared->Prop):Cx:={X with xe:=E}
noncomputable abbrev Cx.nox(X:Cx):Cx:=X.wish λa a=>False
theorem Cx.Ok.wish(ok:X.Ok)(E:Value->Shared->Prop):(X.wish E).Ok:=
 ⟨ok.mod,ok.kind,ok.glob,ok.blt,ok.above,ok.inj,ok.has,ok.cab,ok.hd,ok.frames,ok.stk,ok.exf,ok.bs,ok.bsz,ok.noex,ok.exfs,ok.funs,ok.frf⟩
def Cx.Ok.unwish(ok:(X.wish E).Ok):X.Ok:=
 ⟨ok.mod,ok.kind,ok.glob,ok.blt,ok.above,ok.inj,ok.has,ok.cab,ok.hd,ok.frames,ok.stk,ok.exf,ok.bs,ok.bsz,ok.noex,ok.exfs,ok.funs,ok.frf⟩
theorem Inv.wish(I:Inv X pins σ H s)(E:Value->Shared->Prop):Inv (X.wish E) pins σ H s:=⟨I.ok.wish E,I.os,I.bare,I.base,I.loc,I.cell,I.free,I.freeC,I.pin,I.hok,I.len⟩
theorem Inv.unwish(I:Inv (X.wish E) pins σ H s):Inv X pins σ H s:=⟨I.ok.unwish,I.os,I.bare,I.base,I.loc,I.cell,I.free,I.freeC,I.pin,I.hok,I.len⟩
theorem SP.unwish{D:Ends}{f:Flow}(h:SP (X.wish E) pins D f s'):SP X pins D f s':=by
 cases f with
 |next=>obtain⟨σ',H',I,q⟩:=h;exact⟨σ',H',I.unwish,q⟩
 |brk=>obtain⟨σ',H',I,q⟩:=h;exact⟨σ',H',I.unwish,q⟩
 |cont=>obtain⟨σ',H',I,q⟩:=h;exact⟨σ',H',I.unwish,q⟩
 |ret u=>obtain⟨v,σ',H',I,r,q⟩:=h;exact⟨v,σ',H',I.unwish,r,q⟩
theorem PSs.nox{st:List Stmt}{t:TS}(h:PSs X.nox st t):PSs X st t:=λpins s σ H D I hw=>
 wpAny_mono (h pins s σ H D (I.wish _) hw) (λa a q=>q.unwish) λa a z=>False.elim z
section
variable {st:Stmt}{rest:List Stmt}{t u:TS}
def BB:TS:=λD σ H=>D.nx σ H
def JX(t u:TS):TS:=λD σ H=>t {D with nx:=u D} σ H
def dh:PSs X [] BB:=λa a σ H a I h=>wpAny_execs_nil ⟨σ,H,I,h⟩
def aA(h1:PS X st t)(h2:PSs X rest u):PSs X (st::rest) (JX t u):=by
 intro pins s σ H D I h;refine wpAny_execs_cons (thn (h1 pins s σ H {D with nx:=u D} I h) λf s1 q=>?_);cases f with
 |next=>
  obtain⟨σ',H',I',q⟩:=q;exact h2 pins s1 σ' H' D I' q
 |ret v=>exact q
 |brk=>exact q
 |cont=>exact q
def qx:PS X (.Pass pos) BB:=λa a σ H a I h=>wpAny_Pass ⟨σ,H,I,h⟩
def Inv.quiet(I:Inv X pins σ H s):interactive X.env=false:=by simp[interactive,I.ok.kind]
def GH(te:TE):TS:=λD σ H=>te σ H λa H1=>D.nx σ H1
def eD(he:PE X e te)(hs:swapsWith e none pos.line X.env=pure false:=by rfl):PS X (.Expr e pos) (GH te):=by
 intro pins s σ H D I h;exact wpAny_Expr_any (thn (he pins s σ H _ I h) λv s1 ⟨x,H1,I1,r1,q1⟩=>⟨σ,H1,I1,q1⟩) I.quiet hs
def JY(te:TE):TS:=λD σ H=>te σ H D.rt
def iG(he:PE X e te):PS X (.Return (some e) pos) (JY te):=by
 intro pins s σ H D I h;exact wpAny_Return_some (thn (he pins s σ H _ I h) λv s1 ⟨x,H1,I1,r1,q1⟩=>⟨x,σ,H1,I1,r1,q1⟩)
noncomputable def JZ(c:TT)(t u:TS):TS:=λD σ H=>c σ H λb H1=>if b=true then t D σ H1 else u D σ H1
def gU{a b:List Stmt}{tc:TT}(hc:PT X c tc)(ha:PSs X a t)(hb:PSs X b u):PS X (.If c a b pos) (JZ tc t u):=by
 intro pins s σ H D I h;refine wpAny_If (thn (hc pins s σ H _ I h) λd s1 ⟨H1,I1,q1⟩=>?_);cases d with
 |true=>exact ha pins s1 σ H1 D I1 q1
 |false=>exact hb pins s1 σ H1 D I1 q1
end
noncomputable abbrev TG:=V->St->Hp->(St->Hp->Prop)->Prop
noncomputable abbrev TGs:=List V->St->Hp->(St->Hp->Prop)->Prop
def PG(X:Cx)(target:Expr)(t:TG):Prop:=
 ∀(pins:List (Addr×Obj))(s:Shared)(σ:St)(H:Hp)(v:V)(u:Value)(Q:St->Hp->Prop),Inv X pins σ H s->RelV v u->t v σ H Q->
  wpAny (model X.prog X.w) X.A (assign target X.env u) (λa s'=>∃σ' H',Inv X pins σ' H' s'/\Q σ' H') X.xe s
def PGs(X:Cx)(ts:List Expr)(t:TGs):Prop:=
 ∀(pins:List (Addr×Obj))(s:Shared)(σ:St)(H:Hp)(vs:List V)(us:List Value)(Q:St->Hp->Prop),Inv X pins σ H s->Vals vs us->t vs σ H Q->
  wpAny (model X.prog X.w) X.A (assignInOrder ((assignEach ts X.env).map (·.2)) us) (λa s'=>∃σ' H',Inv X pins σ' H' s'/\Q σ' H') X.xe s
noncomputable abbrev CL:=V->V->V->Hp->(Hp->Prop)->Prop
def zf(X:Cx)(t:CL):Prop:=
 ∀(pins:List (Addr×Obj))(s:Shared)(σ:St)(H:Hp)(o i v:V)(ov iv u:Value)(Q:Hp->Prop),Inv X pins σ H s->RelV o ov->RelV i iv->RelV v u->t o i v H Q->
  wpAny (model X.prog X.w) X.A (setItem ov iv u) (λa s'=>∃H',Inv X pins σ H' s'/\Q H') X.xe s
def BC(i:Nat):TG:=λv σ H Q=>Q (σ.set i (some v)) H
def qy(hN:X.N.Nodup)(hi:X.N[i]?=some x)(hx:Loc X.env.scope x)(hf:X.fn x=true\/X.env.scope.names.lookup x=some .local:=by first|exact .inl rfl|exact .inr rfl|assumption):PG X (.Name x pos) (BC i):=by
 intro pins s σ H v u Q I r h;exact wpAny_assign_Name (store_ok I hN hi hx r (λs' I'=>⟨_,H,I',h⟩) hf)
def Ka:TGs:=λvs σ H Q=>vs=[]/\Q σ H
def GI(t:TG)(u:TGs):TGs:=λvs σ H Q=>∃v r,vs=v::r/\t v σ H λσ' H'=>u r σ' H' Q
def qz:PGs X [] Ka:=by
 intro pins s σ H vs us Q I r h;obtain⟨e,h⟩:=h;subst e;cases r;exact assignInOrder_nil ⟨σ,H,I,h⟩
def mr{e:Expr}{t:TG}{u:TGs}(h1:PG X e t)(h2:PGs X es u)
  (hs:(assignEach (e::es) X.env).map (·.2)=assign e X.env::(assignEach es X.env).map (·.2):=by rfl):PGs X (e::es) (GI t u):=by
 intro pins s σ H vs us Q I r h;obtain⟨v,vr,e1,h⟩:=h;subst e1;cases r with
 |cons r rr=>
  rw[hs];refine assignInOrder_cons (thn (h1 pins s σ H _ _ _ I r h) λa s1 ⟨σ1,H1,I1,q1⟩=>?_);exact h2 pins s1 σ1 H1 _ _ Q I1 rr q1
noncomputable def Kb(K:fg0)(n:Nat)(t:TGs):TG:=λv σ H Q=>∃a xs,v=.ref a/\SqT K H a xs/\xs.length=n/\t xs σ H Q
def uG{t:TGs}{n:Nat}(hc:X.calm=true)(h:PGs X es t)
  (hn:(assignEach es X.env).length=n:=by rfl) (hst:(assignEach es X.env).findIdx? (·.1)=none:=by rfl):PG X (.Tuple es k pos) (Kb X.K n t):=by
 intro pins s σ H v u Q I r hw;obtain⟨a,xs,e1,hq,hl,hw⟩:=hw;subst e1;cases r;obtain⟨its,rv,ht,hz⟩:=I.tuple hq;refine assign_Tuple_tuple (I.ok.hd hc) ht (by simp[hn,<-hl,rv.length]) hst λh' hx=>?_
 have I1:Inv X pins σ H {s with heap:=h'}:=I.kept (t':=s.toks) λb o e=>hx b o (nn0 (hs0 e)) e
 exact h pins _ σ H xs _ Q I1 (by simpa using rv) hw
noncomputable def Kc(to ti:TE)(t:CL):TG:=λv σ H Q=>to σ H λo H1=>ti σ H1 λi H2=>t o i v H2 λH3=>Q σ H3
def oJ{o i:Expr}{to ti:TE}{t:CL}(ho:PE X o to)(hi:PE X i ti)(hs:zf X t)
  (ha:∀v,assign (.Subscript o i pos) X.env v=(do
   let ov ←holding [v] (eval o X.env)
   let iv ←holding [v,ov] (eval i X.env)
   standAt pos
   holding [v,ov,iv] (setItem ov iv v)
   release [v,ov,iv] []):=by intro _;rfl):PG X (.Subscript o i pos) (Kc to ti t):=by
 intro pins s σ H v u Q I r h;rw[ha];refine wb0 (wh0 (thn (ho pins s σ H _ I h) λov s1 ⟨x,H1,I1,r1,q1⟩=>?_));refine wb0 (wh0 (thn (hi pins s1 σ H1 _ I1 q1) λiv s2 ⟨y,H2,I2,r2,q2⟩=>?_));refine wb0 (wpAny_standAt (wb0 (wh0 (thn (hs pins s2 σ H2 x y v ov iv u _ I2 r1 r2 r q2) λa s3 ⟨H3,I3,q3⟩=>?_))));exact wpAny_release ⟨σ,H3,I3,q3⟩
def GJ(te:TE)(g:TG):TS:=λD σ H=>te σ H λx H1=>g x σ H1 D.nx
def oK{g:TG}(he:PE X e te)(hg:PG X tg g)(hs:swapsWithSole [tg] e pos.line X.env=pure false:=by rfl)(hw:swappedStores [tg] e X.env=pure none:=by rfl)
  (h1:(assignEach [tg] X.env).map (·.2)=[assign tg X.env]:=by rfl):PS X (.Assign [tg] e pos) (GJ te g):=by
 intro pins s σ H D I h;refine wpAny_Assign_stores (thn (he pins s σ H _ I h) λv s1 ⟨x,H1,I1,r1,q1⟩=>?_) hs hw;rw[h1];exact thn (hg pins s1 σ H1 x v _ I1 r1 q1) λa s2 q=>q
def gm{pos':Pos}(hN:X.N.Nodup)(hi:X.N[i]?=some x)(hx:Loc X.env.scope x)(he:PE X e te)(hs:swapsWith e (some (.Name x pos')) pos.line X.env=pure false:=by rfl)(hf:X.fn x=true\/X.env.scope.names.lookup x=some .local:=by first|exact .inl rfl|exact .inr rfl|assumption):
  PS X (.Assign [.Name x pos'] e pos) (GJ te (BC i)):=by
 intro pins s σ H D I h;refine wpAny_Assign_Name (thn (he pins s σ H _ I h) λv s1 ⟨y,H1,I1,r1,q1⟩=>?_) hs;exact store_ok I1 hN hi hx r1 (λs2 I2=>⟨_,H1,I2,q1⟩) hf
structure It where
 go:Nat->Hp->Prop
 yld:Nat->Hp->V->Hp->Prop
 stop:Nat->Hp->Prop
def fC(X:Cx)(pins:List (Addr×Obj))(H:Hp)(b:Addr):Prop:=
 H b=none/\b≠X.env.locals/\b∉X.fs/\(b∈X.ex\/X.s₀.heap.objs.size<=b)/\(∀x c,X.env.cells.lookup x=some c->c≠b)/\∀p∈X.pn++pins,p.1≠b
def Inv.fpOk(I:Inv X pins σ H s)(hb:s.heap.objs.size<=b)(hn:H' b=none):fC X pins H' b:=by
 refine⟨hn,Nat.ne_of_gt (nl0 I.lt hb),I.nofs hb,.inr (nt0 I.sz hb),λx c e z=>?_,λp hp z=>?_⟩
 .obtain⟨v,q⟩:=I.cell x c e
  exact absurd (nl0 q.lt (by rw[z];exact hb)) (li0 _)
 .exact absurd (nl0 (hs0 (I.pin p hp).1) (by rw[z];exact hb)) (li0 _)
structure Turn(P:Program)(w:World)(K:fg0)(tg:Expr)(J:It)(fp:List Addr)(it:Addr)(tn:Nat->Heap->Prop):Prop where
 mem:it∈fp
 obj:∀i h,tn i h->∀b∈fp,∃o,h.get? b=some o/\∀v,o.data≠.cell v
 keep:∀i h h',tn i h->(∀b∈fp,∀o,h.get? b=some o->h'.get? b=some o)->tn i h'
 item:∀(X:Cx),X.prog=P->X.w=w->X.K=K->X.calm=true->∀(i:Nat)(pins:List (Addr×Obj))(s:Shared)(σ:St)(H:Hp)(E:Value->Shared->Prop),Inv X pins σ H s->(∀b∈fp,fC X pins H b)->tn i s.heap->J.go i H->
  wpAny (model P w) X.A (pyNext (.ref it)) (λr s1=>∃u,r=some u/\
   wpAny (model P w) X.A (letOwnedTupleGo tg (.ref it) u) (λa s2=>∃x H',Inv X pins σ H' s2/\RelV x u/\J.yld i H x H'/\tn (i+1) s2.heap/\∀b∈fp,H' b=none) E s1) E s
 done:∀(X:Cx),X.prog=P->X.w=w->X.K=K->X.calm=true->∀(i:Nat)(pins:List (Addr×Obj))(s:Shared)(σ:St)(H:Hp)(E:Value->Shared->Prop),Inv X pins σ H s->(∀b∈fp,fC X pins H b)->tn i s.heap->J.stop i H->
  wpAny (model P w) X.A (pyNext (.ref it)) (λr s1=>r=none/\Inv X pins σ H s1) E s
 self:∀(A:Around)(i:Nat)(s:Shared)(Q:Value->Shared->Prop)(E:Value->Shared->Prop),tn i s.heap->Q (.ref it) s->wpAny (model P w) A (pyIter (.ref it)) Q E s
noncomputable abbrev TI:=St->Hp->(It->Hp->Prop)->Prop
def PIE(X:Cx)(pins:List (Addr×Obj))(σ:St)(tg:Expr)(R:It->Hp->Prop)(itv:Value)(s2:Shared):Prop:=
 ∃(it:Addr)(fp:List Addr)(tn:Nat->Heap->Prop)(J:It)(H':Hp),itv=.ref it/\Inv X pins σ H' s2/\Turn X.prog X.w X.K tg J fp it tn/\tn 0 s2.heap/\(∀b∈fp,fC X pins H' b)/\R J H'
def PI(X:Cx)(tg iter:Expr)(wi:TI):Prop:=
 ∀(pins:List (Addr×Obj))(s:Shared)(σ:St)(H:Hp)(R:It->Hp->Prop),Inv X pins σ H s->wi σ H R->
  wpAny (model X.prog X.w) X.A (eval iter X.env) (λv s1=>wpAny (model X.prog X.w) X.A (pyIter v) (PIE X pins σ tg R) X.xe s1) X.xe s
def uH{M:Model}{it:Addr}{o:Obj}{n:String}{vs:Array Value}{Q:Unit->Shared->Prop}(ho:s.heap.get? it=some o)(hc:o.cls=.type n)(hd:o.data=.fields vs)
  (hn:["enumerate","zip","dict_itemiterator","dict_reverseitemiterator","odict_iterator","itertools.zip_longest","itertools.pairwise"].contains n=false) (hQ:Q () s):wpAny M A (letOwnedTupleGo tg (.ref it) u) Q E s:=by
 unfold letOwnedTupleGo;cases tg<;>first
  |exact wq0 hQ
  |(cases u<;>first
    |exact wq0 hQ
    |(refine wb0 (wpAny_load ho ?_)
      rw[hc,hd];show wpAny M A (if (["enumerate","zip","dict_itemiterator","dict_reverseitemiterator","odict_iterator","itertools.zip_longest","itertools.pairwise"].contains n&&vs[0]?==some (rawInt _))=true then _ else _) Q E s;rw[if_neg (by intro h;rw[hn,Bool.false_and]at h;cases h)];exact wq0 hQ))
noncomputable def Itl(K:fg0)(a:Addr):It:=
 ⟨λi H=>∃xs x,SqL K H a xs/\xs[i]?=some x,λi H x H'=>H'=H/\∀xs,SqL K H a xs->xs[i]?=some x,λi H=>∃xs,SqL K H a xs/\xs.length<=i⟩
def Itr(lo:Int)(n:Nat):It:=⟨λi a=>i<n,λi H x H'=>H'=H/\x=.int (lo+i),λi a=>n<=i⟩
def sx{K:fg0}(a it:Addr):Turn P w K tg (Itl K a) [it] it (λi h=>h.IsListIter it a i) where
 mem:=by simp
 obj:=λi h st b hb=>by
  have e:b=it:=by simpa using hb
  subst e;obtain⟨o,e,c,d⟩:=st;exact⟨o,e,λv z=>by rw[d]at z;cases z⟩
 keep:=λi h h' st k=>st.at λo e=>k it (by simp) o e
 item:=by
  intro X hP hw hK hc i pins s σ H E I hf st hg;subst hP hw hK;obtain⟨xs,x,hq,hx⟩:=hg;obtain⟨its,rv,p,hz⟩:=I.list hq;obtain⟨u,hu,ru⟩:=rv.get hx;obtain⟨f0,f1,f2,f3,f4,f5⟩:=hf it (by simp);refine wpAny_pyNext_list_item st p.isList (x:=u) (by simpa using hu) λh' st' sb=>?_
  have I1:Inv X pins σ H {s with heap:=h'}:=I.turned (t':=s.toks) (λb o hb e=>(sb.2 b hb).trans e) f0 f1 f3 f4 f5;obtain⟨o,e,c,d⟩:=id st';exact⟨u,rfl,uH (s:={s with heap:=h'}) e c d (by decide) ⟨x,H,I1,ru,⟨rfl,λys hy=>by rw[I.list_inj hy hq];exact hx⟩,st',λb hb=>(hf b hb).1⟩⟩
 done:=by
  intro X hP hw hK hc i pins s σ H E I hf st hg;subst hP hw hK;obtain⟨xs,hq,hx⟩:=hg;obtain⟨its,rv,p,hz⟩:=I.list hq;obtain⟨f0,f1,f2,f3,f4,f5⟩:=hf it (by simp);have hl:=rv.length;exact wpAny_pyNext_list_end (I.ok.hd hc) st p.isList (by simp;omega) λh' eb=>⟨rfl,I.turned (t':=s.toks) (λb o hb e=>eb b o hb e) f0 f1 f3 f4 f5⟩
 self:=λf f f f f st h=>wpAny_pyIter_listiter st h
def oM{K:fg0}(it:Addr)(lo:Int)(n:Nat):Turn P w K tg (Itr lo n) [it] it (λi h=>IsRangeIter h it (lo+(i:Nat)*1) ((n:Int)-(i:Nat)) 1) where
 mem:=by simp
 obj:=λi h st b hb=>by
  have e:b=it:=by simpa using hb
  subst e;exact⟨_,st,λv z=>by
   have z':Data.fields _=Data.cell v:=z;cases z'⟩
 keep:=λi h h' st k=>k it (by simp) _ st
 item:=by
  intro X hP hw hK hc i pins s σ H E I hf st hg;subst hP hw hK;obtain⟨f0,f1,f2,f3,f4,f5⟩:=hf it (by simp);have W:=Walks.range (prog:=X.prog) (w:=X.w) (I.ok.hd hc) it lo 1 n;refine W.item i s _ _ hg st λv h' tk hv st' kk=>?_
  obtain⟨t,rfl⟩:=hv;have I1:Inv X pins σ H {s with heap:=h',toks:=tk}:=I.turned (λb o hb e=>kk b o (by simpa using hb) e) f0 f1 f3 f4 f5;refine⟨_,rfl,uH (s:={s with heap:=h',toks:=tk}) (n:="range_iterator") st' rfl rfl (by decide) ⟨.int (lo+i),H,I1,⟨t,?_⟩,⟨rfl,rfl⟩,st',λb hb=>(hf b hb).1⟩⟩;rw[Int.mul_one]
 done:=by
  intro X hP hw hK hc i pins s σ H E I hf st hg;subst hP hw hK;obtain⟨f0,f1,f2,f3,f4,f5⟩:=hf it (by simp);exact wpAny_pyNext_range_end (I.ok.hd hc) st (by have:n<=i:=hg;omega) λh' eb=>⟨rfl,I.turned (t':=s.toks) (λb o hb e=>eb b o hb e) f0 f1 f3 f4 f5⟩
 self:=λa a a a a st h=>wpAny_pyIter_rangeiter st h
noncomputable def GK(K:fg0)(tl:TE):TI:=λσ H R=>tl σ H λx H1=>∃a,x=.ref a/\(∃xs,SqL K H1 a xs)/\R (Itl K a) H1
def kZ{l:Expr}{tl:TE}(hl:PE X l tl):PI X tg l (GK X.K tl):=by
 intro pins s σ H R I h;refine thn (hl pins s σ H _ I h) λv s1 ⟨x,H1,I1,r1,q1⟩=>?_
 obtain⟨a,e,⟨xs,hq⟩,q⟩:=q1;subst e;cases r1;obtain⟨its,rv,p,hz⟩:=I1.list hq;refine wpAny_pyIter_list p.isList ?_;refine⟨s1.heap.objs.size,[s1.heap.objs.size],_,_,H1,rfl,I1.kept (t':=s1.toks) λb o e=>ps0 _ e,sx a _,⟨_,pz0 _ rfl,rfl,rfl⟩,λb hb=>?_,q⟩;have e:b=s1.heap.objs.size:=by simpa using hb
 subst e;exact I1.fpOk (nr0 _) (I1.hok.fresh (nr0 _))
def uI{R:It->Hp->Prop}{lo hi:Int}{t u v:Tok}{tk:Nat}(I:Inv X pins σ H s)(h1:-(2 ^ 62)<=lo)(h2:lo<2 ^ 62)(h3:-(2 ^ 62)<=hi)(h4:hi<2 ^ 62)
  (q:R (Itr lo (hi-lo).toNat) H):wpAny (model X.prog X.w) X.A (pyIter (.ref s.heap.objs.size)) (PIE X pins σ tg R) E {s with heap:=s.heap.push {cls:=.type "range",data:=.fields #[.int lo t,.int hi u,.int 1 v]},toks:=tk}:=by
 refine wpAny_pyIter_range (IsRange.new ..) (small_one h1 h2 h3 h4) ?_;have I1:Inv X pins σ H {s with heap:=s.heap.push {cls:=.type "range",data:=.fields #[.int lo t,.int hi u,.int 1 v]},toks:=tk}:=I.kept λb o e=>ps0 _ e
 refine⟨(s.heap.push {cls:=.type "range",data:=.fields #[.int lo t,.int hi u,.int 1 v]}).objs.size,[(s.heap.push {cls:=.type "range",data:=.fields #[.int lo t,.int hi u,.int 1 v]}).objs.size],_,_,H,rfl,
  I1.kept (t':=tk) λb o e=>ps0 _ e,oM _ lo (hi-lo).toNat,?_,λb hb=>?_,q⟩
 .have e1:lo+((0:Nat):Int)*1=lo:=by simp
  have e2:(((hi-lo).toNat:Nat):Int)-((0:Nat):Int)=Builtin.Range.rangeSize lo hi 1:=by rw[rangeSize_one];split<;>omega
  show IsRangeIter _ _ (lo+((0:Nat):Int)*1) ((((hi-lo).toNat:Nat):Int)-((0:Nat):Int)) 1;rw[e1,e2];exact pz0 _ rfl
 .have e:b=(s.heap.push {cls:=.type "range",data:=.fields #[.int lo t,.int hi u,.int 1 v]}).objs.size:=by simpa using hb
  subst e;exact I1.fpOk (nr0 _) (I1.hok.fresh (nr0 _))
noncomputable def GL(ta:TA):TI:=λσ H R=>ta σ H λvs H1=>∃j:Int,vs=[.int j]/\ -(2 ^ 62)<=j/\j<2 ^ 62/\R (Itr 0 j.toNat) H1
def sy{a:Expr}{ta:TA}(hg:Gl X "range")(hm:X.mg "range"=none)(ha:PA X [a] ta)(hs:starEach [a] X.env=[(false,eval a X.env)]:=by rfl):PI X tg (.Call (.Name "range" p) [a] [] pos) (GL ta):=by
 intro pins s σ H R I h;refine Call_ (ld_blt I hg hm boot_range (PyProof.Rows.callWith_type1 (thn (ha pos pins s σ H _ I h) λus s1 ⟨vs,H1,I1,r1,q1⟩=>?_) hs rfl));obtain⟨j,e,q1,q2,q⟩:=q1;subst e;cases r1 with
 |cons r rr=>
  cases rr;obtain⟨t,rfl⟩:=r;exact call_range_1 (uI I1 (by omega) (by omega) q1 q2 (by simpa using q))
noncomputable def Kd(wi:TI)(g:TG)(tb:TS):TS:=λD σ H=>wi σ H λJ H1=>∃W:Nat->Nat->St->Hp->Prop,(∃m,W 0 m σ H1)/\∀i m σ H,W i m σ H->
 (J.stop i H/\D.nx σ H)\/(J.go i H/\∃N:St->Hp->Prop,(∀σ' H',N σ' H'->∃m',m'<m/\W (i+1) m' σ' H')/\∀x H',J.yld i H x H'->g x σ H' λσ2 H2=>tb {D with nx:=N,ct:=N,bk:=D.nx} σ2 H2)
noncomputable def iH(fp:List Addr)(h:Heap):List (Addr×Obj):=fp.filterMap λb=>(h.get? b).map λo=>(b,o)
def di{o:Obj}(hb:b∈fp)(e:h.get? b=some o):(b,o)∈iH fp h:=List.mem_filterMap.mpr ⟨b,hb,by rw[e];rfl⟩
def sA{p:Addr×Obj}(hp:p∈iH fp h):p.1∈fp/\h.get? p.1=some p.2:=by
 obtain⟨b,hb,e⟩:=List.mem_filterMap.mp hp;cases q:h.get? b with
 |none=>rw[q]at e;cases e
 |some o=>
  rw[q]at e;have e':(b,o)=p:=Option.some.inj e;subst e';exact⟨hb,q⟩
def Inv.pinned(I:Inv X pins σ H s)(hf:∀b∈fp,fC X pins H b)(ho:∀b∈fp,∃o,s.heap.get? b=some o/\∀v,o.data≠.cell v):Inv X (pins++iH fp s.heap) σ H s:=
 I.pins_of λp hp=>(ma0 hp).elim (λz=>I.pin p (mr0 _ z)) λz=>by
  obtain⟨hb,e⟩:=sA z;obtain⟨f0,f1,f2,_⟩:=hf p.1 hb;obtain⟨o,e',d⟩:=ho p.1 hb;rw[e]at e';cases e';exact⟨e,f0,f1,f2,d⟩
def Inv.unpinned{pl:List (Addr×Obj)}(I:Inv X (pins++pl) σ H s):Inv X pins σ H s:=I.pins_of λp hp=>I.pin p (mr0 _ (List.mem_append_left _ hp))
def uJ{iter:Expr}{wi:TI}{g:TG}{tb:TS}(hp:PassesOwn (model X.prog X.w) X.A X.env X.xe)(hc:X.calm=true)(hi:PI X tg iter wi)(hg:PG X tg g)(hb:PSs X body tb)
  (hs:∀x,foldedSetIterable iter X.env x=pure x:=by intro _;rfl):PS X (.For tg iter body [] pos) (Kd wi g tb):=by
 intro pins s σ H D I h;refine wpAny_For (thn (hi pins s σ H _ I h) λv s1 h1=>thn h1 λitv s2 h2=>?_) hs;obtain⟨it,fp,tn,J,H2,e,I2,T,st2,f2,W,⟨m0,w0⟩,turn⟩:=h2;subst e;have stat:∀{H':Hp},(∀b∈fp,H' b=none)->∀b∈fp,fC X pins H' b:=λhn b hb=>⟨hn b hb,(f2 b hb).2⟩
 refine codeAny_forLoop_any (λn s'=>∃i σ' H',Inv X pins σ' H' s'/\tn i s'.heap/\(∀b∈fp,H' b=none)/\W i n σ' H') ?_ m0 ⟨0,σ,H2,I2,st2,λb hb=>(f2 b hb).1,w0⟩
 rintro n s3 ⟨i,σ3,H3,I3,st3,fr3,w3⟩
 rcases turn i n σ3 H3 w3 with⟨stop,qn⟩|⟨go,N,hN,step⟩
 .refine wpAny_passesOwn hp (thn (T.done X rfl rfl rfl hc i pins s3 σ3 H3 X.xe I3 (stat fr3) st3 stop) λr s4 ⟨hr,I4⟩=>?_)
  subst hr;exact wpAny_execs_nil ⟨σ3,H3,I4,qn⟩
 .refine wpAny_passesOwn hp (thn (T.item X rfl rfl rfl hc i pins s3 σ3 H3 X.xe I3 (stat fr3) st3 go) λr s4 ⟨u,hr,h4⟩=>?_)
  subst hr;refine wpAny_passesOwn hp (thn h4 λa s5 ⟨x,H5,I5,r5,y5,st5,fr5⟩=>?_);have I5':=I5.pinned (stat fr5) (T.obj _ _ st5);refine wpAny_passesOwn hp (thn (hg _ s5 σ3 H5 x u _ I5' r5 (step x H5 y5)) λa s6 ⟨σ6,H6,I6,q6⟩=>?_);refine wpAny_passesOwn hp (thn (hb _ s6 σ6 H6 _ I6 q6) λf s7 q7=>?_);have again:∀{σ7:St}{H7:Hp},Inv X (pins++iH fp s5.heap) σ7 H7 s7->N σ7 H7->∃m,m<n/\∃i σ' H',Inv X pins σ' H' s7/\tn i s7.heap/\(∀b∈fp,H' b=none)/\W i m σ' H':=λ{σ7 H7} I7 n7=>by
   obtain⟨m',hm,w7⟩:=hN σ7 H7 n7;refine⟨m',hm,i+1,σ7,H7,I7.unpinned,T.keep _ _ _ st5 λb hb o e=>(I7.pin (b,o) (mr0 _ (mr0 _ (di hb e)))).1,λb hb=>?_,w7⟩;obtain⟨o,e,d⟩:=T.obj _ _ st5 b hb;exact (I7.pin (b,o) (mr0 _ (mr0 _ (di hb e)))).2.1
  cases f with
  |next=>obtain⟨σ7,H7,I7,n7⟩:=q7;exact again I7 n7
  |cont=>obtain⟨σ7,H7,I7,n7⟩:=q7;exact again I7 n7
  |brk=>obtain⟨σ7,H7,I7,q7⟩:=q7;exact⟨σ7,H7,I7.unpinned,q7⟩
  |ret v=>obtain⟨x7,σ7,H7,I7,r7,q7⟩:=q7;exact⟨x7,σ7,H7,I7.unpinned,r7,q7⟩
noncomputable abbrev R2:=V->V->Hp->VK->Prop
def OpR(X:Cx)(f:Value->Value->Sem Value)(r:R2):Prop:=
 ∀(pins:List (Addr×Obj))(s:Shared)(σ:St)(H:Hp)(x y:V)(v u:Value)(Q:VK),Inv X pins σ H s->RelV x v->RelV y u->r x y H Q->
  wpAny (model X.prog X.w) X.A (f v u) (EP X pins σ Q) X.xe s
def UnR(X:Cx)(f:Value->Sem Value)(r:V->Hp->VK->Prop):Prop:=
 ∀(pins:List (Addr×Obj))(s:Shared)(σ:St)(H:Hp)(x:V)(v:Value)(Q:VK),Inv X pins σ H s->RelV x v->r x H Q->
  wpAny (model X.prog X.w) X.A (f v) (EP X pins σ Q) X.xe s
def ba(X:Cx)(f:Value)(r:List V->Hp->VK->Prop):Prop:=
 ∀(pins:List (Addr×Obj))(s:Shared)(σ:St)(H:Hp)(xs:List V)(us:List Value)(Q:VK),Inv X pins σ H s->Vals xs us->r xs H Q->
  wpAny (model X.prog X.w) X.A (call f us) (EP X pins σ Q) X.xe s
def Ke(X:Cx)(r:V->Hp->(Bool->Hp->Prop)->Prop):Prop:=
 ∀(pins:List (Addr×Obj))(s:Shared)(σ:St)(H:Hp)(x:V)(v:Value)(Q:Bool->Hp->Prop),Inv X pins σ H s->RelV x v->r x H Q->
  wpAny (model X.prog X.w) X.A (truthy v) (TP X pins σ Q) X.xe s
def tOp(r:R2)(ta tb:TE):TE:=λσ H Q=>ta σ H λx H1=>tb σ H1 λy H2=>r x y H2 Q
def tUn(r:V->Hp->VK->Prop)(ta:TE):TE:=λσ H Q=>ta σ H λx H1=>r x H1 Q
noncomputable def rI(C:Int->Int->Prop)(g:Int->Int->V):R2:=λx y H Q=>∃i j,x=.int i/\y=.int j/\C i j/\Q (g i j) H
def rI0(g:Int->Int->V):R2:=λx y H Q=>∃i j,x=.int i/\y=.int j/\Q (g i j) H
def rU(g:Int->V):V->Hp->VK->Prop:=λx H Q=>∃i,x=.int i/\Q (g i) H
section
variable {a b:Expr}{tc:TE}
def binT(ha:PE X a ta)(hb:PE X b tb){R:V->V->Hp->Prop}(I:Inv X pins σ H s)
  (h:ta σ H λx H1=>tb σ H1 λy H2=>R x y H2)  {f:Value->Value->Sem Value}
  (hf:∀v u s2 x y H2,Inv X pins σ H2 s2->RelV x v->RelV y u->R x y H2->wpAny (model X.prog X.w) X.A (f v u) Q X.xe s2):
  wpAny (model X.prog X.w) X.A (eval a X.env) (λv s₁=>wpAny (model X.prog X.w) X.A (eval b X.env) (λu s₂=>wpAny (model X.prog X.w) X.A (f v u) Q X.xe s₂) X.xe s₁) X.xe s:=by
 refine thn (ha pins s σ H _ I h) λv s1 ⟨x,H1,I1,r1,q1⟩=>?_
 refine thn (hb pins s1 σ H1 _ I1 q1) λu s2 ⟨y,H2,I2,r2,q2⟩=>?_
 exact hf v u s2 x y H2 I2 r1 r2 q2
def BD{op:Operator}{r:R2}(ho:OpR X (binaryOp op) r)(ha:PE X a ta)(hb:PE X b tb):PE X (.BinOp a op b pos) (tOp r ta tb):=by
 intro pins s σ H Q I h;exact wpAny_BinOp (binT ha hb I h λv u s2 x y H2 I2 rx ry q=>ho pins s2 σ H2 x y v u Q I2 rx ry q)
def GM{op:UnaryOp}{r:V->Hp->VK->Prop}(ho:UnR X (unaryOp op) r)(ha:PE X a ta):PE X (.UnaryOp op a pos) (tUn r ta):=by
 intro pins s σ H Q I h;exact UnaryOp_ (thn (ha pins s σ H _ I h) λv s1 ⟨x,H1,I1,r1,q1⟩=>ho pins s1 σ H1 x v Q I1 r1 q1)
def opI{f:Value->Value->Sem Value}{C:Int->Int->Prop}{g:Int->Int->Int}
  (rule:∀(i j:Int)(t u:Tok)(s:Shared)(Q:Value->Shared->Prop)(E:Value->Shared->Prop),C i j->Q (.int (g i j) s.toks) {s with toks:=s.toks+1}->wpAny (model X.prog X.w) X.A (f (.int i t) (.int j u)) Q E s):
  OpR X f (rI C λi j=>.int (g i j)):=by
 intro pins s σ H x y v u Q I rx ry h;obtain⟨i,j,rfl,rfl,hc,q⟩:=h;obtain⟨t,rfl⟩:=rx;obtain⟨t',rfl⟩:=ry;exact rule i j t t' s _ _ hc ⟨.int (g i j),H,I.tok _,⟨_,rfl⟩,q⟩
def GN{f:Value->Value->Sem Value}{g:Int->Int->Int}
  (rule:∀(i j:Int)(t u:Tok)(s:Shared)(Q:Value->Shared->Prop)(E:Value->Shared->Prop),Q (.int (g i j) s.toks) {s with toks:=s.toks+1}->wpAny (model X.prog X.w) X.A (f (.int i t) (.int j u)) Q E s):
  OpR X f (rI0 λi j=>.int (g i j)):=by
 intro pins s σ H x y v u Q I rx ry h;obtain⟨i,j,rfl,rfl,q⟩:=h;obtain⟨t,rfl⟩:=rx;obtain⟨t',rfl⟩:=ry;exact rule i j t t' s _ _ ⟨.int (g i j),H,I.tok _,⟨_,rfl⟩,q⟩
def CM{f:Value->Value->Sem Value}{g:Int->Int->Bool}
  (rule:∀(i j:Int)(t u:Tok)(s:Shared)(Q:Value->Shared->Prop)(E:Value->Shared->Prop),Q (.bool (g i j)) s->wpAny (model X.prog X.w) X.A (f (.int i t) (.int j u)) Q E s):
  OpR X f (rI0 λi j=>.bl (g i j)):=by
 intro pins s σ H x y v u Q I rx ry h;obtain⟨i,j,rfl,rfl,q⟩:=h;obtain⟨t,rfl⟩:=rx;obtain⟨t',rfl⟩:=ry;exact rule i j t t' s _ _ ⟨.bl (g i j),H,I,rfl,q⟩
def Kf(i j:Int):Prop:=0<j/\j<1073741824
def CMul(i j:Int):Prop:=(-(2 ^ 64)<i/\i<2 ^ 64)\/(-(2 ^ 64)<j/\j<2 ^ 64)
def CMul.ok{i j:Int}(h:CMul i j):IntMulOk i j:=by
 rcases h with⟨h1,h2⟩|⟨h1,h2⟩
 .exact .of_left (intBits_le_64 h1 h2)
 .exact .of_right (intBits_le_64 h1 h2)
def CN:OpR X (binaryOp .Add) (rI0 λi j=>.int (i+j)):=GN λa a a a a a a q=>add_int q
def CO:OpR X (binaryOp .Sub) (rI0 λi j=>.int (i-j)):=GN λa a a a a a a q=>sub_int q
def op_mul:OpR X (binaryOp .Mult) (rI CMul λi j=>.int (i*j)):=opI λa a a a a a a hc q=>mul_int q hc.ok
def op_fdiv:OpR X (binaryOp .FloorDiv) (rI Kf λi j=>.int (i / j)):=opI λi j a a a a a hc q=>by
 have h1:(0:Int)<j:=hc.1;have h2:j<1073741824:=hc.2;exact floordiv_int (by omega) (by rw[Int.fdiv_eq_ediv_of_nonneg i (by omega)];exact q) (.inl (PyProof.noPylong_small (by omega)))
def op_mod:OpR X (binaryOp .Mod) (rI (λa j=>0<j) λi j=>.int (i % j)):=opI λi j a a a a a hc q=>by
 have h1:(0:Int)<j:=hc;exact mod_int' (by omega) (by rw[Int.fmod_eq_emod_of_nonneg i (by omega)];exact q)
def unI{f:Value->Sem Value}{g:Int->Int}
  (rule:∀(i:Int)(t:Tok)(s:Shared)(Q:Value->Shared->Prop)(E:Value->Shared->Prop),Q (.int (g i) s.toks) {s with toks:=s.toks+1}->wpAny (model X.prog X.w) X.A (f (.int i t)) Q E s):
  UnR X f (rU λi=>.int (g i)):=by
 intro pins s σ H x v Q I rx h;obtain⟨i,rfl,q⟩:=h;obtain⟨t,rfl⟩:=rx;exact rule i t s _ _ ⟨.int (g i),H,I.tok _,⟨_,rfl⟩,q⟩
def CP:UnR X (unaryOp .USub) (rU λi=>.int (-i)):=unI λa a a a a q=>neg_int q
end
section
variable {a b:Expr}{tc:TE}
def cp{Q:VK}{k k':Bool}(I:Inv X pins σ H s)(q:Q (.bl k) H)(e:k=k'):EP X pins σ Q (.bool k') s:=by
 subst e;exact⟨.bl k,H,I,rfl,q⟩
def GO:OpR X (compareOp .Lt) (rI0 λi j=>.bl (decide (i<j))):=CM λa a a a a a a q=>lt_int q
def GP:OpR X (compareOp .LtE) (rI0 λi j=>.bl (decide (i<=j))):=CM λa a a a a a a q=>le_int q
def GQ:OpR X (compareOp .Gt) (rI0 λi j=>.bl (decide (j<i))):=CM λa a a a a a a q=>gt_int q
def sC:OpR X (compareOp .Lt) (λx y H Q=>∃i j,x=.str i/\y=.str j/\Q (.bl (decide (i.cps.toList<j.cps.toList))) H):=by
 intro pins s σ H x y v u Q I rx ry h;obtain⟨i,j,rfl,rfl,q⟩:=h;obtain⟨t,rfl⟩:=rx;obtain⟨t',rfl⟩:=ry;exact lt_str (cp I q rfl)
def sD:OpR X (compareOp .In) (λx y H Q=>∃i j,x=.str i/\y=.str j/\Q (.bl (!(Builtin.Str.occurrences j i 0 j.length 1).isEmpty)) H):=by
 intro pins s σ H x y v u Q I rx ry h;obtain⟨i,j,rfl,rfl,q⟩:=h;obtain⟨t,rfl⟩:=rx;obtain⟨t',rfl⟩:=ry;exact in_str (cp I q rfl)
def CQ:OpR X (compareOp .Is) (λx y H Q=>y=.non/\Q (.bl (decide (x=.non))) H):=by
 intro pins s σ H x y v u Q I rx ry h;obtain⟨rfl,q⟩:=h;cases ry;refine is_none_gen (cp I q ?_);cases x<;>first
  |(cases rx;rfl)
  |(obtain⟨t,rfl⟩:=rx;rfl)
def zg:OpR X (compareOp .IsNot) (λx y H Q=>y=.non/\Q (.bl (!decide (x=.non))) H):=by
 intro pins s σ H x y v u Q I rx ry h;obtain⟨rfl,q⟩:=h;cases ry;refine isnot_none_gen (cp I q ?_);cases x<;>first
  |(cases rx;rfl)
  |(obtain⟨t,rfl⟩:=rx;rfl)
def zh{op:CmpOp}{r:R2}(ho:OpR X (compareOp op) r)(ha:PE X a ta)(hb:PE X b tb)(hm:behindInMarks op b=false):PE X (.Compare a [op] [b] pos) (tOp r ta tb):=by
 intro pins s σ H Q I h;exact wpAny_Compare1 (binT ha hb I h λv u s2 x y H2 I2 rx ry q=>ho pins s2 σ H2 x y v u Q I2 rx ry q) hm
def BE(t:TE):TT:=λσ H Q=>t σ H λx H'=>∃k,x=.bl k/\Q k H'
def ik{op:CmpOp}{r:R2}(ho:OpR X (compareOp op) r)(ha:PE X a ta)(hb:PE X b tb)(hm:behindInMarks op b=false):PT X (.Compare a [op] [b] pos) (BE (tOp r ta tb)):=by
 intro pins s σ H Q I h;refine wpAny_isTrue_Compare1 (thn (ha pins s σ H _ I h) λv s1 ⟨x,H1,I1,r1,q1⟩=>thn (hb pins s1 σ H1 _ I1 q1) λu s2 ⟨y,H2,I2,r2,q2⟩=>
  thn (ho pins s2 σ H2 x y v u _ I2 r1 r2 q2) λc s3 ⟨z,H3,I3,r3,k,e,q3⟩=>?_) hm
 subst e;cases r3;exact wpAny_truthy_bool ⟨H3,I3,q3⟩
noncomputable def oN(r r':R2)(ta tb tc:TE):TE:=λσ H Q=>ta σ H λx H1=>tb σ H1 λy H2=>r x y H2 λz H3=>∃k,z=.bl k/\
 (if k=true then tc σ H3 λw' H4=>r' y w' H4 Q else Q (.bl false) H3)
def uK{op op':CmpOp}{r r':R2}(ho:OpR X (compareOp op) r)(ho':OpR X (compareOp op') r')(ha:PE X a ta)(hb:PE X b tb)(hc:PE X c tc)
  (hm:lastMarks [op,op'] [b,c]=false:=by with_unfolding_all rfl):PE X (.Compare a [op,op'] [b,c] pos) (oN r r' ta tb tc):=by
 intro pins s σ H Q I h;refine Compare_chain (thn (ha pins s σ H _ I h) λv s1 ⟨x,H1,I1,r1,q1⟩=>chain_link (thn (hb pins s1 σ H1 _ I1 q1) λu s2 ⟨y,H2,I2,r2,q2⟩=>
  thn (ho pins s2 σ H2 x y v u _ I2 r1 r2 q2) λd s3 ⟨z,H3,I3,r3,k,e,q3⟩=>?_)) hm
 subst e;cases r3;refine wpAny_truthy_bool ?_;cases k with
 |false=>exact ite_ff ⟨.bl false,H3,I3,rfl,q3⟩
 |true=>exact ite_tt (chain_last (thn (hc pins s3 σ H3 _ I3 q3) λw' s4 ⟨z',H4,I4,r4,q4⟩=>ho' pins s4 σ H4 y z' u w' Q I4 r2 r4 q4))
def uL{op op':CmpOp}{r r':R2}(ho:OpR X (compareOp op) r)(ho':OpR X (compareOp op') r')(ha:PE X a ta)(hb:PE X b tb)(hc:PE X c tc)
  (hm:lastMarks [op,op'] [b,c]=false:=by with_unfolding_all rfl):PT X (.Compare a [op,op'] [b,c] pos) (BE (oN r r' ta tb tc)):=by
 intro pins s σ H Q I h;refine isTrue_chain (thn (ha pins s σ H _ I h) λv s1 ⟨x,H1,I1,r1,q1⟩=>test_link (thn (hb pins s1 σ H1 _ I1 q1) λu s2 ⟨y,H2,I2,r2,q2⟩=>
  thn (ho pins s2 σ H2 x y v u _ I2 r1 r2 q2) λd s3 ⟨z,H3,I3,r3,k,e,q3⟩=>?_)) hm
 subst e;cases r3;refine wpAny_truthy_bool ?_;cases k with
 |false=>
  obtain⟨k',e',q'⟩:=q3;cases e';exact ite_ff ⟨H3,I3,q'⟩
 |true=>
  refine ite_tt (test_last (thn (hc pins s3 σ H3 _ I3 q3) λw' s4 ⟨z',H4,I4,r4,q4⟩=>thn (ho' pins s4 σ H4 y z' u w' _ I4 r2 r4 q4) λd' s5 ⟨z2,H5,I5,r5,k2,e2,q5⟩=>?_));subst e2;cases r5;exact wpAny_truthy_bool ⟨H5,I5,q5⟩
def CS(K:fg0)(x:V)(H:Hp)(k:Bool):Prop:=
 match x with
 |.non=>k=false
 |.bl b=>k=b
 |.int i=>k=(i != 0)
 |.str y=>y.length<=sizeLine/\k=((y.length:Int) != 0)
 |.byt y=>y.size<=sizeLine/\k=((y.size:Int) != 0)
 |.ref p=>(∃xs,SqL K H p xs/\k=!xs.isEmpty)\/(∃xs,SqT K H p xs/\k=!xs.isEmpty)\/∃kvs,H p=some (.dK kvs)/\k=!kvs.isEmpty
 |_=>False
def oO{J:Type}{kvs:List (J×V)}{vs:List (J×Value)}(r:KV kvs vs):(!vs.isEmpty)=!kvs.isEmpty:=by
 cases r<;>rfl
def iI{its:List Value}(r:Vals xs its):(!its.toArray.isEmpty)=!xs.isEmpty:=by
 cases r<;>simp
def fj:(sizeLine:Nat)<2 ^ 63:=by rw[sizeLine_eq];decide
def CT:Ke X (λx H Q=>∃k,CS X.K x H k/\Q k H):=by
 intro pins s σ H x v Q I rx h;obtain⟨k,e,q⟩:=h;have hl:=fj;have hs:sizeLine=16777216:=sizeLine_eq;cases x with
 |non=>
  cases rx;have e':k=false:=e;subst e';exact truthy_none ⟨H,I,q⟩
 |bl b=>
  cases rx;have e':k=b:=e;subst e';exact wpAny_truthy_bool ⟨H,I,q⟩
 |int i=>
  obtain⟨t,rfl⟩:=rx;have e':k=(i != 0):=e;subst e';exact PySem.P.truthy_int ⟨H,I,q⟩
 |str y=>
  obtain⟨t,rfl⟩:=rx;obtain⟨hy,e'⟩:y.length<=sizeLine/\k=((y.length:Int) != 0):=e;subst e';exact PySem.P.truthy_str (by omega) ⟨H,I.tok _,q⟩
 |byt y=>
  obtain⟨t,rfl⟩:=rx;obtain⟨hy,e'⟩:y.size<=sizeLine/\k=((y.size:Int) != 0):=e;subst e';exact PySem.W.truthy_bytes (by omega) ⟨H,I.tok _,q⟩
 |ref p=>
  cases rx;have e':(∃xs,SqL X.K H p xs/\k=!xs.isEmpty)\/(∃xs,SqT X.K H p xs/\k=!xs.isEmpty)\/∃kvs,H p=some (.dK kvs)/\k=!kvs.isEmpty:=e;rcases e' with⟨xs,hx,e'⟩|⟨xs,hx,e'⟩|⟨kvs,hx,e'⟩
  .subst e'
   obtain⟨its,r,pl,hz⟩:=I.list hx;have hlen:=r.length;exact wpAny_truthy_list pl.isList (by simp only[ls0];omega) ⟨H,I.tok _,by rw[iI r];exact q⟩
  .subst e'
   obtain⟨its,r,pl,hz⟩:=I.tuple hx;have hlen:=r.length;exact truthy_tuple pl (by simp only[ls0];omega) ⟨H,I.tok _,by rw[iI r];exact q⟩
  .subst e'
   obtain⟨hz,hS,vs,r,m⟩:kvs.length<=sizeLine/\(p==sysModules)=false/\∃vs,KV kvs vs/\s.heap.DictOf (av X.prog X.w) p vs:=I.hok p _ hx;have hlen:kvs.length=vs.length:=Paired.length r;exact wpAny_truthy_dict hS m (by omega) ⟨H,I.tok _,by rw[oO r];exact q⟩
 |_=>exact (show False from e).elim
def uM(ha:PE X a ta)(he:∀whole,isTrue a X.env whole=(do let v ←whole;standAt a.pos;holding [v] (truthy v))):
  PT X a (λσ H Q=>ta σ H λx H'=>∃k,CS X.K x H' k/\Q k H'):=by
 intro pins s σ H Q I h;exact isTrue_plain (thn (ha pins s σ H _ I h) λv s1 ⟨x,H1,I1,r1,q1⟩=>CT pins s1 σ H1 x v Q I1 r1 q1) (he _)
def op_add_str:OpR X (binaryOp .Add) (λx y H Q=>∃i j,x=.str i/\y=.str j/\i.length+j.length<=sizeLine/\Q (.str (i++j)) H):=by
 intro pins s σ H x y v u Q I rx ry h;obtain⟨i,j,rfl,rfl,hz,q⟩:=h;obtain⟨t,rfl⟩:=rx;obtain⟨t',rfl⟩:=ry;exact add_str (λt' tk=>⟨.str (i++j),H,I.tok _,⟨_,rfl⟩,q⟩) hz
def vals1{x:V}(r:Vals [x] us):∃u,us=[u]/\RelV x u:=by
 cases r with
 |cons r1 r2=>cases r2;exact⟨_,rfl,r1⟩
def vals2{x y:V}(r:Vals [x,y] us):∃u w',us=[u,w']/\RelV x u/\RelV y w':=by
 cases r with
 |cons r1 r2=>
  cases r2 with
  |cons r3 r4=>cases r4;exact⟨_,_,rfl,r1,r3⟩
def jT:ba X (.type "int") (λxs H Q=>(∃i,xs=[.int i]/\Q (.int i) H)\/∃k,xs=[.bl k]/\Q (.int (if k then 1 else 0)) H):=by
 intro pins s σ H xs us Q I r h;rcases h with⟨i,rfl,q⟩|⟨k,rfl,q⟩
 .obtain⟨u,rfl,t,rfl⟩:=vals1 r
  exact call_int_int ⟨.int i,H,I,⟨_,rfl⟩,q⟩
 .obtain⟨u,rfl,r1⟩:=vals1 r
  cases r1;exact call_int_bool ⟨.int (if k then 1 else 0),H,I.tok _,⟨_,rfl⟩,q⟩
def lb:ba X (.type "str") (λxs H Q=>∃i,xs=[.int i]/\i.natAbs.log2<1920/\Q (.str (toString i)) H):=by
 intro pins s σ H xs us Q I r h;obtain⟨i,rfl,hz,q⟩:=h;obtain⟨u,rfl,t,rfl⟩:=vals1 r;exact PySem.P.str_of_int hz ⟨.str _,H,I.tok _,⟨_,rfl⟩,q⟩
def Kg(K:fg0)(x:V)(H:Hp)(n:Nat):Prop:=
 match x with
 |.str y=>y.length<=sizeLine/\n=y.length
 |.byt y=>y.size<=sizeLine/\n=y.size
 |.ref p=>(∃xs,SqL K H p xs/\n=xs.length)\/∃xs,SqT K H p xs/\n=xs.length
 |_=>False
def fD:ba X (.builtin "len") (λxs H Q=>∃x n,xs=[x]/\Kg X.K x H n/\Q (.int n) H):=by
 intro pins s σ H xs us Q I r h;obtain⟨x,n,rfl,e,q⟩:=h;obtain⟨u,rfl,rx⟩:=vals1 r;have hl:=fj;have hs:sizeLine=16777216:=sizeLine_eq;cases x with
 |str y=>
  obtain⟨t,rfl⟩:=rx;obtain⟨hy,e'⟩:y.length<=sizeLine/\n=y.length:=e;subst e';exact len_str (by omega) ⟨.int _,H,I.tok _,⟨_,rfl⟩,q⟩
 |byt y=>
  obtain⟨t,rfl⟩:=rx;obtain⟨hy,e'⟩:y.size<=sizeLine/\n=y.size:=e;subst e';exact PySem.W.len_bytes (by omega) ⟨.int _,H,I.tok _,⟨_,rfl⟩,q⟩
 |ref p=>
  cases rx;have e':(∃xs,SqL X.K H p xs/\n=xs.length)\/∃xs,SqT X.K H p xs/\n=xs.length:=e;rcases e' with⟨xs,hx,e'⟩|⟨xs,hx,e'⟩
  .subst e'
   obtain⟨its,r',pl,hz⟩:=I.list hx;have hlen:=r'.length;exact Calls.call_len_list pl.isList (by simp only[ls0];omega) ⟨.int xs.length,H,I.tok _,⟨_,by simp only[ls0];rw[hlen]⟩,q⟩
  .subst e'
   obtain⟨its,r',pl,hz⟩:=I.tuple hx;have hlen:=r'.length;exact len_tuple pl (by simp only[ls0];omega) ⟨.int xs.length,H,I.tok _,⟨_,by simp only[ls0];rw[hlen]⟩,q⟩
 |_=>exact (show False from e).elim
end
structure ObjM(h:Heap)(x dx C:Addr)(mA:Str->Option Value):Prop where
 obj:h.get? x=some (PySem.W.instObj C dx)
 ns:h.Ns1 dx mA
 ne:dx≠x
set_option tactic.hygienic true in
def sE(n:h.Ns1 dx mA):∃od,h.get? dx=some od/\∀name,PySem.W.lookIn name od=some (mA name):=by
 obtain⟨o,es,ep,ho,hd,hk,_,hm⟩:=n;refine⟨o,ho,λname=>?_⟩;have e:=hm name;unfold nsFind findBy at e;rw[<-Array.find?_toList]at e;unfold PySem.W.lookIn;rw[hd];dsimp only;split
 .rename_i y q
  rw[q]at e;exact congrArg some e
 .rename_i q
  rw[q]at e;have a:es.toList.any (·.refKey)=false:=by
   rw[List.any_eq_false];intro y hy;obtain⟨z,t,hkey⟩:=hk y (Array.mem_toList_iff.mp hy);simp[DictEntry.refKey,hkey]
  have a':¬ es.toList.any (·.refKey)=true:=by rw[a];exact fx0
  rw[if_neg a'];exact congrArg some e
def ObjM.look{x:Addr}(I:ObjM h x dx C mA):∃od,PySem.W.InstAt h x (PySem.W.instObj C dx) C (some od)/\∀name,PySem.W.lookIn name od=some (mA name):=
 let ⟨od,ho,hl⟩:=sE I.ns
 ⟨od,⟨I.obj,rfl,rfl,ho⟩,hl⟩
section
variable {K:fg0}{x:Addr}{name:Str}
def get_map{expr:Bool}(X:K.In s.heap)(I:ObjM s.heap x dx C mA)(hg:PySem.W.plainGet K C name=true)(hh:PySem.W.hasDictIn K C=true)
  (ha:PySem.W.findIn K (.ref C) name=some none) (hv:mA name=some v) (hv':PySem.W.handedIn v=true) (h:Q v {s with toks:=s.toks+1}):
  wpAny (model prog w) A (getAttr (.ref x) name expr) Q E s:=by
 obtain⟨od,J,hl⟩:=I.look;exact PySem.W.get_value X J (PySem.W.plainGet_of hg).1 (PySem.W.findObj_own hh ha rfl (by rw[hl,hv])) hv' h
def uN{pl:Sem Bool}{Q:Value×List Value->Shared->Prop}(X:K.In s.heap)(I:ObjM s.heap x dx C mA)(hg:PySem.W.plainGet K C name=true)
  (hf:PySem.W.findIn K (.ref C) name=some (some (.ref f))) (ht:PySem.W.isFn K (.ref f)=true) (hv:mA name=none) (h:Q (.ref f,[.ref x]) s):
  wpAny (model prog w) A (getMethod (.ref x) name pl) Q E s:=by
 obtain⟨od,J,hl⟩:=I.look;exact PySem.W.method_fn X J (PySem.W.plainGet_of hg).1 (PySem.W.plainGet_of hg).2 hf (beq_iff_eq.mp ht) (by show (PySem.W.lookIn name od).map (·.isSome)=some false;rw[hl,hv];rfl) h
def zi{ns:List Str}{Q:Unit->Shared->Prop}(X:K.In s.heap)(I:ObjM s.heap x dx C mA)
  (hs:PySem.W.findIn K (.ref C) "__setattr__"=some (some (.builtin "object.__setattr__"))) (hp:PySem.W.plainOver K C=true) (ht:PySem.W.takerIn K C name=some none) (hh:PySem.W.hasDictIn K C=true)
  (hw:PySem.Within mA ns) (hsz:ns.length<=sizeLine)
  (h:∀h',ObjM h' x dx C (λy=>if y=name then some v else mA y)->Heap.SameBut dx s.heap h'->Q () {s with heap:=h',toks:=s.toks+2}):
  wpAny (model prog w) A (setAttr (.ref x) name v) Q E s:=by
 obtain⟨od,J,hl⟩:=I.look;refine PySem.W.set_plain X J hs (PySem.W.osa_open (s:={s with toks:=s.toks+1}) (r:=none) X J hp ht λb=>?_);obtain⟨cd,hc,hd'⟩:=PySem.W.any_some hh;have hx:s.heap.get? x=some ⟨.ref C,some dx,.plain,#[]⟩:=I.obj;refine wb0 (wq0 (wb0 (wb0 (wpAny_loadPart hx (wb0 (PySem.W.Looks.here (s:={s with toks:=s.toks+1}) (PySem.W.looks_clsIn X hc) ?_))))));rw[hd'];refine wq0 (a:=some dx) (wb0 (wq0 (wb0 ?_)));refine wpAny_nsSet1 (s:={s with toks:=s.toks+1}) I.ns λh' hn2 hs2=>?_
 obtain⟨oD,esD,epD,hoD,hdD,hcD⟩:=hn2.count (PySem.Within.cons name v hw);refine wb0 (wpAny_lookBehind hoD (by rw[hdD];exact pastItsLine_dict (nt0 hcD (by rw[lc0];omega))) ?_);exact wq0 (h _ ⟨(hs2.2 _ (Ne.symm I.ne)).trans I.obj,hn2,I.ne⟩ hs2)
def uO{R:Result->Shared->Prop}{vs:List Value}{kw:List (Str×Value)}(X:K.In s.heap)(hm:PySem.W.makesIn K C=true)
  (hi:PySem.W.findIn K (.ref C) "__init__"=some (some (.ref f))) (hf:PySem.W.typeIn K (.ref f)=some (.type "function"))
  (h:codeAny (model prog w) (A.under (.builtin "type.__call__" ⟨.ref C::vs,kw⟩)) (.call (.ref f) ⟨.ref (s.heap.objs.size+1)::vs,kw⟩) (PySem.W.InitBack (s.heap.objs.size+1) R)
   {s with heap:=(s.heap.push PySem.W.emptyDict).push (PySem.W.instObj C s.heap.objs.size)}):
  codeAny (model prog w) A (.call (.ref C) ⟨vs,kw⟩) R s:=by
 obtain⟨hh,g,d,t,os⟩:=s;exact PySem.W.make_core (PySem.W.makes_of X hm) (PySem.W.looks_findIn X hi) (λself=>PySem.W.bind_fn X self hf) (.inl rfl) h
end
noncomputable def eT(f:Str)(v:V):List (Str×V)->List (Str×V)
 |[]=>[(f,v)]
 |(g,x)::r=>if g=f then (g,v)::r else (g,x)::eT f v r
theorem gW(f g:Str)(v:V):∀fs:List (Str×V),(eT f v fs).lookup g=if g=f then some v else fs.lookup g
 |[]=>by
  show List.lookup g [(f,v)]=_
  by_cases h:g=f
  .have hb:(g==f)=true:=beq_iff_eq.mpr h
   simp only[List.lookup,hb,if_pos h]
  .have hb:(g==f)=false:=bn0 h
   simp only[List.lookup,hb,if_neg h]
 |(k,x)::r=>by
  have ih:=gW f g v r;rw[show eT f v ((k,x)::r)=(if k=f then (k,v)::r else (k,x)::eT f v r)from rfl]
  by_cases hk:k=f
  .rw[if_pos hk]
   by_cases h:g=k
   .have hb:(g==k)=true:=beq_iff_eq.mpr h
    simp only[List.lookup,hb,if_pos (h.trans hk)]
   .have hb:(g==k)=false:=bn0 h
    simp only[List.lookup,hb,if_neg (λe:g=f=>h (e.trans hk.symm))]
  .rw[if_neg hk]
   by_cases h:g=k
   .have hb:(g==k)=true:=beq_iff_eq.mpr h
    simp only[List.lookup,hb,if_neg (λe:g=f=>hk (h.symm.trans e))]
   .have hb:(g==k)=false:=bn0 h
    simp only[List.lookup,hb];exact ih
theorem gp(f:Str)(v:V):∀fs:List (Str×V),f∈(eT f v fs).map (·.1)/\∀g,g∈fs.map (·.1)->g∈(eT f v fs).map (·.1)
 |[]=>⟨by simp[eT],λg h=>by simp at h⟩
 |(k,x)::r=>by
  obtain⟨i1,i2⟩:=gp f v r;rw[show eT f v ((k,x)::r)=(if k=f then (k,v)::r else (k,x)::eT f v r)from rfl]
  by_cases hk:k=f
  .rw[if_pos hk]
   subst hk;exact⟨by simp,λg h=>by simpa using h⟩
  .rw[if_neg hk]
   refine⟨?_,λg h=>?_⟩
   .rw[mk0]
    exact mc0 _ i1
   .rw[mk0]at h ⊢
    rcases mq0 h with e|e
    .exact List.mem_cons.mpr (.inl e)
    .exact mc0 _ (i2 g e)
theorem gX(f:Str)(v:V):∀fs:List (Str×V),(eT f v fs).length<=fs.length+1
 |[]=>by simp[eT]
 |(k,x)::r=>by
  have ih:=gX f v r;rw[show eT f v ((k,x)::r)=(if k=f then (k,v)::r else (k,x)::eT f v r)from rfl]
  by_cases hk:k=f
  .rw[if_pos hk,lc0,lc0];omega
  .rw[if_neg hk,lc0,lc0];omega
def RelO.some_of{v:V}(r:RelO (some v) o):∃u,o=some u/\RelV v u:=by
 cases o with
 |none=>exact (show False from r).elim
 |some u=>exact⟨u,rfl,r⟩
def RelO.none_of(r:RelO none o):o=none:=by
 cases o with
 |none=>rfl
 |some u=>exact (show False from r).elim
def sF{v:V}(r:RelV v u):PySem.W.handedIn u=true:=by
 cases v with
 |non=>cases (show u=Value.none from r);rfl
 |bl b=>cases (show u=Value.bool b from r);rfl
 |int i=>obtain⟨t,e⟩:=(show ∃t,u=Value.int i t from r);cases e;rfl
 |str x=>obtain⟨t,e⟩:=(show ∃t,u=Value.str x t from r);cases e;rfl
 |byt b=>obtain⟨t,e⟩:=(show ∃t,u=Value.bytes b t from r);cases e;rfl
 |flt b=>obtain⟨t,e⟩:=(show ∃t,u=Value.float b t from r);cases e;rfl
 |ref a=>cases (show u=Value.ref a from r);rfl
 |ty n=>cases (show u=Value.type n from r);rfl
section
variable {fs fs':List (Str×V)}
def ip(hok:HOk P w H h)(e:H a=some (.ins C dx fs)):∃mA,ObjM h a dx C mA/\(∀f,RelO (fs.lookup f) (mA f))/\PySem.Within mA (fs.map (·.1))/\fs.length<=1000/\H dx=some (.own a):=by
 obtain⟨d,z,ne,ob,mA,n,r,q⟩:=(show ObjOk P w H h a (.ins C dx fs)from hok a _ e);exact⟨mA,⟨ob,n,ne⟩,r,q,z,d⟩
end
structure Cls(K:fg0)(C:Addr):Prop where
 pg:PySem.W.plainGet K C Str.empty=true
 hd:PySem.W.hasDictIn K C=true
 po:PySem.W.plainOver K C=true
 sa:PySem.W.findIn K (.ref C) "__setattr__"=some (some (.builtin "object.__setattr__"))
def Cls.get{K:fg0}(c:Cls K C)(f:Str):PySem.W.plainGet K C f=true:=c.pg
def NoAttr(K:fg0)(C:Addr)(f:Str):Prop:=PySem.W.findIn K (.ref C) f=some none
def NoAttr.taker{K:fg0}{f:Str}(n:NoAttr K C f):PySem.W.takerIn K C f=some none:=by
 unfold PySem.W.takerIn;rw[show PySem.W.findIn K (.ref C) f=some none from n];rfl
structure iJ(K:fg0)(C:Addr)(m:Str)(f:Addr):Prop where
 at_:PySem.W.findIn K (.ref C) m=some (some (.ref f))
 fn:PySem.W.isFn K (.ref f)=true
 kp:PySem.W.keepIn K (.ref f)=true
section
variable {fs:List (Str×V)}{f:Str}{v:V}
def oP{b:Bool}(I:Inv X pins σ H s)(e:H a=some (.ins C dx fs))(c:Cls X.K C)(n:NoAttr X.K C f)(l:fs.lookup f=some v)
  (h:∀u s',Inv X pins σ H s'->RelV v u->Q u s'):wpAny (model X.prog X.w) A (getAttr (.ref a) f b) Q E s:=by
 obtain⟨mA,O,r,_,_,_⟩:=ip I.hok e;obtain⟨u,hu,ru⟩:=RelO.some_of (v:=v) (o:=mA f) (by rw[<-l];exact r f);exact get_map I.kIn O (c.get f) c.hd n hu (sF ru) (h u _ (I.tok _) ru)
def dj{g:Addr}{pl:Sem Bool}{Q:Value×List Value->Shared->Prop}(I:Inv X pins σ H s)(e:H a=some (.ins C dx fs))(c:Cls X.K C)(k:iJ X.K C m g)(l:fs.lookup m=none)
  (h:Q (.ref g,[.ref a]) s):wpAny (model X.prog X.w) A (getMethod (.ref a) m pl) Q E s:=by
 obtain⟨mA,O,r,_,_,_⟩:=ip I.hok e;have hn:mA m=none:=RelO.none_of (by rw[<-l];exact r m);exact uN I.kIn O (c.get m) k.at_ k.fn hn h
def oQ{y:V}{Q:Unit->Shared->Prop}(I:Inv X pins σ H s)(e:H a=some (.ins C dx fs))(c:Cls X.K C)(n:NoAttr X.K C f)(hl:fs.length<1000)(ry:RelV y u)
  (h:∀s',Inv X pins σ (upd H a (.ins C dx (eT f y fs))) s'->Q () s'):wpAny (model X.prog X.w) A (setAttr (.ref a) f u) Q E s:=by
 obtain⟨mA,O,r,wi,_,ho⟩:=ip I.hok e;have hz:(fs.map (·.1)).length<=sizeLine:=by rw[lm0,sizeLine_eq];omega
 refine zi I.kIn O c.sa c.po n.taker c.hd wi hz λh' O' sb=>h _ ?_
 have hd:∃o,h'.get? dx=some o:=let ⟨o,_,_,e',_⟩:=O'.ns;⟨o,e'⟩
 refine I.write (x:=a) (e:=dx) (by rw[e];exact True.intro) (.inr ho) (λb q hb z=>(sb.2 b hb).trans z) hd ?_;refine⟨by rw[aa O.ne];exact ho,?_,O.ne,O'.obj,_,O'.ns,λg=>?_,λg hg=>?_⟩
 .have:=gX f y fs;omega
 .show RelO ((eT f y fs).lookup g) (if g=f then some u else mA g)
  rw[gW]
  by_cases q:g=f
  .rw[if_pos q,if_pos q];exact ry
  .rw[if_neg q,if_neg q];exact r g
 .by_cases q:g=f
  .rw[q];exact (gp f y fs).1
  .refine (gp f y fs).2 g (wi g λz=>hg ?_)
   show (if g=f then some u else mA g)=none;rw[if_neg q];exact z
def Inv.made(I:Inv X pins σ H s):Inv X pins σ (upd (upd H s.heap.objs.size (.own (s.heap.objs.size+1))) (s.heap.objs.size+1) (.ins C s.heap.objs.size []))
  {s with heap:=(s.heap.push PySem.W.emptyDict).push (PySem.W.instObj C s.heap.objs.size)}:=by
 have e1:(s.heap.push PySem.W.emptyDict).get? s.heap.objs.size=some PySem.W.emptyDict:=pz0 s.heap rfl;have e2:((s.heap.push PySem.W.emptyDict).push (PySem.W.instObj C s.heap.objs.size)).get? (s.heap.objs.size+1)=some (PySem.W.instObj C s.heap.objs.size):=by
  have:=pz0 (s.heap.push PySem.W.emptyDict) (o:=PySem.W.instObj C s.heap.objs.size) rfl
  rwa [Heap.size_push]at this
 have e3:(s.heap.push PySem.W.emptyDict).Ns s.heap.objs.size (λc=>none):=⟨PySem.W.emptyDict,#[],_,e1,rfl,(λe he=>absurd he (by simp)),λc=>rfl⟩;have I1:=I.laid (a:=s.heap.objs.size) (o:=.own (s.heap.objs.size+1)) (h':=s.heap.push PySem.W.emptyDict) (t':=s.toks) (λb u q=>ps0 _ q) (nr0 _) ⟨_,e1⟩;refine I1.laid (a:=s.heap.objs.size+1) (o:=.ins C s.heap.objs.size []) (t':=s.toks) (λb u q=>ps0 _ q) (Nat.le_of_eq (Heap.size_push _ _)) ?_;have ne:s.heap.objs.size≠s.heap.objs.size+1:=nn0 (Nat.lt_succ_self _);refine⟨by rw[aa ne,ae],Nat.zero_le _,ne,e2,λc=>none,(Heap.Ns1.of_empty e3).at λo q=>ps0 _ q,λc=>True.intro,λy hy=>absurd rfl hy⟩
def attr_of{env:Env}{f:Str}(hb:attributeBase e f env (eval e env)=eval e env)
  (h:wpAny (model prog w) A (eval e env) (λo s₁=>wpAny (model prog w) A (getAttr o f true) Q E s₁) E s):wpAny (model prog w) A (eval (.Attribute e f pos) env) Q E s:=
 Attribute_any_ h (by rw[arm_eval_Attribute,hb])
end
noncomputable def Kh(K:fg0)(ta:TE)(f:Str):TE:=λσ H Q=>ta σ H λx H1=>∃a C dx fs v,x=.ref a/\H1 a=some (.ins C dx fs)/\Cls K C/\NoAttr K C f/\fs.lookup f=some v/\Q v H1
noncomputable def Ki(K:fg0)(ta tv:TE)(f:Str):TS:=λD σ H=>tv σ H λy H1=>ta σ H1 λx H2=>∃a C dx fs,x=.ref a/\H2 a=some (.ins C dx fs)/\Cls K C/\NoAttr K C f/\fs.length<1000/\
 D.nx σ (upd H2 a (.ins C dx (eT f y fs)))
section
variable {o value:Expr}{f:Str}{pos' tpos:Pos}{tv:TE}
def oR(he:PE X e ta)(hb:attributeBase e f X.env (eval e X.env)=eval e X.env):PE X (.Attribute e f pos) (Kh X.K ta f):=by
 intro pins s σ H Q I h;refine attr_of hb (thn (he pins s σ H _ I h) λu s1 ⟨x,H1,I1,rx,a,C,dx,fs,v,ex,ea,c,n,l,q⟩=>?_);subst ex;obtain rfl:u=Value.ref a:=rx;exact oP I1 ea c n l λu' s2 I2 ru=>⟨v,H1,I2,ru,q⟩
def uP(ha:PE X o ta)(hv:PE X value tv)(hs:swapsWith value (some (.Attribute o f pos')) pos.line X.env=pure false):PS X (.Assign [.Attribute o f pos'] value pos) (Ki X.K ta tv f):=by
 intro pins s σ H D I h;refine plainObj_wpAny_Assign_Attribute (thn (hv pins s σ H _ I h) λu s1 ⟨y,H1,I1,ry,q⟩=>thn (ha pins s1 σ H1 _ I1 q) λov s2 ⟨x,H2,I2,rx,a,C,dx,fs,ex,ea,c,n,l,q2⟩=>?_) hs;subst ex;obtain rfl:ov=Value.ref a:=rx;exact oQ I2 ea c n l ry λs3 I3=>⟨σ,_,I3,q2⟩
def BF{pl:Sem Bool}{args:List Expr}(he:PE X e te)(I:Inv X pins σ H s)
  (h:te σ H λx H1=>∃a C dx fs g,x=.ref a/\H1 a=some (.ins C dx fs)/\Cls X.K C/\iJ X.K C m g/\fs.lookup m=none/\
   ∀s1,Inv X pins σ H1 s1->wpAny (model X.prog X.w) X.A (callWith pos (.ref g) [.ref a] (backTo pos (starEach args X.env)) (backToKw pos (keywordEach [] X.env))) Q X.xe s1)
  (ht:eval (.Call (.Attribute e m apos) args [] pos) X.env=(do
   let ov ←eval e X.env
   standAt apos.atName
   let (f,first) ←holding [ov] (getMethod ov m pl)
   callWith pos f first (backTo pos (starEach args X.env)) (backToKw pos (keywordEach [] X.env)))):
  wpAny (model X.prog X.w) X.A (eval (.Call (.Attribute e m apos) args [] pos) X.env) Q X.xe s:=by
 refine PySem.W.methodCall_KW (pl:=pl) (thn (he pins s σ H _ I h) λu s1 ⟨x,H1,I1,rx,a,C,dx,fs,g,ex,ea,c,k,l,q⟩=>?_) ht;subst ex;obtain rfl:u=Value.ref a:=rx;exact dj I1 ea c k l (q s1 I1)
end
section
variable {c:Value}{b:Bool}
inductive fE (K:fg0)(H:Hp):V->Value->Prop where
 |non:fE K H .non (.type "NoneType")
 |bl (x:Bool):fE K H (.bl x) (.type "bool")
 |int (i:Int):fE K H (.int i) (.type "int")
 |str (x:Str):fE K H (.str x) (.type "str")
 |flt (x:UInt64):fE K H (.flt x) (.type "float")
 |lst {a:Addr}{xs:List V} (e:H a=some (.lst xs)):fE K H (.ref a) (.type "list")
 |frz {a:Addr}{o:Obj}{xs:List V} (e:H a=some (.frz o (.lst xs))):fE K H (.ref a) (.type "list")
 |tup {a:Addr}{xs:List V} (e:H a=some (.tup xs)):fE K H (.ref a) (.type "tuple")
 |dK {a:Addr}{kvs:List (Key×V)} (e:H a=some (.dK kvs)):fE K H (.ref a) (.type "dict")
 |dT {a:Addr}{kvs:List (List Key×V)} (e:H a=some (.dT kvs)):fE K H (.ref a) (.type "dict")
 |ins {a C dx:Addr}{fs:List (Str×V)} (e:H a=some (.ins C dx fs)) (cl:Cls K C) (ha:PySem.W.findIn K (.ref C) "__class__"=some (some (.builtin "object.__class__")))
   (hn:PySem.W.specialIn K (.builtin "object.__class__") "__get__"=some (some (.builtin "getset_descriptor.__get__"))) (htk:PySem.W.takesIn K (.builtin "object.__class__")=some true)
   (hm:PySem.W.mroIn K C (.type "object")=some true):fE K H (.ref a) (.ref C)
def sG{x:V}{t:Value}(I:Inv X pins σ H s)(rx:RelV x u)(ty:fE X.K H x t)(e:PySem.W.kitOne X.K t c=some b)(h:∀tk,Q (.bool b) {s with toks:=tk}):
  wpAny (model X.prog X.w) A (call (.builtin "isinstance") [u,c]) Q E s:=by
 cases ty with
 |non=>cases (show u=Value.none from rx);exact PySem.W.kia_one PySem.W.kitx_none I.kIn True.intro e (λz=>nomatch z) h
 |bl y=>cases (show u=Value.bool y from rx);exact PySem.W.kia_one PySem.W.kitx_bool I.kIn True.intro e (λz=>nomatch z) h
 |int i=>obtain⟨t,q⟩:=(show ∃t,u=Value.int i t from rx);cases q;exact PySem.W.kia_one PySem.W.kitx_int I.kIn True.intro e (λz=>nomatch z) h
 |str y=>obtain⟨t,q⟩:=(show ∃t,u=Value.str y t from rx);cases q;exact PySem.W.kia_one PySem.W.kitx_str I.kIn True.intro e (λz=>nomatch z) h
 |flt y=>obtain⟨t,q⟩:=(show ∃t,u=Value.float y t from rx);cases q;exact PySem.W.kia_one PySem.W.kitx_float I.kIn True.intro e (λz=>nomatch z) h
 |@lst a xs ea=>
  cases (show u=Value.ref a from rx);obtain⟨_,_,n,_,h1⟩:=(show ObjOk X.prog X.w H s.heap a (.lst xs)from I.hok a _ ea);exact PySem.W.kia_one PySem.W.kitx_list I.kIn ⟨_,h1,rfl⟩ e (λz=>nomatch z) h
 |@frz a ob xs ea=>
  cases (show u=Value.ref a from rx);obtain⟨_,_,_,n,_,h1⟩:=(show ObjOk X.prog X.w H s.heap a (.frz ob (.lst xs))from I.hok a _ ea);exact PySem.W.kia_one PySem.W.kitx_list I.kIn ⟨_,h1,rfl⟩ e (λz=>nomatch z) h
 |@tup a xs ea=>
  cases (show u=Value.ref a from rx);obtain⟨_,_,_,p⟩:=(show ObjOk X.prog X.w H s.heap a (.tup xs)from I.hok a _ ea);obtain⟨o,h1,h2,_⟩:=p;exact PySem.W.kia_one PySem.W.kitx_tuple I.kIn ⟨o,h1,h2⟩ e (λz=>nomatch z) h
 |@dK a kvs ea=>
  cases (show u=Value.ref a from rx);obtain⟨_,_,vs,_,p⟩:=(show ObjOk X.prog X.w H s.heap a (.dK kvs)from I.hok a _ ea);obtain⟨o,es,ep,h1,h2,_⟩:=p;exact PySem.W.kia_one PySem.W.kitx_dict I.kIn ⟨o,h1,h2.1⟩ e (λz=>nomatch z) h
 |@dT a kvs ea=>
  cases (show u=Value.ref a from rx);obtain⟨_,_,xs,_,o,es,ep,h1,h2,_⟩:=(show ObjOk X.prog X.w H s.heap a (.dT kvs)from I.hok a _ ea);exact PySem.W.kia_one PySem.W.kitx_dict I.kIn ⟨o,h1,h2.1⟩ e (λz=>nomatch z) h
 |@ins a C dx fs ea cl ha hn htk hm=>
  cases (show u=Value.ref a from rx);obtain⟨mA,O,_⟩:=ip I.hok ea;obtain⟨od,J,_⟩:=O.look;exact PySem.W.kia_one (PySem.W.kitx_own (cl.get _) cl.hd ha hn htk hm) I.kIn J e (λz=>nomatch z) h
end
structure Room(k:Nat)(A:Around):Prop where
 hd:A.handled=none
 dp:A.depth+3*k+5<recursionLimit
 un:A.units+16*k+200<cLine
def Room.mono{j:Nat}(r:Room k A)(h:j<=k):Room j A:=⟨r.hd,by have:=r.dp;omega,by have:=r.un;omega⟩
theorem Room.deeper(r:Room (k+1) A)(env:Env):Room k (A.deeper env):=
 ⟨r.hd,by have:=r.dp;show A.depth+1+3*k+5<_;omega,by have:=r.un;show A.units+3+16*k+200<_;omega⟩
def oU{kw:List (Str×Value)}:(A.under (.builtin "type.__call__" ⟨.ref C::us,kw⟩)).depth=A.depth+1:=by
 first|rfl|simp[Around.under,Code.weight,Code.isCreation,Code.isGuard,Code.isCaller,Code.frames,Code.isFrame,guardIds]
def oV{kw:List (Str×Value)}:(A.under (.builtin "type.__call__" ⟨.ref C::us,kw⟩)).units=A.units+1:=by
 first|rfl|simp[Around.under,Code.cUnits,Code.frames,Code.isFrame]
def Room.make(r:Room (k+1) A)(C:Addr)(us:List Value)(kw:List (Str×Value)):Room k (A.under (.builtin "type.__call__" ⟨.ref C::us,kw⟩)):=
 ⟨r.hd,by have:=r.dp;rw[oU];omega,by have:=r.un;rw[oV];omega⟩
theorem Room.depth(r:Room k A):A.depth<recursionLimit:=by have:=r.dp;omega
theorem Room.units(r:Room k A):A.units+64<cLine:=by have:=r.un;omega
def CU:TA:=λa H Q=>Q [] H
def GR(ta:TE)(tr:TA):TA:=λσ H Q=>ta σ H λx H1=>tr σ H1 λxs H2=>Q (x::xs) H2
def bz:PA X [] CU:=λa a a a H Q I h=>Calls.spliced_nil ⟨[],H,I,.nil,h⟩
def aD(ha:PE X e te)(hr:PA X es t)(hs:starEach (e::es) X.env=(false,eval e X.env)::starEach es X.env:=by rfl):PA X (e::es) (GR te t):=by
 intro pos pins s σ H Q I h;rw[hs];show wpAny _ _ (spliced ((false,eval e X.env)::backTo pos (starEach es X.env))) _ _ s;refine Calls.spliced_cons (thn (ha pins s σ H _ I h) λu s1 ⟨x,H1,I1,r1,q1⟩=>?_);exact thn (hr pos pins s1 σ H1 _ I1 q1) λus s2 ⟨xs,H2,I2,r2,q2⟩=>⟨x::xs,H2,I2,.cons r1 r2,q2⟩
noncomputable def Kj(t:TA):TE:=λσ H Q=>t σ H λxs H1=>xs.length<=sizeLine/\∀p,H1 p=none->Q (.ref p) (upd H1 p (.tup xs))
noncomputable def Kk(t:TA):TE:=λσ H Q=>t σ H λxs H1=>xs.length<=sizeLine/\∀p,H1 p=none->Q (.ref p) (upd H1 p (.lst xs))
def uQ{x1}(h:PA X es t):PE X (.Tuple es x1 pos) (Kj t):=by
 intro pins s σ H Q I hq;refine wpAny_Tuple_spliced (thn (h pos pins s σ H _ I hq) λus s1 ⟨xs,H1,I1,r,z,q⟩=>⟨by rw[<-r.length];exact z,?_⟩);have hf:H1 s1.heap.objs.size=none:=I1.hok.fresh (nr0 _);refine⟨.ref s1.heap.objs.size,upd H1 s1.heap.objs.size (.tup xs),I1.laid (t':=s1.toks) (λb u e=>ps0 _ e) (nr0 _) ?_,rfl,q _ hf⟩;exact⟨z,us,r,⟨_,pz0 _ rfl,rfl,_,rfl⟩⟩
def uR(h:PA X es t):PE X (.List es pos) (Kk t):=by
 intro pins s σ H Q I hq;refine wpAny_List_spliced (thn (h pos pins s σ H _ I hq) λus s1 ⟨xs,H1,I1,r,z,q⟩=>⟨by rw[<-r.length];exact z,?_⟩);have hf:H1 s1.heap.objs.size=none:=I1.hok.fresh (nr0 _);refine⟨.ref s1.heap.objs.size,upd H1 s1.heap.objs.size (.lst xs),I1.laid (t':=s1.toks) (λb u e=>ps0 _ e) (nr0 _) ?_,rfl,q _ hf⟩;exact⟨z,us,0,r,pz0 _ rfl⟩
noncomputable abbrev Sp:=List V->Hp->VK->XK->Prop
noncomputable abbrev CXT:=List Env->Hp->Shared->XK->Value->Shared->Prop
structure Env0(P:Program)(w:World)(K:fg0)(mg:Str->Option Value)(base:Heap)(A:Around)(outer:List Env)(s:Shared)(H:Hp):Prop where
 frames:A.frames=some outer
 mod:Mod K mg base
 bs:∀b o,base.get? b=some o->s.heap.get? b=some o/\H b=none
 bsz:base.objs.size<=s.heap.objs.size
 funs:s.heap.FunFrames base outer
 frf:∀b∈frs outer,H b=none
 hok:HOk P w H s.heap
 bare:AllBare s.gens
def CE(outer:List Env)(P:Program)(w:World)(H:Hp)(s:Shared)(Q:VK)(u:Value)(s':Shared):Prop:=
 ∃v H',s'.os=s.os/\AllBare s'.gens/\Un (frs outer) [] H H' s.heap s'.heap/\HOk P w H' s'.heap/\RelV v u/\Q v H'
def CR(CX:CXT)(outer:List Env)(P:Program)(w:World)(H:Hp)(s:Shared)(Q:VK)(E:XK)(r:Result)(s':Shared):Prop:=
 match r with
 |.ok (.ret u)=>CE outer P w H s Q u s'
 |.ok _=>False
 |.error e=>CX outer H s E e s'
structure FnOk(P:Program)(w:World)(K:fg0)(mg:Str->Option Value)(base:Heap)(CX:CXT)(k:Nat)(f:Addr)(fd:FuncData)(ps:List Str)(sp:Sp):Prop where
 len:∀vs H Q E,sp vs H Q E->vs.length=ps.length
 run:∀(A:Around)(outer:List Env)(s:Shared)(H:Hp)(args:Args)(us:List Value)(vs:List V)(Q:VK)(E:XK),Room k A->Env0 P w K mg base A outer s H->BindsTo s fd args (ps.zip us)->Vals vs us->sp vs H Q E->
  codeAny (model P w) A (.call (.ref f) args) (CR CX outer P w H s Q E) s
theorem FnOk.mono{K:fg0}{CX:CXT}{j:Nat}{sp:Sp}(F:FnOk P w K mg base CX j f fd ps sp)(h:j<=k):
  FnOk P w K mg base CX k f fd ps sp:=⟨F.len,λA outer s H args us vs Q E hr=>F.run A outer s H args us vs Q E (hr.mono h)⟩
def Env0.make{K:fg0}{outer:List Env}(e:Env0 P w K mg base A outer s H)(C:Addr)(us:List Value)(kw:List (Str×Value)):
  Env0 P w K mg base (A.under (.builtin "type.__call__" ⟨.ref C::us,kw⟩)) outer s H:=⟨by first|exact e.frames|(simpa [Around.under,Code.envs,Code.isFrame,pushEnvs]using e.frames),e.mod,e.bs,e.bsz,e.funs,e.frf,e.hok,e.bare⟩
def Inv.env0(I:Inv X pins σ H s):Env0 X.prog X.w X.K X.mg X.base X.A X.stack s H:=
 ⟨I.ok.frames,I.ok.mod,I.bs,nt0 I.ok.bsz I.sz,I.stack,I.stkFree,I.hok,I.bare⟩
def Inv.after{Q:VK}(I:Inv X pins σ H s)(h:CE X.stack X.prog X.w H s Q u s'):EP X pins σ Q u s':=by
 obtain⟨v,H',os,bare,un,hok,r,q⟩:=h;obtain⟨hh,g,d,t,os'⟩:=s';obtain rfl:os'=s.os:=os;exact⟨v,H',I.call (h':=hh) (g':=g) (d':=d) (t':=t) (ch:=[]) un hok bare (λb z=>absurd z (by simp)),r,q⟩
noncomputable def GS(sp:Sp)(dvs:List V)(E:XK)(t:TA):TE:=λσ H Q=>t σ H λvs H1=>sp (vs++dvs) H1 Q E
noncomputable def BG(C:Addr)(m:Str)(sp:Sp)(dvs:List V)(E:XK)(ta:TE)(t:TA):TE:=λσ H Q=>ta σ H λx H1=>∃a dx fs,x=.ref a/\H1 a=some (.ins C dx fs)/\fs.lookup m=none/\
 t σ H1 λvs H2=>sp (x::(vs++dvs)) H2 Q E
noncomputable def GT(C:Addr)(sp:Sp)(dvs:List V)(E:XK)(t:TA):TE:=λσ H Q=>t σ H λvs H1=>∀x dx,H1 x=none->H1 dx=none->dx≠x->
 sp (.ref x::(vs++dvs)) (upd (upd H1 dx (.own x)) x (.ins C dx [])) (λv H2=>v=.non/\Q (.ref x) H2) E
def Binds(K:fg0)(fd:FuncData)(ps:List Str)(ds:List Value):Prop:=
 ∀(s:Shared)(us:List Value),K.In s.heap->(us++ds).length=ps.length->BindsTo s fd ⟨us,[]⟩ (ps.zip (us++ds))
def Binds.all{K:fg0}(h:∀us:List Value,us.length=ps.length->bindArgs fd ⟨us,[]⟩=pure (ps.zip us)):Binds K fd ps []:=λs us a hl=>by
 rw[List.append_nil]at hl ⊢;exact .of_eq (h us hl)
def fk(CX:CXT)(X:Cx)(E:XK):Prop:=∀(pins:List (Addr×Obj))(σ:St)(H:Hp)(s:Shared)(e:Value)(s':Shared),Inv X pins σ H s->CX X.stack H s E e s'->X.xe e s'
section
variable {CX:CXT}{sp:Sp}{dvs:List V}{ds:List Value}{E:XK}{o:Expr}
def oW{Q:VK}(F:FnOk X.prog X.w X.K X.mg X.base CX k f fd ps sp)(hr:Room k X.A)(hb:Binds X.K fd ps ds)(hd:Vals dvs ds)(hx:fk CX X E)
  (I:Inv X pins σ H s) (r:Vals vs us) (h:sp (vs++dvs) H Q E):wpAny (model X.prog X.w) X.A (call (.ref f) us) (EP X pins σ Q) X.xe s:=by
 have r2:Vals (vs++dvs) (us++ds):=r.append hd;have hl:(us++ds).length=ps.length:=by rw[<-r2.length];exact F.len _ _ _ _ h
 refine wpAny_call (codeAny_mono (F.run X.A X.stack s H ⟨us,[]⟩ (us++ds) (vs++dvs) Q E hr I.env0 (hb s us I.kIn hl) r2 h) λr s' hq=>?_);cases r with
 |error e=>exact hx pins σ H s e s' I hq
 |ok fl=>
  cases fl with
  |ret u=>exact I.after hq
  |next=>exact False.elim hq
  |brk=>exact False.elim hq
  |cont=>exact False.elim hq
def qB(F:FnOk X.prog X.w X.K X.mg X.base CX k f fd ps sp)(hr:Room k X.A)(hg:Gl X x)(hm:X.mg x=some (.ref f))(hk:PySem.W.keepIn X.K (.ref f)=true)(hb:Binds X.K fd ps ds)(hd:Vals dvs ds)(hx:fk CX X E)
  (ha:PA X (e::es) t) (hdb:(x==("__debug__":Str))=false:=by decide) (he:starEach (e::es) X.env=(false,eval e X.env)::starEach es X.env:=by rfl) (hpl:(backTo pos (starEach es X.env)).any (·.1)=false:=by rfl):
  PE X (.Call (.Name x p) (e::es) [] pos) (GS sp dvs E t):=by
 intro pins s σ H Q I h;refine wpAny_Call_Name_kw (ld_glob I hg hm ?_ hdb);refine PySem.W.callWith_K (h₀:=X.base) I.ok.mod.kin hk (thn (ha pos pins s σ H _ I h) λus s1 ⟨vs,H1,I1,r,q⟩=>⟨I1.kIn,?_⟩) he hpl;exact oW F hr hb hd hx I1 r q
def zj{pl:Sem Bool}(he:PE X o ta)(c:Cls X.K C)(hm:iJ X.K C m f)(F:FnOk X.prog X.w X.K X.mg X.base CX k f fd ps sp)(hr:Room k X.A)(hb:Binds X.K fd ps ds)(hd:Vals dvs ds)(hx:fk CX X E)(ha:PA X (e::es) t)
  (hst:starEach (e::es) X.env=(false,eval e X.env)::starEach es X.env:=by rfl) (hpl:(backTo pos (starEach es X.env)).any (·.1)=false:=by rfl)
  (ht:eval (.Call (.Attribute o m apos) (e::es) [] pos) X.env=(do
   let ov ←eval o X.env
   standAt apos.atName
   let (f,first) ←holding [ov] (getMethod ov m pl)
   callWith pos f first (backTo pos (starEach (e::es) X.env)) (backToKw pos (keywordEach [] X.env))):=by rfl):
  PE X (.Call (.Attribute o m apos) (e::es) [] pos) (BG C m sp dvs E ta t):=by
 intro pins s σ H Q I h;refine PySem.W.methodCall_KW (pl:=pl) (thn (he pins s σ H _ I h) λu s1 ⟨x,H1,I1,rx,a,dx,fs,ex,ea,l,q⟩=>?_) ht;subst ex;obtain rfl:u=Value.ref a:=rx;refine dj I1 ea c hm l ?_;refine PySem.W.callWith_K (first:=[.ref a]) (h₀:=X.base) I.ok.mod.kin hm.kp (thn (ha pos pins s1 σ H1 _ I1 q) λus s2 ⟨vs,H2,I2,r,q2⟩=>⟨I2.kIn,?_⟩) hst hpl;exact oW (us:=.ref a::us) (vs:=.ref a::vs) F hr hb hd hx I2 (.cons rfl r) q2
def uS{pl:Sem Bool}(he:PE X o ta)(c:Cls X.K C)(hm:iJ X.K C m f)(F:FnOk X.prog X.w X.K X.mg X.base CX k f fd ps sp)(hr:Room k X.A)(hb:Binds X.K fd ps ds)(hd:Vals dvs ds)(hx:fk CX X E)
  (ht:eval (.Call (.Attribute o m apos) [] [] pos) X.env=(do
   let ov ←eval o X.env
   standAt apos.atName
   let (f,first) ←holding [ov] (getMethod ov m pl)
   callWith pos f first (backTo pos (starEach [] X.env)) (backToKw pos (keywordEach [] X.env))):=by rfl):
  PE X (.Call (.Attribute o m apos) [] [] pos) (BG C m sp dvs E ta CU):=by
 intro pins s σ H Q I h;refine PySem.W.methodCall_KW (pl:=pl) (thn (he pins s σ H _ I h) λu s1 ⟨x,H1,I1,rx,a,dx,fs,ex,ea,l,q⟩=>?_) ht;subst ex;obtain rfl:u=Value.ref a:=rx;refine dj I1 ea c hm l ?_;exact PySem.W.callWith_K0 (first:=[.ref a]) I1.kIn hm.kp (oW (us:=[.ref a]) (vs:=[.ref a]) F hr hb hd hx I1 (.cons rfl .nil) q)
structure Mk(K:fg0)(C f:Addr):Prop where
 makes:PySem.W.makesIn K C=true
 init:PySem.W.findIn K (.ref C) "__init__"=some (some (.ref f))
 fn:PySem.W.isFn K (.ref f)=true
 kp:PySem.W.keepIn K (.ref C)=true
def run_make{Q:VK}(M:Mk X.K C f)(F:FnOk X.prog X.w X.K X.mg X.base CX k f fd ps sp)(hr:Room (k+1) X.A)(hb:Binds X.K fd ps ds)(hd:Vals dvs ds)
  (hx:fk CX X E) (I:Inv X pins σ H s) (r:Vals vs us)
  (h:∀x dx,H x=none->H dx=none->dx≠x->sp (.ref x::(vs++dvs)) (upd (upd H dx (.own x)) x (.ins C dx [])) (λv H2=>v=.non/\Q (.ref x) H2) E):
  wpAny (model X.prog X.w) X.A (call (.ref C) us) (EP X pins σ Q) X.xe s:=by
 have hq:=h (s.heap.objs.size+1) s.heap.objs.size (I.hok.fresh (Nat.le_succ _)) (I.hok.fresh (nr0 _)) (nn0 (Nat.lt_succ_self _));have I2:=Inv.made (C:=C) I;have r2:Vals (V.ref (s.heap.objs.size+1)::(vs++dvs)) (Value.ref (s.heap.objs.size+1)::(us++ds)):=.cons rfl (r.append hd);have hl:(Value.ref (s.heap.objs.size+1)::us++ds).length=ps.length:=by
  have e:=r2.length;rw[F.len _ _ _ _ hq]at e;exact e.symm
 refine wpAny_call (uO (f:=f) I.kIn M.makes M.init (beq_iff_eq.mp M.fn) (codeAny_mono (F.run _ X.stack _ _ ⟨Value.ref (s.heap.objs.size+1)::us,[]⟩ (Value.ref (s.heap.objs.size+1)::(us++ds)) _ _ E (hr.make C us [])
  (I2.env0.make C us []) (hb _ (Value.ref (s.heap.objs.size+1)::us) I2.kIn hl) r2 hq) λr s' hq'=>?_))
 cases r with
 |error e=>exact hx pins σ _ _ e s' I2 hq'
 |ok fl=>
  cases fl with
  |ret u=>
   obtain⟨v,H',I3,rv,ev,q3⟩:=I2.after hq';subst ev;exact⟨rv,⟨V.ref (s.heap.objs.size+1),H',I3,rfl,q3⟩⟩
  |next=>exact False.elim hq'
  |brk=>exact False.elim hq'
  |cont=>exact False.elim hq'
def uT(M:Mk X.K C f)(F:FnOk X.prog X.w X.K X.mg X.base CX k f fd ps sp)(hr:Room (k+1) X.A)(hg:Gl X x)(hm:X.mg x=some (.ref C))(hb:Binds X.K fd ps ds)(hd:Vals dvs ds)(hx:fk CX X E)
  (hdb:(x==("__debug__":Str))=false:=by decide):PE X (.Call (.Name x p) [] [] pos) (GT C sp dvs E CU):=by
 intro pins s σ H Q I h;refine wpAny_Call_Name_kw (ld_glob I hg hm ?_ hdb);exact PySem.W.callWith_K0 I.kIn M.kp (run_make (us:=[]) M F hr hb hd hx I .nil h)
end
section
variable {CX:CXT}{ks:List Str}{sp:Sp}{E:XK}{kpos:Pos}{o:Expr}{kws:List Keyword}{tk:TA}{nm:Option Str}
variable {g:List Value->List Value->List Value}{gV:List V->List V->List V}
end
structure aU(N P:List Str)(sc:Scope):Prop where
 kind:sc.kind=.function
 co:sc.isCoroutine=false
 gen:sc.isGenerator=false
 nd:N.Nodup
 pre:N.take P.length=P
 par:∀x∈P,sc.names.lookup x=some .local\/sc.names.lookup x=some .cell
 nofree:∀y∈sc.names,y.2≠.free
theorem jU{kindOf:Str->Option NameKind}:∀{binds:List (Str×Value)}{m:Str->Option Value},(∀v,(x,v)∉binds)->bindL kindOf binds m x=m x
 |[],_,_=>rfl
 |(n,v)::r,m,h=>by
  unfold bindL;rw[jU λw hw=>h w (mc0 _ hw)];split
  .have:x≠n:=by rintro rfl;exact h v ms0
   simp[this]
  .rfl
theorem jV{kindOf:Str->Option NameKind}:∀{binds:List (Str×Value)}{m:Str->Option Value},(∀v,(x,v)∉binds)->bindC kindOf binds m x=m x
 |[],_,_=>rfl
 |(n,v)::r,m,h=>by
  unfold bindC;rw[jV λw hw=>h w (mc0 _ hw)];split
  .rfl
  .have:x≠n:=by rintro rfl;exact h v ms0
   simp[this]
theorem jW{kindOf:Str->Option NameKind}:∀{P:List Str}{vs:List Value}{i:Nat}{m:Str->Option Value},P.Nodup->P[i]?=some x->vs[i]?=some v->kindOf x=some .local->
  bindL kindOf (P.zip vs) m x=some v
 |[],_,_,_,_,h,_,_=>by simp at h
 |_::_,[],_,_,_,_,h,_=>by simp at h
 |p::P,w::vs,0,m,nd,h1,h2,hk=>by
  simp at h1 h2;subst h1;subst h2;show bindL kindOf ((p,w)::P.zip vs) m p=_;unfold bindL;rw[jU λv hv=>(List.nodup_cons.mp nd).1 (List.of_mem_zip hv).1,if_pos hk];simp
 |p::P,w::vs,i+1,m,nd,h1,h2,hk=>by
  show bindL kindOf ((p,w)::P.zip vs) m x=_;unfold bindL;exact jW (i:=i) (List.nodup_cons.mp nd).2 (by simpa using h1) (by simpa using h2) hk
theorem jX{kindOf:Str->Option NameKind}:∀{P:List Str}{vs:List Value}{i:Nat}{m:Str->Option Value},P.Nodup->P[i]?=some x->vs[i]?=some v->kindOf x≠some .local->
  bindC kindOf (P.zip vs) m x=some v
 |[],_,_,_,_,h,_,_=>by simp at h
 |_::_,[],_,_,_,_,h,_=>by simp at h
 |p::P,w::vs,0,m,nd,h1,h2,hk=>by
  simp at h1 h2;subst h1;subst h2;show bindC kindOf ((p,w)::P.zip vs) m p=_;unfold bindC;rw[jV λv hv=>(List.nodup_cons.mp nd).1 (List.of_mem_zip hv).1,if_neg hk];simp
 |p::P,w::vs,i+1,m,nd,h1,h2,hk=>by
  show bindC kindOf ((p,w)::P.zip vs) m x=_;unfold bindC;exact jX (i:=i) (List.nodup_cons.mp nd).2 (by simpa using h1) (by simpa using h2) hk
noncomputable def start(N:List Str)(vs:List V):St:=vs.map some++List.replicate (N.length-vs.length) none
noncomputable def dG(CX:CXT)(P:Program)(w:World)(K:fg0)(mg:Str->Option Value)(base:Heap)(N:List Str)(qual:Str)(scope:Scope)(f:Addr)(cd:Value)(A:Around)(outer:List Env)(s:Shared)(H:Hp)(E:XK):Cx where
 prog:=P
 w:=w
 K:=K
 mg:=mg
 base:=base
 A:=A.deeper (envOfC qual scope s.heap.objs.size f cd)
 N:=N
 s₀:=s
 H₀:=H
 env:=envOfC qual scope s.heap.objs.size f cd
 outer:=outer
 stack:=envOfC qual scope s.heap.objs.size f cd::outer
 ex:=[]
 calm:=true
 fn:=λa=>true
 pn:=[]
 xe:=λe s'=>wpAny (model P w) (A.deeper (envOfC qual scope s.heap.objs.size f cd)) (leaving (envOfC qual scope s.heap.objs.size f cd) e) (λa s''=>CX outer H s E e s'') (λe' s''=>CX outer H s E e' s'') s'
def mv{sc:Scope}{n:Nat}(h:sc.names.lookup x=some .cell):∃c,(cellsFrom n sc.names []).lookup x=some c:=by
 have q:=PySem.W.cellsFrom_some sc.names n [] (.inl h);exact is0 q
def sH{CX:CXT}{K:fg0}{qual:Str}{scope:Scope}{cd:Value}{outer:List Env}{s1:Shared}{E:XK}
  (S:aU N ps scope) (hd:A.handled=none) (e0:Env0 P w K mg base A outer s H) (hl:vs.length=ps.length) (r:Vals vs us)
  (x:InCallC s s.heap.objs.size (bindL (envOfC qual scope s.heap.objs.size f cd).kindOf (ps.zip us) λd=>none) (cellsFrom (s.heap.objs.size+1) scope.names []) (bindC (envOfC qual scope s.heap.objs.size f cd).kindOf (ps.zip us) λd=>none) s1):
  Inv (dG CX P w K mg base N qual scope f cd A outer s H E) [] (start N vs) H s1:=by
 have hpl:ps.length<=N.length:=by have:=congrArg List.length S.pre;rw[List.length_take]at this;omega
 obtain⟨h1,tk,rfl,hk⟩:=x.done;have noA:∀b:Addr,b∉(dG CX P w K mg base N qual scope f cd A outer s H E).ex:=λb z=>absurd (show b∈([]:List Addr)from z) (by simp)
 refine⟨⟨e0.mod,S.kind,rfl,rfl,nr0 _,λy z c h1 h2=>?_,λy hy=>?_,λy c d h=>?_,λd=>hd,Around.frames_deeper e0.frames,.inr ⟨rfl,rfl⟩,λb z=>absurd z (noA b),e0.bs,e0.bsz,λb d d=>noA b,λb z=>absurd z (noA b),e0.funs,e0.frf⟩,
  rfl,e0.bare,Un.kept hk,⟨_,x.toInCall.ns,λi y v h1 h2 h3=>?_⟩,λy c h=>⟨_,x.cell y c h⟩,e0.hok.fresh (nr0 _),λy c h=>?_,λp hp=>absurd (show p∈([]:List (Addr×Obj))from hp) (by simp),e0.hok.kept hk,?_⟩
 .exact name_of_addr x.apart (ml0 h1) (ml0 h2)
 .have hy:scope.names.lookup y=some .cell\/scope.names.lookup y=some .free:=hy
  rcases hy with hy|hy
  .exact mv hy
  .exact absurd rfl (S.nofree _ (ml0 hy))
 .exact Nat.le_of_lt (x.above y c (ml0 h))
 .have hi:i<vs.length:=by
   unfold start at h2
   by_cases hi:i<vs.length
   .exact hi
   .rw[List.getElem?_append_right (by simpa using hi)]at h2
    rw[List.getElem?_replicate]at h2;split at h2<;>cases h2
  have ha:vs[i]?=some v:=by
   unfold start at h2;rw[gl0 (by simpa using hi),gm0]at h2;cases e:vs[i]? with
   |none=>rw[e]at h2;cases h2
   |some a=>rw[e]at h2;cases h2;rfl
  obtain⟨u,hu,rv⟩:=r.get ha;have hp:ps[i]?=some y:=by
   rw[<-S.pre,List.getElem?_take_of_lt (by omega)];exact h1
  have ndP:ps.Nodup:=by rw[<-S.pre];exact S.nd.sublist (List.take_sublist _ _)
  refine⟨u,rv,?_⟩;rcases S.par y (mg0 hp)with k|k
  .exact .inl ⟨k,jW ndP hp hu k⟩
  .obtain⟨c,e⟩:=mv (n:=s.heap.objs.size+1) k
   refine .inr ⟨.inl k,c,e,?_⟩;have q:=x.cell y c e;rw[jX ndP hp hu (by show scope.names.lookup y≠_;rw[k];decide)]at q;exact q
 .exact e0.hok.fresh (Nat.le_of_lt (x.above y c (ml0 h)))
 .unfold start
  show _=N.length;rw[la0,lm0,List.length_replicate];omega
def uU{CX:CXT}{K:fg0}{name qual:Str}{params:Arguments}{scope:Scope}{dV kV doc pm cdv ct oc:Value}{an od:Option Addr}
  {osl:Array (Option Value)}  {sp:Sp} (lk:K.lookup f=some ⟨oc,od,.func (PySem.W.fnOf name qual params body scope dV kV doc pm an cdv ct),osl⟩) (hcd:PySem.W.codeIn K cdv qual=true) (S:aU N ps scope)
  (len:∀vs H Q E,sp vs H Q E->vs.length=ps.length)
  (hbody:∀(A:Around)(outer:List Env)(s:Shared)(H:Hp)(vs:List V)(Q:VK)(E:XK),Room k (A.deeper (envOfC qual scope s.heap.objs.size f cdv))->sp vs H Q E->
   ∃t,PSs (dG CX P w K mg base N qual scope f cdv A outer s H E) body t/\t {nx:=λa H'=>Q .non H',rt:=Q} (start N vs) H):
  FnOk P w K mg base CX (k+1) f (PySem.W.fnOf name qual params body scope dV kV doc pm an cdv ct) ps sp:=by
 refine⟨len,λA outer s H args us vs Q E hr e0 hb r hsp=>?_⟩;have hl:=len _ _ _ _ hsp;have KX:K.In s.heap:=e0.mod.kin.keeps λb o e=>(e0.bs b o e).1
 have lim:s.heap.NoLimit:=e0.mod.nolimit.keeps λb o e=>(e0.bs b o e).1
 have hkind:∀y∈ps.zip us,scope.names.lookup y.1=some .local\/(scope.names.lookup y.1=some .cell/\((cellsFrom (s.heap.objs.size+1) scope.names []).lookup y.1).isSome=true):=λ⟨n,v⟩ hy=>by
  rcases S.par n (List.of_mem_zip hy).1 with q|q
  .exact .inl q
  .exact .inr ⟨q,PySem.W.cellsFrom_some _ _ _ (.inl q)⟩
 refine codeAny_call_function hr.depth (KX _ _ lk) rfl S.co S.gen rfl (PySem.W.codeRec_of KX hcd) (hb _ _ _ _ ?_);refine wpAny_newFunctionEnv_cells S.kind hkind λenv he s1 x=>?_
 subst he;refine⟨lim.keeps x.toInCall.keep,codeAny_func ?_⟩;obtain⟨t,ht,hq⟩:=hbody A outer s H vs Q E (hr.deeper _) hsp;have I:Inv (dG CX P w K mg base N qual scope f cdv A outer s H E) [] (start N vs) H s1:=sH S hr.hd e0 hl r x;refine wpAny_mono (ht [] s1 (start N vs) H _ I hq) (λfl s' hs=>?_) λe s' hs=>hs
 have fin:∀{σ':St}{H':Hp}{v:V}{u:Value},Inv (dG CX P w K mg base N qual scope f cdv A outer s H E) [] σ' H' s'->RelV v u->Q v H'->CE outer P w H s Q u s':=
  λ{σ' H' v u} J rv q=>⟨v,H',J.os,J.bare,J.base,J.hok,rv,q⟩
 cases fl with
 |ret u=>
  obtain⟨v,σ',H',J,rv,q⟩:=hs;exact fin J rv q
 |next=>
  obtain⟨σ',H',J,q⟩:=hs;exact fin (v:=V.non) (u:=Value.none) J rfl q
 |brk=>
  obtain⟨_,_,_,q⟩:=hs;exact False.elim q
 |cont=>
  obtain⟨_,_,_,q⟩:=hs;exact False.elim q
section
variable {id T:String}{r:List V->Hp->VK->Prop}
def tCB(r:List V->Hp->VK->Prop)(t:TA):TE:=λσ H Q=>t σ H λvs H1=>r vs H1 Q
def cq(hc:ba X (.builtin id) r)(hg:Gl X x)(hm:X.mg x=none)(hv:bootBuiltins x=some (.builtin id))(ha:PA X (e::es) t)(hn:x≠"__name__":=by decide)(hdb:(x==("__debug__":Str))=false:=by decide)
  (he:starEach (e::es) X.env=(false,eval e X.env)::starEach es X.env:=by rfl) (hpl:(backTo pos (starEach es X.env)).any (·.1)=false:=by rfl):PE X (.Call (.Name x p) (e::es) [] pos) (tCB r t):=by
 intro pins s σ H Q I h;refine wpAny_Call_Name_kw (ld_blt I hg hm hv ?_ hn hdb);exact PyProof.Rows.callWith_builtin1 (thn (ha pos pins s σ H _ I h) λus s1 ⟨vs,H1,I1,r1,q1⟩=>hc pins s1 σ H1 vs us Q I1 r1 q1) he hpl
def eE(hc:ba X (.type T) r)(hg:Gl X x)(hm:X.mg x=none)(hv:bootBuiltins x=some (.type T))(ha:PA X (e::es) t)(hn:x≠"__name__":=by decide)(hdb:(x==("__debug__":Str))=false:=by decide)
  (he:starEach (e::es) X.env=(false,eval e X.env)::starEach es X.env:=by rfl) (hpl:(backTo pos (starEach es X.env)).any (·.1)=false:=by rfl):PE X (.Call (.Name x p) (e::es) [] pos) (tCB r t):=by
 intro pins s σ H Q I h;refine wpAny_Call_Name_kw (ld_blt I hg hm hv ?_ hn hdb);exact PyProof.Rows.callWith_type1 (thn (ha pos pins s σ H _ I h) λus s1 ⟨vs,H1,I1,r1,q1⟩=>hc pins s1 σ H1 vs us Q I1 r1 q1) he hpl
end
end L2
section
variable {P prog:PySem.Program}{w:PySem.World}{s:PySem.Shared}{X:L2.Cx}{e o:PySem.Expr}{pos:PySem.Pos}{c i n t':Nat}{a f:PySem.Addr}{b:Bool}{pins:List (PySem.Addr×PySem.Obj)}{σ:L2.St}{H H':L2.Hp}{xs:List L2.V}{its its':List PySem.Value}{T:String}{qual x:PySem.Str}{h:PySem.Heap}{loose:List PySem.Str}{mg:PySem.Str->Option PySem.Value}{fd:PySem.FuncData}{st:PySem.Stmt}{r u:PySem.Value}{y:L2.V}{kvs:List (L2.Key×L2.V)}{Q:PySem.Value->PySem.Shared->Prop}{env:PySem.Env}{scope:PySem.Scope}{js:List Nat}
namespace HT
open PySem PyProof.Rows
section
open PySem.SeqAt
open PySem.AutoSeq1 (wpAny_loadPart')
open PySem.MeetsSeq PySem.MeetsSeq2 PySem.MeetsSeq3
end
section
variable {A:Around}{E:Value->Shared->Prop}
noncomputable def sIx(n d:Nat):Option Int->Nat
 |none=>d
 |some v=>if v<0 then (v+(n:Int)).toNat else min v.toNat n
end
end HT
namespace L2
open PySem PySem.Spec PyProof.Rows
noncomputable abbrev TO:=St->Hp->(Option Int->Hp->Prop)->Prop
def PO(X:Cx)(e:Option Expr)(t:TO):Prop:=
 ∀(pins:List (Addr×Obj))(s:Shared)(σ:St)(H:Hp)(Q:Option Int->Hp->Prop),Inv X pins σ H s->t σ H Q->
  wpAny (model X.prog X.w) X.A (evalPart e X.env) (λu s'=>∃o H',Inv X pins σ H' s'/\IsPart u o/\Q o H') X.xe s
def zk:TO:=λa H Q=>Q none H
def GU(t:TE):TO:=λσ H Q=>t σ H λx H1=>∃i,x=.int i/\Q (some i) H1
section
variable {te:TE}{lo hi:Option Expr}{tl th:TO}{p2:Pos}
def zm:PO X none zk:=by
 intro pins s σ H Q I h;rw[evalPart_none];exact wq0 ⟨none,H,I,.none,h⟩
def zo(h:PE X e te):PO X (some e) (GU te):=by
 intro pins s σ H Q I hw;rw[evalPart_some];refine thn (h pins s σ H _ I hw) λu s1 ⟨x,H1,I1,r1,q1⟩=>?_
 obtain⟨i,rfl,q⟩:=q1;obtain⟨t,rfl⟩:=r1;exact⟨some i,H1,I1,.int i t,q⟩
def SlR(X:Cx)(r:V->Option Int->Option Int->Hp->VK->Prop):Prop:=
 ∀(pins:List (Addr×Obj))(s:Shared)(σ:St)(H:Hp)(x:V)(v vl vu:Value)(lo hi:Option Int)(sl:Addr)(Q:VK),Inv X pins σ H s->RelV x v->s.heap.IsSliceOf sl vl vu .none->IsPart vl lo->IsPart vu hi->r x lo hi H Q->
  ∃T id,typeLookup (.type T) "__getitem__"=pure (some (.builtin id))/\s.TypeIs v T/\wpAny (model X.prog X.w) X.A (getItem v (.ref sl)) (EP X pins σ Q) X.xe s
noncomputable def tSl(r:V->Option Int->Option Int->Hp->VK->Prop)(te:TE)(tl th:TO):TE:=λσ H Q=>te σ H λx H1=>tl σ H1 λl H2=>th σ H2 λu H3=>r x l u H3 Q
def uV{r:V->Option Int->Option Int->Hp->VK->Prop}(hr:SlR X r)(he:PE X e te)(hl:PO X lo tl)(hu:PO X hi th):PE X (.Subscript e (.Slice lo hi none p2) pos) (tSl r te tl th):=by
 intro pins s σ H Q I h;refine Subscript_ (thn (he pins s σ H _ I h) λv s1 ⟨x,H1,I1,r1,q1⟩=>?_);refine wpAny_Slice (thn (hl pins s1 σ H1 _ I1 q1) λvl s2 ⟨l,H2,I2,pl,q2⟩=>thn (hu pins s2 σ H2 _ I2 q2) λvu s3 ⟨u,H3,I3,pu,q3⟩=>?_);rw[evalPart_none];refine wq0 ?_;have I4:Inv X pins σ H3 {s3 with heap:=s3.heap.push {cls:=.type "slice",data:=.fields #[vl,vu,.none]}}:=I3.kept (t':=s3.toks) λb ob q=>ps0 _ q
 obtain⟨T,id,hT,ht,hg⟩:=hr pins {s3 with heap:=s3.heap.push {cls:=.type "slice",data:=.fields #[vl,vu,.none]}} σ H3 x v vl vu l u s3.heap.objs.size Q I4 r1 (Heap.IsSliceOf.new ..) pl pu q3;show wpAny (model X.prog X.w) X.A (subscriptTail e (.Slice lo hi none p2) v (.ref s3.heap.objs.size)) (EP X pins σ Q) X.xe {s3 with heap:=s3.heap.push {cls:=.type "slice",data:=.fields #[vl,vu,.none]}};exact tail_any (ops:=[.ref s3.heap.objs.size,v]) ht hT hg (by with_unfolding_all rfl)
noncomputable def sI(xs:List V)(lo hi:Option Int):List V:=(xs.drop (HT.sIx xs.length 0 lo)).take (HT.sIx xs.length xs.length hi-HT.sIx xs.length 0 lo)
def mw(xs:List V)(lo hi:Option Int):(sI xs lo hi).length<=xs.length:=by
 unfold sI;rw[List.length_take,List.length_drop];omega
end
noncomputable def ixN(n:Nat)(i:Int):Option Nat:=if 0<=i then (if i<n then some i.toNat else none)else if -(n:Int)<=i then some (i+n).toNat else none
def atI{α:Type}(xs:List α)(i:Int):Option α:=(ixN xs.length i).bind λj=>xs[j]?
def qD{i:Int}{j:Nat}(h:ixN n i=some j):seqIndex? i n=some j/\j<n/\ -(n:Int)<=i/\i<n:=by
 unfold ixN at h
 by_cases h0:0<=i
 .rw[if_pos h0]at h
  by_cases h1:i<n
  .rw[if_pos h1]at h
   have e:i.toNat=j:=Option.some.inj h;exact⟨by rw[seqIndex_of h0 h1,e],by omega,by omega,h1⟩
  .rw[if_neg h1]at h;cases h
 .rw[if_neg h0]at h
  by_cases h1:-(n:Int)<=i
  .rw[if_pos h1]at h
   have e:(i+n).toNat=j:=Option.some.inj h;exact⟨by rw[seqIndex_neg (by omega) h1,e],by omega,h1,by omega⟩
  .rw[if_neg h1]at h;cases h
def iq{α:Type}{xs:List α}{i:Int}{v:α}(h:atI xs i=some v):∃j,seqIndex? i xs.length=some j/\xs[j]?=some v/\j<xs.length/\ -(xs.length:Int)<=i/\i<xs.length:=by
 unfold atI at h;cases e:ixN xs.length i with
 |none=>rw[e]at h;cases h
 |some j=>
  rw[e]at h;obtain⟨h1,h2,h3,h4⟩:=qD e;exact⟨j,h1,h,h2,h3,h4⟩
def zq(b:Expr):Prop:=∀o i,subscripted b false o i=operate [o,i] (getItem o i)
def IxR(X:Cx)(r:R2):Prop:=
 ∀(value slice:Expr)(pins:List (Addr×Obj))(s:Shared)(σ:St)(H:Hp)(x y:V)(v u:Value)(Q:VK),Inv X pins σ H s->RelV x v->RelV y u->r x y H Q->
  subscripted slice false v u=operate [v,u] (getItem v u)->wpAny (model X.prog X.w) X.A (subscriptTail value slice v u) (EP X pins σ Q) X.xe s
def MtR(X:Cx)(id:String)(r:V->List V->Hp->VK->Prop):Prop:=
 ∀(pins:List (Addr×Obj))(s:Shared)(σ:St)(H:Hp)(x:V)(xs:List V)(v:Value)(us:List Value)(Q:VK),Inv X pins σ H s->RelV x v->Vals xs us->r x xs H Q->
  wpAny (model X.prog X.w) X.A (call (.builtin id) (v::us)) (EP X pins σ Q) X.xe s
section
variable {a b:Expr}{ta tb:TE}
def qE{r:R2}(hr:IxR X r)(ha:PE X a ta)(hb:PE X b tb)(hs:zq b):PE X (.Subscript a b pos) (tOp r ta tb):=by
 intro pins s σ H Q I h;exact Subscript_ (binT ha hb I h λv u s2 x y H2 I2 rx ry q=>hr a b pins s2 σ H2 x y v u Q I2 rx ry q (hs _ _))
noncomputable def Kl(K:fg0):R2:=λx y H Q=>∃p xs i v,x=.ref p/\y=.int i/\SqL K H p xs/\atI xs i=some v/\Q v H
noncomputable def Km(K:fg0):R2:=λx y H Q=>∃p xs i v,x=.ref p/\y=.int i/\SqT K H p xs/\atI xs i=some v/\Q v H
noncomputable def Kn:R2:=λx y H Q=>∃z i c,x=.str z/\y=.int i/\z.length<=sizeLine/\atI z.cps.toList i=some c/\Q (.str ⟨#[c]⟩) H
def qF:IxR X (Kl X.K):=by
 intro value slice pins s σ H x y v u Q I rx ry h hs;obtain⟨p,xs,i,z,rfl,rfl,hq,he,q⟩:=h;cases rx;obtain⟨t,rfl⟩:=ry;obtain⟨its,r,pl,hz⟩:=I.list hq;obtain⟨j,h1,h2,h3,h4,h5⟩:=iq he;obtain⟨w,ew,rw'⟩:=r.get h2;have hl:=r.length;have hn:=fj;have fin:EP X pins σ Q w s:=⟨z,H,I,rw',q⟩
 by_cases h0:0<=i
 .have hj:i.toNat=j:=by
   rw[seqIndex_of h0 h5]at h1;exact Option.some.inj h1
  exact item_listR pl.isList h0 (by omega) (by rw[hj];simpa using ew) fin hs
 .have hj:(i+(its.toArray.size:Int)).toNat=j:=by
   rw[seqIndex_neg (by omega) h4]at h1;rw[ls0,<-hl];exact Option.some.inj h1
  exact subscriptTail_builtinR (x:=w) pl.isList.typeIs slot_list_getitem.lookup
   (wpAny_getItem_list_neg (Q:=λr s'=>r=w/\EP X pins σ Q r s') pl.isList (by omega) (by rw[ls0]<;>omega) (by omega) (by rw[hj];simpa using ew) ⟨rfl,fin⟩) hs
def oX:IxR X (Km X.K):=by
 intro value slice pins s σ H x y v u Q I rx ry h hs;obtain⟨p,xs,i,z,rfl,rfl,hq,he,q⟩:=h;cases rx;obtain⟨t,rfl⟩:=ry;obtain⟨its,r,pl,hz⟩:=I.tuple hq;obtain⟨j,h1,h2,h3,h4,h5⟩:=iq he;obtain⟨w,ew,rw'⟩:=r.get h2;have hl:=r.length;have hn:=fj;have fin:EP X pins σ Q w s:=⟨z,H,I,rw',q⟩;exact subscriptTail_builtinR (x:=w) pl.typeIs slot_tuple_getitem.lookup
  (getItem_tuple (j:=j) (Q:=λr s'=>r=w/\EP X pins σ Q r s') pl (by omega) (by omega) (by rw[ls0,<-hl];exact h1) (by simpa using ew) ⟨rfl,fin⟩) hs
def CV:IxR X Kn:=by
 intro value slice pins s σ H x y v u Q I rx ry h hs;obtain⟨z,i,c,rfl,rfl,hz,he,q⟩:=h;obtain⟨t,rfl⟩:=rx;obtain⟨t',rfl⟩:=ry;obtain⟨j,h1,h2,h3,h4,h5⟩:=iq he;have hl:z.cps.toList.length=z.length:=by simp[Str.length]
 rw[hl]at h1 h4 h5;have hn:=fj;exact tail_any (typeIs_str s z t) slot_str_getitem.lookup (getItem_str (c:=c) (by
  have e1:decide (i < -(2 ^ 63:Int))=false:=df0 (by omega);have e2:decide (i≥2 ^ 63)=false:=df0 (by omega);rw[e1,e2,Bool.or_false]) (by rw[h1];simpa using h2) ⟨.str ⟨#[c]⟩,H,I.tok _,⟨_,rfl⟩,q⟩) hs
def oY(its:List Value)(n j:Nat)(u:Value):Obj.mapSeq (·.setIfInBounds j u) {cls:=.type "list",data:=.seq its.toArray n}={cls:=.type "list",data:=.seq (its.set j u).toArray n}:=by
 simp[Obj.mapSeq]
theorem Inv.lst{p:Addr}(I:Inv X pins σ H s)(h:H p=some (.lst xs)):
  ∃(its:List Value)(n:Nat),Vals xs its/\s.heap.get? p=some {cls:=.type "list",data:=.seq its.toArray n}/\xs.length<=sizeLine:=by
 obtain⟨z,its,n,r,e⟩:=I.hok p _ h;exact⟨its,n,r,e,z⟩
def Inv.lstUpd{p:Addr}{ys:List V}{n':Nat}{f:Obj->Obj}(I:Inv X pins σ H s)(h:H p=some (.lst xs))
  (ho:s.heap.get? p=some {cls:=.type "list",data:=.seq its.toArray n}) (hf:f {cls:=.type "list",data:=.seq its.toArray n}={cls:=.type "list",data:=.seq its'.toArray n'}) (r:Vals ys its') (hz:ys.length<=sizeLine) (t:Nat):
  Inv X pins σ (upd H p (.lst ys)) {s with heap:=s.heap.update p f,toks:=t}:=by
 have e:(s.heap.update p f).get? p=some {cls:=.type "list",data:=.seq its'.toArray n'}:=by
  rw[hu0 f ho (by rw[hf]<;>rfl),hf]
 refine I.write (x:=p) (e:=p) (by rw[h];trivial) (.inl rfl) (λb u hb q=>(Heap.get?_update_other _ _ (Ne.symm hb)).trans q) ⟨_,e⟩ ?_;exact⟨hz,its',n',r,e⟩
noncomputable def GV:V->V->V->Hp->(Hp->Prop)->Prop:=λo i v H Q=>∃p xs k j,o=.ref p/\i=.int k/\H p=some (.lst xs)/\ixN xs.length k=some j/\Q (upd H p (.lst (xs.set j v)))
def set_list:zf X GV:=by
 intro pins s σ H o i v ov iv u Q I ro ri rv h;obtain⟨p,xs,k,j,rfl,rfl,hp,hj,q⟩:=h;cases ro;obtain⟨t,rfl⟩:=ri;obtain⟨its,n,r,ho,hz⟩:=I.lst hp;obtain⟨h1,h2,h3,h4⟩:=qD hj;have hl:=r.length;have hn:=fj;have I':Inv X pins σ (upd H p (.lst (xs.set j v))) {s with heap:=s.heap.update p (Obj.mapSeq (·.setIfInBounds j u))}:=
  I.lstUpd hp ho (oY its n j u) (r.set rv j) (by rw[List.length_set];exact hz) s.toks
 by_cases h0:0<=k
 .have hk:k.toNat=j:=by
   rw[seqIndex_of h0 h4]at h1;exact Option.some.inj h1
  exact PySem.W.ki_setAt ho h0 (by omega) (by rw[ls0,<-hl];exact h4) (by rw[hk];exact⟨_,I',q⟩)
 .have hk:(k+(its.toArray.size:Int)).toNat=j:=by
   rw[seqIndex_neg (by omega) h3]at h1;rw[ls0,<-hl];exact Option.some.inj h1
  exact PySem.W.ki_setBack ho (by omega) (by rw[ls0,<-hl];exact h3) (by omega) (by rw[hk];exact⟨_,I',q⟩)
def lg(lo hi:Option Int)(n:Nat):(sliceBounds lo hi none n).1=((HT.sIx n 0 lo:Nat):Int)/\(sliceBounds lo hi none n).2.1=((HT.sIx n n hi:Nat):Int)/\(sliceBounds lo hi none n).2.2=1:=by
 refine⟨?_,?_,rfl⟩
 .cases lo with
  |none=>simp[sliceBounds,HT.sIx]
  |some i=>
   simp only[sliceBounds,HT.sIx,Option.getD_none,show (1:Int)>0 by decide,if_true]
   by_cases h:i<0
   .simp only[h,if_true]<;>omega
   .simp only[h,if_false]<;>omega
 .cases hi with
  |none=>simp[sliceBounds,HT.sIx]
  |some i=>
   simp only[sliceBounds,HT.sIx,Option.getD_none,show (1:Int)>0 by decide,if_true]
   by_cases h:i<0
   .simp only[h,if_true]<;>omega
   .simp only[h,if_false]<;>omega
def jL(its:List Value)(lo hi:Option Int):slicePick its.toArray lo hi none=((its.drop (HT.sIx its.length 0 lo)).take (HT.sIx its.length its.length hi-HT.sIx its.length 0 lo)).toArray:=by
 obtain⟨h1,h2,h3⟩:=lg lo hi its.toArray.size;unfold slicePick;rw[h1,h2,h3];simp only[sliceRange_one,pick_run,ls0]<;>rfl
noncomputable def Ko(K:fg0):V->Option Int->Option Int->Hp->VK->Prop:=λx lo hi H Q=>∃a xs,x=.ref a/\SqL K H a xs/\∀p,H p=none->Q (.ref p) (upd H p (.lst (sI xs lo hi)))
def qG:SlR X (Ko X.K):=by
 intro pins s σ H x v vl vu lo hi sl Q I rx hs pl pu h;obtain⟨a,xs,rfl,hx,q⟩:=h;cases rx;obtain⟨its,r,ht,hz⟩:=I.list hx;have hlen:=r.length;refine⟨"list",_,slot_list_getitem.lookup,ht.isList.typeIs,?_⟩;refine wpAny_getItem_list_slice ht.isList hs pl pu .none (by simp) ?_ (by rw[ls0]<;>omega);rw[jL,<-hlen];refine⟨.ref s.heap.objs.size,_,I.laid (t':=s.toks) (o:=.lst (sI xs lo hi)) (λb ob q=>ps0 _ q) (nr0 _) ?_,rfl,q _ (I.hok.fresh (nr0 _))⟩;exact⟨nt0 (mw xs lo hi) hz,_,0,(r.drop (HT.sIx xs.length 0 lo)).take (HT.sIx xs.length xs.length hi-HT.sIx xs.length 0 lo),pz0 _ rfl⟩
def lh:OpR X (compareOp .NotIn) (λx y H Q=>∃i j,x=.str i/\y=.str j/\Q (.bl (!(!(Builtin.Str.occurrences j i 0 j.length 1).isEmpty))) H):=by
 intro pins s σ H x y v u Q I rx ry h;obtain⟨i,j,rfl,rfl,q⟩:=h;obtain⟨t,rfl⟩:=rx;obtain⟨t',rfl⟩:=ry;exact notIn_str ⟨.bl _,H,I,rfl,q⟩
def lq:ba X (.builtin "len") (λxs H Q=>∃p ys,xs=[.ref p]/\(SqL X.K H p ys\/SqT X.K H p ys)/\Q (.int ys.length) H):=by
 intro pins s σ H xs us Q I r h;obtain⟨p,ys,rfl,hq,q⟩:=h;obtain⟨u,rfl,rx⟩:=vals1 r;cases rx;have hn:=fj;rcases hq with hq|hq
 .obtain⟨its,r',pl,hz⟩:=I.list hq
  have hlen:=r'.length;exact Calls.call_len_list pl.isList (by simp only[ls0]<;>omega) ⟨.int ys.length,H,I.tok _,⟨s.toks+1,by rw[ls0,hlen]⟩,q⟩
 .obtain⟨its,r',pl,hz⟩:=I.tuple hq
  have hlen:=r'.length;exact len_tuple pl (by simp only[ls0]<;>omega) ⟨.int ys.length,H,I.tok _,⟨s.toks+1,by rw[ls0,hlen]⟩,q⟩
def fF:ba X (.type "list") (λxs H Q=>∃p ys,xs=[.ref p]/\(SqL X.K H p ys\/SqT X.K H p ys)/\∀l,H l=none->Q (.ref l) (upd H l (.lst ys))):=by
 intro pins s σ H xs us Q I r h;obtain⟨p,ys,rfl,hq,q⟩:=h;obtain⟨u,rfl,rx⟩:=vals1 r;cases rx;have fin:∀(its:List Value),Vals ys its->ys.length<=sizeLine->∀(h':Heap)(c':Nat),(∀b o',s.heap.get? b=some o'->h'.get? b=some o')->
   h'.get? s.heap.objs.size=some {cls:=.type "list",dict:=none,data:=.seq its.toArray c',slots:=#[]}->EP X pins σ Q (.ref s.heap.objs.size) {s with heap:=h'}:=λits r' hz h' c' kp e=>
  ⟨.ref s.heap.objs.size,_,I.laid (t':=s.toks) kp (nr0 _) (show ObjOk X.prog X.w _ h' _ (.lst ys)from⟨hz,its,c',r',e⟩),rfl,q _ (I.hok.fresh (nr0 _))⟩
 rcases hq with hq|hq
 .obtain⟨its,r',pl,hz⟩:=I.list hq
  have hlen:=r'.length;obtain⟨o,ho,hc,n,hd⟩:=pl.isList;exact call_list_seq p (.inl rfl) ho hc hd (λh' c' kp e=>fin its r' hz h' c' kp e) (by simp only[ls0]<;>omega)
 .obtain⟨its,r',pl,hz⟩:=I.tuple hq
  have hlen:=r'.length;obtain⟨o,ho,hc,n,hd⟩:=pl;exact call_list_seq p (.inr rfl) ho hc hd (λh' c' kp e=>fin its r' hz h' c' kp e) (by simp only[ls0]<;>omega)
def eX:ba X (.type "tuple") (λxs H Q=>∃p ys,xs=[.ref p]/\((SqL X.K H p ys/\∀l,H l=none->Q (.ref l) (upd H l (.tup ys)))\/(SqT X.K H p ys/\Q (.ref p) H))):=by
 intro pins s σ H xs us Q I r h;obtain⟨p,ys,rfl,h⟩:=h;obtain⟨u,rfl,rx⟩:=vals1 r;cases rx;rcases h with⟨hq,q⟩|⟨hq,q⟩
 .obtain⟨its,r',pl,hz⟩:=I.list hq
  have hlen:=r'.length;refine call_tuple_list pl.isList (λh' kp=>?_) (by simp only[ls0]<;>omega);have I1:Inv X pins σ H {s with heap:=h'}:=I.kept (t':=s.toks) kp;have I2:Inv X pins σ (upd H h'.objs.size (.tup ys)) {s with heap:=h'.push {cls:=.type "tuple",data:=.seq its.toArray}}:=
   I1.laid (t':=s.toks) (λb o e=>ps0 _ e) (nr0 _) (show ObjOk X.prog X.w _ _ _ (.tup ys)from⟨hz,its,r',IsTup.new _ _⟩)
  exact⟨.ref h'.objs.size,_,I2,rfl,q _ (I1.hok.fresh (nr0 _))⟩
 .obtain⟨its,r',pl,hz⟩:=I.tuple hq
  exact call_tuple_same pl ⟨.ref p,H,I,rfl,q⟩
def tyV(K:fg0)(T:String)(x:V)(H:Hp):Prop:=match x with
 |.str _=>T="str"
 |.int _=>T="int"
 |.ref p=>(T="list"/\∃xs,SqL K H p xs)\/(T="tuple"/\∃o,K.lookup p=some o/\o.cls=.type "tuple"/\o.dict=none)\/
   (T="dict"/\((∃kvs,H p=some (.dK kvs))\/∃kvs,H p=some (.dT kvs)))\/(T="set"/\∃S n,H p=some (.set S n))
 |_=>False
def uW{x:V}{v:Value}(I:Inv X pins σ H s)(r:RelV x v)(ty:tyV X.K T x H):
  s.TypeIs v T/\∀a,v=.ref a->∃ob,s.heap.get? a=some ob/\ob.dict=none:=by
 cases x with
 |str z=>
  obtain⟨t,rfl⟩:=r;cases (show T="str" from ty);exact⟨typeIs_str s z t,λb e=>nomatch e⟩
 |int i=>
  obtain⟨t,rfl⟩:=r;cases (show T="int" from ty);exact⟨typeIs_int s i t,λb e=>nomatch e⟩
 |ref p=>
  cases r;rcases ty with⟨rfl,xs,hq⟩|⟨rfl,o,hk,hc,hd⟩|⟨rfl,hk⟩|⟨rfl,S,n,hk⟩
  .obtain⟨its,_,pl,_⟩:=I.list hq
   refine⟨pl.isList.typeIs,λa e=>?_⟩;cases e;obtain⟨o,n,e,c,hd,_⟩:=pl;exact⟨o,e,hd⟩
  .refine⟨⟨o,I.kIn p o hk,hc⟩,λa e=>?_⟩
   cases e;exact⟨o,I.kIn _ o hk,hd⟩
  .have z:∃o,s.heap.get? p=some o/\o.ExactDict:=by
    rcases hk with⟨kvs,hk⟩|⟨kvs,hk⟩
    .obtain⟨_,_,_,_,o,_,_,e,ex,_⟩:=I.hok p _ hk
     exact⟨o,e,ex⟩
    .obtain⟨_,_,_,_,o,_,_,e,ex,_⟩:=I.hok p _ hk
     exact⟨o,e,ex⟩
   obtain⟨o,e,ex⟩:=z;refine⟨⟨o,e,ex.1⟩,λa e2=>?_⟩;cases e2;exact⟨o,e,ex.2.1⟩
  .obtain⟨o,_,_,_,e,ex,_⟩:=I.hok p _ hk
   refine⟨⟨o,e,ex.1⟩,λa e2=>?_⟩;cases e2;exact⟨o,e,ex.2.1⟩
 |_=>exact False.elim ty
noncomputable def Kp(K:fg0)(T:String)(r:V->List V->Hp->VK->Prop)(to:TE):TE:=λσ H Q=>to σ H λx H1=>tyV K T x H1/\r x [] H1 Q
noncomputable def tBM(K:fg0)(T:String)(r:V->List V->Hp->VK->Prop)(to:TE)(t:TA):TE:=λσ H Q=>to σ H λx H1=>tyV K T x H1/\t σ H1 λxs H2=>r x xs H2 Q
variable {es:List Expr}{to:TE}{t:TA}{name:Str}{apos cpos:Pos}{id:String}{r:V->List V->Hp->VK->Prop}
def CW(pa:PlainAttrs T)(slot:Slot T name id)(hty:typeOf (.builtin id)=pure (.type "method_descriptor"))(hm:MtR X id r)(ho:PE X o to)
  (hbase:attributeBase o name X.env (eval o X.env)=eval o X.env:=by rfl) (hline:(apos.endLine==cpos.line)=true:=by rfl):PE X (.Call (.Attribute o name apos) [] [] cpos) (Kp X.K T r to):=by
 intro pins s σ H Q I h;refine wpAny_Call_method0_late hbase hline (thn (ho pins s σ H _ I h) λv s1 ⟨x,H1,I1,r1,ty,q1⟩=>?_);obtain⟨h1,h2⟩:=uW I1 r1 ty;exact⟨T,id,pa,slot,hty,h1,h2,Calls.callWith_builtin rfl (PySem.evalArgs_none (hm pins s1 σ H1 x [] v [] Q I1 r1 .nil q1))⟩
def qH(pa:PlainAttrs T)(slot:Slot T name id)(hty:typeOf (.builtin id)=pure (.type "method_descriptor"))(hm:MtR X id r)(ho:PE X o to)(ha:PA X (e::es) t)
  (hbase:attributeBase o name X.env (eval o X.env)=eval o X.env:=by rfl)
  (hfew:((backTo cpos (starEach (e::es) X.env)).all (λx=>!x.1)&&(backToKw cpos (keywordEach [] X.env)).all (λx=>x.1.isSome)
   &&decide ((e::es).length+([]:List Keyword).length+(if ([]:List Keyword).isEmpty then 0 else 1)<30))=true:=by rfl)
  (hline:(apos.endLine==cpos.line)=true:=by rfl) (hs:starEach (e::es) X.env=(false,eval e X.env)::starEach es X.env:=by rfl) (hplain:(backTo cpos (starEach es X.env)).any (·.1)=false:=by rfl):
  PE X (.Call (.Attribute o name apos) (e::es) [] cpos) (tBM X.K T r to t):=by
 intro pins s σ H Q I h;refine wpAny_Call_method_late hbase hfew hline rfl (thn (ho pins s σ H _ I h) λv s1 ⟨x,H1,I1,r1,ty,q1⟩=>?_);obtain⟨h1,h2⟩:=uW I1 r1 ty;refine⟨T,id,pa,slot,hty,h1,h2,?_⟩;have hA:=ha cpos pins s1 σ H1 _ I1 q1;rw[hs]at hA ⊢;refine Calls.callWith_builtin (by show (false||(backTo cpos (starEach es X.env)).any (·.1))=false;rw[hplain]<;>rfl) (Calls.evalArgs_plain ?_);exact thn hA λus s2 ⟨vs,H2,I2,r2,q2⟩=>hm pins s2 σ H2 x vs v us Q I2 r1 r2 q2
end
def MtM(X:Cx)(id:String)(r:V->List V->Hp->VK->Prop):Prop:=
 ∀(pins:List (Addr×Obj))(s:Shared)(σ:St)(H:Hp)(x:V)(xs:List V)(v:Value)(us:List Value)(Q:VK),Inv X pins σ H s->RelV x v->Vals xs us->r x xs H Q->
  wpAny (model X.prog X.w) X.A (call (.builtin id) (v::us)) (EP X pins σ Q) X.xe s
def Vals.one:∀{x:V}{us:List Value},Vals [x] us->∃u,us=[u]/\RelV x u
 |_,_,.cons r .nil=>⟨_,rfl,r⟩
theorem Vals.rep{us:List Value}(h:Vals xs us):∀k:Nat,Vals (List.replicate k xs).flatten (List.replicate k us).flatten
 |0=>.nil
 |k+1=>by
  rw[List.replicate_succ,List.replicate_succ,List.flatten_cons,List.flatten_cons];exact Vals.append h (Vals.rep h k)
theorem foldl_rep(its:List Value):∀(k:Nat)(acc:List Value),
  List.foldl (λx1 x2=>x1++x2) acc.toArray (List.replicate k its.toArray)=(acc++(List.replicate k its).flatten).toArray
 |0,acc=>by simp
 |k+1,acc=>by
  have e:acc.toArray++its.toArray=(acc++its).toArray:=by simp
  have e2:(acc++its)++(List.replicate k its).flatten=acc++(List.replicate (k+1) its).flatten:=by
   rw[List.replicate_succ,List.flatten_cons,List.append_assoc]
  rw[<-e2,<-foldl_rep its k (acc++its),<-e,List.replicate_succ,List.foldl_cons]
section
variable {l b:Addr}{ys zs:List V}
def Inv.lset{f:Array Value->Array Value}(I:Inv X pins σ H s)(hH:H l=some (.lst xs))
  (e:s.heap.get? l=some {cls:=.type "list",data:=.seq its.toArray n}) (hf:f its.toArray=its'.toArray) (hv:Vals ys its') (hz:ys.length<=sizeLine):
  Inv X pins σ (upd H l (.lst ys)) {s with heap:=s.heap.update l (Obj.mapSeq f),toks:=t'}:=by
 have q:=PySem.IsL.update e f;rw[hf]at q;refine I.write (x:=l) (e:=l) (by rw[hH];exact trivial) (.inl rfl) (λb' u hb hu=>(Heap.get?_update_other s.heap (Obj.mapSeq f) (Ne.symm hb)).trans hu) ⟨_,q⟩ ?_;exact⟨hz,its',_,hv,q⟩
def Inv.lnew(I:Inv X pins σ H s)(hv:Vals ys its)(hz:ys.length<=sizeLine):
  Inv X pins σ (upd H s.heap.objs.size (.lst ys)) {s with heap:=s.heap.push {cls:=.type "list",data:=.seq its.toArray},toks:=t'}:=
 I.laid (λa a q=>ps0 _ q) (nr0 _) ⟨hz,its,0,hv,pz0 _ rfl⟩
theorem Inv.fresh(I:Inv X pins σ H s):H s.heap.objs.size=none:=I.hok.fresh (nr0 _)
def Inv.lstM(I:Inv X pins σ H s)(hH:H l=some (.lst xs)):xs.length<=sizeLine/\∃(its:List Value)(n:Nat),Vals xs its/\xs.length=its.length/\s.heap.get? l=some {cls:=.type "list",data:=.seq its.toArray n}:=by
 obtain⟨z,its,n,r,e⟩:=I.hok l _ hH;exact⟨z,its,n,r,r.length,e⟩
def my(h:n<=sizeLine):Builtin.List.listTooLong n=false:=by
 unfold Builtin.List.listTooLong;exact df0 (by omega)
end
noncomputable def zt:V->List V->Hp->VK->Prop:=λx vs H Q=>∃l xs y,x=.ref l/\vs=[y]/\H l=some (.lst xs)/\xs.length<sizeLine/\Q .non (upd H l (.lst (xs++[y])))
def gq:MtM X "list.append" zt:=by
 intro pins s σ H x vs v us Q I rx rv h;obtain⟨l,xs,y,rfl,rfl,hH,hz,q⟩:=h;cases rx;obtain⟨u,rfl,ru⟩:=rv.one;obtain⟨z,its,n,r,hl,e⟩:=I.lstM hH;refine call_meets F.slot_list_append ⟨_,e,rfl⟩ F.entry_list_append (F.args_list_append_2 _ _) (PySem.list_append l its.toArray n u (by rw[ls0];omega)) ⟨e,?_⟩;refine⟨.non,_,I.lset (its':=its++[u]) hH e (by simp) (r.append (.cons ru .nil)) ?_,rfl,q⟩;rw[la0,List.length_singleton];omega
noncomputable def zu:V->List V->Hp->VK->Prop:=λx vs H Q=>∃l b xs zs,x=.ref l/\vs=[.ref b]/\H l=some (.lst xs)/\H b=some (.lst zs)/\xs.length+zs.length<=sizeLine/\Q .non (upd H l (.lst (xs++zs)))
def Gk:MtM X "list.extend" zu:=by
 intro pins s σ H x vs v us Q I rx rv h;obtain⟨l,b,xs,zs,rfl,rfl,hH,hB,hz,q⟩:=h;cases rx;obtain⟨u,rfl,ru⟩:=rv.one;cases ru;obtain⟨z,its,n,r,hl,e⟩:=I.lstM hH;obtain⟨z2,its2,n2,r2,hl2,e2⟩:=I.lstM hB;have hsz:its.toArray.size+its2.toArray.size<=sizeLine:=by rw[ls0,ls0];omega
 have hlong:¬ (!its.toArray.isEmpty&&Builtin.List.listTooLong (its.toArray.size+its2.toArray.size))=true:=by
  rw[my hsz,Bool.and_false];exact fx0
 refine call_meets F.slot_list_extend ⟨_,e,rfl⟩ F.entry_list_extend (F.args_list_extend_2 _ _)
  (AutoSeq1.list_extend_list_list_0 l its.toArray n b its2.toArray n2 hlong (by rw[ls0];omega) (by omega)) ⟨e,e2,?_⟩
 refine⟨.non,_,I.lset (its':=its++its2) hH e (by simp) (r.append r2) ?_,rfl,q⟩;rw[la0];omega
noncomputable def Kq:R2:=λx y H Q=>∃l b xs zs,x=.ref l/\y=.ref b/\H l=some (.lst xs)/\H b=some (.lst zs)/\xs.length+zs.length<=sizeLine/\∀p,H p=none->Q (.ref p) (upd H p (.lst (xs++zs)))
def op_cat:OpR X (binaryOp .Add) Kq:=by
 intro pins s σ H x y v u Q I rx ry h;obtain⟨l,b,xs,zs,rfl,rfl,hH,hB,hz,q⟩:=h;cases rx;cases ry;obtain⟨z,its,n,r,hl,e⟩:=I.lstM hH;obtain⟨z2,its2,n2,r2,hl2,e2⟩:=I.lstM hB;refine PySem.P.add_list e e2 ?_ (by rw[ls0,ls0];omega);have ea:its.toArray++its2.toArray=(its++its2).toArray:=by simp
 rw[ea];exact⟨.ref _,_,I.lnew (t':=s.toks) (r.append r2) (by rw[la0];omega),rfl,q _ I.fresh⟩
noncomputable def Kr:R2:=λx y H Q=>∃l k xs,x=.ref l/\y=.int k/\H l=some (.lst xs)/\ -(2 ^ 63)<=k/\k<2 ^ 63/\xs.length*k.toNat<=sizeLine/\
 ∀p,H p=none->Q (.ref p) (upd H p (.lst (List.replicate k.toNat xs).flatten))
def len_rep{α:Type}(xs:List α)(k:Nat):(List.replicate k xs).flatten.length=k*xs.length:=by
 induction k with
 |zero=>simp
 |succ k ih=>rw[List.replicate_succ,List.flatten_cons,la0,ih,Nat.succ_mul,Nat.add_comm]
def CY:OpR X (binaryOp .Mult) Kr:=by
 intro pins s σ H x y v u Q I rx ry h;obtain⟨l,k,xs,rfl,rfl,hH,h1,h2,hz,q⟩:=h;cases rx;obtain⟨t,rfl⟩:=ry;obtain⟨z,its,n,r,hl,e⟩:=I.lstM hH;have hlen:its.toArray.size*k.toNat<=sizeLine:=by rw[ls0,<-hl];exact hz
 have hcap:¬ its.toArray.size*k.toNat>(2 ^ 63-1) / 8:=by
  have:(sizeLine:Nat)<=(2 ^ 63-1) / 8:=by decide
  omega
 have hfit:¬ (!Builtin.List.listFitsIndex k)=true:=by
  rw[fitsIndex_both h1 h2];exact fx0
 have hlong:¬ Builtin.List.listTooLong (its.toArray.size*k.toNat)=true:=by
  rw[my hlen];exact fx0
 have hnew:List.foldl (λx1 x2=>x1++x2) #[] (List.replicate (if its.toArray.isEmpty=true then 0 else k.toNat) its.toArray)=(List.replicate k.toNat its).flatten.toArray:=by
  have f0:∀m:Nat,List.foldl (λx1 x2=>x1++x2) #[] (List.replicate m its.toArray)=(List.replicate m its).flatten.toArray:=λm=>by
   have:=foldl_rep its m [];rw[List.nil_append]at this;exact this
  rw[f0];cases its with
  |nil=>simp
  |cons a r'=>rw[if_neg (by simp)]
 refine wpAny_binaryOp_repeat_ref (T:="list") (U:="int") (by decide) ⟨_,e,rfl⟩ (λs'=>typeIs_int s' k t) noFill_list_mul F.fills_int_mul F.slot_int_rmul repeat_list F.slot_int_index.lookup
  (call_meets F.slot_int_rmul (typeIs_int s k t) F.entry_int_rmul (F.args_int_rmul_2 _ _) (int___rmul___int_list k t l its.toArray n)
   ⟨e,rfl,⟨_,e,rfl⟩,call_meets F.slot_list_mul ⟨_,e,rfl⟩ F.entry_list_mul (F.args_list_mul_2 _ _) (AutoListH.list___mul___list_int_3 l its.toArray n k t hfit hcap hlong) ⟨e,?_⟩⟩)
 rw[hnew];exact⟨.ref _,_,I.lnew (t':=s.toks) (r.rep k.toNat) (by rw[len_rep,Nat.mul_comm];exact hz),rfl,q _ I.fresh⟩
section
variable {A:Around}{E:Value->Shared->Prop}
end
end L2
namespace Att
open PySem PySem.W PySem.Calls PyProof.Rows
def ic{P:Params}:∀(ns:List Int)(vs:List Value),WellAll P h vs (ns.map WData.int)->IntsAre vs ns:=by
 intro ns
 induction ns with
 |nil=>
  intro vs w;rw[List.map_nil]at w;cases w;exact .nil
 |cons n ns ih=>
  intro vs w;rw[mk0]at w;cases w with
  |cons a b=>
   cases a;exact .cons _ _ (ih _ b)
def sJ{l:OpenLaw}(hn:l.most=some n){P:Params}{args:List WData}{vals:List Value}
  (hpre:l.row.toRowW.claim.pre args=true) (hwl:WellAll P h vals args):
  ∃a vs ns,vals=[Value.ref a]/\args=[WData.list (ns.map WData.int)]/\h.get? a=some {cls:=.type "list",data:=.seq vs.toArray}/\IntsAre vs ns/\ns.length<=n:=by
 have hsh:WShape.hasAll [] args [.list .int]=true:=(pre_splitW hpre).1;have hc:l.pre.holds [] {args:=args}=true:=(pre_splitW hpre).2;obtain⟨d,r,rfl,h1,h2⟩:=hasAllW_cons hsh;obtain rfl:=hasAllW_nil h2;obtain⟨xs,rfl,h3⟩:=hasW_list h1;obtain⟨ns,rfl⟩:=items_int h3;have hlen:ns.length<=n:=by
  unfold OpenLaw.pre at hc;have h4:(WTm.not (.lt (.lit (.int (n:Int))) (.len (.arg 0)))).holds [] {args:=[.list (ns.map .int)]}=true:=by
   have h4:=(holds_andW hc).1;rw[hn]at h4;exact h4
  have h5:=condW_of h4 (w_not (w_lt w_lit (w_len_list (w_arg rfl))));rw[lm0]at h5;refine Nat.le_of_not_lt λq=>?_
  have q':(n:Int)<((ns.length:Nat):Int):=by omega
  first
   |(rw[dt0 q']at h5;exact absurd h5 (by decide))
   |(simp at h5;omega)
 cases hwl with
 |cons w1 w2=>
  cases w2;cases w1 with
  |list ho hall=>exact⟨_,_,ns,rfl,rfl,ho,ic ns _ hall,hlen⟩
def sL(l:OpenLaw)(args:List WData):l.row.toRowW.claim.post args (.bool true) args=true:=
 postW_of (r:=l.row.toRowW) (X:=(true==true))
  (show WShape.has [] (.bool true) .bool=true by first|rfl|decide|simp[WShape.has,WShape.arms,WShape.armsAll])
  (show (WTm.eq .res (.lit (.bool true))).value [] {args:=args,res:=some (.bool true),after:=args}=some (.bool (true==true))from w_eq_bool (w_res rfl) w_lit) rfl
def attach_call{l:OpenLaw}{q:Program}{XP:(Str->Option Value)->Heap->Prop}{YP:World->Heap->Prop}{d:DefRec}
  (hn:l.most=some n) (hdf:d.params.defaults=[])
  (call:∀(w:World)(s₀ s₁:Shared)(mg mb:Str->Option Value)(fa:Addr)(o:Obj)(pm cd doc:Value)(a:Addr)(vs:List Value)(ns:List Int),
   Ground q loose [] XP w s₀ mg mb s₁.heap->YP w s₁.heap->
   s₁.heap.get? fa=some o->o.data=.func (docDef d.name d.params d.body d.scope pm cd doc)->s₁.heap.CodeRec cd d.name->mg d.name=some (.ref fa)->
   s₁.heap.get? a=some {cls:=.type "list",data:=.seq vs.toArray}->IntsAre vs ns->ns.length<=n->s₁.gens=#[]->
   codeAny (model l.prog w) callerA (.call (.ref fa) ⟨[.ref a],[]⟩) (λr s'=>r=.ok (.ret (.bool true))/\OldK s₁.heap s'.heap/\s'.os=s₁.os/\AllBare s'.gens) s₁):
  WalkO q loose XP YP l.row.toRowW d [] (λf vs=>PySem.call f vs):=by
 intro w s₀ s₁ mg mb G Y fa o pm cd doc dV kV ho hd hcd hD hmg hg args vals as hpre hlay hrd hwl hlo;obtain rfl:dV=.none:=Dflts.none hD hdf;obtain rfl:kV=.none:=Dflts.noKw hD;obtain⟨a,vs,ns,rfl,rfl,hobj,hints,hlen⟩:=sJ hn hpre hwl;refine enter_call (codeAny_mono (call w s₀ s₁ mg mb fa o pm cd doc a vs ns G Y ho (fd_plain hd) hcd hmg hobj hints hlen hg) λr s' hq=>?_);obtain⟨rfl,h2,h3,h4⟩:=hq;exact⟨.inl ⟨.bool true,.bool true,[],rfl,λb=>rfl,.bool true,sL l _,λb=>⟨List.Pairwise.nil,λb hm=>(nomatch hm)⟩⟩,h2,h3,h4⟩
section
variable {A:Around}{E:Value->Shared->Prop}{K:Frag}
end
end Att
namespace L2
open PySem PySem.Spec PyProof.Rows
theorem gr:∀{vs:List Value}{ns:List Int},IntsAre vs ns->Vals (ns.map V.int) vs
 |_,_,.nil=>.nil
 |_,_,.cons n t h=>.cons ⟨t,rfl⟩ (gr h)
def CZ(H:Hp):Prop:=∀b,H b=none\/∃o xs,H b=some (.frz o (.lst xs))
def uX{K:fg0}{mb:Str->Option Value}{CX:CXT}{k:Nat}{fa:Addr}{sp:Sp}{s₁:Shared}{vs:List Value}{ns:List Int}
  (KX:K.In s₁.heap) (hns:s₁.heap.Ns mainGlobals mg) (hb:s₁.heap.Ns builtinsNs mb) (hbb:∀x:Str,x≠"__name__"->mb x=bootBuiltins x) (hlim:s₁.heap.NoLimit) (hg:s₁.gens=#[])
  (ha:s₁.heap.get? a=some {cls:=.type "list",data:=.seq vs.toArray}) (hi:IntsAre vs ns) (hl:ns.length<=sizeLine) (hr:Room k callerA)
  (F:∀base:Heap,K.In base->base.Ns mainGlobals mg->FnOk P w K mg base CX k fa fd [x] sp) (hbind:∀(s:Shared)(u:Value),BindsTo s fd ⟨[u],[]⟩ [(x,u)])
  (hsp:∀H:Hp,CZ H->SqL K H a (ns.map V.int)->sp [.ref a] H (λv c=>v=.bl true) λc c c=>False)
  (hCX:∀H e s',CX [] H s₁ (λc c c=>False) e s'->False):
  codeAny (model P w) callerA (.call (.ref fa) ⟨[.ref a],[]⟩) (λr s'=>r=.ok (.ret (.bool true))/\OldK s₁.heap s'.heap/\s'.os=s₁.os/\AllBare s'.gens) s₁:=by
 have rv:=gr hi;have lenV:=hi.length;have core:∀H:Hp,CZ H->SqL K H a (ns.map V.int)->HOk P w H s₁.heap->(∀b,H b≠none->b=a)->(H a≠none->K.lookup a=none)->
   codeAny (model P w) callerA (.call (.ref fa) ⟨[.ref a],[]⟩) (λr s'=>r=.ok (.ret (.bool true))/\OldK s₁.heap s'.heap/\s'.os=s₁.os/\AllBare s'.gens) s₁:=by
  intro H hO hS hok hA hK;have base_of:∀{b:Addr}{o:Obj},s₁.heap.get? b=some o->H b=none->(kY s₁.heap H).get? b=some o:=λe n=>uC e n
  have noA:∀{b:Addr}{o:Obj}{es:Array DictEntry}{ep:Nat},s₁.heap.get? b=some o->o.data=.dict es ep->H b=none:=λ{b o es ep} e d=>by
   cases q:H b with
   |none=>rfl
   |some u=>
    have e':b=a:=hA b (by rw[q];simp);subst e';rw[ha]at e;cases e;have d':Data.seq vs.toArray _=Data.dict es ep:=d;cases d'
  have nsK:∀{b:Addr}{m:Str->Option Value},s₁.heap.Ns b m->(kY s₁.heap H).Ns b m:=λ{b m} ⟨o,es,ep,e,d,r⟩=>⟨o,es,ep,base_of e (noA e d),d,r⟩
  have hKb:K.In (kY s₁.heap H):=λb o e=>base_of (KX b o e) (by
   cases q:H b with
   |none=>rfl
   |some u=>
    have e':b=a:=hA b (by rw[q];simp);subst e';rw[hK (by rw[q];simp)]at e;cases e)
  have hM:Mod K mg (kY s₁.heap H):=⟨hKb,nsK hns,⟨mb,nsK hb,hbb⟩,let ⟨mc,h1,h2⟩:=hlim;⟨mc,nsK h1,h2⟩⟩;have e0:Env0 P w K mg (kY s₁.heap H) callerA [] s₁ H:=⟨rfl,hM,λb o e=>zc e,Nat.le_of_eq (sv _ _),trivial,λb hb=>absurd (show b∈([]:List Addr)from hb) (by simp),hok,.of_eq hg⟩;refine codeAny_mono ((F _ hKb (nsK hns)).run callerA [] s₁ H ⟨[.ref a],[]⟩ [.ref a] [.ref a] _ _ hr e0 (hbind s₁ (.ref a)) (.cons rfl .nil) (hsp H hO hS)) λr s' h=>?_
  cases r with
  |error e=>exact (hCX H e s' h).elim
  |ok fl=>
   cases fl with
   |next=>exact False.elim h
   |brk=>exact False.elim h
   |cont=>exact False.elim h
   |ret u=>
    obtain⟨v,H',os,bare,un,hok',r',q⟩:=h;have q':v=.bl true:=q;subst q';obtain rfl:u=Value.bool true:=r';refine⟨rfl,OldK.of_keep λb o e=>?_,os,bare⟩;cases q:H b with
    |none=>exact un.keep b o e q (by intro z;exact absurd (show b∈([]:List Addr)from z) (by simp)) (by simp)
    |some u=>
     rcases hO b with z|⟨ob,xs,z⟩
     .rw[q]at z;cases z
     .have z2:=un.frzs b ob _ z
      obtain⟨e1,_⟩:=hok b _ z;obtain⟨e2,_⟩:=hok' b _ z2;rw[e]at e1;cases e1;exact e2
 cases hk:K.lookup a with
 |some o=>
  have e:=KX a o hk;rw[ha]at e;cases e;refine core (λc=>none) (λc=>.inl rfl) (.inr ⟨_,vs.toArray,_,hk,rfl,rfl,rfl,by rw[ls0,lenV];exact hl,by simpa using rv⟩) (λb u z=>by have z':(none:Option HO)=some u:=z;cases z') (λb z=>absurd rfl z) λz=>absurd rfl z
 |none=>
  refine core (λb=>if b=a then some (.frz {cls:=.type "list",data:=.seq vs.toArray} (.lst (ns.map V.int)))else none) (λb=>?_) (.inl (.inr ⟨{cls:=.type "list",data:=.seq vs.toArray},if_pos rfl⟩)) (λb u z=>?_) (λb z=>?_) λc=>hk
  .by_cases hb:b=a
   .exact .inr ⟨_,_,if_pos hb⟩
   .exact .inl (if_neg hb)
  .by_cases hb:b=a
   .have z':=(if_pos hb).symm.trans z
    cases z';subst hb;exact⟨ha,by rw[lm0];exact hl,vs,_,rv,ha⟩
   .have z':=(if_neg hb).symm.trans z
    cases z'
  .by_cases hb:b=a
   .exact hb
   .exact absurd (if_neg hb) z
def qI{l:PySem.W.OpenLaw}{k:Nat}{q:Program}{XP:(Str->Option Value)->Heap->Prop}{YP:World->Heap->Prop}{d:DefRec}{K:Params->fg0}{CX:World->CXT}{sp:World->Sp}
  (hn:l.most=some n) (hn2:n<=sizeLine) (hdf:d.params.defaults=[]) (hr:Room k callerA)
  (hY:∀(w:World)(h:Heap),YP w h->(K w.params).In h)
  (F:∀(w:World)(mg:Str->Option Value)(fa:Addr)(h:Heap),(K w.params).In h->h.Ns mainGlobals mg->mg d.name=some (.ref fa)->
   ∃fd:FuncData,(∀(s:Shared)(u:Value),BindsTo s fd ⟨[u],[]⟩ [(x,u)])/\
    ∀base:Heap,(K w.params).In base->base.Ns mainGlobals mg->FnOk l.prog w (K w.params) mg base (CX w) k fa fd [x] (sp w))
  (hsp:∀(w:World)(H:Hp)(a:Addr)(ns:List Int),ns.length<=n->CZ H->SqL (K w.params) H a (ns.map V.int)->sp w [.ref a] H (λv c=>v=.bl true) λc c c=>False)
  (hCX:∀(w:World)(H:Hp)(s:Shared)(e:Value)(s':Shared),CX w [] H s (λc c c=>False) e s'->False):
  PySem.W.WalkO q loose XP YP l.row.toRowW d [] (λf vs=>PySem.call f vs):=by
 refine Att.attach_call hn hdf λw s₀ s₁ mg mb fa o pm cd doc a vs ns G Y ho hd hcd hmg hobj hints hlen hg=>?_
 have KX:=hY w _ Y;obtain⟨fd,hb,hF⟩:=F w mg fa _ KX G.T.g hmg;exact uX KX G.T.g G.T.b G.T.builtins G.T.nolimit hg hobj hints (nt0 hlen hn2) hr hF hb (λH hO hS=>hsp w H a ns hlen hO hS) λH e s'=>hCX w H s₁ e s'
noncomputable def defArgs(s:Stmt):Arguments:=match s with
 |.FunctionDef _ a _ _ _ _ _ _ _ _=>a
 |_=>{posonlyargs:=[],args:=[],vararg:=none,kwonlyargs:=[],kw_defaults:=[],kwarg:=none,defaults:=[]}
noncomputable def defBody(s:Stmt):List Stmt:=match s with
 |.FunctionDef _ _ b _ _ _ _ _ _ _=>b
 |_=>[]
noncomputable def defScope(s:Stmt):Scope:=match s with
 |.FunctionDef _ _ _ _ _ _ sc _ _ _=>sc
 |_=>{kind:=.function,names:=[],isGenerator:=false,isCoroutine:=false}
noncomputable abbrev CX0:CXT:=λa a a a a a=>False
noncomputable abbrev E0:XK:=λa a a=>False
def mz :fk CX0 X E0:=λa a a a a a a h=>h.elim
structure Fun(K:fg0)(x qual:Str)(st:Stmt)(f:Addr)(fd:FuncData):Prop where
 ex:∃(oc:Value)(od:Option Addr)(kV doc pm:Value)(an:Option Addr)(cdv ct:Value)(osl:Array (Option Value)),
  fd=PySem.W.fnOf x qual (defArgs st) (defBody st) (defScope st) .none kV doc pm an cdv ct/\K.lookup f=some ⟨oc,od,.func fd,osl⟩/\PySem.W.codeIn K cdv qual=true
 kp:PySem.W.keepIn K (.ref f)=true
section
variable {K:fg0}{base:Heap}
def Fun.ok{N ps:List Str}{k:Nat}{sp:Sp}(F:Fun K x qual st f fd)(S:aU N ps (defScope st))(len:∀vs H Q E,sp vs H Q E->vs.length=ps.length)
  (hbody:∀(cdv:Value)(A:Around)(outer:List Env)(s:Shared)(H:Hp)(vs:List V)(Q:VK)(E:XK),Room k (A.deeper (envOfC qual (defScope st) s.heap.objs.size f cdv))->sp vs H Q E->
   ∃t,PSs (dG CX0 P w K mg base N qual (defScope st) f cdv A outer s H E).nox (defBody st) t/\t {nx:=λa H'=>Q .non H',rt:=Q} (start N vs) H):FnOk P w K mg base CX0 (k+1) f fd ps sp:=by
 obtain⟨oc,od,kV,doc,pm,an,cdv,ct,osl,rfl,lk,hcd⟩:=F.ex;refine uU lk hcd S len λA outer s H vs Q E hr hsp=>?_
 obtain⟨t,h,q⟩:=hbody cdv A outer s H vs Q E hr hsp;exact⟨t,h.nox,q⟩
def Fun.binds{ps:List Str}(F:Fun K x qual st f fd)
  (h:∀(kV doc pm:Value)(an:Option Addr)(cdv ct:Value)(us:List Value),us.length=ps.length->bindArgs (PySem.W.fnOf x qual (defArgs st) (defBody st) (defScope st) .none kV doc pm an cdv ct) ⟨us,[]⟩=pure (ps.zip us)):Binds K fd ps []:=by
 obtain⟨oc,od,kV,doc,pm,an,cdv,ct,osl,rfl,lk,hcd⟩:=F.ex;exact .all (h kV doc pm an cdv ct)
def Da{oc:Value}{od an:Option Addr}{osl:Array (Option Value)}{kV doc pm cdv ct:Value}(l:K.lookup f=some ⟨oc,od,.func (PySem.W.fnOf x qual (defArgs st) (defBody st) (defScope st) .none kV doc pm an cdv ct),osl⟩)
  (c:PySem.W.codeIn K cdv qual=true) (k:PySem.W.keepIn K (.ref f)=true):Fun K x qual st f (PySem.W.fnOf x qual (defArgs st) (defBody st) (defScope st) .none kV doc pm an cdv ct):=⟨⟨oc,od,kV,doc,pm,an,cdv,ct,osl,rfl,l,c⟩,k⟩
end
def cX(h:n<=1000):n<sizeLine:=Nat.lt_of_le_of_lt h (by decide)
def gu{A B:Prop}(h:B):if false=true then A else B:=by
 rw[if_neg fx0];exact h
def iteT{A B:Prop}(h:A):if true=true then A else B:=by
 rw[if_pos rfl];exact h
def Same(H H':Hp):Prop:=∀b o,H b=some o->H' b=some o
def Same.refl(H:Hp):Same H H:=λa a h=>h
def Same.trans{H1 H2:Hp}(a:Same H H1)(b:Same H1 H2):Same H H2:=λc o h=>b c o (a c o h)
def Same.free(e:Same H H'){l:Addr}(h:H' l=.none):H l=.none:=by
 cases q:H l with
 |none=>rfl
 |some o=>
  rw[e l o q]at h;cases h
def Same.seq{K:fg0}(e:Same H H')(h:SqL K H a xs):SqL K H' a xs:=by
 rcases h with (h|⟨o,h⟩)|h
 .exact .inl (.inl (e _ _ h))
 .exact .inl (.inr ⟨o,e _ _ h⟩)
 .exact .inr h
section
variable {J:Type}[DecidableEq J]
def bw(kvs:List (J×V))(k:J):Option V:=(kvs.find? λkv=>decide (kv.1=k)).map (·.2)
noncomputable def putK(kvs:List (J×V))(k:J)(v:V):List (J×V):=
 if (kvs.any λkv=>decide (kv.1=k))=true then kvs.map (λkv=>if kv.1=k then (kv.1,v)else kv)else kvs++[(k,v)]
def cu(kvs:List (J×V))(k:J):List (J×V):=kvs.filter λkv=>decide (kv.1≠k)
def fG{p:J×V}{r:List (J×V)}{k:J}(e:p.1=k):bw (p::r) k=some p.2:=by simp[bw,List.find?_cons,e]
def fH{p:J×V}{r:List (J×V)}{k:J}(e:¬ p.1=k):bw (p::r) k=bw r k:=by simp[bw,List.find?_cons,e]
theorem mB(k:J):∀kvs:List (J×V),(kvs.any λkv=>decide (kv.1=k))=(bw kvs k).isSome
 |[]=>rfl
 |p::r=>by
  rw[List.any_cons]
  by_cases e:p.1=k
  .simp only[fG e,dt0 e,Bool.true_or,Option.isSome_some]
  .rw[fH e,df0 e,Bool.false_or];exact mB k r
def dH(kvs:List (J×V))(k:J)(v:V):(putK kvs k v).length<=kvs.length+1:=by
 unfold putK;split
 .rw[lm0];omega
 .rw[la0,lc0,List.length_nil];omega
def RelO.isSome_eq{o:Option V}{u:Option Value}(r:RelO o u):o.isSome=u.isSome:=by
 cases o with
 |none=>cases u with
  |none=>rfl
  |some _=>exact (show False from r).elim
 |some _=>cases u with
  |none=>exact (show False from r).elim
  |some _=>rfl
theorem RelO.getD{o:Option V}{u:Option Value}{d:V}{d':Value}(r:RelO o u)(rd:RelV d d'):RelV (o.getD d) (u.getD d'):=by
 cases o with
 |none=>cases u with
  |none=>exact rd
  |some _=>exact (show False from r).elim
 |some _=>cases u with
  |none=>exact (show False from r).elim
  |some _=>exact r
def KV.val{kvs:List (J×V)}{vs:List (J×Value)}(r:KV kvs vs)(k:J):RelO (bw kvs k) (valueAt vs k):=by
 unfold KV at r
 induction r with
 |nil=>exact True.intro
 |@cons p q ps qs h t ih=>
  obtain⟨h1,h2⟩:=h
  by_cases e:p.1=k
  .have e':q.1=k:=h1.symm.trans e
   have b:valueAt (q::qs) k=some q.2:=by simp[valueAt,List.find?_cons,e']
   rw[fG e,b];exact h2
  .have e':¬ q.1=k:=λz=>e (h1.trans z)
   have b:valueAt (q::qs) k=valueAt qs k:=by simp[valueAt,List.find?_cons,e']
   rw[fH e,b];exact ih
theorem KV.any{kvs:List (J×V)}{vs:List (J×Value)}(r:KV kvs vs)(k:J):(kvs.any λkv=>decide (kv.1=k))=vs.any λkv=>decide (kv.1=k):=by
 unfold KV at r
 induction r with
 |nil=>rfl
 |cons h t ih=>rw[List.any_cons,List.any_cons,ih,h.1]
def KV.repl{kvs:List (J×V)}{vs:List (J×Value)}(r:KV kvs vs)(k:J)(ry:RelV y u):
  KV (kvs.map λkv=>if kv.1=k then (kv.1,y)else kv) (vs.map λkv=>if kv.1=k then (kv.1,u)else kv):=by
 unfold KV at r ⊢
 induction r with
 |nil=>exact .nil
 |@cons p q ps qs h t ih=>
  rw[mk0,mk0];refine .cons ?_ ih;obtain⟨h1,h2⟩:=h
  by_cases e:p.1=k
  .rw[if_pos e,if_pos (h1.symm.trans e)];exact⟨h1,ry⟩
  .rw[if_neg e,if_neg (λz=>e (h1.trans z))];exact⟨h1,h2⟩
def KV.put{kvs:List (J×V)}{vs:List (J×Value)}(r:KV kvs vs)(k:J)(ry:RelV y u):KV (putK kvs k y) (stored vs k u):=by
 unfold putK stored;rw[r.any k]
 by_cases e:(vs.any λkv=>decide (kv.1=k))=true
 .rw[if_pos e,if_pos e];exact r.repl k ry
 .rw[if_neg e,if_neg e];exact Paired.snoc r ⟨rfl,ry⟩
def KV.drop{kvs:List (J×V)}{vs:List (J×Value)}(r:KV kvs vs)(k:J):KV (cu kvs k) (without vs k):=by
 unfold KV at r ⊢;unfold cu without
 induction r with
 |nil=>exact .nil
 |@cons p q ps qs h t ih=>
  obtain⟨h1,h2⟩:=h;rw[List.filter_cons,List.filter_cons]
  by_cases e:p.1=k
  .have a:¬ decide (p.1≠k)=true:=by simp[e]
   have b:¬ decide (q.1≠k)=true:=by simp[h1.symm.trans e]
   rw[if_neg a,if_neg b];exact ih
  .have e':¬ q.1=k:=λz=>e (h1.trans z)
   have a:decide (p.1≠k)=true:=by simp[e]
   have b:decide (q.1≠k)=true:=by simp[e']
   rw[if_pos a,if_pos b];exact .cons ⟨h1,h2⟩ ih
def KV.keys{kvs:List (J×V)}{vs:List (J×Value)}(r:KV kvs vs):kvs.map (·.1)=vs.map (·.1):=by
 unfold KV at r
 induction r with
 |nil=>rfl
 |cons h t ih=>rw[mk0,mk0,ih,h.1]
theorem KV.length{kvs:List (J×V)}{vs:List (J×Value)}(r:KV kvs vs):kvs.length=vs.length:=Paired.length r
def dropK_le(kvs:List (J×V))(k:J):(cu kvs k).length<=kvs.length:=List.length_filter_le _ _
end
def eY{k:Key}(r:RelV (kV k) u):(av P w).is k u=true:=by
 cases k with
 |inl i=>obtain⟨t,e⟩:=(show ∃t,u=Value.int i t from r);subst e;exact mj P w i t
 |inr x=>obtain⟨t,e⟩:=(show ∃t,u=Value.str x t from r);subst e;exact mq P w x t
theorem jY :∀{ks:List Key}{us:List Value},Vals (ks.map kV) us->ItemsAre (av P w) ks us
 |[],_,r=>by rw[List.map_nil]at r;cases r;exact .nil
 |k::ks,_,r=>by
  rw[mk0]at r;cases r with
  |cons h t=>exact .cons (eY h) (jY t)
noncomputable abbrev KT(H:Hp):List (List Key×V)->List (List Key×Addr×Value)->Prop:=Paired λp q=>p.1=q.1/\H q.2.1=some (.tup (p.1.map kV))/\RelV p.2 q.2.2
def KT.val{kvs:List (List Key×V)}{xs:List (List Key×Addr×Value)}(r:KT H kvs xs)(k:List Key):RelO (bw kvs k) ((atKey xs k).map (·.2)):=by
 induction r with
 |nil=>exact True.intro
 |@cons p q ps qs h t ih=>
  obtain⟨h1,_,h2⟩:=h
  by_cases e:p.1=k
  .have e':q.1=k:=h1.symm.trans e
   have b:atKey (q::qs) k=some q.2:=by simp[atKey,List.find?_cons,e']
   rw[fG e,b];exact h2
  .have e':¬ q.1=k:=λz=>e (h1.trans z)
   have b:atKey (q::qs) k=atKey qs k:=by simp[atKey,List.find?_cons,e']
   rw[fH e,b];exact ih
def KT.repl{kvs:List (List Key×V)}{xs:List (List Key×Addr×Value)}(r:KT H kvs xs)(k:List Key)(ry:RelV y u):
  KT H (kvs.map λkv=>if kv.1=k then (kv.1,y)else kv) (xs.map (putAt k u)):=by
 induction r with
 |nil=>exact .nil
 |@cons p q ps qs h t ih=>
  rw[mk0,mk0];refine .cons ?_ ih;obtain⟨h1,h2,h3⟩:=h;unfold putAt
  by_cases e:p.1=k
  .rw[if_pos e,if_pos (h1.symm.trans e)];exact⟨h1,h2,ry⟩
  .rw[if_neg e,if_neg (λz=>e (h1.trans z))];exact⟨h1,h2,h3⟩
def KT.put{kvs:List (List Key×V)}{xs:List (List Key×Addr×Value)}(r:KT H kvs xs)(k:List Key){b:Addr}(hb:H b=some (.tup (k.map kV)))(ry:RelV y u):
  KT H (putK kvs k y) (storedH xs k b u):=by
 have e:(kvs.any λkv=>decide (kv.1=k))=(atKey xs k).isSome:=by
  rw[mB,(r.val k).isSome_eq,Option.isSome_map]
 unfold putK storedH;rw[e]
 by_cases q:(atKey xs k).isSome=true
 .rw[if_pos q,if_pos q];exact r.repl k ry
 .rw[if_neg q,if_neg q];exact Paired.snoc r ⟨rfl,hb,ry⟩
def KT.keeps{kvs:List (List Key×V)}{xs:List (List Key×Addr×Value)}(r:KT H kvs xs)(ht:∀b ys,H b=some (.tup ys)->H' b=some (.tup ys)):KT H' kvs xs:=
 Paired.mapP r λa a z=>⟨z.1,ht _ _ z.2.1,z.2.2⟩
def BH{u:HO}(ok:HOk P w H h)(e:Rd H a u):ObjOk P w H h a u:=e.ok ok
def iK(ok:HOk P w H h)(e:Rd H a (.dK kvs)):kvs.length<=sizeLine/\(a==sysModules)=false/\∃vs,KV kvs vs/\h.DictOf (av P w) a vs:=
 show ObjOk P w H h a (.dK kvs)from BH ok e
def iL(ok:HOk P w H h)(e:H a=some (.dK kvs)):kvs.length<=sizeLine/\(a==sysModules)=false/\∃vs,KV kvs vs/\h.DictOf (av P w) a vs:=iK ok (.inl e)
def bo{ks:List Key}(ok:HOk P w H h)(e:H a=some (.tup (ks.map kV))):(tupleKind (av P w)).is h ks a:=by
 obtain⟨_,its,r,o,h1,h2,n,h3⟩:=(show ObjOk P w H h a (.tup (ks.map kV))from ok a _ e);exact⟨o,its.toArray,n,h1,h2,h3,by simpa using jY r⟩
def iM{kvs:List (List Key×V)}(ok:HOk P w H h)(e:Rd H a (.dT kvs)):kvs.length<=sizeLine/\(a==sysModules)=false/\
  ∃xs,KT H kvs xs/\h.DictOfH (tupleKind (av P w)) a xs:=by
 obtain⟨z,y,xs,r,o,es,ep,h1,h2,h3,h4,h5⟩:=(show ObjOk P w H h a (.dT kvs)from BH ok e);refine⟨z,y,xs,r,o,es,ep,h1,h2,h3,h4,λx hx=>?_,h5⟩;have all:∀{l:List (List Key×V)}{m:List (List Key×Addr×Value)},KT H l m->∀x∈m,(tupleKind (av P w)).is h x.1 x.2.1:=by
  intro l m q
  induction q with
  |nil=>intro x hx;exact nomatch hx
  |@cons p q ps qs hq t ih=>
   intro x hx;rcases mq0 hx with e|hx
   .subst e
    exact bo ok (by rw[<-hq.1];exact hq.2.1)
   .exact ih x hx
 exact all r x hx
def GW{kvs:List (List Key×V)}(ok:HOk P w H h)(e:H a=some (.dT kvs)):kvs.length<=sizeLine/\(a==sysModules)=false/\
  ∃xs,KT H kvs xs/\h.DictOfH (tupleKind (av P w)) a xs:=iM ok (.inl e)
def DGet(H:Hp)(a:Addr)(y:V)(r:Option V):Prop:=
 (∃kvs k,Rd H a (.dK kvs)/\y=kV k/\r=bw kvs k)\/∃kvs k b,Rd H a (.dT kvs)/\y=.ref b/\H b=some (.tup (k.map kV))/\r=bw kvs k
def DPut(H:Hp)(a:Addr)(y v:V)(H':Hp):Prop:=
 (∃kvs k,H a=some (.dK kvs)/\y=kV k/\kvs.length<sizeLine/\H'=upd H a (.dK (putK kvs k v)))\/
 ∃kvs k b,H a=some (.dT kvs)/\y=.ref b/\H b=some (.tup (k.map kV))/\kvs.length<sizeLine/\H'=upd H a (.dT (putK kvs k v))
theorem DGet.k{k:Key}(e:H a=some (.dK kvs)):DGet H a (kV k) (bw kvs k):=.inl ⟨kvs,k,.inl e,rfl,rfl⟩
theorem DPut.k{k:Key}{v:V}(e:H a=some (.dK kvs))(hl:kvs.length<sizeLine):DPut H a (kV k) v (upd H a (.dK (putK kvs k v))):=.inl ⟨kvs,k,e,rfl,hl,rfl⟩
section
variable {v:V}{o:Option V}{A:Around}{E:Value->Shared->Prop}
def Inv.big(I:Inv X pins σ H s):sysModules<s.heap.objs.size:=by
 have h:mainGlobals<s.heap.objs.size:=(I.mod.glob.keeps I.bk).lt;exact Nat.lt_trans (by decide) h
def sM(hu:A.units+1<cLine)(I:Inv X pins σ H s)(g:DGet H a y (some v))(ry:RelV y u)(h:∀w' s',Inv X pins σ H s'->RelV v w'->Q w' s'):
  wpAny (model X.prog X.w) A (getItem (.ref a) u) Q E s:=by
 rcases g with⟨kvs,k,e,ey,l⟩|⟨kvs,k,b,e,ey,eb,l⟩
 .subst ey
  obtain⟨z,hd,vs,rel,dd⟩:=iK I.hok e;obtain⟨w',hw,rw'⟩:=RelO.some_of (v:=v) (o:=valueAt vs k) (by rw[l];exact rel.val k);exact wpAny_getItem_of (eY ry) dd.mapOf hw (h w' _ (I.tok _) rw')
 .subst ey
  cases (show u=Value.ref b from ry);obtain⟨z,hd,xs,rel,dd⟩:=iM I.hok e;obtain⟨w',hw,rw'⟩:=RelO.some_of (v:=v) (o:=(atKey xs k).map (·.2)) (by rw[l];exact rel.val k);obtain⟨p,hp,hp2⟩:=mx0 hw;refine wpAny_getItem_heap (tupleKind_room_in1 hu) (bo I.hok eb) dd hp ?_;rw[hp2];exact h w' _ (I.tok _) rw'
def Ks(hu:A.units+1<cLine)(I:Inv X pins σ H s)(g:DGet H a y o)(ry:RelV y u)(h:∀s',Inv X pins σ H s'->Q (.bool o.isSome) s'):
  wpAny (model X.prog X.w) A (compareOp .In u (.ref a)) Q E s:=by
 rcases g with⟨kvs,k,e,ey,l⟩|⟨kvs,k,b,e,ey,eb,l⟩
 .subst ey
  obtain⟨z,hd,vs,rel,dd⟩:=iK I.hok e;refine wpAny_in_of (eY ry) hd dd.mapOf ?_;rw[<-(rel.val k).isSome_eq,<-l];exact h _ (I.tok _)
 .subst ey
  cases (show u=Value.ref b from ry);obtain⟨z,hd,xs,rel,dd⟩:=iM I.hok e;refine wpAny_in_heap (tupleKind_room_in1 hu) (bo I.hok eb) hd dd ?_;have q:=(rel.val k).isSome_eq;rw[Option.isSome_map]at q;rw[<-q,<-l];exact h _ (I.tok _)
def zv(hu:A.units+1<cLine)(I:Inv X pins σ H s)(g:DGet H a y o)(ry:RelV y u)(h:∀s',Inv X pins σ H s'->Q (.bool (!o.isSome)) s'):
  wpAny (model X.prog X.w) A (compareOp .NotIn u (.ref a)) Q E s:=by
 rcases g with⟨kvs,k,e,ey,l⟩|⟨kvs,k,b,e,ey,eb,l⟩
 .subst ey
  obtain⟨z,hd,vs,rel,dd⟩:=iK I.hok e;refine wpAny_notIn_of (eY ry) hd dd.mapOf ?_;rw[<-(rel.val k).isSome_eq,<-l];exact h _ (I.tok _)
 .subst ey
  cases (show u=Value.ref b from ry);obtain⟨z,hd,xs,rel,dd⟩:=iM I.hok e;refine wpAny_notIn_heap (tupleKind_room_in1 hu) (bo I.hok eb) hd dd ?_;have q:=(rel.val k).isSome_eq;rw[Option.isSome_map]at q;rw[<-q,<-l];exact h _ (I.tok _)
def ir{h':Heap}{ob:HO}(I:Inv X pins σ H s)(mu:Mut (H a))(hs:Heap.SameBut a s.heap h')(he:∃q,h'.get? a=some q)(new:ObjOk X.prog X.w (upd H a ob) h' a ob):
  Inv X pins σ (upd H a ob) {s with heap:=h',toks:=t'}:=
 I.write (x:=a) (e:=a) mu (.inl rfl) (λb q hb z=>(hs.2 b hb).trans z) he new
def dk_new{h':Heap}{vs:List (Key×Value)}(z:kvs.length<=sizeLine)(hd:(a==sysModules)=false)(rel:KV kvs vs)(dd:h'.DictOf (av P w) a vs):
  ObjOk P w H' h' a (.dK kvs):=⟨z,hd,vs,rel,dd⟩
def sN{Q:Unit->Shared->Prop}(hu:A.units+1<cLine)(I:Inv X pins σ H s)(g:DPut H a y v H')(ry:RelV y u)(rv:RelV v r)(h:∀s',Inv X pins σ H' s'->Q () s'):
  wpAny (model X.prog X.w) A (setItem (.ref a) u r) Q E s:=by
 rcases g with⟨kvs,k,e,ey,l,eH⟩|⟨kvs,k,b,e,ey,eb,l,eH⟩
 .subst ey eH
  obtain⟨z,hd,vs,rel,dd⟩:=iL I.hok e;have hz:vs.length<=sizeLine:=by rw[<-rel.length];exact z
  have hl:(putK kvs k v).length<=sizeLine:=by have:=dH kvs k v;omega
  refine wpAny_setItem_pairs (hsz:=hz) (eY ry) dd λh' dd' hs=>h _ ?_
  have he:∃q,h'.get? a=some q:=let ⟨q,_,_,hq,_⟩:=dd';⟨q,hq⟩
  exact ir I (by rw[e];exact True.intro) hs he (dk_new hl hd (rel.put k rv) dd')
 .subst ey eH
  cases (show u=Value.ref b from ry);obtain⟨z,hd,xs,rel,dd⟩:=GW I.hok e;have hz:xs.length<=sizeLine:=by rw[<-Paired.length rel];exact z
  have hl:(putK kvs k v).length<=sizeLine:=by have:=dH kvs k v;omega
  refine wpAny_setItem_heap (hsz:=hz) (tupleKind_room_in1 hu) (bo I.hok eb) dd λh' dd' hs=>h _ ?_
  obtain⟨q,es,ep,hq,h2,h3,h4,_,h5⟩:=dd';refine ir I (by rw[e];exact True.intro) hs ⟨q,hq⟩ ⟨hl,hd,_,(rel.put k eb rv).keeps λc ys ec=>?_,q,es,ep,hq,h2,h3,h4,h5⟩;rw[aa (GD ec e (λz=>nomatch z))];exact ec
end
section
variable {k:Key}{A:Around}{E:Value->Shared->Prop}
def Gm{Q:Unit->Shared->Prop}(I:Inv X pins σ H s)(e:H a=some (.dK kvs))(ry:RelV (kV k) u)(l:(bw kvs k).isSome=true)(h:∀s',Inv X pins σ (upd H a (.dK (cu kvs k))) s'->Q () s'):
  wpAny (model X.prog X.w) A (delItem (.ref a) u) Q E s:=by
 obtain⟨z,hd,vs,rel,dd⟩:=iL I.hok e;refine wpAny_delItem_slot dd.typeIs (by decide) PySem.F.slot_dict_delitem
  (call_meetsIn PySem.F.slot_dict_delitem dd.typeIs PySem.F.entry_dict_delitem (PySem.F.args_dict_delitem_2 _ _) (meets_dict_delitem_pairs (av X.prog X.w) a (eY ry)) ⟨vs,dd,by rw[<-rel.length];exact z,by rw[<-(rel.val k).isSome_eq];exact l,λh' dd' hs=>h _ ?_⟩)
 have he:∃q,h'.get? a=some q:=let ⟨q,_,_,hq,_⟩:=dd';⟨q,hq⟩
 exact ir I (by rw[e];exact True.intro) hs he (dk_new (nt0 (dropK_le kvs k) z) hd (rel.drop k) dd')
def BI{v:V}{more:List Value}(I:Inv X pins σ H s)(e:H a=some (.dK kvs))(ry:RelV (kV k) u)(l:bw kvs k=some v)(hm:more=[]\/∃x,more=[x])
  (h:∀w' s',Inv X pins σ (upd H a (.dK (cu kvs k))) s'->RelV v w'->Q w' s'):wpAny (model X.prog X.w) A (call (.builtin "dict.pop") (.ref a::u::more)) Q E s:=by
 obtain⟨z,hd,vs,rel,dd⟩:=iL I.hok e;obtain⟨w',hw,rw'⟩:=RelO.some_of (v:=v) (o:=valueAt vs k) (by rw[<-l];exact rel.val k);have hp:(keyPart u).isSome=true:=by
  cases k with
  |inl i=>obtain⟨t,q⟩:=(show ∃t,u=Value.int i t from ry);subst q;rfl
  |inr x=>obtain⟨t,q⟩:=(show ∃t,u=Value.str x t from ry);subst q;rfl
 have ha:argsOk "dict.pop" ⟨.ref a::u::more,[]⟩:=by
  rcases hm with q|⟨x,q⟩
  .subst q;exact PySem.F.args_dict_pop_2 _ _
  .subst q;exact PySem.F.args_dict_pop_3 _ _ _
 refine call_meetsIn PySem.F.slot_dict_pop dd.typeIs PySem.F.entry_dict_pop ha (meets_dict_pop_there (av X.prog X.w) a (eY ry) more hm hp)
  ⟨vs,w',dd,by rw[<-rel.length];exact z,hw,λh' dd' hs=>h w' _ ?_ rw'⟩
 have he:∃q,h'.get? a=some q:=let ⟨q,_,_,hq,_⟩:=dd';⟨q,hq⟩
 exact ir I (by rw[e];exact True.intro) hs he (dk_new (nt0 (dropK_le kvs k) z) hd (rel.drop k) dd')
def Dc(I:Inv X pins σ H s)(e:H a=some (.dK kvs))(ry:RelV (kV k) u)(l:bw kvs k=none)(h:∀s',Inv X pins σ H s'->Q r s'):
  wpAny (model X.prog X.w) A (call (.builtin "dict.pop") [.ref a,u,r]) Q E s:=by
 obtain⟨z,hd,vs,rel,dd⟩:=iL I.hok e;have hn:valueAt vs k=none:=RelO.none_of (by rw[<-l];exact rel.val k);have hp:(keyPart u).isSome=true:=by
  cases k with
  |inl i=>obtain⟨t,q⟩:=(show ∃t,u=Value.int i t from ry);subst q;rfl
  |inr x=>obtain⟨t,q⟩:=(show ∃t,u=Value.str x t from ry);subst q;rfl
 exact call_meetsIn PySem.F.slot_dict_pop dd.typeIs PySem.F.entry_dict_pop (PySem.F.args_dict_pop_3 _ _ _) (meets_dict_pop_default (av X.prog X.w) a (eY ry) hd hp r) ⟨vs,dd,hn,h _ (I.tok _)⟩
end
def mC{o:Option V}(I:Inv X pins σ H s)(g:DGet H a y o):s.TypeIs (.ref a) "dict":=by
 rcases g with⟨kvs,k,e,_,_⟩|⟨kvs,k,b,e,_,_,_⟩
 .obtain⟨_,_,vs,_,dd⟩:=iK I.hok e
  exact dd.typeIs
 .obtain⟨_,_,xs,_,dd⟩:=iM I.hok e
  exact dd.typeIs
section
variable {i value:Expr}{pos' tpos:Pos}{td ty tv:TE}
end
def uY(h:Heap)(hb:sysModules<h.objs.size):ObjOk P w H (h.push {cls:=.type "dict",data:=.dict #[]}) h.objs.size (.dK []):=
 ⟨Nat.zero_le _,bn0 (Ne.symm (nn0 hb)),[],.nil,Heap.DictOf.new h⟩
def Dd:TE:=λa H Q=>∀p,H p=none->Q (.ref p) (upd H p (.dK []))
def mE:PE X (.Dict [] [] pos) Dd:=λpins s σ H Q I h=>
 wpAny_Dict_empty ⟨.ref s.heap.objs.size,_,I.laid (a:=s.heap.objs.size) (o:=.dK []) (t':=s.toks) (λb b q=>ps0 _ q) (nr0 _) (uY s.heap I.big),rfl,h _ (I.hok.fresh (nr0 _))⟩
noncomputable def gy(kvs more:List (Key×V)):List (Key×V):=more.foldl (λacc kv=>putK acc kv.1 kv.2) kvs
def KV.merge:∀{more:List (Key×V)}{rs:List (Key×Value)}{kvs:List (Key×V)}{vs:List (Key×Value)},KV more rs->KV kvs vs->KV (gy kvs more) (merged vs rs):=by
 intro more rs kvs vs r;unfold KV at r
 induction r generalizing kvs vs with
 |nil=>intro q;exact q
 |@cons p q ps qs h t ih=>
  intro r0;have e:KV (putK kvs p.1 p.2) (stored vs q.1 q.2):=by
   have:=r0.put p.1 h.2;rw[<-h.1];exact this
  exact ih e
theorem eZ:∀(more kvs:List (Key×V)),(gy kvs more).length<=kvs.length+more.length
 |[],kvs=>by show kvs.length<=kvs.length+0;omega
 |p::r,kvs=>by
  have h1:=eZ r (putK kvs p.1 p.2);have h2:=dH kvs p.1 p.2;show (gy (putK kvs p.1 p.2) r).length<=_;rw[lc0];omega
structure M1(X:Cx)(o:Expr)(m:Str)(apos:Pos)(e:Expr)(cpos:Pos):Prop where
 base:attributeBase o m X.env (eval o X.env)=eval o X.env
 few:((backTo cpos (starEach [e] X.env)).all (λx=>!x.1)&&(backToKw cpos (keywordEach [] X.env)).all (λx=>x.1.isSome)
  &&decide (([e]:List Expr).length+([]:List Keyword).length+(if ([]:List Keyword).isEmpty then 0 else 1)<30))=true
 line:(apos.endLine==cpos.line)=true
 trees:backTo cpos (starEach [e] X.env)=[(false,eval e X.env)]
structure M2(X:Cx)(o:Expr)(m:Str)(apos:Pos)(e f:Expr)(cpos:Pos):Prop where
 base:attributeBase o m X.env (eval o X.env)=eval o X.env
 few:((backTo cpos (starEach [e,f] X.env)).all (λx=>!x.1)&&(backToKw cpos (keywordEach [] X.env)).all (λx=>x.1.isSome)
  &&decide (([e,f]:List Expr).length+([]:List Keyword).length+(if ([]:List Keyword).isEmpty then 0 else 1)<30))=true
 line:(apos.endLine==cpos.line)=true
 trees:backTo cpos (starEach [e,f] X.env)=[(false,eval e X.env),(false,eval f X.env)]
def IsD(H:Hp)(a:Addr):Prop:=(∃kvs,Rd H a (.dK kvs))\/∃kvs,Rd H a (.dT kvs)
def oZ(I:Inv X pins σ H s)(d:IsD H a):
  s.TypeIs (.ref a) "dict"/\(∀b,Value.ref a=.ref b->∃ob,s.heap.get? b=some ob/\ob.dict=none)/\(a==sysModules)=false:=by
 rcases d with⟨kvs,e⟩|⟨kvs,e⟩
 .obtain⟨_,hd,vs,_,dd⟩:=iK I.hok e
  refine⟨dd.typeIs,λb q=>?_,hd⟩;cases q;obtain⟨ob,_,_,h1,h2,_⟩:=dd;exact⟨ob,h1,h2.2.1⟩
 .obtain⟨_,hd,xs,_,dd⟩:=iM I.hok e
  refine⟨dd.typeIs,λb q=>?_,hd⟩;cases q;obtain⟨ob,_,_,h1,h2,_⟩:=dd;exact⟨ob,h1,h2.2.1⟩
section
variable {d:V}{o:Option V}{A:Around}{E:Value->Shared->Prop}
def De(hu:A.units+1<cLine)(I:Inv X pins σ H s)(g:DGet H a y o)(ry:RelV y u)(h:∀w' s',Inv X pins σ H s'->RelV (o.getD .non) w'->Q w' s'):
  wpAny (model X.prog X.w) A (call (.builtin "dict.get") [.ref a,u]) Q E s:=by
 rcases g with⟨kvs,k,e,ey,l⟩|⟨kvs,k,b,e,ey,eb,l⟩
 .subst ey
  obtain⟨z,hd,vs,rel,dd⟩:=iK I.hok e;refine call_meetsIn PySem.F.slot_dict_get dd.typeIs PySem.F.entry_dict_get (PySem.F.args_dict_get_2 _ _) (meets_dict_get (av X.prog X.w) a (eY ry) hd) ⟨_,dd.mapOf,h _ _ (I.tok _) ?_⟩;rw[l];exact (rel.val k).getD rfl
 .subst ey
  cases (show u=Value.ref b from ry);obtain⟨z,hd,xs,rel,dd⟩:=iM I.hok e;refine call_meetsIn PySem.F.slot_dict_get dd.typeIs PySem.F.entry_dict_get (PySem.F.args_dict_get_2 _ _) (meetsH_dict_get (tupleKind (av X.prog X.w)) a b hd) ⟨tupleKind_room_in1 hu,k,xs,bo I.hok eb,dd,h _ _ (I.tok _) ?_⟩;rw[l];exact (rel.val k).getD rfl
end
noncomputable def Df(td ty:TE):TE:=λσ H Q=>td σ H λx H1=>∃a,x=.ref a/\IsD H1 a/\ty σ H1 λy H2=>∃o,DGet H2 a y o/\Q (o.getD .non) H2
noncomputable def Dg(td ty:TE):TE:=λσ H Q=>td σ H λx H1=>∃a,x=.ref a/\IsD H1 a/\ty σ H1 λy H2=>∃kvs k v,H2 a=some (.dK kvs)/\y=kV k/\bw kvs k=some v/\Q v (upd H2 a (.dK (cu kvs k)))
noncomputable def Dh(td ty tx:TE):TE:=λσ H Q=>td σ H λx H1=>∃a,x=.ref a/\IsD H1 a/\ty σ H1 λy H2=>tx σ H2 λz H3=>∃kvs k,H3 a=some (.dK kvs)/\y=kV k/\
 (∀v,bw kvs k=some v->Q v (upd H3 a (.dK (cu kvs k))))/\(bw kvs k=none->Q z H3)
section
variable {f:Expr}{apos cpos:Pos}{td ty tx:TE}
def uZ(hu:X.A.units+1<cLine)(ho:PE X o td)(he:PE X e ty)(m:M1 X o "get" apos e cpos):PE X (.Call (.Attribute o "get" apos) [e] [] cpos) (Df td ty):=by
 intro pins s σ H Q I h;refine wpAny_Call_method m.base m.few m.line PySem.F.plainAttrs_dict PySem.F.slot_dict_get PySem.F.type_dict_get (thn (ho pins s σ H _ I h) λu s1 ⟨x,H1,I1,rx,a,ex,d,q1⟩=>?_);subst ex;obtain rfl:u=Value.ref a:=rx;obtain⟨t1,t2,_⟩:=oZ I1 d;refine⟨t1,t2,?_⟩;rw[m.trees];refine Calls.callWith_builtin rfl (Calls.evalArgs_plain (Calls.spliced_cons (thn (he pins s1 σ H1 _ I1 q1) λiv s2 ⟨y,H2,I2,ry,ov,g,q2⟩=>Calls.spliced_nil ?_)));exact De hu I2 g ry λw' s3 I3 rw'=>⟨_,H2,I3,rw',q2⟩
def vd(ho:PE X o td)(he:PE X e ty)(m:M1 X o "pop" apos e cpos):PE X (.Call (.Attribute o "pop" apos) [e] [] cpos) (Dg td ty):=by
 intro pins s σ H Q I h;refine wpAny_Call_method m.base m.few m.line PySem.F.plainAttrs_dict PySem.F.slot_dict_pop PySem.F.type_dict_pop (thn (ho pins s σ H _ I h) λu s1 ⟨x,H1,I1,rx,a,ex,d,q1⟩=>?_);subst ex;obtain rfl:u=Value.ref a:=rx;obtain⟨t1,t2,_⟩:=oZ I1 d;refine⟨t1,t2,?_⟩;rw[m.trees];refine Calls.callWith_builtin rfl (Calls.evalArgs_plain (Calls.spliced_cons (thn (he pins s1 σ H1 _ I1 q1) λiv s2 ⟨y,H2,I2,ry,kvs,k,v,ea,ey,l,q2⟩=>Calls.spliced_nil ?_)));subst ey;exact BI I2 ea ry l (.inl rfl) λw' s3 I3 rw'=>⟨v,_,I3,rw',q2⟩
def ve(ho:PE X o td)(he:PE X e ty)(hf:PE X f tx)(m:M2 X o "pop" apos e f cpos):PE X (.Call (.Attribute o "pop" apos) [e,f] [] cpos) (Dh td ty tx):=by
 intro pins s σ H Q I h;refine wpAny_Call_method m.base m.few m.line PySem.F.plainAttrs_dict PySem.F.slot_dict_pop PySem.F.type_dict_pop (thn (ho pins s σ H _ I h) λu s1 ⟨x,H1,I1,rx,a,ex,d,q1⟩=>?_);subst ex;obtain rfl:u=Value.ref a:=rx;obtain⟨t1,t2,_⟩:=oZ I1 d;refine⟨t1,t2,?_⟩;rw[m.trees];refine Calls.callWith_builtin rfl (Calls.evalArgs_plain (Calls.spliced_cons (thn (he pins s1 σ H1 _ I1 q1) λiv s2 ⟨y,H2,I2,ry,q2⟩=>
  Calls.spliced_cons (thn (hf pins s2 σ H2 _ I2 q2) λfv s3 ⟨z,H3,I3,rz,kvs,k,ea,ey,q3,q4⟩=>Calls.spliced_nil ?_))))
 subst ey;cases l:bw kvs k with
 |some v=>exact BI I3 ea ry l (.inr ⟨fv,rfl⟩) λw' s4 I4 rw'=>⟨v,_,I4,rw',q3 v l⟩
 |none=>exact Dc I3 ea ry l λs4 I4=>⟨z,H3,I4,rz,q4 l⟩
end
section
variable {A:Around}{E:Value->Shared->Prop}
end
section
variable {A:Around}{E:Value->Shared->Prop}
end
section
variable {J:Type}[DecidableEq J]
def sO{p:J×V}{r:List (J×V)}{k:J}(e:¬ p.1=k):cu (p::r) k=p::cu r k:=by
 unfold cu;rw[List.filter_cons,if_pos (by simp[e])]
theorem iN:∀{kvs:List (J×V)}{k:J},¬ k∈kvs.map (·.1)->cu kvs k=kvs
 |[],_,_=>rfl
 |p::r,k,h=>by
  have h':¬ k∈r.map (·.1):=λm=>by
   obtain⟨q,hq,e⟩:=mm0 m;exact h (List.mem_map.mpr ⟨q,List.mem_cons.mpr (Or.inr hq),e⟩)
  rw[sO λe=>h (List.mem_map.mpr ⟨p,List.mem_cons.mpr (Or.inl rfl),e⟩),iN h']
end
end L2
namespace L2.C
open PySem PySem.Spec PyProof.Rows L2
noncomputable def gz(env:Env):List (Str×NameKind)->List (Str×Addr)->List (Str×Addr)
 |[],acc=>acc
 |(n,k)::r,acc=>if k==.free then gz env r ((n,(env.cells.lookup n).getD 0)::acc)else gz env r acc
def fe(h:∀x∈scope.names,x.2=.free->(env.cells.lookup x.1).isSome=true):
  closureFor scope env=pure (gz env scope.names []):=by
 simp only[closureFor];generalize scope.names=l at h ⊢;generalize ([]:List (Str×Addr))=acc
 induction l generalizing acc with
 |nil=>rfl
 |cons x r ih=>
  obtain⟨n,k⟩:=x;rw[List.forIn_cons]
  by_cases hk:k=.free
  .subst hk
   have hc:=h (n,.free) ms0 rfl;obtain⟨c,hc⟩:=is0 hc;simp only[gz,cellOf,hc];have:=ih (λy hy=>h y (mc0 _ hy)) ((n,c)::acc);exact this
  .have hb:(k==NameKind.free)=false:=by simpa using hk
   simp only[gz,hb];exact ih (λy hy=>h y (mc0 _ hy)) acc
theorem gA :∀(l:List (Str×NameKind))(acc:List (Str×Addr)),(∀x∈l,x.2=.free->(env.cells.lookup x.1).isSome=true)->(∀x c,acc.lookup x=some c->env.cells.lookup x=some c)->
  ∀x c,(gz env l acc).lookup x=some c->env.cells.lookup x=some c
 |[],acc,_,ha,x,c,e=>ha x c e
 |(n,k)::r,acc,h,ha,x,c,e=>by
  unfold gz at e
  by_cases hk:k=.free
  .subst hk
   obtain⟨c',hc⟩:=is0 (h (n,.free) ms0 rfl);rw[if_pos (by rfl)]at e;refine gA r _ (λy hy=>h y (mc0 _ hy)) (λy d q=>?_) x c e;rw[lk0]at q;cases hy:y==n with
   |true=>
    rw[hy]at q;have:y=n:=by simpa using hy
    rw[this,hc];rw[hc]at q;exact q
   |false=>rw[hy]at q;exact ha y d q
  .have hb:(k==NameKind.free)=false:=by simpa using hk
   rw[if_neg (by rw[hb];decide)]at e;exact gA r acc (λy hy=>h y (mc0 _ hy)) ha x c e
theorem fI :∀(l:List (Str×NameKind))(acc:List (Str×Addr))(x:Str),((x,NameKind.free)∈l\/∃c,acc.lookup x=some c)->∃c,(gz env l acc).lookup x=some c
 |[],acc,x,h=>by
  rcases h with h|h
  .cases h
  .exact h
 |(n,k)::r,acc,x,h=>by
  unfold gz
  by_cases hk:k=.free
  .subst hk
   rw[if_pos (by rfl)];refine fI r _ x ?_;rcases h with h|⟨c,h⟩
   .rcases mq0 h with h|h
    .cases h
     exact .inr ⟨_,by rw[List.lookup_cons_self]⟩
    .exact .inl h
   .right
    rw[lk0];cases hy:x==n with
    |true=>exact⟨_,rfl⟩
    |false=>exact⟨c,h⟩
  .have hb:(k==NameKind.free)=false:=by simpa using hk
   rw[if_neg (by rw[hb];decide)];refine fI r acc x ?_;rcases h with h|h
   .rcases mq0 h with h|h
    .cases h;exact absurd rfl hk
    .exact .inl h
   .exact .inr h
theorem aZ{env:Env}(hk:env.scope.kind=.function):∀{names:List (Str×NameKind)}{x:Str},names.lookup x=some .free->env.kindOf x=some .cell->
  (names.map λ(n,k)=>if (k==NameKind.free&&env.scope.kind==.function&&env.kindOf n==some .cell)then (n,NameKind.cell)else (n,k)).lookup x=some .cell
 |[],_,h,_=>by simp at h
 |(n,k)::r,x,h,hx=>by
  have ih:=@aZ env hk r x;show List.lookup x ((if (k==NameKind.free&&env.scope.kind==.function&&env.kindOf n==some .cell)=true then (n,NameKind.cell)else (n,k))::_)=_;cases hy:x==n with
  |true=>
   have e:x=n:=by simpa using hy
   subst e;simp only[lk0,hy]at h;cases h;rw[if_pos (by simp[hk,hx])];simp[lk0]
  |false=>
   simp only[lk0,hy]at h
   by_cases hc:(k==NameKind.free&&env.scope.kind==.function&&env.kindOf n==some .cell)=true
   .rw[if_pos hc];simp only[lk0,hy];exact ih h hx
   .rw[if_neg hc];simp only[lk0,hy];exact ih h hx
section
variable {A:Around}{R:Result->Shared->Prop}
noncomputable abbrev lu(ifs:List Expr)(env:Env):Sem Bool:=
 forIn ifs true λc r=>if r=true then do let ok ←isTrue c env (eval c env);pure (ForInStep.yield ok)else pure (ForInStep.yield r)
def mF{elt target iter:Expr}{ifs:List Expr}{it acc:Value}(I:Nat->Shared->Prop)
  (turn:∀n s,I n s->wpAny (model prog w) A (pyNext it) (λr s1=>match r with
   |none=>R (.ok .next) s1
   |some v=>wpAny (model prog w) A (letOwnedTupleGo target it v) (λa s2=>wpAny (model prog w) A (assign target env v) (λa s3=>wpAny (model prog w) A (lu ifs env) (λok s4=>
     if ok=true then wpAny (model prog w) A (eval elt env) (λx s5=>wpAny (model prog w) A (call (.builtin "list.append") [acc,x]) (λa s6=>∃m,m<n/\I m s6) (λa a=>False) s5) (λa a=>False) s4
     else ∃m,m<n/\I m s4) (λa a=>False) s3) (λa a=>False) s2) (λa a=>False) s1) (λa a=>False) s)
  (n:Nat) (h:I n s):codeAny (model prog w) A (.compLoop (.ListComp elt [⟨target,iter,ifs,0⟩] scope pos) 0 it acc env) R s:=by
 have no:∀{E:Value->Shared->Prop}(x:Value)(s':Shared),False->E x s':=λa a z=>z.elim
 refine codeAny_loop rfl I (λn s hI=>?_) n h;show wpAny _ A (Sem.onRaise (compTurn _ 0 it acc env) _) _ _ s;refine wpAny_noted ?_;rw[compTurn_list];refine wb0 (wpAny_standAt (wb0 (wpAny_mono (turn n s hI) (λr s1 h1=>?_) no)));cases r with
 |none=>exact wq0 h1
 |some v=>
  refine wb0 (wpAny_mono h1 (λa s2 h2=>?_) no);refine wb0 (wpAny_mono h2 (λa s3 h3=>?_) no);refine wb0 (wpAny_mono h3 (λok s4 h4=>?_) no);cases ok with
  |false=>exact wq0 ⟨rfl,h4⟩
  |true=>
   refine wb0 (wb0 (wpAny_mono h4 (λx s5 h5=>?_) no));exact wb0 (wpAny_mono h5 (λa s6 h6=>wq0 (wq0 ⟨rfl,h6⟩)) no)
end
noncomputable def blk(X:Cx)(scope:Scope)(N:List Str)(C:Addr)(s:Shared)(H:Hp)(fp:List Addr):Cx where
 prog:=X.prog
 w:=X.w
 K:=X.K
 mg:=X.mg
 base:=X.base
 A:=X.A
 N:=N
 s₀:=s
 H₀:=H
 env:=compEnvC scope (gz X.env scope.names []) C X.env
 outer:=X.stack
 stack:=X.stack
 ex:=fp
 fn:=λa=>false
 calm:=X.calm
 pn:=[]
 xe:=λa a=>False
noncomputable def aE(X:Cx)(tn:List Str)(js:List Nat):List Str:=tn++js.map λj=>X.N.getD j Str.empty
noncomputable def gC(tn:List Str)(js:List Nat)(σ:St):St:=tn.map (λa=>.none)++js.map λj=>(σ[j]?).join
structure BlkOk(X:Cx)(scope:Scope)(js:List Nat):Prop where
 kind:scope.kind=.function
 free:∀y∈scope.names,y.2=.free->X.env.kindOf y.1=some .cell
 cell:∀y∈scope.names,y.2≠.cell
 loc:∀y∈scope.names,y.2=.local->scope.names.lookup y.1=some .local
 js:∀j∈js,∃x,X.N[j]?=some x/\scope.names.lookup x=some .free
section
variable {tn:List Str}{fp:List Addr}
theorem BlkOk.cells(B:BlkOk X scope js)(I:Inv X pins σ H s):∀x∈scope.names,x.2=.free->(X.env.cells.lookup x.1).isSome=true:=λx hx hf=>by
 obtain⟨c,e⟩:=I.ok.has x.1 (.inl (B.free x hx hf));rw[e];rfl
def BlkOk.from(B:BlkOk X scope js)(I:Inv X pins σ H s){c:Addr}(e:(gz X.env scope.names []).lookup x=some c):X.env.cells.lookup x=some c:=
 gA scope.names [] (B.cells I) (λa a z=>by cases z) x c e
def vg(B:BlkOk X scope js)(I:Inv X pins σ H s)(hf:∀b∈fp,fC X pins H b)(ho:∀b∈fp,∃o,s.heap.get? b=some o){C:Addr}(hC:s.heap.objs.size<=C):(blk X scope (aE X tn js) C s H fp).Ok where
 mod:=I.ok.mod
 kind:=B.kind
 glob:=I.ok.glob
 blt:=I.ok.blt
 above:=hC
 inj:=λx y c h1 h2=>I.ok.inj x y c (B.from I h1) (B.from I h2)
 has:=λx hx=>by
  have hx:(relabel scope X.env).names.lookup x=some .cell\/(relabel scope X.env).names.lookup x=some .free:=hx;refine fI scope.names [] x (.inl ?_);have hm:(x,NameKind.cell)∈(relabel scope X.env).names\/(x,NameKind.free)∈(relabel scope X.env).names:=hx.imp ml0 ml0;have key:∀k,(x,k)∈(relabel scope X.env).names->k=.cell\/k=.free->(x,NameKind.free)∈scope.names:=λk hk hkk=>by
   obtain⟨⟨n,k0⟩,hn,e⟩:=mm0 hk
   by_cases hc:(k0==NameKind.free&&X.env.scope.kind==.function&&X.env.kindOf n==some .cell)=true
   .have e':(n,NameKind.cell)=(x,k):=by rw[<-e];exact (if_pos hc).symm
    cases e';have:k0=.free:=by simp at hc;exact hc.1.1
    rw[<-this];exact hn
   .have e':(n,k0)=(x,k):=by rw[<-e];exact (if_neg hc).symm
    cases e';rcases hkk with rfl|rfl
    .exact absurd rfl (B.cell _ hn)
    .exact hn
  rcases hm with hm|hm
  .exact key _ hm (.inl rfl)
  .exact key _ hm (.inr rfl)
 cab:=λx c h a=>by cases h
 hd:=I.ok.hd
 frames:=I.ok.frames
 stk:=.inl rfl
 exf:=λb hb=>⟨by
  obtain⟨o,e⟩:=ho b hb;exact nn0 (nl0 (hs0 e) hC),λx c e=>(hf b hb).2.2.2.2.1 x c (B.from I e)⟩
 bs:=I.bs
 bsz:=nt0 I.ok.bsz I.sz
 noex:=λb o e hb=>by
  rcases (hf b hb).2.2.2.1 with z|z
  .exact I.ok.noex b o e z
  .exact absurd (nl0 (hs0 e) (nt0 I.ok.bsz z)) (li0 _)
 exfs:=λb hb z=>by
  obtain⟨_,h1,h2,_⟩:=hf b hb;exact (mq0 (I.stkSub b z)).elim h1 h2
 funs:=I.stack
 frf:=I.stkFree
def Di(B:BlkOk X scope js)(I:Inv X pins σ H s)(hf:∀b∈fp,fC X pins H b)(ho:∀b∈fp,∃o,s.heap.get? b=some o){C:Addr}(hC:s.heap.objs.size<=C)(hn:∀b∈fp,H' b=none):
  ∀b∈fp,fC (blk X scope (aE X tn js) C s H fp) [] H' b:=λb hb=>by
 have ok:=vg (tn:=tn) B I hf ho hC;exact⟨hn b hb,(ok.exf b hb).1,ok.exfs b hb,.inl hb,(ok.exf b hb).2,λp hp=>absurd (show p∈([]:List (Addr×Obj))from hp) (by simp)⟩
def zw(B:BlkOk X scope js)(I:Inv X pins σ H s)(hf:∀b∈fp,fC X pins H b)(ho:∀b∈fp,∃o,s.heap.get? b=some o){C D:Addr}(hD:s.heap.objs.size<=D)(hC:s.heap.objs.size<=C)(hCD:C≠D){h1:Heap}{tk:Nat}
  (k:∀b o,s.heap.get? b=some o->h1.get? b=some o) (hl:h1.get? D=some {cls:=.type "list",data:=.seq (#[]:Array Value) 0}) {m:Str->Option Value} (hns:h1.Ns C m):
  Inv (blk X scope (aE X tn js) C s H fp) [] (gC tn js σ) (upd H D (.lst [])) {s with heap:=h1,toks:=tk}:=by
 have hDn:H D=none:=I.hok.fresh hD;refine⟨vg B I hf ho hC,rfl,I.bare,Un.laid k hD hDn,⟨m,hns,λi x v e1 e2 e3=>?_⟩,λx c e=>?_,?_,λx c e=>?_,λp hp=>absurd (show p∈([]:List (Addr×Obj))from hp) (by simp),I.hok.laid k hD ⟨by simp,[],0,.nil,by simpa using hl⟩,?_⟩
 .have e1:(aE X tn js)[i]?=some x:=e1
  by_cases hi:i<tn.length
  .unfold gC at e2
   rw[gl0 (by simpa using hi),gm0]at e2;cases q:tn[i]? with
   |none=>rw[q]at e2;cases e2
   |some y=>rw[q]at e2;cases e2
  .unfold gC at e2
   unfold aE at e1;rw[List.getElem?_append_right (by simp;omega),gm0]at e2;rw[List.getElem?_append_right (by omega),gm0]at e1;rw[lm0]at e2;cases q:js[i-tn.length]? with
   |none=>rw[q]at e2;cases e2
   |some j=>
    rw[q]at e1 e2;have e2:(σ[j]?).join=some v:=Option.some.inj e2;obtain⟨y,hy,hyf⟩:=B.js j (mg0 q);have e1:X.N.getD j Str.empty=x:=Option.some.inj e1;have ey:y=x:=by rw[<-e1,List.getD_eq_getElem?_getD,hy];rfl
    subst ey;have e2':σ[j]?=some (some v):=by
     cases r:σ[j]? with
     |none=>rw[r]at e2;cases e2
     |some o=>rw[r]at e2;cases o with
      |none=>cases e2
      |some v'=>cases e2;rfl
    have hk:=B.free _ (ml0 hyf) rfl;obtain⟨m0,_,hl0⟩:=I.loc;obtain⟨u,r,lk⟩:=hl0 j y v hy e2' (.inr (.inl hk));refine⟨u,r,?_⟩;rcases lk with⟨z,_⟩|⟨_,c,hc,z⟩
    .rw[hk]at z;cases z
    .obtain⟨c',hc'⟩:=fI (env:=X.env) scope.names [] y (.inl (ml0 hyf))
     have:c'=c:=by have:=B.from I hc';rw[hc]at this;exact (Option.some.inj this).symm
     subst this;refine .inr ⟨.inl (aZ I.ok.kind hyf hk),c',hc',?_⟩;obtain⟨o,h2,h3⟩:=z;exact⟨o,k _ _ h2,h3⟩
 .obtain⟨v,o,h2,h3⟩:=I.cell x c (B.from I e)
  exact⟨v,o,k _ _ h2,h3⟩
 .show upd H D (.lst []) C=none
  rw[aa hCD];exact I.hok.fresh hC
 .show upd H D (.lst []) c=none
  have e':=B.from I e;obtain⟨v,o,h2,h3⟩:=I.cell x c e';rw[aa (nn0 (nl0 (hs0 h2) hD))];exact I.freeC x c e'
 .show (gC tn js σ).length=(aE X tn js).length
  unfold gC aE;simp
def zx{C:Addr}{σ':St}{s':Shared}{N:List Str}{pl:List (Addr×Obj)}(I:Inv X pins σ H s)(hf:∀b∈fp,fC X pins H b)(J:Inv (blk X scope N C s H fp) pl σ' H' s'):Inv X pins σ H' s':=
 I.call' J.os J.base J.hok J.bare λb hb=>⟨(hf b hb).2.2.2.1,(hf b hb).2.1,(hf b hb).2.2.2.2.1,(hf b hb).2.2.2.2.2⟩
end
def PCs(X:Cx)(ifs:List Expr)(t:TT):Prop:=
 ∀(pins:List (Addr×Obj))(s:Shared)(σ:St)(H:Hp)(Q:Bool->Hp->Prop),Inv X pins σ H s->t σ H Q->wpAny (model X.prog X.w) X.A (lu ifs X.env) (TP X pins σ Q) X.xe s
def pcs_nil :PCs X [] (λa H Q=>Q true H):=λa a a H a I h=>wpAny_tests_nil ⟨H,I,h⟩
noncomputable def BJ(tn:List Str)(js:List Nat)(wi:TI)(g:TG)(tc:TT)(te:TE):TE:=λσ H Q=>wi σ H λJ H1=>∀p,H1 p=none->∃W:Nat->Nat->St->Hp->Prop,(∃m,W 0 m (gC tn js σ) (upd H1 p (.lst [])))/\∀i m σ' H',W i m σ' H'->
 (J.stop i H'/\Q (.ref p) H')\/(J.go i H'/\∀x H2,J.yld i H' x H2->g x σ' H2 λσ2 H3=>tc σ2 H3 λb H4=>
  if b=true then te σ2 H4 λy H5=>∃ys,H5 p=some (.lst ys)/\ys.length<sizeLine/\∃m',m'<m/\W (i+1) m' σ2 (upd H5 p (.lst (ys++[y])))else ∃m',m'<m/\W (i+1) m' σ2 H4)
section
variable {elt iter tg:Expr}{ifs:List Expr}{tn:List Str}{wi:TI}{g:TG}{tc:TT}{te:TE}
def jZ{s2:Shared}{E:Value->Shared->Prop}{RR:Value->Addr->Result->Shared->Prop}{Q:VK}{itv:Value}(B:BlkOk X scope js)(hcalm:X.calm=true)
  (hg:∀C s H fp,PG (blk X scope (aE X tn js) C s H fp) tg g) (hc:∀C s H fp,PCs (blk X scope (aE X tn js) C s H fp) ifs tc) (he:∀C s H fp,PE (blk X scope (aE X tn js) C s H fp) elt te)
  (h2:PIE X pins σ tg (λJ H1=>∀p,H1 p=none->∃W:Nat->Nat->St->Hp->Prop,(∃m,W 0 m (gC tn js σ) (upd H1 p (.lst [])))/\∀i m σ' H',W i m σ' H'->
   (J.stop i H'/\Q (.ref p) H')\/(J.go i H'/\∀x H2,J.yld i H' x H2->g x σ' H2 λσ2 H3=>tc σ2 H3 λb H4=>
    if b=true then te σ2 H4 λy H5=>∃ys,H5 p=some (.lst ys)/\ys.length<sizeLine/\∃m',m'<m/\W (i+1) m' σ2 (upd H5 p (.lst (ys++[y])))else ∃m',m'<m/\W (i+1) m' σ2 H4)) itv s2)
  (fin:∀(C D:Addr)(s':Shared)(H':Hp)(m:Str->Option Value),Inv X pins σ H' s'->s2.heap.objs.size<=C->C≠X.env.locals->(∀x c,X.env.cells.lookup x=some c->c≠C)->(∀p∈X.pn++pins,p.1≠C)->X.s₀.heap.objs.size<=C->H' C=none->s'.heap.Ns C m->
   Q (.ref D) H'->RR (.ref D) C (.ok .next) s'):
  wpAny (model X.prog X.w) X.A (newList []) (λacc s3=>wpAny (model X.prog X.w) X.A (newFunctionEnv scope X.env.globals (gz X.env scope.names []) [] X.env.qual none .none (some X.env)) (λcenv s4=>
   codeAny (model X.prog X.w) X.A (.compStart (.ListComp elt [⟨tg,iter,ifs,0⟩] scope pos) 0 itv acc {cenv with scope:=relabel scope X.env}) (RR acc cenv.locals) s4) E s3) E s2:=by
 obtain⟨it,fp,tnn,J,H2,e,I2,T,st2,f2,R⟩:=h2;subst e;refine wpAny_newObj_type (wpAny_newFunctionEnv B.cell (by intro y hy;simp at hy) (λh1 hns hsb=>?_) B.kind);dsimp only at hns hsb ⊢;generalize hP:s2.heap.push {cls:=.type "list",dict:=none,data:=.seq ([]:List Value).toArray}=P2 at hns hsb ⊢;have hC:P2.objs.size=s2.heap.objs.size+1:=by rw[<-hP,Heap.size_push]
 have hCle:s2.heap.objs.size<=P2.objs.size:=by omega
 have hCD:P2.objs.size≠s2.heap.objs.size:=by omega
 have old:∀b o,s2.heap.get? b=some o->h1.get? b=some o:=λb o e=>
  hsb.extBut b o (nn0 (nl0 (hs0 e) hCle)) (ps0 _ (hP▸ps0 _ e))
 have hacc:h1.get? s2.heap.objs.size=some {cls:=.type "list",data:=.seq (#[]:Array Value) 0}:=
  hsb.extBut _ _ (Ne.symm hCD) (ps0 _ (hP▸pz0 _ rfl))
 have ho:∀b∈fp,∃o,s2.heap.get? b=some o:=λb hb=>let ⟨o,e,_⟩:=T.obj 0 _ st2 b hb;⟨o,e⟩
 have hDn:H2 s2.heap.objs.size=none:=I2.hok.fresh (nr0 _);obtain⟨W,⟨m0,w0⟩,turn⟩:=R _ hDn;have I4:=zw (tn:=tn) (tk:=s2.toks+([]:List (Str×Value)).length) B I2 f2 ho (nr0 _) hCle hCD old hacc hns;have fpo:∀{H':Hp},(∀b∈fp,H' b=none)->∀b∈fp,fC (blk X scope (aE X tn js) P2.objs.size s2 H2 fp) [] H' b:=λhn=>Di (tn:=tn) B I2 f2 ho hCle hn
 have st4:tnn 0 h1:=T.keep _ _ _ st2 λb hb o e=>old b o e
 have fr4:∀b∈fp,upd H2 s2.heap.objs.size (.lst []) b=none:=λb hb=>by
  obtain⟨o,e⟩:=ho b hb;rw[aa (nn0 (hs0 e))];exact (f2 b hb).1
 have loop:∀s3:Shared,s3={s2 with heap:=h1,toks:=s2.toks+([]:List (Str×Value)).length}->
   codeAny (model X.prog X.w) X.A (.compLoop (.ListComp elt [⟨tg,iter,ifs,0⟩] scope pos) 0 (.ref it) (.ref s2.heap.objs.size) (compEnvC scope (gz X.env scope.names []) P2.objs.size X.env)) (RR (.ref s2.heap.objs.size) P2.objs.size) s3:=by
  rintro s3 rfl
  refine mF (λn s'=>∃i σ' H',Inv (blk X scope (aE X tn js) P2.objs.size s2 H2 fp) [] σ' H' s'/\tnn i s'.heap/\(∀b∈fp,H' b=none)/\W i n σ' H') ?_ m0 ⟨0,_,_,I4,st4,fr4,w0⟩
  rintro n s3 ⟨i,σ3,H3,I3,st3,fr3,w3⟩
  rcases turn i n σ3 H3 w3 with⟨stop,qn⟩|⟨go,step⟩
  .refine thn (T.done (blk X scope (aE X tn js) P2.objs.size s2 H2 fp) rfl rfl rfl hcalm i [] s3 σ3 H3 _ I3 (fpo fr3) st3 stop) λr s4 ⟨hr,I4'⟩=>?_
   subst hr;obtain⟨m,hm,_⟩:=I4'.loc;refine fin _ _ s4 H3 m (zx I2 f2 I4') hCle (Nat.ne_of_gt (nl0 I2.lt hCle)) (λx c e=>?_) (λp hp z=>?_) (nt0 I2.sz hCle) I4'.free hm qn
   .obtain⟨v,q⟩:=I2.cell x c e
    exact nn0 (nl0 q.lt hCle)
   .exact absurd (nl0 (hs0 (I2.pin p hp).1) (by rw[z];exact hCle)) (li0 _)
  .refine thn (T.item (blk X scope (aE X tn js) P2.objs.size s2 H2 fp) rfl rfl rfl hcalm i [] s3 σ3 H3 _ I3 (fpo fr3) st3 go) λr s4 ⟨u,hr,h4⟩=>?_
   subst hr;refine thn h4 λa s5 ⟨x,H5,I5,r5,y5,st5,fr5⟩=>?_
   have I5':=I5.pinned (fpo fr5) (T.obj _ _ st5);refine thn (hg _ _ _ _ _ s5 σ3 H5 x u _ I5' r5 (step x H5 y5)) λa s6 ⟨σ6,H6,I6,q6⟩=>?_
   have again:∀{s7:Shared}{σ7:St}{H7:Hp},Inv (blk X scope (aE X tn js) P2.objs.size s2 H2 fp) ([]++iH fp s5.heap) σ7 H7 s7->(∃m',m'<n/\W (i+1) m' σ7 H7)->
     ∃m,m<n/\∃i σ' H',Inv (blk X scope (aE X tn js) P2.objs.size s2 H2 fp) [] σ' H' s7/\tnn i s7.heap/\(∀b∈fp,H' b=none)/\W i m σ' H':=λ{s7 σ7 H7} I7 ⟨m',hm,w7⟩=>by
    refine⟨m',hm,i+1,σ7,H7,I7.unpinned,T.keep _ _ _ st5 λb hb o e=>(I7.pin (b,o) (mr0 _ (mr0 _ (di hb e)))).1,λb hb=>?_,w7⟩;obtain⟨o,e,d⟩:=T.obj _ _ st5 b hb;exact (I7.pin (b,o) (mr0 _ (mr0 _ (di hb e)))).2.1
   refine thn (hc _ _ _ _ _ s6 σ6 H6 _ I6 q6) λok s7 ⟨H7,I7,q7⟩=>?_
   cases ok with
   |false=>
    rw[if_neg fx0]at q7 ⊢;exact again I7 q7
   |true=>
    rw[if_pos rfl]at q7 ⊢;refine thn (he _ _ _ _ _ s7 σ6 H7 _ I7 q7) λxv s8 ⟨y,H8,I8,r8,ys,hp,hz,q8⟩=>?_
    refine thn (gq _ s8 σ6 H8 (.ref s2.heap.objs.size) [y] _ [xv] (λa H'=>∃m',m'<n/\W (i+1) m' σ6 H') I8 rfl (.cons r8 .nil) ⟨_,ys,y,rfl,rfl,hp,hz,q8⟩) λa s9 ⟨_,H9,I9,_,q9⟩=>?_
    exact again I9 q9
 exact codeAny_compStart_list (loop _ rfl) (T.self _ 0 _ _ _ st4 (loop _ rfl))
def qJ(B:BlkOk X scope js)(hcalm:X.calm=true)(hi:PI X tg iter wi)(hg:∀C s H fp,PG (blk X scope (aE X tn js) C s H fp) tg g)(hc:∀C s H fp,PCs (blk X scope (aE X tn js) C s H fp) ifs tc)
  (he:∀C s H fp,PE (blk X scope (aE X tn js) C s H fp) elt te) (hs:∀x,foldedSetIterable iter X.env x=pure x:=by intro _;rfl):PE X (.ListComp elt [⟨tg,iter,ifs,0⟩] scope pos) (BJ tn js wi g tc te):=by
 intro pins s σ H Q I h;rw[eval_ListComp];refine wpAny_comprehension_free (use:=none) rfl hs (fe (B.cells I)) B.kind B.loc (thn (hi pins s σ H _ I h) λv s1 h1=>thn h1 λitv s2 h2=>?_);refine jZ (RR:=λacc C=>compPost (model X.prog X.w) X.A X.xe none (EP X pins σ Q) acc C) B hcalm hg hc he h2 ?_;intro C D s' H' m I' h1 h2 h3 h4 h5 h6 hm q;refine⟨m,hm,λh'' sb=>?_⟩;exact⟨.ref D,H',I'.turned (t':=s'.toks) (λb o hb e=>(sb.2 b hb).trans e) h6 h2 (.inr h5) h3 h4,rfl,q⟩
def zy{y:Str}{py spos:Pos}(B:BlkOk X scope js)(hcalm:X.calm=true)(hi:PI X tg iter wi)(hg:∀C s H fp,PG (blk X scope (aE X tn js) C s H fp) tg g)(hc:∀C s H fp,PCs (blk X scope (aE X tn js) C s H fp) ifs tc)
  (he:∀C s H fp,PE (blk X scope (aE X tn js) C s H fp) elt te) (hN:X.N.Nodup) (hix:X.N[i]?=some y) (hy:X.env.scope.names.lookup y=some .local)
  (hsw:swapsWith (.ListComp elt [⟨tg,iter,ifs,0⟩] scope pos) (some (.Name y py)) spos.line X.env=pure true:=by rfl) (hs:∀x,foldedSetIterable iter X.env x=pure x:=by intro _;rfl):
  PS X (.Assign [.Name y py] (.ListComp elt [⟨tg,iter,ifs,0⟩] scope pos) spos) (λF σ H=>BJ tn js wi g tc te σ H λv H'=>F.nx (σ.set i (some v)) H'):=by
 intro pins s σ H F I h;rw[exec_Assign_Name_used _ _ _ _ hsw];refine wb0 (wpAny_standAt (wb0 ?_));refine wb0 (wpAny_mono (wpAny_comprehension_free (use:=some (assign (.Name y py) X.env)) (Q:=λc s'=>SP X pins F .next s') rfl hs (fe (B.cells I)) B.kind B.loc
  (thn (hi pins s σ H _ I h) λv s1 h1=>thn h1 λitv s2 h2=>?_)) (λc s' hq=>wq0 (wq0 hq)) λc c e=>e)
 refine jZ (RR:=λacc C=>compPost (model X.prog X.w) X.A X.xe (some (assign (.Name y py) X.env)) (λc s'=>SP X pins F .next s') acc C) (Q:=λv H'=>F.nx (σ.set i (some v)) H') B hcalm hg hc he h2 ?_;intro C D s' H' m I' h1 h2 h3 h4 h5 h6 hm q;show wpAny _ X.A (assign (.Name y py) X.env (.ref D)) _ _ s';refine wpAny_assign_Name (store_ok2 (v:=.ref D) I' hN hix (.inl hy) rfl (λs'' I'' hb=>?_) (.inr hy));obtain⟨a,sb,ha⟩:=hb;have haC:C≠a:=by
  rcases ha with z|z
  .rw[z];exact h2
  .exact (h3 _ _ z).symm
 refine⟨m,hm.sameBut sb haC,λh'' sb''=>?_⟩;exact⟨_,H',I''.turned (t':=s''.toks) (λb o hb e=>(sb''.2 b hb).trans e) h6 h2 (.inr h5) h3 h4,q⟩
end
end L2.C
namespace K50
open PySem L2
noncomputable abbrev cV:Nat:=146
noncomputable abbrev cSE:Nat:=31
noncomputable abbrev cNO:Nat:=44
noncomputable abbrev cBT:Nat:=56
noncomputable abbrev cNP:Nat:=68
noncomputable def top(i:Nat):Stmt:=PySem.Challenge.pw_strata_k50_whole_paths.main.body.getD i (.Pass ⟨0,0,0,0⟩)
noncomputable def met(j:Nat):Stmt:=match top 12 with|.ClassDef _ _ _ b ..=>b.getD j (.Pass ⟨0,0,0,0⟩)|_=>.Pass ⟨0,0,0,0⟩
noncomputable abbrev m0:Value:=.str "strata.names" 262
noncomputable abbrev m1:Value:=.str "strata.vaults" 285
noncomputable abbrev m2:Value:=.str "strata.walking" 418
noncomputable abbrev m3:Value:=.str "law_strata_k50_whole_paths" 481
noncomputable abbrev fo(n q:Str)(st:Stmt)(pm:Value)(cd:Addr):Obj:=⟨.type "function",none,.func (PySem.W.fnOf n q (defArgs st) (defBody st) (defScope st) .none .none .none pm none (.ref cd) .none),#[]⟩
def kE(P:Params)(k:Str)(t:Nat)(v:Value):DictEntry:=⟨PyData.keyHash P k,.str k t,v⟩
def dO(n:Nat)(es:List DictEntry):Obj:=⟨.type "dict",none,.dict es.toArray n,#[]⟩
noncomputable def cO(n:Str)(bs mro:List Value)(ns:Addr)(subs:List Value)(sl:List (Option Value)):Obj:=⟨.type "type",none,.cls {name:=n,bases:=bs,mro:=mro,ns:=ns,qualname:=n,subclasses:=subs},sl.toArray⟩
noncomputable def kO(n q:Str)(t l p e cd:Nat)(w:Bool):Obj:=⟨.type "code",none,.fields #[.str n t,.str q (t+1),.str "/claim/cut.py" (t+2),.int l 0,.int p 0,.int 0 0,.int 0 0,.int 3 0,.ref (cd-(if w then 5 else 3)),.bool true,.int 181 0,.ref (cd-(if w then 4 else 2)),.none,if w then .ref (cd-3)else .none,if w then .ref (cd-2)else .none,.ref (cd-1),.int (t+e-1:Nat) 0,.int l 0,.str "/claim/cut.py" (t+e)],#[]⟩
noncomputable def kf(x:Str)(i:Nat)(pm:Value)(cd t l p e:Nat)(w:Bool)(r:fg0):fg0:=(cd,kO x x t l p e cd w)::(cd+1,fo x x (top i) pm cd)::r
noncomputable def xD(P:Params)(t l s:Nat):Obj:=dO 2 [kE P "__module__" t (.str "strata.errors" 194),kE P "__firstlineno__" (t+4) (.int l (t+3)),kE P "__static_attributes__" (t+5) (.ref s),kE P "__doc__" (t+6) (.none)]
noncomputable def xC(n:Str)(a b t r:Nat):Obj:=cO n [.ref 31] [.ref a,.ref 31,.type "ValueError",.type "Exception",.type "BaseException",.type "object"] b [] [some (.ref r),none,some (.str n t),some (.str n (t+8)),some (.builtin "ValueError.__new__"),some (.bool true)]
noncomputable def kk(P:Params):fg0:=(3,dO 52 [kE P "__name__" 165 (.str "law_strata_k50_whole_paths" 481),kE P "__doc__" 166 (.none),kE P "__package__" 167 (.none),kE P "__loader__" 168 (.builtin "__main__.__loader__#opaque"),kE P "__spec__" 169 (.none),kE P "__annotations__" 170 (.ref 6),kE P "__builtins__" 171 (.ref 4),kE P "__file__" 173 (.str "/claim/cut.py" 172),kE P "__cached__" 174 (.none),kE P "_wall" 193 (.ref 21),kE P "StrataError" 213 (.ref 31),kE P "NoObject" 229 (.ref 44),kE P "BadTree" 245 (.ref 56),kE P "NoPath" 261 (.ref 68),kE P "LONGEST_NAME" 265 (.int 12 264),kE P "is_name_sign" 272 (.ref 77),kE P "is_name" 278 (.ref 82),kE P "names_rise" 284 (.ref 87),kE P "Vault" 363 (.ref 146),kE P "blob" 371 (.ref 157),kE P "tree" 377 (.ref 162),kE P "text_of" 385 (.ref 169),kE P "entries_of" 393 (.ref 176),kE P "entries_by_name" 401 (.ref 183),kE P "refuse_wrong_names" 409 (.ref 190),kE P "refuse_what_is_no_tree" 417 (.ref 197),kE P "MOST_NAMES" 421 (.int 20 420),kE P "found_at" 432 (.ref 204),kE P "with_object" 443 (.ref 211),kE P "names_of" 449 (.ref 216),kE P "object_at" 460 (.ref 223),kE P "entries_with" 472 (.ref 230),kE P "tree_or_none" 480 (.ref 237),kE P "_law_cell" 490 (.ref 244),kE P "_law_mix" 499 (.ref 251),kE P "_law_whole" 506 (.ref 258),kE P "_law_sign" 515 (.ref 265),kE P "_law_line" 524 (.ref 272),kE P "_law_ends" 530 (.ref 277),kE P "_law_row" 536 (.ref 282),kE P "_law_edited" 551 (.ref 289),kE P "_law_name" 557 (.ref 294),kE P "_law_lines" 563 (.ref 299),kE P "_law_node" 574 (.ref 306),kE P "_law_folder" 580 (.ref 311),kE P "_law_store" 586 (.ref 316),kE P "_law_seen" 592 (.ref 321),kE P "_law_get" 601 (.ref 328),kE P "_law_with" 607 (.ref 333),kE P "_law_way" 621 (.ref 340),kE P "_law_found" 633 (.ref 347),kE P "law" 639 (.ref 352)])::
 ((30,dO 3 [kE P "__module__" 203 (.str "strata.errors" 194),kE P "__firstlineno__" 207 (.int 5 206),kE P "__static_attributes__" 208 (.ref 29),kE P "__weakref__" 210 (.ref 32),kE P "__doc__" 211 (.none)])::
 ((31,cO "StrataError" [.type "ValueError"] [.ref 31,.type "ValueError",.type "Exception",.type "BaseException",.type "object"] 30 [.ref 44,.ref 56,.ref 68] [some (.ref 22),none,some (.str "StrataError" 196),some (.str "StrataError" 204),some (.builtin "ValueError.__new__"),some (.bool true)])::
 ((43,xD P 221 7 42)::
 ((44,xC "NoObject" 44 43 214 35)::
 ((55,xD P 237 9 54)::
 ((56,xC "BadTree" 56 55 230 47)::
 ((67,xD P 253 11 66)::
 ((68,xC "NoPath" 68 67 246 59)::
 (kf "is_name_sign" 8 m0 76 266 15 1 5 true<|
 kf "is_name" 9 m0 81 273 19 1 4 false<|
 kf "names_rise" 10 m0 86 279 25 1 4 false<|
 (100,kO "__init__" "Vault.__init__" 299 30 1 5 100 true)::
 ((101,fo "__init__" "Vault.__init__" (met 0) m1 100)::
 ((114,kO "kind" "Vault.kind" 313 37 2 6 114 true)::
 ((115,fo "kind" "Vault.kind" (met 2) m1 114)::
 ((121,kO "held" "Vault.held" 321 40 2 6 121 true)::
 ((122,fo "held" "Vault.held" (met 3) m1 121)::
 ((128,kO "content" "Vault.content" 329 45 3 8 128 true)::
 ((129,fo "content" "Vault.content" (met 4) m1 128)::
 ((135,kO "put" "Vault.put" 339 51 2 6 135 true)::
 ((136,fo "put" "Vault.put" (met 5) m1 135)::
 ((145,dO 4 [kE P "__module__" 294 (.str "strata.vaults" 285),kE P "__firstlineno__" 298 (.int 28 297),kE P "__init__" 305 (.ref 101),kE P "size" 312 (.ref 108),kE P "kind" 320 (.ref 115),kE P "held" 328 (.ref 122),kE P "content" 338 (.ref 129),kE P "put" 346 (.ref 136),kE P "copied" 353 (.ref 143),kE P "__static_attributes__" 356 (.ref 144),kE P "__dict__" 358 (.ref 147),kE P "__weakref__" 360 (.ref 148),kE P "__doc__" 361 (.none)])::
 ((146,cO "Vault" [.type "object"] [.ref 146,.type "object"] 145 [] [none,none,some (.str "Vault" 287),some (.str "Vault" 295),some (.builtin "object.__new__"),some (.bool true)])::
 (kf "blob" 13 m1 156 364 59 2 6 true<|
 kf "tree" 14 m1 161 372 61 2 4 false<|
 kf "text_of" 15 m1 168 378 67 2 6 true<|
 kf "entries_of" 16 m1 175 386 69 2 6 true<|
 kf "entries_by_name" 17 m1 182 394 71 2 6 true<|
 kf "refuse_wrong_names" 18 m1 189 402 75 1 6 true<|
 kf "refuse_what_is_no_tree" 19 m1 196 410 81 2 6 true<|
 kf "found_at" 22 m2 203 422 85 3 9 true<|
 kf "with_object" 23 m2 210 433 92 4 9 true<|
 kf "names_of" 24 m2 215 444 100 1 4 false<|
 kf "object_at" 25 m2 222 450 107 3 9 true<|
 kf "entries_with" 26 m2 229 461 112 4 10 true<|
 kf "tree_or_none" 27 m2 236 473 122 2 6 true<|
 kf "_law_cell" 29 m3 243 483 125 2 6 true<|
 kf "_law_mix" 30 m3 250 491 129 2 7 true<|
 kf "_law_whole" 31 m3 257 500 133 1 5 true<|
 kf "_law_sign" 32 m3 264 507 135 1 7 true<|
 kf "_law_line" 33 m3 271 516 139 2 7 true<|
 kf "_law_ends" 34 m3 276 525 144 2 4 false<|
 kf "_law_row" 35 m3 281 531 149 3 4 false<|
 kf "_law_name" 37 m3 293 552 160 2 4 false<|
 kf "_law_node" 39 m3 305 564 172 3 9 true<|
 kf "_law_folder" 40 m3 310 575 178 3 4 false<|
 kf "_law_store" 41 m3 315 581 181 2 4 false<|
 kf "_law_seen" 42 m3 320 587 185 2 4 false<|
 kf "_law_get" 43 m3 327 593 189 2 7 true<|
 kf "_law_with" 44 m3 332 602 195 3 4 false<|
 kf "_law_way" 45 m3 339 608 207 3 12 true<|
 kf "_law_found" 46 m3 346 622 218 3 10 true<|
 kf "law" 47 m3 351 634 228 1 4 false<|
 [])))))))))))))))))))))
noncomputable def ads:List Addr:=[3,30,31,43,44,55,56,67,68,76,77,81,82,86,87,100,101,114,115,121,122,128,129,135,136,145,146,156,157,161,162,168,169,175,176,182,183,189,190,196,197,203,204,210,211,215,216,222,223,229,230,236,237,243,244,250,251,257,258,264,265,271,272,276,277,281,282,293,294,305,306,310,311,315,316,320,321,327,328,332,333,339,340,346,347,351,352]
noncomputable def lo:List Str:=(["_wall","StrataError","NoObject","BadTree","NoPath","LONGEST_NAME","is_name_sign","is_name","names_rise","Vault","blob","tree","text_of","entries_of","entries_by_name","refuse_wrong_names","refuse_what_is_no_tree","MOST_NAMES","found_at","with_object"]:List Str)++(["names_of","object_at","entries_with","tree_or_none","_law_cell","_law_mix","_law_whole","_law_sign","_law_line","_law_ends","_law_row","_law_edited","_law_name","_law_lines","_law_node","_law_folder","_law_store","_law_seen","_law_get","_law_with"]:List Str)++(["_law_way","_law_found"]:List Str)
def posOf:Stmt->Pos
 |.FunctionDef _ _ _ _ _ _ _ _ _ p=>p
 |_=>⟨0,0,0,0⟩
noncomputable def Dj:DefRec:=⟨"law",defArgs (top 47),defBody (top 47),defScope (top 47),posOf (top 47)⟩
noncomputable def vw:Program:={PySem.Challenge.pw_strata_k50_whole_paths with main:={PySem.Challenge.pw_strata_k50_whole_paths.main with body:=[top 47]}}
open PySem.W PySem.W.X in
theorem hl:LeftO PySem.Challenge.pw_strata_k50_whole_paths vw lo (λs=>xlAt vw [] s&&recOk (RowW.records (OpenRow.toRowW PySem.Challenge.rw_strata_k50_whole_paths.row)) s) (obsZ ads) (valZ kk 353 640) 4854:=by intro w;kernel_rfl
end K50
namespace SI
open PySem
inductive D where
 |none
 |bool (b:Bool)
 |int (i:Int)
 |str (x:Str)
 |tuple (ds:List D)
 |list (ds:List D)
 |dict (kvs:List (Sum Int Str×D))
 |scr (ns:List Int)
 |vlt (C h:Nat) (objs:List D)
 |hdl (h:Nat)
 |exc (C:Nat)
 |fn (a:Nat)
noncomputable instance:DecidableEq D:=λa a=>Classical.propDecidable _
inductive Sl where
 |no
 |dat (d:D)
 |lent (d:D)
 |own (d:D)
inductive Op2 where|add|sub|mul|mod|fdiv
inductive Cop where|lt|le|gt|eq|ne|isin|notin|isN|notN
inductive Bf where|len|int|list|tuple|dict|str|all|srt|fst|lzip|rvl|srtk
inductive Mf where|split|join
inductive Tg where
 |one (i:Nat)
 |tup (is:List Nat)
inductive Md where|val|read|test|walk
def big:Nat:=16777216
noncomputable def ixN(n:Nat)(i:Int):Option Nat:=if 0<=i then (if i<n then some i.toNat else none)else if -(n:Int)<=i then some (i+n).toNat else none
def atI{α:Type}(xs:List α)(i:Int):Option α:=(ixN xs.length i).bind λj=>xs[j]?
noncomputable def sIx(n d:Nat):Option Int->Nat
 |none=>d
 |some v=>if v<0 then (v+(n:Int)).toNat else min v.toNat n
noncomputable def cut{α:Type}(xs:List α)(lo hi:Option Int):List α:=(xs.drop (sIx xs.length 0 lo)).take (sIx xs.length xs.length hi-sIx xs.length 0 lo)
noncomputable def okS:Nat->D->Bool
 |_,.none=>true
 |_,.int _=>true
 |_,.str _=>true
 |n+1,.tuple ds=>ds.all (okS n)
 |n+1,.list ds=>ds.all (okS n)
 |_,_=>false
noncomputable def fJ:D->Option Bool
 |.none=>some false
 |.bool b=>some b
 |.int i=>some (i != 0)
 |.str x=>if x.length<=big then some ((x.length:Int) != 0)else none
 |.tuple ds=>some (!ds.isEmpty)
 |.list ds=>some (!ds.isEmpty)
 |.dict kvs=>some (!kvs.isEmpty)
 |.scr ns=>some (!ns.isEmpty)
 |_=>none
def asB:D->Option Bool
 |.bool b=>some b
 |_=>none
def asI:D->Option Int
 |.int i=>some i
 |_=>none
def fin:Md->Option D->Option D
 |.test,d=>d.bind λd=>(fJ d).map .bool
 |_,d=>d
def bm:Md->Md
 |.test=>.test
 |_=>.val
def noT:Md->Option D->Option D
 |.test,_=>none
 |_,d=>d
def rOk(n:Int):Bool:=decide (-(2 ^ 62)<=n)&&decide (n<2 ^ 62)
noncomputable def vh(n:Nat)(j:Int):Bool:=decide (-(2 ^ 63)<=j)&&decide (j<2 ^ 63)&&decide (n*j.toNat<=big)
noncomputable def pf(i j:Int):Bool:=(decide (-(2 ^ 64)<i)&&decide (i<2 ^ 64))||(decide (-(2 ^ 64)<j)&&decide (j<2 ^ 64))
def Dk{n:Int}(h1:-1000000<=n)(h2:n<=1000000):rOk n=true:=by
 unfold rOk;rw[dt0 (by omega),dt0 (by omega)];rfl
noncomputable def opD:Op2->D->D->Option D
 |.add,.int i,.int j=>some (.int (i+j))
 |.add,.str x,.str y=>if x.length+y.length<=big then some (.str (x++y))else none
 |.add,.list a,.list b=>if a.length+b.length<=big then some (.list (a++b))else none
 |.sub,.int i,.int j=>some (.int (i-j))
 |.mul,.int i,.int j=>if pf i j then some (.int (i*j))else none
 |.mul,.list a,.int j=>if vh a.length j then some (.list (List.replicate j.toNat a).flatten)else none
 |.mul,.str x,.int j=>if -1000<=j/\j<=1000/\x.length<=1000 then some (.str ⟨((List.replicate j.toNat x.cps.toList).flatten).toArray⟩)else none
 |.mod,.int i,.int j=>if 0<j then some (.int (i % j))else none
 |.fdiv,.int i,.int j=>if 0<j/\j<1073741824 then some (.int (i / j))else none
 |_,_,_=>none
noncomputable def fq:D->Option (Sum Int Str)
 |.int i=>some (.inl i)
 |.str x=>some (.inr x)
 |_=>none
noncomputable def look{α:Type}:List (Sum Int Str×α)->Sum Int Str->Option α
 |[],_=>none
 |(l,d)::r,k=>if l=k then some d else look r k
noncomputable def put{α:Type}:List (Sum Int Str×α)->Sum Int Str->α->List (Sum Int Str×α)
 |[],k,v=>[(k,v)]
 |(l,d)::r,k,v=>if l=k then (l,v)::r else (l,d)::put r k v
noncomputable def dI{α:Type}(kvs:List (Sum Int Str×α))(k:Sum Int Str):List (Sum Int Str×α):=kvs.filter λkv=>decide (kv.1≠k)
@[simp] noncomputable def getD:D->D->Option D
 |.dict kvs,k=>(fq k).map λk=>(look kvs k).getD .none
 |_,_=>none
noncomputable def eqD(a b:D):Option Bool:=
 if okS 20 a&&okS 20 b then some (decide (a=b))else none
def hasSub(x y:Str):Bool:=!(Builtin.Str.occurrences y x 0 y.length 1).isEmpty
noncomputable def inD(a b:D):Option Bool:=
 match b with
 |.str y=>match a with
  |.str x=>some (hasSub x y)
  |_=>none
 |.list ds=>if okS 20 a&&ds.all (okS 19)then some (ds.any λd=>decide (d=a))else none
 |.tuple ds=>if okS 20 a&&ds.all (okS 19)then some (ds.any λd=>decide (d=a))else none
 |.dict kvs=>(fq a).map λk=>(look kvs k).isSome
 |_=>none
noncomputable def bQ:Cop->D->D->Option Bool
 |.lt,.int i,.int j=>some (decide (i<j))
 |.le,.int i,.int j=>some (decide (i<=j))
 |.gt,.int i,.int j=>some (decide (j<i))
 |.lt,.str x,.str y=>some (decide (x.cps.toList<y.cps.toList))
 |.le,.str x,.str y=>some (!decide (y.cps.toList<x.cps.toList))
 |.eq,a,b=>eqD a b
 |.ne,a,b=>(eqD a b).map (!·)
 |.isin,a,b=>inD a b
 |.notin,a,b=>(inD a b).map (!·)
 |.isN,a,b=>if b=.none then some (decide (a=.none))else none
 |.notN,a,b=>if b=.none then some (!decide (a=.none))else none
 |_,_,_=>none
noncomputable def ph:D->D->Option D
 |.list ds,.int i=>atI ds i
 |.tuple ds,.int i=>atI ds i
 |.scr ns,.int i=>(atI ns i).map .int
 |.str x,.int i=>if x.length<=big then (atI x.cps.toList i).map λc=>.str ⟨#[c]⟩ else none
 |.dict kvs,k=>(fq k).bind (look kvs)
 |_,_=>none
noncomputable def slD(d:D)(lo hi:Option Int):Option D:=
 match d with
 |.list ds=>some (.list (cut ds lo hi))
 |_=>none
noncomputable def lx(T:String):D->Option Bool
 |.none=>some false
 |.bool _=>some (T=="bool"||T=="int")
 |.int _=>some (T=="int")
 |.str _=>some (T=="str")
 |.tuple _=>some (T=="tuple")
 |.list _=>some (T=="list")
 |.dict _=>some (T=="dict")
 |_=>none
noncomputable def strsOf:List D->Option (List Str)
 |[]=>some []
 |.str x::r=>(strsOf r).map (x::·)
 |_::_=>none
noncomputable def pairsOf:List D->Option (List (Sum Int Str×D))
 |[]=>some []
 |.tuple [.int i,d]::r=>(pairsOf r).map ((.inl i,d)::·)
 |.tuple [.str x,d]::r=>(pairsOf r).map ((.inr x,d)::·)
 |_::_=>none
noncomputable def putAll{α:Type}:List (Sum Int Str×α)->List (Sum Int Str×α)->List (Sum Int Str×α)
 |acc,[]=>acc
 |acc,(k,v)::r=>putAll (put acc k v) r
noncomputable def boolsOf:List D->Option (List Bool)
 |[]=>some []
 |.bool b::r=>(boolsOf r).map (b::·)
 |_::_=>none
def ltS(x y:Str):Bool:=decide (x.cps.toList<y.cps.toList)
noncomputable def jM(x:Str):List Str->List Str
 |[]=>[x]
 |y::r=>if x=y then y::r else if ltS x y then x::y::r else y::jM x r
def srtS:List Str->List Str
 |[]=>[]
 |x::r=>jM x (srtS r)
def cv(x:Str):Bool:=x.cps.toList.all λc=>decide (c<0x110000)
noncomputable def mG:List (Sum Int Str×D)->Option (List (Str×Int))
 |[]=>some []
 |(.inr x,.int i)::r=>if cv x then (mG r).map ((x,i)::·)else none
 |_=>none
noncomputable def sP(p:Str×Int):List (Str×Int)->List (Str×Int)
 |[]=>[p]
 |q::r=>if ltS p.1 q.1 then p::q::r else q::sP p r
def ie:List (Str×Int)->List (Str×Int)
 |[]=>[]
 |p::r=>sP p (ie r)
@[simp] noncomputable def qK:D->Option D
 |.dict kvs=>(mG kvs).bind λps=>if ps.length<64 then some (.list ((ie ps).map λq=>.tuple [.str q.1,.int q.2]))else none
 |_=>none
noncomputable def fK:List (Sum Int Str×D)->Option (List Str)
 |[]=>some []
 |(.inr x,_)::r=>if cv x then (fK r).map (x::·)else none
 |_=>none
def GX:Nat:=10000000000000000
def pj(i:Int):Option Str:=if 0<=i/\i.toNat<=GX then some (toString i)else none
def vi:D->Option Str
 |.str x=>some x
 |.int i=>pj i
 |_=>none
noncomputable def fsL:List D->Option Str
 |[]=>some Str.empty
 |d::r=>(vi d).bind λx=>(fsL r).map (x++·)
noncomputable def biD:Bf->List D->Option D
 |.len,[.list ds]=>some (.int ds.length)
 |.len,[.tuple ds]=>some (.int ds.length)
 |.len,[.scr ns]=>some (.int ns.length)
 |.len,[.str x]=>if x.length<=big then some (.int x.length)else none
 |.int,[.int i]=>some (.int i)
 |.int,[.bool b]=>some (.int (if b then 1 else 0))
 |.list,[.list ds]=>some (.list ds)
 |.list,[.tuple ds]=>some (.list ds)
 |.dict,[.list ds]=>(pairsOf ds).map λps=>.dict (putAll [] ps)
 |.str,[.int i]=>(pj i).map .str
 |.tuple,[.list ds]=>if ds.length<=big then some (.tuple ds)else none
 |.all,[.list ds]=>(boolsOf ds).map λbs=>.bool (bs.all id)
 |.srt,[.list ds]=>(strsOf ds).bind λss=>if ss.length<64 then some (.list ((srtS ss).map .str))else none
 |.lzip,[.list xs,.list ys]=>some (.list ((xs.zip ys).map λp=>.tuple [p.1,p.2]))
 |.rvl,[.list ds]=>some (.list ds.reverse)
 |.srtk,[.dict kvs]=>(fK kvs).bind λss=>if ss.length<64/\ss.Nodup then some (.list ((srtS ss).map .str))else none
 |.fst,ds=>(fsL ds).bind λy=>if y.length<=big then some (.str y)else none
 |_,_=>none
noncomputable def meD:Mf->D->List D->Option D
 |.split,.str x,[.str y]=>if (y.length==0)=false/\x.length+2<=big then some (.list ((Txt.split x y).map .str))else none
 |.join,.str x,[.list ds]=>(strsOf ds).bind λys=>if (ys.map (·.length)).sum+ys.length*x.length<=big then some (.str (Txt.join x ys))else none
 |_,_,_=>none
noncomputable def iO:D->Option (List D)
 |.list ds=>some ds
 |.str x=>if x.length<=big then some (x.cps.toList.map λc=>.str ⟨#[c]⟩)else none
 |_=>none
@[simp] noncomputable def zip2:List D->List D->List D
 |a::r,b::q=>.tuple [a,b]::zip2 r q
 |_,_=>[]
@[simp] noncomputable def Kt:List D->List D->List D->List D
 |a::r,b::q,c::p=>.tuple [a,b,c]::Kt r q p
 |_,_,_=>[]
noncomputable def BK:List D->Option (List D)
 |[.list a,.list b]=>if b.length<=a.length then some (zip2 a b)else none
 |_=>none
def bc:D->Bool
 |.list _=>true
 |.dict _=>true
 |.vlt ..=>true
 |_=>false
noncomputable def aW(m:Md):Sl->Option D
 |.dat d=>some d
 |.lent d=>match m with|.val=>if bc d then none else some d|_=>some d
 |.own d=>match m with|.val=>none|.walk=>none|_=>some d
 |_=>none
noncomputable def ar:Tg->D->List Sl->Option (List Sl)
 |.one i,d,Y=>some (Y.set i (.dat d))
 |.tup is,.tuple ds,Y=>if is.length=ds.length then some ((is.zip ds).foldl (λY p=>Y.set p.1 (.dat p.2)) Y)else none
 |_,_,_=>none
def lend:Sl->Sl
 |.own d=>.lent d
 |s=>s
@[simp] noncomputable def blk(nt:Nat)(js:List Nat)(Y:List Sl):List Sl:=List.replicate nt .no++js.map λj=>lend (Y[j]?.getD .no)
noncomputable def aM(f:D->Option (Option D)):List D->Option (List D)
 |[]=>some []
 |d::r=>(f d).bind λo=>(aM f r).map λq=>match o with
  |none=>q
  |some x=>x::q
structure Fn where
 lent:List Bool
 run:List D->Option D
noncomputable abbrev Fs:=Str->Option Fn
def ah(m:Str):Str:=("Vault.":Str)++m
def iP(c:Nat):D->Bool
 |.vlt c' _ _=>c'==c
 |_=>false
def zz:D->List D
 |.vlt _ _ os=>os
 |_=>[]
def Dl(tab:List (Nat×Bool)):D->Option Bool
 |.exc C=>tab.lookup C
 |_=>none
def roM:Md->Option D->Option D
 |.read,o=>o
 |.test,o=>o
 |_,_=>none
noncomputable abbrev E:=Fs->List (Str×D)->Md->List Sl->Option D
inductive Es where
 |nil
 |cons (a:E) (as:Es)
noncomputable abbrev I:=Fs->List (Str×D)->Md->List Sl->Option (List D)
section
variable (Z:Fs)(Γ:List (Str×D))
def ev(m:Md)(Y:List Sl)(e:E):Option D:=e Z Γ m Y
def evI(m:Md)(Y:List Sl)(e:I):Option (List D):=e Z Γ m Y
@[simp] noncomputable def evs(m:Md)(fl:List Bool)(Y:List Sl):Es->Option (List D)
 |.nil=>some []
 |.cons a as=>(ev Z Γ (if fl.headD false then m else .val) Y a).bind λx=>(evs m fl.tail Y as).map (x::·)
@[simp] noncomputable def evC(Y:List Sl):Es->Option Bool
 |.nil=>some true
 |.cons a as=>(ev Z Γ .test Y a).bind asB
@[simp] noncomputable def evP(Y:List Sl):Es->Option (Option Int)
 |.nil=>some none
 |.cons a as=>(ev Z Γ .val Y a).bind λd=>(asI d).map some
end
abbrev Es.A(x:E):Es:=.cons x .nil
abbrev Es.B(x y:E):Es:=.cons x (.A y)
namespace E
@[simp] noncomputable def k(d:D):E|Z,Γ,m,Y=>fin m (some d)
@[simp] noncomputable def v(i:Nat):E|Z,Γ,m,Y=>fin m (Y[i]?.bind (aW m))
@[simp] noncomputable def g(x:Str):E|Z,Γ,m,Y=>fin m (Γ.lookup x)
@[simp] noncomputable def op(o:Op2)(a b:E):E|Z,Γ,m,Y=>fin m ((ev Z Γ .read Y a).bind λx=>(ev Z Γ .read Y b).bind λy=>opD o x y)
@[simp] noncomputable def neg(a:E):E|Z,Γ,m,Y=>fin m ((ev Z Γ .val Y a).bind λd=>(asI d).map λi=>.int (-i))
@[simp] noncomputable def cmp(o:Cop)(a b:E):E|Z,Γ,m,Y=>fin m ((ev Z Γ .read Y a).bind λx=>(ev Z Γ .read Y b).bind λy=>(bQ o x y).map .bool)
@[simp] noncomputable def chain(o o':Cop)(a b c:E):E|Z,Γ,m,Y=>fin m ((ev Z Γ .read Y a).bind λx=>(ev Z Γ .read Y b).bind λy=>(bQ o x y).bind λt=>if t then (ev Z Γ .read Y c).bind λz=>(bQ o' y z).map .bool else some (.bool false))
@[simp] noncomputable def and(a b:E):E|Z,Γ,m,Y=>(ev Z Γ (bm m) Y a).bind λd=>(asB d).bind λt=>if t then ev Z Γ (bm m) Y b else some (.bool false)
@[simp] noncomputable def or(a b:E):E|Z,Γ,m,Y=>(ev Z Γ (bm m) Y a).bind λd=>(asB d).bind λt=>if t then some (.bool true)else ev Z Γ (bm m) Y b
@[simp] noncomputable def not(a:E):E|Z,Γ,m,Y=>(ev Z Γ (bm m) Y a).bind λd=>(asB d).map λt=>.bool (!t)
@[simp] noncomputable def ite(c a b:E):E|Z,Γ,m,Y=>noT m ((ev Z Γ .test Y c).bind λd=>(asB d).bind λt=>if t then ev Z Γ .val Y a else ev Z Γ .val Y b)
@[simp] noncomputable def call(f:Str)(as:Es):E|Z,Γ,m,Y=>fin m ((Z f).bind λJ=>(evs Z Γ .read J.lent Y as).bind J.run)
@[simp] noncomputable def idx(a i:E):E|Z,Γ,m,Y=>fin m ((ev Z Γ .read Y a).bind λx=>(ev Z Γ .val Y i).bind λy=>ph x y)
@[simp] noncomputable def get(a k:E):E|Z,Γ,m,Y=>fin m ((ev Z Γ .read Y a).bind λx=>(ev Z Γ .val Y k).bind λy=>getD x y)
@[simp] noncomputable def srtp(a:E):E|Z,Γ,m,Y=>fin m ((ev Z Γ .read Y a).bind qK)
@[simp] noncomputable def sl(a:E)(lo hi:Es):E|Z,Γ,m,Y=>fin m ((ev Z Γ .read Y a).bind λx=>(evP Z Γ Y lo).bind λy=>(evP Z Γ Y hi).bind λz=>slD x y z)
@[simp] noncomputable def lst(as:Es):E|Z,Γ,m,Y=>fin m ((evs Z Γ .val [] Y as).bind λds=>if ds.length<=1000 then some (.list ds)else none)
@[simp] noncomputable def tup(as:Es):E|Z,Γ,m,Y=>fin m ((evs Z Γ .val [] Y as).bind λds=>if ds.length<=1000 then some (.tuple ds)else none)
@[simp] noncomputable def comp(nt:Nat)(js:List Nat)(tg:Tg)(src:I)(ifs:Es)(elt:E):E|Z,Γ,m,Y=>fin m ((evI Z Γ .read Y src).bind λds=>if ds.length<=big then (aM (λd=>(ar tg d (blk nt js Y)).bind λY'=>(evC Z Γ Y' ifs).bind λt=>if t then (ev Z Γ .val Y' elt).map some else some none) ds).map .list else none)
@[simp] noncomputable def bi(f:Bf)(as:Es):E|Z,Γ,m,Y=>fin m ((evs Z Γ .read [true,true,true] Y as).bind λds=>biD f ds)
@[simp] noncomputable def me(f:Mf)(o:E)(as:Es):E|Z,Γ,m,Y=>fin m ((ev Z Γ .read Y o).bind λx=>(evs Z Γ .read [true,true] Y as).bind λds=>meD f x ds)
@[simp] noncomputable def isi(a:E)(T:String):E|Z,Γ,m,Y=>fin m ((ev Z Γ .read Y a).bind λx=>(lx T x).map .bool)
@[simp] noncomputable def isx(a:E)(c:Nat)(tab:List (Nat×Bool)):E|Z,Γ,m,Y=>fin m ((ev Z Γ .read Y a).bind λx=>(Dl tab x).map .bool)
@[simp] noncomputable def vob(c:Nat)(a:E):E|Z,Γ,m,Y=>roM m (fin m ((ev Z Γ .read Y a).bind λx=>if iP c x then some (.list (zz x))else none))
@[simp] noncomputable def vcall(c:Nat)(f:Str)(o:E)(as:Es):E|Z,Γ,m,Y=>fin m ((ev Z Γ .read Y o).bind λx=>if iP c x then (Z (ah f)).bind λJ=>(evs Z Γ .read J.lent.tail Y as).bind λds=>if J.lent.headD false then J.run (x::ds)else none else none)
end E
namespace I
@[simp] noncomputable def seq(a:E):I|Z,Γ,m,Y=>(ev Z Γ m Y a).bind iO
@[simp] noncomputable def rng(a:E):I|Z,Γ,m,Y=>(ev Z Γ .val Y a).bind λd=>(asI d).bind λn=>if rOk n then some ((List.range n.toNat).map λ(k:Nat)=>.int k)else none
@[simp] noncomputable def revr(a:E):I|Z,Γ,m,Y=>(ev Z Γ .val Y a).bind λd=>(asI d).bind λn=>if rOk n then some ((List.range n.toNat).reverse.map λ(k:Nat)=>.int k)else none
@[simp] noncomputable def zip(as:Es):I|Z,Γ,m,Y=>(evs Z Γ .read [true,true,true] Y as).bind BK
end I
section
variable {Z:Fs}{Γ:List (Str×D)}{m:Md}{Y:List Sl}
@[simp] def e_k{d:D}:ev Z Γ m Y (.k d)=E.k d Z Γ m Y:=(rfl)
@[simp] def e_v :ev Z Γ m Y (.v i)=E.v i Z Γ m Y:=(rfl)
@[simp] def e_g :ev Z Γ m Y (.g x)=E.g x Z Γ m Y:=(rfl)
@[simp] def MW{o:Op2}{a b:E}:ev Z Γ m Y (.op o a b)=E.op o a b Z Γ m Y:=(rfl)
@[simp] def Ma{a:E}:ev Z Γ m Y (.neg a)=E.neg a Z Γ m Y:=(rfl)
@[simp] def Mb{o:Cop}{a b:E}:ev Z Γ m Y (.cmp o a b)=E.cmp o a b Z Γ m Y:=(rfl)
@[simp] def Jd{o o':Cop}{a b c:E}:ev Z Γ m Y (.chain o o' a b c)=E.chain o o' a b c Z Γ m Y:=(rfl)
@[simp] def Mc{a b:E}:ev Z Γ m Y (.and a b)=E.and a b Z Γ m Y:=(rfl)
@[simp] def MX{a b:E}:ev Z Γ m Y (.or a b)=E.or a b Z Γ m Y:=(rfl)
@[simp] def Me{a:E}:ev Z Γ m Y (.not a)=E.not a Z Γ m Y:=(rfl)
@[simp] def Mg{c a b:E}:ev Z Γ m Y (.ite c a b)=E.ite c a b Z Γ m Y:=(rfl)
@[simp] def Ku{f:Str}{as:Es}:ev Z Γ m Y (.call f as)=E.call f as Z Γ m Y:=(rfl)
@[simp] def Mh{a i:E}:ev Z Γ m Y (.idx a i)=E.idx a i Z Γ m Y:=(rfl)
@[simp] def Mi{a k:E}:ev Z Γ m Y (.get a k)=E.get a k Z Γ m Y:=(rfl)
@[simp] def Kv{a:E}:ev Z Γ m Y (.srtp a)=E.srtp a Z Γ m Y:=(rfl)
@[simp] def MY{a:E}{lo hi:Es}:ev Z Γ m Y (.sl a lo hi)=E.sl a lo hi Z Γ m Y:=(rfl)
@[simp] def Mj{as:Es}:ev Z Γ m Y (.lst as)=E.lst as Z Γ m Y:=(rfl)
@[simp] def Ml{as:Es}:ev Z Γ m Y (.tup as)=E.tup as Z Γ m Y:=(rfl)
@[simp] def Kw{nt:Nat}{tg:Tg}{src:I}{ifs:Es}{elt:E}:ev Z Γ m Y (.comp nt js tg src ifs elt)=E.comp nt js tg src ifs elt Z Γ m Y:=(rfl)
@[simp] def MZ{f:Bf}{as:Es}:ev Z Γ m Y (.bi f as)=E.bi f as Z Γ m Y:=(rfl)
@[simp] def Na{f:Mf}{o:E}{as:Es}:ev Z Γ m Y (.me f o as)=E.me f o as Z Γ m Y:=(rfl)
@[simp] def Mm{a:E}:ev Z Γ m Y (.isi a T)=E.isi a T Z Γ m Y:=(rfl)
@[simp] def Mn{a:E}{tab:List (Nat×Bool)}:ev Z Γ m Y (.isx a c tab)=E.isx a c tab Z Γ m Y:=(rfl)
@[simp] def Mo{a:E}:ev Z Γ m Y (.vob c a)=E.vob c a Z Γ m Y:=(rfl)
@[simp] def Je{f:Str}{o:E}{as:Es}:ev Z Γ m Y (.vcall c f o as)=E.vcall c f o as Z Γ m Y:=(rfl)
@[simp] def Mp{a:E}:evI Z Γ m Y (.seq a)=I.seq a Z Γ m Y:=(rfl)
@[simp] def Mq{a:E}:evI Z Γ m Y (.rng a)=I.rng a Z Γ m Y:=(rfl)
@[simp] def Kx{a:E}:evI Z Γ m Y (.revr a)=I.revr a Z Γ m Y:=(rfl)
@[simp] def Mr{as:Es}:evI Z Γ m Y (.zip as)=I.zip as Z Γ m Y:=(rfl)
end
inductive Out where
 |nx (Y:List Sl)
 |rt (d:D)
noncomputable def Out.andThen(o:Out)(f:List Sl->Option Out):Option Out:=match o with
 |.nx Y=>f Y
 |.rt d=>some (.rt d)
def freeze:Sl->Sl
 |.own d=>.dat d
 |s=>s
def frB:Bf->Bool
 |.list=>true
 |.dict=>true
 |_=>false
def frM:Mf->Bool
 |.split=>true
 |_=>false
noncomputable def forL(t:D->List Sl->Option (List Sl))(b:List Sl->Option Out):List D->List Sl->Option Out
 |[],Y=>some (.nx Y)
 |d::r,Y=>(t d Y).bind λY'=>(b Y').bind λo=>o.andThen (forL t b r)
noncomputable abbrev S:=Fs->List (Str×D)->List Sl->Option Out
inductive Ss where
 |nil
 |cons (s:S) (r:Ss)
def ex(Z:Fs)(Γ:List (Str×D))(Y:List Sl)(s:S):Option Out:=s Z Γ Y
@[simp] noncomputable def exs(Z:Fs)(Γ:List (Str×D))(Y:List Sl):Ss->Option Out
 |.nil=>some (.nx Y)
 |.cons s r=>(ex Z Γ Y s).bind λo=>o.andThen λY'=>exs Z Γ Y' r
@[simp] noncomputable def GY(i:Nat)(Y:List Sl)(d:D):Option Out:=match Y[i]? with
 |some (.own (.list ds))=>if ds.length<big then some (.nx (Y.set i (.own (.list (ds++[d])))))else none
 |_=>none
@[simp] noncomputable def Ky(i j:Nat)(Y:List Sl):Option Out:=match Y[i]? with
 |some (.own (.list ds))=>(ds[ds.length-1]?).map λd=>.nx ((Y.set i (.own (.list ds.dropLast))).set j (.dat d))
 |_=>none
@[simp] noncomputable def GZ(i:Nat)(Y:List Sl)(d x:D):Option Out:=match Y[i]?,x with
 |some (.own (.list ds)),.int n=>(ixN ds.length n).map λj=>.nx (Y.set i (.own (.list (ds.set j d))))
 |some (.own (.dict kvs)),x=>(fq x).bind λkey=>if kvs.length<1000 then some (.nx (Y.set i (.own (.dict (put kvs key d)))))else none
 |_,_=>none
@[simp] noncomputable def BL(i:Nat)(Y:List Sl)(x:D):Option Out:=match Y[i]? with
 |some (.own (.dict kvs))=>(fq x).bind λkey=>if (look kvs key).isSome then some (.nx (Y.set i (.own (.dict (dI kvs key)))))else none
 |_=>none
@[simp] noncomputable def vj(i:Nat)(Y:List Sl)(x:D):Option Out:=match Y[i]? with
 |some (.own (.dict kvs))=>(fq x).map λkey=>.nx (Y.set i (.own (.dict (dI kvs key))))
 |_=>none
namespace S
@[simp] noncomputable def dpopd(i:Nat)(k:E):S|Z,Γ,Y=>(ev Z Γ .val Y k).bind λx=>vj i Y x
@[simp] noncomputable def dpop(i:Nat)(k:E):S|Z,Γ,Y=>(ev Z Γ .val Y k).bind λx=>BL i Y x
@[simp] noncomputable def set(i:Nat)(e:E):S|Z,Γ,Y=>(ev Z Γ .val Y e).map λd=>.nx (Y.set i (.dat d))
@[simp] noncomputable def new(i:Nat)(e:E):S|Z,Γ,Y=>(ev Z Γ .val Y e).bind λd=>if bc d then some (.nx (Y.set i (.own d)))else none
@[simp] noncomputable def app(i:Nat)(e:E):S|Z,Γ,Y=>(ev Z Γ .val Y e).bind λd=>GY i Y d
@[simp] noncomputable def pop(i j:Nat):S|Z,Γ,Y=>Ky i j Y
@[simp] noncomputable def seti(i:Nat)(k e:E):S|Z,Γ,Y=>(ev Z Γ .val Y e).bind λd=>(ev Z Γ .val Y k).bind λx=>GZ i Y d x
@[simp] noncomputable def ifs(c:E)(a b:Ss):S|Z,Γ,Y=>(ev Z Γ .test Y c).bind λd=>(asB d).bind λt=>if t then exs Z Γ Y a else exs Z Γ Y b
@[simp] noncomputable def fors(tg:Tg)(src:I)(body:Ss):S|Z,Γ,Y=>(evI Z Γ .walk Y src).bind λds=>forL (ar tg) (λY'=>exs Z Γ Y' body) ds Y
@[simp] noncomputable def ret(e:E):S|Z,Γ,Y=>(ev Z Γ .val (Y.map freeze) e).map .rt
@[simp] noncomputable def pass:S|Z,Γ,Y=>some (.nx Y)
@[simp] noncomputable def stuck:S|Z,Γ,Y=>none
end S
section
variable {Z:Fs}{Γ:List (Str×D)}{Y:List Sl}
@[simp] def Ha{e:E}:ex Z Γ Y (.set i e)=S.set i e Z Γ Y:=(rfl)
@[simp] def Mt{e:E}:ex Z Γ Y (.new i e)=S.new i e Z Γ Y:=(rfl)
@[simp] def Mu{e:E}:ex Z Γ Y (.app i e)=S.app i e Z Γ Y:=(rfl)
@[simp] def Jf{k:E}:ex Z Γ Y (.dpopd i k)=S.dpopd i k Z Γ Y:=(rfl)
@[simp] def Kz{k:E}:ex Z Γ Y (.dpop i k)=S.dpop i k Z Γ Y:=(rfl)
@[simp] def s_pop{j:Nat}:ex Z Γ Y (.pop i j)=S.pop i j Z Γ Y:=(rfl)
@[simp] def KA{k e:E}:ex Z Γ Y (.seti i k e)=S.seti i k e Z Γ Y:=(rfl)
@[simp] def Mv{c:E}{a b:Ss}:ex Z Γ Y (.ifs c a b)=S.ifs c a b Z Γ Y:=(rfl)
@[simp] def KB{tg:Tg}{src:I}{body:Ss}:ex Z Γ Y (.fors tg src body)=S.fors tg src body Z Γ Y:=(rfl)
@[simp] def Mw{e:E}:ex Z Γ Y (.ret e)=S.ret e Z Γ Y:=(rfl)
@[simp] def KC :ex Z Γ Y .pass=S.pass  Z Γ Y:=(rfl)
@[simp] def Jg :ex Z Γ Y .stuck=S.stuck  Z Γ Y:=(rfl)
end
abbrev Ss.A(x:S):Ss:=.cons x .nil
abbrev Ss.B(x y:S):Ss:=.cons x (.A y)
structure Def where
 lent:List Bool
 slots:Nat
 body:Ss
@[simp] noncomputable def cw(d:Def)(ds:List D):List Sl:=(d.lent.zip ds).map (λp=>if p.1 then Sl.lent p.2 else .dat p.2)++List.replicate (d.slots-ds.length) .no
def Out.val:Out->Option D
 |.nx _=>some .none
 |.rt d=>some d
noncomputable def den(prog:List (Str×Def))(Γ:List (Str×D)):Nat->Fs
 |0,_=>none
 |k+1,f=>(prog.lookup f).map λd=>⟨d.lent,λds=>if ds.length=d.lent.length then (exs (den prog Γ k) Γ (cw d ds) d.body).bind Out.val else none⟩
section
variable {d:D}{i j:Int}{y:Str}{ds es:List D}{kvs:List (Sum Int Str×D)}{ns:List Int}{t:Bool}{Y:List Sl}
@[simp] def Hc:asB (.bool b)=some b:=rfl
@[simp] def Jh:asI (.int i)=some i:=rfl
@[simp] def Ji{o:Option D}:fin .val o=o:=rfl
@[simp] def He{o:Option D}:fin .read o=o:=rfl
@[simp] def Jj:bm .test=.test:=rfl
@[simp] def KF:bm .val=.val:=rfl
@[simp] def Jk:bm .read=.val:=rfl
@[simp] def Jl:bm .walk=.val:=rfl
@[simp] def Hf{o:Option D}:fin .walk o=o:=rfl
@[simp] def Hg{o:Option D}:noT .walk o=o:=rfl
@[simp] def Dm:aW .walk (.lent d)=some d:=rfl
@[simp] def Gn:aW .walk (.own d)=none:=rfl
@[simp] def Hh{o:Option D}:fin .test o=o.bind λd=>(fJ d).map .bool:=rfl
@[simp] def Jm{o:Option D}:noT .val o=o:=rfl
@[simp] def Hi{o:Option D}:noT .read o=o:=rfl
@[simp] def Gp:fJ .none=some false:=rfl
@[simp] def Gq:fJ (.bool b)=some b:=rfl
@[simp] def Hj:fJ (.int i)=some (i != 0):=rfl
@[simp] def vk:fJ (.str x)=if x.length<=big then some ((x.length:Int) != 0)else none:=rfl
@[simp] def Do:fJ (.tuple ds)=some (!ds.isEmpty):=rfl
@[simp] def Gr:fJ (.list ds)=some (!ds.isEmpty):=rfl
@[simp] def Gs:fJ (.dict kvs)=some (!kvs.isEmpty):=rfl
@[simp] def Hk:fJ (.scr ns)=some (!ns.isEmpty):=rfl
@[simp] def Jn:opD .add (.int i) (.int j)=some (.int (i+j)):=rfl
@[simp] def zA:opD .add (.str x) (.str y)=if x.length+y.length<=big then some (.str (x++y))else none:=rfl
@[simp] def zB:opD .add (.list ds) (.list es)=if ds.length+es.length<=big then some (.list (ds++es))else none:=rfl
@[simp] def Jo:opD .sub (.int i) (.int j)=some (.int (i-j)):=rfl
@[simp] def qL:opD .mul (.int i) (.int j)=if pf i j then some (.int (i*j))else none:=rfl
@[simp] def zC:opD .mul (.list ds) (.int j)=if vh ds.length j then some (.list (List.replicate j.toNat ds).flatten)else none:=rfl
@[simp] def zD:opD .mul (.str x) (.int j)=if -1000<=j/\j<=1000/\x.length<=1000 then some (.str ⟨((List.replicate j.toNat x.cps.toList).flatten).toArray⟩)else none:=rfl
@[simp] def zE:opD .mod (.int i) (.int j)=if 0<j then some (.int (i % j))else none:=rfl
@[simp] def zF:opD .fdiv (.int i) (.int j)=if 0<j/\j<1073741824 then some (.int (i / j))else none:=rfl
@[simp] def Jp:bQ .lt (.int i) (.int j)=some (decide (i<j)):=rfl
@[simp] def Jq:bQ .le (.int i) (.int j)=some (decide (i<=j)):=rfl
@[simp] def Jr:bQ .gt (.int i) (.int j)=some (decide (j<i)):=rfl
@[simp] def Js:bQ .lt (.str x) (.str y)=some (decide (x.cps.toList<y.cps.toList)):=rfl
@[simp] def Jt:bQ .le (.str x) (.str y)=some (!decide (y.cps.toList<x.cps.toList)):=rfl
@[simp] def Dq{a b:D}:bQ .eq a b=eqD a b:=by cases a<;>rfl
@[simp] def Ds{a b:D}:bQ .ne a b=(eqD a b).map (!·):=by cases a<;>rfl
@[simp] def Dt{a b:D}:bQ .isin a b=inD a b:=by cases a<;>rfl
@[simp] def sQ{a b:D}:bQ .notin a b=(inD a b).map (!·):=by cases a<;>rfl
@[simp] def Ju{a:D}:bQ .isN a .none=some (decide (a=.none)):=by cases a<;>exact if_pos rfl
@[simp] def Hl{a:D}:bQ .notN a .none=some (!decide (a=.none)):=by cases a<;>exact if_pos rfl
@[simp] def eq_int:eqD (.int i) (.int j)=some (decide (i=j)):=by
 show (if true then some (decide (D.int i=D.int j))else _)=_;rw[if_pos rfl]
 congr 1
 by_cases h:i=j
 .subst h;simp
 .rw[df0 h,df0 λq=>h (D.int.inj q)]
@[simp] def eq_str:eqD (.str x) (.str y)=some (decide (x=y)):=by
 show (if true then some (decide (D.str x=D.str y))else _)=_;rw[if_pos rfl]
 congr 1
 by_cases h:x=y
 .subst h;simp
 .rw[df0 h,df0 λq=>h (D.str.inj q)]
def mH{a b:D}(h1:okS 20 a=true)(h2:okS 20 b=true):eqD a b=some (decide (a=b)):=by
 unfold eqD;rw[h1,h2];rfl
@[simp] def Hm:ph (.list ds) (.int i)=atI ds i:=rfl
@[simp] def Gu:ph (.tuple ds) (.int i)=atI ds i:=rfl
@[simp] def Jv:ph (.scr ns) (.int i)=(atI ns i).map .int:=rfl
@[simp] def Hn{kvs:List (Sum Int Str×D)}{d:D}:ph (.dict kvs) d=(fq d).bind (look kvs):=rfl
@[simp] def zG:ph (.str x) (.int i)=if x.length<=big then (atI x.cps.toList i).map λc=>.str ⟨#[c]⟩ else none:=rfl
@[simp] def Jw:fq (.int i)=some (.inl i):=rfl
@[simp] def Jx:fq (.str x)=some (.inr x):=rfl
@[simp] def qG{l h:Option Int}:slD (.list ds) l h=some (.list (cut ds l h)):=rfl
@[simp] def len_list:biD .len [.list ds]=some (.int ds.length):=rfl
@[simp] def len_tuple:biD .len [.tuple ds]=some (.int ds.length):=rfl
@[simp] def Jy:biD .len [.scr ns]=some (.int ns.length):=rfl
@[simp] def len_str:biD .len [.str x]=if x.length<=big then some (.int x.length)else none:=rfl
@[simp] def int_int:biD .int [.int i]=some (.int i):=rfl
@[simp] def int_bool:biD .int [.bool b]=some (.int (if b then 1 else 0)):=rfl
@[simp] def list_list:biD .list [.list ds]=some (.list ds):=rfl
@[simp] def list_tuple:biD .list [.tuple ds]=some (.list ds):=rfl
@[simp] def dict_list:biD .dict [.list ds]=(pairsOf ds).map λps=>.dict (putAll [] ps):=rfl
@[simp] def str_int:biD .str [.int i]=(pj i).map .str:=rfl
@[simp] def tuple_list:biD .tuple [.list ds]=if ds.length<=big then some (.tuple ds)else none:=rfl
@[simp] def Ho:biD .all [.list ds]=(boolsOf ds).map λbs=>.bool (bs.all id):=rfl
@[simp] def Gv{l:List Bool}:boolsOf (l.map .bool)=some l:=by
 induction l with
 |nil=>rfl
 |cons a r ih=>show (boolsOf (r.map .bool)).map (a::·)=_;rw[ih];rfl
@[simp] def vo:meD .split (.str x) [.str y]=if (y.length==0)=false/\x.length+2<=big then some (.list ((Txt.split x y).map .str))else none:=rfl
@[simp] def Jz:meD .join (.str x) [.list ds]=(strsOf ds).bind λys=>if (ys.map (·.length)).sum+ys.length*x.length<=big then some (.str (Txt.join x ys))else none:=rfl
@[simp] def Du:iO (.list ds)=some ds:=rfl
@[simp] def items_str:iO (.str x)=if x.length<=big then some (x.cps.toList.map λc=>.str ⟨#[c]⟩)else none:=rfl
@[simp] def zH{a b:List D}:BK [.list a,.list b]=if b.length<=a.length then some (zip2 a b)else none:=rfl
@[simp] def iQ:bc (.list ds)=true:=rfl
@[simp] def fL:bc (.dict kvs)=true:=rfl
@[simp] def JA:bc (.int i)=false:=rfl
@[simp] def JB:bc (.str x)=false:=rfl
@[simp] def Hq:bc (.bool b)=false:=rfl
@[simp] def Hr:bc .none=false:=rfl
@[simp] def Gw:bc (.tuple ds)=false:=rfl
@[simp] def JC:bc (.scr ns)=false:=rfl
@[simp] def Ht{m:Md}:aW m (.dat d)=some d:=rfl
@[simp] def pq:aW .val (.lent d)=if bc d then none else some d:=rfl
@[simp] def Dv:aW .read (.lent d)=some d:=rfl
@[simp] def Dw:aW .test (.lent d)=some d:=rfl
@[simp] def Gx:aW .val (.own d)=none:=rfl
@[simp] def Gy:aW .read (.own d)=some d:=rfl
@[simp] def Gz:aW .test (.own d)=some d:=rfl
@[simp] def Hu{i:Nat}:ar (.one i) d Y=some (Y.set i (.dat d)):=rfl
@[simp] def gE{is:List Nat}:ar (.tup is) (.tuple ds) Y=if is.length=ds.length then some ((is.zip ds).foldl (λY p=>Y.set p.1 (.dat p.2)) Y)else none:=rfl
@[simp] def mI:lend (.own d)=.lent d:=rfl
@[simp] def Hv:lend (.dat d)=.dat d:=rfl
@[simp] def GA:lend (.lent d)=.lent d:=rfl
@[simp] def JD:lend .no=.no:=rfl
@[simp] def JE{f:List Sl->Option Out}:(Out.nx Y).andThen f=f Y:=rfl
@[simp] def JF{f:List Sl->Option Out}:(Out.rt d).andThen f=some (.rt d):=rfl
@[simp] def KG:(Out.nx Y).val=some .none:=rfl
@[simp] def KH:(Out.rt d).val=some d:=rfl
@[simp] def Dx:freeze (.own d)=.dat d:=rfl
@[simp] def Dy:freeze (.dat d)=.dat d:=rfl
@[simp] def BN:freeze (.lent d)=.lent d:=rfl
@[simp] def GB:freeze .no=.no:=rfl
@[simp] def Hw :lx T (.list ds)=some (T=="list"):=rfl
@[simp] def GC :lx T (.tuple ds)=some (T=="tuple"):=rfl
@[simp] def JG :lx T (.int i)=some (T=="int"):=rfl
@[simp] def JH :lx T (.str x)=some (T=="str"):=rfl
@[simp] def Hx :lx T (.bool b)=some (T=="bool"||T=="int"):=rfl
@[simp] def Hy :lx T .none=some false:=rfl
end
def pw{d:D}{i:Int}(h:asI d=some i):d=.int i:=by
 cases d with
 |int=>cases h;rfl
 |_=>cases h
def pA{d:D}(h:asB d=some b):d=.bool b:=by
 cases d with
 |bool=>cases h;rfl
 |_=>cases h
def mJ{d:D}(h:iP c d=true):∃n os,d=.vlt c n os:=by
 cases d with
 |vlt=>cases eq_of_beq h;exact⟨_,_,rfl⟩
 |_=>cases h
def zI{tab:List (Nat×Bool)}{d:D}(h:Dl tab d=some b):∃e,d=.exc e:=by
 cases d with
 |exc e=>exact⟨e,rfl⟩
 |_=>cases h
end SI
end
section
variable {α β:Type}{K:fg0}{G' G0 G1 H H' H0 Hb:L2.Hp}{d d1 d2 d3:SI.D}{ds ls ms out:List SI.D}{vs:List L2.V}{ep i j n t':Nat}{σ:L2.St}{Y Y' Y1:List SI.Sl}{fl lent:List Bool}{X:L2.Cx}{a b c elt iter o tg:PySem.Expr}{apos cpos np p1 p2 pos pos' px spos tpos:PySem.Pos}{m qual x y:PySem.Str}{elts es r ts:List PySem.Expr}{na t:Bool}{pins pins' pn:List (PySem.Addr×PySem.Obj)}{s s':PySem.Shared}{us:List PySem.Value}{P prog:PySem.Program}{w:PySem.World}{items xs:Array PySem.Value}{base h h':PySem.Heap}{ea f l l1 l2 q:PySem.Addr}{E' Q:PySem.Value->PySem.Shared->Prop}{as fp ps:List PySem.Addr}{key:L2.Key}{tk:PySem.Tok}{T:String}{env:PySem.Env}{N cst fns tn vms:List PySem.Str}{js:List Nat}{Z:SI.Fs}{Γ:List (PySem.Str×SI.D)}{sc scope:PySem.Scope}{st:PySem.Stmt}{body body2:List PySem.Stmt}{mg:PySem.Str->Option PySem.Value}{fd:PySem.FuncData}
namespace SI
open PySem
structure Cs where
 N:List Str
 sc:Scope
 fns:List Str
 cst:List Str
 mts:List Nat
 dp:List Nat
 vc:Option Nat:=none
 vms:List Str:=[]
 xcs:List (Str×Nat×List (Nat×Bool)):=[]
def aR(C:Cs)(x:Str)(k:NameKind):Bool:=C.sc.names.lookup x==some k
noncomputable def bj(x:Str):Bool:=!(x==("__debug__":Str))&&!(x==("__classdict__":Str))&&!(x==("__name__":Str))
noncomputable def dJ(C:Cs)(x:Str):Option Nat:=
 match C.N.idxOf? x with
 |some i=>if (aR C x .local||aR C x .cell||aR C x .free)&&bj x then some i else none
 |none=>none
noncomputable def eU(C:Cs)(x:Str):Option Nat:=
 match C.N.idxOf? x with
 |some i=>if (aR C x .local||aR C x .cell)&&bj x then some i else none
 |none=>none
def aq(C:Cs)(x:Str):Bool:=aR C x .globalImplicit&&bj x
noncomputable def cOp:Operator->Option Op2
 |.Add=>some .add
 |.Sub=>some .sub
 |.Mult=>some .mul
 |.Mod=>some .mod
 |.FloorDiv=>some .fdiv
 |_=>none
noncomputable def iR:CmpOp->Option Cop
 |.Lt=>some .lt
 |.LtE=>some .le
 |.Gt=>some .gt
 |.GtE=>none
 |.Eq=>some .eq
 |.NotEq=>some .ne
 |.In=>some .isin
 |.NotIn=>some .notin
 |.Is=>some .isN
 |.IsNot=>some .notN
def isSet:Expr->Bool
 |.Set ..=>true
 |_=>false
def isSlice:Expr->Bool
 |.Slice ..=>true
 |_=>false
def isStar:Expr->Bool
 |.Starred ..=>true
 |_=>false
noncomputable def ka(x:Str):Option Bf:=
 if x=("len":Str)then some .len else if x=("int":Str)then some .int
 else if x=("list":Str)then some .list else if x=("str":Str)then some .str else if x=("tuple":Str)then some .tuple else if x=("all":Str)then some .all else none
noncomputable def qM(x:Str):Option Mf:=
 if x=("split":Str)then some .split else if x=("join":Str)then some .join else none
noncomputable def pB(x:Str):Option String:=
 if x=("int":Str)then some "int" else if x=("str":Str)then some "str" else if x=("list":Str)then some "list" else if x=("tuple":Str)then some "tuple" else if x=("bool":Str)then some "bool" else none
def aJ:Expr->Bool
 |.Call (.Name id _) [] [] _=>id==("super":Str)
 |_=>false
noncomputable def slots(C:Cs):List Expr->Option (List Nat)
 |[]=>some []
 |.Name x _::r=>(eU C x).bind λi=>(slots C r).map (i::·)
 |_::_=>none
noncomputable def cTg(C:Cs):Expr->Option Tg
 |.Name x _=>(eU C x).map .one
 |.Tuple es _ _=>(slots C es).map .tup
 |_=>none
noncomputable def bp:Expr->List Str
 |.Name x _=>[x]
 |.Tuple es _ _=>es.filterMap fun|.Name x _=>some x|_=>none
 |_=>[]
def mK:Tg->Nat->Bool
 |.one i,n=>decide (i<n)
 |.tup is,n=>is.all λi=>decide (i<n)
noncomputable def freeOf(sc:Scope):List Str:=sc.names.filterMap λ(x,k)=>if k==.free then some x else none
noncomputable def pC(N:List Str):List Str->Option (List Nat)
 |[]=>some []
 |x::r=>(N.idxOf? x).bind λi=>(pC N r).map (i::·)
noncomputable def BO(C:Cs)(sc:Scope)(tn:List Str):Bool:=
 sc.kind==.function&&
 sc.names.all (λy=>(y.2 != .free||aR C y.1 .cell)&&y.2 != .cell&&(y.2 != .local||sc.names.lookup y.1==some .local))&&
 tn.all (λx=>sc.names.lookup x==some .local)&&
 (freeOf sc).all (λx=>sc.names.lookup x==some .free)&&
 decide ((tn++freeOf sc).Nodup)
noncomputable def zJ(C:Cs)(sc:Scope)(tg:Expr):Option (Cs×Nat×List Nat):=
 if BO C sc (bp tg)then (pC C.N (freeOf sc)).map λjs=>({C with N:=bp tg++freeOf sc,sc:=sc,mts:=[],dp:=[]},(bp tg).length,js)else none
def nn{p:Prop}{z:α}(h:none=some z):p:=nomatch h
noncomputable def dq:Expr->Bool
 |.ListComp ..=>true
 |.SetComp ..=>true
 |.DictComp ..=>true
 |_=>false
noncomputable def chk{α:Type}:(b:Bool)->(b=true->Option α)->Option α
 |true,f=>f rfl
 |false,_=>none
noncomputable def got{α β:Type}:(o:Option α)->((a:α)->o=some a->Option β)->Option β
 |some a,f=>f a rfl
 |none,_=>none
def eqS{α:Type}(x y:Str)(f:x=y->Option α):Option α:=if h:x=y then f h else none
noncomputable def BP(m:Str):Bool:=m=("append":Str)||m=("extend":Str)||m=("reverse":Str)||m=("clear":Str)||m=("pop":Str)
mutual
noncomputable def KI:Nat->Stmt->List (Str×Bool)
 |0,_=>[]
 |n+1,s=>match s with
  |.Assign [.Name _ _] (.Call (.Attribute (.Name x _) m _) [] [] _) _=>if BP m then [(x,false)] else []
  |.Assign [.Subscript (.Name x _) _ _] _ _=>[(x,false)]
  |.Assign [.Subscript (.Subscript (.Name x _) _ _) _ _] _ _=>[(x,true)]
  |.Expr (.Call (.Attribute (.Name x _) m _) _ [] _) _=>if BP m then [(x,false)] else []
  |.If _ a b _=>kc n a++kc n b
  |.For _ _ b _ _=>kc n b
  |.While _ b _ _=>kc n b
  |_=>[]
noncomputable def kc:Nat->List Stmt->List (Str×Bool)
 |0,_=>[]
 |n+1,[]=>[]
 |n+1,s::r=>KI n s++kc n r
end
noncomputable def ao(sc:Scope)(ps:List Str):List Str:=sc.names.filterMap λ(x,k)=>if (k==.local||k==.cell)&&!ps.contains x then some x else none
noncomputable def aT:Stmt->Option (List Str×List Stmt×Scope)
 |.FunctionDef _ args body _ _ _ sc _ _ _=>some (args.args.map (·.arg),body,sc)
 |_=>none
noncomputable def mL(fns cst:List Str)(ps:List Str)(body:List Stmt)(sc:Scope)(vc:Option Nat:=none)(vms:List Str:=[])(xcs:List (Str×Nat×List (Nat×Bool)):=[]):Cs:=
 let N:=ps++ao sc ps
 let ms:=kc 60 body
 {N,sc,fns,cst,vc,vms,xcs,mts:=ms.filterMap λ(x,d)=>if d then none else N.idxOf? x,dp:=ms.filterMap λ(x,d)=>if d then N.idxOf? x else none}
end SI
namespace L2.Z
open PySem PySem.Spec PyProof.Rows L2 L2.C SI
noncomputable abbrev Fg:=fg0
noncomputable def vfs(l n:Addr)(h:Nat):List (Str×V):=[("objects",.ref l),("numbers",.ref n),("objects",.int h)]
def ExcAt(a C:Addr):Heap->Prop:=λh=>∃o,h.get? a=some o/\o.cls=.ref C
mutual
inductive Dp (K:Fg)(H:Hp):D->V->Prop
 |none:Dp K H .none .non
 |bool (b:Bool):Dp K H (.bool b) (.bl b)
 |int (i:Int):Dp K H (.int i) (.int i)
 |str (x:Str):PyData.strOk x=true->Dp K H (.str x) (.str x)
 |tuple {a:Addr}{vs:List V}{ds:List D}:H a=some (.tup vs)->Dps K H ds vs->Dp K H (.tuple ds) (.ref a)
 |list {a:Addr}{vs:List V}{ds:List D}:H a=some (.lst vs)->Dps K H ds vs->Dp K H (.list ds) (.ref a)
 |dict {a:Addr}{kvs:List (Key×D)}{ws:List (Key×V)}:H a=some (.dK ws)->Dks K H kvs ws->Dp K H (.dict kvs) (.ref a)
 |scr {a:Addr}{ns:List Int}:SqL K H a (ns.map V.int)->Dp K H (.scr ns) (.ref a)
 |hdl {a C dx l n:Addr}{h:Nat}:H a=some (.ins C dx (vfs l n h))->Dp K H (.hdl h) (.ref a)
 |exc {a:Addr}{C:Nat}:H a=some (.ext (ExcAt a C))->Dp K H (.exc C) (.ref a)
 |fn (a:Addr):Dp K H (.fn a) (.ref a)
inductive Dps (K:Fg)(H:Hp):List D->List V->Prop
 |nil:Dps K H [] []
 |cons {d:D}{v:V}{ds:List D}{vs:List V}:Dp K H d v->Dps K H ds vs->Dps K H (d::ds) (v::vs)
inductive Dks (K:Fg)(H:Hp):List (Key×D)->List (Key×V)->Prop
 |nil:Dks K H [] []
 |cons {k:Key}{d:D}{v:V}{ds:List (Key×D)}{vs:List (Key×V)}:Dp K H d v->Dks K H ds vs->Dks K H ((k,d)::ds) ((k,v)::vs)
end
section
variable {G:Hp}
def Dp.mono(e:Same G G'){v:V}(x:Dp K G d v):Dp K G' d v:=Dp.rec (motive_1:=λd v a=>Dp K G' d v) (motive_2:=λds vs a=>Dps K G' ds vs) (motive_3:=λds vs a=>Dks K G' ds vs) .none .bool .int .str (λh a r=>.tuple (e _ _ h) r) (λh a r=>.list (e _ _ h) r) (λh a r=>.dict (e _ _ h) r) (λh=>.scr (e.seq h)) (λh=>.hdl (e _ _ h)) (λh=>.exc (e _ _ h)) .fn .nil (λa a=>.cons) .nil (λa a=>.cons) x
def Dps.mono(e:Same G G')(x:Dps K G ds vs):Dps K G' ds vs:=Dps.rec (motive_1:=λd v a=>Dp K G' d v) (motive_2:=λds vs a=>Dps K G' ds vs) (motive_3:=λds vs a=>Dks K G' ds vs) .none .bool .int .str (λh a r=>.tuple (e _ _ h) r) (λh a r=>.list (e _ _ h) r) (λh a r=>.dict (e _ _ h) r) (λh=>.scr (e.seq h)) (λh=>.hdl (e _ _ h)) (λh=>.exc (e _ _ h)) .fn .nil (λa a=>.cons) .nil (λa a=>.cons) x
def Dks.mono(e:Same G G'){ds:List (Key×D)}{vs:List (Key×V)}(x:Dks K G ds vs):Dks K G' ds vs:=Dks.rec (motive_1:=λd v a=>Dp K G' d v) (motive_2:=λds vs a=>Dps K G' ds vs) (motive_3:=λds vs a=>Dks K G' ds vs) .none .bool .int .str (λh a r=>.tuple (e _ _ h) r) (λh a r=>.list (e _ _ h) r) (λh a r=>.dict (e _ _ h) r) (λh=>.scr (e.seq h)) (λh=>.hdl (e _ _ h)) (λh=>.exc (e _ _ h)) .fn .nil (λa a=>.cons) .nil (λa a=>.cons) x
theorem Dps.length(h:Dps K G ds vs):ds.length=vs.length:=by
 induction vs generalizing ds with
 |nil=>cases h;rfl
 |cons v vs ih=>cases h with|cons _ r=>rw[lc0,lc0,ih r]
theorem Dks.length{ds:List (Key×D)}{vs:List (Key×V)}(h:Dks K G ds vs):ds.length=vs.length:=by
 induction vs generalizing ds with
 |nil=>cases h;rfl
 |cons v vs ih=>cases h with|cons _ r=>rw[lc0,lc0,ih r]
def Dps.get{k:Nat}(h:Dps K G ds vs)(e:ds[k]?=some d):∃v,vs[k]?=some v/\Dp K G d v:=by
 induction vs generalizing ds k with
 |nil=>cases h;simp at e
 |cons v vs ih=>
  cases h with
  |cons h r=>
   cases k with
   |zero=>simp at e;subst e;exact⟨v,rfl,h⟩
   |succ k=>simpa using ih r (by simpa using e)
def Dps.append{ds es}{vs us}(h:Dps K G ds vs)(q:Dps K G es us):Dps K G (ds++es) (vs++us):=by
 induction vs generalizing ds with
 |nil=>cases h;exact q
 |cons v vs ih=>cases h with|cons h r=>exact .cons h (ih r)
def Dps.one{v:V}(h:Dp K G d v):Dps K G [d] [v]:=.cons h .nil
theorem Dps.take(n:Nat)(h:Dps K G ds vs):Dps K G (ds.take n) (vs.take n):=by
 induction vs generalizing ds n with
 |nil=>cases h;simpa using Dps.nil
 |cons v vs ih=>
  cases h with
  |cons h r=>
   cases n with
   |zero=>simpa using Dps.nil
   |succ n=>simpa using Dps.cons h (ih n r)
theorem Dps.drop(n:Nat)(h:Dps K G ds vs):Dps K G (ds.drop n) (vs.drop n):=by
 induction vs generalizing ds n with
 |nil=>cases h;simpa using Dps.nil
 |cons v vs ih=>
  cases h with
  |cons h r=>
   cases n with
   |zero=>simpa using Dps.cons h r
   |succ n=>simpa using ih n r
theorem Dps.set{v:V}(hd:Dp K G d v)(n:Nat)(h:Dps K G ds vs):Dps K G (ds.set n d) (vs.set n v):=by
 induction vs generalizing ds n with
 |nil=>cases h;simpa using Dps.nil
 |cons u vs ih=>
  cases h with
  |cons h r=>
   cases n with
   |zero=>simpa using Dps.cons hd r
   |succ n=>simpa using Dps.cons h (ih n r)
theorem Dps.rep(h:Dps K G ds vs):∀k:Nat,Dps K G (List.replicate k ds).flatten (List.replicate k vs).flatten
 |0=>.nil
 |k+1=>by
  rw[List.replicate_succ,List.replicate_succ,List.flatten_cons,List.flatten_cons];exact h.append (Dps.rep h k)
def vp{α}(xs:List α)(i:Int):SI.atI xs i=L2.atI xs i:=rfl
def vq(n d:Nat)(o:Option Int):SI.sIx n d o=HT.sIx n d o:=by cases o<;>rfl
theorem Dps.atI{i:Int}(h:Dps K G ds vs)(e:SI.atI ds i=some d):∃v,L2.atI vs i=some v/\Dp K G d v:=by
 rw[vp]at e;unfold L2.atI at e ⊢;rw[<-h.length];cases q:L2.ixN ds.length i with
 |none=>rw[q]at e;cases e
 |some j=>
  rw[q]at e;exact h.get (show ds[j]?=some d from e)
theorem Dps.cut(h:Dps K G ds vs)(lo hi:Option Int):Dps K G (SI.cut ds lo hi) (L2.sI vs lo hi):=by
 unfold SI.cut L2.sI;rw[vq,vq,h.length];exact (h.drop _).take _
end
structure Ext(G H G' H':Hp):Prop where
 hh:Same H H'
 gg:Same G G'
 gh:Same G' H'
 nw:∀b o,G b=Option.none->H b=some o->G' b=Option.none
 ni:∀b C dx fs,H' b=some (.ins C dx fs)->H b=some (.ins C dx fs)
theorem Ext.refl{G H}(h:Same G H):Ext G H G H:=⟨Same.refl _,Same.refl _,h,λa a h a=>h,λa a a a h=>h⟩
def notIns:HO->Bool
 |.ins ..=>false
 |_=>true
def cy{p:Addr}{o:HO}(h:notIns o=true):∀b C dx fs,upd H p o b=some (.ins C dx fs)->H b=some (.ins C dx fs):=λb C dx fs e=>by
 by_cases z:b=p
 .subst z;rw[ae]at e;cases e;cases h
 .rw[aa z]at e;exact e
theorem Ext.trans{G H G1 H1 G2 H2}(a:Ext G H G1 H1)(b:Ext G1 H1 G2 H2):Ext G H G2 H2:=
 ⟨a.hh.trans b.hh,a.gg.trans b.gg,b.gh,λc o h1 h2=>b.nw c o (a.nw c o h1 h2) (a.hh c o h2),λc C dx fs h=>a.ni c C dx fs (b.ni c C dx fs h)⟩
def aF{p:Addr}{o:HO}(h:H p=.none):Same H (upd H p o):=λb u e=>by
 rw[aa (ai e h)];exact e
def Ext.laid{G:Hp}{p:Addr}{o:HO}(h:Same G H)(hp:H p=.none)(hi:notIns o=true:=by rfl):Ext G H (upd G p o) (upd H p o):=
 ⟨aF hp,aF (h.free hp),λb u e=>by
  by_cases q:b=p
  .subst q;rw[ae]at e ⊢;exact e
  .rw[aa q]at e ⊢;exact h b u e,λb u e1 e2=>by
  rw[aa (ai e2 hp)];exact e1,cy hi⟩
def Ext.hid{G H}{p:Addr}{o:HO}(h:Same G H)(hp:H p=.none)(hi:notIns o=true:=by rfl):Ext G H G (upd H p o):=
 ⟨aF hp,Same.refl _,h.trans (aF hp),λa a e a=>e,cy hi⟩
def Ext.show{G:Hp}{p:Addr}{o:HO}(e:Ext G H G' H')(hp:H p=.none)(hp':H' p=some o)(hg:G' p=.none):Ext G H (upd G' p o) H':=
 ⟨e.hh,e.gg.trans (aF hg),λb u q=>by
  by_cases z:b=p
  .subst z;rw[ae]at q;cases q;exact hp'
  .rw[aa z]at q;exact e.gh b u q,λb u e1 e2=>by
  rw[aa (ai e2 hp)];exact e.nw b u e1 e2,e.ni⟩
inductive Dr (K:Fg)(G H:Hp):D->V->Prop
 |of {d:D}{v:V}:Dp K G d v->Dr K G H d v
 |list {a:Addr}{vs:List V}{ds:List D}:H a=some (.lst vs)->Dps K G ds vs->Dr K G H (.list ds) (.ref a)
 |dict {a:Addr}{kvs:List (Key×D)}{ws:List (Key×V)}:H a=some (.dK ws)->Dks K G kvs ws->Dr K G H (.dict kvs) (.ref a)
 |vlt {C a dx l n:Addr}{h:Nat}{as:List Addr}{objs:List D}:H a=some (.ins C dx (vfs l n h))->H l=some (.lst (as.map .ref))->Dps K G objs (as.map .ref)->Dr K G H (.vlt C h objs) (.ref a)
section
variable {G:Hp}{v:V}
def Dr.ext(e:Ext G H G' H'):Dr K G H d v->Dr K G' H' d v
 |.of h=>.of (h.mono e.gg)
 |.list h r=>.list (e.hh _ _ h) (r.mono e.gg)
 |.dict h r=>.dict (e.hh _ _ h) (r.mono e.gg)
 |.vlt h1 h2 r=>.vlt (e.hh _ _ h1) (e.hh _ _ h2) (r.mono e.gg)
theorem Dr.none(h:Dr K G H .none v):v=.non:=by cases h with|of h=>cases h;rfl
theorem Dr.bool{b}(h:Dr K G H (.bool b) v):v=.bl b:=by cases h with|of h=>cases h;rfl
theorem Dr.int{i}(h:Dr K G H (.int i) v):v=.int i:=by cases h with|of h=>cases h;rfl
theorem Dr.str{x}(h:Dr K G H (.str x) v):v=.str x/\PyData.strOk x=true:=by cases h with|of h=>cases h with|str _ o=>exact⟨rfl,o⟩
theorem Dr.lst(s:Same G H)(h:Dr K G H (.list ds) v):∃a vs,v=.ref a/\H a=some (.lst vs)/\Dps K G ds vs:=by
 cases h with
 |of h=>cases h with|list h r=>exact⟨_,_,rfl,s _ _ h,r⟩
 |list h r=>exact⟨_,_,rfl,h,r⟩
def Dr.dct{ds:List (Key×D)}(s:Same G H)(h:Dr K G H (.dict ds) v):∃a vs,v=.ref a/\H a=some (.dK vs)/\Dks K G ds vs:=by
 cases h with
 |of h=>cases h with|dict h r=>exact⟨_,_,rfl,s _ _ h,r⟩
 |dict h r=>exact⟨_,_,rfl,h,r⟩
theorem Dr.tup(s:Same G H)(h:Dr K G H (.tuple ds) v):∃a vs,v=.ref a/\H a=some (.tup vs)/\Dps K G ds vs:=by
 cases h with|of h=>cases h with|tuple h r=>exact⟨_,_,rfl,s _ _ h,r⟩
theorem Dr.scr{ns}(s:Same G H)(h:Dr K G H (.scr ns) v):∃a,v=.ref a/\SqL K H a (ns.map V.int):=by
 cases h with|of h=>cases h with|scr h=>exact⟨_,rfl,s.seq h⟩
def Dr.dp(h:Dr K G H d v)(o:bc d=false):Dp K G d v:=by
 cases h with
 |of h=>exact h
 |list=>cases o
 |dict=>cases o
 |vlt=>cases o
end
def OwnAt(K:Fg)(G H:Hp)(d:D)(p:Addr):Prop:=(∃ds vs,d=.list ds/\H p=some (.lst vs)/\Dps K G ds vs)\/∃kvs ws,d=.dict kvs/\H p=some (.dK ws)/\Dks K G kvs ws
structure EnvD(K:Fg)(G0 H0 G H:Hp)(σ:St)(Y:List Sl):Prop where
 ext:Ext G0 H0 G H
 len:σ.length=Y.length
 dat:∀(i:Nat) d,Y[i]?=some (.dat d)->∃v,σ[i]?=some (some v)/\Dp K G d v
 lent:∀(i:Nat) d,Y[i]?=some (.lent d)->∃v,σ[i]?=some (some v)/\Dr K G0 H0 d v
 own:∀(i:Nat) d,Y[i]?=some (.own d)->∃p,σ[i]?=some (some (.ref p))/\G p=Option.none/\H0 p=Option.none/\OwnAt K G H d p
 apart:∀(i j:Nat) d e p,Y[i]?=some (.own d)->Y[j]?=some (.own e)->σ[i]?=some (some (.ref p))->σ[j]?=some (some (.ref p))->i=j
section
variable {G:Hp}
def OwnAt.ext{p:Addr}(e:Ext G H G' H'):OwnAt K G H d p->OwnAt K G' H' d p
 |.inl ⟨ds,vs,h1,h2,h3⟩=>.inl ⟨ds,vs,h1,e.hh _ _ h2,h3.mono e.gg⟩
 |.inr ⟨ds,vs,h1,h2,h3⟩=>.inr ⟨ds,vs,h1,e.hh _ _ h2,h3.mono e.gg⟩
def OwnAt.dr{p:Addr}:OwnAt K G H d p->Dr K G H d (.ref p)
 |.inl ⟨ds,vs,h1,h2,h3⟩=>by rw[h1];exact .list h2 h3
 |.inr ⟨ds,vs,h1,h2,h3⟩=>by rw[h1];exact .dict h2 h3
theorem OwnAt.some{p:Addr}:OwnAt K G H d p->∃o,H p=.some o
 |.inl ⟨ds,vs,h1,h2,h3⟩=>⟨_,h2⟩
 |.inr ⟨ds,vs,h1,h2,h3⟩=>⟨_,h2⟩
theorem OwnAt.notIns{p:Addr}{o:HO}:OwnAt K G (upd H p o) d p->notIns o=true
 |.inl ⟨ds,vs,h1,h2,h3⟩=>by rw[ae]at h2;cases h2;rfl
 |.inr ⟨ds,vs,h1,h2,h3⟩=>by rw[ae]at h2;cases h2;rfl
def EnvD.sub(E:EnvD K G0 H0 G H σ Y):Same G H:=E.ext.gh
def EnvD.step(E:EnvD K G0 H0 G H σ Y)(e:Ext G H G' H'):EnvD K G0 H0 G' H' σ Y:=
 ⟨E.ext.trans e,E.len,λi d h=>let ⟨v,a,b⟩:=E.dat i d h;⟨v,a,b.mono e.gg⟩,E.lent,
  λi ds h=>let ⟨p,a,c,f,g⟩:=E.own i ds h;let ⟨o,ho⟩:=g.some;⟨p,a,e.nw _ _ c ho,f,g.ext e⟩,E.apart⟩
theorem EnvD.read(E:EnvD K G0 H0 G H σ Y){sl:Sl}(h:Y[i]?=some sl)(hd:aW .read sl=some d):∃v,σ[i]?=some (some v)/\Dr K G H d v:=by
 cases sl with
 |no=>cases hd
 |dat d'=>cases hd;obtain⟨v,a,b⟩:=E.dat i d h;exact⟨v,a,.of b⟩
 |lent d'=>cases hd;obtain⟨v,a,b⟩:=E.lent i d h;exact⟨v,a,b.ext E.ext⟩
 |own d'=>cases hd;obtain⟨p,a,_,_,b⟩:=E.own i d h;exact⟨_,a,b.dr⟩
set_option tactic.hygienic true in
theorem EnvD.val(E:EnvD K G0 H0 G H σ Y){sl:Sl}(h:Y[i]?=some sl)(hd:aW .val sl=some d):∃v,σ[i]?=some (some v)/\Dp K G d v:=by
 cases sl with
 |no=>cases hd
 |dat d'=>cases hd;exact E.dat i d h
 |lent d'=>
  rw[pq]at hd;split at hd
  .cases hd
  .rename_i c
   cases hd;obtain⟨v,a,b⟩:=E.lent i d h;exact⟨v,a,(b.ext E.ext).dp (by simpa using c)⟩
 |own d'=>cases hd
def getE_set{l:List α}{x y:α}(h:(l.set i x)[j]?=some y):(j=i/\y=x)\/(j≠i/\l[j]?=some y):=by
 by_cases e:j=i
 .subst e
  by_cases q:j<l.length
  .rw[gs0 q]at h;exact .inl ⟨rfl,(Option.some.inj h).symm⟩
  .have:(l.set j x)[j]?=.none:=List.getElem?_eq_none_iff.mpr (by simp;omega)
   rw[this]at h;cases h
 .rw[gn0 (Ne.symm e)]at h;exact .inr ⟨e,h⟩
theorem EnvD.set{v:V}(E:EnvD K G0 H0 G H σ Y)(hi:i<σ.length)(h:Dp K G d v):EnvD K G0 H0 G H (σ.set i (some v)) (Y.set i (.dat d)):=by
 refine⟨E.ext,by simp[E.len],λj e hj=>?_,λj e hj=>?_,λj ds hj=>?_,λj k ds es p hj hk aj ak=>?_⟩
 .rcases getE_set hj with⟨rfl,q⟩|⟨ne,q⟩
  .cases q;exact⟨v,gs0 hi,h⟩
  .rw[gn0 (Ne.symm ne)];exact E.dat j e q
 .rcases getE_set hj with⟨rfl,q⟩|⟨ne,q⟩
  .cases q
  .rw[gn0 (Ne.symm ne)];exact E.lent j e q
 .rcases getE_set hj with⟨rfl,q⟩|⟨ne,q⟩
  .cases q
  .rw[gn0 (Ne.symm ne)];exact E.own j ds q
 .rcases getE_set hj with⟨rfl,q⟩|⟨nj,q⟩
  .cases q
  rcases getE_set hk with⟨rfl,r⟩|⟨nk,r⟩
  .cases r
  rw[gn0 (Ne.symm nj)]at aj;rw[gn0 (Ne.symm nk)]at ak;exact E.apart j k ds es p q r aj ak
def EnvD.setOwn{p:Addr}(E:EnvD K G0 H0 G H σ Y)(hi:i<σ.length)(hO:OwnAt K G H d p)(hG:G p=.none)(h0:H0 p=.none)
  (new:∀(j:Nat) e,Y[j]?=some (.own e)->σ[j]?≠some (some (.ref p))):EnvD K G0 H0 G H (σ.set i (some (.ref p))) (Y.set i (.own d)):=by
 refine⟨E.ext,by simp[E.len],λj e hj=>?_,λj e hj=>?_,λj es hj=>?_,λj k es fs q hj hk aj ak=>?_⟩
 .rcases getE_set hj with⟨rfl,z⟩|⟨ne,z⟩
  .cases z
  .rw[gn0 (Ne.symm ne)];exact E.dat j e z
 .rcases getE_set hj with⟨rfl,z⟩|⟨ne,z⟩
  .cases z
  .rw[gn0 (Ne.symm ne)];exact E.lent j e z
 .rcases getE_set hj with⟨rfl,z⟩|⟨ne,z⟩
  .cases z;exact⟨p,gs0 hi,hG,h0,hO⟩
  .rw[gn0 (Ne.symm ne)];exact E.own j es z
 .rcases getE_set hj with⟨ej,_⟩|⟨nj,hj'⟩
  .rcases getE_set hk with⟨ek,_⟩|⟨nk,hk'⟩
   .rw[ej,ek]
   .rw[ej,gs0 hi]at aj
    rw[gn0 (Ne.symm nk)]at ak;cases aj;exact absurd ak (new k fs hk')
  .rw[gn0 (Ne.symm nj)]at aj
   rcases getE_set hk with⟨ek,_⟩|⟨nk,hk'⟩
   .rw[ek,gs0 hi]at ak
    cases ak;exact absurd aj (new j es hj')
   .rw[gn0 (Ne.symm nk)]at ak
    exact E.apart j k es fs q hj' hk' aj ak
def EnvD.fresh{p:Addr}(E:EnvD K G0 H0 G H σ Y)(hp:H p=.none):∀(j:Nat) e,Y[j]?=some (.own e)->σ[j]?≠some (some (.ref p)):=λj es hj hσ=>by
 obtain⟨q,a,_,_,b⟩:=E.own j es hj;obtain⟨o,ho⟩:=b.some;rw[hσ]at a;cases a;rw[hp]at ho;cases ho
def EnvD.change{e:D}{p:Addr}{o:HO}(E:EnvD K G0 H0 G H σ Y)(hi:Y[i]?=some (.own d))(hp:σ[i]?=some (some (.ref p)))(h:OwnAt K G (upd H p o) e p):
  EnvD K G0 H0 G (upd H p o) σ (Y.set i (.own e)):=by
 obtain⟨p',a,c,f,g⟩:=E.own i d hi;rw[hp]at a;cases a;have il:i<Y.length:=(gi0 hi).1;refine⟨⟨λx o e=>?_,E.ext.gg,λx o e=>?_,E.ext.nw,λx C dx fs q=>E.ext.ni x C dx fs (cy h.notIns x C dx fs q)⟩,by simp[E.len],λj e hj=>?_,λj e hj=>?_,λj fs hj=>?_,λj k fs gs q hj hk aj ak=>?_⟩
 .rw[aa (ai e f)];exact E.ext.hh x o e
 .rw[aa (ai e c)];exact E.ext.gh x o e
 .rcases getE_set hj with⟨rfl,z⟩|⟨ne,z⟩
  .cases z
  .exact E.dat j e z
 .rcases getE_set hj with⟨rfl,z⟩|⟨ne,z⟩
  .cases z
  .exact E.lent j e z
 .rcases getE_set hj with⟨rfl,z⟩|⟨ne,z⟩
  .cases z;exact⟨p,hp,c,f,h⟩
  .obtain⟨q,a',c',f',g'⟩:=E.own j fs z
   have qp:q≠p:=by
    rintro rfl
    exact ne (E.apart j i fs d q z hi a' hp)
   refine⟨q,a',c',f',?_⟩;rcases g' with⟨ds,vs,h1,h2,h3⟩|⟨ds,vs,h1,h2,h3⟩
   .exact .inl ⟨ds,vs,h1,by rw[aa qp];exact h2,h3⟩
   .exact .inr ⟨ds,vs,h1,by rw[aa qp];exact h2,h3⟩
 .have hj':∃fs',Y[j]?=some (.own fs'):=by
   rcases getE_set hj with⟨rfl,_⟩|⟨_,z⟩
   .exact⟨d,hi⟩
   .exact⟨fs,z⟩
  have hk':∃fs',Y[k]?=some (.own fs'):=by
   rcases getE_set hk with⟨rfl,_⟩|⟨_,z⟩
   .exact⟨d,hi⟩
   .exact⟨gs,z⟩
  obtain⟨_,hj'⟩:=hj';obtain⟨_,hk'⟩:=hk';exact E.apart j k _ _ q hj' hk' aj ak
def EnvD.frz(E:EnvD K G0 H0 G H σ Y)(hl:Y'.length=Y.length)(h:∀(i:Nat) s,Y'[i]?=some s->Y[i]?=some s\/∃d,Y[i]?=some (.own d)/\s=.dat d):∃G',EnvD K G0 H0 G' H σ Y'/\Same G G':=by
 classical
 let P:Addr->Prop:=λb=>∃(i:Nat)(d:D),Y[i]?=some (.own d)/\Y'[i]?=some (.dat d)/\σ[i]?=some (some (.ref b))
 have hp:∀b,P b->G b=.none/\H0 b=.none:=λb ⟨i,d,h1,_,h3⟩=>by
  obtain⟨p,a,c,f,_⟩:=E.own i d h1;rw[h3]at a;cases a;exact⟨c,f⟩
 let G':Hp:=λb=>if P b then H b else G b
 have gin:∀b,P b->G' b=H b:=λb h=>if_pos h
 have gout:∀b,¬P b->G' b=G b:=λb h=>if_neg h
 have gs:Same G G':=λb o e=>by rw[gout b λh=>by rw[(hp b h).1]at e;cases e];exact e
 refine⟨G',⟨⟨E.ext.hh,E.ext.gg.trans gs,λb o e=>?_,λb o e1 e2=>?_,E.ext.ni⟩,by rw[hl];exact E.len,λi d hi=>?_,λi d hi=>?_,λi d hi=>?_,λi j d e p hi hj=>?_⟩,gs⟩
 .by_cases c:P b
  .rw[gin b c]at e;exact e
  .rw[gout b c]at e;exact E.ext.gh b o e
 .rw[gout b λh=>by rw[(hp b h).2]at e2;cases e2];exact E.ext.nw b o e1 e2
 .rcases h i _ hi with z|⟨d',z,e⟩
  .obtain⟨v,a,b⟩:=E.dat i d z
   exact⟨v,a,b.mono gs⟩
  .cases e
   obtain⟨p,a,c,f,g⟩:=E.own i d z;have q:G' p=H p:=gin p ⟨i,d,z,hi,a⟩;rcases g with⟨ds,vs,rfl,h2,h3⟩|⟨ds,vs,rfl,h2,h3⟩
   .exact⟨_,a,.list (q.trans h2) (h3.mono gs)⟩
   .exact⟨_,a,.dict (q.trans h2) (h3.mono gs)⟩
 .rcases h i _ hi with z|⟨d',z,e⟩
  .exact E.lent i d z
  .cases e
 .rcases h i _ hi with z|⟨d',z,e⟩
  .obtain⟨p,a,c,f,g⟩:=E.own i d z
   refine⟨p,a,?_,f,?_⟩
   .rw[gout p λ⟨j,d',y1,y2,y3⟩=>by cases E.apart i j d d' p z y1 a y3;rw[hi]at y2;cases y2];exact c
   .rcases g with⟨ds,vs,h1,h2,h3⟩|⟨ds,vs,h1,h2,h3⟩
    .exact .inl ⟨ds,vs,h1,h2,h3.mono gs⟩
    .exact .inr ⟨ds,vs,h1,h2,h3.mono gs⟩
  .cases e
 .rcases h i _ hi with z|⟨d',z,y⟩
  .rcases h j _ hj with z'|⟨d',z',y⟩
   .exact E.apart i j d e p z z'
   .cases y
  .cases y
def EnvD.freeze1(E:EnvD K G0 H0 G H σ Y)(hi:Y[i]?=some (.own d)):∃G',EnvD K G0 H0 G' H σ (Y.set i (.dat d))/\Same G G':=
 E.frz (by simp) λj s hj=>(getE_set hj).elim (λ⟨e,q⟩=>.inr ⟨d,e▸hi,q⟩) λ⟨_,q⟩=>.inl q
theorem EnvD.freeze(E:EnvD K G0 H0 G H σ Y):∃G',EnvD K G0 H0 G' H σ (Y.map freeze)/\Same G G':=
 E.frz (by simp) λj s hj=>by
  rw[gm0]at hj;obtain⟨s',q,rfl⟩:=mx0 hj;cases s' with
  |own d=>exact .inr ⟨d,q,rfl⟩
  |_=>exact .inl q
end
inductive Das (K:Fg)(G H:Hp):List Bool->List D->List V->Prop
 |nil {fl:List Bool}:Das K G H fl [] []
 |cons {fl:List Bool}{d:D}{v:V}{ds:List D}{vs:List V}:(fl.headD false=false->Dp K G d v)->Dr K G H d v->Das K G H fl.tail ds vs->Das K G H fl (d::ds) (v::vs)
theorem Das.dps{G H}:∀{ds:List D}{vs},Das K G H [] ds vs->Dps K G ds vs
 |_,_,.nil=>.nil
 |_,_,.cons h1 _ r=>.cons (h1 rfl) (Das.dps r)
theorem Das.length{G:Hp}(h:Das K G H fl ds vs):ds.length=vs.length:=by
 induction h with
 |nil=>rfl
 |cons _ _ _ ih=>rw[lc0,lc0,ih]
noncomputable def tEv(K:Fg)(Y:List Sl)(d:D):TE:=λσ H Q=>∃G0 H0 G,EnvD K G0 H0 G H σ Y/\∀v G' H',Ext G H G' H'->Dp K G' d v->Q v H'
noncomputable def tEr(K:Fg)(Y:List Sl)(d:D):TE:=λσ H Q=>∃G0 H0 G,EnvD K G0 H0 G H σ Y/\∀v G' H',Ext G H G' H'->Dr K G' H' d v->Q v H'
noncomputable def tEt(K:Fg)(Y:List Sl)(b:Bool):TT:=λσ H Q=>∃G0 H0 G,EnvD K G0 H0 G H σ Y/\∀G' H',Ext G H G' H'->Q b H'
noncomputable def tEa(K:Fg)(Y:List Sl)(fl:List Bool)(ds:List D):TA:=λσ H Q=>∃G0 H0 G,EnvD K G0 H0 G H σ Y/\∀vs G' H',Ext G H G' H'->Das K G' H' fl ds vs->Q vs H'
noncomputable def tEn(K:Fg)(Y:List Sl)(d:D):TE:=λσ H Q=>∃G0 H0 G,EnvD K G0 H0 G H σ Y/\∀p G' H',Ext G H G' H'->G' p=.none->H p=.none->OwnAt K G' H' d p->Q (.ref p) H'
def Ev(X:Cx)(Y:List Sl)(e:Expr)(d:D):Prop:=PE X e (tEv X.K Y d)
def Er(X:Cx)(Y:List Sl)(e:Expr)(d:D):Prop:=PE X e (tEr X.K Y d)
def Et(X:Cx)(Y:List Sl)(e:Expr)(b:Bool):Prop:=PT X e (tEt X.K Y b)
def Ew(X:Cx)(Y:List Sl)(e:Expr)(b:Bool):Prop:=PW X e (tEt X.K Y b)
def Ea(X:Cx)(Y:List Sl)(fl:List Bool)(es:List Expr)(ds:List D):Prop:=PA X es (tEa X.K Y fl ds)
def En(X:Cx)(Y:List Sl)(e:Expr)(d:D):Prop:=PE X e (tEn X.K Y d)
theorem OwnAt.show{G:Hp}{p:Addr}(e:Ext G H G' H')(g:G' p=.none)(h0:H p=.none)(o:OwnAt K G' H' d p):∃G2,Ext G H G2 H'/\Dp K G2 d (.ref p):=by
 obtain⟨ob,ho⟩:=o.some;refine⟨upd G' p ob,e.show h0 ho g,?_⟩;rcases o with⟨ds,vs,h1,h2,h3⟩|⟨ds,vs,h1,h2,h3⟩
 .rw[h2]at ho;cases ho;rw[h1];exact .list ae (h3.mono (aF g))
 .rw[h2]at ho;cases ho;rw[h1];exact .dict ae (h3.mono (aF g))
def En.ev{e:Expr}(h:En X Y e d):Ev X Y e d:=λpins s σ H Q I ⟨G0,H0,G,E,k⟩=>
 h pins s σ H Q I ⟨G0,H0,G,E,λp G' H' e g h0 o=>let ⟨G2,e2,r⟩:=o.show e g h0;k _ G2 H' e2 r⟩
def Ev.er{e:Expr}(h:Ev X Y e d):Er X Y e d:=by rintro pins s σ H Q I ⟨G0,H0,G,E,k⟩;exact h pins s σ H Q I ⟨G0,H0,G,E,λv G' H' e r=>k v G' H' e (.of r)⟩
def Ew.et{e:Expr}{b:Bool}(h:Ew X Y e b):Et X Y e b:=PW.pt h
def Dz{i j pos}:Ev X Y (.Constant (.int i) j pos) (.int i):=by rintro pins s σ H Q I ⟨G0,H0,G,E,k⟩;exact oH pins s σ H Q I (k _ G H (.refl E.sub) (.int i))
def Hz{b j pos}:Ev X Y (.Constant (.bool b) j pos) (.bool b):=by rintro pins s σ H Q I ⟨G0,H0,G,E,k⟩;exact GE pins s σ H Q I (k _ G H (.refl E.sub) (.bool b))
def vx{j pos}:Ev X Y (.Constant .none j pos) .none:=by rintro pins s σ H Q I ⟨G0,H0,G,E,k⟩;exact CG pins s σ H Q I (k _ G H (.refl E.sub) .none)
def DA{x j pos}(h:PyData.strOk x=true):Ev X Y (.Constant (.str x) j pos) (.str x):=by rintro pins s σ H Q I ⟨G0,H0,G,E,k⟩;exact CH pins s σ H Q I (k _ G H (.refl E.sub) (.str x h))
def DB(i:Nat)(h:(Y[i]?).bind (aW .val)=some d)(hN:X.N[i]?=some x)(hv:Vis X.env.scope x)(hd:(x==("__debug__":Str))=false)(hcd:(x==("__classdict__":Str))=false):Ev X Y (.Name x pos) d:=by
 rintro pins s σ H Q I ⟨G0,H0,G,E,k⟩
 obtain⟨sl,h1,h2⟩:=bx0 h;obtain⟨v,e,r⟩:=E.val h1 h2;exact cN hN hv hd hcd pins s σ H Q I ⟨v,e,k v G H (.refl E.sub) r⟩
def vy(i:Nat)(h:(Y[i]?).bind (aW .read)=some d)(hN:X.N[i]?=some x)(hv:Vis X.env.scope x)(hd:(x==("__debug__":Str))=false)(hcd:(x==("__classdict__":Str))=false):Er X Y (.Name x pos) d:=by
 rintro pins s σ H Q I ⟨G0,H0,G,E,k⟩
 obtain⟨sl,h1,h2⟩:=bx0 h;obtain⟨v,e,r⟩:=E.read h1 h2;exact cN hN hv hd hcd pins s σ H Q I ⟨v,e,k v G H (.refl E.sub) r⟩
def af{e:Expr}{es}{env}(h:isStar e=false):starEach (e::es) env=(false,eval e env)::starEach es env:=by cases e<;>first|rfl|cases h
def ly :Ea X Y fl [] []:=by rintro pos pins s σ H Q I ⟨G0,H0,G,E,k⟩;exact bz pos pins s σ H Q I (k [] G H (.refl E.sub) .nil)
def iT{e:Expr}(he:Ev X Y e d)(hr:Ea X Y fl.tail es ds)(hs:isStar e=false):Ea X Y fl (e::es) (d::ds):=
 λpos pins s σ H Q I ⟨G0,H0,G,E,k⟩=>aD he hr (af hs) pos pins s σ H Q I ⟨G0,H0,G,E,λv G1 H1 e1 r1=>
  ⟨G0,H0,G1,E.step e1,λvs G2 H2 e2 r2=>k _ G2 H2 (e1.trans e2) (.cons (λa=>r1.mono e2.gg) (.of (r1.mono e2.gg)) r2)⟩⟩
def mM{e:Expr}(he:Er X Y e d)(hf:fl.headD false=true)(hr:Ea X Y fl.tail es ds)(hs:isStar e=false):Ea X Y fl (e::es) (d::ds):=
 λpos pins s σ H Q I ⟨G0,H0,G,E,k⟩=>aD he hr (af hs) pos pins s σ H Q I ⟨G0,H0,G,E,λv G1 H1 e1 r1=>
  ⟨G0,H0,G1,E.step e1,λvs G2 H2 e2 r2=>k _ G2 H2 (e1.trans e2) (.cons (λc=>by rw[hf]at c;cases c) (r1.ext e2) r2)⟩⟩
abbrev R2r(K:Fg)(r:R2)(d1 d2 d:D):Prop:=∀(x y:V)(G H:Hp)(Q:VK),Same G H->Dr K G H d1 x->Dr K G H d2 y->(∀v G' H',Ext G H G' H'->Dp K G' d v->Q v H')->r x y H Q
abbrev R2n(K:Fg)(r:R2)(d1 d2 d:D):Prop:=∀(x y:V)(G H:Hp)(Q:VK),Same G H->Dr K G H d1 x->Dr K G H d2 y->(∀p G' H',Ext G H G' H'->G' p=.none->H p=.none->OwnAt K G' H' d p->Q (.ref p) H')->r x y H Q
def ev_op{op:Operator}{r:R2}(ho:OpR X (binaryOp op) r)(ha:Er X Y a d1)(hb:Er X Y b d2)(h:R2r X.K r d1 d2 d):Ev X Y (.BinOp a op b pos) d:=
 λpins s σ H Q I ⟨G0,H0,G,E,k⟩=>BD ho ha hb pins s σ H Q I ⟨G0,H0,G,E,λx G1 H1 e1 r1=>⟨G0,H0,G1,E.step e1,λy G2 H2 e2 r2=>
  h x y G2 H2 Q e2.gh (r1.ext e2) r2 λv G' H' e3 r3=>k v G' H' (e1.trans (e2.trans e3)) r3⟩⟩
def en_op{op:Operator}{r:R2}(ho:OpR X (binaryOp op) r)(ha:Er X Y a d1)(hb:Er X Y b d2)(h:R2n X.K r d1 d2 d):En X Y (.BinOp a op b pos) d:=
 λpins s σ H Q I ⟨G0,H0,G,E,k⟩=>BD ho ha hb pins s σ H Q I ⟨G0,H0,G,E,λx G1 H1 e1 r1=>⟨G0,H0,G1,E.step e1,λy G2 H2 e2 r2=>
  h x y G2 H2 Q e2.gh (r1.ext e2) r2 λp G' H' e3 g3 h3 r3=>k p G' H' (e1.trans (e2.trans e3)) g3 (e1.hh.free (e2.hh.free h3)) r3⟩⟩
def DC{op:CmpOp}{r:R2}(ho:OpR X (compareOp op) r)(ha:Er X Y a d1)(hb:Er X Y b d2)(h:R2r X.K r d1 d2 d)(hm:behindInMarks op b=false):Ev X Y (.Compare a [op] [b] pos) d:=
 λpins s σ H Q I ⟨G0,H0,G,E,k⟩=>zh ho ha hb hm pins s σ H Q I ⟨G0,H0,G,E,λx G1 H1 e1 r1=>⟨G0,H0,G1,E.step e1,λy G2 H2 e2 r2=>
  h x y G2 H2 Q e2.gh (r1.ext e2) r2 λv G' H' e3 r3=>k v G' H' (e1.trans (e2.trans e3)) r3⟩⟩
def DD{op:CmpOp}{r:R2}(ho:OpR X (compareOp op) r)(ha:Er X Y a d1)(hb:Er X Y b d2)(h:R2r X.K r d1 d2 (.bool t))(hm:behindInMarks op b=false):Et X Y (.Compare a [op] [b] pos) t:=
 λpins s σ H Q I ⟨G0,H0,G,E,k⟩=>ik ho ha hb hm pins s σ H Q I ⟨G0,H0,G,E,λx G1 H1 e1 r1=>⟨G0,H0,G1,E.step e1,λy G2 H2 e2 r2=>
  h x y G2 H2 _ e2.gh (r1.ext e2) r2 λv G' H' e3 r3=>by
   cases r3;exact⟨t,rfl,k G' H' (e1.trans (e2.trans e3))⟩⟩⟩
def mO{r:R2}(hr:IxR X r)(ha:Er X Y a d1)(hb:Ev X Y b d2)(h:R2r X.K r d1 d2 d)(hs:isSlice b=false):Ev X Y (.Subscript a b pos) d:=
 λpins s σ H Q I ⟨G0,H0,G,E,k⟩=>qE hr ha hb (by cases b<;>first|exact λc c=>rfl|cases hs) pins s σ H Q I ⟨G0,H0,G,E,λx G1 H1 e1 r1=>⟨G0,H0,G1,E.step e1,λy G2 H2 e2 r2=>
  h x y G2 H2 Q e2.gh (r1.ext e2) (.of r2) λv G' H' e3 r3=>k v G' H' (e1.trans (e2.trans e3)) r3⟩⟩
def mP{g}{i j}(hg:∀G,Dp K G d (g i j)):R2r K (rI0 g) (.int i) (.int j) d:=λx y G H Q s hx hy k=>⟨i,j,hx.int,hy.int,k _ G H (.refl s) (hg G)⟩
def r2_I{C}{g}{i j}(hC:C i j)(hg:∀G,Dp K G d (g i j)):R2r K (rI C g) (.int i) (.int j) d:=λx y G H Q s hx hy k=>⟨i,j,hx.int,hy.int,hC,k _ G H (.refl s) (hg G)⟩
def big_eq:SI.big=sizeLine:=by rw[sizeLine_eq];rfl
def fM{x y}(hx:PyData.strOk x=true)(hy:PyData.strOk y=true):PyData.strOk (x++y)=true:=by
 have e:(x++y).cps=x.cps++y.cps:=rfl;unfold PyData.strOk at hx hy ⊢;rw[e,Array.all_append,hx,hy];rfl
def strOk_iff{x}:PyData.strOk x=true↔∀c∈x.cps.toList,c<0x110000:=by
 unfold PyData.strOk;rw[<-Array.all_toList,List.all_eq_true];simp
set_option tactic.hygienic true in
def mul_eq(x:Str)(j:Int):Txt.mul x j=⟨((List.replicate j.toNat x.cps.toList).flatten).toArray⟩:=by
 have key:∀(n:Nat)(acc:List Nat),(List.replicate n x.cps).foldl (·++·) acc.toArray=(acc++(List.replicate n x.cps.toList).flatten).toArray:=by
  intro n
  induction n with
  |zero=>intro acc;simp
  |succ n ih=>
   intro acc;rw[List.replicate_succ,List.foldl_cons,List.replicate_succ,List.flatten_cons];have e:acc.toArray++x.cps=(acc++x.cps.toList).toArray:=by simp
   rw[e,ih,List.append_assoc]
 unfold Txt.mul;split
 .rename_i h
  have:j.toNat=0:=by omega
  rw[this];rfl
 .rename_i h
  split
  .rename_i h2
   rw[Bool.or_eq_true]at h2;rcases h2 with h2|h2
   .have:j.toNat=1:=by have:=eq_of_beq h2;omega
    rw[this];simp
   .have e:x.cps.toList=[]:=by
     have:x.cps.size=0:=eq_of_beq h2;exact ez0 (by simpa using this)
    have e2:(List.replicate j.toNat x.cps.toList).flatten=[]:=by rw[e];simp
    rw[e2];cases x with|mk c=>congr 1;exact Array.toList_inj.mp (by rw[e])
  .have:=key j.toNat []
   rw[List.nil_append]at this;rw[<-this]
mutual
noncomputable def toW:D->PySem.W.Dat
 |.none=>.none
 |.bool b=>.bool b
 |.int i=>.int i
 |.str x=>.str x
 |.tuple ds=>.tuple (eV ds)
 |.list ds=>.list (eV ds)
 |.dict _=>.none
 |.scr _=>.none
 |.vlt ..=>.none
 |.hdl _=>.none
 |.exc _=>.none
 |.fn _=>.none
noncomputable def eV:List D->List PySem.W.Dat
 |[]=>[]
 |d::r=>toW d::eV r
end
theorem fN{p:PySem.W.Dat->Bool}{q:D->Bool}:∀{ds:List D},(∀d∈ds,q d=true->p (toW d)=true)->ds.all q=true->(eV ds).all p=true
 |[],_,_=>rfl
 |d::r,h,a=>by
  rw[List.all_cons,be0]at a;show (p (toW d)&&(eV r).all p)=true;rw[h d ms0 a.1,fN (λe he=>h e (mc0 _ he)) a.2];rfl
def lz:∀(n m:Nat)(a b:D),okS n a=true->okS m b=true->toW a=toW b->a=b:=by
 intro n
 induction n with
 |zero=>
  intro m a b ha hb e;cases a with
  |none=>cases b<;>first|rfl|(cases e;done)|(cases m<;>cases hb)
  |int i=>cases b<;>first|(cases e;rfl)|(cases e;done)
  |str x=>cases b<;>first|(cases e;rfl)|(cases e;done)
  |_=>cases ha
 |succ n ih=>
  intro m a b ha hb e;have all:∀(m:Nat)(ds es:List D),ds.all (okS n)=true->es.all (okS m)=true->eV ds=eV es->ds=es:=by
   intro m ds
   induction ds with
   |nil=>intro es _ _ e;cases es with
    |nil=>rfl
    |cons=>cases e
   |cons d r ih2=>
    intro es h1 h2 e;cases es with
    |nil=>cases e
    |cons f q=>
     rw[List.all_cons,be0]at h1 h2;have e':=e;injection e' with e1 e2
     rw[ih m d f h1.1 h2.1 e1,ih2 q h1.2 h2.2 e2]
  cases a with
  |none=>cases b<;>first|rfl|(cases e;done)|(cases m<;>cases hb)
  |int i=>cases b<;>first|(cases e;rfl)|(cases e;done)
  |str x=>cases b<;>first|(cases e;rfl)|(cases e;done)
  |tuple ds=>
   cases b with
   |tuple es=>
    cases m with
    |zero=>cases hb
    |succ m=>rw[all m ds es ha hb (PySem.W.Dat.tuple.inj e)]
   |_=>cases e
  |list ds=>
   cases b with
   |list es=>
    cases m with
    |zero=>cases hb
    |succ m=>rw[all m ds es ha hb (PySem.W.Dat.list.inj e)]
   |_=>cases e
  |_=>cases ha
section
variable {G:Hp}
def Dps.mem(h:Dps K G ds vs)(hd:d∈ds):∃v,Dp K G d v:=by
 obtain⟨k,e⟩:=List.getElem?_of_mem hd;obtain⟨v,_,r⟩:=h.get e;exact⟨v,r⟩
def qN:∀(n:Nat)(d:D)(v:V),Dp K G d v->okS n d=true->PySem.W.kqdOk n (toW d)=true:=by
 intro n
 induction n with
 |zero=>
  intro d v h o;cases h with
  |none=>rfl
  |int i=>rfl
  |str x hx=>exact hx
  |_=>cases o
 |succ n ih=>
  intro d v h o;have all:∀{ds:List D}{vs:List V},Dps K G ds vs->ds.all (okS n)=true->(eV ds).all (PySem.W.kqdOk n)=true:=λ{ds vs} r z=>
   fN (λe he oe=>let ⟨u,q⟩:=r.mem he;ih e u q oe) z
  cases h with
  |none=>rfl
  |int i=>rfl
  |str x hx=>exact hx
  |tuple _ r=>exact all r o
  |list _ r=>exact all r o
  |_=>cases o
def lA(s:Same G H){v:V}(h:Dr K G H d v)(o:okS 20 d=true):PySem.W.kqdOk 20 (toW d)=true:=by
 cases h with
 |of h=>exact qN 20 d v h o
 |list _ r=>exact fN (λe he oe=>let ⟨u,q⟩:=r.mem he;qN 19 e u q oe) o
 |dict=>cases o
 |vlt=>cases o
def gF(I:Inv X pins σ H s)(sm:Same G H){n}(ih:∀(d:D)(v:V)(u:Value),Dp X.K G d v->RelV v u->okS n d=true->∃as,Reads s.heap u (PySem.W.kqdP (toW d)) as):
  ∀{vs:List V}{us:List Value}{ds:List D},Vals vs us->Dps X.K G ds vs->ds.all (okS n)=true->∃as,ReadsAll s.heap us (PySem.W.kqdPs (eV ds)) as:=by
 intro vs us ds r
 induction r generalizing ds with
 |nil=>intro q _;cases q;exact⟨_,ReadsAll.nil⟩
 |cons r1 _ ih2=>
  intro q z;cases q with
  |cons q1 q2=>
   rw[List.all_cons,be0]at z;obtain⟨as,p1⟩:=ih _ _ _ q1 r1 z.1;obtain⟨bs,p2⟩:=ih2 q2 z.2;exact⟨_,ReadsAll.cons p1 p2⟩
def mQ(I:Inv X pins σ H s)(sm:Same G H):∀(n:Nat)(d:D)(v:V)(u:Value),Dp X.K G d v->RelV v u->okS n d=true->∃as,Reads s.heap u (PySem.W.kqdP (toW d)) as:=by
 intro n
 induction n with
 |zero=>
  intro d v u h r o;cases h with
  |none=>cases r;exact⟨_,Reads.none⟩
  |int i=>obtain⟨t,rfl⟩:=r;exact⟨_,Reads.int i t⟩
  |str x hx=>obtain⟨t,rfl⟩:=r;exact⟨_,Reads.str x t⟩
  |_=>cases o
 |succ n ih=>
  intro d v u h r o;cases h with
  |none=>cases r;exact⟨_,Reads.none⟩
  |int i=>obtain⟨t,rfl⟩:=r;exact⟨_,Reads.int i t⟩
  |str x hx=>obtain⟨t,rfl⟩:=r;exact⟨_,Reads.str x t⟩
  |tuple q p=>
   cases r;obtain⟨its,rv,⟨ob,e1,e2,m,e3⟩,_⟩:=I.tuple (SqT.of (sm _ _ q));obtain⟨as,w⟩:=gF I sm ih rv p o;exact⟨_,Reads.tuple e1 e2 e3 (by simpa using w)⟩
  |list q p=>
   cases r;obtain⟨its,rv,⟨ob,m,e1,e2,_,e3⟩,_⟩:=I.list (SqL.of (sm _ _ q));obtain⟨as,w⟩:=gF I sm ih rv p o;exact⟨_,Reads.list e1 e2 e3 (by simpa using w)⟩
  |_=>cases o
def bI(I:Inv X pins σ H s)(sm:Same G H){v:V}{u:Value}(h:Dr X.K G H d v)(r:RelV v u)(o:okS 20 d=true):∃as,Reads s.heap u (PySem.W.kqdP (toW d)) as:=by
 cases h with
 |of h=>exact mQ I sm 20 d v u h r o
 |list q p=>
  cases r;obtain⟨its,rv,⟨ob,m,e1,e2,_,e3⟩,_⟩:=I.list (SqL.of q);obtain⟨as,w⟩:=gF (n:=19) I sm (mQ I sm 19) rv p o;exact⟨_,Reads.list e1 e2 e3 (by simpa using w)⟩
 |dict=>cases o
 |vlt=>cases o
end
def cg{d:PySem.W.Dat}(o:PySem.W.kqdOk n d=true)(hn:n<=64:=by decide):SeqAt.shaped (PySem.W.kqdP d)=true:=by
 have l:=PySem.W.kqd_lay n d o;unfold SeqAt.shaped;rw[l.1,Bool.true_and];exact dt0 (nt0 l.2 hn)
noncomputable def HA(K:Fg)(neg:Bool):R2:=λx y H Q=>∃G d1 d2,Same G H/\Dr K G H d1 x/\Dr K G H d2 y/\okS 20 d1=true/\okS 20 d2=true/\Q (.bl (if neg then !decide (d1=d2)else decide (d1=d2))) H
def vA{G:Hp}{x y:V}(s:Same G H)(h1:Dr K G H d1 x)(h2:Dr K G H d2 y)(o1:okS 20 d1=true)(o2:okS 20 d2=true):PyData.eqv (PySem.W.kqdP (toW d1)) (PySem.W.kqdP (toW d2))=decide (d1=d2):=by
 have q:=PySem.W.kqd_eqv 20 (toW d1) (toW d2) 20 (lA s h1 o1) (lA s h2 o2)
 by_cases e:d1=d2
 .rw[dt0 e];exact q.mpr (by rw[e])
 .rw[df0 e]
  exact bf0 λz=>e (lz 20 20 d1 d2 o1 o2 (q.mp z))
def DE(hu:X.A.units+64<cLine):OpR X (compareOp .Eq) (HA X.K false):=by
 intro pins s σ H x y v u Q I rx ry h;obtain⟨G,d1,d2,sm,h1,h2,o1,o2,q⟩:=h;obtain⟨as,ra⟩:=bI I sm h1 rx o1;obtain⟨bs,rb⟩:=bI I sm h2 ry o2;exact eq_dataH ra rb (cg (lA sm h1 o1)) (cg (lA sm h2 o2)) hu (cp I q (vA sm h1 h2 o1 o2).symm)
def DF(hu:X.A.units+64<cLine):OpR X (compareOp .NotEq) (HA X.K true):=by
 intro pins s σ H x y v u Q I rx ry h;obtain⟨G,d1,d2,sm,h1,h2,o1,o2,q⟩:=h;obtain⟨as,ra⟩:=bI I sm h1 rx o1;obtain⟨bs,rb⟩:=bI I sm h2 ry o2;exact ne_dataH ra rb (cg (lA sm h1 o1)) (cg (lA sm h2 o2)) hu (cp I q (by rw[vA sm h1 h2 o1 o2];rfl))
def Dr.dpsL{G:Hp}{v:V}(h:Dr K G H (.list ds) v):∃vs,Dps K G ds vs:=by
 cases h with
 |of h=>cases h with|list _ r=>exact⟨_,r⟩
 |list _ r=>exact⟨_,r⟩
def Dr.dpsT{G:Hp}{v:V}(h:Dr K G H (.tuple ds) v):∃vs,Dps K G ds vs:=by
 cases h with
 |of h=>cases h with|tuple _ r=>exact⟨_,r⟩
theorem vB{G:Hp}{x:V}(s:Same G H)(h1:Dr K G H d1 x)(o1:okS 20 d1=true):∀{ds:List D}{vs:List V},Dps K G ds vs->ds.all (okS 19)=true->((PySem.W.kqdPs (eV ds)).any λy=>PyData.eqv y (PySem.W.kqdP (toW d1)))=ds.any λd=>decide (d=d1)
 |[],_,_,_=>rfl
 |d::r,_,.cons q q',o=>by
  rw[List.all_cons,be0]at o;have e:=PySem.W.kqd_eqv 19 (toW d) (toW d1) 20 (qN 19 d _ q o.1) (lA s h1 o1);have e':PyData.eqv (PySem.W.kqdP (toW d)) (PySem.W.kqdP (toW d1))=decide (d=d1):=by
   by_cases z:d=d1
   .rw[dt0 z];exact e.mpr (by rw[z])
   .rw[df0 z];exact bf0 λy=>z (lz 19 20 d d1 o.1 o1 (e.mp y))
  show (PyData.eqv _ _||_)=(decide (d=d1)||_);rw[e',<-vB s h1 o1 q' o.2]
def qO{G:Hp}(r:Dps K G ds vs)(o:ds.all (okS 19)=true):PyData.canLayAll0 (PySem.W.kqdPs (eV ds))=true/\PyData.depthAll (PySem.W.kqdPs (eV ds))<=20:=by
 have l:=PySem.W.kqd_lay 20 (.list (eV ds)) (fN (λe he oe=>let ⟨u,q⟩:=r.mem he;qN 19 e u q oe) o);rw[PySem.W.kqdP]at l;simp only[PyData.canLay0,PyData.depth]at l;have l2:=l.2;exact⟨l.1,by omega⟩
noncomputable def HB(K:Fg)(neg:Bool):R2:=λx y H Q=>∃G d ds vs,Same G H/\Dr K G H d x/\Dps K G ds vs/\((Dr K G H (.list ds) y)\/Dr K G H (.tuple ds) y)/\okS 20 d=true/\ds.all (okS 19)=true/\Q (.bl (if neg then !ds.any (λe=>decide (e=d))else ds.any λe=>decide (e=d))) H
def vC(hu:X.A.units+64<cLine):OpR X (compareOp .In) (HB X.K false):=by
 intro pins s σ H x y v u Q I rx ry h;obtain⟨G,d,ds,vs,sm,h1,r,h2,o1,o2,q⟩:=h;obtain⟨as,ra⟩:=bI I sm h1 rx o1;have l:=qO r o2;have l1:=PySem.W.kqd_lay 20 _ (lA sm h1 o1);have q:=q;rcases h2 with h2|h2
 .obtain⟨bs,rb⟩:=bI I sm h2 ry o2
  exact SeqAt.in_list_reads rb ra l.1 l1.1 (by omega) (cp I q (vB sm h1 o1 r o2).symm)
 .obtain⟨bs,rb⟩:=bI I sm h2 ry o2
  exact SeqAt.in_tuple_reads rb ra l.1 l1.1 (by omega) (cp I q (vB sm h1 o1 r o2).symm)
def kg(hu:X.A.units+64<cLine):OpR X (compareOp .NotIn) (HB X.K true):=by
 intro pins s σ H x y v u Q I rx ry h;obtain⟨G,d,ds,vs,sm,h1,r,h2,o1,o2,q⟩:=h;obtain⟨as,ra⟩:=bI I sm h1 rx o1;have l:=qO r o2;have l1:=PySem.W.kqd_lay 20 _ (lA sm h1 o1);rcases h2 with h2|h2
 .obtain⟨bs,rb⟩:=bI I sm h2 ry o2
  exact SeqAt.notIn_list_reads rb ra l.1 l1.1 (by omega) (cp I q (by rw[vB sm h1 o1 r o2];rfl))
 .obtain⟨bs,rb⟩:=bI I sm h2 ry o2
  exact SeqAt.notIn_tuple_reads rb ra l.1 l1.1 (by omega) (cp I q (by rw[vB sm h1 o1 r o2];rfl))
def DG(hu:X.A.units+1<cLine):OpR X (compareOp .In) (λx y H Q=>∃a kvs k,y=.ref a/\x=kV k/\H a=some (.dK kvs)/\Q (.bl (bw kvs k).isSome) H):=by
 intro pins s σ H x y v u Q I rx ry h;obtain⟨a,kvs,k,rfl,rfl,ha,q⟩:=h;cases ry;exact Ks hu I (DGet.k ha) rx λs' I'=>⟨.bl _,H,I',rfl,q⟩
def sR(hu:X.A.units+1<cLine):OpR X (compareOp .NotIn) (λx y H Q=>∃a kvs k,y=.ref a/\x=kV k/\H a=some (.dK kvs)/\Q (.bl (!(bw kvs k).isSome)) H):=by
 intro pins s σ H x y v u Q I rx ry h;obtain⟨a,kvs,k,rfl,rfl,ha,q⟩:=h;cases ry;exact zv hu I (DGet.k ha) rx λs' I'=>⟨.bl _,H,I',rfl,q⟩
theorem Dks.look{G}{k:Key}:∀{ds:List (Key×D)}{vs:List (Key×V)},Dks K G ds vs->(SI.look ds k=.none/\bw vs k=.none)\/∃d v,SI.look ds k=some d/\bw vs k=some v/\Dp K G d v
 |_,_,.nil=>.inl ⟨rfl,rfl⟩
 |_,_,.cons (k:=l) h r=>by
  by_cases c:l=k
  .right
   refine⟨_,_,?_,fG c,h⟩;show (if l=k then _ else _)=_;rw[if_pos c]
  .rw[fH c]
   show ((if l=k then _ else _)=_/\_)\/∃d v,(if l=k then _ else _)=_/\_;rw[if_neg c];exact Dks.look r
def bo{G:Hp}{v:V}{k:Key}(h:Dr K G H d v)(e:fq d=some k):v=kV k:=by
 cases d with
 |int i=>cases e;exact h.int
 |str x=>cases e;exact h.str.1
 |_=>cases e
def sS:OpR X (compareOp .LtE) (λx y H Q=>∃i j,x=.str i/\y=.str j/\Q (.bl (!decide (j.cps.toList<i.cps.toList))) H):=by
 intro pins s σ H x y v u Q I rx ry h;obtain⟨i,j,rfl,rfl,q⟩:=h;obtain⟨t,rfl⟩:=rx;obtain⟨t',rfl⟩:=ry;exact PySem.P.le_str (cp I q rfl)
set_option tactic.hygienic true in
def iU{op:CmpOp}{o:Cop}(hu:X.A.units+64<cLine)(ho:iR op=some o)(h:bQ o d1 d2=some t):∃r,OpR X (compareOp op) r/\R2r X.K r d1 d2 (.bool t):=by
 have hu1:X.A.units+1<cLine:=by omega
 have eqc:∀t,eqD d1 d2=some t->(∃r,OpR X (compareOp .Eq) r/\R2r X.K r d1 d2 (.bool t))/\∃r,OpR X (compareOp .NotEq) r/\R2r X.K r d1 d2 (.bool (!t)):=by
  clear h;intro t h;unfold eqD at h;split at h
  .rename_i c
   rw[be0]at c;cases h;exact⟨⟨_,DE hu,λx y G H Q s hx hy k=>⟨G,d1,d2,s,hx,hy,c.1,c.2,k _ G H (.refl s) (.bool _)⟩⟩,⟨_,DF hu,λx y G H Q s hx hy k=>⟨G,d1,d2,s,hx,hy,c.1,c.2,k _ G H (.refl s) (.bool _)⟩⟩⟩
  .cases h
 have inc:∀t,inD d1 d2=some t->(∃r,OpR X (compareOp .In) r/\R2r X.K r d1 d2 (.bool t))/\∃r,OpR X (compareOp .NotIn) r/\R2r X.K r d1 d2 (.bool (!t)):=by
  clear h eqc;intro t h;unfold inD at h;cases d2 with
  |str y=>
   cases d1 with
   |str x=>
    cases h;refine⟨⟨_,sD,λu v G H Q s hx hy k=>⟨x,y,hx.str.1,hy.str.1,k _ G H (.refl s) (.bool _)⟩⟩,⟨_,lh,λu v G H Q s hx hy k=>⟨x,y,hx.str.1,hy.str.1,k _ G H (.refl s) (.bool _)⟩⟩⟩
   |_=>cases h
  |list ds=>
   dsimp only at h;split at h
   .rename_i c
    rw[be0]at c;cases h;exact⟨⟨_,vC hu,λu v G H Q s hx hy k=>let ⟨vs,r⟩:=hy.dpsL;⟨G,d1,ds,vs,s,hx,r,.inl hy,c.1,c.2,k _ G H (.refl s) (.bool _)⟩⟩,⟨_,kg hu,λu v G H Q s hx hy k=>let ⟨vs,r⟩:=hy.dpsL;⟨G,d1,ds,vs,s,hx,r,.inl hy,c.1,c.2,k _ G H (.refl s) (.bool _)⟩⟩⟩
   .cases h
  |tuple ds=>
   dsimp only at h;split at h
   .rename_i c
    rw[be0]at c;cases h;exact⟨⟨_,vC hu,λu v G H Q s hx hy k=>let ⟨vs,r⟩:=hy.dpsT;⟨G,d1,ds,vs,s,hx,r,.inr hy,c.1,c.2,k _ G H (.refl s) (.bool _)⟩⟩,⟨_,kg hu,λu v G H Q s hx hy k=>let ⟨vs,r⟩:=hy.dpsT;⟨G,d1,ds,vs,s,hx,r,.inr hy,c.1,c.2,k _ G H (.refl s) (.bool _)⟩⟩⟩
   .cases h
  |dict kvs=>
   obtain⟨key,e1,e2⟩:=mx0 h;subst e2;refine⟨⟨_,DG hu1,λu v G H Q s hx hy k=>?_⟩,⟨_,sR hu1,λu v G H Q s hx hy k=>?_⟩⟩
   .obtain⟨a,vs,rfl,h1,r1⟩:=hy.dct s
    refine⟨a,vs,key,rfl,bo hx e1,h1,?_⟩;have e:(bw vs key).isSome=(look kvs key).isSome:=by
     rcases r1.look (k:=key)with⟨q1,q2⟩|⟨d,v,q1,q2,_⟩<;>rw[q1,q2]<;>rfl
    rw[e];exact k _ G H (.refl s) (.bool _)
   .obtain⟨a,vs,rfl,h1,r1⟩:=hy.dct s
    refine⟨a,vs,key,rfl,bo hx e1,h1,?_⟩;have e:(bw vs key).isSome=(look kvs key).isSome:=by
     rcases r1.look (k:=key)with⟨q1,q2⟩|⟨d,v,q1,q2,_⟩<;>rw[q1,q2]<;>rfl
    rw[e];exact k _ G H (.refl s) (.bool _)
  |_=>cases h
 cases op with
 |Lt=>
  cases ho;clear eqc inc;cases d1 with
  |int i=>cases d2 with
   |int j=>cases h;exact⟨_,GO,mP λb=>.bool _⟩
   |_=>cases h
  |str x=>cases d2 with
   |str y=>cases h;exact⟨_,sC,λu v G H Q s hx hy k=>⟨x,y,hx.str.1,hy.str.1,k _ G H (.refl s) (.bool _)⟩⟩
   |_=>cases h
  |_=>cases h
 |LtE=>
  cases ho;clear eqc inc;cases d1 with
  |int i=>cases d2 with
   |int j=>cases h;exact⟨_,GP,mP λb=>.bool _⟩
   |_=>cases h
  |str x=>cases d2 with
   |str y=>cases h;exact⟨_,sS,λu v G H Q s hx hy k=>⟨x,y,hx.str.1,hy.str.1,k _ G H (.refl s) (.bool _)⟩⟩
   |_=>cases h
  |_=>cases h
 |Gt=>
  cases ho;clear eqc inc;cases d1 with
  |int i=>cases d2 with
   |int j=>cases h;exact⟨_,GQ,mP λb=>.bool _⟩
   |_=>cases h
  |_=>cases h
 |GtE=>cases ho
 |Eq=>cases ho;rw[Dq]at h;exact (eqc t h).1
 |NotEq=>
  cases ho;rw[Ds]at h;obtain⟨t',h1,rfl⟩:=mx0 h;exact (eqc t' h1).2
 |In=>cases ho;rw[Dt]at h;exact (inc t h).1
 |NotIn=>
  cases ho;rw[sQ]at h;obtain⟨t',h1,rfl⟩:=mx0 h;exact (inc t' h1).2
 |Is=>
  cases ho;have h':(if d2=.none then some (decide (d1=.none))else .none)=some t:=by clear eqc inc;cases d1<;>exact h
  split at h'
  .rename_i c
   subst c;cases h';refine⟨_,CQ,λx y G H Q s hx hy k=>⟨hy.none,?_⟩⟩;have e:decide (x=V.non)=decide (d1=D.none):=by
    by_cases c:d1=.none
    .subst c;rw[hx.none];simp
    .rw[df0 c]
     refine df0 λz=>?_
     subst z;cases hx with|of hx=>cases hx;exact c rfl
   rw[e];exact k _ G H (.refl s) (.bool _)
  .cases h'
 |IsNot=>
  cases ho;have h':(if d2=.none then some (!decide (d1=.none))else .none)=some t:=by clear eqc inc;cases d1<;>exact h
  split at h'
  .rename_i c
   subst c;cases h';refine⟨_,zg,λx y G H Q s hx hy k=>⟨hy.none,?_⟩⟩;have e:decide (x=V.non)=decide (d1=D.none):=by
    by_cases c:d1=.none
    .subst c;rw[hx.none];simp
    .rw[df0 c]
     refine df0 λz=>?_
     subst z;cases hx with|of hx=>cases hx;exact c rfl
   rw[e];exact k _ G H (.refl s) (.bool _)
  .cases h'
def dM{op}{b}(h:isSet b=false):behindInMarks op b=false:=by cases b<;>first|rfl|cases h
section
def vD:OpR X (binaryOp .Mult) (λx y H Q=>∃z n,x=.str z/\y=.int n/\MulOk z n/\Q (.str (Txt.mul z n)) H):=by
 intro pins s σ H x y v u Q I rx ry h;obtain⟨z,n,rfl,rfl,ok,q⟩:=h;obtain⟨t,rfl⟩:=rx;obtain⟨t',rfl⟩:=ry;exact SB.mul ok λt' k=>⟨.str _,H,I.tok k,⟨_,rfl⟩,q⟩
set_option tactic.hygienic true
def vF{op}{o}(ho:cOp op=some o)(h:opD o d1 d2=some d)(ha:Er X Y a d1)(hb:Er X Y b d2):Ev X Y (.BinOp a op b pos) d/\(bc d=true->En X Y (.BinOp a op b pos) d):=by
 have new:En X Y (.BinOp a op b pos) d->Ev X Y (.BinOp a op b pos) d/\(bc d=true->En X Y (.BinOp a op b pos) d):=λq=>⟨q.ev,λe=>q⟩
 have old:bc d=false->Ev X Y (.BinOp a op b pos) d->Ev X Y (.BinOp a op b pos) d/\(bc d=true->En X Y (.BinOp a op b pos) d):=λz q=>⟨q,λc=>by rw[z]at c;cases c⟩
 cases op with
 |Add=>
  cases ho;cases d1 with
  |int i=>cases d2 with
   |int j=>cases h;exact old rfl (ev_op CN ha hb (mP λe=>.int _))
   |_=>cases h
  |str x=>cases d2 with
   |str y=>
    rw[zA]at h;split at h
    .rename_i c;cases h;rw[big_eq]at c;exact old rfl (ev_op op_add_str ha hb ((have h:=c;λu v G H Q s hx hy k=>by
      obtain⟨rfl,o1⟩:=hx.str;obtain⟨rfl,o2⟩:=hy.str;exact⟨x,y,rfl,rfl,h,k _ G H (.refl s) (.str _ (fM o1 o2))⟩)))
    .cases h
   |_=>cases h
  |list ds=>cases d2 with
   |list es=>
    rw[zB]at h;split at h
    .rename_i c;cases h;rw[big_eq]at c;exact new (en_op op_cat ha hb ((have h:=c;λx y G H Q s hx hy k=>by
      obtain⟨a,vs,rfl,h1,r1⟩:=hx.lst s;obtain⟨b,ws,rfl,h2,r2⟩:=hy.lst s;exact⟨a,b,vs,ws,rfl,rfl,h1,h2,by rwa [<-r1.length,<-r2.length],λp hp=>k p G _ (.hid s hp) (s.free hp) hp (.inl ⟨_,_,rfl,ae,r1.append r2⟩)⟩)))
    .cases h
   |_=>cases h
  |_=>cases h
 |Sub=>
  cases ho;cases d1 with
  |int i=>cases d2 with
   |int j=>cases h;exact old rfl (ev_op CO ha hb (mP λe=>.int _))
   |_=>cases h
  |_=>cases h
 |Mult=>
  cases ho;cases d1 with
  |int i=>cases d2 with
   |int j=>
    rw[qL]at h;split at h
    .rename_i c;cases h;exact old rfl (ev_op op_mul ha hb (r2_I ((by
      have h:=c;unfold SI.pf at h;rw[Bool.or_eq_true,be0,be0]at h;rcases h with⟨h1,h2⟩|⟨h1,h2⟩
      .exact .inl ⟨od0 h1,od0 h2⟩
      .exact .inr ⟨od0 h1,od0 h2⟩)) λe=>.int _))
    .cases h
   |_=>cases h
  |str x=>cases d2 with
   |int j=>
    rw[zD]at h;split at h
    .rename_i c
     cases h;refine old rfl (ev_op vD ha hb λu v G H Q s hx hy k=>?_);obtain⟨rfl,o1⟩:=hx.str;refine⟨x,j,rfl,hy.int,(by
       have h1:=c.2.1;have h2:=c.2.2;have h0:=c.1;refine⟨?_,λh3 e=>?_,λh3 e=>?_⟩
       .rw[df0 (by grind),df0 (by grind)];rfl
       .intro h4
        have:(1000:Int)<=(2 ^ 63-1) / j:=by
         rw[Int.le_ediv_iff_mul_le (by grind)]
         grind
        grind
       .have h5:x.length*j.toNat<=1000*1000:=Nat.mul_le_mul h2 (by simp_all)
        exact df0 (by rw[sizeLine_eq];grind)),?_⟩
     rw[mul_eq];exact k _ G H (.refl s) (.str _ ((by
       have h:=o1;rw[strOk_iff]at h ⊢
       simp_all)))
    .cases h
   |_=>cases h
  |list ds=>cases d2 with
   |int j=>
    rw[zC]at h;split at h
    .rename_i c
     cases h;unfold vh at c;rw[be0,be0]at c;exact new (en_op CY ha hb ((have h1:=(od0 c.1.1);have h2:=(od0 c.1.2);have h:ds.length*j.toNat<=sizeLine:=(by rw[<-big_eq];exact od0 c.2);λx y G H Q s hx hy k=>by
       obtain⟨a,vs,rfl,h3,r1⟩:=hx.lst s;exact⟨a,j,vs,rfl,hy.int,h3,h1,h2,by rwa [<-r1.length],λp hp=>k p G _ (.hid s hp) (s.free hp) hp (.inl ⟨_,_,rfl,ae,r1.rep _⟩)⟩)))
    .cases h
   |_=>cases h
  |_=>cases h
 |Mod=>
  cases ho;cases d1 with
  |int i=>cases d2 with
   |int j=>
    rw[zE]at h;split at h
    .rename_i c;cases h;exact old rfl (ev_op op_mod ha hb (r2_I c λe=>.int _))
    .cases h
   |_=>cases h
  |_=>cases h
 |FloorDiv=>
  cases ho;cases d1 with
  |int i=>cases d2 with
   |int j=>
    rw[zF]at h;split at h
    .rename_i c;cases h;exact old rfl (ev_op op_fdiv ha hb (r2_I c λe=>.int _))
    .cases h
   |_=>cases h
  |_=>cases h
 |_=>cases ho
def DH{i:Int}(ha:Ev X Y a (.int i)):Ev X Y (.UnaryOp .USub a pos) (.int (-i)):=λpins s σ H Q I ⟨G0,H0,G,E,k⟩=>
 GM CP ha pins s σ H Q I ⟨G0,H0,G,E,λv G1 H1 e1 r1=>by
  cases r1;exact⟨i,rfl,k _ G1 H1 e1 (.int _)⟩⟩
def zK(hu:X.A.units+1<cLine):IxR X (λx y H Q=>∃p kvs k v,x=.ref p/\y=kV k/\H p=some (.dK kvs)/\bw kvs k=some v/\Q v H):=by
 intro value slice pins s σ H x y v u Q I rx ry h hs;obtain⟨p,kvs,k,z,rfl,rfl,hp,he,q⟩:=h;cases rx;have g:DGet H p (kV k) (some z):=by rw[<-he];exact DGet.k hp
 exact tail_any (mC I g) PySem.F.slot_dict_getitem.lookup (sM hu I g ry λw' s' I' rw'=>⟨z,H,I',rw',q⟩) hs
def kh{c}(h:c<0x110000):PyData.strOk ⟨#[c]⟩=true:=by
 unfold PyData.strOk;simp;exact h
def sU(hu:X.A.units+1<cLine)(h:ph d1 d2=some d)(ha:Er X Y a d1)(hb:Ev X Y b d2)(hs:isSlice b=false):Ev X Y (.Subscript a b pos) d:=by
 cases d1 with
 |list ds=>
  cases d2 with
  |int i=>
   refine mO qF ha hb (λu v G H Q s hx hy q=>?_) hs;obtain⟨p,vs,rfl,h1,r⟩:=hx.lst s;obtain⟨w,e,dw⟩:=r.atI h;exact⟨p,vs,i,w,rfl,hy.int,SqL.of h1,e,q _ G H (.refl s) dw⟩
  |_=>cases h
 |tuple ds=>
  cases d2 with
  |int i=>
   refine mO oX ha hb (λu v G H Q s hx hy q=>?_) hs;obtain⟨p,vs,rfl,h1,r⟩:=hx.tup s;obtain⟨w,e,dw⟩:=r.atI h;exact⟨p,vs,i,w,rfl,hy.int,SqT.of h1,e,q _ G H (.refl s) dw⟩
  |_=>cases h
 |scr ns=>
  cases d2 with
  |int i=>
   refine mO qF ha hb (λu v G H Q s hx hy q=>?_) hs;obtain⟨p,rfl,h1⟩:=hx.scr s;obtain⟨n,e,rfl⟩:=mx0 h;have e':L2.atI (ns.map V.int) i=some (.int n):=by
    rw[vp]at e;unfold L2.atI at e ⊢;rw[lm0];cases q:L2.ixN ns.length i with
    |none=>rw[q]at e;cases e
    |some j=>
     rw[q]at e;show (ns.map V.int)[j]?=_;rw[gm0,show ns[j]?=some n from e];rfl
   exact⟨p,_,i,_,rfl,hy.int,h1,e',q _ G H (.refl s) (.int n)⟩
  |_=>cases h
 |str x=>
  cases d2 with
  |int i=>
   rw[zG]at h;split at h
   .rename_i hz
    rw[big_eq]at hz;obtain⟨k,e,rfl⟩:=mx0 h;refine mO CV ha hb (λu v G H Q s hx hy q=>?_) hs;obtain⟨rfl,o⟩:=hx.str;refine⟨x,i,k,rfl,hy.int,hz,e,q _ G H (.refl s) (.str _ (kh ?_))⟩;obtain⟨j,_,e2,_⟩:=iq e;exact strOk_iff.mp o k (mg0 e2)
   .cases h
  |_=>cases h
 |dict kvs=>
  obtain⟨key,e1,e2⟩:=bx0 h;refine mO (zK hu) ha hb (λu v G H Q s hx hy q=>?_) hs;obtain⟨p,vs,rfl,h1,r⟩:=hx.dct s;rcases r.look (k:=key)with⟨q1,_⟩|⟨d',w,q1,q2,dw⟩
  .rw[e2]at q1;cases q1
  .rw[e2]at q1;cases q1
   exact⟨p,vs,key,w,rfl,bo hy e1,h1,q2,q _ G H (.refl s) dw⟩
 |_=>cases h
set_option tactic.hygienic false
noncomputable def tPt(K:Fg)(Y:List Sl)(o:Option Int):TO:=λσ H Q=>∃G0 H0 G,EnvD K G0 H0 G H σ Y/\∀G' H',Ext G H G' H'->Q o H'
def vG:PO X .none (tPt X.K Y .none):=by rintro pins s σ H Q I ⟨G0,H0,G,E,k⟩;exact zm pins s σ H Q I (k G H (.refl E.sub))
def vH{i:Int}(h:Ev X Y a (.int i)):PO X (some a) (tPt X.K Y (some i)):=λpins s σ H Q I ⟨G0,H0,G,E,k⟩=>
 zo h pins s σ H Q I ⟨G0,H0,G,E,λv G1 H1 e1 r1=>by
  cases r1;exact⟨i,rfl,k G1 H1 e1⟩⟩
def sV{lo hi:Option Expr}{l h:Option Int}(ha:Er X Y a (.list ds))(hl:PO X lo (tPt X.K Y l))(hh:PO X hi (tPt X.K Y h)):En X Y (.Subscript a (.Slice lo hi .none p2) pos) (.list (SI.cut ds l h)):=
 λpins s σ H Q I ⟨G0,H0,G,E,k⟩=>uV qG ha hl hh pins s σ H Q I ⟨G0,H0,G,E,λv G1 H1 e1 r1=>⟨G0,H0,G1,E.step e1,λG2 H2 e2=>⟨G0,H0,G2,(E.step e1).step e2,λG3 H3 e3=>by
  obtain⟨p,vs,rfl,h1,r⟩:=((r1.ext e2).ext e3).lst e3.gh;have e:=e1.trans (e2.trans e3);exact⟨p,vs,rfl,SqL.of h1,λq hq=>k q G3 _ (e.trans (.hid e3.gh hq)) (e3.gh.free hq) (e.hh.free hq) (.inl ⟨_,_,rfl,ae,r.cut l h⟩)⟩⟩⟩⟩
def DI(h:Ea X Y [] es ds)(hz:ds.length<=1000):En X Y (.List es pos) (.list ds):=λpins s σ H Q I ⟨G0,H0,G,E,k⟩=>
 uR h pins s σ H Q I ⟨G0,H0,G,E,λvs G1 H1 e1 r=>⟨by rw[<-r.length];exact Nat.le_of_lt (cX hz),λp hp=>
  k p G1 _ (e1.trans (.hid e1.gh hp)) (e1.gh.free hp) (e1.hh.free hp) (.inl ⟨_,_,rfl,ae,r.dps⟩)⟩⟩
def DJ{x1}(h:Ea X Y [] es ds)(hz:ds.length<=1000):Ev X Y (.Tuple es x1 pos) (.tuple ds):=λpins s σ H Q I ⟨G0,H0,G,E,k⟩=>
 uQ h pins s σ H Q I ⟨G0,H0,G,E,λvs G1 H1 e1 r=>⟨by rw[<-r.length];exact Nat.le_of_lt (cX hz),λp hp=>
  k _ _ _ (e1.trans (.laid e1.gh hp)) (.tuple ae (r.dps.mono (aF (e1.gh.free hp))))⟩⟩
def gY{K}{G}{ds}{vs}(r:Dps K G ds vs):(!ds.isEmpty)=!vs.isEmpty:=by cases r<;>rfl
def mR{G:Hp}{ds:List (Key×D)}{vs:List (Key×V)}(r:Dks K G ds vs):(!ds.isEmpty)=!vs.isEmpty:=by cases r<;>rfl
set_option tactic.hygienic true in
def DK{G:Hp}{v:V}(s:Same G H)(h:Dr K G H d v)(ht:fJ d=some t):CS K v H t:=by
 cases d with
 |none=>rw[h.none];cases ht;rfl
 |bool b=>rw[h.bool];cases ht;rfl
 |int i=>rw[h.int];cases ht;rfl
 |str x=>
  rw[h.str.1];rw[vk]at ht;split at ht
  .rename_i c;cases ht;rw[big_eq]at c;exact⟨c,rfl⟩
  .cases ht
 |tuple ds=>obtain⟨a,vs,rfl,h1,r⟩:=h.tup s;cases ht;exact .inr (.inl ⟨vs,SqT.of h1,gY r⟩)
 |list ds=>obtain⟨a,vs,rfl,h1,r⟩:=h.lst s;cases ht;exact .inl ⟨vs,SqL.of h1,gY r⟩
 |dict kvs=>obtain⟨a,vs,rfl,h1,r⟩:=h.dct s;cases ht;exact .inr (.inr ⟨vs,h1,mR r⟩)
 |scr ns=>obtain⟨a,rfl,h1⟩:=h.scr s;cases ht;exact .inl ⟨_,h1,by cases ns<;>rfl⟩
 |vlt=>cases ht
 |hdl=>cases ht
 |exc=>cases ht
 |fn=>cases ht
def iV(h:Er X Y a d)(ht:fJ d=some t)(he:∀whole,isTrue a X.env whole=(do let v ←whole;standAt a.pos;holding [v] (truthy v))):Et X Y a t:=
 λpins s σ H Q I ⟨G0,H0,G,E,k⟩=>uM h he pins s σ H Q I ⟨G0,H0,G,E,λv G1 H1 e1 r=>⟨t,DK e1.gh r ht,k G1 H1 e1⟩⟩
variable {u:Bool}
def DL(h:Et X Y a t):Et X Y (.UnaryOp .Not a pos) (!t):=λpins s σ H Q I h0=>CI h pins s σ H Q I (let ⟨G0,H0,G,E,k⟩:=h0;⟨G0,H0,G,E,k⟩)
def zL(h:Et X Y a t):Ew X Y (.BoolOp .And [a] pos) t:=ze h
def DM(h:Et X Y a t):Ew X Y (.BoolOp .Or [a] pos) t:=uE h
def zM(h:Et X Y a true)(q:Ew X Y (.BoolOp .And (b::r) pos) u):Ew X Y (.BoolOp .And (a::b::r) pos) u:=by
 intro whole pins s σ H Q I h0;obtain⟨G0,H0,G,E,k⟩:=h0;exact uF h q whole pins s σ H Q I ⟨G0,H0,G,E,λG1 H1 e1=>iteT ⟨G0,H0,G1,E.step e1,λG2 H2 e2=>k G2 H2 (e1.trans e2)⟩⟩
def zN(h:Et X Y a false):Ew X Y (.BoolOp .And (a::b::r) pos) false:=by
 intro whole pins s σ H Q I h0;obtain⟨G0,H0,G,E,k⟩:=h0;exact uF (tB':=λc c c=>False) h (λc c c c c c c z=>z.elim) whole pins s σ H Q I ⟨G0,H0,G,E,λG1 H1 e1=>gu (k G1 H1 e1)⟩
def vI(h:Et X Y a false)(q:Ew X Y (.BoolOp .Or (b::r) pos) u):Ew X Y (.BoolOp .Or (a::b::r) pos) u:=by
 intro whole pins s σ H Q I h0;obtain⟨G0,H0,G,E,k⟩:=h0;exact qw h q whole pins s σ H Q I ⟨G0,H0,G,E,λG1 H1 e1=>gu ⟨G0,H0,G1,E.step e1,λG2 H2 e2=>k G2 H2 (e1.trans e2)⟩⟩
def pD(h:Et X Y a true):Ew X Y (.BoolOp .Or (a::b::r) pos) true:=by
 intro whole pins s σ H Q I h0;obtain⟨G0,H0,G,E,k⟩:=h0;exact qw (tB':=λc c c=>False) h (λc c c c c c c z=>z.elim) whole pins s σ H Q I ⟨G0,H0,G,E,λG1 H1 e1=>iteT (k G1 H1 e1)⟩
def DN{op}(h:Ev X Y a d):Ev X Y (.BoolOp op [a] pos) d:=CJ h
def zO(h:Ev X Y a (.bool true))(q:Ev X Y (.BoolOp .And (b::r) pos) d):Ev X Y (.BoolOp .And (a::b::r) pos) d:=by
 intro pins s σ H Q I h0;obtain⟨G0,H0,G,E,k⟩:=h0;exact oI h q pins s σ H Q I ⟨G0,H0,G,E,λv G1 H1 e1 r1=>by
  cases r1;exact⟨true,rfl,iteT ⟨G0,H0,G1,E.step e1,λv G2 H2 e2 r2=>k v G2 H2 (e1.trans e2) r2⟩⟩⟩
def zP(h:Ev X Y a (.bool false)):Ev X Y (.BoolOp .And (a::b::r) pos) (.bool false):=by
 intro pins s σ H Q I h0;obtain⟨G0,H0,G,E,k⟩:=h0;exact oI (tb:=λc c c=>False) h (λc c c c c c z=>z.elim) pins s σ H Q I ⟨G0,H0,G,E,λv G1 H1 e1 r1=>by
  cases r1;exact⟨false,rfl,gu (k _ G1 H1 e1 (.bool _))⟩⟩
def DO(h:Ev X Y a (.bool false))(q:Ev X Y (.BoolOp .Or (b::r) pos) d):Ev X Y (.BoolOp .Or (a::b::r) pos) d:=by
 intro pins s σ H Q I h0;obtain⟨G0,H0,G,E,k⟩:=h0;exact BA h q pins s σ H Q I ⟨G0,H0,G,E,λv G1 H1 e1 r1=>by
  cases r1;exact⟨false,rfl,gu ⟨G0,H0,G1,E.step e1,λv G2 H2 e2 r2=>k v G2 H2 (e1.trans e2) r2⟩⟩⟩
def DP(h:Ev X Y a (.bool true)):Ev X Y (.BoolOp .Or (a::b::r) pos) (.bool true):=by
 intro pins s σ H Q I h0;obtain⟨G0,H0,G,E,k⟩:=h0;exact BA (tb:=λc c c=>False) h (λc c c c c c z=>z.elim) pins s σ H Q I ⟨G0,H0,G,E,λv G1 H1 e1 r1=>by
  cases r1;exact⟨true,rfl,iteT (k _ G1 H1 e1 (.bool _))⟩⟩
def DQ(h:Ev X Y a (.bool t)):Ev X Y (.UnaryOp .Not a pos) (.bool (!t)):=λpins s σ H Q I ⟨G0,H0,G,E,k⟩=>
 CK h pins s σ H Q I ⟨G0,H0,G,E,λv G1 H1 e1 r1=>by
  cases r1;exact⟨t,rfl,k _ G1 H1 e1 (.bool _)⟩⟩
def DR(h:Et X Y c true)(ha:Ev X Y a d):Ev X Y (.IfExp c a b pos) d:=by
 intro pins s σ H Q I h0;obtain⟨G0,H0,G,E,k⟩:=h0;exact fB (tb:=λe e e=>False) h ha (λe e e e e e z=>z.elim) pins s σ H Q I ⟨G0,H0,G,E,λG1 H1 e1=>iteT ⟨G0,H0,G1,E.step e1,λv G2 H2 e2 r=>k v G2 H2 (e1.trans e2) r⟩⟩
def DS(h:Et X Y c false)(hb:Ev X Y b d):Ev X Y (.IfExp c a b pos) d:=by
 intro pins s σ H Q I h0;obtain⟨G0,H0,G,E,k⟩:=h0;exact fB (ta:=λe e e=>False) h (λe e e e e e z=>z.elim) hb pins s σ H Q I ⟨G0,H0,G,E,λG1 H1 e1=>gu ⟨G0,H0,G1,E.step e1,λv G2 H2 e2 r=>k v G2 H2 (e1.trans e2) r⟩⟩
end
def vJ{bs:List Bool}(r:Vals vs us)(e:vs=bs.map V.bl):LSm.BoolsAre us bs:=by
 induction r generalizing bs with
 |nil=>
  cases bs with
  |nil=>exact .nil
  |cons b q=>cases e
 |cons r1 _ ih=>
  cases bs with
  |nil=>cases e
  |cons b q=>
   rw[mk0]at e;injection e with e1 e2
   subst e1;cases r1;exact .cons b (ih e2)
def vK(hc:X.calm=true):ba X (.builtin "all") (λxs H Q=>∃(p:Addr)(bs:List Bool),xs=[.ref p]/\SqL X.K H p (bs.map V.bl)/\Q (.bl (bs.all id)) H):=by
 intro pins s σ H xs us Q I r h;obtain⟨p,bs,rfl,hq,q⟩:=h;obtain⟨u,rfl,rx⟩:=vals1 r;cases rx;obtain⟨its,r',pl,hz⟩:=I.list hq;have hl:=pl.isList;have hb:=vJ r' rfl;have hlt:p<s.heap.objs.size:=by obtain⟨_,e,_⟩:=hl;exact hs0 e
 refine call_all_walk (wpAny_pyIter_list hl ?_);refine⟨s.heap.objs.size,[s.heap.objs.size,p],[s.heap.objs.size],its.toArray.size,_,_,λi=>(bs[i]?).getD true,rfl,Walks.list (A:=X.A.in1) (I.ok.hd hc) _ p (nn0 hlt) its.toArray,
  ⟨⟨_,pz0 _ rfl,rfl,rfl⟩,hl.push _⟩,λi v s' Q' E' hP hQ=>?_,λh' tk hk=>?_⟩
 .obtain⟨b,e,rfl⟩:=hb.get i v (by simpa using hP)
  simp only[e,Option.getD_some]at hQ;exact wpAny_truthy_bool hQ
 .have e:((List.range its.toArray.size).all λi=>(bs[i]?).getD true)=bs.all id:=by
   rw[ls0,hb.length];exact LSm.range_all bs
  rw[e];exact⟨.bl _,H,I.kept (LSm.kept_iter hk),rfl,q⟩
def eX:ba X (.type "tuple") (λxs H Q=>∃p ys,xs=[.ref p]/\SqL X.K H p ys/\ys.length<=sizeLine/\∀l,H l=.none->Q (.ref l) (upd H l (.tup ys))):=by
 intro pins s σ H xs us Q I r h;obtain⟨p,ys,rfl,hq,hz,q⟩:=h;obtain⟨u,rfl,rx⟩:=vals1 r;cases rx;obtain⟨its,r',pl,_⟩:=I.list hq;refine PySem.call_tuple_list pl.isList (λh' kp=>?_) (by rw[ls0,<-r'.length];exact hz);have I1:=I.kept (t':=s.toks) kp;exact⟨.ref h'.objs.size,_,I1.laid (t':=s.toks) (λb o e=>ps0 _ e) (nr0 _) (show ObjOk X.prog X.w _ _ _ (.tup ys)from⟨hz,its,r',IsTup.new _ _⟩),rfl,q _ (I1.hok.fresh (nr0 _))⟩
def mU{G:Hp}:∀{ds:List D}{vs:List V}{bs:List Bool},boolsOf ds=some bs->Dps K G ds vs->vs=bs.map V.bl:=by
 intro ds
 induction ds with
 |nil=>intro vs bs h q;cases q;cases h;rfl
 |cons d r ih=>
  intro vs bs h q;cases d with
  |bool b=>
   obtain⟨bs,e,rfl⟩:=mx0 (show (boolsOf r).map (b::·)=some _ from h);cases q with
   |cons d q=>cases d;rw[ih e q];rfl
  |_=>cases h
end L2.Z
namespace PySem
def sW:typeLookup (.type "list") ("keys":Str)=pure none:=by kernel_rfl
def lB:typeLookup (.type "list") ("__getattr__":Str)=pure none:=by kernel_rfl
def onH:onTheHeap (.type "list")=false:=by kernel_rfl
def zQ:[Str.ofString "__module__",Str.ofString "__name__",Str.ofString "__qualname__",Str.ofString "__doc__",Str.ofString "__annotations__"].contains ("keys":Str)=false:=by decide +kernel
def zR:Str.length ("keys":Str)+100<=sizeLine:=by decide +kernel
def ki:entryFor table "dict.update.loop"=some Builtin.«dict.update.loop»:=by kernel_rfl
def eF:plainId "dict.update.loop"=true:=by decide +kernel
section
variable {A:Around}{E:Value->Shared->Prop}
def sX{a:Addr}{Q:Option Value->Shared->Prop}{sl:Array (Option Value)}(hh:A.handled=none)(ho:s.heap.get? a=some {cls:=.type "list",data:=.seq xs n,slots:=sl})
  (h:∀h' tk,(∀b u,s.heap.get? b=some u->h'.get? b=some u)->Q none {s with heap:=h',toks:=tk}):
  wpAny (model prog w) A (getAttr? (.ref a) ("keys":Str)) Q E s:=by
 have hT:∀{s':Shared},s'.heap=s.heap->s'.TypeIs (.ref a) "list":=λe=>⟨_,by rw[e];exact ho,rfl⟩
 unfold getAttr? getAttrBy?;refine wb0 (m:=mkText _) (wb0 (wpAny_fresh' (wq0 ?_)));refine wb0 (wpAny_attempt ?_);unfold getAttrBy;refine wh0 ?_;refine wb0 (wpAny_typeOf (T:="list") (hT rfl) ?_);refine wb0 (wpAny_of_eq F.slot_list_getattribute.lookup ?_);dsimp only;rw[onH,Bool.false_and,if_neg fx0];unfold getAttrByItsOwn;refine wb0 (wpAny_of_eq (a:=none) (by unfold hookBefore;rw[onH];rfl) ?_);refine wb0 (wpAny_attempt (wh0 ?_));unfold callGetattribute boundAndCalled;rw[Bool.false_and,if_neg fx0];refine wb0 (wpAny_of_eq (F.slot_list_getattribute.bind _) ?_)
 dsimp only;have M:=meets_getattribute_miss_list a xs n sl ("keys":Str) s.toks sW zQ zR;show wpAny _ _ (call (.builtin "list.__getattribute__") [.ref a,.str ("keys":Str) s.toks]) _ _ _;refine call_meets F.slot_list_getattribute (hT rfl) am_entry_list_getattribute (F.args_list_getattribute_2 _ _) M ?_;refine And.intro ho (And.intro hh ?_);intro h' tk e ne;obtain⟨t,u,he⟩:=ne.there;show wpAny _ _ (getattributeRaised _ _ _ _ _ _ _) _ _ _;unfold getattributeRaised;refine wb0 (wpAny_isInstance (T:="AttributeError") ⟨_,he,rfl⟩ sub_AttributeError ?_);rw[if_pos rfl];refine wb0 (wpAny_of_eq (a:=none) (by unfold hookBehind;rw[onH];exact lB) ?_)
 show wpAny _ _ (do let __r ←throw _;_) _ _ _;refine wb0 (wpAny_throw ?_);refine wb0 (wpAny_isInstance (T:="AttributeError") ⟨_,he,rfl⟩ sub_AttributeError ?_);rw[if_pos rfl];exact wq0 (h h' tk ne.keeps)
end
section
variable {A:Around}{E:Value->Shared->Prop}
def bq{a b}{o u}(ha:h.get? a=some o)(hb:h.get? b=some u)(hc:o.cls≠u.cls):a≠b:=λe=>by subst e;rw[ha]at hb;cases hb;exact hc rfl
abbrev pE(h:Heap)(v key val:Value):Prop:=∃t o n,v=.ref t/\h.get? t=some o/\o.cls=.type "tuple"/\o.data=.seq #[key,val] n
def iW{K:Type}[DecidableEq K]{knd:KeyKind prog w K}{d:Addr}{kvs:List (K×Value)}(hd:Heap.DictOf knd h d kvs):∃o,h.get? d=some o/\o.cls=.type "dict":=by
 obtain⟨o,es,ep,ho,hx,_⟩:=hd;exact⟨o,ho,hx.1⟩
def gG{K:Type}[DecidableEq K]{knd:KeyKind prog w K}{d:Addr}{kvs:List (K×Value)}(hd:Heap.DictOf knd h d kvs)(k:∀o,h.get? d=some o->h'.get? d=some o):Heap.DictOf knd h' d kvs:=by
 obtain⟨o,es,ep,ho,r⟩:=hd;exact⟨o,es,ep,k o ho,r⟩
def pF{K:Type}[DecidableEq K](kvs:List (K×Value))(k:K)(v:Value):(stored kvs k v).length<=kvs.length+1:=by
 unfold stored;split<;>simp
def sY{K:Type}[DecidableEq K]{knd:KeyKind prog w K}{it d:Addr}{ps:List (K×Value)}{R:Result->Shared->Prop}(hh:A.handled=none)(hz:items.size=ps.length):
  ∀(m i:Nat)(kvs:List (K×Value))(s:Shared),i+m=ps.length->s.heap.IsListIter it l i->s.heap.IsList l items->(∀(j:Nat)(k:K)(v:Value),ps[j]?=some (k,v)->∃u key,items[j]?=some u/\pE s.heap u key v/\knd.is k key=true)->
   Heap.DictOf knd s.heap d kvs->kvs.length+m<=sizeLine->
   (∀h' tk,Heap.DictOf knd h' d ((ps.drop i).foldl (λa p=>stored a p.1 p.2) kvs)->(∀b o,b≠it->b≠d->s.heap.get? b=some o->h'.get? b=some o)->R (.ok (.ret .none)) {s with heap:=h',toks:=tk})->
   codeAny (model prog w) A (.builtin "dict.update.loop" ⟨[.ref d,.ref it,rawInt i,.none],[]⟩) R s:=by
 intro m
 induction m with
 |zero=>
  intro i kvs s hm hi hl hp hd hb h;obtain⟨oi,ei,ci,_⟩:=id hi;obtain⟨od,ed,cd⟩:=iW hd;have nid:d≠it:=bq ed ei (by rw[cd,ci];decide);refine codeAny_builtin ki ?_;rw[ui0 eF];unfold Builtin.«dict.update.loop»;dsimp only;refine wb0 (wpAny_pyNext_list_end (show A.in1.handled=none from hh) hi hl (by rw[Array.getElem?_eq_none];omega) λh' eb=>?_);dsimp only;refine wb0 (m:=Builtin.Dict.addKeywords d []) (wb0 (wpAny_of_eq (a:=PUnit.unit) rfl (wq0 ?_)));refine wq0 (h h' s.toks ?_ λb o n1 n2 e=>eb b o n1 e);rw[List.drop_eq_nil_of_le (by omega)]
  exact gG hd λo e=>eb d o nid e
 |succ m ih=>
  intro i kvs s hm hi hl hp hd hb h;obtain⟨oi,ei,ci,_⟩:=id hi;obtain⟨od,ed,cd⟩:=iW hd;obtain⟨ol,el,cl,_⟩:=id hl;have nid:d≠it:=bq ed ei (by rw[cd,ci];decide);have nil':l≠it:=bq el ei (by rw[cl,ci];decide);have nld:l≠d:=bq el ed (by rw[cl,cd];decide);refine codeAny_builtin ki ?_;rw[ui0 eF];unfold Builtin.«dict.update.loop»;dsimp only;have hlt:i<ps.length:=by omega
  have hg:ps[i]?=some (ps[i].1,ps[i].2):=ge0 hlt;obtain⟨u,key,hu,⟨t,o,n,rfl,ht,htc,htd⟩,hk⟩:=hp i _ _ hg;have nti:t≠it:=bq ht ei (by rw[htc,ci];decide);refine wb0 (wpAny_pyNext_list_item hi hl hu λh1 hi' sb=>?_);have k1:∀{b:Addr},b≠it->∀o,s.heap.get? b=some o->h1.get? b=some o:=λhb o e=>(sb.2 _ hb).trans e
  have ht1:=k1 nti _ ht;dsimp only;refine wb0 (wh0 (wb0 (wpAny_tryCatch ?_)));unfold Builtin.Dict.pairItems;refine wb0 (wpAny_typeOf (T:="tuple") ⟨_,ht1,htc⟩ ?_);rw[if_pos (by rfl)];refine wb0 (wpAny_seqItems ht1 htd (wq0 ?_));show wpAny _ _ (holding [key,_] (dictSet d key _)) _ _ _;refine wh0 (wpAny_dictSet_pairs hk (gG hd (k1 nid)) (λh2 hd2 sb2=>?_) (by omega));have k2:∀{b:Addr},b≠d->∀o,h1.get? b=some o->h2.get? b=some o:=λhb o e=>(sb2.2 _ hb).trans e
  refine wq0 ⟨plainId_quiet eF _,?_⟩;have key2:=ih (i+1) (stored kvs ps[i].1 ps[i].2) {s with heap:=h2,toks:=s.toks+1} (by omega) (hi'.at (k2 nid.symm)) ((hl.at (k1 nil')).at (k2 nld)) (λj k v hj=>?_) hd2 ?_ λh' tk a1 a2=>?_
  .exact key2
  .obtain⟨u',key',hu',⟨t',o',n',rfl,ht',htc',htd'⟩,hk'⟩:=hp j k v hj
   exact⟨_,key',hu',⟨t',o',n',rfl,k2 (bq ht' ed (by rw[htc',cd];decide)) _ (k1 (bq ht' ei (by rw[htc',ci];decide)) _ ht'),htc',htd'⟩,hk'⟩
  .have:=pF kvs ps[i].1 ps[i].2
   omega
  .refine h h' tk ?_ λb o n1 n2 e=>a2 b o n1 n2 (k2 n2 _ (k1 n1 _ e))
   rw[List.drop_eq_getElem_cons hlt];exact a1
def vL{n:Addr}{Q:Addr×List Value->Shared->Prop}(hD:s.heap.get? n=some {cls:=.type "dict",data:=.dict #[]})(h:Q (n,[.ref l]) s):wpAny (model prog w) A (Builtin.Dict.selfAndRest "__init__" ⟨[.ref n,.ref l],[]⟩) Q E s:=by
 unfold Builtin.Dict.selfAndRest
 wp_walk
 exact h
def ig{K:Type}[DecidableEq K]{knd:KeyKind prog w K}{ps:List (K×Value)}{sl:Array (Option Value)}(hh:A.handled=none)(hz:items.size=ps.length)(hb:ps.length<=sizeLine)
  (hl:s.heap.get? l=some {cls:=.type "list",data:=.seq items n,slots:=sl}) (hp:∀(j:Nat)(k:K)(v:Value),ps[j]?=some (k,v)->∃u key,items[j]?=some u/\pE s.heap u key v/\knd.is k key=true)
  (h:∀h' tk,Heap.DictOf knd h' s.heap.objs.size (ps.foldl (λa p=>stored a p.1 p.2) [])->(∀b o,s.heap.get? b=some o->h'.get? b=some o)->Q (.ref s.heap.objs.size) {s with heap:=h',toks:=tk}):
  wpAny (model prog w) A (call (.type "dict") [.ref l]) Q E s:=by
 refine callType_codes (Q₁:=λobj s₁=>obj=.ref s.heap.objs.size/\s₁={s with heap:=s.heap.push {cls:=.type "dict",data:=.dict #[]}}) F.kt_called_dict (F.kt_typeCall_dict_1 _) F.entry_dict_init (kt_code_dict_new _ ⟨rfl,rfl⟩) ?_
 rintro obj s₁ ⟨rfl,rfl⟩
 have hD:(s.heap.push {cls:=.type "dict",data:=.dict #[]}).get? s.heap.objs.size=some {cls:=.type "dict",data:=.dict #[]}:=pz0 _ rfl;refine⟨⟨_,hD,rfl⟩,F.args_dict_init_2 _ _,?_⟩;have hl1:(s.heap.push {cls:=.type "dict",data:=.dict #[]}).get? l=some {cls:=.type "list",data:=.seq items n,slots:=sl}:=ps0 _ hl;unfold Builtin.«dict.__init__»;refine wb0 (vL hD ?_);show wpAny _ _ (Builtin.Dict.updateFrom "dict.__init__" s.heap.objs.size (.ref l) [] .none) _ _ _;unfold Builtin.Dict.updateFrom;refine wb0 (wpAny_typeOf (T:="list") ⟨_,hl1,rfl⟩ ?_);rw[if_pos (by rfl)];refine wb0 (sX (show A.in1.in1.handled=none from hh) hl1 λh1 tk k1=>?_)
 rw[if_pos (show (none:Option Value).isNone=true from rfl)];refine wb0 (wpAny_rule ?_);have hL:h1.IsList l items:=⟨_,k1 _ _ hl1,rfl,n,rfl⟩;refine wb0 (wpAny_pyIter_list hL ?_);refine wq0 ⟨plainId_quiet eF _,?_⟩;have kk:∀b o,s.heap.get? b=some o->(h1.push {cls:=.type "list_iterator",data:=.fields #[.ref l,.int 0 0]}).get? b=some o:=λb o e=>ps0 _ (k1 _ _ (ps0 _ e))
 refine sY (knd:=knd) (l:=l) (items:=items) (ps:=ps) (show A.in1.handled=none from hh) hz ps.length 0 [] _ (by omega) ⟨_,pz0 _ rfl,rfl,rfl⟩ (hL.push _) (λj k v hj=>?_) (gG (Heap.DictOf.new s.heap) λo e=>ps0 _ (k1 _ _ e)) (by simpa using hb) λh' tk' a1 a2=>?_
 .obtain⟨u,key,hu,⟨t,o,m,rfl,ht,htc,htd⟩,hk⟩:=hp j k v hj
  exact⟨_,key,hu,⟨t,o,m,rfl,kk _ _ ht,htc,htd⟩,hk⟩
 .refine⟨rfl,h h' tk' a1 λb o e=>a2 b o (λz=>?_) (λz=>?_) (kk b o e)⟩
  .have:=hs0 (k1 _ _ (ps0 (h:=s.heap) {cls:=.type "dict",data:=.dict #[]} e))
   rw[z]at this;exact absurd this (li0 _)
  .have:=hs0 e
   rw[z]at this;exact absurd this (li0 _)
end
end PySem
namespace L2.Z
open PySem PySem.Spec PyProof.Rows L2 L2.C SI
inductive PrV (H:Hp):List V->List (Key×V)->Prop
 |nil:PrV H [] []
 |cons {t:Addr}{k:Key}{v:V}{ws:List V}{ps:List (Key×V)}:H t=some (.tup [kV k,v])->PrV H ws ps->PrV H (.ref t::ws) ((k,v)::ps)
theorem PrV.length{ws:List V}{ps:List (Key×V)}(h:PrV H ws ps):ws.length=ps.length:=by
 induction h with
 |nil=>rfl
 |cons _ _ ih=>rw[lc0,lc0,ih]
def sZ{ws:List V}{ps:List (Key×V)}(h:PrV H ws ps):∀{us:List Value},Vals ws us->HOk X.prog X.w H s.heap->∃qs:List (Key×Value),KV ps qs/\us.length=qs.length/\
  ∀(j:Nat)(k:Key)(v:Value),qs[j]?=some (k,v)->∃u key,us[j]?=some u/\pE s.heap u key v/\(av X.prog X.w).is k key=true:=by
 induction h with
 |nil=>intro us r _;cases r;exact⟨[],.nil,rfl,λj k v e=>by simp at e⟩
 |@cons t k v ws ps ht _ ih=>
  intro us r ok;cases r with
  |@cons _ u' _ us' r rr=>
   cases r;obtain⟨qs,q1,q2,q3⟩:=ih rr ok;obtain⟨_,its,rv,o,e,c,n,d⟩:=(show ObjOk X.prog X.w H s.heap t (.tup [kV k,v])from ok t _ ht);cases rv with
   |@cons _ x1 _ _ r1 rr1=>cases rr1 with
    |@cons _ x2 _ _ r2 rr2=>
     cases rr2;refine⟨(k,x2)::qs,.cons ⟨rfl,r2⟩ q1,by rw[lc0,lc0,q2],λj k' v' hj=>?_⟩;cases j with
     |zero=>
      cases hj;exact⟨_,x1,rfl,⟨t,o,n,rfl,e,c,d⟩,eY r1⟩
     |succ j=>exact q3 j k' v' hj
def pH(hcalm:X.calm=true):ba X (.type "dict") (λvs H Q=>∃a ws ps,vs=[.ref a]/\H a=some (.lst ws)/\PrV H ws ps/\∀p,H p=none->Q (.ref p) (upd H p (.dK (gy [] ps)))):=by
 intro pins s σ H vs us Q I r h;obtain⟨a,ws,ps,rfl,ha,hp,q⟩:=h;cases r with
 |cons r rr=>
  cases rr;cases r;obtain⟨hz,its,n,rv,hl,hg⟩:=I.lstM ha;obtain⟨qs,k1,k2,k3⟩:=sZ hp rv I.hok;refine ig (knd:=av X.prog X.w) (ps:=qs) (I.ok.hd hcalm) (by simpa using k2) (by rw[<-k2,<-hl];exact hz) hg (λj k v hj=>?_) λh' tk dd kk=>?_
  .obtain⟨u,key,a1,a2⟩:=k3 j k v hj
   exact⟨u,key,by simpa using a1,a2⟩
  .refine⟨.ref s.heap.objs.size,_,I.laid (a:=s.heap.objs.size) (o:=.dK (gy [] ps)) (t':=tk) kk (nr0 _) (dk_new ?_ (bn0 (Ne.symm (nn0 I.big))) (KV.merge k1 .nil) dd),rfl,q _ I.fresh⟩
   have:=eZ ps [];rw[<-hp.length]at this;simp only[List.length_nil,Nat.zero_add]at this;exact nt0 this hz
section
variable {G:Hp}
set_option tactic.hygienic true in
def pI{kvs:List (Key×V)}{k:Key}{v:V}(h:(kvs.map (·.1)).Nodup):((putK kvs k v).map (·.1)).Nodup:=by
 unfold putK;split
 .have e:(kvs.map λkv=>if kv.1=k then (kv.1,v)else kv).map (·.1)=kvs.map (·.1):=by
   rw[List.map_map]
   apply List.map_congr_left
   intro kv _;show (if kv.1=k then (kv.1,v)else kv).1=kv.1;split<;>rfl
  rw[e];exact h
 .rename_i c
  rw[List.map_append,mk0,List.map_nil,List.nodup_append];refine⟨h,by simp,λx hx y hy=>?_⟩;rw[List.mem_singleton]at hy;subst hy;intro e;subst e;obtain⟨kv,hkv,rfl⟩:=mm0 hx;exact c (List.any_eq_true.mpr ⟨kv,hkv,by simp⟩)
theorem Dks.put{d}{v}(hv:Dp K G d v):∀{kvs:List (Key×D)}{vs:List (Key×V)},Dks K G kvs vs->(vs.map (·.1)).Nodup->Dks K G (SI.put kvs key d) (putK vs key v)
 |_,_,.nil,_=>.cons hv .nil
 |_,_,.cons (k:=l) (v:=w) (ds:=ks) (vs:=ws) h r,nd=>by
  have nd':=nd;obtain⟨n1,n2⟩:=List.nodup_cons.mp nd';show Dks K G (if l=key then _ else _) _
  by_cases c:l=key
  .subst c
   rw[if_pos rfl];have e:putK ((l,w)::ws) l v=(l,v)::ws:=by
    unfold putK;rw[if_pos (by simp),mk0,if_pos rfl]
    congr 1
    conv=>rhs;rw[<-List.map_id ws]
    apply List.map_congr_left
    intro kv hkv;rw[if_neg]
    .rfl
    .intro z
     exact n1 (z▸List.mem_map.mpr ⟨kv,hkv,rfl⟩)
   rw[e];exact .cons hv r
  .rw[if_neg c]
   have e:putK ((l,w)::ws) key v=(l,w)::putK ws key v:=by
    unfold putK;rw[List.any_cons,df0 c,Bool.false_or];split
    .rw[mk0,if_neg c]
    .rfl
   rw[e];exact .cons h (Dks.put hv r n2)
theorem Dks.merge:∀{ps:List (Key×D)}{qs:List (Key×V)},Dks K G ps qs->∀{kvs:List (Key×D)}{vs:List (Key×V)},Dks K G kvs vs->(vs.map (·.1)).Nodup->Dks K G (putAll kvs ps) (gy vs qs)
 |_,_,.nil,_,_,r,_=>r
 |_,_,.cons (k:=l) h q,_,_,r,nd=>Dks.merge q (Dks.put h r nd) (pI nd)
def mV(s:Same G H):∀{ds:List D}{vs:List V}{ps:List (Key×D)},Dps K G ds vs->pairsOf ds=some ps->∃qs,PrV H vs qs/\Dks K G ps qs:=by
 intro ds
 induction ds with
 |nil=>intro vs ps r h;cases r;cases h;exact⟨[],.nil,.nil⟩
 |cons d r ih=>
  intro vs ps hr h;cases hr with
  |cons h1 h2=>
   match d,h,h1 with
   |.tuple [.int i,d'],h,h1=>
    obtain⟨qs,e,rfl⟩:=mx0 (show (pairsOf r).map _=some ps from h);obtain⟨us,p1,p2⟩:=ih h2 e;cases h1 with
    |tuple ht hd=>cases hd with
     |cons x1 hd=>cases hd with
      |cons x2 hd=>
       cases hd;cases x1;exact⟨_,.cons (k:=.inl i) (s _ _ ht) p1,.cons x2 p2⟩
   |.tuple [.str x,d'],h,h1=>
    obtain⟨qs,e,rfl⟩:=mx0 (show (pairsOf r).map _=some ps from h);obtain⟨us,p1,p2⟩:=ih h2 e;cases h1 with
    |tuple ht hd=>cases hd with
     |cons x1 hd=>cases hd with
      |cons x2 hd=>
       cases hd;cases x1;exact⟨_,.cons (k:=.inr x) (s _ _ ht) p1,.cons x2 p2⟩
end
end L2.Z
namespace PySem
def Ris(p:Array Nat):Prop:=p.toList.Pairwise (·<·)
def Ris.lt{p:Array Nat}(r:Ris p)(hj:j<p.size)(h:i<j):p[i]'(Nat.lt_trans h hj)<p[j]:=by
 have:=List.pairwise_iff_getElem.mp r i j (by simpa using Nat.lt_trans h hj) (by simpa using hj) h
 simpa using this
def Ris.le{p:Array Nat}(r:Ris p)(hj:j<p.size)(h:i<=j):p[i]'(Nat.lt_of_le_of_lt h hj)<=p[j]:=by
 rcases Nat.lt_or_eq_of_le h with h|rfl
 .exact Nat.le_of_lt (r.lt hj h)
 .exact nr0 _
set_option tactic.hygienic true in
theorem iX{p:Array Nat}(r:Ris p)(x:Nat):∀n lo hi,hi<=p.size->lo<=hi->hi-lo<=n->(∀i (h:i<p.size),i<lo->p[i]<x)->(∀i (h:i<p.size),hi<=i->x<=p[i])->
  SetTable.below.go p x n lo hi<=p.size/\∀i (h:i<p.size),p[i]<x↔i<SetTable.below.go p x n lo hi
 |0,lo,hi,h1,h2,h3,a,b=>by
  obtain rfl:lo=hi:=by omega
  exact⟨h1,λi h=>⟨λq=>Nat.lt_of_not_le λz=>absurd (b i h z) (by omega),a i h⟩⟩
 |n+1,lo,hi,h1,h2,h3,a,b=>by
  unfold SetTable.below.go;split
  .rename_i c
   have hm:(lo+hi) / 2<p.size:=by omega
   simp only;rw[show p.getD ((lo+hi) / 2) x=p[(lo+hi) / 2] from by simp[Array.getD,hm]];split
   .rename_i d
    exact iX r x n _ hi h1 (by omega) (by omega) (λi h q=>Nat.lt_of_le_of_lt (r.le hm (by omega)) d) b
   .rename_i d
    exact iX r x n lo _ (by omega) (by omega) (by omega) a λi h q=>nt0 (by omega) (r.le h q)
  .obtain rfl:lo=hi:=by omega
   exact⟨h1,λi h=>⟨λq=>Nat.lt_of_not_le λz=>absurd (b i h z) (by omega),a i h⟩⟩
def iY{p:Array Nat}(r:Ris p)(x:Nat):SetTable.below p x<=p.size/\∀i (h:i<p.size),p[i]<x↔i<SetTable.below p x:=
 iX r x _ 0 _ (nr0 _) (Nat.zero_le _) (by omega) (λa a q=>absurd q (Nat.not_lt_zero _)) λi h q=>absurd h (by omega)
def Ris.zero{p:Array Nat}(r:Ris p):SetTable.below p 0=0:=by
 obtain⟨a,b⟩:=iY r 0;rcases Nat.eq_zero_or_pos (SetTable.below p 0)with z|z
 .exact z
 .exact absurd ((b 0 (by omega)).mpr z) (Nat.not_lt_zero _)
def Ris.next{p:Array Nat}(r:Ris p)(e:p[i]?=some j):SetTable.below p (j+1)=i+1:=by
 obtain⟨h,rfl⟩:=Array.getElem?_eq_some_iff.mp e;obtain⟨a,b⟩:=iY r (p[i]+1);have:=(b i h).mp (Nat.lt_succ_self _);rcases Nat.lt_or_ge (i+1) (SetTable.below p (p[i]+1))with z|z
 .have:=(b (i+1) (by omega)).mpr z
  have:=r.lt (i:=i) (j:=i+1) (by omega) (by omega);omega
 .omega
def Ris.put{p:Array Nat}(r:Ris p)(ne:p[SetTable.below p j]?≠some j):Ris (SetTable.insertAt p (SetTable.below p j) j):=by
 obtain⟨a,b⟩:=iY r j;generalize SetTable.below p j=k at a b ne;unfold SetTable.insertAt Ris;have e:((p.extract 0 k).push j++p.extract k p.size).toList=p.toList.take k++j::p.toList.drop k:=by
  simp[Array.toList_extract,List.extract_eq_take_drop];exact List.take_of_length_le (by simp)
 rw[e];have r:p.toList.Pairwise (·<·):=r;have ge:∀i (h:i<p.size),k<=i->j<p[i]:=λi h z=>by
  have h1:¬ p[i]<j:=λq=>absurd ((b i h).mp q) (by omega)
  have hk:k<p.size:=by omega
  have h2:p[k]≠j:=λq=>ne (by rw[Array.getElem?_eq_getElem hk,q])
  have h3:¬ p[k]<j:=λq=>absurd ((b k hk).mp q) (by omega)
  have:=Ris.le (p:=p) r h z;omega
 refine List.pairwise_append.mpr ⟨r.take,List.pairwise_cons.mpr ⟨λy hy=>?_,r.drop⟩,λx hx y hy=>?_⟩
 .obtain⟨i,hi,rfl⟩:=List.mem_drop_iff_getElem.mp hy
  exact ge (k+i) (by simp at hi;omega) (by omega)
 .obtain⟨i,hi,rfl⟩:=List.mem_take_iff_getElem.mp hx
  have hi':i<p.size:=by simp at hi;omega
  have lt:=(b i hi').mpr (by omega);have lt:p.toList[i]<j:=by simpa using lt
  rcases mq0 hy with rfl|hy
  .exact lt
  .obtain⟨l,hl,rfl⟩:=List.mem_drop_iff_getElem.mp hy
   have:=ge (k+l) (by simp at hl;omega) (by omega);have:j<p.toList[k+l]:=by simpa using this
   omega
def vN{mask finger moves}{led plain}{hs}{q}(h:SetTable.laid mask finger moves led plain hs=some q):q.1.dummies=#[]/\Ris q.1.place:=by
 unfold SetTable.laid at h;obtain⟨ow,_,h⟩:=bx0 h;cases h;refine⟨rfl,?_⟩;show List.Pairwise _ _;rw[List.pairwise_map,List.pairwise_filterMap];refine List.pairwise_lt_range.imp λ{a b} lt x hx y hy=>?_
 obtain⟨_,_,rfl⟩:=mx0 hx;obtain⟨_,_,rfl⟩:=mx0 hy;exact lt
end PySem
namespace PySem
open PyProof.Rows
def dN{f:α->β}:∀{l m:List β},l.Perm m->∀xs:List α,m=xs.map f->∃ys:List α,ys.Perm xs/\l=ys.map f:=by
 intro l m h
 induction h with
 |nil=>intro xs e;cases xs with|nil=>exact⟨[],.nil,rfl⟩|cons _ _=>cases e
 |cons a _ ih=>
  intro xs e;cases xs with
  |nil=>cases e
  |cons x r=>
   rw[mk0]at e;injection e with e1 e2
   obtain⟨ys,p,rfl⟩:=ih r e2;exact⟨x::ys,p.cons x,by rw[mk0,e1]⟩
 |swap a b l=>
  intro xs e
  match xs,e with
  |[],e=>cases e
  |[_],e=>injection e with _ e;cases e
  |x::y::r,e=>
   injection e with e1 e
   injection e with e2 e3
   exact⟨y::x::r,.swap ..,by rw[mk0,mk0,e1,e2,e3]⟩
 |trans _ _ ih1 ih2=>
  intro xs e;obtain⟨ys,p,e2⟩:=ih2 xs e;obtain⟨zs,p2,e3⟩:=ih1 ys e2;exact⟨zs,p2.trans p,e3⟩
def zS(t)(es)(h:Int)(x):(layNew t es h x).2.1.led=t.led:=by
 unfold layNew;split
 .simp only[SetTable.orStandIn];split<;>rfl
 .rfl
set_option tactic.hygienic true in
def vO(t)(es)(n:Nat):(relayAll t es n).2.1.led=t.led/\((relayAll t es n).2.1.plain=true->t.plain=true/\Ris (relayAll t es n).2.1.place):=by
 unfold relayAll;split
 .rename_i t' order e
  dsimp only;split
  .have r:=vN e
   unfold SetTable.relaid SetTable.laid at e;obtain⟨ow,_,e⟩:=bx0 e;cases e;exact⟨rfl,λz=>⟨z,r.2⟩⟩
  .exact⟨rfl,λz=>by cases z⟩
 .exact⟨rfl,λz=>by cases z⟩
noncomputable abbrev byTx(w:World):Bool:=w.params.followText "set-order"
structure KD(prog:Program)(w:World)(J:Type)[DecidableEq J] where
 knd:KeyKind prog w J
 vl:J->Tok->Value
 pl:Bool
 is:∀k t,knd.is k (vl k t)=true
 sc:∀k t,(vl k t).scannable=true
 pk:∀k t,plainKind (vl k t)=pl
noncomputable abbrev KD.e{prog:Program}{w:World}{J:Type}[DecidableEq J](kd:KD prog w J)(p:J×Tok):Int×Value:=(kd.knd.hash p.1,kd.vl p.1 p.2)
def vP(pl:Bool)(t:SetTable)(n:Nat):Prop:=t.plain=true->(n≠0->pl=true)/\Ris t.place
def StrSet{prog:Program}{w:World}{J:Type}[DecidableEq J](kd:KD prog w J)(h:Heap)(a:Addr)(xs:List (J×Tok))(ep:Nat):Prop:=
 ∃o es t,h.get? a=some o/\o.ExactSet/\o.data=.set es ep t/\t.fits es.size=true/\es.toList=xs.map kd.e/\t.led=!byTx w/\vP kd.pl t xs.length
section
variable {A:Around}{E:Value->Shared->Prop}{J:Type}[DecidableEq J][Inhabited J]{kd:KD prog w J}
def StrSet.keep{h h'}{a:Addr}{xs:List (J×Tok)}(x:StrSet kd h a xs ep)(k:∀o,h.get? a=some o->h'.get? a=some o):StrSet kd h' a xs ep:=
 let ⟨o,es,t,h1,r⟩:=x;⟨o,es,t,k o h1,r⟩
def StrSet.isA{a:Addr}{xs:List (J×Tok)}(x:StrSet kd s.heap a xs ep):s.TypeIs (.ref a) "set":=
 let ⟨o,_,_,h1,h2,_⟩:=x;⟨o,h1,h2.1⟩
def tf(kd:KD prog w J)(xs:List (J×Tok)):ElemsOf kd.knd (xs.map kd.e):=λe he=>by
 obtain⟨p,_,rfl⟩:=mm0 he;exact⟨⟨p.1,kd.is _ _,rfl⟩,kd.sc _ _⟩
def vQ(kd:KD prog w J)(xs:List (J×Tok))(x:J):((xs.map kd.e).findIdx? λe=>kd.knd.is x e.2).isSome=decide (x∈xs.map (·.1)):=by
 induction xs with
 |nil=>rfl
 |cons p r ih=>
  have e:(kd.knd.is x (kd.e p).2)=decide (x=p.1):=KeyKind.is_eq_decide (kd.is p.1 p.2) x;rw[mk0,List.findIdx?_cons,e]
  by_cases q:x=p.1
  .simp[q]
  .rw[df0 q]
   simp only[Bool.false_eq_true,if_false,Option.isSome_map,ih,mk0,List.mem_cons,q,false_or]
set_option tactic.hygienic true
theorem lC{t:SetTable}{f:Nat->Int}{h:Int}:∀(n:Nat)(p:SetTable.Probe)(j:Nat)(d:Option Nat),(∀e,p.dummy=some e->t.slot e=.dummy)->SetTable.probe.go t f h n p=some (.empty j d)->t.slot j=.empty/\∀e,d=some e->t.slot e=.dummy
 |0,p,j,d,_,q=>by cases q
 |n+1,p,j,d,hp,q=>by
  unfold SetTable.probe.go at q;have adv:∀p:SetTable.Probe,(t.advance p).dummy=p.dummy:=λp=>by
   unfold SetTable.advance;split<;>rfl
  split at q
  .rename_i e;cases q;exact⟨e,hp⟩
  .rename_i e
   exact lC n _ j d (λz hz=>by rw[adv]at hz;cases hz;exact e) q
  .split at q
   .cases q
   .exact lC n _ j d (λz hz=>hp z (by rw[adv]at hz;exact hz)) q
def DT{pl}{t}{es}{h}{x}(p:vP pl t es.size)(hx:pl=true):vP pl (layNew t es h x).2.1 (es.size+1):=by
 unfold layNew;split
 .rename_i slot wd e
  simp only[SetTable.orStandIn];split
  .intro tp
   exact⟨λa=>hx,(p tp).2.put ((by
     have q:=e;have nl:∀i,t.place[SetTable.below t.place i]?=some i->∃l,t.slot i=.live l:=λi z=>⟨_,by unfold SetTable.slot;simp only;rw[if_pos (by rw[z];simp)]⟩
     unfold SetTable.freeSlot at q;split at q
     .rename_i j' d e
      obtain⟨e1,e2⟩:=lC _ _ _ _ (λa z=>by cases z) e;cases q;intro z;obtain⟨l,z⟩:=nl _ z;cases d with
      |none=>rw[show (.none:Option Nat).getD j'=j' from rfl,e1]at z;cases z
      |some y=>rw[show (some y).getD j'=y from rfl,e2 y rfl]at z;cases z
     .cases q))⟩
  .intro tp;cases tp
 .intro tp;cases tp
def qP{a:Addr}{o:Obj}{es es':Array (Int×Value)}{t t':SetTable}(ho:h.get? a=some o)(hd:o.data=.set es ep t):
  (h.update a (Obj.putSet es' t')).get? a=some {o with data:=.set es' (ep+1) t'}:=by
 have:=hu0 (Obj.putSet es' t') ho (by rw[putSet_of es' t' hd];rfl)
 rwa [putSet_of es' t' hd]at this
def KJ{a:Addr}{xs:List (J×Tok)}{x:J}{Q:Bool->Shared->Prop}(hS:StrSet kd s.heap a xs ep)(hr:xs.length+1<4096)
  (h:∀h' ys ep' b,Heap.SameBut a s.heap h'->StrSet kd h' a ys ep'->ys.Perm (if x∈xs.map (·.1)then xs else xs++[(x,tk)])->Q b {s with heap:=h'}):
  wpAny (model prog w) A (setAddHashed a (kd.vl x tk) (kd.knd.hash x)) Q E s:=by
 obtain⟨o,es,t,ho,hex,hd,hf,he,hl,hp⟩:=hS;have hsz:es.size=xs.length:=by rw[<-al0,he,lm0]
 have hb:es.size<scanBound:=by rw[hsz];unfold scanBound;omega
 have hel:ElemsOf kd.knd es.toList:=by rw[he];exact tf kd xs
 have hk:kd.knd.is x (kd.vl x tk)=true:=kd.is x tk;have fnd:=vQ kd xs x;unfold setAddHashed setAddHashedIn;refine wh0 (wb0 (wpAny_setState_of ho hd hf ?_));dsimp only;rw[byScan_of (knd:=kd.knd) (x:=kd.vl x tk) (kd.sc x tk) hb hel];simp only[if_true];unfold setAddByScan;refine wb0 (wb0 (wpAny_rule (wb0 (wpAny_setScan_of (knd:=kd.knd) hk ho hd hf hel ?_))));rw[<-he]at fnd;cases q:List.findIdx? (λe=>kd.knd.is x e.2) es.toList with
 |some j=>
  rw[q]at fnd;dsimp only;refine wq0 (wq0 (h s.heap xs ep false (Heap.SameBut.refl a _) ⟨o,es,t,ho,hex,hd,hf,he,hl,hp⟩ ?_));rw[if_pos (od0 fnd.symm)]
 |none=>
  rw[q]at fnd;dsimp only;have nin:x∉xs.map (·.1):=of_decide_eq_false fnd.symm;rw[if_neg nin]at h;have gw:∀(b:Bool)(s₁:Shared)(Q':Unit->Shared->Prop),Q' () s₁->wpAny (model prog w) A (match b with|true=>rule "set.scan.the-table-gave-way"|false=>pure ()) Q' E s₁:=
   λb s₁ Q' z=>by cases b<;>first|exact wq0 z|exact wpAny_rule z
  have p1:=layNew_perm t es (kd.knd.hash x) (kd.vl x tk);have f1:=layNew_fits t es (kd.knd.hash x) (kd.vl x tk);have l1:=zS t es (kd.knd.hash x) (kd.vl x tk);have y1:=λz=>DT (h:=kd.knd.hash x) (x:=kd.vl x tk) (by rw[hsz];exact hp) z
  generalize layNew t es (kd.knd.hash x) (kd.vl x tk)=L at p1 f1 l1 y1 ⊢;obtain⟨es1,t1,wd,gv⟩:=L;dsimp only at p1 f1 l1 y1 ⊢;have e0:(es.push (kd.knd.hash x,kd.vl x tk)).toList=(xs++[(x,tk)]).map kd.e:=by
   rw[Array.toList_push,he,List.map_append];rfl
  obtain⟨ys,py,ey⟩:=dN p1 _ e0;have hz1:es1.size=xs.length+1:=by rw[<-al0,ey,lm0,py.length_eq,la0];rfl
  have hfit:es1.size<=sizeLine:=by rw[hz1,sizeLine_eq];omega
  refine wb0 (gw _ _ _ ?_);have fin:∀t2:SetTable,t2.fits es1.size=true->t2.led=t.led->vP kd.pl t2 es1.size->wpAny (model prog w) A (do
    storeSet a es1 t2
    if (!wd&&t2.tooFull)=true then do
     (match (relayAll t2 es1 (SetTable.grown es1.size)).2.2 with|true=>rule "set.scan.the-table-gave-way"|false=>pure ())
     storeSet a (relayAll t2 es1 (SetTable.grown es1.size)).1 (relayAll t2 es1 (SetTable.grown es1.size)).2.1
     pure (some true)
    else pure (some true)) (λr s'=>r=some true/\Q true s') E s:=by
   intro t2 g1 g2 g3;refine wb0 (wpAny_storeSet_of (prog:=prog) (w:=w) ho hd ?_ hfit);have ho1:=qP (es':=es1) (t':=t2) ho hd;have sb1:=Heap.SameBut.update s.heap a (Obj.putSet es1 t2);split
   .rename_i full
    have p2:=relayAll_perm t2 es1 (SetTable.grown es1.size);have f2:=relayAll_fits t2 es1 (SetTable.grown es1.size);have k2:=vO t2 es1 (SetTable.grown es1.size);generalize relayAll t2 es1 (SetTable.grown es1.size)=L2 at p2 f2 k2 ⊢;obtain⟨es2,t3,gv2⟩:=L2;dsimp only at p2 f2 k2 ⊢;obtain⟨zs,pz,ez⟩:=dN p2 _ ey;refine wb0 (gw _ _ _ (wb0 (wpAny_storeSet_of (prog:=prog) (w:=w) ho1 rfl ?_ ?_)))
    .refine wq0 ⟨rfl,h _ zs _ true (sb1.trans (Heap.SameBut.update _ a _)) ⟨_,es2,t3,qP ho1 rfl,hex,rfl,f2,ez,k2.1.trans (g2.trans hl),λtp=>?_⟩ (pz.trans py)⟩
     obtain⟨tp2,k3⟩:=k2.2 tp;have ez2:zs.length=es1.size:=by rw[hz1,pz.length_eq,py.length_eq,la0];rfl
     rw[ez2];exact⟨(g3 tp2).1,k3⟩
    .rw[<-al0,ez,lm0,pz.length_eq,py.length_eq,la0,sizeLine_eq];simp only[List.length_singleton];omega
   .exact wq0 ⟨rfl,h _ ys _ true sb1 ⟨_,es1,t2,ho1,hex,rfl,g1,ey,g2.trans hl,by rw[show ys.length=es1.size by rw[hz1,py.length_eq,la0];rfl];exact g3⟩ py⟩
  split
  .refine wb0 ?_
   rw[hashByValue_scannable 8 (x:=kd.vl x tk) (kd.sc x tk),kd.pk];refine wq0 ?_;cases hpl:kd.pl with
   |false=>
    refine wpAny_mono (fin {t1 with plain:=false} (SetTable.fits_plain_off f1) l1 (λz=>by cases z)) (λr s' z=>?_) λc c z=>z
    obtain⟨rfl,z⟩:=z;exact wq0 z
   |true=>
    refine wpAny_mono (fin t1 f1 l1 (by rw[show es1.size=es.size+1 by omega];exact y1 hpl)) (λr s' z=>?_) λc c z=>z
    obtain⟨rfl,z⟩:=z;exact wq0 z
  .rename_i np
   refine wb0 (wq0 ?_);refine wpAny_mono (fin t1 f1 l1 (λz=>absurd z np)) (λr s' z=>?_) λc c z=>z
   obtain⟨rfl,z⟩:=z;exact wq0 z
set_option tactic.hygienic false
def add_str{a:Addr}{xs:List (J×Tok)}{x:J}{Q:Bool->Shared->Prop}(hS:StrSet kd s.heap a xs ep)(hr:xs.length+1<4096)
  (h:∀h' ys ep' b,Heap.SameBut a s.heap h'->StrSet kd h' a ys ep'->ys.Perm (if x∈xs.map (·.1)then xs else xs++[(x,tk)])->Q b {s with heap:=h',toks:=s.toks+1}):
  wpAny (model prog w) A (setAdd a (kd.vl x tk)) Q E s:=by
 unfold setAdd;refine wh0 (wb0 (kd.knd.pyHash (kd.is x tk) ?_));exact KJ (s:={s with toks:=s.toks+1}) hS hr h
end
def fO(h:Heap):h.get? h.objs.size=none:=by
 cases q:h.get? h.objs.size with
 |none=>rfl
 |some o=>exact absurd (hs0 q) (li0 _)
noncomputable abbrev cG(w:World):Obj:={cls:=.type "set",dict:=none,data:=.set #[] 0 (.fresh 0 0 (!byTx w))}
section
variable {A:Around}{E:Value->Shared->Prop}{J:Type}[DecidableEq J][Inhabited J]{kd:KD prog w J}
theorem StrSet.cls{h}{a}{xs}{ep}(x:StrSet kd h a xs ep):∃o,h.get? a=some o/\o.cls=.type "set":=
 let ⟨o,_,_,h1,h2,_⟩:=x;⟨o,h1,h2.1⟩
omit [Inhabited J] in
def tj{xs ys:List (J×Tok)}{x:J}(n:(xs.map (·.1)).Nodup)(p:ys.Perm (if x∈xs.map (·.1)then xs else xs++[(x,tk)])):
  (ys.map (·.1)).Nodup/\(∀y,y∈ys.map (·.1)↔y∈xs.map (·.1)\/y=x)/\ys.length<=xs.length+1:=by
 have pm:=p.map (·.1);have pl:=p.length_eq
 by_cases q:x∈xs.map (·.1)
 .rw[if_pos q]at pm pl
  exact⟨pm.nodup_iff.mpr n,λy=>pm.mem_iff.trans ⟨.inl,λz=>z.elim id λe=>e▸q⟩,by omega⟩
 .rw[if_neg q]at pm pl
  rw[List.map_append]at pm;refine⟨pm.nodup_iff.mpr (List.nodup_append.mpr ⟨n,by simp,λa ha b hb=>?_⟩),λy=>pm.mem_iff.trans ?_,by rw[pl,la0];exact nr0 _⟩
  .have:b=x:=by simpa using hb
   subst this;exact λe=>q (e▸ha)
  .rw[List.mem_append]
   exact or_congr Iff.rfl (by simp)
def vR{it S:Addr}{ss:List J}{R:Result->Shared->Prop}(hh:A.handled=none)(hz:items.size=ss.length)(hz2:items.size<4000)(hv:∀(j:Nat)(x:J),ss[j]?=some x->∃tk,items[j]?=some (kd.vl x tk)):
  ∀(m i:Nat)(xs:List (J×Tok))(ep:Nat)(s:Shared),i+m=ss.length->xs.length<=i->(xs.map (·.1)).Nodup->s.heap.IsListIter it l i->s.heap.IsList l items->StrSet kd s.heap S xs ep->
   (∀h' tk ys ep',StrSet kd h' S ys ep'->(ys.map (·.1)).Nodup->(∀y,y∈ys.map (·.1)↔y∈xs.map (·.1)\/y∈ss.drop i)->ys.length<=ss.length->(∀b o,b≠it->b≠S->s.heap.get? b=some o->h'.get? b=some o)->R (.ok (.ret .none)) {s with heap:=h',toks:=tk})->
   codeAny (model prog w) A (.builtin "set.update.loop" ⟨[.ref S,.ref it],[]⟩) R s:=by
 intro m
 induction m with
 |zero=>
  intro i xs ep s hm hx nd hi hl hS h;obtain⟨oi,ei,ci,_⟩:=id hi;obtain⟨oS,eS,cS⟩:=hS.cls;have nSi:S≠it:=bq eS ei (by rw[cS,ci];decide);refine codeAny_builtin PyProof.Rows.F.entry_set_update_loop ?_;rw[ui0 PyProof.Rows.F.plain_set_update_loop];unfold Builtin.«set.update.loop»;dsimp only;refine wb0 (wpAny_pyNext_list_end (show A.in1.handled=none from hh) hi hl (by rw[Array.getElem?_eq_none];omega) λh' eb=>?_);refine wq0 (h h' s.toks xs ep (hS.keep λo e=>eb S o nSi e) nd (λy=>?_) (by omega) λb o n1 n2 e=>eb b o n1 e);rw[List.drop_eq_nil_of_le (by omega)]
  simp
 |succ m ih=>
  intro i xs ep s hm hx nd hi hl hS h;obtain⟨oi,ei,ci,_⟩:=id hi;obtain⟨oS,eS,cS⟩:=hS.cls;obtain⟨ol,el,cl,_⟩:=id hl;have nSi:S≠it:=bq eS ei (by rw[cS,ci];decide);have nli:l≠it:=bq el ei (by rw[cl,ci];decide);have nlS:l≠S:=bq el eS (by rw[cl,cS];decide);have hlt:i<ss.length:=by omega
  obtain⟨tk,hu⟩:=hv i _ (ge0 hlt);refine codeAny_builtin PyProof.Rows.F.entry_set_update_loop ?_;rw[ui0 PyProof.Rows.F.plain_set_update_loop];unfold Builtin.«set.update.loop»;dsimp only;refine wb0 (wpAny_pyNext_list_item hi hl hu λh1 hi' sb=>?_);have k1:∀{b:Addr},b≠it->∀o,s.heap.get? b=some o->h1.get? b=some o:=λhb o e=>(sb.2 _ hb).trans e
  dsimp only;refine wb0 (wh0 (add_str (hS.keep (k1 nSi)) (by omega) λh2 ys ep2 b sb2 hS2 py=>?_));have k2:∀{b:Addr},b≠S->∀o,h1.get? b=some o->h2.get? b=some o:=λhb o e=>(sb2.2 _ hb).trans e
  obtain⟨n2,m2,z2⟩:=tj nd py;refine wq0 ⟨plainId_quiet PyProof.Rows.F.plain_set_update_loop _,?_⟩;refine ih (i+1) ys ep2 {s with heap:=h2,toks:=s.toks+1} (by omega) (by omega) n2 (hi'.at (k2 nSi.symm)) ((hl.at (k1 nli)).at (k2 nlS)) hS2 λh' tk' zs ep3 a1 a2 a3 a4 a5=>?_
  refine h h' tk' zs ep3 a1 a2 (λy=>(a3 y).trans ?_) a4 λb o n1 n2 e=>a5 b o n1 n2 (k2 n2 _ (k1 n1 _ e))
  rw[List.drop_eq_getElem_cons hlt,m2 y,List.mem_cons,or_assoc]
def vS(v:Value){Q₁:Value->Shared->Prop}(h:Q₁ (.ref s.heap.objs.size) {s with heap:=s.heap.push (cG w)}):
  codeAny (model prog w) A (.call (.builtin "set.__new__") ⟨[.type "set",v],[]⟩) (wants Q₁ E) s:=by
 refine codeAny_of_tree ?_;show wpAny _ A.in1 (checkBuiltinCall "set.__new__" ⟨[.type "set",v],[]⟩ >>= λa=>again (.builtin "set.__new__" ⟨[.type "set",v],[]⟩)) _ _ s;refine wb0 (wpAny_of_eq (F.newCall_set_1 v) (wq0 ⟨plainId_quiet F.plain_set_new _,codeAny_builtin F.entry_set_new ?_⟩));rw[ui0 F.plain_set_new _];unfold Builtin.«set.__new__» Builtin.Frozenset.newClass;have hs:=sub_set_self;obtain⟨hp,g,d,tk,os⟩:=s;dsimp only
 wp_walk
 refine wpAny_askSetting (wq0 ?_);dsimp only;simp only[newObj];refine wb0 (wpAny_alloc (wq0 (wq0 ?_)));exact h
def vT{l S}{items}{ss:List J}{R}(hh:A.handled=none)(hS:s.heap.get? S=some (cG w))(hl:s.heap.IsList l items)(hz:items.size=ss.length)(hz2:items.size<4000)(hv:∀(j:Nat)(x:J),ss[j]?=some x->∃tk,items[j]?=some (kd.vl x tk))
  (h:∀h' tk ys ep,StrSet kd h' S ys ep->(ys.map (·.1)).Nodup->(∀y,y∈ys.map (·.1)↔y∈ss)->ys.length<=ss.length->(∀b o,b≠S->s.heap.get? b=some o->h'.get? b=some o)->R (.ok (.ret .none)) {s with heap:=h',toks:=tk}):
  codeAny (model prog w) A (.call (.builtin "set.__init__") ⟨[.ref S,.ref l],[]⟩) R s:=by
 have hT:s.TypeIs (.ref S) "set":=⟨_,hS,rfl⟩;refine codeAny_call_builtin F.called_set.init.plain F.entry_set_init (check_set_init_1 hT ?_);obtain⟨ol,hol,hcl,nl,hdl⟩:=id hl;obtain⟨oc,od,odt,osl⟩:=ol;simp only at hcl hdl;subst hcl;subst hdl;have q1:=F.sub_list_set;have q2:=F.sub_list_frozenset;have q3:(Value.type "list"==Value.type "dict")=false:=by decide
 unfold Builtin.«set.__init__» noKeywords Builtin.Frozenset.updateFrom;generalize hPI:pyIter=PI
 wp_walk
 subst hPI;refine wpAny_pyIter_list hl (wb0 (wpAny_runValue ?_));have lt1:=hs0 hol;have lt2:=hs0 hS;have hS':=ps0 {cls:=.type "list_iterator",data:=.fields #[.ref l,.int 0 0]} hS;have S0:StrSet kd (s.heap.push {cls:=.type "list_iterator",data:=.fields #[.ref l,.int 0 0]}) S [] 0:=⟨cG w,#[],.fresh 0 0 (!byTx w),hS',⟨rfl,rfl,rfl⟩,rfl,rfl,rfl,rfl,λa=>⟨λz=>absurd rfl z,.nil⟩⟩;refine vR (kd:=kd) (prog:=prog) (w:=w) (items:=items) (ss:=ss) (by exact hh) hz hz2 hv ss.length 0 [] 0 {s with heap:=s.heap.push {cls:=.type "list_iterator",data:=.fields #[.ref l,.int 0 0]}} (by omega) (nr0 _) List.nodup_nil ⟨_,pz0 _ rfl,rfl,rfl⟩ (hl.push _) S0 λh' tk ys ep a1 a2 a3 a4 a5=>?_
 refine wq0 ?_;refine wq0 (h h' tk ys ep a1 a2 (λy=>(a3 y).trans (by simp)) a4 λb o nb e=>a5 b o (nn0 (hs0 e)) nb (ps0 _ e))
set_option maxHeartbeats 3200000 in
def jN{ss:List J}(hh:A.handled=none)(hl:s.heap.IsList l items)(hz:items.size=ss.length)(hz2:items.size<4000)(hv:∀(j:Nat)(x:J),ss[j]?=some x->∃tk,items[j]?=some (kd.vl x tk))
  (h:∀h' tk S ys ep,s.heap.objs.size<=S->StrSet kd h' S ys ep->(ys.map (·.1)).Nodup->(∀y,y∈ys.map (·.1)↔y∈ss)->ys.length<=ss.length->(∀b o,s.heap.get? b=some o->h'.get? b=some o)->Q (.ref S) {s with heap:=h',toks:=tk}):
  wpAny (model prog w) A (call (.type "set") [.ref l]) Q E s:=by
 obtain⟨c,tl,hm⟩:=F.called_set.mro;have hmade:=F.called_set.made;have hsub:=F.called_set.sub;refine wpAny_call (codeAny_of_tree ?_);show wpAny _ _ (callAny (.type "set") ⟨[.ref l],[]⟩) _ _ _;refine wq0 ⟨Code.quiet_builtin _ (by decide +kernel),codeAny_builtin F.entry_type_call ?_⟩;rw[Around.under_plain (weight_type_call_type "set" [.ref l] []) rfl];have h1:=F.called_set.notType;have h2:=F.called_set.canCreate;have h3:=F.typeCall_set_1 (.ref l)
 repeat (any_goals (first|assumption|wp_step))
 refine codeAny_mono (vS (w:=w) (.ref l) (E:=E) (Q₁:=λv s₁=>v=.ref s.heap.objs.size/\s₁={s with heap:=s.heap.push (cG w)}) ⟨rfl,rfl⟩) λr s₁ hr=>?_
 cases r with
 |error e=>exact hr
 |ok fl=>
  cases fl with
  |ret v=>
   obtain⟨rfl,rfl⟩:=hr;have g0:(s.heap.push (cG w)).get? s.heap.objs.size=some (cG w):=pz0 _ rfl;have hT:Shared.TypeIs {s with heap:=s.heap.push (cG w)} (.ref s.heap.objs.size) "set":=⟨_,g0,rfl⟩;have hli:=F.called_set.init.lookup;have hbi:=F.called_set.init.bind (.ref s.heap.objs.size)
   repeat (any_goals (first|assumption|wp_step))
   refine codeAny_mono (vT (s:={s with heap:=s.heap.push (cG w)}) (R:=wants (λr s₂=>r=.none/\∃h' tk ys ep,s₂={s with heap:=h',toks:=tk}/\StrSet kd h' s.heap.objs.size ys ep/\(ys.map (·.1)).Nodup/\(∀y,y∈ys.map (·.1)↔y∈ss)/\ys.length<=ss.length/\(∀b o,s.heap.get? b=some o->h'.get? b=some o)) E) hh g0 (hl.push _) hz hz2 hv λh' tk ys ep a1 a2 a3 a4 a5=>⟨rfl,h',tk,ys,ep,rfl,a1,a2,a3,a4,λb o e=>a5 b o (nn0 (hs0 e)) (ps0 _ e)⟩) λr2 s₂ hr2=>?_
   cases r2 with
   |error e=>exact hr2
   |ok f2=>
    cases f2 with
    |ret r=>
     obtain⟨rfl,h',tk,ys,ep,rfl,a1,a2,a3,a4,a5⟩:=hr2
     repeat (any_goals (first|assumption|wp_step))
     exact h h' tk _ ys ep (nr0 _) a1 a2 a3 a4 a5
    |_=>exact hr2.elim
  |_=>exact hr.elim
end
def slot_sit_next:Slot "set_iterator" "__next__" "set_iterator.__next__":=
 .of (owner:="set_iterator") (n:="__next__") (by rw[typeLookup_type];rw[builtinLookup_eq_fast];kernel_rfl) (by decide +kernel) (by decide +kernel) (by decide +kernel) (by first|exact .inl (by decide +kernel)|exact .inr (by decide +kernel)) (by rw[isSubtype_type];kernel_rfl)
def fh:Slot "set_iterator" "__iter__" "set_iterator.__iter__":=
 .of (owner:="set_iterator") (n:="__iter__") (by rw[typeLookup_type];rw[builtinLookup_eq_fast];kernel_rfl) (by decide +kernel) (by decide +kernel) (by decide +kernel) (by first|exact .inl (by decide +kernel)|exact .inr (by decide +kernel)) (by rw[isSubtype_type];kernel_rfl)
def br:entryFor table "set_iterator.__next__"=some Builtin.«set_iterator.__next__»:=entryFor_of_fast (by kernel_rfl)
def iZ:entryFor table "set.__iter__"=some Builtin.«frozenset.__iter__»:=by refine entryFor_alias (id':="frozenset.__iter__") ?_ rfl ?_ ?_<;>first|kernel_rfl|decide +kernel
def bJ(a:Value):argsOk "set_iterator.__next__" ⟨[a],[]⟩:=by unfold argsOk;kernel_rfl
def qQ{l:List α}(h:i<l.length):(l[i]::l.eraseIdx i).Perm l:=by
 rw[List.eraseIdx_eq_take_drop_succ];refine (List.perm_middle.symm).trans (List.Perm.of_eq ?_);rw[List.getElem_cons_drop,List.take_append_drop]
theorem qR(f:Nat->Nat):∀(n k:Nat)(l:List α)(o:Array α),n=l.length->(pickOrder.go f n k l o).toList.Perm (o.toList++l)
 |0,k,l,o,e=>by
  have:l=[]:=ez0 e.symm;subst this;show o.toList.Perm _;rw[List.append_nil]
 |n+1,k,l,o,e=>by
  have hl:0<l.length:=by omega
  have lt:=Nat.mod_lt (f k) hl;show ((match l[f k % l.length]? with|some x=>pickOrder.go f n (k+1) (l.eraseIdx (f k % l.length)) (o.push x)|none=>o):Array α).toList.Perm _;rw[ge0 lt];dsimp only;refine (qR f n (k+1) _ _ (by rw[List.length_eraseIdx_of_lt lt];omega)).trans ?_;rw[Array.toList_push,List.append_assoc];exact (List.Perm.refl _).append (qQ lt)
def tq(f:Nat->Nat)(xs:Array α):(pickOrder f xs).toList.Perm xs.toList:=by
 have:=qR f xs.size 0 xs.toList #[] (by simp)
 simpa [pickOrder]using this
section
variable {A:Around}{E:Value->Shared->Prop}
def vU{Q:Nat->Shared->Prop}(hn:n≠0)(h:∀i d,i<n->Q i {s with drawn:=d}):wpAny (model prog w) A (choose .order n) Q E s:=λΓ p a=>by
 show n≠0/\_;exact⟨hn,h _ _ (Nat.mod_lt _ (Nat.pos_of_ne_zero hn))⟩
def tu(n:Nat):∀(xs:List α)(s:Shared)(Q:List α->Shared->Prop),n=xs.length->(∀ys d,ys.Perm xs->Q ys {s with drawn:=d})->wpAny (model prog w) A (drawOrder n xs) Q E s:=by
 induction n with
 |zero=>
  intro xs s Q e h;cases xs with
  |nil=>exact wq0 (h [] s.drawn (.refl _))
  |cons x r=>cases e
 |succ n ih=>
  intro xs s Q e h;cases xs with
  |nil=>cases e
  |cons x r=>
   unfold drawOrder;refine wb0 (vU (by simp) λi d hi=>?_);rw[ge0 hi];dsimp only;refine wb0 (ih _ _ _ (by rw[List.length_eraseIdx_of_lt hi];simp at e ⊢;omega) λys d' p=>wq0 (h _ d' ?_));exact (p.cons _).trans (qQ hi)
def asks{Q:Bool->Shared->Prop}(h:Q (byTx w) s):wpAny (model prog w) A setsByText Q E s:=by
 unfold setsByText;exact wb0 (wpAny_askSetting (wq0 h))
def tw{S:Addr}{o:Obj}{es:Array (Int×Value)}{t:SetTable}{sl:Nat}{Q:Option (Value×Nat)->Shared->Prop}(ho:s.heap.get? S=some o)(hd:o.data=.set es ep t)(hf:t.fits es.size=true)(hb:byTx w=true)
  (h:Q (((pickOrder (w.params.setOrder S ep) es)[i]?).map λe=>(e.2,sl)) s):wpAny (model prog w) A (setNext S sl i ep) Q E s:=by
 unfold setNext;refine wb0 (wpAny_setState_of ho hd hf (wb0 (asks ?_)));dsimp only;rw[hb];simp only[if_true,bne_self_eq_false,Bool.false_eq_true,if_false];refine wb0 ?_;unfold setWalk;refine wb0 (wpAny_setState_of ho hd hf (wb0 (asks ?_)));rw[hb];simp only[if_true];exact wb0 (wpAny_askSetting (wq0 (wq0 h)))
def mW{S:Addr}{o:Obj}{es:Array (Int×Value)}{t:SetTable}{sl:Nat}{Q:Option (Value×Nat)->Shared->Prop}(ho:s.heap.get? S=some o)(hd:o.data=.set es ep t)(hf:t.fits es.size=true)(hb:byTx w=false)(hl:t.led=true)(h1:t.plain=false->es.size<=1)
  (h:Q (match es[SetTable.below t.place sl]?,t.place[SetTable.below t.place sl]? with|some (_,x),some j=>some (x,j+1)|_,_=>none) s):wpAny (model prog w) A (setNext S sl i ep) Q E s:=by
 unfold setNext;refine wb0 (wpAny_setState_of ho hd hf (wb0 (asks ?_)));dsimp only;rw[hb];simp only[Bool.false_eq_true,if_false];have e1:(!t.plain&&decide (es.size>1))=false:=by
  cases c:t.plain with
  |true=>rfl
  |false=>rw[df0 (by have:=h1 c;omega),Bool.and_false]
 have e2:(!t.led&&!es.isEmpty)=false:=by rw[hl];rfl
 show wpAny (model prog w) A (if (!t.plain&&decide (es.size>1))=true then _ else _) Q E s;rw[if_neg (by rw[e1];exact fx0)];show wpAny (model prog w) A ((if (!t.led&&!es.isEmpty)=true then _ else _) >>= _) Q E s;rw[if_neg (by rw[e2];exact fx0)];exact wb0 (wq0 (wq0 h))
end
def SetIt(h:Heap)(I S:Addr)(f0:Value)(i n ep:Nat):Prop:=∃o,h.get? I=some o/\o.cls=.type "set_iterator"/\o.data=.fields #[f0,.int i 0,.ref S,.int n 0,.int ep 0]
def SetIt.is{I S}{f0}{i n ep}(x:SetIt s.heap I S f0 i n ep):s.TypeIs (.ref I) "set_iterator":=let ⟨o,a,b,_⟩:=x;⟨o,a,b⟩
def SetIt.keep{h h'}{I S}{f0}{i n ep}(x:SetIt h I S f0 i n ep)(k:∀o,h.get? I=some o->h'.get? I=some o):SetIt h' I S f0 i n ep:=let ⟨o,a,b⟩:=x;⟨o,k o a,b⟩
def SetIt.upd{h}{I S}{f0}{i n ep}(x:SetIt h I S f0 i n ep)(k:Nat)(v):
  ∃o,(h.update I (Obj.mapFields (·.setIfInBounds k v))).get? I=some o/\o.cls=.type "set_iterator"/\o.data=.fields ((#[f0,.int i 0,.ref S,.int n 0,.int ep 0]:Array Value).setIfInBounds k v):=by
 obtain⟨o,ho,hc,hd⟩:=x;exact⟨_,hu0 _ ho (Obj.isFreed_of_fields (Obj.data_mapFields hd _)),(Obj.cls_mapFields ..).trans hc,Obj.data_mapFields hd _⟩
section
variable {A:Around}{E:Value->Shared->Prop}{J:Type}[DecidableEq J][Inhabited J]{kd:KD prog w J}{I S T:Addr}{xs:List (J×Tok)}{sl:Nat}{x f0:Value}{nx:Nat}{Q:Option Value->Shared->Prop}
def fP{P:Fin->Shared->Prop}(hit:SetIt s.heap I S f0 i n ep)(hS:StrSet kd s.heap S xs ep)(hn:n=xs.length)
  (h:wpAny (model prog w) A (if let .int slot _:=f0 then do
    match ←setNext S slot.toNat (i:Int).toNat (ep:Int).toNat with
    |some (x,next)=>
     setField (.ref I) 0 (rawInt next)
     setField (.ref I) 1 (rawInt ((i:Int)+1))
     ret x
    |none=>setField (.ref I) 2 .none;raiseNew (<-newExc (.type "StopIteration") [])
   else do
    let some places ←seqItems? f0|unsupported "internal:set_iterator"
    match places[(i:Int).toNat]? with
    |some (.int place _)=>
     let x ←setNextDrawn S place.toNat (ep:Int).toNat
     setField (.ref I) 1 (rawInt ((i:Int)+1))
     ret x
    |some _=>unsupported "internal:set_iterator"
    |none=>setField (.ref I) 0 (rawInt 0);setField (.ref I) 2 .none;raiseNew (<-newExc (.type "StopIteration") [])) P E s):
  wpAny (model prog w) A (Builtin.«set_iterator.__next__» ⟨[.ref I],[]⟩) P E s:=by
 obtain⟨o,ho,hc,hd⟩:=hit;obtain⟨oS,es,t,eS,_,dS,fS,le,_⟩:=hS;have hz:es.size=n:=by rw[hn,<-al0,le,lm0]
 unfold Builtin.«set_iterator.__next__»;refine wb0 (m:=slotArgs "__next__" 0 _) (wq0 ?_);refine wb0 (wpAny_fieldsOf ho hd ?_);show wpAny _ _ (setEntries S >>= _) _ _ _;unfold setEntries;refine wb0 (wb0 (wpAny_setState_of eS dS fS (wq0 ?_)));dsimp only;rw[if_neg (by rw[hz];simp)];exact h
def mX(hit:SetIt s.heap I S (.int sl 0) i n ep)(hS:StrSet kd s.heap S xs ep)(hn:n=xs.length)(hx:∀(A:Around)(E:Value->Shared->Prop)(Q:Option (Value×Nat)->Shared->Prop),Q (some (x,nx)) s->wpAny (model prog w) A (setNext S sl i ep) Q E s)
  (hQ:∀h',SetIt h' I S (.int nx 0) (i+1) n ep->Heap.SameBut I s.heap h'->Q (some x) {s with heap:=h'}):wpAny (model prog w) A (pyNext (.ref I)) Q E s:=by
 unfold pyNext;refine wb0 (wpAny_attempt (wpAny_callSpecial?_slot (name:=Str.ofString "__next__") hit.is slot_sit_next (wpAny_call_entry slot_sit_next hit.is br (fP hit hS hn ?_) (bJ _))));dsimp only;simp only[Int.toNat_natCast];refine wb0 (hx _ _ _ ?_);dsimp only;obtain⟨o,ho,hc,hd⟩:=id hit;obtain⟨o1,e1,c1,d1⟩:=hit.upd 0 (rawInt nx);refine wb0 (wpAny_setField ho hd (by simp) (wb0 (wpAny_setField e1 d1 (by simp) (wq0 ⟨x,rfl,wq0 (hQ _ ⟨_,hu0 _ e1 (Obj.isFreed_of_fields (Obj.data_mapFields d1 _)),(Obj.cls_mapFields ..).trans c1,?_⟩ ((Heap.SameBut.update ..).trans (Heap.SameBut.update ..)))⟩))))
 rw[Obj.data_mapFields d1];simp[rawInt]
def mY{P:Fin->Shared->Prop}{o:Obj}{vs:Array Value}(hh:A.handled=none)(ho:s.heap.get? I=some o)(hd:o.data=.fields vs)(hz:2<vs.size)(hE:∀e h',Shared.TypeIs {s with heap:=h'} e "StopIteration"->Heap.ExtBut I s.heap h'->E' e {s with heap:=h'}):
  wpAny (model prog w) A (do setField (.ref I) 2 .none;raiseNew (<-newExc (.type "StopIteration") [])) P E' s:=by
 refine wb0 (wpAny_setField ho hd hz (wb0 ?_));simp only[newExc,newTuple];refine wb0 (wpAny_newObj_type ?_ (by size_fits));refine wb0 (m:=firstArgMember _ _) (wpAny_of_eq (a:=Value.none) (by first|rfl|(simp only[firstArgMember];rfl)) (wpAny_newObj_type ?_ (by size_fits)));simp only[raiseNew];refine wb0 (wpAny_handled ?_);rw[hh];refine wb0 (wq0 (wpAny_throw ?_));refine hE _ _ ?_ (((Heap.SameBut.update ..).extBut.push _).push _);exact⟨_,pz0 _ rfl,rfl⟩
def qS(hh:A.handled=none)(hit:SetIt s.heap I S (.int sl 0) i n ep)(hS:StrSet kd s.heap S xs ep)(hn:n=xs.length)(hx:∀(A:Around)(E:Value->Shared->Prop)(Q:Option (Value×Nat)->Shared->Prop),Q none s->wpAny (model prog w) A (setNext S sl i ep) Q E s)
  (hQ:∀h',Heap.ExtBut I s.heap h'->Q none {s with heap:=h'}):wpAny (model prog w) A (pyNext (.ref I)) Q E s:=by
 unfold pyNext;refine wb0 (wpAny_attempt (wpAny_callSpecial?_slot (name:=Str.ofString "__next__") hit.is slot_sit_next (wpAny_call_entry slot_sit_next hit.is br (fP hit hS hn ?_) (bJ _))));dsimp only;simp only[Int.toNat_natCast];refine wb0 (hx _ _ _ ?_);obtain⟨o,ho,hc,hd⟩:=id hit;refine mY (show A.in1.handled=none from hh) ho hd (by simp) λe h' ht eb=>?_
 exact wb0 (wpAny_isInstance (T:="StopIteration") (b:=true) ht isSubtype_stop (wq0 (hQ _ eb)))
def tB{ps:List Nat}{p}{oT}{m}{y}(hit:SetIt s.heap I S (.ref T) i n ep)(hS:StrSet kd s.heap S xs ep)(hn:n=xs.length)(hT:s.heap.get? T=some oT)(dT:oT.data=.seq (ps.map λ(k:Nat)=>rawInt (k:Int)).toArray m)(hp:ps[i]?=some p)(hy:xs[p]?=some y)
  (hQ:∀h',SetIt h' I S (.ref T) (i+1) n ep->Heap.SameBut I s.heap h'->Q (some (kd.vl y.1 y.2)) {s with heap:=h'}):wpAny (model prog w) A (pyNext (.ref I)) Q E s:=by
 unfold pyNext;refine wb0 (wpAny_attempt (wpAny_callSpecial?_slot (name:=Str.ofString "__next__") hit.is slot_sit_next (wpAny_call_entry slot_sit_next hit.is br (fP hit hS hn ?_) (bJ _))));dsimp only;simp only[Int.toNat_natCast];unfold seqItems?;refine wb0 (wb0 (wpAny_load hT ?_));rw[dT];refine wq0 ?_;dsimp only;have e:(ps.map λ(k:Nat)=>rawInt (k:Int)).toArray[i]?=some (rawInt (p:Int)):=by simp[hp]
 rw[e];obtain⟨oS,es,t,eS,_,dS,fS,le,_⟩:=id hS;show wpAny _ _ (setNextDrawn S (p:Int).toNat ep >>= _) _ _ _;unfold setNextDrawn;refine wb0 (wb0 (wpAny_setState_of eS dS fS ?_));dsimp only;simp only[bne_self_eq_false,Bool.false_eq_true,if_false,Int.toNat_natCast];have ee:es[p]?=some (kd.e y):=by rw[<-Array.getElem?_toList,le,gm0,hy];rfl
 rw[ee];refine wq0 ?_;obtain⟨o,ho,hc,hd⟩:=id hit;obtain⟨o1,e1,c1,d1⟩:=hit.upd 1 (rawInt ((i:Int)+1));refine wb0 (wpAny_setField ho hd (by simp) (wq0 ⟨_,rfl,wq0 (hQ _ ⟨o1,e1,c1,?_⟩ (Heap.SameBut.update ..))⟩));rw[d1];simp[rawInt]
def vV{ps:List Nat}{oT:Obj}{m:Nat}(hh:A.handled=none)(hit:SetIt s.heap I S (.ref T) i n ep)(hS:StrSet kd s.heap S xs ep)(hn:n=xs.length)(hT:s.heap.get? T=some oT)(dT:oT.data=.seq (ps.map λ(k:Nat)=>rawInt (k:Int)).toArray m)(hp:ps[i]?=none)
  (hQ:∀h',Heap.ExtBut I s.heap h'->Q none {s with heap:=h'}):wpAny (model prog w) A (pyNext (.ref I)) Q E s:=by
 unfold pyNext;refine wb0 (wpAny_attempt (wpAny_callSpecial?_slot (name:=Str.ofString "__next__") hit.is slot_sit_next (wpAny_call_entry slot_sit_next hit.is br (fP hit hS hn ?_) (bJ _))));dsimp only;simp only[Int.toNat_natCast];unfold seqItems?;refine wb0 (wb0 (wpAny_load hT ?_));rw[dT];refine wq0 ?_;dsimp only;have e:(ps.map λ(k:Nat)=>rawInt (k:Int)).toArray[i]?=none:=by simpa using hp
 rw[e];obtain⟨o,ho,hc,hd⟩:=id hit;obtain⟨o1,e1,c1,d1⟩:=hit.upd 0 (rawInt 0);refine wb0 (wpAny_setField ho hd (by simp) ?_);refine mY (s:={s with heap:=s.heap.update I (Obj.mapFields (·.setIfInBounds 0 (rawInt 0)))}) (show A.in1.handled=none from hh) e1 d1 (by simp) λe h' ht eb=>?_
 exact wb0 (wpAny_isInstance (T:="StopIteration") (b:=true) ht isSubtype_stop (wq0 (hQ _ ((Heap.SameBut.update ..).extBut.trans eb))))
end
def ja:entryFor table "set_iterator.__iter__"=some Builtin.«dict_keyiterator.__iter__»:=by
 refine entryFor_alias (id':="dict_keyiterator.__iter__") ?_ rfl ?_ ?_<;>first|kernel_rfl|decide +kernel
def jO(a:Value):argsOk "set_iterator.__iter__" ⟨[a],[]⟩:=by unfold argsOk;kernel_rfl
def HC{es:Array (Int×Value)}{xs:List (Int×Value)}(h:es.toList=xs):es=xs.toArray:=by
 rw[<-h]
section
variable {A:Around}{E:Value->Shared->Prop}{J:Type}[DecidableEq J][Inhabited J]{kd:KD prog w J}{I S T:Addr}{xs:List (J×Tok)}
noncomputable abbrev eqG:Array GenState->Array GenState->Prop:=λa b=>b=a
abbrev zT{prog:Program}{w:World}{J:Type}[DecidableEq J](kd:KD prog w J)(order:List (J×Tok))(i:Nat)(v:Value):Prop:=∃p,order[i]?=some p/\v=kd.vl p.1 p.2
def jb{f0:Value}(hit:SetIt s.heap I S f0 i n ep)(hQ:Q (.ref I) s):wpAny (model prog w) A (pyIter (.ref I)) Q E s:=by
 refine wpAny_pyIter_slot hit.is fh (wpAny_call_entry fh hit.is ja ?_ (jO _));show wpAny (model prog w) _ (ret (.ref I)) _ _ s;exact wq0 ⟨_,rfl,_,_,hit.is,slot_sit_next.lookup,hQ⟩
def tD(hb:byTx w=true)(hIS:S≠I)(hh:A.handled=none):∃order:List (J×Tok),order.Perm xs/\
  WalksS prog w A I [I,S] [I] eqG xs.length (zT kd order) (λi s=>SetIt s.heap I S (.int 0 0) i xs.length ep/\StrSet kd s.heap S xs ep):=by
 obtain⟨order,po,eo⟩:=dN (tq (w.params.setOrder S ep) (xs.map kd.e).toArray) xs rfl;have nxt:∀(s:Shared)(i:Nat),StrSet kd s.heap S xs ep->∀(A:Around)(E:Value->Shared->Prop)(Q:Option (Value×Nat)->Shared->Prop),Q ((order[i]?).map λp=>(kd.vl p.1 p.2,0)) s->wpAny (model prog w) A (setNext S 0 i ep) Q E s:=λs i hS A E Q q=>by
  obtain⟨o,es,t,h1,_,h2,h3,h4,_⟩:=hS;refine tw h1 h2 h3 hb ?_;rw[HC h4,<-Array.getElem?_toList,eo,gm0];cases z:order[i]? with
  |none=>rw[z]at q;exact q
  |some p=>rw[z]at q;exact q
 refine⟨order,po,⟨λb hb=>by simp at hb;simp[hb],λa=>rfl,λa a a h1 h2=>h2.trans h1,λi s h' tk st a hk=>⟨st.1.keep λo e=>hk I (by simp) o e,st.2.keep λo e=>hk S (by simp) o e⟩,λi s Q E hi st hQ=>?_,λs Q E st hQ=>?_,λi s Q E st hQ=>jb st.1 hQ⟩⟩
 .have hi':i<order.length:=by rw[po.length_eq];exact hi
  have e:order[i]?=some order[i]:=ge0 hi';refine mX st.1 st.2 rfl (x:=kd.vl order[i].1 order[i].2) (nx:=0) (λA E Q q=>nxt s i st.2 A E Q (by rw[e];exact q)) λh' hit' sb=>?_
  exact hQ _ _ ⟨_,e,rfl⟩ ⟨hit',st.2.keep λo e=>(sb.2 _ hIS).trans e⟩ ⟨λb o hb e=>(sb.2 b (λz=>hb (by simp[z]))).trans e,rfl,rfl,rfl,nr0 _⟩
 .have e:order[xs.length]?=none:=List.getElem?_eq_none (by rw[po.length_eq];exact nr0 _)
  refine qS hh st.1 st.2 rfl (λA E Q q=>nxt s _ st.2 A E Q (by rw[e];exact q)) λh' eb=>?_
  exact hQ _ ⟨λb o hb e=>eb b o (λz=>hb (by simp[z])) e,rfl,rfl,rfl,nr0 _⟩
def mZ{t}{pl}(p:vP pl t n)(hf:t.fits n=true)(h1:t.plain=false->n<=1):Ris t.place:=by
 cases q:t.plain with
 |true=>exact (p q).2
 |false=>
  have:=h1 q;simp only[SetTable.fits,be0,beq_iff_eq]at hf;have hs:t.place.toList.length<=1:=by rw[al0];omega
  unfold Ris
  match t.place.toList,hs with
  |[],_=>exact .nil
  |[x],_=>exact List.pairwise_singleton _ _
def vW(hb:byTx w=false)(hIS:S≠I)(hh:A.handled=none):
  WalksS prog w A I [I,S] [I] eqG xs.length (zT kd xs) (λi s=>∃sl,SetIt s.heap I S (.int (sl:Nat) 0) i xs.length ep/\StrSet kd s.heap S xs ep/\∀o es t,s.heap.get? S=some o->o.data=.set es ep t->(t.plain=false->xs.length<=1)/\SetTable.below t.place sl=i):=by
 refine⟨λb hb=>by simp at hb;simp[hb],λc=>rfl,λc c c h1 h2=>h2.trans h1,λi s h' tk st c hk=>?_,λi s Q E hi st hQ=>?_,λs Q E st hQ=>?_,λi s Q E st hQ=>?_⟩
 .obtain⟨sl,a,b,d⟩:=st
  obtain⟨o0,es0,t0,e0,r0⟩:=id b;refine⟨sl,a.keep λo e=>hk I (by simp) o e,b.keep λo e=>hk S (by simp) o e,λo es t h1 h2=>d o es t ?_ h2⟩;have:=hk S (by simp) _ e0;have h1:h'.get? S=some o:=h1;rw[this]at h1;cases h1;exact e0
 .obtain⟨sl,a,b,d⟩:=st
  obtain⟨o,es,t,h1,h1x,h2,h3,h4,h5,h6⟩:=id b;have hes:es.size=xs.length:=by rw[<-al0,h4,lm0]
  obtain⟨d1,d2⟩:=d o es t h1 h2;have P2:=mZ h6 (by rw[<-hes];exact h3) d1;have hf:=h3;simp only[SetTable.fits,be0,beq_iff_eq]at hf;have hj:t.place[i]?=some t.place[i]:=Array.getElem?_eq_getElem (by omega);have hy:es[i]?=some (kd.e xs[i]):=by rw[<-Array.getElem?_toList,h4,gm0,ge0 hi];rfl
  refine mX (nx:=t.place[i]+1) a b rfl (x:=kd.vl xs[i].1 xs[i].2) (λA E Q q=>mW h1 h2 h3 hb (by rw[h5,hb];rfl) (by rw[hes];exact d1) ?_) λh' hit' sb=>?_
  .rw[d2,hj,hy]
   exact q
  .refine hQ _ _ ⟨xs[i],ge0 hi,rfl⟩ ⟨t.place[i]+1,hit',b.keep λo e=>(sb.2 _ hIS).trans e,λo' es' t' z1 z2=>?_⟩ ⟨λb o hb e=>(sb.2 b (λz=>hb (by simp[z]))).trans e,rfl,rfl,rfl,nr0 _⟩
   have z1:h'.get? S=some o':=z1;rw[(sb.2 _ hIS).trans h1]at z1;cases z1;rw[h2]at z2;injection z2 with _ _ z2
   subst z2;exact⟨d1,P2.next hj⟩
 .obtain⟨sl,a,b,d⟩:=st
  obtain⟨o,es,t,h1,h1x,h2,h3,h4,h5,h6⟩:=id b;have hes:es.size=xs.length:=by rw[<-al0,h4,lm0]
  obtain⟨d1,d2⟩:=d o es t h1 h2;refine qS hh a b rfl (λA E Q q=>mW h1 h2 h3 hb (by rw[h5,hb];rfl) (by rw[hes];exact d1) ?_) λh' eb=>hQ _ ⟨λb o hb e=>eb b o (λz=>hb (by simp[z])) e,rfl,rfl,rfl,nr0 _⟩
  rw[d2,show es[xs.length]?=none from Array.getElem?_eq_none (by omega)];exact q
 .obtain⟨sl,a,_⟩:=st
  exact jb a hQ
def pJ{ps:List Nat}(hp:ps.Perm (List.range xs.length))(hIS:S≠I)(hIT:T≠I)(hh:A.handled=none):
  WalksS prog w A I [I,S,T] [I] eqG xs.length (zT kd (ps.map λk=>xs.getD k default)) (λi s=>SetIt s.heap I S (.ref T) i xs.length ep/\StrSet kd s.heap S xs ep/\∃o,s.heap.get? T=some o/\o.data=.seq (ps.map λ(k:Nat)=>rawInt (k:Int)).toArray):=by
 have hl:ps.length=xs.length:=by rw[hp.length_eq,lr0]
 refine⟨λb hb=>by simp at hb;simp[hb],λf=>rfl,λf f f h1 h2=>h2.trans h1,λi s h' tk st f hk=>?_,λi s Q E hi st hQ=>?_,λs Q E st hQ=>?_,λi s Q E st hQ=>jb st.1 hQ⟩
 .obtain⟨a,b,o,c,d⟩:=st
  exact⟨a.keep λo e=>hk I (by simp) o e,b.keep λo e=>hk S (by simp) o e,o,hk T (by simp) o c,d⟩
 .obtain⟨a,b,o,c,d⟩:=st
  have hi':i<ps.length:=by omega
  have e:ps[i]?=some ps[i]:=ge0 hi';have hm:ps[i]<xs.length:=List.mem_range.mp (hp.mem_iff.mp (List.getElem_mem hi'));refine tB a b rfl c d e (ge0 hm) λh' hit' sb=>?_
  exact hQ _ _ ⟨xs[ps[i]],by simp[e,List.getD,ge0 hm],rfl⟩ ⟨hit',b.keep λo e=>(sb.2 _ hIS).trans e,o,(sb.2 _ hIT).trans c,d⟩ ⟨λb o hb e=>(sb.2 b (λz=>hb (by simp[z]))).trans e,rfl,rfl,rfl,nr0 _⟩
 .obtain⟨a,b,o,c,d⟩:=st
  exact vV hh a b rfl c d (List.getElem?_eq_none (by omega)) λh' eb=>hQ _ ⟨λb o hb e=>eb b o (λz=>hb (by simp[z])) e,rfl,rfl,rfl,nr0 _⟩
end
section
variable {A:Around}{E:Value->Shared->Prop}{S:Addr}{J:Type}[DecidableEq J][Inhabited J]{kd:KD prog w J}{xs:List (J×Tok)}
structure HD{prog:Program}{w:World}{J:Type}[DecidableEq J](kd:KD prog w J)(A:Around)(S:Addr)(xs:List (J×Tok))(s s':Shared)(I:Addr):Prop where
 ex:∃(fp:List Addr)(order:List (J×Tok))(St:Nat->Shared->Prop),order.Perm xs/\WalksS prog w A I fp [I] eqG xs.length (zT kd order) St/\St 0 s'/\(∀b∈fp,b=S\/s.heap.get? b=none)/\s.heap.get? I=none
def vX(hh:A.handled=none)(hS:StrSet kd s.heap S xs ep)(hz:xs.length<4000)
  (h:∀h' d I,(∀b o,s.heap.get? b=some o->h'.get? b=some o)->HD kd A S xs s {s with heap:=h',drawn:=d} I->Q (.ref I) {s with heap:=h',drawn:=d}):
  wpAny (model prog w) A (pyIter (.ref S)) Q E s:=by
 obtain⟨o,es,t,h1,h1x,h2,h3,h4,h5,h6⟩:=id hS;have ltS:=hs0 h1;have hes:es.size=xs.length:=by rw[<-al0,h4,lm0]
 refine wpAny_pyIter_slot hS.isA F.slot_set_iter (wpAny_call_entry F.slot_set_iter hS.isA iZ ?_ (F.args_set_iter_1 _));unfold Builtin.«frozenset.__iter__» Builtin.Frozenset.slot0;refine wb0 (wb0 (m:=slotArgs "__iter__" 0 _) (wq0 (wq0 ?_)));unfold Builtin.Frozenset.sizeOf setEntries;refine wb0 (wb0 (wb0 (wpAny_setState_of h1 h2 h3 (wq0 (wq0 ?_)))));unfold setDrawn;refine wb0 (wb0 (wpAny_setState_of h1 h2 h3 (wb0 (asks (wq0 ?_)))));show wpAny (model prog w) A.in1 (do
  let first ←if (!byTx w&&(!t.plain&&decide (es.size>1)))=true then do newTuple ((<-drawOrder es.size (List.range es.size)).map λ(i:Nat)=>rawInt i)else pure (rawInt 0)
  ret (<-newFields "set_iterator" [first,rawInt 0,.ref S,rawInt es.size,rawInt (<-setEpoch S)])) _ _ s
 have fin:∀(f0:Value)(s1:Shared),s1.heap.get? S=some o->(∀Q':Value->Shared->Prop,Q' (.ref s1.heap.objs.size) {s1 with heap:=s1.heap.push {cls:=.type "set_iterator",data:=.fields #[f0,.int 0 0,.ref S,.int xs.length 0,.int ep 0]}}->
   wpAny (model prog w) A.in1 (do ret (<-newFields "set_iterator" [f0,rawInt 0,.ref S,rawInt es.size,rawInt (<-setEpoch S)])) (λf s'=>∃v,f=.done (.ret v)/\Q' v s') E s1):=λf0 s1 g Q' q=>by
  refine wb0 (wpAny_setEpoch_of g h2 h3 ?_);unfold newFields;refine wb0 (wpAny_newObj_type (wq0 ⟨_,rfl,?_⟩));rw[hes];exact q
 cases hb:byTx w with
 |true=>
  rw[if_neg (by simp)];refine wb0 (wq0 (fin _ s h1 _ ?_));have hne:S≠s.heap.objs.size:=nn0 ltS;obtain⟨order,po,W⟩:=tD (kd:=kd) (prog:=prog) (A:=A) (I:=s.heap.objs.size) (S:=S) (xs:=xs) (ep:=ep) hb hne hh;refine⟨_,_,⟨_,pz0 _ rfl,rfl⟩,slot_sit_next.lookup,?_⟩;refine h _ s.drawn _ (λb o e=>ps0 _ e) ⟨_,order,_,po,W,⟨⟨_,pz0 _ rfl,rfl,rfl⟩,hS.keep λo e=>ps0 _ e⟩,λb hb=>?_,fO _⟩;rcases mq0 hb with e|hb
  .rw[e];exact .inr (fO _)
  .exact .inl (by simpa using hb)
 |false=>
  by_cases n1:t.plain=true\/xs.length<=1
  .rw[if_neg (by
    rcases n1 with z|z
    .rw[z];simp
    .rw[df0 (by omega)];simp)]
   refine wb0 (wq0 (fin _ s h1 _ ?_));have hne:S≠s.heap.objs.size:=nn0 ltS;have n1':t.plain=false->xs.length<=1:=λz=>n1.resolve_left (by rw[z];exact fx0)
   have W:=vW (kd:=kd) (A:=A) (I:=s.heap.objs.size) (S:=S) (xs:=xs) (ep:=ep) hb hne hh;refine⟨_,_,⟨_,pz0 _ rfl,rfl⟩,slot_sit_next.lookup,?_⟩;refine h _ s.drawn _ (λb o e=>ps0 _ e) ⟨_,xs,_,.refl _,W,⟨0,⟨_,pz0 _ rfl,rfl,rfl⟩,hS.keep λo e=>ps0 _ e,λo' es' t' z1 z2=>?_⟩,λb hb=>?_,fO _⟩
   .have z1:=z1
    rw[ps0 _ h1]at z1;cases z1;rw[h2]at z2;injection z2 with _ _ z2
    subst z2;exact⟨n1',(mZ h6 (by rw[<-hes];exact h3) n1').zero⟩
   rcases mq0 hb with e|hb
   .rw[e];exact .inr (fO _)
   .exact .inl (by simpa using hb)
  .have np:=bf0 λz=>n1 (.inl z)
   rw[if_pos (by rw[np,dt0 (by have:¬ xs.length<=1:=λz=>n1 (.inr z);omega)];rfl)];refine wb0 (tu _ _ _ _ List.length_range.symm λps d hp=>wb0 ?_);rw[hes]at hp;have hl:ps.length=xs.length:=by rw[hp.length_eq,lr0]
   refine wpAny_newTuple ?_ (by rw[lm0,hl,sizeLine_eq];omega);refine fin _ {s with heap:=s.heap.push _,drawn:=d} (ps0 _ h1) _ ?_;have hne:S≠(s.heap.push {cls:=.type "tuple",data:=.seq (ps.map λ(k:Nat)=>rawInt (k:Int)).toArray}).objs.size:=by rw[Heap.size_push];exact nn0 (Nat.lt_succ_of_lt ltS)
   have hne2:s.heap.objs.size≠(s.heap.push {cls:=.type "tuple",data:=.seq (ps.map λ(k:Nat)=>rawInt (k:Int)).toArray}).objs.size:=by rw[Heap.size_push];omega
   have W:=pJ (kd:=kd) (prog:=prog) (w:=w) (A:=A) (I:=(s.heap.push {cls:=.type "tuple",data:=.seq (ps.map λ(k:Nat)=>rawInt (k:Int)).toArray}).objs.size) (S:=S) (T:=s.heap.objs.size) (xs:=xs) (ep:=ep) hp hne hne2 hh;have kk:∀b o,s.heap.get? b=some o->((s.heap.push {cls:=.type "tuple",data:=.seq (ps.map λ(k:Nat)=>rawInt (k:Int)).toArray}).push {cls:=.type "set_iterator",data:=.fields #[.ref s.heap.objs.size,.int 0 0,.ref S,.int xs.length 0,.int ep 0]}).get? b=some o:=λb o e=>ps0 _ (ps0 _ e)
   have no:∀b,s.heap.objs.size<=b->s.heap.get? b=none:=λb hb=>by
    cases q:s.heap.get? b with
    |none=>rfl
    |some o=>exact absurd (hs0 q) (Nat.not_lt.mpr hb)
   refine⟨_,_,⟨_,pz0 _ rfl,rfl⟩,slot_sit_next.lookup,?_⟩;refine h _ d _ kk ⟨_,_,_,(hp.map _).trans (.of_eq ((by
     apply List.ext_getElem
     .simp
     .intro i h1 h2
      simp[h2]))),W,⟨⟨_,pz0 _ rfl,rfl,rfl⟩,hS.keep λo e=>kk _ _ e,_,ps0 _ (pz0 _ rfl),rfl⟩,λb hb=>?_,no _ (by rw[Heap.size_push];omega)⟩
   rcases mq0 hb with e|hb
   .rw[e];exact .inr (no _ (by rw[Heap.size_push];omega))
   .rcases mq0 hb with e|hb
    .exact .inl e
    .have:b=s.heap.objs.size:=by simpa using hb
     rw[this];exact .inr (fO _)
def vY{Q}(hT:s.TypeIs (.ref S) "set")(h:Q false s):wpAny (model prog w) A (Builtin.List.listLengthHint (.ref S)) Q E s:=by
 unfold Builtin.List.listLengthHint;refine wb0 (wpAny_specialOf hT F.slot_set_len.lookup ?_);generalize hid:("set.__len__":String)=id0
 wp_delta
 rw[show splitId id0=some ("set","__len__")from by subst hid;decide +kernel];subst hid;refine wb0 (wpAny_isInstance (T:="set") (b:=true) hT (by rw[isSubtype_type];kernel_rfl) ?_);refine wpAny_ite_split (λz=>absurd z (by decide)) λa=>wpAny_ite_split (λa=>wb0 (wpAny_typeOf hT (wq0 h))) λz=>absurd (by decide +kernel) z
def pK{R}{L}(hh:A.handled=none)(hS:StrSet kd s.heap S xs ep)(hz:xs.length<4000)(res)(hL:s.heap.get? L=some {cls:=.type "list",data:=.seq #[]})(hLS:L≠S)
  (h:∀h' tk d (order:List (J×Tok)) (acc:Array Value) c,order.Perm xs->(∀b o,b≠L->s.heap.get? b=some o->h'.get? b=some o)->h'.get? L=some {cls:=.type "list",dict:=none,data:=.seq acc c,slots:=#[]}->acc.toList=order.map (λp=>kd.vl p.1 p.2)->R (.ok (.ret res)) {s with heap:=h',toks:=tk,drawn:=d}):
  wpAny (model prog w) A.in1 (Builtin.List.listExtendWith (.ref L) (.ref S) res)
   (λfin s'=>match fin with|.done f=>R (.ok f) s'|.again c'=>c'.quiet=true/\codeAny (model prog w) A c' R s') (λe s'=>R (.error e) s') s:=by
 unfold Builtin.List.listExtendWith;refine wb0 (wpAny_typeOf (T:="set") hS.isA ?_);have q1:Builtin.List.listSameRef (.ref L) (.ref S)=false:=by simp[Builtin.List.listSameRef,hLS]
 have q2:(Value.type "set"==Value.type "list")=false:=by decide
 have q3:(Value.type "set"==Value.type "tuple")=false:=by decide
 simp only[q1,q2,q3,Bool.or_false,Bool.false_eq_true,if_false];refine wb0 (vX (A:=A.in1) hh hS hz λh' d I kk W=>?_);obtain⟨fp,order,St,po,W,st,hfp,hI⟩:=W.ex;have nIL:I≠L:=λe=>by rw[e,hL]at hI;cases hI
 have nf:L∉fp:=λhb=>(hfp L hb).elim hLS λz=>by rw[hL]at z;cases z
 refine wb0 (wh0 (vY (s:={s with heap:=h',drawn:=d}) (hS.keep λo e=>kk _ _ e).isA ?_));have key:∀(h2:Heap)(tk c:Nat),St 0 {s with heap:=h2,drawn:=d,toks:=tk}->(∀b o,b≠L->s.heap.get? b=some o->h2.get? b=some o)->h2.get? L=some {cls:=.type "list",data:=.seq #[] c}->codeAny (model prog w) A (.builtin "list.extend.loop" ⟨[.ref L,.ref I,res],[]⟩) R {s with heap:=h2,drawn:=d,toks:=tk}:=λh2 tk c st2 k2 l2=>by
  refine codeAny_extend_loopS W (by rw[sizeLine_eq];omega) L nf res xs.length 0 _ #[] c rfl (Nat.zero_le _) st2 l2 (ItemsOf.nil _) λs' acc c' hm hL' hacc=>?_
  have es:s'={s with heap:=s'.heap,toks:=s'.toks,drawn:=d}:=by
   obtain⟨_,a1,a2,a3,_⟩:=hm;obtain⟨hp,g,dd,tk,os⟩:=s';simp only at a1 a2 a3;subst a1 a2 a3;rfl
  rw[es];refine h s'.heap s'.toks d order acc c' po (λb o hb e=>hm.heap b o (λz=>?_) (k2 b o hb e)) hL' ?_
  .rcases mq0 z with z|z
   .exact hb z
   .have:b=I:=by simpa using z
    rw[this,hI]at e;cases e
  .apply List.ext_getElem?
   intro i;rw[Array.getElem?_toList,gm0];cases q:acc[i]? with
   |none=>
    have hi:acc.size<=i:=by simpa using q
    rw[List.getElem?_eq_none (by rw[po.length_eq];rw[hacc.1]at hi;exact hi)];rfl
   |some v=>
    obtain⟨p,e1,rfl⟩:=hacc.2 i v q;rw[e1];rfl
 have oth:∀(f:Array Value->Array Value)(hh:Heap)(b:Addr)(o:Obj),b≠L->hh.get? b=some o->(hh.update L (Obj.mapSeq f)).get? b=some o:=λf hh b o nb e=>(Heap.get?_update_other _ _ (Ne.symm nb)).trans e
 have hL1:=kk _ _ hL;refine wpAny_ite_split (λa=>?_) (λa=>wq0 ⟨plainId_quiet F.plain_extend_loop _,key h' s.toks 0 st (λb o a e=>kk b o e) hL1⟩);refine wb0 (wpAny_rule (wb0 ?_));show wpAny (model prog w) _ (updateSeq L (·.push .none) >>= λa=>updateSeq L (·.pop)) _ _ _;refine wb0 (wpAny_updateSeq hL1 rfl ?_);have hL2:=hu0 (Obj.mapSeq (·.push Value.none)) hL1 rfl;refine wpAny_updateSeq (hz:=by seq_fits) hL2 rfl ?_;have hL3:=hu0 (Obj.mapSeq (·.pop)) hL2 rfl;refine wq0 ⟨plainId_quiet F.plain_extend_loop _,key _ s.toks _ (W.frame 0 _ _ _ st (nr0 _) λb hb o e=>?_) (λb o nb e=>oth _ _ _ _ nb (oth _ _ _ _ nb (kk b o e))) hL3⟩
 exact oth _ _ _ _ (λz=>nf (z▸hb)) (oth _ _ _ _ (λz=>nf (z▸hb)) e)
def ng{R}(hh:A.handled=none)(hS:StrSet kd s.heap S xs ep)(hz:xs.length<4000)
  (h:∀h' tk d (order:List (J×Tok)),order.Perm xs->s.heap.objs.size<=h'.objs.size->(∀b o,s.heap.get? b=some o->h'.get? b=some o)->R (order.map λp=>kd.vl p.1 p.2) {s with heap:=h',toks:=tk,drawn:=d}):
  wpAny (model prog w) A (collect (.ref S)) R E s:=by
 have ltS:=let ⟨_,_,_,e,_⟩:=hS;hs0 e
 unfold collect;refine wb0 (wpAny_runValue (codeAny_builtin entry_proto_collect' ?_));rw[ui0 PySem.F.plain_proto_collect];show wpAny _ A.in1 (newList [] >>= λl=>again (.builtin "list.__iadd__" ⟨[l,.ref S],[]⟩)) _ _ s;refine wb0 (wpAny_newObj_type (wq0 ⟨plainId_quiet PySem.F.plain_list_iadd _,codeAny_builtin entry_list_iadd' ?_⟩));rw[ui0 PySem.F.plain_list_iadd];have hL:(s.heap.push {cls:=.type "list",data:=.seq ([]:List Value).toArray}).get? s.heap.objs.size=some {cls:=.type "list",data:=.seq #[]}:=pz0 _ rfl;show wpAny _ A.in1 (Builtin.List.listExtendWith (.ref s.heap.objs.size) (.ref S) (.ref s.heap.objs.size)) _ _ _
 refine wpAny_mono (pK (kd:=kd) (A:=A) (s:={s with heap:=s.heap.push {cls:=.type "list",data:=.seq ([]:List Value).toArray}})
  (R:=λq s'=>∃h' tk d,∃order:List (J×Tok),∃(acc:Array Value)(c:Nat),q=.ok (.ret (.ref s.heap.objs.size))/\s'={s with heap:=h',toks:=tk,drawn:=d}/\order.Perm xs/\(∀b o,s.heap.get? b=some o->h'.get? b=some o)/\h'.get? s.heap.objs.size=some {cls:=.type "list",dict:=none,data:=.seq acc c,slots:=#[]}/\acc.toList=order.map (λp=>kd.vl p.1 p.2))
  hh (hS.keep λo e=>ps0 _ e) hz (.ref s.heap.objs.size) hL (Nat.ne_of_gt ltS) λh' tk d order acc c a1 a2 a3 a4=>⟨h',tk,d,order,acc,c,rfl,rfl,a1,λb o e=>a2 b o (nn0 (hs0 e)) (ps0 _ e),a3,a4⟩) (λfin s' x=>?_) λe s' x=>?_
 .cases fin with
  |done f=>
   obtain⟨h',tk,d,order,acc,c,e,rfl,a1,a2,a3,a4⟩:=x;cases e;show wpAny (model prog w) A (load s.heap.objs.size >>= _) _ _ _;refine wb0 (wpAny_load a3 (wq0 ?_));rw[a4];exact h h' tk d order a1 (Nat.le_of_lt (hs0 a3)) a2
  |again c1=>
   refine⟨x.1,codeAny_mono x.2 λq s2 y=>?_⟩;obtain⟨h',tk,d,order,acc,c,rfl,rfl,a1,a2,a3,a4⟩:=y;show wpAny (model prog w) A (load s.heap.objs.size >>= _) _ _ _;refine wb0 (wpAny_load a3 (wq0 ?_));rw[a4];exact h h' tk d order a1 (Nat.le_of_lt (hs0 a3)) a2
 .obtain⟨_,_,_,_,_,_,z,_⟩:=x
  cases z
noncomputable def kdS(prog:Program)(w:World):KD prog w Str:=⟨strKind prog w,.str,false,λk t=>by simp[strKind,Value.isStrOf],λa a=>rfl,λa a=>rfl⟩
def ft(order:List (Str×Tok)):StrsAre (order.map λp=>Value.str p.1 p.2) (order.map (·.1)):=by
 induction order with
 |nil=>exact .nil
 |cons p r ih=>exact .cons p.1 p.2 ih
def pL{P:List Value->Array Value->Prop}(hh:A.handled=none)(hS:StrSet kd s.heap S xs ep)(hz:xs.length<64)
  (srt:∀(A':Around)(E':Value->Shared->Prop)(s':Shared)(a:Addr)(order:List (J×Tok))(Q':Fin->Shared->Prop),order.length<64->s'.heap.get? a=some (seqObj "list" (order.map λp=>kd.vl p.1 p.2).toArray 0)->(∀out,P (order.map λp=>kd.vl p.1 p.2) out->Q' (.done (.ret .none)) {s' with heap:=sortedHeap s'.heap a (order.map λp=>kd.vl p.1 p.2) out})->wpAny (model prog w) A' (Builtin.«list.sort» ⟨[.ref a],[]⟩) Q' E' s')
  (h:∀h' tk d D (out:Array Value) n (order:List (J×Tok)),(∀b o,s.heap.get? b=some o->h'.get? b=some o)->h'.get? D=some (seqObj "list" out n)->s.heap.objs.size<=D->order.Perm xs->P (order.map λp=>kd.vl p.1 p.2) out->Q (.ref D) {s with heap:=h',toks:=tk,drawn:=d}):
  wpAny (model prog w) A (call (.builtin "sorted") [.ref S]) Q E s:=by
 refine Calls.call_function_entry kind_sorted plain_sorted entry_sorted (args_sorted1 _) ?_;unfold Builtin.«sorted»;refine wb0 (m:=checkCount "sorted" 1 1 _) (wq0 (wb0 (ng (A:=A.in1) hh hS (by omega) λh1 tk d order po sz k1=>?_)));have hl:order.length=xs.length:=po.length_eq;refine wb0 (wpAny_newList ?_ (by rw[lm0,hl,sizeLine_eq];omega));have gD:(h1.push {cls:=.type "list",data:=.seq (order.map λp=>kd.vl p.1 p.2).toArray}).get? h1.objs.size=some (seqObj "list" (order.map λp=>kd.vl p.1 p.2).toArray 0):=pz0 _ rfl;have kD:∀b o,s.heap.get? b=some o->b<h1.objs.size:=λb o e=>hs0 (k1 b o e)
 refine wb0 (wh0 (wpAny_call_entry slot_list_sort ⟨_,gD,rfl⟩ entry_list_sort (srt _ _ _ _ order _ (by omega) gD λout a1=>⟨_,rfl,?_⟩) (args_list_sort _)));refine wq0 ⟨_,rfl,?_⟩;obtain⟨n,fin⟩:=sortedHeap_at (out:=out) gD;refine h _ tk d h1.objs.size _ n order (λb o e=>?_) fin sz po a1;have lt:b<h1.objs.size:=kD b o e;exact (sortedHeap_old (nn0 lt) (by rw[size_push'];exact Nat.lt_succ_of_lt lt)).trans (ps0 _ (k1 b o e))
def ij{xs:List (Str×Tok)}(hh:A.handled=none)(hS:StrSet (kdS prog w) s.heap S xs ep)(hz:xs.length<64)
  (h:∀h' tk d D (out:Array Value) n (ss:List Str),(∀b o,s.heap.get? b=some o->h'.get? b=some o)->h'.get? D=some (seqObj "list" out n)->s.heap.objs.size<=D->StrsAre out.toList ss->ss.Perm (xs.map (·.1))->sortedS ss=true->Q (.ref D) {s with heap:=h',toks:=tk,drawn:=d}):
  wpAny (model prog w) A (call (.builtin "sorted") [.ref S]) Q E s:=by
 refine pL (P:=λvs out=>∀ss,StrsAre vs ss->∃ss',StrsAre out.toList ss'/\ss'.Perm ss/\sortedS ss'=true) hh hS hz (λA' E' s' a order Q' l gD k=>?_) λh' tk d D out n order kk gD sz po a1=>?_
 .refine list_sort_treeK strKind_oneLt gD (ft order).keysOf (λv1 v2 rest e=>keyKind_strs (by rw[<-e];exact ft order)) (by rw[lm0];exact l) λst' a1 a2=>k _ λss hs=>?_
  exact sorted_out_str hs a1 a2
 .obtain⟨ss,b1,b2,b3⟩:=a1 _ (ft order)
  exact h h' tk d D out n ss kk gD sz b1 (b2.trans (po.map _)) b3
end
end PySem
namespace L2.Z
open PySem PySem.Spec PyProof.Rows L2 L2.C SI
section
variable {e:Expr}{p:Pos}
def aK(es:List Expr):Prop:=∀e∈es,isStar e=false
theorem aC :∀{es:List Expr},aK es->(backTo pos (starEach es env)).any (·.1)=false
 |[],_=>rfl
 |e::r,h=>by
  rw[af (h e ms0)];show (false||(backTo pos (starEach r env)).any (·.1))=false;rw[aC λx hx=>h x (mc0 _ hx)];rfl
theorem kj :∀{es:List Expr},aK es->(backTo pos (starEach es env)).all (λx=>!x.1)=true
 |[],_=>rfl
 |e::r,h=>by
  rw[af (h e ms0)];show (true&&(backTo pos (starEach r env)).all (λx=>!x.1))=true;rw[kj λx hx=>h x (mc0 _ hx)];rfl
noncomputable abbrev fl3:List Bool:=[true,true,true]
abbrev CRr(K:Fg)(r:List V->Hp->VK->Prop)(fl:List Bool)(ds:List D)(d:D):Prop:=∀(vs:List V)(G H:Hp)(Q:VK),Same G H->Das K G H fl ds vs->(∀v G' H',Ext G H G' H'->Dp K G' d v->Q v H')->r vs H Q
abbrev CRn(K:Fg)(r:List V->Hp->VK->Prop)(fl:List Bool)(ds:List D)(d:D):Prop:=∀(vs:List V)(G H:Hp)(Q:VK),Same G H->Das K G H fl ds vs->(∀p G' H',Ext G H G' H'->G' p=.none->H p=.none->OwnAt K G' H' d p->Q (.ref p) H')->r vs H Q
structure Blt(X:Cx)(x:Str):Prop where
 g:Gl X x
 m:X.mg x=Option.none
 n:x≠"__name__"
 d:(x==("__debug__":Str))=false
def dP{id:String}{r:List V->Hp->VK->Prop}(B:Blt X x)(hc:ba X (.builtin id) r)(hv:bootBuiltins x=some (.builtin id))(ha:Ea X Y fl (e::es) ds)(hs:aK (e::es))(h:CRr X.K r fl ds d):Ev X Y (.Call (.Name x p) (e::es) [] pos) d:=
 λpins s σ H Q I ⟨G0,H0,G,E,k⟩=>cq hc B.g B.m hv ha B.n B.d (af (hs e ms0)) (aC λy hy=>hs y (mc0 _ hy)) pins s σ H Q I
  ⟨G0,H0,G,E,λvs G1 H1 e1 r1=>h vs G1 H1 Q e1.gh r1 λv G' H' e2 r2=>k v G' H' (e1.trans e2) r2⟩
def fQ{r:List V->Hp->VK->Prop}(B:Blt X x)(hc:ba X (.type T) r)(hv:bootBuiltins x=some (.type T))(ha:Ea X Y fl (e::es) ds)(hs:aK (e::es))(h:CRr X.K r fl ds d):Ev X Y (.Call (.Name x p) (e::es) [] pos) d:=
 λpins s σ H Q I ⟨G0,H0,G,E,k⟩=>eE hc B.g B.m hv ha B.n B.d (af (hs e ms0)) (aC λy hy=>hs y (mc0 _ hy)) pins s σ H Q I
  ⟨G0,H0,G,E,λvs G1 H1 e1 r1=>h vs G1 H1 Q e1.gh r1 λv G' H' e2 r2=>k v G' H' (e1.trans e2) r2⟩
def jc{T}{r}(B:Blt X x)(hc:ba X (.type T) r)(hv:bootBuiltins x=some (.type T))(ha:Ea X Y fl (e::es) ds)(hs:aK (e::es))(h:CRn X.K r fl ds d):En X Y (.Call (.Name x p) (e::es) [] pos) d:=
 λpins s σ H Q I ⟨G0,H0,G,E,k⟩=>eE hc B.g B.m hv ha B.n B.d (af (hs e ms0)) (aC λy hy=>hs y (mc0 _ hy)) pins s σ H Q I
  ⟨G0,H0,G,E,λvs G1 H1 e1 r1=>h vs G1 H1 Q e1.gh r1 λp G' H' e2 g2 h2 r2=>k p G' H' (e1.trans e2) g2 (e1.hh.free h2) r2⟩
def Das.one{K}{G H}{vs}(h:Das K G H fl [d] vs):∃v,vs=[v]/\Dr K G H d v:=by
 cases h with|cons _ h r=>cases r;exact⟨_,rfl,h⟩
def Das.two{K}{G H}{vs}(h:Das K G H fl [d1,d2] vs):∃v w,vs=[v,w]/\Dr K G H d1 v/\Dr K G H d2 w:=by
 cases h with|cons _ h r=>cases r with|cons _ h2 r=>cases r;exact⟨_,_,rfl,h,h2⟩
def pM:bootBuiltins ("dict":Str)=some (.type "dict"):=by decide +kernel
def tE:bootBuiltins ("all":Str)=some (.builtin "all"):=by decide +kernel
def nh:bootBuiltins ("tuple":Str)=some (.type "tuple"):=by decide +kernel
set_option tactic.hygienic true
def qU{i}(h:pj i=some x):i.natAbs.log2<1920/\x=toString i/\PyData.strOk x=true:=by
 unfold pj at h;split at h
 .rename_i c
  cases h;refine⟨?_,rfl,(by
    have h0:=c.1;obtain⟨m,rfl⟩:=Int.eq_ofNat_of_zero_le h0;rw[strOk_iff];intro c hc;rw[PySem.W.KIN.signs_num]at hc;obtain⟨ch,_,e⟩:=mm0 hc;rw[<-e];have:=ch.valid;have h:ch.val.toNat<0x110000:=by
     rcases this with h|⟨_,h⟩
     .exact Nat.lt_trans h (by decide)
     .exact h
    exact h)⟩
  have h1:i.natAbs<2 ^ 60:=by unfold GX at c;omega
  by_cases z:i.natAbs=0
  .rw[z];decide
  .exact Nat.lt_trans ((Nat.log2_lt z).mpr h1) (by decide)
 .cases h
def vZ{f:Bf}(hcalm:X.calm=true)(B:Blt X x)(hf:ka x=some f)(h:biD f ds=some d)(ha:Ea X Y fl3 (e::es) ds)(hs:aK (e::es)):
  Ev X Y (.Call (.Name x p) (e::es) [] pos) d/\(frB f=true->bc d=true->En X Y (.Call (.Name x p) (e::es) [] pos) d):=by
 have old:frB f=false->Ev X Y (.Call (.Name x p) (e::es) [] pos) d->Ev X Y (.Call (.Name x p) (e::es) [] pos) d/\(frB f=true->bc d=true->En X Y (.Call (.Name x p) (e::es) [] pos) d):=
  λz q=>⟨q,λc=>by rw[z]at c;cases c⟩
 have new:En X Y (.Call (.Name x p) (e::es) [] pos) d->Ev X Y (.Call (.Name x p) (e::es) [] pos) d/\(frB f=true->bc d=true->En X Y (.Call (.Name x p) (e::es) [] pos) d):=λq=>⟨q.ev,λa a=>q⟩
 unfold ka at hf;split at hf
 .rename_i c
  subst c;cases hf;refine old rfl ?_
  match ds,h with
  |[.list ls],h=>
   cases h;refine dP B fD PySem.boot_len ha hs λvs G H Q s r k=>?_
   obtain⟨v,rfl,hv⟩:=r.one;obtain⟨q,ws,rfl,h1,r1⟩:=hv.lst s;exact⟨_,ws.length,rfl,.inl ⟨ws,SqL.of h1,rfl⟩,by rw[<-r1.length];exact k _ G H (.refl s) (.int _)⟩
  |[.tuple ls],h=>
   cases h;refine dP B fD PySem.boot_len ha hs λvs G H Q s r k=>?_
   obtain⟨v,rfl,hv⟩:=r.one;obtain⟨q,ws,rfl,h1,r1⟩:=hv.tup s;exact⟨_,ws.length,rfl,.inr ⟨ws,SqT.of h1,rfl⟩,by rw[<-r1.length];exact k _ G H (.refl s) (.int _)⟩
  |[.scr ns],h=>
   cases h;refine dP B fD PySem.boot_len ha hs λvs G H Q s r k=>?_
   obtain⟨v,rfl,hv⟩:=r.one;obtain⟨q,rfl,h1⟩:=hv.scr s;exact⟨_,(ns.map V.int).length,rfl,.inl ⟨_,h1,rfl⟩,by rw[lm0];exact k _ G H (.refl s) (.int _)⟩
  |[.str y],h=>
   rw[SI.len_str]at h;split at h
   .rename_i c
    cases h;rw[big_eq]at c;refine dP B fD PySem.boot_len ha hs λvs G H Q s r k=>?_
    obtain⟨v,rfl,hv⟩:=r.one;exact⟨_,y.length,rfl,by rw[hv.str.1];exact⟨c,rfl⟩,k _ G H (.refl s) (.int _)⟩
   .cases h
 split at hf
 .rename_i c
  subst c;cases hf;refine old rfl ?_
  match ds,h with
  |[.int i],h=>
   cases h;refine fQ B jT PyProof.Rows.boot_int ha hs λvs G H Q s r k=>?_
   obtain⟨v,rfl,hv⟩:=r.one;exact .inl ⟨i,by rw[hv.int],k _ G H (.refl s) (.int _)⟩
  |[.bool t],h=>
   cases h;refine fQ B jT PyProof.Rows.boot_int ha hs λvs G H Q s r k=>?_
   obtain⟨v,rfl,hv⟩:=r.one;exact .inr ⟨t,by rw[hv.bool],k _ G H (.refl s) (.int _)⟩
 split at hf
 .rename_i c
  subst c;cases hf;refine new ?_
  match ds,h with
  |[.list ls],h=>
   cases h;refine jc B fF PyProof.Rows.boot_list ha hs λvs G H Q s r k=>?_
   obtain⟨v,rfl,hv⟩:=r.one;obtain⟨q,ws,rfl,h1,r1⟩:=hv.lst s;exact⟨q,ws,rfl,.inl (SqL.of h1),λl hl=>k l G _ (.hid s hl) (s.free hl) hl (.inl ⟨_,_,rfl,ae,r1⟩)⟩
  |[.tuple ls],h=>
   cases h;refine jc B fF PyProof.Rows.boot_list ha hs λvs G H Q s r k=>?_
   obtain⟨v,rfl,hv⟩:=r.one;obtain⟨q,ws,rfl,h1,r1⟩:=hv.tup s;exact⟨q,ws,rfl,.inr (SqT.of h1),λl hl=>k l G _ (.hid s hl) (s.free hl) hl (.inl ⟨_,_,rfl,ae,r1⟩)⟩
 split at hf
 .rename_i c
  subst c;cases hf;refine old rfl ?_
  match ds,h with
  |[.int i],h=>
   obtain⟨x,h1,rfl⟩:=mx0 (show (pj i).map _=some d from h);obtain⟨c,e,ok⟩:=qU h1;subst e;refine fQ B lb PyProof.Rows.boot_str ha hs λvs G H Q s r k=>?_
   obtain⟨v,rfl,hv⟩:=r.one;exact⟨i,by rw[hv.int],c,k _ G H (.refl s) (.str _ ok)⟩
 split at hf
 .rename_i c
  subst c;cases hf;refine old rfl ?_
  match ds,h with
  |[.list ls],h=>
   rw[tuple_list]at h;split at h
   .rename_i c
    cases h;rw[big_eq]at c;refine fQ B eX nh ha hs λvs G H Q s r k=>?_
    obtain⟨v,rfl,hv⟩:=r.one;obtain⟨q,ws,rfl,h1,r1⟩:=hv.lst s;exact⟨q,ws,rfl,SqL.of h1,by rw[<-r1.length];exact c,λl hl=>k _ _ _ (.laid s hl) (.tuple ae (r1.mono (aF (s.free hl))))⟩
   .cases h
 split at hf
 .rename_i c
  subst c;cases hf;refine old rfl ?_
  match ds,h with
  |[.list ls],h=>
   obtain⟨bs,e1,rfl⟩:=mx0 (show (boolsOf ls).map _=some d from h);refine dP B (vK hcalm) tE ha hs λvs G H Q s r k=>?_
   obtain⟨v,rfl,hv⟩:=r.one;obtain⟨q,ws,rfl,h1,r1⟩:=hv.lst s;exact⟨q,bs,rfl,by rw[<-mU e1 r1];exact SqL.of h1,k _ G H (.refl s) (.bool _)⟩
 .cases hf
set_option tactic.hygienic false
end
def wa{ch:List Addr}(I:Inv X pins σ H s)(hch:∀b∈ch,X.s₀.heap.objs.size<=b/\∃J,H b=some (.ext J))(ke:∀b o,b∉ch->s.heap.get? b=some o->h'.get? b=some o)
  (ag:∀b,b<s.heap.objs.size->b∉ch->H' b=H b) (new:∀b o,(s.heap.objs.size<=b\/b∈ch)->H' b=some o->ObjOk X.prog X.w H' h' b o):
  Inv X pins σ H' {s with heap:=h',toks:=t'}:=by
 have lt:∀b o,H b=some o->b<s.heap.objs.size:=λb o e=>(I.hok b o e).lt
 have nc:∀b,(∀J,H b≠some (.ext J))->b∉ch:=λb n hb=>let ⟨J,e⟩:=(hch b hb).2;n J e
 have same:∀b o,(∀J,o≠.ext J)->H b=some o->H' b=some o:=λb o n e=>(ag b (lt b _ e) (nc b λJ z=>by rw[e]at z;cases z;exact n J rfl)).trans e
 refine I.step (g':=s.gens) (d':=s.drawn) (ch:=ch) (λb hb=>?_) (λb o a a hc e a=>ke b o hc e) (λb o a a hc e a=>⟨o.slots,ke b o hc e⟩)
  (λb o hc e n=>(ag b (hs0 e) hc).trans n) (λb o hc e=>⟨o,ke b o hc e⟩) (λb xs e=>same b _ (λa z=>by cases z) e)
  (λb o u e=>same b _ (λa z=>by cases z) e) (λb ps e=>⟨#[],by rw[same b _ (λa z=>by cases z) e];simp⟩) (λm hm=>?_) (λb u e=>?_) I.bare
 .obtain⟨h1,J,h2⟩:=hch b hb
  exact⟨.inr h1,(λz=>by rw[z,I.free]at h2;cases h2),(λx c hx z=>by rw[<-z,I.freeC x c hx]at h2;cases h2),λp hp z=>by rw[<-z,(I.pin p hp).2.1]at h2;cases h2⟩
 .obtain⟨o,es,ep,ho,r⟩:=hm
  exact⟨o,es,ep,ke _ o (nc _ λJ z=>by rw[I.free]at z;cases z) ho,r⟩
 .by_cases c:s.heap.objs.size<=b\/b∈ch
  .exact new b u c e
  .have c2:b∉ch:=λz=>c (.inr z)
   refine (I.hok b u ((ag b (Nat.lt_of_not_le λz=>c (.inl z)) c2).symm.trans e)).stay (λd v hd q=>ke d v (λz=>?_) q) (λd q=>same d _ (λa z=>by cases z) q) λd a q=>same d _ (λa z=>by cases z) q
   rcases hd with y|y
   .exact c2 (y▸z)
   .obtain⟨J,e2⟩:=(hch d z).2
    rw[y]at e2;cases e2
end L2.Z
namespace SI
open PySem
def bD(x:Str):ltS x x=false:=by
 unfold ltS;exact df0 (List.lt_irrefl _)
def eG(h:x.cps.toList=y.cps.toList):x=y:=by
 cases x;cases y;simp only[Str.mk.injEq];exact Array.toList_inj.mp h
def cY{z:Str}(h1:ltS x y=true)(h2:ltS y z=true):ltS x z=true:=by
 unfold ltS at *;exact dt0 (List.lt_trans (od0 h1) (od0 h2))
def eI(h:x≠y)(h1:ltS x y=false):ltS y x=true:=by
 unfold ltS at *;have h1:=of_decide_eq_false h1;refine dt0 (Classical.byContradiction λh2=>h (eG ?_));exact List.le_antisymm (List.not_lt.mp h2) (List.not_lt.mp h1)
abbrev RiseS(l:List Str):Prop:=l.Pairwise λa b=>ltS a b=true
set_option tactic.hygienic true
theorem mem_insS(x:Str):∀(l:List Str)(y:Str),y∈jM x l↔y=x\/y∈l
 |[],y=>by simp[jM]
 |z::r,y=>by
  unfold jM;split
  .rename_i e;subst e;simp
  .split
   .simp
   .rw[List.mem_cons,mem_insS x r y,List.mem_cons]
    exact⟨λh=>h.elim (λa=>.inr (.inl a)) λh=>h.elim .inl λa=>.inr (.inr a),λh=>h.elim (λa=>.inr (.inl a)) λh=>h.elim .inl λa=>.inr (.inr a)⟩
theorem km(x:Str):∀l:List Str,RiseS l->RiseS (jM x l)
 |[],_=>by simp[jM]
 |z::r,h=>by
  obtain⟨h1,h2⟩:=List.pairwise_cons.mp h;unfold jM;split
  .exact h
  .rename_i ne
   split
   .rename_i lt
    refine List.pairwise_cons.mpr ⟨λb hb=>?_,h⟩;rcases mq0 hb with e|hb
    .rw[e];exact lt
    .exact cY lt (h1 b hb)
   .rename_i nlt
    refine List.pairwise_cons.mpr ⟨λb hb=>?_,km x r h2⟩;rcases (mem_insS x r b).mp hb with e|hb
    .rw[e];exact eI ne (bf0 nlt)
    .exact h1 b hb
set_option tactic.hygienic false
theorem bM:∀(l:List Str)(y:Str),y∈srtS l↔y∈l
 |[],y=>by simp[srtS]
 |x::r,y=>by rw[srtS,mem_insS,bM r,List.mem_cons]
theorem cj:∀l:List Str,RiseS (srtS l)
 |[]=>List.Pairwise.nil
 |x::r=>km x _ (cj r)
theorem fR:∀{l m:List Str},RiseS l->RiseS m->(∀y,y∈l↔y∈m)->l=m
 |[],[],_,_,_=>rfl
 |[],y::r,_,_,h=>absurd ((h y).mpr ms0) (by simp)
 |x::r,[],_,_,h=>absurd ((h x).mp ms0) (by simp)
 |x::r,y::q,h1,h2,h=>by
  obtain⟨a1,a2⟩:=List.pairwise_cons.mp h1;obtain⟨b1,b2⟩:=List.pairwise_cons.mp h2;have e:x=y:=by
   rcases mq0 ((h x).mp ms0)with e|m1
   .exact e
   .rcases mq0 ((h y).mpr ms0)with e|m2
    .exact e.symm
    .exact absurd (cY (b1 x m1) (a1 y m2)) (by rw[bD];exact fx0)
  subst e;rw[fR a2 b2 λz=>⟨λm=>?_,λm=>?_⟩]
  .rcases mq0 ((h z).mp (mc0 _ m))with e|m'
   .subst e;exact absurd (a1 z m) (by rw[bD];exact fx0)
   .exact m'
  .rcases mq0 ((h z).mpr (mc0 _ m))with e|m'
   .subst e;exact absurd (b1 z m) (by rw[bD];exact fx0)
   .exact m'
def jd(l:List Str):(srtS l).length<=l.length:=by
 induction l with
 |nil=>exact nr0 _
 |cons x r ih=>
  have:∀q:List Str,(jM x q).length<=q.length+1:=by
   intro q
   induction q with
   |nil=>exact nr0 _
   |cons y q ihq=>
    unfold jM;split
    .exact Nat.le_succ _
    .split
     .exact nr0 _
     .simp only[lc0];omega
  have:=this (srtS r);rw[srtS,lc0];omega
end SI
namespace L2.Z
open PySem PySem.Spec PyProof.Rows L2 L2.C SI
def qV{ss:List Str}(h:sortedS ss=true)(n:ss.Nodup):RiseS ss:=by
 have go:∀(l:List Str)(p:Str),risingS p l=true->(p::l).Nodup->RiseS (p::l):=by
  intro l
  induction l with
  |nil=>intro p _ _;simp
  |cons x r ih=>
   intro p h n;have h:(!ltCps x.cps.toList p.cps.toList&&risingS x r)=true:=h;rw[be0,Bool.not_eq_true',ltCps_eq]at h;obtain⟨n1,n2⟩:=List.nodup_cons.mp n;have rr:=ih x h.2 n2;have lt:ltS p x=true:=eI (λe=>n1 (by rw[e];exact ms0)) h.1;refine List.pairwise_cons.mpr ⟨λb hb=>?_,rr⟩;rcases mq0 hb with e|hb
   .rw[e];exact lt
   .exact cY lt ((List.pairwise_cons.mp rr).1 b hb)
 cases ss with
 |nil=>exact List.Pairwise.nil
 |cons p l=>exact go l p h n
section
variable {e:Expr}{p q:Pos}
noncomputable def DU{prog:Program}{w:World}{J:Type}[DecidableEq J](kd:KD prog w J)(l:Addr)(ks:List J):Heap->Prop:=λh=>∃xs ep,xs.map (·.1)=ks/\StrSet kd h l xs ep
def nr{J:Type}{f:J->V}{g:J->Tok->Value}(fg:∀y u,RelV (f y) u->∃tk,u=g y tk):∀{ss:List J}{us:List Value},Vals (ss.map f) us->us.length=ss.length/\∀(j:Nat)(x:J),ss[j]?=some x->∃tk,us[j]?=some (g x tk):=by
 intro ss
 induction ss with
 |nil=>intro us h;cases h;exact⟨rfl,λj x h=>by simp at h⟩
 |cons y r ih=>
  intro us h;cases h with
  |cons h1 h2=>
   obtain⟨a,b⟩:=ih h2;refine⟨by simp[a],λj x h=>?_⟩;cases j with
   |zero=>
    simp at h;subst h;obtain⟨tk,rfl⟩:=fg _ _ h1;exact⟨tk,rfl⟩
   |succ j=>exact b j x (by simpa using h)
def tF{ss:List Str}(h:Vals (ss.map V.str) us):us.length=ss.length/\∀(j:Nat)(x:Str),ss[j]?=some x->∃tk,us[j]?=some (.str x tk):=nr (f:=V.str) (g:=λy t=>.str y t) (λa a h=>h) h
def gr{ss:List Int}(h:Vals (ss.map V.int) us):us.length=ss.length/\∀(j:Nat)(x:Int),ss[j]?=some x->∃tk,us[j]?=some (.int x tk):=nr (f:=V.int) (g:=λy t=>.int y t) (λa a h=>h) h
theorem bV:∀{us:List Value}{ss:List Str},StrsAre us ss->Vals (ss.map V.str) us
 |_,_,.nil=>.nil
 |_,_,.cons x t r=>.cons ⟨t,rfl⟩ (bV r)
def tG{J:Type}[DecidableEq J][Inhabited J](kd:KD X.prog X.w J)(vv:J->V)(hv:∀(ss:List J)(us:List Value),Vals (ss.map vv) us->us.length=ss.length/\∀(j:Nat)(x:J),ss[j]?=some x->∃tk,us[j]?=some (kd.vl x tk))(hc:X.calm=true):ba X (.type "set") (λxs H Q=>∃(r:Addr)(ss:List J),xs=[.ref r]/\SqL X.K H r (ss.map vv)/\ss.length<64/\∀l (ks:List J),H l=none->ks.Nodup->(∀y,y∈ks↔y∈ss)->ks.length<=ss.length->Q (.ref l) (upd H l (.ext (DU kd l ks)))):=by
 intro pins s σ H xs us Q I r h;obtain⟨rr,ss,rfl,hq,hz,k⟩:=h;obtain⟨u,rfl,rx⟩:=vals1 r;cases rx;obtain⟨its,r',pl,_⟩:=I.list hq;obtain⟨v1,v2⟩:=hv _ _ r';refine jN (kd:=kd) (I.ok.hd hc) pl.isList (by rw[ls0,v1]) (by rw[ls0,v1];omega) (λj x e=>by obtain⟨tk,e⟩:=v2 j x e;exact⟨tk,by simpa using e⟩) λh' tk S ys ep fr hS nd mem len kk=>?_
 have gS:∃o,h'.get? S=some o:=let ⟨o,_,_,e,_⟩:=hS;⟨o,e⟩
 have hn:H S=none:=I.hok.fresh fr;refine⟨.ref S,_,I.laid (t':=tk) kk fr (show ObjOk X.prog X.w _ _ _ (.ext _)from⟨⟨ys,ep,rfl,hS⟩,gS,λh1 h2 ⟨a,b,c,d⟩ k2=>⟨a,b,c,d.keep k2⟩⟩),rfl,k S (ys.map (·.1)) hn nd mem (by rw[lm0];exact len)⟩
def tH{pins}{H}{s}(I:Inv X pins σ H s)(d):Inv X pins σ H {s with drawn:=d}:=
 ⟨I.ok,I.os,I.bare,I.base,I.loc,I.cell,I.free,I.freeC,I.pin,I.hok,I.len⟩
def lD(hc:X.calm=true):ba X (.builtin "sorted") (λxs H Q=>∃(l:Addr)(ks:List Str),xs=[.ref l]/\H l=some (.ext (DU (kdS X.prog X.w) l ks))/\ks.length<64/\∀r (ss:List Str),H r=none->ss.Perm ks->sortedS ss=true->Q (.ref r) (upd H r (.lst (ss.map V.str)))):=by
 intro pins s σ H xs us Q I r h;obtain⟨l,ks,rfl,hl,hz,k⟩:=h;obtain⟨u,rfl,rx⟩:=vals1 r;cases rx;obtain⟨⟨xs,ep,rfl,hS⟩,_⟩:=(show ObjOk X.prog X.w H s.heap l (.ext _)from I.hok l _ hl);refine ij (I.ok.hd hc) hS (by rw[lm0]at hz;exact hz) λh' tk d D out n ss kk gD fr sa pe so=>?_
 have hlen:(ss.map V.str).length<=sizeLine:=by
  rw[lm0,pe.length_eq,lm0,sizeLine_eq];rw[lm0]at hz;omega
 refine⟨.ref D,_,((tH I d).laid (s:={s with drawn:=d}) (t':=tk) kk fr (show ObjOk X.prog X.w _ _ _ (.lst _)from⟨hlen,out.toList,n,bV sa,by simpa using gD⟩)),rfl,k D ss (I.hok.fresh fr) pe so⟩
def du:bootBuiltins ("sorted":Str)=some (.builtin "sorted"):=by decide +kernel
def tI:bootBuiltins ("set":Str)=some (.type "set"):=by decide +kernel
def DV{G:Hp}:∀{ds:List D}{vs:List V}{ss:List Str},strsOf ds=some ss->Dps K G ds vs->vs=ss.map V.str/\∀x∈ss,PyData.strOk x=true:=by
 intro ds
 induction ds with
 |nil=>intro vs ss h q;cases q;cases h;exact⟨rfl,λa z=>by cases z⟩
 |cons d r ih=>
  intro vs ss h q;cases d with
  |str x=>
   obtain⟨ss,e,rfl⟩:=mx0 (show (strsOf r).map (x::·)=some _ from h);cases q with
   |cons dd q=>
    obtain⟨e1,e2⟩:=ih e q;cases dd with
    |str _ ok=>
     refine⟨by rw[e1];rfl,λy hy=>?_⟩;rcases mq0 hy with z|z
     .rw[z];exact ok
     .exact e2 y z
  |_=>cases h
theorem pN{G:Hp}:∀{ss:List Str},(∀x∈ss,PyData.strOk x=true)->Dps K G (ss.map .str) (ss.map V.str)
 |[],_=>.nil
 |x::r,h=>.cons (.str _ (h x ms0)) (pN λy hy=>h y (mc0 _ hy))
set_option tactic.hygienic true in
def tJ(hcalm:X.calm=true)(B1:Blt X "sorted")(B2:Blt X "set")(h:biD .srt ds=some d)(ha:Ea X Y fl3 [a] ds)(hs:isStar a=false):Ev X Y (.Call (.Name "sorted" p) [.Call (.Name "set" p2) [a] [] q] [] pos) d:=by
 match ds,h with
 |[.list ls],h=>
  have st:=af (env:=X.env) (es:=[]) hs;obtain⟨ss,h1,h2⟩:=bx0 (show (strsOf ls).bind _=some d from h)
  .have h2:(if ss.length<64 then some (D.list ((srtS ss).map .str))else .none)=some d:=h2
   split at h2
   .rename_i hz
    cases h2;intro pins s σ H Q I h0;obtain⟨G0,H0,G,E,k⟩:=h0;refine cq (lD hcalm) B1.g B1.m du (aD (eE (tG (kdS X.prog X.w) V.str (λb b=>tF) hcalm) B2.g B2.m tI ha B2.n B2.d st rfl) bz rfl) B1.n B1.d rfl rfl pins s σ H Q I ?_;refine⟨G0,H0,G,E,λvs G1 H1 e1 r1=>?_⟩;obtain⟨v,rfl,hv⟩:=r1.one;obtain⟨r,ws,rfl,h3,h4⟩:=hv.lst e1.gh;obtain⟨rfl,oks⟩:=DV h1 h4;refine⟨r,ss,rfl,SqL.of h3,hz,λl ks hl nd mem len=>?_⟩;refine⟨l,ks,rfl,ae,by omega,λr2 ss2 hr2 pe so=>?_⟩;have e:ss2=srtS ss:=fR (qV so (pe.nodup_iff.mpr nd)) (cj ss) λy=>pe.mem_iff.trans ((mem y).trans (bM ss y).symm)
    subst e;have e2:Ext G1 H1 G1 (upd H1 l (.ext (DU (kdS X.prog X.w) l ks))):=.hid e1.gh hl;exact k _ _ _ (e1.trans (e2.trans (.laid e2.gh hr2))) (.list ae ((pN λx hx=>oks x ((bM ss x).mp hx)).mono (Same.refl _)))
   .cases h2
end
def KV.keys{J:Type}{ws:List (J×V)}{vs:List (J×Value)}(h:KV ws vs):ws.map (·.1)=vs.map (·.1):=by
 unfold KV at h
 induction h with
 |nil=>rfl
 |cons a _ ih=>rw[mk0,mk0,a.1,ih]
theorem Dks.keys{K}{G}:∀{ds:List (Key×D)}{vs:List (Key×V)},Dks K G ds vs->ds.map (·.1)=vs.map (·.1)
 |_,_,.nil=>rfl
 |_,_,.cons _ r=>by rw[mk0,mk0,Dks.keys r]
section
variable {p:Pos}
end
section
variable {e:Expr}{p:Pos}
def HE{G H}{v}(s:Same G H)(h:Dr K G H d v)(hd:∃b,lx "int" d=some b):∃T,fE K H v (.type T)/\(d=.none/\T="NoneType"\/(∃b,d=.bool b)/\T="bool"\/(∃i,d=.int i)/\T="int"\/(∃x,d=.str x)/\T="str"\/(∃l,d=.tuple l)/\T="tuple"\/(∃l,d=.list l)/\T="list"\/(∃l,d=.dict l)/\T="dict"):=by
 cases d with
 |none=>rw[h.none];exact⟨_,.non,.inl ⟨rfl,rfl⟩⟩
 |bool b=>rw[h.bool];exact⟨_,.bl b,.inr (.inl ⟨⟨b,rfl⟩,rfl⟩)⟩
 |int i=>rw[h.int];exact⟨_,.int i,.inr (.inr (.inl ⟨⟨i,rfl⟩,rfl⟩))⟩
 |str x=>rw[h.str.1];exact⟨_,.str x,.inr (.inr (.inr (.inl ⟨⟨x,rfl⟩,rfl⟩)))⟩
 |tuple l=>obtain⟨a,vs,rfl,h1,_⟩:=h.tup s;exact⟨_,.tup h1,.inr (.inr (.inr (.inr (.inl ⟨⟨l,rfl⟩,rfl⟩))))⟩
 |list l=>obtain⟨a,vs,rfl,h1,_⟩:=h.lst s;exact⟨_,.lst h1,.inr (.inr (.inr (.inr (.inr (.inl ⟨⟨l,rfl⟩,rfl⟩)))))⟩
 |dict l=>obtain⟨a,vs,rfl,h1,_⟩:=h.dct s;exact⟨_,.dK h1,.inr (.inr (.inr (.inr (.inr (.inr ⟨⟨l,rfl⟩,rfl⟩)))))⟩
 |scr=>obtain⟨_,z⟩:=hd;cases z
 |vlt=>obtain⟨_,z⟩:=hd;cases z
 |hdl=>obtain⟨_,z⟩:=hd;cases z
 |exc=>obtain⟨_,z⟩:=hd;cases z
 |fn=>obtain⟨_,z⟩:=hd;cases z
def wb :ba X (.builtin "isinstance") (λvs H Q=>∃v t r,vs=[v,.ty T]/\fE X.K H v t/\PySem.W.kitOne X.K t (.type T)=some r/\Q (.bl r) H):=by
 intro pins s σ H xs us Q I r h;obtain⟨v,t,b,rfl,ty,hk,q⟩:=h;obtain⟨u,w',rfl,r1,r2⟩:=vals2 r;cases r2;exact sG I r1 ty hk λtk=>⟨.bl b,H,I.tok tk,rfl,q⟩
def zU :∀T,T="NoneType"\/T="bool"\/T="int"\/T="str"\/T="tuple"\/T="list"\/T="dict"->∀U,U="int"\/U="str"\/U="list"\/U="tuple"\/U="bool"->
  PySem.W.kitOne K (.type T) (.type U)=some ((T==U)||(T=="bool"&&U=="int")):=by
 rintro T (rfl|rfl|rfl|rfl|rfl|rfl|rfl) U (rfl|rfl|rfl|rfl|rfl)<;>rfl
def nu:bootBuiltins ("isinstance":Str)=some (.builtin "isinstance"):=by decide +kernel
set_option tactic.hygienic true in
def tK{x}{T}(h:pB x=some T):bootBuiltins x=some (.type T)/\(T="int"\/T="str"\/T="list"\/T="tuple"\/T="bool"):=by
 unfold pB at h;split at h
 .rename_i c;subst c;cases h;exact⟨PyProof.Rows.boot_int,.inl rfl⟩
 split at h
 .rename_i c;subst c;cases h;exact⟨PyProof.Rows.boot_str,.inr (.inl rfl)⟩
 split at h
 .rename_i c;subst c;cases h;exact⟨PyProof.Rows.boot_list,.inr (.inr (.inl rfl))⟩
 split at h
 .rename_i c;subst c;cases h;exact⟨PyProof.Rows.boot_tuple,.inr (.inr (.inr (.inl rfl)))⟩
 split at h
 .rename_i c;subst c;cases h;exact⟨PyProof.Rows.boot_bool,.inr (.inr (.inr (.inr rfl)))⟩
 .cases h
def tL(B:Blt X "isinstance")(Bx:Blt X x)(hT:pB x=some T)(ha:Er X Y a d)(hs:isStar a=false)(h:lx T d=some t):Ev X Y (.Call (.Name "isinstance" p) [a,.Name x px] [] pos) (.bool t):=by
 obtain⟨hb,hU⟩:=tK hT;have pn:PE X (.Name x px) (tC (.ty T)):=qv Bx.g Bx.m hb rfl Bx.n Bx.d;intro pins s σ H Q I h0;obtain⟨G0,H0,G,E,k⟩:=h0;refine cq (wb (T:=T)) B.g B.m nu (aD ha (aD pn bz rfl) (af hs)) (by decide) (by decide) (af hs) rfl pins s σ H Q I ⟨G0,H0,G,E,λv G1 H1 e1 r1=>?_⟩;obtain⟨U,ty,alt⟩:=HE e1.gh r1 (by cases d<;>first|exact⟨_,rfl⟩|cases h);refine⟨v,.type U,t,rfl,ty,?_,k _ G1 H1 e1 (.bool _)⟩;rcases alt with⟨rfl,rfl⟩|⟨⟨b,rfl⟩,rfl⟩|⟨⟨b,rfl⟩,rfl⟩|⟨⟨b,rfl⟩,rfl⟩|⟨⟨b,rfl⟩,rfl⟩|⟨⟨b,rfl⟩,rfl⟩|⟨⟨b,rfl⟩,rfl⟩<;>(cases h;rw[zU _ (by simp) _ hU];rcases hU with rfl|rfl|rfl|rfl|rfl<;>rfl)
theorem ny{G:Hp}:∀{ds:List D}{ys:List Str}{vs:List V},strsOf ds=some ys->Dps K G ds vs->vs=ys.map V.str/\∀y∈ys,PyData.strOk y=true
 |[],ys,vs,e,h=>by cases e;cases h;exact⟨rfl,λa z=>by cases z⟩
 |.str x::r,ys,vs,e,h=>by
  obtain⟨q,e1,rfl⟩:=mx0 (show (strsOf r).map (x::·)=some ys from e);cases h with
  |cons h t=>
   obtain⟨e2,o⟩:=ny e1 t;cases h with
   |str _ hy=>exact⟨by rw[e2];rfl,λz hz=>(mq0 hz).elim (λq=>q▸hy) (o z)⟩
 |.none::r,ys,vs,e,h=>by cases e
 |.bool _::r,ys,vs,e,h=>by cases e
 |.int _::r,ys,vs,e,h=>by cases e
 |.tuple _::r,ys,vs,e,h=>by cases e
 |.list _::r,ys,vs,e,h=>by cases e
 |.dict _::r,ys,vs,e,h=>by cases e
 |.scr _::r,ys,vs,e,h=>by cases e
 |.vlt ..::r,ys,vs,e,h=>by cases e
 |.hdl _::r,ys,vs,e,h=>by cases e
 |.exc _::r,ys,vs,e,h=>by cases e
theorem nA{G}:∀{ys:List Str},(∀y∈ys,PyData.strOk y=true)->Dps K G (ys.map .str) (ys.map V.str)
 |[],_=>.nil
 |y::ys,h=>.cons (.str y (h y ms0)) (nA λz hz=>h z (mc0 _ hz))
theorem dy:∀{ys:List Str}{us:List Value},Vals (ys.map V.str) us->StrsAre us ys
 |[],_,.nil=>.nil
 |y::ys,_,.cons r t=>by
  obtain⟨tk,rfl⟩:=r;exact .cons y tk (dy t)
theorem fT:∀{us:List Value}{ys:List Str},StrsAre us ys->Vals (ys.map V.str) us
 |_,_,.nil=>.nil
 |_,_,.cons y t r=>.cons ⟨t,rfl⟩ (fT r)
theorem join_codes(sep:Str):∀(ys:List Str)(c:Nat),c∈(Str.join sep ys).cps.toList->c∈sep.cps.toList\/∃y∈ys,c∈y.cps.toList
 |[],c,h=>by cases h
 |[y],c,h=>.inr ⟨y,ms0,h⟩
 |y::z::r,c,h=>by
  have e:(Str.join sep (y::z::r)).cps.toList=y.cps.toList++sep.cps.toList++(Str.join sep (z::r)).cps.toList:=by
   show (y.cps++sep.cps++(Str.join sep (z::r)).cps).toList=_;simp
  rw[e,List.mem_append,List.mem_append]at h;rcases h with (h|h)|h
  .exact .inr ⟨y,ms0,h⟩
  .exact .inl h
  .rcases join_codes sep (z::r) c h with q|⟨x,hx,q⟩
   .exact .inl q
   .exact .inr ⟨x,mc0 _ hx,q⟩
noncomputable def rJoin(K:Fg):V->List V->Hp->VK->Prop:=λx vs H Q=>∃sep a ys,x=.str sep/\vs=[.ref a]/\SqL K H a (ys.map V.str)/\(ys.map (·.length)).sum+ys.length*sep.length<=16777216/\Q (.str (Txt.join sep ys)) H
def zV:MtR X "str.join" (rJoin X.K):=by
 intro pins s σ H x xs v us Q I rx rs h;obtain⟨sep,p,ys,rfl,rfl,hq,hz,q⟩:=h;obtain⟨t,rfl⟩:=rx;obtain⟨u,rfl,ru⟩:=Vals.one rs;cases ru;obtain⟨its,rv,pl,_⟩:=I.list hq;exact join_list pl.isList (by simpa using dy rv) hz λt' k=>⟨.str _,H,I.tok k,⟨_,rfl⟩,q⟩
noncomputable def DW:V->List V->Hp->VK->Prop:=λx vs H Q=>∃t sep,x=.str t/\vs=[.str sep]/\(sep.length==0)=false/\t.length+2<=sizeLine/\∀p,H p=none->Q (.ref p) (upd H p (.lst ((Txt.split t sep).map V.str)))
def pO{A:Around}{E:Value->Shared->Prop}{s:Shared}{t u:Tok}(hy:(y.length==0)=false)(hsz:x.length+2<=sizeLine)
  (h:∀l k,l.map (·.1)=Txt.split x y->Q (.ref s.heap.objs.size) {s with heap:=s.heap.push {cls:=.type "list",data:=.seq (strValues l).toArray},toks:=k}):
  wpAny (model prog w) A (call (.builtin "str.split") [.str x t,.str y u]) Q E s:=by
 have hn:(Builtin.Str.partsBetween x (Builtin.Str.occurrences x y 0 x.length (x.length+1)) y.length).length<=sizeLine:=by
  have e1:=StrLaws.occ_length_le x y 0 x.length (x.length+1);rw[length_partsBetween];omega
 cases h1:(decide (x.length<y.length)||decide (Builtin.Str.strKind x<Builtin.Str.strKind y))with
 |true=>
  refine call_meets PySem.F.slot_str_split (typeIs_str _ _ _) PySem.F.entry_str_split (PySem.F.args_str_split_2 _ _) (meets_str_split_cannot_occur x y t u h1) ?_;exact h [(x,t)] s.toks (by unfold Txt.split;rw[if_pos h1];rfl)
 |false=>
  cases hf:(Builtin.Str.occurrences x y 0 x.length (x.length+1)).isEmpty with
  |true=>
   refine call_meets PySem.F.slot_str_split (typeIs_str _ _ _) PySem.F.entry_str_split (PySem.F.args_str_split_2 _ _) (meets_str_split_not_found x y t u h1 hy hf) ?_;exact h [(x,t)] s.toks (by unfold Txt.split;rw[if_neg (by rw[h1];decide),if_pos hf];rfl)
  |false=>
   refine call_meets PySem.F.slot_str_split (typeIs_str _ _ _) PySem.F.entry_str_split (PySem.F.args_str_split_2 _ _) (meets_str_split_sep x y t u h1 hy hf (by omega) hn) ?_;show wants Q E _ {s with toks:=_,heap:=s.heap.push {cls:=.type "list",data:=.seq (strsFrom s.toks (Builtin.Str.partsBetween x (Builtin.Str.occurrences x y 0 x.length (x.length+1)) y.length)).toArray}};rw[strsFrom_eq];refine h (numbered s.toks _) _ ?_;rw[numbered_texts];unfold Txt.split;rw[if_neg (by rw[h1];decide),if_neg (by rw[hf];decide)]
def split_len(x y:Str):(Txt.split x y).length<=x.length+2:=by
 unfold Txt.split;split
 .simp
 .split
  .simp
  .have e1:=StrLaws.occ_length_le x y 0 x.length (x.length+1)
   rw[length_partsBetween];omega
def nB(x y:Str):∀p∈Txt.split x y,∀c∈p.cps.toList,c∈x.cps.toList:=by
 have sub:∀i j c,c∈(Builtin.Str.strSub x i j).cps.toList->c∈x.cps.toList:=λi j c h=>by
  rw[StrLaws.strSub_toList]at h;exact List.mem_of_mem_drop (List.mem_of_mem_take h)
 have parts:∀(w:Nat)(cuts:List Nat)(a:Nat),∀p∈StrLaws.partsFrom x w a cuts,∀c∈p.cps.toList,c∈x.cps.toList:=by
  intro w cuts
  induction cuts with
  |nil=>intro a p hp c hc;rw[List.mem_singleton.mp hp]at hc;exact sub _ _ c hc
  |cons d r ih=>
   intro a p hp c hc;rcases mq0 hp with e|hp
   .rw[e]at hc;exact sub _ _ c hc
   .exact ih _ p hp c hc
 intro p hp c hc;unfold Txt.split at hp;split at hp
 .rw[List.mem_singleton.mp hp]at hc;exact hc
 .split at hp
  .rw[List.mem_singleton.mp hp]at hc;exact hc
  .rw[StrLaws.partsBetween_eq]at hp
   exact parts _ _ _ p hp c hc
def wc:MtR X "str.split" DW:=by
 intro pins s σ H x xs v us Q I rx rs h;obtain⟨t,sep,rfl,rfl,hy,hz,q⟩:=h;obtain⟨tk,rfl⟩:=rx;obtain⟨u,rfl,ru⟩:=Vals.one rs;obtain⟨tk',rfl⟩:=ru;refine pO hy hz λl k e=>?_
 have rv:Vals ((Txt.split t sep).map V.str) (strValues l):=by rw[<-e];exact fT (strsAre_of_values l)
 have hl:((Txt.split t sep).map V.str).length<=sizeLine:=by
  rw[lm0];exact nt0 (split_len t sep) hz
 exact⟨.ref _,_,I.lnew (t':=k) rv hl,rfl,q _ I.fresh⟩
set_option tactic.hygienic true
def base_of{name:Str}(h:aJ o=false):attributeBase o name env (eval o env)=eval o env:=by
 have other:∀e:Expr,(∀id p pos,e≠.Call (.Name id p) [] [] pos)->attributeBase e name env (eval e env)=eval e env:=by
  intro e he;unfold attributeBase;split
  .rename_i id p pos
   exact absurd rfl (he id p pos)
  .rfl
 by_cases c:∃id p pos,o=.Call (.Name id p) [] [] pos
 .obtain⟨id,p,pos,rfl⟩:=c
  have hid:(id==("super":Str))=false:=h;unfold attributeBase;show (if id != "super"||_||_||_ then _ else _)=_;have:(id != ("super":Str))=true:=by unfold bne;rw[hid];rfl
  simp only[this,Bool.true_or,if_true]
 .exact other o λid p pos z=>c ⟨id,p,pos,z⟩
def we{m}{f}(hf:qM m=some f)(h:meD f d1 [d2]=some d)(ho:Er X Y o d1)(ha:Er X Y a d2)(hs:isStar a=false)(hsup:aJ o=false)(hline:(apos.endLine==pos.line)=true):
  Ev X Y (.Call (.Attribute o m apos) [a] [] pos) d/\(f=.split->En X Y (.Call (.Attribute o m apos) [a] [] pos) d):=by
 have hS:=af (es:=[]) (env:=X.env) hs;have few:∀pos:Pos,((backTo pos (starEach [a] X.env)).all (λx=>!x.1)&&(backToKw pos (keywordEach [] X.env)).all (λx=>x.1.isSome)
   &&decide ([a].length+([]:List Keyword).length+(if ([]:List Keyword).isEmpty then 0 else 1)<30))=true:=λpos=>by rw[hS];rfl
 unfold qM at hf;split at hf
 .rename_i c
  subst c;cases hf;have key:En X Y (.Call (.Attribute o "split" apos) [a] [] pos) d:=by
   cases d1 with
   |str x=>cases d2 with
    |str sep=>
     rw[vo]at h;split at h
     .rename_i c
      cases h;rw[big_eq]at c;intro pins s σ H Q I h0;obtain⟨G0,H0,G,E,k⟩:=h0;refine qH PySem.F.plainAttrs_str PySem.F.slot_str_split PySem.F.type_str_split wc ho (aD ha bz hS) (base_of hsup) (few pos) hline hS rfl pins s σ H Q I ⟨G0,H0,G,E,λv G1 H1 e1 r1=>?_⟩;obtain⟨rfl,os⟩:=r1.str;refine⟨rfl,G0,H0,G1,E.step e1,λw G2 H2 e2 r2=>?_⟩;obtain⟨rfl,oy⟩:=r2.str;have e3:=e1.trans e2;exact⟨x,sep,rfl,rfl,c.1,c.2,λp hp=>k p G2 _ (e3.trans (.hid e3.gh hp)) (e3.gh.free hp) (e3.hh.free hp) (.inl ⟨_,_,rfl,ae,nA ((λp hp=>by
        rw[strOk_iff]at os ⊢;exact λc hc=>os c (nB x sep p hp c hc)))⟩)⟩
     .cases h
    |_=>cases h
   |_=>cases h
  exact⟨key.ev,λb=>key⟩
 split at hf
 .rename_i c
  subst c;cases hf;refine⟨?_,λz=>by cases z⟩;cases d1 with
  |str sep=>cases d2 with
   |list ls=>
    obtain⟨ys,e1,h⟩:=bx0 (h:(strsOf ls).bind _=some d);split at h
    .rename_i c
     cases h;intro pins s σ H Q I h0;obtain⟨G0,H0,G,E,k⟩:=h0;refine qH PySem.F.plainAttrs_str PySem.F.slot_str_join PySem.F.type_str_join zV ho (aD ha bz hS) (base_of hsup) (few pos) hline hS rfl pins s σ H Q I ⟨G0,H0,G,E,λv G1 H1 e1 r1=>?_⟩;obtain⟨rfl,os⟩:=r1.str;refine⟨rfl,G0,H0,G1,E.step e1,λw G2 H2 e2 r2=>?_⟩;obtain⟨p,vs,rfl,h1,r⟩:=r2.lst e2.gh;obtain⟨rfl,oy⟩:=ny (by assumption) r;exact⟨sep,p,ys,rfl,rfl,SqL.of h1,c,k _ G2 H2 (e1.trans e2) (.str _ ((by
       have hs:=os;have hy:=oy;rw[strOk_iff]at hs ⊢;intro c hc;have e:Txt.join _ ys=Str.join _ ys:=StrLaws.glued_eq_join sep ys;rw[e]at hc;rcases join_codes _ ys c hc with q|⟨y,h1,h2⟩
       .exact hs c q
       .exact strOk_iff.mp (hy y h1) c h2)))⟩
    .cases h
   |_=>cases h
  |_=>cases h
 .cases hf
set_option tactic.hygienic false
noncomputable def Pur(K:Fg)(J:Fn):Sp:=λvs H Q a=>∃ds d G,J.run ds=some d/\Same G H/\Das K G H J.lent ds vs/\∀v G' H',Ext G H G' H'->Dp K G' d v->Q v H'
structure FnZ(P:Program)(w:World)(K:Fg)(mg:Str->Option Value)(base:Heap)(k:Nat)(x:Str)(J:Fn):Prop where
 ex:∃f fd ps,mg x=some (.ref f)/\PySem.W.keepIn K (.ref f)=true/\Binds K fd ps []/\FnOk P w K mg base CX0 k f fd ps (Pur K J)
def pP{k:Nat}{J:Fn}(F:FnZ X.prog X.w X.K X.mg X.base k x J)(hr:Room k X.A)(hg:Gl X x)(hd:(x==("__debug__":Str))=false)(ha:Ea X Y J.lent (e::es) ds)(h:J.run ds=some d)(hs:aK (e::es)):
  Ev X Y (.Call (.Name x p) (e::es) [] pos) d:=by
 obtain⟨f,fd,ps,hm,hk,hb,F⟩:=F.ex;intro pins s σ H Q I h0;obtain⟨G0,H0,G,E,k⟩:=h0;exact qB F hr hg hm hk hb .nil mz ha hd (af (hs e ms0)) (aC λy hy=>hs y (mc0 _ hy)) pins s σ H Q I
  ⟨G0,H0,G,E,λvs G1 H1 e1 r1=>⟨ds,d,G1,h,e1.gh,by rw[List.append_nil];exact r1,λv G' H' e2 r2=>k v G' H' (e1.trans e2) r2⟩⟩
end
noncomputable def Its(x:Str):It:=⟨λi a=>i<x.cps.size,λi H v H'=>H'=H/\∃c,x.cps[i]?=some c/\v=.str ⟨#[c]⟩,λi a=>i=x.cps.size⟩
def wg(it:Addr)(x:Str)(t:Tok)(hn:["enumerate","zip","dict_itemiterator","dict_reverseitemiterator","odict_iterator","itertools.zip_longest","itertools.pairwise"].contains T=false)
  (W:∀A:Around,A.handled=none->Walks P w A it [it] [it] x.cps.size (SignAt x) (λi h=>h.IsStrIter it T x t i))
  (S:∀(A:Around)(i:Nat)(s:Shared)(Q:Value->Shared->Prop)(E:Value->Shared->Prop),s.heap.IsStrIter it T x t i->Q (.ref it) s->wpAny (model P w) A (pyIter (.ref it)) Q E s):Turn P w K tg (Its x) [it] it (λi h=>h.IsStrIter it T x t i) where
 mem:=by simp
 obj:=λi h st b hb=>by
  have e:b=it:=by simpa using hb
  subst e;obtain⟨o,e,c,d⟩:=st;exact⟨o,e,λv z=>by rw[d]at z;cases z⟩
 keep:=λi h h' st k=>by
  obtain⟨o,e,r⟩:=st;exact⟨o,k it (by simp) o e,r⟩
 item:=by
  intro X hP hw hK hc i pins s σ H E I hf st hg;subst hP hw hK;obtain⟨f0,f1,f2,f3,f4,f5⟩:=hf it (by simp);refine (W X.A (I.ok.hd hc)).item i s _ _ hg st λv h' tk hv st' kk=>?_
  obtain⟨c,u,hc',rfl⟩:=hv;have I1:Inv X pins σ H {s with heap:=h',toks:=tk}:=I.turned (λb o hb e=>kk b o (by simpa using hb) e) f0 f1 f3 f4 f5;obtain⟨o,e,c1,d1⟩:=id st';exact⟨_,rfl,uH (s:={s with heap:=h',toks:=tk}) e c1 d1 hn ⟨.str ⟨#[c]⟩,H,I1,⟨u,rfl⟩,⟨rfl,c,hc',rfl⟩,st',λb hb=>(hf b hb).1⟩⟩
 done:=by
  intro X hP hw hK hc i pins s σ H E I hf st hg;subst hP hw hK;have hg:i=x.cps.size:=hg;subst hg;obtain⟨f0,f1,f2,f3,f4,f5⟩:=hf it (by simp);exact (W X.A (I.ok.hd hc)).done s _ _ st λh' tk kk=>⟨rfl,I.turned (λb o hb e=>kk b o (by simpa using hb) e) f0 f1 f3 f4 f5⟩
 self:=S
def wj{l:Expr}{tl:TE}(hl:PE X l tl):PI X tg l (λσ H R=>tl σ H λx H1=>∃t,x=.str t/\R (Its t) H1):=by
 intro pins s σ H R I h;refine thn (hl pins s σ H _ I h) λv s1 ⟨x,H1,I1,r1,q1⟩=>?_
 obtain⟨a,e,q⟩:=q1;subst e;obtain⟨t,rfl⟩:=r1;have fin:∀(T:String)(o:Obj),["enumerate","zip","dict_itemiterator","dict_reverseitemiterator","odict_iterator","itertools.zip_longest","itertools.pairwise"].contains T=false->o={cls:=.type T,data:=.fields #[.str a t,.int 0 0]}->
   (∀A:Around,A.handled=none->Walks X.prog X.w A s1.heap.objs.size [s1.heap.objs.size] [s1.heap.objs.size] a.cps.size (SignAt a) (λi h=>h.IsStrIter s1.heap.objs.size T a t i))->
   (∀(A:Around)(i:Nat)(s:Shared)(Q:Value->Shared->Prop)(E:Value->Shared->Prop),s.heap.IsStrIter s1.heap.objs.size T a t i->Q (.ref s1.heap.objs.size) s->wpAny (model X.prog X.w) A (pyIter (.ref s1.heap.objs.size)) Q E s)->PIE X pins σ tg R (.ref s1.heap.objs.size) {s1 with heap:=s1.heap.push o}:=λT o hn ho W S=>by
  subst ho;refine⟨s1.heap.objs.size,[s1.heap.objs.size],_,_,H1,rfl,I1.kept (t':=s1.toks) λb o e=>ps0 _ e,wg _ a t hn W S,⟨_,pz0 _ rfl,rfl,rfl⟩,λb hb=>?_,q⟩;have e:b=s1.heap.objs.size:=by simpa using hb
  subst e;exact I1.fpOk (nr0 _) (I1.hok.fresh (nr0 _))
 cases ha:a.cps.all (·<128)
 .exact wpAny_pyIter_wide ha (fin _ _ (by decide) rfl (λA hA=>Walks.strWide hA _ a t) λc c c c c st h=>wpAny_pyIter_striter_wide st h)
 .exact wpAny_pyIter_ascii ha (fin _ _ (by decide) rfl (λA hA=>Walks.strAscii hA _ a t) λc c c c c st h=>wpAny_pyIter_striter_ascii st h)
noncomputable def tEk(K:Fg)(Y:List Sl)(d:D):TE:=λσ H Q=>∃G0 H0 G,EnvD K G0 H0 G H σ Y/\∀v G' H',Ext G H G' H'->Dr K G' H0 d v->Q v H'
def Ek(X:Cx)(Y:List Sl)(e:Expr)(d:D):Prop:=PE X e (tEk X.K Y d)
section
variable {e:Expr}{p:Pos}
def Ev.ek{e:Expr}(h:Ev X Y e d):Ek X Y e d:=by rintro pins s σ H Q I ⟨G0,H0,G,E,k⟩;exact h pins s σ H Q I ⟨G0,H0,G,E,λv G' H' e r=>k v G' H' e (.of r)⟩
def Dr.monoG{G G' H}{v}(s:Same G G'):Dr K G H d v->Dr K G' H d v
 |.of h=>.of (h.mono s)
 |.list h r=>.list h (r.mono s)
 |.dict h r=>.dict h (r.mono s)
 |.vlt h1 h2 r=>.vlt h1 h2 (r.mono s)
def DX(i:Nat)(h:(Y[i]?).bind (aW .walk)=some d)(hN:X.N[i]?=some x)(hv:Vis X.env.scope x)(hd:(x==("__debug__":Str))=false)(hcd:(x==("__classdict__":Str))=false):Ek X Y (.Name x pos) d:=by
 rintro pins s σ H Q I ⟨G0,H0,G,E,k⟩
 obtain⟨sl,h1,h2⟩:=bx0 h;have:∃v,σ[i]?=some (some v)/\Dr X.K G H0 d v:=by
  cases sl with
  |no=>cases h2
  |dat d'=>cases h2;obtain⟨v,a,b⟩:=E.dat i d h1;exact⟨v,a,.of b⟩
  |lent d'=>cases h2;obtain⟨v,a,b⟩:=E.lent i d h1;exact⟨v,a,b.monoG E.ext.gg⟩
  |own d'=>cases h2
 obtain⟨v,e,r⟩:=this;exact cN hN hv hd hcd pins s σ H Q I ⟨v,e,k v G H (.refl E.sub) r⟩
structure gZ(K:Fg)(G1 Hb:Hp)(J:It)(ds:List D):Prop where
 go:∀i H',i<ds.length->Same G1 H'->Same Hb H'->J.go i H'
 yld:∀i G' H' x H2 d,ds[i]?=some d->Same G1 G'->Same G' H'->Same Hb H'->J.yld i H' x H2->∃G2,Ext G' H' G2 H2/\Dp K G2 d x
 stop:∀H',Same G1 H'->Same Hb H'->J.stop ds.length H'
def src_list{a:Addr}(hq:∀H',Same G1 H'->Same Hb H'->SqL K H' a vs)(r:Dps K G1 ds vs):gZ K G1 Hb (Itl K a) ds where
 go:=λi H' hi hs hb=>by
  have hl:i<vs.length:=by rw[<-r.length];exact hi
  exact⟨vs,vs[i],hq H' hs hb,ge0 hl⟩
 yld:=λi G' H' x H2 b hb g1 g2 g3 y=>by
  obtain⟨e,y⟩:=y;subst e;have:=y vs (hq _ (g1.trans g2) g3);obtain⟨v,e,d⟩:=r.get hb;rw[this]at e;cases e;exact⟨G',.refl g2,d.mono g1⟩
 stop:=λH' hs hb=>⟨vs,hq H' hs hb,by rw[<-r.length];exact nr0 _⟩
def src_range(lo:Int)(n:Nat):gZ K G1 Hb (Itr lo n) ((List.range n).map λ(k:Nat)=>.int (lo+k)) where
 go:=λi H' hi a a=>by rw[lm0,lr0]at hi;exact hi
 yld:=λi G' H' x H2 b hb g1 g2 a y=>by
  obtain⟨e,y⟩:=y;subst e y;have hi:i<n:=by have:=(gi0 hb).1;rwa [lm0,lr0]at this
  rw[gm0,List.getElem?_range hi]at hb;cases hb;exact⟨G',.refl g2,.int _⟩
 stop:=λH' a a=>by show n<=_;rw[lm0,lr0];exact nr0 _
def qW(ok:PyData.strOk x=true):gZ K G1 Hb (Its x) (x.cps.toList.map λc=>.str ⟨#[c]⟩) where
 go:=λi H' hi a a=>by rw[lm0,al0]at hi;exact hi
 yld:=λi G' H' v H2 b hb g1 g2 a y=>by
  obtain⟨e,c,hc,y⟩:=y;subst e y;rw[gm0,Array.getElem?_toList,hc]at hb;cases hb;refine⟨G',.refl g2,.str _ (kh ?_)⟩;rw[<-Array.getElem?_toList]at hc;exact strOk_iff.mp ok c (mg0 hc)
 stop:=λH' a a=>by show _=x.cps.size;rw[lm0,al0]
noncomputable def tSi(K:Fg)(Y:List Sl)(wk:Bool)(ds:List D):TI:=λσ H R=>∃G0 H0 G,EnvD K G0 H0 G H σ Y/\∀J G' H',Ext G H G' H'->gZ K G' (if wk then H0 else H') J ds->R J H'
def Si(X:Cx)(Y:List Sl)(wk:Bool)(iter:Expr)(ds:List D):Prop:=∀tg,PI X tg iter (tSi X.K Y wk ds)
def wm{ds'}{d}(h:iO d=some ds')(hk:Ek X Y iter d):Si X Y true iter ds':=by
 intro tg pins s σ H R I h0;obtain⟨G0,H0,G,E,k⟩:=h0;cases d with
 |list ls=>
  cases h;refine kZ hk pins s σ H R I ⟨G0,H0,G,E,λv G1 H1 e1 r1=>?_⟩;have now:=(E.step e1).ext.hh;cases r1 with
  |of r1=>cases r1 with
   |list hq r=>exact⟨_,rfl,⟨_,SqL.of (e1.gh _ _ hq)⟩,k _ G1 H1 e1 (src_list (λH' g a=>SqL.of (g _ _ hq)) r)⟩
  |list hq r=>exact⟨_,rfl,⟨_,SqL.of (now _ _ hq)⟩,k _ G1 H1 e1 (src_list (λH' a g=>SqL.of (g _ _ hq)) r)⟩
 |str x=>
  rw[items_str]at h;split at h
  .cases h
   refine wj hk pins s σ H R I ⟨G0,H0,G,E,λv G1 H1 e1 r1=>?_⟩;obtain⟨rfl,ok⟩:=r1.str;exact⟨_,rfl,k _ G1 H1 e1 (qW ok)⟩
  .cases h
 |_=>cases h
def tN{ds'}{d}(h:iO d=some ds')(hk:Er X Y iter d):Si X Y false iter ds':=by
 intro tg pins s σ H R I h0;obtain⟨G0,H0,G,E,k⟩:=h0;cases d with
 |list ls=>
  cases h;refine kZ hk pins s σ H R I ⟨G0,H0,G,E,λv G1 H1 e1 r1=>?_⟩;obtain⟨p,vs,rfl,hq,r⟩:=r1.lst e1.gh;exact⟨_,rfl,⟨_,SqL.of hq⟩,k _ G1 H1 e1 (src_list (λH' a g=>SqL.of (g _ _ hq)) r)⟩
 |str x=>
  rw[items_str]at h;split at h
  .cases h
   refine wj hk pins s σ H R I ⟨G0,H0,G,E,λv G1 H1 e1 r1=>?_⟩;obtain⟨rfl,ok⟩:=r1.str;exact⟨_,rfl,k _ G1 H1 e1 (qW ok)⟩
  .cases h
 |_=>cases h
def wo{n:Int}(h:rOk n=true):-(2 ^ 62)<=n/\n<2 ^ 62:=by
 unfold rOk at h;rw[be0]at h;exact⟨od0 h.1,od0 h.2⟩
def tO{wk:Bool}{n:Int}{p:Pos}(B:Blt X "range")(ha:Ev X Y a (.int n))(h:rOk n=true)(hs:isStar a=false):Si X Y wk (.Call (.Name "range" p) [a] [] pos) ((List.range n.toNat).map λ(k:Nat)=>.int k):=by
 have e:((List.range n.toNat).map λ(k:Nat)=>D.int k)=(List.range n.toNat).map λ(k:Nat)=>.int (0+k):=by simp
 rw[e];intro tg pins s σ H R I h0;obtain⟨G0,H0,G,E,k⟩:=h0;refine sy B.g B.m (iT (fl:=[]) ha ly hs) (by rw[af hs];rfl) pins s σ H R I ⟨G0,H0,G,E,λvs G1 H1 e1 r1=>?_⟩;obtain⟨v,rfl,hv⟩:=r1.one;exact⟨n,by rw[hv.int],(wo h).1,(wo h).2,k _ G1 H1 e1 (src_range 0 n.toNat)⟩
end
end L2.Z
namespace PySem
section
variable {A:Around}{E:Value->Shared->Prop}
def gH{a b}{h h'}{o}(sb:Heap.SameBut a h h')(hn:b≠a)(e:h.get? b=o):h'.get? b=o:=(sb.2 b hn).trans e
namespace F
end F
end
end PySem
namespace L2.Z
open PySem PySem.Spec PyProof.Rows L2 L2.C SI
def zW(I:Inv X pins σ H s)(hf:∀b∈fp,fC X pins H b)(k:∀b o,b∉fp->s.heap.get? b=some o->h'.get? b=some o):Inv X pins σ H {s with heap:=h',toks:=t'}:=by
 have nit:∀b u,H b=some u->b∉fp:=λb u e z=>by rw[(hf b z).1]at e;cases e
 refine I.step (g':=s.gens) (d':=s.drawn) (ch:=fp) (λb hb=>?_) (λb o a a hc e a=>k b o hc e) (λb o a a hc e a=>⟨o.slots,k b o hc e⟩) (λa a a a n=>n)
  (λb o hc e=>⟨o,k b o hc e⟩) (λa a e=>e) (λa a a e=>e) (λb ps e=>⟨#[],by rw[e];simp⟩) (λm hm=>?_) (λb u e=>?_) I.bare
 .obtain⟨_,f1,f2,f3,f4,f5⟩:=hf b hb
  exact⟨f3,f1,f4,f5⟩
 .obtain⟨o,es,ep,ho,r⟩:=hm
  exact⟨o,es,ep,k _ o (λz=>(hf _ z).2.1 rfl) ho,r⟩
 .refine (I.hok b u e).stay (λc v hc q=>k c v ?_ q) (λa q=>q) λa a q=>q
  rcases hc with z|z
  .rw[z];exact nit b u e
  .exact nit c _ z
def wq{T:Addr}{o:HO}(I:Inv X pins σ H s)(hf:∀b∈fp,fC X pins H b)(k:∀b o,b∉fp->s.heap.get? b=some o->h'.get? b=some o)(hT:s.heap.objs.size<=T)
  (new:ObjOk X.prog X.w (upd H T o) h' T o):Inv X pins σ (upd H T o) {s with heap:=h',toks:=t'}:=by
 have nit:∀b u,H b=some u->b∉fp:=λb u e z=>by rw[(hf b z).1]at e;cases e
 have nT:∀b u,s.heap.get? b=some u->b≠T:=λb u e z=>by subst z;exact absurd (nl0 (hs0 e) hT) (li0 _)
 have nH:∀b u,H b=some u->b≠T:=λb u e z=>by subst z;exact absurd (nl0 (I.hok b u e).lt hT) (li0 _)
 refine I.step (g':=s.gens) (d':=s.drawn) (ch:=fp) (λb hb=>?_) (λb o a a hc e a=>k b o hc e) (λb o a a hc e a=>⟨o.slots,k b o hc e⟩) (λb o a e n=>by rw[aa (nT b o e)];exact n)
  (λb o hc e=>⟨o,k b o hc e⟩) (λb a e=>by rw[aa (nH b _ e)];exact e) (λb a a e=>by rw[aa (nH b _ e)];exact e) (λb ps e=>⟨#[],by rw[aa (nH b _ e),e];simp⟩) (λm hm=>?_) (λb u e=>?_) I.bare
 .obtain⟨_,f1,f2,f3,f4,f5⟩:=hf b hb
  exact⟨f3,f1,f4,f5⟩
 .obtain⟨o,es,ep,ho,r⟩:=hm
  exact⟨o,es,ep,k _ o (λz=>(hf _ z).2.1 rfl) ho,r⟩
 .by_cases hb:b=T
  .subst hb
   rw[ae]at e;cases e;exact new
  .rw[aa hb]at e
   refine (I.hok b u e).stay (λc v hc q=>k c v ?_ q) (λc q=>by rw[aa (nH c _ q)];exact q) λc a q=>by rw[aa (nH c _ q)];exact q
   rcases hc with z|z
   .rw[z];exact nit b u e
   .exact nit c _ z
def fu{a b:Addr}{o u:Obj}(ha:h.get? a=some o)(hb:h.get? b=some u)(hc:o.cls≠u.cls):a≠b:=λe=>by subst e;rw[ha]at hb;cases hb;exact hc rfl
section
variable {p:Pos}
def boot_zip:bootBuiltins ("zip":Str)=some (.type "zip"):=by decide +kernel
end
noncomputable def Itp(K:Fg)(l1 l2:Addr)(n:Nat):It:=
 ⟨λi H=>i<n/\∃xs ys,SqL K H l1 xs/\SqL K H l2 ys/\n<=xs.length/\ys.length=n,
  λi H x H'=>∃T,x=.ref T/\H T=none/\∀xs ys,SqL K H l1 xs->SqL K H l2 ys->∃a b,xs[i]?=some a/\ys[i]?=some b/\H'=upd H T (.tup [a,b]),
  λi H=>i=n/\∃xs ys,SqL K H l1 xs/\SqL K H l2 ys/\ys.length=n⟩
def Pst(z TI TO i1 i2 l1 l2:Addr)(i:Nat)(h:Heap):Prop:=
 IsZip h z TI TO .none/\IsPair h TI (.ref i1) (.ref i2)/\(∃a b,IsPair h TO a b)/\h.IsListIter i1 l1 i/\h.IsListIter i2 l2 i
def jf{z TI TO i1 i2:Addr}{a b:Value}{k1 k2:Nat}{ys:Array Value}(hTT:TI≠TO)(h12:i1≠i2)(hz:IsZip h z TI TO .none)(ht:IsPair h TI (.ref i1) (.ref i2))(ho:IsPair h TO a b)
  (q1:h.IsListIter i1 l1 k1) (q2:h.IsListIter i2 l2 k2) (p1:h.IsList l1 xs) (p2:h.IsList l2 ys):ZipApart z TI TO i1 i2 l1 l2:=by
 obtain⟨o1,e1,c1,_⟩:=q1;obtain⟨o2,e2,c2,_⟩:=q2;obtain⟨o3,e3,c3,_⟩:=p1;obtain⟨o4,e4,c4,_⟩:=p2;have cz:∀{x:Addr}{o:Obj},h.get? x=some o->o.cls≠.type "zip"->x≠z:=λe hn=>fu e hz hn
 have ct:∀{x:Addr}{o:Obj},h.get? x=some o->o.cls≠.type "tuple"->x≠TO:=λe hn=>fu e ho hn
 have cI:∀{x:Addr}{o:Obj},h.get? x=some o->o.cls≠.type "tuple"->x≠TI:=λe hn=>fu e ht hn
 exact⟨cz ht (show Value.type "tuple"≠Value.type "zip" by decide),cz ho (show Value.type "tuple"≠Value.type "zip" by decide),cz e1 (by rw[c1];decide),cz e2 (by rw[c2];decide),hTT,(cI e1 (by rw[c1];decide)).symm,(cI e2 (by rw[c2];decide)).symm,
  (ct e1 (by rw[c1];decide)).symm,(ct e2 (by rw[c2];decide)).symm,h12,cz e3 (by rw[c3];decide),ct e3 (by rw[c3];decide),fu e3 e1 (by rw[c3,c1];decide),fu e3 e2 (by rw[c3,c2];decide),
  cz e4 (by rw[c4];decide),ct e4 (by rw[c4];decide),fu e4 e1 (by rw[c4,c1];decide),fu e4 e2 (by rw[c4,c2];decide)⟩
def tP{tk:Nat}{z TI TO i1 i2:Addr}(n:Nat)(hTT:TI≠TO)(h12:i1≠i2):
  Turn P w K (.Tuple elts tk tpos) (Itp K l1 l2 n) [z,TI,TO,i1,i2] z (Pst z TI TO i1 i2 l1 l2) where
 mem:=by simp
 obj:=λi h st b hb=>by
  obtain⟨hz,ht,⟨a,c,ho⟩,⟨o1,e1,c1,d1⟩,⟨o2,e2,c2,d2⟩⟩:=st;simp only[List.mem_cons,List.not_mem_nil,or_false]at hb;rcases hb with rfl|rfl|rfl|rfl|rfl
  .exact⟨_,hz,λv q=>by cases q⟩
  .exact⟨_,ht,λv q=>by cases q⟩
  .exact⟨_,ho,λv q=>by cases q⟩
  .exact⟨_,e1,λv q=>by rw[d1]at q;cases q⟩
  .exact⟨_,e2,λv q=>by rw[d2]at q;cases q⟩
 keep:=λi h h' st k=>by
  obtain⟨hz,ht,⟨a,c,ho⟩,q1,q2⟩:=st;exact⟨k _ (by simp) _ hz,k _ (by simp) _ ht,⟨a,c,k _ (by simp) _ ho⟩,q1.at (k _ (by simp)),q2.at (k _ (by simp))⟩
 item:=by
  intro X hP hw hK hc i pins s σ H E I hf st hg;subst hP hw hK;obtain⟨hi,xs,ys,s1,s2,n1,n2⟩:=hg;obtain⟨it1,rv1,p1,z1⟩:=I.list s1;obtain⟨it2,rv2,p2,z2⟩:=I.list s2;have g1:xs[i]?=some (xs[i]'(by omega)):=ge0 _;have g2:ys[i]?=some (ys[i]'(by omega)):=ge0 _;generalize xs[i]'(by omega)=va at g1;generalize ys[i]'(by omega)=vb at g2;obtain⟨u1,hu1,ru1⟩:=rv1.get g1;obtain⟨u2,hu2,ru2⟩:=rv2.get g2;obtain⟨hz,ht,⟨a,b,ho⟩,q1,q2⟩:=st;have ap:=jf hTT h12 hz ht ho q1 q2 p1.isList p2.isList;refine wpAny_pyNext_zip_item ap hz ht ho q1 q2 p1.isList p2.isList (x:=u1) (y:=u2) (by simpa using hu1) (by simpa using hu2) λh1 a1 a3 a4 a5 a7 a8 a9=>⟨_,rfl,?_⟩
  refine wpAny_letOwnedTupleGo_zip a1 λh2 b1 sb=>?_
  have nz:s.heap.objs.size≠z:=λe=>by have:=hs0 hz;rw[<-e]at this;exact absurd this (li0 _)
  have kk:∀b o,b∉[z,TI,TO,i1,i2]->s.heap.get? b=some o->h2.get? b=some o:=λb o hb e=>by
   simp only[List.mem_cons,List.not_mem_nil,or_false,not_or]at hb;exact gH sb hb.1 (a9 b o hb.1 hb.2.2.1 hb.2.2.2.1 hb.2.2.2.2 e)
  have I2:=wq (h':=h2) (t':=s.toks) (o:=.tup [va,vb]) I hf kk (nr0 _) ⟨(show 2<=sizeLine by decide),[u1,u2],.cons ru1 (.cons ru2 .nil),⟨_,gH sb nz a7,rfl,_,rfl⟩⟩;refine⟨.ref s.heap.objs.size,_,I2,rfl,⟨_,rfl,I.fresh,λxs' ys' t1 t2=>⟨va,vb,by rw[I.list_inj t1 s1];exact g1,by rw[I.list_inj t2 s2];exact g2,rfl⟩⟩,?_,λb hb=>?_⟩
  .exact⟨b1,gH sb ap.TIz (a9 TI _ ap.TIz ap.TITO ap.TIi1 ap.TIi2 ht),⟨_,_,gH sb ap.TOz a3⟩,a4.at λo e=>gH sb ap.i1z e,a5.at λo e=>gH sb ap.i2z e⟩
  .have hb0:=(hf b hb).1
   rw[aa]
   .exact hb0
   .intro e
    have hlt:∃o,s.heap.get? b=some o:=by
     simp only[List.mem_cons,List.not_mem_nil,or_false]at hb;obtain⟨o1,e1,_⟩:=q1;obtain⟨o2,e2,_⟩:=q2;rcases hb with rfl|rfl|rfl|rfl|rfl
     .exact⟨_,hz⟩
     .exact⟨_,ht⟩
     .exact⟨_,ho⟩
     .exact⟨_,e1⟩
     .exact⟨_,e2⟩
    obtain⟨o,eo⟩:=hlt;have:=hs0 eo;rw[e]at this;exact absurd this (li0 _)
 done:=by
  intro X hP hw hK hc i pins s σ H E I hf st hg;subst hP hw hK;obtain⟨rfl,xs,ys,s1,s2,n2⟩:=hg;obtain⟨it1,rv1,p1,z1⟩:=I.list s1;obtain⟨it2,rv2,p2,z2⟩:=I.list s2;obtain⟨hz,ht,⟨a,b,ho⟩,q1,q2⟩:=st;have ap:=jf hTT h12 hz ht ho q1 q2 p1.isList p2.isList;have hx:it2.toArray[i]?=none:=by
   have:=rv2.length;simp;omega
  exact wpAny_pyNext_zip_end (I.ok.hd hc) ap hz ht ho q1 q2 p1.isList p2.isList (.inr hx) λh' a1=>⟨rfl,zW (t':=s.toks) (fp:=[z,TI,TO,i1,i2]) I hf λb o hb eb=>a1 b o (λq=>hb (by simp[q])) (λq=>hb (by simp[q])) (λq=>hb (by simp[q])) (λq=>hb (by simp[q])) eb⟩
 self:=λd d d d d st h=>PySem.wpAny_pyIter_zip st.1 h
section
variable {p:Pos}
def wt :∀{i:Nat}{d:D},(zip2 ls ms)[i]?=some d->∃x y,ls[i]?=some x/\ms[i]?=some y/\d=.tuple [x,y]:=by
 induction ls generalizing ms with
 |nil=>intro i d h;simp[zip2]at h
 |cons x r ih=>
  intro i d h;cases ms with
  |nil=>simp[zip2]at h
  |cons y q=>cases i with
   |zero=>simp only[zip2,List.getElem?_cons_zero,Option.some.injEq]at h;exact⟨x,y,rfl,rfl,h.symm⟩
   |succ i=>simp only[zip2,List.getElem?_cons_succ]at h ⊢;exact ih h
def nC(h1:ms.length<=ls.length):(zip2 ls ms).length=ms.length:=by
 induction ls generalizing ms with
 |nil=>cases ms with
  |nil=>rfl
  |cons y q=>cases h1
 |cons x r ih=>
  cases ms with
  |nil=>rfl
  |cons y q=>simp only[zip2,lc0];rw[ih (by simpa using h1)]
def wu{us:List V}(h1:Hb l1=some (.lst vs))(h2:Hb l2=some (.lst us))(r1:Dps K G1 ls vs)(r2:Dps K G1 ms us)
  (e1:ms.length<=ls.length):gZ K G1 Hb (Itp K l1 l2 ms.length) (zip2 ls ms) where
 go:=λi H' hi hs hb=>⟨by rw[nC e1]at hi;exact hi,vs,us,SqL.of (hb _ _ h1),SqL.of (hb _ _ h2),by rw[<-r1.length];exact e1,r2.length.symm⟩
 yld:=λi G' H' x H2 d hd g1 g2 g3 y=>by
  obtain⟨T,rfl,hT,y⟩:=y;obtain⟨a,b,y1,y2,rfl⟩:=y vs us (SqL.of (g3 _ _ h1)) (SqL.of (g3 _ _ h2));obtain⟨x1,x2,k1,k2,rfl⟩:=wt hd;obtain⟨v1,w1,d1⟩:=r1.get k1;obtain⟨v2,w2,d2⟩:=r2.get k2;rw[y1]at w1;cases w1;rw[y2]at w2;cases w2;have ex:Ext G' H' (upd G' T (.tup [a,b])) (upd H' T (.tup [a,b])):=.laid g2 hT;exact⟨_,ex,.tuple ae (.cons ((d1.mono g1).mono ex.gg) (.cons ((d2.mono g1).mono ex.gg) .nil))⟩
 stop:=λH' hs hb=>⟨nC e1,vs,us,SqL.of (hb _ _ h1),SqL.of (hb _ _ h2),r2.length.symm⟩
def zX{tk:Nat}(B:Blt X "zip")(hA:Ea X Y [true,true,true] [a,b] [.list ls,.list ms])(hst:aK [a,b])(e1:ms.length<=ls.length):
  PI X (.Tuple elts tk tpos) (.Call (.Name "zip" p) [a,b] [] pos) (tSi X.K Y false (zip2 ls ms)):=by
 intro pins s σ H R I h0;obtain⟨G0,H0,G,E,k⟩:=h0;refine Call_ (ld_blt I B.g B.m boot_zip (PyProof.Rows.callWith_type1 (thn (hA pos pins s σ H _ I ⟨G0,H0,G,E,λvs G1 H1 e1 r1=>(⟨G1,e1,r1⟩:∃G1,Ext G H G1 H1/\Das X.K G1 H1 [true,true,true] [.list ls,.list ms] vs)⟩) λus s1 ⟨vs,H1,I1,r1,q1⟩=>?_) (af (hst a (by simp))) (aC (es:=[b]) λx hx=>hst x (mc0 _ hx))));obtain⟨G1,x1,q1⟩:=q1;obtain⟨v,w,rfl,d1,d2⟩:=q1.two;obtain⟨l1,vs1,rfl,hq1,rr1⟩:=d1.lst x1.gh;obtain⟨l2,vs2,rfl,hq2,rr2⟩:=d2.lst x1.gh;cases r1 with
 |cons r rr=>cases rr with
  |cons r' rr=>
   cases rr;cases r;cases r';obtain⟨it1,_,p1,_⟩:=I1.list (SqL.of hq1);obtain⟨it2,_,p2,_⟩:=I1.list (SqL.of hq2);refine PySem.call_zip_2 p1.isList p2.isList λh' a1 a2 a3 a4 a5 a7 a8=>?_
   refine PySem.wpAny_pyIter_zip a1 ⟨_,[_,_,_,_,_],_,_,H1,rfl,I1.kept (t':=s1.toks) a8,tP ms.length (nn0 (by omega)) (nn0 (by omega)),⟨a1,a2,⟨_,_,a3⟩,a4,a5⟩,λb hb=>?_,k _ G1 H1 x1 (wu hq1 hq2 rr1 rr2 e1)⟩;have hle:s1.heap.objs.size<=b:=by
    simp only[List.mem_cons,List.not_mem_nil,or_false]at hb;rcases hb with rfl|rfl|rfl|rfl|rfl<;>first|exact Nat.le_add_right _ _|exact nr0 _
   exact I1.fpOk hle (I1.hok.fresh hle)
end
def Tgj(X:Cx)(tg:Expr)(t:Tg):Prop:=∀d,PG X tg (λv σ H Q=>∃G0 H0 G Y Y',EnvD X.K G0 H0 G H σ Y/\Dp X.K G d v/\ar t d Y=some Y'/\∀σ',EnvD X.K G0 H0 G H σ' Y'->Q σ' H)
section
variable {e:Expr}{ifs:List Expr}{p:Pos}
def nD(hN:X.N.Nodup)(hi:X.N[i]?=some x)(hx:Loc X.env.scope x)(hf:X.fn x=true\/X.env.scope.names.lookup x=some .local):Tgj X (.Name x px) (.one i):=
 λd pins s σ H v u Q I r ⟨G0,H0,G,Y,Y',env,dv,hb,k⟩=>by
  cases hb;exact qy hN hi hx hf pins s σ H v u Q I r (k _ (env.set (by rw[I.len];exact (gi0 hi).1) dv))
structure DY(X:Cx)(x:Str)(i:Nat):Prop where
 at':X.N[i]?=some x
 loc:Loc X.env.scope x
 fn:X.fn x=true\/X.env.scope.names.lookup x=some .local
inductive Nms (X:Cx):List Expr->List Nat->Prop
 |nil:Nms X [] []
 |cons {x:Str}{px:Pos}{i:Nat}{es:List Expr}{is:List Nat}:DY X x i->Nms X es is->Nms X (.Name x px::es) (i::is)
theorem Nms.each :∀{es:List Expr}{is:List Nat},Nms X es is->(assignEach es env).length=is.length/\(assignEach es env).findIdx? (·.1)=.none
 |_,_,.nil=>⟨rfl,rfl⟩
 |_,_,.cons (es:=es) _ r=>by
  obtain⟨h1,h2⟩:=Nms.each r;refine⟨?_,?_⟩
  .show (assignEach es env).length+1=_
   rw[h1];rfl
  .show List.findIdx? (·.1) ((false,_)::assignEach es env)=_
   rw[List.findIdx?_cons];simp[h2]
def KL(X:Cx)(ts:List Expr)(is:List Nat):Prop:=∀ds,ds.length=is.length->PGs X ts (λvs σ H Q=>∃G0 H0 G Y,EnvD X.K G0 H0 G H σ Y/\Dps X.K G ds vs/\∀σ',EnvD X.K G0 H0 G H σ' ((is.zip ds).foldl (λY p=>Y.set p.1 (.dat p.2)) Y)->Q σ' H)
def KM{is:List Nat}(hN:X.N.Nodup)(h:Nms X ts is):KL X ts is:=by
 induction h with
 |nil=>
  intro ds hl pins s σ H vs us Q I r h0;obtain⟨G0,H0,G,Y,env,dv,k⟩:=h0;have:ds=[]:=ez0 hl;subst this;cases dv;exact qz pins s σ H [] us Q I r ⟨rfl,k σ env⟩
 |@cons x px i es is h1 h2 ih=>
  intro ds hl pins s σ H vs us Q I r h0;obtain⟨G0,H0,G,Y,env,dv,k⟩:=h0;cases ds with
  |nil=>cases hl
  |cons d ds=>
   cases dv with
   |cons d1 d2=>
    exact mr (nD (px:=px) hN h1.at' h1.loc h1.fn d) (ih ds (by simpa using hl)) rfl pins s σ H _ us Q I r
     ⟨_,_,rfl,G0,H0,G,Y,_,env,d1,rfl,λσ' env'=>⟨G0,H0,G,_,env',d2,λσ2 env2=>k σ2 env2⟩⟩
set_option tactic.hygienic true in
def zY{is:List Nat}(hc:X.calm=true)(hN:X.N.Nodup)(h:Nms X ts is):Tgj X (.Tuple ts n pos) (.tup is):=by
 intro d pins s σ H v u Q I r h0;obtain⟨G0,H0,G,Y,Y',env,dv,hb,k⟩:=h0;cases d with
 |tuple ds=>
  rw[gE]at hb;split at hb
  .rename_i hl
   cases hb;cases dv with
   |tuple hq dr=>
    obtain⟨e1,e2⟩:=h.each (env:=X.env);exact uG (n:=is.length) hc (KM hN h ds hl.symm) e1 e2 pins s σ H _ u Q I r ⟨_,_,rfl,SqT.of (env.sub _ _ hq),by rw[<-dr.length];exact hl.symm,G0,H0,G,Y,env,dr,k⟩
  .cases hb
 |_=>cases hb
section
variable {G:Hp}
def blk_at{sl:Sl}(h:(SI.blk tn.length js Y)[i]?=some sl):sl=.no\/∃j,js[i-tn.length]?=some j/\tn.length<=i/\sl=lend (Y[j]?.getD .no):=by
 unfold SI.blk at h
 by_cases hi:i<tn.length
 .rw[gl0 (by simpa using hi),List.getElem?_replicate,if_pos hi]at h
  cases h;exact .inl rfl
 .rw[List.getElem?_append_right (by simp;omega),gm0,List.length_replicate]at h
  cases q:js[i-tn.length]? with
  |none=>rw[q]at h;cases h
  |some j=>rw[q]at h;cases h;exact .inr ⟨j,rfl,by omega,rfl⟩
def lE{i j}(h:tn.length<=i)(e:js[i-tn.length]?=some j):(gC tn js σ)[i]?=some (σ[j]?).join:=by
 unfold gC;rw[List.getElem?_append_right (by simpa using h),gm0,lm0,e];rfl
def dQ(Y:List Sl):Prop:=∀(i:Nat) d,Y[i]?≠some (.own d)
def mI{sl:Sl}:lend sl≠.own d:=by cases sl<;>(intro h;cases h)
def eJ:dQ (SI.blk tn.length js Y):=λi d h=>by
 rcases blk_at h with h|⟨j,_,_,h⟩
 .cases h
 .exact mI h.symm
theorem EnvD.blk(E:EnvD K G0 H0 G H σ Y):EnvD K G H G H (gC tn js σ) (SI.blk tn.length js Y):=by
 have slot:∀{j:Nat}{sl:Sl},lend (Y[j]?.getD .no)=sl->sl≠.no->∃s,Y[j]?=some s/\lend s=sl:=λ{j sl} h hn=>by
  cases r:Y[j]? with
  |none=>rw[r]at h;exact absurd h.symm hn
  |some s=>rw[r]at h;exact⟨s,rfl,h⟩
 refine⟨.refl E.sub,by simp[gC,SI.blk],λi d h=>?_,λi d h=>?_,λi ds h=>(eJ i ds h).elim,λi a ds a a h=>(eJ i ds h).elim⟩
 .rcases blk_at h with h|⟨j,e1,hi,h⟩
  .cases h
  obtain⟨s,e2,h⟩:=slot h.symm (by simp);cases s with
  |dat d'=>
   cases h;obtain⟨v,e3,r⟩:=E.dat j d e2;exact⟨v,by rw[lE hi e1,e3];rfl,r⟩
  |_=>cases h
 .rcases blk_at h with h|⟨j,e1,hi,h⟩
  .cases h
  obtain⟨s,e2,h⟩:=slot h.symm (by simp);cases s with
  |lent d'=>
   cases h;obtain⟨v,e3,r⟩:=E.lent j d e2;exact⟨v,by rw[lE hi e1,e3];rfl,r.ext E.ext⟩
  |own d'=>
   cases h;obtain⟨q,e3,_,_,r⟩:=E.own j d e2;exact⟨_,by rw[lE hi e1,e3];rfl,r.dr⟩
  |_=>cases h
def EnvD.touch{p:Addr}{o:HO}(E:EnvD K G0 H0 G H σ Y)(hn:dQ Y)(hg:G p=none)(h0:H0 p=none)(hi:notIns o=true:=by rfl):EnvD K G0 H0 G (upd H p o) σ Y:=
 ⟨⟨λb u e=>by rw[aa (ai e h0)];exact E.ext.hh b u e,E.ext.gg,λb u e=>by rw[aa (ai e hg)];exact E.ext.gh b u e,E.ext.nw,λx C dx fs e=>E.ext.ni x C dx fs (cy hi x C dx fs e)⟩,E.len,E.dat,E.lent,λi ds h=>(hn i ds h).elim,λi a ds a a h=>(hn i ds h).elim⟩
def EnvD.forget(E:EnvD K G0 H0 G H σ Y)(hl:Y'.length=Y.length)(h:∀(i:Nat) sl,Y'[i]?=some sl->sl=.no\/Y[i]?=some sl):EnvD K G0 H0 G H σ Y':=
 ⟨E.ext,by rw[hl];exact E.len,λi d e=>(h i _ e).elim (λz=>by cases z) (E.dat i d),λi d e=>(h i _ e).elim (λz=>by cases z) (E.lent i d),λi d e=>(h i _ e).elim (λz=>by cases z) (E.own i d),
  λi j d e p h1 h2 h3 h4=>(h i _ h1).elim (λz=>by cases z) λh1=>(h j _ h2).elim (λz=>by cases z) λh2=>E.apart i j d e p h1 h2 h3 h4⟩
end
def kn{t:Tg}(ht:mK t n=true)(hb:ar t d Y=some Y'):Y'.length=Y.length/\(∀i,n<=i->Y'[i]?=Y[i]?)/\(dQ Y->dQ Y'):=by
 have one:∀{i:Nat}{Y:List Sl}{d:D},i<n->(Y.set i (.dat d)).length=Y.length/\(∀j,n<=j->(Y.set i (.dat d))[j]?=Y[j]?)/\(dQ Y->dQ (Y.set i (.dat d))):=λ{i Y d} hi=>
  ⟨by simp,λj hj=>gn0 (by omega),λh j e hj=>by
   rcases getE_set hj with⟨_,q⟩|⟨_,q⟩
   .cases q
   .exact h j e q⟩
 have fold:∀(ps:List (Nat×D))(Y:List Sl),(∀p∈ps,p.1<n)->(ps.foldl (λY p=>Y.set p.1 (.dat p.2)) Y).length=Y.length/\(∀j,n<=j->(ps.foldl (λY p=>Y.set p.1 (Sl.dat p.2)) Y)[j]?=Y[j]?)/\(dQ Y->dQ (ps.foldl (λY p=>Y.set p.1 (Sl.dat p.2)) Y)):=by
  intro ps
  induction ps with
  |nil=>intro Y _;exact⟨rfl,λc c=>rfl,λh=>h⟩
  |cons q r ih=>
   intro Y hp;obtain⟨a1,a2,a3⟩:=one (Y:=Y) (d:=q.2) (hp q ms0);obtain⟨b1,b2,b3⟩:=ih (Y.set q.1 (.dat q.2)) λx hx=>hp x (mc0 _ hx)
   exact⟨b1.trans a1,λj hj=>(b2 j hj).trans (a2 j hj),λh=>b3 (a3 h)⟩
 have mem:∀{is:List Nat}{ds:List D},(is.all λi=>decide (i<n))=true->∀p∈is.zip ds,p.1<n:=λh p hp=>od0 (List.all_eq_true.mp h p.1 (List.of_mem_zip (a:=p.1) (b:=p.2) hp).1)
 cases t with
 |one i=>cases hb;exact one (od0 ht)
 |tup is=>
  cases d with
  |tuple ds=>
   rw[gE]at hb;split at hb
   .cases hb;exact fold _ _ (mem ht)
   .cases hb
  |_=>cases hb
def Ecs(X:Cx)(Y:List Sl)(ifs:List Expr)(t:Bool):Prop:=PCs X ifs (tEt X.K Y t)
def zZ:Ecs X Y [] true:=by rintro pins s σ H Q I ⟨G0,H0,G,E,k⟩;exact pcs_nil pins s σ H Q I (k G H (.refl E.sub))
def Aa(h:Et X Y c t):Ecs X Y [c] t:=(λpins s σ H Q I q=>wpAny_tests_one (h _ s σ H Q I q))
theorem jg(f:D->Option (Option D)):∀(xs:List D)(d:D),aM f (xs++[d])=(aM f xs).bind λa=>(f d).map λo=>a++o.toList
 |[],d=>by
  show (f d).bind _=_;cases f d with
  |none=>rfl
  |some o=>cases o<;>rfl
 |x::r,d=>by
  show (f x).bind _=((f x).bind _).bind _;cases f x with
  |none=>rfl
  |some o=>
   show (aM f (r++[d])).map _=((aM f r).map _).bind _;rw[jg f r d];cases aM f r with
   |none=>rfl
   |some q=>cases f d with
    |none=>rfl
    |some u=>cases o<;>rfl
def pQ{f:D->Option (Option D)}(h:aM f ds=some out):∀i≤ds.length,∃q,aM f (ds.take i)=some q:=by
 have key:∀(xs ys:List D)(out:List D),aM f (xs++ys)=some out->∃q,aM f xs=some q:=by
  intro xs
  induction xs with
  |nil=>intro ys out _;exact⟨_,rfl⟩
  |cons x r ih=>
   intro ys out h;obtain⟨o,h1,h2⟩:=bx0 (show (f x).bind _=some out from h);obtain⟨q,h3,h4⟩:=mx0 h2;obtain⟨q',h5⟩:=ih ys q h3;exact⟨_,by show (f x).bind _=_;rw[h1];show (aM f r).map _=_;rw[h5];rfl⟩
 intro i hi;exact key (ds.take i) (ds.drop i) out (by rw[List.take_append_drop];exact h)
theorem ko{f:D->Option (Option D)}:∀{ds out:List D},aM f ds=some out->out.length<=ds.length
 |[],out,h=>by cases h;exact nr0 _
 |x::r,out,h=>by
  obtain⟨o,h1,h2⟩:=bx0 (show (f x).bind _=some out from h);obtain⟨q,h3,h4⟩:=mx0 h2;have:=ko h3;subst h4;cases o<;>simp<;>omega
noncomputable def teC(X:Cx)(scope:Scope)(N:List Str)(e:Expr):TE:=λσ H Q=>∀C s0 H0 fp pins s,Inv (L2.C.blk X scope N C s0 H0 fp) pins σ H s->wpAny (model X.prog X.w) X.A (eval e (L2.C.blk X scope N C s0 H0 fp).env) (EP (L2.C.blk X scope N C s0 H0 fp) pins σ Q) (λa a=>False) s
noncomputable def tcC(X:Cx)(scope:Scope)(N:List Str)(ifs:List Expr):TT:=λσ H Q=>∀C s0 H0 fp pins s,Inv (L2.C.blk X scope N C s0 H0 fp) pins σ H s->wpAny (model X.prog X.w) X.A (lu ifs (L2.C.blk X scope N C s0 H0 fp).env) (TP (L2.C.blk X scope N C s0 H0 fp) pins σ Q) (λa a=>False) s
noncomputable def tgC(X:Cx)(scope:Scope)(N:List Str)(tg:Expr):TG:=λv σ H Q=>∀C s0 H0 fp pins s u,Inv (L2.C.blk X scope N C s0 H0 fp) pins σ H s->RelV v u->wpAny (model X.prog X.w) X.A (assign tg (L2.C.blk X scope N C s0 H0 fp).env u) (λa s'=>∃σ' H',Inv (L2.C.blk X scope N C s0 H0 fp) pins σ' H' s'/\Q σ' H') (λa a=>False) s
structure qX(X:Cx)(Z:Fs)(Γ:List (Str×D))(scope:Scope)(N:List Str)(tg:Expr)(t:Tg)(ifs:List Expr)(ifs':Es)(elt:Expr)(elt':E):Prop where
 tgt:∀(C:Addr)(s:Shared)(H:Hp)(fp:List Addr),Tgj (L2.C.blk X scope N C s H fp) tg t
 test:∀(C:Addr)(s:Shared)(H:Hp)(fp:List Addr) Y b,evC Z Γ Y ifs'=some b->Ecs (L2.C.blk X scope N C s H fp) Y ifs b
 elt:∀(C:Addr)(s:Shared)(H:Hp)(fp:List Addr) Y d,ev Z Γ .val Y elt'=some d->Ev (L2.C.blk X scope N C s H fp) Y elt d
variable {t:Tg}{ifs':Es}{elt':E}
noncomputable abbrev kr(Z:Fs)(Γ:List (Str×D))(n:Nat)(js:List Nat)(t:Tg)(ifs':Es)(elt':E)(Y:List Sl):D->Option (Option D):=
 λd=>(ar t d (SI.blk n js Y)).bind λY'=>(evC Z Γ Y' ifs').bind λb=>if b then (ev Z Γ .val Y' elt').map some else some none
def ku{H1:Hp}{J:It}{Q:VK}(hi:gZ X.K G1 H1 J ds)(T:qX X Z Γ scope (aE X tn js) tg t ifs ifs' elt elt')(ht:mK t tn.length=true)(hz:ds.length<=sizeLine)(E:EnvD X.K G0 H0 G1 H1 σ Y)
  (hrun:aM (kr Z Γ tn.length js t ifs' elt' Y) ds=some out)
  (k:∀q vs G' H',Ext G1 H1 G' H'->G' q=none->H1 q=none->H' q=some (.lst vs)->Dps X.K G' out vs->Q (.ref q) H'):
  ∀q,H1 q=none->∃W:Nat->Nat->St->Hp->Prop,(∃m,W 0 m (gC tn js σ) (upd H1 q (.lst [])))/\∀i m σ' H',W i m σ' H'->
   (J.stop i H'/\Q (.ref q) H')\/(J.go i H'/\∀v H2,J.yld i H' v H2->tgC X scope (aE X tn js) tg v σ' H2 λσ2 H3=>tcC X scope (aE X tn js) ifs σ2 H3 λb H4=>
    if b=true then teC X scope (aE X tn js) elt σ2 H4 λy H5=>∃ys,H5 q=some (.lst ys)/\ys.length<sizeLine/\∃m',m'<m/\W (i+1) m' σ2 (upd H5 q (.lst (ys++[y])))else ∃m',m'<m/\W (i+1) m' σ2 H4):=by
 intro q hq0;have noB:dQ (SI.blk tn.length js Y):=eJ;refine⟨λi m σ' H'=>m=ds.length-i/\i<=ds.length/\∃G' ys outs,EnvD X.K G1 H1 G' H' σ' (SI.blk tn.length js Y)/\H' q=some (.lst ys)/\G' q=none/\Dps X.K G' outs ys/\aM (kr Z Γ tn.length js t ifs' elt' Y) (ds.take i)=some outs,
  ⟨ds.length,by simp,Nat.zero_le _,G1,[],[],?_,ae,E.sub.free hq0,.nil,rfl⟩,?_⟩
 .exact (E.blk (tn:=tn) (js:=js)).touch noB (E.sub.free hq0) hq0
 .rintro i m σ' H' ⟨rfl,hil,G',ys,outs,E',hq',hg',r',hc'⟩
  have sm:Same G1 H':=E'.ext.gg.trans E'.sub
  by_cases hlt:i<ds.length
  .refine .inr ⟨hi.go i H' hlt sm E'.ext.hh,λv H2 y=>?_⟩
   have hb:ds[i]?=some ds[i]:=ge0 hlt;have tk:ds.take (i+1)=ds.take i++[ds[i]]:=by rw[List.take_add_one,hb];rfl
   generalize ds[i]=dd at hb tk;obtain⟨outs1,hc1⟩:=pQ hrun (i+1) hlt;have hc2:=hc1;rw[tk,jg,hc']at hc2;obtain⟨o,ho,e1⟩:=mx0 (show (kr Z Γ tn.length js t ifs' elt' Y dd).map _=some outs1 from hc2);obtain⟨Y1,hb1,ho⟩:=bx0 ho;obtain⟨tb,hb2,ho⟩:=bx0 ho;obtain⟨l1,l2,l3⟩:=kn ht hb1;obtain⟨G2,e2,d2⟩:=hi.yld i G' H' v H2 dd hb E'.ext.gg E'.sub E'.ext.hh y;have hq2:H2 q=some (.lst ys):=e2.hh _ _ hq';have hg2:G2 q=none:=e2.nw _ _ hg' hq';have r2:=r'.mono e2.gg;have hlen:ys.length<=i:=by
    rw[<-r'.length];exact nt0 (ko hc') (by rw[List.length_take];omega)
   have no1:=l3 noB;have back:∀{G3 H3:Hp}{σ3:St},EnvD X.K G1 H1 G3 H3 σ3 Y1->EnvD X.K G1 H1 G3 H3 σ3 (SI.blk tn.length js Y):=λE3=>E3.forget l1.symm λj sl hj=>by
    by_cases hjn:j<tn.length
    .left
     rcases blk_at hj with z|⟨_,_,z,_⟩
     .exact z
     .omega
    .right;rw[l2 j (by omega)];exact hj
   intro C s0 H0' fp pins s u I rv;refine T.tgt C s0 H0' fp dd pins s σ' H2 v u _ I rv ⟨G1,H1,G2,_,Y1,E'.step e2,d2,hb1,λσ2 E2=>?_⟩;intro C s0 H0' fp pins s I;refine T.test C s0 H0' fp Y1 tb hb2 pins s _ H2 _ I ⟨G1,H1,G2,E2,λG3 H3 e3=>?_⟩;have hq3:H3 q=some (.lst ys):=e3.hh _ _ hq2;have hg3:G3 q=none:=e3.nw _ _ hg2 hq2;cases tb with
   |false=>
    rw[if_neg fx0]at ho;cases ho;subst e1;refine gu ⟨ds.length-(i+1),by omega,rfl,hlt,G3,ys,_,back (E2.step e3),hq3,hg3,?_,hc1⟩;rw[Option.toList_none,List.append_nil];exact r2.mono e3.gg
   |true=>
    rw[if_pos rfl]at ho;obtain⟨w0,hw,e4⟩:=mx0 ho;subst e4 e1;refine iteT ?_;intro C s0 H0' fp pins s I;refine T.elt C s0 H0' fp Y1 w0 hw pins s _ H3 _ I ⟨G1,H1,G3,E2.step e3,λw G4 H4 e4 r4=>?_⟩;refine⟨ys,e4.hh _ _ hq3,by omega,ds.length-(i+1),by omega,rfl,hlt,G4,ys++[w],_,(back ((E2.step e3).step e4)).touch noB (e4.nw _ _ hg3 hq3) hq0,ae,e4.nw _ _ hg3 hq3,?_,hc1⟩;exact ((r2.mono e3.gg).mono e4.gg).append (.one r4)
  .have e:i=ds.length:=by omega
   subst e;rw[List.take_length,hrun]at hc';cases hc';exact .inl ⟨hi.stop H' sm E'.ext.hh,k q ys G' H' E'.ext hg' hq0 hq' r'⟩
def qY(B:BlkOk X scope js)(hcalm:X.calm=true)(hi:PI X tg iter (tSi X.K Y false ds))(T:qX X Z Γ scope (aE X tn js) tg t ifs ifs' elt elt')(ht:mK t tn.length=true)(hz:ds.length<=sizeLine)
  (hrun:aM (kr Z Γ tn.length js t ifs' elt' Y) ds=some out) (hs:∀x,foldedSetIterable iter X.env x=pure x):En X Y (.ListComp elt [⟨tg,iter,ifs,0⟩] scope pos) (.list out):=by
 intro pins s σ H Q I h;obtain⟨G0,H0,G,E,k⟩:=h;refine qJ (tn:=tn) (js:=js) (g:=tgC X scope (aE X tn js) tg) (tc:=tcC X scope (aE X tn js) ifs) (te:=teC X scope (aE X tn js) elt) B hcalm hi
  (λC s H fp pins s' σ' H' v u Q' I' r h=>h C s H fp pins s' u I' r) (λC s H fp pins s' σ' H' Q' I' h=>h C s H fp pins s' I') (λC s H fp pins s' σ' H' Q' I' h=>h C s H fp pins s' I') hs pins s σ H Q I ?_
 refine⟨G0,H0,G,E,λJ G1 H1 e1 hJ=>ku hJ T ht hz (E.step e1) hrun λq vs G' H' e2 g1 h1 h2 r=>k q G' H' (e1.trans e2) g1 (e1.hh.free h1) (.inl ⟨_,_,rfl,h2,r⟩)⟩
end
def Goes(K:Fg)(G0 H0 G:Hp)(o:Out)(F:Ends):Prop:=match o with
 |.nx Y'=>∀G' H' σ',EnvD K G0 H0 G' H' σ' Y'->Same G G'->F.nx σ' H'
 |.rt d=>∀v G' H',Dp K G' d v->Ext G0 H0 G' H'->F.rt v H'
def Goes.go{G:Hp}{o:Out}{F:Ends}(h:Goes K G0 H0 G o F)(s:Same G G1):Goes K G0 H0 G1 o F:=by
 cases o with
 |nx Y'=>exact λG' H' σ' e g=>h G' H' σ' e (s.trans g)
 |rt d=>exact h
noncomputable def tEp(K:Fg)(Y:List Sl)(o:Out):TS:=λF σ H=>∃G0 H0 G,EnvD K G0 H0 G H σ Y/\Goes K G0 H0 G o F
def E1(X:Cx)(Y:List Sl)(st:Stmt)(o:Out):Prop:=PS X st (tEp X.K Y o)
def Ep(X:Cx)(Y:List Sl)(sts:List Stmt)(o:Out):Prop:=PSs X sts (tEp X.K Y o)
section
variable {rest:List Stmt}{o:Out}{e:Expr}{p:Pos}{es:List D}
def DZ:Ep X Y [] (.nx Y):=by rintro pins s σ H F I ⟨G0,H0,G,env,R⟩;exact dh pins s σ H F I (R G H σ env (Same.refl _))
def wx(h1:E1 X Y st (.nx Y1))(h2:Ep X Y1 rest o):Ep X Y (st::rest) o:=λpins s σ H F I ⟨G0,H0,G,env,R⟩=>
 aA h1 h2 pins s σ H F I ⟨G0,H0,G,env,λG' H' σ' env' g=>⟨G0,H0,G',env',R.go g⟩⟩
def wy(h1:E1 X Y st (.rt d)):Ep X Y (st::rest) (.rt d):=λpins s σ H F I ⟨G0,H0,G,env,R⟩=>
 aA (u:=λa a a=>False) h1 (λa a a a a a z=>z.elim) pins s σ H F I ⟨G0,H0,G,env,R⟩
def Ab:E1 X Y (.Pass pos) (.nx Y):=by rintro pins s σ H F I ⟨G0,H0,G,env,R⟩;exact qx pins s σ H F I (R G H σ env (Same.refl _))
def Eb(h:Ev X (Y.map freeze) e d):E1 X Y (.Return (some e) pos) (.rt d):=by
 rintro pins s σ H F I ⟨G0,H0,G,env,R⟩
 obtain⟨G1,env1,s1⟩:=env.freeze;exact iG h pins s σ H F I ⟨G0,H0,G1,env1,λv G' H' e1 r=>R v G' H' r (env1.ext.trans e1)⟩
structure Sto(X:Cx)(x:Str)(i:Nat):Prop where
 nd:X.N.Nodup
 nm:DY X x i
def Sto.lt(S:Sto X x i){pins}{H}{s}(I:Inv X pins σ H s):i<σ.length:=by rw[I.len];exact (gi0 S.nm.at').1
def Ec(S:Sto X x i)(h:Ev X Y e d)(hs:swapsWith e (some (.Name x pos')) pos.line X.env=pure false):E1 X Y (.Assign [.Name x pos'] e pos) (.nx (Y.set i (.dat d))):=
 λpins s σ H F I ⟨G0,H0,G,env,R⟩=>gm S.nd S.nm.at' S.nm.loc h hs S.nm.fn pins s σ H F I ⟨G0,H0,G,env,λv G' H' e1 r=>
  R G' H' _ ((env.step e1).set (S.lt I) r) e1.gg⟩
def wz(S:Sto X x i)(h:En X Y e d)(hs:swapsWith e (some (.Name x pos')) pos.line X.env=pure false):E1 X Y (.Assign [.Name x pos'] e pos) (.nx (Y.set i (.own d))):=
 λpins s σ H F I ⟨G0,H0,G,env,R⟩=>gm S.nd S.nm.at' S.nm.loc h hs S.nm.fn pins s σ H F I ⟨G0,H0,G,env,λp G' H' e1 g1 h1 r=>
  R G' H' _ ((env.step e1).setOwn (S.lt I) r g1 (env.ext.hh.free h1) (env.fresh h1)) e1.gg⟩
def Ac{ifs:List Expr}{t:Tg}{ifs':Es}{elt':E}(S:Sto X x i)(B:BlkOk X scope js)(hcalm:X.calm=true)(hi:PI X tg iter (tSi X.K Y false ds))
  (T:qX X Z Γ scope (aE X tn js) tg t ifs ifs' elt elt') (ht:mK t tn.length=true) (hz:ds.length<=sizeLine) (hrun:aM (kr Z Γ tn.length js t ifs' elt' Y) ds=some out) (hs:∀x,foldedSetIterable iter X.env x=pure x)
  (hy:X.env.scope.names.lookup x=some .local) (hsw:swapsWith (.ListComp elt [⟨tg,iter,ifs,0⟩] scope p) (some (.Name x pos')) pos.line X.env=pure true):
  E1 X Y (.Assign [.Name x pos'] (.ListComp elt [⟨tg,iter,ifs,0⟩] scope p) pos) (.nx (Y.set i (.own (.list out)))):=by
 intro pins s σ H F I h;obtain⟨G0,H0,G,env,R⟩:=h;refine zy (tn:=tn) (js:=js) (g:=tgC X scope (aE X tn js) tg) (tc:=tcC X scope (aE X tn js) ifs) (te:=teC X scope (aE X tn js) elt) B hcalm hi
  (λC s H fp pins s' σ' H' v u Q' I' r h=>h C s H fp pins s' u I' r) (λC s H fp pins s' σ' H' Q' I' h=>h C s H fp pins s' I') (λC s H fp pins s' σ' H' Q' I' h=>h C s H fp pins s' I') S.nd S.nm.at' hy hsw hs pins s σ H F I ?_
 refine⟨G0,H0,G,env,λJ G1 H1 e1 hJ=>ku (Q:=λv H'=>F.nx (σ.set i (some v)) H') hJ T ht hz (env.step e1) hrun λq vs G' H' e2 g1 h1 h2 r=>?_⟩;have en:=(env.step e1).step e2;exact R G' H' _ (en.setOwn (S.lt I) (.inl ⟨_,_,rfl,h2,r⟩) g1 (env.ext.hh.free (e1.hh.free h1)) ((env.step e1).fresh h1)) (e1.gg.trans e2.gg)
def wA(S:Sto X x i)(h:E1 X Y st (.nx (Y.set i (.own d)))):E1 X Y st (.nx (Y.set i (.dat d))):=λpins s σ H F I ⟨G0,H0,G,env,R⟩=>
 h pins s σ H F I ⟨G0,H0,G,env,λG' H' σ' env' g=>by
  have hi:i<Y.length:=by rw[<-env.len];exact S.lt I
  obtain⟨G2,env2,s2⟩:=env'.freeze1 (i:=i) (d:=d) (gs0 hi);rw[List.set_set]at env2;exact R G2 H' σ' env2 (g.trans s2)⟩
def HF{a b:List Stmt}(h:Et X Y c t)(ha:t=true->Ep X Y a o)(hb:t=false->Ep X Y b o):E1 X Y (.If c a b pos) o:=by
 cases t with
 |true=>
  intro pins s σ H F I h0;obtain⟨G0,H0,G,env,R⟩:=h0;exact gU (u:=λd d d=>False) h (ha rfl) (λd d d d d d z=>z.elim) pins s σ H F I ⟨G0,H0,G,env,λG1 H1 e1=>iteT ⟨G0,H0,G1,env.step e1,R.go e1.gg⟩⟩
 |false=>
  intro pins s σ H F I h0;obtain⟨G0,H0,G,env,R⟩:=h0;exact gU (t:=λd d d=>False) h (λd d d d d d z=>z.elim) (hb rfl) pins s σ H F I ⟨G0,H0,G,env,λG1 H1 e1=>gu ⟨G0,H0,G1,env.step e1,R.go e1.gg⟩⟩
noncomputable def tXs(X:Cx)(body:List Stmt):TS:=λF σ H=>∀pins s,Inv X pins σ H s->wpAny (model X.prog X.w) X.A (execs body X.env) (SP X pins F) X.xe s
def BQ:PSs X body (tXs X body):=λpins s σ H F I h=>h pins s I
noncomputable def tXg(X:Cx)(tg:Expr):TG:=λv σ H Q=>∀pins s u,Inv X pins σ H s->RelV v u->wpAny (model X.prog X.w) X.A (assign tg X.env u) (λa s'=>∃σ' H',Inv X pins σ' H' s'/\Q σ' H') X.xe s
def HG:PG X tg (tXg X tg):=λpins s σ H v u Q I r h=>h pins s u I r
def Ed{t:Tg}{run:List Sl->Option Out}(hi:Si X Y true iter ds)(ht:Tgj X tg t)(hb:∀Y' o',run Y'=some o'->Ep X Y' body o')(h:forL (ar t) run ds Y=some o)
  (hc:X.calm=true) (hp:PassesOwn (model X.prog X.w) X.A X.env X.xe) (hf:∀x,foldedSetIterable iter X.env x=pure x):E1 X Y (.For tg iter body [] pos) o:=by
 intro pins s σ H F I h0;obtain⟨G0,H0,G,env,R⟩:=h0;refine uJ hp hc (hi _) (HG (tg:=tg)) (BQ (body:=body)) hf pins s σ H F I ?_;refine⟨G0,H0,G,env,λJ G1 H1 e1 hJ=>⟨λk m σ' H'=>m=ds.length-k/\k<=ds.length/\∃Y' G',forL (ar t) run (ds.drop k) Y'=some o/\EnvD X.K G0 H0 G' H' σ' Y'/\Same G1 G',⟨ds.length,by simp,Nat.zero_le _,Y,G1,h,env.step e1,Same.refl _⟩,?_⟩⟩
 rintro k m σ' H' ⟨rfl,hk,Y',G',pv,env',g1⟩
 have g0:Same G G':=e1.gg.trans g1
 by_cases hlt:k<ds.length
 .refine .inr ⟨hJ.go k H' hlt (g1.trans env'.sub) env'.ext.hh,λσ2 H2=>k+1<=ds.length/\∃Y2 G2,forL (ar t) run (ds.drop (k+1)) Y2=some o/\EnvD X.K G0 H0 G2 H2 σ2 Y2/\Same G1 G2,λσ2 H2 ⟨h1,Y2,G2,p2,en2,s2⟩=>⟨ds.length-(k+1),by omega,rfl,h1,Y2,G2,p2,en2,s2⟩,λv H2 y=>?_⟩
  have hd:ds[k]?=some ds[k]:=ge0 hlt;rw[List.drop_eq_getElem_cons hlt]at pv;generalize ds[k]=dd at hd pv;obtain⟨Y1,b1,pv⟩:=bx0 (show (ar t dd Y').bind _=some o from pv);obtain⟨o1,b2,pv⟩:=bx0 pv;obtain⟨G2,e2,d2⟩:=hJ.yld k G' H' v H2 dd hd g1 env'.sub env'.ext.hh y;intro pins' s' u' I' r';refine ht dd pins' s' σ' H2 v u' _ I' r' ⟨G0,H0,G2,Y',Y1,env'.step e2,d2,b1,λσ2 en2=>?_⟩;intro pins2 s2 I2;refine hb Y1 o1 b2 pins2 s2 σ2 H2 _ I2 ⟨G0,H0,G2,en2,?_⟩;cases o1 with
  |nx Y3=>exact λG3 H3 σ3 en3 g3=>⟨hlt,Y3,G3,pv,en3,g1.trans (e2.gg.trans g3)⟩
  |rt dr=>
   cases pv;exact R
 .have e:k=ds.length:=by omega
  subst e;rw[List.drop_length]at pv;cases pv;exact .inl ⟨hJ.stop H' (g1.trans env'.sub) env'.ext.hh,R G' H' σ' env' g0⟩
end
structure VarOk(X:Cx)(x:Str)(i:Nat):Prop where
 at':X.N[i]?=some x
 vis:Vis X.env.scope x
 d:(x==("__debug__":Str))=false
 cd:(x==("__classdict__":Str))=false
section
variable {rest:List Stmt}{o:Out}{e k:Expr}{p:Pos}{es:List D}
def VarOk.pe(V:VarOk X x i):PE X (.Name x p) (uD i):=cN V.at' V.vis V.d V.cd
def gJ{name}:attributeBase (.Name x p1) name env (eval (.Name x p1) env)=eval (.Name x p1) env:=rfl
def iQ{G:Hp}(env:EnvD K G0 H0 G H σ Y)(h:Y[i]?=some (.own (.list ds))):∃q vs,σ[i]?=some (some (.ref q))/\H q=some (.lst vs)/\Dps K G ds vs:=by
 obtain⟨q,a,_,_,g⟩:=env.own i _ h;rcases g with⟨ds',vs,h1,h2,h3⟩|⟨kvs,ws,h1,_⟩
 .cases h1;exact⟨q,vs,a,h2,h3⟩
 .cases h1
def fL{G:Hp}{kvs:List (Key×D)}(env:EnvD K G0 H0 G H σ Y)(h:Y[i]?=some (.own (.dict kvs))):∃q vs,σ[i]?=some (some (.ref q))/\H q=some (.dK vs)/\Dks K G kvs vs:=by
 obtain⟨q,a,_,_,g⟩:=env.own i _ h;rcases g with⟨ds',vs,h1,h2,h3⟩|⟨kvs,ws,h1,h2,h3⟩
 .cases h1
 .cases h1;exact⟨q,ws,a,h2,h3⟩
def Ee(V:VarOk X x i)(h:Ev X Y e d)(hs:isStar e=false)(ho:Y[i]?=some (.own (.list ds)))(hz:ds.length<sizeLine)(hline:(apos.endLine==cpos.line)=true):
  E1 X Y (.Expr (.Call (.Attribute (.Name x p1) "append" apos) [e] [] cpos) pos) (.nx (Y.set i (.own (.list (ds++[d]))))):=by
 have hS:=af (es:=[]) (env:=X.env) hs;intro pins s σ H F I h0;obtain⟨G0,H0,G,env,R⟩:=h0;obtain⟨q,vs,a,b,g⟩:=iQ env ho;refine eD (qH PySem.F.plainAttrs_list PySem.F.slot_list_append PySem.F.type_list_append gq V.pe (aD h bz hS) gJ (by rw[hS];rfl) hline hS rfl) rfl pins s σ H F I ?_;refine⟨.ref q,a,.inl ⟨rfl,vs,SqL.of b⟩,G0,H0,G,env,λw G1 H1 e1 r=>?_⟩;exact⟨q,vs,w,rfl,rfl,e1.hh _ _ b,by rw[<-g.length];exact hz,R G1 _ _ ((env.step e1).change ho a (.inl ⟨_,_,rfl,ae,(g.mono e1.gg).append (.one r)⟩)) e1.gg⟩
def jh(hk:isSlice k=false):∀v,assign (.Subscript (.Name x p1) k spos) env v=(do
   let ov ←holding [v] (eval (.Name x p1) env)
   let iv ←holding [v,ov] (eval k env)
   standAt spos
   holding [v,ov,iv] (setItem ov iv v)
   release [v,ov,iv] []):=by
 intro v;cases k<;>first|rfl|cases hk
def kx :swapsWithSole [.Subscript (.Name x p1) k spos] e pos.line env=pure false:=by
 unfold swapsWithSole swapsWith;cases e<;>rfl
def hV :swappedStores [.Subscript (.Name x p1) k spos] e env=pure .none:=by
 unfold swappedStores;cases e<;>rfl
def Ad{n:Int}{m:Nat}(V:VarOk X x i)(h:Ev X Y e d)(hk:Ev X Y k (.int n))(hks:isSlice k=false)(ho:Y[i]?=some (.own (.list ds)))(hm:SI.ixN ds.length n=some m):
  E1 X Y (.Assign [.Subscript (.Name x p1) k spos] e pos) (.nx (Y.set i (.own (.list (ds.set m d))))):=by
 intro pins s σ H F I h0;obtain⟨G0,H0,G,env,R⟩:=h0;obtain⟨q,vs,a,b,g⟩:=iQ env ho;refine oK h (oJ V.pe hk set_list (jh hks)) kx hV rfl pins s σ H F I ?_;refine⟨G0,H0,G,env,λv G1 H1 e1 r1=>⟨.ref q,a,G0,H0,G1,env.step e1,λw G2 H2 e2 r2=>?_⟩⟩;cases r2;have e3:=e1.trans e2;exact⟨q,vs,n,m,rfl,rfl,e3.hh _ _ b,by rw[<-g.length];exact hm,R G2 _ _ ((env.step e3).change ho a (.inl ⟨_,_,rfl,ae,(g.mono e3.gg).set (r1.mono e2.gg) m⟩)) e3.gg⟩
def Ae{dk:D}{kvs:List (Key×D)}(hu:X.A.units+1<cLine)(V:VarOk X x i)(h:Ev X Y e d)(hk:Ev X Y k dk)(hkey:fq dk=some key)(hks:isSlice k=false)(ho:Y[i]?=some (.own (.dict kvs)))(hz:kvs.length<1000):
  E1 X Y (.Assign [.Subscript (.Name x p1) k spos] e pos) (.nx (Y.set i (.own (.dict (SI.put kvs key d))))):=by
 intro pins s σ H F I h0;obtain⟨G0,H0,G,env,R⟩:=h0;obtain⟨q,vs,a,b,g⟩:=fL env ho;have set_dict:zf X (λo i v H Q=>∃p kvs k,o=.ref p/\i=kV k/\H p=some (.dK kvs)/\kvs.length<sizeLine/\((kvs.map (·.1)).Nodup->Q (upd H p (.dK (putK kvs k v))))):=by
  intro pins s σ H o i v ov iv u Q I ro ri rv h;obtain⟨p,kvs,k,rfl,rfl,hp,hl,q⟩:=h;cases ro;have nd:(kvs.map (·.1)).Nodup:=by
   obtain⟨_,_,vs,rel,dd⟩:=iL I.hok hp;rw[rel.keys];obtain⟨_,_,_,_,_,_,_,_,nd⟩:=dd;exact nd
  exact sN hu I (DPut.k hp hl) ri rv λs' I'=>⟨_,I',q nd⟩
 refine oK h (oJ V.pe hk set_dict (jh hks)) kx hV rfl pins s σ H F I ?_;refine⟨G0,H0,G,env,λv G1 H1 e1 r1=>⟨.ref q,a,G0,H0,G1,env.step e1,λw G2 H2 e2 r2=>?_⟩⟩;have e3:=e1.trans e2;exact⟨q,vs,key,rfl,bo (.of (H:=H2) r2) hkey,e3.hh _ _ b,by rw[<-g.length];exact cX (Nat.le_of_lt hz),λnd=>R G2 _ _ ((env.step e3).change ho a (.inr ⟨_,_,rfl,ae,Dks.put (r1.mono e2.gg) (g.mono e3.gg) nd⟩)) e3.gg⟩
end
end L2.Z
namespace PySem.W
open PySem PySem.Spec PySem.Calls PyProof.Rows
structure ExcI(K:Frag)(C:Addr):Prop where
 ga:findIn K (.ref C) "__getattribute__"=some (some (.builtin "BaseException.__getattribute__"))
 gt:findIn K (.ref C) "__getattr__"=some none
 cl:findIn K (.ref C) "__class__"=some (some (.builtin "object.__class__"))
 sb:subIn K (.ref C) (.type "BaseException")=some true
 so:subIn K (.ref C) (.type "object")=some true
 ci:(clsIn K C).isSome=true
section
variable {A:Around}{E:Value->Shared->Prop}{g:Array GenState}{d:Drawn}{t:Nat}{os:OsState}{a C:Addr}{o:Obj}{K:Frag}
def wB{R}(Z:ExcI K C)(X:K.In h)(hx:h.get? a=some o)(hc:o.cls=.ref C)(hq:R (.ok (.ret (.ref C))) ⟨h,g,d,t,os⟩):
  codeAny (model prog w) A (.call (.builtin "getset_descriptor.__get__") ⟨[.builtin "object.__class__",.ref a,.ref C],[]⟩) R ⟨h,g,d,t,os⟩:=by
 have hT5:=F.typeOf_object_class;have L8:Looks (model prog w) h (isSubtype (.ref C) (.type (".".intercalate ("object.__class__".cutAt '.').dropLast))) true:=by rw[F.owner_object_class];exact looks_subIn X Z.so
 refine codeAny_call_builtin F.slot_gs_get.plain F.entry_gs_get (F.slot_gs_get.check _ _ _ _ _ _ _ _ hT5 (F.args_gs_get _ _ _) ?_)
 repeat (any_goals (first|assumption|(with_reducible refine wpAny_loadPart_at hx ?_;rw[hc])|with_reducible refine Looks.at L8 ?_|wp_step))
 refine⟨Code.quiet_builtin _ (by decide +kernel),codeAny_builtin F.entry_object_class ?_⟩
 repeat (any_goals (first|assumption|(with_reducible refine wpAny_loadPart_at hx ?_;rw[hc])|wp_step))
def pR{M}{nameV}{Q}(Z:ExcI K C)(X:K.In h)(hx:h.get? a=some o)(hc:o.cls=.ref C)(hq:Q () ⟨h,g,d,t,os⟩):
  wpAny M A (checkBuiltinCall "BaseException.__getattribute__" ⟨[.ref a,nameV],[]⟩) Q E ⟨h,g,d,t,os⟩:=by
 have hk:builtinKind "BaseException.__getattribute__"=some .slot:=by decide +kernel
 have hsplit:splitId "BaseException.__getattribute__"=some ("BaseException","__getattribute__"):=by decide +kernel
 have L:Looks M h (isSubtype (.ref C) (.type "BaseException")) true:=looks_subIn X Z.sb;have ha:=F.args_bexc_ga (.ref a) nameV;simp only[checkBuiltinCall,hk,hsplit];refine wb0 ?_
 .unfold isInstance
  repeat (first|(with_reducible refine wpAny_loadPart_at hx ?_;rw[hc])|with_reducible refine Looks.at L ?_|wp_step)
  exact hq
def tQ{tk}{R}(Z:ExcI K C)(X:K.In h)(hx:h.get? a=some o)(hc:o.cls=.ref C)(hq:R (.ok (.ret (.ref C))) ⟨h,g,d,t,os⟩):
  codeAny (model prog w) A (.call (.builtin "BaseException.__getattribute__") ⟨[.ref a,.str "__class__" tk],[]⟩) R ⟨h,g,d,t,os⟩:=
 codeAny_call_builtin F.attrBase_ValueError.ga.plain F.entry_bexc_ga (pR Z X hx hc ((by
   have L4:=looks_findIn (M:=model prog w) X Z.cl;have f5:=F.typeOf_object_class;have f6:=F.slot_gs_get.lookup;have f7:=F.slot_gs_set.lookup
   repeat (any_goals (first|assumption|(with_reducible refine wpAny_loadPart_at hx ?_;rw[hc])|with_reducible refine Looks.at L4 ?_|wp_step))
   refine wB Z X hx hc ?_
   repeat (any_goals (first|assumption|wp_step)))))
def xcls_by{tk}{fill expr}{Q}(Z:ExcI K C)(X:K.In h)(hx:h.get? a=some o)(hc:o.cls=.ref C)(hq:Q (.ref C) ⟨h,g,d,t,os⟩):
  wpAny (model prog w) A (getAttrBy (.ref a) (.str "__class__" tk) fill expr) Q E ⟨h,g,d,t,os⟩:=by
 have f3:=F.attrBase_ValueError.ga.bind (.ref a);have hx0:(expr&&onTheHeap (Value.builtin "BaseException.__getattribute__"))=false:=by cases expr<;>rfl
 have hx2:(Value.builtin "BaseException.__getattribute__"==Value.builtin "object.__getattribute__")=false:=by decide +kernel
 have hx1:(onTheHeap (Value.ref C)&&Value.builtin "BaseException.__getattribute__"==Value.builtin "object.__getattribute__")=false:=by rw[hx2];rfl
 have L1:=looks_findIn (M:=model prog w) X Z.ga;have L2:=looks_findIn (M:=model prog w) X Z.gt
 repeat (any_goals (first|assumption|(with_reducible refine wpAny_loadPart_at hx ?_;rw[hc])|with_reducible refine Looks.at L1 ?_|with_reducible refine Looks.at L2 ?_|wp_step))
 refine tQ Z X hx hc ?_
 repeat (any_goals (first|assumption|wp_step))
set_option tactic.hygienic true in
def kitx_exc(Z:ExcI K C):KitX K (.ref a) (.ref C) (L2.Z.ExcAt a C) where
 ty:=λM h b p=>by
  obtain⟨o,h1,h2⟩:=p;exact h2▸(Looks.ld h1).andThen .now
 it:=λb b X b=>by
  have hcD:=Z.ci;unfold clsIn at hcD;split at hcD
  .rename_i c' d' cd' sl' ho
   intro A' Q' E' s' k q;unfold isType loadHead;exact wb0 (wpAny_loadPart (k _ _ (X _ _ ho)) (wq0 q))
  .cases hcD
 ne:=λh tp dd its n sl X htp=>by
  have hcD:=Z.ci;refine bf0 λq=>?_
  have e:=Value.ref.inj (beq_iff_eq.mp q);subst e;unfold clsIn at hcD;split at hcD
  .rename_i c' d' cd' sl' ho
   have z:=(X _ _ ho).symm.trans htp;cases z
  .cases hcD
 ca:=λ{_ _ _ _ _ s} X p k=>by
  obtain⟨h,g,d,t,os⟩:=s;obtain⟨o,h1,h2⟩:=p;exact (by
    have hx:=h1;have hc:=h2;have hq:=k;unfold getAttr? getAttrBy?
    repeat (any_goals (first|assumption|with_reducible apply xcls_by Z X hx hc|wp_step)))
end
end PySem.W
namespace L2.Z
open PySem PySem.Spec PyProof.Rows L2 L2.C SI
def gK(h:N.idxOf? x=some i):N[i]?=some x:=by
 unfold List.idxOf? at h;obtain⟨h1,h2,_⟩:=List.findIdx?_eq_some_iff_getElem.mp h;rw[ge0 h1];exact congrArg some (eq_of_beq h2)
structure CxC(X:Cx)(C:Cs):Prop where
 N:X.N=C.N
 nd:C.N.Nodup
 vis:∀x k,C.sc.names.lookup x=some k->(k=.local\/k=.cell\/k=.free)->Vis X.env.scope x
 loc:∀x k,C.sc.names.lookup x=some k->(k=.local\/k=.cell)->Loc X.env.scope x/\(X.fn x=true\/X.env.scope.names.lookup x=some .local)
 cell:∀x,C.sc.names.lookup x=some .cell->X.env.kindOf x=some .cell
 glob:∀x,C.sc.names.lookup x=some .globalImplicit->Gl X x
 calm:X.calm=true
 kind:X.env.scope.kind=.function
noncomputable def bltNames:List Str:=["len","max","min","int","list","str","isinstance","range","tuple","bool","reversed","dict","zip","all","ord","sorted","set"]
structure FnZv(P:Program)(w:World)(K:Fg)(mg:Str->Option Value)(base:Heap)(k:Nat)(c:Addr)(m:Str)(J:Fn):Prop where
 nm:m≠"objects"/\m≠"numbers"
 ex:∃f fd ps,iJ K c m f/\Binds K fd ps []/\FnOk P w K mg base CX0 k f fd ps (Pur K J)
structure XcZ(K:Fg)(mg:Str->Option Value)(t:Str)(c:Addr)(tab:List (Nat×Bool)):Prop where
 nm:mg t=some (.ref c)\/t="ValueError"/\mg t=Option.none
 one:∀e b,tab.lookup e=some b->PySem.W.ExcI K e/\(mg t=some (.ref c)->PySem.W.kitOne K (.ref e) (.ref c)=some b)/\(mg t=Option.none->PySem.W.kitOne K (.ref e) (.type "ValueError")=some b)
structure Wz(X:Cx)(Z:Fs)(Γ:List (Str×D))(C:Cs)(k:Nat):Prop where
 blt:∀x∈bltNames,X.mg x=Option.none
 fns:∀x,C.fns.contains x=true->∀J,Z x=some J->FnZ X.prog X.w X.K X.mg X.base k x J
 gl:∀x d,Γ.lookup x=some d->∃u v,X.mg x=some u/\RelV v u/\∀G,Dp X.K G d v
 room:Room k X.A
 vc:∀c,C.vc=some c->Cls X.K c/\NoAttr X.K c "objects"
 vf:∀c m,C.vc=some c->C.vms.contains m=true->∀J,Z (ah m)=some J->FnZv X.prog X.w X.K X.mg X.base k c m J
 xc:∀t c tab,C.xcs.lookup t=some (c,tab)->XcZ X.K X.mg t c tab
structure SdE(X:Cx)(Z:Fs)(Γ:List (Str×D))(e:Expr)(E':E)(n:Bool):Prop where
 v:∀{Y d},ev Z Γ .val Y E'=some d->Ev X Y e d
 r:∀{Y d},ev Z Γ .read Y E'=some d->Er X Y e d
 w:∀{Y d},ev Z Γ .walk Y E'=some d->Ek X Y e d
 t:∀{Y d},ev Z Γ .test Y E'=some d->∃b,d=.bool b/\Et X Y e b
 n:n=true->∀{Y d},ev Z Γ .val Y E'=some d->bc d=true->En X Y e d
def ky(hsup:aJ o=false)(hs:aK es)(hn:es.length<=20)(hline:(apos.endLine==pos.line)=true):
  eval (.Call (.Attribute o m apos) es [] pos) env=(do
   let ov ←eval o env
   standAt apos.atName
   let (f,first) ←holding [ov] (getMethod ov m (do return (<-importBound o env).getD true))
   callWith pos f first (backTo pos (starEach es env)) (backToKw pos (keywordEach [] env))):=by
 have hform:methodCallForm (es.length+([]:List Keyword).length) (backTo pos (starEach es env)) (backToKw pos (keywordEach [] env))=true:=by
  unfold methodCallForm;rw[kj hs];show (true&&true&&decide (es.length+0+0<30))=true;rw[dt0 (by omega)];rfl
 rw[arm_eval_Call,base_of hsup];unfold methodCall;rw[hform];have hpos:methodCallPos true o env apos pos=pure pos:=by unfold methodCallPos;simp[hline]
 rw[hpos];rfl
section
variable {e:Expr}{c h k:Nat}{os:List D}{p:Pos}
def Ef(hc:Cls X.K c)(hn:NoAttr X.K c "objects")(ho:Er X Y o (.vlt c h os))(hsup:aJ o=false):Er X Y (.Attribute o "objects" pos) (.list os):=
 λpins s σ H Q I ⟨G0,H0,G,E,k⟩=>oR ho (base_of hsup) pins s σ H Q I ⟨G0,H0,G,E,λv G1 H1 e1 r1=>by
  cases r1 with
  |of r1=>cases r1
  |vlt h1 h2 r=>exact⟨_,_,_,_,_,rfl,h1,hc,hn,rfl,k _ G1 H1 e1 (.list h2 r)⟩⟩
def wC{G:Hp}{v:V}(hm:m≠"objects"/\m≠"numbers")(r:Dr K G H (.vlt c h os) v):∃a dx fs,v=.ref a/\H a=some (.ins c dx fs)/\fs.lookup m=.none:=by
 cases r with
 |of r1=>cases r1
 |vlt h1 h2 r=>
  refine⟨_,_,_,rfl,h1,?_⟩;have n1:(m==("objects":Str))=false:=bn0 hm.1;have n2:(m==("numbers":Str))=false:=bn0 hm.2;simp[vfs,lk0,n1,n2]
def wD{J:Fn}(F:FnZv X.prog X.w X.K X.mg X.base k c m J)(hc:Cls X.K c)(hr:Room k X.A)(ho:Er X Y o (.vlt c h os))(ha:Ea X Y J.lent.tail es ds)(hl:J.lent.headD false=true)(hrun:J.run (.vlt c h os::ds)=some d)(hs:aK es)(hnil:es=[]->ds=[])
  {pl:Sem Bool} (ht:eval (.Call (.Attribute o m apos) es [] pos) X.env=(do
   let ov ←eval o X.env
   standAt apos.atName
   let (f,first) ←holding [ov] (getMethod ov m pl)
   callWith pos f first (backTo pos (starEach es X.env)) (backToKw pos (keywordEach [] X.env)))):Ev X Y (.Call (.Attribute o m apos) es [] pos) d:=by
 obtain⟨f,fd,ps,hm,hb,Ff⟩:=F.ex;intro pins s σ H Q I h0;obtain⟨G0,H0,G,E,kq⟩:=h0;cases es with
 |nil=>
  refine uS (pl:=pl) ho hc hm Ff hr hb .nil mz ht pins s σ H Q I ⟨G0,H0,G,E,λv G1 H1 e1 r1=>?_⟩;obtain⟨a,dx,fs,rfl,h1,h2⟩:=wC F.nm r1;refine⟨a,dx,fs,rfl,h1,h2,?_⟩;have hds:ds=[]:=hnil rfl;subst hds;exact⟨[.vlt c h os],d,G1,hrun,e1.gh,.cons (λz=>by rw[hl]at z;cases z) r1 .nil,λv G' H' e2 r2=>kq v G' H' (e1.trans e2) r2⟩
 |cons e es=>
  refine zj (pl:=pl) ho hc hm Ff hr hb .nil mz ha (af (hs e ms0)) (aC λy hy=>hs y (mc0 _ hy)) ht pins s σ H Q I ⟨G0,H0,G,E,λv G1 H1 e1 r1=>?_⟩;obtain⟨a,dx,fs,rfl,h1,h2⟩:=wC F.nm r1;refine⟨a,dx,fs,rfl,h1,h2,G0,H0,G1,E.step e1,λvs G2 H2 e2 r2=>?_⟩;exact⟨.vlt c h os::ds,d,G2,hrun,e2.gh,by rw[List.append_nil];exact .cons (λz=>by rw[hl]at z;cases z) (r1.ext e2) r2,λv G' H' e3 r3=>kq v G' H' (e1.trans (e2.trans e3)) r3⟩
def wF{e:Addr}{b:Bool}{x:V}{u:Value}(hx:∀v,RelV x v->v=u)(Z:PySem.W.ExcI X.K e)(h1:PySem.W.kitOne X.K (.ref e) u=some b):ba X (.builtin "isinstance") (λxs H Q=>∃a,xs=[.ref a,x]/\H a=some (.ext (ExcAt a e))/\Q (.bl b) H):=by
 intro pins s σ H xs us Q I r h;obtain⟨a,rfl,ha,q⟩:=h;obtain⟨w,v,rfl,ru,rv⟩:=vals2 r;cases ru;obtain rfl:=hx v rv;have hx:ExcAt a e s.heap:=(show ObjOk X.prog X.w H s.heap a (.ext (ExcAt a e))from I.hok a _ ha).1;exact PySem.W.kia_one (PySem.W.kitx_exc Z) I.kIn hx h1 (λz=>nomatch z) λtk=>⟨.bl b,H,I.tok tk,rfl,q⟩
def Af:bootBuiltins ("ValueError":Str)=some (.type "ValueError"):=by decide +kernel
def tR{c e:Addr}{b:Bool}{tab:List (Nat×Bool)}(B:Blt X "isinstance")(T:XcZ X.K X.mg x c tab)(hg:Gl X x)(hdb:(x==("__debug__":Str))=false)(ha:Er X Y a (.exc e))(hs:isStar a=false)(h:tab.lookup e=some b):
  Ev X Y (.Call (.Name "isinstance" p) [a,.Name x px] [] pos) (.bool b):=by
 obtain⟨Z,h1,h2⟩:=T.one e b h;have key:∀(y:V)(u:Value),(∀v,RelV y v->v=u)->PySem.W.kitOne X.K (.ref e) u=some b->PE X (.Name x px) (λσ H Q=>Q y H)->Ev X Y (.Call (.Name "isinstance" p) [a,.Name x px] [] pos) (.bool b):=λy u hy hk pn=>by
  intro pins s σ H Q I h0;obtain⟨G0,H0,G,E,k⟩:=h0;refine cq (wF hy Z hk) B.g B.m nu (aD ha (aD pn bz rfl) (af hs)) (by decide) (by decide) (af hs) rfl pins s σ H Q I ⟨G0,H0,G,E,λv G1 H1 e1 r1=>?_⟩;cases r1 with
  |of r1=>cases r1 with
   |exc r1=>exact⟨_,rfl,e1.gh _ _ r1,k _ G1 H1 e1 (.bool _)⟩
 rcases T.nm with hm|⟨rfl,hm⟩
 .exact key (.ref c) (.ref c) (λv r=>r) (h1 hm) λpins s σ H Q I q=>qu hg hm (show RelV (.ref c) (.ref c)from rfl) hdb pins s σ H Q I q
 .exact key (.ty "ValueError") (.type "ValueError") (λv r=>r) (h2 hm) (qv hg hm Af rfl (by decide) hdb)
end
section
variable {C:Cs}{k:Nat}{e:Expr}{E':E}
def wG{n:Bool}{core:List Sl->Option D}(h:∀m Y,ev Z Γ m Y E'=fin m (core Y))(hv:∀Y d,core Y=some d->Ev X Y e d/\(n=true->bc d=true->En X Y e d))(ht:∀Y d t,core Y=some d->fJ d=some t->Et X Y e t):SdE X Z Γ e E' n:=by
 refine⟨λq=>?_,λq=>?_,λq=>?_,λq=>?_,λf a a q=>?_⟩
 .rw[h]at q;exact (hv _ _ q).1
 .rw[h]at q;exact (hv _ _ q).1.er
 .rw[h]at q;exact (hv _ _ q).1.ek
 .rw[h]at q
  obtain⟨d',q1,q2⟩:=bx0 q;obtain⟨t,q3,q4⟩:=mx0 q2;exact⟨t,q4.symm,ht _ d' t q1 q3⟩
 .rw[h]at q;exact (hv _ _ q).2 f
def dR{n:Bool}{core:List Sl->Option D}(h:∀m Y,ev Z Γ m Y E'=fin m (core Y))(hv:∀Y d,core Y=some d->Ev X Y e d/\(n=true->bc d=true->En X Y e d))(he:∀whole,isTrue e X.env whole=(do let v ←whole;standAt e.pos;holding [v] (truthy v)):=by exact λa=>rfl):SdE X Z Γ e E' n:=
 wG h hv λY d t q1 q2=>iV (hv Y d q1).1.er q2 he
def bt{core:List Sl->Option D}(h:∀m Y,ev Z Γ m Y E'=fin m (core Y))(hv:∀Y d,core Y=some d->Ev X Y e d)(he:∀whole,isTrue e X.env whole=(do let v ←whole;standAt e.pos;holding [v] (truthy v)):=by exact λa=>rfl):SdE X Z Γ e E' false:=
 dR h (λY d q=>⟨hv Y d q,λz=>by cases z⟩) he
def ji{core:List Sl->Option D}(h:∀m Y,ev Z Γ m Y E'=fin m (core Y))(hv:∀Y d,core Y=some d->En X Y e d)(he:∀whole,isTrue e X.env whole=(do let v ←whole;standAt e.pos;holding [v] (truthy v)):=by exact λa=>rfl):SdE X Z Γ e E' true:=
 dR h (λY d q=>⟨(hv Y d q).ev,λa a=>hv Y d q⟩) he
set_option tactic.hygienic true
def dz(c:CxC X C)(h:dJ C x=some i):VarOk X x i:=by
 unfold dJ at h;split at h
 .rename_i j hj
  split at h
  .rename_i q
   cases h;rw[be0,Bool.or_eq_true,Bool.or_eq_true]at q;obtain⟨q1,q2⟩:=q;unfold bj at q2;rw[be0,be0]at q2;refine⟨by rw[c.N];exact gK hj,?_,by simpa using q2.1.1,by simpa using q2.1.2⟩;unfold aR at q1;rcases q1 with (q1|q1)|q1
   .exact c.vis x _ (eq_of_beq q1) (.inl rfl)
   .exact c.vis x _ (eq_of_beq q1) (.inr (.inl rfl))
   .exact c.vis x _ (eq_of_beq q1) (.inr (.inr rfl))
  .cases h
 .cases h
def jj(c:CxC X C)(h:eU C x=some i):DY X x i:=by
 unfold eU at h;split at h
 .rename_i j hj
  split at h
  .rename_i q
   cases h;rw[be0,Bool.or_eq_true]at q;obtain⟨q1,q2⟩:=q;unfold aR at q1;have l:Loc X.env.scope x/\(X.fn x=true\/X.env.scope.names.lookup x=some .local):=by
    rcases q1 with q1|q1
    .exact c.loc x _ (eq_of_beq q1) (.inl rfl)
    .exact c.loc x _ (eq_of_beq q1) (.inr rfl)
   exact⟨by rw[c.N];exact gK hj,l.1,l.2⟩
  .cases h
 .cases h
set_option tactic.hygienic false
def dU(c:CxC X C)(h:eU C x=some i):Sto X x i:=⟨by rw[c.N];exact c.nd,jj c h⟩
def aB(c:CxC X C)(h:aq C x=true):Gl X x/\x≠"__name__"/\(x==("__debug__":Str))=false:=by
 unfold aq at h;rw[be0]at h;unfold bj aR at h;rw[be0,be0]at h;exact⟨c.glob x (eq_of_beq h.1),by simpa using h.2.2,by simpa using h.2.1.1⟩
def bR(c:CxC X C)(w:Wz X Z Γ C k)(h:aq C x=true)(hb:x∈bltNames):Blt X x:=⟨(aB c h).1,w.blt x hb,(aB c h).2.1,(aB c h).2.2⟩
def BR(c:CxC X C){t:Tg}(h:cTg C tg=some t):Tgj X tg t:=by
 have nms:∀{es:List Expr}{is:List Nat},slots C es=some is->Nms X es is:=by
  intro es
  induction es with
  |nil=>intro is h;cases h;exact .nil
  |cons e r ih=>
   intro is h;cases e with
   |Name x px=>
    obtain⟨i,h1,h2⟩:=bx0 (show (eU C x).bind _=some is from h);obtain⟨is',h3,rfl⟩:=mx0 h2;exact .cons (jj c h1) (ih h3)
   |_=>cases h
 cases tg with
 |Name x px=>
  obtain⟨i,h1,rfl⟩:=mx0 (show (eU C x).map _=some t from h);have n:=jj c h1;exact nD (by rw[c.N];exact c.nd) n.at' n.loc n.fn
 |Tuple es n pos=>
  obtain⟨is,h1,rfl⟩:=mx0 (show (slots C es).map _=some t from h);exact zY c.calm (by rw[c.N];exact c.nd) (nms h1)
 |_=>cases h
theorem kz :∀{xs:List Str}{js:List Nat},pC N xs=some js->(js.map λj=>N.getD j Str.empty)=xs/\∀j∈js,∃x∈xs,N[j]?=some x
 |[],js,h=>by cases h;exact⟨rfl,λa z=>by cases z⟩
 |x::r,js,h=>by
  obtain⟨i,h1,h2⟩:=bx0 (show (N.idxOf? x).bind _=some js from h);obtain⟨js',h3,rfl⟩:=mx0 h2;obtain⟨q1,q2⟩:=kz h3;have e:=gK h1;refine⟨?_,λj hj=>?_⟩
  .rw[mk0,q1,List.getD_eq_getElem?_getD,e];rfl
  .rcases mq0 hj with rfl|hj
   .exact⟨x,ms0,e⟩
   .obtain⟨y,hy,ey⟩:=q2 j hj
    exact⟨y,mc0 _ hy,ey⟩
theorem bN{env:Env}{nk:NameKind}(hne:nk≠.free):∀{names:List (Str×NameKind)}{x:Str},names.lookup x=some nk->
  (names.map λ(n,k)=>if (k==NameKind.free&&env.scope.kind==.function&&env.kindOf n==some .cell)then (n,NameKind.cell)else (n,k)).lookup x=some nk
 |[],_,h=>by simp at h
 |(n,k)::r,x,h=>by
  have ih:=@bN env nk hne r x;show List.lookup x ((if (k==NameKind.free&&env.scope.kind==.function&&env.kindOf n==some .cell)=true then (n,NameKind.cell)else (n,k))::_)=_;cases hy:x==n with
  |true=>
   simp only[lk0,hy]at h;cases h;rw[if_neg (by simp[hne])];simp[lk0,hy]
  |false=>
   simp only[lk0,hy]at h
   by_cases hc:(k==NameKind.free&&env.scope.kind==.function&&env.kindOf n==some .cell)=true
   .rw[if_pos hc];simp only[lk0,hy];exact ih h
   .rw[if_neg hc];simp only[lk0,hy];exact ih h
structure KN(X:Cx)(C B:Cs)(sc:Scope)(tg:Expr)(nt:Nat)(js:List Nat):Prop where
 ok:BlkOk X sc js
 nt:nt=(bp tg).length
 n:B.N=aE X (bp tg) js
 cx:∀(A:Addr)(s:Shared)(H:Hp)(fp:List Addr),CxC (L2.C.blk X sc (aE X (bp tg) js) A s H fp) B
 same:B.fns=C.fns/\B.cst=C.cst/\B.vc=C.vc/\B.vms=C.vms/\B.xcs=C.xcs
set_option tactic.hygienic true in
def qZ(c:CxC X C){sc}{tg}{B}{nt}{js}(h:zJ C sc tg=some (B,nt,js)):KN X C B sc tg nt js:=by
 unfold zJ at h;split at h
 .rename_i q
  obtain⟨js',h1,h2⟩:=mx0 h;injection h2 with h2 h3
  injection h3 with h3 h4
  subst h2 h3 h4;unfold BO at q;simp only[be0]at q;obtain⟨⟨⟨⟨q1,q2⟩,q3⟩,q4⟩,q5⟩:=q;have q2':=λy hy=>List.all_eq_true.mp q2 y hy
  obtain⟨i1,i2⟩:=kz h1;have hN:bp tg++freeOf sc=aE X (bp tg) js':=by
   unfold aE;rw[c.N,i1]
  have hfree:∀y∈sc.names,y.2=.free->X.env.kindOf y.1=some .cell:=λy hy hf=>by
   have z:=q2' y hy;simp only[be0,Bool.or_eq_true]at z;rcases z.1.1 with z|z
   .rw[hf]at z;simp at z
   .exact c.cell y.1 (eq_of_beq z)
  have hcell:∀y∈sc.names,y.2≠.cell:=λy hy=>by
   have z:=q2' y hy;simp only[be0]at z
   simpa using z.1.2
  refine⟨⟨eq_of_beq q1,hfree,hcell,λy hy hl=>?_,λj hj=>?_⟩,rfl,hN,λA s H fp=>⟨hN.symm,od0 q5,λx kd e ek=>?_,λx kd e ek=>?_,λx e=>?_,λx e=>?_,c.calm,eq_of_beq q1⟩,rfl,rfl,rfl,rfl,rfl⟩
  .have z:=q2' y hy
   simp only[be0,Bool.or_eq_true]at z;rcases z.2 with z|z
   .rw[hl]at z;simp at z
   .exact eq_of_beq z
  .obtain⟨x,hx,e⟩:=i2 j hj
   refine⟨x,by rw[c.N];exact e,eq_of_beq (List.all_eq_true.mp q4 x hx)⟩
  .have e:sc.names.lookup x=some kd:=e
   rcases ek with rfl|rfl|rfl
   .exact .inl (lookup_relabel_local e)
   .exact absurd rfl (hcell _ (ml0 e))
   .exact .inr (.inl (aZ c.kind e (hfree _ (ml0 e) rfl)))
  .have e:sc.names.lookup x=some kd:=e
   rcases ek with rfl|rfl
   .exact⟨.inl (lookup_relabel_local e),.inr (lookup_relabel_local e)⟩
   .exact absurd rfl (hcell _ (ml0 e))
  .have e:=e
   exact absurd rfl (hcell _ (ml0 e))
  .have e:=e
   exact bN (env:=X.env) (by decide) e
 .cases h
end
def bS{o:Option α}{f:α->Option β}{c:β}(h:o.bind f=some c):∃x,o=some x/\f x=some c:=bx0 h
def mS{o:Option α}{f:α->β}{c:β}(h:o.map f=some c):∃x,o=some x/\f x=c:=mx0 h
def iS{p:Prop}[Decidable p]{x:α}{c:α}(h:(if p then some x else .none)=some c):p/\x=c:=by
 split at h
 .exact⟨‹_›,Option.some.inj h⟩
 .cases h
def iB{p:Prop}[Decidable p]{x:Option α}{c:α}(h:(if p then x else .none)=some c):p/\x=some c:=by
 split at h
 .exact⟨‹_›,h⟩
 .cases h
def nt{b:Bool}(h:(!b)=true):b=false:=by simpa using h
def a2{a b:Bool}(h:(a&&b)=true):a=true/\b=true:=by simpa using h
def fU(h:cv x=true):PyData.strOk x=true:=by
 rw[strOk_iff];exact λc hc=>od0 (List.all_eq_true.mp h c hc)
end L2.Z
namespace L2.Z
open PySem PySem.W PyProof.Rows
noncomputable def Wt{α:Type}(lt:Nat->Nat->Bool)(n:Nat):KasT α->(α->Prop)->Prop
 |.ret a,Q=>Q a
 |.ask i j k,Q=>i<n/\j<n/\Wt lt n (k (lt i j)) Q
theorem Wt.bind{lt:Nat->Nat->Bool}{f:α->KasT β}{Q:β->Prop}:∀{t:KasT α},Wt lt n t (λa=>Wt lt n (f a) Q)->Wt lt n (t.bind f) Q
 |.ret _,h=>h
 |.ask _ _ _,⟨h1,h2,h⟩=>⟨h1,h2,Wt.bind h⟩
theorem Wt.mono{lt:Nat->Nat->Bool}{P Q:α->Prop}(hq:∀a,P a->Q a):∀{t:KasT α},Wt lt n t P->Wt lt n t Q
 |.ret _,h=>hq _ h
 |.ask _ _ _,⟨h1,h2,h⟩=>⟨h1,h2,Wt.mono hq h⟩
structure LtO(lt:Nat->Nat->Bool):Prop where
 as:∀a b,lt a b=true->lt b a=false
 tr:∀a b c,lt b a=false->lt c b=false->lt c a=false
noncomputable abbrev gk(p:Array Nat)(i:Nat):Nat:=p.getD i 0
def Up(lt:Nat->Nat->Bool)(p:Array Nat)(m:Nat):Prop:=∀i j,i<=j->j<m->lt (gk p j) (gk p i)=false
def Dn(lt:Nat->Nat->Bool)(p:Array Nat)(m:Nat):Prop:=∀i j,i<=j->j<m->lt (gk p i) (gk p j)=false
def Eqv(lt:Nat->Nat->Bool)(p:Array Nat)(a b:Nat):Prop:=∀i j,a<=i->i<b->a<=j->j<b->lt (gk p i) (gk p j)=false
def InP(n:Nat)(p:Array Nat):Prop:=∀i,gk p i<n
def gk_q{p:Array Nat}:gk p i=(p[i]?).getD 0:=Array.getD_eq_getD_getElem? ..
def cA{p:Array Nat}(hj:j<=p.size)(k:Nat):gk (kas_rev p i j) k=if i<=k/\k<j then gk p (i+j-1-k)else gk p k:=by
 rw[gk_q,kas_rev,getElem?_mirror_all hj];split<;>exact gk_q.symm
def Eg{p:Array Nat}{k l:Nat}(hs:k<p.size)(hl:l<=k)(i:Nat):gk (bubble p k (k-l)) i=if i=l then gk p k else if l<i/\i<=k then gk p (i-1)else gk p i:=by
 rw[gk_q,getElem?_bubble hs _ (by omega),show k-(k-l)=l by omega,gk_q (i:=k),gk_q (i:=i-1),gk_q (i:=i)];split
 .rfl
 .split<;>rfl
section
variable {lt:Nat->Nat->Bool}(O:LtO lt){p:Array Nat}
include O
theorem LtO.irr(a:Nat):lt a a=false:=by
 cases h:lt a a with
 |false=>rfl
 |true=>have:=O.as a a h;rw[h]at this;cases this
theorem Up.succ{m:Nat}(h:Up lt p m)(hm:1<=m)(k:lt (gk p m) (gk p (m-1))=false):Up lt p (m+1):=λi j h1 h2=>by
 by_cases e:j<m
 .exact h i j h1 e
 .obtain rfl:j=m:=by omega
  by_cases e2:i=j
  .subst e2;exact O.irr _
  .exact O.tr _ _ _ (h i (j-1) (by omega) (by omega)) k
theorem Dn.succ{m:Nat}(h:Dn lt p m)(hm:1<=m)(k:lt (gk p (m-1)) (gk p m)=false):Dn lt p (m+1):=λi j h1 h2=>by
 by_cases e:j<m
 .exact h i j h1 e
 .obtain rfl:j=m:=by omega
  by_cases e2:i=j
  .subst e2;exact O.irr _
  .exact O.tr _ _ _ k (h i (j-1) (by omega) (by omega))
theorem pS(I:InP n p):∀(f m:Nat),1<=m->Up lt p m->Wt lt n (kas_asc p f m) λr=>m<=r/\r<=m+f/\Up lt p r/\(r=m+f\/lt (gk p r) (gk p (r-1))=true)
 |0,m,_,h=>⟨by omega,by omega,h,.inl rfl⟩
 |f+1,m,hm,h=>by
  refine⟨I _,I _,?_⟩;cases c:lt (gk p m) (gk p (m-1))with
  |true=>exact⟨by omega,by omega,h,.inr c⟩
  |false=>exact (pS I f (m+1) (by omega) (h.succ O hm c)).mono λr ⟨a,b,c,d⟩=>⟨by omega,by omega,c,d.imp (by omega) id⟩
theorem Dn.rev{m:Nat}(h:Dn lt p m)(hs:m<=p.size)(e:Eqv lt p i m):Dn lt (kas_rev p i m) m:=λa b h1 h2=>by
 rw[cA hs,cA hs]
 by_cases ha:i<=a
 .rw[if_pos ⟨ha,by omega⟩,if_pos ⟨by omega,h2⟩]
  exact e _ _ (by omega) (by omega) (by omega) (by omega)
 .rw[if_neg (by omega)]
  by_cases hb:i<=b
  .rw[if_pos ⟨hb,h2⟩];exact h _ _ (by omega) (by omega)
  .rw[if_neg (by omega)];exact h _ _ h1 h2
omit O in
theorem InP.rev{m:Nat}(h:InP n p)(hs:m<=p.size):InP n (kas_rev p i m):=λk=>by
 rw[cA hs];split<;>exact h _
theorem iu:∀(f:Nat)(p:Array Nat)(m q:Nat),InP n p->q+1<=m->m+f<=p.size->Dn lt p m->Eqv lt p (m-(q+1)) m->
  Wt lt n (kas_desc f p m q) λr=>r.1.size=p.size/\r.1.Perm p/\InP n r.1/\m<=r.2.1/\r.2.1<=m+f/\r.2.2+1<=r.2.1/\Dn lt r.1 r.2.1/\Eqv lt r.1 (r.2.1-(r.2.2+1)) r.2.1
 |0,p,m,q,I,h1,_,h,e=>⟨rfl,Array.Perm.refl _,I,nr0 _,nr0 _,h1,h,e⟩
 |f+1,p,m,q,I,h1,hs,h,e=>by
  refine⟨I _,I _,?_⟩;cases c:lt (gk p m) (gk p (m-1))with
  |true=>
   have c2:=O.as _ _ c;have one:∀p':Array Nat,Eqv lt p' (m+1-(0+1)) (m+1):=λp' i j a1 a2 b1 b2=>by
    obtain rfl:i=j:=by omega
    exact O.irr _
   show Wt lt n (if q>0 then _ else _) _
   by_cases hq:q>0
   .rw[if_pos hq]
    have hz:(kas_rev p (m-(q+1)) m).size=p.size:=kas_rev_size _ _;refine (iu f (kas_rev p (m-(q+1)) m) (m+1) 0 (I.rev (by omega)) (by omega) (by omega) ((h.rev O (by omega) e).succ O (by omega) ?_) (one _)).mono λr ⟨a,b,c,d,x,y⟩=>⟨a.trans hz,b.trans (mirror_perm ..),c,by omega,by omega,y⟩
    rw[cA (by omega),cA (by omega),if_pos (by omega),if_neg (by omega)];exact O.tr _ _ _ c2 (h _ _ (by omega) (by omega))
   .rw[if_neg hq]
    exact (iu f p (m+1) 0 I (by omega) (by omega) (h.succ O (by omega) c2) (one _)).mono λr ⟨a,b,c,d,x,y⟩=>⟨a,b,c,by omega,by omega,y⟩
  |false=>
   refine⟨I _,I _,?_⟩;cases d:lt (gk p (m-1)) (gk p m)with
   |true=>exact⟨rfl,Array.Perm.refl _,I,nr0 _,Nat.le_add_right ..,h1,h,e⟩
   |false=>
    refine (iu f p (m+1) (q+1) I (by omega) (by omega) (h.succ O (by omega) d) ?_).mono λr ⟨a,b,c,d,x,y⟩=>⟨a,b,c,by omega,by omega,y⟩
    intro i j a1 a2 b1 b2
    by_cases ei:i=m
    .by_cases ej:j=m
     .subst ei ej;exact O.irr _
     .subst ei;exact O.tr _ _ _ (e _ _ (by omega) (by omega) (by omega) (by omega)) c
    .by_cases ej:j=m
     .subst ej;exact O.tr _ _ _ d (e _ _ (by omega) (by omega) (by omega) (by omega))
     .exact e _ _ (by omega) (by omega) (by omega) (by omega)
def rf(lt:Nat->Nat->Bool)(n:Nat)(p:Array Nat)(N:Nat)(r:Nat×Array Nat):Prop:=r.2.size=p.size/\r.2.Perm p/\InP n r.2/\1<=r.1/\r.1<=N/\Up lt r.2 r.1
theorem wH{m N:Nat}(I:InP n p)(h1:1<=m)(hm:m<=N)(hN:N<=p.size)(h:Dn lt p m):Wt lt n (kas_tail3 m N p) (rf lt n p N):=by
 have u:Up lt (kas_rev p 0 m) m:=λi j a b=>by
  rw[cA (by omega),cA (by omega),if_pos (by omega),if_pos (by omega)];exact h _ _ (by omega) (by omega)
 have I':InP n (kas_rev p 0 m):=I.rev (by omega);exact Wt.bind ((pS O I' (N-m) m h1 u).mono λr ⟨a,b,c,_⟩=>⟨kas_rev_size _ _,mirror_perm ..,I',by show 1<=r;omega,by show r<=N;omega,c⟩)
theorem hZ{m N:Nat}(I:InP n p)(hm:m+1<=N)(hN:N<=p.size)(h:Dn lt p (m+1)):Wt lt n (kas_descPart m N p) (rf lt n p N):=by
 refine Wt.bind ((iu O (N-(m+1)) p (m+1) 0 I (by omega) (by omega) h λi j a1 a2 b1 b2=>(show i=j by omega)▸O.irr _).mono λr ⟨a,b,c,d,x,y,z,t⟩=>?_);have go:∀p',p'.size=p.size->p'.Perm p->InP n p'->Dn lt p' r.2.1->Wt lt n (kas_tail3 r.2.1 N p') (rf lt n p N):=λp' e1 e2 e3 e4=>(wH O e3 (by omega) (by omega) (by omega) e4).mono λq ⟨u1,u2,u3⟩=>⟨u1.trans e1,u2.trans e2,u3⟩
 split
 .exact go _ ((kas_rev_size _ _).trans a) ((mirror_perm ..).trans b) (c.rev (by omega)) (z.rev O (by omega) t)
 .exact go _ a b c z
theorem wI{N:Nat}(I:InP n p)(h1:1<=N)(hN:N<=p.size):Wt lt n (kas_count N p) (rf lt n p N):=by
 refine Wt.bind ((pS O I (N-1) 1 (nr0 _) λi j a b=>(show i=j by omega)▸O.irr _).mono λm ⟨a,b,c,d⟩=>?_)
 by_cases e:(m==N)=true
 .rw[if_pos e];exact⟨rfl,Array.Perm.refl _,I,a,by show m<=N;omega,c⟩
 .rw[if_neg e]
  have ne:m≠N:=λz=>e (by simp[z])
  have dd:lt (gk p m) (gk p (m-1))=true:=d.resolve_left (by omega);have d2:=O.as _ _ dd
  by_cases hm:m>1
  .rw[if_pos hm]
   refine⟨I _,I _,?_⟩;cases q:lt (gk p 0) (gk p (m-1))with
   |true=>exact⟨rfl,Array.Perm.refl _,I,a,by show m<=N;omega,c⟩
   |false=>
    have eq:∀i j,i<m->j<m->lt (gk p i) (gk p j)=false:=λi j hi hj=>O.tr _ _ _ (O.tr _ _ _ (c j (m-1) (by omega) (by omega)) q) (c 0 i (by omega) (by omega))
    have I':InP n (kas_rev p 0 m):=I.rev (by omega);have hz:(kas_rev p 0 m).size=p.size:=kas_rev_size _ _;have dn:Dn lt (kas_rev p 0 m) m:=λi j x y=>by
     rw[cA (by omega),cA (by omega),if_pos (by omega),if_pos (by omega)];exact eq _ _ (by omega) (by omega)
    refine (hZ O I' (by omega) (by omega) (dn.succ O (by omega) ?_)).mono λr ⟨u1,u2,u3⟩=>⟨u1.trans hz,u2.trans (mirror_perm ..),u3⟩
    rw[cA (by omega),cA (by omega),if_pos (by omega),if_neg (by omega)];exact O.tr _ _ _ d2 (eq _ _ (by omega) (by omega))
  .rw[if_neg hm]
   obtain rfl:m=1:=by omega
   exact hZ O I (by omega) (by omega) (Dn.succ O (λi j x y=>(show i=j by omega)▸O.irr _) (nr0 _) d2)
theorem jk{k:Nat}(I:InP n p)(u:Up lt p k):∀(f l r:Nat),r-l<=f->l<=r->r<=k->(∀i,i<l->lt (gk p k) (gk p i)=false)->(∀i,r<=i->i<k->lt (gk p k) (gk p i)=true)->
  Wt lt n (kas_place p k f l r) λm=>m<=k/\(∀i,i<m->lt (gk p k) (gk p i)=false)/\∀i,m<=i->i<k->lt (gk p k) (gk p i)=true
 |0,l,r,h,h1,h2,a,b=>⟨by omega,a,λi x y=>b i (by omega) y⟩
 |f+1,l,r,h,h1,h2,a,b=>by
  rw[kas_place]
  by_cases e:l≥r
  .rw[if_pos e];exact⟨by omega,a,λi x y=>b i (by omega) y⟩
  .rw[if_neg e]
   refine⟨I _,I _,?_⟩;cases c:lt (gk p k) (gk p ((l+r) / 2))with
   |true=>
    refine jk I u f l ((l+r) / 2) (by omega) (by omega) (by omega) a λi x y=>?_
    cases z:lt (gk p k) (gk p i)with
    |true=>rfl
    |false=>rw[O.tr _ _ _ (u _ i x y) z]at c;cases c
   |false=>
    exact jk I u f ((l+r) / 2+1) r (by omega) (by omega) h2 (λi x=>O.tr _ _ _ (u i ((l+r) / 2) (by omega) (by omega)) c) b
theorem wJ:∀(f:Nat)(p:Array Nat)(k:Nat),InP n p->k+f<=p.size->Up lt p k->Wt lt n (kas_bin f p k) λr=>r.size=p.size/\r.Perm p/\Up lt r (k+f)
 |0,p,k,I,_,u=>⟨rfl,Array.Perm.refl _,u⟩
 |f+1,p,k,I,hs,u=>by
  refine Wt.bind ((jk O I u k 0 k (by omega) (by omega) (by omega) nofun λi x y=>by omega).mono λl ⟨hl,a,b⟩=>?_);have hz:=bubble_size p k (k-l);have G:=λi=>Eg (p:=p) (k:=k) (by omega) hl i
  refine (wJ f _ (k+1) (λi=>by
                      rw[G];split;·exact I _
                      split<;>exact I _) (by omega) λi j x y=>?_).mono λr ⟨u1,u2,u3⟩=>⟨u1.trans hz,u2.trans (bubble_perm ..),by rw[show k+(f+1)=k+1+f by omega];exact u3⟩
  rw[G,G]
  by_cases i1:i=l
  .rw[if_pos i1]
   by_cases j1:j=l
   .rw[if_pos j1];exact O.irr _
   .rw[if_neg j1,if_pos (by omega)];exact O.as _ _ (b _ (by omega) (by omega))
  .rw[if_neg i1]
   by_cases j1:j=l
   .rw[if_pos j1,if_neg (by omega)];exact a _ (by omega)
   .rw[if_neg j1]
    by_cases i2:l<i/\i<=k
    .rw[if_pos i2,if_pos (by omega)];exact u _ _ (by omega) (by omega)
    .rw[if_neg i2]
     by_cases j2:l<j/\j<=k
     .rw[if_pos j2];exact u _ _ (by omega) (by omega)
     .rw[if_neg j2];exact u _ _ (by omega) (by omega)
theorem Ag(hn:1<=n):Wt lt n (kas_sort n) λp=>p.size=n/\p.toList.Perm (List.range n)/\Up lt p n:=by
 have hz:(List.toArray (List.range n)).size=n:=by simp
 have I:InP n (List.toArray (List.range n)):=λi=>by
  rw[gk_q]
  by_cases h:i<n
  .simp[h]
  .simp[h];omega
 refine Wt.bind ((wI O I hn (by omega)).mono λr ⟨a,b,c,d,e,f⟩=>?_);have pm:∀q:Array Nat,q.Perm (List.toArray (List.range n))->q.toList.Perm (List.range n):=λq h=>by simpa using h.toList
 split
 .refine (wJ O (n-max r.1 1) r.2 (max r.1 1) c (by omega) (by rw[show max r.1 1=r.1 by omega];exact f)).mono λq ⟨x,y,z⟩=>⟨by omega,pm _ (y.trans b),by rw[show max r.1 1+(n-max r.1 1)=n by omega]at z;exact z⟩
 .exact⟨by omega,pm _ b,by rw[show n=r.1 by omega];exact f⟩
end
end L2.Z
namespace L2.Z
open PySem PySem.W PySem.Calls PyProof.Rows
theorem Wt.kas{lt:Nat->Nat->Bool}{cmp:Nat->Nat->(Bool->Shared->Prop)->Shared->Prop}(hc:∀i j,i<n->j<n->∀C:Bool->Shared->Prop,C (lt i j) s->cmp i j C s){Q:α->Shared->Prop}:∀{t:KasT α},Wt lt n t (λa=>Q a s)->t.kasWp cmp Q s
 |.ret _,h=>h
 |.ask i j _,⟨h1,h2,h⟩=>hc i j h1 h2 _ (Wt.kas hc h)
section
variable {A:Around}{E:Value->Shared->Prop}
noncomputable abbrev byP(vs:List Value)(p:List Nat):List Value:=p.map λi=>vs.getD i .none
def tS(vs:List Value):byP vs (List.range vs.length)=vs:=by
 apply List.ext_getElem (by simp)
 intro i h1 h2;simp[h2]
def eL(lt:Nat->Nat->Bool)(n:Nat)(p:List Nat):Prop:=p.Perm (List.range n)/\∀i j,i<=j->j<n->lt (p.getD j 0) (p.getD i 0)=false
def jP{lt:Nat->Nat->Bool}(O:LtO lt){J:SortKind}{a:Addr}{vs:List Value}{P:PySem.Fin->Shared->Prop}(ho:s.heap.get? a=some (seqObj "list" vs.toArray n))(h64:vs.length<64)
  (hk:2<=vs.length->∀h',(∀b o,b≠a->s.heap.get? b=some o->h'.get? b=some o)->∀R:SortKind->Shared->Prop,R J {s with heap:=h'}->wpAny (model prog w) A (keyKind' vs.toArray) R E {s with heap:=h'})
  (hc:∀h',(∀b o,b≠a->s.heap.get? b=some o->h'.get? b=some o)->∀i j,i<vs.length->j<vs.length->∀R:Bool->Shared->Prop,R (lt i j) {s with heap:=h'}->wpAny (model prog w) A (keyLt' J (vs.getD i .none) (vs.getD j .none)) R (λc c=>False) {s with heap:=h'})
  (h:∀p,eL lt vs.length p->P (.done (.ret .none)) {s with heap:=sortedHeap s.heap a vs (byP vs p).toArray}):
  wpAny (model prog w) A (Builtin.«list.sort» ⟨[.ref a],[]⟩) P E s:=by
 rw[list_sort_plain];have ha:a<s.heap.objs.size:=hs0 ho;refine wb0 (listItems_at ho rfl ?_);refine wb0 (listUpdate_at ho rfl ?_ (by rw[ls0,sizeLine_eq];omega) (Nat.zero_le _));obtain⟨e1,ho1⟩:∃e1,(s.heap.update a (Obj.mapSeq λc=>#[])).get? a=some (seqObj "list" #[] e1):=⟨_,get?_update_seq ho (λc=>#[])⟩;refine wb0 (seqEpoch_at ho1 rfl ?_);refine wb0 (wpAny_newTuple ?_ (by show vs.length<=_;rw[sizeLine_eq];omega));refine wb0 (wpAny_newList ?_ (Nat.zero_le _));refine wh0 ?_;have ho6:(((s.heap.update a (Obj.mapSeq λc=>#[])).push (seqObj "tuple" vs.toArray 0)).push (seqObj "list" #[] 0)).get? a=some (seqObj "list" #[] e1):=by
  rw[Heap.get?_push_ne _ _ _ (by rw[size_push',Heap.size_update];exact nn0 (Nat.lt_succ_of_lt ha)),Heap.get?_push_ne _ _ _ (by rw[Heap.size_update];exact nn0 ha)];exact ho1
 have kp:∀b o,b≠a->s.heap.get? b=some o->(((s.heap.update a (Obj.mapSeq λc=>#[])).push (seqObj "tuple" vs.toArray 0)).push (seqObj "list" #[] 0)).get? b=some o:=λb o hb e=>by
  refine ps0 _ (ps0 _ ?_);rw[Heap.get?_update_ne _ _ _ _ hb];exact e
 show wpAny (model prog w) A _ P E {s with heap:=((s.heap.update a (Obj.mapSeq λc=>#[])).push (seqObj "tuple" vs.toArray 0)).push (seqObj "list" #[] 0)};dsimp only;have hsz:vs.toArray.size=vs.length:=by simp
 by_cases h2:vs.toArray.size<2
 .rw[if_pos h2,if_pos h2]
  refine wb0 (wq0 ?_);rw[StateT.run_pure];refine wb0 (wq0 ?_);dsimp only;refine wb0 (seqEpoch_at ho6 rfl ?_);refine wb0 (listUpdate_at ho6 rfl ?_ (hsz2:=by rw[Array.size_map];show (pairsOf vs).size<=_;rw[pairsOf_size,sizeLine_eq];omega));simp only[bne_self_eq_false,Bool.false_eq_true,if_false];have q:=h (List.range vs.length) ⟨.refl _,λi j a b=>by
   have:i=0:=by omega
   have:j=0:=by omega
   subst i j;exact O.irr _⟩
  rw[tS]at q;refine wq0 ?_;have e:(arrOf (SortSt.mk' general' (vs.toArray.zip vs.toArray) #[] 7 none)).map (·.2)=vs.toArray:=by
   show (vs.toArray.zip vs.toArray).map (·.2)=_
   apply Array.toList_inj.mp;simp;exact List.map_snd_zip (nr0 _)
  show P _ {s with heap:=sortedHeap s.heap a vs ((arrOf (SortSt.mk' general' (vs.toArray.zip vs.toArray) #[] 7 none)).map (·.2))};rw[e];exact q
 .rw[if_neg h2,if_neg h2]
  have h2':2<=vs.length:=by omega
  refine wb0 (hk h2' _ kp _ ?_);have ok:=(Ag O (n:=vs.length) (by omega));refine wb0 (wpAny_mono (kat_run (Q:=λst' s'=>s'={s with heap:=((s.heap.update a (Obj.mapSeq λc=>#[])).push (seqObj "tuple" vs.toArray 0)).push (seqObj "list" #[] 0)}/\∃p:Array Nat,arrOf st'=p.map (kas_item (vs.toArray.zip vs.toArray))/\failedOf st'=none/\eL lt vs.length p.toList/\p.size=vs.length)
   (G:=λp s'=>s'={s with heap:=((s.heap.update a (Obj.mapSeq λc=>#[])).push (seqObj "tuple" vs.toArray 0)).push (seqObj "list" #[] 0)}/\eL lt vs.length p.toList) rfl h2' h64 (λp' st' s' a1 a2 a3 a4=>⟨a4.1,p',a2,a3,a4.2,a1⟩)
   (Wt.kas (λi j hi hj C q=>hc _ kp i j hi hj C q) (ok.mono λp q=>⟨rfl,q.2.1,λi j x y=>by have:=q.2.2 i j x y;simpa [gk]using this⟩))) ?_ λc c e=>e)
  rintro ⟨⟨⟩,st'⟩ s' ⟨rfl,p,har,hf,hp,hz⟩
  dsimp only;have hout:=kat_snds (vs:=vs) rfl har;refine wb0 (seqEpoch_at ho6 rfl ?_);rw[hout];refine wb0 (listUpdate_at ho6 rfl ?_ (hsz2:=by rw[ls0,lm0,al0,hz,sizeLine_eq];omega));rw[hf];simp only[bne_self_eq_false,Bool.false_eq_true,if_false];exact wq0 (h p.toList hp)
end
section
variable {A:Around}{E:Value->Shared->Prop}
def tT(h:Heap)(q:Str×Int)(v:Value):Prop:=∃a o xs n t u,v=.ref a/\h.get? a=some o/\o.cls=.type "tuple"/\o.data=.seq xs n/\xs=#[.str q.1 t,.int q.2 u]
noncomputable def ltP(p q:Str×Int):Bool:=if p.1=q.1 then decide (p.2<q.2)else decide (p.1.cps.toList<q.1.cps.toList)
def HH{p q:Str×Int}{x y:Value}{Q:Bool->Shared->Prop}(hx:tT s.heap p x)(hy:tT s.heap q y)(h:Q (ltP p q) s):wpAny (model prog w) A (keyLt' (tuples' true) x y) Q E s:=by
 obtain⟨a,o,xs,n,t,u,rfl,a1,a2,a3,rfl⟩:=hx;obtain⟨b,o',ys,n',t',u',rfl,b1,b2,b3,rfl⟩:=hy;refine kat_lt a1 a3 b1 b3 ?_;show KatLex prog w A true _ Q [(.str p.1 t,.str q.1 t'),(.int p.2 u,.int q.2 u')] 0 s;refine kat_cons (wpAny_eqBool_str ?_)
 by_cases e:p.1=q.1
 .rw[dt0 e]
  refine kat_yes (kat_cons (wpAny_eqBool_int ?_))
  by_cases e2:p.2=q.2
  .rw[show (p.2==q.2)=true by simp[e2]]
   refine kat_yes (kat_nil ?_);have:ltP p q=false:=by simp[ltP,e,e2]
   rw[this]at h;exact h
  .rw[show (p.2==q.2)=false by simp[e2]]
   refine kat_no (kat_one _ _ (PySem.wpAny_lt_int ?_));have:ltP p q=decide (p.2<q.2):=by simp[ltP,e]
   rw[this]at h;exact h
 .rw[df0 e]
  refine kat_no ?_;have:ltP p q=decide (p.1.cps.toList<q.1.cps.toList):=by simp[ltP,e]
  rw[this]at h;exact oneLt_str h
noncomputable def PrsAre(h:Heap):List (Str×Int)->List Value->Prop
 |[],[]=>True
 |p::ps,v::vs=>tT h p v/\PrsAre h ps vs
 |_,_=>False
theorem PrsAre.firsts :∀{ps:List (Str×Int)}{vs:List Value},PrsAre h ps vs->∃fs,KatTups h vs fs/\fs.length=ps.length/\∀v∈fs,∃x t,v=.str x t
 |[],[],_=>⟨[],trivial,rfl,nofun⟩
 |_::_,_::_,⟨a,r⟩=>by
  obtain⟨fs,k1,k2,k3⟩:=r.firsts;obtain⟨a,o,xs,n,t,u,rfl,a1,a2,a3,rfl⟩:=a;exact⟨_::fs,.cons a1 a2 a3 rfl k1,by simp[k2],λv hv=>by
   rcases mq0 hv with rfl|hv
   .exact⟨_,_,rfl⟩
   .exact k3 v hv⟩
 |[],_::_,r=>r.elim
 |_::_,[],r=>r.elim
def Ah{ps:List (Str×Int)}{vs:List Value}{R:SortKind->Shared->Prop}(hp:PrsAre s.heap ps vs)(h0:0<ps.length)(h:R (tuples' true) s):wpAny (model prog w) A (keyKind' vs.toArray) R E s:=by
 obtain⟨fs,k1,k2,k3⟩:=hp.firsts;refine kat_kind (T:=.type "str") k1 (by omega) (λv hv=>?_) rfl h;obtain⟨x,t,rfl⟩:=k3 v hv;exact .now
def Ai(f:Nat->Str×Int):LtO λi j=>ltP (f i) (f j):=by
 have irr:∀l:List Nat,¬ l<l:=λl=>List.lt_irrefl l
 constructor
 .intro a b h
  simp only[ltP]at h ⊢
  by_cases e:(f a).1=(f b).1
  .rw[if_pos e]at h;rw[if_pos e.symm];simp at h ⊢;omega
  .rw[if_neg e]at h;rw[if_neg (Ne.symm e)];simp at h ⊢
   exact Std.le_of_lt h
 .intro a b c h1 h2
  simp only[ltP]at h1 h2 ⊢;have ext:∀{x y:Str},x.cps.toList=y.cps.toList->x=y:=λ{x y} h=>by
   cases x;cases y;congr 1;exact Array.toList_inj.mp h
  by_cases e1:(f b).1=(f a).1
  .rw[if_pos e1]at h1
   by_cases e2:(f c).1=(f b).1
   .rw[if_pos e2]at h2;rw[if_pos (e2.trans e1)];simp at h1 h2 ⊢;omega
   .rw[if_neg e2]at h2;rw[if_neg (λz=>e2 (z.trans e1.symm))];rw[e1]at h2;exact h2
  .rw[if_neg e1]at h1
   by_cases e2:(f c).1=(f b).1
   .rw[e2,if_neg e1];exact h1
   .rw[if_neg e2]at h2
    have l1:(f a).1.cps.toList<=(f b).1.cps.toList:=of_decide_eq_false h1;have l2:(f b).1.cps.toList<=(f c).1.cps.toList:=of_decide_eq_false h2
    by_cases e3:(f c).1=(f a).1
    .rw[e3]at l2
     exact absurd (ext (List.le_antisymm l2 l1)) e1
    .rw[if_neg e3]
     exact df0 (List.le_trans l1 l2)
end
end L2.Z
namespace L2.Z
open PySem PySem.Spec PyProof.Rows L2 L2.C SI
section
variable {e:Expr}{p:Pos}{dk:D}{kvs:List (Key×D)}
def BS(hb:attributeBase o m X.env (eval o X.env)=eval o X.env)(hs:isStar a=false)(hl:(apos.endLine==pos.line)=true):M1 X o m apos a pos:=by
 have hS:=af (es:=[]) (env:=X.env) hs;exact⟨hb,by rw[hS];rfl,hl,by rw[hS];rfl⟩
def tU(hu:X.A.units+1<cLine)(ho:Er X Y o (.dict kvs))(ha:Ev X Y a dk)(hk:fq dk=some key)(hs:isStar a=false)(hsup:aJ o=false)(hl:(apos.endLine==pos.line)=true):Ev X Y (.Call (.Attribute o "get" apos) [a] [] pos) ((look kvs key).getD .none):=by
 intro pins s σ H Q I h0;obtain⟨G0,H0,G,E,k⟩:=h0;refine uZ hu ho ha (BS (base_of hsup) hs hl) pins s σ H Q I ⟨G0,H0,G,E,λv G1 H1 e1 r1=>?_⟩;obtain⟨q,ws,rfl,h1,d1⟩:=r1.dct e1.gh;refine⟨q,rfl,.inl ⟨ws,.inl h1⟩,G0,H0,G1,E.step e1,λw G2 H2 e2 r2=>⟨bw ws key,by rw[bo (.of (H:=H2) r2) hk];exact DGet.k (e2.hh _ _ h1),k _ G2 H2 (e1.trans e2) ?_⟩⟩;rcases (d1.mono e2.gg).look (k:=key)with⟨z1,z2⟩|⟨d,v,z1,z2,z3⟩
 .rw[z1,z2];exact .none
 .rw[z1,z2];exact z3
theorem Dks.drop{G:Hp}{k:Key}:∀{ds:List (Key×D)}{vs:List (Key×V)},Dks K G ds vs->Dks K G (dI ds k) (cu vs k)
 |_,_,.nil=>.nil
 |_,_,.cons (k:=j) h r=>by
  have:=Dks.drop (k:=k) r;unfold dI cu at this ⊢
  by_cases e:j=k
  .rw[List.filter_cons_of_neg (by simp[e]),List.filter_cons_of_neg (by simp[e])];exact this
  .rw[List.filter_cons_of_pos (by simp[e]),List.filter_cons_of_pos (by simp[e])];exact .cons h this
def Aj(V:VarOk X x i)(h:Ev X Y a dk)(hk:fq dk=some key)(hs:isStar a=false)(ho:Y[i]?=some (.own (.dict kvs)))(hd:(look kvs key).isSome=true)(hl:(apos.endLine==cpos.line)=true):
  E1 X Y (.Expr (.Call (.Attribute (.Name x p1) "pop" apos) [a] [] cpos) pos) (.nx (Y.set i (.own (.dict (dI kvs key))))):=by
 intro pins s σ H F I h0;obtain⟨G0,H0,G,env,R⟩:=h0;obtain⟨q,vs,b,c,g⟩:=fL env ho;refine eD (vd V.pe h (BS gJ hs hl)) rfl pins s σ H F I ⟨.ref q,b,q,rfl,.inl ⟨vs,.inl c⟩,G0,H0,G,env,λw G1 H1 e1 r=>?_⟩;have g1:=g.mono e1.gg;rcases g1.look (k:=key)with⟨z1,_⟩|⟨d,v,z1,z2,_⟩
 .rw[z1]at hd;cases hd
 .exact⟨vs,key,v,e1.hh _ _ c,bo (.of (H:=H1) r) hk,z2,R G1 _ _ ((env.step e1).change ho b (.inr ⟨_,_,rfl,ae,g1.drop⟩)) e1.gg⟩
def HI{f:Expr}(hb:attributeBase o m X.env (eval o X.env)=eval o X.env)(hs:isStar a=false)(hf:isStar f=false)(hl:(apos.endLine==pos.line)=true):M2 X o m apos a f pos:=by
 have hS:=af (es:=[f]) (env:=X.env) hs;have hT:=af (es:=[]) (env:=X.env) hf;exact⟨hb,by rw[hS,hT];rfl,hl,by rw[hS,hT];rfl⟩
def iN{kvs:List (Key×V)}(h:bw kvs key=none):cu kvs key=kvs:=by
 unfold cu;refine List.filter_eq_self.mpr λkv hk=>?_
 refine dt0 λe=>?_
 unfold bw at h;rw[Option.map_eq_none_iff,List.find?_eq_none]at h;exact h kv hk (by simpa using e)
def wK{f:Expr}(V:VarOk X x i)(h:Ev X Y a dk)(hf:∀Y,Ev X Y f .none)(hk:fq dk=some key)(hs:isStar a=false)(hs':isStar f=false)(ho:Y[i]?=some (.own (.dict kvs)))(hl:(apos.endLine==cpos.line)=true):
  E1 X Y (.Expr (.Call (.Attribute (.Name x p1) "pop" apos) [a,f] [] cpos) pos) (.nx (Y.set i (.own (.dict (dI kvs key))))):=by
 intro pins s σ H F I h0;obtain⟨G0,H0,G,env,R⟩:=h0;obtain⟨q,vs,b,c,g⟩:=fL env ho;refine eD (ve V.pe h (hf Y) (HI gJ hs hs' hl)) rfl pins s σ H F I ⟨.ref q,b,q,rfl,.inl ⟨vs,.inl c⟩,G0,H0,G,env,λw G1 H1 e1 r=>?_⟩;refine⟨G0,H0,G1,env.step e1,λw2 G2 H2 e2 r2=>?_⟩;have e3:=e1.trans e2;have g1:=g.mono e3.gg;have hc:=e3.hh _ _ c;have R2:=R G2 _ _ ((env.step e3).change ho b (.inr ⟨_,_,rfl,ae,g1.drop (k:=key)⟩)) e3.gg;refine⟨vs,key,hc,bo (.of (H:=H1) r) hk,λv z=>R2,λz=>?_⟩;rw[iN z,show upd H2 q (.dK vs)=H2 from funext λb=>by by_cases e:b=q<;>simp[upd,e,hc]]at R2
 exact R2
end
section
variable {p q:Pos}
def tV{v:Value}(h:gT (.inr x) v=true):∃t,v=.str x t:=by
 cases v<;>simp[gT,Value.isStrOf]at h<;>simp_all
theorem rg:∀{vs:List Value}{ns:List Str},vs.length=ns.length->(∀(j:Nat)(v:Value)(i:Str),vs[j]?=some v->ns[j]?=some i->∃t,v=.str i t)->StrsAre vs ns
 |[],[],_,_=>.nil
 |v::vs,i::ns,hl,h=>by
  obtain⟨t,rfl⟩:=h 0 v i rfl rfl;exact .cons _ _ (rg (by simpa using hl) λj v i a b=>h (j+1) v i (by simpa using a) (by simpa using b))
 |[],_::_,hl,_=>by cases hl
 |_::_,[],hl,_=>by cases hl
def pT(hc:X.calm=true):ba X (.type "list") (λxs H Q=>∃(l:Addr)(ws:List (Key×V))(ss:List Str),xs=[.ref l]/\H l=some (.dK ws)/\ws.map (·.1)=ss.map .inr/\ss.length<64/\∀r,H r=none->Q (.ref r) (upd H r (.lst (ss.map V.str)))):=by
 intro pins s σ H xs us Q I r h;obtain⟨l,ws,ss,rfl,hl,hk,hz,k⟩:=h;obtain⟨u,rfl,rx⟩:=vals1 r;cases rx;obtain⟨_,lo,vs,kv,hD⟩:=(show ObjOk X.prog X.w H s.heap l (.dK ws)from I.hok l _ hl);obtain⟨ep,hat⟩:=hD.dictAt;have hk:=kv.keys.symm.trans hk;have kl:vs.length=ss.length:=by simpa using congrArg List.length hk
 refine PySem.W.kdl_call (PySem.W.kdl_dict (prog:=X.prog) (w:=X.w) (knd:=av X.prog X.w) (kvs:=vs) (ep:=ep) lo) (I.ok.hd hc) hat (by rw[kl,sizeLine_eq];omega) λh' tk acc c kk gD hacc=>?_
 have hl2:acc.toList.length=ss.length:=by rw[al0,hacc.1,kl]
 refine⟨.ref s.heap.objs.size,_,I.laid (t':=tk) kk (nr0 _) (show ObjOk X.prog X.w _ _ _ (.lst (ss.map V.str))from⟨by rw[lm0,sizeLine_eq];omega,acc.toList,c,?_,by simpa using gD⟩),rfl,k _ (I.hok.fresh (nr0 _))⟩;refine bV (rg hl2 λj v x a b=>?_);obtain⟨k,y,e1,e2⟩:=hacc.2 j v (by simpa using a);have e3:=congrArg (·[j]?) hk;simp[e1,b]at e3;subst e3;exact tV e2
def lF:ba X (.builtin "sorted") (λxs H Q=>∃(l:Addr)(ss:List Str),xs=[.ref l]/\SqL X.K H l (ss.map V.str)/\ss.length<64/\∀r (ms:List Str),H r=none->ms.Perm ss->sortedS ms=true->Q (.ref r) (upd H r (.lst (ms.map .str)))):=by
 intro pins s σ H xs us Q I r h;obtain⟨l,ns,rfl,hl,hz,k⟩:=h;obtain⟨u,rfl,rx⟩:=vals1 r;cases rx;obtain⟨its,rv,hL,_⟩:=I.list hl;have il:its.length=ns.length:=by rw[<-rv.length];simp
 refine PyProof.Rows.sorted_strs hL.isList (dy rv) (by omega) λout ms a1 a2 a3=>?_
 obtain⟨e,gD⟩:=PyProof.Rows.sortedAll_at s.heap its out;have kk:∀b o,s.heap.get? b=some o->(PyProof.Rows.sortedAll s.heap its out).get? b=some o:=λb o q=>PyProof.Rows.sortedAll_old q
 have fr:s.heap.objs.size<=s.heap.objs.size+1:=Nat.le_succ _;have hlen:(ms.map V.str).length<=sizeLine:=by
  rw[lm0,a2.length_eq,sizeLine_eq];omega
 exact⟨.ref _,_,(I.laid (t':=s.toks) kk fr (show ObjOk X.prog X.w _ _ _ (.lst _)from⟨hlen,out.toList,e,bV a1,by simpa using gD⟩)),rfl,k _ ms (I.hok.fresh fr) a2 a3⟩
theorem nE:∀{kvs:List (Key×D)}{ss:List Str},fK kvs=some ss->kvs.map (·.1)=ss.map .inr/\∀x∈ss,PyData.strOk x=true
 |[],_,h=>by cases h;exact⟨rfl,nofun⟩
 |(.inr x,_)::r,_,h=>by
  have h:(if cv x then (fK r).map (x::·)else .none)=some _:=h;split at h
  .obtain⟨ns,h1,rfl⟩:=mx0 h
   obtain⟨a,b⟩:=nE h1;exact⟨by rw[mk0,mk0,a],λy hy=>(mq0 hy).elim (λe=>by subst e;exact fU ‹_›) (b y)⟩
  .cases h
 |(.inl _,_)::_,_,h=>by cases h
def pU(hcalm:X.calm=true)(B1:Blt X "sorted")(B2:Blt X "list")(h:biD .srtk ds=some d)(ha:Ea X Y fl3 [a] ds)(hs:isStar a=false):Ev X Y (.Call (.Name "sorted" p) [.Call (.Name "list" p2) [a] [] q] [] pos) d:=by
 match ds,h with
 |[.dict kvs],h=>
  obtain⟨ss,h1,h⟩:=bx0 (show (fK kvs).bind _=some d from h)
  by_cases hz:ss.length<64/\ss.Nodup
  .rw[if_pos hz]at h
   cases h;obtain⟨hz,nd⟩:=hz;obtain⟨h1,oks⟩:=nE h1;intro pins s σ H Q I h0;obtain⟨G0,H0,G,E,k⟩:=h0;refine cq lF B1.g B1.m du (aD (eE (pT hcalm) B2.g B2.m PyProof.Rows.boot_list ha B2.n B2.d (af hs) rfl) bz rfl) B1.n B1.d rfl rfl pins s σ H Q I ?_;refine⟨G0,H0,G,E,λvs G1 H1 e1 r1=>?_⟩;obtain⟨v,rfl,hv⟩:=r1.one;obtain⟨r,ws,rfl,h3,h4⟩:=hv.dct e1.gh;refine⟨r,ws,ss,rfl,h3,h4.keys.symm.trans h1,hz,λl hl=>?_⟩;have e2:Ext G1 H1 G1 (upd H1 l (.lst (ss.map V.str))):=.hid e1.gh hl;refine⟨l,ss,rfl,SqL.of ae,hz,λr2 ms hr2 pe so=>?_⟩
   have e:ms=srtS ss:=fR (qV so (pe.nodup_iff.mpr nd)) (cj ss) λy=>pe.mem_iff.trans (bM ss y).symm
   subst e;exact k _ _ _ (e1.trans (e2.trans (.laid e2.gh hr2))) (.list ae ((pN λx hx=>oks x ((bM ss x).mp hx)).mono (Same.refl _)))
  .rw[if_neg hz]at h;cases h
end
section
variable {A:Around}{E:Value->Shared->Prop}
def jQ{v d:Addr}{kvs:List (Key×Value)}{R:List Value->Shared->Prop}(hh:A.handled=none)(hv:s.heap.IsItemsView v d)(hm:s.heap.DictAt (av prog w) d kvs ep)(hn:kvs.length<=sizeLine)
  (h:∀h' tk (as:List Addr),s.heap.objs.size<=h'.objs.size->(∀b o,s.heap.get? b=some o->h'.get? b=some o)->as.length=kvs.length->PySem.W.KdxG (av prog w) kvs s.heap.objs.size h' as->R (as.map Value.ref) {s with heap:=h',toks:=tk}):wpAny (model prog w) A (collect (.ref v)) R E s:=by
 have lv:v<s.heap.objs.size:=let ⟨_,q,_⟩:=hv;hs0 q
 have ld:d<s.heap.objs.size:=hm.lt_size;unfold collect;refine wb0 (wpAny_runValue (codeAny_builtin entry_proto_collect' ?_));rw[ui0 PySem.F.plain_proto_collect];show wpAny _ A.in1 (newList [] >>= λl=>again (.builtin "list.__iadd__" ⟨[l,.ref v],[]⟩)) _ _ s;refine wb0 (wpAny_newObj_type (wq0 ⟨plainId_quiet PySem.F.plain_list_iadd _,codeAny_builtin entry_list_iadd' ?_⟩));rw[ui0 PySem.F.plain_list_iadd];have hL:(s.heap.push {cls:=.type "list",data:=.seq ([]:List Value).toArray}).get? s.heap.objs.size=some {cls:=.type "list",data:=.seq #[]}:=pz0 _ rfl;show wpAny _ A.in1 (Builtin.List.listExtendWith (.ref s.heap.objs.size) (.ref v) (.ref s.heap.objs.size)) _ _ _
 refine wpAny_mono (PySem.W.kdx_extend (A:=A) (s:={s with heap:=s.heap.push {cls:=.type "list",data:=.seq ([]:List Value).toArray}})
  (R:=λ(q:Result) (s':Shared)=>∃(h':Heap)(tk:Nat)(acc:Array Value)(c:Nat)(as:List Addr),q=.ok (.ret (.ref s.heap.objs.size))/\s'={s with heap:=h',toks:=tk}/\(∀b o,s.heap.get? b=some o->h'.get? b=some o)/\h'.get? s.heap.objs.size=some {cls:=.type "list",dict:=none,data:=.seq acc c,slots:=#[]}/\as.length=kvs.length/\PySem.W.KdxG (av prog w) kvs s.heap.objs.size h' as/\acc.toList=as.map Value.ref)
  hh (let ⟨o,q,z⟩:=hv;⟨o,ps0 _ q,z⟩) (hm.push _) s.heap.objs.size (Nat.ne_of_gt lv) (nn0 ld) (.ref s.heap.objs.size) 0 hL (λh' tk acc c as a2 a3 a4 a5 a6=>⟨h',tk,acc,c,as,rfl,rfl,λb o e=>a2 b o (nn0 (hs0 e)) (ps0 _ e),a3,a4,a5.low (by rw[Heap.size_push];exact Nat.le_succ _),a6⟩) hn) (λfin s' x=>?_) λe s' x=>?_
 .cases fin with
  |done f=>
   obtain⟨h',tk,acc,c,as,e,rfl,a2,a3,a4,a5,a6⟩:=x;cases e;show wpAny (model prog w) A (load s.heap.objs.size >>= _) _ _ _;refine wb0 (wpAny_load a3 (wq0 ?_));show R acc.toList _;rw[a6];exact h h' tk as (Nat.le_of_lt (hs0 a3)) a2 a4 a5
  |again c1=>
   refine⟨x.1,codeAny_mono x.2 λq s2 y=>?_⟩;obtain⟨h',tk,acc,c,as,rfl,rfl,a2,a3,a4,a5,a6⟩:=y;show wpAny (model prog w) A (load s.heap.objs.size >>= _) _ _ _;refine wb0 (wpAny_load a3 (wq0 ?_));show R acc.toList _;rw[a6];exact h h' tk as (Nat.le_of_lt (hs0 a3)) a2 a4 a5
 .obtain⟨_,_,_,_,_,z,_⟩:=x
  cases z
def lG{v d:Addr}{kvs:List (Key×Value)}{ps:List (Str×Int)}(hh:A.handled=none)(hv:s.heap.IsItemsView v d)(hm:s.heap.DictAt (av prog w) d kvs ep)(hl:kvs.length=ps.length)
  (hp:∀(j:Nat)(q:Str×Int),ps[j]?=some q->∃t,kvs[j]?=some (.inr q.1,.int q.2 t)) (h64:ps.length<64)
  (h:∀h' tk D n (as:List Addr) (p:List Nat),(∀b o,s.heap.get? b=some o->h'.get? b=some o)->as.length=ps.length->as.Nodup->(∀a∈as,s.heap.objs.size<=a)->(∀(j:Nat)(q:Str×Int) a,ps[j]?=some q->as[j]?=some a->tT h' q (.ref a))->
   h'.get? D=some (seqObj "list" (byP (as.map Value.ref) p).toArray n)->s.heap.objs.size<=D->D∉as->eL (λi j=>ltP (ps.getD i (Str.empty,0)) (ps.getD j (Str.empty,0))) ps.length p->Q (.ref D) {s with heap:=h',toks:=tk}):
  wpAny (model prog w) A (call (.builtin "sorted") [.ref v]) Q E s:=by
 refine Calls.call_function_entry kind_sorted plain_sorted entry_sorted (args_sorted1 _) ?_;unfold Builtin.«sorted»;refine wb0 (m:=checkCount "sorted" 1 1 _) (wq0 (wb0 (jQ (A:=A.in1) hh hv hm (by rw[hl,sizeLine_eq];omega) λh1 tk as sz k1 la0 hG=>?_)));have la:as.length=ps.length:=la0.trans hl;clear la0;refine wb0 (wpAny_newList ?_ (by rw[lm0,la,sizeLine_eq];omega));have gD:(h1.push {cls:=.type "list",data:=.seq (as.map Value.ref).toArray}).get? h1.objs.size=some (seqObj "list" (as.map Value.ref).toArray 0):=pz0 _ rfl;have pr:∀(h2:Heap),(∀b o,h1.get? b=some o->h2.get? b=some o)->∀(j:Nat)(q:Str×Int) a,ps[j]?=some q->as[j]?=some a->tT h2 q (.ref a):=λh2 kk j q a e1 e2=>by
  obtain⟨key,k,x,f1,f2,f3⟩:=hG.pairs j a e2;obtain⟨t,f4⟩:=hp j q e1;rw[f4]at f1;cases f1;obtain⟨t2,rfl⟩:∃t2,key=.str q.1 t2:=by
   rcases keyIs_shape (k:=.inr q.1) (v:=key) f2 with⟨i,t',z,_⟩|⟨y,t',z,rfl⟩
   .cases z
   .cases z;exact⟨t',rfl⟩
  exact⟨a,_,_,_,t2,t,rfl,kk _ _ f3,rfl,rfl,rfl⟩
 have pa:∀(h2:Heap),(∀b o,h1.get? b=some o->h2.get? b=some o)->∀i,i<ps.length->tT h2 (ps.getD i (Str.empty,0)) ((as.map Value.ref).getD i .none):=λh2 kk i hi=>by
  have:=pr h2 kk i ps[i] (as[i]'(by omega)) (ge0 _) (ge0 _)
  simpa [List.getD,hi,show i<as.length by omega]using this
 have kL:∀{h2:Heap},(∀b o,b≠h1.objs.size->(h1.push {cls:=.type "list",data:=.seq (as.map Value.ref).toArray}).get? b=some o->h2.get? b=some o)->∀b o,h1.get? b=some o->h2.get? b=some o:=λkk b o e=>kk b o (nn0 (hs0 e)) (ps0 _ e)
 have all:∀(h2:Heap),(∀b o,h1.get? b=some o->h2.get? b=some o)->PrsAre h2 ps (as.map Value.ref):=λh2 kk=>by
  have:=pr h2 kk;clear pr pa gD hG hp h h64 hl kL k1
  induction ps generalizing as with
  |nil=>cases as with|nil=>trivial|cons=>cases la
  |cons q r ih=>cases as with
   |nil=>cases la
   |cons b c=>exact⟨this 0 q b rfl rfl,ih c (by simpa using la) λj q a e1 e2=>this (j+1) q a e1 e2⟩
 have ll:(as.map Value.ref).length=ps.length:=by rw[lm0,la]
 refine wb0 (wh0 (wpAny_call_entry slot_list_sort ⟨_,gD,rfl⟩ entry_list_sort (jP (J:=tuples' true) (Ai λi=>ps.getD i (Str.empty,0)) (s:={s with heap:=h1.push {cls:=.type "list",data:=.seq (as.map Value.ref).toArray},toks:=tk}) (A:=A.in1.in1) gD (by rw[ll];exact h64)
  (λa2 h' kk R r=>wpAny_mono (Ah (s:={s with heap:=h',toks:=tk}) (E:=λf f=>False) (all h' (kL kk)) (by rw[ll]at a2;omega) r) (λf f x=>x) λf f x=>x.elim) (λh' kk i j hi hj R r=>HH (s:={s with heap:=h',toks:=tk}) (pa h' (kL kk) i (by rw[ll]at hi;exact hi)) (pa h' (kL kk) j (by rw[ll]at hj;exact hj)) r) λp hp=>⟨_,rfl,?_⟩) (args_list_sort _)))
 refine wq0 ⟨_,rfl,?_⟩;obtain⟨n,fin⟩:=sortedHeap_at (out:=(byP (as.map Value.ref) p).toArray) gD;have up:∀b o,h1.get? b=some o->(sortedHeap (h1.push {cls:=.type "list",data:=.seq (as.map Value.ref).toArray}) h1.objs.size (as.map Value.ref) (byP (as.map Value.ref) p).toArray).get? b=some o:=λb o e=>by
  have lt:b<h1.objs.size:=hs0 e;exact (sortedHeap_old (nn0 lt) (by rw[size_push'];exact Nat.lt_succ_of_lt lt)).trans (ps0 _ e)
 refine h _ tk h1.objs.size n as p (λb o e=>up b o (k1 b o e)) la (hG.rise.imp λz=>nn0 z) (λa ha=>Nat.le_of_lt (hG.above a ha)) (pr _ up) fin ?_ (λz=>li0 _ (hG.there z)) (by rw[ll]at hp;exact hp);exact sz
end
noncomputable def lay(m:Addr->Option HO)(H:Hp):Hp:=λb=>match m b with
 |some o=>some o
 |none=>H b
def jm{m:Addr->Option HO}{b:Addr}{o:HO}(h:m b=some o):lay m H b=some o:=by unfold lay;rw[h]
def dA{m:Addr->Option HO}{b:Addr}(h:m b=none):lay m H b=H b:=by unfold lay;rw[h]
theorem Ext.lay{G:Hp}{m:Addr->Option HO}(s:Same G H)(h:∀b o,m b=some o->H b=none/\notIns o=true):Ext G H (lay m G) (lay m H):=by
 have out:∀b o,H b=some o->m b=none:=λb o e=>by
  cases q:m b with
  |none=>rfl
  |some o'=>rw[(h b o' q).1]at e;cases e
 refine⟨λb o e=>by rw[dA (out b o e)];exact e,λb o e=>by rw[dA (out b o (s b o e))];exact e,λb o e=>?_,λb o e1 e2=>by rw[dA (out b o e2)];exact e1,λb C dx fs e=>?_⟩
 .cases q:m b with
  |some o'=>rw[jm q]at e ⊢;exact e
  |none=>rw[dA q]at e ⊢;exact s b o e
 .cases q:m b with
  |some o'=>rw[jm q]at e;cases e;cases (h b _ q).2
  |none=>rw[dA q]at e;exact e
def Ak{l:List Addr}{x:Addr}(h:l.idxOf? x=some j):l[j]?=some x:=by
 unfold List.idxOf? at h;obtain⟨h1,h2,_⟩:=List.findIdx?_eq_some_iff_getElem.mp h;rw[ge0 h1];exact congrArg some (eq_of_beq h2)
def Eh{l:List Addr}{x:Addr}(nd:l.Nodup)(h:l[j]?=some x):l.idxOf? x=some j:=by
 unfold List.idxOf?;obtain⟨h1,h2⟩:=gi0 h;refine List.findIdx?_eq_some_iff_getElem.mpr ⟨h1,by simp[h2],λi hi=>?_⟩;simp only[beq_iff_eq,Bool.not_eq_true',beq_eq_false_iff_ne];intro e;exact nn0 hi ((List.getElem_inj nd).mp (e.trans h2.symm))
def HJ{ws:List (Key×V)}{vs:List (Key×Value)}(h:KV ws vs):∀{j:Nat}{p:Key×V},ws[j]?=some p->∃q,vs[j]?=some q/\p.1=q.1/\RelV p.2 q.2:=by
 unfold KV at h
 induction h with
 |nil=>intro j p e;simp at e
 |cons a _ ih=>
  intro j p e;cases j with
  |zero=>cases e;exact⟨_,rfl,a⟩
  |succ j=>exact ih (by simpa using e)
theorem jo:∀xs:List Addr,Vals (xs.map V.ref) (xs.map Value.ref)
 |[]=>.nil
 |_::r=>.cons rfl (jo r)
section
variable {p:Pos}{kvs:List (Key×D)}
def wL:MtR X "dict.items" (λx vs H Q=>∃p ws,x=.ref p/\vs=[]/\H p=some (.dK ws)/\∀v,H v=none->Q (.ref v) (upd H v (.ext λh=>h.IsItemsView v p))):=by
 intro pins s σ H x xs v us Q I rx rs h;obtain⟨p,ws,rfl,rfl,hp,q⟩:=h;cases rx;cases rs;obtain⟨z,lo,vs,rel,dd⟩:=iL I.hok hp;refine call_meetsIn PySem.F.slot_dict_items dd.typeIs PySem.F.entry_dict_items (PySem.F.args_dict_items_1 _) (meets_dict_items (av X.prog X.w) p lo) ⟨⟨vs,dd⟩,.ref s.heap.objs.size,_,I.laid (t':=s.toks) (λb o e=>ps0 _ e) (nr0 _) (show ObjOk X.prog X.w _ _ _ (.ext _)from⟨⟨_,pz0 _ rfl,rfl,rfl⟩,⟨_,pz0 _ rfl⟩,λh1 h2 x k2=>let ⟨o,e,r⟩:=x;⟨o,k2 _ e,r⟩⟩),rfl,q _ I.fresh⟩
def jR(hc:X.calm=true):ba X (.builtin "sorted") (λxs H Q=>∃(v p:Addr)(ws:List (Key×V))(ps:List (Str×Int)),xs=[.ref v]/\H v=some (.ext λh=>h.IsItemsView v p)/\H p=some (.dK ws)/\ws=ps.map (λq=>(.inr q.1,.int q.2))/\ps.length<64/\
  ((ps.map (·.1)).Nodup->∀(m:Addr->Option HO)(D:Addr)(as:List Addr)(pm:List Nat),(∀b o,m b=some o->H b=none/\notIns o=true)->as.length=ps.length->m D=some (.lst ((pm.map λi=>as.getD i 0).map V.ref))->(∀(j:Nat)(q:Str×Int) a,ps[j]?=some q->as[j]?=some a->m a=some (.tup [.str q.1,.int q.2]))->
   eL (λi j=>ltP (ps.getD i (Str.empty,0)) (ps.getD j (Str.empty,0))) ps.length pm->Q (.ref D) (lay m H))):=by
 intro pins s σ H xs us Q I r h;obtain⟨v,p,ws,ps,rfl,hv,hp,rfl,hz,k⟩:=h;obtain⟨u,rfl,rx⟩:=vals1 r;cases rx;have iv:s.heap.IsItemsView v p:=(show ObjOk X.prog X.w H s.heap v (.ext _)from I.hok v _ hv).1;obtain⟨z,lo,vs,rel,dd⟩:=iL I.hok hp;obtain⟨ep,hat⟩:=dd.dictAt;have nd:(ps.map (·.1)).Nodup:=by
  have nd:(vs.map (·.1)).Nodup:=by
   obtain⟨_,_,_,_,_,_,_,_,nd⟩:=dd;exact nd
  rw[<-rel.keys,List.map_map]at nd;exact List.pairwise_map.mpr ((List.pairwise_map.mp nd).imp λz e=>z (congrArg Sum.inr e))
 have lv:vs.length=ps.length:=by rw[<-rel.length,lm0]
 refine lG (I.ok.hd hc) iv hat lv (λj q e=>?_) hz λh' tk D n as pm kk la na ge pr gD gl dn io=>?_
 .have e2:(ps.map λq=>((.inr q.1,.int q.2):Key×V))[j]?=some (.inr q.1,.int q.2):=by rw[gm0,e];rfl
  obtain⟨⟨k,w⟩,f1,rfl,t,rfl⟩:=HJ rel e2;exact⟨t,f1⟩
 have fr:∀b,s.heap.objs.size<=b->H b=none:=λb hb=>I.hok.fresh hb
 have pl:=io.1.length_eq;rw[lr0]at pl
 let m:Addr->Option HO:=λb=>if b=D then some (.lst ((pm.map λi=>as.getD i 0).map V.ref))else (as.idxOf? b).bind λj=>(ps[j]?).map λq=>.tup [.str q.1,.int q.2]
 have mD:m D=some (.lst ((pm.map λi=>as.getD i 0).map V.ref)):=if_pos rfl;have mo:∀b o,m b=some o->b≠D->∃(j:Nat)(q:Str×Int),as[j]?=some b/\ps[j]?=some q/\o=.tup [.str q.1,.int q.2]:=λb o e nb=>by
  have e:(if b=D then some (HO.lst ((pm.map λi=>as.getD i 0).map V.ref))else (as.idxOf? b).bind λj=>(ps[j]?).map λ(q:Str×Int)=>HO.tup [.str q.1,.int q.2])=some o:=e;rw[if_neg nb]at e;obtain⟨j,e1,e⟩:=bx0 e;obtain⟨q,e2,rfl⟩:=mx0 e;exact⟨j,q,Ak e1,e2,rfl⟩
 have ma:∀(j:Nat)(q:Str×Int) a,ps[j]?=some q->as[j]?=some a->m a=some (.tup [.str q.1,.int q.2]):=λj q a e1 e2=>by
  show (if a=D then _ else (as.idxOf? a).bind λj=>(ps[j]?).map λ(q:Str×Int)=>HO.tup [.str q.1,.int q.2])=_;rw[if_neg (show ¬ a=D from λz=>dn (z▸mg0 e2)),Eh na e2,bs0,e1];rfl
 have mg:∀b o,m b=some o->s.heap.objs.size<=b:=λb o e=>by
  by_cases c:b=D
  .rw[c];exact gl
  .obtain⟨j,q,e1,_⟩:=mo b o e c
   exact ge b (mg0 e1)
 refine⟨.ref D,lay m H,wa (t':=tk) (ch:=[]) I (λb hb=>by cases hb) (λb o d e=>kk b o e) (λb hb d=>dA (by
  cases q:m b with
  |none=>rfl
  |some o=>exact absurd (mg b o q) (Nat.not_le_of_lt hb))) (λb o hb e=>?_),rfl,k nd m D as pm (λb o e=>⟨fr b (mg b o e),?_⟩) la mD ma io⟩
 .have hb:s.heap.objs.size<=b:=hb.elim id λz=>by cases z
  cases q:m b with
  |none=>rw[dA q,fr b hb]at e;cases e
  |some o'=>
   rw[jm q]at e;cases e
   by_cases c:b=D
   .subst c
    rw[mD]at q;cases q;refine⟨by simp[pl,sizeLine_eq];omega,_,n,jo _,?_⟩;rw[gD];have:byP (as.map Value.ref) pm=(pm.map λi=>as.getD i 0).map Value.ref:=by
     rw[List.map_map];refine List.map_congr_left λi hi=>?_
     have:=List.mem_range.mp (io.1.mem_iff.mp hi);simp[List.getD,show i<as.length by omega]
    rw[this]
   .obtain⟨j,r,e1,e2,rfl⟩:=mo b _ q c
    obtain⟨a',ob,xs,n',t1,t2,z1,z2,z3,z4,rfl⟩:=pr j r b e2 e1;cases z1;exact⟨by show 2<=sizeLine;decide,[.str r.1 t1,.int r.2 t2],.cons ⟨_,rfl⟩ (.cons ⟨_,rfl⟩ .nil),ob,z2,z3,_,z4⟩
 .by_cases c:b=D
  .rw[c,mD]at e;cases e;rfl
  .obtain⟨_,_,_,_,rfl⟩:=mo b o e c;rfl
end
theorem insP_perm{p:Str×Int}:∀l:List (Str×Int),(sP p l).Perm (p::l)
 |[]=>.refl _
 |q::r=>by
  show (if ltS p.1 q.1 then p::q::r else q::sP p r).Perm _;split
  .exact .refl _
  .exact ((insP_perm r).cons q).trans (.swap p q r)
theorem srtP_perm:∀l:List (Str×Int),(ie l).Perm l
 |[]=>.refl _
 |p::r=>(insP_perm _).trans ((srtP_perm r).cons p)
theorem kA{p:Str×Int}:∀{l:List (Str×Int)},(∀q∈l,q.1≠p.1)->l.Pairwise (λa b=>ltS a.1 b.1=true)->(sP p l).Pairwise (λa b=>ltS a.1 b.1=true)
 |[],_,_=>List.pairwise_singleton _ _
 |q::r,hn,h=>by
  obtain⟨h1,h2⟩:=List.pairwise_cons.mp h;show (if ltS p.1 q.1 then p::q::r else q::sP p r).Pairwise _;split
  .exact List.pairwise_cons.mpr ⟨λz hz=>(mq0 hz).elim (λe=>e▸‹_›) λhz=>cY ‹_› (h1 z hz),h⟩
  .refine List.pairwise_cons.mpr ⟨λz hz=>?_,kA (λz hz=>hn z (mc0 _ hz)) h2⟩
   rcases mq0 ((insP_perm r).mem_iff.mp hz)with rfl|hz
   .exact eI (λe=>hn q ms0 e.symm) (bf0 ‹_›)
   .exact h1 z hz
theorem gL:∀{l:List (Str×Int)},(l.map (·.1)).Nodup->(ie l).Pairwise (λa b=>ltS a.1 b.1=true)
 |[],_=>.nil
 |p::r,h=>by
  obtain⟨h1,h2⟩:=List.nodup_cons.mp h;exact kA (λq hq e=>h1 (List.mem_map.mpr ⟨q,(srtP_perm r).mem_iff.mp hq,e⟩)) (gL h2)
def Ei{a b:Str×Int}(h:ltS a.1 b.1=true):ltP b a=false:=by
 unfold ltP;rw[if_neg λe=>by rw[e,bD]at h;cases h];refine df0 λz=>?_
 have:=cY h (show ltS b.1 a.1=true from dt0 z);rw[bD]at this;cases this
def wM{a b:Str×Int}(h1:ltP a b=false)(h2:ltP b a=false):a=b:=by
 unfold ltP at h1 h2
 by_cases e:a.1=b.1
 .rw[if_pos e]at h1
  rw[if_pos e.symm]at h2;have h1:=of_decide_eq_false h1;have h2:=of_decide_eq_false h2;exact Prod.ext e (by omega)
 .rw[if_neg e]at h1
  rw[if_neg λz=>e z.symm]at h2;have:=eI e h1;rw[show ltS b.1 a.1=false from h2]at this;cases this
def map_getD(d:α)(l:List α):(List.range l.length).map (λi=>l.getD i d)=l:=List.ext_getElem (by simp) λi h1 h2=>by simp[List.getD,h2]
def pV{ps:List (Str×Int)}{pm:List Nat}(nd:(ps.map (·.1)).Nodup)(h:eL (λi j=>ltP (ps.getD i (Str.empty,0)) (ps.getD j (Str.empty,0))) ps.length pm):pm.map (λi=>ps.getD i (Str.empty,0))=ie ps:=by
 have pl:=h.1.length_eq;rw[lr0]at pl;have pe:(pm.map (λi=>ps.getD i (Str.empty,0))).Perm ps:=by
  have:=h.1.map (λi=>ps.getD i (Str.empty,0))
  rwa [map_getD]at this
 refine (pe.trans (srtP_perm ps).symm).eq_of_pairwise (le:=λa b=>ltP b a=false) (λa b c c h1 h2=>wM h2 h1) ?_ ((gL nd).imp Ei);refine List.pairwise_iff_getElem.mpr λi j hi hj hij=>?_
 rw[lm0]at hi hj;have:=h.2 i j (Nat.le_of_lt hij) (by omega)
 simpa [List.getD,hi,hj]using this
theorem rh{G:Hp}:∀{kvs:List (Key×D)}{ws:List (Key×V)}{ps:List (Str×Int)},mG kvs=some ps->Dks K G kvs ws->ws=ps.map (λq=>(.inr q.1,.int q.2))/\∀q∈ps,cv q.1=true
 |[],_,ps,h,r=>by cases r;cases h;exact⟨rfl,nofun⟩
 |(.inr x,.int i)::r,_,ps,h,.cons a b=>by
  have h:(if cv x then (mG r).map ((x,i)::·)else none)=some ps:=h;obtain⟨ho,h⟩:=iB h;obtain⟨qs,h9,rfl⟩:=mS h;obtain⟨rfl,z⟩:=rh h9 b;cases a;exact⟨rfl,λq hq=>(mq0 hq).elim (λe=>e▸ho) (z q)⟩
section
variable {ipos p:Pos}{kvs:List (Key×D)}
theorem rj{G:Hp}{ps:List (Str×Int)}(ok:∀q∈ps,cv q.1=true)(ma:∀(j:Nat)(q:Str×Int) a,ps[j]?=some q->as[j]?=some a->G a=some (.tup [.str q.1,.int q.2]))(hl:as.length=ps.length):∀pm:List Nat,(∀i∈pm,i<ps.length)->
  Dps K G ((pm.map λi=>ps.getD i (Str.empty,0)).map λq=>.tuple [.str q.1,.int q.2]) ((pm.map λi=>as.getD i 0).map V.ref)
 |[],_=>.nil
 |i::r,h=>by
  have hi:=h i ms0;refine .cons (.tuple (ma i (ps.getD i (Str.empty,0)) _ ?_ ?_) (.cons (.str _ (fU (ok _ ?_))) (.cons (.int _) .nil))) (rj ok ma hl r λj hj=>h j (mc0 _ hj))
  .simp[List.getD,hi]
  .simp[List.getD,show i<as.length by omega]
  .simp[List.getD,hi]
def pW(hcalm:X.calm=true)(B1:Blt X "sorted")(ho:Er X Y o (.dict kvs))(hd:qK (.dict kvs)=some d)(hsup:aJ o=false)(hl:(apos.endLine==ipos.line)=true):Ev X Y (.Call (.Name "sorted" p) [.Call (.Attribute o "items" apos) [] [] ipos] [] pos) d:=by
 obtain⟨ps,h1,h⟩:=bS (show (mG kvs).bind _=some d from hd);obtain⟨hz,rfl⟩:=iS h;intro pins s σ H Q I h0;obtain⟨G0,H0,G,E,k⟩:=h0;refine cq (jR hcalm) B1.g B1.m du (aD (CW PySem.F.plainAttrs_dict PySem.F.slot_dict_items PySem.F.type_dict_items wL ho (base_of hsup) hl) bz rfl) B1.n B1.d rfl rfl pins s σ H Q I ?_;refine⟨G0,H0,G,E,λv G1 H1 e1 r1=>?_⟩;obtain⟨q,ws,rfl,h2,d1⟩:=r1.dct e1.gh;obtain⟨rfl,ok⟩:=rh h1 d1;refine⟨.inr (.inr (.inl ⟨rfl,.inl ⟨_,h2⟩⟩)),q,_,rfl,rfl,h2,λv hv=>?_⟩;have e2:Ext G1 H1 G1 (upd H1 v (.ext λh=>h.IsItemsView v q)):=.hid e1.gh hv
 refine⟨v,q,_,ps,rfl,ae,e2.hh _ _ h2,rfl,hz,λnd m D as pm hm la mD ma io=>?_⟩;have e3:=Ext.lay e2.gh hm;rw[<-pV nd io]at k;exact k _ _ _ (e1.trans (e2.trans e3)) (.list (jm mD) (rj ok (λj q a x y=>jm (ma j q a x y)) la pm λi hi=>List.mem_range.mp (io.1.mem_iff.mp hi)))
def pX{ps:List (Key×D)}(hcalm:X.calm=true)(B:Blt X "dict")(h:pairsOf ls=some ps)(ha:Er X Y a (.list ls))(hs:isStar a=false):En X Y (.Call (.Name "dict" p) [a] [] pos) (.dict (putAll [] ps)):=by
 refine jc (fl:=[true]) B (pH hcalm) pM (mM ha rfl ly hs) (λx hx=>by cases hx with|head=>exact hs|tail _ z=>cases z) λvs G H Q s r k=>?_
 obtain⟨v,rfl,hv⟩:=r.one;obtain⟨q,ws,rfl,h1,r1⟩:=hv.lst s;obtain⟨qs,p1,p2⟩:=mV s r1 h;exact⟨q,ws,qs,rfl,h1,p1,λl hl=>k l G _ (.hid s hl) (s.free hl) hl (.inr ⟨_,_,rfl,ae,Dks.merge p2 .nil List.nodup_nil⟩)⟩
end
def iw{e:Expr}{env}(h:isSet e=false):∀x,foldedSetIterable e env x=pure x:=by
 intro x;cases e<;>first|rfl|cases h
section
variable {k:Nat}{C:Cs}{e:Expr}{a' b' c':E}{as:List Expr}{as':Es}{p:Pos}{f:Str}{nb nc:Bool}
theorem Wz.blk(w:Wz X Z Γ C k){B}{sc}{N}(h:B.fns=C.fns/\B.cst=C.cst/\B.vc=C.vc/\B.vms=C.vms/\B.xcs=C.xcs)(A:Addr)(s)(H:Hp)(fp):Wz (L2.C.blk X sc N A s H fp) Z Γ B k:=
 ⟨w.blt,λx hx J hφ=>w.fns x (by rwa [<-h.1]) J hφ,w.gl,w.room,λc hc=>w.vc c (by rwa [<-h.2.2.1]),λc m hc hm J hφ=>w.vf c m (by rwa [<-h.2.2.1]) (by rwa [<-h.2.2.2.1]) J hφ,λt c tab hc=>w.xc t c _ (by simp_all)⟩
def Wz.u1(w:Wz X Z Γ C k):X.A.units+1<cLine:=by have:=w.room.units;omega
def Al(h:∀Y,Ev X Y e d)(he:∀whole,isTrue e X.env whole=(do let v ←whole;standAt e.pos;holding [v] (truthy v))):SdE X Z Γ e (.k d) false:=bt (core:=λa=>some d) (λa a=>rfl) (λY d' q=>by cases q;exact h Y) he
def Ej(V:VarOk X x i):SdE X Z Γ (.Name x p) (.v i) false:=by
 refine⟨λq=>DB i q V.at' V.vis V.d V.cd,λq=>vy i q V.at' V.vis V.d V.cd,λq=>DX i q V.at' V.vis V.d V.cd,λq=>?_,λz=>by cases z⟩;obtain⟨d',q1,q2⟩:=bS q;obtain⟨t,q3,q4⟩:=mS q2;refine⟨t,q4.symm,iV (vy i ?_ V.at' V.vis V.d V.cd) q3 λa=>rfl⟩;obtain⟨sl,z1,z2⟩:=bS q1;rw[z1];cases sl<;>exact z2
def KO(c:CxC X C)(w:Wz X Z Γ C k)(h:aq C x=true):SdE X Z Γ (.Name x p) (.g x) false:=bt (λa a=>rfl) λY d hd=>by
 obtain⟨u,v,h1,h2,h3⟩:=w.gl x d hd;exact λpins s σ H Q I ⟨G0,H0,G,E,k⟩=>qu (aB c h).1 h1 h2 (aB c h).2.2 pins s σ H Q I (k _ G H (.refl E.sub) (h3 G))
def HK{op:Operator}{o:Op2}(h:cOp op=some o)(A:SdE X Z Γ a a' na)(B:SdE X Z Γ b b' nb):SdE X Z Γ (.BinOp a op b pos) (.op o a' b') true:=dR (λc c=>rfl) λY d q=>by
 obtain⟨x,q1,q⟩:=bS q;obtain⟨y,q2,q⟩:=bS q;have:=vF (pos:=pos) h q (A.r q1) (B.r q2);exact⟨this.1,λc=>this.2⟩
def El(A:SdE X Z Γ a a' na):SdE X Z Γ (.UnaryOp .USub a pos) (.neg a') false:=bt (λb b=>rfl) λY d q=>by
 obtain⟨x,q1,q⟩:=bS q;obtain⟨i,q2,rfl⟩:=mS q;obtain rfl:=pw q2;exact DH (A.v q1)
def Em(A:SdE X Z Γ a a' na):SdE X Z Γ (.UnaryOp .Not a pos) (.not a') false:=by
 have val:∀{Y d},ev Z Γ .val Y (.not a')=some d->Ev X Y (.UnaryOp .Not a pos) d:=λq=>by
  obtain⟨x,q1,q⟩:=bS q;obtain⟨t,q2,rfl⟩:=mS q;obtain rfl:=pA q2;exact DQ (A.v q1)
 refine⟨val,λq=>(val q).er,λq=>(val q).ek,λq=>?_,λz=>by cases z⟩;obtain⟨x,q1,q⟩:=bS q;obtain⟨t,q2,rfl⟩:=mS q;obtain⟨b,rfl,hb⟩:=A.t q1;cases q2;exact⟨_,rfl,DL hb⟩
def Eo{op:CmpOp}{o:Cop}(w:Wz X Z Γ C k)(h:iR op=some o)(hs:(!isSet b)=true)(A:SdE X Z Γ a a' na)(B:SdE X Z Γ b b' nb):SdE X Z Γ (.Compare a [op] [b] pos) (.cmp o a' b') false:=by
 have both:∀{Y d},((ev Z Γ .read Y a').bind λx=>(ev Z Γ .read Y b').bind λy=>(bQ o x y).map D.bool)=some d->∃t,d=.bool t/\Ev X Y (.Compare a [op] [b] pos) (.bool t)/\Et X Y (.Compare a [op] [b] pos) t:=λq=>by
  obtain⟨x,q1,q⟩:=bS q;obtain⟨y,q2,q⟩:=bS q;obtain⟨t,q3,rfl⟩:=mS q;obtain⟨r,hr,hR⟩:=iU (X:=X) w.room.units h q3;exact⟨t,rfl,DC hr (A.r q1) (B.r q2) hR (dM (nt hs)),DD hr (A.r q1) (B.r q2) hR (dM (nt hs))⟩
 refine wG (λc c=>rfl) (λY d q=>?_) λY d t q ht=>?_
 .obtain⟨t,rfl,z,_⟩:=both q;exact⟨z,λz=>by cases z⟩
 .obtain⟨t,rfl,_,z⟩:=both q;cases ht;exact z
def nF{op op':CmpOp}{r r':R2}{u:Bool}(ho:OpR X (compareOp op) r)(ho':OpR X (compareOp op') r')(ha:Er X Y a d1)(hb:Er X Y b d2)(hc:t=true->Er X Y c d3)
  (h1:R2r X.K r d1 d2 (.bool t)) (h2:t=true->R2r X.K r' d2 d3 (.bool u)) (hm:lastMarks [op,op'] [b,c]=false) (hu:t=false->u=false):
  Ev X Y (.Compare a [op,op'] [b,c] pos) (.bool u)/\Et X Y (.Compare a [op,op'] [b,c] pos) u:=by
 have key:∀(tc:TE),(t=true->tc=tEr X.K Y d3)->∀(σ:St)(H:Hp)(Q:VK),(∃G0 H0 G,EnvD X.K G0 H0 G H σ Y/\∀v G' H',Ext G H G' H'->Dp X.K G' (.bool u) v->Q v H')->oN r r' (tEr X.K Y d1) (tEr X.K Y d2) tc σ H Q:=by
  intro tc htc σ H Q h0;obtain⟨G0,H0,G,E,kk⟩:=h0;refine⟨G0,H0,G,E,λx G1 H1 e1 r1=>⟨G0,H0,G1,E.step e1,λy G2 H2 e2 r2=>h1 x y G2 H2 _ e2.gh (r1.ext e2) r2 λv G3 H3 e3 r3=>?_⟩⟩;cases r3;refine⟨t,rfl,?_⟩;cases t with
  |true=>
   rw[if_pos rfl,htc rfl];refine⟨G0,H0,G3,((E.step e1).step e2).step e3,λz G4 H4 e4 r4=>h2 rfl y z G4 H4 Q e4.gh ((r2.ext e3).ext e4) r4 λv G5 H5 e5 r5=>kk v G5 H5 (e1.trans (e2.trans (e3.trans (e4.trans e5)))) r5⟩
  |false=>
   exact kk _ G3 H3 (e1.trans (e2.trans e3)) (by rw[hu rfl];exact .bool _)
 have fin:∀tc,PE X c tc->(t=true->tc=tEr X.K Y d3)->Ev X Y (.Compare a [op,op'] [b,c] pos) (.bool u)/\Et X Y (.Compare a [op,op'] [b,c] pos) u:=λtc hp ht=>
  ⟨λpins s σ H Q I h0=>uK ho ho' ha hb hp hm pins s σ H Q I (key _ ht σ H Q h0),λpins s σ H Q I h0=>uL ho ho' ha hb hp hm pins s σ H Q I (key _ ht σ H _ (by
   obtain⟨G0,H0,G,E,kk⟩:=h0;exact⟨G0,H0,G,E,λv G' H' e r=>by cases r;exact⟨u,rfl,kk G' H' e⟩⟩))⟩
 cases t with
 |true=>exact fin _ (hc rfl) λd=>rfl
 |false=>exact fin (λd d d=>False) (λd d d d d d z=>z.elim) λz=>by cases z
def wN{op op':CmpOp}{o o':Cop}(w:Wz X Z Γ C k)(h:iR op=some o)(h':iR op'=some o')(hs:(!isSet c)=true)(A:SdE X Z Γ a a' na)(B:SdE X Z Γ b b' nb)(Cc:SdE X Z Γ c c' nc):SdE X Z Γ (.Compare a [op,op'] [b,c] pos) (.chain o o' a' b' c') false:=by
 have both:∀{Y d},((ev Z Γ .read Y a').bind λx=>(ev Z Γ .read Y b').bind λy=>(bQ o x y).bind λt=>if t then (ev Z Γ .read Y c').bind λz=>(bQ o' y z).map D.bool else some (.bool false))=some d->
   ∃u,d=.bool u/\Ev X Y (.Compare a [op,op'] [b,c] pos) (.bool u)/\Et X Y (.Compare a [op,op'] [b,c] pos) u:=λq=>by
  obtain⟨x,q1,q⟩:=bS q;obtain⟨y,q2,q⟩:=bS q;obtain⟨t,q3,q⟩:=bS q;obtain⟨r,hr,hR⟩:=iU (X:=X) w.room.units h q3;have hm:lastMarks [op,op'] [b,c]=false:=dM (nt hs);cases t with
  |true=>
   obtain⟨z,q4,q⟩:=bS q;obtain⟨u,q5,rfl⟩:=mS q;obtain⟨r',hr',hR'⟩:=iU (X:=X) w.room.units h' q5;exact⟨u,rfl,nF hr hr' (A.r q1) (B.r q2) (λe=>Cc.r q4) hR (λe=>hR') hm (λz=>by cases z)⟩
  |false=>
   cases q;exact⟨false,rfl,nF (d3:=.none) (r':=λe e e e=>False) hr (λpins s σ H x y v u Q I rx ry h=>h.elim) (A.r q1) (B.r q2) (λz=>by cases z) hR (λz=>by cases z) hm (λe=>rfl)⟩
 refine wG (λe e=>rfl) (λY d q=>?_) λY d t q ht=>?_
 .obtain⟨t,rfl,z,_⟩:=both q;exact⟨z,λz=>by cases z⟩
 .obtain⟨t,rfl,_,z⟩:=both q;cases ht;exact z
structure SdB(X:Cx)(Z:Fs)(Γ:List (Str×D))(op:BoolOp)(es:List Expr)(f:E):Prop where
 v:∀{pos Y d},ev Z Γ .val Y f=some d->Ev X Y (.BoolOp op es pos) d
 t:∀{pos Y d},ev Z Γ .test Y f=some d->∃b,d=.bool b/\Ew X Y (.BoolOp op es pos) b
def rk{op:BoolOp}(B:SdB X Z Γ op as a')(h:(∀Y,ev Z Γ .read Y a'=ev Z Γ .val Y a')/\∀Y,ev Z Γ .walk Y a'=ev Z Γ .val Y a'):SdE X Z Γ (.BoolOp op as pos) a' false:=
 ⟨B.v,λq=>(B.v (by rw[<-h.1];exact q)).er,λq=>(B.v (by rw[<-h.2];exact q)).ek,λq=>let ⟨b,e,z⟩:=B.t q;⟨b,e,z.et⟩,λz=>by cases z⟩
def Eu{op:BoolOp}(A:SdE X Z Γ a a' na):SdB X Z Γ op [a] a':=⟨λq=>DN (A.v q),λq=>by
 obtain⟨b,rfl,t⟩:=A.t q;cases op with
 |And=>exact⟨b,rfl,zL t⟩
 |Or=>exact⟨b,rfl,DM t⟩⟩
def wO(A:SdE X Z Γ a a' na)(B:SdB X Z Γ .And (b::as) b'):SdB X Z Γ .And (a::b::as) (.and a' b'):=⟨λq=>by
 obtain⟨x,q1,q⟩:=bS q;obtain⟨t,q2,q⟩:=bS q;obtain rfl:=pA q2;cases t with
 |true=>exact zO (A.v q1) (B.v q)
 |false=>cases q;exact zP (A.v q1),λq=>by
 obtain⟨x,q1,q⟩:=bS q;obtain⟨t,rfl,ht⟩:=A.t q1;cases t with
 |true=>
  obtain⟨b,rfl,hb⟩:=B.t q;exact⟨b,rfl,zM ht hb⟩
 |false=>cases q;exact⟨false,rfl,zN ht⟩⟩
def BU(A:SdE X Z Γ a a' na)(B:SdB X Z Γ .Or (b::as) b'):SdB X Z Γ .Or (a::b::as) (.or a' b'):=⟨λq=>by
 obtain⟨x,q1,q⟩:=bS q;obtain⟨t,q2,q⟩:=bS q;obtain rfl:=pA q2;cases t with
 |true=>cases q;exact DP (A.v q1)
 |false=>exact DO (A.v q1) (B.v q),λq=>by
 obtain⟨x,q1,q⟩:=bS q;obtain⟨t,rfl,ht⟩:=A.t q1;cases t with
 |true=>cases q;exact⟨true,rfl,pD ht⟩
 |false=>
  obtain⟨b,rfl,hb⟩:=B.t q;exact⟨b,rfl,vI ht hb⟩⟩
def Ey(Cc:SdE X Z Γ c c' nc)(A:SdE X Z Γ a a' na)(B:SdE X Z Γ b b' nb):SdE X Z Γ (.IfExp c a b pos) (.ite c' a' b') false:=by
 have val:∀{Y d},ev Z Γ .val Y (.ite c' a' b')=some d->Ev X Y (.IfExp c a b pos) d:=λq=>by
  obtain⟨x,q1,q⟩:=bS q;obtain⟨t,rfl,ht⟩:=Cc.t q1;cases t with
  |true=>exact DR ht (A.v q)
  |false=>exact DS ht (B.v q)
 exact⟨val,λq=>(val q).er,λq=>(val q).ek,λq=>(by cases (show .none=some _ from q)),λz=>by cases z⟩
def Ez{vc:Nat}(w:Wz X Z Γ C k)(h:C.vc=some vc)(hs:(!aJ a)=true)(hx:x="objects")(A:SdE X Z Γ a a' na):SdE X Z Γ (.Attribute a x pos) (.vob vc a') false:=by
 subst hx;have key:∀{Y d},((ev Z Γ .read Y a').bind λx=>if iP vc x then some (D.list (zz x))else .none)=some d->Er X Y (.Attribute a "objects" pos) d:=λq=>by
  obtain⟨x,q1,q⟩:=bS q;obtain⟨hv,rfl⟩:=iS q;obtain⟨hh,os,rfl⟩:=mJ hv;exact Ef (w.vc vc h).1 (w.vc vc h).2 (A.r q1) (nt hs)
 refine⟨λq=>nn q,λq=>key q,λq=>nn q,λq=>?_,λz=>by cases z⟩;obtain⟨d',q1,q2⟩:=bS (o:=(ev Z Γ .read _ a').bind λx=>if iP vc x then some (D.list (zz x))else .none) (f:=λd=>(fJ d).map D.bool) q;obtain⟨t,q3,q4⟩:=mS q2;exact⟨t,q4.symm,iV (key q1) q3 λb=>rfl⟩
def EA(w:Wz X Z Γ C k)(hs:(!isSlice b)=true)(A:SdE X Z Γ a a' na)(B:SdE X Z Γ b b' nb):SdE X Z Γ (.Subscript a b pos) (.idx a' b') false:=bt (λc c=>rfl) λY d q=>by
 obtain⟨x,q1,q⟩:=bS q;obtain⟨y,q2,q⟩:=bS q;exact sU w.u1 q (A.r q1) (B.v q2) (nt hs)
structure SdO(X:Cx)(Z:Fs)(Γ:List (Str×D))(eo:Option Expr)(as:Es):Prop where
 o:∀{Y o},evP Z Γ Y as=some o->PO X eo (tPt X.K Y o)
def Am:SdO X Z Γ .none .nil:=⟨λq=>by cases q;exact vG⟩
def An(A:SdE X Z Γ a a' na):SdO X Z Γ (some a) (.cons a' .nil):=⟨λq=>by
 obtain⟨d,q1,q2⟩:=bS q;obtain⟨i,q3,rfl⟩:=mS q2;obtain rfl:=pw q3;exact vH (A.v q1)⟩
def HL{lo hi:Option Expr}{lo' hi':Es}(A:SdE X Z Γ a a' na)(L:SdO X Z Γ lo lo')(H:SdO X Z Γ hi hi'):SdE X Z Γ (.Subscript a (.Slice lo hi .none p) pos) (.sl a' lo' hi') true:=ji (λb b=>rfl) λY d q=>by
 obtain⟨x,q1,q⟩:=bS q;obtain⟨y,q2,q⟩:=bS q;obtain⟨z,q3,q⟩:=bS q;cases x with
 |list ds=>cases q;exact sV (A.r q1) (L.o q2) (H.o q3)
 |_=>cases q
structure SdA(X:Cx)(Z:Fs)(Γ:List (Str×D))(es:List Expr)(as:Es):Prop where
 s:aK es
 r:∀{fl Y ds},evs Z Γ .read fl Y as=some ds->Ea X Y fl es ds
 v:∀{Y ds},evs Z Γ .val [] Y as=some ds->Ea X Y [] es ds
 l:∀{m fl Y ds},evs Z Γ m fl Y as=some ds->ds.length=es.length
def EB:SdA X Z Γ [] .nil:=⟨λa z=>(by cases z),λq=>(by cases q;exact ly),λq=>(by cases q;exact ly),λq=>by cases q;rfl⟩
def Ao(hs:(!isStar a)=true)(A:SdE X Z Γ a a' na)(R:SdA X Z Γ as as'):SdA X Z Γ (a::as) (.cons a' as'):=by
 refine⟨λx hx=>(mq0 hx).elim (λz=>z▸nt hs) (R.s x),λ{fl _ _} q=>?_,λq=>?_,λq=>?_⟩
 .obtain⟨x,q1,q⟩:=bS q
  obtain⟨rs,q2,rfl⟩:=mS q;cases hf:fl.headD false with
  |true=>rw[hf]at q1;exact mM (A.r q1) hf (R.r q2) (nt hs)
  |false=>rw[hf]at q1;exact iT (A.v q1) (R.r q2) (nt hs)
 .obtain⟨x,q1,q⟩:=bS q
  obtain⟨rs,q2,rfl⟩:=mS q;exact iT (A.v q1) (R.v q2) (nt hs)
 .obtain⟨x,q1,q⟩:=bS q
  obtain⟨rs,q2,rfl⟩:=mS q;rw[lc0,lc0,R.l q2]
def EC(A:SdA X Z Γ as as'):SdE X Z Γ (.List as pos) (.lst as') true:=ji (λa a=>rfl) λY d q=>by
 obtain⟨ds,q1,q⟩:=bS q;obtain⟨hz,rfl⟩:=iS q;exact DI (A.v q1) hz
def ED(A:SdA X Z Γ as as'):SdE X Z Γ (.Tuple as j pos) (.tup as') false:=bt (λa a=>rfl) λY d q=>by
 obtain⟨ds,q1,q⟩:=bS q;obtain⟨hz,rfl⟩:=iS q;exact DJ (A.v q1) hz
def Ap:SdE X Z Γ (.Dict [] [] pos) (.bi .dict (.cons (.lst .nil) .nil)) true:=ji (core:=λa=>some (.dict [])) (λm a=>by cases m<;>rfl) λY d q=>by
 cases q;exact λpins s σ H Q I ⟨G0,H0,G,E,k⟩=>mE pins s σ H Q I λp hp=>k p G _ (.hid E.sub hp) (E.sub.free hp) hp (.inr ⟨_,_,rfl,ae,.nil⟩)
structure SdF(X:Cx)(Z:Fs)(Γ:List (Str×D))(vs:List Expr)(es:Es):Prop where
 j:∀{Y:List Sl}{pins:List (Addr×Obj)}{σ:St}{G0 H0:Hp}{fl:List Bool}{ds:List D}{y acc:Str}{P:Str->Shared->Prop}{s:Shared}{H G:Hp},evs Z Γ .read fl Y es=some ds->fsL ds=some y->Inv X pins σ H s->EnvD X.K G0 H0 G H σ Y->acc.length+y.length<=sizeLine->(∀G1 H1 s1,Ext G H G1 H1->Inv X pins σ H1 s1->PyData.strOk y=true->P (acc++y) s1)->Joins (model X.prog X.w) X.A X.xe (evalEach vs X.env) acc P s
def EE:SdF X Z Γ [] .nil:=⟨λ{_ _ _ _ _ _ _ _ acc _ s H G} q e I E hz k=>by
 cases q;cases e;have:=k G H s (.refl E.sub) I (by rw[strOk_iff];intro c hc;cases hc)
 rwa [show acc++Str.empty=acc from eG (by show (acc.cps++Str.empty.cps).toList=_;rw[Array.toList_append];exact List.append_nil _)]at this⟩
def len_app(x y:Str):(x++y).length=x.length+y.length:=by show (x.cps++y.cps).size=_;rw[Array.size_append];rfl
def rm{v:Expr}(R:SdF X Z Γ as as')
  (h:∀{Y:List Sl}{pins:List (Addr×Obj)}{σ:St}{G0 H0 G H:Hp}{m:Md}{d:D}{x:Str}{s:Shared}{Q:VK},(m=.read\/m=.val)->ev Z Γ m Y a'=some d->vi d=some x->Inv X pins σ H s->EnvD X.K G0 H0 G H σ Y->x.length<=sizeLine->(∀G1 H1,Ext G H G1 H1->PyData.strOk x=true->Q (.str x) H1)->wpAny (model X.prog X.w) X.A (eval v X.env) (EP X pins σ Q) X.xe s):SdF X Z Γ (v::as) (.cons a' as'):=⟨λ{Y pins σ G0 H0 fl ds y acc P s H G} q e I E hz k=>by
 obtain⟨d,q1,q⟩:=bS q;obtain⟨ds',q2,rfl⟩:=mS q;obtain⟨x,e1,e⟩:=bS (show (vi d).bind _=some y from e);obtain⟨y',e2,rfl⟩:=mS e;rw[len_app]at hz;refine thn (h (Q:=λv H1=>∃G1,v=.str x/\Ext G H G1 H1/\PyData.strOk x=true) (by split<;>simp) q1 e1 I E (by omega) λG1 H1 x1 ok=>⟨G1,rfl,x1,ok⟩) λu s1 ⟨vv,H1,I1,ru,G1,ev,x1,ok⟩=>?_
 subst ev;obtain⟨t,rfl⟩:=ru;exact⟨x,t,rfl,by rw[len_app];omega,R.j q2 e2 I1 (E.step x1) (by rw[len_app];omega) λG2 H2 s2 x2 I2 o2=>by
  have:=k G2 H2 s2 (x1.trans x2) I2 (fM ok o2)
  rwa [show acc++(x++y')=acc++x++y' from eG (by show (acc.cps++(x.cps++y'.cps)).toList=(acc.cps++x.cps++y'.cps).toList;simp)]at this⟩⟩
def EF{z:Str}(R:SdF X Z Γ as as')(h:cv z=true):SdF X Z Γ (.Constant (.str z) j pos::as) (.cons (.k (.str z)) as'):=rm R λ{_ _ _ _ _ G H m d x s Q} hm q e I E hz k=>by
 have:d=.str z:=by rcases hm with rfl|rfl<;>(cases q;rfl)
 subst this;cases e;exact wpAny_Constant_str ⟨.str _,_,I.tok _,⟨_,rfl⟩,k G H (.refl E.sub) (fU h)⟩
def EG{i:Int}(R:SdF X Z Γ as as')(h:i = -1)(A:SdE X Z Γ a a' na):SdF X Z Γ (.FormattedValue a i .none pos::as) (.cons a' as'):=by
 subst h;refine rm R λ{Y pins σ G0 H0 G H m d x s Q} hm q e I E hz k=>?_
 have er:Er X Y a d:=by
  rcases hm with rfl|rfl
  .exact A.r q
  .exact (A.v q).er
 refine wpAny_FormattedValue_plain (thn (er pins s σ H (λv H1=>∃G1,Ext G H G1 H1/\Dr X.K G1 H1 d v) I ⟨G0,H0,G,E,λv G1 H1 x1 r1=>⟨G1,x1,r1⟩⟩) λu s1 ⟨vv,H1,I1,ru,G1,x1,r1⟩=>?_);cases d with
 |str z=>
  cases e;obtain⟨rfl,ok⟩:=r1.str;obtain⟨tk,rfl⟩:=ru;exact wpAny_formatField_str ⟨.str _,H1,I1,⟨_,rfl⟩,k G1 H1 x1 ok⟩ ⟨.str _,H1,I1.tok _,⟨_,rfl⟩,k G1 H1 x1 ok⟩ hz
 |int i=>
  obtain⟨c,e,ok⟩:=qU (show pj i=some x from e);subst e;obtain rfl:=r1.int;obtain⟨tk,rfl⟩:=ru;exact wpAny_formatField_int c ⟨.str _,H1,(I1.tok _).tok _,⟨_,rfl⟩,k G1 H1 x1 ok⟩
 |_=>cases e
def EH{v:Expr}(A:SdF X Z Γ (a::v::as) as'):SdE X Z Γ (.JoinedStr (a::v::as) pos) (.bi .fst as') false:=bt (λb b=>rfl) λY d q=>by
 obtain⟨ds,q1,q⟩:=bS q;obtain⟨y,q2,q⟩:=bS (show (fsL ds).bind _=some d from q);obtain⟨hz,rfl⟩:=iS q;rw[big_eq]at hz;intro pins s σ H Q I h0;obtain⟨G0,H0,G,E,k⟩:=h0;refine wpAny_JoinedStr (A.j q1 q2 I E (by show 0+y.length<=_;omega) λG1 H1 s1 x1 I1 ok=>?_);rw[show Str.empty++y=y from eG (by show (Str.empty.cps++y.cps).toList=_;rw[Array.toList_append];rfl)];exact⟨by omega,.str _,H1,I1.tok _,⟨_,rfl⟩,k _ G1 H1 x1 (.str _ ok)⟩
def Aq{f:Bf}(h:ka x=some f):x∈bltNames:=by
 unfold ka at h
 repeat' split at h
 all_goals first|cases h;done|(subst_vars;simp[bltNames])
def EI(h:pB x=some T):x∈bltNames:=by
 unfold pB at h
 repeat' split at h
 all_goals first|cases h;done|(subst_vars;simp[bltNames])
def Ar(c:CxC X C)(w:Wz X Z Γ C k)(hf:C.fns.contains f=true)(hg:aq C f=true)(A:SdA X Z Γ (a::as) as'):SdE X Z Γ (.Call (.Name f p) (a::as) [] pos) (.call f as') false:=bt (λb b=>rfl) λY d q=>by
 obtain⟨J,q1,q⟩:=bS q;obtain⟨ds,q2,q⟩:=bS q;exact pP (w.fns f hf J q1) w.room (aB c hg).1 (aB c hg).2.2 (A.r q2) q A.s
def EJ{tn:Str}{z:Nat×List (Nat×Bool)}(c:CxC X C)(w:Wz X Z Γ C k)(hf:f="isinstance")(hg:aq C f=true)(h:C.xcs.lookup tn=some z)(hq:(aq C tn&&!isStar a)=true)(A:SdE X Z Γ a a' na):SdE X Z Γ (.Call (.Name f p) [a,.Name tn px] [] pos) (.isx a' z.1 z.2) false:=bt (λb b=>rfl) λY d q=>by
 subst hf;obtain⟨x,q1,q⟩:=bS q;obtain⟨t,q2,rfl⟩:=mS q;obtain⟨e,rfl⟩:=zI q2;exact tR (bR c w hg (by simp[bltNames])) (w.xc _ _ _ h) (aB c (a2 hq).1).1 (aB c (a2 hq).1).2.2 (A.r q1) (nt (a2 hq).2) q2
def EK{tn:Str}(c:CxC X C)(w:Wz X Z Γ C k)(hf:f="isinstance")(hg:aq C f=true)(h:pB tn=some T)(hq:(aq C tn&&!isStar a)=true)(A:SdE X Z Γ a a' na):SdE X Z Γ (.Call (.Name f p) [a,.Name tn px] [] pos) (.isi a' T) false:=bt (λb b=>rfl) λY d q=>by
 subst hf;obtain⟨x,q1,q⟩:=bS q;obtain⟨t,q2,rfl⟩:=mS q;exact tL (bR c w hg (by simp[bltNames])) (bR c w (a2 hq).1 (EI h)) h (A.r q1) (nt (a2 hq).2) q2
def EL{g:Str}{sp qp:Pos}(c:CxC X C)(w:Wz X Z Γ C k)(hf:f="sorted")(hg:aq C f=true)(h:g="set")(hg':aq C g=true)(A:SdA X Z Γ [a] as'):SdE X Z Γ (.Call (.Name f p) [.Call (.Name g sp) [a] [] qp] [] pos) (.bi .srt as') false:=bt (λb b=>rfl) λY d q=>by
 subst hf h;obtain⟨ds,q1,q⟩:=bS q;exact tJ c.calm (bR c w hg (by simp[bltNames])) (bR c w hg' (by simp[bltNames])) q (A.r q1) (A.s a ms0)
def As{g:Str}{sp qp:Pos}(c:CxC X C)(w:Wz X Z Γ C k)(hf:f="sorted")(hg:aq C f=true)(h:g="list")(hg':aq C g=true)(A:SdA X Z Γ [a] as'):SdE X Z Γ (.Call (.Name f p) [.Call (.Name g sp) [a] [] qp] [] pos) (.bi .srtk as') false:=bt (λb b=>rfl) λY d q=>by
 subst hf h;obtain⟨ds,q1,q⟩:=bS q;exact pU c.calm (bR c w hg (by simp[bltNames])) (bR c w hg' (by simp[bltNames])) q (A.r q1) (A.s a ms0)
def Au{ipos:Pos}(c:CxC X C)(w:Wz X Z Γ C k)(hf:f="sorted")(hg:aq C f=true)(hm:m="items")(hq:(!aJ a&&(apos.endLine==ipos.line))=true)(A:SdE X Z Γ a a' na):SdE X Z Γ (.Call (.Name f p) [.Call (.Attribute a m apos) [] [] ipos] [] pos) (.srtp a') false:=bt (λb b=>rfl) λY d q=>by
 subst hf hm;obtain⟨x,q1,q⟩:=bS q;cases x with
 |dict kvs=>exact pW c.calm (bR c w hg (by simp[bltNames])) (A.r q1) q (nt (a2 hq).1) (a2 hq).2
 |_=>cases q
def wQ(c:CxC X C)(w:Wz X Z Γ C k)(hf:f="dict")(hg:aq C f=true)(hs:(!isStar a)=true)(A:SdE X Z Γ a a' na):SdE X Z Γ (.Call (.Name f p) [a] [] pos) (.bi .dict (.cons a' .nil)) true:=ji (λb b=>rfl) λY d q=>by
 subst hf;obtain⟨ds,q1,q⟩:=bS q;obtain⟨x,q2,q1⟩:=bS (show (ev Z Γ .read Y a').bind _=some ds from q1);cases q1;cases x with
 |list ls=>
  obtain⟨ps,h,rfl⟩:=mS (show (pairsOf ls).map _=some d from q);exact pX c.calm (bR c w hg (by simp[bltNames])) h (A.r q2) (nt hs)
 |_=>cases q
def HM{b:Bf}(c:CxC X C)(w:Wz X Z Γ C k)(hg:aq C f=true)(h:ka f=some b)(A:SdA X Z Γ (a::as) as'):SdE X Z Γ (.Call (.Name f p) (a::as) [] pos) (.bi b as') (frB b):=dR (λe e=>rfl) λY d q=>by
 obtain⟨ds,q1,q⟩:=bS q;exact vZ c.calm (bR c w hg (Aq h)) h q (A.r q1) A.s
def wR{vc:Nat}(w:Wz X Z Γ C k)(h:C.vc=some vc)(hm:C.vms.contains m=true)(hq:(!aJ a&&decide (as.length<=20)&&(apos.endLine==pos.line))=true)(O:SdE X Z Γ a a' na)(A:SdA X Z Γ as as'):SdE X Z Γ (.Call (.Attribute a m apos) as [] pos) (.vcall vc m a' as') false:=bt (λb b=>rfl) λY d q=>by
 obtain⟨x,q1,q⟩:=bS q;obtain⟨hv,q⟩:=iB q;obtain⟨J,q2,q⟩:=bS q;obtain⟨ds,q3,q⟩:=bS q;obtain⟨hl,q⟩:=iB q;obtain⟨hh,os,rfl⟩:=mJ hv;exact wD (w.vf vc m h hm J q2) (w.vc vc h).1 w.room (O.r q1) (A.r q3) hl q A.s (λe=>ez0 (by rw[A.l q3,e];rfl)) (ky (nt (a2 (a2 hq).1).1) A.s (od0 (a2 (a2 hq).1).2) (a2 hq).2)
def HN{g:Mf}(h:qM m=some g)(hq:(!aJ a&&!isStar b&&(apos.endLine==pos.line))=true)(O:SdE X Z Γ a a' na)(A:SdE X Z Γ b b' nb):SdE X Z Γ (.Call (.Attribute a m apos) [b] [] pos) (.me g a' (.cons b' .nil)) (frM g):=dR (λc c=>rfl) λY d q=>by
 obtain⟨x,q1,q⟩:=bS q;obtain⟨ds,q2,q⟩:=bS q;obtain⟨y,q3,q4⟩:=bS (show (ev Z Γ .read Y b').bind _=some ds from q2);cases q4;have:=we (pos:=pos) h q (O.r q1) (A.r q3) (nt (a2 (a2 hq).1).2) (nt (a2 (a2 hq).1).1) (a2 hq).2;exact⟨this.1,λz c=>this.2 (by cases g<;>first|rfl|cases z)⟩
def EM(w:Wz X Z Γ C k)(hm:m="get")(hq:(!aJ a&&!isStar b&&(apos.endLine==pos.line))=true)(O:SdE X Z Γ a a' na)(A:SdE X Z Γ b b' nb):SdE X Z Γ (.Call (.Attribute a m apos) [b] [] pos) (.get a' b') false:=bt (λc c=>rfl) λY d q=>by
 subst hm;obtain⟨x,q1,q⟩:=bS q;obtain⟨y,q2,q⟩:=bS q;cases x with
 |dict kvs=>
  obtain⟨key,q3,rfl⟩:=mS (show (fq y).map _=some d from q);exact tU w.u1 (O.r q1) (A.v q2) q3 (nt (a2 (a2 hq).1).2) (nt (a2 (a2 hq).1).1) (a2 hq).2
 |_=>cases q
structure SdI(X:Cx)(Z:Fs)(Γ:List (Str×D))(e:Expr)(src:I):Prop where
 w:∀{Y ds},evI Z Γ .walk Y src=some ds->Si X Y true e ds
 r:∀{Y ds},evI Z Γ .read Y src=some ds->Si X Y false e ds
 s:isSet e=false
def EN(hs:(!isSet e)=true)(A:SdE X Z Γ e a' na):SdI X Z Γ e (.seq a'):=⟨λq=>by
 obtain⟨d,q1,q⟩:=bS q;exact wm q (A.w q1),λq=>by
 obtain⟨d,q1,q⟩:=bS q;exact tN q (A.r q1),nt hs⟩
def EO(c:CxC X C)(w:Wz X Z Γ C k)(hf:f="range")(hg:aq C f=true)(hs:(!isStar a)=true)(A:SdE X Z Γ a a' na):SdI X Z Γ (.Call (.Name f p) [a] [] pos) (.rng a'):=by
 subst hf;have key:∀wk {Y ds},((ev Z Γ .val Y a').bind λd=>(asI d).bind λn=>if rOk n then some ((List.range n.toNat).map λ(k:Nat)=>D.int k)else .none)=some ds->Si X Y wk (.Call (.Name "range" p) [a] [] pos) ds:=λwk b b q=>by
  obtain⟨d,q1,q⟩:=bS q;obtain⟨i,q2,q⟩:=bS q;obtain⟨hr,rfl⟩:=iS q;obtain rfl:=pw q2;exact tO (bR c w hg (by simp[bltNames])) (A.v q1) hr (nt hs)
 exact⟨key true,key false,rfl⟩
structure SdR(X:Cx)(Z:Fs)(Γ:List (Str×D))(tg e:Expr)(src:I):Prop where
 r:∀{Y ds},evI Z Γ .read Y src=some ds->PI X tg e (tSi X.K Y false ds)
 s:isSet e=false
def SdI.sr{src:I}(h:SdI X Z Γ e src):SdR X Z Γ tg e src:=⟨λq=>h.r q tg,h.s⟩
def ER{tk:Nat}(c:CxC X C)(w:Wz X Z Γ C k)(hf:f="zip")(hg:aq C f=true)(A:SdA X Z Γ [a,b] as'):SdR X Z Γ (.Tuple elts tk tpos) (.Call (.Name f p) [a,b] [] pos) (.zip as'):=⟨λq=>by
 subst hf;obtain⟨ls,q1,q⟩:=bS q
 match ls,q,q1 with
 |[.list x,.list y],q,q1=>
  rw[zH]at q;obtain⟨hl,rfl⟩:=iS q;exact zX (bR c w hg (by simp[bltNames])) (A.r q1) A.s hl
 |[.list x,.list y,.list z],q,q1=>(cases A.l q1),rfl⟩
end
section
structure Ce(C:Cs)(e:Expr) where
 f:E
 n:Bool
 ok:∀{Z Γ k X},CxC X C->Wz X Z Γ C k->SdE X Z Γ e f n
structure Ca(C:Cs)(es:List Expr) where
 f:Es
 ok:∀{Z Γ k X},CxC X C->Wz X Z Γ C k->SdA X Z Γ es f
structure Ci(C:Cs)(e:Expr) where
 f:I
 ok:∀{Z Γ k X},CxC X C->Wz X Z Γ C k->SdI X Z Γ e f
structure Cr(C:Cs)(tg e:Expr) where
 f:I
 ok:∀{Z Γ k X},CxC X C->Wz X Z Γ C k->SdR X Z Γ tg e f
structure Cb(C:Cs)(op:BoolOp)(es:List Expr) where
 f:E
 ok:∀{Z Γ k X},CxC X C->Wz X Z Γ C k->SdB X Z Γ op es f
structure Co(C:Cs)(e:Option Expr) where
 f:Es
 ok:∀{Z Γ k X},CxC X C->Wz X Z Γ C k->SdO X Z Γ e f
structure Cf(C:Cs)(es:List Expr) where
 f:Es
 ok:∀{Z Γ k X},CxC X C->Wz X Z Γ C k->SdF X Z Γ es f
structure Ct(C:Cs)(ifs:List Expr) where
 f:Es
 ok:∀{Z Γ k X},CxC X C->Wz X Z Γ C k->∀{Y b},evC Z Γ Y f=some b->Ecs X Y ifs b
structure Cc(C:Cs)(elt tg iter:Expr)(ifs:List Expr)(sc:Scope) where
 f:E
 ok:∀{Z Γ k X},CxC X C->Wz X Z Γ C k->∀{Y d},ev Z Γ .val Y f=some d->∃ds out js,∃(t:Tg)(ifs':Es)(elt':E),d=.list out/\BlkOk X sc js/\PI X tg iter (tSi X.K Y false ds)/\qX X Z Γ sc (aE X (bp tg) js) tg t ifs ifs' elt elt'/\mK t (bp tg).length=true/\ds.length<=sizeLine/\aM (kr Z Γ (bp tg).length js t ifs' elt' Y) ds=some out/\∀x,foldedSetIterable iter X.env x=pure x
 fin:∀Z Γ m Y,ev Z Γ m Y f=SI.fin m (ev Z Γ .val Y f)
variable (r:∀C e,Option (Ce C e))(C:Cs)
noncomputable def cEs:(es:List Expr)->Option (Ca C es)
 |[]=>some ⟨.nil,λa a=>EB⟩
 |e::es=>chk (!isStar e) λh=>(r C e).bind λA=>(cEs es).map λR=>⟨.cons A.f R.f,λc w=>Ao h (A.ok c w) (R.ok c w)⟩
noncomputable def cB(op:BoolOp):(es:List Expr)->Option (Cb C op es)
 |[]=>none
 |[a]=>(r C a).map λA=>⟨A.f,λc w=>Eu (A.ok c w)⟩
 |a::b::es=>(r C a).bind λA=>(cB op (b::es)).map λB=>match op,B with
  |.And,B=>⟨.and A.f B.f,λc w=>wO (A.ok c w) (B.ok c w)⟩
  |.Or,B=>⟨.or A.f B.f,λc w=>BU (A.ok c w) (B.ok c w)⟩
noncomputable def cBo(op:BoolOp)(a b:Expr)(es:List Expr)(pos:Pos):Option (Ce C (.BoolOp op (a::b::es) pos)):=(r C a).bind λA=>(cB r C op (b::es)).map λB=>match op,B with
 |.And,B=>⟨.and A.f B.f,false,λc w=>rk (wO (A.ok c w) (B.ok c w)) ⟨λd=>rfl,λd=>rfl⟩⟩
 |.Or,B=>⟨.or A.f B.f,false,λc w=>rk (BU (A.ok c w) (B.ok c w)) ⟨λd=>rfl,λd=>rfl⟩⟩
noncomputable def cO:(e:Option Expr)->Option (Co C e)
 |none=>some ⟨.nil,λa a=>Am⟩
 |some e=>(r C e).map λA=>⟨.cons A.f .nil,λc w=>An (A.ok c w)⟩
noncomputable def cF:(es:List Expr)->Option (Cf C es)
 |[]=>some ⟨.nil,λb b=>EE⟩
 |.Constant (.str z) _ _::es=>chk (cv z) λh=>(cF es).map λR=>⟨.cons (.k (.str z)) R.f,λc w=>EF (R.ok c w) h⟩
 |.FormattedValue a i none _::es=>if h:i = -1 then (r C a).bind λA=>(cF es).map λR=>⟨.cons A.f R.f,λc w=>EG (R.ok c w) h (A.ok c w)⟩ else none
 |_=>none
noncomputable def cT:(es:List Expr)->Option (Ct C es)
 |[]=>some ⟨.nil,λa a a a q=>by cases q;exact zZ⟩
 |[e]=>(r C e).map λA=>⟨.cons A.f .nil,λc w a a q=>by
  obtain⟨x,q1,q2⟩:=bS q;obtain⟨t,rfl,ht⟩:=(A.ok c w).t q1;cases q2;exact Aa ht⟩
 |_=>none
noncomputable def cQ(e:Expr):Option (Ci C e):=chk (!isSet e) λh=>(r C e).map λA=>⟨.seq A.f,λc w=>EN h (A.ok c w)⟩
noncomputable def cI:(e:Expr)->Option (Ci C e)
 |.Call (.Name f p) [a] [] pos=>if hf:f="range" then chk (aq C f) λhg=>chk (!isStar a) λhs=>(r C a).map λA=>⟨.rng A.f,λc w=>EO c w hf hg hs (A.ok c w)⟩
  else cQ r C (.Call (.Name f p) [a] [] pos)
 |e=>cQ r C e
noncomputable def cRI(tg e:Expr):Option (Cr C tg e):=(cI r C e).map λA=>⟨A.f,λc w=>(A.ok c w).sr⟩
noncomputable def cR:(tg e:Expr)->Option (Cr C tg e)
 |.Tuple ts j q,.Call (.Name f p) [a,b] [] pos=>if hf:f="zip" then chk (aq C f) λhg=>(cEs r C [a,b]).map λA=>⟨.zip A.f,λc w=>ER c w hf hg (A.ok c w)⟩ else cRI r C (.Tuple ts j q) (.Call (.Name f p) [a,b] [] pos)
 |tg,e=>cRI r C tg e
noncomputable def cCo(elt tg iter:Expr)(ifs:List Expr)(sc:Scope):Option (Cc C elt tg iter ifs sc):=(cR r C tg iter).bind λS=>got (zJ C sc tg) λq h=>got (cTg q.1 tg) λt ht=>chk (mK t q.2.1) λhl=>(cT r q.1 ifs).bind λT=>(r q.1 elt).map λA=>⟨.comp q.2.1 q.2.2 t S.f T.f A.f,λc w Y d z=>by
 obtain⟨B,nt,js⟩:=q;obtain⟨ds,q1,z⟩:=bS z;obtain⟨hz,z⟩:=iB z;obtain⟨out,q2,rfl⟩:=mS z;have R:=qZ c h;have e:=R.nt;subst e;exact⟨ds,out,js,t,T.f,A.f,rfl,R.ok,(S.ok c w).r q1,⟨λA s H fp=>BR (R.cx A s H fp) ht,λA' s H fp Y b z=>T.ok (R.cx A' s H fp) (w.blk R.same A' s H fp) z,λA' s H fp Y d z=>(A.ok (R.cx A' s H fp) (w.blk R.same A' s H fp)).v z⟩,hl,by rw[<-big_eq];exact hz,q2,iw (S.ok c w).s⟩,λa a m Y=>by cases m<;>rfl⟩
def ES{ifs:List Expr}(A:Cc C elt tg iter ifs sc){k:Nat}(c:CxC X C)(w:Wz X Z Γ C k):SdE X Z Γ (.ListComp elt [⟨tg,iter,ifs,0⟩] sc pos) A.f true:=ji (A.fin _ _) λY d q=>by
 obtain⟨ds,out,js,t,ifs',elt',rfl,h1,h2,h3,h4,h5,h6,h7⟩:=A.ok c w q;exact qY h1 c.calm h2 h3 h4 h5 h6 h7
noncomputable def cBi(f:Str)(p:Pos)(a:Expr)(as:List Expr)(pos:Pos)(hg:aq C f=true):Option (Ce C (.Call (.Name f p) (a::as) [] pos)):=got (ka f) λb h=>(cEs r C (a::as)).map λA=>⟨.bi b A.f,frB b,λc w=>HM c w hg h (A.ok c w)⟩
noncomputable def HP(f:Str)(p:Pos)(as:List Expr)(pos:Pos):Option (Ce C (.Call (.Name f p) as [] pos)):=chk (aq C f) λhg=>
 if hf:C.fns.contains f=true then (match as with
  |[]=>none
  |a::as=>(cEs r C (a::as)).map λA=>⟨.call f A.f,false,λc w=>Ar c w hf hg (A.ok c w)⟩)
 else if hf:f="isinstance" then (match as with
  |[a,.Name t _]=>chk (aq C t&&!isStar a) λhq=>(r C a).bind λA=>match h:C.xcs.lookup t with
   |some z=>some ⟨.isx A.f z.1 z.2,false,λc w=>EJ c w hf hg h hq (A.ok c w)⟩
   |none=>got (pB t) λT h=>some ⟨.isi A.f T,false,λc w=>EK c w hf hg h hq (A.ok c w)⟩
  |_=>none)
 else match as with
  |[]=>none
  |a::as=>if hf:f="sorted" then (match a,as with
    |.Call (.Name g sp) [b] [] qp,[]=>if h:g="set" then chk (aq C g) λhg'=>(cEs r C [b]).map λA=>⟨.bi .srt A.f,false,λc w=>EL c w hf hg h hg' (A.ok c w)⟩ else if h:g="list" then chk (aq C g) λhg'=>(cEs r C [b]).map λA=>⟨.bi .srtk A.f,false,λc w=>As c w hf hg h hg' (A.ok c w)⟩ else none
    |.Call (.Attribute o m apos) [] [] ipos,[]=>if hm:m="items" then chk (!aJ o&&(apos.endLine==ipos.line)) λhq=>(r C o).map λA=>⟨.srtp A.f,false,λc w=>Au c w hf hg hm hq (A.ok c w)⟩ else none
    |_,_=>none)
   else if hf:f="dict" then (match as with
    |[]=>chk (!isStar a) λhs=>(r C a).map λA=>⟨.bi .dict (.cons A.f .nil),true,λc w=>wQ c w hf hg hs (A.ok c w)⟩
    |_=>none)
   else match a,as with
    |a,as=>cBi r C f p a as pos hg
noncomputable def cMe(o:Expr)(m:Str)(apos:Pos)(as:List Expr)(pos:Pos):Option (Ce C (.Call (.Attribute o m apos) as [] pos)):=(r C o).bind λO=>
 if hm:C.vms.contains m=true then got C.vc λvc h=>chk (!aJ o&&decide (as.length<=20)&&(apos.endLine==pos.line)) λhq=>(cEs r C as).map λA=>⟨.vcall vc m O.f A.f,false,λc w=>wR w h hm hq (O.ok c w) (A.ok c w)⟩
 else match as with
  |[a]=>if hm:m="get" then chk (!aJ o&&!isStar a&&(apos.endLine==pos.line)) λhq=>(r C a).map λA=>⟨.get O.f A.f,false,λc w=>EM w hm hq (O.ok c w) (A.ok c w)⟩ else got (qM m) λg h=>chk (!aJ o&&!isStar a&&(apos.endLine==pos.line)) λhq=>(r C a).map λA=>⟨.me g O.f (.cons A.f .nil),frM g,λc w=>HN h hq (O.ok c w) (A.ok c w)⟩
  |_=>none
noncomputable def KP(a:Expr)(pos:Pos):(i:Expr)->Option (Ce C (.Subscript a i pos))
 |.Slice lo hi none _=>(r C a).bind λA=>(cO r C lo).bind λL=>(cO r C hi).map λH=>⟨.sl A.f L.f H.f,true,λc w=>HL (A.ok c w) (L.ok c w) (H.ok c w)⟩
 |i=>chk (!isSlice i) λh=>(r C a).bind λA=>(r C i).map λI=>⟨.idx A.f I.f,false,λc w=>EA w h (A.ok c w) (I.ok c w)⟩
noncomputable def HQ:(e:Expr)->Option (Ce C e)
 |.Constant (.int i) _ _=>some ⟨.k (.int i),false,λd d=>Al (λd=>Dz) λd=>rfl⟩
 |.Constant (.str x) _ _=>chk (cv x) λh=>some ⟨.k (.str x),false,λd d=>Al (λd=>DA (fU h)) λd=>rfl⟩
 |.Constant (.bool b) _ _=>some ⟨.k (.bool b),false,λd d=>Al (λd=>Hz) λd=>rfl⟩
 |.Constant .none _ _=>some ⟨.k .none,false,λd d=>Al (λd=>vx) λd=>rfl⟩
 |.Name x _=>match h:dJ C x with
  |some i=>some ⟨.v i,false,λc d=>Ej (dz c h)⟩
  |none=>chk (aq C x) λh=>chk (C.cst.contains x) λd=>some ⟨.g x,false,λc w=>KO c w h⟩
 |.BinOp a op b _=>got (cOp op) λo h=>(r C a).bind λA=>(r C b).map λB=>⟨.op o A.f B.f,true,λc w=>HK h (A.ok c w) (B.ok c w)⟩
 |.UnaryOp .USub a _=>(r C a).map λA=>⟨.neg A.f,false,λc w=>El (A.ok c w)⟩
 |.UnaryOp .Not a _=>(r C a).map λA=>⟨.not A.f,false,λc w=>Em (A.ok c w)⟩
 |.Compare a [op] [b] _=>got (iR op) λo h=>chk (!isSet b) λhs=>(r C a).bind λA=>(r C b).map λB=>⟨.cmp o A.f B.f,false,λc w=>Eo w h hs (A.ok c w) (B.ok c w)⟩
 |.Compare a [op,op'] [b,e] _=>got (iR op) λo h=>got (iR op') λo' h'=>chk (!isSet e) λhs=>(r C a).bind λA=>(r C b).bind λB=>(r C e).map λE=>⟨.chain o o' A.f B.f E.f,false,λc w=>wN w h h' hs (A.ok c w) (B.ok c w) (E.ok c w)⟩
 |.BoolOp op (a::b::es) pos=>cBo r C op a b es pos
 |.IfExp t a b _=>(r C t).bind λT=>(r C a).bind λA=>(r C b).map λB=>⟨.ite T.f A.f B.f,false,λc w=>Ey (T.ok c w) (A.ok c w) (B.ok c w)⟩
 |.Call g as [] pos=>match g with
  |.Name f p=>HP r C f p as pos
  |.Attribute o m apos=>cMe r C o m apos as pos
  |_=>none
 |.Attribute o x _=>eqS x "objects" λhx=>got C.vc λvc h=>chk (!aJ o) λhs=>(r C o).map λO=>⟨.vob vc O.f,false,λc w=>Ez w h hs hx (O.ok c w)⟩
 |.Subscript a i pos=>KP r C a pos i
 |.List es _=>(cEs r C es).map λA=>⟨.lst A.f,true,λc w=>EC (A.ok c w)⟩
 |.Dict [] [] _=>some ⟨.bi .dict (.cons (.lst .nil) .nil),true,λd d=>Ap⟩
 |.Tuple es _ _=>(cEs r C es).map λA=>⟨.tup A.f,false,λc w=>ED (A.ok c w)⟩
 |.JoinedStr (a::v::es) _=>(cF r C (a::v::es)).map λA=>⟨.bi .fst A.f,false,λc w=>EH (A.ok c w)⟩
 |.ListComp elt [⟨tg,iter,ifs,0⟩] sc _=>(cCo r C elt tg iter ifs sc).map λA=>⟨A.f,true,λc w=>ES C A c w⟩
 |_=>none
end
def cE:Nat->(C:Cs)->(e:Expr)->Option (Ce C e)
 |0=>λa a=>none
 |n+1=>HQ (cE n)
section
variable {k:Nat}{C:Cs}{e t:Expr}{a' b' t':E}{p:Pos}{nb nt':Bool}{o:Out}
def cZ{v}{t}{line}{env}(h:dq v=false):swapsWith v t line env=pure false:=by cases v<;>first|rfl|cases h
def kB{ifs:List Expr}(A:Cc C elt tg iter ifs sc)(S:Sto X x i)(c:CxC X C)(w:Wz X Z Γ C k)(hd:ev Z Γ .val Y A.f=some d):
  E1 X Y (.Assign [.Name x px] (.ListComp elt [⟨tg,iter,ifs,0⟩] sc p) pos) (.nx (Y.set i (.own d))):=by
 obtain⟨ds,out,js,t,ifs',elt',rfl,h1,h2,h3,h4,h5,h6,h7⟩:=A.ok c w hd;cases hsw:(X.env.blockKind==.function&&X.env.kindOf x==some .local&&px.line==p.line&&!(sc.names.any λ(n,k)=>n==x&&(k==.local||k==.cell)))with
 |false=>exact wz S (qY h1 c.calm h2 h3 h4 h5 h6 h7) (congrArg (pure (f:=Sem)) hsw)
 |true=>
  refine Ac S h1 c.calm h2 h3 h4 h5 h6 h7 ?_ (congrArg (pure (f:=Sem)) hsw);simp only[be0]at hsw;exact eq_of_beq hsw.1.1.2
def ET(S:Sto X x i)(hc:(!dq a)=true)(A:SdE X Z Γ a a' true)(q:ex Z Γ Y (.new i a')=some o):E1 X Y (.Assign [.Name x px] a pos) o:=by
 obtain⟨d,q1,q⟩:=bS q;obtain⟨ho,rfl⟩:=iS q;exact wz S (A.n rfl q1 ho) (cZ (nt hc))
def EU(S:Sto X x i)(hc:(!dq a)=true)(A:SdE X Z Γ a a' na)(q:ex Z Γ Y (.set i a')=some o):E1 X Y (.Assign [.Name x px] a pos) o:=by
 obtain⟨d,q1,rfl⟩:=mS q;exact Ec S (A.v q1) (cZ (nt hc))
def Av{ifs:List Expr}(c:CxC X C)(w:Wz X Z Γ C k)(S:Sto X x i)(A:Cc C elt tg iter ifs sc)(q:ex Z Γ Y (.new i A.f)=some o):E1 X Y (.Assign [.Name x px] (.ListComp elt [⟨tg,iter,ifs,0⟩] sc p) pos) o:=by
 obtain⟨d,q1,q⟩:=bS q;obtain⟨ho,rfl⟩:=iS q;exact kB A S c w q1
def Aw{ifs:List Expr}(c:CxC X C)(w:Wz X Z Γ C k)(S:Sto X x i)(A:Cc C elt tg iter ifs sc)(q:ex Z Γ Y (.set i A.f)=some o):E1 X Y (.Assign [.Name x px] (.ListComp elt [⟨tg,iter,ifs,0⟩] sc p) pos) o:=by
 obtain⟨d,q1,rfl⟩:=mS q;exact wA S (kB A S c w q1)
def Ax(w:Wz X Z Γ C k)(V:VarOk X x i)(hs:(!isSlice b)=true)(A:SdE X Z Γ a a' na)(B:SdE X Z Γ b b' nb)(q:ex Z Γ Y (.seti i b' a')=some o):E1 X Y (.Assign [.Subscript (.Name x p) b spos] a pos) o:=by
 obtain⟨d,q1,q⟩:=bS q;obtain⟨y,q2,q⟩:=bS q;unfold GZ at q;split at q
 .obtain⟨j,q3,rfl⟩:=mS q
  exact Ad V (A.v q1) (B.v q2) (nt hs) ‹_› q3
 .obtain⟨key,q3,q⟩:=bS q
  obtain⟨hz,rfl⟩:=iS q;exact Ae w.u1 V (A.v q1) (B.v q2) q3 (nt hs) ‹_› hz
 .cases q
def EV(V:VarOk X x i)(hm:m="append")(hq:((apos.endLine==cpos.line)&&!isStar a)=true)(A:SdE X Z Γ a a' na)(q:ex Z Γ Y (.app i a')=some o):E1 X Y (.Expr (.Call (.Attribute (.Name x p) m apos) [a] [] cpos) pos) o:=by
 subst hm;obtain⟨d,q1,q⟩:=bS q;unfold GY at q;split at q
 .obtain⟨hz,rfl⟩:=iS q
  exact Ee V (A.v q1) (nt (a2 hq).2) ‹_› (by rw[<-big_eq];exact hz) (a2 hq).1
 .cases q
def wU{f:Expr}{fp:Pos}(V:VarOk X x i)(hm:m="pop")(hf:f=.Constant .none j fp)(hq:((apos.endLine==cpos.line)&&!isStar a)=true)(A:SdE X Z Γ a a' na)(q:ex Z Γ Y (.dpopd i a')=some o):E1 X Y (.Expr (.Call (.Attribute (.Name x p) m apos) [a,f] [] cpos) pos) o:=by
 subst hm hf;obtain⟨d,q1,q⟩:=bS q;unfold vj at q;split at q
 .obtain⟨key,q2,rfl⟩:=mS q
  exact wK V (A.v q1) (λb=>vx) q2 (nt (a2 hq).2) rfl ‹_› (a2 hq).1
 .cases q
def Ay(V:VarOk X x i)(hm:m="pop")(hq:((apos.endLine==cpos.line)&&!isStar a)=true)(A:SdE X Z Γ a a' na)(q:ex Z Γ Y (.dpop i a')=some o):E1 X Y (.Expr (.Call (.Attribute (.Name x p) m apos) [a] [] cpos) pos) o:=by
 subst hm;obtain⟨d,q1,q⟩:=bS q;unfold BL at q;split at q
 .obtain⟨key,q2,q⟩:=bS q
  obtain⟨hz,rfl⟩:=iS q;exact Aj V (A.v q1) q2 (nt (a2 hq).2) ‹_› hz (a2 hq).1
 .cases q
end
section
structure Cst(C:Cs)(st:Stmt) where
 f:S
 ok:∀{Z Γ k X},CxC X C->Wz X Z Γ C k->PassesOwn (model X.prog X.w) X.A X.env X.xe->∀{Y o},ex Z Γ Y f=some o->E1 X Y st o
structure Css(C:Cs)(sts:List Stmt) where
 f:Ss
 ok:∀{Z Γ k X},CxC X C->Wz X Z Γ C k->PassesOwn (model X.prog X.w) X.A X.env X.xe->∀{Y o},exs Z Γ Y f=some o->Ep X Y sts o
variable (r:∀C e,Option (Ce C e))(C:Cs)
noncomputable def cAs(y:Str)(py:Pos)(pos:Pos):(v:Expr)->Option (Cst C (.Assign [.Name y py] v pos)):=λv=>got (eU C y) λj h=>match v with
 |.ListComp elt [⟨tg,iter,ifs,0⟩] sc _=>(cCo r C elt tg iter ifs sc).map λA=>if C.mts.contains j then⟨.new j A.f,λc w a a a q=>Av c w (dU c h) A q⟩ else⟨.set j A.f,λc w a a a q=>Aw c w (dU c h) A q⟩
 |v=>chk (!dq v) λhc=>(r C v).bind λA=>if C.mts.contains j then (match A with
   |⟨f,true,ok⟩=>some ⟨.new j f,λc w a a a q=>ET (dU c h) hc (ok c w) q⟩
   |_=>none)else some ⟨.set j A.f,λc w a a a q=>EU (dU c h) hc (A.ok c w) q⟩
noncomputable def BV(rs:∀C sts,Option (Css C sts)):(st:Stmt)->Option (Cst C st)
 |.Assign [.Name y py] v pos=>cAs r C y py pos v
 |.Assign [.Subscript (.Name x _) b _] a _=>chk (!isSlice b) λhs=>got (dJ C x) λi h=>(r C a).bind λA=>(r C b).map λB=>⟨.seti i B.f A.f,λc w g g g q=>Ax w (dz c h) hs (A.ok c w) (B.ok c w) q⟩
 |.Expr (.Call (.Attribute (.Name x _) m apos) [a] [] cpos) _=>chk ((apos.endLine==cpos.line)&&!isStar a) λhq=>got (dJ C x) λi h=>(r C a).bind λA=>if hm:m="append" then some ⟨.app i A.f,λc w g g g q=>EV (dz c h) hm hq (A.ok c w) q⟩ else if hm:m="pop" then some ⟨.dpop i A.f,λc w g g g q=>Ay (dz c h) hm hq (A.ok c w) q⟩ else none
 |.Expr (.Call (.Attribute (.Name x _) m apos) [a,.Constant .none _ _] [] cpos) _=>chk ((apos.endLine==cpos.line)&&!isStar a) λhq=>got (dJ C x) λi h=>(r C a).bind λA=>if hm:m="pop" then some ⟨.dpopd i A.f,λc w g g g q=>wU (dz c h) hm rfl hq (A.ok c w) q⟩ else none
 |.If t a b _=>(r C t).bind λT=>(rs C a).bind λA=>(rs C b).map λB=>⟨.ifs T.f A.f B.f,λc w po Y o q=>by
  obtain⟨d,q1,q⟩:=bS q;obtain⟨t,rfl,ht⟩:=(T.ok c w).t q1;exact HF ht (λz=>by subst z;exact A.ok c w po q) λz=>by subst z;exact B.ok c w po q⟩
 |.For tg iter body [] _=>got (cTg C tg) λt h=>(cI r C iter).bind λS=>(rs C body).map λB=>⟨.fors t S.f B.f,λc w po Y o q=>by
  obtain⟨ds,q1,q⟩:=bS q;exact Ed ((S.ok c w).w q1) (BR c h) (λY' o' q'=>B.ok c w po q') q c.calm po (iw (S.ok c w).s)⟩
 |.Return (some e) _=>(r C e).map λA=>⟨.ret A.f,λc w g g g q=>by
  obtain⟨d,q1,rfl⟩:=mS q;exact Eb ((A.ok c w).v q1)⟩
 |.Pass _=>some ⟨.pass,λg g g g g q=>by cases q;exact Ab⟩
 |.Raise ..=>some ⟨.stuck,λg g g g g q=>nn q⟩
 |_=>none
noncomputable def HR(s:∀C st,Option (Cst C st)):(sts:List Stmt)->Option (Css C sts)
 |[]=>some ⟨.nil,λa a a a a q=>by cases q;exact DZ⟩
 |st::sts=>(s C st).bind λA=>(HR s sts).map λB=>⟨.cons A.f B.f,λc w po Y o q=>by
  obtain⟨o1,q1,q⟩:=bS q;cases o1 with
  |nx Y1=>exact wx (A.ok c w po q1) (B.ok c w po q)
  |rt d=>cases q;exact wy (A.ok c w po q1)⟩
end
noncomputable def cSs:Nat->(C:Cs)->(sts:List Stmt)->Option (Css C sts)
 |0=>λa a=>none
 |n+1=>λC=>HR C (λC=>BV (cE 60) C (cSs n))
section
variable {k:Nat}
def gM{G:Hp}{dfn:Def}:∀{ds:List D}{vs:List V},Same G H->Das K G H dfn.lent ds vs->ds.length=dfn.lent.length->dfn.slots=N.length->vs.length<=N.length->EnvD K G H G H (start N vs) (cw dfn ds):=by
 intro ds vs s r hl hs hn;have len:=r.length;have rep:∀(i n:Nat) sl,(List.replicate n Sl.no)[i]?=some sl->sl=.no:=λi n sl h=>by
  rw[List.getElem?_replicate]at h;split at h
  .cases h;rfl
  .cases h
 have at':∀(fl:List Bool)(ds:List D)(vs:List V),Das K G H fl ds vs->ds.length=fl.length->∀(i:Nat) sl,((fl.zip ds).map (λp=>if p.1 then Sl.lent p.2 else .dat p.2))[i]?=some sl->
   ∃d v,vs[i]?=some v/\((sl=.lent d/\Dr K G H d v)\/(sl=.dat d/\Dp K G d v)):=by
  intro fl ds vs r
  induction r with
  |nil=>intro hl i sl h;simp at h
  |@cons fl d v ds vs h1 h2 _ ih=>
   intro hl i sl h;cases fl with
   |nil=>simp at hl
   |cons b fl=>
    cases i with
    |zero=>
     simp at h;refine⟨d,v,rfl,?_⟩;cases b with
     |true=>exact .inl ⟨by simpa using h.symm,h2⟩
     |false=>exact .inr ⟨by simpa using h.symm,h1 rfl⟩
    |succ i=>simpa using ih (by simpa using hl) i sl (by simpa using h)
 have zl:((dfn.lent.zip ds).map (λp=>if p.1 then Sl.lent p.2 else Sl.dat p.2)).length=vs.length:=by simp[len,<-hl]
 have slot:∀(i:Nat) sl,(cw dfn ds)[i]?=some sl->sl=.no\/∃d v,(start N vs)[i]?=some (some v)/\((sl=.lent d/\Dr K G H d v)\/(sl=.dat d/\Dp K G d v)):=λi sl h=>by
  unfold cw at h
  by_cases hi:i<vs.length
  .rw[gl0 (by rw[zl];exact hi)]at h
   obtain⟨d,v,e,q⟩:=at' dfn.lent ds vs r hl i sl h;refine .inr ⟨d,v,?_,q⟩;unfold start;rw[gl0 (by simpa using hi),gm0,e];rfl
  .rw[List.getElem?_append_right (by rw[zl];omega)]at h
   exact .inl (rep _ _ _ h)
 refine⟨.refl s,?_,λi d h=>?_,λi d h=>?_,λi d h=>?_,λi j d e p h=>?_⟩
 .unfold start cw
  simp[hs,len,<-hl]
 .rcases slot i _ h with z|⟨d',v,e,z|z⟩
  .cases z
  .cases z.1
  .cases z.1;exact⟨v,e,z.2⟩
 .rcases slot i _ h with z|⟨d',v,e,z|z⟩
  .cases z
  .cases z.1;exact⟨v,e,z.2⟩
  .cases z.1
 .rcases slot i _ h with z|⟨d',v,e,z|z⟩
  .cases z
  .cases z.1
  .cases z.1
 .rcases slot i _ h with z|⟨d',v,e,z|z⟩
  .cases z
  .cases z.1
  .cases z.1
noncomputable def tW(fns cst:List Str)(lent:List Bool)(st:Stmt)(vc:Option Nat:=none)(vms:List Str:=[])(xcs:List (Str×Nat×List (Nat×Bool)):=[]):Option Def:=
 (aT st).bind λ(ps,body,sc)=>(cSs 60 (mL fns cst ps body sc vc vms xcs) body).map λb=>{lent,slots:=(ps++ao sc ps).length,body:=b.f}
structure Az(P:Program)(w:World)(K:Fg)(mg:Str->Option Value)(base:Heap)(Z:Fs)(Γ:List (Str×D))(fns:List Str)(vc:Option Nat)(vms:List Str)(xcs:List (Str×Nat×List (Nat×Bool)))(k:Nat):Prop where
 blt:∀x∈bltNames,mg x=Option.none
 fns:∀x,fns.contains x=true->∀J,Z x=some J->FnZ P w K mg base k x J
 gl:∀x d,Γ.lookup x=some d->∃u v,mg x=some u/\RelV v u/\∀G,Dp K G d v
 vcl:∀c,vc=some c->Cls K c/\NoAttr K c "objects"
 vf:∀c m,vc=some c->vms.contains m=true->∀J,Z (ah m)=some J->FnZv P w K mg base k c m J
 xc:∀t c tab,xcs.lookup t=some (c,tab)->XcZ K mg t c tab
noncomputable def AA(Z:Fs)(Γ:List (Str×D))(d:Def):Fn:=⟨d.lent,λds=>if ds.length=d.lent.length then (exs Z Γ (cw d ds) d.body).bind Out.val else .none⟩
set_option tactic.hygienic true in
def BW{ps:List Str}{dfn:Def}{vc:Option Nat}{xcs:List (Str×Nat×List (Nat×Bool))}(F:Fun K x qual st f fd)(S:aU (ps++ao (defScope st) ps) ps (defScope st))(hp:aT st=some (ps,defBody st,defScope st))(hd:tW fns cst lent st vc vms xcs=some dfn)(hlen:lent.length=ps.length)
  (M:Az P w K mg base Z Γ fns vc vms xcs k):FnOk P w K mg base CX0 (k+1) f fd ps (Pur K (AA Z Γ dfn)):=by
 unfold tW at hd;rw[hp,bs0]at hd;obtain⟨b,hb,rfl⟩:=mx0 (show (cSs 60 (mL fns cst ps (defBody st) (defScope st) vc vms xcs) (defBody st)).map _=some dfn from hd);refine F.ok S (λvs H Q E h=>?_) (λcdv A outer s H vs Q E hr h=>?_)
 .obtain⟨ds,d,G,h1,_,r,_⟩:=h
  have h1:(if ds.length=lent.length then _ else .none)=some d:=h1;split at h1
  .rename_i hl;rw[<-r.length,hl,hlen]
  .cases h1
 .obtain⟨ds,d,G,h1,sm,r,kq⟩:=h
  have h1:(if ds.length=lent.length then (exs Z Γ (cw ⟨lent,(ps++ao (defScope st) ps).length,b.f⟩ ds) b.f).bind Out.val else .none)=some d:=h1;split at h1
  .rename_i hl
   obtain⟨o,h2,h3⟩:=bx0 h1;have hpre:=congrArg List.length S.pre;rw[List.length_take]at hpre;have C:CxC (dG CX0 P w K mg base (ps++ao (defScope st) ps) qual (defScope st) f cdv A outer s H E).nox (mL fns cst ps (defBody st) (defScope st) vc vms xcs):=by
    refine⟨rfl,S.nd,λy kd e ek=>?_,λy kd e ek=>⟨?_,.inl rfl⟩,λy e=>e,λy e=>e,rfl,S.kind⟩
    .rcases ek with rfl|rfl|rfl
     .exact .inl e
     .exact .inr (.inl e)
     .exact .inr (.inr e)
    .rcases ek with rfl|rfl
     .exact .inl e
     .exact .inr e
   have W:Wz (dG CX0 P w K mg base (ps++ao (defScope st) ps) qual (defScope st) f cdv A outer s H E).nox Z Γ (mL fns cst ps (defBody st) (defScope st) vc vms xcs) k:=⟨M.blt,M.fns,M.gl,hr,M.vcl,M.vf,M.xc⟩;have body:=b.ok C W PassesOwn.never h2;refine⟨_,body,G,H,G,gM sm r hl rfl (by rw[<-r.length,hl,hlen];omega),?_⟩;cases o with
   |nx Y'=>
    cases h3;exact λG' H' σ' env a=>kq .non G' H' env.ext .none
   |rt d'=>
    cases h3;exact λv G' H' dv e=>kq v G' H' e dv
  .cases h1
structure pY(K:Fg)(mg:Str->Option Value)(fns cst:List Str)(vc:Option Nat)(vms:List Str)(xcs:List (Str×Nat×List (Nat×Bool)))(x:Str)(d:Def):Prop where
 ex:∃st f fd ps,Fun K x x st f fd/\mg x=some (.ref f)/\Binds K fd ps []/\aU (ps++ao (defScope st) ps) ps (defScope st)/\aT st=some (ps,defBody st,defScope st)/\tW fns cst d.lent st vc vms xcs=some d/\d.lent.length=ps.length
structure pZ(K:Fg)(fns cst:List Str)(c:Nat)(vms:List Str)(xcs:List (Str×Nat×List (Nat×Bool)))(m:Str)(d:Def):Prop where
 nm:m≠"objects"/\m≠"numbers"
 ex:∃st f fd ps,Fun K m (ah m) st f fd/\iJ K c m f/\Binds K fd ps []/\aU (ps++ao (defScope st) ps) ps (defScope st)/\aT st=some (ps,defBody st,defScope st)/\tW fns cst d.lent st (some c) vms xcs=some d/\d.lent.length=ps.length
structure Base(K:Fg)(mg:Str->Option Value)(Γ:List (Str×D))(vc:Option Nat)(xcs:List (Str×Nat×List (Nat×Bool))):Prop where
 blt:∀x∈bltNames,mg x=Option.none
 gl:∀x d,Γ.lookup x=some d->∃u v,mg x=some u/\RelV v u/\∀G,Dp K G d v
 vcl:∀c,vc=some c->Cls K c/\NoAttr K c "objects"
 xc:∀t c tab,xcs.lookup t=some (c,tab)->XcZ K mg t c tab
theorem cH{prog:List (Str×Def)}{vc:Option Nat}{xcs:List (Str×Nat×List (Nat×Bool))}(B:Base K mg Γ vc xcs)(defs:∀x d,fns.contains x=true->prog.lookup x=some d->pY K mg fns cst vc vms xcs x d)
  (mets:∀c m d,vc=some c->vms.contains m=true->prog.lookup (ah m)=some d->pZ K fns cst c vms xcs m d):
  ∀k x J,den prog Γ k x=some J->(fns.contains x=true->FnZ P w K mg base k x J)/\∀c m,x=ah m->vc=some c->vms.contains m=true->FnZv P w K mg base k c m J
 |0,x,J,h=>by cases h
 |k+1,x,J,h=>by
  obtain⟨d,h1,rfl⟩:=mx0 (show (prog.lookup x).map _=some J from h);have M:Az P w K mg base (den prog Γ k) Γ fns vc vms xcs k:=⟨B.blt,λy hy J' q=>(cH B defs mets k y J' q).1 hy,B.gl,B.vcl,λc m hc hm J' q=>(cH B defs mets k _ J' q).2 c m rfl hc hm,B.xc⟩;refine⟨λhx=>?_,λc m e hc hm=>?_⟩
  .obtain⟨st,f,fd,ps,F,hm,hb,S,hp,hd,hl⟩:=(defs x d hx h1).ex
   exact⟨⟨f,fd,ps,hm,F.kp,hb,BW F S hp hd hl M⟩⟩
  .subst e
   have Z:=mets c m d hc hm h1;obtain⟨st,f,fd,ps,F,hm,hb,S,hp,hd,hl⟩:=Z.ex;exact⟨Z.nm,⟨f,fd,ps,hm,hb,BW F S hp (by rw[hc];exact hd) hl M⟩⟩
end
noncomputable def rq(K:Fg):Sp:=λvs H Q b=>∃(a:Addr)(ns:List Int),vs=[.ref a]/\SqL K H a (ns.map V.int)/\ns.length<=63/\∀H',Q (.bl true) H'
mutual
inductive IsK (h:Heap):Nat->D->Value->Prop
 |int {n:Nat} (i:Int) (t:Tok):IsK h n (.int i) (.int i t)
 |str {n:Nat} (x:Str) (t:Tok):PyData.strOk x=true->IsK h n (.str x) (.str x t)
 |tup {n:Nat}{a:Addr}{o:Obj}{items:List Value}{m:Nat}{ds:List D}:h.get? a=some o->o.cls=.type "tuple"->o.data=.seq items.toArray m->IsKs h n ds items->IsK h (n+1) (.tuple ds) (.ref a)
inductive IsKs (h:Heap):Nat->List D->List Value->Prop
 |nil {n:Nat}:IsKs h n [] []
 |cons {n:Nat}{d:D}{v:Value}{ds:List D}{vs:List Value}:IsK h n d v->IsKs h n ds vs->IsKs h n (d::ds) (v::vs)
end
def isk{P:Nat->D->Value->Prop}{R:Nat->List D->List Value->Prop}(hi:∀n i t,P n (.int i) (.int i t))(hs:∀n x t,PyData.strOk x=true->P n (.str x) (.str x t))
  (ht:∀{n a o items m ds},h.get? a=some o->o.cls=.type "tuple"->o.data=.seq (List.toArray items) m->R n ds items->P (n+1) (.tuple ds) (.ref a)) (h0:∀n,R n [] []) (hc:∀{n d v ds vs},P n d v->R n ds vs->R n (d::ds) (v::vs)):
  (∀{n d v},IsK h n d v->P n d v)/\∀{n ds vs},IsKs h n ds vs->R n ds vs:=
 ⟨λx=>IsK.rec (motive_1:=λn d v e=>P n d v) (motive_2:=λn ds vs e=>R n ds vs) (λi t=>hi _ i t) (λx t o=>hs _ x t o) (λa b c e r=>ht a b c r) (h0 _) (λe e a b=>hc a b) x,
  λx=>IsKs.rec (motive_1:=λn d v e=>P n d v) (motive_2:=λn ds vs e=>R n ds vs) (λi t=>hi _ i t) (λx t o=>hs _ x t o) (λa b c e r=>ht a b c r) (h0 _) (λe e a b=>hc a b) x⟩
def IsK.inj{n m}{d e}{v:Value}(a:IsK h n d v)(b:IsK h m e v):d=e:=(isk (P:=λf d v=>∀{m e},IsK h m e v->d=e) (R:=λf ds vs=>∀{m es},IsKs h m es vs->ds=es) (λn i t m e b=>by cases b;rfl) (λn x t f m e b=>by cases b;rfl) (λh1 f h3 r m e b=>by
   cases b with
   |tup k1 _ k3 k4=>
    rw[h1]at k1;cases k1;rw[h3]at k3;have e:=k3;simp only[Data.seq.injEq]at e;have e:=congrArg Array.toList e.1;simp only[List.toList_toArray]at e;subst e;rw[r k4]) (λn m es b=>by cases b;rfl) λa r m es b=>by
   cases b with
   |cons c d=>rw[a c,r d]).1 a b
def IsK.keeps{h h'}(k:∀a o items m,h.get? a=some o->o.data=.seq items m->h'.get? a=some o){v:Value}(x:IsK h n d v):IsK h' n d v:=((isk (λb i t=>.int i t) (λb x t o=>.str x t o) (λh1 h2 h3 r=>.tup (k _ _ _ _ h1 h3) h2 h3 r) (λb=>.nil) λa r=>.cons a r)).1 x
def IsK.reads{v:Value}(x:IsK h n d v):∃as,Reads h v (PySem.W.kqdP (toW d)) as:=
 (isk (P:=λa d v=>∃as,Reads h v (PySem.W.kqdP (toW d)) as) (R:=λa ds vs=>∃as,ReadsAll h vs (PySem.W.kqdPs (eV ds)) as) (λa i t=>⟨_,Reads.int i t⟩) (λa x t a=>⟨_,Reads.str x t⟩) (λh1 h2 h3 ⟨as,w⟩=>⟨_,Reads.tuple h1 h2 h3 (by simpa using w)⟩) (λa=>⟨_,.nil⟩) λ⟨_,w⟩ ⟨_,u⟩=>⟨_,.cons w u⟩).1 x
def IsK.ok{v:Value}(x:IsK h n d v):okS n d=true:=
 (isk (P:=λn d b=>okS n d=true) (R:=λn ds b=>ds.all (okS n)=true) (λn i t=>by cases n<;>rfl) (λn x t b=>by cases n<;>rfl) (λb b b r=>r) (λb=>rfl) λa r=>by rw[List.all_cons,a,r];rfl).1 x
mutual
noncomputable def nG(w:World):D->Int
 |.int i=>hashInt i
 |.str x=>hashStr w x
 |.tuple ds=>reduceHash (Builtin.Tuple.tupleHashOf (cU w ds))
 |_=>0
noncomputable def cU(w:World):List D->List Int
 |[]=>[]
 |d::r=>nG w d::cU w r
end
mutual
noncomputable def nI:D->Nat
 |.tuple ds=>lH ds+1
 |_=>1
noncomputable def lH:List D->Nat
 |[]=>0
 |d::r=>nI d+lH r
end
def IsK.kok{v:Value}(x:IsK h n d v):PySem.W.kqdOk n (toW d)=true:=
 (isk (P:=λn d b=>PySem.W.kqdOk n (toW d)=true) (R:=λn ds b=>(eV ds).all (PySem.W.kqdOk n)=true) (λn i t=>by cases n<;>rfl) (λn x t o=>by cases n<;>exact o) (λb b b r=>r) (λb=>rfl) λ{n d _ ds _} a r=>by
  show (PySem.W.kqdOk _ (toW _)&&(eV _).all (PySem.W.kqdOk _))=true;rw[a,r];rfl).1 x
section
variable {E:Value->Shared->Prop}
def tX{A:Around}(one:∀{d:D}{v:Value}{s:Shared}{Q:Int->Shared->Prop},s.heap=h->IsK h n d v->Q (nG w d) {s with toks:=s.toks+nI d}->wpAny (model prog w) A (pyHash v) Q E s):
  ∀(vs:List Value)(ds:List D)(acc:Array Int)(s:Shared)(Q:Array Int->Shared->Prop),s.heap=h->IsKs h n ds vs->Q (acc++(cU w ds).toArray) {s with toks:=s.toks+lH ds}->
   wpAny (model prog w) A (forIn vs acc λx acc=>do let i ←pyHash x;pure (ForInStep.yield (acc.push i))) Q E s:=by
 intro vs
 induction vs with
 |nil=>
  intro ds acc s Q e r q;cases r;rw[List.forIn_nil];refine wq0 ?_;have:acc++(cU w []).toArray=acc:=by simp[cU]
  rw[this]at q;exact q
 |cons v vs ih=>
  intro ds acc s Q e r q;cases r with
  |@cons _ d _ ds _ a b=>
   rw[List.forIn_cons];refine wb0 (wb0 (one e a (wq0 ?_)));refine ih ds _ _ Q e b ?_;have e1:acc.push (nG w d)++(cU w ds).toArray=acc++(cU w (d::ds)).toArray:=by simp[cU]
   rw[e1];show Q _ {s with toks:=s.toks+nI d+lH ds};rw[Nat.add_assoc];exact q
def wV:∀{n:Nat}{A:Around}{d:D}{v:Value}{s:Shared}{Q:Int->Shared->Prop},A.units+n<cLine+1->IsK s.heap n d v->Q (nG w d) {s with toks:=s.toks+nI d}->wpAny (model prog w) A (pyHash v) Q E s:=by
 intro n
 induction n with
 |zero=>
  intro A d v s Q hu hk q;cases hk with
  |int i t=>exact wpAny_pyHash_int q
  |str x t _=>exact wpAny_pyHash_str q
 |succ n ih=>
  intro A d v s Q hu hk q;cases hk with
  |int i t=>exact wpAny_pyHash_int q
  |str x t _=>exact wpAny_pyHash_str q
  |@tup _ a o items m ds h1 h2 h3 h4=>
   have hT:s.TypeIs (.ref a) "tuple":=⟨o,h1,h2⟩;show wpAny (model prog w) A (pyHashByItsType (.ref a)) Q E s;refine PySem.W.pyHash_slot hT F.slot_tuple_hash F.entry_tuple_hash (F.args_tuple_hash_1 _) (by decide) (.inr (by omega)) ?_;unfold Builtin.«tuple.__hash__»;refine wb0 (wpAny_of_eq (a:=(.ref a,[])) rfl ?_);dsimp only;unfold Builtin.Tuple.tupleItemsOf;refine wb0 (wb0 (wpAny_seqItems h1 h3 (wq0 ?_)));refine wb0 ?_;rw[<-Array.forIn_toList];refine tX (A:=A.in1) (n:=n) (h:=s.heap) (λe a q=>ih (by show A.units+1+n<cLine+1;omega) (by rw[e];exact a) q) items ds #[] s _ rfl h4 ?_
   unfold retInt
   wp_walk
   refine⟨_,_,rfl,?_⟩;have e:(#[]++(cU w ds).toArray:Array Int).toList=cU w ds:=by simp
   rw[e];exact q
def wW{A:Around}{e:D}{a b:Addr}{Q:Bool->Shared->Prop}(hu:A.units+64<cLine)(h1:IsK s.heap 8 d (.ref a))(h2:IsK s.heap 8 e (.ref b))(q:Q (decide (d=e)) s):wpAny (model prog w) A (eqBool (.ref a) (.ref b)) Q E s:=by
 unfold eqBool;refine wh0 ?_
 by_cases c:a=b
 .subst c
  rw[if_pos (by simp)];refine wb0 (wpAny_rule (wq0 ?_));rw[IsK.inj h1 h2]at q
  simpa using q
 .rw[if_neg (by simpa using c)]
  obtain⟨as,ra⟩:=h1.reads;obtain⟨bs,rb⟩:=h2.reads;have ev:PyData.eqv (PySem.W.kqdP (toW d)) (PySem.W.kqdP (toW e))=decide (d=e):=by
   have z:=PySem.W.kqd_eqv 8 (toW d) (toW e) 8 h1.kok h2.kok
   by_cases c':d=e
   .rw[dt0 c'];exact z.mpr (by rw[c'])
   .rw[df0 c']
    exact bf0 λy=>c' (lz 8 8 d e h1.ok h2.ok (z.mp y))
  have key:=eq_dataH (prog:=prog) (w:=w) (A:=A) (E:=E) (Q:=λv s'=>wpAny (model prog w) A (truthOfDropped v) Q E s') ra rb (cg h1.kok) (cg h2.kok) hu (by
   rw[ev];exact wpAny_truthy_bool q)
  exact wb0 key
def AB:∀{n m:Nat}{A:Around}{d:D}{v:Value}{s:Shared}{Q:Bool->Shared->Prop},n<=m->IsK s.heap n d v->Q true s->wpAny (model prog w) A (eqIsQuiet m v) Q E s:=by
 intro n
 induction n with
 |zero=>
  intro m A d v s Q _ hk q;cases hk with
  |int i t=>cases m<;>exact wq0 q
  |str x t _=>cases m<;>exact wq0 q
 |succ n ih=>
  intro m A d v s Q hm hk q;cases hk with
  |int i t=>cases m<;>exact wq0 q
  |str x t _=>cases m<;>exact wq0 q
  |@tup _ a o items k ds h1 h2 h3 h4=>
   obtain⟨m,rfl⟩:∃m',m=m'+1:=⟨m-1,by omega⟩;have hT:s.TypeIs (.ref a) "tuple":=⟨o,h1,h2⟩;unfold eqIsQuiet;refine wb0 (wpAny_specialOf hT F.slot_tuple_eq.lookup ?_);refine wb0 (wpAny_isInstance hT PySem.isSubtype_tuple_tuple ?_);rw[if_neg (by decide)];show wpAny (model prog w) A (seqItems? (.ref a) >>= _) Q E s;refine wb0 (wpAny_seqItems h1 h3 ?_);show wpAny (model prog w) A (forIn items.toArray ((none:Option Bool),()) _ >>= _) Q E s;rw[<-Array.forIn_toList];have all:∀(vs:List Value)(es:List D)(Q':Option Bool×Unit->Shared->Prop),IsKs s.heap n es vs->Q' (none,()) s->
     wpAny (model prog w) A (forIn vs ((none:Option Bool),()) λy __s=>do
      let __do_lift ←eqIsQuiet m y
      if (!__do_lift)=true then pure (ForInStep.done (some false,()))else pure (ForInStep.yield (none,()))) Q' E s:=by
    intro vs
    induction vs with
    |nil=>intro es Q' _ q';rw[List.forIn_nil];exact wq0 q'
    |cons v vs ih2=>
     intro es Q' hk q';cases hk with
     |cons a b=>
      rw[List.forIn_cons];refine wb0 (wb0 (ih (by omega) a ?_));rw[if_neg (by decide)];exact wq0 (ih2 _ Q' b q')
   exact wb0 (all items ds _ h4 (wq0 q))
noncomputable def nJ(prog:Program)(w:World):HeapKind prog w D where
 is:=λh d a=>IsK h 8 d (.ref a)
 hash:=nG w
 draws:=nI
 room:=λA=>A.units+64<cLine
 inj:=λh1 h2=>IsK.inj h1 h2
 keeps:=λ{h h' k a d o es ep} hk ho hd sb=>hk.keeps λb u items m e c=>(sb.2 b (λz=>by
  subst z;rw[ho]at e;cases e;rw[hd]at c;cases c)).trans e
 pyHash:=λ{A E s k a Q} hu hk q=>wV (by omega) hk q
 eqBool:=λ{A E s x y a b Q} hu h1 h2 q=>wW hu h1 h2 q
 quiet:=λ{A E s k a Q} hk q=>AB (nr0 _) hk q
end
noncomputable abbrev Vd:=List (Addr×Addr×Addr)
def parts(d:Vd):List Addr:=d.flatMap λp=>[p.2.1,p.2.2]
def er(H:Hp)(ps:List Addr):Hp:=λb=>if b∈ps then .none else H b
def kC{b:Addr}(h:b∈ps):er H ps b=.none:=if_pos h
def er_out{b:Addr}(h:b∉ps):er H ps b=H b:=if_neg h
def aS{b:Addr}{o}(h:er H ps b=some o):b∉ps/\H b=some o:=by
 by_cases q:b∈ps
 .rw[kC q]at h;cases h
 .rw[er_out q]at h;exact⟨q,h⟩
def az :Same (er H ps) H:=λb o h=>(aS h).2
def gN{d:Vd}{h:Nat}{a l n}(e:d[h]?=some (a,l,n)):l∈parts d/\n∈parts d:=
 ⟨List.mem_flatMap.mpr ⟨_,mg0 e,by simp⟩,List.mem_flatMap.mpr ⟨_,mg0 e,by simp⟩⟩
def nK{d:Vd}{b:Addr}(e:b∈parts d):∃(h:Nat)(a l n:Addr),d[h]?=some (a,l,n)/\(b=l\/b=n):=by
 obtain⟨⟨a,l,n⟩,h1,h2⟩:=List.mem_flatMap.mp e;obtain⟨h,hh⟩:=List.getElem?_of_mem h1;exact⟨h,a,l,n,hh,by simpa using h2⟩
inductive fi:Nat->List (D×Addr×Value)->List Addr->List D->Prop
 |nil {k:Nat}:fi k [] [] []
 |cons {k:Nat}{t:Tok}{d:D}{a:Addr}{xs:List (D×Addr×Value)}{as:List Addr}{ds:List D}:fi (k+1) xs as ds->fi k ((d,a,.int k t)::xs) (a::as) (d::ds)
noncomputable def bU(P:Program)(w:World)(n:Addr)(as:List Addr)(objs:List D):Heap->Prop:=λh=>
 (n==sysModules)=false/\∃xs:List (D×Addr×Value),fi 0 xs as objs/\objs.length<=1000000/\
  ∃o es ep,h.get? n=some o/\o.ExactDict/\o.data=.dict es ep/\es.toList=xs.map (entryOfKey (nJ P w))/\(xs.map (·.1)).Nodup
noncomputable def okK:Nat->D->Bool
 |_,.int _=>true
 |_,.str _=>true
 |n+1,.tuple ds=>ds.all (okK n)
 |_,_=>false
def jS:D->Bool
 |.tuple _=>true
 |_=>false
structure VS(P:Program)(w:World)(K:Fg)(C:Addr)(G H:Hp)(d:Vd)(U:List (List D)):Prop where
 len:d.length=U.length
 nd:(parts d).Nodup
 at':∀(h:Nat) a l n,d[h]?=some (a,l,n)->∃dx objs,U[h]?=some objs/\G a=some (.ins C dx (vfs l n h))/\H dx=some (.own a)/\
  ∃as:List Addr,H l=some (.lst (as.map .ref))/\Dps K G objs (as.map .ref)/\H n=some (.ext (bU P w n as objs))/\∀d∈objs,okK 8 d=true/\jS d=true
 uni:∀a C' dx fs,H a=some (.ins C' dx fs)->∃(h:Nat)(l n:Addr),d[h]?=some (a,l,n)
 out:∀b∈parts d,G b=Option.none
def VS.part{C:Addr}{G H}{d:Vd}{U:List (List D)}(v:VS P w K C G H d U){b:Addr}(h:b∈parts d):∃o,H b=some o:=by
 obtain⟨i,a,l,n,e,q⟩:=nK h;obtain⟨dx,objs,_,_,_,as,h1,_,h2,_⟩:=v.at' i a l n e;rcases q with rfl|rfl
 .exact⟨_,h1⟩
 .exact⟨_,h2⟩
def VS.step{C:Addr}{G:Hp}{d:Vd}{U:List (List D)}(v:VS P w K C G H d U)(e:Ext G H G' H'):VS P w K C G' H' d U:=
 ⟨v.len,v.nd,λh a l n q=>by
  obtain⟨dx,objs,h1,h2,h3,as,h4,h5,h6,h7⟩:=v.at' h a l n q;exact⟨dx,objs,h1,e.gg _ _ h2,e.hh _ _ h3,as,e.hh _ _ h4,h5.mono e.gg,e.hh _ _ h6,h7⟩,
  λa C' dx fs q=>v.uni a C' dx fs (e.ni a C' dx fs q),λb hb=>let ⟨o,ho⟩:=v.part hb;e.nw b o (v.out b hb) ho⟩
theorem Ext.er{G H G' H'}(e:Ext G H G' H')(hp:∀b∈ps,G b=.none/\∃o,H b=some o)(s:Same G (er H ps)):Ext G (er H ps) G' (er H' ps):=
 ⟨(have s:=e.hh;λb o h=>by
   obtain⟨h1,h2⟩:=aS h;rw[er_out h1];exact s b o h2),e.gg,λb o q=>by
  have nb:b∉ps:=λhb=>by
   obtain⟨h1,o',h2⟩:=hp b hb;rw[e.nw b o' h1 h2]at q;cases q
  rw[er_out nb];exact e.gh b o q,λb o h1 h2=>e.nw b o h1 (aS h2).2,λb C dx fs q=>by
  obtain⟨h1,h2⟩:=aS q;rw[er_out h1];exact e.ni b C dx fs h2⟩
def Dr.monoH{G H H'}{d}{v}(s:Same H H'):Dr K G H d v->Dr K G H' d v
 |.of h=>.of h
 |.list h r=>.list (s _ _ h) r
 |.dict h r=>.dict (s _ _ h) r
 |.vlt h1 h2 r=>.vlt (s _ _ h1) (s _ _ h2) r
def AC{n l' n':Addr}{h h':Nat}(e:vfs l n h=vfs l' n' h'):l=l'/\n=n'/\h=h':=by
 unfold vfs at e;injection e with e1 e2
 injection e2 with e2 e3
 injection e3 with e3 _
 injection e1 with _ e1
 injection e2 with _ e2
 injection e3 with _ e3
 injection e1 with e1
 injection e2 with e2
 injection e3 with e3
 exact⟨e1,e2,by exact Int.ofNat.inj e3⟩
theorem VS.hdl{P:Program}{w:World}{K:Fg}{C:Addr}{G H:Hp}{d:Vd}{U:List (List D)}(v:VS P w K C G H d U)(s:Same G H){h:Nat}{u:V}(q:Dp K G (.hdl h) u):
  ∃a l n dx objs,u=.ref a/\d[h]?=some (a,l,n)/\U[h]?=some objs/\G a=some (.ins C dx (vfs l n h))/\H dx=some (.own a)/\
   ∃as:List Addr,H l=some (.lst (as.map .ref))/\Dps K G objs (as.map .ref)/\H n=some (.ext (bU P w n as objs))/\∀d∈objs,okK 8 d=true/\jS d=true:=by
 cases q with
 |@hdl a C' dx' l' n' _ q=>
  obtain⟨h2,l,n,e⟩:=v.uni a C' dx' _ (s _ _ q);obtain⟨dx,objs,h1,h3,r⟩:=v.at' h2 a l n e;rw[q]at h3;injection h3 with h3
  injection h3 with e1 e2 e3
  obtain⟨rfl,rfl,rfl⟩:=AC e3;subst e1 e2;exact⟨a,l',n',dx',objs,rfl,e,h1,q,r⟩
structure EnvM(P:Program)(w:World)(K:Fg)(C:Addr)(G0 H0:Hp)(d0:Vd)(G H:Hp)(d:Vd)(σ:St)(Y:List Sl)(U:List (List D)):Prop where
 bas:∃Gb Hb,Same G0 Gb/\(Same (er H0 (parts d0)) Hb/\∀b o,Hb b=some o->notIns o=true->er H0 (parts d0) b=some o)/\EnvD K Gb Hb G (er H (parts d)) σ Y
 nw:∀b o,G0 b=Option.none->H0 b=some o->G b=Option.none
 pre:d0 <+: d
 vs:VS P w K C G H d U
noncomputable def vE(C:Addr)(U:List (List D)):Sl->Sl
 |.own d=>.lent d
 |.dat (.hdl h)=>match U[h]? with|some objs=>.lent (.vlt C h objs)|.none=>.no
 |s=>s
section
variable {C:Addr}{G:Hp}{d0 d:Vd}{U:List (List D)}
theorem EnvM.sub(E:EnvM P w K C G0 H0 d0 G H d σ Y U):Same G H:=by
 obtain⟨_,_,_,_,e⟩:=E.bas;exact e.sub.trans az
def EnvM.sub'(E:EnvM P w K C G0 H0 d0 G H d σ Y U):Same G (er H (parts d)):=by
 obtain⟨_,_,_,_,e⟩:=E.bas;exact e.sub
theorem EnvM.gg(E:EnvM P w K C G0 H0 d0 G H d σ Y U):Same G0 G:=by
 obtain⟨_,_,s,_,e⟩:=E.bas;exact s.trans e.ext.gg
theorem EnvM.hh(E:EnvM P w K C G0 H0 d0 G H d σ Y U):Same (er H0 (parts d0)) (er H (parts d)):=by
 obtain⟨_,_,_,s,e⟩:=E.bas;exact s.1.trans e.ext.hh
theorem EnvM.step(E:EnvM P w K C G0 H0 d0 G H d σ Y U)(e:Ext G H G' H'):EnvM P w K C G0 H0 d0 G' H' d σ Y U:=by
 obtain⟨Gb,Hb,s1,s2,e1⟩:=E.bas;refine⟨⟨Gb,Hb,s1,s2,e1.step (e.er (λb hb=>⟨E.vs.out b hb,E.vs.part hb⟩) e1.sub)⟩,λb o h1 h2=>?_,E.pre,E.vs.step e⟩;cases q:H b with
 |none=>
  by_cases hb:b∈parts d0
  .have hb':b∈parts d:=by
    obtain⟨t,ht⟩:=E.pre;subst ht;unfold parts at hb ⊢;rw[List.flatMap_append];exact List.mem_append_left _ hb
   obtain⟨o',ho⟩:=E.vs.part hb';rw[q]at ho;cases ho
  .have:=az b o (E.hh b o (by rw[er_out hb];exact h2))
   rw[q]at this;cases this
 |some o'=>exact e.nw b o' (E.nw b o h1 h2) q
set_option tactic.hygienic true in
def EnvM.view(E:EnvM P w K C G0 H0 d0 G H d σ Y U):EnvD K G H G H σ (Y.map (vE C U)):=by
 obtain⟨Gb,Hb,s1,s2,e⟩:=E.bas;have at':∀(i:Nat) sl,(Y.map (vE C U))[i]?=some sl->∃s0,Y[i]?=some s0/\vE C U s0=sl:=λi sl h=>by
  rw[gm0]at h;cases q:Y[i]? with
  |none=>rw[q]at h;cases h
  |some s0=>rw[q]at h;cases h;exact⟨s0,rfl,rfl⟩
 have no:∀(i:Nat) d',(Y.map (vE C U))[i]?≠some (.own d'):=λi d' h=>by
  obtain⟨s0,_,h2⟩:=at' i _ h;cases s0 with
  |dat d2=>cases d2<;>first|(cases h2;done)|(rename_i hh;simp only[vE]at h2;split at h2<;>cases h2)
  |_=>cases h2
 refine⟨.refl E.sub,by simp[e.len],λi d' h=>?_,λi d' h=>?_,λi d' h=>absurd h (no i d'),λi j d' c c h=>absurd h (no i d')⟩
 .obtain⟨s0,h1,h2⟩:=at' i _ h
  cases s0 with
  |dat d2=>
   have:d2=d':=by
    cases d2<;>first|(cases h2;rfl)|(rename_i hh;simp only[vE]at h2;split at h2<;>cases h2)
   subst this;exact e.dat i d2 h1
  |_=>cases h2
 .obtain⟨s0,h1,h2⟩:=at' i _ h
  cases s0 with
  |no=>cases h2
  |lent d2=>
   cases h2;obtain⟨v,a,b⟩:=e.lent i d' h1;exact⟨v,a,(b.ext e.ext).monoH az⟩
  |own d2=>
   cases h2;obtain⟨p,a,_,_,b⟩:=e.own i d' h1;exact⟨_,a,b.dr.monoH az⟩
  |dat d2=>
   cases d2 with
   |hdl hh=>
    simp only[vE]at h2;split at h2
    .rename_i objs ho
     cases h2;obtain⟨v,a,b⟩:=e.dat i _ h1;obtain⟨a',l,n,dx,objs',rfl,_,q1,q2,_,as,q3,q4,_⟩:=E.vs.hdl E.sub b;rw[ho]at q1;cases q1;exact⟨_,a,.vlt (E.sub _ _ q2) q3 q4⟩
    .cases h2
   |_=>cases h2
def EnvD.wide{Gb H2:Hp}(e:EnvD K Gb Hb G H σ Y)(s:Same H H2)(ni:∀b C dx fs,H2 b=some (.ins C dx fs)->H b=some (.ins C dx fs)):EnvD K Gb Hb G H2 σ Y:=
 ⟨⟨e.ext.hh.trans s,e.ext.gg,e.ext.gh.trans s,e.ext.nw,λb C dx fs q=>e.ext.ni b C dx fs (ni b C dx fs q)⟩,e.len,e.dat,e.lent,λi d h=>by
  obtain⟨p,a,b,c,g⟩:=e.own i d h;refine⟨p,a,b,c,?_⟩;rcases g with⟨ds,vs,h1,h2,h3⟩|⟨ds,vs,h1,h2,h3⟩
  .exact .inl ⟨ds,vs,h1,s _ _ h2,h3⟩
  .exact .inr ⟨ds,vs,h1,s _ _ h2,h3⟩,e.apart⟩
def VS.notPart(v:VS P w K C G H d U){b C' dx:Addr}{fs:List (Str×V)}(h:H b=some (.ins C' dx fs)):b∉parts d:=λhb=>by
 obtain⟨i,a,l,n,e,q⟩:=nK hb;obtain⟨dx',objs,_,_,_,as,h1,_,h2,_⟩:=v.at' i a l n e;rcases q with rfl|rfl
 .rw[h]at h1;cases h1
 .rw[h]at h2;cases h2
def EnvM.full(E:EnvM P w K C G0 H0 d0 G H d σ Y U):∃Gb Hb,EnvD K Gb Hb G H σ Y/\∀G' H' d' σ' Y' U',EnvM P w K C G0 H0 d0 G' H' d' σ' Y' U'->Same G G'->Same Hb H':=by
 obtain⟨Gb,Hb,s1,s2,e⟩:=E.bas;refine⟨Gb,Hb,e.wide az λb C' dx fs h=>by rw[er_out (E.vs.notPart h)];exact h,λG' H' d' σ' Y' U' E' g b o h=>?_⟩;cases q:notIns o with
 |true=>exact az b o (E'.hh b o (s2.2 b o h q))
 |false=>
  cases o with
  |ins C' dx fs=>
   have hH:=az b _ (e.ext.hh b _ h);obtain⟨i,l,n,hd⟩:=E.vs.uni b C' dx fs hH;obtain⟨dx',objs,_,hG,_⟩:=E.vs.at' i b l n hd;rw[E.sub _ _ hG]at hH;cases hH;exact E'.sub _ _ (g _ _ hG)
  |_=>cases q
end
def Fl(X:Cx)(ea C:Addr)(H:Hp)(s:Shared):Prop:=
 ∃B:Heap,HOk X.prog X.w H B/\(∀b o,X.s₀.heap.get? b=some o->X.H₀ b=none->b∉X.fs->b∉X.ex->B.get? b=some o)/\(∀b o,X.s₀.heap.get? b=some o->b∉frs X.stack->b∉X.ex->∃o',B.get? b=some o')/\(∀p∈X.pn,B.get? p.1=some p.2)/\
  ((∃vs,Heap.MadeExcOf B s.heap ea (.ref C) vs/\B.FunFrames X.base X.stack)\/∃a0,Heap.FlyingW B X.stack ea (.ref C) a0 s.heap)
noncomputable def CX1(P:Program)(w:World):CXT:=λouter H s E e s'=>∃(ea C:Addr)(B:Heap)(a0:Value)(H':Hp),e=.ref ea/\s'.os=s.os/\AllBare s'.gens/\Heap.FlyingW B outer ea (.ref C) a0 s'.heap/\HOk P w H' B/\
 (∀b o,s.heap.get? b=some o->H b=none->b∉frs outer->B.get? b=some o)/\(∀b o,s.heap.get? b=some o->b∉frs outer->∃o',B.get? b=some o')/\Un (frs outer) [] H H' s.heap s'.heap/\E (.ref C) none H'
def qa{E:XK}{e:Value}(I:Inv X pins σ H s)(h:CX1 X.prog X.w X.stack H s E e s'):
  ∃ea C H',e=.ref ea/\Inv X pins σ H' s'/\Fl X ea C H' s'/\E (.ref C) none H':=by
 obtain⟨ea,C,B,a0,H',rfl,os,bare,fl,ok,kb,th,un,q⟩:=h;have nst:∀b o,X.s₀.heap.get? b=some o->b∉X.fs->b∉frs X.stack:=λb o e nf z=>by
  rcases mq0 (I.stkSub b z)with r|r
  .subst r
   exact absurd (nl0 (hs0 e) I.ok.above) (li0 _)
  .exact nf r
 refine⟨ea,C,H',rfl,I.call' os un (ok.kept fl.1) bare (λa z=>nomatch z),⟨B,ok,λb o e n nf nx=>?_,λb o e nf nx=>?_,λp hp=>?_,.inr ⟨a0,fl⟩⟩,q⟩
 .exact kb b o (I.base.keep b o e n nf nx) (I.base.free b o e n nx) (nst b o e nf)
 .obtain⟨o',h1⟩:=I.base.there b o e nx
  exact th b o' h1 nf
 .obtain⟨h1,h2,h3,h4,_⟩:=I.pin p (List.mem_append_left _ hp)
  refine kb p.1 p.2 h1 h2 λz=>?_
  rcases mq0 (I.stkSub p.1 z)with r|r
  .exact h3 r
  .exact h4 r
def AD{C:Addr}{vs:List Value}(I:Inv X pins σ H s)(m:Heap.MadeExcOf s.heap h' ea (.ref C) vs):
  Inv X pins σ H {s with heap:=h'}/\Fl X ea C H {s with heap:=h'}:=
 ⟨I.kept (t':=s.toks) m.keeps,s.heap,I.hok,λb o e n nf nx=>I.base.keep b o e n nf nx,λb o e nf nx=>I.base.there b o e nx,λp hp=>(I.pin p (List.mem_append_left _ hp)).1,.inl ⟨vs,m,I.stack⟩⟩
def tY{K:fg0}{cd:Value}{A:Around}{outer:List Env}{E:XK}
      {C:Addr} (I:Inv (dG (CX1 P w) P w K mg base N qual scope f cd A outer s H E) pins σ H' s') (fl:Fl (dG (CX1 P w) P w K mg base N qual scope f cd A outer s H E) ea C H' s')
  (h:E (.ref C) none H'):(dG (CX1 P w) P w K mg base N qual scope f cd A outer s H E).xe (.ref ea) s':=by
 obtain⟨B,ok,kb,th,pn,r⟩:=fl;have nL:∀b o,s.heap.get? b=some o->b≠s.heap.objs.size:=λb o e z=>by subst z;exact absurd (hs0 e) (li0 _)
 have stk:∀b,b∈frs (envOfC qual scope s.heap.objs.size f cd::outer)->b=s.heap.objs.size\/b∈frs outer:=λb hb=>by
  obtain⟨env,he,hf⟩:=List.mem_filterMap.mp hb;rcases mq0 he with rfl|he
  .exact .inl (Option.some.inj hf).symm
  .exact .inr (List.mem_filterMap.mpr ⟨env,he,hf⟩)
 have fin:∀(B':Heap)(a0:Value)(h':Heap),Heap.FlyingW B' outer ea (.ref C) a0 h'->s'.heap.UpToSlots h'->HOk P w H' B'->(∀b o,B.get? b=some o->b∉frs (envOfC qual scope s.heap.objs.size f cd::outer)->B'.get? b=some o)->
   CX1 P w outer H s E (.ref ea) {s' with heap:=h'}:=by
  intro B' a0 h' fl' up ok' bb;have out:∀b o,s.heap.get? b=some o->b∉frs outer->b∉frs (envOfC qual scope s.heap.objs.size f cd::outer):=λb o e nf z=>(stk b z).elim (nL b o e) nf
  have k1:∀b o,s.heap.get? b=some o->H b=none->b∉frs outer->B'.get? b=some o:=λb o e n nf=>bb b o (kb b o e n nf (λz=>nomatch z)) (out b o e nf)
  have k2:∀b o,s.heap.get? b=some o->b∉frs outer->∃o',B'.get? b=some o':=λb o e nf=>by
   obtain⟨o',h1⟩:=th b o e (out b o e nf) (λz=>nomatch z);exact⟨o',bb b o' h1 (out b o e nf)⟩
  have sl:∀b o,s.heap.get? b=some o->H b=none->b∈frs outer->∃sl,h'.get? b=some {o with slots:=sl}:=λb o e n hb=>by
   obtain⟨sl,h1⟩:=I.base.slot b o e n hb (λz=>nomatch z);obtain⟨_,o2,h2,h3⟩:=I.ok.funs.mem hb;have h2:s.heap.get? b=some o2:=h2;rw[e]at h2;cases h2;obtain⟨sl',h4⟩:=up b _ h1 h3;exact⟨sl',h4⟩
  refine⟨ea,C,B',a0,H',rfl,I.os,I.bare,fl',ok',k1,k2,⟨λb o e n nf a=>fl'.1 b o (k1 b o e n nf),λb o e n hb a=>sl b o e n hb,λb o e n a=>I.base.free b o e n (λz=>nomatch z),λb o e a=>?_,I.base.tups,I.base.frzs,I.base.tbls⟩,h⟩
  by_cases hb:b∈frs outer
  .have n:H b=none:=I.ok.frf b hb
   obtain⟨sl',q⟩:=sl b o e n hb;exact⟨_,q⟩
  .obtain⟨o',q⟩:=k2 b o e hb
   exact⟨o',fl'.1 b o' q⟩
 have hfr:(A.deeper (envOfC qual scope s.heap.objs.size f cd)).frames=some (envOfC qual scope s.heap.objs.size f cd::outer):=I.ok.frames;show wpAny _ _ (leaving _ (.ref ea)) _ _ s';rcases r with⟨vs,m,ff⟩|⟨a0,fl⟩
 .have hin:∀env∈(envOfC qual scope s.heap.objs.size f cd::outer),∀b,env.frame=some b->b∈frs (envOfC qual scope s.heap.objs.size f cd::outer):=λenv he b hb=>List.mem_filterMap.mpr ⟨env,he,hb⟩
  refine wpAny_leaves_madeW (base:=PySem.W.hideAll B (frs (envOfC qual scope s.heap.objs.size f cd::outer))) hfr rfl (λb o q=>PySem.W.of_hideAll _ q) (PySem.W.funFrames_hide ff hin) m λh' t x1 x2 x3 x4=>?_
  refine fin _ _ h' x1 x4 (λb o e=>?_) λb o e n=>PySem.W.hideAll_get _ e n
  have nf:∀c u,H' c=some u->c∉frs (envOfC qual scope s.heap.objs.size f cd::outer):=λc u e z=>by
   have:=I.stkFree c z;rw[e]at this;cases this
  refine (ok b o e).stay (λc u hc q=>PySem.W.hideAll_get _ q ?_) (λa q=>q) λa a q=>q
  rcases hc with rfl|hc
  .exact nf _ _ e
  .exact nf _ _ hc
 .refine wpAny_leaves_onW hfr rfl fl λh' x1 x2=>?_
  exact fin B a0 h' x1 x2 ok λb o e a=>e
structure MExt(G H:Hp)(d:Vd)(G' H':Hp)(d':Vd):Prop where
 gg:Same G G'
 hh:Same (er H (parts d)) (er H' (parts d'))
 gh:Same G' (er H' (parts d'))
 nw:∀b o,G b=Option.none->H b=some o->G' b=Option.none
 pre:d <+: d'
 st:∀b o,H b=some o->∃o',H' b=some o'
def gP{d d':Vd}(h:d <+: d'){b}(hb:b∈parts d):b∈parts d':=by
 obtain⟨t,ht⟩:=h;subst ht;unfold parts at hb ⊢;rw[List.flatMap_append];exact List.mem_append_left _ hb
section
variable {C:Addr}{G H1 G2 H2:Hp}{d0 d d' d1 d2:Vd}{U U':List (List D)}
theorem MExt.refl(s:Same G (er H (parts d))):MExt G H d G H d:=⟨Same.refl _,Same.refl _,s,λa a h a=>h,List.prefix_refl _,λa o h=>⟨o,h⟩⟩
theorem MExt.trans(a:MExt G H d G1 H1 d1)(b:MExt G1 H1 d1 G2 H2 d2):MExt G H d G2 H2 d2:=
 ⟨a.gg.trans b.gg,a.hh.trans b.hh,b.gh,λc o h1 h2=>let ⟨o',h3⟩:=a.st c o h2;b.nw c o' (a.nw c o h1 h2) h3,a.pre.trans b.pre,λc o h=>let ⟨o',h3⟩:=a.st c o h;b.st c o' h3⟩
def VS.mext(v:VS P w K C G H d U)(s:Same G (er H (parts d)))(e:Ext G H G' H'):MExt G H d G' H' d:=by
 have x:=e.er (λb hb=>⟨v.out b hb,v.part hb⟩) s;exact⟨e.gg,x.hh,x.gh,e.nw,List.prefix_refl _,λb o h=>⟨o,e.hh b o h⟩⟩
def dB:Option HO->Bool
 |some (.ins ..)=>true
 |_=>false
def EnvM.start(E:EnvM P w K C G0 H0 d0 G H d σ Y U):MExt G0 H0 d0 G H d:=by
 refine⟨E.gg,E.hh,E.sub',E.nw,E.pre,λb o h=>?_⟩
 by_cases hb:b∈parts d0
 .exact E.vs.part (gP E.pre hb)
 .exact⟨o,az b o (E.hh b o (by rw[er_out hb];exact h))⟩
set_option tactic.hygienic true in
def EnvM.go(E:EnvM P w K C G0 H0 d0 G H d σ Y U)(m:MExt G H d G' H' d')(v:VS P w K C G' H' d' U'):EnvM P w K C G0 H0 d0 G' H' d' σ Y U':=by
 have st0:=E.start;obtain⟨Gb,Hb,s1,s2,e⟩:=E.bas
 let Hb':Hp:=λb=>match Hb b with
  |some o=>some o
  |.none=>if dB (er H' (parts d') b)then er H' (parts d') b else .none
 let Gb':Hp:=λb=>match Gb b with
  |some o=>some o
  |.none=>match Hb b with
   |some _=>.none
   |.none=>if dB (er H' (parts d') b)then G' b else .none
 have hb1:Same Hb Hb':=λb o h=>by show (match Hb b with|some o=>some o|.none=>_)=_;rw[h]
 have gb1:Same Gb Gb':=λb o h=>by show (match Gb b with|some o=>some o|.none=>_)=_;rw[h]
 have hbn:∀b o,Hb b=.none->er H (parts d) b=some o->notIns o=true->Hb' b=.none:=λb o h1 h2 h3=>by
  show (match Hb b with|some o=>some o|.none=>_)=_;rw[h1];have:=m.hh b o h2;show (if dB (er H' (parts d') b)then _ else _)=_;rw[this];cases o<;>first|rfl|cases h3
 have hS:Same Hb' (er H' (parts d')):=λb o h=>by
  have h:(match Hb b with|some o=>some o|.none=>if dB (er H' (parts d') b)then er H' (parts d') b else .none)=some o:=h;cases q:Hb b with
  |some o'=>rw[q]at h;cases h;exact m.hh b _ (e.ext.hh b _ q)
  |none=>
   rw[q]at h;dsimp only at h;split at h
   .exact h
   .cases h
 have ow:∀p,G p=.none->(∃o,er H (parts d) p=some o)->G' p=.none:=λp h1 ⟨o,h2⟩=>m.nw p o h1 (aS h2).2
 refine⟨⟨Gb',Hb',s1.trans gb1,⟨s2.1.trans hb1,λb o h n=>?_⟩,⟨⟨hS,λb o h=>?_,m.gh,λb o h1 h2=>?_,λb C' dx fs h=>?_⟩,e.len,λi d h=>?_,λi d h=>?_,λi d h=>?_,e.apart⟩⟩,λb o h1 h2=>?_,E.pre.trans m.pre,v⟩
 .have h:(match Hb b with|some o=>some o|.none=>if dB (er H' (parts d') b)then er H' (parts d') b else .none)=some o:=h
  cases q:Hb b with
  |some o'=>rw[q]at h;cases h;exact s2.2 b _ q n
  |none=>
   rw[q]at h;dsimp only at h;split at h
   .rename_i c;rw[h]at c;cases o<;>first|(cases c;done)|(cases n;done)
   .cases h
 .have h:(match Gb b with|some o=>some o|.none=>match Hb b with|some _=>.none|.none=>if dB (er H' (parts d') b)then G' b else .none)=some o:=h
  cases q:Gb b with
  |some o'=>rw[q]at h;cases h;exact m.gg b _ (e.ext.gg b _ q)
  |none=>
   rw[q]at h;cases q2:Hb b with
   |some _=>rw[q2]at h;cases h
   |none=>
    rw[q2]at h;dsimp only at h;split at h
    .exact h
    .cases h
 .have h1:(match Gb b with|some o=>some o|.none=>match Hb b with|some _=>.none|.none=>if dB (er H' (parts d') b)then G' b else .none)=.none:=h1
  have h2:(match Hb b with|some o=>some o|.none=>if dB (er H' (parts d') b)then er H' (parts d') b else .none)=some o:=h2;cases q:Gb b with
  |some o'=>rw[q]at h1;cases h1
  |none=>
   rw[q]at h1;cases q2:Hb b with
   |some o'=>
    have:=e.ext.hh b o' q2;exact ow b (e.ext.nw b o' q q2) ⟨_,this⟩
   |none=>
    rw[q2]at h1 h2;dsimp only at h1 h2;split at h1
    .exact h1
    .rename_i c;rw[if_neg c]at h2;cases h2
 .show (match Hb b with|some o=>some o|.none=>if dB (er H' (parts d') b)then er H' (parts d') b else .none)=_
  cases q:Hb b with
  |some o'=>
   have:=m.hh b o' (e.ext.hh b o' q);rw[h]at this;exact this.symm
  |none=>
   dsimp only;rw[h];rfl
 .obtain⟨u,a,b⟩:=e.dat i d h
  exact⟨u,a,b.mono m.gg⟩
 .obtain⟨u,a,b⟩:=e.lent i d h
  exact⟨u,a,(b.monoH hb1).monoG gb1⟩
 .obtain⟨p,a,c,f,g⟩:=e.own i d h
  obtain⟨o,ho⟩:=g.some;have ni:notIns o=true:=by
   rcases g with⟨_,_,_,z,_⟩|⟨_,_,_,z,_⟩<;>(rw[ho]at z;cases z;rfl)
  refine⟨p,a,ow p c ⟨o,ho⟩,hbn p o f ho ni,?_⟩;rcases g with⟨ds,vs,z1,z2,z3⟩|⟨ds,vs,z1,z2,z3⟩
  .exact .inl ⟨ds,vs,z1,m.hh _ _ z2,z3.mono m.gg⟩
  .exact .inr ⟨ds,vs,z1,m.hh _ _ z2,z3.mono m.gg⟩
 .obtain⟨o',h3⟩:=st0.st b o h2
  exact m.nw b o' (E.nw b o h1 h2) h3
theorem EnvM.set{i}{e}{v}(E:EnvM P w K C G0 H0 d0 G H d σ Y U)(hi:i<σ.length)(h:Dp K G e v):EnvM P w K C G0 H0 d0 G H d (σ.set i (some v)) (Y.set i (.dat e)) U:=by
 obtain⟨Gb,Hb,s1,s2,en⟩:=E.bas;exact⟨⟨Gb,Hb,s1,s2,en.set hi h⟩,E.nw,E.pre,E.vs⟩
theorem EnvM.freeze(E:EnvM P w K C G0 H0 d0 G H d σ Y U):∃G',EnvM P w K C G0 H0 d0 G' H d σ (Y.map SI.freeze) U/\Same G G':=by
 obtain⟨Gb,Hb,s1,s2,en⟩:=E.bas;obtain⟨G1,en1,s⟩:=en.freeze;have out:∀b∈parts d,G1 b=.none:=λb hb=>by
  cases q:G1 b with
  |none=>rfl
  |some o=>have:=en1.sub b o q;rw[kC hb]at this;cases this
 have nw:∀b o,G0 b=.none->H0 b=some o->G1 b=.none:=λb o h1 h2=>by
  by_cases hb:b∈parts d0
  .exact out b (gP E.pre hb)
  .have hbb:Hb b=some o:=s2.1 b o (by rw[er_out hb];exact h2)
   refine en1.ext.nw b o ?_ hbb;cases q:Gb b with
   |none=>rfl
   |some o'=>have:=en.ext.gg b o' q;rw[E.nw b o h1 h2]at this;cases this
 refine⟨G1,⟨⟨Gb,Hb,s1,s2,en1⟩,nw,E.pre,⟨E.vs.len,E.vs.nd,λh a l n q=>?_,E.vs.uni,out⟩⟩,s⟩
 .obtain⟨dx,objs,h1,h2,h3,as,h4,h5,h6,h7⟩:=E.vs.at' h a l n q
  exact⟨dx,objs,h1,s _ _ h2,h3,as,h4,h5.mono s,h6,h7⟩
end
inductive R where
 |ok (d:D)
 |exc (C:Nat)
inductive Rs where
 |ok (ds:List D)
 |exc (C:Nat)
def lI(X:Cx)(c:Addr)(σ:St)(H:Hp):Prop:=∀pins ea s,Inv X pins σ H s->Fl X ea c H s->X.xe (.ref ea) s
noncomputable def PostM(X:Cx)(C:Addr)(G H:Hp)(d:Vd)(U:List (List D))(σ:St)(Q:VK):R->Prop
 |.ok e=>∀v G' H' d',MExt G H d G' H' d'->VS X.prog X.w X.K C G' H' d' U->Dp X.K G' e v->Q v H'
 |.exc c=>∀G' H' d',MExt G H d G' H' d'->VS X.prog X.w X.K C G' H' d' U->lI X c σ H'
noncomputable def HS(X:Cx)(C:Addr)(G H:Hp)(d:Vd)(U:List (List D))(σ:St)(fl:List Bool)(Q:List V->Hp->Prop):Rs->Prop
 |.ok es=>∀vs G' H' d',MExt G H d G' H' d'->VS X.prog X.w X.K C G' H' d' U->Das X.K G' (er H' (parts d')) fl es vs->Q vs H'
 |.exc c=>∀G' H' d',MExt G H d G' H' d'->VS X.prog X.w X.K C G' H' d' U->lI X c σ H'
noncomputable def tM(X:Cx)(C:Addr)(Y:List Sl)(U:List (List D))(r:R)(U':List (List D)):TE:=λσ H Q=>∃G0 H0 d0 G d,EnvM X.prog X.w X.K C G0 H0 d0 G H d σ Y U/\PostM X C G H d U' σ Q r
noncomputable def tMa(X:Cx)(C:Addr)(Y:List Sl)(U:List (List D))(fl:List Bool)(r:Rs)(U':List (List D)):TA:=λσ H Q=>∃G0 H0 d0 G d,EnvM X.prog X.w X.K C G0 H0 d0 G H d σ Y U/\HS X C G H d U' σ fl Q r
def EvM(X:Cx)(C:Addr)(Y:List Sl)(U:List (List D))(e:Expr)(r:R)(U':List (List D)):Prop:=PE X e (tM X C Y U r U')
def EaM(X:Cx)(C:Addr)(Y:List Sl)(U:List (List D))(fl:List Bool)(es:List Expr)(r:Rs)(U':List (List D)):Prop:=PA X es (tMa X C Y U fl r U')
structure FnM where
 lent:List Bool
 run:List (List D)->List D->Option (List (List D)×R)
noncomputable def Mur(P:Program)(w:World)(K:Fg)(C:Addr)(J:FnM):Sp:=λvs H Q E=>∃ds U U' r G d,J.run U ds=some (U',r)/\Same G (er H (parts d))/\Das K G (er H (parts d)) J.lent ds vs/\VS P w K C G H d U/\
 match r with
 |.ok e=>∀v G' H' d',MExt G H d G' H' d'->VS P w K C G' H' d' U'->Dp K G' e v->Q v H'
 |.exc c=>∀G' H' d',MExt G H d G' H' d'->VS P w K C G' H' d' U'->E (.ref c) none H'
section
variable {C:Addr}{U U1 U2 U':List (List D)}{e:Expr}{c k:Nat}{r:R}{rs:Rs}{p:Pos}
def PostM.go{G H G' H'}{d d'}{σ}{Q}(h:PostM X C G H d U σ Q r)(m:MExt G H d G' H' d'):PostM X C G' H' d' U σ Q r:=by
 cases r with
 |ok e=>exact λv G2 H2 d2 m2 v2 q=>h v G2 H2 d2 (m.trans m2) v2 q
 |exc c=>exact λG2 H2 d2 m2 v2=>h G2 H2 d2 (m.trans m2) v2
def wX(h:Ev X (Y.map (vE C U)) e d):EvM X C Y U e (.ok d) U:=λpins s σ H Q I ⟨G0,H0,d0,G,dd,E,k⟩=>
 h pins s σ H Q I ⟨G,H,G,E.view,λv G' H' e1 r=>k v G' H' dd (E.vs.mext E.sub' e1) (E.vs.step e1) r⟩
def rA(i:Nat)(h:Y[i]?=some (.dat d))(hN:X.N[i]?=some x)(hv:Vis X.env.scope x)(hd:(x==("__debug__":Str))=false)(hcd:(x==("__classdict__":Str))=false):EvM X C Y U (.Name x pos) (.ok d) U:=
 λpins s σ H Q I ⟨G0,H0,d0,G,dd,E,k⟩=>by
  obtain⟨Gb,Hb,_,_,en⟩:=E.bas;obtain⟨v,a,b⟩:=en.dat i d h;exact cN hN hv hd hcd pins s σ H Q I ⟨v,a,k v G H dd (.refl E.sub') E.vs b⟩
def AE:EaM X C Y U fl [] (.ok []) U:=by rintro pos pins s σ H Q I ⟨G0,H0,d0,G,dd,E,k⟩;exact bz pos pins s σ H Q I (k [] G H dd (.refl E.sub') E.vs .nil)
def wY(he:EvM X C Y U e (.ok d) U1)(hr:EaM X C Y U1 fl.tail es rs U2)(hs:isStar e=false):EaM X C Y U fl (e::es) (match rs with|.ok ds=>.ok (d::ds)|.exc c=>.exc c) U2:=
 λpos pins s σ H Q I ⟨G0,H0,d0,G,dd,E,k⟩=>aD he hr (af hs) pos pins s σ H Q I ⟨G0,H0,d0,G,dd,E,λv G1 H1 d1 m1 v1 r1=>by
  refine⟨G0,H0,d0,G1,d1,E.go m1 v1,?_⟩;cases rs with
  |ok ds=>exact λvs G2 H2 d2 m2 v2 r2=>k _ G2 H2 d2 (m1.trans m2) v2 (.cons (λa=>r1.mono m2.gg) (.of (r1.mono m2.gg)) r2)
  |exc c=>exact λG2 H2 d2 m2 v2=>k G2 H2 d2 (m1.trans m2) v2⟩
def tZ(he:EvM X C Y U e (.exc c) U1)(hs:isStar e=false):EaM X C Y U fl (e::es) (.exc c) U1:=
 λpos pins s σ H Q I ⟨G0,H0,d0,G,dd,E,k⟩=>aD (t:=λa a a=>False) he (λa a a a a a a z=>z.elim) (af hs) pos pins s σ H Q I ⟨G0,H0,d0,G,dd,E,k⟩
def ua{sl:Sl}(i:Nat)(h:Y[i]?=some sl)(hd':aW .read sl=some d)(hf:fl.headD false=true)(hN:X.N[i]?=some x)(hv:Vis X.env.scope x)(hd:(x==("__debug__":Str))=false)(hcd:(x==("__classdict__":Str))=false)
  (hr:EaM X C Y U fl.tail es rs U2):EaM X C Y U fl (.Name x p::es) (match rs with|.ok ds=>.ok (d::ds)|.exc c=>.exc c) U2:=
 λpos pins s σ H Q I ⟨G0,H0,d0,G,dd,E,k⟩=>by
  obtain⟨Gb,Hb,_,_,en⟩:=E.bas;obtain⟨v,a,b⟩:=en.read h hd';refine aD (cN hN hv hd hcd) hr rfl pos pins s σ H Q I ⟨v,a,G0,H0,d0,G,dd,E,?_⟩;cases rs with
  |ok ds=>exact λvs G2 H2 d2 m2 v2 r2=>k _ G2 H2 d2 m2 v2 (.cons (λc=>by rw[hf]at c;cases c) ((b.monoH m2.hh).monoG m2.gg) r2)
  |exc c=>exact λG2 H2 d2 m2 v2=>k G2 H2 d2 m2 v2
def rB{Q:VK}{ps:List Str}{sp:Sp}(F:FnOk X.prog X.w X.K X.mg X.base (CX1 X.prog X.w) k f fd ps sp)(hr:Room k X.A)(hb:Binds X.K fd ps [])
  (I:Inv X pins σ H s) (r:Vals vs us) (h:sp vs H Q (λc a H'=>∃c',c=.ref c'/\lI X c' σ H')):wpAny (model X.prog X.w) X.A (call (.ref f) us) (EP X pins σ Q) X.xe s:=by
 have hl:us.length=ps.length:=by rw[<-r.length];exact F.len _ _ _ _ h
 refine wpAny_call (codeAny_mono (F.run X.A X.stack s H ⟨us,[]⟩ us vs Q _ hr I.env0 (by have:=hb s us I.kIn (by simpa using hl);simpa using this) r h) λr s' hq=>?_);cases r with
 |error e=>
  have hq:CX1 X.prog X.w X.stack H s (λc a H'=>∃c',c=.ref c'/\lI X c' σ H') e s':=hq;obtain⟨ea,c,H',rfl,I',fl,c',ec,ac⟩:=qa I hq;cases ec;exact ac pins ea s' I' fl
 |ok fl=>
  cases fl with
  |ret u=>exact I.after hq
  |next=>exact False.elim hq
  |brk=>exact False.elim hq
  |cont=>exact False.elim hq
noncomputable def AF(run:List (List D)->List D->Option (List (List D)×R)):Rs->List (List D)->Option (List (List D)×R)
 |.ok ds,U=>run U ds
 |.exc c,U=>some (U,.exc c)
def BX{J}{G H}{d}{σ}{Q}{vs}(h:J.run U1 ds=some (U2,r))(s:Same G (er H (parts d)))(das:Das X.K G (er H (parts d)) J.lent ds vs)(v:VS X.prog X.w X.K C G H d U1)(q:PostM X C G H d U2 σ Q r):
  Mur X.prog X.w X.K C J vs H Q (λc a H'=>∃c',c=.ref c'/\lI X c' σ H'):=by
 refine⟨ds,U1,U2,r,G,d,h,s,das,v,?_⟩;cases r with
 |ok e=>exact q
 |exc c=>exact λG' H' d' m v'=>⟨c,rfl,q G' H' d' m v'⟩
structure AG(P:Program)(w:World)(K:Fg)(mg:Str->Option Value)(base:Heap)(C:Addr)(k:Nat)(x:Str)(J:FnM):Prop where
 ex:∃f fd ps,mg x=some (.ref f)/\PySem.W.keepIn K (.ref f)=true/\Binds K fd ps []/\FnOk P w K mg base (CX1 P w) k f fd ps (Mur P w K C J)
def wZ{J:FnM}(F:AG X.prog X.w X.K X.mg X.base C k x J)(hr:Room k X.A)(hg:Gl X x)(hd:(x==("__debug__":Str))=false)(ha:EaM X C Y U J.lent (e::es) rs U1)(h:AF J.run rs U1=some (U2,r))(hs:aK (e::es)):
  EvM X C Y U (.Call (.Name x p) (e::es) [] pos) r U2:=by
 obtain⟨f,fd,ps,hm,hk,hb,F⟩:=F.ex;intro pins s σ H Q I h0;obtain⟨G0,H0,d0,G,dd,E,kq⟩:=h0;refine wpAny_Call_Name_kw (ld_glob I hg hm ?_ hd);cases rs with
 |exc c=>
  cases h;refine PySem.W.callWith_K (h₀:=X.base) I.ok.mod.kin hk (thn (ha pos pins s σ H (λa a=>False) I ⟨G0,H0,d0,G,dd,E,kq⟩) λus s1 ⟨vs,H1,I1,r1,q⟩=>q.elim) (af (hs e ms0)) (aC λy hy=>hs y (mc0 _ hy))
 |ok ds=>
  refine PySem.W.callWith_K (h₀:=X.base) I.ok.mod.kin hk (thn (ha pos pins s σ H (λvs H1=>Mur X.prog X.w X.K C J vs H1 Q (λc a H'=>∃c',c=.ref c'/\lI X c' σ H')) I ⟨G0,H0,d0,G,dd,E,λvs G1 H1 d1 m1 v1 r1=>?_⟩) λus s1 ⟨vs,H1,I1,r1,q⟩=>⟨I1.kIn,rB F hr hb I1 r1 q⟩) (af (hs e ms0)) (aC λy hy=>hs y (mc0 _ hy));exact BX h m1.gh r1 v1 (kq.go m1)
structure FnVm(P:Program)(w:World)(K:Fg)(mg:Str->Option Value)(base:Heap)(C:Addr)(k:Nat)(m:Str)(J:FnM):Prop where
 ex:∃f fd ps,Cls K C/\iJ K C m f/\Binds K fd ps []/\FnOk P w K mg base (CX1 P w) k f fd ps (Mur P w K C J)
def xa{J:FnM}{h:Nat}(F:FnVm X.prog X.w X.K X.mg X.base C k m J)(hl:J.lent.headD false=false)(hm2:m≠"objects"/\m≠"numbers")(hr:Room k X.A)(ho:EvM X C Y U o (.ok (.hdl h)) U1)(ha:EaM X C Y U1 J.lent.tail (e::es) (.ok ds) U2)(hrun:J.run U2 (.hdl h::ds)=some (U',r))(hs:aK (e::es))
  {pl:Sem Bool} (ht:eval (.Call (.Attribute o m apos) (e::es) [] pos) X.env=(do
   let ov ←eval o X.env
   standAt apos.atName
   let (f,first) ←holding [ov] (getMethod ov m pl)
   callWith pos f first (backTo pos (starEach (e::es) X.env)) (backToKw pos (keywordEach [] X.env)))):
  EvM X C Y U (.Call (.Attribute o m apos) (e::es) [] pos) r U':=by
 obtain⟨f,fd,ps,hc,hm,hb,F⟩:=F.ex;intro pins s σ H Q I h0;obtain⟨G0,H0,d0,G,dd,E,kq⟩:=h0;refine PySem.W.methodCall_KW (pl:=pl) (thn (ho pins s σ H (λx H1=>∃a dx fs,x=.ref a/\H1 a=some (.ins C dx fs)/\fs.lookup m=none/\∃G1 d1,MExt G H dd G1 H1 d1/\VS X.prog X.w X.K C G1 H1 d1 U1/\Dp X.K G1 (.hdl h) (.ref a)) I ⟨G0,H0,d0,G,dd,E,λv G1 H1 d1 m1 v1 r1=>?_⟩) λu s1 ⟨x,H1,I1,rx,a,dx,fs,ex,ea,l,G1,d1,m1,v1,r1⟩=>?_) ht
 .obtain⟨a,l,n,dx,objs,rfl,_,_,q,_⟩:=v1.hdl (m1.gh.trans az) r1
  refine⟨a,dx,_,rfl,(m1.gh.trans az) _ _ q,?_,G1,d1,m1,v1,r1⟩;have n1:(m==("objects":Str))=false:=bn0 hm2.1;have n2:(m==("numbers":Str))=false:=bn0 hm2.2;simp[vfs,lk0,n1,n2]
 .subst ex
  obtain rfl:u=Value.ref a:=rx;refine dj I1 ea hc hm l ?_;refine PySem.W.callWith_K (first:=[.ref a]) (h₀:=X.base) I.ok.mod.kin hm.kp (thn (ha pos pins s1 σ H1 (λvs H2=>Mur X.prog X.w X.K C J (.ref a::vs) H2 Q (λc b H'=>∃c',c=.ref c'/\lI X c' σ H')) I1 ⟨G0,H0,d0,G1,d1,E.go m1 v1,λvs G2 H2 d2 m2 v2 r2=>?_⟩) λus s2 ⟨vs,H2,I2,r2,q⟩=>⟨I2.kIn,rB (us:=.ref a::us) (vs:=.ref a::vs) F hr hb I2 (.cons rfl r2) q⟩) (af (hs e ms0)) (aC λy hy=>hs y (mc0 _ hy));exact BX hrun m2.gh (.cons (λb=>r1.mono m2.gg) (.of (r1.mono m2.gg)) r2) v2 (kq.go (m1.trans m2))
end
inductive OM where
 |nx (Y:List Sl)
 |rt (d:D)
 |exc (c:Nat) (Y:List Sl)
noncomputable def GoesM(X:Cx)(C:Addr)(G0 H0:Hp)(d0:Vd)(G:Hp)(U:List (List D))(F:Ends):OM->Prop
 |.nx Y'=>∀G' H' d' σ',EnvM X.prog X.w X.K C G0 H0 d0 G' H' d' σ' Y' U->Same G G'->F.nx σ' H'
 |.rt e=>∀v G' H' d',MExt G0 H0 d0 G' H' d'->VS X.prog X.w X.K C G' H' d' U->Dp X.K G' e v->F.rt v H'
 |.exc c Y'=>∀G' H' d' σ',EnvM X.prog X.w X.K C G0 H0 d0 G' H' d' σ' Y' U->Same G G'->lI X c σ' H'
noncomputable def tSM(X:Cx)(C:Addr)(Y:List Sl)(U:List (List D))(o:OM)(U':List (List D)):TS:=λF σ H=>∃G0 H0 d0 G d,EnvM X.prog X.w X.K C G0 H0 d0 G H d σ Y U/\GoesM X C G0 H0 d0 G U' F o
def S1M(X:Cx)(C:Addr)(Y:List Sl)(U:List (List D))(st:Stmt)(o:OM)(U':List (List D)):Prop:=PS X st (tSM X C Y U o U')
def SsM(X:Cx)(C:Addr)(Y:List Sl)(U:List (List D))(sts:List Stmt)(o:OM)(U':List (List D)):Prop:=PSs X sts (tSM X C Y U o U')
inductive Rt where
 |ok (b:Bool)
 |exc (C:Nat)
noncomputable def tTM(X:Cx)(C:Addr)(Y:List Sl)(U:List (List D))(r:Rt)(U':List (List D)):TT:=λσ H Q=>∃G0 H0 d0 G d,EnvM X.prog X.w X.K C G0 H0 d0 G H d σ Y U/\match r with
 |.ok b=>∀G' H' d',MExt G H d G' H' d'->VS X.prog X.w X.K C G' H' d' U'->Q b H'
 |.exc c=>∀G' H' d',MExt G H d G' H' d'->VS X.prog X.w X.K C G' H' d' U'->lI X c σ H'
def EtM(X:Cx)(C:Addr)(Y:List Sl)(U:List (List D))(e:Expr)(r:Rt)(U':List (List D)):Prop:=PT X e (tTM X C Y U r U')
section
variable {C:Addr}{U U1 U2 U':List (List D)}{rest:List Stmt}{o:OM}{e:Expr}{p:Pos}{c k:Nat}
def GoesM.go{G:Hp}{d0:Vd}{F:Ends}(h:GoesM X C G0 H0 d0 G U F o)(s:Same G G1):GoesM X C G0 H0 d0 G1 U F o:=by
 cases o with
 |nx Y'=>exact λG' H' d' σ' e g=>h G' H' d' σ' e (s.trans g)
 |rt d=>exact h
 |exc c Y'=>exact λG' H' d' σ' e g=>h G' H' d' σ' e (s.trans g)
def AH:SsM X C Y U [] (.nx Y) U:=by rintro pins s σ H F I ⟨G0,H0,d0,G,d,E,R⟩;exact dh pins s σ H F I (R G H d σ E (Same.refl _))
def ub(h1:S1M X C Y U st (.nx Y1) U1)(h2:SsM X C Y1 U1 rest o U2):SsM X C Y U (st::rest) o U2:=λpins s σ H F I ⟨G0,H0,d0,G,d,E,R⟩=>
 aA h1 h2 pins s σ H F I ⟨G0,H0,d0,G,d,E,λG' H' d' σ' E' g=>⟨G0,H0,d0,G',d',E',R.go g⟩⟩
def uc(h1:S1M X C Y U st (.rt d) U1):SsM X C Y U (st::rest) (.rt d) U1:=λpins s σ H F I ⟨G0,H0,d0,G,dd,E,R⟩=>
 aA (u:=λa a a=>False) h1 (λa a a a a a z=>z.elim) pins s σ H F I ⟨G0,H0,d0,G,dd,E,R⟩
def ud(h1:S1M X C Y U st (.exc c Y1) U1):SsM X C Y U (st::rest) (.exc c Y1) U1:=λpins s σ H F I ⟨G0,H0,d0,G,dd,E,R⟩=>
 aA (u:=λa a a=>False) h1 (λa a a a a a z=>z.elim) pins s σ H F I ⟨G0,H0,d0,G,dd,E,R⟩
def xb:S1M X C Y U (.Pass pos) (.nx Y) U:=by rintro pins s σ H F I ⟨G0,H0,d0,G,d,E,R⟩;exact qx pins s σ H F I (R G H d σ E (Same.refl _))
def qb{G0 H0 G H}{d0 d}{σ}{Q}{F}(E:EnvM X.prog X.w X.K C G0 H0 d0 G H d σ Y U)(R:GoesM X C G0 H0 d0 G U1 F (.exc c Y)):PostM X C G H d U1 σ Q (.exc c):=
 λG' H' d' m v=>R G' H' d' σ (E.go m v) m.gg
def AI(S:Sto X x i)(h:EvM X C Y U e (.ok d) U1)(hs:swapsWith e (some (.Name x pos')) pos.line X.env=pure false):S1M X C Y U (.Assign [.Name x pos'] e pos) (.nx (Y.set i (.dat d))) U1:=
 λpins s σ H F I ⟨G0,H0,d0,G,dd,E,R⟩=>gm S.nd S.nm.at' S.nm.loc h hs S.nm.fn pins s σ H F I ⟨G0,H0,d0,G,dd,E,λv G' H' d' m v1 r=>R G' H' d' _ ((E.go m v1).set (S.lt I) r) m.gg⟩
def xf(S:Sto X x i)(h:EvM X C Y U e (.exc c) U1)(hs:swapsWith e (some (.Name x pos')) pos.line X.env=pure false):S1M X C Y U (.Assign [.Name x pos'] e pos) (.exc c Y) U1:=
 λpins s σ H F I ⟨G0,H0,d0,G,dd,E,R⟩=>gm S.nd S.nm.at' S.nm.loc h hs S.nm.fn pins s σ H F I ⟨G0,H0,d0,G,dd,E,qb (Q:=λa a=>True) E R⟩
def xg(h:EvM X C Y U e (.ok d) U1)(hs:swapsWith e none pos.line X.env=pure false):S1M X C Y U (.Expr e pos) (.nx Y) U1:=
 λpins s σ H F I ⟨G0,H0,d0,G,dd,E,R⟩=>eD h hs pins s σ H F I ⟨G0,H0,d0,G,dd,E,λv G' H' d' m v1 r=>R G' H' d' _ (E.go m v1) m.gg⟩
def ue(h:EvM X C Y U e (.exc c) U1)(hs:swapsWith e none pos.line X.env=pure false):S1M X C Y U (.Expr e pos) (.exc c Y) U1:=
 λpins s σ H F I ⟨G0,H0,d0,G,dd,E,R⟩=>eD h hs pins s σ H F I ⟨G0,H0,d0,G,dd,E,qb (Q:=λa a=>True) E R⟩
def AJ(h:EvM X C (Y.map SI.freeze) U e (.ok d) U1):S1M X C Y U (.Return (some e) pos) (.rt d) U1:=by
 rintro pins s σ H F I ⟨G0,H0,d0,G,dd,E,R⟩
 obtain⟨G1,E1,s1⟩:=E.freeze;exact iG h pins s σ H F I ⟨G0,H0,d0,G1,dd,E1,λv G' H' d' m v1 r=>R v G' H' d' (E1.go m v1).start v1 r⟩
def xh(h:EvM X C (Y.map SI.freeze) U e (.exc c) U1):S1M X C Y U (.Return (some e) pos) (.exc c (Y.map SI.freeze)) U1:=by
 rintro pins s σ H F I ⟨G0,H0,d0,G,dd,E,R⟩
 obtain⟨G1,E1,s1⟩:=E.freeze;exact iG h pins s σ H F I ⟨G0,H0,d0,G1,dd,E1,qb (Q:=λa a=>True) E1 (R.go s1)⟩
def bO(h:Et X (Y.map (vE C U)) e t):EtM X C Y U e (.ok t) U:=λpins s σ H Q I ⟨G0,H0,d0,G,dd,E,k⟩=>
 h pins s σ H Q I ⟨G,H,G,E.view,λG' H' e1=>k G' H' dd (E.vs.mext E.sub' e1) (E.vs.step e1)⟩
def fV(hc:EtM X C Y U e (.ok true) U1)(h:SsM X C Y U1 body o U2):S1M X C Y U (.If e body body2 pos) o U2:=λpins s σ H F I ⟨G0,H0,d0,G,dd,E,R⟩=>
 gU (u:=λa a a=>False) hc h (λa a a a a a z=>z.elim) pins s σ H F I ⟨G0,H0,d0,G,dd,E,λG' H' d' m v=>iteT ⟨G0,H0,d0,G',d',E.go m v,R.go m.gg⟩⟩
def lJ(hc:EtM X C Y U e (.ok false) U1)(h:SsM X C Y U1 body2 o U2):S1M X C Y U (.If e body body2 pos) o U2:=λpins s σ H F I ⟨G0,H0,d0,G,dd,E,R⟩=>
 gU (t:=λa a a=>False) hc (λa a a a a a z=>z.elim) h pins s σ H F I ⟨G0,H0,d0,G,dd,E,λG' H' d' m v=>gu ⟨G0,H0,d0,G',d',E.go m v,R.go m.gg⟩⟩
def rC(hc:EtM X C Y U e (.exc c) U1):S1M X C Y U (.If e body body2 pos) (.exc c Y) U1:=λpins s σ H F I ⟨G0,H0,d0,G,dd,E,R⟩=>
 gU (t:=λa a a=>False) (u:=λa a a=>False) hc (λa a a a a a z=>z.elim) (λa a a a a a z=>z.elim) pins s σ H F I ⟨G0,H0,d0,G,dd,E,λG' H' d' m v=>R G' H' d' σ (E.go m v) m.gg⟩
def TgM(X:Cx)(tg:Expr)(t:Tg):Prop:=∀d,PG X tg (λv σ H Q=>∃(W:St->List Sl->Prop)(G:Hp)(Y Y':List Sl),W σ Y/\(∀σ Y i e u,W σ Y->i<σ.length->Dp X.K G e u->W (σ.set i (some u)) (Y.set i (.dat e)))/\Same G H/\Dp X.K G d v/\ar t d Y=some Y'/\∀σ',W σ' Y'->Q σ' H)
def nM(hN:X.N.Nodup)(hi:X.N[i]?=some x)(hx:Loc X.env.scope x)(hf:X.fn x=true\/X.env.scope.names.lookup x=some .local):TgM X (.Name x p) (.one i):=
 λd pins s σ H v u Q I r ⟨W,G,Y,Y',w,cl,sm,dv,hb,k⟩=>by
  cases hb;exact qy hN hi hx hf pins s σ H v u Q I r (k _ (cl σ Y i d v w (by rw[I.len];exact (gi0 hi).1) dv))
def KQ(X:Cx)(ts:List Expr)(is:List Nat):Prop:=∀ds,ds.length=is.length->PGs X ts (λvs σ H Q=>∃(W:St->List Sl->Prop)(G:Hp)(Y:List Sl),W σ Y/\(∀σ Y i e u,W σ Y->i<σ.length->Dp X.K G e u->W (σ.set i (some u)) (Y.set i (.dat e)))/\Same G H/\Dps X.K G ds vs/\
 ∀σ',W σ' ((is.zip ds).foldl (λY p=>Y.set p.1 (.dat p.2)) Y)->Q σ' H)
def KR{is:List Nat}(hN:X.N.Nodup)(h:Nms X ts is):KQ X ts is:=by
 induction h with
 |nil=>
  intro ds hl pins s σ H vs us Q I r h0;obtain⟨W,G,Y,w,cl,sm,dv,k⟩:=h0;have:ds=[]:=ez0 hl;subst this;cases dv;exact qz pins s σ H [] us Q I r ⟨rfl,k σ w⟩
 |@cons x px i es is h1 h2 ih=>
  intro ds hl pins s σ H vs us Q I r h0;obtain⟨W,G,Y,w,cl,sm,dv,k⟩:=h0;cases ds with
  |nil=>cases hl
  |cons d ds=>
   cases dv with
   |cons d1 d2=>
    exact mr (nM (p:=px) hN h1.at' h1.loc h1.fn d) (ih ds (by simpa using hl)) rfl pins s σ H _ us Q I r
     ⟨_,_,rfl,W,G,Y,_,w,cl,sm,d1,rfl,λσ' w'=>⟨W,G,_,w',cl,sm,d2,λσ2 w2=>k σ2 w2⟩⟩
set_option tactic.hygienic true in
def AK{is:List Nat}(hc:X.calm=true)(hN:X.N.Nodup)(h:Nms X ts is):TgM X (.Tuple ts n pos) (.tup is):=by
 intro d pins s σ H v u Q I r h0;obtain⟨W,G,Y,Y',w,cl,sm,dv,hb,k⟩:=h0;cases d with
 |tuple ds=>
  rw[gE]at hb;split at hb
  .rename_i hl
   cases hb;cases dv with
   |tuple hq dr=>
    obtain⟨e1,e2⟩:=h.each (env:=X.env);exact uG (n:=is.length) hc (KR hN h ds hl.symm) e1 e2 pins s σ H _ u Q I r ⟨_,_,rfl,SqT.of (sm _ _ hq),by rw[<-dr.length];exact hl.symm,W,G,Y,w,cl,sm,dr,k⟩
  .cases hb
 |_=>cases hb
def xi{Cc:Cs}(c:CxC X Cc){t:Tg}(h:cTg Cc tg=some t):TgM X tg t:=by
 have nms:∀{es:List Expr}{is:List Nat},slots Cc es=some is->Nms X es is:=by
  intro es
  induction es with
  |nil=>intro is h;cases h;exact .nil
  |cons e r ih=>
   intro is h;cases e with
   |Name x px=>
    obtain⟨i,h1,h2⟩:=bx0 (show (eU Cc x).bind _=some is from h);obtain⟨is',h3,rfl⟩:=mx0 h2;exact .cons (jj c h1) (ih h3)
   |_=>cases h
 cases tg with
 |Name x px=>
  obtain⟨i,h1,rfl⟩:=mx0 (show (eU Cc x).map _=some t from h);have n:=jj c h1;exact nM (by rw[c.N];exact c.nd) n.at' n.loc n.fn
 |Tuple es n pos=>
  obtain⟨is,h1,rfl⟩:=mx0 (show (slots Cc es).map _=some t from h);exact AK c.calm (by rw[c.N];exact c.nd) (nms h1)
 |_=>cases h
noncomputable def OM.andThen:OM->(List Sl->Option (OM×List (List D)))->List (List D)->Option (OM×List (List D))
 |.nx Y,f,_=>f Y
 |.rt d,_,U=>some (.rt d,U)
 |.exc c Y,_,U=>some (.exc c Y,U)
noncomputable def forM(t:D->List Sl->Option (List Sl))(b:List Sl->List (List D)->Option (OM×List (List D))):List D->List Sl->List (List D)->Option (OM×List (List D))
 |[],Y,U=>some (.nx Y,U)
 |d::r,Y,U=>(t d Y).bind λY'=>(b Y' U).bind λq=>q.1.andThen (λY2=>forM t b r Y2 q.2) q.2
noncomputable def tIM(X:Cx)(C:Addr)(Y:List Sl)(U:List (List D))(ds:List D)(U':List (List D)):TI:=λσ H R=>∃G0 H0 d0 G d,EnvM X.prog X.w X.K C G0 H0 d0 G H d σ Y U/\∀J G' H' d',MExt G H d G' H' d'->VS X.prog X.w X.K C G' H' d' U'->
 (∃Hs,gZ X.K G' Hs J ds/\∀G2 H2 d2 σ2 Y2 U2,EnvM X.prog X.w X.K C G0 H0 d0 G2 H2 d2 σ2 Y2 U2->Same G' G2->Same Hs H2)->R J H'
def SiM(X:Cx)(C:Addr)(Y:List Sl)(U:List (List D))(iter:Expr)(ds:List D)(U':List (List D)):Prop:=∀tg,PI X tg iter (tIM X C Y U ds U')
def xj(h:Si X Y true iter ds):SiM X C Y U iter ds U:=by
 rintro tg pins s σ H R I ⟨G0,H0,d0,G,d,E,k⟩
 obtain⟨Gb,Hb,en,st⟩:=E.full;exact h tg pins s σ H R I ⟨Gb,Hb,G,en,λJ G' H' e1 sr=>k J G' H' d (E.vs.mext E.sub' e1) (E.vs.step e1) ⟨Hb,sr,λG2 H2 d2 σ2 Y2 U2 E2 g=>st G2 H2 d2 σ2 Y2 U2 E2 (e1.gg.trans g)⟩⟩
def AL{t:Tg}{run:List Sl->List (List D)->Option (OM×List (List D))}(hi:SiM X C Y U iter ds U1)(ht:TgM X tg t)(hb:∀Y' U' o' U2,run Y' U'=some (o',U2)->SsM X C Y' U' body o' U2)(h:forM (ar t) run ds Y U1=some (o,U2))
  (hc:X.calm=true) (hp:PassesOwn (model X.prog X.w) X.A X.env X.xe) (hf:∀x,foldedSetIterable iter X.env x=pure x):S1M X C Y U (.For tg iter body [] pos) o U2:=by
 intro pins s σ H F I h0;obtain⟨G0,H0,d0,G,d,E,R⟩:=h0;refine uJ hp hc (hi _) (HG (tg:=tg)) (BQ (body:=body)) hf pins s σ H F I ?_;refine⟨G0,H0,d0,G,d,E,λJ G1 H1 d1 m1 v1 ⟨Hs,hJ,hst⟩=>⟨λk m σ' H'=>m=ds.length-k/\k<=ds.length/\∃Y' U' G' d',forM (ar t) run (ds.drop k) Y' U'=some (o,U2)/\EnvM X.prog X.w X.K C G0 H0 d0 G' H' d' σ' Y' U'/\Same G1 G',⟨ds.length,by simp,Nat.zero_le _,Y,U1,G1,d1,h,E.go m1 v1,Same.refl _⟩,?_⟩⟩
 rintro k m σ' H' ⟨rfl,hk,Y',U',G',d',pv,E',g1⟩
 have g0:Same G G':=m1.gg.trans g1;have hs:=hst G' H' d' σ' Y' U' E' g1
 by_cases hlt:k<ds.length
 .refine .inr ⟨hJ.go k H' hlt (g1.trans E'.sub) hs,λσ2 H2=>k+1<=ds.length/\∃Y2 U3 G2 d2,forM (ar t) run (ds.drop (k+1)) Y2 U3=some (o,U2)/\EnvM X.prog X.w X.K C G0 H0 d0 G2 H2 d2 σ2 Y2 U3/\Same G1 G2,λσ2 H2 ⟨h1,Y2,U3,G2,d2,p2,en2,s2⟩=>⟨ds.length-(k+1),by omega,rfl,h1,Y2,U3,G2,d2,p2,en2,s2⟩,λv H2 y=>?_⟩
  have hd:ds[k]?=some ds[k]:=ge0 hlt;rw[List.drop_eq_getElem_cons hlt]at pv;generalize ds[k]=dd at hd pv;obtain⟨Y1,b1,pv⟩:=bx0 (show (ar t dd Y').bind _=some (o,U2)from pv);obtain⟨⟨o1,U3⟩,b2,pv⟩:=bx0 pv;obtain⟨G2,e2,d2⟩:=hJ.yld k G' H' v H2 dd hd g1 E'.sub hs y;have E2:=E'.go (E'.vs.mext E'.sub' e2) (E'.vs.step e2);intro pins' s' u' I' r';refine ht dd pins' s' σ' H2 v u' _ I' r' ⟨λσ3 Y3=>EnvM X.prog X.w X.K C G0 H0 d0 G2 H2 d' σ3 Y3 U',G2,Y',Y1,E2,λσ3 Y3 i e u E3 hi de=>E3.set hi de,E2.sub,d2,b1,λσ2 en2=>?_⟩;intro pins2 s2 I2;refine hb Y1 U' o1 U3 b2 pins2 s2 σ2 H2 _ I2 ⟨G0,H0,d0,G2,d',en2,?_⟩
  cases o1 with
  |nx Y3=>exact λG3 H3 d3 σ3 en3 g3=>⟨hlt,Y3,U3,G3,d3,pv,en3,g1.trans (e2.gg.trans g3)⟩
  |rt dr=>cases pv;exact R
  |exc c Y3=>cases pv;exact R.go (g0.trans e2.gg)
 .have e:k=ds.length:=by omega
  subst e;rw[List.drop_length]at pv;cases pv;exact .inl ⟨hJ.stop H' (g1.trans E'.sub) hs,R G' H' d' σ' E' g0⟩
end
noncomputable def aY:List Value:=[.type "ValueError",.type "Exception",.type "BaseException",.type "object"]
set_option tactic.hygienic true in
def rD{h}{C}{bmB}{newId}(X:K.In h)(q:PySem.W.excIn K C bmB newId=true):
  ∃bm N nm qn bs hdct sn sub ab col dd k0 k1 k2 k3 k5 mN,h.get? C=some (excClassObj nm qn C N bs bm hdct sn sub ab col dd k0 k1 k2 k3 k5 newId)/\h.Ns N mN/\mN "__init__"=none/\OwnTail h bmB bm:=by
 unfold PySem.W.excIn at q;split at q
 .rename_i dd cd sl ho
  split at q
  .rename_i C' bm k0 k1 k2 k3 n k5 hm hs
   simp only[be0,beq_iff_eq,Bool.not_eq_true']at q;obtain⟨⟨⟨⟨⟨rfl,rfl⟩,hdel⟩,ht⟩,hok⟩,hni⟩:=q;obtain⟨nm,bs,mro,ns,qn,hd,sn,sub,ab,col,del⟩:=cd;dsimp only at hm hdel hok hni;subst hm hdel;have hsl:sl=#[k0,k1,k2,k3,some (.builtin n),k5]:=by
    obtain⟨l⟩:=sl;simp only at hs;rw[hs]
   subst hsl;exact⟨bm,ns,nm,qn,bs,hd,sn,sub,ab,col,dd,k0,k1,k2,k3,k5,_,X _ _ ho,.of_isNs (PySem.W.isNs_of_in X hok),PySem.W.nsMap_none_of_in X hok hni,PySem.W.tail_of_in X ht⟩
  .cases q
 .cases q
structure HU(X:Cx)(x:Str)(c:Addr):Prop where
 mg:X.mg x=some (.ref c)
 ex:∃newId initId,ExcBaseFacts "ValueError" newId initId aY/\PySem.W.excIn X.K c aY newId=true
section
variable {C:Addr}{U U1:List (List D)}{e:Expr}{c:Nat}{r:R}
def uf(K:HU X x c)(hg:Gl X x)(hd:(x==("__debug__":Str))=false)(hc:X.calm=true)(h:EaM X C Y U [] (e::es) (.ok ds) U1)(hl:ds.length<=1000)(hs:aK (e::es)):
  S1M X C Y U (.Raise (some (.Call (.Name x np) (e::es) [] cpos)) none pos) (.exc c Y) U1:=by
 intro pins s σ H F I h0;obtain⟨G0,H0,d0,G,d,E,R⟩:=h0;obtain⟨newId,initId,FB,q⟩:=K.ex;obtain⟨bm,N,nm,qn,bs,hdct,sn,sub,ab,col,dd,k0,k1,k2,k3,k5,mN,hC,hN,hni,TL⟩:=rD I.ok.mod.kin q;refine wpAny_Raise_call_subT (C:=c) (nm:=nm) (q:=qn) (N:=N) (bs:=bs) (bm:=bm) (hdct:=hdct) (sn:=sn) (sub:=sub) (ab:=ab) (col:=col) (dd:=dd) (k0:=k0) (k1:=k1) (k2:=k2) (k3:=k3) (k5:=k5)
  FB (mN:=mN) (TL.hasType FB.hasBase) (I.ok.hd hc) (aC hs) hni (ld_glob I hg K.mg ⟨rfl,?_⟩ hd)
 have hst:=af (env:=X.env) (es:=es) (hs e ms0);have step:=h cpos pins s σ H (λvs H1=>vs.length<=1000/\∃G1 d1,MExt G H d G1 H1 d1/\VS X.prog X.w X.K C G1 H1 d1 U1) I ⟨G0,H0,d0,G,d,E,λvs G1 H1 d1 m1 v1 r1=>⟨by rw[<-r1.length];exact hl,G1,d1,m1,v1⟩⟩;rw[hst]at step ⊢;refine Calls.evalArgs_plain (wpAny_mono step (λus s1 h1=>?_) λa a y=>y);obtain⟨vs,H1,I1,rv,hlen,G1,d1,m1,v1⟩:=h1;have kp:=I1.bk;refine⟨rfl,by rw[<-rv.length];exact Nat.le_of_lt (cX hlen),kp _ _ hC,hN.keeps kp,TL.keeps kp,λh' ea hm=>?_⟩;obtain⟨I2,fl⟩:=AD I1 hm;exact R G1 H1 d1 σ (E.go m1 v1) m1.gg pins ea _ I2 fl
end
noncomputable abbrev tri(X:Cx)(E:Value->Shared->Prop)(pn:List (Addr×Obj)):Cx:={X with xe:=E,pn:=pn}
section
variable {E:Value->Shared->Prop}{c:Addr}
def EW(ok:X.Ok):(tri X E pn).Ok:=
 ⟨ok.mod,ok.kind,ok.glob,ok.blt,ok.above,ok.inj,ok.has,ok.cab,ok.hd,ok.frames,ok.stk,ok.exf,ok.bs,ok.bsz,ok.noex,ok.exfs,ok.funs,ok.frf⟩
def lK(I:Inv X pins σ H s):Inv (tri X E (X.pn++pins)) [] σ H s:=⟨EW I.ok,I.os,I.bare,I.base,I.loc,I.cell,I.free,I.freeC,λp hp=>I.pin p (by simpa using hp),I.hok,I.len⟩
def ck(I:Inv (tri X E (X.pn++pins)) pins' σ H s):Inv X pins σ H s:=⟨(have ok:=I.ok;⟨ok.mod,ok.kind,ok.glob,ok.blt,ok.above,ok.inj,ok.has,ok.cab,ok.hd,ok.frames,ok.stk,ok.exf,ok.bs,ok.bsz,ok.noex,ok.exfs,ok.funs,ok.frf⟩),I.os,I.bare,I.base,I.loc,I.cell,I.free,I.freeC,λp hp=>I.pin p (List.mem_append_left _ hp),I.hok,I.len⟩
def xl{D:Ends}{f:Flow}(h:SP (tri X E (X.pn++pins)) pins' D f s'):SP X pins D f s':=by
 cases f with
 |next=>obtain⟨σ',H',I,q⟩:=h;exact⟨σ',H',ck I,q⟩
 |brk=>obtain⟨σ',H',I,q⟩:=h;exact⟨σ',H',ck I,q⟩
 |cont=>obtain⟨σ',H',I,q⟩:=h;exact⟨σ',H',ck I,q⟩
 |ret u=>obtain⟨v,σ',H',I,r,q⟩:=h;exact⟨v,σ',H',ck I,r,q⟩
def xm{B h'}(I:Inv X pins' σ H s)(ok:HOk X.prog X.w H B)(kb:∀b o,X.s₀.heap.get? b=some o->X.H₀ b=none->b∉X.fs->b∉X.ex->B.get? b=some o)
  (th:∀b o,X.s₀.heap.get? b=some o->b∉frs X.stack->b∉X.ex->∃o',B.get? b=some o') (pn:∀p∈X.pn,B.get? p.1=some p.2) (st:B.StaysIn h') (up:s.heap.UpToSlots h'):Inv X [] σ H {s with heap:=h'}:=by
 have cellK:∀cc v,s.heap.IsCell cc v->h'.IsCell cc v:=λcc v ⟨o,ho,hd⟩=>by
  obtain⟨sl,q⟩:=up cc o ho λvs z=>by rw[hd]at z;cases z
  exact⟨_,q,hd⟩
 have slot:∀b o,X.s₀.heap.get? b=some o->X.H₀ b=none->b∈X.fs->b∉X.ex->∃sl,h'.get? b=some {o with slots:=sl}:=λb o e n hb nx=>by
  obtain⟨sl,h1⟩:=I.base.slot b o e n hb nx;obtain⟨_,o2,h2,h3⟩:=I.ok.funs.mem hb;rw[e]at h2;cases h2;obtain⟨sl',h4⟩:=up b _ h1 h3;exact⟨sl',h4⟩
 refine⟨I.ok,I.os,I.bare,⟨λb o e n nf nx=>st b o (kb b o e n nf nx),slot,I.base.free,λb o e nx=>?_,I.base.tups,I.base.frzs,I.base.tbls⟩,?_,λx cc e=>?_,I.free,I.freeC,λp hp=>?_,ok.kept st,I.len⟩
 .by_cases hb:b∈frs X.stack
  .rcases mq0 (I.stkSub b hb)with r|r
   .subst r
    exact absurd (nl0 (hs0 e) I.ok.above) (li0 _)
   .obtain⟨sl,q⟩:=slot b o e (I.ok.frf b r) r nx
    exact⟨_,q⟩
  .obtain⟨o',q⟩:=th b o e hb nx
   exact⟨o',st b o' q⟩
 .obtain⟨m,hn,hl⟩:=I.loc
  refine⟨m,up.ns hn,λi x v e1 e2 e3=>?_⟩;obtain⟨u,r,l⟩:=hl i x v e1 e2 e3;refine⟨u,r,?_⟩;rcases l with l|⟨k,cc,e,z⟩
  .exact .inl l
  .exact .inr ⟨k,cc,e,cellK cc _ z⟩
 .obtain⟨v,z⟩:=I.cell x cc e
  exact⟨v,cellK cc v z⟩
 .have hp:p∈X.pn:=by simpa using hp
  obtain⟨_,b,d,e,f⟩:=I.pin p (List.mem_append_left _ hp);exact⟨st _ _ (pn p hp),b,d,e,f⟩
def ug{o:Obj}(I:Inv X pins σ H s)(hn:H ea=none)(ho:s.heap.get? ea=some o)(hcl:o.cls=.ref c)(h0:X.s₀.heap.get? ea=none)(hL:ea≠X.env.locals)(hc:∀x cc,X.env.cells.lookup x=some cc->cc≠ea)(hp:∀p∈X.pn++pins,p.1≠ea):
  Inv X pins σ (upd H ea (.ext (ExcAt ea c))) s:=by
 have ne:∀b u,H b=some u->b≠ea:=λb u e=>ai e hn
 refine⟨I.ok,I.os,I.bare,⟨I.base.keep,I.base.slot,λb u e n nx=>?_,I.base.there,λb xs e=>?_,λb u xs e=>?_,λb ps e=>?_⟩,I.loc,I.cell,?_,λx cc e=>?_,λp q=>?_,λb u e=>?_,I.len⟩
 .rw[aa λz=>by subst z;rw[h0]at e;cases e];exact I.base.free b u e n nx
 .rw[aa (ne _ _ (I.base.tups b xs e))];exact I.base.tups b xs e
 .rw[aa (ne _ _ (I.base.frzs b u xs e))];exact I.base.frzs b u xs e
 .obtain⟨more,q⟩:=I.base.tbls b ps e
  exact⟨more,by rw[aa (ne _ _ q)];exact q⟩
 .rw[aa (Ne.symm hL)];exact I.free
 .rw[aa (hc x cc e)];exact I.freeC x cc e
 .obtain⟨a,b,r⟩:=I.pin p q
  exact⟨a,by rw[aa (hp p q)];exact b,r⟩
 .by_cases z:b=ea
  .subst z
   rw[ae]at e;cases e;exact⟨⟨o,ho,hcl⟩,⟨o,ho⟩,λh1 h2 ⟨o1,a1,b1⟩ k=>⟨o1,k o1 a1,b1⟩⟩
  .rw[aa z]at e
   exact (I.hok b u e).stay (λd d d q=>q) (λcc q=>by rw[aa (ne _ _ q)];exact q) λcc xs q=>by rw[aa (ne _ _ q)];exact q
def xo{m:Str->Option Value}{n:Str}{v:Option Value}(I:Inv X pins σ H s)(hN:X.N.Nodup)(hj:X.N[j]?=some n)(hm:∀(i:Nat)(x:Str)(v:V),X.N[i]?=some x->σ[i]?=some (some v)->Vis X.env.scope x->∃u,RelV v u/\Look X.env s.heap m x u)
  (hn:h'.Ns X.env.locals (λx=>if x=n then v else m x)) (sb:Heap.SameBut X.env.locals s.heap h'):Inv X pins (σ.set j .none) H {s with heap:=h',toks:=t'}:=by
 have k:∀b o,b≠X.env.locals->s.heap.get? b=some o->h'.get? b=some o:=λb o hb e=>(sb.2 b hb).trans e
 have nL:∀b o,X.s₀.heap.get? b=some o->b≠X.env.locals:=λb o e=>nn0 (nl0 (hs0 e) I.ok.above)
 have cellK:∀x cc,X.env.cells.lookup x=some cc->∀v,s.heap.IsCell cc v->h'.IsCell cc v:=λx cc e v ⟨o,ho,hd⟩=>⟨o,k cc o (I.cne x cc e) ho,hd⟩
 refine⟨I.ok,I.os,I.bare,⟨λb o e n nf nx=>k b o (nL b o e) (I.base.keep b o e n nf nx),λb o e n hb nx=>?_,I.base.free,λb o e nx=>?_,I.base.tups,I.base.frzs,I.base.tbls⟩,⟨_,hn,λi x w e1 e2 e3=>?_⟩,λx cc e=>?_,I.free,I.freeC,λp hp=>?_,λb u e=>?_,by simp[I.len]⟩
 .obtain⟨sl,q⟩:=I.base.slot b o e n hb nx
  exact⟨sl,k b _ (nL b o e) q⟩
 .obtain⟨o',q⟩:=I.base.there b o e nx
  exact⟨o',k b o' (nL b o e) q⟩
 .rcases getE_set e2 with⟨rfl,z⟩|⟨ne,z⟩
  .cases z
  .obtain⟨u,r,l⟩:=hm i x w e1 z e3
   refine⟨u,r,?_⟩;rcases l with⟨l1,l2⟩|⟨l1,cc,e,q⟩
   .have xn:x≠n:=λz=>ne (iF hN (z▸e1) hj)
    exact .inl ⟨l1,by show (if x=n then v else m x)=_;rw[if_neg xn];exact l2⟩
   .exact .inr ⟨l1,cc,e,cellK x cc e _ q⟩
 .obtain⟨v,z⟩:=I.cell x cc e
  exact⟨v,cellK x cc e v z⟩
 .obtain⟨a,b,d,f⟩:=I.pin p hp
  exact⟨k _ _ d a,b,d,f⟩
 .have nb:b≠X.env.locals:=λz=>by subst z;rw[I.free]at e;cases e
  exact (I.hok b u e).stay (λcc w hc q=>k cc w (by
   rcases hc with rfl|hc
   .exact nb
   .intro z;subst z;rw[I.free]at hc;cases hc) q) (λc q=>q) λc c q=>q
def nN{P}{w}{H}{h}{a}{o}(x:ObjOk P w H h a o):∃ob,h.get? a=some ob:=by
 induction o with
 |lst xs=>obtain⟨_,_,n,_,e⟩:=x;exact⟨_,e⟩
 |tup xs=>obtain⟨_,_,_,ob,e,_⟩:=x;exact⟨_,e⟩
 |dK kvs=>obtain⟨_,_,_,_,ob,es,ep,e,_⟩:=x;exact⟨_,e⟩
 |dT kvs=>obtain⟨_,_,_,_,ob,es,ep,e,_⟩:=x;exact⟨_,e⟩
 |set S n=>obtain⟨ob,es,ep,t,e,_⟩:=x;exact⟨_,e⟩
 |ins C dx fs=>obtain⟨_,_,_,e,_⟩:=x;exact⟨_,e⟩
 |own y=>exact x
 |xd fs=>obtain⟨mA,⟨od,es,ep,e,c⟩,r⟩:=x;exact⟨_,e⟩
 |rng lo hi=>obtain⟨t,u,v,e⟩:=x;exact⟨_,e⟩
 |frz ob u ih=>exact ih x.2
 |tbl ps=>exact⟨_,x⟩
 |met f y=>exact⟨_,x⟩
 |ext J=>exact x.2.1
end
structure AM(X:Cx):Prop where
 stk:X.stack=X.env::X.outer
 fr:X.env.frame=some X.env.locals
 ex:X.ex=[]
section
variable {M:Model}{A:Around}{E:Value->Shared->Prop}
variable {nm q nmT qT:Str}{C N T NT:Addr}{bs bm bsT bmT:List Value}{hdct hdctT:Bool}{sn snT:List Str}{sub subT:List Value}{ab abT:Bool}{col colT:Option Bool}{dd ddT:Option Addr}{k0 k1 k2 k3 k5 l0 l1 l2 l3 l5:Option Value}{newId newIdT:String}
def jq{h}{g}{d}{t}{os}{e}{oe}{Q}
  (hC:h.get? C=some (excClassObj nm q C N bs bm hdct sn sub ab col dd k0 k1 k2 k3 k5 newId)) (hT:h.get? T=some (excClassObj nmT qT T NT bsT bmT hdctT snT subT abT colT ddT l0 l1 l2 l3 l5 newIdT)) (he:h.get? e=some oe) (hcls:oe.cls=.ref C) (hbase:bmT.contains (.type "BaseException")=true)
  (hq:Q ((Value.ref C::bm).contains (.ref T)) ⟨h,g,d,t,os⟩):wpAny M A (excMatches (.ref e) (.ref T)) Q E ⟨h,g,d,t,os⟩:=by
 have hcB:(Value.ref T::bmT).contains (.type "BaseException")=true:=by rw[List.contains_cons,hbase,Bool.or_true]
 have f:=tc_notTuple;unfold excMatches
 repeat (first|(with_reducible refine wpAny_loadPart_at he ?_;rw[hcls])|with_reducible refine wpAny_loadPart_at hT ?_|with_reducible refine wpAny_loadPart_at hC ?_|(with_reducible refine wpAny_isSubtype_exc hT ?_;rw[hcB])|(with_reducible refine wpAny_isSubtype_exc hC ?_)|wp_step)
 cases hb:(Value.ref C::bm).contains (.ref T)<;>(rw[hb]at hq;wp_walk;exact hq)
end
def Lnd(X:Cx)(pins:List (Addr×Obj))(σ:St)(H:Hp)(ea c:Addr)(s:Shared):Prop:=
 Inv X pins σ H s/\∃B a0,HOk X.prog X.w H B/\(∀b o,X.s₀.heap.get? b=some o->X.H₀ b=none->b∉X.fs->b∉X.ex->B.get? b=some o)/\(∀b o,X.s₀.heap.get? b=some o->b∉frs X.stack->b∉X.ex->∃o',B.get? b=some o')/\
  (∀p∈X.pn++pins,B.get? p.1=some p.2)/\Heap.FlyingW B X.stack ea (.ref c) a0 s.heap
section
variable {E:Value->Shared->Prop}{c:Addr}
def qc{B:Heap}{a0:Value}(I:Inv X pins σ H s)(ok:HOk X.prog X.w H B)(kb:∀b o,X.s₀.heap.get? b=some o->X.H₀ b=none->b∉X.fs->b∉X.ex->B.get? b=some o)
  (th:∀b o,X.s₀.heap.get? b=some o->b∉frs X.stack->b∉X.ex->∃o',B.get? b=some o') (pn:∀p∈X.pn++pins,B.get? p.1=some p.2) (fl:Heap.FlyingW B X.stack ea (.ref c) a0 h') (up:s.heap.UpToSlots h'):Lnd X pins σ H ea c {s with heap:=h'}:=
 ⟨ck (E:=λa a=>False) (xm (X:=tri X (λa a=>False) (X.pn++pins)) (lK I) ok kb th pn fl.1 up),B,a0,ok,kb,th,pn,fl⟩
def lands(f:AM X)(I:Inv (tri X E' (X.pn++pins)) pins' σ H s)(fl:Fl (tri X E' (X.pn++pins)) ea c H s){Q:Shared->Prop}(k:∀h',Lnd X pins σ H ea c {s with heap:=h'}->Q {s with heap:=h'}):
  wpAny (model X.prog X.w) X.A (noteFrame (.ref ea) X.env) (λa s₂=>wpAny (model X.prog X.w) X.A (setFlight (.ref ea) none) (λa s3=>Q s3) E s₂) E s:=by
 obtain⟨B,ok,kb,th,pn,r⟩:=fl;have hfr:X.A.frames=some (X.env::X.outer):=by rw[<-f.stk];exact I.ok.frames
 have I0:=ck I;rcases r with⟨vs,m,ff⟩|⟨a0,fl⟩
 .have hin:∀env∈X.stack,∀b,env.frame=some b->b∈frs X.stack:=λenv he b hb=>List.mem_filterMap.mpr ⟨env,he,hb⟩
  let B':=PySem.W.hideAll B (frs X.stack)
  have nfr:=I0.stkFree;have ok':HOk X.prog X.w H B':=λb o e=>by
   have nf:∀cc u,H cc=some u->cc∉frs X.stack:=λcc u e z=>by rw[nfr cc z]at e;cases e
   refine (ok b o e).stay (λcc u hc q=>PySem.W.hideAll_get _ q ?_) (λa q=>q) λa a q=>q
   rcases hc with rfl|hc
   .exact nf _ _ e
   .exact nf _ _ hc
  have nst:∀b o,X.s₀.heap.get? b=some o->b∉X.fs->b∉frs X.stack:=λb o e nf z=>by
   rcases mq0 (I0.stkSub b z)with r|r
   .subst r
    exact absurd (nl0 (hs0 e) I0.ok.above) (li0 _)
   .exact nf r
  have kb':∀b o,X.s₀.heap.get? b=some o->X.H₀ b=none->b∉X.fs->b∉X.ex->B'.get? b=some o:=λb o e n nf nx=>PySem.W.hideAll_get _ (kb b o e n nf nx) (nst b o e nf)
  have th':∀b o,X.s₀.heap.get? b=some o->b∉frs X.stack->b∉X.ex->∃o',B'.get? b=some o':=λb o e nf nx=>let ⟨o',q⟩:=th b o e nf nx;⟨o',PySem.W.hideAll_get _ q nf⟩
  have pn':∀p∈X.pn++pins,B'.get? p.1=some p.2:=λp hp=>PySem.W.hideAll_get _ (pn p hp) λz=>by
   obtain⟨_,_,d,e,_⟩:=I0.pin p hp;rcases mq0 (I0.stkSub p.1 z)with r|r
   .exact d r
   .exact e r
  obtain⟨t,he,htn,ht⟩:=m.there;have ff':s.heap.FunFrames B' X.stack:=(PySem.W.funFrames_hide ff hin).of_keeps λb o hb a=>⟨o,m.keeps b o hb,rfl⟩
  have hen:B'.get? ea=none:=by
   cases q:B'.get? ea with
   |none=>rfl
   |some o=>have:=PySem.W.of_hideAll _ q;rw[m.new]at this;cases this
  rw[f.stk]at ff';unfold noteFrame;simp only[f.fr];refine wb0 (wpAny_field he rfl (x:=.none) rfl ?_);rw[if_neg (by decide)];refine wpAny_entryW (a0:=.ref t) hfr ff' f.fr he (λb o q=>m.keeps b o (PySem.W.of_hideAll _ q)) hen rfl (by show 1<6;decide) rfl λh4 hN=>?_
  obtain⟨n1,n2,n3,n4⟩:=hN;refine wpAny_landsW (base:=B') (l:=X.env::X.outer) (a0:=.ref t) (cls:=.ref c) (L:=X.env.locals) ⟨n1,hen,n2,n3⟩ λh5 fl5 up5=>?_
  exact k h5 (qc I0 ok' kb' th' pn' (by rw[f.stk];exact fl5) (Heap.UpToSlots.trans n4 up5))
 .have fl:Heap.FlyingW B (X.env::X.outer) ea (.ref c) a0 s.heap:=by rw[<-f.stk];exact fl
  refine wpAny_looks_onW hfr f.fr fl λh4 held up4=>?_
  refine wpAny_landsW held λh5 fl5 up5=>?_
  exact k h5 (qc I0 ok kb th pn (by rw[f.stk];exact fl5) (up4.trans up5))
def uh{M}{A}{Q:Shared->Prop}(L:Lnd X pins σ H ea c s)(k:∀h',Lnd X pins σ H ea c {s with heap:=h'}->Q {s with heap:=h'}):wpAny M A (setFlight (.ref ea) none) (λa s'=>Q s') E s:=by
 obtain⟨I,B,a0,ok,kb,th,pn,fl⟩:=L;exact lands_againW fl λh' fl' up=>k h' (qc I ok kb th pn fl' up)
def ui(f:AM X)(L:Lnd X pins σ H ea c s):Inv X pins σ (upd H ea (.ext (ExcAt ea c))) s/\H ea=none:=by
 obtain⟨I,B,a0,ok,kb,th,pn,fl⟩:=L;obtain⟨oe,vs,ho,hcl,hd,_⟩:=fl.first;have hn:H ea=none:=by
  cases q:H ea with
  |none=>rfl
  |some o=>obtain⟨ob,e⟩:=nN (ok ea o q);rw[fl.2.1]at e;cases e
 have nfr:ea∉frs X.stack:=λz=>by
  obtain⟨_,o,h1,h2⟩:=fl.2.2.1.mem z;rw[ho]at h1;cases h1;exact h2 vs hd
 refine⟨ug I hn ho hcl ?_ (λz=>?_) (λx cc e z=>?_) λp hp z=>?_,hn⟩
 .cases q:X.s₀.heap.get? ea with
  |none=>rfl
  |some o=>obtain⟨o',e⟩:=th ea o q nfr (by rw[f.ex];exact λz=>nomatch z);rw[fl.2.1]at e;cases e
 .refine nfr ?_
  rw[z,f.stk];exact List.mem_filterMap.mpr ⟨X.env,ms0,f.fr⟩
 .obtain⟨v,o,h1,h2⟩:=I.cell x cc e
  rw[z,ho]at h1;cases h1;rw[hd]at h2;cases h2
 .have:=pn p hp
  rw[z,fl.2.1]at this;cases this
end
def EnvD.unset{G:Hp}(E:EnvD K G0 H0 G H σ Y)(j:Nat):EnvD K G0 H0 G H (σ.set j .none) (Y.set j .no):=by
 have at':∀{i:Nat}{sl:Sl},(Y.set j .no)[i]?=some sl->sl≠.no->i≠j/\Y[i]?=some sl:=λ{i sl} h hn=>by
  rcases getE_set h with⟨rfl,z⟩|⟨ne,z⟩
  .exact absurd z hn
  .exact⟨ne,z⟩
 have sg:∀{i:Nat},i≠j->(σ.set j .none)[i]?=σ[i]?:=λ{i} ne=>gn0 (Ne.symm ne)
 refine⟨E.ext,by simp[E.len],λi d h=>?_,λi d h=>?_,λi d h=>?_,λi k d e p h1 h2 h3 h4=>?_⟩
 .obtain⟨ne,z⟩:=at' h (by intro q;cases q)
  rw[sg ne];exact E.dat i d z
 .obtain⟨ne,z⟩:=at' h (by intro q;cases q)
  rw[sg ne];exact E.lent i d z
 .obtain⟨ne,z⟩:=at' h (by intro q;cases q)
  rw[sg ne];exact E.own i d z
 .obtain⟨n1,z1⟩:=at' h1 (by intro q;cases q)
  obtain⟨n2,z2⟩:=at' h2 (by intro q;cases q);rw[sg n1]at h3;rw[sg n2]at h4;exact E.apart i k d e p z1 z2 h3 h4
theorem EnvM.unset{P}{w}{K}{C}{G0 H0 G H}{d0 d}{Y}{U}(E:EnvM P w K C G0 H0 d0 G H d σ Y U)(j:Nat):EnvM P w K C G0 H0 d0 G H d (σ.set j .none) (Y.set j .no) U:=by
 obtain⟨Gb,Hb,s1,s2,en⟩:=E.bas;exact⟨⟨Gb,Hb,s1,s2,en.unset j⟩,E.nw,E.pre,E.vs⟩
noncomputable abbrev mrk(X:Cx)(ea:Addr):Cx:={X with A:=X.A.mark (some (.ref ea)),calm:=false,xe:=λa a=>False}
def rE{X}{pins}{H}{s}{ea}(I:Inv X pins σ H s):Inv (mrk X ea) pins σ H s:=
 ⟨⟨I.ok.mod,I.ok.kind,I.ok.glob,I.ok.blt,I.ok.above,I.ok.inj,I.ok.has,I.ok.cab,(λz=>nomatch z),I.ok.frames,I.ok.stk,I.ok.exf,I.ok.bs,I.ok.bsz,I.ok.noex,I.ok.exfs,I.ok.funs,I.ok.frf⟩,I.os,I.bare,I.base,I.loc,I.cell,I.free,I.freeC,I.pin,I.hok,I.len⟩
def uj{X}{pins}{H}{s}{ea}(ok:X.Ok)(I:Inv (mrk X ea) pins σ H s):Inv X pins σ H s:=
 ⟨ok,I.os,I.bare,I.base,I.loc,I.cell,I.free,I.freeC,I.pin,I.hok,I.len⟩
noncomputable def fw(K:Fg)(c t:Addr):Bool:=match K.lookup c with
 |some ⟨_,_,.cls cd,_⟩=>cd.mro.contains (.ref t)
 |_=>false
section
variable {C:Addr}{U U1:List (List D)}{n k:Str}{c t:Nat}{tp kp ap hp:Pos}
def nO{hs:ExceptHandler}{rs:List ExceptHandler}{o:OM}(hb:∀E pn,PassesOwn (model X.prog X.w) X.A X.env E->SsM (tri X E pn) C Y U body o U1)(ho:∀c Y',o≠.exc c Y'):S1M X C Y U (.Try body (hs::rs) [] [] pos) o U1:=by
 intro pins s σ H F I h0;obtain⟨G0,H0,d0,G,d,E,R⟩:=h0;refine wpAny_Try_except ?_;refine wpAny_mono (hb _ (X.pn++pins) PassesOwn.looking [] s σ H F (lK I) ⟨G0,H0,d0,G,d,E,?_⟩) (λf s1 h1=>?_) λe s1 h1=>h1
 .cases o with
  |nx Y'=>exact R
  |rt dd=>exact R
  |exc c Y'=>exact absurd rfl (ho c Y')
 .have h2:=xl h1
  cases f with
  |next=>exact wpAny_execs_nil h2
  |brk=>exact h2
  |cont=>exact h2
  |ret u=>exact h2
set_option tactic.hygienic true in
def xp(f:AM X)(hb:∀E pn,PassesOwn (model X.prog X.w) X.A X.env E->SsM (tri X E pn) C Y U body (.exc c Y1) U1)
  (hg:Gl X x) (hd:(x==("__debug__":Str))=false) (hm:X.mg x=some (.ref t)) {newId newIdT}{bmB} (hq:PySem.W.excIn X.K c bmB newId=true) (hqT:PySem.W.excIn X.K t bmB newIdT=true) (hbB:bmB.contains (.type "BaseException")=true) (hbel:fw X.K c t=true)
  (Sn:Sto X n j) (hln:X.env.kindOf n=some .local) (hdn:(n==("__debug__":Str))=false) (hcn:(n==("__classdict__":Str))=false) (Sk:Sto X k i) (hij:i≠j) (hsw:swapsWith (.Name n np) (some (.Name k kp)) ap.line X.env=pure false):
  S1M X C Y U (.Try body [.ExceptHandler (some (.Name x tp)) (some n) [.Assign [.Name k kp] (.Name n np) ap] hp] [] [] pos) (.nx ((Y1.set i (.dat (.exc c))).set j .no)) U1:=by
 intro pins s σ H F I h0;obtain⟨G0,H0,d0,G,d,E,R⟩:=h0;refine wpAny_Try_except ?_;refine wpAny_mono (hb _ (X.pn++pins) PassesOwn.looking [] s σ H {F with nx:=λa a=>False,rt:=λa a=>False,bk:=λa a=>False,ct:=λa a=>False} (lK I) ⟨G0,H0,d0,G,d,E,?_⟩) (λf s1 h1=>?_) λe s1 h1=>h1
 .intro G1 H1 d1 σ1 E1 g1 pins' ea s1 I1 fl
  refine lands f I1 fl λh5 L5=>?_
  refine wpAny_handleBy_cons (codeAny_handlers_test (ld_glob (X:=mrk X ea) (rE L5.1) hg hm ?_ hd)) (by intro q;cases q);have kin:=L5.1.kIn;obtain⟨bm,N,nm,qn,bs,hdct,sn,sub,ab,col,dd,k0,k1,k2,k3,k5,hC,hcon⟩:=(show ∃bm N nm qn bs hdct sn sub ab col dd k0 k1 k2 k3 k5,h5.get? c=some (excClassObj nm qn c N bs bm hdct sn sub ab col dd k0 k1 k2 k3 k5 newId)/\(Value.ref c::bm).contains (.ref t)=true by
    unfold PySem.W.excIn at hq;split at hq
    .rename_i dd cd sl ho
     split at hq
     .rename_i C' bm k0 k1 k2 k3 n k5 hm hs
      simp only[be0,beq_iff_eq,Bool.not_eq_true']at hq;obtain⟨⟨⟨⟨⟨rfl,rfl⟩,hdel⟩,ht⟩,hok⟩,hni⟩:=hq;obtain⟨nm,bs,mro,ns,qn,hd,sn,sub,ab,col,del⟩:=cd;dsimp only at hm hdel hok hni;subst hm hdel;have hsl:sl=#[k0,k1,k2,k3,some (.builtin n),k5]:=by
       obtain⟨l⟩:=sl;simp only at hs;rw[hs]
      subst hsl;refine⟨bm,ns,nm,qn,bs,hd,sn,sub,ab,col,dd,k0,k1,k2,k3,k5,kin _ _ ho,?_⟩;unfold fw at hbel;rw[ho]at hbel;exact hbel
     .cases hq
    .cases hq)
  obtain⟨bmT,NT,nmT,qT,bsT,hdT,snT,subT,abT,colT,ddT,l0,l1,l2,l3,l5,mT,hT,_,_,TLT⟩:=rD kin hqT;have L5':=L5;obtain⟨_,B,a0,_,_,_,_,fl5⟩:=L5';obtain⟨ob,hob,hobc⟩:=fl5.there;refine jq (T:=t) hC hT hob hobc (TLT.hasType hbB) ?_;rw[hcon];refine codeAny_handlers_suite_as ?_;refine uh L5 λh6 L6=>?_
  obtain⟨I6,hn6⟩:=ui f L6;have e6:Ext G1 H1 (upd G1 ea (.ext (ExcAt ea c))) (upd H1 ea (.ext (ExcAt ea c))):=.laid E1.sub hn6;have E6:=E1.go (E1.vs.mext E1.sub' e6) (E1.vs.step e6);have lj:=Sn.lt I6;have li:=Sk.lt I6;refine store_ok I6 Sn.nd Sn.nm.at' Sn.nm.loc (v:=.ref ea) rfl (λs7 I7=>?_) Sn.nm.fn;have I7':Inv (mrk X ea) pins (σ1.set j (some (.ref ea))) (upd H1 ea (.ext (ExcAt ea c))) s7:=rE I7;have asg:=gm (X:=mrk X ea) (i:=i) (x:=k) (pos:=ap) (pos':=kp) Sk.nd Sk.nm.at' Sk.nm.loc (cN (X:=mrk X ea) (i:=j) (x:=n) (pos:=np) Sn.nm.at' (Or.inl hln) hdn hcn) hsw Sk.nm.fn pins s7 _ _ {nx:=λσ8 H8=>σ8=(σ1.set j (some (.ref ea))).set i (some (.ref ea))/\H8=upd H1 ea (.ext (ExcAt ea c)),rt:=λa a=>False} I7' ⟨.ref ea,gs0 lj,rfl,rfl⟩
  refine wpAny_execs_cons (wpAny_mono asg (λf s8 h8=>?_) λe s8 h8=>h8.elim);cases f with
  |next=>
   obtain⟨σ8,H8,I8,rfl,rfl⟩:=h8;refine wpAny_execs_nil ?_;have I8:=uj I.ok I8;obtain⟨m,hn,hl⟩:=I8.loc;refine wpAny_nameGoes_keeps hln hn (by rw[I.ok.kind];rfl) λh9 v hn9 sb9=>?_
   have I9:=xo (t':=s8.toks+1) I8 Sn.nd Sn.nm.at' hl hn9 sb9;refine⟨_,_,I9,R _ _ d1 _ ?_ (g1.trans e6.gg)⟩;have E9:=(E6.set li (.exc ae:Dp X.K _ (.exc c) (.ref ea))).unset j;have e:((σ1.set j (some (.ref ea))).set i (some (.ref ea))).set j .none=(σ1.set i (some (.ref ea))).set j .none:=by
    rw[List.set_comm _ _ hij.symm,List.set_set]
   rw[e];exact E9
  |brk=>obtain⟨_,_,_,z⟩:=h8;exact z.elim
  |cont=>obtain⟨_,_,_,z⟩:=h8;exact z.elim
  |ret u=>obtain⟨_,_,_,_,_,z⟩:=h8;exact z.elim
 .cases f with
  |next=>obtain⟨_,_,_,z⟩:=h1;exact z.elim
  |brk=>obtain⟨_,_,_,z⟩:=h1;exact z.elim
  |cont=>obtain⟨_,_,_,z⟩:=h1;exact z.elim
  |ret u=>obtain⟨_,_,_,_,_,z⟩:=h1;exact z.elim
end
def EX{H}{ps}{q}{o}(h:q∉ps):er (upd H q o) ps=upd (er H ps) q o:=by
 funext b
 by_cases e:b=q
 .subst e;rw[ae,er_out h,ae]
 .rw[aa e]
  by_cases z:b∈ps
  .rw[kC z,kC z]
  .rw[er_out z,er_out z,aa e]
section
variable {C:Addr}{G:Hp}{d0 d:Vd}{U:List (List D)}
def VS.touch(v:VS P w K C G H d U){o:HO}(hq:q∉parts d)(no:∀a,H q≠some (.own a))(ni:notIns o=true):VS P w K C G (upd H q o) d U:=
 ⟨v.len,v.nd,λh a l n e=>by
  obtain⟨dx,objs,h1,h2,h3,as,h4,h5,h6,h7⟩:=v.at' h a l n e;have m:=gN e;refine⟨dx,objs,h1,h2,?_,as,?_,h5,?_,h7⟩
  .rw[aa λz=>no a (by rw[<-z];exact h3)];exact h3
  .rw[aa λz=>hq (by rw[<-z];exact m.1)];exact h4
  .rw[aa λz=>hq (by rw[<-z];exact m.2)];exact h6,
  λa C' dx fs e=>v.uni a C' dx fs (cy ni a C' dx fs e),v.out⟩
end
section
variable {C:Addr}{U U1 U2 U':List (List D)}{rest:List Stmt}{o:OM}{e:Expr}{p:Pos}{c k:Nat}{r:R}{rs:Rs}
def HV(ha:EvM X C Y U a (.exc c) U1):EvM X C Y U (.BoolOp .And [a,b] pos) (.exc c) U1:=λpins s σ H Q I ⟨G0,H0,d0,G,dd,E,k⟩=>
 oI (tb:=λd d d=>False) ha (λd d d d d d z=>z.elim) pins s σ H Q I ⟨G0,H0,d0,G,dd,E,k⟩
def AN{x1}(h:EaM X C Y U [] es (.ok ds) U1)(hz:ds.length<=1000):EvM X C Y U (.Tuple es x1 pos) (.ok (.tuple ds)) U1:=λpins s σ H Q I ⟨G0,H0,d0,G,dd,E,k⟩=>
 uQ h pins s σ H Q I ⟨G0,H0,d0,G,dd,E,λvs G1 H1 d1 m1 v1 r=>⟨by rw[<-r.length];exact Nat.le_of_lt (cX hz),λq hq=>by
  have e:Ext G1 H1 (upd G1 q (.tup vs)) (upd H1 q (.tup vs)):=.laid (m1.gh.trans az) hq;exact k _ _ _ d1 (m1.trans (v1.mext m1.gh e)) (v1.step e) (.tuple ae (r.dps.mono e.gg))⟩⟩
def AO(ha:EvM X C Y U a (.ok (.tuple (d::ds))) U1):EvM X C Y U (.Subscript a (.Constant (.int 0) j p) pos) (.ok d) U1:=λpins s σ H Q I ⟨G0,H0,d0,G,dd,E,k⟩=>
 qE oX ha oH (λb b=>rfl) pins s σ H Q I ⟨G0,H0,d0,G,dd,E,λv G1 H1 d1 m1 v1 r1=>by
  cases r1 with
  |tuple hq r=>cases r with
   |cons q1 q2=>exact⟨_,_,0,_,rfl,rfl,SqT.of ((m1.gh.trans az) _ _ hq),by unfold L2.atI L2.ixN;simp,k _ G1 H1 d1 m1 v1 q1⟩⟩
def xq(ha:EvM X C Y U a (.exc c) U1):EvM X C Y U (.Subscript a (.Constant (.int 0) j p) pos) (.exc c) U1:=λpins s σ H Q I ⟨G0,H0,d0,G,dd,E,k⟩=>
 qE oX ha oH (λb b=>rfl) pins s σ H Q I ⟨G0,H0,d0,G,dd,E,k⟩
def dW:Sl->Bool
 |.lent (.scr _)=>true
 |.lent _=>false
 |_=>true
def xr:Option HO->Bool
 |some (.own _)=>true
 |_=>false
def uk(h:E1 X Y st (.nx Y1))(hl:∀sl∈Y1,dW sl=true):S1M X C Y U st (.nx Y1) U:=by
 intro pins s σ H F I h0;obtain⟨G0,H0,d0,G,dd,E,R⟩:=h0;obtain⟨Gb,Hb,s1,s2,e⟩:=E.bas
 let sp:Addr->Prop:=λb=>b∈parts dd\/xr (H b)=true
 have spH:∀b,sp b->∃o,H b=some o:=λb z=>by
  rcases z with z|z
  .exact E.vs.part z
  .cases q:H b with
   |none=>rw[q]at z;cases z
   |some o=>exact⟨o,rfl⟩
 have spG:∀b,sp b->∀C' dx fs,H b≠some (.ins C' dx fs):=λb z C' dx fs q=>by
  rcases z with z|z
  .exact E.vs.notPart q z
  .rw[q]at z;cases z
 open Classical in
 let Hp':Hp:=λb=>if sp b then H b else Hb b
 open Classical in
 let Gp':Hp:=λb=>if sp b then G b else Gb b
 have hI:∀b,sp b->Hp' b=H b:=λb z=>if_pos z
 have hO:∀b,¬ sp b->Hp' b=Hb b:=λb z=>if_neg z
 have gI:∀b,sp b->Gp' b=G b:=λb z=>if_pos z
 have gO:∀b,¬ sp b->Gp' b=Gb b:=λb z=>if_neg z
 have sub:Same G H:=E.sub;have hbH:Same Hb H:=λb o z=>az b o (e.ext.hh b o z)
 have hbHp:Same Hb Hp':=λb o z=>by
  by_cases q:sp b
  .rw[hI b q];exact hbH b o z
  .rw[hO b q];exact z
 have gbGp:Same Gb Gp':=λb o z=>by
  by_cases q:sp b
  .rw[gI b q];exact e.ext.gg b o z
  .rw[gO b q];exact z
 have E0:EnvD X.K Gp' Hp' G H σ Y:=by
  refine⟨⟨λb o z=>?_,λb o z=>?_,sub,λb o z1 z2=>?_,λb C' dx fs z=>?_⟩,e.len,e.dat,λi d z=>?_,λi d z=>?_,e.apart⟩
  .by_cases q:sp b
   .rw[hI b q]at z;exact z
   .rw[hO b q]at z;exact hbH b o z
  .by_cases q:sp b
   .rw[gI b q]at z;exact z
   .rw[gO b q]at z;exact e.ext.gg b o z
  .by_cases q:sp b
   .rw[gI b q]at z1;exact z1
   .rw[gO b q]at z1;rw[hO b q]at z2;exact e.ext.nw b o z1 z2
  .have q:¬ sp b:=λq=>spG b q C' dx fs z
   rw[hO b q];exact e.ext.ni b C' dx fs (by rw[er_out λm=>q (.inl m)];exact z)
  .obtain⟨v,a1,a2⟩:=e.lent i d z
   exact⟨v,a1,(a2.monoH hbHp).monoG gbGp⟩
  .obtain⟨q,a1,a2,a3,a4⟩:=e.own i d z
   obtain⟨oo,ho⟩:=a4.some;have nq:¬ sp q:=λz=>by
    rcases z with z|z
    .exact (aS ho).1 z
    .rcases a4 with⟨_,_,_,y,_⟩|⟨_,_,_,y,_⟩<;>(rw[(aS y).2]at z;cases z)
   refine⟨q,a1,a2,by rw[hO q nq];exact a3,?_⟩;rcases a4 with⟨ds,vs,y1,y2,y3⟩|⟨ds,vs,y1,y2,y3⟩
   .exact .inl ⟨ds,vs,y1,az _ _ y2,y3⟩
   .exact .inr ⟨ds,vs,y1,az _ _ y2,y3⟩
 refine h pins s σ H F I ⟨Gp',Hp',G,E0,λG' H' σ' e' g=>R G' H' dd σ' ?_ g⟩;have ns:∀b,sp b->H' b=H b:=λb z=>by
  obtain⟨o,ho⟩:=spH b z;rw[ho];exact e'.ext.hh b o (by rw[hI b z];exact ho)
 have pG:∀b∈parts dd,G' b=none:=λb hb=>by
  obtain⟨o,ho⟩:=E.vs.part hb;exact e'.ext.nw b o (by rw[gI b (.inl hb)];exact E.vs.out b hb) (by rw[hI b (.inl hb)];exact ho)
 have lst_nsp:∀{q:Addr}{o:HO},H' q=some o->Hp' q=none->¬ sp q:=λ{q o} y z m=>by
  obtain⟨o',ho⟩:=spH q m;rw[hI q m,ho]at z;cases z
 refine⟨⟨Gb,Hb,s1,s2,⟨⟨λb o z=>?_,gbGp.trans e'.ext.gg,λb o z=>?_,λb o z1 z2=>?_,λb C' dx fs z=>?_⟩,e'.len,e'.dat,λi d z=>?_,λi d z=>?_,e'.apart⟩⟩,λb o z1 z2=>?_,E.pre,?_⟩
 .have np:b∉parts dd:=(aS (e.ext.hh b o z)).1
  rw[er_out np];exact e'.ext.hh b o (hbHp b o z)
 .have np:b∉parts dd:=λm=>by rw[pG b m]at z;cases z
  rw[er_out np];exact e'.ext.gh b o z
 .by_cases q:sp b
  .exact e'.ext.nw b o (by rw[gI b q];exact e.ext.nw b o z1 z2) (hbHp b o z2)
  .exact e'.ext.nw b o (by rw[gO b q];exact z1) (hbHp b o z2)
 .obtain⟨n1,n2⟩:=aS z
  have:=e'.ext.ni b C' dx fs n2;have q:¬ sp b:=λq=>by rw[hI b q]at this;exact spG b q C' dx fs this
  rw[hO b q]at this;exact this
 .obtain⟨v,a1,a2⟩:=e'.lent i d z
  have lo:=hl _ (mg0 z);have gB:∀{q:Addr}{o:HO},Gp' q=some o->xr (some o)=false->Gb q=some o:=λ{q o} y z=>by
   have nq:¬ sp q:=λm=>by
    rw[gI q m]at y;rcases m with m|m
    .rw[E.vs.out q m]at y;cases y
    .rw[sub q o y,z]at m;cases m
   rw[gO q nq]at y;exact y
  refine⟨v,a1,?_⟩;cases d with
  |scr ns=>
   cases a2 with
   |of y=>
    cases y with
    |scr y=>
     refine .of (.scr ?_);rcases y with y|y
     .left
      rcases y with y|⟨o,y⟩
      .exact .inl (gB y rfl)
      .exact .inr ⟨o,gB y rfl⟩
     .exact .inr y
  |_=>cases lo
 .obtain⟨q,a1,a2,a3,a4⟩:=e'.own i d z
  obtain⟨oo,ho⟩:=a4.some;have nq:=lst_nsp ho a3;refine⟨q,a1,a2,by rw[hO q nq]at a3;exact a3,?_⟩;rcases a4 with⟨ds,vs,y1,y2,y3⟩|⟨ds,vs,y1,y2,y3⟩
  .exact .inl ⟨ds,vs,y1,by rw[er_out λm=>nq (.inl m)];exact y2,y3⟩
  .exact .inr ⟨ds,vs,y1,by rw[er_out λm=>nq (.inl m)];exact y2,y3⟩
 .have gn:=E.nw b o z1 z2
  obtain⟨o',ho⟩:=E.start.st b o z2
  by_cases q:sp b
  .exact e'.ext.nw b o' (by rw[gI b q];exact gn) (by rw[hI b q];exact ho)
  .have np:b∉parts d0:=λm=>q (.inl (gP E.pre m))
   have hb:Hb b=some o:=s2.1 b o (by rw[er_out np];exact z2);refine e'.ext.nw b o ?_ (by rw[hO b q];exact hb);rw[gO b q];cases y:Gb b with
   |none=>rfl
   |some o''=>have:=e.ext.gg b o'' y;rw[gn]at this;cases this
 .refine⟨E.vs.len,E.vs.nd,λh a l n q=>?_,λa C' dx fs z=>?_,pG⟩
  .obtain⟨dx,objs,h1,h2,h3,as,h4,h5,h6,h7⟩:=E.vs.at' h a l n q
   have m:=gN q;exact⟨dx,objs,h1,g _ _ h2,by rw[ns dx (.inr (by rw[h3];rfl))];exact h3,as,by rw[ns l (.inl m.1)];exact h4,h5.mono g,by rw[ns n (.inl m.2)];exact h6,h7⟩
  .have:=e'.ext.ni a C' dx fs z
   have q:¬ sp a:=λq=>by rw[hI a q]at this;exact spG a q C' dx fs this
   rw[hO a q]at this;exact E.vs.uni a C' dx fs (hbH _ _ this)
end
section
variable {C:Addr}{G H1:Hp}{d0 d d1:Vd}{U:List (List D)}
theorem EnvM.blk(E:EnvM P w K C G0 H0 d0 G H d σ Y U):EnvM P w K C G H d G H d (gC tn js σ) (SI.blk tn.length js Y) U:=by
 obtain⟨Gb,Hb,s1,s2,e⟩:=E.bas;exact⟨⟨G,er H (parts d),Same.refl _,⟨Same.refl _,λa a h a=>h⟩,e.blk⟩,λa a h a=>h,List.prefix_refl _,E.vs⟩
theorem EnvM.touch{o:HO}(E:EnvM P w K C G0 H0 d0 G H d σ Y U)(hn:dQ Y)(hg:G q=none)(h0:H0 q=none)(hH:H q=none\/∃ys,H q=some (.lst ys))(hp:q∉parts d)(ho:notIns o=true):EnvM P w K C G0 H0 d0 G (upd H q o) d σ Y U:=by
 obtain⟨Gb,Hb,s1,s2,e⟩:=E.bas;have hb:Hb q=none:=by
  cases z:Hb q with
  |none=>rfl
  |some o'=>
   cases y:notIns o' with
   |true=>have:=(aS (s2.2 q o' z y)).2;rw[h0]at this;cases this
   |false=>
    have:=(aS (e.ext.hh q o' z)).2;rcases hH with x|⟨ys,x⟩<;>rw[x]at this
    .cases this
    .cases this;cases y
 refine⟨⟨Gb,Hb,s1,s2,?_⟩,E.nw,E.pre,E.vs.touch hp (λa z=>?_) ho⟩
 .rw[EX hp];exact e.touch hn hg hb ho
 .rcases hH with x|⟨ys,x⟩<;>(rw[x]at z;cases z)
theorem EnvM.forget(E:EnvM P w K C G0 H0 d0 G H d σ Y U)(hl:Y'.length=Y.length)(h:∀(i:Nat) sl,Y'[i]?=some sl->sl=.no\/Y[i]?=some sl):EnvM P w K C G0 H0 d0 G H d σ Y' U:=by
 obtain⟨Gb,Hb,s1,s2,e⟩:=E.bas;exact⟨⟨Gb,Hb,s1,s2,e.forget hl h⟩,E.nw,E.pre,E.vs⟩
def MExt.show{ys:List V}(m:MExt G H d G1 H1 d1)(hq:H q=none)(hg:G1 q=none)(h1:H1 q=some (.lst ys))(hp:q∉parts d1):MExt G H d (upd G1 q (.lst ys)) H1 d1:=
 ⟨m.gg.trans (aF hg),m.hh,λb o e=>by
  by_cases z:b=q
  .subst z;rw[ae]at e;cases e;rw[er_out hp];exact h1
  .rw[aa z]at e;exact m.gh b o e,λb o e1 e2=>by
  have z:b≠q:=λz=>by rw[z,hq]at e2;cases e2
  rw[aa z];exact m.nw b o e1 e2,m.pre,m.st⟩
def VS.show{ys:List V}(v:VS P w K C G H d U)(hg:G q=none)(hp:q∉parts d):VS P w K C (upd G q (.lst ys)) H d U:=
 ⟨v.len,v.nd,λh a l n e=>by
  obtain⟨dx,objs,h1,h2,h3,as,h4,h5,h6,h7⟩:=v.at' h a l n e;exact⟨dx,objs,h1,aF hg _ _ h2,h3,as,h4,h5.mono (aF hg),h6,h7⟩,v.uni,λb hb=>by
  have nb:b≠q:=λz=>hp (by rw[<-z];exact hb)
  rw[aa nb];exact v.out b hb⟩
end
noncomputable def jr(f:D->List (List D)->Option (D×List (List D))):List D->List (List D)->Option (List D×List (List D))
 |[],U=>some ([],U)
 |d::r,U=>(f d U).bind λz=>(jr f r z.2).map λq=>(z.1::q.1,q.2)
section
variable {C:Addr}{U U1 U2:List (List D)}{t:Tg}
def xt{f:List Sl->List (List D)->Option (D×List (List D))}(B:BlkOk X scope js)(hcalm:X.calm=true)(hi:EvM X C Y U iter (.ok (.list ds)) U1)
  (ht:∀(A:Addr)(s:Shared)(H:Hp)(fp:List Addr),TgM (L2.C.blk X scope (aE X tn js) A s H fp) tg t) (hlt:mK t tn.length=true)
  (he:∀(A:Addr)(s:Shared)(H:Hp)(fp:List Addr) Y' U' e U3,f Y' U'=some (e,U3)->EvM (L2.C.blk X scope (aE X tn js) A s H fp) C Y' U' elt (.ok e) U3) (hz:ds.length<sizeLine)
  (hrun:jr (λd U'=>(ar t d (SI.blk tn.length js Y)).bind λY'=>f Y' U') ds U1=some (out,U2)) (hs:∀x,foldedSetIterable iter X.env x=pure x):EvM X C Y U (.ListComp elt [⟨tg,iter,[],0⟩] scope pos) (.ok (.list out)) U2:=by
 intro pins s σ H Q I h0;obtain⟨G0,H0,d0,G,dd,E,k⟩:=h0;refine qJ (tn:=tn) (js:=js) (g:=tgC X scope (aE X tn js) tg) (tc:=tcC X scope (aE X tn js) []) (te:=teC X scope (aE X tn js) elt) B hcalm (kZ hi)
  (λC s H fp pins s' σ' H' v u Q' I' r h=>h C s H fp pins s' u I' r) (λC s H fp pins s' σ' H' Q' I' h=>h C s H fp pins s' I') (λC s H fp pins s' σ' H' Q' I' h=>h C s H fp pins s' I') hs pins s σ H Q I ?_
 refine⟨G0,H0,d0,G,dd,E,λv G1 H1 d1 m1 v1 r1=>?_⟩;cases r1 with
 |@list src vs _ hq r=>
 refine⟨src,rfl,⟨_,SqL.of ((m1.gh.trans az) _ _ hq)⟩,λq hq0=>?_⟩;have E1:=E.go m1 v1;have noB:dQ (SI.blk tn.length js Y):=eJ;have gq0:G1 q=none:=(m1.gh.trans az).free hq0;have np0:q∉parts d1:=λm=>by obtain⟨o,ho⟩:=v1.part m;rw[hq0]at ho;cases ho
 have src_ok:gZ X.K G1 (λa=>none) (Itl X.K src) ds:=src_list (λH' g a=>SqL.of (g _ _ hq)) r;have nn:∀{H':Hp},Same (λa=>(none:Option HO)) H':=λ{H'} b o z=>by cases z
 refine⟨λi m σ' H'=>m=ds.length-i/\i<=ds.length/\∃G' d' U' ys outs rest,EnvM X.prog X.w X.K C G1 H1 d1 G' H' d' σ' (SI.blk tn.length js Y) U'/\H' q=some (.lst ys)/\G' q=none/\q∉parts d'/\Dps X.K G' outs ys/\outs.length=i/\
   jr (λd U'=>(ar t d (SI.blk tn.length js Y)).bind λY'=>f Y' U') (ds.drop i) U'=some (rest,U2)/\outs++rest=out,
  ⟨ds.length,by simp,Nat.zero_le _,G1,d1,U1,[],[],out,E1.blk.touch noB gq0 hq0 (.inl hq0) np0 rfl,ae,gq0,np0,.nil,rfl,hrun,rfl⟩,?_⟩
 rintro i m σ' H' ⟨rfl,hil,G',d',U',ys,outs,rest,E',hq',hg',np',r',ol,hc',oe⟩
 have gg:Same G1 G':=E'.gg;have sm:Same G1 H':=gg.trans E'.sub
 by_cases hlt':i<ds.length
 .refine .inr ⟨src_ok.go i H' hlt' sm nn,λv H2 y=>?_⟩
  have hb:ds[i]?=some ds[i]:=ge0 hlt';rw[List.drop_eq_getElem_cons hlt']at hc';generalize ds[i]=dd' at hb hc';obtain⟨z,hz1,hz2⟩:=bx0 (show ((ar t dd' (SI.blk tn.length js Y)).bind λY'=>f Y' U').bind _=some (rest,U2)from hc');obtain⟨Y1,hb1,hf⟩:=bx0 hz1;obtain⟨rest',hc2,hr⟩:=mx0 hz2;obtain⟨ev',U3⟩:=z;cases hr;obtain⟨l1,l2,l3⟩:=kn hlt hb1;obtain⟨G2,e2,d2⟩:=src_ok.yld i G' H' v H2 dd' hb gg E'.sub nn y;have m2:=E'.vs.mext E'.sub' e2;have E2:=E'.go m2 (E'.vs.step e2);have hq2:H2 q=some (.lst ys):=e2.hh _ _ hq';have hg2:G2 q=none:=e2.nw _ _ hg' hq';have back:∀{G3 H3:Hp}{d3:Vd}{σ3:St}{U4:List (List D)},EnvM X.prog X.w X.K C G1 H1 d1 G3 H3 d3 σ3 Y1 U4->EnvM X.prog X.w X.K C G1 H1 d1 G3 H3 d3 σ3 (SI.blk tn.length js Y) U4:=λE3=>E3.forget l1.symm λj sl hj=>by
   by_cases hjn:j<tn.length
   .left
    rcases blk_at hj with z|⟨_,_,z,_⟩
    .exact z
    .omega
   .right;rw[l2 j (by omega)];exact hj
  intro A s0 H0' fp pins s u I rv;refine ht A s0 H0' fp dd' pins s σ' H2 v u _ I rv ⟨λσ3 Y3=>EnvM X.prog X.w X.K C G1 H1 d1 G2 H2 d' σ3 Y3 U',G2,_,Y1,E2,λσ3 Y3 i e u E3 hi de=>E3.set hi de,E2.sub,d2,hb1,λσ2 en2=>?_⟩;intro A s0 H0' fp pins s I;refine pcs_nil pins s _ H2 _ I (iteT ?_);intro A s0 H0' fp pins s I;refine he A s0 H0' fp Y1 U' ev' U3 hf pins s _ H2 _ I ⟨G1,H1,d1,G2,d',en2,λx G4 H4 d4 m4 v4 r4=>?_⟩;have E4:=back (en2.go m4 v4);have hq4:er H4 (parts d4) q=some (.lst ys):=m4.hh q _ (by rw[er_out np'];exact hq2);obtain⟨np4,hq4⟩:=aS hq4;have hg4:G4 q=none:=m4.nw q _ hg2 hq2
  refine⟨ys,hq4,by rw[<-r'.length,ol];omega,ds.length-(i+1),by omega,rfl,hlt',G4,d4,U3,ys++[x],outs++[ev'],rest'.1,E4.touch noB hg4 hq0 (.inr ⟨_,hq4⟩) np4 rfl,ae,hg4,np4,((r'.mono (e2.gg.trans m4.gg)).append (.one r4)),by rw[la0,ol];rfl,hc2,by rw[<-oe,List.append_assoc];rfl⟩
 .have e:i=ds.length:=by omega
  subst e;rw[List.drop_length]at hc';cases hc';rw[List.append_nil]at oe;subst oe;have mm:=m1.trans E'.start;have hqH:H q=none:=by
   cases z:H q with
   |none=>rfl
   |some o=>obtain⟨o',z'⟩:=m1.st q o z;rw[hq0]at z';cases z'
  exact .inl ⟨src_ok.stop H' sm nn,k _ _ H' d' (mm.show hqH hg' hq' np') (E'.vs.show hg' np') (.list ae (r'.mono (aF hg')))⟩
end
section
variable {C:Addr}{U U1 U2 U':List (List D)}{o:OM}{e:Expr}{p:Pos}{k:Nat}{r:R}{rs:Rs}
def xu(hc:EtM X C Y U c (.ok true) U1)(h:EvM X C Y U1 a r U2):EvM X C Y U (.IfExp c a b pos) r U2:=λpins s σ H Q I ⟨G0,H0,d0,G,dd,E,k⟩=>
 fB (tb:=λd d d=>False) hc h (λd d d d d d z=>z.elim) pins s σ H Q I ⟨G0,H0,d0,G,dd,E,λG' H' d' m v=>iteT ⟨G0,H0,d0,G',d',E.go m v,k.go m⟩⟩
def xw(hc:EtM X C Y U c (.ok false) U1)(h:EvM X C Y U1 b r U2):EvM X C Y U (.IfExp c a b pos) r U2:=λpins s σ H Q I ⟨G0,H0,d0,G,dd,E,k⟩=>
 fB (ta:=λd d d=>False) hc (λd d d d d d z=>z.elim) h pins s σ H Q I ⟨G0,H0,d0,G,dd,E,λG' H' d' m v=>gu ⟨G0,H0,d0,G',d',E.go m v,k.go m⟩⟩
end
section
variable {C:Addr}{U U1 U2:List (List D)}{e:Expr}{p:Pos}{k:Nat}{r:R}{rs:Rs}
def rF{op:CmpOp}{r2:R2}(ho:OpR X (compareOp op) r2)(ha:EvM X C Y U a (.ok d1) U1)(hb:Er X (Y.map (vE C U1)) b d2)(h:R2r X.K r2 d1 d2 (.bool t))(hm:behindInMarks op b=false):EtM X C Y U (.Compare a [op] [b] pos) (.ok t) U1:=
 λpins s σ H Q I ⟨G0,H0,d0,G,dd,E,k⟩=>ik ho ha hb hm pins s σ H Q I ⟨G0,H0,d0,G,dd,E,λx G1 H1 d1' m1 v1 r1=>⟨G1,H1,G1,(E.go m1 v1).view,λy G2 H2 e2 r2=>
  h x y G2 H2 _ e2.gh (.of (r1.mono e2.gg)) r2 λv G' H' e3 r3=>by
   cases r3;exact⟨t,rfl,k G' H' d1' (m1.trans (v1.mext (E.go m1 v1).sub' (e2.trans e3))) (v1.step (e2.trans e3))⟩⟩⟩
def opF{op:CmpOp}:OpR X (compareOp op) (λa a a a=>False):=by
 intro pins s σ H x y v u Q I rx ry h;exact h.elim
def nP{op:CmpOp}{c:Nat}(ha:EvM X C Y U a (.exc c) U1)(hm:behindInMarks op b=false):EtM X C Y U (.Compare a [op] [b] pos) (.exc c) U1:=
 λpins s σ H Q I ⟨G0,H0,d0,G,dd,E,k⟩=>ik (tb:=λd d d=>False) opF ha (λd d d d d d z=>z.elim) hm pins s σ H Q I ⟨G0,H0,d0,G,dd,E,k⟩
end
noncomputable def HW(K:Fg)(J:Fn):Sp:=λvs H Q a=>∃ds d G,J.run ds=some d/\bc d=true/\Same G H/\Das K G H J.lent ds vs/\∀p G' H',Ext G H G' H'->G' p=.none->H p=.none->OwnAt K G' H' d p->Q (.ref p) H'
structure FnZn(P:Program)(w:World)(K:Fg)(mg:Str->Option Value)(base:Heap)(k:Nat)(x:Str)(J:Fn):Prop where
 ex:∃f fd ps,mg x=some (.ref f)/\PySem.W.keepIn K (.ref f)=true/\Binds K fd ps []/\FnOk P w K mg base CX0 k f fd ps (HW K J)
section
variable {e:Expr}{p:Pos}{k:Nat}{J:Fn}
def AQ(F:FnZn X.prog X.w X.K X.mg X.base k x J)(hr:Room k X.A)(hg:Gl X x)(hd:(x==("__debug__":Str))=false)(ha:Ea X Y J.lent (e::es) ds)(h:J.run ds=some d)(ho:bc d=true)(hs:aK (e::es)):En X Y (.Call (.Name x p) (e::es) [] pos) d:=by
 obtain⟨f,fd,ps,hm,hk,hb,F⟩:=F.ex;intro pins s σ H Q I h0;obtain⟨G0,H0,G,E,k⟩:=h0;exact qB F hr hg hm hk hb .nil mz ha hd (af (hs e ms0)) (aC λy hy=>hs y (mc0 _ hy)) pins s σ H Q I
  ⟨G0,H0,G,E,λvs G1 H1 e1 r1=>⟨ds,d,G1,h,ho,e1.gh,by rw[List.append_nil];exact r1,λp G' H' e2 g2 h2 o=>k p G' H' (e1.trans e2) g2 (e1.hh.free h2) o⟩⟩
end
section
variable {C:Addr}{G:Hp}{d0 d:Vd}{U:List (List D)}
theorem EnvM.setOwn{y:D}{p:Addr}(E:EnvM P w K C G0 H0 d0 G H d σ Y U)(e1:Ext G H G' H')(hi:i<σ.length)(hO:OwnAt K G' H' y p)(hG:G' p=.none)(h0:H p=.none):EnvM P w K C G0 H0 d0 G' H' d (σ.set i (some (.ref p))) (Y.set i (.own y)) U:=by
 have np:p∉parts d:=λhb=>let ⟨o,ho⟩:=E.vs.part hb;by rw[h0]at ho;cases ho
 have E':=E.step e1;obtain⟨Gb,Hb,s1,s2,e⟩:=E'.bas;obtain⟨_,_,_,_,z⟩:=E.bas;have hb:Hb p=.none:=by
  cases z:Hb p with
  |none=>rfl
  |some o=>
   cases y:notIns o with
   |true=>have:=(aS (E.hh p o (s2.2 p o z y))).2;rw[h0]at this;cases this
   |false=>
    have:=(aS (e.ext.hh p o z)).2;rcases hO with⟨_,_,_,x,_⟩|⟨_,_,_,x,_⟩<;>(rw[x]at this;cases this;cases y)
 refine⟨⟨Gb,Hb,s1,s2,e.setOwn hi ?_ hG hb (z.fresh ((er_out np).trans h0))⟩,E'.nw,E'.pre,E'.vs⟩;rcases hO with⟨a,b,c,x,r⟩|⟨a,b,c,x,r⟩
 .exact .inl ⟨a,b,c,(er_out np).trans x,r⟩
 .exact .inr ⟨a,b,c,(er_out np).trans x,r⟩
end
def xx{C:Addr}{U:List (List D)}{e:Expr}(S:Sto X x i)(h:En X (Y.map (vE C U)) e d)(hs:swapsWith e (some (.Name x pos')) pos.line X.env=pure false):S1M X C Y U (.Assign [.Name x pos'] e pos) (.nx (Y.set i (.own d))) U:=
 λpins s σ H F I ⟨G0,H0,d0,G,dd,E,R⟩=>gm S.nd S.nm.at' S.nm.loc h hs S.nm.fn pins s σ H F I ⟨G,H,G,E.view,λp G' H' e1 g1 h1 o=>R G' H' dd _ (E.setOwn e1 (S.lt I) o g1 h1) e1.gg⟩
section
variable {k:Nat}
noncomputable def HX(C:Cs):(sts:List Stmt)->Option {f:Ss // ∀{Z Γ k X},CxC X C->Wz X Z Γ C k->∀{Y d},(exs Z Γ Y f).bind Out.val=some d->bc d=true->PSs X sts λF σ H=>∃G0 H0 G,EnvD X.K G0 H0 G H σ Y/\∀p G' H',Ext G0 H0 G' H'->G' p=.none->H0 p=.none->OwnAt X.K G' H' d p->F.rt (.ref p) H'}
 |[.If t [.Return (some a) _] [] _,.Return (some b) _]=>(cE 60 C t).bind λT=>match cE 60 C a,cE 60 C b with
  |some ⟨fa,true,oka⟩,some ⟨fb,true,okb⟩=>some ⟨.cons (.ifs T.f (.cons (.ret fa) .nil) .nil) (.cons (.ret fb) .nil),λ{Z Γ k X} c w {Y d} q ho=>by
   obtain⟨o,q,q5⟩:=bS q;obtain⟨o1,q1,q2⟩:=bS q;obtain⟨dt,q3,q4⟩:=bS q1;obtain⟨t,rfl,ht⟩:=(T.ok c w).t q3;intro pins s σ H F I h0;obtain⟨G0,H0,G,env,R⟩:=h0;have fin:∀{e:Expr}{f:E}{pp:Pos}{G1 H1:Hp}{σ':St},SdE X Z Γ e f true->ev Z Γ .val (Y.map freeze) f=some d->PS X (.Return (some e) pp) λF σ H=>∃G1,EnvD X.K G0 H0 G1 H σ Y/\∀p G' H',Ext G0 H0 G' H'->G' p=.none->H0 p=.none->OwnAt X.K G' H' d p->F.rt (.ref p) H':=λS z pins s σ H F I ⟨G1,E1,R⟩=>by
    obtain⟨G2,E2,_⟩:=E1.freeze;exact iG (S.n rfl z ho) pins s σ H F I ⟨G0,H0,G2,E2,λp G' H' e g h o=>R p G' H' (E2.ext.trans e) g (E2.ext.hh.free h) o⟩
   cases t with
   |true=>
    obtain⟨o2,q6,q7⟩:=bS (show (ex Z Γ Y (.ret fa)).bind _=some o1 from q4);obtain⟨d',q8,rfl⟩:=mS q6;cases q7;cases q2;cases q5;exact aA (gU (u:=λi i i=>False) ht (aA (u:=λi i i=>False) (fin (G1:=G) (H1:=H) (σ':=σ) (oka c w) q8) (λi i i i i i z=>z.elim)) (λi i i i i i z=>z.elim)) (u:=λi i i=>False) (λi i i i i i z=>z.elim) pins s σ H F I ⟨G0,H0,G,env,λG1 H1 e1=>iteT ⟨G1,env.step e1,R⟩⟩
   |false=>
    cases q4;obtain⟨o2,q6,q7⟩:=bS (show (ex Z Γ Y (.ret fb)).bind _=some o from q2);obtain⟨d',q8,rfl⟩:=mS q6;cases q7;cases q5;exact aA (gU (t:=λi i i=>False) ht (λi i i i i i z=>z.elim) dh) (aA (u:=λi i i=>False) (fin (G1:=G) (H1:=H) (σ':=σ) (okb c w) q8) (λi i i i i i z=>z.elim)) pins s σ H F I ⟨G0,H0,G,env,λG1 H1 e1=>gu ⟨G1,env.step e1,R⟩⟩⟩
  |_,_=>none
 |_=>none
noncomputable def rG(fns cst:List Str)(lent:List Bool)(st:Stmt)(vc:Option Nat)(vms:List Str)(xcs:List (Str×Nat×List (Nat×Bool))):Option Def:=
 (aT st).bind λ(ps,body,sc)=>(HX (mL fns cst ps body sc vc vms xcs) body).map λb=>{lent,slots:=(ps++ao sc ps).length,body:=b.1}
set_option tactic.hygienic true in
def EY{ps:List Str}{dfn:Def}{vc:Option Nat}{xcs:List (Str×Nat×List (Nat×Bool))}(F:Fun K x qual st f fd)(S:aU (ps++ao (defScope st) ps) ps (defScope st))(hp:aT st=some (ps,defBody st,defScope st))(hd:rG fns cst lent st vc vms xcs=some dfn)(hlen:lent.length=ps.length)
  (M:Az P w K mg base Z Γ fns vc vms xcs k):FnOk P w K mg base CX0 (k+1) f fd ps (HW K (AA Z Γ dfn)):=by
 unfold rG at hd;rw[hp,bs0]at hd;obtain⟨b,hb,rfl⟩:=mx0 (show (HX (mL fns cst ps (defBody st) (defScope st) vc vms xcs) (defBody st)).map _=some dfn from hd);refine F.ok S (λvs H Q E h=>?_) (λcdv A outer s H vs Q E hr h=>?_)
 .obtain⟨ds,d,G,h1,_,_,r,_⟩:=h
  have h1:(if ds.length=lent.length then _ else .none)=some d:=h1;split at h1
  .rename_i hl;rw[<-r.length,hl,hlen]
  .cases h1
 .obtain⟨ds,d,G,h1,ho,sm,r,kq⟩:=h
  have h1:(if ds.length=lent.length then (exs Z Γ (cw ⟨lent,(ps++ao (defScope st) ps).length,b.1⟩ ds) b.1).bind Out.val else .none)=some d:=h1;split at h1
  .rename_i hl
   have hpre:=congrArg List.length S.pre;rw[List.length_take]at hpre;have C:CxC (dG CX0 P w K mg base (ps++ao (defScope st) ps) qual (defScope st) f cdv A outer s H E).nox (mL fns cst ps (defBody st) (defScope st) vc vms xcs):=by
    refine⟨rfl,S.nd,λy kd e ek=>?_,λy kd e ek=>⟨?_,.inl rfl⟩,λy e=>e,λy e=>e,rfl,S.kind⟩
    .rcases ek with rfl|rfl|rfl
     .exact .inl e
     .exact .inr (.inl e)
     .exact .inr (.inr e)
    .rcases ek with rfl|rfl
     .exact .inl e
     .exact .inr e
   exact⟨_,b.2 C ⟨M.blt,M.fns,M.gl,hr,M.vcl,M.vf,M.xc⟩ h1 ho,G,H,G,gM sm r hl rfl (by rw[<-r.length,hl,hlen];omega),kq⟩
  .cases h1
structure kF(K:Fg)(mg:Str->Option Value)(fns cst:List Str)(vc:Option Nat)(vms:List Str)(xcs:List (Str×Nat×List (Nat×Bool)))(x:Str)(d:Def):Prop where
 ex:∃st f fd ps,Fun K x x st f fd/\mg x=some (.ref f)/\Binds K fd ps []/\aU (ps++ao (defScope st) ps) ps (defScope st)/\aT st=some (ps,defBody st,defScope st)/\rG fns cst d.lent st vc vms xcs=some d/\d.lent.length=ps.length
def nQ{prog:List (Str×Def)}{nws:List Str}{vc:Option Nat}{xcs:List (Str×Nat×List (Nat×Bool))}(B:Base K mg Γ vc xcs)(defs:∀x d,fns.contains x=true->prog.lookup x=some d->pY K mg fns cst vc vms xcs x d)
  (mets:∀c m d,vc=some c->vms.contains m=true->prog.lookup (ah m)=some d->pZ K fns cst c vms xcs m d) (defn:∀x d,nws.contains x=true->prog.lookup x=some d->kF K mg fns cst vc vms xcs x d):
  ∀k x J,den prog Γ k x=some J->nws.contains x=true->FnZn P w K mg base k x J
 |0,x,J,h,_=>by cases h
 |k+1,x,J,h,hx=>by
  obtain⟨d,h1,rfl⟩:=mx0 (show (prog.lookup x).map _=some J from h);obtain⟨st,f,fd,ps,F,hm,hb,S,hp,hd,hl⟩:=(defn x d hx h1).ex;exact⟨⟨f,fd,ps,hm,F.kp,hb,EY F S hp hd hl ⟨B.blt,λy hy J' q=>(cH B defs mets k y J' q).1 hy,B.gl,B.vcl,λc m hc hm J' q=>(cH B defs mets k _ J' q).2 c m rfl hc hm,B.xc⟩⟩⟩
theorem FnZn.mono{J:Fn}(F:FnZn P w K mg base j x J)(h:j<=k):FnZn P w K mg base k x J:=by
 obtain⟨f,fd,ps,h1,h2,h3,h4⟩:=F.ex;exact⟨⟨f,fd,ps,h1,h2,h3,h4.mono h⟩⟩
end
noncomputable abbrev Ust:=List (List D)
noncomputable abbrev FsM:=Str->Option FnM
def rH:Option Sl->Option Nat
 |some (.dat (.hdl h))=>some h
 |_=>none
noncomputable def EZ:Bool->Option Sl->Option D
 |true,some sl=>aW .read sl
 |false,some (.dat d)=>some d
 |_,_=>none
@[simp] noncomputable def rJ(d:D):Rs->Rs
 |.ok ds=>.ok (d::ds)
 |.exc c=>.exc c
def HY:D->Option (List D)
 |.list ds=>some ds
 |.tuple ds=>some ds
 |_=>none
def hdD:D->Option D
 |.tuple (d::_)=>some d
 |_=>none
def okR:R×Ust->Option (D×Ust)
 |(.ok d,U)=>some (d,U)
 |_=>none
noncomputable def goR(z:R×Ust)(f:D->Ust->Option (R×Ust)):Option (R×Ust):=match z.1 with
 |.ok d=>f d z.2
 |.exc x=>some (.exc x,z.2)
def okL:R×Ust->Option (List D×Ust)
 |(.ok (.list ds),U)=>some (ds,U)
 |_=>none
noncomputable def HZ(q:Rs×Ust):Option (R×Ust):=match q.1 with
 |.ok ds=>if ds.length<=1000 then some (.ok (.tuple ds),q.2)else none
 |.exc _=>none
noncomputable abbrev M:=Fs->FsM->List (Str×D)->Nat->List Sl->Ust->Option (R×Ust)
inductive Ms where
 |nil
 |va (i:Nat) (r:Ms)
 |ex (a:M) (r:Ms)
noncomputable def evM(Z:Fs)(Ψ:FsM)(Γ:List (Str×D))(c:Nat)(Y:List Sl)(U:Ust)(e:M):Option (R×Ust):=e Z Ψ Γ c Y U
noncomputable def exR(z:R×Ust)(f:D->Ust->Option (Rs×Ust)):Option (Rs×Ust):=match z.1 with
 |.ok d=>f d z.2
 |.exc x=>some (.exc x,z.2)
noncomputable def Ia(J:FnM)(h:Nat)(q:Rs×Ust):Option (R×Ust):=match q.1 with
 |.ok ds=>(J.run q.2 (.hdl h::ds)).map λz=>(z.2,z.1)
 |.exc _=>none
@[simp] noncomputable def qd(Z:Fs)(Ψ:FsM)(Γ:List (Str×D))(c:Nat)(fl:List Bool)(Y:List Sl)(U:Ust):Ms->Option (Rs×Ust)
 |.nil=>some (.ok [],U)
 |.va i r=>(EZ (fl.headD false) Y[i]?).bind λd=>(qd Z Ψ Γ c fl.tail Y U r).map λq=>(rJ d q.1,q.2)
 |.ex a r=>(evM Z Ψ Γ c Y U a).bind λz=>exR z λd U'=>(qd Z Ψ Γ c fl.tail Y U' r).map λq=>(rJ d q.1,q.2)
namespace M
@[simp] noncomputable def p(e:E):M|Z,Ψ,Γ,c,Y,U=>(ev Z Γ .val (Y.map (vE c U)) e).map λd=>(.ok d,U)
@[simp] noncomputable def call(f:Str)(as:Ms):M|Z,Ψ,Γ,c,Y,U=>(Ψ f).bind λJ=>(qd Z Ψ Γ c J.lent Y U as).bind λq=>(AF J.run q.1 q.2).map λz=>(z.2,z.1)
@[simp] noncomputable def meth(m:Str)(i:Nat)(as:Ms):M|Z,Ψ,Γ,c,Y,U=>(Ψ (ah m)).bind λJ=>(rH Y[i]?).bind λh=>(qd Z Ψ Γ c J.lent.tail Y U as).bind λq=>Ia J h q
@[simp] noncomputable def new:M|Z,Ψ,Γ,c,Y,U=>some (.ok (.hdl U.length),U++[[]])
@[simp] noncomputable def ix0(a:M):M|Z,Ψ,Γ,c,Y,U=>(evM Z Ψ Γ c Y U a).bind λz=>goR z λd U'=>(hdD d).map λd'=>(.ok d',U')
@[simp] noncomputable def ite(t:E)(a b:M):M|Z,Ψ,Γ,c,Y,U=>(ev Z Γ .test (Y.map (vE c U)) t).bind λd=>(asB d).bind λt=>if t then evM Z Ψ Γ c Y U a else evM Z Ψ Γ c Y U b
@[simp] noncomputable def tup(as:Ms):M|Z,Ψ,Γ,c,Y,U=>(qd Z Ψ Γ c [] Y U as).bind HZ
@[simp] noncomputable def comp(nt:Nat)(js:List Nat)(tg:Tg)(src elt:M):M|Z,Ψ,Γ,c,Y,U=>(evM Z Ψ Γ c Y U src).bind λz=>(okL z).bind λz=>if z.1.length<big then (jr (λd U'=>(ar tg d (blk nt js Y)).bind λY'=>(evM Z Ψ Γ c Y' U' elt).bind okR) z.1 z.2).map λq=>(.ok (.list q.1),q.2)else none
end M
section
variable {Ψ:FsM}{c:Nat}{U:Ust}
@[simp] def m_p{e:E}: evM Z Ψ Γ c Y U (.p e)=M.p e Z Ψ Γ c Y U:=(rfl)
@[simp] def KS{f:Str}{as:Ms}: evM Z Ψ Γ c Y U (.call f as)=M.call f as Z Ψ Γ c Y U:=(rfl)
@[simp] def KU{as:Ms}: evM Z Ψ Γ c Y U (.meth m i as)=M.meth m i as Z Ψ Γ c Y U:=(rfl)
@[simp] def Mx:evM Z Ψ Γ c Y U .new=M.new  Z Ψ Γ c Y U:=(rfl)
@[simp] def My{a:M}: evM Z Ψ Γ c Y U (.ix0 a)=M.ix0 a Z Ψ Γ c Y U:=(rfl)
@[simp] def Mz{t:E}{a b:M}: evM Z Ψ Γ c Y U (.ite t a b)=M.ite t a b Z Ψ Γ c Y U:=(rfl)
@[simp] def MA{as:Ms}: evM Z Ψ Γ c Y U (.tup as)=M.tup as Z Ψ Γ c Y U:=(rfl)
@[simp] def KW{nt:Nat}{tg:Tg}{src elt:M}: evM Z Ψ Γ c Y U (.comp nt js tg src elt)=M.comp nt js tg src elt Z Ψ Γ c Y U:=(rfl)
end
abbrev Ms.G(x:M):Ms:=.ex x .nil
abbrev Ms.W(i:Nat):Ms:=.va i .nil
def um(f:D->OM)(Y:List Sl):R->OM
 |.ok d=>f d
 |.exc x=>.exc x Y
noncomputable def Fb(tab:List (Nat×Bool))(i j:Nat)(U:Ust):OM->Option (OM×Ust)
 |.exc x Y=>if tab.lookup x=some true then some (.nx ((Y.set i (.dat (.exc x))).set j .no),U)else none
 |o=>some (o,U)
noncomputable def BY(o:Out)(U:Ust):Option (OM×Ust):=match o with
 |.nx Y=>if Y.all dW then some (.nx Y,U)else none
 |.rt _=>none
noncomputable abbrev SM:=Fs->FsM->List (Str×D)->Nat->List Sl->Ust->Option (OM×Ust)
inductive SMs where
 |nil
 |cons (s:SM) (r:SMs)
noncomputable def exM(Z:Fs)(Ψ:FsM)(Γ:List (Str×D))(c:Nat)(Y:List Sl)(U:Ust)(s:SM):Option (OM×Ust):=s Z Ψ Γ c Y U
@[simp] noncomputable def aV(Z:Fs)(Ψ:FsM)(Γ:List (Str×D))(c:Nat)(Y:List Sl)(U:Ust):SMs->Option (OM×Ust)
 |.nil=>some (.nx Y,U)
 |.cons s r=>(exM Z Ψ Γ c Y U s).bind λq=>q.1.andThen (λY'=>aV Z Ψ Γ c Y' q.2 r) q.2
noncomputable def rsR(x:Nat)(Y:List Sl)(q:Rs×Ust):Option (OM×Ust):=match q.1 with
 |.ok ds=>if ds.length<=1000 then some (.exc x Y,q.2)else none
 |.exc _=>none
noncomputable def goS(Y:List Sl)(z:R×Ust)(f:D->Ust->Option (OM×Ust)):Option (OM×Ust):=match z.1 with
 |.ok d=>f d z.2
 |.exc x=>some (.exc x Y,z.2)
namespace SM
@[simp] noncomputable def set(i:Nat)(e:M):SM|Z,Ψ,Γ,c,Y,U=>(evM Z Ψ Γ c Y U e).map λz=>(um (λd=>.nx (Y.set i (.dat d))) Y z.1,z.2)
@[simp] noncomputable def expr(e:M):SM|Z,Ψ,Γ,c,Y,U=>(evM Z Ψ Γ c Y U e).map λz=>(um (λa=>.nx Y) Y z.1,z.2)
@[simp] noncomputable def ret(e:M):SM|Z,Ψ,Γ,c,Y,U=>(evM Z Ψ Γ c (Y.map freeze) U e).map λz=>(um .rt (Y.map freeze) z.1,z.2)
@[simp] noncomputable def ifs(t:E)(a b:SMs):SM|Z,Ψ,Γ,c,Y,U=>(ev Z Γ .test (Y.map (vE c U)) t).bind λd=>(asB d).bind λt=>if t then aV Z Ψ Γ c Y U a else aV Z Ψ Γ c Y U b
@[simp] noncomputable def fors(tg:Tg)(src:I)(body:SMs):SM|Z,Ψ,Γ,c,Y,U=>(evI Z Γ .walk Y src).bind λds=>forM (ar tg) (λY' U'=>aV Z Ψ Γ c Y' U' body) ds Y U
@[simp] noncomputable def raise(x:Nat)(as:Ms):SM|Z,Ψ,Γ,c,Y,U=>(qd Z Ψ Γ c [] Y U as).bind λq=>rsR x Y q
@[simp] noncomputable def try1(tab:List (Nat×Bool))(i j:Nat)(body:SMs):SM|Z,Ψ,Γ,c,Y,U=>(aV Z Ψ Γ c Y U body).bind λq=>Fb tab i j q.2 q.1
@[simp] noncomputable def pass:SM|Z,Ψ,Γ,c,Y,U=>some (.nx Y,U)
@[simp] noncomputable def pure(s:S):SM|Z,Ψ,Γ,c,Y,U=>(ex Z Γ Y s).bind λo=>BY o U
@[simp] noncomputable def ifm(o:Cop)(a:M)(b:E)(s t:SMs):SM|Z,Ψ,Γ,c,Y,U=>(evM Z Ψ Γ c Y U a).bind λz=>goS Y z λd U'=>(ev Z Γ .read (Y.map (vE c U')) b).bind λe=>(bQ o d e).bind λq=>if q then aV Z Ψ Γ c Y U' s else aV Z Ψ Γ c Y U' t
@[simp] noncomputable def new(i:Nat)(e:E):SM|Z,Ψ,Γ,c,Y,U=>(ev Z Γ .val (Y.map (vE c U)) e).bind λd=>if bc d then some (.nx (Y.set i (.own d)),U)else none
@[simp] noncomputable def ifo(t:E)(o:Cop)(a:M)(b:E)(s s2:SMs):SM|Z,Ψ,Γ,c,Y,U=>(ev Z Γ .test (Y.map (vE c U)) t).bind λd=>(asB d).bind λt=>if t then aV Z Ψ Γ c Y U s else (evM Z Ψ Γ c Y U a).bind λz=>goS Y z λd U'=>(ev Z Γ .read (Y.map (vE c U')) b).bind λe=>(bQ o d e).bind λq=>if q then aV Z Ψ Γ c Y U' s else aV Z Ψ Γ c Y U' s2
end SM
section
variable {Ψ:FsM}{c:Nat}{U:Ust}{x:Nat}{q:Ust}
@[simp] def KY{e:M}: exM Z Ψ Γ c Y U (.set i e)=SM.set i e Z Ψ Γ c Y U:=(rfl)
@[simp] def JI{e:M}: exM Z Ψ Γ c Y U (.expr e)=SM.expr e Z Ψ Γ c Y U:=(rfl)
@[simp] def KZ{e:M}: exM Z Ψ Γ c Y U (.ret e)=SM.ret e Z Ψ Γ c Y U:=(rfl)
@[simp] def La{t:E}{a b:SMs}: exM Z Ψ Γ c Y U (.ifs t a b)=SM.ifs t a b Z Ψ Γ c Y U:=(rfl)
@[simp] def JJ{tg:Tg}{src:I}{body:SMs}: exM Z Ψ Γ c Y U (.fors tg src body)=SM.fors tg src body Z Ψ Γ c Y U:=(rfl)
@[simp] def Ib{x:Nat}{as:Ms}: exM Z Ψ Γ c Y U (.raise x as)=SM.raise x as Z Ψ Γ c Y U:=(rfl)
@[simp] def JK{tab:List (Nat×Bool)}{body:SMs}: exM Z Ψ Γ c Y U (.try1 tab i j body)=SM.try1 tab i j body Z Ψ Γ c Y U:=(rfl)
@[simp] def JL:exM Z Ψ Γ c Y U .pass=SM.pass  Z Ψ Γ c Y U:=(rfl)
@[simp] def JM{s:S}: exM Z Ψ Γ c Y U (.pure s)=SM.pure s Z Ψ Γ c Y U:=(rfl)
@[simp] def Lb{o:Cop}{a:M}{b:E}{s t:SMs}: exM Z Ψ Γ c Y U (.ifm o a b s t)=SM.ifm o a b s t Z Ψ Γ c Y U:=(rfl)
@[simp] def Lc{e:E}: exM Z Ψ Γ c Y U (.new i e)=SM.new i e Z Ψ Γ c Y U:=(rfl)
@[simp] def Ld{u:E}{o:Cop}{a:M}{b:E}{s t:SMs}: exM Z Ψ Γ c Y U (.ifo u o a b s t)=SM.ifo u o a b s t Z Ψ Γ c Y U:=(rfl)
@[simp] def MB{f:D->Ust->Option (Rs×Ust)}:exR (.ok d,U) f=f d U:=(rfl)
@[simp] def MC{f:D->Ust->Option (Rs×Ust)}:exR (.exc x,U) f=some (.exc x,U):=(rfl)
@[simp] def Le{J:FnM}{h:Nat}:Ia J h (.ok ds,U)=(J.run U (.hdl h::ds)).map λz=>(z.2,z.1):=(rfl)
@[simp] def MD:rsR x Y (.ok ds,U)=if ds.length<=1000 then some (.exc x Y,U)else none:=(rfl)
@[simp] def ME{f:D->Ust->Option (OM×Ust)}:goS Y (.ok d,U) f=f d U:=(rfl)
@[simp] def MF{f:D->Ust->Option (OM×Ust)}:goS Y (.exc x,U) f=some (.exc x Y,U):=(rfl)
end
abbrev SMs.A(x:SM):SMs:=.cons x .nil
abbrev SMs.B(x y:SM):SMs:=.cons x (.A y)
structure bf where
 lent:List Bool
 slots:Nat
 body:SMs
def nR:OM->R
 |.nx _=>.ok .none
 |.rt d=>.ok d
 |.exc c _=>.exc c
@[simp] noncomputable def startM(d:bf)(ds:List D):List Sl:=cw ⟨d.lent,d.slots,.nil⟩ ds
noncomputable def runM(Z:Fs)(Ψ:FsM)(Γ:List (Str×D))(c:Nat)(d:bf):FnM:=⟨d.lent,λU ds=>if ds.length=d.lent.length then (aV Z Ψ Γ c (startM d ds) U d.body).map λq=>(q.2,nR q.1)else none⟩
noncomputable def ju(Ψ0:FsM)(prog:List (Str×Def))(progM:List (Str×bf))(Γ:List (Str×D))(c:Nat):Nat->FsM
 |0,f=>Ψ0 f
 |k+1,f=>match Ψ0 f with
  |some J=>some J
  |none=>(progM.lookup f).map (runM (den prog Γ k) (ju Ψ0 prog progM Γ c k) Γ c)
structure Cm where
 cs:Cs
 c:Nat
 mfs:List Str
 mms:List Str
 vn:Str
 xks:List (Str×Nat)
 vrs:List Str:=[]
 fvs:List Str:=[]
 nws:List Str:=[]
noncomputable def nS(C:Cm):Expr->Bool
 |.Call (.Name f _) _ _ _=>C.mfs.contains f||f==C.vn||C.fvs.contains f
 |.Call (.Attribute (.Name _ _) m _) _ _ _=>C.mms.contains m
 |_=>false
def Lf(C:Cm):Expr->Bool
 |.Tuple es _ _=>es.any (nS C)
 |e=>nS C e
noncomputable def Lg(C:Cs):Expr->Bool
 |.Call (.Attribute (.Name x _) _ _) [] [] _=>(dJ C x).any λi=>C.mts.contains i
 |_=>false
structure nU where
 fns:List Str
 cst:List Str
 c:Nat
 vms:List Str
 xcs:List (Str×Nat×List (Nat×Bool))
 mfs:List Str
 mms:List Str
 vn:Str
 xks:List (Str×Nat)
 vrs:List Str:=[]
 fvs:List Str:=[]
 nws:List Str:=[]
noncomputable def AR(V:nU)(ps:List Str)(body:List Stmt)(sc:Scope):Cm:=⟨mL V.fns V.cst ps body sc (some V.c) V.vms V.xcs,V.c,V.mfs,V.mms,V.vn,V.xks,V.vrs,V.fvs,V.nws⟩
end L2.Z
namespace L2.Z
open PySem PySem.Spec PyProof.Rows L2 L2.C SI
structure WzM(X:Cx)(Z:Fs)(Ψ:FsM)(Γ:List (Str×D))(C:Cm)(k:Nat):Prop where
 w:Wz X Z Γ C.cs k
 fm:∀x,C.mfs.contains x=true->∀J,Ψ x=some J->AG X.prog X.w X.K X.mg X.base C.c k x J
 vm:∀m,C.mms.contains m=true->∀J,Ψ (ah m)=some J->FnVm X.prog X.w X.K X.mg X.base C.c k m J/\J.lent.headD false=false/\m≠"objects"/\m≠"numbers"
 fv:∀x a,Γ.lookup x=some (.fn a)->C.mfs.contains x=true
 nl:∀x,C.nws.contains x=true->∀J,Z x=some J->FnZn X.prog X.w X.K X.mg X.base k x J
 nw:∀X':Cx,X'.prog=X.prog->X'.w=X.w->X'.K=X.K->X'.mg=X.mg->X'.base=X.base->Room k X'.A->Gl X' C.vn->∀Y U p pos,EvM X' C.c Y U (.Call (.Name C.vn p) [] [] pos) (.ok (.hdl U.length)) (U++[[]])
structure WzT(X:Cx)(Z:Fs)(Ψ:FsM)(Γ:List (Str×D))(C:Cm)(k:Nat):Prop where
 m:WzM X Z Ψ Γ C k
 xk:∀t x,C.xks.lookup t=some x->HU X t x
 tr:∀(t:Str) x tab,t≠("ValueError":Str)->C.cs.xcs.lookup t=some (x,tab)->∀e,tab.lookup e=some true->∃newId newIdT,PySem.W.excIn X.K e aY newId=true/\PySem.W.excIn X.K x aY newIdT=true/\fw X.K e x=true
 lcl:∀x,C.cs.sc.names.lookup x=some .local->X.env.kindOf x=some .local
 fc:AM X
theorem CxC.tri{C}(c:CxC X C){E}{pn}:CxC (tri X E pn) C:=⟨c.N,c.nd,c.vis,c.loc,c.cell,c.glob,c.calm,c.kind⟩
theorem Wz.tri{Z}{C}{k}(w:Wz X Z Γ C k){E}{pn}:Wz (tri X E pn) Z Γ C k:=⟨w.blt,w.fns,w.gl,w.room,w.vc,w.vf,w.xc⟩
theorem WzT.tri{Ψ:FsM}{C:Cm}{k:Nat}(w:WzT X Z Ψ Γ C k){E:Value->Shared->Prop}:WzT (tri X E pn) Z Ψ Γ C k:=
 ⟨⟨w.m.w.tri,w.m.fm,w.m.vm,w.m.fv,w.m.nl,w.m.nw⟩,λt x h=>⟨(w.xk t x h).mg,(w.xk t x h).ex⟩,w.tr,w.lcl,⟨w.fc.stk,w.fc.fr,w.fc.ex⟩⟩
section
variable {C:Addr}{U U1 U2:Ust}{e:Expr}{p:Pos}{rs:Rs}{c:Nat}
def kG(he:EvM X C Y U e (.ok d) U1)(hr:EaM X C Y U1 fl.tail es rs U2)(hs:isStar e=false):EaM X C Y U fl (e::es) (rJ d rs) U2:=by
 have:=wY (fl:=fl) he hr hs;cases rs<;>exact this
def Fc(V:VarOk X x i)(h:EZ (fl.headD false) Y[i]?=some d)(hr:EaM X C Y U fl.tail es rs U2):EaM X C Y U fl (.Name x p::es) (rJ d rs) U2:=by
 cases hf:fl.headD false with
 |true=>
  rw[hf]at h;cases q:Y[i]? with
  |none=>rw[q]at h;cases h
  |some sl=>
   rw[q]at h;have:=ua (p:=p) i q h hf V.at' V.vis V.d V.cd hr;cases rs<;>exact this
 |false=>
  rw[hf]at h;cases q:Y[i]? with
  |none=>rw[q]at h;cases h
  |some sl=>
   rw[q]at h;cases sl with
   |dat d'=>cases h;exact kG (rA i q V.at' V.vis V.d V.cd) hr rfl
   |_=>cases h
end
def xy{s:Option Sl}{h:Nat}(q:rH s=some h):s=some (.dat (.hdl h)):=by
 unfold rH at q;split at q
 .cases q;rfl
 .cases q
section
variable {Ψ:FsM}{k:Nat}{C:Cm}{U U':Ust}{e t:Expr}{as:List Expr}{as':Ms}{p:Pos}{f:Str}{c:Nat}{r:R}{o:OM}{a' b' t':E}
def SdM(X:Cx)(Z:Fs)(Ψ:FsM)(Γ:List (Str×D))(c:Nat)(e:Expr)(f:M):Prop:=∀⦃Y U r U'⦄,evM Z Ψ Γ c Y U f=some (r,U')->EvM X c Y U e r U'
structure SaM(X:Cx)(Z:Fs)(Ψ:FsM)(Γ:List (Str×D))(c:Nat)(es:List Expr)(f:Ms):Prop where
 s:aK es
 a:∀{fl Y U rs U'},qd Z Ψ Γ c fl Y U f=some (rs,U')->EaM X c Y U fl es rs U'
def Fd:SaM X Z Ψ Γ c [] .nil:=⟨λa z=>(by cases z),λq=>by cases q;exact AE⟩
def Ic(V:VarOk X x i)(R:SaM X Z Ψ Γ c as as'):SaM X Z Ψ Γ c (.Name x p::as) (.va i as'):=⟨λx hx=>(mq0 hx).elim (λz=>z▸rfl) (R.s x),λq=>by
 obtain⟨d,q1,q⟩:=bS q;obtain⟨⟨rs,U1⟩,q2,q⟩:=mS q;cases q;exact Fc V q1 (R.a q2)⟩
def BZ{a':M}(hs:(!isStar a)=true)(A:SdM X Z Ψ Γ c a a')(R:SaM X Z Ψ Γ c as as'):SaM X Z Ψ Γ c (a::as) (.ex a' as'):=⟨λx hx=>(mq0 hx).elim (λz=>z▸nt hs) (R.s x),λq=>by
 obtain⟨⟨r,U1⟩,q1,q⟩:=bS q;have A:=A q1;cases r with
 |ok d=>
  obtain⟨⟨rs,U2⟩,q2,q⟩:=mS q;cases q;exact kG A (R.a q2) (nt hs)
 |exc x=>cases q;exact tZ A (nt hs)⟩
def Lh(A:SdE X Z Γ e a' na):SdM X Z Ψ Γ c e (.p a'):=λa a a a q=>by
 obtain⟨d,q1,q⟩:=mS q;cases q;exact wX (A.v q1)
def AS(c:CxC X C.cs)(w:WzM X Z Ψ Γ C k)(hg:aq C.cs f=true)(hm:C.mfs.contains f=true)(A:SaM X Z Ψ Γ C.c (a::as) as'):SdM X Z Ψ Γ C.c (.Call (.Name f p) (a::as) [] pos) (.call f as'):=λb b b b q=>by
 obtain⟨J,q1,q⟩:=bS q;obtain⟨⟨rs,U1⟩,q2,q⟩:=bS q;obtain⟨⟨U2,r2⟩,q3,q⟩:=mS q;cases q;exact wZ (w.fm f hm J q1) w.w.room (aB c hg).1 (aB c hg).2.2 (A.a q2) q3 A.s
def Fe(c:CxC X C.cs)(w:WzM X Z Ψ Γ C k)(hf:f=C.vn)(hg:aq C.cs f=true):SdM X Z Ψ Γ C.c (.Call (.Name f p) [] [] pos) .new:=λY U a a q=>by
 cases q;subst hf;exact w.nw X rfl rfl rfl rfl rfl w.w.room (aB c hg).1 Y U p pos
def AU(c:CxC X C.cs)(w:WzM X Z Ψ Γ C k)(h:dJ C.cs x=some i)(hm:C.mms.contains m=true)(hq:((apos.endLine==pos.line)&&decide ((a::as).length<=20))=true)(A:SaM X Z Ψ Γ C.c (a::as) as'):SdM X Z Ψ Γ C.c (.Call (.Attribute (.Name x p) m apos) (a::as) [] pos) (.meth m i as'):=λb b b b q=>by
 have V:=dz c h;obtain⟨J,q1,q⟩:=bS q;obtain⟨hh,q3,q⟩:=bS q;obtain⟨⟨rs,U1⟩,q5,q⟩:=bS q;cases rs with
 |exc _=>cases q
 |ok ds=>
  obtain⟨⟨U2,r2⟩,q7,q⟩:=mS (show (J.run U1 (.hdl hh::ds)).map _=_ from q);cases q;obtain⟨F,f1,f2⟩:=w.vm m hm J q1;exact xa F f1 f2 w.w.room (rA i (xy q3) V.at' V.vis V.d V.cd) (A.a q5) q7 A.s (ky rfl A.s (od0 (a2 hq).2) (a2 hq).1)
def Fh{a':M}{z:Int}(h:z=0)(A:SdM X Z Ψ Γ c a a'):SdM X Z Ψ Γ c (.Subscript a (.Constant (.int z) j p) pos) (.ix0 a'):=λb b b b q=>by
 subst h;obtain⟨⟨r1,U1⟩,q1,q⟩:=bS q;have A:=A q1;cases r1 with
 |exc x=>cases q;exact xq A
 |ok d=>
  obtain⟨d',q3,q⟩:=mS (show (hdD d).map _=_ from q);unfold hdD at q3;split at q3
  .cases q3;cases q;exact AO A
  .cases q3
def Fi{a' b':M}(T:SdE X Z Γ t t' na)(A:SdM X Z Ψ Γ c a a')(B:SdM X Z Ψ Γ c b b'):SdM X Z Ψ Γ c (.IfExp t a b pos) (.ite t' a' b'):=λe e e e q=>by
 obtain⟨d,q1,q⟩:=bS q;obtain⟨t,rfl,ht⟩:=T.t q1;cases t with
 |true=>exact xu (bO ht) (A q)
 |false=>exact xw (bO ht) (B q)
def Fj(A:SaM X Z Ψ Γ c as as'):SdM X Z Ψ Γ c (.Tuple as j pos) (.tup as'):=λb b b b q=>by
 obtain⟨⟨rs,U1⟩,q1,q⟩:=bS q;cases rs with
 |exc _=>cases q
 |ok ds=>
  obtain⟨hz,q⟩:=iS (show (if ds.length<=1000 then some (R.ok (.tuple ds),U1)else .none)=_ from q);cases q;exact AN (A.a q1) hz
theorem WzM.blk(w:WzM X Z Ψ Γ C k){B:Cs}(h:B.fns=C.cs.fns/\B.cst=C.cs.cst/\B.vc=C.cs.vc/\B.vms=C.cs.vms/\B.xcs=C.cs.xcs)(A:Addr)(s:Shared)(H:Hp)(fp:List Addr):WzM (L2.C.blk X sc N A s H fp) Z Ψ Γ {C with cs:=B} k:=⟨w.w.blk h A s H fp,w.fm,w.vm,w.fv,w.nl,w.nw⟩
def Fk(c:CxC X C.cs)(w:WzM X Z Ψ Γ C k){as':Es}(S:Sto X x i)(hn:C.nws.contains f=true)(hg:aq C.cs f=true)(A:SdA X Z Γ (a::as) as')(q:exM Z Ψ Γ C.c Y U (.new i (.call f as'))=some (o,U')):S1M X C.c Y U (.Assign [.Name x px] (.Call (.Name f p) (a::as) [] cpos) pos) o U':=by
 obtain⟨d,q1,q⟩:=bS q;obtain⟨ho,q⟩:=iS q;cases q;obtain⟨J,q2,q1⟩:=bS (show (Z f).bind _=some d from q1);obtain⟨ds,q3,q1⟩:=bS q1;exact xx S (AQ (w.nl f hn J q2) w.w.room (aB c hg).1 (aB c hg).2.2 (A.r q3) q1 ho A.s) rfl
def Fm{a':M}(S:Sto X x i)(hc:(!dq a)=true)(A:SdM X Z Ψ Γ c a a')(q:exM Z Ψ Γ c Y U (.set i a')=some (o,U')):S1M X c Y U (.Assign [.Name x px] a pos) o U':=by
 obtain⟨⟨r,U1⟩,q1,q⟩:=mS q;have A:=A q1;cases q;cases r with
 |ok d=>exact AI S A (cZ (nt hc))
 |exc x=>exact xf S A (cZ (nt hc))
def AV{a':M}(hc:(!dq a)=true)(A:SdM X Z Ψ Γ c a a')(q:exM Z Ψ Γ c Y U (.expr a')=some (o,U')):S1M X c Y U (.Expr a pos) o U':=by
 obtain⟨⟨r,U1⟩,q1,q⟩:=mS q;have A:=A q1;cases q;cases r with
 |ok d=>exact xg A (cZ (nt hc))
 |exc x=>exact ue A (cZ (nt hc))
def Fo{a':M}(A:SdM X Z Ψ Γ c a a')(q:exM Z Ψ Γ c Y U (.ret a')=some (o,U')):S1M X c Y U (.Return (some a) pos) o U':=by
 obtain⟨⟨r,U1⟩,q1,q⟩:=mS q;have A:=A q1;cases q;cases r with
 |ok d=>exact AJ A
 |exc x=>exact xh A
def AW{s:S}(A:∀{Y o},ex Z Γ Y s=some o->E1 X Y st o)(q:exM Z Ψ Γ c Y U (.pure s)=some (o,U')):S1M X c Y U st o U':=by
 obtain⟨o1,q1,q⟩:=bS q;have A:=A q1;cases o1 with
 |rt d=>exact nn q
 |nx Y1=>
  obtain⟨hl,q⟩:=iS q;cases q;exact uk A λsl hs=>List.all_eq_true.mp hl sl hs
def SsZ(X:Cx)(Z:Fs)(Ψ:FsM)(Γ:List (Str×D))(c:Nat)(sts:List Stmt)(f:SMs):Prop:=∀⦃Y U o U'⦄,aV Z Ψ Γ c Y U f=some (o,U')->SsM X c Y U sts o U'
variable {s s2:SMs}
def xA(T:SdE X Z Γ t t' na)(A:SsZ X Z Ψ Γ c body s)(B:SsZ X Z Ψ Γ c body2 s2)(q:exM Z Ψ Γ c Y U (.ifs t' s s2)=some (o,U')):S1M X c Y U (.If t body body2 pos) o U':=by
 obtain⟨d,q1,q⟩:=bS q;obtain⟨t,rfl,ht⟩:=T.t q1;cases t with
 |true=>exact fV (bO ht) (A q)
 |false=>exact lJ (bO ht) (B q)
def Fp{a':M}{op:CmpOp}{cop:Cop}(w:WzM X Z Ψ Γ C k)(h:iR op=some cop)(hs:(!isSet b)=true)(A:SdM X Z Ψ Γ C.c a a')(B:SdE X Z Γ b b' na)(T:SsZ X Z Ψ Γ C.c body s)(T2:SsZ X Z Ψ Γ C.c body2 s2)(q:exM Z Ψ Γ C.c Y U (.ifm cop a' b' s s2)=some (o,U')):S1M X C.c Y U (.If (.Compare a [op] [b] px) body body2 pos) o U':=by
 obtain⟨⟨r1,U1⟩,q1,q⟩:=bS q;have A:=A q1;have mk:=dM (op:=op) (nt hs);cases r1 with
 |exc x=>cases q;exact rC (nP A mk)
 |ok d=>
  obtain⟨e',q3,q⟩:=bS (show Option.bind _ _=_ from q);obtain⟨t,q5,q⟩:=bS q;obtain⟨r2,o1,o2⟩:=iU w.w.room.units h q5;have T0:=rF (pos:=px) o1 A (B.r q3) o2 mk;cases t with
  |true=>exact fV T0 (T q)
  |false=>exact lJ T0 (T2 q)
def xB{e:Expr}{r:Rt}(h1:Et X (Y.map (vE c U)) a false)(h2:Et X (Y.map (vE c U)) b false)(h3:EtM X c Y U e r U'):EtM X c Y U (.BoolOp .Or [a,b,e] pos) r U':=λpins s σ H Q I ⟨G0,H0,d0,G,dd,E,k⟩=>
 PW.pt (qw (bO h1) (qw (bO h2) (uE h3))) pins s σ H Q I ⟨G0,H0,d0,G,dd,E,λG1 H1 d1 m1 v1=>gu ⟨G0,H0,d0,G1,d1,E.go m1 v1,λG2 H2 d2 m2 v2=>gu ⟨G0,H0,d0,G2,d2,(E.go m1 v1).go m2 v2,by
  cases r with
  |ok b=>exact λG' H' d' m v=>k G' H' d' (m1.trans (m2.trans m)) v
  |exc x=>exact λG' H' d' m v=>k G' H' d' (m1.trans (m2.trans m)) v⟩⟩⟩
def Fq{a1 a2':Expr}{f1 f2:E}{n1 n2:Bool}{a':M}{op:CmpOp}{cop:Cop}{bpos:Pos}(w:WzM X Z Ψ Γ C k)(h:iR op=some cop)(hs:(!isSet b)=true)(T1:SdE X Z Γ a1 f1 n1)(T2:SdE X Z Γ a2' f2 n2)(A:SdM X Z Ψ Γ C.c a a')(B:SdE X Z Γ b b' na)(T:SsZ X Z Ψ Γ C.c body s)(T':SsZ X Z Ψ Γ C.c body2 s2)
  (q:exM Z Ψ Γ C.c Y U (.ifo (.or f1 f2) cop a' b' s s2)=some (o,U')):S1M X C.c Y U (.If (.BoolOp .Or [a1,a2',.Compare a [op] [b] px] bpos) body body2 pos) o U':=by
 obtain⟨d,q1,q⟩:=bS q;obtain⟨x1,z1,q1⟩:=bS q1;obtain⟨t1,rfl,h1⟩:=T1.t z1;cases t1 with
 |true=>
  cases q1;exact fV (bO (pD h1).et) (T q)
 |false=>
  obtain⟨t2,rfl,h2⟩:=T2.t q1;cases t2 with
  |true=>exact fV (bO (vI h1 (pD h2)).et) (T q)
  |false=>
   obtain⟨⟨r1,U1⟩,q1,q⟩:=bS (show (evM Z Ψ Γ C.c Y U a').bind _=_ from q);have A:=A q1;have mk:=dM (op:=op) (nt hs);cases r1 with
   |exc x=>cases q;exact rC (xB h1 h2 (nP A mk))
   |ok d=>
    obtain⟨e',q3,q⟩:=bS (show Option.bind _ _=_ from q);obtain⟨t,q5,q⟩:=bS q;obtain⟨r2,o1,o2⟩:=iU w.w.room.units h q5;have T0:=xB (pos:=bpos) h1 h2 (rF (pos:=px) o1 A (B.r q3) o2 mk);cases t with
    |true=>exact fV T0 (T q)
    |false=>exact lJ T0 (T' q)
def Ft{src:I}{t:Tg}(c:CxC X C.cs)(h:cTg C.cs tg=some t)(po:PassesOwn (model X.prog X.w) X.A X.env X.xe)(A:SdI X Z Γ iter src)(B:SsZ X Z Ψ Γ C.c body s)(q:exM Z Ψ Γ C.c Y U (.fors t src s)=some (o,U')):S1M X C.c Y U (.For tg iter body [] pos) o U':=by
 obtain⟨ds,q1,q⟩:=bS q;exact AL (xj (A.w q1)) (xi c h) (λY' U1 o' U2 q'=>B q') q c.calm po (iw A.s)
def xE{xc:Nat}(c:CxC X C.cs)(w:WzT X Z Ψ Γ C k)(hg:aq C.cs x=true)(h:C.xks.lookup x=some xc)(A:SaM X Z Ψ Γ C.c (a::as) as')(q:exM Z Ψ Γ C.c Y U (.raise xc as')=some (o,U')):S1M X C.c Y U (.Raise (some (.Call (.Name x p) (a::as) [] cpos)) .none pos) o U':=by
 obtain⟨⟨rs,U1⟩,q1,q⟩:=bS q;have A':=A.a q1;cases rs with
 |exc _=>cases q
 |ok ds=>
  obtain⟨hl,q⟩:=iS (show (if ds.length<=1000 then some (OM.exc xc Y,U1)else .none)=_ from q);cases q;exact uf (w.xk x xc h) (aB c hg).1 (aB c hg).2.2 c.calm A' hl A.s
def Fu{nm nm' kk:Str}{z:Nat×List (Nat×Bool)}{tp kp ap hp:Pos}(c:CxC X C.cs)(w:WzT X Z Ψ Γ C k)(po:PassesOwn (model X.prog X.w) X.A X.env X.xe)(hn:nm'=nm)(hq:(aq C.cs x&&aR C.cs nm .local&&(bj nm&&!(x==("ValueError":Str))))=true)(h2:C.cs.xcs.lookup x=some z)(h3:eU C.cs nm=some j)(h4:eU C.cs kk=some i)(hij:i≠j)
  (B:∀{X},CxC X C.cs->WzT X Z Ψ Γ C k->PassesOwn (model X.prog X.w) X.A X.env X.xe->SsZ X Z Ψ Γ C.c body s) (q:exM Z Ψ Γ C.c Y U (.try1 z.2 i j s)=some (o,U')):S1M X C.c Y U (.Try body [.ExceptHandler (some (.Name x tp)) (some nm) [.Assign [.Name kk kp] (.Name nm' np) ap] hp] [] [] pos) o U':=by
 subst hn;obtain⟨ct,tab⟩:=z;obtain⟨⟨o1,U1⟩,q1,q⟩:=bS q;have B:∀E pn,PassesOwn (model X.prog X.w) X.A X.env E->SsM (tri X E pn) C.c Y U body o1 U1:=λE pn po'=>B (X:=tri X E pn) c.tri w.tri po' q1
 have hq:=And.intro (a2 (a2 hq).1) (a2 (a2 hq).2);have hpl:=hq.2.1;unfold bj at hpl;have hpl:=And.intro (a2 (a2 hpl).1) (a2 hpl).2;have hX:X.mg x=some (.ref ct):=(w.m.w.xc x ct tab h2).nm.elim id λz=>by have:=hq.2.2;rw[z.1]at this;simp at this
 cases o1 with
 |nx Y1=>cases q;exact nO B (λa a z=>by cases z)
 |rt d=>cases q;exact nO B (λa a z=>by cases z)
 |exc xc Y1=>
  obtain⟨ht,q⟩:=iS (show (if tab.lookup xc=some true then some (OM.nx ((Y1.set i (.dat (.exc xc))).set j .no),U1)else .none)=_ from q);cases q;obtain⟨newId,newIdT,t1,t2,t3⟩:=w.tr x ct tab (λz=>by have:=hq.2.2;rw[z]at this;simp at this) h2 xc ht;exact xp w.fc B (aB c hq.1.1).1 (aB c hq.1.1).2.2 hX t1 t2 (by decide) t3 (dU c h3) (w.lcl nm' (eq_of_beq hq.1.2)) (nt hpl.1.1) (nt hpl.1.2) (dU c h4) hij rfl
end
section
structure Cme(C:Cm)(e:Expr) where
 f:M
 ok:∀{Z Ψ Γ k X},CxC X C.cs->WzM X Z Ψ Γ C k->SdM X Z Ψ Γ C.c e f
structure Cma(C:Cm)(es:List Expr) where
 f:Ms
 ok:∀{Z Ψ Γ k X},CxC X C.cs->WzM X Z Ψ Γ C k->SaM X Z Ψ Γ C.c es f
structure Cmt(C:Cm)(st:Stmt) where
 f:SM
 ok:∀{Z Ψ Γ k X},CxC X C.cs->WzT X Z Ψ Γ C k->PassesOwn (model X.prog X.w) X.A X.env X.xe->∀{Y U o U'},exM Z Ψ Γ C.c Y U f=some (o,U')->S1M X C.c Y U st o U'
structure Cms(C:Cm)(sts:List Stmt) where
 f:SMs
 ok:∀{Z Ψ Γ k X},CxC X C.cs->WzT X Z Ψ Γ C k->PassesOwn (model X.prog X.w) X.A X.env X.xe->SsZ X Z Ψ Γ C.c sts f
variable (C:Cm)
noncomputable def cP(e:Expr):Option (Cme C e):=(cE 60 C.cs e).map λA=>⟨.p A.f,λc w=>Lh (A.ok c w.w)⟩
variable (r:∀C e,Option (Cme C e))
noncomputable def cMs:(es:List Expr)->Option (Cma C es)
 |[]=>some ⟨.nil,λa a=>Fd⟩
 |e::es=>(cMs es).bind λR=>match e with
  |.Name x p=>match h:dJ C.cs x with
   |some i=>some ⟨.va i R.f,λc w=>Ic (dz c h) (R.ok c w)⟩
   |none=>(r C (.Name x p)).map λA=>⟨.ex A.f R.f,λc w=>BZ rfl (A.ok c w) (R.ok c w)⟩
  |e=>chk (!isStar e) λhs=>(r C e).map λA=>⟨.ex A.f R.f,λc w=>BZ hs (A.ok c w) (R.ok c w)⟩
noncomputable def cCm(elt tg iter:Expr)(sc:Scope)(pos:Pos):Option (Cme C (.ListComp elt [⟨tg,iter,[],0⟩] sc pos)):=chk (!isSet iter) λhs=>(r C iter).bind λS=>got (zJ C.cs sc tg) λq h=>got (cTg q.1 tg) λt ht=>chk (mK t q.2.1) λhl=>(r {C with cs:=q.1} elt).map λA=>⟨.comp q.2.1 q.2.2 t S.f A.f,λc w Y U rr U' z=>by
 obtain⟨B,nt,js⟩:=q;obtain⟨⟨r1,U1⟩,q1,z⟩:=bS z;obtain⟨⟨ds,U2⟩,q2,z⟩:=bS z;have:r1=.ok (.list ds)/\U1=U2:=by
  unfold okL at q2;split at q2
  .injection ‹_=(_,_)› with e1 e2;cases q2;exact⟨e1,e2⟩
  .cases q2
 obtain⟨rfl,rfl⟩:=this;obtain⟨hz,z⟩:=iB z;obtain⟨⟨out,U3⟩,q3,z⟩:=mS z;cases z;have R:=qZ c h;have e:=R.nt;subst e;refine xt (f:=λY' U'=>(evM _ _ _ C.c Y' U' A.f).bind okR) R.ok c.calm (S.ok c w q1) (λA s H fp=>xi (R.cx A s H fp) ht) hl (λA' s H fp Y' U' e U3 hf=>?_) (by rw[<-big_eq];exact hz) q3 (iw (L2.Z.nt hs));obtain⟨⟨r4,U4⟩,g1,g2⟩:=bS hf;cases r4 with
 |exc _=>cases g2
 |ok d=>cases g2;exact A.ok (C:={C with cs:=B}) (R.cx A' s H fp) (w.blk R.same A' s H fp) g1⟩
noncomputable def Ie:(e:Expr)->Option (Cme C e)
 |.Call (.Name f p) (a::as) [] pos=>if hm:C.mfs.contains f=true then chk (aq C.cs f) λhg=>(cMs C r (a::as)).map λA=>⟨.call f A.f,λc w=>AS c w hg hm (A.ok c w)⟩
  else cP C (.Call (.Name f p) (a::as) [] pos)
 |.Call (.Name f p) [] [] pos=>if h:f=C.vn then chk (aq C.cs f) λhg=>some ⟨.new,λc w=>Fe c w h hg⟩ else cP C (.Call (.Name f p) [] [] pos)
 |.Call (.Attribute (.Name x p) m apos) (a::as) [] pos=>if hm:C.mms.contains m=true then got (dJ C.cs x) λi h=>chk ((apos.endLine==pos.line)&&decide ((a::as).length<=20)) λhq=>(cMs C r (a::as)).map λA=>⟨.meth m i A.f,λc w=>AU c w h hm hq (A.ok c w)⟩
  else cP C (.Call (.Attribute (.Name x p) m apos) (a::as) [] pos)
 |.Subscript a (.Constant (.int z) j p) pos=>if nS C a then (r C a).bind λA=>if h:z=0 then some ⟨.ix0 A.f,λc w=>Fh h (A.ok c w)⟩ else none
  else cP C (.Subscript a (.Constant (.int z) j p) pos)
 |.IfExp t a b pos=>if nS C a||nS C b then (cE 60 C.cs t).bind λT=>(r C a).bind λA=>(r C b).map λB=>⟨.ite T.f A.f B.f,λc w=>Fi (T.ok c w.w) (A.ok c w) (B.ok c w)⟩ else cP C (.IfExp t a b pos)
 |.Tuple es j pos=>if es.any (nS C)then (cMs C r es).map λA=>⟨.tup A.f,λc w=>Fj (A.ok c w)⟩ else cP C (.Tuple es j pos)
 |.ListComp elt [⟨tg,iter,[],0⟩] sc pos=>if Lf C elt then cCm C r elt tg iter sc pos else cP C (.ListComp elt [⟨tg,iter,[],0⟩] sc pos)
 |e=>cP C e
end
noncomputable def cM:Nat->(C:Cm)->(e:Expr)->Option (Cme C e)
 |0=>λa a=>none
 |n+1=>λC=>Ie C (cM n)
section
variable (C:Cm)
noncomputable def cPs(st:Stmt):Option (Cmt C st):=(BV (cE 60) C.cs (cSs 60) st).map λA=>⟨.pure A.f,λc w po a a a a q=>AW (A.ok c w.m.w po) q⟩
noncomputable def cXs(v:Expr)(pos:Pos):Option (Cmt C (.Expr v pos)):=chk (!dq v) λhc=>(cM 60 C v).map λA=>⟨.expr A.f,λc w a a a a a q=>AV hc (A.ok c w.m) q⟩
noncomputable def cNw(y:Str)(py:Pos)(pos:Pos)(j:Nat)(h:eU C.cs y=some j):(v:Expr)->Option (Cmt C (.Assign [.Name y py] v pos))
 |.Call (.Name f p) (a::as) [] cpos=>if hn:C.nws.contains f=true then chk (aq C.cs f) λhg=>(cEs (cE 60) C.cs (a::as)).map λA=>⟨.new j (.call f A.f),λc w b b b b b q=>Fk c w.m (dU c h) hn hg (A.ok c w.m.w) q⟩ else cPs C (.Assign [.Name y py] (.Call (.Name f p) (a::as) [] cpos) pos)
 |v=>cPs C (.Assign [.Name y py] v pos)
noncomputable def Fv(rs:∀sts,Option (Cms C sts)):(st:Stmt)->Option (Cmt C st)
 |.Assign [.Name y py] v pos=>got (eU C.cs y) λj h=>if C.cs.mts.contains j||Lg C.cs v||dq v then cNw C y py pos j h v else chk (!dq v) λhc=>(cM 60 C v).map λA=>⟨.set j A.f,λc w d d d d d q=>Fm (dU c h) hc (A.ok c w.m) q⟩
 |.Assign ts v pos=>cPs C (.Assign ts v pos)
 |.Expr (.Call (.Attribute (.Name x p) m apos) [a] [] cpos) pos=>match h:dJ C.cs x with
  |some i=>if C.cs.mts.contains i then cPs C (.Expr (.Call (.Attribute (.Name x p) m apos) [a] [] cpos) pos)else cXs C (.Call (.Attribute (.Name x p) m apos) [a] [] cpos) pos
  |none=>cXs C (.Call (.Attribute (.Name x p) m apos) [a] [] cpos) pos
 |.Expr v pos=>cXs C v pos
 |.Return (some e) _=>(cM 60 C e).map λA=>⟨.ret A.f,λc w d d d d d q=>Fo (A.ok c w.m) q⟩
 |.If (.Compare a [op] [b] px) s s2 pos=>(rs s).bind λT=>(rs s2).bind λT2=>if nS C a then got (iR op) λo h=>chk (!isSet b) λhs=>(cM 60 C a).bind λA=>(cE 60 C.cs b).map λB=>⟨.ifm o A.f B.f T.f T2.f,λc w po d d d d q=>Fp w.m h hs (A.ok c w.m) (B.ok c w.m.w) (T.ok c w po) (T2.ok c w po) q⟩
  else (cE 60 C.cs (.Compare a [op] [b] px)).map λA=>⟨.ifs A.f T.f T2.f,λc w po d d d d q=>xA (A.ok c w.m.w) (T.ok c w po) (T2.ok c w po) q⟩
 |.If (.BoolOp .Or [a1,a2,.Compare a [op] [b] px] bpos) s s2 pos=>(rs s).bind λT=>(rs s2).bind λT2=>if nS C a then got (iR op) λo h=>chk (!isSet b) λhs=>(cE 60 C.cs a1).bind λA1=>(cE 60 C.cs a2).bind λA2=>(cM 60 C a).bind λA=>(cE 60 C.cs b).map λB=>⟨.ifo (.or A1.f A2.f) o A.f B.f T.f T2.f,λc w po d d d d q=>Fq w.m h hs (A1.ok c w.m.w) (A2.ok c w.m.w) (A.ok c w.m) (B.ok c w.m.w) (T.ok c w po) (T2.ok c w po) q⟩
  else (cE 60 C.cs (.BoolOp .Or [a1,a2,.Compare a [op] [b] px] bpos)).map λA=>⟨.ifs A.f T.f T2.f,λc w po d d d d q=>xA (A.ok c w.m.w) (T.ok c w po) (T2.ok c w po) q⟩
 |.If t s s2 pos=>(rs s).bind λT=>(rs s2).bind λT2=>(cE 60 C.cs t).map λA=>⟨.ifs A.f T.f T2.f,λc w po d d d d q=>xA (A.ok c w.m.w) (T.ok c w po) (T2.ok c w po) q⟩
 |.For tg iter body [] _=>got (cTg C.cs tg) λt h=>(rs body).bind λB=>(cI (cE 60) C.cs iter).map λA=>⟨.fors t A.f B.f,λc w po d d d d q=>Ft c h po (A.ok c w.m.w) (B.ok c w po) q⟩
 |.Raise (some (.Call (.Name x _) (a::as) [] _)) none _=>chk (aq C.cs x) λhg=>got (C.xks.lookup x) λxc h=>(cMs C (cM 60) (a::as)).map λA=>⟨.raise xc A.f,λc w d d d d d q=>xE c w hg h (A.ok c w.m) q⟩
 |.Try body [.ExceptHandler (some (.Name x _)) (some nm) [.Assign [.Name kk _] (.Name nm' _) _] _] [] [] _=>eqS nm' nm λhn=>chk (aq C.cs x&&aR C.cs nm .local&&(bj nm&&!(x==("ValueError":Str)))) λhq=>got (C.cs.xcs.lookup x) λz h2=>got (eU C.cs nm) λj h3=>got (eU C.cs kk) λi h4=>if hij:i=j then none else (rs body).map λB=>⟨.try1 z.2 i j B.f,λc w po d d d d q=>Fu c w po hn hq h2 h3 h4 hij B.ok q⟩
 |.Pass _=>some ⟨.pass,λd d d d d d d q=>by cases q;exact xb⟩
 |_=>none
noncomputable def Ig(s:∀st,Option (Cmt C st)):(sts:List Stmt)->Option (Cms C sts)
 |[]=>some ⟨.nil,λa a a a a a a q=>by cases q;exact AH⟩
 |st::sts=>(Ig s sts).map λB=>
  let A:Cmt C st:=(s st).getD ⟨.pure .stuck,λa a a a a a a q=>nn q⟩
  ⟨.cons A.f B.f,λc w po Y U o U' q=>by
  obtain⟨⟨o1,U1⟩,q1,q⟩:=bS q;have A:=A.ok c w po q1;cases o1 with
  |nx Y1=>exact ub A (B.ok c w po q)
  |rt d=>cases q;exact uc A
  |exc x Y1=>cases q;exact ud A⟩
noncomputable def Fw:Nat->(sts:List Stmt)->Option (Cms C sts)
 |0=>λa=>none
 |n+1=>Ig C (Fv C (Fw n))
end
section
variable {Ψ:FsM}{k:Nat}{V:nU}
structure Fx(P:Program)(w:World)(K:Fg)(mg:Str->Option Value)(base:Heap)(Z:Fs)(Ψ:FsM)(Γ:List (Str×D))(V:nU)(k:Nat):Prop where
 m:Az P w K mg base Z Γ V.fns (some V.c) V.vms V.xcs k
 fm:∀x,V.mfs.contains x=true->∀J,Ψ x=some J->AG P w K mg base V.c k x J
 vm:∀m,V.mms.contains m=true->∀J,Ψ (ah m)=some J->FnVm P w K mg base V.c k m J/\J.lent.headD false=false/\m≠"objects"/\m≠"numbers"
 fv:∀x a,Γ.lookup x=some (.fn a)->V.mfs.contains x=true
 nl:∀x,V.nws.contains x=true->∀J,Z x=some J->FnZn P w K mg base k x J
 nw:∀X:Cx,X.prog=P->X.w=w->X.K=K->X.mg=mg->X.base=base->Room k X.A->Gl X V.vn->∀Y U p pos,EvM X V.c Y U (.Call (.Name V.vn p) [] [] pos) (.ok (.hdl U.length)) (U++[[]])
 xk:∀t x,V.xks.lookup t=some x->mg t=some (.ref x)/\∃newId initId,ExcBaseFacts "ValueError" newId initId aY/\PySem.W.excIn K x aY newId=true
 tr:∀(t:Str) x tab,t≠("ValueError":Str)->V.xcs.lookup t=some (x,tab)->∀e,tab.lookup e=some true->∃newId newIdT,PySem.W.excIn K e aY newId=true/\PySem.W.excIn K x aY newIdT=true/\fw K e x=true
noncomputable def jv(V:nU)(lent:List Bool)(st:Stmt):Option bf:=
 (aT st).bind λ(ps,body,sc)=>(Fw (AR V ps body sc) 60 body).map λb=>{lent,slots:=(ps++ao sc ps).length,body:=b.f}
def qe{G:Hp}{d:Vd}{U:Ust}{dfn:bf}{vs:List L2.V}{C:Addr}(s:Same G (er H (parts d)))(r:Das K G (er H (parts d)) dfn.lent ds vs)(hl:ds.length=dfn.lent.length)(hs:dfn.slots=N.length)(hn:vs.length<=N.length)(v:VS P w K C G H d U):
  EnvM P w K C G H d G H d (start N vs) (startM dfn ds) U:=
 ⟨⟨G,er H (parts d),Same.refl _,⟨Same.refl _,λa a h a=>h⟩,gM (dfn:=⟨dfn.lent,dfn.slots,.nil⟩) s r hl hs hn⟩,λa a h a=>h,List.prefix_refl _,v⟩
set_option tactic.hygienic true in
def qf{ps:List Str}{dfn:bf}(F:Fun K x qual st f fd)(S:aU (ps++ao (defScope st) ps) ps (defScope st))(hp:aT st=some (ps,defBody st,defScope st))(hd:jv V lent st=some dfn)(hlen:lent.length=ps.length)
  (M:Fx P w K mg base Z Ψ Γ V k):FnOk P w K mg base (CX1 P w) (k+1) f fd ps (Mur P w K V.c (runM Z Ψ Γ V.c dfn)):=by
 unfold jv at hd;rw[hp,bs0]at hd;obtain⟨b,hb,rfl⟩:=mx0 (show (Fw (AR V ps (defBody st) (defScope st)) 60 (defBody st)).map _=some dfn from hd);obtain⟨oc,od,kV,doc,pm,an,cdv,ct,osl,rfl,lk,hcd⟩:=F.ex;refine uU (CX:=CX1 P w) lk hcd S (λvs H Q E h=>?_) (λA outer s H vs Q E hr h=>?_)
 .obtain⟨ds,U,U',r,G,d,h1,_,das,_⟩:=h
  have h1:(if ds.length=lent.length then _ else .none)=some (U',r):=h1;split at h1
  .rename_i hl;rw[<-das.length,hl,hlen]
  .cases h1
 .obtain⟨ds,U,U',r,G,d,h1,sm,das,vs',kq⟩:=h
  have h1:(if ds.length=lent.length then (aV Z Ψ Γ V.c (startM ⟨lent,(ps++ao (defScope st) ps).length,b.f⟩ ds) U b.f).map λq=>(q.2,nR q.1)else .none)=some (U',r):=h1;split at h1
  .rename_i hl
   obtain⟨⟨o,U1⟩,h2,h3⟩:=mx0 h1;have hpre:=congrArg List.length S.pre;rw[List.length_take]at hpre;have C:CxC (dG (CX1 P w) P w K mg base (ps++ao (defScope st) ps) qual (defScope st) f cdv A outer s H E) (AR V ps (defBody st) (defScope st)).cs:=by
    refine⟨rfl,S.nd,λy kd e ek=>?_,λy kd e ek=>⟨?_,.inl rfl⟩,λy e=>e,λy e=>e,rfl,S.kind⟩
    .rcases ek with rfl|rfl|rfl
     .exact .inl e
     .exact .inr (.inl e)
     .exact .inr (.inr e)
    .rcases ek with rfl|rfl
     .exact .inl e
     .exact .inr e
   have W:WzT (dG (CX1 P w) P w K mg base (ps++ao (defScope st) ps) qual (defScope st) f cdv A outer s H E) Z Ψ Γ (AR V ps (defBody st) (defScope st)) k:=
    ⟨⟨⟨M.m.blt,M.m.fns,M.m.gl,hr,M.m.vcl,M.m.vf,M.m.xc⟩,M.fm,M.vm,M.fv,M.nl,M.nw⟩,λt x h=>⟨(M.xk t x h).1,(M.xk t x h).2⟩,M.tr,λy e=>e,⟨rfl,rfl,rfl⟩⟩
   have body:=b.ok C W PassesOwn.leaving h2;refine⟨_,body,G,H,d,G,d,qe (N:=ps++ao (defScope st) ps) (dfn:=⟨lent,(ps++ao (defScope st) ps).length,b.f⟩) sm das hl rfl (by rw[<-das.length,hl,hlen];omega) vs',?_⟩;cases h3;cases o with
   |nx Y'=>exact λG' H' d' σ' env a=>kq .non G' H' d' env.start env.vs .none
   |rt e=>exact λv G' H' d' m v' dv=>kq v G' H' d' m v' dv
   |exc x Y'=>exact λG' H' d' σ' env a pins ea s' I fl=>tY I fl (kq G' H' d' env.start env.vs)
  .cases h1
structure nV(K:Fg)(mg:Str->Option Value)(V:nU)(x:Str)(d:bf):Prop where
 ex:∃st f fd ps,Fun K x x st f fd/\mg x=some (.ref f)/\Binds K fd ps []/\aU (ps++ao (defScope st) ps) ps (defScope st)/\aT st=some (ps,defBody st,defScope st)/\jv V d.lent st=some d/\d.lent.length=ps.length
structure nW(K:Fg)(V:nU)(m:Str)(d:bf):Prop where
 nm:m≠"objects"/\m≠"numbers"
 hd:d.lent.headD false=false
 ex:∃st f fd ps qual,Fun K m qual st f fd/\Cls K V.c/\iJ K V.c m f/\Binds K fd ps []/\aU (ps++ao (defScope st) ps) ps (defScope st)/\aT st=some (ps,defBody st,defScope st)/\jv V d.lent st=some d/\d.lent.length=ps.length
theorem FnZ.mono{x}{J}{j}(F:FnZ P w K mg base j x J)(h:j<=k):FnZ P w K mg base k x J:=by
 obtain⟨f,fd,ps,h1,h2,h3,h4⟩:=F.ex;exact⟨⟨f,fd,ps,h1,h2,h3,h4.mono h⟩⟩
theorem FnZv.mono{c}{m}{J}{j}(F:FnZv P w K mg base j c m J)(h:j<=k):FnZv P w K mg base k c m J:=by
 obtain⟨f,fd,ps,h1,h2,h3⟩:=F.ex;exact⟨F.nm,⟨f,fd,ps,h1,h2,h3.mono h⟩⟩
theorem FnVm.mono{c}{m}{J}{j}(F:FnVm P w K mg base c j m J)(h:j<=k):FnVm P w K mg base c k m J:=by
 obtain⟨f,fd,ps,h1,h2,h3,h4⟩:=F.ex;exact⟨⟨f,fd,ps,h1,h2,h3,h4.mono h⟩⟩
structure xF(P:Program)(w:World)(K:Fg)(mg:Str->Option Value)(base:Heap)(Ψ0:FsM)(V:nU):Prop where
 nw:∀X:Cx,X.prog=P->X.w=w->X.K=K->X.mg=mg->X.base=base->Room 2 X.A->Gl X V.vn->∀Y U p pos,EvM X V.c Y U (.Call (.Name V.vn p) [] [] pos) (.ok (.hdl U.length)) (U++[[]])
 vm:∀m J,Ψ0 (ah m)=some J->FnVm P w K mg base V.c 2 m J/\J.lent.headD false=false/\m≠"objects"/\m≠"numbers"
 nf:∀x,V.mfs.contains x=true->Ψ0 x=Option.none
 xk:∀t x,V.xks.lookup t=some x->mg t=some (.ref x)/\∃newId initId,ExcBaseFacts "ValueError" newId initId aY/\PySem.W.excIn K x aY newId=true
 tr:∀(t:Str) x tab,t≠("ValueError":Str)->V.xcs.lookup t=some (x,tab)->∀e,tab.lookup e=some true->∃newId newIdT,PySem.W.excIn K e aY newId=true/\PySem.W.excIn K x aY newIdT=true/\fw K e x=true
theorem fW{prog:List (Str×Def)}{progM:List (Str×bf)}{Ψ0:FsM}(B:Base K mg Γ (some V.c) V.xcs)(BM:xF P w K mg base Ψ0 V)(fv:∀x a,Γ.lookup x=some (.fn a)->V.mfs.contains x=true)
  (defs:∀x d,V.fns.contains x=true->prog.lookup x=some d->pY K mg V.fns V.cst (some V.c) V.vms V.xcs x d)
  (mets:∀c m d,some V.c=some c->V.vms.contains m=true->prog.lookup (ah m)=some d->pZ K V.fns V.cst c V.vms V.xcs m d)
  (defm:∀x d,V.mfs.contains x=true->progM.lookup x=some d->nV K mg V x d)
  (metm:∀m d,V.mms.contains m=true->progM.lookup (ah m)=some d->nW K V m d) (defn:∀x d,V.nws.contains x=true->prog.lookup x=some d->kF K mg V.fns V.cst (some V.c) V.vms V.xcs x d):
  ∀k x J,ju Ψ0 prog progM Γ V.c k x=some J->(V.mfs.contains x=true->AG P w K mg base V.c (k+2) x J)/\∀m,x=ah m->V.mms.contains m=true->FnVm P w K mg base V.c (k+2) m J/\J.lent.headD false=false/\m≠"objects"/\m≠"numbers"
 |0,x,J,h=>by
  have h:Ψ0 x=some J:=h;refine⟨λhx=>(by rw[BM.nf x hx]at h;cases h),λm e hm=>?_⟩;subst e;exact BM.vm m J h
 |k+1,x,J,h=>by
  have h:(match Ψ0 x with|some J=>some J|.none=>(progM.lookup x).map (runM (den prog Γ k) (ju Ψ0 prog progM Γ V.c k) Γ V.c))=some J:=h;cases q:Ψ0 x with
  |some J'=>
   rw[q]at h;cases h;refine⟨λhx=>(by rw[BM.nf x hx]at q;cases q),λm e hm=>?_⟩;subst e;obtain⟨h1,h2⟩:=BM.vm m J q;exact⟨h1.mono (by omega),h2⟩
  |none=>
   rw[q]at h;obtain⟨d,h1,rfl⟩:=mx0 h;have M:Fx P w K mg base (den prog Γ k) (ju Ψ0 prog progM Γ V.c k) Γ V (k+2):=
    ⟨⟨B.blt,λy hy J' q=>((cH B defs mets k y J' q).1 hy).mono (by omega),B.gl,B.vcl,λc m hc hm J' q=>((cH B defs mets k _ J' q).2 c m rfl hc hm).mono (by omega),B.xc⟩,
     λy hy J' q=>(fW B BM fv defs mets defm metm defn k y J' q).1 hy,λm hm J' q=>(fW B BM fv defs mets defm metm defn k _ J' q).2 m rfl hm,fv,λy hy J' q=>(nQ B defs mets defn k y J' q hy).mono (by omega),λX e1 e2 e3 e4 e5 r g=>BM.nw X e1 e2 e3 e4 e5 (r.mono (by omega)) g,BM.xk,BM.tr⟩
   refine⟨λhx=>?_,λm e hm=>?_⟩
   .obtain⟨st,f,fd,ps,F,hm,hb,S,hp,hd,hl⟩:=(defm x d hx h1).ex
    exact⟨⟨f,fd,ps,hm,F.kp,hb,qf F S hp hd hl M⟩⟩
   .subst e
    have Z:=metm m d hm h1;obtain⟨st,f,fd,ps,qual,F,hc,hme,hb,S,hp,hd,hl⟩:=Z.ex;exact⟨⟨⟨f,fd,ps,hc,hme,hb,qf F S hp hd hl M⟩⟩,Z.hd,Z.nm⟩
def AX{prog:List (Str×Def)}{progM:List (Str×bf)}{Ψ0:FsM}(B:Base K mg Γ (some V.c) V.xcs)(BM:xF P w K mg base Ψ0 V)(fv:∀x a,Γ.lookup x=some (.fn a)->V.mfs.contains x=true)
  (defs:∀x d,V.fns.contains x=true->prog.lookup x=some d->pY K mg V.fns V.cst (some V.c) V.vms V.xcs x d)
  (mets:∀c m d,some V.c=some c->V.vms.contains m=true->prog.lookup (ah m)=some d->pZ K V.fns V.cst c V.vms V.xcs m d)
  (defm:∀x d,V.mfs.contains x=true->progM.lookup x=some d->nV K mg V x d)
  (metm:∀m d,V.mms.contains m=true->progM.lookup (ah m)=some d->nW K V m d) (defn:∀x d,V.nws.contains x=true->prog.lookup x=some d->kF K mg V.fns V.cst (some V.c) V.vms V.xcs x d) (k:Nat):Fx P w K mg base (den prog Γ k) (ju Ψ0 prog progM Γ V.c k) Γ V (k+2):=
 ⟨⟨B.blt,λy hy J' q=>((cH B defs mets k y J' q).1 hy).mono (by omega),B.gl,B.vcl,λc m hc hm J' q=>((cH B defs mets k _ J' q).2 c m rfl hc hm).mono (by omega),B.xc⟩,
  λy hy J' q=>(fW B BM fv defs mets defm metm defn k y J' q).1 hy,λm hm J' q=>(fW B BM fv defs mets defm metm defn k _ J' q).2 m rfl hm,fv,λy hy J' q=>(nQ B defs mets defn k y J' q hy).mono (by omega),λX e1 e2 e3 e4 e5 r g=>BM.nw X e1 e2 e3 e4 e5 (r.mono (by omega)) g,BM.xk,BM.tr⟩
end
def lL(K:Fg):Sp:=λvs H Q E=>rq K vs H Q E/\∀a C dx fs,H a≠some (.ins C dx fs)
def AY{k:Nat}{C:Addr}{ps:List Str}{J:FnM}(F:FnOk P w K mg base (CX1 P w) k f fd ps (Mur P w K C J))(hfl:J.lent=[true])
  (h:∀ns:List Int,ns.length<=63->∃U,J.run [] [.scr ns]=some (U,.ok (.bool true))):FnOk P w K mg base CX0 k f fd ps (lL K):=by
 have key:∀vs H Q (E:XK),(rq K vs H Q E/\∀a C dx fs,H a≠some (.ins C dx fs))->Mur P w K C J vs H Q E0:=λvs H Q E q=>by
  obtain⟨⟨a,ns,rfl,hS,hl,q⟩,ni⟩:=q;obtain⟨U,hU⟩:=h ns hl;have he:er H (parts [])=H:=by funext b;exact er_out (by simp[parts])
  refine⟨[.scr ns],[],U,_,H,[],hU,by rw[he];exact Same.refl _,by rw[hfl,he];exact .cons (λz=>by cases z) (.of (.scr hS)) .nil,⟨rfl,by simp[parts],λh a l n z=>by simp at z,λa C' dx fs z=>(ni a C' dx fs z).elim,λb hb=>by simp[parts]at hb⟩,?_⟩;exact λv G' H' d' c c r=>by cases r;exact q H'
 refine⟨λvs H Q E q=>F.len vs H Q E0 (key vs H Q E q),λA outer s H args us vs Q E hr e0 hb r q=>?_⟩;refine codeAny_mono (F.run A outer s H args us vs Q E0 hr e0 hb r (key vs H Q E q)) λr s' z=>?_
 cases r with
 |ok fl=>cases fl<;>exact z
 |error e=>
  obtain⟨_,_,_,_,_,_,_,_,_,_,_,_,_,z⟩:=(show CX1 P w outer H s E0 e s' from z);exact z
section
variable {G:Hp}
def AZ(I:Inv X pins σ H s){n}(ih:∀(d:D)(v:V)(u:Value),Dp X.K G d v->RelV v u->okK n d=true->IsK s.heap n d u):
  ∀{vs:List V}{us:List Value}{ds:List D},Vals vs us->Dps X.K G ds vs->ds.all (okK n)=true->IsKs s.heap n ds us:=by
 intro vs us ds r
 induction r generalizing ds with
 |nil=>intro q _;cases q;exact .nil
 |cons r1 _ ih2=>
  intro q z;cases q with
  |cons q1 q2=>
   rw[List.all_cons,be0]at z;exact .cons (ih _ _ _ q1 r1 z.1) (ih2 q2 z.2)
def lM(I:Inv X pins σ H s)(sm:Same G H):∀(n:Nat)(d:D)(v:V)(u:Value),Dp X.K G d v->RelV v u->okK n d=true->IsK s.heap n d u:=by
 intro n
 induction n with
 |zero=>
  intro d v u h r o;cases h with
  |int i=>obtain⟨t,rfl⟩:=r;exact .int i t
  |str x hx=>obtain⟨t,rfl⟩:=r;exact .str x t hx
  |_=>cases o
 |succ n ih=>
  intro d v u h r o;cases h with
  |int i=>obtain⟨t,rfl⟩:=r;exact .int i t
  |str x hx=>obtain⟨t,rfl⟩:=r;exact .str x t hx
  |tuple q p=>
   cases r;obtain⟨its,rv,⟨ob,e1,e2,m,e3⟩,_⟩:=I.tuple (SqT.of (sm _ _ q));exact .tup e1 e2 e3 (AZ I ih rv p o)
  |_=>cases o
theorem gQ:∀{k:Nat}{xs:List (D×Addr×Value)}{as:List Addr}{ds:List D},fi k xs as ds->xs.length=ds.length/\as.length=ds.length
 |_,_,_,_,.nil=>⟨rfl,rfl⟩
 |_,_,_,_,.cons r=>⟨by rw[lc0,lc0,(gQ r).1],by rw[lc0,lc0,(gQ r).2]⟩
def xG{h}{G}{K}(one:∀(d:D)(a:Addr),Dp K G d (.ref a)->okK 8 d=true->IsK h 8 d (.ref a)):∀{k:Nat}{xs:List (D×Addr×Value)}{as:List Addr}{ds:List D},fi k xs as ds->Dps K G ds (as.map .ref)->(∀d∈ds,okK 8 d=true/\jS d=true)->∀x∈xs,IsK h 8 x.1 (.ref x.2.1):=by
 intro k xs as ds n
 induction n with
 |nil=>exact λb b b z=>by cases z
 |cons r ih=>
  intro q hk x hx;cases q with
  |cons d1 d2=>
   rcases mq0 hx with rfl|hx
   .exact one _ _ d1 (hk _ ms0).1
   .exact ih d2 (λd hd=>hk d (mc0 _ hd)) x hx
theorem numXs_at{d:D}:∀{k:Nat}{xs:List (D×Addr×Value)}{as:List Addr}{ds:List D},fi k xs as ds->(ds.idxOf? d=.none/\atKey xs d=.none)\/∃j a t,ds.idxOf? d=some j/\atKey xs d=some (a,.int ((k+j:Nat):Int) t)
 |_,_,_,_,.nil=>.inl ⟨rfl,rfl⟩
 |k,_,_,_,.cons (d:=e) (a:=a) (t:=t) (xs:=xs) (ds:=ds) r=>by
  unfold atKey;rw[List.find?_cons,List.idxOf?_cons]
  by_cases c:e=d
  .subst c
   simp only[decide_true,beq_self_eq_true,if_true,mo0];exact .inr ⟨0,a,t,rfl,by simp⟩
  .rw[df0 c,bn0 c]
   simp only[Bool.false_eq_true,if_false];rcases numXs_at (d:=d) r with⟨q1,q2⟩|⟨j,a',t',q1,q2⟩
   .exact .inl ⟨by rw[q1];rfl,q2⟩
   .refine .inr ⟨j+1,a',t',by rw[q1];rfl,?_⟩
    rw[show k+(j+1)=k+1+j by omega];exact q2
theorem kH{d:D}{a:Addr}{t:Tok}:∀{k:Nat}{xs:List (D×Addr×Value)}{as:List Addr}{ds:List D},fi k xs as ds->fi k (xs++[(d,a,.int ((k+ds.length:Nat):Int) t)]) (as++[a]) (ds++[d])
 |k,_,_,_,.nil=>.cons .nil
 |k,_,_,_,.cons (ds:=ds) r=>by
  have:=kH (d:=d) (a:=a) (t:=t) r;rw[show k+1+ds.length=k+(ds.length+1) by omega]at this;exact .cons this
def jw{n:Addr}{objs:List D}(I:Inv X pins σ H s)(sm:Same G H)(hn:H n=some (.ext (bU X.prog X.w n as objs)))(dp:Dps X.K G objs (as.map .ref))(hk:∀d∈objs,okK 8 d=true/\jS d=true):
  (n==sysModules)=false/\objs.length<=1000000/\∃xs,fi 0 xs as objs/\s.heap.DictOfH (nJ X.prog X.w) n xs:=by
 obtain⟨⟨h1,xs,nx,hl,o,es,ep,ho,hx,hd,he,nd⟩,_⟩:=(show ObjOk X.prog X.w H s.heap n (.ext (bU X.prog X.w n as objs))from I.hok n _ hn);exact⟨h1,hl,xs,nx,o,es,ep,ho,hx,hd,he,xG (λd a q o=>lM I sm 8 d _ _ q rfl o) nx dp hk,nd⟩
def Vat(X:Cx)(G H:Hp)(x y:V)(d:D)(n:Addr)(as:List Addr)(objs:List D):Prop:=
 y=.ref n/\Same G H/\Dp X.K G d x/\okK 8 d=true/\jS d=true/\H n=some (.ext (bU X.prog X.w n as objs))/\Dps X.K G objs (as.map .ref)/\∀d∈objs,okK 8 d=true/\jS d=true
def jx{K}{d}{x}(h:Dp K G d x)(t:jS d=true):∃a,x=.ref a:=by
 cases h<;>first|exact⟨_,rfl⟩|cases t
def uo(hu:X.A.units+100<cLine):OpR X (compareOp .NotIn) (λx y H Q=>∃G d n as objs,Vat X G H x y d n as objs/\Q (.bl (objs.idxOf? d).isNone) H):=by
 intro pins s σ H x y v u Q I rx ry h;obtain⟨G,d,n,as,objs,⟨rfl,sm,dx,ok,tp,hn,dp,hk⟩,q⟩:=h;obtain⟨a,rfl⟩:=jx dx tp;cases ry;cases rx;obtain⟨h1,hl,xs,nx,dd⟩:=jw I sm hn dp hk;refine wpAny_notIn_heap (show X.A.units+1+64<cLine by omega) (lM I sm 8 d _ _ dx rfl ok) h1 dd ⟨.bl (!(atKey xs d).isSome),H,I.tok _,rfl,?_⟩;rcases numXs_at (d:=d) nx with⟨q1,q2⟩|⟨j,a',t,q1,q2⟩
 .rw[q1]at q;rw[q2];exact q
 .rw[q1]at q;rw[q2];exact q
def Li(hu:X.A.units+100<cLine):IxR X (λx y H Q=>∃G d n as objs j,Vat X G H y x d n as objs/\objs.idxOf? d=some j/\Q (.int (j:Nat)) H):=by
 intro value slice pins s σ H x y v u Q I rx ry h hs;obtain⟨G,d,n,as,objs,j,⟨rfl,sm,dx,ok,tp,hn,dp,hk⟩,hj,q⟩:=h;obtain⟨a,rfl⟩:=jx dx tp;cases ry;cases rx;obtain⟨h1,hl,xs,nx,dd⟩:=jw I sm hn dp hk;rcases numXs_at (d:=d) nx with⟨q1,q2⟩|⟨j',a',t,q1,q2⟩
 .rw[hj]at q1;cases q1
 .rw[hj]at q1
  cases q1;refine tail_any dd.typeIs PySem.F.slot_dict_getitem.lookup (wpAny_getItem_heap (show X.A.units+1+64<cLine by omega) (lM I sm 8 d _ _ dx rfl ok) dd q2 ⟨.int (j:Nat),H,I.tok _,⟨t,?_⟩,q⟩) hs;rw[Nat.zero_add]
def Ih(hu:X.A.units+100<cLine):zf X (λo i v H Q=>∃G d n as objs a,Vat X G H i o d n as objs/\i=.ref a/\objs.idxOf? d=.none/\objs.length<1000000/\v=.int (objs.length:Nat)/\Q (upd H n (.ext (bU X.prog X.w n (as++[a]) (objs++[d]))))):=by
 intro pins s σ H o i v ov iv u Q I ro ri rv h;obtain⟨G,d,n,as,objs,a,⟨rfl,sm,dx,ok,tp,hn,dp,hk⟩,rfl,hj,hlt,rfl,q⟩:=h;cases ro;cases ri;obtain⟨t,rfl⟩:=rv;obtain⟨h1,hl,xs,nx,dd⟩:=jw I sm hn dp hk;have hz:xs.length<=sizeLine:=by rw[(gQ nx).1,sizeLine_eq];omega
 rcases numXs_at (d:=d) nx with⟨q1,q2⟩|⟨j',a',t',q1,q2⟩
 .refine wpAny_setItem_heap (hsz:=hz) (show X.A.units+1+64<cLine by omega) (lM I sm 8 d _ _ dx rfl ok) dd λh' dd' hs=>⟨_,?_,q⟩
  obtain⟨ob,es,ep,hq,h2,h3,h4,_,h5⟩:=dd';rw[storedH_new q2]at h4 h5;have nx':=kH (d:=d) (a:=a) (t:=t) nx;rw[Nat.zero_add]at nx';exact I.write (t':=_) (by rw[hn];exact True.intro) (.inl rfl) (λb w hb e=>(hs.2 b hb).trans e) ⟨ob,hq⟩ ⟨⟨h1,_,nx',by simp;omega,ob,es,ep,hq,h2,h3,h4,h5⟩,⟨ob,hq⟩,λh1' h2' ⟨y1,ys,y2,y3,yo,yes,yep,y4,y5⟩ k=>⟨y1,ys,y2,y3,yo,yes,yep,k yo y4,y5⟩⟩
 .rw[hj]at q1;cases q1
end
noncomputable def kI(U:Ust):List D->Option (Ust×R)
 |[.hdl h,d]=>(U[h]?).bind λobjs=>if okK 8 d&&jS d&&decide (objs.length<1000000)then (match objs.idxOf? d with
  |some j=>some (U,.ok (.int (j:Nat)))
  |none=>some (U.set h (objs++[d]),.ok (.int (objs.length:Nat))))else none
 |_=>none
def jy:FnM:=⟨[false,false],kI⟩
set_option tactic.hygienic true in
theorem kJ :∀{os:List D},os.idxOf? d=.none->(os++[d]).idxOf? d=some os.length
 |[],_=>by simp[List.idxOf?_cons]
 |o::r,h=>by
  rw[List.idxOf?_cons]at h;rw[List.cons_append,List.idxOf?_cons];split at h
  .cases h
  .rename_i c
   rw[if_neg c];cases q:r.idxOf? d with
   |some j=>rw[q]at h;cases h
   |none=>rw[kJ q];rfl
def VS.put{C:Addr}{G:Hp}{dd:Vd}{U:Ust}(v:VS P w K C G H dd U)(sm:Same G (er H (parts dd))){h:Nat}{a n dx b:Addr}{objs:List D}(e:dd[h]?=some (a,l,n))(hU:U[h]?=some objs)(hl:H l=some (.lst (as.map .ref)))
  (hn:H n=some (.ext (bU P w n as objs))) (dp:Dps K G objs (as.map .ref)) (hk:∀d∈objs,okK 8 d=true/\jS d=true) (dv:Dp K G d (.ref b)) (ok:okK 8 d=true) (tp:jS d=true):
  MExt G H dd G (upd (upd H n (.ext (bU P w n (as++[b]) (objs++[d])))) l (.lst ((as++[b]).map .ref))) dd/\VS P w K C G (upd (upd H n (.ext (bU P w n (as++[b]) (objs++[d])))) l (.lst ((as++[b]).map .ref))) dd (U.set h (objs++[d])):=by
 obtain⟨ml,mn⟩:=gN e;have nln:n≠l:=λz=>by subst z;rw[hl]at hn;cases hn
 have out:∀c,c∉parts dd->upd (upd H n (.ext (bU P w n (as++[b]) (objs++[d])))) l (.lst ((as++[b]).map .ref)) c=H c:=λc hc=>by
  have c1:c≠l:=λz=>hc (by rw[z];exact ml)
  have c2:c≠n:=λz=>hc (by rw[z];exact mn)
  rw[aa c1,aa c2]
 have ere:er (upd (upd H n (.ext (bU P w n (as++[b]) (objs++[d])))) l (.lst ((as++[b]).map .ref))) (parts dd)=er H (parts dd):=by
  funext c
  by_cases hc:c∈parts dd
  .rw[kC hc,kC hc]
  .rw[er_out hc,er_out hc,out c hc]
 have hlen:=(gi0 hU).1;refine⟨⟨Same.refl _,by rw[ere];exact Same.refl _,by rw[ere];exact sm,λf f h f=>h,List.prefix_refl _,λc o hc=>?_⟩,⟨by rw[v.len];simp,v.nd,λh' a' l' n' e'=>?_,λc C' dx' fs q=>?_,v.out⟩⟩
 .by_cases c1:c=l
  .subst c1;exact⟨_,ae⟩
  .rw[aa c1]
   by_cases c2:c=n
   .subst c2;exact⟨_,ae⟩
   .rw[aa c2];exact⟨o,hc⟩
 .obtain⟨dx',objs',q1,q2,q3,as',q4,q5,q6,q7⟩:=v.at' h' a' l' n' e'
  have hdx:upd (upd H n (.ext (bU P w n (as++[b]) (objs++[d])))) l (.lst ((as++[b]).map .ref)) dx'=some (.own a'):=by
   have c1:dx'≠l:=λz=>by rw[z,hl]at q3;cases q3
   have c2:dx'≠n:=λz=>by rw[z,hn]at q3;cases q3
   rw[aa c1,aa c2];exact q3
  by_cases hh:h'=h
  .subst hh
   rw[e]at e';cases e';rw[hU]at q1;cases q1;rw[hl]at q4;have eas:as'=as:=by
    have z:as.map V.ref=as'.map V.ref:=HO.lst.inj (Option.some.inj q4);exact (List.map_inj_right (λf f z=>V.ref.inj z)).mp z.symm
   subst eas;refine⟨dx',objs++[d],by rw[gs0 hlen],q2,hdx,as'++[b],ae,by rw[List.map_append];exact q5.append (.one dv),by rw[aa nln];exact ae,λy hy=>?_⟩;rcases ma0 hy with hy|hy
   .exact hk y hy
   .obtain rfl:y=d:=by simpa using hy
    exact⟨ok,tp⟩
  .have ap:l'≠l/\l'≠n/\n'≠l/\n'≠n:=by
    have key:∀(dd:Vd)(i j:Nat)(p q:Addr×Addr×Addr),(parts dd).Nodup->i<j->dd[i]?=some p->dd[j]?=some q->∀x∈[p.2.1,p.2.2],∀y∈[q.2.1,q.2.2],x≠y:=by
     intro dd
     induction dd with
     |nil=>intro i j p q _ _ h1;simp at h1
     |cons r rs ih=>
      intro i j p q nd hij h1 h2 x hx y hy;have nd2:([r.2.1,r.2.2]++parts rs).Nodup:=nd;obtain⟨n1,n2,n3⟩:=List.nodup_append.mp nd2;cases i with
      |zero=>
       cases j with
       |zero=>exact absurd hij (li0 _)
       |succ j=>
        simp at h1;subst h1;exact n3 x hx y (List.mem_flatMap.mpr ⟨q,mg0 (by simpa using h2),hy⟩)
      |succ i=>
       cases j with
       |zero=>exact absurd hij (Nat.not_lt_zero _)
       |succ j=>exact ih i j p q n2 (by omega) (by simpa using h1) (by simpa using h2) x hx y hy
    rcases Nat.lt_or_gt_of_ne hh with c|c
    .have k2:=key dd h' h _ _ v.nd c e' e
     exact⟨k2 _ (by simp) _ (by simp),k2 _ (by simp) _ (by simp),k2 _ (by simp) _ (by simp),k2 _ (by simp) _ (by simp)⟩
    .have k2:=key dd h h' _ _ v.nd c e e'
     exact⟨(k2 _ (by simp) _ (by simp)).symm,(k2 _ (by simp) _ (by simp)).symm,(k2 _ (by simp) _ (by simp)).symm,(k2 _ (by simp) _ (by simp)).symm⟩
   obtain⟨a1,a2,a3,a4⟩:=ap;exact⟨dx',objs',by rw[gn0 (Ne.symm hh)];exact q1,q2,hdx,as',by rw[aa a1,aa a2];exact q4,q5,by rw[aa a3,aa a4];exact q6,q7⟩
 .have:H c=some (.ins C' dx' fs):=by
   by_cases c1:c=l
   .subst c1;rw[ae]at q;cases q
   .rw[aa c1]at q
    by_cases c2:c=n
    .subst c2;rw[ae]at q;cases q
    .rw[aa c2]at q;exact q
  exact v.uni c C' dx' fs this
structure xH(st:Stmt):Prop where
 ex:∃p1 p2 p3 p4 p5 p6 p7 p8 p9 p10 p11 p12 p13 p14 p15 p16 p17 p18 p19 p20 p21 p22 p23 p24 p25:Pos,(p16.endLine==p18.line)=true/\defBody st =
  [.If (.Compare (.Name "made" p1) [.NotIn] [.Attribute (.Name "self" p2) "numbers" p3] p4)
   [.Assign [.Subscript (.Attribute (.Name "self" p5) "numbers" p6) (.Name "made" p7) p8] (.Call (.Name "len" p9) [.Attribute (.Name "self" p10) "objects" p11] [] p12) p13,
    .Expr (.Call (.Attribute (.Attribute (.Name "self" p14) "objects" p15) "append" p16) [.Name "made" p17] [] p18) p19] [] p20,
   .Return (some (.Subscript (.Attribute (.Name "self" p21) "numbers" p22) (.Name "made" p23) p24)) p25]
 gl:(defScope st).names.lookup ("len":Str)=some NameKind.globalImplicit
set_option tactic.hygienic true in
def Fy{P}{w}{mg}{base}{C}{x qual}{st}{f}{fd}(F:Fun K x qual st f fd)(S:aU ["self","made"] ["self","made"] (defScope st))(T:xH st)(hlen:mg "len"=none)(hc:Cls K C)(h1:NoAttr K C "objects")(h2:NoAttr K C "numbers"):
  FnOk P w K mg base (CX1 P w) 2 f fd ["self","made"] (Mur P w K C jy):=by
 obtain⟨oc,od,kV,doc,pm,an,cdv,ct,osl,rfl,lk,hcd⟩:=F.ex;obtain⟨p1,p2,p3,p4,p5,p6,p7,p8,p9,p10,p11,p12,p13,p14,p15,p16,p17,p18,p19,p20,p21,p22,p23,p24,p25,hline,hbody⟩:=T.ex;refine uU (CX:=CX1 P w) lk hcd S (λvs H Q E h=>?_) (λA outer s H vs Q E hr h=>?_)
 .obtain⟨ds,U,U',r,G,d,h1,_,das,_⟩:=h
  have:ds.length=2:=by
   match ds,h1 with
   |[.hdl h,d],_=>rfl
  rw[<-das.length,this];rfl
 .obtain⟨ds,U,U',r,G,dd,hrun,sm,das,v,kq⟩:=h
  have sm':=sm.trans az;have hu:(dG (CX1 P w) P w K mg base ["self","made"] qual (defScope st) f cdv A outer s H E).A.units+100<cLine:=by have:=hr.un;show (A.deeper _).units+100<_;omega
  have vself:∀p:Pos,PE (dG (CX1 P w) P w K mg base ["self","made"] qual (defScope st) f cdv A outer s H E) (.Name "self" p) (uD 0):=λp=>cN rfl ((S.par "self" (by simp)).elim .inl λz=>.inr (.inl z))
  have vmade:∀p:Pos,PE (dG (CX1 P w) P w K mg base ["self","made"] qual (defScope st) f cdv A outer s H E) (.Name "made" p) (uD 1):=λp=>cN rfl ((S.par "made" (by simp)).elim .inl λz=>.inr (.inl z))
  have num:=λ(p q:Pos)=>oR (pos:=q) (f:="numbers") (vself p) rfl
  have obs:=λ(p q:Pos)=>oR (pos:=q) (f:="objects") (vself p) rfl
  rw[hbody];refine⟨_,aA (gU (pos:=p20) (ik (pos:=p4) (uo hu) (vmade p1) (num p2 p3) rfl)
   (aA (oK (pos:=p13) (cq (p:=p9) (pos:=p12) lq T.gl hlen PySem.boot_len (aD (obs p10 p11) bz)) (oJ (pos:=p8) (num p5 p6) (vmade p7) (Ih hu)))
    (aA (eD (pos:=p19) (qH (apos:=p16) (cpos:=p18) PySem.F.plainAttrs_list PySem.F.slot_list_append PySem.F.type_list_append gq (obs p14 p15) (aD (vmade p17) bz) rfl rfl hline)) dh)) dh)
   (aA (iG (pos:=p25) (qE (pos:=p24) (Li hu) (num p21 p22) (vmade p23) λc c=>rfl)) dh),?_⟩
  match ds,hrun,das with
  |[.hdl h,d],hrun,das=>
   obtain⟨va,vb,rfl,da,db⟩:=das.two;have da:=da.dp rfl;obtain⟨objs,hU,hrun⟩:=bx0 (hrun:(U[h]?).bind _=some (U',r));split at hrun
   .rename_i hq
    simp only[be0,decide_eq_true_eq]at hq;obtain⟨⟨ok,tp⟩,hlt⟩:=hq;have db:=db.dp (by cases d<;>first|rfl|cases tp);obtain⟨b,rfl⟩:=jx db tp;obtain⟨a,l,n,dx,objs',rfl,e,hU',hG,hdx,as,hl,dp,hn,hk⟩:=v.hdl sm' da;rw[hU]at hU';cases hU';have hlo:(vfs l n h).lookup ("objects":Str)=some (V.ref l):=rfl;have hln:(vfs l n h).lookup ("numbers":Str)=some (V.ref n):=rfl;have fself:(start ["self","made"] [V.ref a,V.ref b])[0]?=some (some (.ref a)):=rfl;have fmade:(start ["self","made"] [V.ref a,V.ref b])[1]?=some (some (.ref b)):=rfl;have aslen:as.length=objs.length:=by have:=dp.length;simpa using this.symm
    refine⟨.ref b,fmade,.ref a,fself,a,C,dx,_,_,rfl,sm' _ _ hG,hc,h2,hln,G,d,n,as,objs,⟨rfl,sm',db,ok,tp,hn,dp,hk⟩,?_⟩;cases hj:objs.idxOf? d with
    |some j=>
     rw[hj]at hrun;cases hrun;refine⟨false,rfl,gu ⟨.ref a,fself,a,C,dx,_,_,rfl,sm' _ _ hG,hc,h2,hln,.ref b,fmade,G,d,n,as,objs,j,⟨rfl,sm',db,ok,tp,hn,dp,hk⟩,hj,?_⟩⟩;exact kq _ G H dd (.refl sm) v (.int _)
    |none=>
     rw[hj]at hrun;cases hrun;have nln:n≠l:=λz=>by subst z;rw[hl]at hn;cases hn
     have anl:a≠l:=λz=>by rw[z]at hG;rw[sm' _ _ hG]at hl;cases hl
     have ann:a≠n:=λz=>by rw[z]at hG;rw[sm' _ _ hG]at hn;cases hn
     refine⟨true,rfl,iteT ?_⟩;refine⟨.ref a,fself,a,C,dx,_,_,rfl,sm' _ _ hG,hc,h1,hlo,l,as.map .ref,rfl,.inl (SqL.of hl),.ref a,fself,a,C,dx,_,_,rfl,sm' _ _ hG,hc,h2,hln,.ref b,fmade,G,d,n,as,objs,b,⟨rfl,sm',db,ok,tp,hn,dp,hk⟩,rfl,hj,hlt,by rw[lm0,aslen],?_⟩;obtain⟨mx,v2⟩:=v.put sm (dx:=dx) e hU hl hn dp hk db ok tp;refine⟨.ref a,fself,a,C,dx,_,_,rfl,by rw[aa ann];exact sm' _ _ hG,hc,h1,hlo,.inl ⟨rfl,as.map .ref,SqL.of (by rw[aa (Ne.symm nln)];exact hl)⟩,.ref b,fmade,l,as.map .ref,.ref b,rfl,rfl,by rw[aa (Ne.symm nln)];exact hl,by rw[lm0,aslen,sizeLine_eq];omega,?_⟩;have eas:(as.map V.ref++[V.ref b])=(as++[b]).map V.ref:=by simp
     rw[eas];have sm2:=mx.gh.trans az;refine⟨.ref a,fself,a,C,dx,_,_,rfl,sm2 _ _ hG,hc,h2,hln,.ref b,fmade,G,d,n,as++[b],objs++[d],objs.length,⟨rfl,sm2,db,ok,tp,by rw[aa nln];exact ae,by rw[List.map_append];exact dp.append (.one db),λy hy=>?_⟩,kJ hj,kq _ G _ dd mx v2 (.int _)⟩;rcases ma0 hy with hy|hy
     .exact hk y hy
     .obtain rfl:y=d:=by simpa using hy
      exact⟨ok,tp⟩
   .cases hrun
def Ba(C dx l n:Addr):HO:=.ins C dx [("objects",.ref l),("numbers",.ref n)]
noncomputable def jz(C x dx l n:Addr)(H:Hp):Hp:=upd (upd (upd (upd H l (.lst [])) x (.ins C dx [("objects",.ref l)])) n (.dK [])) x (Ba C dx l n)
noncomputable def xI(C:Addr):Sp:=λvs H Q a=>∃x dx,vs=[.ref x]/\H x=some (.ins C dx [])/\∀l n,H l=none->H n=none->l≠n->Q .non (jz C x dx l n H)
structure rK(st:Stmt):Prop where
 ex:∃p1 p2 p3 p4 p5 p6 p7 p8:Pos,defBody st=[.Assign [.Attribute (.Name "self" p1) "objects" p2] (.List [] p3) p4,.Assign [.Attribute (.Name "self" p5) "numbers" p6] (.Dict [] [] p7) p8]
def Bb{P}{w}{mg}{base}{C}{x qual}{st}{f}{fd}(F:Fun K x qual st f fd)(S:aU ["self"] ["self"] (defScope st))(T:rK st)(hc:Cls K C)(h1:NoAttr K C "objects")(h2:NoAttr K C "numbers"):
  FnOk P w K mg base CX0 1 f fd ["self"] (xI C):=by
 obtain⟨p1,p2,p3,p4,p5,p6,p7,p8,hbody⟩:=T.ex;refine F.ok S (λvs H Q E h=>?_) (λcdv A outer s H vs Q E hr h=>?_)
 .obtain⟨x,dx,rfl,_⟩:=h;rfl
 .obtain⟨x,dx,rfl,hx,q⟩:=h
  have vself:∀p:Pos,PE (dG CX0 P w K mg base ["self"] qual (defScope st) f cdv A outer s H E).nox (.Name "self" p) (uD 0):=λp=>cN rfl ((S.par "self" (by simp)).elim .inl λz=>.inr (.inl z))
  rw[hbody];refine⟨_,aA (uP (pos:=p4) (pos':=p2) (f:="objects") (vself p1) (uR (pos:=p3) bz) rfl) (aA (uP (pos:=p8) (pos':=p6) (f:="numbers") (vself p5) (mE (pos:=p7)) rfl) dh),?_⟩;refine⟨Nat.zero_le _,λl hl=>⟨.ref x,rfl,x,C,dx,[],rfl,?_,hc,h1,by decide,λn hn=>⟨.ref x,rfl,x,C,dx,[("objects",.ref l)],rfl,?_,hc,h2,(by decide:1<1000),?_⟩⟩⟩
  .rw[aa (ai hx hl)];exact hx
  .have nx:n≠x:=λz=>by subst z;rw[ae]at hn;cases hn
   rw[aa (Ne.symm nx)];exact ae
  .have nx:n≠x:=λz=>by subst z;rw[ae]at hn;cases hn
   rw[aa nx]at hn;have nl:n≠l:=λz=>by subst z;rw[ae]at hn;cases hn
   rw[aa nl]at hn;exact q l n hl hn (Ne.symm nl)
def xJ(l n:Addr)(h:Nat)(f:Str):(vfs l n h).lookup f=([("objects",.ref l),("numbers",.ref n)]:List (Str×V)).lookup f:=by
 unfold vfs;simp only[lk0];cases c:f==("objects":Str)with
 |true=>rfl
 |false=>
  cases c2:f==("numbers":Str)with
  |true=>rfl
  |false=>rfl
structure xK(P:Program)(w:World)(K:Fg)(mg:Str->Option Value)(base:Heap)(C:Addr)(vn:Str):Prop where
 ex:∃f fd,Mk K C f/\mg vn=some (.ref C)/\(vn==("__debug__":Str))=false/\Binds K fd ["self"] []/\FnOk P w K mg base CX0 1 f fd ["self"] (xI C)
def Bc{C:Addr}{vn:Str}{U:Ust}{p:Pos}(Z:xK X.prog X.w X.K X.mg X.base C vn)(hr:Room 2 X.A)(hg:Gl X vn):EvM X C Y U (.Call (.Name vn p) [] [] pos) (.ok (.hdl U.length)) (U++[[]]):=by
 obtain⟨f,fd,hM,hm,hdb,hb,F⟩:=Z.ex;intro pins s σ H Q I h0;obtain⟨G0,H0,d0,G,d,E,kq⟩:=h0;refine thn (uT (p:=p) (pos:=pos) hM F hr hg hm hb .nil mz hdb pins s σ H (λv H2=>∃x dx l n,v=.ref x/\H x=none/\H dx=none/\dx≠x/\l≠x/\n≠x/\l≠dx/\n≠dx/\l≠n/\H l=none/\H n=none/\H2=jz C x dx l n (upd (upd H dx (.own x)) x (.ins C dx []))) I ?_) λu s2 hq=>?_
 .intro x dx hx hdx hne
  refine⟨x,dx,rfl,ae,λl n hl hn hln=>⟨rfl,x,dx,l,n,rfl,hx,hdx,hne,?_⟩⟩;have l1:l≠x:=λz=>by subst z;rw[ae]at hl;cases hl
  rw[aa l1]at hl;have l2:l≠dx:=λz=>by subst z;rw[ae]at hl;cases hl
  rw[aa l2]at hl;have n1:n≠x:=λz=>by subst z;rw[ae]at hn;cases hn
  rw[aa n1]at hn;have n2:n≠dx:=λz=>by subst z;rw[ae]at hn;cases hn
  rw[aa n2]at hn;exact⟨l1,n1,l2,n2,hln,hl,hn,rfl⟩
 .obtain⟨v,H2,I2,rv,x,dx,l,n,rfl,hx,hdx,hne,l1,n1,l2,n2,hln,hl,hn,rfl⟩:=hq
  generalize hH2:jz C x dx l n (upd (upd H dx (.own x)) x (.ins C dx []))=H2 at I2;have at_x:H2 x=some (Ba C dx l n):=by rw[<-hH2];exact ae
  have at_n:H2 n=some (.dK []):=by rw[<-hH2];unfold jz;rw[aa n1];exact ae
  have at_l:H2 l=some (.lst []):=by rw[<-hH2];unfold jz;rw[aa l1,aa hln,aa l1];exact ae
  have at_dx:H2 dx=some (.own x):=by rw[<-hH2];unfold jz;rw[aa hne,aa (Ne.symm n2),aa hne,aa (Ne.symm l2),aa hne];exact ae
  have other:∀b,b≠x->b≠dx->b≠l->b≠n->H2 b=H b:=λb b1 b2 b3 b4=>by rw[<-hH2];unfold jz;rw[aa b1,aa b4,aa b1,aa b3,aa b1,aa b2]
  obtain⟨_,hsm,vs,kv,⟨o,es,ep,ho,hex,hdt,_,hpr,_⟩⟩:=(show ObjOk X.prog X.w H2 s2.heap n (.dK [])from I2.hok n _ at_n);have hvs:vs=[]:=by cases kv;rfl
  subst hvs;have hes:es.toList=[]:=by cases q:es.toList with|nil=>rfl|cons a r=>rw[q]at hpr;cases hpr
  have num:bU X.prog X.w n [] [] s2.heap:=⟨hsm,[],.nil,by decide,o,es,ep,ho,hex,hdt,hes,List.nodup_nil⟩;have I3:Inv X pins σ (upd H2 n (.ext (bU X.prog X.w n [] []))) {s2 with heap:=s2.heap,toks:=s2.toks}:=I2.write (x:=n) (e:=n) (by rw[at_n];exact True.intro) (.inl rfl) (λb w g e=>e) ⟨o,ho⟩
   ⟨num,⟨o,ho⟩,λh1' h2' ⟨y1,ys,y2,y3,yo,yes,yep,y4,y5⟩ k=>⟨y1,ys,y2,y3,yo,yes,yep,k yo y4,y5⟩⟩
  generalize hH3:upd H2 n (.ext (bU X.prog X.w n [] []))=H3 at I3;have b_x:H3 x=some (Ba C dx l n):=by rw[<-hH3,aa (Ne.symm n1)];exact at_x
  have b_dx:H3 dx=some (.own x):=by rw[<-hH3,aa (Ne.symm n2)];exact at_dx
  obtain⟨z1,z2,z3,z4,mA,z5,z6,z7⟩:=(show ObjOk X.prog X.w H3 s2.heap x (Ba C dx l n)from I3.hok x _ b_x);have I4:Inv X pins σ (upd H3 x (.ins C dx (vfs l n U.length))) {s2 with heap:=s2.heap,toks:=s2.toks}:=I3.write (x:=x) (e:=x) (by rw[b_x];exact True.intro) (.inl rfl) (λb w g e=>e) ⟨_,z4⟩
   ⟨by rw[aa hne];exact b_dx,(show 3<=1000 by decide),z3,z4,mA,z5,λf=>by rw[xJ];exact z6 f,λf hf=>by
    have:=z7 f hf;simp only[mk0,List.map_nil,List.mem_cons,List.not_mem_nil,or_false]at this;unfold vfs;rcases this with z|z
    .exact List.mem_cons.mpr (.inl z)
    .exact mc0 _ (List.mem_cons.mpr (.inl z))⟩
  generalize hH4:upd H3 x (.ins C dx (vfs l n U.length))=H4 at I4;have c_x:H4 x=some (.ins C dx (vfs l n U.length)):=by rw[<-hH4];exact ae
  have c_dx:H4 dx=some (.own x):=by rw[<-hH4,aa hne];exact b_dx
  have c_n:H4 n=some (.ext (bU X.prog X.w n [] [])):=by rw[<-hH4,aa n1,<-hH3];exact ae
  have c_l:H4 l=some (.lst []):=by rw[<-hH4,aa l1,<-hH3,aa hln];exact at_l
  have c_o:∀b,b≠x->b≠dx->b≠l->b≠n->H4 b=H b:=λb b1 b2 b3 b4=>by rw[<-hH4,aa b1,<-hH3,aa b4];exact other b b1 b2 b3 b4
  have keep:∀b o,H b=some o->H4 b=some o:=λb o e=>by
   rw[c_o b (ai e hx) (ai e hdx) (ai e hl) (ai e hn)];exact e
  have hlen:=E.vs.len
  let G':Hp:=upd G x (.ins C dx (vfs l n U.length))
  have gx:∀b,H b=none->G b=none:=λb hb=>E.sub.free hb
  have gg:Same G G':=aF (gx x hx);have pd:parts (d++[(x,l,n)])=parts d++[l,n]:=by unfold parts;rw[List.flatMap_append];rfl
  have nl:∀b,H b=none->b∉parts d:=λb hb z=>by
   obtain⟨o,ho⟩:=E.vs.part z;rw[hb]at ho;cases ho
  have hh:Same (er H (parts d)) (er H4 (parts (d++[(x,l,n)]))):=λb o e=>by
   obtain⟨e1,e2⟩:=aS e;rw[er_out (by
           rw[pd];intro z;rcases ma0 z with z|z
           .exact e1 z
           .simp only[List.mem_cons,List.not_mem_nil,or_false]at z
            rcases z with rfl|rfl
            .rw[hl]at e2;cases e2
            .rw[hn]at e2;cases e2)]
   exact keep b o e2
  have mx:MExt G H d G' H4 (d++[(x,l,n)]):=by
   refine⟨gg,hh,λb o e=>?_,λb o e1 e2=>?_,List.prefix_append _ _,λb o e=>⟨o,keep b o e⟩⟩
   .by_cases c:b=x
    .subst c
     have e:upd G b (.ins C dx (vfs l n U.length)) b=some o:=e;rw[ae]at e;cases e;rw[er_out (by
             rw[pd];intro z;rcases ma0 z with z|z
             .exact nl b hx z
             .simp only[List.mem_cons,List.not_mem_nil,or_false]at z
              rcases z with z|z
              .exact l1 z.symm
              .exact n1 z.symm)]
     exact c_x
    .have e:upd G x (.ins C dx (vfs l n U.length)) b=some o:=e
     rw[aa c]at e;exact hh b o (E.sub' b o e)
   .show upd G x (.ins C dx (vfs l n U.length)) b=none
    rw[aa (ai e2 hx)];exact e1
  have v':VS X.prog X.w X.K C G' H4 (d++[(x,l,n)]) (U++[[]]):=by
   refine⟨by simp[hlen],?_,λh a l' n' e=>?_,λa C' dx' fs q=>?_,λb hb=>?_⟩
   .rw[pd]
    refine List.nodup_append.mpr ⟨E.vs.nd,by simp[hln],λa ha b hb z=>?_⟩;subst z;simp only[List.mem_cons,List.not_mem_nil,or_false]at hb;rcases hb with rfl|rfl
    .exact nl _ hl ha
    .exact nl _ hn ha
   .by_cases hlt:h<d.length
    .rw[gl0 hlt]at e
     obtain⟨dx',objs,q1,q2,q3,as,q4,q5,q6,q7⟩:=E.vs.at' h a l' n' e;exact⟨dx',objs,by rw[gl0 (by rw[<-hlen];exact hlt)];exact q1,gg _ _ q2,keep _ _ q3,as,keep _ _ q4,q5.mono gg,keep _ _ q6,q7⟩
    .rw[List.getElem?_append_right (by omega)]at e
     have h0:h-d.length=0:=by
      have:=(gi0 e).1;simp at this;omega
     rw[h0]at e;cases e;have eh:h=U.length:=by omega
     subst eh;refine⟨dx,[],by simp,ae,c_dx,[],c_l,.nil,c_n,λg z=>by cases z⟩
   .by_cases c:a=x
    .subst c
     exact⟨d.length,l,n,by simp⟩
    .have q':H a=some (.ins C' dx' fs):=by
      by_cases c1:a=dx
      .subst c1;rw[c_dx]at q;cases q
      by_cases c2:a=l
      .subst c2;rw[c_l]at q;cases q
      by_cases c3:a=n
      .subst c3;rw[c_n]at q;cases q
      rw[c_o a c c1 c2 c3]at q;exact q
     obtain⟨h,l',n',e⟩:=E.vs.uni a C' dx' fs q';exact⟨h,l',n',by rw[gl0 (gi0 e).1];exact e⟩
   .show upd G x (.ins C dx (vfs l n U.length)) b=none
    rw[pd]at hb;rcases ma0 hb with hb|hb
    .rw[aa (λz=>by subst z;exact nl _ hx hb)];exact E.vs.out b hb
    .simp only[List.mem_cons,List.not_mem_nil,or_false]at hb
     rcases hb with rfl|rfl
     .rw[aa l1];exact gx _ hl
     .rw[aa n1];exact gx _ hn
  exact⟨.ref x,H4,I4,rv,kq (.ref x) G' H4 _ mx v' (.hdl (show upd G x (.ins C dx (vfs l n U.length)) x=_ from ae))⟩
end L2.Z
namespace M1
open PySem PySem.Builtin PySem.Builtin.Str
def ext{a b:Str}(h:a.cps.toList=b.cps.toList):a=b:=by
 cases a;cases b
 congr 1
 exact Array.toList_inj.mp h
def toL_append(a b:Str):(a++b).cps.toList=a.cps.toList++b.cps.toList:=by
 show (a.cps++b.cps).toList=_;simp
def xM(x:Str)(c:Nat):Txt.split x ⟨#[c]⟩≠[]:=by
 unfold Txt.split;split
 .simp
 .split
  .simp
  .rw[StrLaws.partsBetween_eq]
   obtain⟨p,r,e⟩:=StrLaws.partsFrom_ne x (⟨#[c]⟩:Str).length 0 (occurrences x ⟨#[c]⟩ 0 x.length (x.length+1));rw[e];simp
def qg:∀ls:List Str,(Txt.join Str.empty ls).cps.toList=(ls.map λp=>p.cps.toList).flatten:=by
 intro ls;show (glued Str.empty ls).cps.toList=_;rw[StrLaws.glued_eq_join]
 induction ls with
 |nil=>rfl
 |cons x r ih=>
  cases r with
  |nil=>show x.cps.toList=_;simp
  |cons y r=>
   show (x++Str.empty++Str.join Str.empty (y::r)).cps.toList=_;rw[toL_append,toL_append,ih];show x.cps.toList++[]++_=_;simp
end M1
set_option maxRecDepth 10000
end
section
variable {Z:SI.Fs}{Γ:List (PySem.Str×SI.D)}{ns:List Int}{α β:Type}{i:Int}{q:PySem.Program}{loose r vms xs:List PySem.Str}{c cBC cBP m n:Nat}{x:PySem.Str}{Y:List SI.Sl}{s2:SI.Sl}{mg:PySem.Str->Option PySem.Value}
namespace TX
open PySem SI
noncomputable def dX:Def:=⟨[true,true],2,(.B (.ifs (.v 0) (.A (.ret (.idx (.v 0) (.op .mod (.v 1) (.bi .len (.A (.v 0))))))) .nil) (.ret (.k (.int 0))))⟩
noncomputable def iy:Def:=⟨[true,true],3,(.cons (.set 2 (.op .mod (.op .add (.call "_law_cell" (.B (.v 0) (.v 1))) (.op .mul (.k (.int 104729)) (.op .add (.v 1) (.k (.int 1))))) (.k (.int 4294967291)))) (.B (.set 2 (.op .mod (.op .mul (.v 2) (.k (.int 48271))) (.k (.int 4294967279)))) (.ret (.op .mod (.op .add (.op .mul (.op .fdiv (.v 2) (.k (.int 64))) (.k (.int 69621))) (.v 2)) (.k (.int 4294967231))))))⟩
noncomputable def fX:Def:=⟨[true],3,(.cons (.set 1 (.k (.str ⟨#[32,33,34,35,36,38,39,40,41,42,43,44,45,46,47,48,49,50,51,52,53,54,55,56,57,58,59,60,61,62,63,64,65,66,67,68,69,70,71,72,73,74,75,76,77,78,79]⟩))) (.B (.set 2 (.k (.str ⟨#[80,81,82,83,84,85,86,87,88,89,90,91,92,93,94,95,96,97,98,99,100,101,102,103,104,105,106,107,108,109,110,111,112,113,114,115,116,117,118,119,120,121,122,123,124,125,126]⟩))) (.ret (.idx (.op .add (.v 1) (.v 2)) (.op .mod (.v 0) (.k (.int 94)))))))⟩
noncomputable def fY:Def:=⟨[true,true],3,(.cons (.set 2 (.call "_law_mix" (.B (.v 0) (.v 1)))) (.B (.ifs (.cmp .eq (.op .mod (.v 2) (.k (.int 4))) (.k (.int 3))) (.A (.ret (.op .add (.call "_law_sign" (.A (.op .fdiv (.v 2) (.k (.int 4))))) (.call "_law_sign" (.A (.op .fdiv (.v 2) (.k (.int 376)))))))) .nil) (.ret (.idx (.lst (.cons (.k (.str ⟨#[97]⟩)) (.cons (.k (.str ⟨#[98]⟩)) (.cons (.k (.str ⟨#[]⟩)) (.cons (.k (.str ⟨#[97,32,98]⟩)) (.B (.k (.str ⟨#[124]⟩)) (.k (.str ⟨#[99]⟩)))))))) (.op .mod (.op .fdiv (.v 2) (.k (.int 4))) (.k (.int 6)))))))⟩
noncomputable def fZ:Def:=⟨[true,true],3,(.cons (.new 2 (.comp 1 [] (.one 0) (.seq (.v 0)) .nil (.op .add (.v 0) (.k (.str ⟨#[10]⟩))))) (.B (.ifs (.and (.v 1) (.and (.v 0) (.cmp .ne (.idx (.v 0) (.neg (.k (.int 1)))) (.k (.str ⟨#[]⟩))))) (.A (.seti 2 (.neg (.k (.int 1))) (.idx (.v 0) (.neg (.k (.int 1)))))) .nil) (.ret (.v 2))))⟩
noncomputable def iz:Def:=⟨[true,true,true],3,(.A (.ret (.comp 1 [1,0] (.one 0) (.rng (.v 2)) .nil (.call "_law_line" (.B (.v 2) (.op .add (.v 1) (.v 0)))))))⟩
noncomputable def kK:Def:=⟨[true],1,(.A (.ret (.and (.isi (.v 0) "int") (.not (.isi (.v 0) "bool")))))⟩
noncomputable def ans(Z:Fs)(Γ:List (Str×D))(d:Def)(ds:List D):Option D:=(exs Z Γ (cw d ds) d.body).bind Out.val
def Has(Z:Fs)(f:Str)(fl:List Bool)(P:(List D->Option D)->Prop):Prop:=∃run,Z f=some ⟨fl,run⟩/\P run
noncomputable def kM(ns:List Int)(k:Int):Int:=if ns=[] then 0 else (ns[(k % ns.length).toNat]?).getD 0
def Bd(h:ns≠[])(k:Int):0<=k % (ns.length:Int)/\k % (ns.length:Int)<ns.length:=by
 have:0<ns.length:=lp0 h;exact⟨en0 _ (by omega),el0 _ (by omega)⟩
def bK{xs:List α}(h0:0<=i)(h1:i<xs.length):atI xs i=xs[i.toNat]?:=by
 unfold atI ixN;rw[if_pos h0,if_pos h1];rfl
def kN{xs:List α}{i:Nat}(d:α)(h:i<xs.length):xs[i]?=some (xs[i]?.getD d):=by
 rw[ge0 h];rfl
def xN(ns:List Int)(k:Int):ans Z Γ dX [.scr ns,.int k]=some (.int (kM ns k)):=by
 by_cases h:ns=[]
 .subst h;simp[ans,dX,kM]
 .have hl:0<ns.length:=lp0 h
  have hm:=Bd h k;have e:atI ns (k % (ns.length:Int))=some (kM ns k):=by
   rw[bK hm.1 hm.2,kN 0 (by omega)];simp[kM,h]
  simp[ans,dX,h,hl,e]
end TX
namespace TX
open PySem SI M1
noncomputable def mixF(ns:List Int)(k:Int):Int:=
 let a:=(kM ns k+104729*(k+1)) % 4294967291
 let b:=a*48271 % 4294967279
 (b / 64*69621+b) % 4294967231
abbrev Cd(Z:Fs):Prop:=Has Z "_law_cell" [true,true] λrun=>∀ns k,run [.scr ns,.int k]=some (.int (kM ns k))
abbrev nX(Z:Fs):Prop:=Has Z "_law_mix" [true,true] λrun=>∀ns k,run [.scr ns,.int k]=some (.int (mixF ns k))
def xO(i:Int)(j:Int)(h1:-(2 ^ 64)<j)(h2:j<2 ^ 64):pf i j=true:=by
 unfold pf;rw[dt0 h1,dt0 h2];simp
def xP(i:Int)(j:Int)(h1:-(2 ^ 64)<i)(h2:i<2 ^ 64):pf i j=true:=by
 unfold pf;rw[dt0 h1,dt0 h2];simp
def Be(hc:Cd Z)(ns)(k:Int):ans Z Γ iy [.scr ns,.int k]=some (.int (mixF ns k)):=by
 obtain⟨run,h,hs⟩:=hc;simp[ans,iy,h,hs,xP 104729,xO _ 48271,xO _ 69621,mixF]
def lN(ns)(k:Int)(m:Int)(h:0<m):0<=mixF ns k % m/\mixF ns k % m<m:=⟨en0 _ (by omega),el0 _ h⟩
theorem aN{f}{inj g}:∀{xs:List β},(∀x∈xs,f (inj x)=some (some (g x)))->aM f (xs.map inj)=some (xs.map g)
 |[],_=>rfl
 |x::r,h=>by
  show (f (inj x)).bind _=_;rw[h x ms0];show (aM f (r.map inj)).map _=_;rw[aN λy hy=>h y (mc0 _ hy)];rfl
theorem bF:∀ys:List Str,strsOf (ys.map .str)=some ys
 |[]=>rfl
 |y::r=>by show (strsOf (r.map .str)).map _=_;rw[bF r];rfl
def xQ{xs:List α}(d:α)(h0:0<=i)(h1:i<xs.length):atI xs i=some (xs[i.toNat]?.getD d):=by
 rw[bK h0 h1,<-kN d (by omega)]
theorem xR{f}{n}:∀{xs:List α},(∀x∈xs,f x<=n)->(xs.map f).sum<=xs.length*n
 |[],_=>by simp
 |x::r,h=>by
  have h1:=h x ms0;have h2:=xR (f:=f) (xs:=r) λy hy=>h y (mc0 _ hy)
  simp only[mk0,List.sum_cons,lc0,Nat.succ_mul];omega
def xS(ys):(Txt.join Str.empty ys).length<=(ys.map (·.length)).sum:=by
 have h:=StrLaws.join_length_le Str.empty ys;have e:Txt.join Str.empty ys=Str.join Str.empty ys:=StrLaws.glued_eq_join _ _;rw[e];have z:Str.empty.length=0:=rfl;rw[z,Nat.mul_zero,Nat.add_zero]at h;exact h
end TX
namespace L2.Z
open PySem PySem.Spec PyProof.Rows L2 L2.C SI
def run_eq{Z}{Γ}{d}{ds}(h:ds.length=d.lent.length):(AA Z Γ d).run ds=TX.ans Z Γ d ds:=if_pos h
def aw{prog}{Γ}{k}{x}{d}{P}(h:prog.lookup x=some d)(hP:P (AA (den prog Γ k) Γ d).run):TX.Has (den prog Γ (k+1)) x d.lent P:=
 ⟨_,by show (prog.lookup x).map _=_;rw[h];rfl,hP⟩
def walk{l:PySem.W.OpenLaw}{XP:(Str->Option Value)->Heap->Prop}{YP:World->Heap->Prop}{d:DefRec}{K:Params->fg0}(hn:l.most=some 63)(hdf:d.params.defaults=[])
  (hY:∀(w:World)(h:Heap),YP w h->(K w.params).In h)
  (F:∀(w:World)(mg:Str->Option Value)(fa:Addr)(h:Heap),(K w.params).In h->h.Ns mainGlobals mg->mg d.name=some (.ref fa)->
   ∃fd:FuncData,(∀(s:Shared)(u:Value),BindsTo s fd ⟨[u],[]⟩ [("_law_script",u)])/\∀base:Heap,(K w.params).In base->base.Ns mainGlobals mg->FnOk l.prog w (K w.params) mg base CX0 40 fa fd ["_law_script"] (rq (K w.params))):
  PySem.W.WalkO q loose XP YP l.row.toRowW d [] (λf vs=>PySem.call f vs):=
 L2.qI (n:=63) (k:=40) (x:="_law_script") (CX:=λb=>CX0) (sp:=λw=>rq (K w.params)) hn (by decide) hdf ⟨rfl,by decide,by decide⟩ hY F (λb b a ns hl b hS=>⟨a,ns,rfl,hS,hl,λb=>rfl⟩) λb b b b b z=>z
def Ii(Q:Str->Prop):List Str->Prop
 |[]=>True
 |x::r=>Q x/\Ii Q r
theorem rL{Q}:∀{xs:List Str},Ii Q xs->∀x∈xs,Q x
 |[],_,x,h=>by cases h
 |y::r,hq,x,h=>(mq0 h).elim (λe=>e▸hq.1) (rL hq.2 x)
def Ij(Q:Str->D->Prop):List (Str×D)->Prop
 |[]=>True
 |p::r=>Q p.1 p.2/\Ij Q r
theorem rM{Q}:∀{prog:List (Str×D)},Ij Q prog->∀x d,prog.lookup x=some d->Q x d
 |[],_,x,d,h=>by cases h
 |(y,e)::r,hq,x,d,h=>by
  rw[lk0]at h;cases hxy:x==y with
  |true=>
   rw[hxy]at h;have:=eq_of_beq hxy;subst this;cases h;exact hq.1
  |false=>rw[hxy]at h;exact rM hq.2 x d h
def Ik{P:List Value->Prop}(h:∀a,P [a])(us)(e:us.length=1):P us:=by
 obtain⟨a,rfl⟩:=List.length_eq_one_iff.mp e;exact h a
def Il{P:List Value->Prop}(h:∀a b,P [a,b])(us)(e:us.length=2):P us:=by
 cases us with|nil=>cases e|cons a r=>exact Ik (P:=λr=>P (a::r)) (h a) r (Nat.succ.inj e)
def Lj{P:List Value->Prop}(h:∀a b c,P [a,b,c])(us)(e:us.length=3):P us:=by
 cases us with|nil=>cases e|cons a r=>exact Il (P:=λr=>P (a::r)) (h a) r (Nat.succ.inj e)
def Lk{P:List Value->Prop}(h:∀a b c d,P [a,b,c,d]):∀us,us.length=4->P us
 |[a,b,c,d],_=>h a b c d
def walkX{XP:(Str->Option Value)->Heap->Prop}{K:Params->fg0}{ads:List Addr}{t:Nat}{r:PySem.W.RowW}{d:DefRec}{kwd:List (Str×Expr)}{run:Value->List Value->Sem Value}
  (e:∀P:Params,ads=(K P).map (·.1)) (h:PySem.W.WalkO q loose XP (λw h=>(K w.params).In h) r d kwd run):PySem.W.WalkX q loose XP (PySem.W.X.obsZ ads) (PySem.W.X.valZ K n t) r d kwd run:=
 λw s₀ s₁ mg mb G y a o pm cd doc dV kV ho hd hcd hD hmg hg args vals as L hpre hlay hrd hwl hlo=>
  h w s₀ s₁ mg mb G (λb o e'=>L.keeps b o ((PySem.W.X.z_facts e y).2.1 b o e')) a o pm cd doc dV kV ho hd hcd hD hmg hg args vals as hpre hlay hrd hwl hlo
end L2.Z
set_option maxRecDepth 10000
namespace TX
open PySem SI L2.Z
noncomputable def bu:Def:=⟨[true],1,(.B (.ifs (.or (.chain .le .le (.k (.str ⟨#[97]⟩)) (.v 0) (.k (.str ⟨#[122]⟩))) (.or (.chain .le .le (.k (.str ⟨#[65]⟩)) (.v 0) (.k (.str ⟨#[90]⟩))) (.chain .le .le (.k (.str ⟨#[48]⟩)) (.v 0) (.k (.str ⟨#[57]⟩))))) (.A (.ret (.k (.bool true)))) .nil) (.ret (.cmp .isin (.v 0) (.k (.str ⟨#[46,95,45]⟩)))))⟩
noncomputable def eM:Def:=⟨[true],1,(.cons (.ifs (.not (.chain .le .le (.k (.int 1)) (.bi .len (.A (.v 0))) (.g "LONGEST_NAME"))) (.A (.ret (.k (.bool false)))) .nil) (.B (.ifs (.or (.cmp .eq (.v 0) (.k (.str ⟨#[46]⟩))) (.cmp .eq (.v 0) (.k (.str ⟨#[46,46]⟩)))) (.A (.ret (.k (.bool false)))) .nil) (.ret (.bi .all (.A (.comp 1 [] (.one 0) (.seq (.v 0)) .nil (.call "is_name_sign" (.A (.v 0)))))))))⟩
noncomputable def bX:Def:=⟨[true],1,(.A (.ret (.bi .all (.A (.comp 2 [] (.tup [0,1]) (.zip (.B (.v 0) (.sl (.v 0) (.A (.k (.int 1))) .nil))) .nil (.cmp .lt (.v 0) (.v 1)))))))⟩
noncomputable def bY(cV:Nat):Def:=⟨[true,true],2,(.A (.ret (.bi .list (.A (.vcall cV "content" (.v 0) (.B (.v 1) (.k (.str ⟨#[116,114,101,101]⟩))))))))⟩
noncomputable def gb(cV:Nat):Def:=⟨[true,true],2,(.A (.ret (.idx (.vcall cV "held" (.v 0) (.A (.v 1))) (.k (.int 0)))))⟩
noncomputable def gc(cV:Nat):Def:=⟨[true,true],2,(.B (.ifs (.not (.chain .le .lt (.k (.int 0)) (.v 1) (.bi .len (.A (.vob cV (.v 0)))))) (.A .stuck) .nil) (.ret (.idx (.vob cV (.v 0)) (.v 1))))⟩
noncomputable def cJ(cV:Nat):Def:=⟨[true,true,true],4,(.cons (.set 3 (.vcall cV "held" (.v 0) (.A (.v 1)))) (.B (.ifs (.cmp .ne (.idx (.v 3) (.k (.int 0))) (.v 2)) (.A .stuck) .nil) (.ret (.idx (.v 3) (.k (.int 1))))))⟩
noncomputable def lO:bf:=⟨[false,false],2,(.A (.ret (.meth "put" 0 (.G (.p (.tup (.B (.k (.str ⟨#[98,108,111,98]⟩)) (.v 1))))))))⟩
noncomputable def aG(cBT:Nat):bf:=⟨[false],2,(.B (.fors (.one 1) (.seq (.v 0)) (.A (.ifs (.not (.call "is_name" (.A (.v 1)))) (.A (.raise cBT (.G (.p (.k (.str ⟨#[97,110,32,101,110,116,114,121,39,115,32,110,97,109,101,32,105,115,32,110,111,110,101]⟩)))))) .nil))) (.ifs (.not (.call "names_rise" (.A (.v 0)))) (.A (.raise cBT (.G (.p (.k (.str ⟨#[116,104,101,32,110,97,109,101,115,32,100,111,110,39,116,32,114,105,115,101]⟩)))))) .nil))⟩
end TX
namespace TX
open PySem SI M1 L2.Z
noncomputable def signs65:List Nat:=[97,98,99,100,101,102,103,104,105,106,107,108,109,110,111,112,113,114,115,116,117,118,119,120,121,122,65,66,67,68,69,70,71,72,73,74,75,76,77,78,79,80,81,82,83,84,85,86,87,88,89,90,48,49,50,51,52,53,54,55,56,57,46,95,45]
def bT(c:Nat):Bool:=decide (c∈signs65)
def Bg(c:Nat)(y:Str):hasSub ⟨#[c]⟩ y=decide (c∈y.cps.toList):=PySem.StrLaws.found_one y c
def Fz(a b:Nat):decide ([a]<[b])=decide (a<b):=by
 by_cases h:a<b
 .rw[dt0 h,dt0]
  exact List.Lex.rel h
 .rw[df0 h,df0]
  intro z;cases z with
  |rel h'=>exact h h'
  |cons h'=>cases h'
def uq(c:Nat):bT c=((!decide (c<97)&&!decide (122<c))||((!decide (c<65)&&!decide (90<c))||(!decide (c<48)&&!decide (57<c)))||decide (c∈[46,95,45])):=by
 by_cases h:c<128
 .have key:∀c<128,bT c=((!decide (c<97)&&!decide (122<c))||((!decide (c<65)&&!decide (90<c))||(!decide (c<48)&&!decide (57<c)))||decide (c∈[46,95,45])):=by decide
  exact key c h
 .have h1:bT c=false:=by
   unfold bT;refine df0 λz=>h ?_
   have:∀c∈signs65,c<128:=by decide
   exact this c z
  have h2:decide (c∈[46,95,45])=false:=df0 (by simp;omega);rw[h1,h2,dt0 (by omega:122<c),dt0 (show 90<c by omega),dt0 (by omega:57<c)];simp
abbrev rN(Z:Fs):Prop:=Has Z "is_name_sign" [true] λrun=>∀c,run [.str ⟨#[c]⟩]=some (.bool (bT c))
def dot:Str:=⟨#[46]⟩
def FA:Str:=⟨#[46,46]⟩
noncomputable def au(x:Str):Bool:=decide (1<=x.length)&&decide (x.length<=12)&&!decide (x=dot)&&!decide (x=FA)&&x.cps.toList.all bT
abbrev lP(Z:Fs):Prop:=Has Z "is_name" [true] λrun=>∀x:Str,x.length<=1000->run [.str x]=some (.bool (au x))
noncomputable def nY:List Str->Bool
 |a::b::r=>decide (a.cps.toList<b.cps.toList)&&nY (b::r)
 |_=>true
variable {Ψ:FsM}
def fx(Ψ:FsM)(f:Str)(fl:List Bool)(P:(Ust->List D->Option (Ust×R))->Prop):Prop:=∃run,Ψ f=some ⟨fl,run⟩/\P run
@[simp] def FC{h}{os}:iP c (.vlt c h os)=true:=by simp[iP]
@[simp] def Im{h}{os}:zz (.vlt c h os)=os:=rfl
@[simp] def Io{o}:roM .read o=o:=rfl
@[simp] def Ip{o}:roM .test o=o:=rfl
@[simp] def Ll{os}:vE c [os] (.dat (.hdl 0))=.lent (.vlt c 0 os):=rfl
@[simp] def Lm{U:Ust}{x}:vE c U (.dat (.str x))=.dat (.str x):=rfl
@[simp] def Ln{U:Ust}{x}:vE c U (.dat (.int x))=.dat (.int x):=rfl
@[simp] def JN{U:Ust}{x}:vE c U (.dat (.bool x))=.dat (.bool x):=rfl
@[simp] def JO{U:Ust}{x}:vE c U (.dat (.list x))=.dat (.list x):=rfl
@[simp] def JP{U:Ust}:vE c U (.dat .none)=.dat .none:=rfl
@[simp] def Lo{U:Ust}{x}:vE c U (.dat (.exc x))=.dat (.exc x):=rfl
@[simp] def MG{U:Ust}:vE c U .no=.no:=rfl
@[simp] def JQ{U:Ust}{d}:vE c U (.lent d)=.lent d:=rfl
noncomputable abbrev dF:Str:=⟨#[98,108,111,98]⟩
noncomputable abbrev bx:Str:=⟨#[116,114,101,101]⟩
noncomputable abbrev bZ:Str:=⟨#[99,111,109,109,105,116]⟩
abbrev xT(Z:Fs)(c:Nat):Prop:=Has Z (ah "held") [true,true] λrun=>∀(h:Nat)(os:List D)(n:Nat)(d:D),os[n]?=some d->run [.vlt c h os,.int n]=some d
abbrev xU(Z:Fs)(c:Nat):Prop:=Has Z (ah "kind") [true,true] λrun=>∀(h:Nat)(os:List D)(n:Nat)(k:Str)(ds:List D),os[n]?=some (.tuple (.str k::ds))->run [.vlt c h os,.int n]=some (.str k)
abbrev jA(Z:Fs)(c:Nat):Prop:=Has Z (ah "content") [true,true,true] λrun=>∀(h:Nat)(os:List D)(n:Nat)(k:Str)(d:D),os[n]?=some (.tuple [.str k,d])->run [.vlt c h os,.int n,.str k]=some d
abbrev jB(Z:Fs)(c:Nat):Prop:=Has Z "entries_of" [true,true] λrun=>∀(h:Nat)(os:List D)(n:Nat)(es:List D),os[n]?=some (.tuple [.str bx,.tuple es])->run [.vlt c h os,.int n]=some (.list es)
def xV(h:Nat)(os:List D)(n:Nat)(d:D)(hd:os[n]?=some d):ans Z Γ (gc c) [.vlt c h os,.int n]=some d:=by
 have hn:=(gi0 hd).1;have e:atI os (n:Int)=some d:=by rw[bK (by omega) (by omega)];simpa using hd
 have l1:(0:Int)<=(n:Int):=by omega
 have l2:(n:Int)<(os.length:Int):=by omega
 simp[ans,gc,e,l1,hn]
def xX(hh:xT Z c)(h:Nat)(os:List D)(n:Nat)(k:Str)(ds)(hd:os[n]?=some (.tuple (.str k::ds))):ans Z Γ (gb c) [.vlt c h os,.int n]=some (.str k):=by
 obtain⟨r1,e1,h1⟩:=hh;have q:=h1 h os n _ hd;have e:atI (D.str k::ds) 0=some (.str k):=by rw[bK (by omega) (by simp)];rfl
 simp[ans,gb,e1,q,e]
def nZ(hh:xT Z c)(h:Nat)(os:List D)(n:Nat)(k:Str)(d:D)(hd:os[n]?=some (.tuple [.str k,d])):ans Z Γ (cJ c) [.vlt c h os,.int n,.str k]=some d:=by
 obtain⟨r1,e1,h1⟩:=hh;have q:=h1 h os n _ hd;have e:atI [D.str k,d] 0=some (.str k):=rfl;have e':atI [D.str k,d] 1=some d:=rfl;simp[ans,cJ,e1,q,e,e']
def oa(hc:jA Z c)(h:Nat)(os:List D)(n:Nat)(es)(hd:os[n]?=some (.tuple [.str bx,.tuple es])):ans Z Γ (bY c) [.vlt c h os,.int n]=some (.list es):=by
 obtain⟨r1,e1,h1⟩:=hc;have q:=h1 h os n bx _ hd;simp[ans,bY,e1,q]
noncomputable def dC(Z:Fs)(Ψ:FsM)(Γ:List (Str×D))(c:Nat)(d:bf)(U:Ust)(ds:List D):Option (Ust×R):=(aV Z Ψ Γ c (startM d ds) U d.body).map λq=>(q.2,nR q.1)
abbrev Bh(Ψ:FsM):Prop:=Ψ (ah "put")=some jy
variable {Ψ:FsM}{cNO cBT:Nat}
def kP(es:List Str):Bool:=es.all au&&nY es
end TX
set_option maxRecDepth 10000
namespace TX
open PySem SI L2.Z
noncomputable def eN(cV:Nat):Def:=⟨[true,true],2,(.A (.ret (.vcall cV "content" (.v 0) (.B (.v 1) (.k (.str ⟨#[98,108,111,98]⟩))))))⟩
noncomputable def gf:Def:=⟨[true,true],5,(.cons (.set 2 (.call "_law_mix" (.B (.v 0) (.v 1)))) (.cons (.ifs (.cmp .gt (.op .mod (.v 2) (.k (.int 3))) (.k (.int 0))) (.A (.ret (.idx (.lst (.cons (.k (.str ⟨#[97]⟩)) (.cons (.k (.str ⟨#[98]⟩)) (.cons (.k (.str ⟨#[97,98]⟩)) (.cons (.k (.str ⟨#[97,46,98]⟩)) (.cons (.k (.str ⟨#[66]⟩)) (.cons (.k (.str ⟨#[48]⟩)) (.B (.k (.str ⟨#[97,45]⟩)) (.k (.str ⟨#[95]⟩)))))))))) (.op .mod (.op .fdiv (.v 2) (.k (.int 3))) (.k (.int 8)))))) .nil) (.cons (.set 3 (.k (.str ⟨#[97,98,99,100,101,102,103,104,105,106,107,108,109,110,111,112,113,114,115,116,117,118,119,120,121,122,65,66,67,68,69,70,71,72,73,74,75,76,77,78,79,80,81,82,83,84,85,86,87,88,89,90,48,49,50,51,52,53,54,55,56,57,46,95,45]⟩))) (.B (.set 4 (.me .join (.k (.str ⟨#[]⟩)) (.A (.comp 1 [1,0,3] (.one 0) (.rng (.op .add (.k (.int 1)) (.op .mod (.op .fdiv (.v 2) (.k (.int 3))) (.k (.int 12))))) .nil (.idx (.v 3) (.op .mod (.op .fdiv (.call "_law_mix" (.B (.v 2) (.op .add (.v 1) (.op .mul (.k (.int 7)) (.v 0))))) (.k (.int 5))) (.k (.int 65)))))))) (.ret (.op .add (.v 4) (.op .mul (.k (.str ⟨#[97]⟩)) (.bi .int (.A (.cmp .isin (.v 4) (.tup (.B (.k (.str ⟨#[46]⟩)) (.k (.str ⟨#[46,46]⟩))))))))))))))⟩
noncomputable def cm(cV:Nat)(cNO:Nat):bf:=⟨[false,false],2,(.B (.ifs (.not (.chain .le .lt (.k (.int 0)) (.v 1) (.bi .len (.A (.vob cV (.v 0)))))) (.A (.raise cNO (.G (.p (.k (.str ⟨#[110,111,32,111,98,106,101,99,116,32,104,97,115,32,116,104,105,115,32,110,117,109,98,101,114]⟩)))))) .nil) (.ret (.p (.idx (.vob cV (.v 0)) (.v 1)))))⟩
noncomputable def cb(cNO:Nat):bf:=⟨[false,false,false],4,(.cons (.set 3 (.meth "held" 0 (.W 1))) (.B (.ifs (.cmp .ne (.idx (.v 3) (.k (.int 0))) (.v 2)) (.A (.raise cNO (.G (.p (.bi .fst (.B (.k (.str ⟨#[116,104,101,32,111,98,106,101,99,116,32,119,105,116,104,32,116,104,105,115,32,110,117,109,98,101,114,32,105,115,32,110,111,32]⟩)) (.v 2))))))) .nil) (.ret (.p (.idx (.v 3) (.k (.int 1)))))))⟩
end TX
namespace TX
open PySem SI M1
abbrev Iq(o:Option D):Prop:=∃t:Str,o=some (.str t)/\au t=true
abbrev xY(Z:Fs):Prop:=Has Z "_law_name" [true,true] λrun=>∀ns k,Iq (run [.scr ns,.int k])
def eO{t}(h:au t=true):1<=t.length/\t.length<=12:=by
 unfold au at h;simp only[be0,decide_eq_true_eq]at h;exact⟨h.1.1.1.1,h.1.1.1.2⟩
noncomputable def sgn7(ns:List Int)(b:Int)(k:Nat):Nat:=(signs65[(mixF ns (b+7*(k:Int)) / 5 % 65).toNat]?).getD 0
def Bi(ns:List Int)(b:Int)(k:Nat):bT (sgn7 ns b k)=true:=by
 have q1:=en0 (mixF ns (b+7*(k:Int)) / 5) (b:=65) (by decide);have q2:=el0 (mixF ns (b+7*(k:Int)) / 5) (b:=65) (by decide);have hl:(mixF ns (b+7*(k:Int)) / 5 % 65).toNat<signs65.length:=by show _<65;omega
 unfold sgn7 bT;rw[ge0 hl];exact dt0 (List.getElem_mem hl)
def join_one(l:List Nat):Txt.join Str.empty (l.map λc=>(⟨#[c]⟩:Str))=⟨l.toArray⟩:=by
 apply eG
 rw[qg,List.map_map];show _=l
 induction l with
 |nil=>rfl
 |cons c r ih=>rw[mk0,List.flatten_cons,ih];rfl
def xZ(ts:List Str)(h:ts.length<64):biD .srt [.list (ts.map .str)]=some (.list ((srtS ts).map .str)):=by
 show (strsOf (ts.map .str)).bind _=_;rw[bF,bs0,if_pos h]
end TX
namespace TX
open PySem SI M1 L2.Z
variable {Ψ:FsM}{cNO cBT cNP:Nat}
variable {Ψ:FsM}{cNO cBT cNP:Nat}
def Lp(y:Str):y++Str.empty=y:=M1.ext (by rw[M1.toL_append];exact List.append_nil _)
def FD(x y:Str):(x++y).length=x.length+y.length:=by show (x.cps++y.cps).size=_;rw[Array.size_append];rfl
def Bj{x y}(h:x.length+y.length<=big):biD .fst [.str x,.str y]=some (.str (x++y)):=by
 show (if (x++(y++Str.empty)).length<=big then some (D.str (x++(y++Str.empty)))else none)=_;rw[Lp,FD,if_pos h]
end TX
namespace TX
open PySem SI M1
end TX
namespace L2.Z
open PySem PySem.Spec PyProof.Rows L2 L2.C SI
def aH{Z}{Ψ}{Γ}{c}{d}{U:Ust}{ds}(h:ds.length=d.lent.length):(runM Z Ψ Γ c d).run U ds=TX.dC Z Ψ Γ c d U ds:=if_pos h
def aL{Ψ0:FsM}{prog:List (Str×Def)}{progM:List (Str×bf)}{k:Nat}{d:bf}{P:(Ust->List D->Option (Ust×R))->Prop}(h0:Ψ0 x=.none)(h:progM.lookup x=some d)(hP:P (runM (den prog Γ k) (ju Ψ0 prog progM Γ c k) Γ c d).run):
  TX.fx (ju Ψ0 prog progM Γ c (k+1)) x d.lent P:=
 ⟨_,by show (match Ψ0 x with|some J=>some J|.none=>(progM.lookup x).map (runM (den prog Γ k) (ju Ψ0 prog progM Γ c k) Γ c))=_;rw[h0,h];rfl,hP⟩
def ur:FsM:=λf=>if f=ah "put" then some jy else .none
def og:ur (ah "put")=some jy:=if_pos rfl
def rO{prog:List (Str×Def)}{progM:List (Str×bf)}(k:Nat):TX.Bh (ju ur prog progM Γ c k):=by
 unfold TX.Bh;cases k with
 |zero=>exact og
 |succ k=>rw[ju,og]
set_option tactic.hygienic true in
def Bk{m:Str}{J:FnM}(h:ur (ah m)=some J):ah m=ah "put"/\J=jy:=by
 unfold ur at h;split at h
 .rename_i e;cases h;exact⟨e,rfl⟩
 .cases h
def bH{a b:Str}(h:ah a=ah b):a=b:=by
 unfold ah at h;have e:=congrArg (λs:Str=>s.cps.toList) h;simp only[M1.toL_append]at e;exact M1.ext (List.append_cancel_left e)
def walkM{l:PySem.W.OpenLaw}{XP:(Str->Option Value)->Heap->Prop}{YP:World->Heap->Prop}{d:DefRec}{K:Params->fg0}(hn:l.most=some 63)(hdf:d.params.defaults=[])
  (hY:∀(w:World)(h:Heap),YP w h->(K w.params).In h)
  (F:∀(w:World)(mg:Str->Option Value)(fa:Addr)(h:Heap),(K w.params).In h->h.Ns mainGlobals mg->mg d.name=some (.ref fa)->
   ∃fd:FuncData,(∀(s:Shared)(u:Value),BindsTo s fd ⟨[u],[]⟩ [("_law_script",u)])/\∀base:Heap,(K w.params).In base->base.Ns mainGlobals mg->FnOk l.prog w (K w.params) mg base CX0 40 fa fd ["_law_script"] (lL (K w.params))):
  PySem.W.WalkO q loose XP YP l.row.toRowW d [] (λf vs=>PySem.call f vs):=
 L2.qI (n:=63) (k:=40) (x:="_law_script") (CX:=λc=>CX0) (sp:=λw=>lL (K w.params)) hn (by decide) hdf ⟨rfl,by decide,by decide⟩ hY F (λc c a ns hl hO hS=>⟨⟨a,ns,rfl,hS,hl,λc=>rfl⟩,λb C dx fs e=>by
  rcases hO b with z|⟨o,xs,z⟩
  .rw[z]at e;cases e
  .rw[z]at e;cases e⟩) λc c c c c z=>z
def Bl{a b:Nat}{x y t:Bool}{e:Nat}(h:List.lookup e [(a,x),(b,y)]=some t):(e=a/\t=x)\/(e=b/\t=y):=by
 rw[lk0]at h;cases q:e==a with
 |true=>rw[q]at h;cases h;exact .inl ⟨eq_of_beq q,rfl⟩
 |false=>
  rw[q]at h;dsimp only at h;rw[lk0]at h;cases q2:e==b with
  |true=>rw[q2]at h;cases h;exact .inr ⟨eq_of_beq q2,rfl⟩
  |false=>rw[q2]at h;cases h
def jC{K:Fg}(c:Addr):PySem.W.kitOne K (.ref c) (.ref c)=some true:=by
 unfold PySem.W.kitOne;rw[if_pos (by simp)]
noncomputable def Ir{α:Type}(Q:Str->α->Prop):List (Str×α)->Prop
 |[]=>True
 |p::r=>Q p.1 p.2/\Ir Q r
theorem bL{Q:Str->α->Prop}:∀{prog:List (Str×α)},Ir Q prog->∀x d,prog.lookup x=some d->Q x d
 |[],_,x,d,h=>by cases h
 |(y,e)::r,hq,x,d,h=>by
  rw[lk0]at h;cases hxy:x==y with
  |true=>
   rw[hxy]at h;have:=eq_of_beq hxy;subst this;cases h;exact hq.1
  |false=>rw[hxy]at h;exact bL hq.2 x d h
def Iu(h:(vms.all λm=>!(x==ah m))=true){m:Str}(e:x=ah m)(hm:vms.contains m=true):False:=by
 have:=List.all_eq_true.mp h m (List.contains_iff_mem.mp hm);rw[e]at this;simp at this
end L2.Z
set_option maxRecDepth 10000
namespace TX
open PySem SI L2.Z
noncomputable def ax:bf:=⟨[false,false],2,(.A (.expr (.meth "content" 0 (.va 1 (.G (.p (.k (.str ⟨#[116,114,101,101]⟩))))))))⟩
def eP:bf:=⟨[false,false],2,(.A (.ret (.ix0 (.meth "held" 0 (.W 1)))))⟩
end TX
namespace SI
open PySem
section
variable {x0 y:α}{l:List α}
@[simp ↓ high] def gt0:(x0::l)[0]?=some x0:=rfl
@[simp ↓ high] def gtS :(x0::l)[n+1]?=l[n]?:=rfl
@[simp ↓ high] def st0:(x0::l).set 0 y=y::l:=rfl
@[simp ↓ high] def stS :(x0::l).set (n+1) y=x0::l.set n y:=rfl
end
def fzM(Y:List Sl):List Sl:=Y.map freeze
@[simp ↓ high] def fz_g{Y}{i:Nat}:(fzM Y)[i]?=Y[i]?.map freeze:=gm0
section
variable {s:S}{r a b:Ss}{d:D}{m:Md}{t:Bool}{e:E}
noncomputable def nxS(Z:Fs)(Γ:List (Str×D))(o:Option Out)(r:Ss):Option Out:=o.bind λo=>o.andThen λY'=>exs Z Γ Y' r
noncomputable def ifS(Z:Fs)(Γ:List (Str×D))(o:Option D)(Y:List Sl)(a b:Ss):Option Out:=o.bind λd=>(asB d).bind λt=>if t then exs Z Γ Y a else exs Z Γ Y b
noncomputable def qh(Z:Fs)(Γ:List (Str×D))(tg:Tg)(body:Ss)(ds:List D)(Y:List Sl):Option Out:=forL (ar tg) (λY'=>exs Z Γ Y' body) ds Y
noncomputable def cpF(Z:Fs)(Γ:List (Str×D))(Y:List Sl)(nt:Nat)(js:List Nat)(tg:Tg)(ifs:Es)(elt:E)(d:D):Option (Option D):=(ar tg d (blk nt js Y)).bind λY'=>(evC Z Γ Y' ifs).bind λt=>if t then (ev Z Γ .val Y' elt).map some else some none
@[simp ↓ high] def exs_c:exs Z Γ Y (.cons s r)=nxS Z Γ (ex Z Γ Y s) r:=(rfl)
@[simp] def Nb:nxS Z Γ (some (.nx Y)) r=exs Z Γ Y r:=(rfl)
@[simp] def Nc:nxS Z Γ (some (.rt d)) r=some (.rt d):=(rfl)
@[simp ↓ high] def ex_if{c}:ex Z Γ Y (.ifs c a b)=ifS Z Γ (ev Z Γ .test Y c) Y a b:=(rfl)
@[simp] def Nf:ifS Z Γ (some (.bool t)) Y a b=if t then exs Z Γ Y a else exs Z Γ Y b:=(rfl)
@[simp ↓ high] def ex_ret:ex Z Γ Y (.ret e)=(ev Z Γ .val (fzM Y) e).map .rt:=(rfl)
@[simp ↓ high] def ex_for{tg:Tg}{src}:ex Z Γ Y (.fors tg src r)=(evI Z Γ .walk Y src).bind λds=>qh Z Γ tg r ds Y:=(rfl)
@[simp ↓ high] def ev_cp{nt}{js}{tg:Tg}{src}{ifs}:ev Z Γ m Y (.comp nt js tg src ifs e)=fin m ((evI Z Γ .read Y src).bind λds=>if ds.length<=big then (aM (cpF Z Γ Y nt js tg ifs e) ds).map .list else none):=(rfl)
noncomputable def uu(o:Option D):Option (List D):=o.bind λd=>(asI d).bind λn=>if rOk n then some ((List.range n.toNat).map λ(k:Nat)=>.int k)else none
@[simp ↓ high] def evI_r:evI Z Γ m Y (.rng e)=uu (ev Z Γ .val Y e):=(rfl)
def uv{n}(h1:-1000000<=n)(h2:n<=1000000):uu (some (.int n))=some ((List.range n.toNat).map λ(k:Nat)=>.int k):=by
 show (if rOk n then _ else _)=_;rw[if_pos (Dk h1 h2)]
def Lq(h:n<=1000000):uu (some (.int n))=some ((List.range n).map λ(k:Nat)=>.int k):=uv (by omega) (by omega)
def FE(o:Option D):Option (List D):=o.bind λd=>uu (biD .len [d])
@[simp ↓ 20000] def evI_rl:evI Z Γ m Y (.rng (.bi .len (.cons e .nil)))=FE (ev Z Γ .read Y e):=by
 show uu (((ev Z Γ .read Y e).bind λx=>some [x]).bind λds=>biD .len ds)=_;cases h:ev Z Γ .read Y e<;>rfl
def Iv{ds:List D}(h:ds.length<=1000000):FE (some (.list ds))=some ((List.range ds.length).map λ(k:Nat)=>.int k):=by rw[FE,bs0,len_list,(show uu (some (.int ds.length))=some ((List.range ds.length).map λ(k:Nat)=>.int k)from uv (by omega) (by omega))]
theorem Cg{inj}{tg:Tg}{F:α->List Sl}(J:Nat->α->Prop){P:Option Out->Prop}(k:∀s,J 0 s->P (some (.nx (F s)))):∀{xs:List β}{s} (h:∀x∈xs,∀n s,J (n+1) s->∃s',J n s'/\(ar tg (inj x) (F s)).bind (λY=>exs Z Γ Y r)=some (.nx (F s'))),J xs.length s->P (qh Z Γ tg r (xs.map inj) (F s))
 |[],s,_,j=>k s j
 |x::xs,s,h,j=>by
  obtain⟨s',j',e⟩:=h x ms0 _ s j;obtain⟨Y',e1,e2⟩:=bx0 e;show P ((ar tg (inj x) (F s)).bind λY'=>(exs Z Γ Y' r).bind _);rw[e1,bs0,e2];exact Cg J k (λy hy=>h y (mc0 _ hy)) j'
def Iw{tab}:Dl tab (.exc n)=tab.lookup n:=(rfl)
@[simp] theorem Bm{p:α->Bool}:∀{xs:List α},boolsOf (xs.map λx=>.bool (p x))=some (xs.map p)
 |[]=>rfl
 |x::xs=>by rw[mk0,boolsOf,Bm];rfl
def dY{nt}{js}{tg:Tg}{ifs}:cpF Z Γ Y nt js tg ifs e d=(ar tg d (blk nt js Y)).bind λY'=>(evC Z Γ Y' ifs).bind λt=>if t then (ev Z Γ .val Y' e).map some else some none:=(rfl)
def ya(o p:Option D):Option D:=o.bind λx=>p.bind λy=>opD .mul x y
@[simp ↓ high] def ev_m{a b}:ev Z Γ m Y (.op .mul a b)=fin m (ya (ev Z Γ .read Y a) (ev Z Γ .read Y b)):=(rfl)
def mulL{i j}(h1:-(2 ^ 64)<i)(h2:i<2 ^ 64):ya (some (.int i)) (some (.int j))=some (.int (i*j)):=by
 rw[ya,bs0,bs0,qL,TX.xP _ _ h1 h2,if_pos rfl]
@[simp] def orP{P}[Decidable P]:(if P then some (D.bool true)else some (D.bool t))=some (.bool (decide P||t)):=by by_cases h:P<;>simp[h]
@[simp] def Ng{P}[Decidable P]:(if P then some (D.bool t)else some (D.bool false))=some (.bool (decide P&&t)):=by by_cases h:P<;>simp[h]
def qi(o:Option Out):Option D:=o.bind Out.val
@[simp] def Lr:qi (some (.rt d))=some d:=rfl
@[simp] def Ls:qi (some (.nx Y))=some .none:=rfl
def yb{xs:List α}{x:α}(h:xs[n]?=some x):atI xs (n:Int)=some x:=by
 have:=(gi0 h).1;rw[TX.bK (by omega) (by omega)];exact h
section
variable {x y z u v:α}{l:List α}
@[simp] def MH:atI (x::l) 0=some x:=yb (n:=0) rfl
@[simp] def MI:atI (x::y::l) 1=some y:=yb (n:=1) rfl
end
end
end SI
namespace TX
open SI L2.Z PySem
def ans_e{fl}{b}{ds:List D}:ans Z Γ ⟨fl,n,b⟩ ds=qi (exs Z Γ (cw ⟨fl,n,b⟩ ds) b):=(rfl)
def uw(o:Option (OM×Ust)):Option (Ust×R):=o.map λq=>(q.2,nR q.1)
@[simp] def Lu{o}{U}:uw (some (o,U))=some (U,nR o):=(rfl)
def aO{Ψ}{c n}{fl}{b}{U}{ds:List D}:dC Z Ψ Γ c ⟨fl,n,b⟩ U ds=uw (aV Z Ψ Γ c (startM ⟨fl,n,b⟩ ds) U b):=(rfl)
end TX
namespace L2.Z
open PySem SI
section
variable {Ψ:FsM}{U U':Ust}{s:SM}{r a b:SMs}{d:D}{t:Bool}{x:Nat}{e:M}
noncomputable def nxM(Z:Fs)(Ψ:FsM)(Γ:List (Str×D))(c:Nat)(o:Option (OM×Ust))(r:SMs):Option (OM×Ust):=o.bind λq=>q.1.andThen (λY'=>aV Z Ψ Γ c Y' q.2 r) q.2
noncomputable def ifM(Z:Fs)(Ψ:FsM)(Γ:List (Str×D))(c:Nat)(o:Option D)(Y:List Sl)(U:Ust)(a b:SMs):Option (OM×Ust):=o.bind λd=>(asB d).bind λt=>if t then aV Z Ψ Γ c Y U a else aV Z Ψ Γ c Y U b
noncomputable def kQ(Z:Fs)(Ψ:FsM)(Γ:List (Str×D))(c:Nat)(tg:Tg)(body:SMs)(ds:List D)(Y:List Sl)(U:Ust):Option (OM×Ust):=forM (ar tg) (λY' U'=>aV Z Ψ Γ c Y' U' body) ds Y U
def vM(c:Nat)(U:Ust)(Y:List Sl):List Sl:=Y.map (vE c U)
@[simp ↓ high] def vM_g{i:Nat}:(vM c U Y)[i]?=Y[i]?.map (vE c U):=gm0
@[simp ↓ high] def evM_p{q}:evM Z Ψ Γ c Y U (.p q)=(ev Z Γ .val (vM c U Y) q).map λd=>(.ok d,U):=(rfl)
@[simp ↓ high] def exM_ret:exM Z Ψ Γ c Y U (.ret e)=(evM Z Ψ Γ c (fzM Y) U e).map λz=>(um .rt (fzM Y) z.1,z.2):=(rfl)
@[simp ↓ high] def exMs_c:aV Z Ψ Γ c Y U (.cons s r)=nxM Z Ψ Γ c (exM Z Ψ Γ c Y U s) r:=(rfl)
@[simp] def MJ:nxM Z Ψ Γ c (some (.nx Y,U)) r=aV Z Ψ Γ c Y U r:=(rfl)
@[simp] def MK:nxM Z Ψ Γ c (some (.rt d,U)) r=some (.rt d,U):=(rfl)
@[simp] def ML:nxM Z Ψ Γ c (some (.exc x Y,U)) r=some (.exc x Y,U):=(rfl)
@[simp ↓ high] def exM_if{q}:exM Z Ψ Γ c Y U (.ifs q a b)=ifM Z Ψ Γ c (ev Z Γ .test (vM c U Y) q) Y U a b:=(rfl)
@[simp] def MM:ifM Z Ψ Γ c (some (.bool t)) Y U a b=if t then aV Z Ψ Γ c Y U a else aV Z Ψ Γ c Y U b:=(rfl)
@[simp ↓ high] def exM_for{tg:Tg}{src}:exM Z Ψ Γ c Y U (.fors tg src r)=(evI Z Γ .walk Y src).bind λds=>kQ Z Ψ Γ c tg r ds Y U:=(rfl)
@[simp] def MN{f}:goR (.ok d,U) f=f d U:=(rfl)
@[simp] def MO{f}:goR (.exc x,U) f=some (.exc x,U):=(rfl)
@[simp] def Lv{f}:um f Y (.ok d)=f d:=rfl
@[simp] def Lw{f}:um f Y (.exc x)=.exc x Y:=rfl
@[simp] def Lx:nR (.nx Y)=.ok .none:=rfl
@[simp] def Ly:nR (.rt d)=.ok d:=rfl
@[simp] def Lz:nR (.exc x Y)=.exc x:=rfl
@[simp] def FG{l}:vE c U (.dat (.tuple l))=.dat (.tuple l):=rfl
@[simp] def MP{h}:rH (some (.dat (.hdl h)))=some h:=rfl
@[simp] def LA:EZ false (some (.dat d))=some d:=rfl
@[simp] def LB{f:Ust->List D->Option (Ust×R)}{ds:List D}:AF f (.ok ds) U=f U ds:=(rfl)
@[simp] def MQ{ds:List D}:hdD (.tuple (d::ds))=some d:=rfl
@[simp] def LC{ds:List D}:HY (.tuple ds)=some ds:=rfl
@[simp] def LD{ds:List D}:HY (.list ds)=some ds:=rfl
@[simp] def MR{tab}{i j}:Fb tab i j U (.nx Y)=some (.nx Y,U):=(rfl)
def Iy{tab}{i j}(h:tab.lookup x=some true):Fb tab i j U (.exc x Y)=some (.nx ((Y.set i (.dat (.exc x))).set j .no),U):=if_pos h
def Bn{tg:Tg}{ds:List D}:kQ Z Ψ Γ c tg r (d::ds) Y U=(ar tg d Y).bind λY'=>(aV Z Ψ Γ c Y' U r).bind λq=>q.1.andThen (λY2=>kQ Z Ψ Γ c tg r ds Y2 q.2) q.2:=(rfl)
@[simp] def Nh{f:List Sl->Option (OM×Ust)}:(OM.nx Y).andThen f U=f Y:=(rfl)
def ux(Y:List Sl):Option Nat->OM
 |none=>.nx Y
 |some x=>.exc x Y
@[simp] def Ni:ux Y none=.nx Y:=rfl
@[simp] def Nj:ux Y (some x)=.exc x Y:=rfl
theorem Cj{inj}{tg:Tg}{F:α->List Sl}{f}:∀{xs:List β}{s} (h:∀x∈xs,∀s,∃s',(ar tg (inj x) (F s)).bind (λY=>aV Z Ψ Γ c Y U r)=some (ux (F s') (f x),U)),∃s',kQ Z Ψ Γ c tg r (xs.map inj) (F s) U=some (ux (F s') (xs.findSome? f),U)
 |[],s,_=>⟨s,rfl⟩
 |x::xs,s,h=>by
  obtain⟨s',e⟩:=h x ms0 s;obtain⟨Y',e1,e2⟩:=bx0 e;show ∃s',((ar tg (inj x) (F s)).bind λY'=>(aV Z Ψ Γ c Y' U r).bind _)=_;rw[e1,bs0,e2,List.findSome?_cons];cases f x with
  |some y=>exact⟨s',rfl⟩
  |none=>exact Cj λy hy=>h y (mc0 _ hy)
def Ck{inj:β->D}{tg:Tg}{F:α->List Sl}(f:β->Option Nat){xs:List β}{s:α}{P:Option (OM×Ust)->Prop}(h:∀x∈xs,∀s,∃s',(ar tg (inj x) (F s)).bind (λY=>aV Z Ψ Γ c Y U r)=some (ux (F s') (f x),U))(k:∀s',P (some (ux (F s') (xs.findSome? f),U))):P (kQ Z Ψ Γ c tg r (xs.map inj) (F s) U):=by
 obtain⟨s',e⟩:=Cj (s:=s) h;rw[e];exact k s'
@[simp] def LF:dW (.dat d)=true:=rfl
@[simp] def LG{ns}:dW (.lent (.scr ns))=true:=rfl
@[simp] def LH:BY (.nx Y) U=if Y.all dW then some (.nx Y,U)else none:=(rfl)
end
end L2.Z
namespace TX
open PySem SI M1 L2.Z
variable {Ψ:FsM}{cNO cBT:Nat}
inductive Th where
 |blob (t:Str)
 |tree (es:List (Str×Int))
 |com (a:Int) (ps:List Int) (tm:Int) (m:Str)
deriving DecidableEq
def aX(p:Str×Int):D:=.tuple [.str p.1,.int p.2]
noncomputable def Th.d:Th->D
 |.blob t=>.tuple [.str dF,.str t]
 |.tree es=>.tuple [.str bx,.list (es.map aX)]
 |.com a ps tm m=>.tuple [.str bZ,.int a,.list (ps.map .int),.int tm,.str m]
def Th.k:Th->Str
 |.blob _=>dF
 |.tree _=>bx
 |.com ..=>bZ
noncomputable def Th.cn:Th->D
 |.blob t=>.str t
 |.tree es=>.tuple (es.map aX)
 |.com a ps tm m=>.tuple [.int a,.tuple (ps.map .int),.int tm,.str m]
def Th.o(t:Th):D:=.tuple [.str t.k,t.cn]
noncomputable def Th.t:Th->D
 |.blob t=>.str t
 |.tree es=>.list (es.map aX)
 |.com a ps tm m=>.tuple [.int a,.list (ps.map .int),.int tm,.str m]
section
variable {m:Str}{es:List (Str×Int)}{a tm:Int}{ps:List Int}
@[simp] def k_b:(Th.blob x).k=dF:=rfl
@[simp] def k_t:(Th.tree es).k=bx:=rfl
@[simp] def k_c:(Th.com a ps tm m).k=bZ:=rfl
@[simp] def c_b:(Th.blob x).cn=.str x:=rfl
@[simp] def c_t:(Th.tree es).cn=.tuple (es.map aX):=rfl
@[simp] def c_c:(Th.com a ps tm m).cn=.tuple [.int a,.tuple (ps.map .int),.int tm,.str m]:=rfl
@[simp] def d_b:(Th.blob x).d=.tuple [.str dF,.str x]:=rfl
@[simp] def d_t:(Th.tree es).d=.tuple [.str bx,.list (es.map aX)]:=rfl
@[simp] def d_c:(Th.com a ps tm m).d=.tuple [.str bZ,.int a,.list (ps.map .int),.int tm,.str m]:=rfl
@[simp] def t_b:(Th.blob x).t=.str x:=rfl
@[simp] def t_t:(Th.tree es).t=.list (es.map aX):=rfl
@[simp] def t_c:(Th.com a ps tm m).t=.tuple [.int a,.list (ps.map .int),.int tm,.str m]:=rfl
end
@[simp] def Nk{a b:List (Str×Int)}:a.map aX=b.map aX↔a=b:=List.map_inj_right λx y q=>by simp[aX]at q;exact Prod.ext q.1 q.2
@[simp] def Nl{a b:List Int}:a.map D.int=b.map D.int↔a=b:=List.map_inj_right λc c q=>D.int.inj q
def Th.o_inj{a b:Th}(h:a.o=b.o):a=b:=by cases a<;>cases b<;>simp_all [Th.o]
def Th.o_ok(t:Th):okK 8 t.o=true:=by cases t<;>simp[okK,aX,Th.o]
def atL(L:List Th)(i:Int):Option Th:=if 0<=i then L[i.toNat]? else none
noncomputable abbrev vt(L:List Th):Ust:=[L.map Th.o]
def putL(L:List Th)(t:Th):List Th:=if t∈L then L else L++[t]
noncomputable abbrev orX{α:Type}(cNO:Nat)(f:α->R):Option α->R
 |some t=>f t
 |none=>.exc cNO
def rP{L}{i}{t}(h:atL L i=some t):∃n:Nat,i=(n:Int)/\L[n]?=some t/\n<L.length/\(L.map Th.o)[n]?=some t.o:=by
 unfold atL at h;split at h
 .exact⟨i.toNat,by omega,h,(gi0 h).1,by rw[gm0,h];rfl⟩
 .cases h
abbrev yc(cNO:Nat)(run:Ust->List D->Option (Ust×R)):Prop:=∀(L:List Th)(i:Int),run (vt L) [.hdl 0,.int i]=some (vt L,orX cNO (λt=>.ok t.o) (atL L i))
abbrev qj(Ψ:FsM)(cNO:Nat):Prop:=fx Ψ (ah "held") [false,false] (yc cNO)
def Iz:yc cNO (dC Z Ψ Γ c (cm c cNO)):=by
 intro L i;cases h:atL L i with
 |none=>
  by_cases z:0<=i
  .have:¬ i<L.length:=by simp[atL,z]at h;omega
   simp[aO,cm,z,this]
  .simp[aO,cm,z]
 |some t=>
  obtain⟨n,rfl,_,g,h2⟩:=rP h;simp[aO,cm,yb h2,g]
noncomputable def aR(L:List Th)(i:Int)(k:Str):Option Th:=(atL L i).bind λt=>if t.k=k then some t else none
abbrev yd(cNO:Nat)(run:Ust->List D->Option (Ust×R)):Prop:=∀(L:List Th)(i:Int)(k:Str),k.length<=100->run (vt L) [.hdl 0,.int i,.str k]=some (vt L,orX cNO (λt=>.ok t.cn) (aR L i k))
abbrev ye(Ψ:FsM)(cNO:Nat):Prop:=fx Ψ (ah "content") [false,false,false] (yd cNO)
def FH{x y}(h:y.length<=100)(hx:x.cps.size<=900):biD .fst [.str x,.str y]=some (.str (x++y)):=Bj (by omega:x.cps.size+y.length<=16777216)
def IA(hh:qj Ψ cNO):yd cNO (dC Z Ψ Γ c (cb cNO)):=by
 intro L i k hk;obtain⟨r,e,h⟩:=hh;simp[aO,cb,e,h,aR];cases atL L i with
 |none=>rfl
 |some t=>by_cases z:t.k=k<;>simp[Th.o,z,FG,FH hk]
abbrev yf(cNO:Nat)(run:Ust->List D->Option (Ust×R)):Prop:=∀(L:List Th)(i:Int),run (vt L) [.hdl 0,.int i]=some (vt L,orX cNO (λt=>.ok (.str t.k)) (atL L i))
abbrev yg(Ψ:FsM)(cNO:Nat):Prop:=fx Ψ (ah "kind") [false,false] (yf cNO)
def IB(hh:qj Ψ cNO):yf cNO (dC Z Ψ Γ c eP):=by
 intro L i;obtain⟨r,e,h⟩:=hh;simp[aO,eP,e,h];cases atL L i<;>simp[Th.o]
variable {Ψ:FsM}{cNO cBT:Nat}
abbrev yh(run:List D->Option D):Prop:=∀xs:List Str,xs.length<=12->run [.list (xs.map .str)]=some (.bool (nY xs))
abbrev yi(Z:Fs):Prop:=Has Z "names_rise" [true] yh
def LI(l:List α):cut l (some 1) none=l.tail:=by
 cases l with
 |nil=>rfl
 |cons x r=>simp[cut,sIx]
theorem oh:∀(xs:List Str)(y:Str),zip2 ((y::xs).map D.str) (xs.map D.str)=((y::xs).zip xs).map λp=>.tuple [.str p.1,.str p.2]
 |[],_=>rfl
 |x::r,y=>by
  have:=oh r x;simp only[mk0]at this;simp[this]
theorem rQ:∀(xs:List Str)(y:Str),((y::xs).zip xs).all (λp=>decide (p.1.cps.toList<p.2.cps.toList))=nY (y::xs)
 |[],_=>rfl
 |x::r,y=>by
  rw[nY,<-rQ r x,List.zip_cons_cons,List.all_cons]
def IC:yh (ans Z Γ bX):=by
 intro xs hl;simp only[ans_e,bX];simp[LI];cases xs with
 |nil=>rfl
 |cons y r=>
  have:=oh r y;simp only[mk0]at this;simp at hl;have hb:r.length<=big:=nt0 hl (by decide);simp[this,hb];rw[aN (g:=λp:Str×Str=>D.bool (decide (p.1.cps.toList<p.2.cps.toList))) λp a=>by simp[dY]];simp[<-rQ,Function.comp_def,hb]
abbrev Cn(cBT:Nat)(run:Ust->List D->Option (Ust×R)):Prop:=∀(U:Ust)(es:List Str),es.length<=12->(∀x∈es,x.length<=1000)->run U [.list (es.map .str)]=some (U,if kP es then .ok .none else .exc cBT)
abbrev Cp(Ψ:FsM)(cBT:Nat):Prop:=fx Ψ "refuse_wrong_names" [false] (Cn cBT)
theorem oj{p:α->Bool}{y:β}:∀xs:List α,xs.findSome? (λx=>if p x then none else some y)=if xs.all p then none else some y
 |[]=>rfl
 |x::r=>by rw[List.findSome?_cons,oj r,List.all_cons];cases p x<;>rfl
def LJ(hn:lP Z)(hr:yi Z):Cn cBT (dC Z Ψ Γ c (aG cBT)):=by
 intro U es hl hx;obtain⟨r1,e1,h1⟩:=hn;obtain⟨r2,e2,h2⟩:=hr;simp only[aO,aG];simp;refine Ck (F:=λs=>[Sl.dat (.list (es.map .str)),s]) (λx=>if au x then none else some cBT) (P:=λo=>uw (nxM Z Ψ Γ c o _)=_) (λx m s=>⟨.dat (.str x),?_⟩) λs=>?_
 .simp[e1,h1 x (hx x m)]
  cases au x<;>simp
 .rw[oj,kP]
  cases es.all au
  .simp
  .simp[e2,h2 es hl]
   cases nY es<;>simp
noncomputable def yj(cNO cBT:Nat)(L:List Th)(p:Str×Int):Option Nat:=match atL L p.2 with
 |none=>some cNO
 |some t=>if t.k=bZ then some cBT else none
noncomputable def om(cNO cBT:Nat)(L:List Th)(es:List (Str×Int)):Option Nat:=if kP (es.map (·.1))then es.findSome? (yj cNO cBT L)else some cBT
variable {Ψ:FsM}{cNO cBT:Nat}
abbrev rR(cNO:Nat)(run:Ust->List D->Option (Ust×R)):Prop:=∀(L:List Th)(i:Int),run (vt L) [.hdl 0,.int i]=some (vt L,orX cNO (λa=>.ok .none) (aR L i bx))
abbrev lQ(Ψ:FsM)(cNO:Nat):Prop:=fx Ψ "refuse_what_is_no_tree" [false,false] (rR cNO)
def FI(hh:ye Ψ cNO):rR cNO (dC Z Ψ Γ c ax):=by
 intro L i;obtain⟨r,e,h⟩:=hh;simp only[aO,ax];simp[e,h L i bx (by decide)];cases aR L i bx<;>simp
variable {Ψ:FsM}{cNO cBT:Nat}
variable {Ψ:FsM}{cNO cBT:Nat}
abbrev rS(Z:Fs):Prop:=Has Z "_law_whole" [true] λrun=>∀n:Int,run [.int n]=some (.bool true)
abbrev Cq(c:Nat)(run:List D->Option D)(p:Th->Prop):Prop:=∀(h:Nat)(os:List D)(n:Nat)(t:Th),p t->os[n]?=some t.o->run [.vlt c h os,.int n]=some t.t
abbrev yk(Z:Fs)(c:Nat):Prop:=Has Z "text_of" [true,true] λrun=>Cq c run λt=>t.k=dF
def ID(hc:jA Z c):Cq c (ans Z Γ (eN c)) λt=>t.k=dF:=by
 intro h os n t z hd;obtain⟨r1,e1,h1⟩:=hc;cases t<;>simp at z
 simp only[ans_e,eN];simp[e1,h1 h os n dF _ hd]
variable {Ψ:FsM}{cNO cBT:Nat}
theorem yl:∀{xs:List Str},RiseS xs->nY xs=true
 |[],_=>rfl
 |[_],_=>rfl
 |a::b::r,h=>by
  obtain⟨h1,h2⟩:=List.pairwise_cons.mp h;have:=h1 b ms0;unfold ltS at this;show (decide (a.cps.toList<b.cps.toList)&&nY (b::r))=true;rw[this,yl h2];rfl
variable {Ψ:FsM}{cV cNO cBT cNP:Nat}
def LK(c:Nat):ans Z Γ bu [.str ⟨#[c]⟩]=some (.bool (bT c)):=by
 rw[uq];simp only[ans_e,bu]
 by_cases h:97<=c/\c<=122\/65<=c/\c<=90\/48<=c/\c<=57<;>simp[Fz,h,inD,Bg]
def LL(hs:rN Z)(hg:Γ.lookup ("LONGEST_NAME":Str)=some (D.int 12))(x:Str)(hx:x.length<=1000):ans Z Γ eM [.str x]=some (.bool (au x)):=by
 obtain⟨r1,e1,h1⟩:=hs;have hz:x.length<=big:=nt0 hx (by decide);have hy:x.cps.size<=big:=hz;simp only[ans_e,eM,au,dot,FA]
 by_cases c1:1<=x.length/\x.length<=12
 .by_cases c2:x=⟨#[46]⟩\/x=⟨#[46,46]⟩
  .simp[hz,hg,c1,c2,show ¬ ((x.length:Int)<1\/12<(x.length:Int)) by omega]
   rcases c2 with rfl|rfl<;>simp
  .simp[hz,hy,hg,c1,c2,show ¬ ((x.length:Int)<1\/12<(x.length:Int)) by omega]
   rw[aN (g:=λc=>D.bool (bT c)) λc a=>by simp[dY,e1,h1]];simp[not_or.mp c2]
 .simp[hz,hg,show (x.length:Int)<1\/12<(x.length:Int) by omega]
  omega
def nmR(hm:nX Z)(ns:List Int)(b:Int):Iq (ans Z Γ gf [.scr ns,.int b]):=by
 obtain⟨r1,e1,h1⟩:=hm;have hx:=h1 ns b;generalize mixF ns b=N at hx;simp only[ans_e,gf];simp[e1,hx]
 by_cases c0:0<N % 3
 .have g1:=en0 (N / 3) (b:=8) (by decide)
  have g2:=el0 (N / 3) (b:=8) (by decide);generalize N / 3 % 8=m at g1 g2;obtain⟨k,rfl⟩:=Int.eq_ofNat_of_zero_le g1;simp[c0]
  match k,(by omega:k<8)with
  |0,_|1,_|2,_|3,_|4,_|5,_|6,_|7,_=>exact⟨_,rfl,by decide⟩
 .have m1:=en0 (N / 3) (b:=12) (by decide)
  have m2:=el0 (N / 3) (b:=12) (by decide);obtain⟨k,ek⟩:=Int.eq_ofNat_of_zero_le m1;rw[ek]at m2;have hb:k+1<=big:=nt0 (m:=13) (by omega) (by decide);have hm:∀c∈List.map (sgn7 ns b) (List.range (k+1)),bT c=true:=λc hc=>by
   obtain⟨j,_,rfl⟩:=mm0 hc;exact Bi ns b j
  simp[c0,ek,uv (n:=1+(k:Int)) (by omega) (by omega),show (1+(k:Int)).toNat=k+1 by omega,hb];rw[aN (g:=D.str ∘ (λc=>(⟨#[c]⟩:Str)) ∘ sgn7 ns b) λj a=>by
   have q3:=xQ (xs:=signs65) 0 (en0 (mixF ns (b+7*(j:Int)) / 5) (b:=65) (by decide)) (el0 _ (by decide));simp[dY,e1,h1,mulL (i:=7) (by decide) (by decide)];exact⟨by decide,q3⟩,<-List.map_map,<-List.map_map]
  obtain⟨cs,hc⟩:∃cs,(List.range (k+1)).map (sgn7 ns b)=cs:=⟨_,rfl⟩;have hl:cs.length=k+1:=by rw[<-hc];simp
  rw[hc]at hm ⊢;have S:strsOf (cs.map (D.str ∘ λc=>(⟨#[c]⟩:Str)))=some (cs.map λc=>⟨#[c]⟩):=by rw[<-List.map_map,bF]
  have J:Txt.join ⟨#[]⟩ (cs.map λc=>(⟨#[c]⟩:Str))=⟨cs.toArray⟩:=join_one cs;have L1:((λx:Str=>x.length) ∘ λc:Nat=>(⟨#[c]⟩:Str))=λa=>1:=rfl
  have L2:(⟨#[]⟩:Str).length=0:=rfl;simp[S,J,L1,L2,List.map_const',List.sum_replicate_nat,hl,hb];obtain⟨T,hT⟩:∃T:Str,⟨cs.toArray⟩=T:=⟨_,rfl⟩;have lT:T.length=k+1:=by rw[<-hT];show cs.toArray.size=_;simp[hl]
  have sT:T.cps.toList.all bT=true:=by rw[<-hT];simpa using hm
  rw[hT];have m0:ya (some (.str ⟨#[97]⟩)) (some (.int 0))=some (.str ⟨#[]⟩):=rfl;have m1:ya (some (.str ⟨#[97]⟩)) (some (.int 1))=some (.str ⟨#[97]⟩):=rfl;have n:∀Q:Str,opD .add (.str T) (.str Q)=if T.length+Q.length<=big then some (.str (T++Q))else none:=λa=>rfl
  have b2:k+1+1<=big:=nt0 (m:=14) (by omega) (by decide)
  by_cases q:⟨#[46]⟩=T\/⟨#[46,46]⟩=T
  .refine⟨T++⟨#[97]⟩,?_,by rcases q with rfl|rfl<;>decide⟩
   simp[inD,okS,q,m1,n,lT,show (⟨#[97]⟩:Str).length=1 from rfl,b2]
  .refine⟨T,?_,?_⟩
   .simp[inD,okS,q,m0,n,lT,L2,hb]
    exact eG (by show (T.cps++#[]).toList=_;simp)
   .have q':=not_or.mp q
    rw[au,sT];simp[lT,dot,FA,Ne.symm q'.1,Ne.symm q'.2];omega
end TX
set_option maxRecDepth 10000
namespace TX
open PySem SI L2.Z
noncomputable def iA(cBT:Nat):bf:=⟨[false,false],4,(.cons (.expr (.call "refuse_wrong_names" (.G (.p (.comp 2 [] (.tup [0,1]) (.seq (.v 1)) .nil (.v 0)))))) (.B (.fors (.tup [2,3]) (.seq (.v 1)) (.A (.ifm .eq (.meth "kind" 0 (.W 3)) (.k (.str ⟨#[99,111,109,109,105,116]⟩)) (.A (.raise cBT (.G (.p (.k (.str ⟨#[97,110,32,101,110,116,114,121,32,110,97,109,101,115,32,97,32,99,111,109,109,105,116]⟩)))))) .nil))) (.ret (.meth "put" 0 (.G (.p (.tup (.B (.k (.str ⟨#[116,114,101,101]⟩)) (.bi .tuple (.A (.comp 2 [] (.tup [0,1]) (.seq (.v 1)) .nil (.tup (.B (.v 0) (.v 1))))))))))))))⟩
end TX
set_option maxRecDepth 10000
namespace TX
open PySem SI L2.Z
noncomputable def ay(cV:Nat):Def:=⟨[true,true],2,(.B (.ifs (.or (.cmp .isN (.v 1) (.k .none)) (.cmp .eq (.vcall cV "kind" (.v 0) (.A (.v 1))) (.k (.str ⟨#[98,108,111,98]⟩)))) (.A (.ret (.bi .dict (.A (.lst .nil))))) .nil) (.ret (.bi .dict (.A (.call "entries_of" (.B (.v 0) (.v 1)))))))⟩
noncomputable def cK:Def:=⟨[true,true,true],5,(.cons (.set 3 (.v 1)) (.B (.fors (.one 4) (.seq (.v 2)) (.A (.set 3 (.get (.call "entries_by_name" (.B (.v 0) (.v 3))) (.v 4))))) (.ret (.v 3))))⟩
noncomputable def cC:Def:=⟨[true,true,true],5,(.cons (.set 3 (.call "_law_mix" (.B (.v 0) (.op .add (.v 1) (.k (.int 1)))))) (.cons (.ifs (.and (.cmp .gt (.v 2) (.k (.int 0))) (.cmp .lt (.op .mod (.v 3) (.k (.int 5))) (.k (.int 2)))) (.A (.ret (.call "_law_folder" (.cons (.v 0) (.B (.v 1) (.v 2)))))) .nil) (.B (.set 4 (.call "_law_row" (.cons (.v 0) (.B (.op .add (.v 1) (.k (.int 2))) (.op .mod (.op .fdiv (.v 3) (.k (.int 5))) (.k (.int 4))))))) (.ret (.tup (.B (.k (.str ⟨#[98,108,111,98]⟩)) (.me .join (.k (.str ⟨#[]⟩)) (.A (.call "_law_ends" (.B (.v 4) (.cmp .eq (.op .mod (.v 3) (.k (.int 3))) (.k (.int 0)))))))))))))⟩
noncomputable def cD:Def:=⟨[true,true,true],4,(.B (.set 3 (.bi .srt (.A (.comp 1 [1,0] (.one 0) (.rng (.op .mod (.call "_law_mix" (.B (.v 0) (.v 1))) (.k (.int 4)))) .nil (.call "_law_name" (.B (.v 2) (.op .add (.op .add (.v 1) (.k (.int 3))) (.v 0)))))))) (.ret (.tup (.B (.k (.str ⟨#[116,114,101,101]⟩)) (.comp 1 [2,1,3,0] (.one 0) (.rng (.bi .len (.A (.v 3)))) .nil (.tup (.B (.idx (.v 3) (.v 0)) (.call "_law_node" (.cons (.v 4) (.B (.op .add (.op .add (.op .mul (.k (.int 4)) (.v 2)) (.k (.int 5))) (.v 0)) (.op .sub (.v 1) (.k (.int 1)))))))))))))⟩
noncomputable def dZ(cV:Nat):Def:=⟨[true,true],2,(.B (.ifs (.cmp .eq (.vcall cV "kind" (.v 0) (.A (.v 1))) (.k (.str ⟨#[98,108,111,98]⟩))) (.A (.ret (.tup (.B (.k (.str ⟨#[98,108,111,98]⟩)) (.call "text_of" (.B (.v 0) (.v 1))))))) .nil) (.ret (.tup (.B (.k (.str ⟨#[116,114,101,101]⟩)) (.comp 2 [0] (.tup [0,1]) (.seq (.call "entries_of" (.B (.v 0) (.v 1)))) .nil (.tup (.B (.v 0) (.call "_law_seen" (.B (.v 2) (.v 1))))))))))⟩
noncomputable def bG:Ss:=(.cons (.ifs (.or (.cmp .isN (.v 0) (.k .none)) (.cmp .ne (.idx (.v 0) (.k (.int 0))) (.k (.str ⟨#[116,114,101,101]⟩)))) (.cons (.ret (.k .none)) .nil) .nil) (.cons (.set 0 (.get (.bi .dict (.cons (.idx (.v 0) (.k (.int 1))) .nil)) (.v 2))) .nil))
def iC:Def:=⟨[true,true],3,(.B (.fors (.one 2) (.seq (.v 1)) bG) (.ret (.v 0)))⟩
noncomputable def xW:E:=(.ite (.and (.cmp .notN (.v 2) (.k .none)) (.cmp .eq (.idx (.v 2) (.k (.int 0))) (.k (.str ⟨#[116,114,101,101]⟩)))) (.idx (.v 2) (.k (.int 1))) (.lst .nil))
noncomputable def bW:Ss:=(.cons (.set 5 xW) (.cons (.set 6 (.call "_law_mix" (.cons (.v 0) (.cons (.op .add (.op .add (.v 1) (.k (.int 1))) (.v 4)) .nil)))) (.cons (.set 7 (.call "_law_name" (.cons (.v 0) (.cons (.op .add (.op .add (.v 1) (.k (.int 4))) (.v 4)) .nil)))) (.cons (.ifs (.and (.v 5) (.cmp .gt (.op .mod (.v 6) (.k (.int 4))) (.k (.int 0)))) (.cons (.set 7 (.idx (.idx (.v 5) (.op .mod (.op .fdiv (.v 6) (.k (.int 4))) (.bi .len (.cons (.v 5) .nil)))) (.k (.int 0)))) .nil) .nil) (.cons (.app 3 (.v 7)) (.cons (.set 2 (.get (.bi .dict (.cons (.v 5) .nil)) (.v 7))) .nil))))))
noncomputable def iD:Def:=⟨[true,true,true],8,(.cons (.new 3 (.lst .nil)) (.B (.fors (.one 4) (.rng (.op .add (.k (.int 1)) (.op .mod (.call "_law_mix" (.B (.v 0) (.v 1))) (.k (.int 3))))) bW) (.ret (.v 3))))⟩
noncomputable def hW:S:=(.ifs (.and (.cmp .notN (.v 0) (.k .none)) (.cmp .eq (.idx (.v 0) (.k (.int 0))) (.k (.str ⟨#[116,114,101,101]⟩)))) (.cons (.new 3 (.bi .dict (.cons (.idx (.v 0) (.k (.int 1))) .nil))) .nil) .nil)
noncomputable def eW:Ss:=(.cons (.ifs (.cmp .isN (.v 2) (.k .none)) (.cons (.dpopd 3 (.idx (.v 1) (.k (.int 0)))) .nil) (.cons (.seti 3 (.idx (.v 1) (.k (.int 0))) (.v 2)) .nil)) (.cons (.ret (.tup (.cons (.k (.str ⟨#[116,114,101,101]⟩)) (.cons (.comp 1 [3] (.one 0) (.seq (.bi .srtk (.cons (.v 3) .nil))) .nil (.tup (.cons (.v 0) (.cons (.idx (.v 1) (.v 0)) .nil)))) .nil)))) .nil))
noncomputable def ef:Def:=⟨[true,true,true],5,(.cons (.new 3 (.bi .dict (.A (.lst .nil)))) (.cons hW (.cons (.ifs (.cmp .gt (.bi .len (.A (.v 1))) (.k (.int 1))) (.B (.set 4 (.call "_law_with" (.cons (.get (.v 3) (.idx (.v 1) (.k (.int 0)))) (.B (.sl (.v 1) (.A (.k (.int 1))) .nil) (.v 2))))) (.set 2 (.ite (.idx (.v 4) (.k (.int 1))) (.v 4) (.k .none)))) .nil) eW)))⟩
noncomputable def dD(cNP:Nat):bf:=⟨[false,false,false],5,(.cons (.set 3 (.call "names_of" (.W 2))) (.cons (.expr (.call "refuse_what_is_no_tree" (.va 0 (.W 1)))) (.cons (.set 4 (.p (.call "object_at" (.cons (.v 0) (.B (.v 1) (.v 3)))))) (.B (.ifs (.cmp .isN (.v 4) (.k .none)) (.A (.raise cNP (.G (.p (.k (.str ⟨#[110,111,116,104,105,110,103,32,105,115,32,97,116,32,116,104,105,115,32,112,97,116,104]⟩)))))) .nil) (.ret (.p (.v 4)))))))⟩
noncomputable def bg(cNP:Nat):bf:=⟨[false,false,false,false],5,(.cons (.set 4 (.call "names_of" (.W 2))) (.cons (.ifs (.cmp .eq (.v 4) (.lst .nil)) (.A (.raise cNP (.G (.p (.k (.str ⟨#[116,104,101,32,101,109,112,116,121,32,112,97,116,104,32,105,115,32,116,104,97,116,32,111,102,32,116,104,101,32,116,114,101,101,32,105,116,115,101,108,102]⟩)))))) .nil) (.cons (.expr (.call "refuse_what_is_no_tree" (.va 0 (.W 1)))) (.B (.ifs (.and (.cmp .isN (.v 3) (.k .none)) (.cmp .isN (.call "object_at" (.cons (.v 0) (.B (.v 1) (.v 4)))) (.k .none))) (.A (.ret (.p (.v 1)))) .nil) (.ret (.call "tree" (.va 0 (.G (.call "entries_with" (.va 0 (.va 1 (.va 4 (.W 3)))))))))))))⟩
noncomputable def cL(cNP:Nat):bf:=⟨[false],2,(.cons (.ifs (.cmp .eq (.v 0) (.k (.str ⟨#[]⟩))) (.A (.ret (.p (.lst .nil)))) .nil) (.cons (.set 1 (.p (.me .split (.v 0) (.A (.k (.str ⟨#[47]⟩)))))) (.B (.ifs (.or (.cmp .gt (.bi .len (.A (.v 1))) (.g "MOST_NAMES")) (.not (.bi .all (.A (.comp 1 [] (.one 0) (.seq (.v 1)) .nil (.call "is_name" (.A (.v 0)))))))) (.A (.raise cNP (.G (.p (.k (.str ⟨#[116,104,105,115,32,105,115,32,110,111,32,112,97,116,104]⟩)))))) .nil) (.ret (.p (.v 1))))))⟩
noncomputable def aP:bf:=⟨[false,false,false,false],6,(.cons (.new 4 (.call "entries_by_name" (.B (.v 0) (.v 1)))) (.cons (.set 5 (.p (.idx (.v 2) (.k (.int 0))))) (.cons (.ifs (.cmp .gt (.bi .len (.A (.v 2))) (.k (.int 1))) (.A (.set 3 (.call "tree_or_none" (.va 0 (.G (.call "entries_with" (.va 0 (.ex (.p (.get (.v 4) (.v 5))) (.ex (.p (.sl (.v 2) (.A (.k (.int 1))) .nil)) (.W 3)))))))))) .nil) (.B (.ifs (.cmp .isN (.v 3) (.k .none)) (.A (.pure (.dpop 4 (.v 5)))) (.A (.pure (.seti 4 (.v 5) (.v 3))))) (.ret (.p (.srtp (.v 4))))))))⟩
noncomputable def aQ:bf:=⟨[false,false],2,(.A (.ret (.ite (.cmp .eq (.v 1) (.lst .nil)) (.p (.k .none)) (.call "tree" (.va 0 (.W 1))))))⟩
noncomputable def dc:bf:=⟨[false,false],2,(.B (.ifs (.cmp .eq (.idx (.v 1) (.k (.int 0))) (.k (.str ⟨#[98,108,111,98]⟩))) (.A (.ret (.call "blob" (.va 0 (.G (.p (.idx (.v 1) (.k (.int 1))))))))) .nil) (.ret (.call "tree" (.va 0 (.G (.comp 2 [0] (.tup [0,1]) (.p (.idx (.v 1) (.k (.int 1)))) (.tup (.va 0 (.G (.call "_law_store" (.va 2 (.W 1))))))))))))⟩
noncomputable def eQ(cNO:Nat)(cBT:Nat)(cNP:Nat):bf:=⟨[false,false,false],6,(.cons (.set 3 (.p (.k .none))) (.cons (.set 4 (.p (.k .none))) (.cons (.try1 [(cNO,false),(cBT,false),(cNP,true)] 3 5 (.A (.set 4 (.call "found_at" (.va 0 (.va 1 (.W 2))))))) (.B (.ifs (.cmp .notN (.v 3) (.k .none)) (.A (.ret (.p (.ite (.not (.isx (.v 3) cNO [(cNO,true),(cBT,false),(cNP,false)])) (.k .none) (.neg (.k (.int 1))))))) .nil) (.ret (.p (.v 4)))))))⟩
noncomputable def bC:SMs:=(.cons (.set 3 (.call "with_object" (.va 2 (.va 3 (.va 7 (.va 9 .nil)))))) (.cons (.ifo (.or (.not (.call "_law_whole" (.cons (.v 3) .nil))) (.cmp .ne (.call "_law_seen" (.cons (.v 2) (.cons (.v 3) .nil))) (.v 1))) .ne (.call "_law_found" (.va 2 (.va 3 (.va 7 .nil)))) (.v 9) (.cons (.ret (.p (.k (.bool false)))) .nil) .nil) (.cons (.pure (.app 4 (.tup (.cons (.v 3) (.cons (.v 1) .nil))))) .nil)))
noncomputable def bB:SMs:=(.cons (.ifs (.or (.cmp .notN (.v 8) (.k .none)) (.cmp .notN (.call "_law_get" (.cons (.v 1) (.cons (.v 6) .nil))) (.k .none))) (.cons (.set 1 (.p (.call "_law_with" (.cons (.v 1) (.cons (.v 6) (.cons (.v 8) .nil)))))) .nil) .nil) bC)
noncomputable def bA:SMs:=(.cons (.ifs (.cmp .gt (.op .mod (.call "_law_mix" (.cons (.v 0) (.cons (.op .add (.k (.int 11)) (.op .mul (.k (.int 9)) (.v 5))) .nil))) (.k (.int 3))) (.k (.int 0))) (.cons (.set 8 (.p (.call "_law_node" (.cons (.v 0) (.cons (.op .add (.k (.int 12)) (.op .mul (.k (.int 9)) (.v 5))) (.cons (.op .mod (.call "_law_mix" (.cons (.v 0) (.cons (.op .add (.k (.int 13)) (.op .mul (.k (.int 9)) (.v 5))) .nil))) (.k (.int 3))) .nil)))))) (.cons (.set 9 (.call "_law_store" (.va 2 (.va 8 .nil)))) .nil)) .nil) bB)
noncomputable def b0:SMs:=(.cons (.set 6 (.p (.call "_law_way" (.cons (.v 0) (.cons (.op .add (.k (.int 7)) (.op .mul (.k (.int 9)) (.v 5))) (.cons (.v 1) .nil)))))) (.cons (.set 7 (.p (.me .join (.k (.str ⟨#[47]⟩)) (.cons (.v 6) .nil)))) (.cons (.set 8 (.p (.k .none))) (.cons (.set 9 (.p (.k .none))) bA))))
noncomputable def bE:SMs:=(.cons (.ret (.p (.cmp .eq (.comp 1 [2] (.one 0) (.seq (.v 4)) .nil (.tup (.cons (.idx (.v 0) (.k (.int 0))) (.cons (.call "_law_seen" (.cons (.v 1) (.cons (.idx (.v 0) (.k (.int 0))) .nil))) .nil)))) (.v 4)))) .nil)
noncomputable def df:bf:=⟨[true],10,(.cons (.set 1 (.p (.call "_law_folder" (.cons (.v 0) (.B (.k (.int 0)) (.k (.int 2))))))) (.cons (.set 2 .new) (.cons (.set 3 (.call "_law_store" (.va 2 (.W 1)))) (.cons (.pure (.new 4 (.lst (.A (.tup (.B (.v 3) (.v 1))))))) (.cons (.fors (.one 5) (.rng (.k (.int 6))) b0) bE)))))⟩
end TX
namespace TX
open PySem SI M1 L2.Z
mutual
inductive Nd where
 |blob (t:Str)
 |tree (es:Nds)
inductive Nds where
 |nil
 |cons (x:Str) (n:Nd) (r:Nds)
end
mutual
noncomputable def Nd.d:Nd->D
 |.blob t=>.tuple [.str dF,.str t]
 |.tree es=>.tuple [.str bx,.list es.ds]
noncomputable def Nds.ds:Nds->List D
 |.nil=>[]
 |.cons x n r=>.tuple [.str x,n.d]::r.ds
end
def Nds.names:Nds->List Str
 |.nil=>[]
 |.cons x _ r=>x::r.names
mutual
noncomputable def Nd.ok(w:Nat):Nat->Nd->Prop
 |_,.blob t=>t.length<=100
 |0,.tree _=>False
 |k+1,.tree es=>RiseS es.names/\(∀x∈es.names,au x=true)/\es.names.length<=w/\es.ok w k
noncomputable def Nds.ok(w:Nat):Nat->Nds->Prop
 |_,.nil=>True
 |k,.cons _ n r=>n.ok w k/\r.ok w k
end
theorem Nds.len:∀es:Nds,es.ds.length=es.names.length
 |.nil=>rfl
 |.cons x n r=>by rw[Nds.ds,Nds.names,lc0,lc0,Nds.len r]
abbrev rT(Z:Fs)(m:Nat):Prop:=Has Z "_law_folder" [true,true,true] λrun=>∀ns k,∃es,(Nd.tree es).ok 3 m/\run [.scr ns,.int k,.int m]=some (Nd.tree es).d
abbrev ym(Z:Fs)(m:Nat):Prop:=Has Z "_law_node" [true,true,true] λrun=>∀ns k,∃n:Nd,n.ok 3 m/\run [.scr ns,.int k,.int m]=some n.d
theorem ia{f:D->Option (Option D)}{P:Str->Prop}:∀xs:List D,(∀x∈xs,∃t:Str,P t/\f x=some (some (.str t)))->∃ts:List Str,ts.length=xs.length/\(∀t∈ts,P t)/\aM f xs=some (ts.map .str)
 |[],_=>⟨[],rfl,(λa h=>by cases h),rfl⟩
 |x::r,h=>by
  obtain⟨t,p,e⟩:=h x ms0;obtain⟨ts,l,q,e2⟩:=ia r λy hy=>h y (mc0 _ hy)
  refine⟨t::ts,by rw[lc0,l,lc0],λu hu=>?_,?_⟩
  .rcases mq0 hu with z|z
   .rw[z];exact p
   .exact q u z
  .rw[aM,e,bs0,e2];rfl
theorem ib{f:D->Option (Option D)}:∀(zs:List Str)(i:Nat),(∀(j:Nat)(z:Str),zs[j]?=some z->∃n:Nd,n.ok 3 m/\f (.int ((i+j:Nat):Int))=some (some (.tuple [.str z,n.d])))->∃es:Nds,es.names=zs/\es.ok 3 m/\aM f ((List.range' i zs.length).map λk:Nat=>D.int k)=some es.ds
 |[],i,_=>⟨.nil,rfl,trivial,rfl⟩
 |z::r,i,h=>by
  obtain⟨n,p,e⟩:=h 0 z rfl;obtain⟨es,a,b,c⟩:=ib r (i+1) λj y hy=>by
   obtain⟨n,p,e⟩:=h (j+1) y (by simpa using hy);exact⟨n,p,by rw[<-e];congr 2;omega⟩
  refine⟨.cons z n es,by rw[Nds.names,a],⟨p,b⟩,?_⟩;rw[lc0,List.range'_succ,mk0,aM,show f (D.int (i:Int))=some (some (.tuple [.str z,n.d]))from e,bs0,c];rfl
def FJ{ts:List Str}(h0:0<=i)(h1:i<ts.length):∃t∈ts,atI (ts.map D.str) i=some (.str t):=by
 have hl:i.toNat<ts.length:=by omega
 refine⟨ts[i.toNat],List.getElem_mem hl,?_⟩;rw[bK h0 (by rw[lm0];exact h1),gm0,ge0 hl];rfl
abbrev yn(Z:Fs):Prop:=Has Z "_law_sign" [true] λrun=>∀n,∃x:Str,x.length=1/\run [.int n]=some (.str x)
def IE(n:Int):∃x:Str,x.length=1/\ans Z Γ fX [.int n]=some (.str x):=by
 have h1:=en0 n (b:=94) (by decide);have h2:=el0 n (b:=94) (by decide);simp only[ans_e,fX];simp;rw[if_pos (by decide)];simp;rw[if_pos (by decide)];generalize hs:(_++_:Str)=s;have hl:s.cps.toList.length=94:=by rw[<-hs];decide
 have hl':(n % 94).toNat<s.cps.toList.length:=by omega
 rw[bK h1 (by omega),ge0 hl'];exact⟨_,rfl,by simp;rfl⟩
abbrev yp(Z:Fs):Prop:=Has Z "_law_line" [true,true] λrun=>∀ns k,∃x:Str,x.length<=3/\run [.scr ns,.int k]=some (.str x)
def IF(hm:nX Z)(hs:yn Z)(ns:List Int)(k:Int):∃x:Str,x.length<=3/\ans Z Γ fY [.scr ns,.int k]=some (.str x):=by
 obtain⟨r1,e1,h1⟩:=hm;obtain⟨r2,e2,h2⟩:=hs;simp only[ans_e,fY];have hN:=h1 ns k;generalize mixF ns k=N at hN
 by_cases c:N % 4=3
 .obtain⟨x,l1,q1⟩:=h2 (N / 4)
  obtain⟨y,l2,q2⟩:=h2 (N / 376);refine⟨x++y,by rw[FD];omega,?_⟩;simp[e1,hN,e2,q1,q2,c,l1,l2,show 2<=big by decide]
 .obtain⟨t,ht,e⟩:=FJ (ts:=[⟨#[97]⟩,⟨#[98]⟩,⟨#[]⟩,⟨#[97,32,98]⟩,⟨#[124]⟩,⟨#[99]⟩]) (i:=N / 4 % 6) (en0 _ (by decide)) (el0 _ (by decide))
  refine⟨t,(show ∀x∈[(⟨#[97]⟩:Str),⟨#[98]⟩,⟨#[]⟩,⟨#[97,32,98]⟩,⟨#[124]⟩,⟨#[99]⟩],x.length<=3 by decide) t ht,?_⟩;simp only[mk0,List.map_nil]at e;simp[e1,hN,c,e]
abbrev Cu(Z:Fs):Prop:=Has Z "_law_row" [true,true,true] λrun=>∀ns b (n:Nat),n<=3->∃xs:List Str,xs.length=n/\(∀x∈xs,x.length<=3)/\run [.scr ns,.int b,.int n]=some (.list (xs.map .str))
def LM(hl:yp Z)(ns:List Int)(b:Int)(n:Nat)(hn:n<=3):∃xs:List Str,xs.length=n/\(∀x∈xs,x.length<=3)/\ans Z Γ iz [.scr ns,.int b,.int n]=some (.list (xs.map .str)):=by
 obtain⟨r1,e1,h1⟩:=hl;simp only[ans_e,iz];simp[Lq (n:=n) (by omega),show n<=big from nt0 hn (by decide)];generalize hf:cpF Z Γ _ _ _ _ _ _=f;obtain⟨ts,a,p,q⟩:=ia (P:=λx=>x.length<=3) (f:=f) ((List.range n).map λk:Nat=>D.int k) λx hx=>by
  obtain⟨k,_,rfl⟩:=mm0 hx;obtain⟨t,l,e⟩:=h1 ns (b+k);exact⟨t,l,by rw[<-hf];simp[dY,e1,e]⟩
 exact⟨ts,by simpa using a,p,by rw[q];simp⟩
abbrev yq(Z:Fs):Prop:=Has Z "_law_ends" [true,true] λrun=>∀(row:List Str)(b:Bool),row.length<=3->(∀x∈row,x.length<=3)->∃xs:List Str,xs.length<=3/\(∀x∈xs,x.length<=4)/\run [.list (row.map .str),.bool b]=some (.list (xs.map .str))
def IG(row:List Str)(b:Bool)(hl:row.length<=3)(hx:∀x∈row,x.length<=3):∃xs:List Str,xs.length<=3/\(∀x∈xs,x.length<=4)/\ans Z Γ fZ [.list (row.map .str),.bool b]=some (.list (xs.map .str)):=by
 have nl1:(⟨#[10]⟩:Str).length=1:=rfl;have key:∀x∈row,x.length+(⟨#[10]⟩:Str).length<=big:=λx h=>nt0 (Nat.add_le_add_right (hx x h) _) (by decide)
 have one:∀x∈row.map (·++(⟨#[10]⟩:Str)),x.length<=4:=λx h=>by
  obtain⟨y,hy,rfl⟩:=mm0 h;rw[FD,nl1];have:=hx y hy;omega
 simp only[ans_e,fZ];simp[show row.length<=big from nt0 hl (by decide)];rw[aN (g:=λx:Str=>D.str (x++⟨#[10]⟩)) λx h=>by have:=key x h;simp[dY,this]];have b0:∃xs:List Str,xs.length<=3/\(∀x∈xs,x.length<=4)/\(row.map λx=>D.str (x++⟨#[10]⟩))=xs.map .str:=⟨_,by simpa using hl,one,by simp⟩;cases b with
 |false=>simpa using b0
 |true=>
  by_cases he:row=[]
  .simpa [he]using b0
  .obtain⟨r,t,rfl⟩:=List.eq_nil_or_concat row|>.resolve_left he
   rw[List.concat_eq_append]at *;have ix:ixN (r.length+1) (-1)=some r.length:=by
    unfold ixN;rw[if_neg (by decide),if_pos (by omega)]
    congr 1;omega
   have ea:atI (r.map D.str++[.str t]) (-1)=some (.str t):=by unfold atI;simp[ix]
   by_cases ht:t=⟨#[]⟩
   .subst ht;simpa [ea]using b0
   .refine⟨r.map (·++⟨#[10]⟩)++[t],by simpa using hl,λx h=>?_,?_⟩
    .rcases ma0 h with h|h
     .exact one x (by rw[List.map_append];exact List.mem_append_left _ h)
     .rw[List.mem_singleton.mp h];exact Nat.le_succ_of_le (hx t (by simp))
    .simp[ea,ht,ix]
def eg(hm:nX Z)(hr:Cu Z)(he:yq Z)(m:Nat)(hf:0<m->rT Z m)(ns:List Int)(k:Int):∃n:Nd,n.ok 3 m/\ans Z Γ cC [.scr ns,.int k,.int m]=some n.d:=by
 obtain⟨r1,e1,h1⟩:=hm;obtain⟨r2,e2,h2⟩:=hr;obtain⟨r3,e3,h3⟩:=he;have hN:=h1 ns (k+1);generalize mixF ns (k+1)=N at hN
 by_cases c0:0<m/\N % 5<2
 .obtain⟨r4,e4,h4⟩:=hf c0.1
  obtain⟨es,p,e⟩:=h4 ns k;refine⟨.tree es,p,?_⟩;simp only[ans_e,cC];simp[e1,hN,c0.1,c0.2,e4,e]
 have g1:=en0 (N / 5) (b:=4) (by decide);have g2:=el0 (N / 5) (b:=4) (by decide);obtain⟨j,ej⟩:∃j:Nat,N / 5 % 4=j:=⟨(N / 5 % 4).toNat,by omega⟩;obtain⟨row,rl,rc,q2⟩:=h2 ns (k+2) j (by omega);obtain⟨E,el,ec,q3⟩:=h3 row (decide (N % 3=0)) (by omega) rc;have ls:=nt0 (xR ec) (Nat.mul_le_mul_right 4 el);refine⟨.blob (Txt.join Str.empty E),nt0 (xS _) (nt0 ls (by decide)),?_⟩;have hj:(E.map λx=>x.length).sum<=big:=nt0 ls (by decide);simp only[ans_e,cC]
 by_cases z:0<m
 .have y:¬ N % 5<2:=λy=>c0 ⟨z,y⟩
  simp[e1,hN,z,y,ej,e2,q2,e3,q3,bF,hj,show (⟨#[]⟩:Str).length=0 from rfl];rfl
 .simp[e1,hN,z,ej,e2,q2,e3,q3,bF,hj,show (⟨#[]⟩:Str).length=0 from rfl]
  rfl
def jD(hm:nX Z)(hn:xY Z)(m:Nat)(hd:ym Z m)(ns:List Int)(k:Int):∃es,(Nd.tree es).ok 3 (m+1)/\ans Z Γ cD [.scr ns,.int k,.int ((m+1:Nat):Int)]=some (Nd.tree es).d:=by
 obtain⟨r1,e1,h1⟩:=hm;obtain⟨r2,e2,h2⟩:=hn;obtain⟨r3,e3,h3⟩:=hd;obtain⟨nm,hnm⟩:∃g:Int->Str,∀k,r2 [.scr ns,.int k]=some (.str (g k))/\au (g k)=true:=⟨λk=>Classical.choose (h2 ns k),λk=>Classical.choose_spec (h2 ns k)⟩;have g:=lN ns k 4 (by decide);have hM:=h1 ns k;generalize hn:mixF ns k % 4=M at g;have hz:M.toNat<=big:=by unfold big;omega
 simp only[ans_e,cD];simp[e1,hM,hn,uv (n:=M) (by omega) (by omega),hz];rw[aN (g:=λj:Nat=>D.str (nm (k+3+j))) λj c=>by simp[dY,e2,hnm]];have st:=xZ ((List.range M.toNat).map λj:Nat=>nm (k+3+j)) (by simp;omega);rw[List.map_map]at st;have zl:=jd ((List.range M.toNat).map λj:Nat=>nm (k+3+j));have zp:∀t∈srtS ((List.range M.toNat).map λj:Nat=>nm (k+3+j)),au t=true:=λt ht=>by
  obtain⟨j,_,rfl⟩:=mm0 ((bM _ t).mp ht);exact (hnm _).2
 have zr:=cj ((List.range M.toNat).map λj:Nat=>nm (k+3+j));generalize srtS ((List.range M.toNat).map λj:Nat=>nm (k+3+j))=zs at st zl zp zr;rw[lm0,lr0]at zl;simp[show (λj:Nat=>D.str (nm (k+3+j)))=D.str ∘ (λj:Nat=>nm (k+3+j))from rfl,st,Iv (ds:=zs.map .str) (by simp;omega),show zs.length<=big from nt0 zl (by unfold big;omega)];rw[List.range_eq_range'];generalize hf:cpF Z Γ _ _ _ _ _ _=f;obtain⟨es,en,eo,ee⟩:=ib (m:=m) (f:=f) zs 0 λj z hz=>by
  obtain⟨n,a,b⟩:=h3 ns (4*k+5+j);refine⟨n,a,?_⟩;have hj:=(gi0 hz).1;have ea:atI (zs.map D.str) (j:Int)=some (.str z):=by
   rw[bK (by omega) (by rw[lm0];exact_mod_cast hj),Int.toNat_natCast,gm0,hz];rfl
  have em:(m:Int)+1-1=(m:Int):=by omega
  rw[<-hf];simp[dY,e3,b,ea,em,mulL (i:=4) (by decide) (by decide)]
 refine⟨es,⟨by rw[en];exact zr,by rw[en];exact zp,by rw[en];omega,eo⟩,?_⟩;rw[ee];rfl
end TX
namespace L2.Z
open PySem SI
section
variable {Ψ:FsM}{U U':Ust}{s:SM}{r a b:SMs}{d:D}{t:Bool}{x:Nat}{e:M}
noncomputable def ifC(Z:Fs)(Ψ:FsM)(Γ:List (Str×D))(c:Nat)(o:Cop)(y:E)(Y:List Sl)(a b:SMs):R×Ust->Option (OM×Ust)
 |(.ok d,U)=>ifM Z Ψ Γ c ((ev Z Γ .read (vM c U Y) y).bind λe=>(bQ o d e).map .bool) Y U a b
 |(.exc x,U)=>some (.exc x Y,U)
@[simp ↓ high] def exM_ifm{o:Cop}{y:E}:exM Z Ψ Γ c Y U (.ifm o e y a b)=(evM Z Ψ Γ c Y U e).bind (ifC Z Ψ Γ c o y Y a b):=by
 show (evM Z Ψ Γ c Y U e).bind _=_;congr 1;funext z;obtain⟨z,V⟩:=z;cases z with
 |exc=>rfl
 |ok d=>
  show Option.bind (ev Z Γ .read (Y.map (vE c V)) y) _=Option.bind (Option.bind (ev Z Γ .read (Y.map (vE c V)) y) _) _;cases ev Z Γ .read (Y.map (vE c V)) y with
  |none=>rfl
  |some q=>
   show Option.bind (bQ o d q) _=Option.bind (Option.map _ (bQ o d q)) _;cases bQ o d q<;>rfl
@[simp] def MS{o:Cop}{y:E}:ifC Z Ψ Γ c o y Y a b (.ok d,U)=ifM Z Ψ Γ c ((ev Z Γ .read (vM c U Y) y).bind λe=>(bQ o d e).map .bool) Y U a b:=(rfl)
@[simp] def MT{o:Cop}{y:E}:ifC Z Ψ Γ c o y Y a b (.exc x,U)=some (.exc x Y,U):=(rfl)
end
section
variable {Ψ:FsM}{U U':Ust}{d:D}{x:Nat}{ds:List D}
noncomputable def cmF(Z:Fs)(Ψ:FsM)(Γ:List (Str×D))(c:Nat)(Y:List Sl)(nt:Nat)(js:List Nat)(tg:Tg)(elt:M)(d:D)(U:Ust):Option (D×Ust):=(ar tg d (blk nt js Y)).bind λY'=>(evM Z Ψ Γ c Y' U elt).bind okR
@[simp ↓ high] def evM_cp{nt:Nat}{js:List Nat}{tg:Tg}{src elt:M}:evM Z Ψ Γ c Y U (.comp nt js tg src elt)=(evM Z Ψ Γ c Y U src).bind λz=>(okL z).bind λz=>if z.1.length<big then (jr (cmF Z Ψ Γ c Y nt js tg elt) z.1 z.2).map λq=>(.ok (.list q.1),q.2)else none:=(rfl)
def IH{nt:Nat}{js:List Nat}{tg:Tg}{elt:M}:cmF Z Ψ Γ c Y nt js tg elt d U=(ar tg d (blk nt js Y)).bind λY'=>(evM Z Ψ Γ c Y' U elt).bind okR:=(rfl)
@[simp] def MU:okL (.ok (.list ds),U)=some (ds,U):=(rfl)
@[simp] def MV:okR (.ok d,U)=some (d,U):=(rfl)
@[simp] def LN:HZ (.ok ds,U)=if ds.length<=1000 then some (.ok (.tuple ds),U)else none:=(rfl)
@[simp] def LO{f:Ust->List D->Option (Ust×R)}:AF f (.exc x) U=some (U,.exc x):=(rfl)
end
end L2.Z
namespace TX
open PySem SI M1 L2.Z
variable {Ψ:FsM}{cNO cBT:Nat}
def Ex(L L':List Th):Prop:=(∀(i:Nat) t,L[i]?=some t->L'[i]?=some t)/\(L.Nodup->L'.Nodup)
def Ex.refl(L:List Th):Ex L L:=⟨λa a h=>h,id⟩
def Ex.trans{a b d:List Th}(h:Ex a b)(k:Ex b d):Ex a d:=⟨λi x e=>k.1 i x (h.1 i x e),λn=>k.2 (h.2 n)⟩
set_option tactic.hygienic true in
def lR(L:List Th)(t:Th):Ex L (putL L t)/\(putL L t).length<=L.length+1:=by
 unfold putL;split
 .exact⟨.refl _,by omega⟩
 .rename_i h
  exact⟨⟨λi x e=>by rw[gl0 (gi0 e).1];exact e,λn=>List.nodup_append.mpr ⟨n,by simp,λa ha b hb e=>h (by rw[<-List.mem_singleton.mp hb,<-e];exact ha)⟩⟩,by simp⟩
def yr(L:List Th)(t:Th)(x:Option Nat)(o:Option (Ust×R)):Prop:=match x with
 |some x=>o=some (vt L,.exc x)
 |none=>∃j:Nat,(putL L t)[j]?=some t/\o=some (vt (putL L t),.ok (.int (j:Nat)))
@[simp] def LP{L:List Th}{t:Th}{x:Nat}{o:Option (Ust×R)}:yr L t (some x) o↔o=some (vt L,.exc x):=Iff.rfl
def qk{l:List D}{d:D}{j:Nat}(h:l.idxOf? d=some j):l[j]?=some d:=by
 unfold List.idxOf? at h;obtain⟨h1,h2,_⟩:=List.findIdx?_eq_some_iff_getElem.mp h;rw[ge0 h1];exact congrArg some (eq_of_beq h2)
def rV(L:List Th)(t:Th)(hz:L.length<1000000):∃j:Nat,(putL L t)[j]?=some t/\kI (vt L) [.hdl 0,t.o]=some (vt (putL L t),.ok (.int (j:Nat))):=by
 have m:t.o∈L.map Th.o↔t∈L:=⟨λz=>by obtain⟨s,h1,h2⟩:=mm0 z;exact Th.o_inj h2▸h1,List.mem_map_of_mem⟩;have o:=t.o_ok;cases h:(L.map Th.o).idxOf? t.o with
 |some j=>
  have h1:t∈L:=m.mp (Classical.byContradiction λz=>by rw[List.idxOf?_eq_none_iff.mpr z]at h;cases h);refine⟨j,?_,by simp[kI,putL,o,h,hz,h1];rfl⟩;have e:=qk h;rw[gm0]at e;obtain⟨s,e1,e2⟩:=mx0 e;simp[putL,h1,e1,Th.o_inj e2]
 |none=>
  have h1:t∉L:=λz=>List.idxOf?_eq_none_iff.mp h (m.mpr z)
  exact⟨L.length,by simp[putL,h1],by simp[kI,putL,o,h,hz,h1];rfl⟩
abbrev yt(cNO cBT:Nat)(run:Ust->List D->Option (Ust×R)):Prop:=∀(L:List Th)(es:List (Str×Int)),es.length<=12->(∀p∈es,p.1.length<=1000)->L.length<1000->yr L (.tree es) (om cNO cBT L es) (run (vt L) [.hdl 0,.list (es.map aX)])
abbrev lS(Ψ:FsM)(cNO cBT:Nat):Prop:=fx Ψ "tree" [false,false] (yt cNO cBT)
def II(hf:Cp Ψ cBT)(hk:yg Ψ cNO)(hp:Bh Ψ):yt cNO cBT (dC Z Ψ Γ c (iA cBT)):=by
 intro L es hl hx hz;obtain⟨r1,e1,h1⟩:=hf;obtain⟨r2,e2,h2⟩:=hk;obtain⟨j,jt,q⟩:=rV L (.tree es) (by omega);have hr:=h1 (vt L) (es.map (·.1)) (by simpa) (by simpa using λx a b=>hx (x,a) b);rw[List.map_map]at hr;have hb:es.length<=big:=nt0 hl (by decide);simp only[aO,iA];simp[hb,e1];rw[aN (g:=D.str ∘ Prod.fst) (λd d=>rfl),om];simp[show (λx:Str×Int=>x.1)=Prod.fst from rfl]at hr ⊢;rw[hr];cases kP (es.map Prod.fst)with
 |false=>simp
 |true=>
  simp;refine Ck (F:=λs:Sl×Sl=>[.dat (.hdl 0),.dat (.list (es.map aX)),s.1,s.2]) (s:=(.no,.no)) (yj cNO cBT L) (P:=λo=>yr L _ _ (uw (nxM Z Ψ Γ c o _))) (λx m s=>⟨(.dat (.str x.1),.dat (.int x.2)),?_⟩) λs=>?_
  .simp[e2,h2,yj,aX]
   cases atL L x.2 with
   |none=>simp
   |some t=>by_cases z:t.k=bZ<;>simp[z]
  .cases es.findSome? (yj cNO cBT L)with
   |some x=>simp
   |none=>
    refine⟨j,jt,?_⟩;simp[hb,hp];rw[aN (g:=aX) (λd d=>rfl)];simp[hb,jy,show kI (vt L) [.hdl 0,.tuple [.str bx,.tuple (es.map aX)]]=_ from q]
abbrev yu(run:Ust->List D->Option (Ust×R)):Prop:=∀(L:List Th)(x:Str),L.length<1000->yr L (.blob x) none (run (vt L) [.hdl 0,.str x])
abbrev yv(Ψ:FsM):Prop:=fx Ψ "blob" [false,false] yu
def IJ(hp:Bh Ψ):yu (dC Z Ψ Γ c lO):=by
 intro L x hz;obtain⟨j,jt,q⟩:=rV L (.blob x) (by omega);exact⟨j,jt,by simp only[aO,lO];simp[hp,jy,show kI (vt L) [.hdl 0,.tuple [.str dF,.str x]]=_ from q]⟩
mutual
noncomputable def Nd.rep(L:List Th):Nat->Nd->Prop
 |i,.blob t=>L[i]?=some (.blob t)
 |i,.tree es=>∃ps:List (Str×Int),ps.map (·.1)=es.names/\L[i]?=some (.tree ps)/\es.rep L (ps.map (·.2))
noncomputable def Nds.rep(L:List Th):List Int->Nds->Prop
 |[],.nil=>True
 |i::is,.cons _ n r=>(∃k:Nat,i=k/\n.rep L k)/\r.rep L is
 |_,_=>False
end
mutual
theorem Nd.rep_ex{L L':List Th}(h:Ex L L'):∀(n:Nd)(i:Nat),n.rep L i->n.rep L' i
 |.blob t,i,e=>by rw[Nd.rep]at e ⊢;exact h.1 i _ e
 |.tree es,i,e=>by
  rw[Nd.rep]at e ⊢;obtain⟨ps,a,b,c⟩:=e;exact⟨ps,a,h.1 i _ b,Nds.rep_ex h es _ c⟩
theorem Nds.rep_ex{L L':List Th}(h:Ex L L'):∀(es:Nds)(is:List Int),es.rep L is->es.rep L' is
 |.nil,[],e=>by rw[Nds.rep];trivial
 |.nil,_::_,e=>by rw[Nds.rep]at e;exact e.elim;all_goals simp
 |.cons x n r,[],e=>by rw[Nds.rep]at e;exact e.elim;all_goals simp
 |.cons x n r,i::is,e=>by
  rw[Nds.rep]at e ⊢;obtain⟨⟨k,rfl,a⟩,b⟩:=e;exact⟨⟨k,rfl,Nd.rep_ex h n k a⟩,Nds.rep_ex h r is b⟩
end
mutual
noncomputable def Nd.cnt:Nd->Nat
 |.blob _=>1
 |.tree es=>es.cnt+1
noncomputable def Nds.cnt:Nds->Nat
 |.nil=>0
 |.cons _ n r=>n.cnt+r.cnt
end
def Hd(L:List Th)(i:Int):Prop:=∃t,atL L i=some t/\t.k≠bZ
def Hd.ex{L L':List Th}(e:Ex L L')(h:Hd L i):Hd L' i:=by
 obtain⟨t,a,b⟩:=h;obtain⟨n,rfl,c,_⟩:=rP a;exact⟨t,by simp[atL,e.1 n t c],b⟩
def Nd.hd{L:List Th}{n:Nd}{i:Nat}(h:n.rep L i):Hd L i:=by
 cases n with
 |blob t=>rw[Nd.rep]at h;exact⟨.blob t,by simp[atL,h],show dF≠bZ by decide⟩
 |tree es=>rw[Nd.rep]at h;obtain⟨ps,_,b,_⟩:=h;exact⟨.tree ps,by simp[atL,b],show bx≠bZ by decide⟩
theorem Nds.hds{L:List Th}:∀{es:Nds}{is:List Int},es.rep L is->(∀i∈is,Hd L i)/\is.length=es.names.length
 |.nil,[],_=>⟨nofun,rfl⟩
 |.nil,_::_,h=>by rw[Nds.rep]at h;exact h.elim;all_goals simp
 |.cons x n r,[],h=>by rw[Nds.rep]at h;exact h.elim;all_goals simp
 |.cons x n r,i::is,h=>by
  rw[Nds.rep]at h;obtain⟨⟨k,rfl,a⟩,b⟩:=h;obtain⟨p,q⟩:=Nds.hds b;refine⟨λj hj=>?_,by rw[lc0,q,Nds.names,lc0]⟩;rcases mq0 hj with e|hj
  .rw[e];exact Nd.hd a
  .exact p j hj
def jE{L:List Th}{es:List (Str×Int)}(h1:RiseS (es.map (·.1)))(h2:∀x∈es.map (·.1),au x=true)(h3:∀p∈es,Hd L p.2):om cNO cBT L es=none:=by
 have g:kP (es.map (·.1))=true:=by
  unfold kP;rw[List.all_eq_true.mpr h2,yl h1];rfl
 unfold om;rw[if_pos g,List.findSome?_eq_none_iff];intro p hp;obtain⟨t,a,b⟩:=h3 p hp;simp[yj,a,b]
abbrev lU(Ψ:FsM)(m:Nat):Prop:=fx Ψ "_law_store" [false,false] λrun=>∀(L:List Th)(n:Nd),n.ok 3 m->L.length+n.cnt<=900->∃L' i,run (vt L) [.hdl 0,n.d]=some (vt L',.ok (.int (i:Nat)))/\n.rep L' i/\Ex L L'/\L'.length<=L.length+n.cnt
theorem jF{k:Nat}{f:D->Ust->Option (D×Ust)}(hs:∀(L:List Th)(x:Str)(n:Nd),n.ok 3 k->L.length+n.cnt<=900->∃L' i,f (.tuple [.str x,n.d]) (vt L)=some (aX (x,((i:Nat):Int)),vt L')/\n.rep L' i/\Ex L L'/\L'.length<=L.length+n.cnt):∀(es:Nds)(L:List Th),es.ok 3 k->L.length+es.cnt<=900->
  ∃L' is,jr f es.ds (vt L)=some ((es.names.zip is).map aX,vt L')/\es.rep L' is/\Ex L L'/\L'.length<=L.length+es.cnt
 |.nil,L,_,_=>⟨L,[],rfl,by rw[Nds.rep];trivial,Ex.refl _,nr0 _⟩
 |.cons x n r,L,h,hz=>by
  rw[Nds.ok]at h;rw[Nds.cnt]at hz;obtain⟨L1,i,a1,a2,a3,a4⟩:=hs L x n h.1 (by omega);obtain⟨L2,is,b1,b2,b3,b4⟩:=jF hs r L1 h.2 (by omega);refine⟨L2,i::is,?_,?_,a3.trans b3,by rw[Nds.cnt];omega⟩
  .rw[Nds.ds,jr,a1,bs0,b1];rfl
  .rw[Nds.rep];exact⟨⟨i,rfl,Nd.rep_ex b3 n i a2⟩,b2⟩
def kR(hb:yv Ψ)(ht:lS Ψ cNO cBT)(m:Nat)(hs:∀k,m=k+1->lU Ψ k)(L:List Th)(n:Nd)(hn:n.ok 3 m)(hz:L.length+n.cnt<=900):
  ∃L' i,dC Z Ψ Γ c dc (vt L) [.hdl 0,n.d]=some (vt L',.ok (.int (i:Nat)))/\n.rep L' i/\Ex L L'/\L'.length<=L.length+n.cnt:=by
 obtain⟨r1,e1,h1⟩:=hb;obtain⟨r2,e2,h2⟩:=ht;simp only[aO,dc];cases n with
 |blob t=>
  rw[Nd.cnt]at hz;obtain⟨j,jt,q⟩:=h1 L t (by omega);obtain⟨p1,p2⟩:=lR L (.blob t);refine⟨putL L (.blob t),j,?_,by rw[Nd.rep];exact jt,p1,p2⟩;simp[Nd.d,bK,e1,q]
 |tree es=>
  cases m with
  |zero=>exact hn.elim
  |succ k=>
   rw[Nd.ok]at hn;obtain⟨n1,n2,n3,n4⟩:=hn;rw[Nd.cnt]at hz;obtain⟨r3,e3,h3⟩:=hs k rfl;have dl:es.ds.length<big:=by rw[Nds.len];exact Nat.lt_of_le_of_lt n3 (by decide)
   simp[Nd.d,dl,e2];generalize hf:cmF Z Ψ Γ c _ _ _ _ _=f;obtain⟨L1,is,a1,a2,a3,a4⟩:=jF (k:=k) (f:=f) (λL x n hn hz=>by
    obtain⟨L',i,p,q⟩:=h3 L n hn hz;exact⟨L',i,by rw[<-hf];simp[IH,e3,p,aX],q⟩) es L n4 (by omega)
   obtain⟨hd,il⟩:=Nds.hds a2;have f1:(es.names.zip is).map (·.1)=es.names:=List.map_fst_zip (by omega);have f2:(es.names.zip is).map (·.2)=is:=List.map_snd_zip (by omega);have zl:(es.names.zip is).length<=3:=by rw[List.length_zip];omega
   have q:=h2 L1 (es.names.zip is) (by omega) (λp hp=>nt0 (eO (n2 p.1 (by rw[<-f1];exact List.mem_map_of_mem hp))).2 (by omega)) (by omega);rw[jE (by rw[f1];exact n1) (by rw[f1];exact n2) λp hp=>hd _ (by rw[<-f2];exact List.mem_map_of_mem hp)]at q;obtain⟨j,jt,q⟩:=q;obtain⟨p1,p2⟩:=lR L1 (.tree (es.names.zip is));refine⟨putL L1 (.tree (es.names.zip is)),j,?_,by rw[Nd.rep];exact⟨_,f1,jt,by rw[f2];exact Nds.rep_ex p1 es is a2⟩,a3.trans p1,by rw[Nd.cnt];omega⟩;simp[a1,q]
mutual
theorem Nd.cnt_le:∀(n:Nd)(m:Nat),n.ok 3 m->n.cnt<=4 ^ m
 |.blob t,m,_=>by rw[Nd.cnt];exact Nat.one_le_pow _ _ (by omega)
 |.tree es,0,h=>h.elim
 |.tree es,m+1,h=>by
  rw[Nd.ok]at h;have:=Nds.cnt_le es m h.2.2.2;have h3:=h.2.2.1;have h1:1<=4 ^ m:=Nat.one_le_pow _ _ (by omega);rw[Nd.cnt,Nat.pow_succ];have:es.names.length*4 ^ m<=3*4 ^ m:=Nat.mul_le_mul_right _ h3;omega
theorem Nds.cnt_le:∀(es:Nds)(m:Nat),es.ok 3 m->es.cnt<=es.names.length*4 ^ m
 |.nil,m,_=>Nat.zero_le _
 |.cons x n r,m,h=>by
  rw[Nds.ok]at h;have h1:=Nd.cnt_le n m h.1;have h2:=Nds.cnt_le r m h.2;rw[Nds.cnt,Nds.names,lc0,Nat.succ_mul];omega
end
end TX
namespace L2.Z
open PySem SI
section
variable {r:Ss}{d:D}{ds:List D}{tg:Tg}
def FK:qh Z Γ tg r [] Y=some (.nx Y):=(rfl)
def yw:qh Z Γ tg r (d::ds) Y=(ar tg d Y).bind λY'=>(exs Z Γ Y' r).bind λo=>o.andThen (qh Z Γ tg r ds):=(rfl)
@[simp] def Nm{f:List Sl->Option Out}:(Out.nx Y).andThen f=f Y:=(rfl)
@[simp] def Nn{f:List Sl->Option Out}:(Out.rt d).andThen f=some (.rt d):=(rfl)
end
end L2.Z
namespace TX
open PySem SI M1 L2.Z
variable {Ψ:FsM}{cNO cBT w:Nat}
theorem lV{k:Sum Int Str}{v:α}:∀{l:List (Sum Int Str×α)},k∉l.map (·.1)->put l k v=l++[(k,v)]
 |[],_=>rfl
 |(j,w)::r,h=>by
  have h1:j≠k:=λe=>h (by simp[e])
  rw[put,if_neg h1,lV λz=>h (by simp[z])];rfl
theorem fy :∀{xs acc:List (Sum Int Str×α)},((acc++xs).map (·.1)).Nodup->putAll acc xs=acc++xs
 |[],acc,_=>by rw[putAll,List.append_nil]
 |(k,v)::r,acc,h=>by
  have e:acc++(k,v)::r=(acc++[(k,v)])++r:=by simp
  have hk:k∉acc.map (·.1):=λz=>by
   rw[List.map_append,mk0]at h;exact (List.nodup_append.mp h).2.2 k z k ms0 rfl
  rw[putAll,lV hk,fy (by rw[<-e];exact h),e]
noncomputable abbrev kvE(ps:List (Str×Int)):List (Sum Int Str×D):=ps.map λp=>(.inr p.1,.int p.2)
theorem kS:∀ps:List (Str×Int),pairsOf (ps.map aX)=some (kvE ps)
 |[]=>rfl
 |p::r=>by
  show (pairsOf (r.map aX)).map _=_;rw[kS r];rfl
def yx(h:xs.Nodup):(xs.map (Sum.inr:Str->Sum Int Str)).Nodup:=List.pairwise_map.mpr (h.imp λz e=>z (Sum.inr.inj e))
def ql{ps:List (Str×Int)}(h:(ps.map (·.1)).Nodup):putAll [] (kvE ps)=kvE ps:=by
 rw[fy]
 .rfl
 .have:=yx h
  rw[List.map_map]at this
  simpa [List.map_map,Function.comp_def]using this
noncomputable def Nds.look:Nds->Str->Option Nd
 |.nil,_=>none
 |.cons x n r,y=>if x=y then some n else r.look y
def Nds.kv:Nds->List (Sum Int Str×D)
 |.nil=>[]
 |.cons x n r=>(.inr x,n.d)::r.kv
theorem eR:∀es:Nds,pairsOf es.ds=some es.kv
 |.nil=>rfl
 |.cons x n r=>by
  show (pairsOf r.ds).map _=_;rw[eR r];rfl
theorem bP:∀es:Nds,es.kv.map (·.1)=es.names.map Sum.inr
 |.nil=>rfl
 |.cons x n r=>by rw[Nds.kv,Nds.names,mk0,mk0,bP r]
def fz{es:Nds}(h:es.names.Nodup):putAll [] es.kv=es.kv:=by
 rw[fy]
 .rfl
 .rw[List.nil_append,bP];exact yx h
theorem gi :∀es:Nds,SI.look es.kv (.inr x)=(es.look x).map Nd.d
 |.nil=>rfl
 |.cons y n r=>by
  show (if (Sum.inr y:Sum Int Str)=.inr x then some n.d else SI.look r.kv (.inr x))=_;rw[Nds.look]
  by_cases e:y=x
  .rw[if_pos (by rw[e]),if_pos e];rfl
  .rw[if_neg λz=>e (Sum.inr.inj z),if_neg e,gi r]
theorem jG{L:List Th}{x:Str}:∀{es:Nds}{ps:List (Str×Int)},ps.map (·.1)=es.names->es.rep L (ps.map (·.2))->match es.look x with
  |none=>SI.look (kvE ps) (.inr x)=none
  |some n=>∃k:Nat,SI.look (kvE ps) (.inr x)=some (.int k)/\n.rep L k
 |.nil,[],_,_=>rfl
 |.nil,_::_,h,_=>by cases h
 |.cons y n r,[],h,_=>by cases h
 |.cons y n r,(z,i)::ps,h,q=>by
  rw[Nds.names,mk0]at h;injection h with h1 h2
  subst h1;rw[mk0,Nds.rep]at q;obtain⟨⟨k,e,a⟩,b⟩:=q;have e:i=(k:Int):=e;have ih:=jG (x:=x) h2 b;rw[Nds.look];show match (if z=x then some n else r.look x)with|none=>(if (Sum.inr z:Sum Int Str)=.inr x then some (D.int i)else SI.look (kvE ps) (.inr x))=none|some n=>∃k:Nat,(if (Sum.inr z:Sum Int Str)=.inr x then some (D.int i)else SI.look (kvE ps) (.inr x))=some (.int k)/\n.rep L k
  by_cases c:z=x
  .subst c
   rw[if_pos rfl,if_pos rfl,e];exact⟨k,rfl,a⟩
  .rw[if_neg c,if_neg λz=>c (Sum.inr.inj z)]
   exact ih
def bh:Option Int->D
 |none=>.none
 |some i=>.int i
@[simp] def LQ:bh none=.none:=rfl
@[simp] def qm :bh (some i)=.int i:=rfl
def ndD:Option Nd->D
 |none=>.none
 |some n=>n.d
@[simp] def IK:ndD none=.none:=rfl
@[simp] def IL{n:Nd}:ndD (some n)=n.d:=rfl
def aI:Option Nd->Str->Option Nd
 |some (.tree es),x=>es.look x
 |_,_=>none
def RiseS.nd(h:RiseS xs):xs.Nodup:=h.imp λ{a b} z e=>by rw[e,bD]at z;cases z
noncomputable def Rp(w:Nat)(L:List Th):Option Int->Option Nd->Prop
 |none,none=>True
 |some i,some n=>∃k m:Nat,i=k/\n.rep L k/\n.ok w m
 |_,_=>False
theorem Nds.look_ok{n:Nd}:∀{es:Nds},es.ok w m->es.look x=some n->n.ok w m
 |.nil,_,h=>by cases h
 |.cons y k r,a,h=>by
  rw[Nds.ok]at a;rw[Nds.look]at h;split at h
  .cases h;exact a.1
  .exact Nds.look_ok a.2 h
abbrev Bo(c:Nat)(run:List D->Option D):Prop:=∀(h:Nat)(L:List Th),run [.vlt c h (L.map Th.o),.none]=some (.dict [])/\(∀n t,L[n]?=some (.blob t)->run [.vlt c h (L.map Th.o),.int (n:Nat)]=some (.dict []))/\∀n ps,L[n]?=some (.tree ps)->(ps.map (·.1)).Nodup->run [.vlt c h (L.map Th.o),.int (n:Nat)]=some (.dict (kvE ps))
abbrev FL(Z:Fs)(c:Nat):Prop:=Has Z "entries_by_name" [true,true] (Bo c)
def lW(hk:xU Z c)(he:jB Z c):Bo c (ans Z Γ (ay c)):=by
 obtain⟨r1,e1,h1⟩:=hk;obtain⟨r2,e2,h2⟩:=he;intro h L;refine⟨?_,λn t q=>?_,λn ps q nd=>?_⟩
 .simp only[ans_e,ay]
  simp[pairsOf,putAll]
 .have q1:(L.map Th.o)[n]?=some (.tuple (.str dF::[.str t])):=by rw[gm0,q];rfl
  simp only[ans_e,ay];simp[e1,h1 h _ n _ _ q1,pairsOf,putAll]
 .have q1:(L.map Th.o)[n]?=some (.tuple (.str bx::[.tuple (ps.map aX)])):=by rw[gm0,q];rfl
  simp only[ans_e,ay];simp[e1,h1 h _ n _ _ q1,e2,h2 h _ n _ q1,kS,ql nd]
def Bp{r:List D->Option D}(he:Bo c r)(h:Nat)(L:List Th){o:Option Int}{n:Option Nd}(R:Rp w L o n)(x:Str):∃kvs o',r [.vlt c h (L.map Th.o),bh o]=some (.dict kvs)/\(SI.look kvs (.inr x)).getD .none=bh o'/\Rp w L o' (aI n x):=by
 obtain⟨h1,h2,h3⟩:=he h L
 match o,n,R with
 |none,none,_=>exact⟨[],none,h1,rfl,trivial⟩
 |some i,some (.blob t),R=>
  obtain⟨k,m,rfl,a,_⟩:=R;rw[Nd.rep]at a;exact⟨[],none,h2 k t a,rfl,trivial⟩
 |some i,some (.tree es),R=>
  obtain⟨k,m,rfl,a,ok⟩:=R;rw[Nd.rep]at a;obtain⟨ps,a1,a2,a3⟩:=a;cases m with
  |zero=>exact ok.elim
  |succ m=>
   rw[Nd.ok]at ok;have lr:=jG (x:=x) a1 a3;show ∃kvs o',_/\_/\Rp w L o' (es.look x);cases q:es.look x with
   |none=>rw[q]at lr;exact⟨kvE ps,none,h3 k ps a2 (by rw[a1];exact RiseS.nd ok.1),by rw[lr];rfl,trivial⟩
   |some n=>
    rw[q]at lr;obtain⟨j,b1,b2⟩:=lr;exact⟨kvE ps,some (j:Int),h3 k ps a2 (by rw[a1];exact RiseS.nd ok.1),by rw[b1];rfl,j,m,rfl,b2,Nds.look_ok ok.2.2.2 q⟩
abbrev IM(w c:Nat)(run:List D->Option D):Prop:=∀(h:Nat)(L:List Th)(o:Option Int)(n:Option Nd)(xs:List Str),Rp w L o n->∃o',run [.vlt c h (L.map Th.o),bh o,.list (xs.map .str)]=some (bh o')/\Rp w L o' (xs.foldl aI n)/\(xs=[]->o'=o)
abbrev FM(w:Nat)(Z:Fs)(c:Nat):Prop:=Has Z "object_at" [true,true,true] (IM w c)
def Bq(he:FL Z c):IM w c (ans Z Γ cK):=by
 obtain⟨r1,e1,h1⟩:=he;intro h L o n xs R;have va:∀{Y:List Sl},Y[1]?=some (.lent (bh o))->ev Z Γ .val Y (.v 1)=some (bh o):=λ{Y} z=>by
  cases o<;>simp[z,bc]
 simp only[ans_e,cK]
 suffices H:∀(ys:List Str)(o1:Option Int)(n1:Option Nd)(s:Sl),Rp w L o1 n1->∃o' s',qh Z Γ (.one 4) (.cons (.set 3 (.get (.call "entries_by_name" (.cons (.v 0) (.cons (.v 3) .nil))) (.v 4))) .nil) (ys.map D.str) [.lent (.vlt c h (L.map Th.o)),.lent (bh o),.lent (.list (xs.map .str)),.dat (bh o1),s]=some (.nx [.lent (.vlt c h (L.map Th.o)),.lent (bh o),.lent (.list (xs.map .str)),.dat (bh o'),s'])/\Rp w L o' (ys.foldl aI n1)/\(ys=[]->o'=o1) by
  obtain⟨o',s',a,b⟩:=H xs o n .no R;refine⟨o',?_,b⟩;rw[exs_c,Ha];simp[va,a]
 intro ys
 induction ys with
 |nil=>intro o1 n1 s R1;exact⟨o1,s,rfl,R1,λd=>rfl⟩
 |cons y ys ih=>
  intro o1 n1 s R1;obtain⟨kvs,o2,a,b,R2⟩:=Bp h1 h L R1 y;obtain⟨o',s',a',b'⟩:=ih o2 (aI n1 y) (.dat (.str y)) R2;refine⟨o',s',?_,b'.1,nofun⟩;rw[mk0,yw];simp[e1,a,b,a']
variable {Ψ:FsM}{cNO cBT cNP cV w:Nat}
noncomputable abbrev NdOk(w:Nat):Option Nd->Prop
 |none=>True
 |some n=>∃m,n.ok w m
def NdOk.get{n:Option Nd}(h:NdOk w n):NdOk w (aI n x):=by
 match n,h with
 |none,_=>trivial
 |some (.blob t),_=>trivial
 |some (.tree es),⟨m,h⟩=>
  cases m with
  |zero=>exact h.elim
  |succ m=>
   rw[Nd.ok]at h;show NdOk w (es.look x);cases q:es.look x with
   |none=>trivial
   |some n=>exact⟨m,Nds.look_ok h.2.2.2 q⟩
theorem dg:∀xs:List Str,xs.foldl aI none=none
 |[]=>rfl
 |x::r=>dg r
abbrev IP(run:List D->Option D):Prop:=∀(n:Nd)(xs:List Str),NdOk 12 (some n)->run [n.d,.list (xs.map .str)]=some (ndD (xs.foldl aI (some n)))
abbrev FN(Z:Fs):Prop:=Has Z "_law_get" [true,true] IP
def Br:IP (ans Z Γ iC):=by
 intro n xs hn;simp only[ans_e,iC]
 suffices H:∀(ys:List Str)(o:Option Nd)(s0 s:Sl),NdOk 12 o->(s0=.lent (ndD o)\/s0=.dat (ndD o))->qi (nxS Z Γ (qh Z Γ (.one 2) bG (ys.map D.str) [s0,.lent (.list (xs.map .str)),s]) (.cons (.ret (.v 0)) .nil))=some (ndD (ys.foldl aI o)) by
  have:=H xs (some n) _ .no hn (.inl rfl)
  simpa using this
 intro ys
 induction ys with
 |nil=>
  intro o s0 s ho hs;rw[List.map_nil,FK];rcases hs with rfl|rfl
  .match o with
   |none=>simp
   |some (.blob t)=>simp[Nd.d,bc]
   |some (.tree es)=>simp[Nd.d,bc]
  .simp
 |cons y ys ih=>
  intro o s0 s ho hs;have ih:=ih (aI o y) (.dat (ndD (aI o y))) (.dat (.str y)) ho.get (.inr rfl);rw[mk0,yw,List.foldl_cons];unfold bG
  match o,ho with
  |none,_=>
   rw[show aI none y=none from rfl,dg];rcases hs with rfl|rfl<;>simp
  |some (.blob t),_=>
   rw[show aI (some (.blob t)) y=none from rfl,dg];rcases hs with rfl|rfl<;>simp[Nd.d]
  |some (.tree es),⟨m,ok⟩=>
   cases m with
   |zero=>exact ok.elim
   |succ m=>
    rw[Nd.ok]at ok;have e:(SI.look es.kv (.inr y)).getD .none=ndD (aI (some (.tree es)) y):=by
     rw[gi];show _=ndD (es.look y);cases es.look y<;>rfl
    unfold bG at ih;rcases hs with rfl|rfl<;>simp[Nd.d,eR,fz (RiseS.nd ok.1),e]<;>exact ih
theorem kT{L:List Th}{f:D->Option (Option D)}(hf:∀(x:Str)(k:Nat)(n:Nd),n.rep L k->n.ok 12 m->f (aX (x,(k:Int)))=some (some (.tuple [.str x,n.d]))):∀{es:Nds}{ps:List (Str×Int)},ps.map (·.1)=es.names->es.rep L (ps.map (·.2))->es.ok 12 m->aM f (ps.map aX)=some es.ds
 |.nil,[],_,_,_=>rfl
 |.nil,_::_,h,_,_=>by cases h
 |.cons y n r,[],h,_,_=>by cases h
 |.cons y n r,(z,i)::ps,h,q,ok=>by
  rw[Nds.names,mk0]at h;injection h with h1 h2
  rw[mk0,Nds.rep]at q;obtain⟨⟨k,e,a⟩,b⟩:=q;rw[Nds.ok]at ok;rw[show (z,i)=(y,(k:Int))from by rw[<-e,<-h1],mk0,aM,hf y k n a ok.1,bs0,kT hf h2 b ok.2];rfl
abbrev Cv(c m:Nat)(run:List D->Option D):Prop:=∀(h:Nat)(L:List Th)(n:Nd)(k:Nat),n.ok 12 m->n.rep L k->run [.vlt c h (L.map Th.o),.int k]=some n.d
abbrev rW(Z:Fs)(c m:Nat):Prop:=Has Z "_law_seen" [true,true] (Cv c m)
def oq(hk:xU Z c)(ht:yk Z c)(he:jB Z c)(m:Nat)(hs:∀k,m=k+1->rW Z c k):Cv c m (ans Z Γ (dZ c)):=by
 obtain⟨r1,e1,h1⟩:=hk;obtain⟨r2,e2,h2⟩:=ht;obtain⟨r3,e3,h3⟩:=he;intro h L n k ok rep;simp only[ans_e,dZ];cases n with
 |blob t=>
  rw[Nd.rep]at rep;have q1:(L.map Th.o)[k]?=some (Th.blob t).o:=by rw[gm0,rep];rfl
  simp[e1,h1 h _ k dF _ q1,e2,h2 h _ k _ rfl q1,Nd.d]
 |tree es=>
  cases m with
  |zero=>exact ok.elim
  |succ m=>
   obtain⟨r4,e4,h4⟩:=hs m rfl;rw[Nd.ok]at ok;rw[Nd.rep]at rep;obtain⟨ps,a1,a2,a3⟩:=rep;have q1:(L.map Th.o)[k]?=some (.tuple (.str bx::[.tuple (ps.map aX)])):=by rw[gm0,a2];rfl
   have pl:ps.length<=big:=by
    have:=congrArg List.length a1;rw[lm0]at this;rw[this];exact nt0 ok.2.2.1 (by decide)
   simp[e1,h1 h _ k bx _ q1,e3,h3 h _ k _ q1,pl];rw[kT (m:=m) (λx k n r o=>by simp[dY,aX,e4,h4 h L n k o r]) a1 a3 ok.2.2.2];simp[Nd.d]
section
variable {w:Nat}{es:Nds}{y:Str}{f:Str->Option Nd}{n o:Option Nd}
noncomputable def mkN:List Str->(Str->Option Nd)->Nds
 |[],_=>.nil
 |x::r,f=>match f x with
  |none=>mkN r f
  |some n=>.cons x n (mkN r f)
theorem gj:∀l:List Str,(mkN l f).names=l.filter λy=>(f y).isSome
 |[]=>rfl
 |x::r=>by
  rw[mkN];cases h:f x with
  |none=>rw[List.filter_cons_of_neg (by simp[h])];exact gj r
  |some n=>rw[List.filter_cons_of_pos (by simp[h]),Nds.names,gj r]
theorem lX:∀l:List Str,(mkN l f).look y=if y∈l then f y else none
 |[]=>rfl
 |x::r=>by
  rw[mkN];cases h:f x with
  |none=>
   show (mkN r f).look y=_;rw[lX r]
   by_cases e:y=x
   .subst e;simp[h]
   .simp[e]
  |some n=>
   rw[Nds.look,lX r]
   by_cases e:x=y
   .subst e;simp[h]
   .rw[if_neg e];simp[Ne.symm e]
theorem yy(h:∀y n,f y=some n->n.ok w m):∀l:List Str,(mkN l f).ok w m
 |[]=>trivial
 |x::r=>by
  rw[mkN];cases q:f x with
  |none=>exact yy h r
  |some n=>rw[Nds.ok];exact⟨h x n q,yy h r⟩
theorem eu:∀es:Nds,(es.look y).isSome=true↔y∈es.names
 |.nil=>by simp[Nds.look,Nds.names]
 |.cons x n r=>by
  rw[Nds.look,Nds.names,List.mem_cons,<-eu r]
  by_cases e:x=y
  .simp[e]
  .simp[e,Ne.symm e]
theorem rX:∀es:Nds,es.names.Nodup->es.ds=es.names.map λy=>.tuple [.str y,ndD (es.look y)]
 |.nil,_=>rfl
 |.cons x n r,h=>by
  rw[Nds.names]at h;obtain⟨h1,h2⟩:=List.nodup_cons.mp h;rw[Nds.ds,Nds.names,mk0,rX r h2,Nds.look,if_pos rfl]
  congr 1
  refine List.map_congr_left λy hy=>?_
  rw[Nds.look,if_neg λe=>h1 (by rw[e];exact hy)]
noncomputable def Nds.upd(es:Nds)(x:Str)(o:Option Nd):Nds:=mkN (srtS (x::es.names)) λy=>if y=x then o else es.look y
def eA:RiseS (es.upd x o).names:=by
 rw[Nds.upd,gj];exact (cj _).filter _
def eB:(es.upd x o).look y=if y=x then o else es.look y:=by
 rw[Nds.upd,lX]
 by_cases h:y∈srtS (x::es.names)
 .rw[if_pos h]
 .rw[if_neg h]
  rw[bM,List.mem_cons,not_or]at h;rw[if_neg h.1];cases q:es.look y with
  |none=>rfl
  |some n=>exact absurd ((eu es).mp (by rw[q];rfl)) h.2
def lY:y∈(es.upd x o).names↔if y=x then o.isSome=true else y∈es.names:=by
 rw[<-eu,eB]
 by_cases h:y=x
 .rw[if_pos h,if_pos h]
 .rw[if_neg h,if_neg h,eu]
def esO:Option Nd->Nds
 |some (.tree es)=>es
 |_=>.nil
def lZ:Nds->Option Nd
 |.nil=>none
 |es=>some (.tree es)
def iE:aI n x=(esO n).look x:=by
 match n with
 |none=>rfl
 |some (.blob t)=>rfl
 |some (.tree es)=>rfl
def FO:esO (lZ es)=es:=by cases es<;>rfl
noncomputable def inN:Option Nd->List Str->Option Nd->Option Nd
 |_,[],o=>o
 |n,x::r,o=>lZ ((esO n).upd x (inN (aI n x) r o))
noncomputable abbrev wiN(n:Option Nd)(x:Str)(r:List Str)(o:Option Nd):Nds:=(esO n).upd x (inN (aI n x) r o)
theorem qo:∀(xs:List Str)(n:Option Nd),xs.foldl aI (inN n xs o)=o
 |[],_=>rfl
 |x::r,n=>by
  rw[inN,List.foldl_cons,iE,FO,eB,if_pos rfl,qo r]
def FP :(x::r).foldl aI (some (.tree (wiN n x r o)))=o:=by
 rw[List.foldl_cons,iE,esO,eB,if_pos rfl,qo]
mutual
theorem Nd.up{w' m':Nat}(h:w<=w'):∀(n:Nd)(m:Nat),m<=m'->n.ok w m->n.ok w' m'
 |.blob t,m,hm,k=>by rw[Nd.ok]at k ⊢;exact k
 |.tree es,0,hm,k=>k.elim
 |.tree es,m+1,hm,k=>by
  obtain⟨j,rfl⟩:=Nat.exists_eq_add_of_le hm;rw[show m+1+j=(m+j)+1 by omega]at *;rw[Nd.ok]at k ⊢;exact⟨k.1,k.2.1,nt0 k.2.2.1 h,Nds.up h es m (Nat.le_add_right _ _) k.2.2.2⟩
theorem Nds.up{w' m':Nat}(h:w<=w'):∀(es:Nds)(m:Nat),m<=m'->es.ok w m->es.ok w' m'
 |.nil,m,hm,k=>trivial
 |.cons x n r,m,hm,k=>by
  rw[Nds.ok]at k ⊢;exact⟨Nd.up h n m hm k.1,Nds.up h r m hm k.2⟩
end
noncomputable abbrev OkN(w m:Nat):Option Nd->Prop
 |none=>True
 |some n=>n.ok w m
def yz(h1:∀x∈es.names,au x=true)(h2:es.names.length<=w)(h3:es.ok (w+1) m)(hx:au x=true)(ho:OkN (w+1) m o):(Nd.tree (es.upd x o)).ok (w+1) (m+1):=by
 rw[Nd.ok];refine⟨eA,λy hy=>?_,?_,yy (λy n h=>?_) _⟩
 .rw[lY]at hy
  by_cases e:y=x
  .rw[e];exact hx
  .rw[if_neg e]at hy;exact h1 y hy
 .rw[Nds.upd,gj]
  refine nt0 (List.length_filter_le _ _) (nt0 (jd _) ?_);rw[lc0];omega
 .split at h
  .subst h;exact ho
  .exact Nds.look_ok h3 h
def yA(h:OkN w (m+1) n):(∀x∈(esO n).names,au x=true)/\(esO n).names.length<=w/\(esO n).ok w m:=by
 match n,h with
 |none,_=>exact⟨nofun,Nat.zero_le _,trivial⟩
 |some (.blob t),_=>exact⟨nofun,Nat.zero_le _,trivial⟩
 |some (.tree es),h=>rw[OkN,Nd.ok]at h;exact h.2
theorem Cw:∀(r:List Str)(x:Str)(n:Option Nd)(m:Nat),OkN w (m+1) n->(∀y∈x::r,au y=true)->r.length+k<=m->OkN (w+1) k o->(Nd.tree (wiN n x r o)).ok (w+1) (m+1)
 |[],x,n,m,h,hx,hm,ho=>by
  obtain⟨a,b,c⟩:=yA h;refine yz a b (Nds.up (Nat.le_succ _) _ m (nr0 _) c) (hx x ms0) ?_
  match o,ho with
  |none,_=>trivial
  |some n,ho=>exact Nd.up (nr0 _) n k (by simpa using hm) ho
 |y::r,x,n,m,h,hx,hm,ho=>by
  obtain⟨a,b,c⟩:=yA h;cases m with
  |zero=>simp at hm
  |succ m=>
   refine yz a b (Nds.up (Nat.le_succ _) _ _ (nr0 _) c) (hx x ms0) ?_;have g:OkN w (m+1) (aI n x):=by
    rw[iE];cases q:(esO n).look x with
    |none=>trivial
    |some z=>exact Nds.look_ok c q
   have ih:=Cw r y (aI n x) m g (λz hz=>hx z (mc0 _ hz)) (by rw[lc0]at hm;omega) ho;show OkN _ _ (lZ (wiN (aI n x) y r o));cases q:wiN (aI n x) y r o with
   |nil=>trivial
   |cons=>rw[q]at ih;exact ih
end
variable {Ψ:FsM}{cNO cBT cNP cV w:Nat}
theorem Nds.at:∀(es:Nds)(i:Nat),i<es.ds.length->∃x n,es.ds[i]?=some (.tuple [.str x,Nd.d n])/\x∈es.names
 |.nil,i,h=>by cases h
 |.cons x n r,0,_=>⟨x,n,rfl,ms0⟩
 |.cons x n r,i+1,h=>by
  obtain⟨y,k,a,b⟩:=Nds.at r i (Nat.lt_of_succ_lt_succ h);exact⟨y,k,a,mc0 _ b⟩
abbrev IQ(run:List D->Option D):Prop:=∀ns k (n:Nd),NdOk 12 (some n)->∃ts:List Str,1<=ts.length/\ts.length<=3/\(∀t∈ts,au t=true)/\run [.scr ns,.int k,n.d]=some (.list (ts.map .str))
abbrev FQ(Z:Fs):Prop:=Has Z "_law_way" [true,true,true] IQ
def dsO:Option Nd->List D
 |some (.tree es)=>es.ds
 |_=>[]
def kvO:Option Nd->List (Sum Int Str×D)
 |some (.tree es)=>es.kv
 |_=>[]
def FR{o:Option Nd}{s0 s1:Sl}{r:List Sl}(h:s2=.lent (ndD o)\/s2=.dat (ndD o)):ev Z Γ .val (s0::s1::s2::r) xW=some (.list (dsO o)):=by
 unfold xW
 match o with
 |none=>rcases h with rfl|rfl<;>simp[dsO]
 |some (.blob t)=>rcases h with rfl|rfl<;>simp[dsO,Nd.d]
 |some (.tree es)=>rcases h with rfl|rfl<;>simp[dsO,Nd.d]
def FS{o:Option Nd}(h:NdOk w o):pairsOf (dsO o)=some (kvO o)/\putAll [] (kvO o)=kvO o/\(∀y:Str,(SI.look (kvO o) (.inr y)).getD .none=ndD (aI o y))/\∀i:Nat,i<(dsO o).length->∃(x:Str)(n:Nd),(dsO o)[i]?=some (.tuple [.str x,n.d])/\au x=true:=by
 match o,h with
 |none,_=>exact⟨rfl,rfl,λc=>rfl,nofun⟩
 |some (.blob t),_=>exact⟨rfl,rfl,λc=>rfl,nofun⟩
 |some (.tree es),⟨0,ok⟩=>exact ok.elim
 |some (.tree es),⟨d+1,ok⟩=>
  rw[Nd.ok]at ok;refine⟨eR es,fz (RiseS.nd ok.1),λy=>?_,λi hi=>?_⟩
  .rw[kvO,gi];show _=ndD (es.look y);cases es.look y<;>rfl
  .obtain⟨x,n,a,b⟩:=Nds.at es i hi
   exact⟨x,n,a,ok.2.1 x b⟩
def FU{k N:Int}{x:Nat}{r1 r2:List D->Option D}{nm:Str}{o:Option Nd}{s5 s6 s7:Sl}{ts:List Str}(e1:Z "_law_mix"=some ⟨[true,true],r1⟩)(e2:Z "_law_name"=some ⟨[true,true],r2⟩)(q1:r1 [.scr ns,.int (k+1+x)]=some (.int N))(q2:r2 [.scr ns,.int (k+4+x)]=some (.str nm))(hn:au nm=true)(h:NdOk w o)(h2:s2=.lent (ndD o)\/s2=.dat (ndD o))(hb:ts.length<big):
  ∃t:Str,au t=true/\exs Z Γ [.lent (.scr ns),.lent (.int k),s2,.own (.list (ts.map .str)),.dat (.int x),s5,s6,s7] bW=some (.nx [.lent (.scr ns),.lent (.int k),.dat (ndD (aI o t)),.own (.list ((ts++[t]).map .str)),.dat (.int x),.dat (.list (dsO o)),.dat (.int N),.dat (.str t)]):=by
 obtain⟨k1,k2,k3,k4⟩:=FS h;have va:=λs0 s1 r=>FR (Z:=Z) (Γ:=Γ) (s0:=s0) (s1:=s1) (r:=r) h2
 unfold bW
 by_cases z:¬dsO o=[]/\0<N % 4
 .obtain⟨z1,z2⟩:=z
  have lp:=lp0 z1;have g1:=en0 (N / 4) (b:=((dsO o).length:Int)) (by omega);have g2:=el0 (N / 4) (b:=((dsO o).length:Int)) (by omega);obtain⟨y,n1,a,b⟩:=k4 (N / 4 % (dsO o).length).toNat (by omega);have ea:atI (dsO o) (N / 4 % (dsO o).length)=some (.tuple [.str y,n1.d]):=by rw[bK g1 g2];exact a
  exact⟨y,b,by simp[va,e1,q1,e2,q2,hb,k1,k2,k3,z1,z2,ea,lp]⟩
 .refine⟨nm,hn,?_⟩
  simp[va,e1,q1,e2,q2,hb,k1,k2,k3,if_neg z]
def Bs(hm:nX Z)(hn:xY Z):IQ (ans Z Γ iD):=by
 intro ns k n hok;obtain⟨r1,e1,h1⟩:=hm;obtain⟨r2,e2,h2⟩:=hn;have g:=lN ns k 3 (by decide);simp only[ans_e,iD];simp[e1,h1,uv (n:=1+mixF ns k % 3) (by omega) (by omega)];refine Cg (F:=λs:List Str×Option Nd×Sl×Sl×Sl×Sl×Sl=>[.lent (.scr ns),.lent (.int k),s.2.2.1,.own (.list (s.1.map .str)),s.2.2.2.1,s.2.2.2.2.1,s.2.2.2.2.2.1,s.2.2.2.2.2.2]) (s:=([],some n,.lent n.d,.no,.no,.no,.no))
  (λm s=>s.1.length+m=(1+mixF ns k % 3).toNat/\(∀t∈s.1,au t=true)/\NdOk 12 s.2.1/\(s.2.2.1=.lent (ndD s.2.1)\/s.2.2.1=.dat (ndD s.2.1)))
  (P:=λo=>∃ts:List Str,1<=ts.length/\ts.length<=3/\(∀t∈ts,au t=true)/\qi (nxS Z Γ o _)=some (.list (ts.map .str))) (λs j=>⟨s.1,by have:=j.1;omega,by have:=j.1;omega,j.2.1,by simp⟩) (λx a m s j=>?_) ⟨by simp,nofun,hok,.inl rfl⟩
 obtain⟨ts,o,s2,s4,s5,s6,s7⟩:=s;obtain⟨j1,j2,j3,j4⟩:=j;have j1:ts.length+(m+1)=(1+mixF ns k % 3).toNat:=j1;obtain⟨nm,q2,hn⟩:=h2 ns (k+4+x);obtain⟨t,ht,e⟩:=FU (s5:=s5) (s6:=s6) (s7:=s7) e1 e2 (h1 ns (k+1+x)) q2 hn j3 j4 (nl0 (show ts.length<4 by omega) (by decide));exact⟨(ts++[t],aI o t,_,_,_,_,_),⟨by simp;omega,λu hu=>(ma0 hu).elim (j2 u) λz=>by rw[List.mem_singleton.mp z];exact ht,j3.get,.inr rfl⟩,e⟩
def yB{k:Nat}(s:Str)(h:xs.length<=k)(hx:∀x∈xs,x.length+s.length<=m):(xs.map (·.length)).sum+xs.length*s.length<=k*m:=by
 have:∀xs:List Str,(∀x∈xs,x.length+s.length<=m)->(xs.map (·.length)).sum+xs.length*s.length<=xs.length*m:=by
  intro xs
  induction xs with
  |nil=>intro _;simp
  |cons x r ih=>
   intro h;have h1:=h x ms0;have h2:=ih λy hy=>h y (mc0 _ hy)
   rw[mk0,List.sum_cons,lc0,Nat.succ_mul,Nat.succ_mul];omega
 exact nt0 (this xs hx) (Nat.mul_le_mul_right _ h)
variable {Ψ:FsM}{cNO cBT cNP w:Nat}
noncomputable def dE:List (Str×Int)->Str->Int->List (Str×Int)
 |[],x,i=>[(x,i)]
 |p::r,x,i=>if p.1=x then (x,i)::r else p::dE r x i
def ot(es:List (Str×Int))(x:Str):List (Str×Int):=es.filter λp=>decide (p.1≠x)
theorem yC :∀es:List (Str×Int),put (kvE es) (.inr x) (.int i)=kvE (dE es x i)
 |[]=>rfl
 |(y,j)::r=>by
  show (if (Sum.inr y:Sum Int Str)=.inr x then (Sum.inr y,D.int i)::kvE r else (Sum.inr y,D.int j)::put (kvE r) (.inr x) (.int i))=kvE (if y=x then (x,i)::r else (y,j)::dE r x i)
  by_cases e:y=x
  .subst e;rw[if_pos rfl,if_pos rfl];rfl
  .rw[if_neg λz=>e (Sum.inr.inj z),if_neg e,yC r];rfl
def Bt(es:List (Str×Int)):dI (kvE es) (.inr x)=kvE (ot es x):=by
 unfold dI ot kvE;rw[List.filter_map]
 congr 1
 refine List.filter_congr λp a=>?_
 simp
theorem yD:∀{es:List (Str×Int)},(∀p∈es,cv p.1=true)->mG (kvE es)=some es
 |[],_=>rfl
 |p::r,h=>by
  show (if cv p.1 then (mG (kvE r)).map ((p.1,p.2)::·)else none)=_;rw[if_pos (h p ms0),yD λq hq=>h q (mc0 _ hq)];rfl
theorem fA :∀{es:List (Str×Int)}{y:Str},y∈(dE es x i).map (·.1)->y=x\/y∈es.map (·.1)
 |[],y,h=>by left;simpa [dE]using h
 |p::r,y,h=>by
  rw[dE]at h;split at h
  .rw[mk0]at h
   rcases mq0 h with z|z
   .exact .inl z
   .exact .inr (mc0 _ z)
  .rw[mk0]at h
   rcases mq0 h with z|z
   .exact .inr (by rw[z];exact ms0)
   .exact (fA z).imp id (mc0 _)
theorem putE_mem :∀{es:List (Str×Int)}{p:Str×Int},p∈dE es x i->p=(x,i)\/p∈es
 |[],p,h=>by left;simpa [dE]using h
 |q::r,p,h=>by
  rw[dE]at h;split at h
  .exact (mq0 h).imp id (mc0 _)
  .rcases mq0 h with z|z
   .exact .inr (by rw[z];exact ms0)
   .exact (putE_mem z).imp id (mc0 _)
theorem md :∀es:List (Str×Int),(x,i)∈dE es x i
 |[]=>ms0
 |p::r=>by
  rw[dE];split
  .exact ms0
  .exact mc0 _ (md r)
theorem ou{x:Str}{i:Int}:∀es:List (Str×Int),(dE es x i).length<=es.length+1
 |[]=>nr0 _
 |p::r=>by
  rw[dE];split
  .simp
  .have:=ou (x:=x) (i:=i) r
   simp;omega
set_option tactic.hygienic true in
theorem rY :∀{es:List (Str×Int)},(es.map (·.1)).Nodup->((dE es x i).map (·.1)).Nodup
 |[],_=>by simp[dE]
 |p::r,h=>by
  obtain⟨h1,h2⟩:=List.nodup_cons.mp h;rw[dE];split
  .rename_i e
   refine List.nodup_cons.mpr ⟨λz=>h1 ?_,h2⟩;show p.1∈_;rw[e];exact z
  .rename_i e
   exact List.nodup_cons.mpr ⟨λz=>(fA z).elim e h1,rY h2⟩
theorem kU :∀(es:List (Str×Int)){p:Str×Int},p∈es->p.1≠x->p∈dE es x i
 |q::r,p,h,e=>by
  rw[dE];rcases mq0 h with rfl|h
  .rw[if_neg e];exact ms0
  .split
   .exact mc0 _ h
   .exact mc0 _ (kU r h e)
theorem kW :∀{l:List (α×β)}{p q:α×β},(l.map (·.1)).Nodup->p∈l->q∈l->p.1=q.1->p=q
 |a::l,p,q,nd,hp,hq,e=>by
  obtain⟨n1,n2⟩:=List.nodup_cons.mp nd;rcases mq0 hp with u|u
  .rcases mq0 hq with v|v
   .rw[u,v]
   .exact absurd (show a.1∈_ by rw[<-u,e];exact List.mem_map_of_mem v) n1
  .rcases mq0 hq with v|v
   .exact absurd (show a.1∈_ by rw[<-v,<-e];exact List.mem_map_of_mem u) n1
   .exact kW n2 u v e
def rZ(h:au x=true):cv x=true:=by
 unfold au at h;simp only[be0]at h;refine List.all_eq_true.mpr λc hc=>dt0 ?_
 have:=od0 (List.all_eq_true.mp h.2 c hc);have q:∀c∈signs65,c<0x110000:=by decide
 exact q c this
structure GoodE(L:List Th)(n:Nat)(es:List (Str×Int)):Prop where
 rise:RiseS (es.map (·.1))
 name:∀x∈es.map (·.1),au x=true
 len:es.length<=n
 hd:∀p∈es,Hd L p.2
def GoodE.short{L:List Th}{es:List (Str×Int)}(h:GoodE L n es):∀p∈es,p.1.length<=1000:=λp hp=>nt0 (eO (h.name p.1 (List.mem_map_of_mem hp))).2 (by omega)
def FV{es:List (Str×Int)}(hn:∀x∈es.map (·.1),au x=true)(hl:es.length<64):qK (.dict (kvE es))=some (.list ((ie es).map aX)):=by
 show (mG (kvE es)).bind _=_;rw[yD λp hp=>rZ (hn p.1 (List.mem_map_of_mem hp)),bs0,if_pos hl];rfl
def srt_names{es:List (Str×Int)}:x∈(ie es).map (·.1)↔x∈es.map (·.1):=((srtP_perm es).map (·.1)).mem_iff
def yE{L:List Th}{es:List (Str×Int)}(nd:(es.map (·.1)).Nodup)(hn:∀x∈es.map (·.1),au x=true)(hl:es.length<=n)(hd:∀p∈es,Hd L p.2):GoodE L n (ie es):=
 ⟨List.pairwise_map.mpr (gL nd),λx hx=>hn x (srt_names.mp hx),by rw[(srtP_perm es).length_eq];exact hl,λp hp=>hd p ((srtP_perm es).mem_iff.mp hp)⟩
def RepN(L:List Th)(ps:List (Str×Int))(es:Nds):Prop:=ps.map (·.1)=es.names/\es.rep L (ps.map (·.2))
def RepN.ex{L L':List Th}{ps:List (Str×Int)}{es:Nds}(h:RepN L ps es)(e:Ex L L'):RepN L' ps es:=⟨h.1,Nds.rep_ex e _ _ h.2⟩
theorem sd{L:List Th}:∀{es:Nds}{ps:List (Str×Int)},es.names.Nodup->ps.map (·.1)=es.names->es.rep L (ps.map (·.2))->∀p∈ps,∃n,es.look p.1=some n/\∃k:Nat,p.2=k/\n.rep L k
 |.nil,[],_,_,_=>nofun
 |.nil,_::_,_,h,_=>by cases h
 |.cons y n r,[],_,h,_=>by cases h
 |.cons y n r,(z,i)::ps,nd,h,q=>by
  rw[Nds.names]at nd;obtain⟨n1,n2⟩:=List.nodup_cons.mp nd;rw[Nds.names,mk0]at h;injection h with h1 h2
  subst h1;rw[mk0,Nds.rep]at q;obtain⟨⟨k,e,a⟩,b⟩:=q;intro p hp;rcases mq0 hp with rfl|hp
  .exact⟨n,by rw[Nds.look,if_pos rfl],k,e,a⟩
  .obtain⟨n',c1,c2⟩:=sd n2 h2 b p hp
   refine⟨n',?_,c2⟩;rw[Nds.look,if_neg λe=>n1 ?_]
   .exact c1
   .have e:z=p.1:=e
    show z∈r.names;rw[e,<-h2];exact List.mem_map_of_mem hp
theorem yF{L:List Th}:∀{es:Nds}{ps:List (Str×Int)},es.names.Nodup->ps.map (·.1)=es.names->(∀p∈ps,∃n,es.look p.1=some n/\∃k:Nat,p.2=k/\n.rep L k)->es.rep L (ps.map (·.2))
 |.nil,[],_,_,_=>by rw[List.map_nil,Nds.rep];trivial
 |.nil,_::_,_,h,_=>by cases h
 |.cons y n r,[],_,h,_=>by cases h
 |.cons y n r,(z,i)::ps,nd,h,q=>by
  rw[Nds.names]at nd;obtain⟨n1,n2⟩:=List.nodup_cons.mp nd;rw[Nds.names,mk0]at h;injection h with h1 h2
  subst h1;rw[mk0,Nds.rep];refine⟨?_,yF n2 h2 λp hp=>?_⟩
  .obtain⟨n',a,b⟩:=q _ ms0
   rw[Nds.look,if_pos rfl]at a;cases a;exact b
  .obtain⟨n',a,b⟩:=q p (mc0 _ hp)
   rw[Nds.look,if_neg λe:z=p.1=>n1 (by show z∈r.names;rw[e,<-h2];exact List.mem_map_of_mem hp)]at a;exact⟨n',a,b⟩
noncomputable def updE(ps:List (Str×Int))(x:Str):Option Int->List (Str×Int)
 |some i=>dE ps x i
 |none=>ot ps x
noncomputable def Rq(L:List Th):Option Int->Option Nd->Prop
 |none,none=>True
 |some i,some n=>∃k:Nat,i=k/\n.rep L k
 |_,_=>False
def Rq.ex{L L':List Th}{i:Option Int}{n:Option Nd}(h:Rq L i n)(e:Ex L L'):Rq L' i n:=by
 match i,n,h with
 |none,none,_=>trivial
 |some i,some n,⟨k,a,b⟩=>exact⟨k,a,Nd.rep_ex e _ _ b⟩
def ox{L:List Th}{ps:List (Str×Int)}{es:Nds}{i:Option Int}{o:Option Nd}(g:GoodE L w ps)(r:RepN L ps es)(hx:au x=true)(h:Rq L i o):(∀y∈(updE ps x i).map (·.1),au y=true)/\(updE ps x i).length<=w+1/\GoodE L (w+1) (ie (updE ps x i))/\RepN L (ie (updE ps x i)) (es.upd x o):=by
 have nd:=RiseS.nd g.rise;have ndE:es.names.Nodup:=by rw[<-r.1];exact nd
 have mem:=sd ndE r.1 r.2;obtain⟨nm,nd2,ln,it⟩:(∀y,y∈(updE ps x i).map (·.1)↔if y=x then i.isSome=true else y∈ps.map (·.1))/\((updE ps x i).map (·.1)).Nodup/\(updE ps x i).length<=w+1/\∀p∈updE ps x i,(p.1=x/\i=some p.2)\/(p.1≠x/\p∈ps):=by
  cases i with
  |none=>
   have sub:(ot ps x).map (·.1)|>.Sublist (ps.map (·.1)):=(List.filter_sublist).map _
   refine⟨λy=>?_,sub.nodup nd,nt0 (List.length_filter_le _ _) (Nat.le_succ_of_le g.len),λp hp=>.inr ?_⟩
   .unfold updE ot
    by_cases e:y=x
    .subst e;simp
    .simp[e]
   .obtain⟨a,b⟩:=List.mem_filter.mp hp
    exact⟨by simpa using b,a⟩
  |some j=>
   have nd2:=rY (x:=x) (i:=j) nd;refine⟨λy=>⟨λh=>?_,λh=>?_⟩,nd2,nt0 (ou ps) (Nat.succ_le_succ g.len),λp hp=>?_⟩
   .by_cases e:y=x
    .simp[e]
    .rw[if_neg e];exact (fA h).resolve_left e
   .by_cases e:y=x
    .rw[e];exact List.mem_map_of_mem (f:=(·.1)) (md ps)
    .rw[if_neg e]at h
     obtain⟨p,hp,rfl⟩:=mm0 h;exact List.mem_map_of_mem (kU ps hp e)
   .by_cases e:p.1=x
    .refine .inl ⟨e,?_⟩
     rcases putE_mem hp with z|z
     .rw[z]
     .have:=kW nd2 hp (md ps) e
      rw[this]
    .exact .inr ⟨e,(putE_mem hp).resolve_left λz=>e (by rw[z])⟩
 have hn:∀y∈(updE ps x i).map (·.1),au y=true:=λy hy=>by
  rw[nm]at hy
  by_cases e:y=x
  .rw[e];exact hx
  .rw[if_neg e]at hy;exact g.name y hy
 have hd:∀p∈updE ps x i,Hd L p.2:=λp hp=>by
  rcases it p hp with⟨_,e⟩|⟨_,e⟩
  .subst e
   match o,h with
   |some n,⟨k,a,b⟩=>rw[a];exact Nd.hd b
  .exact g.hd p e
 have gs:=yE nd2 hn ln hd;have iso:i.isSome=o.isSome:=by
  match i,o,h with
  |none,none,_=>rfl
  |some i,some n,_=>rfl
 have ne:(ie (updE ps x i)).map (·.1)=(es.upd x o).names:=fR gs.rise eA λy=>by
  rw[srt_names,nm,lY,<-r.1,iso]
 refine⟨hn,ln,gs,ne,yF (RiseS.nd eA) ne λp hp=>?_⟩;rw[eB];rcases it p ((srtP_perm _).mem_iff.mp hp)with⟨a,e⟩|⟨a,e⟩
 .subst e
  match o,h with
  |some n,⟨k,b,c⟩=>exact⟨n,if_pos a,k,b,c⟩
 .rw[if_neg a];exact mem p e
def yG{r:List D->Option D}(he:Bo c r)(h:Nat)(L:List Th){o:Option Int}{n:Option Nd}(R:Rp w L o n):∃ps,r [.vlt c h (L.map Th.o),bh o]=some (.dict (kvE ps))/\GoodE L w ps/\RepN L ps (esO n)/\∀x,∃o',(SI.look (kvE ps) (.inr x)).getD .none=bh o'/\Rp w L o' (aI n x)/\((SI.look (kvE ps) (.inr x)).isSome=o'.isSome):=by
 obtain⟨h1,h2,h3⟩:=he h L;have nil:GoodE L w []:=⟨.nil,nofun,Nat.zero_le _,nofun⟩;have nilR:RepN L [] .nil:=⟨rfl,by rw[List.map_nil,Nds.rep];trivial⟩
 match o,n,R with
 |none,none,_=>exact⟨[],h1,nil,nilR,λx=>⟨none,rfl,trivial,rfl⟩⟩
 |some i,some (.blob t),R=>
  obtain⟨k,m,rfl,a,_⟩:=R;rw[Nd.rep]at a;exact⟨[],h2 k t a,nil,nilR,λx=>⟨none,rfl,trivial,rfl⟩⟩
 |some i,some (.tree es),R=>
  obtain⟨k,m,rfl,a,ok⟩:=R;rw[Nd.rep]at a;obtain⟨ps,a1,a2,a3⟩:=a;cases m with
  |zero=>exact ok.elim
  |succ m=>
   rw[Nd.ok]at ok;have hl:=congrArg List.length a1;rw[lm0]at hl;refine⟨ps,h3 k ps a2 (by rw[a1];exact RiseS.nd ok.1),⟨by rw[a1];exact ok.1,by rw[a1];exact ok.2.1,by rw[hl];exact ok.2.2.1,λp hp=>(Nds.hds a3).1 p.2 (List.mem_map_of_mem hp)⟩,⟨a1,a3⟩,λx=>?_⟩;have lr:=jG (x:=x) a1 a3;show ∃o',_/\Rp w L o' (es.look x)/\_;cases q:es.look x with
   |none=>rw[q]at lr;exact⟨none,by rw[lr];rfl,trivial,by rw[lr];rfl⟩
   |some n=>
    rw[q]at lr;obtain⟨j,b1,b2⟩:=lr;exact⟨some (j:Int),by rw[b1];rfl,⟨j,m,rfl,b2,Nds.look_ok ok.2.2.2 q⟩,by rw[b1];rfl⟩
abbrev FW(cNO cBT:Nat)(run:Ust->List D->Option (Ust×R)):Prop:=(∀L:List Th,run (vt L) [.hdl 0,.list []]=some (vt L,.ok .none))/\∀(L:List Th)(es:List (Str×Int)),es≠[]->es.length<=12->(∀p∈es,p.1.length<=1000)->L.length<1000->yr L (.tree es) (om cNO cBT L es) (run (vt L) [.hdl 0,.list (es.map aX)])
abbrev IR(Ψ:FsM)(cNO cBT:Nat):Prop:=fx Ψ "tree_or_none" [false,false] (FW cNO cBT)
def se(ht:lS Ψ cNO cBT):FW cNO cBT (dC Z Ψ Γ c aQ):=by
 obtain⟨r1,e1,h1⟩:=ht;refine⟨λL=>?_,λL es ne hl hx hz=>?_⟩
 .simp only[aO,aQ]
  simp[eqD,okS]
 .have q:=h1 L es hl hx hz
  have e:eqD (.list (es.map aX)) (.list [])=some false:=by
   rw[mH (by simp[okS,aX]) rfl,df0 (by simpa using ne)]
  generalize hr:r1 (vt L) [.hdl 0,.list (es.map aX)]=o at q;have:dC Z Ψ Γ c aQ (vt L) [.hdl 0,.list (es.map aX)]=o:=by
   simp only[aO,aQ];simp[e,e1,hr];cases o with
   |none=>rfl
   |some z=>obtain⟨U,r⟩:=z;cases r<;>rfl
  rw[this];exact q
variable {Ψ:FsM}{cNO cBT cNP w:Nat}
@[simp] def LR{U:Ust}{d:D}:vE c U (.own d)=.lent d:=rfl
@[simp] def LS{U:Ust}{o:Option Int}:vE c U (.dat (bh o))=.dat (bh o):=by cases o<;>rfl
@[simp] def JR{U:Ust}{k:List (Sum Int Str×D)}:vE c U (.dat (.dict k))=.dat (.dict k):=rfl
@[simp] def LU{d:D}:dW (.own d)=true:=rfl
def jH{x:α}{l:List α}:cut (x::l) (some 1) none=l:=by
 simp[cut,sIx]
noncomputable abbrev yH:SMs:=.cons (.ifs (.cmp .isN (.v 3) (.k .none)) (.cons (.pure (.dpop 4 (.v 5))) .nil) (.cons (.pure (.seti 4 (.v 5) (.v 3))) .nil)) (.cons (.ret (.p (.srtp (.v 4)))) .nil)
def yI{U:Ust}{F N:D}{ps:List (Str×Int)}{i:Option Int}(nf:∀y∈(updE ps x i).map (·.1),au y=true)(hl:ps.length<=12)(hu:(updE ps x i).length<64)(hx:i=none->(SI.look (kvE ps) (.inr x)).isSome=true):uw (aV Z Ψ Γ c [.dat (.hdl 0),.dat F,.dat N,.dat (bh i),.own (.dict (kvE ps)),.dat (.str x)] U yH)=some (U,.ok (.list ((ie (updE ps x i)).map aX))):=by
 have st:=FV nf hu;simp only[qK]at st;cases i with
 |none=>unfold updE at st ⊢;simp[yH,Bt,hx rfl,st]
 |some i=>unfold updE at st ⊢;simp[yH,yC,show ps.length<1000 by omega,st]
abbrev SEw(m:Nat)(run:Ust->List D->Option (Ust×R)):Prop:=∀(w:Nat)(L:List Th)(o:Option Int)(n:Option Nd)(x:Str)(r:List Str)(i:Option Int)(th:Option Nd),w<=11->Rp w L o n->Rq L i th->r.length<m->(∀y∈x::r,au y=true)->L.length+r.length<=950->(th=none->(x::r).foldl aI n≠none)->
 ∃L' ps,run (vt L) [.hdl 0,bh o,.list ((x::r).map .str),bh i]=some (vt L',.ok (.list (ps.map aX)))/\Ex L L'/\L'.length<=L.length+r.length/\GoodE L' 12 ps/\RepN L' ps (wiN n x r th)
abbrev HEw(Ψ:FsM)(m:Nat):Prop:=fx Ψ "entries_with" [false,false,false,false] (SEw m)
theorem GoodE.ex{L L':List Th}{es:List (Str×Int)}(h:GoodE L n es)(e:Ex L L'):GoodE L' n es:=⟨h.rise,h.name,h.len,λp hp=>(h.hd p hp).ex e⟩
def GoodE.up{L:List Th}{es:List (Str×Int)}(h:GoodE L n es)(e:n<=m):GoodE L m es:=⟨h.rise,h.name,nt0 h.len e,h.hd⟩
def Rp.some_of{L:List Th}{o:Option Int}{n:Option Nd}(h:Rp w L o n)(hn:n≠none):o.isSome=true:=by
 match o,n,h with
 |none,none,_=>exact absurd rfl hn
 |some i,some n,_=>rfl
def Bu{r:Ust->List D->Option (Ust×R)}(h:FW cNO cBT r){L:List Th}{ps:List (Str×Int)}{es:Nds}(g:GoodE L 12 ps)(q:RepN L ps es)(hz:L.length<1000):∃L2 i,r (vt L) [.hdl 0,.list (ps.map aX)]=some (vt L2,.ok (bh i))/\Ex L L2/\L2.length<=L.length+1/\Rq L2 i (lZ es):=by
 cases ps with
 |nil=>
  have:es=.nil:=by
   have:=q.1;cases es with
   |nil=>rfl
   |cons=>cases this
  subst this;exact⟨L,none,h.1 L,.refl _,Nat.le_succ _,trivial⟩
 |cons p ps=>
  have k:=h.2 L (p::ps) nofun g.len g.short hz;rw[jE g.rise g.name g.hd]at k;obtain⟨j,jt,k⟩:=k;obtain⟨e1,e2⟩:=lR L (.tree (p::ps));refine⟨_,some (j:Int),k,e1,e2,?_⟩;have:lZ es=some (.tree es):=by
   cases es with
   |nil=>have:=q.1;cases this
   |cons=>rfl
  rw[this];exact⟨j,rfl,by rw[Nd.rep];exact⟨_,q.1,jt,Nds.rep_ex e1 _ _ q.2⟩⟩
def FX(he:FL Z c)(ht:IR Ψ cNO cBT)(m:Nat)(hw:HEw Ψ m):SEw (m+1) (dC Z Ψ Γ c aP):=by
 obtain⟨r1,e1,h1⟩:=he;obtain⟨r2,e2,h2⟩:=hw;obtain⟨r3,e3,h3⟩:=ht;intro w L o n x r i th hw R hi hl hx hz hf;obtain⟨ps,q,g,rn,k⟩:=yG h1 0 L R;obtain⟨o',k1,k2,k3⟩:=k x;have pl:=g.len;cases r with
 |nil=>
  obtain⟨nf,ul,gd,rp⟩:=ox g rn (hx x ms0) hi;refine⟨L,_,?_,.refl _,nr0 _,gd.up (by omega),rp⟩;refine .trans ?_ (yI (Z:=Z) (Ψ:=Ψ) (Γ:=Γ) (c:=c) (F:=bh o) (N:=.list [.str x]) nf (by omega) (by omega) λz=>?_)
  .simp only[aO,aP]
   simp[e1,q,bc,jH]
  .rw[k3]
   refine k2.some_of ?_;subst z;exact hf (by match th,hi with|none,_=>rfl)
 |cons y r=>
  rw[lc0]at hl hz;obtain⟨L1,ps1,a1,a2,a3,a4,a5⟩:=h2 w L o' (aI n x) y r i th hw k2 hi (by omega) (λz hz=>hx z (mc0 _ hz)) (by omega) hf;obtain⟨L2,j,b1,b2,b3,b4⟩:=Bu h3 a4 a5 (by omega);have ex:=a2.trans b2;obtain⟨nf,ul,gd,rp⟩:=ox (g.ex ex) (rn.ex ex) (hx x ms0) b4;refine⟨L2,_,?_,ex,by rw[lc0];omega,gd.up (by omega),rp⟩;refine .trans ?_ (yI (Z:=Z) (Ψ:=Ψ) (Γ:=Γ) (c:=c) (F:=bh o) (N:=.list ((x::y::r).map .str)) nf (by omega) (by omega) λz=>?_)
  .have hl:(1:Int)<(r.length:Int)+1+1:=by omega
   simp only[aO,aP];simp only[mk0]at a1 ⊢;simp[e1,q,bc,jH,hl,k1,e2,e3,a1,b1]
  .rw[k3]
   refine k2.some_of λz2=>?_
   subst z;have t0:lZ (wiN (aI n x) y r th)=none:=by
    cases q:lZ (wiN (aI n x) y r th)with
    |none=>rfl
    |some=>rw[q]at b4;exact b4.elim
   have:th=none:=by
    have:=qo (o:=th) (y::r) (aI n x);rw[inN,t0,dg]at this;exact this.symm
   exact hf this (by rw[List.foldl_cons,z2,dg])
variable {Ψ:FsM}{cNO cBT cNP w:Nat}
theorem sf :∀{a b r s:List Nat},c∉a->c∉b->a++c::r=b++c::s->a=b/\r=s
 |[],[],r,s,_,_,h=>by injection h with _ h;exact⟨rfl,h⟩
 |[],y::b,r,s,_,hb,h=>by injection h with h _;exact absurd (by rw[h];exact ms0) hb
 |x::a,[],r,s,ha,_,h=>by injection h with h _;exact absurd (by rw[h];exact ms0) ha
 |x::a,y::b,r,s,ha,hb,h=>by
  injection h with h1 h2
  obtain⟨e1,e2⟩:=sf (λz=>ha (mc0 _ z)) (λz=>hb (mc0 _ z)) h2;exact⟨by rw[h1,e1],e2⟩
def mf{y:Str}:(Str.join ⟨#[c]⟩ (x::y::r)).cps.toList=x.cps.toList++c::(Str.join ⟨#[c]⟩ (y::r)).cps.toList:=by
 show (x++⟨#[c]⟩++Str.join ⟨#[c]⟩ (y::r)).cps.toList=_;rw[toL_append,toL_append];show x.cps.toList++[c]++_=_;simp
theorem oz :∀{ps qs:List Str},ps≠[]->qs≠[]->(∀p∈ps,c∉p.cps.toList)->(∀q∈qs,c∉q.cps.toList)->Str.join ⟨#[c]⟩ ps=Str.join ⟨#[c]⟩ qs->ps=qs
 |[],_,h,_,_,_,_=>absurd rfl h
 |_,[],_,h,_,_,_=>absurd rfl h
 |[x],[y],_,_,_,_,h=>by rw[show x=y from h]
 |[x],y::z::r,_,_,hx,_,h=>by
  have h:=congrArg (·.cps.toList) h;simp only[mf]at h;exact absurd (show c∈x.cps.toList by rw[show x.cps.toList=_ from h];simp) (hx x ms0)
 |x::z::r,[y],_,_,_,hy,h=>by
  have h:=congrArg (·.cps.toList) h;simp only[mf]at h;exact absurd (show c∈y.cps.toList by rw[show y.cps.toList=_ from h.symm];simp) (hy y ms0)
 |x::z::r,y::u::s,_,_,hx,hy,h=>by
  have h:=congrArg (·.cps.toList) h;simp only[mf]at h;obtain⟨e1,e2⟩:=sf (hx x ms0) (hy y ms0) h;have:=oz (ps:=z::r) (qs:=u::s) (by simp) (by simp) (λp hp=>hx p (mc0 _ hp)) (λq hq=>hy q (mc0 _ hq)) (M1.ext e2);rw[M1.ext e1,this]
def uy(h:au x=true):47∉x.cps.toList:=λz=>by
 unfold au at h;simp only[be0]at h;have:=od0 (List.all_eq_true.mp h.2 47 z);exact absurd this (by decide)
noncomputable abbrev spl(t:Str):List Str:=Txt.split t ⟨#[47]⟩
structure cW(t:Str)(x:Str)(r:List Str):Prop where
 sp:spl t=x::r
 le:t.length<=100
 nm:∀y∈x::r,au y=true
 few:r.length<=2
def Bv(hl:r.length<=2)(hn:∀y∈x::r,au y=true):cW (Txt.join ⟨#[47]⟩ (x::r)) x r/\((x::r).map (·.length)).sum+(x::r).length*(⟨#[47]⟩:Str).length<=big:=by
 have je:Txt.join ⟨#[47]⟩ (x::r)=Str.join ⟨#[47]⟩ (x::r):=StrLaws.glued_eq_join _ _;have jl:=yB (k:=3) (m:=13) ⟨#[47]⟩ (show (x::r).length<=3 by rw[lc0];omega) λy hy=>Nat.succ_le_succ (eO (hn y hy)).2
 refine⟨⟨?_,?_,hn,hl⟩,nt0 jl (by decide)⟩
 .refine oz (xM _ 47) nofun (StrLaws.split_free _ 47) (λq hq=>uy (hn q hq)) ?_
  rw[je];exact StrLaws.join_split _ _
 .rw[je];exact nt0 (StrLaws.join_length_le _ _) (nt0 jl (by decide))
abbrev yJ(run:Ust->List D->Option (Ust×R)):Prop:=∀(U:Ust)(t x:Str)(r:List Str),cW t x r->run U [.str t]=some (U,.ok (.list ((x::r).map .str)))
abbrev qq(Ψ:FsM):Prop:=fx Ψ "names_of" [false] yJ
def uz(hn:lP Z)(hg:Γ.lookup ("MOST_NAMES":Str)=some (D.int 20)):yJ (dC Z Ψ Γ c (cL cNP)):=by
 intro U t x r p;obtain⟨r1,e1,h1⟩:=hn;have hb:t.length+2<=big:=nt0 (Nat.add_le_add_right p.le 2) (by decide);have z:t≠⟨#[]⟩:=λe=>by
  have q:=p.sp;rw[e,show spl ⟨#[]⟩=[⟨#[]⟩] by decide +kernel]at q;cases q;have:=p.nm _ ms0;revert this;decide
 have sp:Txt.split t ⟨#[47]⟩=x::r:=p.sp;have hf:(x::r).length<=3:=Nat.succ_le_succ p.few;have nm:=p.nm;generalize x::r=xs at sp hf nm;have hs:xs.length<=big:=nt0 hf (by decide);have y':¬ (20:Int)<(xs.length:Int):=by omega
 simp only[aO,cL];simp[z,hb,hg,hs,show (⟨#[47]⟩:Str).length=1 from rfl,sp,y'];rw[aN (g:=λp:Str=>D.bool (au p)) λy hy=>by simp[dY,e1,h1 y (nt0 (eO (nm y hy)).2 (by omega))]];have q:xs.all au=true:=List.all_eq_true.mpr nm;simp[Function.comp_def,q]
abbrev yK(cNP:Nat)(run:Ust->List D->Option (Ust×R)):Prop:=∀(w:Nat)(L:List Th)(i m:Nat)(es:Nds)(t x:Str)(r:List Str),cW t x r->(Nd.tree es).ok w m->(Nd.tree es).rep L i->∃o,Rp w L o ((x::r).foldl aI (some (.tree es)))/\run (vt L) [.hdl 0,.int i,.str t]=some (vt L,match o with|none=>.exc cNP|some j=>.ok (.int j))
abbrev yL(Ψ:FsM)(cNP:Nat):Prop:=fx Ψ "found_at" [false,false,false] (yK cNP)
def kX{L:List Th}{i:Nat}{es:Nds}(h:(Nd.tree es).rep L i):∃t,aR L i bx=some t:=by
 rw[Nd.rep]at h;obtain⟨ps,_,b,_⟩:=h;exact⟨_,by simp[aR,atL,b];rfl⟩
def uA(hn:qq Ψ)(ht:lQ Ψ cNO)(ho:∀w,FM w Z c):yK cNP (dC Z Ψ Γ c (dD cNP)):=by
 obtain⟨r1,e1,h1⟩:=hn;obtain⟨r2,e2,h2⟩:=ht;intro w L i m es t x r p ok rep;obtain⟨r3,e3,h3⟩:=ho w;obtain⟨o,a,b,_⟩:=h3 0 L (some (i:Int)) (some (.tree es)) (x::r) ⟨i,m,rfl,rep,ok⟩;refine⟨o,b,?_⟩;obtain⟨tt,k⟩:=kX rep;simp only[qm,mk0]at a;have q:=h1 (vt L) t x r p;simp only[mk0]at q;simp only[aO,dD];cases o with
 |none=>simp[e1,q,e2,h2,k,e3,a]
 |some j=>simp[e1,q,e2,h2,k,e3,a]
structure SWith(run:Ust->List D->Option (Ust×R)):Prop where
 keep:∀(w:Nat)(L:List Th)(i m:Nat)(es:Nds)(t x:Str)(r:List Str),cW t x r->(Nd.tree es).ok w m->(Nd.tree es).rep L i->(x::r).foldl aI (some (.tree es))=none->run (vt L) [.hdl 0,.int i,.str t,.none]=some (vt L,.ok (.int i))
 go:∀(w:Nat)(L:List Th)(i m:Nat)(es:Nds)(t x:Str)(r:List Str)(v:Option Int)(th:Option Nd),cW t x r->(Nd.tree es).ok w m->(Nd.tree es).rep L i->w<=11->L.length<=900->Rq L v th->(th=none->(x::r).foldl aI (some (.tree es))≠none)->∃L' j,run (vt L) [.hdl 0,.int i,.str t,bh v]=some (vt L',.ok (.int (j:Nat)))/\Ex L L'/\L'.length<=L.length+3/\(Nd.tree (wiN (some (.tree es)) x r th)).rep L' j
abbrev yM(Ψ:FsM):Prop:=fx Ψ "with_object" [false,false,false,false] SWith
def eq_nil(h:xs≠[]):eqD (.list (xs.map .str)) (.list [])=some false:=by
 rw[mH (by simp[okS]) rfl,df0 (by simpa using h)]
def yN(hn:qq Ψ)(ht:lQ Ψ cNO)(ho:∀w,FM w Z c)(hw:HEw Ψ 3)(hj:lS Ψ cNO cBT):SWith (dC Z Ψ Γ c (bg cNP)):=by
 obtain⟨r1,e1,h1⟩:=hn;obtain⟨r2,e2,h2⟩:=ht;obtain⟨r4,e4,h4⟩:=hw;obtain⟨r5,e5,h5⟩:=hj;refine⟨λw L i m es t x r p ok rep hf=>?_,λw L i m es t x r v th p ok rep hw hz hv hf=>?_⟩
 all_goals
  obtain⟨r3,e3,h3⟩:=ho w;have R:Rp w L (some (i:Int)) (some (.tree es)):=⟨i,m,rfl,rep,ok⟩;obtain⟨o,a,b,_⟩:=h3 0 L (some (i:Int)) (some (.tree es)) (x::r) R;obtain⟨tt,k⟩:=kX rep;simp only[qm,mk0]at a;have q:=h1 (vt L) t x r p;have en:=eq_nil (xs:=x::r) nofun;simp only[mk0]at q en
 .rw[hf]at b
  have:o=none:=by cases o with|none=>rfl|some=>exact b.elim
  subst this;simp only[aO,bg];simp[e1,q,en,e2,h2,k,e3,a]
 .have few:=p.few
  obtain⟨L1,ps,w1,w2,w3,w4,w5⟩:=h4 w L (some (i:Int)) (some (.tree es)) x r v th hw R hv (by omega) p.nm (by omega) hf;have w6:=h5 L1 ps w4.len w4.short (by omega);rw[jE w4.rise w4.name w4.hd]at w6;obtain⟨j,jt,w6⟩:=w6;obtain⟨p1,p2⟩:=lR L1 (.tree ps);refine⟨_,j,?_,w2.trans p1,by omega,by rw[Nd.rep];exact⟨ps,w5.1,jt,Nds.rep_ex p1 _ _ w5.2⟩⟩;simp only[qm,mk0]at w1;simp only[aO,bg];cases v with
  |some v=>simp at w1;simp[e1,q,en,e2,h2,k,e4,w1,e5,w6]
  |none=>
   have os:=b.some_of (hf (by match th,hv with|none,_=>rfl));obtain⟨j0,rfl⟩:=is0 os;simp at w1;simp[e1,q,en,e2,h2,k,e3,a,e4,w1,e5,w6]
variable {Ψ:FsM}{cNO cBT cNP w:Nat}
section
variable {k k':Sum Int Str}{v:α}
theorem jI:∀l:List (Sum Int Str×α),SI.look (put l k v) k'=if k'=k then some v else SI.look l k'
 |[]=>by
  show (if k=k' then some v else none)=_
  by_cases e:k'=k
  .rw[if_pos e,if_pos e.symm]
  .rw[if_neg e,if_neg (Ne.symm e)];rfl
 |(j,d)::r=>by
  unfold put
  by_cases e:j=k
  .rw[if_pos e]
   show (if j=k' then some v else SI.look r k')=if k'=k then some v else if j=k' then some d else SI.look r k'
   subst e
   by_cases f:k'=j
   .rw[if_pos f,if_pos f.symm]
   .rw[if_neg f,if_neg (Ne.symm f),if_neg (Ne.symm f)]
  .rw[if_neg e]
   show (if j=k' then some d else SI.look (put r k v) k')=if k'=k then some v else if j=k' then some d else SI.look r k'
   rw[jI r]
   by_cases f:j=k'
   .subst f;rw[if_pos rfl,if_neg e,if_pos rfl]
   .rw[if_neg f,if_neg f]
theorem gR:∀l:List (Sum Int Str×α),SI.look (dI l k) k'=if k'=k then none else SI.look l k'
 |[]=>by
  show none=_;split<;>rfl
 |(j,d)::r=>by
  have ih:=gR r;unfold dI at ih ⊢
  by_cases e:j=k
  .rw[List.filter_cons_of_neg (by simp[e]),ih]
   subst e
   by_cases f:k'=j
   .rw[if_pos f,if_pos f]
   .rw[if_neg f,if_neg f]
    show _=if j=k' then some d else SI.look r k'
    rw[if_neg (Ne.symm f)]
  .rw[List.filter_cons_of_pos (by simp[e])]
   show (if j=k' then some d else SI.look (r.filter _) k')=if k'=k then none else if j=k' then some d else SI.look r k'
   rw[ih]
   by_cases f:j=k'
   .subst f;rw[if_pos rfl,if_neg e,if_pos rfl]
   .rw[if_neg f,if_neg f]
theorem oA:∀l:List (Sum Int Str×α),k∈l.map (·.1)->(put l k v).map (·.1)=l.map (·.1)
 |[],h=>by cases h
 |(j,d)::r,h=>by
  unfold put
  by_cases e:j=k
  .subst e;rw[if_pos rfl];rfl
  .rw[if_neg e,mk0,oA r ((mq0 h).resolve_left (Ne.symm e)),mk0]
end
theorem oB:∀{l:List (Sum Int Str×D)}{ks:List Str},l.map (·.1)=ks.map .inr->(∀x∈ks,cv x=true)->fK l=some ks
 |[],[],_,_=>rfl
 |[],_::_,h,_=>by cases h
 |_::_,[],h,_=>by cases h
 |(j,d)::r,x::ks,h,o=>by
  injection h with h1 h2
  have h1:j=.inr x:=h1;subst h1;show (if cv x then (fK r).map (x::·)else none)=_;rw[if_pos (o x ms0),oB h2 λy hy=>o y (mc0 _ hy)];rfl
noncomputable def kvU(kv:List (Sum Int Str×D))(x:Str):Option Nd->List (Sum Int Str×D)
 |none=>dI kv (.inr x)
 |some n=>put kv (.inr x) n.d
def yO{es:Nds}{y:Str}{o:Option Nd}:SI.look (kvU es.kv x o) (.inr y)=((es.upd x o).look y).map Nd.d:=by
 rw[eB]
 by_cases e:y=x
 .subst e
  cases o with
  |none=>rw[kvU,gR,if_pos rfl,if_pos rfl];rfl
  |some n=>rw[kvU,jI,if_pos rfl,if_pos rfl];rfl
 .have e':¬ (Sum.inr y:Sum Int Str)=.inr x:=λz=>e (Sum.inr.inj z)
  rw[if_neg e,<-gi];cases o with
  |none=>rw[kvU,gR,if_neg e']
  |some n=>rw[kvU,jI,if_neg e']
def yP{es:Nds}{o:Option Nd}(nd:es.names.Nodup)(hn:∀y∈es.names,au y=true)(hx:au x=true):∃ks,fK (kvU es.kv x o)=some ks/\ks.Nodup/\ks.length<=es.names.length+1/\srtS ks=(es.upd x o).names:=by
 obtain⟨ks,h1,h2,h3,h4⟩:∃ks:List Str,(kvU es.kv x o).map (·.1)=ks.map .inr/\ks.Nodup/\ks.length<=es.names.length+1/\∀y,y∈ks↔if y=x then o.isSome=true else y∈es.names:=by
  cases o with
  |none=>
   refine⟨es.names.filter λy=>decide (y≠x),?_,nd.filter _,Nat.le_succ_of_le (List.length_filter_le _ _),λy=>?_⟩
   .show (es.kv.filter ((λk=>decide (k≠.inr x)) ∘ (·.1))).map (·.1)=_
    rw[<-List.filter_map,bP,List.filter_map]
    congr 1
    refine List.filter_congr λy c=>?_
    simp
   .by_cases e:y=x<;>simp[e]
  |some n=>
   by_cases e:x∈es.names
   .refine⟨es.names,?_,nd,Nat.le_succ _,λy=>?_⟩
    .rw[kvU,oA _ (by rw[bP];exact List.mem_map_of_mem e),bP]
    .by_cases f:y=x
     .subst f;simp[e]
     .simp[f]
   .refine⟨es.names++[x],?_,?_,by simp,λy=>?_⟩
    .rw[kvU,lV (by rw[bP];simpa using e),List.map_append,bP,List.map_append];rfl
    .exact List.nodup_append.mpr ⟨nd,by simp,λa ha b hb z=>e (by rw[<-List.mem_singleton.mp hb,<-z];exact ha)⟩
    .by_cases f:y=x<;>simp[f]
 refine⟨ks,oB h1 λy hy=>rZ ?_,h2,h3,fR (cj _) eA λy=>by rw[bM,h4,lY]⟩;have:=(h4 y).mp hy
 by_cases e:y=x
 .rw[e];exact hx
 .rw[if_neg e]at this;exact hn y this
def yQ{n:Option Nd}{s1 s4:Sl}(h:NdOk 12 n):ex Z Γ [.lent (ndD n),s1,s2,.own (.dict []),s4] hW=some (.nx [.lent (ndD n),s1,s2,.own (.dict (esO n).kv),s4]):=by
 unfold hW
 match n,h with
 |none,_=>simp[esO,Nds.kv]
 |some (.blob t),_=>simp[Nd.d,esO,Nds.kv]
 |some (.tree es),⟨0,ok⟩=>exact ok.elim
 |some (.tree es),⟨m+1,ok⟩=>
  rw[Nd.ok]at ok;simp[Nd.d,esO,eR,fz (RiseS.nd ok.1)]
def yR{es:Nds}{v:Option Nd}{s0 s4:Sl}(h2:s2=.lent (ndD v)\/s2=.dat (ndD v))(nd:es.names.Nodup)(hn:∀y∈es.names,au y=true)(hl:es.names.length<=12)(hx:au x=true):qi (exs Z Γ [s0,.lent (.list ((x::r).map .str)),s2,.own (.dict es.kv),s4] eW)=some (Nd.tree (es.upd x v)).d:=by
 have kl:es.kv.length<1000:=by
  have:=congrArg List.length (bP es);rw[lm0,lm0]at this;omega
 obtain⟨ks,k1,k2,k3,k4⟩:=yP (o:=v) nd hn hx;have lk:=λy=>yO (es:=es) (x:=x) (y:=y) (o:=v)
 have ul:(es.upd x v).names.length<=big:=by
  rw[<-k4];exact nt0 (jd ks) (nt0 (nt0 k3 (Nat.succ_le_succ hl)) (by decide))
 have sk:biD .srtk [.dict (kvU es.kv x v)]=some (.list ((es.upd x v).names.map .str)):=by
  show (fK (kvU es.kv x v)).bind _=_;rw[k1,bs0,if_pos ⟨by omega,k2⟩,k4]
 have fin:∀s2,qi (exs Z Γ [s0,.lent (.list ((x::r).map .str)),s2,.own (.dict (kvU es.kv x v)),s4] (.cons (.ret (.tup (.cons (.k (.str ⟨#[116,114,101,101]⟩)) (.cons (.comp 1 [3] (.one 0) (.seq (.bi .srtk (.cons (.v 3) .nil))) .nil (.tup (.cons (.v 0) (.cons (.idx (.v 1) (.v 0)) .nil)))) .nil)))) .nil))=some (Nd.tree (es.upd x v)).d:=λs2=>by
  simp[sk,ul];rw[aN (g:=λy:Str=>D.tuple [.str y,ndD ((es.upd x v).look y)]) λy hy=>by
   have:=(eu _).mpr hy;cases q:(es.upd x v).look y with
   |none=>rw[q]at this;cases this
   |some n=>simp[dY,lk,q]]
  simp[Nd.d,rX _ (RiseS.nd eA)]
 unfold eW;cases v with
 |none=>rcases h2 with rfl|rfl<;>simpa [kvU]using fin _
 |some n=>
  have n1:bc n.d=false:=by cases n<;>rfl
  have n2:n.d≠.none:=by cases n<;>simp[Nd.d]
  rcases h2 with rfl|rfl<;>simpa [kvU,kl,n1,n2]using fin _
abbrev yS(m:Nat)(run:List D->Option D):Prop:=∀(n:Option Nd)(x:Str)(r:List Str)(th:Option Nd),NdOk 12 n->(∀y∈x::r,au y=true)->r.length<m->run [ndD n,.list ((x::r).map .str),ndD th]=some (Nd.tree (wiN n x r th)).d
def Bw{n:Option Nd}(h:NdOk 12 n):(esO n).names.Nodup/\(∀y∈(esO n).names,au y=true)/\(esO n).names.length<=12:=by
 match n,h with
 |none,_=>exact⟨.nil,nofun,Nat.zero_le _⟩
 |some (.blob t),_=>exact⟨.nil,nofun,Nat.zero_le _⟩
 |some (.tree es),⟨0,ok⟩=>exact ok.elim
 |some (.tree es),⟨m+1,ok⟩=>rw[Nd.ok]at ok;exact⟨RiseS.nd ok.1,ok.2.1,ok.2.2.1⟩
def IS{es:Nds}:(if es.ds=[] then some D.none else some (.tuple [.str bx,.list es.ds]))=some (ndD (lZ es)):=by cases es<;>rfl
abbrev mh(Z:Fs)(m:Nat):Prop:=Has Z "_law_with" [true,true,true] (yS m)
def uB(m:Nat)(hw:mh Z m):yS (m+1) (ans Z Γ ef):=by
 intro n x r th hn hx hl;obtain⟨r1,e1,h1⟩:=hw;obtain⟨g1,g2,g3⟩:=Bw hn;simp only[ans_e,ef];cases r with
 |nil=>
  have E:=yR (Z:=Z) (Γ:=Γ) (s0:=.lent (ndD n)) (s4:=.no) (r:=[]) (x:=x) (v:=th) (.inl rfl) g1 g2 g3 (hx x ms0);simp[pairsOf,putAll,yQ hn]at E ⊢;exact E
 |cons y r=>
  rw[lc0]at hl;have q:=h1 (aI n x) y r th hn.get (λz hz=>hx z (mc0 _ hz)) (by omega);have gx:(SI.look (esO n).kv (.inr x)).getD .none=ndD (aI n x):=by
   rw[gi,iE];cases (esO n).look x<;>rfl
  have E:=λs4=>yR (Z:=Z) (Γ:=Γ) (s0:=.lent (ndD n)) (s4:=s4) (r:=y::r) (x:=x) (v:=lZ (wiN (aI n x) y r th)) (.inr rfl) g1 g2 g3 (hx x ms0)
  have hl:(1:Int)<(r.length:Int)+1+1:=by omega
  simp only[mk0]at q E ⊢;simp[pairsOf,putAll,yQ hn,hl,e1,gx,jH,q,Nd.d,IS];exact E _
abbrev sh(run:Ust->List D->Option (Ust×R)):Prop:=∀(w:Nat)(L:List Th)(i m:Nat)(es:Nds)(t x:Str)(r:List Str),cW t x r->(Nd.tree es).ok w m->(Nd.tree es).rep L i->∃o,Rp w L o ((x::r).foldl aI (some (.tree es)))/\run (vt L) [.hdl 0,.int i,.str t]=some (vt L,.ok (bh o))
abbrev mi(Ψ:FsM):Prop:=fx Ψ "_law_found" [false,false,false] sh
def qr(n4:cNO≠cNP)(n5:cBT≠cNP)(hf:yL Ψ cNP):sh (dC Z Ψ Γ c (eQ cNO cBT cNP)):=by
 obtain⟨r1,e1,h1⟩:=hf;intro w L i m es t x r p ok rep;obtain⟨o,R,q⟩:=h1 w L i m es t x r p ok rep;have b4:=beq_false_of_ne (Ne.symm n4);have b5:=beq_false_of_ne (Ne.symm n5);refine⟨o,R,?_⟩;simp only[aO,eQ];cases o with
 |none=>simp[e1,q,Iy (tab:=[(cNO,false),(cBT,false),(cNP,true)]) (x:=cNP) (by simp[lk0,b4,b5]),Iw,lk0,b4,b5]
 |some j=>simp[e1,q]
end TX
namespace L2.Z
open PySem SI
def cf{a b d:Nat}{x y u t:Bool}{e:Nat}(h:List.lookup e [(a,x),(b,y),(d,u)]=some t):(e=a/\t=x)\/(e=b/\t=y)\/(e=d/\t=u):=by
 rw[lk0]at h;cases q:e==a with
 |true=>rw[q]at h;cases h;exact .inl ⟨eq_of_beq q,rfl⟩
 |false=>rw[q]at h;exact .inr (Bl h)
end L2.Z
namespace TX
open PySem SI M1 L2.Z
section
variable {r r':Ust->List D->Option (Ust×R)}
def SWith.of(h:∀U ds,ds.length=4->r U ds=r' U ds)(s:SWith r'):SWith r:=by
 refine⟨λw L i m es t x y a b c d=>?_,λw L i m es t x y v th a b c d e f g=>?_⟩<;>rw[h _ _ rfl]
 .exact s.keep w L i m es t x y a b c d
 .exact s.go w L i m es t x y v th a b c d e f g
end
variable {Ψ:FsM}{cNO cBT cNP:Nat}
theorem Cy{r:SMs}{inj:β->D}{tg:Tg}{F:α->List Sl}{V:α->Ust}(J:Nat->α->Prop){P:Option (OM×Ust)->Prop}(k:∀s,J 0 s->P (some (.nx (F s),V s))):∀{xs:List β}{s:α},(∀x∈xs,∀n s,J (n+1) s->∃s',J n s'/\(ar tg (inj x) (F s)).bind (λY=>aV Z Ψ Γ c Y (V s) r)=some (.nx (F s'),V s'))->J xs.length s->P (kQ Z Ψ Γ c tg r (xs.map inj) (F s) (V s))
 |[],s,_,j=>k s j
 |x::xs,s,h,j=>by
  obtain⟨s',j',e⟩:=h x ms0 _ s j;obtain⟨Y',e1,e2⟩:=bx0 e;rw[mk0,Bn,e1,bs0,e2];exact Cy J k (λy hy=>h y (mc0 _ hy)) j'
@[simp] def IT{U:Ust}{n:Nd}:vE c U (.dat n.d)=.dat n.d:=by cases n<;>rfl
@[simp] def LV{U:Ust}{n:Option Nd}:vE c U (.dat (ndD n))=.dat (ndD n):=by cases n with|none=>rfl|some n=>exact IT
mutual
theorem Nd.okS{w k:Nat}:∀{n:Nd}{m:Nat},n.ok w m->SI.okS (k+(3*m+2)) n.d=true
 |.blob t,m,_=>rfl
 |.tree es,0,h=>h.elim
 |.tree es,m+1,h=>by
  rw[Nd.ok]at h;have:=Nds.okS (k:=k) (es:=es) h.2.2.2;show (true&&(es.ds.all (SI.okS (k+(3*m+3)))&&true))=true;rw[this];rfl
theorem Nds.okS{w k:Nat}:∀{es:Nds}{m:Nat},es.ok w m->es.ds.all (SI.okS (k+(3*m+3)))=true
 |.nil,m,_=>rfl
 |.cons x n r,m,h=>by
  rw[Nds.ok]at h;show ((true&&(SI.okS (k+(3*m+2)) n.d&&true))&&r.ds.all (SI.okS (k+(3*m+3))))=true;rw[Nd.okS h.1,Nds.okS h.2];rfl
end
mutual
theorem Nd.rep_inj{L:List Th}(nd:L.Nodup):∀(n:Nd)(i j:Nat),n.rep L i->n.rep L j->i=j
 |.blob t,i,j,a,b=>by
  rw[Nd.rep]at a b;exact (List.getElem?_inj (gi0 a).1 nd).mp (a.trans b.symm)
 |.tree es,i,j,a,b=>by
  rw[Nd.rep]at a b;obtain⟨ps,a1,a2,a3⟩:=a;obtain⟨qs,b1,b2,b3⟩:=b;have:=Nds.rep_inj nd es _ _ a3 b3;have e:ps=qs:=(List.zip_of_prod a1 this).trans (List.zip_of_prod b1 rfl).symm;subst e;exact (List.getElem?_inj (gi0 a2).1 nd).mp (a2.trans b2.symm)
theorem Nds.rep_inj{L:List Th}(nd:L.Nodup):∀(es:Nds)(is js:List Int),es.rep L is->es.rep L js->is=js
 |.nil,[],[],_,_=>rfl
 |.nil,_::_,_,h,_=>by rw[Nds.rep]at h;exact h.elim;all_goals simp
 |.nil,[],_::_,_,h=>by rw[Nds.rep]at h;exact h.elim;all_goals simp
 |.cons x n r,[],_,h,_=>by rw[Nds.rep]at h;exact h.elim;all_goals simp
 |.cons x n r,_::_,[],_,h=>by rw[Nds.rep]at h;exact h.elim;all_goals simp
 |.cons x n r,i::is,j::js,a,b=>by
  rw[Nds.rep]at a b;obtain⟨⟨k,rfl,a1⟩,a2⟩:=a;obtain⟨⟨l,rfl,b1⟩,b2⟩:=b;rw[Nd.rep_inj nd n k l a1 b1,Nds.rep_inj nd r is js a2 b2]
end
abbrev qt(Z:Fs):Prop:=Has Z "_law_node" [true,true,true] λrun=>∀m:Nat,m<=2->∀ns k,∃n:Nd,n.ok 3 m/\run [.scr ns,.int k,.int m]=some n.d
section
variable {es:Nds}{i:Nat}{K:List D}{L:List Th}{t:Nat}{s6 s7 s8 s9:Sl}{names:List Str}{path:Str}{th:Option Nd}{v:Option Int}
noncomputable abbrev stK(ns:List Int)(es:Nds)(i:Nat)(K:List D)(t:Nat)(s6 s7 s8 s9:Sl):List Sl:=[.lent (.scr ns),.dat (Nd.tree es).d,.dat (.hdl 0),.dat (.int i),.own (.list K),.dat (.int t),s6,s7,s8,s9]
def FY(ns:List Int)(t:Nat)(hw:FQ Z)(ok:(Nd.tree es).ok 12 m):∃x r p,cW p x r/\∀{Ψ Γ c i K s6 s7 s8 s9 L},aV Z Ψ Γ c (stK ns es i K t s6 s7 s8 s9) (vt L) b0=aV Z Ψ Γ c (stK ns es i K t (.dat (.list ((x::r).map .str))) (.dat (.str p)) (.dat .none) (.dat .none)) (vt L) bA:=by
 obtain⟨r1,e1,h1⟩:=hw;obtain⟨ts,t1,t2,t3,q⟩:=h1 ns (7+9*t) (.tree es) ⟨m,ok⟩;cases ts with
 |nil=>simp at t1
 |cons x r=>
  obtain⟨p,pb⟩:=Bv (by simpa using t2) t3;refine⟨x,r,_,p,@λa a a a a a a a a a=>?_⟩;have jn:meD .join (.str ⟨#[47]⟩) [.list ((x::r).map .str)]=some (.str (Txt.join ⟨#[47]⟩ (x::r))):=by
   show (strsOf ((x::r).map .str)).bind _=_;rw[bF,bs0,if_pos pb]
  generalize Txt.join ⟨#[47]⟩ (x::r)=P at jn;generalize x::r=xs at q jn;unfold b0;simp[e1,q,mulL (i:=9) (by decide) (by decide),jn]
def FZ(ns:List Int)(t:Nat)(hm:nX Z)(hN:qt Z)(hs:lU Ψ 2)(hz:L.length+16<=900):∃th v L1,OkN 3 2 th/\Rq L1 v th/\Ex L L1/\L1.length<=L.length+16/\∀{Γ c es i K s6 s7},aV Z Ψ Γ c (stK ns es i K t s6 s7 (.dat .none) (.dat .none)) (vt L) bA=aV Z Ψ Γ c (stK ns es i K t s6 s7 (.dat (ndD th)) (.dat (bh v))) (vt L1) bB:=by
 obtain⟨r1,e1,h1⟩:=hm;obtain⟨r2,e2,h2⟩:=hN;obtain⟨r3,e3,h3⟩:=hs;have g:=lN ns (13+9*t) 3 (by decide);obtain⟨m,em⟩:∃m:Nat,mixF ns (13+9*t) % 3=m:=⟨(mixF ns (13+9*t) % 3).toNat,by omega⟩;unfold bA
 by_cases z:0<mixF ns (11+9*t) % 3
 .obtain⟨n,ok,q⟩:=h2 m (by omega) ns (12+9*t)
  have ok2:=Nd.up (nr0 _) n m (show m<=2 by omega) ok;have ct:=Nd.cnt_le n 2 ok2;simp at ct;obtain⟨L1,j,q3,a1,a2,a3⟩:=h3 L n ok2 (by omega);refine⟨some n,some (j:Int),L1,ok2,⟨j,rfl,a1⟩,a2,by omega,@λa a a a a a a=>?_⟩;simp[e1,h1,mulL (i:=9) (by decide) (by decide),z,em,e2,q,e3,q3]
 .refine⟨none,none,L,trivial,trivial,.refl _,by omega,@λa a a a a a a=>?_⟩
  simp[e1,h1,mulL (i:=9) (by decide) (by decide),z]
noncomputable def stepN(es:Nds)(x:Str)(r:List Str)(th:Option Nd):Nds:=if th=none/\(x::r).foldl aI (some (.tree es))=none then es else wiN (some (.tree es)) x r th
def ndD_no{n:Option Nd}:ndD n=.none↔n=none:=by
 cases n with
 |none=>simp
 |some n=>cases n<;>simp[Nd.d]
def Ga(hg:FN Z)(hw:mh Z 3){p:Str}{s7 s9:Sl}(P:cW p x r)(ok:(Nd.tree es).ok 12 m):aV Z Ψ Γ c (stK ns es i K t (.dat (.list ((x::r).map .str))) s7 (.dat (ndD th)) s9) (vt L) bB=aV Z Ψ Γ c (stK ns (stepN es x r th) i K t (.dat (.list ((x::r).map .str))) s7 (.dat (ndD th)) s9) (vt L) bC:=by
 obtain⟨r1,e1,h1⟩:=hg;obtain⟨r2,e2,h2⟩:=hw;have q1:=h1 (.tree es) (x::r) ⟨m,ok⟩;have few:=P.few;have q2:=h2 (some (.tree es)) x r th ⟨m,ok⟩ P.nm (by omega);unfold stepN bB;generalize hW:wiN (some (.tree es)) x r th=W at q2;generalize hx:x::r=xs at *;rw[IL]at q2
 by_cases z:th=none
 .by_cases y:xs.foldl aI (some (.tree es))=none
  .rw[y]at q1
   simp[z,y,e1,q1]
  .have:=mt ndD_no.mp y
   rw[z,IK]at q2;simp[z,y,e1,q1,this,e2,q2]
 .have:=mt ndD_no.mp z
  simp[z,this,e2,q2]
def Rp.eq{w:Nat}{L:List Th}{o v:Option Int}{n:Option Nd}(nd:L.Nodup)(a:Rp w L o n)(b:Rq L v n):o=v:=by
 match o,v,n,a,b with
 |none,none,none,_,_=>rfl
 |some i,some j,some n,⟨k,m,h1,h2,_⟩,⟨l,h3,h4⟩=>rw[h1,h3,Nd.rep_inj nd n k l h2 h4]
def si{w:Nat}{p:Str}(P:cW p x r)(h3:3<=w)(ok:(Nd.tree es).ok w 5)(ho:OkN 3 2 th):(Nd.tree (stepN es x r th)).ok (w+1) 5:=by
 unfold stepN;split
 .exact Nd.up (Nat.le_succ _) _ 5 (nr0 _) ok
 .have few:=P.few
  refine Cw (k:=2) (w:=w) r x (some (.tree es)) 4 ok P.nm (by omega) ?_
  match th,ho with
  |none,_=>trivial
  |some n,ho=>exact Nd.up (by omega) n 2 (nr0 _) ho
def Gc{rs:List D->Option D}(e5:Z "_law_whole"=some ⟨[true],rs⟩)(h5:∀n:Int,rs [.int n]=some (.bool true))(hs:rW Z c 5)(hw:yM Ψ)(hf:mi Ψ){w:Nat}{p:Str}{s6:Sl}(h6:dW s6=true)(P:cW p x r)(ok:(Nd.tree es).ok w 5)(h3:3<=w)(hw9:w<=11)(rep:(Nd.tree es).rep L i)(nd:L.Nodup)(hz:L.length<=890)(ho:OkN 3 2 th)(hv:Rq L v th)(hK:K.length<big):
  ∃L2 j,Ex L L2/\L2.length<=L.length+3/\(Nd.tree (stepN es x r th)).rep L2 j/\aV Z Ψ Γ c (stK ns (stepN es x r th) i K t s6 (.dat (.str p)) (.dat (ndD th)) (.dat (bh v))) (vt L) bC=some (.nx (stK ns (stepN es x r th) j (K++[.tuple [.int j,(Nd.tree (stepN es x r th)).d]]) t s6 (.dat (.str p)) (.dat (ndD th)) (.dat (bh v))),vt L2):=by
 obtain⟨r1,e1,h1⟩:=hs;obtain⟨r2,e2,h2⟩:=hw;obtain⟨r3,e3,h4⟩:=hf;have ok':=si P h3 ok ho;obtain⟨L2,j,q2,x2,l2,rp,gt⟩:∃L2 j,r2 (vt L) [.hdl 0,.int i,.str p,bh v]=some (vt L2,.ok (.int (j:Nat)))/\Ex L L2/\L2.length<=L.length+3/\(Nd.tree (stepN es x r th)).rep L2 j/\(x::r).foldl aI (some (.tree (stepN es x r th)))=th:=by
  by_cases z:th=none/\(x::r).foldl aI (some (.tree es))=none
  .have vz:v=none:=by
    obtain⟨z,_⟩:=z;subst z
    match v,hv with|none,_=>rfl
   subst vz;refine⟨L,i,h2.keep w L i 5 es p x r P ok rep z.2,.refl _,by omega,?_⟩;unfold stepN;rw[if_pos z];exact⟨rep,z.2.trans z.1.symm⟩
  .obtain⟨L2,j,a,b,d,e⟩:=h2.go w L i 5 es p x r v th P ok rep hw9 (by omega) hv λq y=>z ⟨q,y⟩
   refine⟨L2,j,a,b,d,?_⟩;unfold stepN;rw[if_neg z];exact⟨e,FP⟩
 refine⟨L2,j,x2,l2,rp,?_⟩;obtain⟨o,R,q3⟩:=h4 (w+1) L2 j 5 _ p x r P ok' rp;rw[gt]at R;have:=R.eq (x2.2 nd) (hv.ex x2);subst this;have q1:=h1 0 L2 _ j (Nd.up (by omega) _ 5 (nr0 _) ok') rp;have en:eqD (Nd.tree (stepN es x r th)).d (Nd.tree (stepN es x r th)).d=some true:=by
  have:=Nd.okS (k:=3) ok';rw[mH this this];simp
 have eo:eqD (bh o) (bh o)=some true:=by
  have:SI.okS 20 (bh o)=true:=by cases o<;>rfl
  rw[mH this this];simp
 generalize stepN es x r th=S at *;unfold bC;simp[e2,q2,e5,h5,e1,q1,en,e3,q3,eo,hK,h6]
end
def yT(L:List Th)(K:List (Nat×Nd)):Prop:=∀q∈K,q.2.ok 12 5/\q.2.rep L q.1
noncomputable abbrev kD(q:Nat×Nd):D:=.tuple [.int q.1,q.2.d]
structure S50 where
 es:Nds
 i:Nat
 K:List (Nat×Nd)
 L:List Th
 s5:Sl
 s6:Sl
 s7:Sl
 s8:Sl
 s9:Sl
structure J50(n:Nat)(s:S50):Prop where
 le:n<=6
 ok:(Nd.tree s.es).ok (9-n) 5
 rep:(Nd.tree s.es).rep s.L s.i
 nd:s.L.Nodup
 len:s.L.length<=16+20*(6-n)
 kl:s.K.length<=1+(6-n)
 kept:yT s.L s.K
def IU(hm:nX Z)(hf:rT Z 2)(hN:qt Z)(hs:lU Ψ 2)(hy:FQ Z)(hg:FN Z)(hl:mh Z 3)(hw:rS Z)(he:rW Z c 5)(ho:yM Ψ)(hd:mi Ψ)(ns:List Int):∃U,dC Z Ψ Γ c df [] [.scr ns]=some (U,.ok (.bool true)):=by
 obtain⟨r2,e2,h2⟩:=hf;obtain⟨r3,e3,h3⟩:=id hs;obtain⟨r5,e5,h5⟩:=hw;obtain⟨r6,e6,h6⟩:=id he;obtain⟨es,ok,q2⟩:=h2 ns 0;have ct:=Nd.cnt_le _ _ ok;simp at ct;obtain⟨L0,i0,q3,rep0,x0,l0⟩:=h3 [] (.tree es) ok (by simp;omega);have q3:r3 [[]] [.hdl 0,(Nd.tree es).d]=some (vt L0,.ok (.int (i0:Int))):=q3;have q2:r2 [.scr ns,.int 0,.int 2]=some (Nd.tree es).d:=q2;have o5:(Nd.tree es).ok 3 5:=Nd.up (nr0 _) _ 2 (by omega) ok;simp only[aO,df];simp[e2,q2,e3,q3,uv (n:=6) (by decide) (by decide),show dW .no=true from rfl];refine Cy (xs:=List.range 6) (inj:=λk:Nat=>D.int k) (F:=λs:S50=>[.lent (.scr ns),.dat (Nd.tree s.es).d,.dat (.hdl 0),.dat (.int s.i),.own (.list (s.K.map kD)),s.s5,s.s6,s.s7,s.s8,s.s9]) (V:=λs=>vt s.L) J50 (P:=λo=>∃U,uw (nxM Z Ψ Γ c o bE)=some (U,.ok (.bool true))) (λs j=>?_) (s:=⟨es,i0,[(i0,.tree es)],L0,.no,.no,.no,.no,.no⟩) (λt a n s j=>?_) ⟨by simp,o5,rep0,x0.2 .nil,by simp at l0 ⊢;omega,by simp,λq hq=>?_⟩
 .obtain⟨es,i,K,L,s5,s6,s7,s8,s9⟩:=s
  have kp:yT L K:=j.kept;have kl:K.length<=7:=j.kl;have eK:eqD (.list (K.map kD)) (.list (K.map kD))=some true:=by
   have:SI.okS 20 (.list (K.map kD))=true:=List.all_eq_true.mpr λd hd=>by
    obtain⟨q,hq,rfl⟩:=mm0 hd;show (true&&(SI.okS 18 q.2.d&&true))=true;rw[Nd.okS (k:=1) (kp q hq).1];rfl
   rw[mH this this];simp
  unfold bE;simp[show K.length<=big from nt0 kl (by decide)];rw[aN (g:=kD) λq hq=>by simp[dY,kD,e6,h6 0 L q.2 q.1 (kp q hq).1 (kp q hq).2]];simp[eK]
 .obtain⟨es,i,K,L,s5,s6,s7,s8,s9⟩:=s
  obtain⟨le,ok,rep,nd,len,kl,kp⟩:=j;simp only at ok rep nd len kl kp;have ok12:(Nd.tree es).ok 12 5:=Nd.up (by omega) _ 5 (nr0 _) ok;obtain⟨x,r,p,P,q0⟩:=FY ns t hy ok12;obtain⟨th,v,L1,a1,a2,a3,a4,qA⟩:=FZ ns t hm hN hs (by omega:L.length+16<=900);obtain⟨L2,j,b1,b2,b3,qC⟩:=Gc (Γ:=Γ) (ns:=ns) (t:=t) (K:=K.map kD) (s6:=.dat (.list ((x::r).map .str))) e5 h5 he ho hd rfl P ok (by omega) (by omega) (Nd.rep_ex a3 _ _ rep) (a3.2 nd) (by omega) a1 a2 (by rw[lm0];exact Nat.lt_of_le_of_lt kl (Nat.lt_of_le_of_lt (show 1+(6-(n+1))<=7 by omega) (by decide)));have ok':=si P (show 3<=9-(n+1) by omega) ok a1
  refine⟨⟨stepN es x r th,j,K++[(j,.tree (stepN es x r th))],L2,.dat (.int t),.dat (.list ((x::r).map .str)),.dat (.str p),.dat (ndD th),.dat (bh v)⟩,⟨by omega,?_,b3,b1.2 (a3.2 nd),by simp only;omega,by simp;omega,λq hq=>?_⟩,?_⟩
  .rw[show 9-(n+1)+1=9-n by omega]at ok';exact ok'
  .rcases ma0 hq with z|z
   .exact⟨(kp q z).1,Nd.rep_ex (a3.trans b1) _ _ (kp q z).2⟩
   .rw[List.mem_singleton.mp z];exact⟨Nd.up (by omega) _ 5 (nr0 _) ok',b3⟩
  .refine .trans (.trans q0 (.trans qA (.trans (Ga hg hl P ok12) qC))) ?_
   simp
 .rw[List.mem_singleton.mp hq];exact⟨Nd.up (by omega) _ 2 (by omega) ok,rep0⟩
end TX
noncomputable section
namespace K50
open PySem L2 L2.Z SI TX
def gam:List (Str×D):=[("LONGEST_NAME",.int 12),("MOST_NAMES",.int 20)]
noncomputable def env:nU:={fns:=["is_name_sign","is_name","names_rise","text_of","entries_of","entries_by_name","object_at","_law_cell","_law_mix","_law_whole","_law_sign","_law_line","_law_ends","_law_row","_law_name","_law_node","_law_folder","_law_seen","_law_get","_law_way","_law_with"],cst:=["LONGEST_NAME","MOST_NAMES"],c:=cV,vms:=["kind","held","content"],xcs:=[("StrataError",cSE,[(cNO,true),(cBT,true),(cNP,true)]),("NoObject",cNO,[(cNO,true),(cBT,false),(cNP,false)]),("BadTree",cBT,[(cNO,false),(cBT,true),(cNP,false)]),("NoPath",cNP,[(cNO,false),(cBT,false),(cNP,true)]),("ValueError",cV,[(cNO,true),(cBT,true),(cNP,true)])],mfs:=["blob","tree","refuse_wrong_names","refuse_what_is_no_tree","found_at","with_object","names_of","entries_with","tree_or_none","_law_store","_law_found","law"],mms:=["put","kind","held","content"],vn:="Vault",xks:=[("BadTree",cBT),("NoObject",cNO),("NoPath",cNP)],nws:=["entries_by_name"]}
noncomputable def prog:List (Str×Def):=[("is_name_sign",bu),("is_name",eM),("names_rise",bX),("text_of",(eN cV)),("entries_of",(bY cV)),("entries_by_name",(ay cV)),("object_at",cK),("_law_cell",dX),("_law_mix",iy),("_law_whole",kK),("_law_sign",fX),("_law_line",fY),("_law_ends",fZ),("_law_row",iz),("_law_name",gf),("_law_node",cC),("_law_folder",cD),("_law_seen",(dZ cV)),("_law_get",iC),("_law_way",iD),("_law_with",ef),(ah "kind",(gb cV)),(ah "held",(gc cV)),(ah "content",(cJ cV))]
noncomputable def progM:List (Str×bf):=[("blob",lO),("tree",(iA cBT)),("refuse_wrong_names",(aG cBT)),("refuse_what_is_no_tree",ax),("found_at",(dD cNP)),("with_object",(bg cNP)),("names_of",(cL cNP)),("entries_with",aP),("tree_or_none",aQ),("_law_store",dc),("_law_found",(eQ cNO cBT cNP)),("law",df),(ah "kind",eP),(ah "held",(cm cV cNO)),(ah "content",(cb cNO))]
theorem ti:rK (met 0):=⟨⟨_,_,_,_,_,_,_,_,rfl⟩⟩
theorem tp:xH (met 5):=⟨⟨_,_,_,_,_,_,_,_,_,_,_,_,_,_,_,_,_,_,_,_,_,_,_,_,_,rfl,rfl⟩,by decide +kernel⟩
noncomputable def scB(ps:List Str)(st:Stmt):Bool:=decide ((defScope st).kind=.function/\(defScope st).isCoroutine=false/\(defScope st).isGenerator=false/\(ps++ao (defScope st) ps).Nodup/\(ps++ao (defScope st) ps).take ps.length=ps/\(∀x∈ps,(defScope st).names.lookup x=some .local\/(defScope st).names.lookup x=some .cell)/\∀y∈(defScope st).names,y.2≠.free)
theorem oC{ps:List Str}{st:Stmt}(h:scB ps st=true):aU (ps++ao (defScope st) ps) ps (defScope st):=
 have⟨a,b,c,d,e,f,g⟩:=od0 h
 ⟨a,b,c,d,e,f,g⟩
structure FF(x q:Str)(st:Stmt)(f cd:Addr)(pm:Value)(ps:List Str):Prop where
 l:∀P,(kk P).lookup f=some (fo x q st pm cd):=by intro;kernel_rfl
 c:∀P,(PySem.W.codeIn (kk P) (.ref cd) q&&PySem.W.keepIn (kk P) (.ref f))=true:=by intro;kernel_rfl
 s:scB ps st=true:=by kernel_rfl
 d:aT st=some (ps,defBody st,defScope st):=by rfl
 b:∀(kV doc pm:Value)(an:Option Addr)(cdv ct:Value)(us:List Value),us.length=ps.length->bindArgs (PySem.W.fnOf x q (defArgs st) (defBody st) (defScope st) .none kV doc pm an cdv ct) ⟨us,[]⟩=pure (ps.zip us):=by first|exact λa a a a a a=>Ik λa=>rfl|exact λa a a a a a=>Il λa a=>rfl|exact λa a a a a a=>Lj λa a a=>rfl|exact λa a a a a a=>Lk λa a a a=>rfl
section
variable {q:Str}{st:Stmt}{f cd:Addr}{pm:Value}{ps:List Str}{P:Params}{h:Heap}
abbrev FT(x:Str)(i:Nat)(cd:Addr)(pm:Value)(ps:List Str):Prop:=FF x x (top i) (cd+1) cd pm ps
theorem FF.fn(F:FF x q st f cd pm ps)(P:Params):Fun (kk P) x q st f (PySem.W.fnOf x q (defArgs st) (defBody st) (defScope st) .none .none .none pm none (.ref cd) .none):=Da (F.l P) (ax0 (F.c P)).1 (ax0 (F.c P)).2
theorem mkD{d:Def}(F:FF x x st f cd pm ps)(X:(kk P).In h)(G:h.Ns mainGlobals mg)(a:PySem.W.nsIn (kk P) mainGlobals x=some (some (.ref f)):=by kernel_rfl)(c:tW env.fns env.cst d.lent st (some env.c) env.vms env.xcs=some d:=by kernel_rfl)(e:d.lent.length=ps.length:=by rfl):pY (kk P) mg env.fns env.cst (some env.c) env.vms env.xcs x d:=
 ⟨⟨st,f,_,ps,F.fn P,PySem.W.mg_of X G a,(F.fn P).binds F.b,oC F.s,F.d,c,e⟩⟩
theorem mkM{d:bf}(F:FF x x st f cd pm ps)(X:(kk P).In h)(G:h.Ns mainGlobals mg)(a:PySem.W.nsIn (kk P) mainGlobals x=some (some (.ref f)):=by kernel_rfl)(c:jv env d.lent st=some d:=by kernel_rfl)(e:d.lent.length=ps.length:=by rfl):nV (kk P) mg env x d:=
 ⟨⟨st,f,_,ps,F.fn P,PySem.W.mg_of X G a,(F.fn P).binds F.b,oC F.s,F.d,c,e⟩⟩
theorem mkN{d:Def}(F:FF x x st f cd pm ps)(X:(kk P).In h)(G:h.Ns mainGlobals mg)(a:PySem.W.nsIn (kk P) mainGlobals x=some (some (.ref f)):=by kernel_rfl)(c:rG env.fns env.cst d.lent st (some env.c) env.vms env.xcs=some d:=by kernel_rfl)(e:d.lent.length=ps.length:=by rfl):kF (kk P) mg env.fns env.cst (some env.c) env.vms env.xcs x d:=
 ⟨⟨st,f,_,ps,F.fn P,PySem.W.mg_of X G a,(F.fn P).binds F.b,oC F.s,F.d,c,e⟩⟩
theorem nv{α:Prop}{m:Str}(e:x=ah m)(hm:vms.contains m=true)(h:(vms.all λm=>!(x==ah m))=true:=by kernel_rfl):α:=(Iu h e hm).elim
theorem mn{n:Str}(X:(kk P).In h)(G:h.Ns mainGlobals mg)(e:PySem.W.nsIn (kk P) mainGlobals n=some none:=by kernel_rfl):mg n=none:=PySem.W.mg_none_of X G e
theorem mo{n:Str}{v:Value}(X:(kk P).In h)(G:h.Ns mainGlobals mg)(e:PySem.W.nsIn (kk P) mainGlobals n=some (some v):=by kernel_rfl):mg n=some v:=PySem.W.mg_of X G e
theorem mkT(F:FF x q st f cd pm ps)(a:PySem.W.findIn (kk P) (.ref cV) x=some (some (.ref f)):=by kernel_rfl)(n:PySem.W.isFn (kk P) (.ref f)=true:=by kernel_rfl):iJ (kk P) cV x f:=⟨a,n,(ax0 (F.c P)).2⟩
theorem mkV{d:Def}(F:FF x (ah x) st f cd pm ps)(T:iJ (kk P) cV x f)(n:x≠"objects"/\x≠"numbers":=by decide)(c:tW env.fns env.cst d.lent st (some env.c) env.vms env.xcs=some d:=by kernel_rfl)(e:d.lent.length=ps.length:=by rfl):pZ (kk P) env.fns env.cst env.c env.vms env.xcs x d:=
 ⟨n,⟨st,f,_,ps,F.fn P,T,(F.fn P).binds F.b,oC F.s,F.d,c,e⟩⟩
theorem mkX{t:Str}{c:Addr}{tab:List (Nat×Bool)}(m:mg t=some (.ref c))(h:∀e b,tab.lookup e=some b->PySem.W.ExcI (kk P) e/\PySem.W.kitOne (kk P) (.ref e) (.ref c)=some b):XcZ (kk P) mg t c tab:=⟨.inl m,λe b q=>⟨(h e b q).1,λa=>(h e b q).2,λ(z:mg t=none)=>by rw[m]at z;cases z⟩⟩
theorem LW{c:Addr}{tab:List (Nat×Bool)}(m:mg "ValueError"=none)(h:∀e b,tab.lookup e=some b->PySem.W.ExcI (kk P) e/\PySem.W.kitOne (kk P) (.ref e) (.type "ValueError")=some b):XcZ (kk P) mg "ValueError" c tab:=⟨.inr ⟨rfl,m⟩,λe b q=>⟨(h e b q).1,λ(z:mg "ValueError"=some (.ref c))=>(by rw[m]at z;cases z),λa=>(h e b q).2⟩⟩
theorem mkW{d:bf}(C:Cls (kk P) cV)(F:FF x q st f cd pm ps)(T:iJ (kk P) cV x f)(n:x≠"objects"/\x≠"numbers":=by decide)(c:jv env d.lent st=some d:=by kernel_rfl)(e:d.lent.length=ps.length:=by rfl)(e':d.lent.headD false=false:=by rfl):nW (kk P) env x d:=
 ⟨n,e',⟨st,f,_,ps,q,F.fn P,C,T,(F.fn P).binds F.b,oC F.s,F.d,c,e⟩⟩
end
theorem F8:FT "is_name_sign" 8 76 m0 ["sign"]:={}
theorem F9:FT "is_name" 9 81 m0 ["text"]:={}
theorem F10:FT "names_rise" 10 86 m0 ["names"]:={}
theorem F15:FT "text_of" 15 168 m1 ["vault","number"]:={}
theorem F16:FT "entries_of" 16 175 m1 ["vault","number"]:={}
theorem F17:FT "entries_by_name" 17 182 m1 ["vault","number"]:={}
theorem F25:FT "object_at" 25 222 m2 ["vault","top","names"]:={}
theorem F29:FT "_law_cell" 29 243 m3 ["_law_script","_law_k"]:={}
theorem F30:FT "_law_mix" 30 250 m3 ["_law_script","_law_k"]:={}
theorem F31:FT "_law_whole" 31 257 m3 ["_law_found_here"]:={}
theorem F32:FT "_law_sign" 32 264 m3 ["_law_number"]:={}
theorem F33:FT "_law_line" 33 271 m3 ["_law_script","_law_k"]:={}
theorem F34:FT "_law_ends" 34 276 m3 ["_law_row_here","_law_cut"]:={}
theorem F35:FT "_law_row" 35 281 m3 ["_law_script","_law_base","_law_many"]:={}
theorem F37:FT "_law_name" 37 293 m3 ["_law_script","_law_k"]:={}
theorem F39:FT "_law_node" 39 305 m3 ["_law_script","_law_k","_law_deep"]:={}
theorem F40:FT "_law_folder" 40 310 m3 ["_law_script","_law_k","_law_deep"]:={}
theorem F42:FT "_law_seen" 42 320 m3 ["_law_vault","_law_number"]:={}
theorem F43:FT "_law_get" 43 327 m3 ["_law_node_here","_law_names"]:={}
theorem F45:FT "_law_way" 45 339 m3 ["_law_script","_law_k","_law_node_here"]:={}
theorem F44:FT "_law_with" 44 332 m3 ["_law_node_here","_law_names","_law_thing"]:={}
theorem F13:FT "blob" 13 156 m1 ["vault","text"]:={}
theorem F14:FT "tree" 14 161 m1 ["vault","entries"]:={}
theorem F18:FT "refuse_wrong_names" 18 189 m1 ["names"]:={}
theorem F19:FT "refuse_what_is_no_tree" 19 196 m1 ["vault","number"]:={}
theorem F22:FT "found_at" 22 203 m2 ["vault","top","path"]:={}
theorem F23:FT "with_object" 23 210 m2 ["vault","top","path","number"]:={}
theorem F24:FT "names_of" 24 215 m2 ["path"]:={}
theorem F26:FT "entries_with" 26 229 m2 ["vault","folder","names","number"]:={}
theorem F27:FT "tree_or_none" 27 236 m2 ["vault","entries"]:={}
theorem F41:FT "_law_store" 41 315 m3 ["_law_vault","_law_node_here"]:={}
theorem F46:FT "_law_found" 46 346 m3 ["_law_vault","_law_top","_law_path"]:={}
theorem F47:FT "law" 47 351 m3 ["_law_script"]:={}
theorem Fm0:FF "__init__" "Vault.__init__" (met 0) 101 100 m1 ["self"]:={}
theorem Fm5:FF "put" "Vault.put" (met 5) 136 135 m1 ["self","made"]:={}
theorem Fm2:FF "kind" "Vault.kind" (met 2) 115 114 m1 ["self","number"]:={}
theorem Fm3:FF "held" "Vault.held" (met 3) 122 121 m1 ["self","number"]:={}
theorem Fm4:FF "content" "Vault.content" (met 4) 129 128 m1 ["self","number","wanted"]:={}
noncomputable abbrev dn(k:Nat):Fs:=den (prog) gam k
noncomputable abbrev dm(k:Nat):FsM:=ju ur (prog) (progM) gam cV k
theorem IV(k:Nat):Cd (dn (k+1)):=aw (d:=dX) rfl λns j=>by rw[run_eq rfl];exact xN ns j
theorem jJ(k:Nat):nX (dn (k+2)):=aw (d:=iy) rfl λns j=>by rw[run_eq rfl];exact Be (IV k) ns j
theorem IW(k:Nat):yn (dn (k+1)):=aw (d:=fX) rfl λn=>by rw[run_eq rfl];exact IE n
theorem IX(k:Nat):yp (dn (k+3)):=aw (d:=fY) rfl λns j=>by rw[run_eq rfl];exact IF (jJ k) (IW (k+1)) ns j
theorem yU(k:Nat):Cu (dn (k+4)):=aw (d:=iz) rfl λns b n h1=>by rw[run_eq rfl];exact LM (IX k) ns b n h1
theorem oE(k:Nat):yq (dn (k+1)):=aw (d:=fZ) rfl λrow b h1 h2=>by rw[run_eq rfl];exact IG row b h1 h2
theorem Gd(k:Nat):rS (dn (k+1)):=aw (d:=kK) rfl λi=>by rw[run_eq rfl];exact rfl
theorem hName(k:Nat):xY (dn (k+3)):=aw (d:=gf) rfl λns j=>by rw[run_eq rfl];exact nmR (jJ k) ns j
theorem By(k:Nat):rN (dn (k+1)):=aw (d:=bu) rfl λc=>by rw[run_eq rfl];exact LK c
theorem sj(k:Nat):lP (dn (k+2)):=aw (d:=eM) rfl λx h=>by rw[run_eq rfl];exact LL (By k) rfl x h
theorem IY(k:Nat):yi (dn (k+1)):=aw (d:=bX) rfl λxs h1=>by rw[run_eq rfl];exact IC xs h1
theorem Cz(k:Nat):xT (dn (k+1)) cV:=aw (d:=(gc cV)) rfl λh os n d hd=>by rw[run_eq rfl];exact xV h os n d hd
theorem oF(k:Nat):xU (dn (k+2)) cV:=aw (d:=(gb cV)) rfl λh os n kk ds hd=>by rw[run_eq rfl];exact xX (Cz k) h os n kk ds hd
theorem oG(k:Nat):jA (dn (k+2)) cV:=aw (d:=(cJ cV)) rfl λh os n kk d hd=>by rw[run_eq rfl];exact nZ (Cz k) h os n kk d hd
theorem yV(k:Nat):yk (dn (k+3)) cV:=aw (d:=(eN cV)) rfl λh os n t z hd=>by rw[run_eq rfl];exact ID (oG k) h os n t z hd
theorem eC(k:Nat):jB (dn (k+3)) cV:=aw (d:=(bY cV)) rfl λh os n es hd=>by rw[run_eq rfl];exact oa (oG k) h os n es hd
theorem Ge(k:Nat):ym (dn (k+5)) 0:=aw (d:=cC) rfl λns j=>by rw[run_eq rfl];exact eg (m:=0) (jJ (k+2)) (yU k) (oE (k+3)) (λz=>absurd z (by decide)) ns j
theorem yW(k:Nat):rT (dn (k+6)) 1:=aw (d:=cD) rfl λns j=>by rw[run_eq rfl];exact jD (m:=0) (jJ (k+3)) (hName (k+2)) (Ge k) ns j
theorem Gf(k:Nat):ym (dn (k+7)) 1:=aw (d:=cC) rfl λns j=>by rw[run_eq rfl];exact eg (m:=1) (jJ (k+4)) (yU (k+2)) (oE (k+5)) (λa=>(yW k)) ns j
theorem yX(k:Nat):rT (dn (k+8)) 2:=aw (d:=cD) rfl λns j=>by rw[run_eq rfl];exact jD (m:=1) (jJ (k+5)) (hName (k+4)) (Gf k) ns j
theorem IZ(k:Nat):FL (dn (k+4)) cV:=aw (d:=(ay cV)) rfl λh L=>⟨by rw[run_eq rfl];exact (lW (oF (k+1)) (eC k) h L).1,λn t q=>by rw[run_eq rfl];exact (lW (oF (k+1)) (eC k) h L).2.1 n t q,λn ps q nd=>by rw[run_eq rfl];exact (lW (oF (k+1)) (eC k) h L).2.2 n ps q nd⟩
theorem LX(k:Nat):FN (dn (k+1)):=aw (d:=iC) rfl λn xs hn=>by rw[run_eq rfl];exact Br n xs hn
theorem LY(k:Nat):FQ (dn (k+4)):=aw (d:=iD) rfl λns j n hn=>by rw[run_eq rfl];exact Bs (jJ (k+1)) (hName k) ns j n hn
theorem yY(k:Nat):qj (dm (k+1)) cNO:=aL (d:=(cm cV cNO)) rfl rfl λL i=>by rw[aH rfl];exact Iz L i
theorem Gg(k:Nat):ye (dm (k+2)) cNO:=aL (d:=(cb cNO)) rfl rfl λL i s hk=>by rw[aH rfl];exact IA (yY k) L i s hk
theorem Gh(k:Nat):yg (dm (k+2)) cNO:=aL (d:=eP) rfl rfl λL i=>by rw[aH rfl];exact IB (yY k) L i
theorem Ja(k:Nat):Cp (dm (k+3)) cBT:=aL (d:=(aG cBT)) rfl rfl λU es h1 h2=>by rw[aH rfl];exact LJ (sj k) (IY (k+1)) U es h1 h2
theorem jK(k:Nat):lS (dm (k+4)) cNO cBT:=aL (d:=(iA cBT)) rfl rfl λL es h1 h2 h3=>by rw[aH rfl];exact II (Ja k) (Gh (k+1)) (rO _) L es h1 h2 h3
theorem hNoTree(k:Nat):lQ (dm (k+3)) cNO:=aL (d:=ax) rfl rfl λL i=>by rw[aH rfl];exact FI (Gg k) L i
theorem yZ(k:Nat):yv (dm (k+1)):=aL (d:=lO) rfl rfl λL x hz=>by rw[aH rfl];exact IJ (rO _) L x hz
theorem za:∀(m k:Nat),lU (dm (k+m+5)) m
 |0,k=>aL (k:=k+4) (d:=dc) rfl rfl λL n a b=>by rw[aH rfl];exact kR (cNO:=cNO) (cBT:=cBT) (yZ (k+3)) (jK k) 0 (λc z=>by cases z) L n a b
 |m+1,k=>aL (k:=k+m+5) (d:=dc) rfl rfl λL n a b=>by rw[aH rfl];exact kR (cNO:=cNO) (cBT:=cBT) (yZ (k+m+4)) (jK (k+m+1)) (m+1) (λc z=>by cases z;exact za m k) L n a b
theorem LZ(k:Nat):IR (dm (k+5)) cNO cBT:=aL (d:=aQ) rfl rfl ⟨λL=>by rw[aH rfl];exact (se (cNO:=cNO) (cBT:=cBT) (jK k)).1 L,λL es h1 h2 h3 h4=>by rw[aH rfl];exact (se (jK k)).2 L es h1 h2 h3 h4⟩
theorem Gi(k:Nat):qt (dn (k+9)):=aw (d:=cC) rfl λm hm ns j=>by rw[run_eq rfl];match m,hm with|0,_=>exact eg (m:=0) (jJ (k+6)) (yU (k+4)) (oE (k+7)) (λz=>absurd z (by decide)) ns j|1,_=>exact eg (m:=1) (jJ (k+6)) (yU (k+4)) (oE (k+7)) (λa=>(yW (k+2))) ns j|2,_=>exact eg (m:=2) (jJ (k+6)) (yU (k+4)) (oE (k+7)) (λa=>(yX k)) ns j
theorem CA:∀(m k:Nat),rW (dn (k+m+4)) cV m
 |0,k=>aw (k:=k+3) (d:=dZ cV) rfl λh L n j ok r=>by rw[run_eq rfl];exact oq (oF (k+1)) (yV k) (eC k) 0 (λa z=>by cases z) h L n j ok r
 |m+1,k=>aw (k:=k+m+4) (d:=dZ cV) rfl λh L n j ok r=>by rw[run_eq rfl];exact oq (oF (k+m+2)) (yV (k+m+1)) (eC (k+m+1)) (m+1) (λa z=>by cases z;exact CA m k) h L n j ok r
theorem Jb(w k:Nat):FM w (dn (k+5)) cV:=aw (d:=cK) rfl λh L o n xs r=>by rw[run_eq rfl];exact Bq (IZ k) h L o n xs r
theorem zb:∀(m k:Nat),mh (dn (k+m+1)) m
 |0,k=>aw (k:=k) (d:=ef) rfl λe e e e e e z=>absurd z (Nat.not_lt_zero _)
 |m+1,k=>aw (k:=k+m+1) (d:=ef) rfl λn x r th a b c=>by rw[run_eq rfl];exact uB m (zb m k) n x r th a b c
theorem hNames(k:Nat):qq (dm (k+3)):=aL (d:=(cL cNP)) rfl rfl λU t x r p=>by rw[aH rfl];exact uz (sj k) rfl U t x r p
theorem hEw:∀(m k:Nat),HEw (dm (k+m+6)) m
 |0,k=>aL (k:=k+5) (d:=aP) rfl rfl λh h h h h h h h h h h z=>absurd z (Nat.not_lt_zero _)
 |m+1,k=>aL (k:=k+m+6) (d:=aP) rfl rfl λw L o n x r i th a b c d e f g=>by rw[aH rfl];exact FX (IZ (k+m+2)) (LZ (k+m+1)) m (hEw m k) w L o n x r i th a b c d e f g
theorem Gj(k:Nat):yL (dm (k+6)) cNP:=aL (d:=(dD cNP)) rfl rfl λw L i m es t x r a b c=>by rw[aH rfl];exact uA (hNames (k+2)) (hNoTree (k+2)) (λw=>Jb w k) w L i m es t x r a b c
theorem Jc(k:Nat):yM (dm (k+10)):=aL (d:=(bg cNP)) rfl rfl (SWith.of (λa a h=>aH h) (yN (hNames (k+6)) (hNoTree (k+6)) (λw=>Jb w (k+4)) (hEw 3 k) (jK (k+5))))
theorem Bz(k:Nat):mi (dm (k+7)):=aL (d:=(eQ cNO cBT cNP)) rfl rfl λw L i m es t x r a b c=>by rw[aH rfl];exact qr (by decide) (by decide) (Gj k) w L i m es t x r a b c
theorem holds(ns:List Int)(hl:ns.length<=63):∃U,dC (dn 37) (dm 37) gam cV df [] [.scr ns]=some (U,.ok (.bool true)):=IU (jJ 35) (yX 29) (Gi 28) (za 2 30) (LY 33) (LX 36) (zb 3 33) (Gd 36) (CA 5 28) (Jc 27) (Bz 30) ns
set_option maxHeartbeats 0 in
theorem all_mk{w:World}{h:Heap}{fa:Addr}(P:Params)(X:(kk P).In h)(G:h.Ns mainGlobals mg)(hfa:mg "law"=some (.ref fa)):
  ∃fd:FuncData,(∀(s:Shared)(v:Value),BindsTo s fd ⟨[v],[]⟩ [("_law_script",v)])/\∀base:Heap,(kk P).In base->base.Ns mainGlobals mg->FnOk PySem.Challenge.pw_strata_k50_whole_paths w (kk P) mg base CX0 40 fa fd ["_law_script"] (lL (kk P)):=by
 have e:=hfa.symm.trans (PySem.W.mg_of X G (by kernel_rfl:PySem.W.nsIn (kk P) mainGlobals "law"=some (some (.ref 352))));cases e;have cls:Cls (kk P) cV:=⟨(by kernel_rfl),(by kernel_rfl),(by kernel_rfl),(by kernel_rfl)⟩;have v5:PySem.W.findIn (kk P) (.ref cV) "objects"=some none:=by kernel_rfl
 have v6:PySem.W.findIn (kk P) (.ref cV) "numbers"=some none:=by kernel_rfl
 have T0:=mkT (P:=P) Fm0;have T5:=mkT (P:=P) Fm5;have T2:=mkT (P:=P) Fm2;have T3:=mkT (P:=P) Fm3;have T4:=mkT (P:=P) Fm4;have defs:∀x d,env.fns.contains x=true->prog.lookup x=some d->pY (kk P) mg env.fns env.cst (some env.c) env.vms env.xcs x d:=λx d hx hl=>bL (Q:=λx d=>env.fns.contains x=true->pY (kk P) mg env.fns env.cst (some env.c) env.vms env.xcs x d) (prog:=prog) ⟨λf=>mkD F8 X G,λf=>mkD F9 X G,λf=>mkD F10 X G,λf=>mkD F15 X G,λf=>mkD F16 X G,λf=>mkD F17 X G,λf=>mkD F25 X G,λf=>mkD F29 X G,λf=>mkD F30 X G,λf=>mkD F31 X G,λf=>mkD F32 X G,λf=>mkD F33 X G,λf=>mkD F34 X G,λf=>mkD F35 X G,λf=>mkD F37 X G,λf=>mkD F39 X G,λf=>mkD F40 X G,λf=>mkD F42 X G,λf=>mkD F43 X G,λf=>mkD F45 X G,λf=>mkD F44 X G,λz=>absurd (Eq.trans (by kernel_rfl:false=env.fns.contains (ah "kind")) z) fx0,λz=>absurd (Eq.trans (by kernel_rfl:false=env.fns.contains (ah "held")) z) fx0,λz=>absurd (Eq.trans (by kernel_rfl:false=env.fns.contains (ah "content")) z) fx0,trivial⟩ x d hl hx
 have mets:∀c m d,some env.c=some c->env.vms.contains m=true->prog.lookup (ah m)=some d->pZ (kk P) env.fns env.cst c env.vms env.xcs m d:=λc m d hc hm hl=>by
  cases hc;exact bL (Q:=λx d=>∀m,x=ah m->env.vms.contains m=true->pZ (kk P) env.fns env.cst env.c env.vms env.xcs m d) (prog:=prog) ⟨λf z h=>nv z h,λf z h=>nv z h,λf z h=>nv z h,λf z h=>nv z h,λf z h=>nv z h,λf z h=>nv z h,λf z h=>nv z h,λf z h=>nv z h,λf z h=>nv z h,λf z h=>nv z h,λf z h=>nv z h,λf z h=>nv z h,λf z h=>nv z h,λf z h=>nv z h,λf z h=>nv z h,λf z h=>nv z h,λf z h=>nv z h,λf z h=>nv z h,λf z h=>nv z h,λf z h=>nv z h,λf z h=>nv z h,λm z f=>bH z▸mkV Fm2 T2,λm z f=>bH z▸mkV Fm3 T3,λm z f=>bH z▸mkV Fm4 T4,trivial⟩ _ d hl m rfl hm
 have defm:∀x d,env.mfs.contains x=true->progM.lookup x=some d->nV (kk P) mg env x d:=λx d hx hl=>bL (Q:=λx d=>env.mfs.contains x=true->nV (kk P) mg env x d) (prog:=progM) ⟨λf=>mkM F13 X G,λf=>mkM F14 X G,λf=>mkM F18 X G,λf=>mkM F19 X G,λf=>mkM F22 X G,λf=>mkM F23 X G,λf=>mkM F24 X G,λf=>mkM F26 X G,λf=>mkM F27 X G,λf=>mkM F41 X G,λf=>mkM F46 X G,λf=>mkM F47 X G,λz=>absurd (Eq.trans (by kernel_rfl:false=env.mfs.contains (ah "kind")) z) fx0,λz=>absurd (Eq.trans (by kernel_rfl:false=env.mfs.contains (ah "held")) z) fx0,λz=>absurd (Eq.trans (by kernel_rfl:false=env.mfs.contains (ah "content")) z) fx0,trivial⟩ x d hl hx
 have metm:∀m d,env.mms.contains m=true->progM.lookup (ah m)=some d->nW (kk P) env m d:=λm d hm hl=>bL (Q:=λx d=>∀m,x=ah m->env.mms.contains m=true->nW (kk P) env m d) (prog:=progM) ⟨λf z h=>nv z h,λf z h=>nv z h,λf z h=>nv z h,λf z h=>nv z h,λf z h=>nv z h,λf z h=>nv z h,λf z h=>nv z h,λf z h=>nv z h,λf z h=>nv z h,λf z h=>nv z h,λf z h=>nv z h,λf z h=>nv z h,λm z f=>bH z▸mkW cls Fm2 T2,λm z f=>bH z▸mkW cls Fm3 T3,λm z f=>bH z▸mkW cls Fm4 T4,trivial⟩ _ d hl m rfl hm
 have blt:∀x∈bltNames,mg x=none:=rL (xs:=bltNames) ⟨mn X G,mn X G,mn X G,mn X G,mn X G,mn X G,mn X G,mn X G,mn X G,mn X G,mn X G,mn X G,mn X G,mn X G,mn X G,mn X G,mn X G,trivial⟩;have gl:∀x d,gam.lookup x=some d->∃u v,mg x=some u/\RelV v u/\∀G,Dp (kk P) G d v:=rM (prog:=gam) ⟨⟨.int 12 264,.int 12,mo X G,⟨_,rfl⟩,λf=>.int _⟩,⟨.int 20 420,.int 20,mo X G,⟨_,rfl⟩,λf=>.int _⟩,trivial⟩;have fv:∀x a,gam.lookup x=some (.fn a)->env.mfs.contains x=true:=λx a h=>bL (Q:=λx d=>∀a,d=.fn a->env.mfs.contains x=true) (prog:=gam) ⟨nofun,nofun,trivial⟩ x _ h a rfl
 have INoObject:PySem.W.ExcI (kk P) cNO:=⟨(by kernel_rfl),(by kernel_rfl),(by kernel_rfl),(by kernel_rfl),(by kernel_rfl),(by kernel_rfl)⟩;have IBadTree:PySem.W.ExcI (kk P) cBT:=⟨(by kernel_rfl),(by kernel_rfl),(by kernel_rfl),(by kernel_rfl),(by kernel_rfl),(by kernel_rfl)⟩;have INoPath:PySem.W.ExcI (kk P) cNP:=⟨(by kernel_rfl),(by kernel_rfl),(by kernel_rfl),(by kernel_rfl),(by kernel_rfl),(by kernel_rfl)⟩;have yStrataError:PySem.W.excIn (kk P) cSE aY "ValueError.__new__"=true:=by kernel_rfl
 have yNoObject:PySem.W.excIn (kk P) cNO aY "ValueError.__new__"=true:=by kernel_rfl
 have yBadTree:PySem.W.excIn (kk P) cBT aY "ValueError.__new__"=true:=by kernel_rfl
 have yNoPath:PySem.W.excIn (kk P) cNP aY "ValueError.__new__"=true:=by kernel_rfl
 have xc:∀t c tab,env.xcs.lookup t=some (c,tab)->XcZ (kk P) mg t c tab:=λt c tab hl=>bL (Q:=λt (p:Nat×List (Nat×Bool))=>XcZ (kk P) mg t p.1 p.2) (prog:=env.xcs) ⟨mkX (mo X G) λe b hq=>(cf hq).elim (λz=>by obtain⟨z1,z2⟩:=z;subst z1 z2;exact⟨INoObject,(by kernel_rfl)⟩) λz=>z.elim (λz=>by obtain⟨z1,z2⟩:=z;subst z1 z2;exact⟨IBadTree,(by kernel_rfl)⟩) (λz=>by obtain⟨z1,z2⟩:=z;subst z1 z2;exact⟨INoPath,(by kernel_rfl)⟩),mkX (mo X G) λe b hq=>(cf hq).elim (λz=>by obtain⟨z1,z2⟩:=z;subst z1 z2;exact⟨INoObject,jC _⟩) λz=>z.elim (λz=>by obtain⟨z1,z2⟩:=z;subst z1 z2;exact⟨IBadTree,(by kernel_rfl)⟩) (λz=>by obtain⟨z1,z2⟩:=z;subst z1 z2;exact⟨INoPath,(by kernel_rfl)⟩),mkX (mo X G) λe b hq=>(cf hq).elim (λz=>by obtain⟨z1,z2⟩:=z;subst z1 z2;exact⟨INoObject,(by kernel_rfl)⟩) λz=>z.elim (λz=>by obtain⟨z1,z2⟩:=z;subst z1 z2;exact⟨IBadTree,jC _⟩) (λz=>by obtain⟨z1,z2⟩:=z;subst z1 z2;exact⟨INoPath,(by kernel_rfl)⟩),mkX (mo X G) λe b hq=>(cf hq).elim (λz=>by obtain⟨z1,z2⟩:=z;subst z1 z2;exact⟨INoObject,(by kernel_rfl)⟩) λz=>z.elim (λz=>by obtain⟨z1,z2⟩:=z;subst z1 z2;exact⟨IBadTree,(by kernel_rfl)⟩) (λz=>by obtain⟨z1,z2⟩:=z;subst z1 z2;exact⟨INoPath,jC _⟩),LW (mn X G) λe b hq=>(cf hq).elim (λz=>by obtain⟨z1,z2⟩:=z;subst z1 z2;exact⟨INoObject,(by kernel_rfl)⟩) λz=>z.elim (λz=>by obtain⟨z1,z2⟩:=z;subst z1 z2;exact⟨IBadTree,(by kernel_rfl)⟩) (λz=>by obtain⟨z1,z2⟩:=z;subst z1 z2;exact⟨INoPath,(by kernel_rfl)⟩),trivial⟩ t (c,tab) hl
 have tr:∀(t:Str) x tab,t≠("ValueError":Str)->env.xcs.lookup t=some (x,tab)->∀e,tab.lookup e=some true->∃newId newIdT,PySem.W.excIn (kk P) e aY newId=true/\PySem.W.excIn (kk P) x aY newIdT=true/\fw (kk P) e x=true:=λt x tab hn hl=>bL (Q:=λt (p:Nat×List (Nat×Bool))=>t≠("ValueError":Str)->∀e,p.2.lookup e=some true->∃newId newIdT,PySem.W.excIn (kk P) e aY newId=true/\PySem.W.excIn (kk P) p.1 aY newIdT=true/\fw (kk P) e p.1=true) (prog:=env.xcs) ⟨λf e hq=>(cf hq).elim (λz=>by obtain⟨z1,z2⟩:=z;subst z1;exact⟨_,_,yNoObject,yStrataError,(by kernel_rfl)⟩) λz=>z.elim (λz=>by obtain⟨z1,z2⟩:=z;subst z1;exact⟨_,_,yBadTree,yStrataError,(by kernel_rfl)⟩) (λz=>by obtain⟨z1,z2⟩:=z;subst z1;exact⟨_,_,yNoPath,yStrataError,(by kernel_rfl)⟩),λf e hq=>(cf hq).elim (λz=>by obtain⟨z1,z2⟩:=z;subst z1;exact⟨_,_,yNoObject,yNoObject,(by kernel_rfl)⟩) λz=>z.elim (λz=>by cases z.2) (λz=>by cases z.2),λf e hq=>(cf hq).elim (λz=>by cases z.2) λz=>z.elim (λz=>by obtain⟨z1,z2⟩:=z;subst z1;exact⟨_,_,yBadTree,yBadTree,(by kernel_rfl)⟩) (λz=>by cases z.2),λf e hq=>(cf hq).elim (λz=>by cases z.2) λz=>z.elim (λz=>by cases z.2) (λz=>by obtain⟨z1,z2⟩:=z;subst z1;exact⟨_,_,yNoPath,yNoPath,(by kernel_rfl)⟩),λz=>absurd rfl z,trivial⟩ t (x,tab) hl hn
 have B:Base (kk P) mg gam (some env.c) env.xcs:=⟨blt,gl,λc hc=>by cases hc;exact⟨cls,v5⟩,xc⟩;refine⟨PySem.W.fnOf "law" "law" (defArgs (top 47)) (defBody (top 47)) (defScope (top 47)) .none .none .none m3 none (.ref 351) .none,λs v=>.of_eq rfl,λbase f f=>?_⟩;have VZ:xK PySem.Challenge.pw_strata_k50_whole_paths w (kk P) mg base cV "Vault":=⟨⟨_,_,⟨(by kernel_rfl),T0.1,T0.2,(by kernel_rfl)⟩,mo X G,by decide,(Fm0.fn P).binds Fm0.b,Bb (Fm0.fn P) (oC Fm0.s) ti cls v5 v6⟩⟩;have BM:xF PySem.Challenge.pw_strata_k50_whole_paths w (kk P) mg base ur env:=⟨λX e1 e2 e3 e4 e5 r g Y U p pos=>Bc (by rw[e1,e2,e3,e4,e5];exact VZ) r g,λm J h=>by
   obtain⟨h1,rfl⟩:=Bk h;obtain rfl:=bH h1;exact⟨⟨⟨_,_,_,cls,T5,(Fm5.fn P).binds Fm5.b,Fy (Fm5.fn P) (oC Fm5.s) tp (mn X G) cls v5 v6⟩⟩,rfl,by decide,by decide⟩,
  λx hx=>if_neg λz=>by
   subst z;exact absurd (Eq.trans (by kernel_rfl:false=env.mfs.contains (ah "put")) hx) fx0,
  λt x hl=>bL (Q:=λt x=>mg t=some (.ref x)/\∃newId initId,ExcBaseFacts "ValueError" newId initId aY/\PySem.W.excIn (kk P) x aY newId=true) (prog:=env.xks) ⟨⟨mo X G,_,_,PySem.F.excBase_ValueError,yBadTree⟩,⟨mo X G,_,_,PySem.F.excBase_ValueError,yNoObject⟩,⟨mo X G,_,_,PySem.F.excBase_ValueError,yNoPath⟩,trivial⟩ t x hl,tr⟩
 have defn:∀x d,env.nws.contains x=true->prog.lookup x=some d->kF (kk P) mg env.fns env.cst (some env.c) env.vms env.xcs x d:=λx d hx hl=>bL (Q:=λx d=>env.nws.contains x=true->kF (kk P) mg env.fns env.cst (some env.c) env.vms env.xcs x d) (prog:=prog) ⟨λz=>absurd (Eq.trans (by kernel_rfl:false=env.nws.contains "is_name_sign") z) fx0,λz=>absurd (Eq.trans (by kernel_rfl:false=env.nws.contains "is_name") z) fx0,λz=>absurd (Eq.trans (by kernel_rfl:false=env.nws.contains "names_rise") z) fx0,λz=>absurd (Eq.trans (by kernel_rfl:false=env.nws.contains "text_of") z) fx0,λz=>absurd (Eq.trans (by kernel_rfl:false=env.nws.contains "entries_of") z) fx0,λf=>mkN F17 X G,λz=>absurd (Eq.trans (by kernel_rfl:false=env.nws.contains "object_at") z) fx0,λz=>absurd (Eq.trans (by kernel_rfl:false=env.nws.contains "_law_cell") z) fx0,λz=>absurd (Eq.trans (by kernel_rfl:false=env.nws.contains "_law_mix") z) fx0,λz=>absurd (Eq.trans (by kernel_rfl:false=env.nws.contains "_law_whole") z) fx0,λz=>absurd (Eq.trans (by kernel_rfl:false=env.nws.contains "_law_sign") z) fx0,λz=>absurd (Eq.trans (by kernel_rfl:false=env.nws.contains "_law_line") z) fx0,λz=>absurd (Eq.trans (by kernel_rfl:false=env.nws.contains "_law_ends") z) fx0,λz=>absurd (Eq.trans (by kernel_rfl:false=env.nws.contains "_law_row") z) fx0,λz=>absurd (Eq.trans (by kernel_rfl:false=env.nws.contains "_law_name") z) fx0,λz=>absurd (Eq.trans (by kernel_rfl:false=env.nws.contains "_law_node") z) fx0,λz=>absurd (Eq.trans (by kernel_rfl:false=env.nws.contains "_law_folder") z) fx0,λz=>absurd (Eq.trans (by kernel_rfl:false=env.nws.contains "_law_seen") z) fx0,λz=>absurd (Eq.trans (by kernel_rfl:false=env.nws.contains "_law_get") z) fx0,λz=>absurd (Eq.trans (by kernel_rfl:false=env.nws.contains "_law_way") z) fx0,λz=>absurd (Eq.trans (by kernel_rfl:false=env.nws.contains "_law_with") z) fx0,λz=>absurd (Eq.trans (by kernel_rfl:false=env.nws.contains (ah "kind")) z) fx0,λz=>absurd (Eq.trans (by kernel_rfl:false=env.nws.contains (ah "held")) z) fx0,λz=>absurd (Eq.trans (by kernel_rfl:false=env.nws.contains (ah "content")) z) fx0,trivial⟩ x d hl hx
 have M:=AX (P:=PySem.Challenge.pw_strata_k50_whole_paths) (w:=w) (base:=base) (Γ:=gam) (prog:=prog) (progM:=progM) B BM fv defs mets defm metm defn 37;exact AY (qf (F47.fn P) (oC F47.s) F47.d (by kernel_rfl:jv env [true] (top 47)=some df) rfl M) rfl λns hl=>by
  obtain⟨U,hU⟩:=holds ns hl;exact⟨U,by rw[aH rfl];exact hU⟩
end K50
open PySem PySem.W PySem.W.X PyProof.Rows K50
set_option maxRecDepth 100000 in
set_option maxHeartbeats 0 in
theorem PySem.Challenge.cw_strata_k50_whole_paths_holds : PySem.Challenge.rw_strata_k50_whole_paths.Holds := by
 w_on
 refine PySem.W.holds_law (by decide +kernel) λsaid=>?_
 refine PySem.W.holds_openX (q:=vw) (loose:=lo) (Xt:=λs=>xlAt vw [] s&&recOk (RowW.records (OpenRow.toRowW PySem.Challenge.rw_strata_k50_whole_paths.row)) s) (XP:=XL vw []) (Yf:=obsZ ads) (Ya:=valZ kk 353 640) (d:=Dj) (kwd:=[]) (N:=4854) hl (λs e=>xl_of s (ax0 e).1) XL.keeps (by kernel_rfl) (by kernel_rfl) (by kernel_rfl) (λs e=>recFacts_of (ax0 e).2) (by rfl) said (by decide +kernel) ⟨rfl,rfl,rfl,rfl,rfl,by decide +kernel⟩ ?hw ?hc
 case hw=>w_witness2
 case hc=>exact L2.Z.walkX (λP=>by kernel_rfl) (L2.Z.walkM (l:=PySem.Challenge.rw_strata_k50_whole_paths) rfl rfl (λw h Y=>Y) λw mg fa h KX G hmg=>K50.all_mk w.params KX G hmg)

end
end

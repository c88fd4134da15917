import PyProof.Rows.All
import Wide.All
import OpenK.AllK
import Wide.FinOn
import PySem.Challenge.RW_strata_k60_packed
set_option tactic.hygienic false
set_option genSizeOf false
set_option compiler.extract_closed false
set_option bootstrap.genMatcherCode false
set_option Elab.async false
set_option linter.all false
set_option maxRecDepth 100000
noncomputable section
def zn0{α:Type}{P:Prop}{e:α}(h:none=some e):P:=nomatch h
def gi0{α:Type}{l:List α}{i:Nat}{a:α}:l[i]?=some a->∃h:i<l.length,l[i]=a:=List.getElem?_eq_some_iff.1
def bf0{a:Bool}:¬a=true->a=false:=Bool.eq_false_iff.2
def is0{α:Type}{x:Option α}:x.isSome=true->∃a,x=some a:=Option.isSome_iff_exists.1
def lp0{α:Type}{l:List α}:l≠[]->0<l.length:=List.length_pos_iff.2
def bn0{α:Type}[BEq α][LawfulBEq α]{a b:α}:a≠b->(a==b)=false:=beq_eq_false_iff_ne.2
abbrev wb0:=@PySem.wpAny_bind
abbrev wq0:=@PySem.wpAny_pure
abbrev wh0:=@PySem.wpAny_holding
abbrev fg0:=@PySem.W.Frag
abbrev ml0:=@PySem.mem_of_lookup
abbrev hu0:=@PySem.Heap.get?_update_self
abbrev ez0:=@List.eq_nil_of_length_eq_zero
abbrev ui0:=@PySem.Around.under_plainId
def bx0{α β:Type}{f:α->Option β}{b:β}{x:Option α}:x.bind f=some b->∃a,x=some a/\f a=some b:=Option.bind_eq_some_iff.1
def mx0{α β:Type}{f:α->β}{b:β}{x:Option α}:x.map f=some b->∃a,x=some a/\f a=b:=Option.map_eq_some_iff.1
def ax0{a b:Bool}:(a&&b)=true->a=true/\b=true:=Bool.and_eq_true_iff.1
def fx0:false≠true:=Bool.false_ne_true
def mm0{α β:Type}{f:α->β}{l:List α}{b:β}:b∈l.map f->∃a,a∈l/\f a=b:=List.mem_map.1
def ma0{α:Type}{a:α}{s t:List α}:a∈s++t->a∈s\/a∈t:=List.mem_append.1
def mq0{α:Type}{a b:α}{l:List α}:a∈b::l->a=b\/a∈l:=List.mem_cons.1
abbrev bs0:=@Option.bind_some
abbrev mc0:=@List.mem_cons_of_mem
abbrev ps0:=@PySem.Heap.get?_push_of_some
abbrev ms0:=@List.mem_cons_self
abbrev lm0:=@List.length_map
abbrev ls0:=@List.size_toArray
abbrev ge0:=@List.getElem?_eq_getElem
abbrev hs0:=@PySem.Heap.lt_size
abbrev nr0:=@Nat.le_refl
abbrev nl0:=@Nat.lt_of_lt_of_le
abbrev pz0:=@PySem.Heap.get?_push_size
abbrev lc0:=@List.length_cons
abbrev nt0:=@Nat.le_trans
abbrev gn0:=@List.getElem?_set_ne
abbrev nn0:=@Nat.ne_of_lt
abbrev be0:=@Bool.and_eq_true
abbrev df0:=@decide_eq_false
abbrev dt0:=@decide_eq_true
abbrev od0:=@of_decide_eq_true
abbrev gm0:=@List.getElem?_map
abbrev lk0:=@List.lookup_cons
abbrev mo0:=@Option.map_some
abbrev mk0:=@List.map_cons
abbrev li0:=@Nat.lt_irrefl
abbrev al0:=@Array.length_toList
abbrev la0:=@List.length_append
abbrev mr0:=@List.mem_append_right
abbrev gs0:=@List.getElem?_set_self
abbrev mg0:=@List.mem_of_getElem?
abbrev gl0:=@List.getElem?_append_left
abbrev el0:=@Int.emod_lt_of_pos
abbrev en0:=@Int.emod_nonneg
abbrev lr0:=@List.length_range
namespace L2
open PySem PySem.Spec PyProof.Rows
noncomputable abbrev Key:=Sum Int Str
noncomputable def gY:Key->Value->Bool
 |.inl k,v=>Value.isInt k v
 |.inr x,v=>Value.isStrOf x v
noncomputable def Kv(w:World):Key->Int
 |.inl k=>hashInt k
 |.inr x=>hashStr w x
def keyIs_shape:∀{k:Key}{v:Value},gY k v=true->(∃i t,k=Sum.inl i/\v=Value.int i t)\/(∃x t,k=Sum.inr x/\v=Value.str x t)
 |.inl i,v,h=>by
  obtain⟨t,e⟩:=Value.isInt_shape h;exact .inl ⟨i,t,rfl,e⟩
 |.inr x,v,h=>by
  obtain⟨t,e⟩:=Value.isStrOf_shape h;exact .inr ⟨x,t,rfl,e⟩
def sY(i:Int)(t:Tok):gY (.inl i) (.int i t)=true:=by simp[gY,Value.isInt]
def sZ(x:Str)(t:Tok):gY (.inr x) (.str x t)=true:=by simp[gY,Value.isStrOf]
def DF(a b:Int):decide ((Sum.inl a:Key)=Sum.inl b)=(a==b):=by
 by_cases e:a=b<;>simp_all
def DG(a b:Str):decide ((Sum.inr a:Key)=Sum.inr b)=decide (a=b):=by
 simp
def DH(a:Int)(b:Str):decide ((Sum.inl a:Key)=Sum.inr b)=false:=df0 (λq=>nomatch q)
def DI(a:Str)(b:Int):decide ((Sum.inr a:Key)=Sum.inl b)=false:=df0 (λq=>nomatch q)
noncomputable def aC(prog:Program)(w:World):PySem.KeyKind prog w Key where
 is:=gY
 hash:=Kv w
 inj:=λv a b ha hb=>by
  rcases keyIs_shape ha with⟨i,t,rfl,rfl⟩|⟨x,t,rfl,rfl⟩
  .rcases keyIs_shape hb with⟨j,u,rfl,e⟩|⟨y,u,rfl,e⟩
   .injection e with e1 _;rw[e1]
   .exact nomatch e
  .rcases keyIs_shape hb with⟨j,u,rfl,e⟩|⟨y,u,rfl,e⟩
   .exact nomatch e
   .injection e with e1 _;rw[e1]
 byValue:=λk v h=>by
  rcases keyIs_shape h with⟨i,t,rfl,rfl⟩|⟨x,t,rfl,rfl⟩<;>rfl
 pyHash:=λhv h=>by
  rcases keyIs_shape hv with⟨i,t,rfl,rfl⟩|⟨x,t,rfl,rfl⟩
  .exact wpAny_pyHash_int h
  .exact wpAny_pyHash_str h
 eqBool:=λhu hv h=>by
  rcases keyIs_shape hu with⟨i,t,rfl,rfl⟩|⟨x,t,rfl,rfl⟩
  .rcases keyIs_shape hv with⟨j,u,rfl,rfl⟩|⟨y,u,rfl,rfl⟩
   .rw[DF]at h;exact wpAny_eqBool_int h
   .rw[DH]at h;exact SeqAt.EqAt.int_str i t y u _ _ _ _ h
  .rcases keyIs_shape hv with⟨j,u,rfl,rfl⟩|⟨y,u,rfl,rfl⟩
   .rw[DI]at h;exact SeqAt.EqAt.str_int x t j u _ _ _ _ h
   .rw[DG]at h;exact wpAny_eqBool_str h
 «strs»:=λk x t v h=>by
  rcases keyIs_shape h with⟨i,u,rfl,e⟩|⟨y,u,rfl,e⟩
  .exact nomatch e
  .injection e with e1 _
   subst e1;cases v<;>rfl
def mH(prog:Program)(w:World)(i:Int)(t:Tok):(aC prog w).is (.inl i) (.int i t)=true:=sY i t
def mI(prog:Program)(w:World)(x:Str)(t:Tok):(aC prog w).is (.inr x) (.str x t)=true:=sZ x t
inductive V where
 |non|bl (b:Bool)|int (i:Int)|str (x:Str)|byt (b:Array UInt8)|flt (b:UInt64)|ref (a:Addr)|ty (n:String)
 deriving DecidableEq
noncomputable def RelV:V->Value->Prop
 |.non,u=>u=Value.none
 |.bl b,u=>u=Value.bool b
 |.int i,u=>∃t,u=Value.int i t
 |.str x,u=>∃t,u=Value.str x t
 |.byt b,u=>∃t,u=Value.bytes b t
 |.flt b,u=>∃t,u=Value.float b t
 |.ref a,u=>u=Value.ref a
 |.ty n,u=>u=Value.type n
noncomputable abbrev Vals:List V->List Value->Prop:=Paired RelV
theorem Vals.length{xs:List V}{us:List Value}(r:Vals xs us):xs.length=us.length:=Paired.length r
theorem Vals.get:∀{xs:List V}{us:List Value}{i:Nat}{x:V},Vals xs us->xs[i]?=some x->∃u,us[i]?=some u/\RelV x u
 |_,_,_,_,.nil,e=>by simp at e
 |_,_,0,_,.cons r _,e=>by simp at e;subst e;exact⟨_,rfl,r⟩
 |_,_,i+1,x,.cons _ t,e=>by
  obtain⟨u,h1,h2⟩:=Vals.get t (by simpa using e);exact⟨u,by simpa using h1,h2⟩
theorem Vals.set{x:V}{u:Value}(r:RelV x u):∀{xs:List V}{us:List Value}(i:Nat),Vals xs us->Vals (xs.set i x) (us.set i u)
 |_,_,_,.nil=>.nil
 |_,_,0,.cons _ t=>.cons r t
 |_,_,i+1,.cons q t=>.cons q (Vals.set r i t)
theorem Vals.append:∀{xs ys:List V}{us ws:List Value},Vals xs us->Vals ys ws->Vals (xs++ys) (us++ws)
 |_,_,_,_,.nil,s=>s
 |_,_,_,_,.cons r t,s=>.cons r (Vals.append t s)
theorem Vals.take:∀{xs:List V}{us:List Value}(n:Nat),Vals xs us->Vals (xs.take n) (us.take n)
 |_,_,0,_=>.nil
 |_,_,_+1,.nil=>.nil
 |_,_,n+1,.cons r t=>.cons r (Vals.take n t)
theorem Vals.drop:∀{xs:List V}{us:List Value}(n:Nat),Vals xs us->Vals (xs.drop n) (us.drop n)
 |_,_,0,r=>r
 |_,_,_+1,.nil=>.nil
 |_,_,n+1,.cons _ t=>Vals.drop n t
def Vals.none_of:∀{xs:List V}{us:List Value}{i:Nat},Vals xs us->xs[i]?=none->us[i]?=none:=λ{xs us i} r e=>by
 have h1:=r.length;have h2:xs.length<=i:=List.getElem?_eq_none_iff.mp e;exact List.getElem?_eq_none_iff.mpr (by omega)
noncomputable def RelO:Option V->Option Value->Prop
 |some v,some u=>RelV v u
 |none,none=>True
 |_,_=>False
noncomputable def KV{O:Type}:List (O×V)->List (O×Value)->Prop:=Paired λ(p:O×V) (q:O×Value)=>p.1=q.1/\RelV p.2 q.2
noncomputable def kV:Key->V
 |.inl i=>.int i
 |.inr x=>.str x
inductive HO where
 |lst (xs:List V)
 |tup (xs:List V)
 |dK (kvs:List (Key×V))|dT (kvs:List (List Key×V))
 |set (S:Int->Bool) (n:Nat)
 |ins (C dx:Addr) (fs:List (Str×V))
 |own (x:Addr)
 |xd (fs:List (Str×V))
 |met (f x:Addr)
 |rng (lo hi:Int)
 |frz (o:Obj) (u:HO)
 |tbl (ps:Array Value)
 |ext (J:Heap->Prop)
noncomputable abbrev Hp:=Addr->Option HO
noncomputable def upd(H:Hp)(a:Addr)(o:HO):Hp:=λb=>if b=a then some o else H b
def upd_same{H:Hp}{a:Addr}{o:HO}:upd H a o a=some o:=by unfold upd;simp
def aa{H:Hp}{a b:Addr}{o:HO}(h:b≠a):upd H a o b=H b:=by unfold upd;rw[if_neg h]
def Hx{H:Hp}{a b:Addr}{o u:HO}(h:H a=some o)(h':H b=some u)(d:o≠u):a≠b:=by
 intro e;subst e;rw[h]at h';exact d (Option.some.inj h')
def aq{H:Hp}{a b:Addr}{o:HO}(h:H a=some o)(h':H b=none):a≠b:=by
 intro e;simp_all
section
variable (P:Program)(w:World)
noncomputable def ObjOk(H:Hp)(h:Heap)(a:Addr):HO->Prop
 |.lst xs=>xs.length<=sizeLine/\∃(its:List Value)(n:Nat),Vals xs its/\h.get? a=some {cls:=.type "list",data:=.seq its.toArray n}
 |.tup xs=>xs.length<=sizeLine/\∃its:List Value,Vals xs its/\IsTup h a its.toArray
 |.dK kvs=>kvs.length<=sizeLine/\(a==sysModules)=false/\∃vs,KV kvs vs/\h.DictOf (aC P w) a vs
 |.dT kvs=>kvs.length<=sizeLine/\(a==sysModules)=false/\∃xs:List (List Key×Addr×Value),
   Paired (λ(p:List Key×V) (q:List Key×Addr×Value)=>p.1=q.1/\H q.2.1=some (.tup (p.1.map kV))/\RelV p.2 q.2.2) kvs xs/\
   ∃o es ep,h.get? a=some o/\o.ExactDict/\o.data=.dict es ep/\es.toList=xs.map (entryOfKey (tupleKind (aC P w)))/\(xs.map (·.1)).Nodup
 |.set S n=>h.SetOf (intKind P w) a S n
 |.ins C dx fs=>H dx=some (.own a)/\fs.length<=1000/\dx≠a/\h.get? a=some (PySem.W.instObj C dx)/\
   ∃mA,h.Ns1 dx mA/\(∀f,RelO (fs.lookup f) (mA f))/\PySem.Within mA (fs.map (·.1))
 |.own _=>∃o,h.get? a=some o
 |.xd fs=>∃mA,h.Ns1 a mA/\∀f,RelO (fs.lookup f) (mA f)
 |.rng lo hi=>∃t u v,h.get? a=some {cls:=.type "range",data:=.fields #[.int lo t,.int hi u,.int 1 v]}
 |.frz o u=>h.get? a=some o/\ObjOk H h a u
 |.tbl ps=>h.get? a=some {cls:=.none,data:=.fields ps}
 |.met f x=>h.get? a=some (PySem.W.methodObj (.ref f) (.ref x))
 |.ext J=>J h/\(∃o,h.get? a=some o)/\∀h1 h2:Heap,J h1->(∀o,h1.get? a=some o->h2.get? a=some o)->J h2
def HOk(H:Hp)(h:Heap):Prop:=∀a o,H a=some o->ObjOk P w H h a o
end
section
variable {P:Program}{w:World}{H H':Hp}{h h':Heap}{a:Addr}{o:HO}
theorem ObjOk.lt(x:ObjOk P w H h a o):a<h.objs.size:=by
 cases o with
 |lst xs=>obtain⟨_,_,_,_,e⟩:=x;exact hs0 e
 |tup xs=>obtain⟨_,_,_,p⟩:=x;exact p.lt
 |dK kvs=>obtain⟨_,_,_,_,o,_,_,e,_⟩:=x;exact hs0 e
 |dT kvs=>obtain⟨_,_,_,_,o,_,_,e,_⟩:=x;exact hs0 e
 |set S n=>obtain⟨o,_,_,_,e,_⟩:=x;exact hs0 e
 |ins C dx fs=>obtain⟨_,_,_,e,_⟩:=x;exact hs0 e
 |own y=>obtain⟨_,e⟩:=x;exact hs0 e
 |xd fs=>obtain⟨_,⟨_,_,_,e,_⟩,_⟩:=x;exact hs0 e
 |rng lo hi=>obtain⟨_,_,_,e⟩:=x;exact hs0 e
 |frz ob u=>obtain⟨e,_⟩:=x;exact hs0 e
 |tbl ps=>exact hs0 (x)
 |met f y=>exact hs0 (x)
 |ext J=>obtain⟨_,⟨_,e⟩,_⟩:=x;exact hs0 e
theorem Paired.mapP{α β:Type}{F G:α->β->Prop}:∀{l₁:List α}{l₂:List β},Paired F l₁ l₂->(∀a b,F a b->G a b)->Paired G l₁ l₂
 |_,_,.nil,_=>.nil
 |_,_,.cons r t,f=>.cons (f _ _ r) (Paired.mapP t f)
def ObjOk.stay(x:ObjOk P w H h a o)(k:∀b u,(b=a\/H b=some (.own a))->h.get? b=some u->h'.get? b=some u)
  (ho:∀b,H b=some (.own a)->H' b=some (.own a)) (ht:∀b xs,H b=some (.tup xs)->H' b=some (.tup xs)):ObjOk P w H' h' a o:=by
 induction o with
 |lst xs=>obtain⟨z,its,n,r,e⟩:=x;exact⟨z,its,n,r,k _ _ (.inl rfl) e⟩
 |tup xs=>obtain⟨z,its,r,ob,e,c⟩:=x;exact⟨z,its,r,ob,k _ _ (.inl rfl) e,c⟩
 |dK kvs=>obtain⟨z,y,vs,r,ob,es,ep,e,c⟩:=x;exact⟨z,y,vs,r,ob,es,ep,k _ _ (.inl rfl) e,c⟩
 |dT kvs=>
  obtain⟨z,y,xs,r,ob,es,ep,e,c⟩:=x;exact⟨z,y,xs,Paired.mapP r λp q z=>⟨z.1,ht _ _ z.2.1,z.2.2⟩,ob,es,ep,k _ _ (.inl rfl) e,c⟩
 |set S n=>obtain⟨ob,es,ep,t,e,c⟩:=x;exact⟨ob,es,ep,t,k _ _ (.inl rfl) e,c⟩
 |ins C dx fs=>
  obtain⟨d,z,ne,e,mA,⟨od,es,ep,e2,c⟩,r⟩:=x;exact⟨ho _ d,z,ne,k _ _ (.inl rfl) e,mA,⟨od,es,ep,k _ _ (.inr d) e2,c⟩,r⟩
 |own y=>obtain⟨ob,e⟩:=x;exact⟨ob,k _ _ (.inl rfl) e⟩
 |xd fs=>obtain⟨mA,⟨od,es,ep,e,c⟩,r⟩:=x;exact⟨mA,⟨od,es,ep,k _ _ (.inl rfl) e,c⟩,r⟩
 |rng lo hi=>obtain⟨t,u,v,e⟩:=x;exact⟨t,u,v,k _ _ (.inl rfl) e⟩
 |frz ob u ih=>obtain⟨e,q⟩:=x;exact⟨k _ _ (.inl rfl) e,ih q⟩
 |tbl ps=>
  have e:=x;exact k a _ (.inl rfl) e
 |met f y=>
  exact k a _ (.inl rfl) x
 |ext J=>obtain⟨p,⟨o,e⟩,st⟩:=x;exact⟨st _ _ p λo q=>k _ _ (.inl rfl) q,⟨o,k _ _ (.inl rfl) e⟩,st⟩
theorem HOk.lt(x:HOk P w H h)(e:H a=some o):a<h.objs.size:=(x a o e).lt
def HOk.fresh(x:HOk P w H h)(e:h.objs.size<=a):H a=none:=by
 cases q:H a with
 |none=>rfl
 |some u=>exact absurd (nl0 (x.lt q) e) (li0 _)
def HOk.kept(x:HOk P w H h)(k:∀b u,h.get? b=some u->h'.get? b=some u):HOk P w H h':=λa o e=>
 (x a o e).stay (λb u c q=>k b u q) (λc q=>q) λc c q=>q
def HOk.laid(x:HOk P w H h)(k:∀b u,h.get? b=some u->h'.get? b=some u)(hp:h.objs.size<=a)(new:ObjOk P w (upd H a o) h' a o):HOk P w (upd H a o) h':=λb u e=>by
 have hn:=x.fresh hp
 by_cases hb:b=a
 .subst hb;rw[upd_same]at e;simp_all
 .rw[aa hb]at e
  exact (x b u e).stay (λc v d q=>k c v q) (λc q=>by rwa [aa (aq q hn)]) λc xs q=>by rwa [aa (aq q hn)]
end
def Rd(H:Hp)(a:Addr)(u:HO):Prop:=H a=some u\/∃o,H a=some (.frz o u)
def Rd.ok{P:Program}{w:World}{H:Hp}{h:Heap}{a:Addr}{u:HO}(r:Rd H a u)(x:HOk P w H h):ObjOk P w H h a u:=by
 rcases r with r|⟨o,r⟩
 .exact x a u r
 .obtain⟨_,q⟩:=x a _ r
  exact q
noncomputable def Mut:Option HO->Prop
 |some (.lst _)=>True
 |some (.dK _)=>True
 |some (.dT _)=>True
 |some (.set _ _)=>True
 |some (.ins _ _ _)=>True
 |some (.ext _)=>True
 |_=>False
section
variable {P:Program}{w:World}{H:Hp}{h h':Heap}{x e:Addr}{o':HO}
def HOk.write(ok:HOk P w H h)(mu:Mut (H x))(he:e=x\/H e=some (.own x))(k:∀b u,b≠e->h.get? b=some u->h'.get? b=some u)(heo:∃u,h'.get? e=some u)
  (new:ObjOk P w (upd H x o') h' x o'):HOk P w (upd H x o') h':=λb u q=>by
 have nown:∀c y,H c=some (.own y)->c≠x:=λc y r z=>by subst z;rw[r]at mu;exact mu
 have ntup:∀c xs,H c=some (.tup xs)->c≠x:=λc xs r z=>by subst z;rw[r]at mu;exact mu
 by_cases hb:b=x
 .subst hb;rw[upd_same]at q;simp_all
 .rw[aa hb]at q
  by_cases hbe:b=e
  .have q':H b=some (.own x):=by
    rcases he with z|z
    .exact absurd (hbe.trans z) hb
    .rw[hbe];exact z
   rw[q]at q';cases q';obtain⟨v,hv⟩:=heo;exact⟨v,by rwa [hbe]⟩
  .refine (ok b u q).stay (λc v hc r=>k c v ?_ r) (λc r=>by rw[aa (nown c b r)];exact r) λc xs r=>by rw[aa (ntup c xs r)];exact r
   grind
end
structure Un(fs ex:List Addr)(H H':Hp)(h h':Heap):Prop where
 keep:∀b o,h.get? b=some o->H b=none->b∉fs->b∉ex->h'.get? b=some o
 slot:∀b o,h.get? b=some o->H b=none->b∈fs->b∉ex->∃sl,h'.get? b=some {o with slots:=sl}
 free:∀b o,h.get? b=some o->H b=none->b∉ex->H' b=none
 there:∀b o,h.get? b=some o->b∉ex->∃o',h'.get? b=some o'
 tups:∀b xs,H b=some (.tup xs)->H' b=some (.tup xs)
 frzs:∀b o u,H b=some (.frz o u)->H' b=some (.frz o u)
 tbls:∀b ps,H b=some (.tbl ps)->∃more,H' b=some (.tbl (ps++more))
section
variable {fs fs' ex ex':List Addr}{H H1 H2:Hp}{h h1 h2 h':Heap}{a x e:Addr}{o:HO}
def Un.any(u:Un fs ex H H1 h h1){b:Addr}{ob:Obj}(q:h.get? b=some ob)(n:H b=none)(hx:b∉ex):∃sl,h1.get? b=some {ob with slots:=sl}:=by
 by_cases hb:b∈fs
 .exact u.slot b ob q n hb hx
 .exact⟨_,u.keep b ob q n hb hx⟩
def Un.kept(k:∀b u,h.get? b=some u->h'.get? b=some u):Un fs ex H H h h':=
 ⟨λb ob q a a a=>k b ob q,λb ob q a a a=>⟨_,k b ob q⟩,λa a a n a=>n,λb ob q a=>⟨ob,k b ob q⟩,λa a q=>q,λa a a q=>q,λa ps q=>⟨#[],by simp_all⟩⟩
def Un.refl:Un fs ex H H h h:=Un.kept λa a q=>q
def Un.laid(k:∀b u,h.get? b=some u->h'.get? b=some u)(hp:h.objs.size<=a)(hn:H a=none):Un fs ex H (upd H a o) h h' where
 keep:=λb u q c c c=>k b u q
 slot:=λb u q c c c=>⟨_,k b u q⟩
 free:=λb u q n c=>by rwa [aa (nn0 (nl0 (hs0 q) hp))]
 there:=λb u q c=>⟨u,k b u q⟩
 tups:=λb xs q=>by rwa [aa (aq q hn)]
 frzs:=λb u xs q=>by rwa [aa (aq q hn)]
 tbls:=λb ps q=>⟨#[],by rw[aa (aq q hn),q];simp⟩
def Un.write(mu:Mut (H x))(he:e=x\/H e=some (.own x))(k:∀b u,b≠e->h.get? b=some u->h'.get? b=some u)(heo:∃u,h'.get? e=some u):Un fs ex H (upd H x o) h h':=by
 have hx:∀b,H b=none->b≠x:=λb n z=>by subst z;rwa [n]at mu
 have hb:∀b,H b=none->b≠e:=λb n z=>by
  simp_all
 have hm:∀b u,H b=some u->¬ Mut (some u)->b≠x:=λb u q nm z=>by simp_all
 refine⟨λb u q n a a=>k b u (hb b n) q,λb u q n a a=>⟨u.slots,k b u (hb b n) q⟩,λb u q n a=>by rw[aa (hx b n)];exact n,λb u q a=>?_,
  λb xs q=>by rw[aa (hm b _ q λz=>z)];exact q,λb u xs q=>by rwa [aa (hm b _ q λz=>z)],λb ps q=>⟨#[],by rw[aa (hm b _ q λz=>z),q];simp⟩⟩
 by_cases hbe:b=e
 .simp_all
 .exact⟨u,k b u hbe q⟩
end
noncomputable def trk(h:Heap)(H:Hp):List Addr:=(List.range h.objs.size).filter λa=>(H a).isSome
noncomputable def lq(h:Heap)(H:Hp):Heap:=PySem.W.hideAll h (trk h H)
def tf(h:Heap)(H:Hp):(lq h H).objs.size=h.objs.size:=PySem.W.hideAll_size _ _
def vC{h:Heap}{H:Hp}{b:Addr}{o:Obj}(e:h.get? b=some o)(n:H b=none):(lq h H).get? b=some o:=
 PySem.W.hideAll_get _ e λhm=>by
  have q:=(List.mem_filter.mp hm).2
  simp_all
def zH{h:Heap}{H:Hp}{b:Addr}{o:Obj}(e:(lq h H).get? b=some o):h.get? b=some o/\H b=none:=by
 have e':=PySem.W.of_hideAll _ e;refine⟨e',?_⟩;cases q:H b with
 |none=>rfl
 |some x=>
  have hm:b∈trk h H:=List.mem_filter.mpr ⟨List.mem_range.mpr (hs0 e'),by simp[q]⟩;have z:(lq h H).get? b=none:=PySem.W.hideAll_none _ hm
  simp_all
noncomputable def zI(g h:Heap)(L:Addr):List (Addr×Obj):=(List.range h.objs.size).filterMap λa=>if a=L\/(g.get? a).isSome=true then none else (h.get? a).map λo=>(a,o)
noncomputable def rest(g h:Heap)(L d:Addr):List (Addr×Obj):=(zI g h L).filter λp=>decide (p.1≠d)
structure Mod(K:fg0)(mg:Str->Option Value)(base:Heap):Prop where
 kin:K.In base
 glob:base.Ns mainGlobals mg
 blt:∃mb,base.Ns builtinsNs mb/\∀x:Str,x≠"__name__"->mb x=bootBuiltins x
 nolimit:base.NoLimit
structure Cx where
 prog:Program
 w:World
 K:fg0
 mg:Str->Option Value
 base:Heap
 A:Around
 N:List Str
 s₀:Shared
 H₀:Hp
 env:Env
 outer:List Env
 stack:List Env
 ex:List Addr
 fn:Str->Bool
 calm:Bool
 pn:List (Addr×Obj)
 xe:Value->Shared->Prop
noncomputable def frs(l:List Env):List Addr:=l.filterMap (·.frame)
noncomputable abbrev Cx.fs(X:Cx):List Addr:=frs X.outer
def Vis(sc:Scope)(x:Str):Prop:=sc.names.lookup x=some .local\/sc.names.lookup x=some .cell\/sc.names.lookup x=some .free
def Loc(sc:Scope)(x:Str):Prop:=sc.names.lookup x=some .local\/sc.names.lookup x=some .cell
def Look(env:Env)(h:Heap)(m:Str->Option Value)(x:Str)(u:Value):Prop:=
 (env.kindOf x=some .local/\m x=some u)\/((env.kindOf x=some .cell\/env.kindOf x=some .free)/\∃c,env.cells.lookup x=some c/\h.IsCell c (some u))
structure Cx.Ok(X:Cx):Prop where
 mod:Mod X.K X.mg X.base
 kind:X.env.scope.kind=.function
 glob:X.env.globals=mainGlobals
 blt:X.env.builtins=builtinsNs
 above:X.s₀.heap.objs.size<=X.env.locals
 inj:∀x y c,X.env.cells.lookup x=some c->X.env.cells.lookup y=some c->x=y
 has:∀x,(X.env.kindOf x=some .cell\/X.env.kindOf x=some .free)->∃c,X.env.cells.lookup x=some c
 cab:∀x c,X.fn x=true->X.env.cells.lookup x=some c->X.s₀.heap.objs.size<=c
 hd:X.calm=true->X.A.handled=none
 frames:X.A.frames=some X.stack
 stk:X.stack=X.outer\/(X.stack=X.env::X.outer/\X.env.frame=some X.env.locals)
 exf:∀b∈X.ex,b≠X.env.locals/\∀x c,X.env.cells.lookup x=some c->c≠b
 bs:∀b o,X.base.get? b=some o->X.s₀.heap.get? b=some o/\X.H₀ b=none
 bsz:X.base.objs.size<=X.s₀.heap.objs.size
 noex:∀b o,X.base.get? b=some o->b∉X.ex
 exfs:∀b∈X.ex,b∉X.fs
 funs:X.s₀.heap.FunFrames X.base X.outer
 frf:∀b∈X.fs,X.H₀ b=none
structure Inv(X:Cx)(pins:List (Addr×Obj))(σ:List (Option V))(H:Hp)(s:Shared):Prop where
 ok:X.Ok
 os:s.os=X.s₀.os
 bare:AllBare s.gens
 base:Un X.fs X.ex X.H₀ H X.s₀.heap s.heap
 loc:∃m,s.heap.Ns X.env.locals m/\∀(i:Nat)(x:Str)(v:V),X.N[i]?=some x->σ[i]?=some (some v)->Vis X.env.scope x->∃u,RelV v u/\Look X.env s.heap m x u
 cell:∀x c,X.env.cells.lookup x=some c->∃v,s.heap.IsCell c v
 free:H X.env.locals=none
 freeC:∀x c,X.env.cells.lookup x=some c->H c=none
 pin:∀p∈X.pn++pins,s.heap.get? p.1=some p.2/\H p.1=none/\p.1≠X.env.locals/\p.1∉X.fs/\∀v,p.2.data≠.cell v
 hok:HOk X.prog X.w H s.heap
 len:σ.length=X.N.length
section
variable {X:Cx}{pins:List (Addr×Obj)}{σ:List (Option V)}{H H':Hp}{s:Shared}{h':Heap}
def Cx.Ok.nofr(ok:X.Ok){b:Addr}{o:Obj}(e:X.base.get? b=some o):b∉X.fs:=λhb=>by
 have:=(ok.funs.mem hb).1
 grind
theorem Inv.bs(I:Inv X pins σ H s):∀b o,X.base.get? b=some o->s.heap.get? b=some o/\H b=none:=λb o e=>
 ⟨I.base.keep b o (I.ok.bs b o e).1 (I.ok.bs b o e).2 (I.ok.nofr e) (I.ok.noex b o e),I.base.free b o (I.ok.bs b o e).1 (I.ok.bs b o e).2 (I.ok.noex b o e)⟩
def Inv.bk(I:Inv X pins σ H s):∀b o,X.base.get? b=some o->s.heap.get? b=some o:=λb o e=>(I.bs b o e).1
theorem Inv.mod(I:Inv X pins σ H s):Mod X.K X.mg X.base:=I.ok.mod
def Inv.kIn(I:Inv X pins σ H s):X.K.In s.heap:=I.ok.mod.kin.keeps I.bk
theorem Inv.lt(I:Inv X pins σ H s):X.env.locals<s.heap.objs.size:=let ⟨_,hn,_⟩:=I.loc;hn.lt
def Inv.sz(I:Inv X pins σ H s):X.s₀.heap.objs.size<=s.heap.objs.size:=nt0 I.ok.above (Nat.le_of_lt I.lt)
def Inv.nofs(I:Inv X pins σ H s){a:Addr}(h:s.heap.objs.size<=a):a∉X.fs:=λhb=>by
 obtain⟨_,o,ho,_⟩:=I.ok.funs.mem hb;exact absurd (nl0 (hs0 ho) (nt0 I.sz h)) (li0 _)
def Inv.cne(I:Inv X pins σ H s):∀x c,X.env.cells.lookup x=some c->c≠X.env.locals:=λx c e z=>by
 obtain⟨v,o,ho,hd⟩:=I.cell x c e;obtain⟨m,⟨o',es,ep,ho',hd',_⟩,_⟩:=I.loc<;>grind
theorem Inv.funs(I:Inv X pins σ H s):s.heap.FunFrames X.base X.outer:=by
 have all:∀(l:List _),(∀b∈frs l,b∈X.fs)->X.s₀.heap.FunFrames X.base l->s.heap.FunFrames X.base l:=by
  intro l
  induction l with
  |nil=>intro _ _;trivial
  |cons env r ih=>
   intro hs hl;obtain⟨hk,⟨L,o,hf,hn,ho,hd⟩,hr⟩:=hl;have hL:=hs L (by unfold frs;rw[List.filterMap_cons,hf];exact ms0);obtain⟨sl,e⟩:=I.base.slot L o ho (I.ok.frf L hL) hL λz=>I.ok.exfs L z hL
   exact⟨hk,⟨L,_,hf,hn,e,hd⟩,ih (λb hb=>hs b (by unfold frs;rw[List.filterMap_cons,hf];exact mc0 _ hb)) hr⟩
 exact all _ (λa hb=>hb) I.ok.funs
theorem Inv.stack(I:Inv X pins σ H s):s.heap.FunFrames X.base X.stack:=by
 rcases I.ok.stk with e|⟨e,hf⟩
 .rw[e];exact I.funs
 .rw[e]
  obtain⟨m,hn,_⟩:=I.loc;exact .cons (by rw[I.ok.kind];decide) hf hn (Heap.get?_none_of_le (nt0 I.ok.bsz I.ok.above)) I.funs
def Inv.stkSub(I:Inv X pins σ H s):∀b∈frs X.stack,b∈X.env.locals::X.fs:=λb hb=>by
 rcases I.ok.stk with e|⟨e,hf⟩
 .rw[e]at hb;exact mc0 _ hb
 .rw[e]at hb
  unfold frs at hb
  rwa [List.filterMap_cons,hf]at hb
def Inv.stkFree(I:Inv X pins σ H s):∀b∈frs X.stack,H b=none:=λb hb=>by
 rcases mq0 (I.stkSub b hb)with e|hb
 .rw[e];exact I.free
 .obtain⟨_,o,ho,_⟩:=I.ok.funs.mem hb
  exact I.base.free b o ho (I.ok.frf b hb) λz=>I.ok.exfs b z hb
def Inv.step{g':Array GenState}{t':Nat}{d':Drawn}{ch:List Addr}(I:Inv X pins σ H s)
  (hch:∀b∈ch,(b∈X.ex\/X.s₀.heap.objs.size<=b)/\b≠X.env.locals/\(∀x c,X.env.cells.lookup x=some c->c≠b)/\∀p∈X.pn++pins,p.1≠b)
  (keep:∀b o,b≠X.env.locals->b∉X.fs->b∉ch->s.heap.get? b=some o->H b=none->h'.get? b=some o)
  (slot:∀b o,b≠X.env.locals->b∈X.fs->b∉ch->s.heap.get? b=some o->H b=none->∃sl,h'.get? b=some {o with slots:=sl}) (free:∀b o,b∉ch->s.heap.get? b=some o->H b=none->H' b=none)
  (there:∀b o,b∉ch->s.heap.get? b=some o->∃o',h'.get? b=some o')
  (tups:∀b xs,H b=some (.tup xs)->H' b=some (.tup xs)) (frzs:∀b o u,H b=some (.frz o u)->H' b=some (.frz o u)) (tbls:∀b ps,H b=some (.tbl ps)->∃more,H' b=some (.tbl (ps++more)))
  (ns:∀m,s.heap.Ns X.env.locals m->h'.Ns X.env.locals m) (hok:HOk X.prog X.w H' h') (hg:AllBare g'):
  Inv X pins σ H' {s with heap:=h',gens:=g',drawn:=d',toks:=t'}:=by
 have neL:∀b o,X.s₀.heap.get? b=some o->b≠X.env.locals:=λb o e=>nn0 (nl0 (hs0 e) I.ok.above)
 have neC:∀b o,X.s₀.heap.get? b=some o->b∉X.ex->b∉ch:=λb o e hx hb=>by
  rcases (hch b hb).1 with z|z
  .exact hx z
  .exact absurd (nl0 (hs0 e) z) (li0 _)
 have cellK:∀x c,X.env.cells.lookup x=some c->∀v,s.heap.IsCell c v->h'.IsCell c v:=λx c e v ⟨o,ho,hd⟩=>by
  have nch:c∉ch:=λz=>(hch c z).2.2.1 x c e rfl
  by_cases hc:c∈X.fs
  .obtain⟨sl,q⟩:=slot c o (I.cne x c e) hc nch ho (I.freeC x c e)
   exact⟨_,q,hd⟩
  .exact⟨o,keep c o (I.cne x c e) hc nch ho (I.freeC x c e),hd⟩
 refine⟨I.ok,I.os,hg,⟨λb o e n hb hx=>?_,λb o e n hb hx=>?_,λb o e n hx=>?_,λb o e hx=>?_,λb xs e=>tups b xs (I.base.tups b xs e),λb o xs e=>frzs b o xs (I.base.frzs b o xs e),λb ps e=>?_⟩,?_,λx c e=>?_,?_,λx c e=>?_,λp hp=>?_,hok,I.len⟩
 .exact keep b o (neL b o e) hb (neC b o e hx) (I.base.keep b o e n hb hx) (I.base.free b o e n hx)
 .obtain⟨sl,e1⟩:=I.base.slot b o e n hb hx
  obtain⟨sl',e2⟩:=slot b _ (neL b o e) hb (neC b o e hx) e1 (I.base.free b o e n hx);exact⟨sl',e2⟩
 .obtain⟨o',e1⟩:=I.base.there b o e hx
  exact free b o' (neC b o e hx) e1 (I.base.free b o e n hx)
 .obtain⟨o',e1⟩:=I.base.there b o e hx
  exact there b o' (neC b o e hx) e1
 .obtain⟨m1,e1⟩:=I.base.tbls b ps e
  obtain⟨m2,e2⟩:=tbls b _ e1;exact⟨m1++m2,by rw[e2,Array.append_assoc]⟩
 .obtain⟨m,hn,hl⟩:=I.loc
  refine⟨m,ns m hn,λi x v e1 e2 e3=>?_⟩;obtain⟨u,r,l⟩:=hl i x v e1 e2 e3;refine⟨u,r,?_⟩;rcases l with l|⟨k,c,e,z⟩
  .exact .inl l
  .exact .inr ⟨k,c,e,cellK x c e _ z⟩
 .obtain⟨v,z⟩:=I.cell x c e
  exact⟨v,cellK x c e v z⟩
 .obtain⟨m,⟨o,_,_,ho,_⟩,_⟩:=I.loc
  exact free _ o (λz=>(hch _ z).2.1 rfl) ho I.free
 .obtain⟨v,o,ho,hd⟩:=I.cell x c e
  exact free c o (λz=>(hch c z).2.2.1 x c e rfl) ho (I.freeC x c e)
 .obtain⟨e,n,ne,nf,d⟩:=I.pin p hp
  have nch:p.1∉ch:=λz=>(hch p.1 z).2.2.2 p hp rfl
  exact⟨keep p.1 p.2 ne nf nch e n,free p.1 p.2 nch e n,ne,nf,d⟩
def Inv.un{t':Nat}(I:Inv X pins σ H s)(u:Un X.fs [] H H' s.heap h')(hok:HOk X.prog X.w H' h'):Inv X pins σ H' {s with heap:=h',toks:=t'}:=by
 obtain⟨m,⟨o,es,ep,ho,r⟩,_⟩:=id I.loc;obtain⟨sl,hL⟩:=u.any ho I.free (by simp);exact I.step (ch:=[]) (λa z=>nomatch z) (λb o a hb a e n=>u.keep b o e n hb (by simp)) (λb o a hb a e n=>u.slot b o e n hb (by simp)) (λb o a e n=>u.free b o e n (by simp)) (λb o a e=>u.there b o e (by simp)) u.tups u.frzs u.tbls (λm' hm=>by
  obtain⟨o',es',ep',ho',r'⟩:=hm;rw[ho]at ho';cases ho';exact⟨_,_,_,hL,r'⟩) hok I.bare
def Inv.call{g':Array GenState}{t':Nat}{d':Drawn}{ch:List Addr}(I:Inv X pins σ H s)(u:Un (frs X.stack) ch H H' s.heap h')(hok:HOk X.prog X.w H' h')(hg:AllBare g')
  (hch:∀b∈ch,(b∈X.ex\/X.s₀.heap.objs.size<=b)/\b≠X.env.locals/\(∀x c,X.env.cells.lookup x=some c->c≠b)/\∀p∈X.pn++pins,p.1≠b):
  Inv X pins σ H' {s with heap:=h',gens:=g',drawn:=d',toks:=t'}:=by
 obtain⟨m,⟨o,es,ep,ho,r⟩,_⟩:=id I.loc;obtain⟨sl,hL⟩:=u.any ho I.free λz=>(hch _ z).2.1 rfl
 exact I.step hch (λb o hL hb hc e n=>u.keep b o e n (λz=>(mq0 (I.stkSub b z)).elim hL hb) hc) (λb o a a hc e n=>u.any e n hc) (λb o hc e n=>u.free b o e n hc) (λb o hc e=>u.there b o e hc) u.tups u.frzs u.tbls (λm' hm=>by
  obtain⟨o',es',ep',ho',r'⟩:=hm;rw[ho]at ho';cases ho';exact⟨_,_,_,hL,r'⟩) hok hg
def Inv.turned{t':Nat}{it:Addr}(I:Inv X pins σ H s)(k:∀b o,b≠it->s.heap.get? b=some o->h'.get? b=some o)(hn:H it=none)(hL:it≠X.env.locals)
  (h1:it∈X.ex\/X.s₀.heap.objs.size<=it) (h2:∀x c,X.env.cells.lookup x=some c->c≠it) (h3:∀p∈X.pn++pins,p.1≠it):Inv X pins σ H {s with heap:=h',toks:=t'}:=by
 have nit:∀b u,H b=some u->b≠it:=λb u e z=>by simp_all
 refine I.step (ch:=[it]) (λb hb=>?_) (λb o a a hc e a=>k b o (λz=>hc (by simp[z])) e) (λb o a a hc e a=>⟨_,k b o (λz=>hc (by simp[z])) e⟩) (λa a a a n=>n)
  (λb o hc e=>⟨o,k b o (λz=>hc (by simp[z])) e⟩) (λa a e=>e) (λa a a e=>e) (λb ps e=>⟨#[],by simp_all⟩) (λm hm=>?_) (λb u e=>?_) I.bare
 .have e:=by simpa using hb
  subst e;exact⟨h1,hL,h2,h3⟩
 .obtain⟨o,es,ep,ho,r⟩:=hm
  exact⟨o,es,ep,k _ o (Ne.symm hL) ho,r⟩
 .refine (I.hok b u e).stay (λc v hc q=>k c v ?_ q) (λa q=>q) λa a q=>q
  rcases hc with z|z
  .rw[z];exact nit b u e
  .exact nit c _ z
def Inv.tok(I:Inv X pins σ H s)(t:Nat):Inv X pins σ H {s with toks:=t}:=I.un Un.refl I.hok
theorem Inv.kept{t':Nat}(I:Inv X pins σ H s)(k:∀b u,s.heap.get? b=some u->h'.get? b=some u):Inv X pins σ H {s with heap:=h',toks:=t'}:=I.un (Un.kept k) (I.hok.kept k)
theorem Inv.laid{a:Addr}{o:HO}{t':Nat}(I:Inv X pins σ H s)(k:∀b u,s.heap.get? b=some u->h'.get? b=some u)(hp:s.heap.objs.size<=a)(new:ObjOk X.prog X.w (upd H a o) h' a o):
  Inv X pins σ (upd H a o) {s with heap:=h',toks:=t'}:=I.un (Un.laid k hp (I.hok.fresh hp)) (I.hok.laid k hp new)
theorem Inv.write{x e:Addr}{o:HO}{t':Nat}(I:Inv X pins σ H s)(mu:Mut (H x))(he:e=x\/H e=some (.own x))(k:∀b u,b≠e->s.heap.get? b=some u->h'.get? b=some u)(heo:∃u,h'.get? e=some u)
  (new:ObjOk X.prog X.w (upd H x o) h' x o):Inv X pins σ (upd H x o) {s with heap:=h',toks:=t'}:=I.un (Un.write mu he k heo) (I.hok.write mu he k heo new)
def Inv.pins_of{pins':List (Addr×Obj)}(I:Inv X pins σ H s)(h:∀p∈pins',s.heap.get? p.1=some p.2/\H p.1=none/\p.1≠X.env.locals/\p.1∉X.fs/\∀v,p.2.data≠.cell v):Inv X pins' σ H s:=
 ⟨I.ok,I.os,I.bare,I.base,I.loc,I.cell,I.free,I.freeC,λp hp=>(ma0 hp).elim (λz=>I.pin p (List.mem_append_left _ z)) (h p),I.hok,I.len⟩
def iM{N:List Str}(hN:N.Nodup){i j:Nat}{x:Str}(a:N[i]?=some x)(b:N[j]?=some x):i=j:=by
 obtain⟨h1,e1⟩:=gi0 a;obtain⟨h2,e2⟩:=gi0 b;exact (List.getElem_inj hN).mp (e1.trans e2.symm)
def store_ok2{M:Model}{A:Around}{E:Value->Shared->Prop}{i:Nat}{x:Str}{v:V}{u:Value}{Q:Unit->Shared->Prop}(I:Inv X pins σ H s)(hN:X.N.Nodup)(hi:X.N[i]?=some x)(hx:Loc X.env.scope x)(r:RelV v u)
  (h:∀s',Inv X pins (σ.set i (some v)) H s'->(∃a,Heap.SameBut a s.heap s'.heap/\(a=X.env.locals\/X.env.cells.lookup x=some a))->Q () s') (hf:X.fn x=true\/X.env.scope.names.lookup x=some .local:=by first|exact .inl rfl|exact .inr rfl|assumption):wpAny M A (storeName X.env x u) Q E s:=by
 obtain⟨m,hn,hl⟩:=id I.loc;have hcls:(X.env.scope.kind==.class||(X.env.scope.kind==.module&&X.env.locals != X.env.globals))=false:=by rw[I.ok.kind];rfl
 have hiσ:i<σ.length:=by rw[I.len];exact (gi0 hi).1
 have cne:=I.cne;have tracked:∀{a:Addr}{h':Heap},(∃o,s.heap.get? a=some o/\H a=none)->Heap.SameBut a s.heap h'->HOk X.prog X.w H h':=λ{a h'} ha hs b ob e=>by
  obtain⟨_,_,hfree⟩:=ha;refine (I.hok b ob e).stay (λc w' hc q=>(hs.2 c ?_).trans q) (λf q=>q) λf f q=>q
  rintro rfl
  rcases hc with rfl|hc
  .rw[hfree]at e;cases e
  .rw[hfree]at hc;cases hc
 rcases hx with hk|hk
 .refine wpAny_storeName_local hk hn (λh' hn' hs=>?_) hcls
  obtain⟨oL,_,_,hoL,_⟩:=id hn;refine h _ ⟨I.ok,I.os,I.bare,⟨λb o e n hb hx=>?_,λb o e n hb hx=>?_,I.base.free,λb o e hx=>?_,I.base.tups,I.base.frzs,I.base.tbls⟩,⟨_,hn',λj y v' e1 e2 e3=>?_⟩,λy c e=>?_,I.free,I.freeC,λp hp=>?_,tracked ⟨oL,hoL,I.free⟩ hs,by simpa using I.len⟩ ⟨_,hs,.inl rfl⟩
  .exact (hs.2 b (nn0 (nl0 (hs0 e) I.ok.above))).trans (I.base.keep b o e n hb hx)
  .obtain⟨sl,e1⟩:=I.base.slot b o e n hb hx
   exact⟨sl,(hs.2 b (nn0 (nl0 (hs0 e) I.ok.above))).trans e1⟩
  .obtain⟨o',e1⟩:=I.base.there b o e hx
   exact⟨o',(hs.2 b (nn0 (nl0 (hs0 e) I.ok.above))).trans e1⟩
  .by_cases hj:j=i
   .subst hj
    rw[hi]at e1;cases e1;rw[gs0 hiσ]at e2;cases e2;exact⟨u,r,.inl ⟨hk,by simp⟩⟩
   .rw[gn0 (Ne.symm hj)]at e2
    obtain⟨u',r',q⟩:=hl j y v' e1 e2 e3;refine⟨u',r',?_⟩;rcases q with⟨k,e⟩|⟨k,c,e,z⟩
    .refine .inl ⟨k,?_⟩
     have:y≠x:=λe=>hj (iM hN e1 (e▸hi))
     simp[this,e]
    .exact .inr ⟨k,c,e,z.sameBut hs (cne y c e)⟩
  .obtain⟨w',z⟩:=I.cell y c e
   exact⟨w',z.sameBut hs (cne y c e)⟩
  .obtain⟨e,n,ne,nf,d⟩:=I.pin p hp
   exact⟨(hs.2 p.1 ne).trans e,n,ne,nf,d⟩
 .have hfn:X.fn x=true:=by
   rcases hf with z|z
   .exact z
   .rw[z]at hk;cases hk
  obtain⟨c,hc⟩:=I.ok.has x (.inl hk);obtain⟨w',z⟩:=I.cell x c hc;refine wpAny_storeName_cell I.ok.kind hk hc z (λh' hc' hs=>?_);obtain⟨oc,hoc,hocd⟩:=id z;refine h {s with heap:=h'} ⟨I.ok,I.os,I.bare,⟨λb o e n hb hx=>?_,λb o e n hb hx=>?_,I.base.free,λb o e hx=>?_,I.base.tups,I.base.frzs,I.base.tbls⟩,⟨m,hn.sameBut hs (Ne.symm (cne x c hc)),λj y v' e1 e2 e3=>?_⟩,λy c' e=>?_,I.free,I.freeC,λp hp=>?_,tracked ⟨oc,hoc,I.freeC x c hc⟩ hs,by simpa using I.len⟩ ⟨c,hs,.inr hc⟩
  .exact (hs.2 b (nn0 (nl0 (hs0 e) (I.ok.cab x c hfn hc)))).trans (I.base.keep b o e n hb hx)
  .obtain⟨sl,e1⟩:=I.base.slot b o e n hb hx
   exact⟨sl,(hs.2 b (nn0 (nl0 (hs0 e) (I.ok.cab x c hfn hc)))).trans e1⟩
  .obtain⟨o',e1⟩:=I.base.there b o e hx
   exact⟨o',(hs.2 b (nn0 (nl0 (hs0 e) (I.ok.cab x c hfn hc)))).trans e1⟩
  .by_cases hj:j=i
   .subst hj
    rw[hi]at e1;cases e1;rw[gs0 hiσ]at e2;cases e2;exact⟨u,r,.inr ⟨.inl hk,c,hc,hc'⟩⟩
   .rw[gn0 (Ne.symm hj)]at e2
    obtain⟨u',r',q⟩:=hl j y v' e1 e2 e3;refine⟨u',r',?_⟩;rcases q with q|⟨k,c',e,z'⟩
    .exact .inl q
    .refine .inr ⟨k,c',e,z'.sameBut hs ?_⟩
     rintro rfl
     exact hj (iM hN e1 (I.ok.inj _ _ _ e hc▸hi))
  .by_cases hcc:c'=c
   .subst hcc;exact⟨_,hc'⟩
   .obtain⟨w2,z2⟩:=I.cell y c' e
    exact⟨w2,z2.sameBut hs hcc⟩
  .obtain⟨e,n,ne,nf,d⟩:=I.pin p hp
   refine⟨(hs.2 p.1 ?_).trans e,n,ne,nf,d⟩;intro q;rw[q,hoc]at e;have q':oc=p.2:=Option.some.inj e;exact d w' (by rw[<-q'];exact hocd)
def iN{M:Model}{A:Around}{E:Value->Shared->Prop}{i:Nat}{x:Str}{v:V}{u:Value}{Q:Unit->Shared->Prop}(I:Inv X pins σ H s)(hN:X.N.Nodup)(hi:X.N[i]?=some x)(hx:Loc X.env.scope x)(r:RelV v u)
  (h:∀s',Inv X pins (σ.set i (some v)) H s'->Q () s') (hf:X.fn x=true\/X.env.scope.names.lookup x=some .local:=by first|exact .inl rfl|exact .inr rfl|assumption):wpAny M A (storeName X.env x u) Q E s:=
 store_ok2 I hN hi hx r (λs' I' a=>h s' I') hf
def Inv.call'{s':Shared}{ch:List Addr}(I:Inv X pins σ H s)(ho:s'.os=s.os)(u:Un (frs X.stack) ch H H' s.heap s'.heap)(hok:HOk X.prog X.w H' s'.heap)(hg:AllBare s'.gens)
  (hch:∀b∈ch,(b∈X.ex\/X.s₀.heap.objs.size<=b)/\b≠X.env.locals/\(∀x c,X.env.cells.lookup x=some c->c≠b)/\∀p∈X.pn++pins,p.1≠b):Inv X pins σ H' s':=by
 obtain⟨h',g',d',t',o'⟩:=s';subst ho;exact I.call u hok hg hch
end
noncomputable abbrev XK:=Value->Option Addr->Hp->Prop
noncomputable abbrev St:=List (Option V)
noncomputable abbrev VK:=V->Hp->Prop
noncomputable abbrev TE:=St->Hp->VK->Prop
noncomputable abbrev TT:=St->Hp->(Bool->Hp->Prop)->Prop
noncomputable abbrev TA:=St->Hp->(List V->Hp->Prop)->Prop
structure Ends where
 nx:St->Hp->Prop
 rt:VK
 bk:St->Hp->Prop:=λa a=>False
 ct:St->Hp->Prop:=λa a=>False
noncomputable abbrev TS:=Ends->St->Hp->Prop
def EP(X:Cx)(pins:List (Addr×Obj))(σ:St)(Q:VK)(u:Value)(s':Shared):Prop:=∃v H',Inv X pins σ H' s'/\RelV v u/\Q v H'
def TP(X:Cx)(pins:List (Addr×Obj))(σ:St)(Q:Bool->Hp->Prop)(b:Bool)(s':Shared):Prop:=∃H',Inv X pins σ H' s'/\Q b H'
def AP(X:Cx)(pins:List (Addr×Obj))(σ:St)(Q:List V->Hp->Prop)(us:List Value)(s':Shared):Prop:=∃vs H',Inv X pins σ H' s'/\Vals vs us/\Q vs H'
def SP(X:Cx)(pins:List (Addr×Obj))(D:Ends)(f:Flow)(s':Shared):Prop:=
 match f with
 |.next=>∃σ' H',Inv X pins σ' H' s'/\D.nx σ' H'
 |.brk=>∃σ' H',Inv X pins σ' H' s'/\D.bk σ' H'
 |.cont=>∃σ' H',Inv X pins σ' H' s'/\D.ct σ' H'
 |.ret u=>∃v σ' H',Inv X pins σ' H' s'/\RelV v u/\D.rt v H'
def PE(X:Cx)(e:Expr)(t:TE):Prop:=
 ∀(pins:List (Addr×Obj))(s:Shared)(σ:St)(H:Hp)(Q:VK),Inv X pins σ H s->t σ H Q->wpAny (model X.prog X.w) X.A (eval e X.env) (EP X pins σ Q) X.xe s
def PT(X:Cx)(e:Expr)(t:TT):Prop:=
 ∀(pins:List (Addr×Obj))(s:Shared)(σ:St)(H:Hp)(Q:Bool->Hp->Prop),Inv X pins σ H s->t σ H Q->wpAny (model X.prog X.w) X.A (isTrue e X.env (eval e X.env)) (TP X pins σ Q) X.xe s
def PW(X:Cx)(e:Expr)(t:TT):Prop:=
 ∀(whole:Sem Value)(pins:List (Addr×Obj))(s:Shared)(σ:St)(H:Hp)(Q:Bool->Hp->Prop),Inv X pins σ H s->t σ H Q->wpAny (model X.prog X.w) X.A (isTrue e X.env whole) (TP X pins σ Q) X.xe s
variable {α β:Type}{C a b dx f:Addr}{vs xs:List V}{us:List Value}{m x:Str}{u v:Value}{H H':Hp}{P prog:Program}{w:World}{base h h':Heap}{c e tg:Expr}{o:Option Value}{X:Cx}{pins:List (Addr×Obj)}{s s':Shared}{i k t':Nat}{ch fp:List Addr}{N ps:List Str}{A:Around}{E Q:Value->Shared->Prop}{t:TA}{ta tb te:TE}{σ:St}{apos p pos:Pos}{es:List Expr}{body:List Stmt}{mA mg:Str->Option Value}{fd:FuncData}
def PW.pt{t:TT}(h:PW X e t):PT X e t:=h _
def PA(X:Cx)(es:List Expr)(t:TA):Prop:=
 ∀(pos:Pos)(pins:List (Addr×Obj))(s:Shared)(σ:St)(H:Hp)(Q:List V->Hp->Prop),Inv X pins σ H s->t σ H Q->wpAny (model X.prog X.w) X.A (spliced (backTo pos (starEach es X.env))) (AP X pins σ Q) X.xe s
def PS(X:Cx)(st:Stmt)(t:TS):Prop:=
 ∀(pins:List (Addr×Obj))(s:Shared)(σ:St)(H:Hp)(D:Ends),Inv X pins σ H s->t D σ H->wpAny (model X.prog X.w) X.A (exec st X.env) (SP X pins D) X.xe s
def PSs(X:Cx)(st:List Stmt)(t:TS):Prop:=
 ∀(pins:List (Addr×Obj))(s:Shared)(σ:St)(H:Hp)(D:Ends),Inv X pins σ H s->t D σ H->wpAny (model X.prog X.w) X.A (execs st X.env) (SP X pins D) X.xe s
def thn{t:Sem α}{Q Q':α->Shared->Prop}{M:Model}(h:wpAny M A t Q E s)(hQ:∀a s,Q a s->Q' a s):wpAny M A t Q' E s:=wpAny_mono h hQ λb b x=>x
section
def bin{a b:Expr}(ha:PE X a ta)(hb:PE X b tb){R:V->V->Hp->Prop}(I:Inv X pins σ H s)(h:ta σ H λx H1=>tb σ H1 λy H2=>R x y H2)
   {Q:α->Shared->Prop}{f:Value->Value->Sem α}
  (hf:∀v u s2 x y H2,Inv X pins σ H2 s2->RelV x v->RelV y u->R x y H2->wpAny (model X.prog X.w) X.A (f v u) Q X.xe s2):
  wpAny (model X.prog X.w) X.A (eval a X.env) (λv s₁=>wpAny (model X.prog X.w) X.A (eval b X.env) (λu s₂=>wpAny (model X.prog X.w) X.A (f v u) Q X.xe s₂) X.xe s₁) X.xe s:=thn (ha _ s σ H _ I h) λv s1 ⟨x,H1,I1,r1,q1⟩=>thn (hb _ s1 σ H1 _ I1 q1) λu s2 ⟨y,H2,I2,r2,q2⟩=>hf v u s2 x y H2 I2 r1 r2 q2
noncomputable def vD(i:Nat):TE:=λσ H Q=>∃v,σ[i]?=some (some v)/\Q v H
noncomputable def tC(v:V):TE:=λa H Q=>Q v H
def cm(hN:X.N[i]?=some x)(hv:Vis X.env.scope x)(hd:(x==("__debug__":Str))=false:=by decide)(hcd:(x==("__classdict__":Str))=false:=by decide):PE X (.Name x pos) (vD i):=by
 intro pins s σ H Q I h;obtain⟨v,e,h⟩:=h;obtain⟨m,hn,hl⟩:=I.loc;obtain⟨u,r,l⟩:=hl i x v hN e hv;have fin:EP X _ σ Q u s:=⟨v,H,I,r,h⟩;rcases l with⟨hk,hm⟩|⟨hk,c,hc,hcell⟩
 .exact wpAny_Name (wpAny_loadName_local I.ok.kind hk hn hm fin) hd
 .rcases hk with hk|hk
  .exact wpAny_Name (wpAny_loadName_cell I.ok.kind hk hc hcell fin) hd
  .exact wpAny_Name (wpAny_loadName_free I.ok.kind hk hc hcell fin hcd) hd
def gp{i j pos}:PE X (.Constant (.int i) j pos) (tC (.int i)):=λa a a H a I h=>wpAny_Constant_int ⟨.int i,H,I.tok _,⟨_,rfl⟩,h⟩
def Hy{b j pos}:PE X (.Constant (.bool b) j pos) (tC (.bl b)):=λa a a H a I h=>Constant_bool ⟨.bl b,H,I,rfl,h⟩
def DJ{j pos}:PE X (.Constant .none j pos) (tC .non):=λa a a H a I h=>Constant_none ⟨.non,H,I,rfl,h⟩
def DK{x j pos}:PE X (.Constant (.str x) j pos) (tC (.str x)):=λa a a H a I h=>Calls.Constant_str ⟨.str x,H,I.tok _,⟨_,rfl⟩,h⟩
def Gl(X:Cx)(x:Str):Prop:=X.env.kindOf x=some .globalImplicit
def ef(I:Inv X pins σ H s)(hg:Gl X x)(hm:X.mg x=some u)(h:Q u s)
  (hd:(x==("__debug__":Str))=false:=by decide):wpAny (model X.prog X.w) X.A (eval (.Name x pos) X.env) Q E s:=
 Calls.Name_function_global I.ok.kind hg (Calls.loadGlobal_global (by rw[I.ok.glob];exact I.mod.glob.keeps I.bk) hm h) hd
def ld_blt(I:Inv X pins σ H s)(hg:Gl X x)(hm:X.mg x=none)(hv:bootBuiltins x=some u)(h:Q u s)
  (hn:x≠"__name__":=by decide) (hd:(x==("__debug__":Str))=false:=by decide):wpAny (model X.prog X.w) X.A (eval (.Name x pos) X.env) Q E s:=by
 obtain⟨mb,h1,h2⟩:=I.mod.blt;exact Calls.Name_function_global I.ok.kind hg (Calls.loadGlobal_builtin (by rw[I.ok.glob];exact I.mod.glob.keeps I.bk) hm (by rw[I.ok.blt];exact h1.keeps I.bk) ((h2 x hn).trans hv) h) hd
def qL{v:V}(hg:Gl X x)(hm:X.mg x=some u)(r:RelV v u)(hd:(x==("__debug__":Str))=false:=by decide):PE X (.Name x pos) (tC v):=
 λa a a H a I h=>ef I hg hm ⟨v,H,I,r,h⟩ hd
def qM{v:V}(hg:Gl X x)(hm:X.mg x=none)(hv:bootBuiltins x=some u)(r:RelV v u)(hn:x≠"__name__":=by decide)(hd:(x==("__debug__":Str))=false:=by decide):PE X (.Name x pos) (tC v):=
 λa a a H a I h=>ld_blt I hg hm hv ⟨v,H,I,r,h⟩ hn hd
variable {a b:Expr}
variable {tA tB':TT}{rest:List Expr}
noncomputable def Kw(t u:TT):TT:=λσ H Q=>t σ H λc H1=>if c=true then u σ H1 Q else Q false H1
noncomputable def tOr(t u:TT):TT:=λσ H Q=>t σ H λc H1=>if c=true then Q true H1 else u σ H1 Q
noncomputable def Kx(t:TT):TT:=λσ H Q=>t σ H λc H1=>Q (!c) H1
def zJ(ha:PT X a tA):PW X (.BoolOp .And [a] pos) tA:=by
 intro wh pins s σ H Q I h;refine isTrue_and (thn (ha _ s σ H Q I h) λc s1 e=>?_);cases c with
 |true=>exact isTrue_and_nil e
 |false=>exact e
def DL(ha:PT X a tA):PW X (.BoolOp .Or [a] pos) tA:=by
 intro wh pins s σ H Q I h;refine isTrue_or (thn (ha _ s σ H Q I h) λc s1 e=>?_);cases c with
 |false=>exact isTrue_or_nil e
 |true=>exact e
def vF(ha:PT X a tA)(hb:PW X (.BoolOp .And (b::rest) pos) tB'):PW X (.BoolOp .And (a::b::rest) pos) (Kw tA tB'):=by
 intro wh pins s σ H Q I h;refine isTrue_and (thn (ha _ s σ H _ I h) λc s1 ⟨H1,I1,q1⟩=>?_);cases c with
 |true=>exact hb wh _ s1 σ H1 Q I1 q1
 |false=>exact⟨H1,I1,q1⟩
def Cw(ha:PT X a tA)(hb:PW X (.BoolOp .Or (b::rest) pos) tB'):PW X (.BoolOp .Or (a::b::rest) pos) (tOr tA tB'):=by
 intro wh pins s σ H Q I h;refine isTrue_or (thn (ha _ s σ H _ I h) λc s1 ⟨H1,I1,q1⟩=>?_);cases c with
 |true=>exact⟨H1,I1,q1⟩
 |false=>exact hb wh _ s1 σ H1 Q I1 q1
def DM(ha:PT X a tA):PT X (.UnaryOp .Not a pos) (Kx tA):=λpins s σ H Q I h=>isTrue_not (ha _ s σ H _ I h)
noncomputable def Hz(ta tb:TE):TE:=λσ H Q=>ta σ H λx H1=>∃c,x=.bl c/\if c=true then tb σ H1 Q else Q (.bl false) H1
noncomputable def Ky(ta tb:TE):TE:=λσ H Q=>ta σ H λx H1=>∃c,x=.bl c/\if c=true then Q (.bl true) H1 else tb σ H1 Q
noncomputable def HA(ta:TE):TE:=λσ H Q=>ta σ H λx H1=>∃c,x=.bl c/\Q (.bl (!c)) H1
def DN{op}{t:TE}(h:PE X a t):PE X (.BoolOp op [a] pos) t:=λpins s σ H Q I hw=>BoolOp_one (h _ s σ H Q I hw)
def pq(ha:PE X a ta)(hb:PE X (.BoolOp .And (b::rest) pos) tb):PE X (.BoolOp .And (a::b::rest) pos) (Hz ta tb):=by
 intro pins s σ H Q I h;refine BoolOp_and (thn (ha _ s σ H _ I h) λv s1 ⟨x,H1,I1,r1,q1⟩=>?_);obtain⟨c,rfl,q1⟩:=q1;cases r1;refine wpAny_truthy_bool ?_;cases c with
 |true=>exact hb _ s1 σ H1 Q I1 q1
 |false=>exact⟨.bl _,H1,I1,rfl,q1⟩
def Cy(ha:PE X a ta)(hb:PE X (.BoolOp .Or (b::rest) pos) tb):PE X (.BoolOp .Or (a::b::rest) pos) (Ky ta tb):=by
 intro pins s σ H Q I h;refine BoolOp_or (thn (ha _ s σ H _ I h) λv s1 ⟨x,H1,I1,r1,q1⟩=>?_);obtain⟨c,rfl,q1⟩:=q1;cases r1;refine wpAny_truthy_bool ?_;cases c with
 |false=>exact hb _ s1 σ H1 Q I1 q1
 |true=>exact⟨.bl _,H1,I1,rfl,q1⟩
def DO(ha:PE X a ta):PE X (.UnaryOp .Not a pos) (HA ta):=by
 intro pins s σ H Q I h;refine UnaryOp_ (thn (ha pins s σ H _ I h) ?_);rintro v s1 ⟨x,H1,I1,r1,q1⟩;obtain⟨c,rfl,q1⟩:=q1;cases r1;exact not_of (wpAny_truthy_bool ⟨.bl (!c),H1,I1,rfl,q1⟩)
noncomputable def tIf(t:TT)(ta tb:TE):TE:=λσ H Q=>t σ H λc H1=>if c=true then ta σ H1 Q else tb σ H1 Q
def mJ(hc:PT X c tA)(ha:PE X a ta)(hb:PE X b tb):PE X (.IfExp c a b pos) (tIf tA ta tb):=by
 intro pins s σ H Q I h;refine wpAny_IfExp (thn (hc _ s σ H _ I h) λd s1 ⟨H1,I1,q1⟩=>?_);cases d with
 |true=>exact ha _ s1 σ H1 Q I1 q1
 |false=>exact hb _ s1 σ H1 Q I1 q1
end
def SqL(K:fg0)(H:Hp)(a:Addr)(xs:List V):Prop:=
 Rd H a (.lst xs)\/
  ∃(o:Obj)(its:Array Value)(n:Nat),K.lookup a=some o/\o.cls=.type "list"/\o.dict=none/\o.data=.seq its n/\its.size<=sizeLine/\Vals xs its.toList
def SqT(K:fg0)(H:Hp)(a:Addr)(xs:List V):Prop:=
 Rd H a (.tup xs)\/
  ∃(o:Obj)(its:Array Value)(n:Nat),K.lookup a=some o/\o.cls=.type "tuple"/\o.data=.seq its n/\its.size<=sizeLine/\Vals xs its.toList
noncomputable def Kz:Value->Option V
 |.none=>some .non
 |.bool b=>some (.bl b)
 |.int i _=>some (.int i)
 |.str x _=>some (.str x)
 |.bytes b _=>some (.byt b)
 |.float b _=>some (.flt b)
 |.ref a=>some (.ref a)
 |.type n=>some (.ty n)
 |_=>none
def RelV.abs{x:V}(r:RelV x u):Kz u=some x:=by
 cases x with
 |non=>cases r;rfl
 |bl _=>cases r;rfl
 |int _=>obtain⟨t,rfl⟩:=r;rfl
 |str _=>obtain⟨t,rfl⟩:=r;rfl
 |byt _=>obtain⟨t,rfl⟩:=r;rfl
 |flt _=>obtain⟨t,rfl⟩:=r;rfl
 |ref _=>cases r;rfl
 |ty _=>cases r;rfl
theorem RelV.inj{x y:V}(r:RelV x u)(q:RelV y u):x=y:=Option.some.inj (r.abs.symm.trans q.abs)
theorem Vals.inj:∀{xs ys:List V}{us:List Value},Vals xs us->Vals ys us->xs=ys
 |_,_,_,.nil,.nil=>rfl
 |_,_,_,.cons r t,.cons r' t'=>by rw[r.inj r',Vals.inj t t']
section
variable {ys:List V}
def SqL.of{K:fg0}(h:H a=some (.lst xs)):SqL K H a xs:=.inl (.inl h)
def SqT.of{K:fg0}(h:H a=some (.tup xs)):SqT K H a xs:=.inl (.inl h)
def Inv.list(I:Inv X pins σ H s)(h:SqL X.K H a xs):∃its:List Value,Vals xs its/\PlainL s.heap a its.toArray/\xs.length<=sizeLine:=by
 rcases h with h|⟨o,its,n,hk,hc,hd,hs,hz,r⟩
 .obtain⟨z,its,n,r,e⟩:=h.ok I.hok
  exact⟨_,r,⟨_,n,e,rfl,rfl,rfl⟩,z⟩
 .refine⟨_,r,⟨o,n,I.kIn a o hk,hc,hd,by omega⟩,?_⟩
  have e:=r.length
  grind
def Inv.tuple(I:Inv X pins σ H s)(h:SqT X.K H a xs):∃its:List Value,Vals xs its/\IsTup s.heap a its.toArray/\xs.length<=sizeLine:=by
 rcases h with h|⟨o,its,n,hk,hc,hs,hz,r⟩
 .obtain⟨z,its,r,p⟩:=h.ok I.hok
  exact⟨_,r,p,z⟩
 .refine⟨_,r,⟨o,I.kIn a o hk,hc,n,by omega⟩,?_⟩
  have e:=r.length
  simp_all
def Inv.list_inj(I:Inv X pins σ H s)(h:SqL X.K H a xs)(h':SqL X.K H a ys):xs=ys:=by
 obtain⟨its,r,⟨o,n,e,_,_,d⟩,_⟩:=I.list h;obtain⟨its',r',⟨o',n',e',_,_,d'⟩,_⟩:=I.list h';rw[e]at e';cases e';rw[d]at d';injection d' with d1 _
 have:=by simpa using congrArg Array.toList d1
 subst this;exact r.inj r'
end
noncomputable abbrev Cx.wish(X:Cx)(E:Value->Shared->Prop):Cx:={X with xe:=E}
noncomputable abbrev Cx.nox(X:Cx):Cx:=X.wish λa a=>False
theorem Cx.Ok.wish(ok:X.Ok)(E:Value->Shared->Prop):(X.wish E).Ok:=
 ⟨ok.mod,ok.kind,ok.glob,ok.blt,ok.above,ok.inj,ok.has,ok.cab,ok.hd,ok.frames,ok.stk,ok.exf,ok.bs,ok.bsz,ok.noex,ok.exfs,ok.funs,ok.frf⟩
def Cx.Ok.unwish(ok:(X.wish E).Ok):X.Ok:=
 ⟨ok.mod,ok.kind,ok.glob,ok.blt,ok.above,ok.inj,ok.has,ok.cab,ok.hd,ok.frames,ok.stk,ok.exf,ok.bs,ok.bsz,ok.noex,ok.exfs,ok.funs,ok.frf⟩
theorem Inv.wish(I:Inv X pins σ H s)(E:Value->Shared->Prop):Inv (X.wish E) pins σ H s:=⟨I.ok.wish E,I.os,I.bare,I.base,I.loc,I.cell,I.free,I.freeC,I.pin,I.hok,I.len⟩
theorem Inv.unwish(I:Inv (X.wish E) pins σ H s):Inv X pins σ H s:=⟨I.ok.unwish,I.os,I.bare,I.base,I.loc,I.cell,I.free,I.freeC,I.pin,I.hok,I.len⟩
theorem SP.unwish{D:Ends}{f:Flow}(h:SP (X.wish E) pins D f s'):SP X pins D f s':=by
 cases f with
 |next=>obtain⟨σ',H',I,q⟩:=h;exact⟨_,H',I.unwish,q⟩
 |brk=>obtain⟨σ',H',I,q⟩:=h;exact⟨_,H',I.unwish,q⟩
 |cont=>obtain⟨σ',H',I,q⟩:=h;exact⟨_,H',I.unwish,q⟩
 |ret u=>obtain⟨v,σ',H',I,r,q⟩:=h;exact⟨v,_,H',I.unwish,r,q⟩
theorem PSs.nox{st:List Stmt}{t:TS}(h:PSs X.nox st t):PSs X st t:=λpins s σ H D I hw=>
 wpAny_mono (h _ s σ H D (I.wish _) hw) (λa a q=>q.unwish) λa a z=>False.elim z
section
variable {st:Stmt}{rest:List Stmt}{t u:TS}
noncomputable def Cz:TS:=λD σ H=>D.nx σ H
noncomputable def KA(t u:TS):TS:=λD σ H=>t {D with nx:=u D} σ H
def eg:PSs X [] Cz:=λa a σ H a I h=>wpAny_execs_nil ⟨σ,H,I,h⟩
def aV(h1:PS X st t)(h2:PSs X rest u):PSs X (st::rest) (KA t u):=by
 intro pins s σ H D I h;refine wpAny_execs_cons (thn (h1 _ s σ H _ I h) λf s1 q=>?_);cases f with
 |next=>
  obtain⟨σ',H',I',q⟩:=q;exact h2 _ s1 _ H' D I' q
 |ret v=>exact q
 |brk=>exact q
 |cont=>exact q
def qN:PS X (.Pass pos) Cz:=λa a σ H a I h=>wpAny_Pass ⟨σ,H,I,h⟩
def Inv.quiet(I:Inv X pins σ H s):interactive X.env=false:=by simp[interactive,I.ok.kind]
noncomputable def HB(te:TE):TS:=λD σ H=>te σ H λa H1=>D.nx σ H1
def eu(he:PE X e te)(hs:swapsWith e none pos.line X.env=pure false:=by rfl):PS X (.Expr e pos) (HB te):=λpins s σ H D I h=>wpAny_Expr_any (thn (he _ s σ H _ I h) λv s1 ⟨x,H1,I1,r1,q1⟩=>⟨σ,H1,I1,q1⟩) I.quiet hs
noncomputable def KB(te:TE):TS:=λD σ H=>te σ H D.rt
def lr(he:PE X e te):PS X (.Return (some e) pos) (KB te):=λpins s σ H D I h=>wpAny_Return_some (thn (he _ s σ H _ I h) λv s1 ⟨x,H1,I1,r1,q1⟩=>⟨x,σ,H1,I1,r1,q1⟩)
noncomputable def KC(c:TT)(t u:TS):TS:=λD σ H=>c σ H λb H1=>if b=true then t D σ H1 else u D σ H1
def jQ{a b:List Stmt}{tc:TT}(hc:PT X c tc)(ha:PSs X a t)(hb:PSs X b u):PS X (.If c a b pos) (KC tc t u):=by
 intro pins s σ H D I h;refine wpAny_If (thn (hc _ s σ H _ I h) λd s1 ⟨H1,I1,q1⟩=>?_);cases d with
 |true=>exact ha _ s1 σ H1 D I1 q1
 |false=>exact hb _ s1 σ H1 D I1 q1
end
noncomputable abbrev TG:=V->St->Hp->(St->Hp->Prop)->Prop
noncomputable abbrev TGs:=List V->St->Hp->(St->Hp->Prop)->Prop
def PG(X:Cx)(target:Expr)(t:TG):Prop:=
 ∀(pins:List (Addr×Obj))(s:Shared)(σ:St)(H:Hp)(v:V)(u:Value)(Q:St->Hp->Prop),Inv X pins σ H s->RelV v u->t v σ H Q->
  wpAny (model X.prog X.w) X.A (assign target X.env u) (λa s'=>∃σ' H',Inv X pins σ' H' s'/\Q σ' H') X.xe s
def PGs(X:Cx)(ts:List Expr)(t:TGs):Prop:=
 ∀(pins:List (Addr×Obj))(s:Shared)(σ:St)(H:Hp)(vs:List V)(us:List Value)(Q:St->Hp->Prop),Inv X pins σ H s->Vals vs us->t vs σ H Q->
  wpAny (model X.prog X.w) X.A (assignInOrder ((assignEach ts X.env).map (·.2)) us) (λa s'=>∃σ' H',Inv X pins σ' H' s'/\Q σ' H') X.xe s
noncomputable abbrev DP:=V->V->V->Hp->(Hp->Prop)->Prop
def zK(X:Cx)(t:DP):Prop:=
 ∀(pins:List (Addr×Obj))(s:Shared)(σ:St)(H:Hp)(o i v:V)(ov iv u:Value)(Q:Hp->Prop),Inv X pins σ H s->RelV o ov->RelV i iv->RelV v u->t o i v H Q->
  wpAny (model X.prog X.w) X.A (setItem ov iv u) (λa s'=>∃H',Inv X pins σ H' s'/\Q H') X.xe s
noncomputable def CA(i:Nat):TG:=λv σ H Q=>Q (σ.set i (some v)) H
def qO(hN:X.N.Nodup)(hi:X.N[i]?=some x)(hx:Loc X.env.scope x)(hf:X.fn x=true\/X.env.scope.names.lookup x=some .local:=by first|exact .inl rfl|exact .inr rfl|assumption):PG X (.Name x pos) (CA i):=λpins s σ H v u Q I r h=>wpAny_assign_Name (iN I hN hi hx r (λs' I'=>⟨_,H,I',h⟩) hf)
noncomputable def KF:TGs:=λvs σ H Q=>vs=[]/\Q σ H
noncomputable def HC(t:TG)(u:TGs):TGs:=λvs σ H Q=>∃v r,vs=v::r/\t v σ H λσ' H'=>u r σ' H' Q
def qP:PGs X [] KF:=by
 intro pins s σ H vs us Q I r h;obtain⟨e,h⟩:=h;subst e;exact assignInOrder_nil ⟨σ,H,I,h⟩
def mK{e:Expr}{t:TG}{u:TGs}(h1:PG X e t)(h2:PGs X es u)
  (hs:(assignEach (e::es) X.env).map (·.2)=assign e X.env::(assignEach es X.env).map (·.2):=by rfl):PGs X (e::es) (HC t u):=by
 intro pins s σ H vs us Q I r h;obtain⟨v,vr,e1,h⟩:=h;subst e1;cases r with
 |cons r rr=>
  rw[hs];exact assignInOrder_cons (thn (h1 _ s σ H _ _ _ I r h) λa s1 ⟨σ1,H1,I1,q1⟩=>h2 _ s1 _ H1 _ _ Q I1 rr q1)
noncomputable def KG(K:fg0)(n:Nat)(t:TGs):TG:=λv σ H Q=>∃a xs,v=.ref a/\SqT K H a xs/\xs.length=n/\t xs σ H Q
def vG{t:TGs}{n:Nat}(hc:X.calm=true)(h:PGs X es t)
  (hn:(assignEach es X.env).length=n:=by rfl) (hst:(assignEach es X.env).findIdx? (·.1)=none:=by rfl):PG X (.Tuple es k pos) (KG X.K n t):=by
 intro pins s σ H v u Q I r hw;obtain⟨a,xs,e1,hq,hl,hw⟩:=hw;subst e1;cases r;obtain⟨its,rv,ht,hz⟩:=I.tuple hq;exact assign_Tuple_tuple (I.ok.hd hc) ht (by simp[hn,<-hl,rv.length]) hst λh' hx=>h _ _ σ H xs _ Q (I.kept λb o e=>hx b o (nn0 (hs0 e)) e) (by omega) hw
noncomputable def KH(to ti:TE)(t:DP):TG:=λv σ H Q=>to σ H λo H1=>ti σ H1 λi H2=>t o i v H2 λH3=>Q σ H3
def pw{o i:Expr}{to ti:TE}{t:DP}(ho:PE X o to)(hi:PE X i ti)(hs:zK X t)
  (ha:∀v,assign (.Subscript o i pos) X.env v=(do
   let ov ←holding [v] (eval o X.env)
   let iv ←holding [v,ov] (eval i X.env)
   standAt pos
   holding [v,ov,iv] (setItem ov iv v)
   release [v,ov,iv] []):=by intro _;rfl):PG X (.Subscript o i pos) (KH to ti t):=by
 intro pins s σ H v u Q I r h;rw[ha];exact wb0 (wh0 (thn (ho _ s σ H _ I h) λov s1 ⟨x,H1,I1,r1,q1⟩=>wb0 (wh0 (thn (hi _ s1 σ H1 _ I1 q1) λiv s2 ⟨y,H2,I2,r2,q2⟩=>wb0 (wpAny_standAt (wb0 (wh0 (thn (hs _ s2 σ H2 x y v ov iv u _ I2 r1 r2 r q2) λa s3 ⟨H3,I3,q3⟩=>wpAny_release ⟨σ,H3,I3,q3⟩))))))))
noncomputable def HD(te:TE)(g:TG):TS:=λD σ H=>te σ H λx H1=>g x σ H1 D.nx
def pA{g:TG}(he:PE X e te)(hg:PG X tg g)(hs:swapsWithSole [tg] e pos.line X.env=pure false:=by rfl)(hw:swappedStores [tg] e X.env=pure none:=by rfl)
  (h1:(assignEach [tg] X.env).map (·.2)=[assign tg X.env]:=by rfl):PS X (.Assign [tg] e pos) (HD te g):=by
 intro pins s σ H D I h;refine wpAny_Assign_stores (thn (he _ s σ H _ I h) λv s1 ⟨x,H1,I1,r1,q1⟩=>?_) hs hw;rw[h1];exact thn (hg _ s1 σ H1 x v _ I1 r1 q1) λa s2 q=>q
def gq{pos':Pos}(hN:X.N.Nodup)(hi:X.N[i]?=some x)(hx:Loc X.env.scope x)(he:PE X e te)(hs:swapsWith e (some (.Name x pos')) pos.line X.env=pure false:=by rfl)(hf:X.fn x=true\/X.env.scope.names.lookup x=some .local:=by first|exact .inl rfl|exact .inr rfl|assumption):
  PS X (.Assign [.Name x pos'] e pos) (HD te (CA i)):=λpins s σ H D I h=>wpAny_Assign_Name (thn (he _ s σ H _ I h) λv s1 ⟨y,H1,I1,r1,q1⟩=>iN I1 hN hi hx r1 (λs2 I2=>⟨_,H1,I2,q1⟩) hf) hs
noncomputable def DQ(c:TT)(tb:TS):TS:=λD σ H=>∃W:Nat->St->Hp->Prop,(∃m,W m σ H)/\∀m σ H,W m σ H->
 c σ H λb H1=>if b=true then ∃N:St->Hp->Prop,(∀σ' H',N σ' H'->∃m',m'<m/\W m' σ' H')/\tb {D with nx:=N,ct:=N,bk:=D.nx} σ H1 else D.nx σ H1
def vH{tc:TT}{tb:TS}(hp:PassesOwn (model X.prog X.w) X.A X.env X.xe)(hc:PT X c tc)(hb:PSs X body tb):PS X (.While c body [] pos) (DQ tc tb):=by
 intro pins s σ H D I h;obtain⟨W,⟨m0,w0⟩,turn⟩:=h;refine wpAny_While (codeAny_whileLoop (λn s'=>∃σ' H',Inv X pins σ' H' s'/\W n σ' H') ?_ m0 ⟨σ,H,I,w0⟩)
 rintro n s1 ⟨σ1,H1,I1,w1⟩
 refine wpAny_passesOwn hp (thn (hc pins s1 σ1 H1 _ I1 (turn n σ1 H1 w1)) λb s2 ⟨H2,I2,q2⟩=>?_);cases b with
 |true=>
  obtain⟨N,hN,q2⟩:=q2;refine wpAny_passesOwn hp (thn (hb pins s2 σ1 H2 _ I2 q2) λf s3 q3=>?_);cases f with
  |next=>
   obtain⟨σ3,H3,I3,n3⟩:=q3;obtain⟨m',hm,w3⟩:=hN σ3 H3 n3;exact⟨m',hm,σ3,H3,I3,w3⟩
  |cont=>
   obtain⟨σ3,H3,I3,n3⟩:=q3;obtain⟨m',hm,w3⟩:=hN σ3 H3 n3;exact⟨m',hm,σ3,H3,I3,w3⟩
  |brk=>exact q3
  |ret v=>exact q3
 |false=>
  exact wpAny_execs_nil ⟨σ1,H2,I2,q2⟩
structure It where
 go:Nat->Hp->Prop
 yld:Nat->Hp->V->Hp->Prop
 stop:Nat->Hp->Prop
def iO(X:Cx)(pins:List (Addr×Obj))(H:Hp)(b:Addr):Prop:=
 H b=none/\b≠X.env.locals/\b∉X.fs/\(b∈X.ex\/X.s₀.heap.objs.size<=b)/\(∀x c,X.env.cells.lookup x=some c->c≠b)/\∀p∈X.pn++pins,p.1≠b
def Inv.fpOk(I:Inv X pins σ H s)(hb:s.heap.objs.size<=b)(hn:H' b=none):iO X pins H' b:=by
 refine⟨hn,Nat.ne_of_gt (nl0 I.lt hb),I.nofs hb,.inr (nt0 I.sz hb),λx c e z=>?_,λp hp z=>?_⟩
 .obtain⟨v,q⟩:=I.cell x c e
  exact absurd (nl0 q.lt (by rwa [z])) (li0 _)
 .exact absurd (nl0 (hs0 (I.pin p hp).1) (by rwa [z])) (li0 _)
structure Turn(P:Program)(w:World)(K:fg0)(tg:Expr)(J:It)(fp:List Addr)(it:Addr)(tn:Nat->Heap->Prop):Prop where
 mem:it∈fp
 obj:∀i h,tn i h->∀b∈fp,∃o,h.get? b=some o/\∀v,o.data≠.cell v
 keep:∀i h h',tn i h->(∀b∈fp,∀o,h.get? b=some o->h'.get? b=some o)->tn i h'
 item:∀(X:Cx),X.prog=P->X.w=w->X.K=K->X.calm=true->∀(i:Nat)(pins:List (Addr×Obj))(s:Shared)(σ:St)(H:Hp)(E:Value->Shared->Prop),Inv X pins σ H s->(∀b∈fp,iO X pins H b)->tn i s.heap->J.go i H->
  wpAny (model P w) X.A (pyNext (.ref it)) (λr s1=>∃u,r=some u/\
   wpAny (model P w) X.A (letOwnedTupleGo tg (.ref it) u) (λa s2=>∃x H',Inv X pins σ H' s2/\RelV x u/\J.yld i H x H'/\tn (i+1) s2.heap/\∀b∈fp,H' b=none) E s1) E s
 done:∀(X:Cx),X.prog=P->X.w=w->X.K=K->X.calm=true->∀(i:Nat)(pins:List (Addr×Obj))(s:Shared)(σ:St)(H:Hp)(E:Value->Shared->Prop),Inv X pins σ H s->(∀b∈fp,iO X pins H b)->tn i s.heap->J.stop i H->
  wpAny (model P w) X.A (pyNext (.ref it)) (λr s1=>r=none/\Inv X pins σ H s1) E s
 self:∀(A:Around)(i:Nat)(s:Shared)(Q:Value->Shared->Prop)(E:Value->Shared->Prop),tn i s.heap->Q (.ref it) s->wpAny (model P w) A (pyIter (.ref it)) Q E s
noncomputable abbrev TI:=St->Hp->(It->Hp->Prop)->Prop
def PIE(X:Cx)(pins:List (Addr×Obj))(σ:St)(tg:Expr)(R:It->Hp->Prop)(itv:Value)(s2:Shared):Prop:=
 ∃(it:Addr)(fp:List Addr)(tn:Nat->Heap->Prop)(J:It)(H':Hp),itv=.ref it/\Inv X pins σ H' s2/\Turn X.prog X.w X.K tg J fp it tn/\tn 0 s2.heap/\(∀b∈fp,iO X pins H' b)/\R J H'
def PI(X:Cx)(tg iter:Expr)(wi:TI):Prop:=
 ∀(pins:List (Addr×Obj))(s:Shared)(σ:St)(H:Hp)(R:It->Hp->Prop),Inv X pins σ H s->wi σ H R->
  wpAny (model X.prog X.w) X.A (eval iter X.env) (λv s1=>wpAny (model X.prog X.w) X.A (pyIter v) (PIE X pins σ tg R) X.xe s1) X.xe s
def qQ{M:Model}{it:Addr}{o:Obj}{n:String}{vs:Array Value}{Q:Unit->Shared->Prop}(ho:s.heap.get? it=some o)(hc:o.cls=.type n)(hd:o.data=.fields vs)
  (hn:["enumerate","zip","dict_itemiterator","dict_reverseitemiterator","odict_iterator","itertools.zip_longest","itertools.pairwise"].contains n=false) (hQ:Q () s):wpAny M A (letOwnedTupleGo tg (.ref it) u) Q E s:=by
 cases tg<;>first
  |exact wq0 hQ
  |(cases u<;>first
    |exact wq0 hQ
    |(refine wb0 (wpAny_load ho ?_)
      rw[hc,hd];show wpAny M A (if (["enumerate","zip","dict_itemiterator",_,"odict_iterator",_,"itertools.pairwise"].contains n&&vs[0]?==some (rawInt _))=true then _ else _) Q E s;rw[if_neg (by intro h;rw[hn,Bool.false_and]at h;cases h)];exact wq0 hQ))
noncomputable def Itl(K:fg0)(a:Addr):It:=
 ⟨λi H=>∃xs x,SqL K H a xs/\xs[i]?=some x,λi H x H'=>H'=H/\∀xs,SqL K H a xs->xs[i]?=some x,λi H=>∃xs,SqL K H a xs/\xs.length<=i⟩
noncomputable def Itr(lo:Int)(n:Nat):It:=⟨λi a=>i<n,λi H x H'=>H'=H/\x=.int (lo+i),λi a=>n<=i⟩
def tj{K:fg0}(a it:Addr):Turn P w K tg (Itl K a) [it] it (λi h=>h.IsListIter it a i) where
 mem:=by simp
 obj:=λi h st b hb=>by
  have e:b=it:=by simpa using hb
  subst e;obtain⟨o,e,c,d⟩:=st;exact⟨o,e,λv z=>by rw[d]at z;cases z⟩
 keep:=λi h h' st k=>st.at λo e=>k it (by simp) o e
 item:=by
  intro X hP hw hK hc i pins s σ H E I hf st hg;subst hP hw hK;obtain⟨xs,x,hq,hx⟩:=hg;obtain⟨its,rv,p,hz⟩:=I.list hq;obtain⟨u,hu,ru⟩:=rv.get hx;obtain⟨f0,f1,f2,f3,f4,f5⟩:=hf it (by simp);refine wpAny_pyNext_list_item st p.isList (x:=u) (by simpa using hu) λh' st' sb=>?_
  have I1:Inv X pins σ H {s with heap:=h'}:=I.turned (t':=s.toks) (λb o hb e=>(sb.2 b hb).trans e) f0 f1 f3 f4 f5;obtain⟨o,e,c,d⟩:=id st';exact⟨u,rfl,qQ (s:={s with heap:=h'}) e c d (by decide) ⟨x,H,I1,ru,⟨rfl,λys hy=>by rw[I.list_inj hy hq];exact hx⟩,st',λb hb=>(hf b hb).1⟩⟩
 done:=by
  intro X hP hw hK hc i pins s σ H E I hf st hg;subst hP hw hK;obtain⟨xs,hq,hx⟩:=hg;obtain⟨its,rv,p,hz⟩:=I.list hq;obtain⟨f0,f1,f2,f3,f4,f5⟩:=hf it (by simp);have hl:=rv.length;exact wpAny_pyNext_list_end (I.ok.hd hc) st p.isList (by simp;simp_all) λh' eb=>⟨rfl,I.turned (t':=s.toks) (λb o hb e=>eb b o hb e) f0 f1 f3 f4 f5⟩
 self:=λf f f f f st h=>wpAny_pyIter_listiter st h
def pB{K:fg0}(it:Addr)(lo:Int)(n:Nat):Turn P w K tg (Itr lo n) [it] it (λi h=>IsRangeIter h it (lo+(i:Nat)*1) ((n:Int)-(i:Nat)) 1) where
 mem:=by simp
 obj:=λi h st b hb=>by
  simp_all
 keep:=λi h h' st k=>k it (by simp) _ st
 item:=by
  intro X hP hw hK hc i pins s σ H E I hf st hg;subst hP hw hK;obtain⟨f0,f1,f2,f3,f4,f5⟩:=hf it (by simp);have W:=Walks.range (prog:=X.prog) (w:=X.w) (I.ok.hd hc) it lo 1 n;refine W.item i s _ _ hg st λv h' tk hv st' kk=>?_
  obtain⟨t,rfl⟩:=hv;have I1:Inv X pins σ H {s with heap:=h',toks:=tk}:=I.turned (λb o hb e=>kk b o (by simpa using hb) e) f0 f1 f3 f4 f5;refine⟨_,rfl,qQ (n:="range_iterator") st' rfl rfl (by decide) ⟨.int (lo+i),H,I1,⟨t,?_⟩,⟨rfl,rfl⟩,st',λb hb=>(hf b hb).1⟩⟩;rw[Int.mul_one]
 done:=by
  intro X hP hw hK hc i pins s σ H E I hf st hg;subst hP hw hK;obtain⟨f0,f1,f2,f3,f4,f5⟩:=hf it (by simp);exact wpAny_pyNext_range_end (I.ok.hd hc) st (by have:n<=i:=hg;omega) λh' eb=>⟨rfl,I.turned (t':=s.toks) (λb o hb e=>eb b o hb e) f0 f1 f3 f4 f5⟩
 self:=λa a a a a st h=>wpAny_pyIter_rangeiter st h
noncomputable def HE(K:fg0)(tl:TE):TI:=λσ H R=>tl σ H λx H1=>∃a,x=.ref a/\(∃xs,SqL K H1 a xs)/\R (Itl K a) H1
def ix{l:Expr}{tl:TE}(hl:PE X l tl):PI X tg l (HE X.K tl):=by
 intro pins s σ H R I h;refine thn (hl _ s σ H _ I h) λv s1 ⟨x,H1,I1,r1,q1⟩=>?_
 obtain⟨a,e,⟨xs,hq⟩,q⟩:=q1;subst e;cases r1;obtain⟨its,rv,p,hz⟩:=I1.list hq;refine wpAny_pyIter_list p.isList ?_;refine⟨_,_,_,_,H1,rfl,I1.kept λb o e=>ps0 _ e,tj a _,⟨_,pz0 _ rfl,rfl,rfl⟩,λb hb=>?_,q⟩;have e:=by simpa using hb
 subst e;exact I1.fpOk (nr0 _) (I1.hok.fresh (nr0 _))
def vI{R:It->Hp->Prop}{lo hi:Int}{t u v:Tok}{tk:Nat}(I:Inv X pins σ H s)(h1:-(2 ^ 62)<=lo)(h2:lo<2 ^ 62)(h3:-(2 ^ 62)<=hi)(h4:hi<2 ^ 62)
  (q:R (Itr lo (hi-lo).toNat) H):wpAny (model X.prog X.w) X.A (pyIter (.ref s.heap.objs.size)) (PIE X pins σ tg R) E {s with heap:=s.heap.push {cls:=.type "range",data:=.fields #[.int lo t,.int hi u,.int 1 v]},toks:=tk}:=by
 refine wpAny_pyIter_range (IsRange.new ..) (small_one h1 h2 h3 h4) ?_;have I1:Inv X pins σ H {s with heap:=s.heap.push {cls:=.type "range",data:=.fields #[.int lo t,.int hi u,.int 1 v]},toks:=tk}:=I.kept λb o e=>ps0 _ e
 refine⟨_,_,_,_,H,rfl,
  I1.kept λb o e=>ps0 _ e,pB _ lo _,?_,λb hb=>?_,q⟩
 .have e1:lo+((0:Nat):Int)*1=lo:=by simp
  have e2:((hi-lo).toNat:Nat)-((0:Nat):Int)=Builtin.Range.rangeSize lo hi 1:=by rw[rangeSize_one];grind
  rw[e1,e2];exact pz0 _ rfl
 .have e:b=(s.heap.push {cls:=.type "range",data:=.fields #[.int lo t,.int hi u,.int 1 v]}).objs.size:=by simpa using hb
  subst e;exact I1.fpOk (nr0 _) (I1.hok.fresh (nr0 _))
noncomputable def HF(ta:TA):TI:=λσ H R=>ta σ H λvs H1=>∃j:Int,vs=[.int j]/\ -(2 ^ 62)<=j/\j<2 ^ 62/\R (Itr 0 j.toNat) H1
def tq{a:Expr}{ta:TA}(hg:Gl X "range")(hm:X.mg "range"=none)(ha:PA X [a] ta)(hs:starEach [a] X.env=[(false,eval a X.env)]:=by rfl):PI X tg (.Call (.Name "range" p) [a] [] pos) (HF ta):=by
 intro pins s σ H R I h;refine Call_ (ld_blt I hg hm boot_range (PyProof.Rows.callWith_type1 (thn (ha pos pins s σ H _ I h) ?_) hs rfl));rintro us s1 ⟨vs,H1,I1,r1,q1⟩;obtain⟨j,e,q1,q2,q⟩:=q1;subst e;cases r1 with
 |cons r rr=>
  cases rr;obtain⟨t,rfl⟩:=r;exact call_range_1 (vI I1 (by simp_all) (by simp_all) q1 q2 (by simpa using q))
noncomputable def KI(wi:TI)(g:TG)(tb:TS):TS:=λD σ H=>wi σ H λJ H1=>∃W:Nat->Nat->St->Hp->Prop,(∃m,W 0 m σ H1)/\∀i m σ H,W i m σ H->
 (J.stop i H/\D.nx σ H)\/(J.go i H/\∃N:St->Hp->Prop,(∀σ' H',N σ' H'->∃m',m'<m/\W (i+1) m' σ' H')/\∀x H',J.yld i H x H'->g x σ H' λσ2 H2=>tb {D with nx:=N,ct:=N,bk:=D.nx} σ2 H2)
noncomputable def iP(fp:List Addr)(h:Heap):List (Addr×Obj):=fp.filterMap λb=>(h.get? b).map λo=>(b,o)
def df{o:Obj}(hb:b∈fp)(e:h.get? b=some o):(b,o)∈iP fp h:=List.mem_filterMap.mpr ⟨b,hb,by rw[e];rfl⟩
def tu{p:Addr×Obj}(hp:p∈iP fp h):p.1∈fp/\h.get? p.1=some p.2:=by
 obtain⟨b,hb,e⟩:=List.mem_filterMap.mp hp;cases q:h.get? b with
 |none=>simp_all
 |some o=>
  rw[q]at e;have e':=Option.some.inj e;subst e';exact⟨hb,q⟩
def Inv.pinned(I:Inv X pins σ H s)(hf:∀b∈fp,iO X pins H b)(ho:∀b∈fp,∃o,s.heap.get? b=some o/\∀v,o.data≠.cell v):Inv X (pins++iP fp s.heap) σ H s:=
 I.pins_of λp hp=>(ma0 hp).elim (λz=>I.pin p (mr0 _ z)) λz=>by
  obtain⟨hb,e⟩:=tu z;obtain⟨f0,f1,f2,_⟩:=hf _ hb;obtain⟨o,e',d⟩:=ho _ hb<;>simp_all
def Inv.unpinned{pl:List (Addr×Obj)}(I:Inv X (pins++pl) σ H s):Inv X pins σ H s:=I.pins_of λp hp=>I.pin p (mr0 _ (List.mem_append_left _ hp))
def pC{iter:Expr}{wi:TI}{g:TG}{tb:TS}(hp:PassesOwn (model X.prog X.w) X.A X.env X.xe)(hc:X.calm=true)(hi:PI X tg iter wi)(hg:PG X tg g)(hb:PSs X body tb)
  (hs:∀x,foldedSetIterable iter X.env x=pure x:=by intro _;rfl):PS X (.For tg iter body [] pos) (KI wi g tb):=by
 intro pins s σ H D I h;refine wpAny_For (thn (hi pins s σ H _ I h) λv s1 h1=>thn h1 λitv s2 h2=>?_) hs;obtain⟨it,fp,tn,J,H2,e,I2,T,st2,f2,W,⟨m0,w0⟩,turn⟩:=h2;subst e;have stat:∀{H':Hp},(∀b∈fp,H' b=none)->∀b∈fp,iO X pins H' b:=λhn b hb=>⟨hn b hb,(f2 b hb).2⟩
 refine codeAny_forLoop_any (λn s'=>∃i σ' H',Inv X pins σ' H' s'/\tn i s'.heap/\(∀b∈fp,H' b=none)/\W i n σ' H') ?_ m0 ⟨0,σ,H2,I2,st2,λb hb=>(f2 b hb).1,w0⟩
 rintro n s3 ⟨i,σ3,H3,I3,st3,fr3,w3⟩
 rcases turn i n σ3 H3 w3 with⟨stop,qn⟩|⟨go,N,hN,step⟩
 .refine wpAny_passesOwn hp (thn (T.done X rfl rfl rfl hc i pins s3 σ3 H3 X.xe I3 (stat fr3) st3 stop) ?_);rintro r s4 ⟨hr,I4⟩
  subst hr;exact wpAny_execs_nil ⟨σ3,H3,I4,qn⟩
 .refine wpAny_passesOwn hp (thn (T.item X rfl rfl rfl hc i pins s3 σ3 H3 X.xe I3 (stat fr3) st3 go) ?_);rintro r s4 ⟨u,hr,h4⟩
  subst hr;refine wpAny_passesOwn hp (thn h4 ?_);rintro _ s5 ⟨x,H5,I5,r5,y5,st5,fr5⟩;have I5':=I5.pinned (stat fr5) (T.obj _ _ st5);refine wpAny_passesOwn hp (thn (hg _ s5 σ3 H5 x u _ I5' r5 (step x H5 y5)) ?_);rintro _ s6 ⟨σ6,H6,I6,q6⟩;refine wpAny_passesOwn hp (thn (hb _ s6 σ6 H6 _ I6 q6) λf s7 q7=>?_);have again:∀{σ7:St}{H7:Hp},Inv X (pins++iP fp s5.heap) σ7 H7 s7->N σ7 H7->∃m,m<n/\∃i σ' H',Inv X pins σ' H' s7/\tn i s7.heap/\(∀b∈fp,H' b=none)/\W i m σ' H':=λ{σ7 H7} I7 n7=>by
   obtain⟨m',hm,w7⟩:=hN σ7 H7 n7;refine⟨m',hm,i+1,σ7,H7,I7.unpinned,T.keep _ _ _ st5 λb hb o e=>(I7.pin (b,o) (mr0 _ (mr0 _ (df hb e)))).1,λb hb=>?_,w7⟩;obtain⟨o,e,d⟩:=T.obj _ _ st5 b hb;exact (I7.pin (b,o) (mr0 _ (mr0 _ (df hb e)))).2.1
  cases f with
  |next=>obtain⟨σ7,H7,I7,n7⟩:=q7;exact again I7 n7
  |cont=>obtain⟨σ7,H7,I7,n7⟩:=q7;exact again I7 n7
  |brk=>obtain⟨σ7,H7,I7,q7⟩:=q7;exact⟨σ7,H7,I7.unpinned,q7⟩
  |ret v=>obtain⟨x7,σ7,H7,I7,r7,q7⟩:=q7;exact⟨x7,σ7,H7,I7.unpinned,r7,q7⟩
noncomputable abbrev R2:=V->V->Hp->VK->Prop
def OpR(X:Cx)(f:Value->Value->Sem Value)(r:R2):Prop:=
 ∀(pins:List (Addr×Obj))(s:Shared)(σ:St)(H:Hp)(x y:V)(v u:Value)(Q:VK),Inv X pins σ H s->RelV x v->RelV y u->r x y H Q->
  wpAny (model X.prog X.w) X.A (f v u) (EP X pins σ Q) X.xe s
def UnR(X:Cx)(f:Value->Sem Value)(r:V->Hp->VK->Prop):Prop:=
 ∀(pins:List (Addr×Obj))(s:Shared)(σ:St)(H:Hp)(x:V)(v:Value)(Q:VK),Inv X pins σ H s->RelV x v->r x H Q->
  wpAny (model X.prog X.w) X.A (f v) (EP X pins σ Q) X.xe s
def aW(X:Cx)(f:Value)(r:List V->Hp->VK->Prop):Prop:=
 ∀(pins:List (Addr×Obj))(s:Shared)(σ:St)(H:Hp)(xs:List V)(us:List Value)(Q:VK),Inv X pins σ H s->Vals xs us->r xs H Q->
  wpAny (model X.prog X.w) X.A (call f us) (EP X pins σ Q) X.xe s
def KJ(X:Cx)(r:V->Hp->(Bool->Hp->Prop)->Prop):Prop:=
 ∀(pins:List (Addr×Obj))(s:Shared)(σ:St)(H:Hp)(x:V)(v:Value)(Q:Bool->Hp->Prop),Inv X pins σ H s->RelV x v->r x H Q->
  wpAny (model X.prog X.w) X.A (truthy v) (TP X pins σ Q) X.xe s
noncomputable def tOp(r:R2)(ta tb:TE):TE:=λσ H Q=>ta σ H λx H1=>tb σ H1 λy H2=>r x y H2 Q
noncomputable def tUn(r:V->Hp->VK->Prop)(ta:TE):TE:=λσ H Q=>ta σ H λx H1=>r x H1 Q
noncomputable def rI(C:Int->Int->Prop)(g:Int->Int->V):R2:=λx y H Q=>∃i j,x=.int i/\y=.int j/\C i j/\Q (g i j) H
noncomputable def rI0(g:Int->Int->V):R2:=λx y H Q=>∃i j,x=.int i/\y=.int j/\Q (g i j) H
noncomputable def rU(g:Int->V):V->Hp->VK->Prop:=λx H Q=>∃i,x=.int i/\Q (g i) H
section
variable {a b:Expr}{tc:TE}
def DR(ha:PE X a ta)(hb:PE X b tb){R:V->V->Hp->Prop}(I:Inv X pins σ H s)
  (h:ta σ H λx H1=>tb σ H1 λy H2=>R x y H2)  {f:Value->Value->Sem Value}
  (hf:∀v u s2 x y H2,Inv X pins σ H2 s2->RelV x v->RelV y u->R x y H2->wpAny (model X.prog X.w) X.A (f v u) Q X.xe s2):
  wpAny (model X.prog X.w) X.A (eval a X.env) (λv s₁=>wpAny (model X.prog X.w) X.A (eval b X.env) (λu s₂=>wpAny (model X.prog X.w) X.A (f v u) Q X.xe s₂) X.xe s₁) X.xe s:=thn (ha _ s σ H _ I h) λv s1 ⟨x,H1,I1,r1,q1⟩=>thn (hb _ s1 σ H1 _ I1 q1) λu s2 ⟨y,H2,I2,r2,q2⟩=>hf v u s2 x y H2 I2 r1 r2 q2
def mL{op:Operator}{r:R2}(ho:OpR X (binaryOp op) r)(ha:PE X a ta)(hb:PE X b tb):PE X (.BinOp a op b pos) (tOp r ta tb):=λpins s σ H Q I h=>wpAny_BinOp (DR ha hb I h λv u s2 x y H2 I2 rx ry q=>ho _ s2 σ H2 x y v u Q I2 rx ry q)
def CB{op:UnaryOp}{r:V->Hp->VK->Prop}(ho:UnR X (unaryOp op) r)(ha:PE X a ta):PE X (.UnaryOp op a pos) (tUn r ta):=λpins s σ H Q I h=>UnaryOp_ (thn (ha _ s σ H _ I h) λv s1 ⟨x,H1,I1,r1,q1⟩=>ho _ s1 σ H1 x v Q I1 r1 q1)
def opI{f:Value->Value->Sem Value}{C:Int->Int->Prop}{g:Int->Int->Int}
  (rule:∀(i j:Int)(t u:Tok)(s:Shared)(Q:Value->Shared->Prop)(E:Value->Shared->Prop),C i j->Q (.int (g i j) s.toks) {s with toks:=s.toks+1}->wpAny (model X.prog X.w) X.A (f (.int i t) (.int j u)) Q E s):
  OpR X f (rI C λi j=>.int (g i j)):=by
 intro pins s σ H x y v u Q I rx ry h;obtain⟨i,j,rfl,rfl,hc,q⟩:=h;obtain⟨t,rfl⟩:=rx;obtain⟨t',rfl⟩:=ry;exact rule i j t t' s _ _ hc ⟨.int _,H,I.tok _,⟨_,rfl⟩,q⟩
def HG{f:Value->Value->Sem Value}{g:Int->Int->Int}
  (rule:∀(i j:Int)(t u:Tok)(s:Shared)(Q:Value->Shared->Prop)(E:Value->Shared->Prop),Q (.int (g i j) s.toks) {s with toks:=s.toks+1}->wpAny (model X.prog X.w) X.A (f (.int i t) (.int j u)) Q E s):
  OpR X f (rI0 λi j=>.int (g i j)):=by
 intro pins s σ H x y v u Q I rx ry h;obtain⟨i,j,rfl,rfl,q⟩:=h;obtain⟨t,rfl⟩:=rx;obtain⟨t',rfl⟩:=ry;exact rule i j t t' s _ _ ⟨.int _,H,I.tok _,⟨_,rfl⟩,q⟩
def DS{f:Value->Value->Sem Value}{g:Int->Int->Bool}
  (rule:∀(i j:Int)(t u:Tok)(s:Shared)(Q:Value->Shared->Prop)(E:Value->Shared->Prop),Q (.bool (g i j)) s->wpAny (model X.prog X.w) X.A (f (.int i t) (.int j u)) Q E s):
  OpR X f (rI0 λi j=>.bl (g i j)):=by
 intro pins s σ H x y v u Q I rx ry h;obtain⟨i,j,rfl,rfl,q⟩:=h;obtain⟨t,rfl⟩:=rx;obtain⟨t',rfl⟩:=ry;exact rule i j t t' s _ _ ⟨.bl _,H,I,rfl,q⟩
def KL(i j:Int):Prop:=0<j/\j<1073741824
def CMul(i j:Int):Prop:=(-(2 ^ 64)<i/\i<2 ^ 64)\/(-(2 ^ 64)<j/\j<2 ^ 64)
def CMul.ok{i j:Int}(h:CMul i j):IntMulOk i j:=by
 rcases h with⟨h1,h2⟩|⟨h1,h2⟩
 .exact .of_left (intBits_le_64 h1 h2)
 .exact .of_right (intBits_le_64 h1 h2)
def DT:OpR X (binaryOp .Add) (rI0 λi j=>.int (i+j)):=HG λa a a a a a a q=>add_int q
def DU:OpR X (binaryOp .Sub) (rI0 λi j=>.int (i-j)):=HG λa a a a a a a q=>sub_int q
def op_mul:OpR X (binaryOp .Mult) (rI CMul λi j=>.int (i*j)):=opI λa a a a a a a hc q=>mul_int q hc.ok
def op_fdiv:OpR X (binaryOp .FloorDiv) (rI KL λi j=>.int (i / j)):=opI λi j a a a a a hc q=>by
 have h1:=hc.1;have h2:=hc.2;exact floordiv_int (by omega) (by rwa [Int.fdiv_eq_ediv_of_nonneg i (by omega)]) (.inl (PyProof.noPylong_small (by omega)))
def op_mod:OpR X (binaryOp .Mod) (rI (λa j=>0<j) λi j=>.int (i % j)):=opI λi j a a a a a hc q=>by
 exact mod_int' (by omega) (by rwa [Int.fmod_eq_emod_of_nonneg i (by omega)])
def unI{f:Value->Sem Value}{g:Int->Int}
  (rule:∀(i:Int)(t:Tok)(s:Shared)(Q:Value->Shared->Prop)(E:Value->Shared->Prop),Q (.int (g i) s.toks) {s with toks:=s.toks+1}->wpAny (model X.prog X.w) X.A (f (.int i t)) Q E s):
  UnR X f (rU λi=>.int (g i)):=by
 intro pins s σ H x v Q I rx h;obtain⟨i,rfl,q⟩:=h;obtain⟨t,rfl⟩:=rx;exact rule i t s _ _ ⟨.int _,H,I.tok _,⟨_,rfl⟩,q⟩
def vJ:UnR X (unaryOp .USub) (rU λi=>.int (-i)):=unI λa a a a a q=>neg_int q
end
section
variable {a b:Expr}{tc:TE}
def cK{Q:VK}{k k':Bool}(I:Inv X pins σ H s)(q:Q (.bl k) H)(e:k=k'):EP X pins σ Q (.bool k') s:=by
 subst e;exact⟨.bl k,H,I,rfl,q⟩
def HH:OpR X (compareOp .Lt) (rI0 λi j=>.bl (decide (i<j))):=DS λa a a a a a a q=>lt_int q
def HI:OpR X (compareOp .LtE) (rI0 λi j=>.bl (decide (i<=j))):=DS λa a a a a a a q=>le_int q
def HJ:OpR X (compareOp .Gt) (rI0 λi j=>.bl (decide (j<i))):=DS λa a a a a a a q=>gt_int q
def tw:OpR X (compareOp .Lt) (λx y H Q=>∃i j,x=.str i/\y=.str j/\Q (.bl (decide (i.cps.toList<j.cps.toList))) H):=by
 intro pins s σ H x y v u Q I rx ry h;obtain⟨i,j,rfl,rfl,q⟩:=h;obtain⟨t,rfl⟩:=rx;obtain⟨t',rfl⟩:=ry;exact lt_str (cK I q rfl)
def tB:OpR X (compareOp .In) (λx y H Q=>∃i j,x=.str i/\y=.str j/\Q (.bl (!(Builtin.Str.occurrences j i 0 j.length 1).isEmpty)) H):=by
 intro pins s σ H x y v u Q I rx ry h;obtain⟨i,j,rfl,rfl,q⟩:=h;obtain⟨t,rfl⟩:=rx;obtain⟨t',rfl⟩:=ry;exact in_str (cK I q rfl)
def zL:OpR X (compareOp .IsNot) (λx y H Q=>y=.non/\Q (.bl (!decide (x=.non))) H):=by
 intro pins s σ H x y v u Q I rx ry h;obtain⟨rfl,q⟩:=h;cases ry;refine isnot_none_gen (cK I q ?_);cases x<;>first
  |rfl
  |(obtain⟨t,rfl⟩:=rx;rfl)
def zM{op:CmpOp}{r:R2}(ho:OpR X (compareOp op) r)(ha:PE X a ta)(hb:PE X b tb)(hm:behindInMarks op b=false):PE X (.Compare a [op] [b] pos) (tOp r ta tb):=λpins s σ H Q I h=>wpAny_Compare1 (DR ha hb I h λv u s2 x y H2 I2 rx ry q=>ho _ s2 σ H2 x y v u Q I2 rx ry q) hm
noncomputable def CC(t:TE):TT:=λσ H Q=>t σ H λx H'=>∃k,x=.bl k/\Q k H'
def iy{op:CmpOp}{r:R2}(ho:OpR X (compareOp op) r)(ha:PE X a ta)(hb:PE X b tb)(hm:behindInMarks op b=false):PT X (.Compare a [op] [b] pos) (CC (tOp r ta tb)):=by
 intro pins s σ H Q I h;refine wpAny_isTrue_Compare1 (thn (ha pins s σ H _ I h) λv s1 ⟨x,H1,I1,r1,q1⟩=>thn (hb pins s1 σ H1 _ I1 q1) λu s2 ⟨y,H2,I2,r2,q2⟩=>
  thn (ho pins s2 σ H2 x y v u _ I2 r1 r2 q2) ?_) hm;rintro c s3 ⟨z,H3,I3,r3,k,e,q3⟩
 subst e;cases r3;exact wpAny_truthy_bool ⟨H3,I3,q3⟩
noncomputable def pD(r r':R2)(ta tb tc:TE):TE:=λσ H Q=>ta σ H λx H1=>tb σ H1 λy H2=>r x y H2 λz H3=>∃k,z=.bl k/\
 (if k=true then tc σ H3 λw' H4=>r' y w' H4 Q else Q (.bl false) H3)
def vK{op op':CmpOp}{r r':R2}(ho:OpR X (compareOp op) r)(ho':OpR X (compareOp op') r')(ha:PE X a ta)(hb:PE X b tb)(hc:PE X c tc)
  (hm:lastMarks [op,op'] [b,c]=false:=by with_unfolding_all rfl):PE X (.Compare a [op,op'] [b,c] pos) (pD r r' ta tb tc):=by
 intro pins s σ H Q I h;refine Compare_chain (thn (ha _ s σ H _ I h) λv s1 ⟨x,H1,I1,r1,q1⟩=>chain_link (thn (hb _ s1 σ H1 _ I1 q1) λu s2 ⟨y,H2,I2,r2,q2⟩=>
  thn (ho _ s2 σ H2 x y v u _ I2 r1 r2 q2) λd s3 ⟨z,H3,I3,r3,k,e,q3⟩=>?_)) hm
 subst e;cases r3;refine wpAny_truthy_bool ?_;cases k with
 |false=>exact ite_ff ⟨.bl _,H3,I3,rfl,q3⟩
 |true=>exact ite_tt (chain_last (thn (hc _ s3 σ H3 _ I3 q3) λw' s4 ⟨z',H4,I4,r4,q4⟩=>ho' _ s4 σ H4 y z' u w' Q I4 r2 r4 q4))
def vL{op op':CmpOp}{r r':R2}(ho:OpR X (compareOp op) r)(ho':OpR X (compareOp op') r')(ha:PE X a ta)(hb:PE X b tb)(hc:PE X c tc)
  (hm:lastMarks [op,op'] [b,c]=false:=by with_unfolding_all rfl):PT X (.Compare a [op,op'] [b,c] pos) (CC (pD r r' ta tb tc)):=by
 intro pins s σ H Q I h;refine isTrue_chain (thn (ha pins s σ H _ I h) λv s1 ⟨x,H1,I1,r1,q1⟩=>test_link (thn (hb pins s1 σ H1 _ I1 q1) λu s2 ⟨y,H2,I2,r2,q2⟩=>
  thn (ho pins s2 σ H2 x y v u _ I2 r1 r2 q2) ?_)) hm;rintro d s3 ⟨z,H3,I3,r3,k,e,q3⟩
 subst e;cases r3;refine wpAny_truthy_bool ?_;cases k with
 |false=>
  obtain⟨k',e',q'⟩:=q3;cases e';exact ite_ff ⟨H3,I3,q'⟩
 |true=>
  refine ite_tt (test_last (thn (hc pins s3 σ H3 _ I3 q3) λw' s4 ⟨z',H4,I4,r4,q4⟩=>thn (ho' pins s4 σ H4 y z' u w' _ I4 r2 r4 q4) λd' s5 ⟨z2,H5,I5,r5,k2,e2,q5⟩=>?_));subst e2;cases r5;exact wpAny_truthy_bool ⟨H5,I5,q5⟩
def DV(K:fg0)(x:V)(H:Hp)(k:Bool):Prop:=
 match x with
 |.non=>k=false
 |.bl b=>k=b
 |.int i=>k=(i != 0)
 |.str y=>y.length<=sizeLine/\k=((y.length:Int) != 0)
 |.byt y=>y.size<=sizeLine/\k=((y.size:Int) != 0)
 |.ref p=>(∃xs,SqL K H p xs/\k=!xs.isEmpty)\/(∃xs,SqT K H p xs/\k=!xs.isEmpty)\/∃kvs,H p=some (.dK kvs)/\k=!kvs.isEmpty
 |_=>False
def pE{O:Type}{kvs:List (O×V)}{vs:List (O×Value)}(r:KV kvs vs):(!vs.isEmpty)=!kvs.isEmpty:=by
 cases r<;>rfl
def iQ{its:List Value}(r:Vals xs its):(!its.toArray.isEmpty)=!xs.isEmpty:=by
 cases r<;>simp
def gr:(sizeLine:Nat)<2 ^ 63:=by decide
def DW:KJ X (λx H Q=>∃k,DV X.K x H k/\Q k H):=by
 intro pins s σ H x v Q I rx h;obtain⟨k,e,q⟩:=h;have hl:=gr;have hs:sizeLine=16777216:=sizeLine_eq;cases x with
 |non=>
  cases rx;have e':k=false:=e;subst e';exact truthy_none ⟨H,I,q⟩
 |bl b=>
  cases rx;have e':k=b:=e;subst e';exact wpAny_truthy_bool ⟨H,I,q⟩
 |int i=>
  obtain⟨t,rfl⟩:=rx;have e':k=(i != 0):=e;subst e';exact PySem.P.truthy_int ⟨H,I,q⟩
 |str y=>
  obtain⟨t,rfl⟩:=rx;obtain⟨hy,e'⟩:y.length<=sizeLine/\k=((y.length:Int) != 0):=e;subst e';exact PySem.P.truthy_str (by grind) ⟨H,I.tok _,q⟩
 |byt y=>
  obtain⟨t,rfl⟩:=rx;obtain⟨hy,e'⟩:y.size<=sizeLine/\k=((y.size:Int) != 0):=e;subst e';exact PySem.W.truthy_bytes (by omega) ⟨H,I.tok _,q⟩
 |ref p=>
  cases rx;have e':(∃xs,SqL X.K H p xs/\k=!xs.isEmpty)\/(∃xs,SqT X.K H p xs/\k=!xs.isEmpty)\/∃kvs,H p=some (.dK kvs)/\k=!kvs.isEmpty:=e;rcases e' with⟨xs,hx,e'⟩|⟨xs,hx,e'⟩|⟨kvs,hx,e'⟩
  .subst e'
   obtain⟨its,r,pl,hz⟩:=I.list hx;have hlen:=r.length;exact wpAny_truthy_list pl.isList (by simp only[ls0];omega) ⟨H,I.tok _,by rw[iQ r];exact q⟩
  .subst e'
   obtain⟨its,r,pl,hz⟩:=I.tuple hx;have hlen:=r.length;exact truthy_tuple pl (by simp only[ls0];omega) ⟨H,I.tok _,by rw[iQ r];exact q⟩
  .subst e'
   obtain⟨hz,hS,vs,r,m⟩:kvs.length<=sizeLine/\(p==sysModules)=false/\∃vs,KV kvs vs/\s.heap.DictOf (aC X.prog X.w) p vs:=I.hok p _ hx;have hlen:kvs.length=vs.length:=Paired.length r;exact wpAny_truthy_dict hS m (by omega) ⟨H,I.tok _,by rw[pE r];exact q⟩
 |_=>exact (show False from e).elim
def vN(ha:PE X a ta)(he:∀whole,isTrue a X.env whole=(do let v ←whole;standAt a.pos;holding [v] (truthy v))):
  PT X a (λσ H Q=>ta σ H λx H'=>∃k,DV X.K x H' k/\Q k H'):=λpins s σ H Q I h=>isTrue_plain (thn (ha _ s σ H _ I h) λv s1 ⟨x,H1,I1,r1,q1⟩=>DW _ s1 σ H1 x v Q I1 r1 q1) (he _)
def op_add_str:OpR X (binaryOp .Add) (λx y H Q=>∃i j,x=.str i/\y=.str j/\i.length+j.length<=sizeLine/\Q (.str (i++j)) H):=by
 intro pins s σ H x y v u Q I rx ry h;obtain⟨i,j,rfl,rfl,hz,q⟩:=h;obtain⟨t,rfl⟩:=rx;obtain⟨t',rfl⟩:=ry;exact add_str (λt' tk=>⟨.str _,H,I.tok _,⟨_,rfl⟩,q⟩) hz
def vals1{x:V}(r:Vals [x] us):∃u,us=[u]/\RelV x u:=by
 cases r with
 |cons r1 r2=>cases r2;exact⟨_,rfl,r1⟩
def vals2{x y:V}(r:Vals [x,y] us):∃u w',us=[u,w']/\RelV x u/\RelV y w':=by
 cases r with
 |cons r1 r2=>
  cases r2 with
  |cons r3 r4=>cases r4;exact⟨_,_,rfl,r1,r3⟩
def jR:aW X (.type "int") (λxs H Q=>(∃i,xs=[.int i]/\Q (.int i) H)\/∃k,xs=[.bl k]/\Q (.int (if k then 1 else 0)) H):=by
 intro pins s σ H xs us Q I r h;rcases h with⟨i,rfl,q⟩|⟨k,rfl,q⟩
 .obtain⟨u,rfl,t,rfl⟩:=vals1 r
  exact call_int_int ⟨.int i,H,I,⟨_,rfl⟩,q⟩
 .obtain⟨u,rfl,r1⟩:=vals1 r
  cases r1;exact call_int_bool ⟨.int _,H,I.tok _,⟨_,rfl⟩,q⟩
def lu:aW X (.type "str") (λxs H Q=>∃i,xs=[.int i]/\i.natAbs.log2<1920/\Q (.str (toString i)) H):=by
 intro pins s σ H xs us Q I r h;obtain⟨i,rfl,hz,q⟩:=h;obtain⟨u,rfl,t,rfl⟩:=vals1 r;exact PySem.P.str_of_int hz ⟨.str _,H,I.tok _,⟨_,rfl⟩,q⟩
def KM(K:fg0)(x:V)(H:Hp)(n:Nat):Prop:=
 match x with
 |.str y=>y.length<=sizeLine/\n=y.length
 |.byt y=>y.size<=sizeLine/\n=y.size
 |.ref p=>(∃xs,SqL K H p xs/\n=xs.length)\/∃xs,SqT K H p xs/\n=xs.length
 |_=>False
def fw:aW X (.builtin "len") (λxs H Q=>∃x n,xs=[x]/\KM X.K x H n/\Q (.int n) H):=by
 intro pins s σ H xs us Q I r h;obtain⟨x,n,rfl,e,q⟩:=h;obtain⟨u,rfl,rx⟩:=vals1 r;have hs:=sizeLine_eq;cases x with
 |str y=>
  obtain⟨t,rfl⟩:=rx;obtain⟨hy,e'⟩:y.length<=sizeLine/\n=y.length:=e;subst e';exact len_str (by omega) ⟨.int _,H,I.tok _,⟨_,rfl⟩,q⟩
 |byt y=>
  obtain⟨t,rfl⟩:=rx;obtain⟨hy,e'⟩:y.size<=sizeLine/\n=y.size:=e;subst e';exact PySem.W.len_bytes (by omega) ⟨.int _,H,I.tok _,⟨_,rfl⟩,q⟩
 |ref p=>
  cases rx;have e':=e;rcases e' with⟨xs,hx,e'⟩|⟨xs,hx,e'⟩
  .subst e'
   obtain⟨its,r',pl,hz⟩:=I.list hx;have hlen:=r'.length;exact Calls.call_len_list pl.isList (by simp only[ls0];omega) ⟨.int xs.length,H,I.tok _,⟨_,by simp only[ls0];rw[hlen]⟩,q⟩
  .subst e'
   obtain⟨its,r',pl,hz⟩:=I.tuple hx;have hlen:=r'.length;exact len_tuple pl (by simp only[ls0];omega) ⟨.int xs.length,H,I.tok _,⟨_,by simp only[ls0];rw[hlen]⟩,q⟩
 |_=>exact (e).elim
end
structure ObjM(h:Heap)(x dx C:Addr)(mA:Str->Option Value):Prop where
 obj:h.get? x=some (PySem.W.instObj C dx)
 ns:h.Ns1 dx mA
 ne:dx≠x
set_option tactic.hygienic true in
def tD(n:h.Ns1 dx mA):∃od,h.get? dx=some od/\∀name,PySem.W.lookIn name od=some (mA name):=by
 obtain⟨o,es,ep,ho,hd,hk,_,hm⟩:=n;refine⟨o,ho,λname=>?_⟩;have e:=hm name;unfold nsFind findBy at e;rw[<-Array.find?_toList]at e;unfold PySem.W.lookIn;rw[hd];dsimp only;split
 .rename_i y q
  rw[q]at e;exact congrArg some e
 .rename_i q
  rw[q]at e;have a:es.toList.any (·.refKey)=false:=by
   rw[List.any_eq_false];intro y hy;obtain⟨z,t,hkey⟩:=hk y (Array.mem_toList_iff.mp hy);simp[DictEntry.refKey,hkey]
  have a':¬ es.toList.any (·.refKey)=true:=by rw[a];exact fx0
  rw[if_neg a'];exact congrArg some e
def ObjM.look{x:Addr}(I:ObjM h x dx C mA):∃od,PySem.W.InstAt h x (PySem.W.instObj C dx) C (some od)/\∀name,PySem.W.lookIn name od=some (mA name):=
 let ⟨od,ho,hl⟩:=tD I.ns
 ⟨od,⟨I.obj,rfl,rfl,ho⟩,hl⟩
section
variable {K:fg0}{x:Addr}{name:Str}
def get_map{expr:Bool}(X:K.In s.heap)(I:ObjM s.heap x dx C mA)(hg:PySem.W.plainGet K C name=true)(hh:PySem.W.hasDictIn K C=true)
  (ha:PySem.W.findIn K (.ref C) name=some none) (hv:mA name=some v) (hv':PySem.W.handedIn v=true) (h:Q v {s with toks:=s.toks+1}):
  wpAny (model prog w) A (getAttr (.ref x) name expr) Q E s:=by
 obtain⟨od,J,hl⟩:=I.look;exact PySem.W.get_value X J (PySem.W.plainGet_of hg).1 (PySem.W.findObj_own hh ha rfl (by rw[hl,hv])) hv' h
def vO{pl:Sem Bool}{Q:Value×List Value->Shared->Prop}(X:K.In s.heap)(I:ObjM s.heap x dx C mA)(hg:PySem.W.plainGet K C name=true)
  (hf:PySem.W.findIn K (.ref C) name=some (some (.ref f))) (ht:PySem.W.isFn K (.ref f)=true) (hv:mA name=none) (h:Q (.ref f,[.ref x]) s):
  wpAny (model prog w) A (getMethod (.ref x) name pl) Q E s:=by
 obtain⟨od,J,hl⟩:=I.look;exact PySem.W.method_fn X J (PySem.W.plainGet_of hg).1 (PySem.W.plainGet_of hg).2 hf (beq_iff_eq.mp ht) (by show (PySem.W.lookIn _ od).map _=some _;simp_all) h
def zN{ns:List Str}{Q:Unit->Shared->Prop}(X:K.In s.heap)(I:ObjM s.heap x dx C mA)
  (hs:PySem.W.findIn K (.ref C) "__setattr__"=some (some (.builtin "object.__setattr__"))) (hp:PySem.W.plainOver K C=true) (ht:PySem.W.takerIn K C name=some none) (hh:PySem.W.hasDictIn K C=true)
  (hw:PySem.Within mA ns) (hsz:ns.length<=sizeLine)
  (h:∀h',ObjM h' x dx C (λy=>if y=name then some v else mA y)->Heap.SameBut dx s.heap h'->Q () {s with heap:=h',toks:=s.toks+2}):
  wpAny (model prog w) A (setAttr (.ref x) name v) Q E s:=by
 obtain⟨od,J,hl⟩:=I.look;refine PySem.W.set_plain X J hs (PySem.W.osa_open (s:={s with toks:=s.toks+1}) (r:=none) X J hp ht λb=>?_);obtain⟨cd,hc,hd'⟩:=PySem.W.any_some hh;have hx:=I.obj;refine wb0 (wq0 (wb0 (wb0 (wpAny_loadPart hx (wb0 (PySem.W.Looks.here (PySem.W.looks_clsIn X hc) ?_))))));rw[hd'];refine wq0 (a:=some dx) (wb0 (wq0 (wb0 ?_)));refine wpAny_nsSet1 I.ns λh' hn2 hs2=>?_
 obtain⟨oD,esD,epD,hoD,hdD,hcD⟩:=hn2.count (PySem.Within.cons name v hw);refine wb0 (wpAny_lookBehind hoD (by rw[hdD];exact pastItsLine_dict (nt0 hcD (by rw[lc0];omega))) ?_);exact wq0 (h _ ⟨(hs2.2 _ (Ne.symm I.ne)).trans I.obj,hn2,I.ne⟩ hs2)
def vP{R:Result->Shared->Prop}{vs:List Value}{kw:List (Str×Value)}(X:K.In s.heap)(hm:PySem.W.makesIn K C=true)
  (hi:PySem.W.findIn K (.ref C) "__init__"=some (some (.ref f))) (hf:PySem.W.typeIn K (.ref f)=some (.type "function"))
  (h:codeAny (model prog w) (A.under (.builtin "type.__call__" ⟨.ref C::vs,kw⟩)) (.call (.ref f) ⟨.ref (s.heap.objs.size+1)::vs,kw⟩) (PySem.W.InitBack (s.heap.objs.size+1) R)
   {s with heap:=(s.heap.push PySem.W.emptyDict).push (PySem.W.instObj C s.heap.objs.size)}):
  codeAny (model prog w) A (.call (.ref C) ⟨vs,kw⟩) R s:=PySem.W.make_core (PySem.W.makes_of X hm) (PySem.W.looks_findIn X hi) (λself=>PySem.W.bind_fn X _ hf) (.inl rfl) h
end
noncomputable def eV(f:Str)(v:V):List (Str×V)->List (Str×V)
 |[]=>[(f,v)]
 |(g,x)::r=>if g=f then (g,v)::r else (g,x)::eV f v r
theorem gZ(f g:Str)(v:V):∀fs:List (Str×V),(eV f v fs).lookup g=if g=f then some v else fs.lookup g
 |[]=>by
  show List.lookup g [(f,v)]=_
  by_cases h:g=f
  .simp_all
  .have hb:=bn0 h
   simp only[List.lookup,hb,if_neg h]
 |(k,x)::r=>by
  have ih:=gZ f g v r;rw[show eV f v ((k,x)::r)=(if k=f then (k,v)::r else (k,x)::eV f v r)from rfl]
  by_cases hk:k=f
  .rw[if_pos hk]
   by_cases h:g=k
   .simp_all
   .have hb:=bn0 h
    simp only[List.lookup,hb,if_neg (λe:g=f=>h (e.trans hk.symm))]
  .rw[if_neg hk]
   by_cases h:g=k
   .simp_all
   .have hb:=bn0 h
    simp only[List.lookup,hb];exact ih
theorem gu(f:Str)(v:V):∀fs:List (Str×V),f∈(eV f v fs).map (·.1)/\∀g,g∈fs.map (·.1)->g∈(eV f v fs).map (·.1)
 |[]=>⟨by simp[eV],λg h=>by simp at h⟩
 |(k,x)::r=>by
  obtain⟨i1,i2⟩:=gu f v r;rw[show eV f v ((k,x)::r)=(if k=f then (k,v)::r else (k,x)::eV f v r)from rfl]
  by_cases hk:k=f
  .rw[if_pos hk]
   subst hk;exact⟨by simp,λg h=>by simpa using h⟩
  .rw[if_neg hk]
   refine⟨?_,λg h=>?_⟩
   .rw[mk0]
    exact mc0 _ i1
   .rw[mk0]at h ⊢
    rcases mq0 h with e|e
    .exact List.mem_cons.mpr (.inl e)
    .exact mc0 _ (i2 g e)
theorem hV(f:Str)(v:V):∀fs:List (Str×V),(eV f v fs).length<=fs.length+1
 |[]=>by simp[eV]
 |(k,x)::r=>by
  have ih:=hV f v r;rw[show eV f v _=(if k=f then (k,v)::r else (k,x)::eV f v r)from rfl]
  grind
def RelO.some_of{v:V}(r:RelO (some v) o):∃u,o=some u/\RelV v u:=by
 cases o with
 |none=>exact (r).elim
 |some u=>exact⟨u,rfl,r⟩
def RelO.none_of(r:RelO none o):o=none:=by
 cases o with
 |none=>rfl
 |some u=>exact (r).elim
def tE{v:V}(r:RelV v u):PySem.W.handedIn u=true:=by
 cases v with
 |non=>cases (r);rfl
 |bl b=>cases (r);rfl
 |int i=>obtain⟨t,e⟩:=(r);cases e;rfl
 |str x=>obtain⟨t,e⟩:=(r);cases e;rfl
 |byt b=>obtain⟨t,e⟩:=(r);cases e;rfl
 |flt b=>obtain⟨t,e⟩:=(r);cases e;rfl
 |ref a=>cases (r);rfl
 |ty n=>cases (r);rfl
section
variable {fs fs':List (Str×V)}
def iz(hok:HOk P w H h)(e:H a=some (.ins C dx fs)):∃mA,ObjM h a dx C mA/\(∀f,RelO (fs.lookup f) (mA f))/\PySem.Within mA (fs.map (·.1))/\fs.length<=1000/\H dx=some (.own a):=by
 obtain⟨d,z,ne,ob,mA,n,r,q⟩:=(hok a _ e);exact⟨mA,⟨ob,n,ne⟩,r,q,z,d⟩
end
structure Cls(K:fg0)(C:Addr):Prop where
 pg:PySem.W.plainGet K C Str.empty=true
 hd:PySem.W.hasDictIn K C=true
 po:PySem.W.plainOver K C=true
 sa:PySem.W.findIn K (.ref C) "__setattr__"=some (some (.builtin "object.__setattr__"))
def Cls.get{K:fg0}(c:Cls K C)(f:Str):PySem.W.plainGet K C f=true:=c.pg
def NoAttr(K:fg0)(C:Addr)(f:Str):Prop:=PySem.W.findIn K (.ref C) f=some none
def NoAttr.taker{K:fg0}{f:Str}(n:NoAttr K C f):PySem.W.takerIn K C f=some none:=by
 unfold PySem.W.takerIn;rw[n];rfl
structure iR(K:fg0)(C:Addr)(m:Str)(f:Addr):Prop where
 at_:PySem.W.findIn K (.ref C) m=some (some (.ref f))
 fn:PySem.W.isFn K (.ref f)=true
 kp:PySem.W.keepIn K (.ref f)=true
section
variable {fs:List (Str×V)}{f:Str}{v:V}
def pF{b:Bool}(I:Inv X pins σ H s)(e:H a=some (.ins C dx fs))(c:Cls X.K C)(n:NoAttr X.K C f)(l:fs.lookup f=some v)
  (h:∀u s',Inv X pins σ H s'->RelV v u->Q u s'):wpAny (model X.prog X.w) A (getAttr (.ref a) f b) Q E s:=by
 obtain⟨mA,O,r,_,_,_⟩:=iz I.hok e;obtain⟨u,hu,ru⟩:=RelO.some_of (by rw[<-l];exact r f);exact get_map I.kIn O (c.get f) c.hd n hu (tE ru) (h u _ (I.tok _) ru)
def dg{g:Addr}{pl:Sem Bool}{Q:Value×List Value->Shared->Prop}(I:Inv X pins σ H s)(e:H a=some (.ins C dx fs))(c:Cls X.K C)(k:iR X.K C m g)(l:fs.lookup m=none)
  (h:Q (.ref g,[.ref a]) s):wpAny (model X.prog X.w) A (getMethod (.ref a) m pl) Q E s:=by
 obtain⟨mA,O,r,_,_,_⟩:=iz I.hok e;exact vO I.kIn O (c.get m) k.at_ k.fn (RelO.none_of (by rw[<-l];exact r m)) h
def pH{y:V}{Q:Unit->Shared->Prop}(I:Inv X pins σ H s)(e:H a=some (.ins C dx fs))(c:Cls X.K C)(n:NoAttr X.K C f)(hl:fs.length<1000)(ry:RelV y u)
  (h:∀s',Inv X pins σ (upd H a (.ins C dx (eV f y fs))) s'->Q () s'):wpAny (model X.prog X.w) A (setAttr (.ref a) f u) Q E s:=by
 obtain⟨mA,O,r,wi,_,ho⟩:=iz I.hok e;have hz:(fs.map (·.1)).length<=sizeLine:=by rw[lm0,sizeLine_eq];omega
 refine zN I.kIn O c.sa c.po n.taker c.hd wi hz λh' O' sb=>h _ ?_
 have hd:∃o,h'.get? dx=some o:=let ⟨o,_,_,e',_⟩:=O'.ns;⟨o,e'⟩
 refine I.write (x:=a) (e:=dx) (by rw[e];exact True.intro) (.inr ho) (λb q hb z=>(sb.2 b hb).trans z) hd ?_;refine⟨by rw[aa O.ne];exact ho,?_,O.ne,O'.obj,_,O'.ns,λg=>?_,λg hg=>?_⟩
 .have:=hV f y fs;omega
 .rw[gZ]
  by_cases q:g=f
  .rw[if_pos q,if_pos q];exact ry
  .rw[if_neg q,if_neg q];exact r g
 .by_cases q:g=f
  .rw[q];exact (gu f y fs).1
  .refine (gu f y fs).2 g (wi g λz=>hg ?_)
   simp_all
def Inv.made(I:Inv X pins σ H s):Inv X pins σ (upd (upd H s.heap.objs.size (.own (s.heap.objs.size+1))) (s.heap.objs.size+1) (.ins C s.heap.objs.size []))
  {s with heap:=(s.heap.push PySem.W.emptyDict).push (PySem.W.instObj C s.heap.objs.size)}:=by
 have e1:(s.heap.push PySem.W.emptyDict).get? _=some _:=pz0 _ rfl;have e2:=by
  have:=pz0 (s.heap.push PySem.W.emptyDict) (o:=PySem.W.instObj C s.heap.objs.size) rfl
  rwa [Heap.size_push]at this
 have e3:(s.heap.push _).Ns _ _:=⟨_,_,_,e1,rfl,(λe he=>absurd he (by simp)),λa=>rfl⟩;refine (I.laid (o:=.own _) (t':=s.toks) (λb u q=>ps0 _ q) (nr0 _) ⟨_,e1⟩).laid (λb u q=>ps0 _ q) (Nat.le_of_eq (Heap.size_push _ _)) ?_;have ne:s.heap.objs.size≠s.heap.objs.size+1:=nn0 (Nat.lt_succ_self _);refine⟨by rw[aa ne,upd_same],Nat.zero_le _,ne,e2,_,(Heap.Ns1.of_empty e3).at λo q=>ps0 _ q,λa=>True.intro,λy hy=>absurd rfl hy⟩
def attr_of{env:Env}{f:Str}(hb:attributeBase e f env (eval e env)=eval e env)
  (h:wpAny (model prog w) A (eval e env) (λo s₁=>wpAny (model prog w) A (getAttr o f true) Q E s₁) E s):wpAny (model prog w) A (eval (.Attribute e f pos) env) Q E s:=
 Attribute_any_ h (by rw[arm_eval_Attribute,hb])
end
noncomputable def KN(K:fg0)(ta:TE)(f:Str):TE:=λσ H Q=>ta σ H λx H1=>∃a C dx fs v,x=.ref a/\H1 a=some (.ins C dx fs)/\Cls K C/\NoAttr K C f/\fs.lookup f=some v/\Q v H1
noncomputable def KO(K:fg0)(ta tv:TE)(f:Str):TS:=λD σ H=>tv σ H λy H1=>ta σ H1 λx H2=>∃a C dx fs,x=.ref a/\H2 a=some (.ins C dx fs)/\Cls K C/\NoAttr K C f/\fs.length<1000/\
 D.nx σ (upd H2 a (.ins C dx (eV f y fs)))
section
variable {o value:Expr}{f:Str}{pos' tpos:Pos}{tv:TE}
def pI(he:PE X e ta)(hb:attributeBase e f X.env (eval e X.env)=eval e X.env):PE X (.Attribute e f pos) (KN X.K ta f):=by
 intro pins s σ H Q I h;refine attr_of hb (thn (he pins s σ H _ I h) ?_);rintro u s1 ⟨x,H1,I1,rx,a,C,dx,fs,v,ex,ea,c,n,l,q⟩;subst ex;obtain rfl:u=Value.ref a:=rx;exact pF I1 ea c n l λu' s2 I2 ru=>⟨v,H1,I2,ru,q⟩
def vQ(ha:PE X o ta)(hv:PE X value tv)(hs:swapsWith value (some (.Attribute o f pos')) pos.line X.env=pure false):PS X (.Assign [.Attribute o f pos'] value pos) (KO X.K ta tv f):=by
 intro pins s σ H D I h;refine plainObj_wpAny_Assign_Attribute (thn (hv pins s σ H _ I h) λu s1 ⟨y,H1,I1,ry,q⟩=>thn (ha pins s1 σ H1 _ I1 q) ?_) hs;rintro ov s2 ⟨x,H2,I2,rx,a,C,dx,fs,ex,ea,c,n,l,q2⟩;subst ex;obtain rfl:ov=Value.ref a:=rx;exact pH I2 ea c n l ry λs3 I3=>⟨σ,_,I3,q2⟩
def CD{pl:Sem Bool}{args:List Expr}(he:PE X e te)(I:Inv X pins σ H s)
  (h:te σ H λx H1=>∃a C dx fs g,x=.ref a/\H1 a=some (.ins C dx fs)/\Cls X.K C/\iR X.K C m g/\fs.lookup m=none/\
   ∀s1,Inv X pins σ H1 s1->wpAny (model X.prog X.w) X.A (callWith pos (.ref g) [.ref a] (backTo pos (starEach args X.env)) (backToKw pos (keywordEach [] X.env))) Q X.xe s1)
  (ht:eval (.Call (.Attribute e m apos) args [] pos) X.env=(do
   let ov ←eval e X.env
   standAt apos.atName
   let (f,first) ←holding [ov] (getMethod ov m pl)
   callWith pos f first (backTo pos (starEach args X.env)) (backToKw pos (keywordEach [] X.env)))):
  wpAny (model X.prog X.w) X.A (eval (.Call (.Attribute e m apos) args [] pos) X.env) Q X.xe s:=by
 refine PySem.W.methodCall_KW (pl:=pl) (thn (he pins s σ H _ I h) ?_) ht;rintro u s1 ⟨x,H1,I1,rx,a,C,dx,fs,g,ex,ea,c,k,l,q⟩;subst ex;obtain rfl:u=Value.ref a:=rx;exact dg I1 ea c k l (q s1 I1)
end
section
variable {c:Value}{b:Bool}
inductive fx (K:fg0)(H:Hp):V->Value->Prop where
 |non:fx K H .non (.type "NoneType")
 |bl (x:Bool):fx K H (.bl x) (.type "bool")
 |int (i:Int):fx K H (.int i) (.type "int")
 |str (x:Str):fx K H (.str x) (.type "str")
 |flt (x:UInt64):fx K H (.flt x) (.type "float")
 |lst {a:Addr}{xs:List V} (e:H a=some (.lst xs)):fx K H (.ref a) (.type "list")
 |frz {a:Addr}{o:Obj}{xs:List V} (e:H a=some (.frz o (.lst xs))):fx K H (.ref a) (.type "list")
 |tup {a:Addr}{xs:List V} (e:H a=some (.tup xs)):fx K H (.ref a) (.type "tuple")
 |dK {a:Addr}{kvs:List (Key×V)} (e:H a=some (.dK kvs)):fx K H (.ref a) (.type "dict")
 |dT {a:Addr}{kvs:List (List Key×V)} (e:H a=some (.dT kvs)):fx K H (.ref a) (.type "dict")
 |ins {a C dx:Addr}{fs:List (Str×V)} (e:H a=some (.ins C dx fs)) (cl:Cls K C) (ha:PySem.W.findIn K (.ref C) "__class__"=some (some (.builtin "object.__class__")))
   (hn:PySem.W.specialIn K (.builtin "object.__class__") "__get__"=some (some (.builtin "getset_descriptor.__get__"))) (htk:PySem.W.takesIn K (.builtin "object.__class__")=some true)
   (hm:PySem.W.mroIn K C (.type "object")=some true):fx K H (.ref a) (.ref C)
def tF{x:V}{t:Value}(I:Inv X pins σ H s)(rx:RelV x u)(ty:fx X.K H x t)(e:PySem.W.kitOne X.K t c=some b)(h:∀tk,Q (.bool b) {s with toks:=tk}):
  wpAny (model X.prog X.w) A (call (.builtin "isinstance") [u,c]) Q E s:=by
 cases ty with
 |non=>cases (show u=Value.none from rx);exact PySem.W.kia_one PySem.W.kitx_none I.kIn True.intro e (λz=>nomatch z) h
 |bl y=>cases (show u=Value.bool y from rx);exact PySem.W.kia_one PySem.W.kitx_bool I.kIn True.intro e (λz=>nomatch z) h
 |int i=>obtain⟨t,q⟩:=(show ∃t,u=Value.int i t from rx);cases q;exact PySem.W.kia_one PySem.W.kitx_int I.kIn True.intro e (λz=>nomatch z) h
 |str y=>obtain⟨t,q⟩:=(show ∃t,u=Value.str y t from rx);cases q;exact PySem.W.kia_one PySem.W.kitx_str I.kIn True.intro e (λz=>nomatch z) h
 |flt y=>obtain⟨t,q⟩:=(show ∃t,u=Value.float y t from rx);cases q;exact PySem.W.kia_one PySem.W.kitx_float I.kIn True.intro e (λz=>nomatch z) h
 |@lst a xs ea=>
  cases (show u=Value.ref a from rx);obtain⟨_,_,n,_,h1⟩:=(show ObjOk X.prog X.w H s.heap a (.lst xs)from I.hok a _ ea);exact PySem.W.kia_one PySem.W.kitx_list I.kIn ⟨_,h1,rfl⟩ e (λz=>nomatch z) h
 |@frz a ob xs ea=>
  cases (show u=Value.ref a from rx);obtain⟨_,_,_,n,_,h1⟩:=(show ObjOk X.prog X.w H s.heap a (.frz ob (.lst xs))from I.hok a _ ea);exact PySem.W.kia_one PySem.W.kitx_list I.kIn ⟨_,h1,rfl⟩ e (λz=>nomatch z) h
 |@tup a xs ea=>
  cases (show u=Value.ref a from rx);obtain⟨_,_,_,p⟩:=(show ObjOk X.prog X.w H s.heap a (.tup xs)from I.hok a _ ea);obtain⟨o,h1,h2,_⟩:=p;exact PySem.W.kia_one PySem.W.kitx_tuple I.kIn ⟨o,h1,h2⟩ e (λz=>nomatch z) h
 |@dK a kvs ea=>
  cases (show u=Value.ref a from rx);obtain⟨_,_,vs,_,p⟩:=(show ObjOk X.prog X.w H s.heap a (.dK kvs)from I.hok a _ ea);obtain⟨o,es,ep,h1,h2,_⟩:=p;exact PySem.W.kia_one PySem.W.kitx_dict I.kIn ⟨o,h1,h2.1⟩ e (λz=>nomatch z) h
 |@dT a kvs ea=>
  cases (show u=Value.ref a from rx);obtain⟨_,_,xs,_,o,es,ep,h1,h2,_⟩:=(show ObjOk X.prog X.w H s.heap a (.dT kvs)from I.hok a _ ea);exact PySem.W.kia_one PySem.W.kitx_dict I.kIn ⟨o,h1,h2.1⟩ e (λz=>nomatch z) h
 |@ins a C dx fs ea cl ha hn htk hm=>
  cases (show u=Value.ref a from rx);obtain⟨mA,O,_⟩:=iz I.hok ea;obtain⟨od,J,_⟩:=O.look;exact PySem.W.kia_one (PySem.W.kitx_own (cl.get _) cl.hd ha hn htk hm) I.kIn J e (λz=>nomatch z) h
end
structure Room(k:Nat)(A:Around):Prop where
 hd:A.handled=none
 dp:A.depth+3*k+5<recursionLimit
 un:A.units+16*k+200<cLine
def Room.mono{j:Nat}(r:Room k A)(h:j<=k):Room j A:=⟨r.hd,by have:=r.dp;grind,by have:=r.un;grind⟩
theorem Room.deeper(r:Room (k+1) A)(env:Env):Room k (A.deeper env):=
 ⟨r.hd,by have:=r.dp;show A.depth+1+3*k+5<_;grind,by have:=r.un;show A.units+3+16*k+200<_;grind⟩
def pJ{kw:List (Str×Value)}:(A.under (.builtin "type.__call__" ⟨.ref C::us,kw⟩)).depth=A.depth+1:=rfl
def pK{kw:List (Str×Value)}:(A.under (.builtin "type.__call__" ⟨.ref C::us,kw⟩)).units=A.units+1:=rfl
def Room.make(r:Room (k+1) A)(C:Addr)(us:List Value)(kw:List (Str×Value)):Room k (A.under (.builtin "type.__call__" ⟨.ref C::us,kw⟩)):=
 ⟨r.hd,by have:=r.dp;rw[pJ];grind,by have:=r.un;rw[pK];grind⟩
theorem Room.depth(r:Room k A):A.depth<recursionLimit:=by have:=r.dp;grind
theorem Room.units(r:Room k A):A.units+64<cLine:=by have:=r.un;grind
noncomputable def DX:TA:=λa H Q=>Q [] H
noncomputable def HK(ta:TE)(tr:TA):TA:=λσ H Q=>ta σ H λx H1=>tr σ H1 λxs H2=>Q (x::xs) H2
def aD:PA X [] DX:=λa a a a H Q I h=>Calls.spliced_nil ⟨[],H,I,.nil,h⟩
def ar(ha:PE X e te)(hr:PA X es t)(hs:starEach (e::es) X.env=(false,eval e X.env)::starEach es X.env:=by rfl):PA X (e::es) (HK te t):=by
 intro pos pins s σ H Q I h;rw[hs];show wpAny _ _ (spliced ((false,eval e _)::backTo _ _)) _ _ s;exact Calls.spliced_cons (thn (ha _ s σ H _ I h) λu s1 ⟨x,H1,I1,r1,q1⟩=>thn (hr _ _ s1 σ H1 _ I1 q1) λus s2 ⟨xs,H2,I2,r2,q2⟩=>⟨_,H2,I2,.cons r1 r2,q2⟩)
noncomputable def KP(t:TA):TE:=λσ H Q=>t σ H λxs H1=>xs.length<=sizeLine/\∀p,H1 p=none->Q (.ref p) (upd H1 p (.tup xs))
noncomputable def KQ(t:TA):TE:=λσ H Q=>t σ H λxs H1=>xs.length<=sizeLine/\∀p,H1 p=none->Q (.ref p) (upd H1 p (.lst xs))
def DY{x1}(h:PA X es t):PE X (.Tuple es x1 pos) (KP t):=by
 intro pins s σ H Q I hq;refine wpAny_Tuple_spliced (thn (h _ _ s σ H _ I hq) λus s1 ⟨xs,H1,I1,r,z,q⟩=>⟨by rwa [<-r.length],?_⟩);refine⟨.ref _,_,I1.laid (λb u e=>ps0 _ e) (nr0 _) ?_,rfl,q _ (I1.hok.fresh (nr0 _))⟩;exact⟨z,us,r,⟨_,pz0 _ rfl,rfl,_,rfl⟩⟩
def vR(h:PA X es t):PE X (.List es pos) (KQ t):=by
 intro pins s σ H Q I hq;refine wpAny_List_spliced (thn (h _ _ s σ H _ I hq) λus s1 ⟨xs,H1,I1,r,z,q⟩=>⟨by rwa [<-r.length],?_⟩);refine⟨.ref _,_,I1.laid (λb u e=>ps0 _ e) (nr0 _) ?_,rfl,q _ (I1.hok.fresh (nr0 _))⟩;exact⟨z,us,0,r,pz0 _ rfl⟩
noncomputable abbrev Sp:=List V->Hp->VK->XK->Prop
noncomputable abbrev CXT:=List Env->Hp->Shared->XK->Value->Shared->Prop
structure Env0(P:Program)(w:World)(K:fg0)(mg:Str->Option Value)(base:Heap)(A:Around)(outer:List Env)(s:Shared)(H:Hp):Prop where
 frames:A.frames=some outer
 mod:Mod K mg base
 bs:∀b o,base.get? b=some o->s.heap.get? b=some o/\H b=none
 bsz:base.objs.size<=s.heap.objs.size
 funs:s.heap.FunFrames base outer
 frf:∀b∈frs outer,H b=none
 hok:HOk P w H s.heap
 bare:AllBare s.gens
def CE(outer:List Env)(P:Program)(w:World)(H:Hp)(s:Shared)(Q:VK)(u:Value)(s':Shared):Prop:=
 ∃v H',s'.os=s.os/\AllBare s'.gens/\Un (frs outer) [] H H' s.heap s'.heap/\HOk P w H' s'.heap/\RelV v u/\Q v H'
def CR(CX:CXT)(outer:List Env)(P:Program)(w:World)(H:Hp)(s:Shared)(Q:VK)(E:XK)(r:Result)(s':Shared):Prop:=
 match r with
 |.ok (.ret u)=>CE outer P w H s Q u s'
 |.ok _=>False
 |.error e=>CX outer H s E e s'
structure FnOk(P:Program)(w:World)(K:fg0)(mg:Str->Option Value)(base:Heap)(CX:CXT)(k:Nat)(f:Addr)(fd:FuncData)(ps:List Str)(sp:Sp):Prop where
 len:∀vs H Q E,sp vs H Q E->vs.length=ps.length
 run:∀(A:Around)(outer:List Env)(s:Shared)(H:Hp)(args:Args)(us:List Value)(vs:List V)(Q:VK)(E:XK),Room k A->Env0 P w K mg base A outer s H->BindsTo s fd args (ps.zip us)->Vals vs us->sp vs H Q E->
  codeAny (model P w) A (.call (.ref f) args) (CR CX outer P w H s Q E) s
theorem FnOk.mono{K:fg0}{CX:CXT}{j:Nat}{sp:Sp}(F:FnOk P w K mg base CX j f fd ps sp)(h:j<=k):
  FnOk P w K mg base CX k f fd ps sp:=⟨F.len,λA outer s H args us vs Q E hr=>F.run A _ s H _ us vs Q E (hr.mono h)⟩
def Env0.make{K:fg0}{outer:List Env}(e:Env0 P w K mg base A outer s H)(C:Addr)(us:List Value)(kw:List (Str×Value)):
  Env0 P w K mg base (A.under (.builtin "type.__call__" ⟨.ref C::us,kw⟩)) outer s H:=⟨by first|exact e.frames|rfl,e.mod,e.bs,e.bsz,e.funs,e.frf,e.hok,e.bare⟩
def Inv.env0(I:Inv X pins σ H s):Env0 X.prog X.w X.K X.mg X.base X.A X.stack s H:=
 ⟨I.ok.frames,I.ok.mod,I.bs,nt0 I.ok.bsz I.sz,I.stack,I.stkFree,I.hok,I.bare⟩
def Inv.after{Q:VK}(I:Inv X pins σ H s)(h:CE X.stack X.prog X.w H s Q u s'):EP X pins σ Q u s':=by
 obtain⟨v,H',os,bare,un,hok,r,q⟩:=h;obtain⟨hh,g,d,t,os'⟩:=s';obtain rfl:os'=s.os:=os;exact⟨v,H',I.call un hok bare (λb z=>absurd z (by simp)),r,q⟩
noncomputable def HL(sp:Sp)(dvs:List V)(E:XK)(t:TA):TE:=λσ H Q=>t σ H λvs H1=>sp (vs++dvs) H1 Q E
noncomputable def CF(C:Addr)(m:Str)(sp:Sp)(dvs:List V)(E:XK)(ta:TE)(t:TA):TE:=λσ H Q=>ta σ H λx H1=>∃a dx fs,x=.ref a/\H1 a=some (.ins C dx fs)/\fs.lookup m=none/\
 t σ H1 λvs H2=>sp (x::(vs++dvs)) H2 Q E
noncomputable def HM(C:Addr)(sp:Sp)(dvs:List V)(E:XK)(t:TA):TE:=λσ H Q=>t σ H λvs H1=>∀x dx,H1 x=none->H1 dx=none->dx≠x->
 sp (.ref x::(vs++dvs)) (upd (upd H1 dx (.own x)) x (.ins C dx [])) (λv H2=>v=.non/\Q (.ref x) H2) E
def Binds(K:fg0)(fd:FuncData)(ps:List Str)(ds:List Value):Prop:=
 ∀(s:Shared)(us:List Value),K.In s.heap->(us++ds).length=ps.length->BindsTo s fd ⟨us,[]⟩ (ps.zip (us++ds))
def Binds.all{K:fg0}(h:∀us:List Value,us.length=ps.length->bindArgs fd ⟨us,[]⟩=pure (ps.zip us)):Binds K fd ps []:=λs us a hl=>by
 rw[List.append_nil]at hl ⊢;exact .of_eq (h us hl)
def eW(CX:CXT)(X:Cx)(E:XK):Prop:=∀(pins:List (Addr×Obj))(σ:St)(H:Hp)(s:Shared)(e:Value)(s':Shared),Inv X pins σ H s->CX X.stack H s E e s'->X.xe e s'
section
variable {CX:CXT}{sp:Sp}{dvs:List V}{ds:List Value}{E:XK}{o:Expr}
def pL{Q:VK}(F:FnOk X.prog X.w X.K X.mg X.base CX k f fd ps sp)(hr:Room k X.A)(hb:Binds X.K fd ps ds)(hd:Vals dvs ds)(hx:eW CX X E)
  (I:Inv X pins σ H s) (r:Vals vs us) (h:sp (vs++dvs) H Q E):wpAny (model X.prog X.w) X.A (call (.ref f) us) (EP X pins σ Q) X.xe s:=by
 have r2:=r.append hd;have hl:(us++ds).length=ps.length:=by rw[<-r2.length];exact F.len _ _ _ _ h
 refine wpAny_call (codeAny_mono (F.run _ _ s H _ _ _ Q E hr I.env0 (hb s us I.kIn hl) r2 h) λr s' hq=>?_);cases r with
 |error e=>exact hx _ σ H s e s' I hq
 |ok fl=>
  cases fl with
  |ret u=>exact I.after hq
  |next=>exact False.elim hq
  |brk=>exact False.elim hq
  |cont=>exact False.elim hq
def zO(F:FnOk X.prog X.w X.K X.mg X.base CX k f fd ps sp)(hr:Room k X.A)(hg:Gl X x)(hm:X.mg x=some (.ref f))(hk:PySem.W.keepIn X.K (.ref f)=true)(hb:Binds X.K fd ps ds)(hd:Vals dvs ds)(hx:eW CX X E)
  (ha:PA X (e::es) t) (hdb:(x==("__debug__":Str))=false:=by decide) (he:starEach (e::es) X.env=(false,eval e X.env)::starEach es X.env:=by rfl) (hpl:(backTo pos (starEach es X.env)).any (·.1)=false:=by rfl):
  PE X (.Call (.Name x p) (e::es) [] pos) (HL sp dvs E t):=λpins s σ H Q I h=>wpAny_Call_Name_kw (ef I hg hm (PySem.W.callWith_K I.ok.mod.kin hk (thn (ha _ _ s σ H _ I h) λus s1 ⟨vs,H1,I1,r,q⟩=>⟨I1.kIn,pL F hr hb hd hx I1 r q⟩) he hpl) hdb)
def zP{pl:Sem Bool}(he:PE X o ta)(c:Cls X.K C)(hm:iR X.K C m f)(F:FnOk X.prog X.w X.K X.mg X.base CX k f fd ps sp)(hr:Room k X.A)(hb:Binds X.K fd ps ds)(hd:Vals dvs ds)(hx:eW CX X E)(ha:PA X (e::es) t)
  (hst:starEach (e::es) X.env=(false,eval e X.env)::starEach es X.env:=by rfl) (hpl:(backTo pos (starEach es X.env)).any (·.1)=false:=by rfl)
  (ht:eval (.Call (.Attribute o m apos) (e::es) [] pos) X.env=(do
   let ov ←eval o X.env
   standAt apos.atName
   let (f,first) ←holding [ov] (getMethod ov m pl)
   callWith pos f first (backTo pos (starEach (e::es) X.env)) (backToKw pos (keywordEach [] X.env))):=by rfl):
  PE X (.Call (.Attribute o m apos) (e::es) [] pos) (CF C m sp dvs E ta t):=by
 intro pins s σ H Q I h;refine PySem.W.methodCall_KW (pl:=pl) (thn (he pins s σ H _ I h) λu s1 ⟨x,H1,I1,rx,a,dx,fs,ex,ea,l,q⟩=>?_) ht;subst ex;obtain rfl:u=Value.ref a:=rx;refine dg I1 ea c hm l ?_;exact PySem.W.callWith_K I.ok.mod.kin hm.kp (thn (ha pos pins s1 σ H1 _ I1 q) λus s2 ⟨vs,H2,I2,r,q2⟩=>⟨I2.kIn,pL (vs:=.ref a::vs) F hr hb hd hx I2 (.cons rfl r) q2⟩) hst hpl
def vS{pl:Sem Bool}(he:PE X o ta)(c:Cls X.K C)(hm:iR X.K C m f)(F:FnOk X.prog X.w X.K X.mg X.base CX k f fd ps sp)(hr:Room k X.A)(hb:Binds X.K fd ps ds)(hd:Vals dvs ds)(hx:eW CX X E)
  (ht:eval (.Call (.Attribute o m apos) [] [] pos) X.env=(do
   let ov ←eval o X.env
   standAt apos.atName
   let (f,first) ←holding [ov] (getMethod ov m pl)
   callWith pos f first (backTo pos (starEach [] X.env)) (backToKw pos (keywordEach [] X.env))):=by rfl):
  PE X (.Call (.Attribute o m apos) [] [] pos) (CF C m sp dvs E ta DX):=by
 intro pins s σ H Q I h;refine PySem.W.methodCall_KW (thn (he _ s σ H _ I h) λu s1 ⟨x,H1,I1,rx,a,dx,fs,ex,ea,l,q⟩=>?_) ht;subst ex;obtain rfl:u=Value.ref a:=rx;exact dg I1 ea c hm l (PySem.W.callWith_K0 I1.kIn hm.kp (pL (vs:=[.ref a]) F hr hb hd hx I1 (.cons rfl .nil) q))
structure Mk(K:fg0)(C f:Addr):Prop where
 makes:PySem.W.makesIn K C=true
 init:PySem.W.findIn K (.ref C) "__init__"=some (some (.ref f))
 fn:PySem.W.isFn K (.ref f)=true
 kp:PySem.W.keepIn K (.ref C)=true
def vT{Q:VK}(M:Mk X.K C f)(F:FnOk X.prog X.w X.K X.mg X.base CX k f fd ps sp)(hr:Room (k+1) X.A)(hb:Binds X.K fd ps ds)(hd:Vals dvs ds)
  (hx:eW CX X E) (I:Inv X pins σ H s) (r:Vals vs us)
  (h:∀x dx,H x=none->H dx=none->dx≠x->sp (.ref x::(vs++dvs)) (upd (upd H dx (.own x)) x (.ins C dx [])) (λv H2=>v=.non/\Q (.ref x) H2) E):
  wpAny (model X.prog X.w) X.A (call (.ref C) us) (EP X pins σ Q) X.xe s:=by
 have hq:=h _ s.heap.objs.size (I.hok.fresh (Nat.le_succ _)) (I.hok.fresh (nr0 _)) (nn0 (Nat.lt_succ_self _));have I2:=Inv.made (C:=C) I;have r2:Vals (V.ref (s.heap.objs.size+1)::(vs++dvs)) _:=.cons rfl (r.append hd);have hl:=by
  have e:=r2.length;rw[F.len _ _ _ _ hq]at e;exact e.symm
 refine wpAny_call (vP (f:=f) I.kIn M.makes M.init (beq_iff_eq.mp M.fn) (codeAny_mono (F.run _ X.stack _ _ _ _ _ _ E (hr.make C us [])
  (I2.env0.make C us []) (hb _ _ I2.kIn hl) r2 hq) λr s' hq'=>?_))
 cases r with
 |error e=>exact hx pins σ _ _ e s' I2 hq'
 |ok fl=>
  cases fl with
  |ret u=>
   obtain⟨v,H',I3,rv,ev,q3⟩:=I2.after hq';subst ev;exact⟨rv,⟨V.ref _,H',I3,rfl,q3⟩⟩
  |next=>exact False.elim hq'
  |brk=>exact False.elim hq'
  |cont=>exact False.elim hq'
def vU(M:Mk X.K C f)(F:FnOk X.prog X.w X.K X.mg X.base CX k f fd ps sp)(hr:Room (k+1) X.A)(hg:Gl X x)(hm:X.mg x=some (.ref C))(hb:Binds X.K fd ps ds)(hd:Vals dvs ds)(hx:eW CX X E)
  (hdb:(x==("__debug__":Str))=false:=by decide):PE X (.Call (.Name x p) [] [] pos) (HM C sp dvs E DX):=λpins s σ H Q I h=>wpAny_Call_Name_kw (ef I hg hm (PySem.W.callWith_K0 I.kIn M.kp (vT (us:=[]) M F hr hb hd hx I .nil h)) hdb)
end
section
variable {CX:CXT}{ks:List Str}{sp:Sp}{E:XK}{kpos:Pos}{o:Expr}{kws:List Keyword}{tk:TA}{nm:Option Str}
variable {g:List Value->List Value->List Value}{gV:List V->List V->List V}
end
structure bt(N P:List Str)(sc:Scope):Prop where
 kind:sc.kind=.function
 co:sc.isCoroutine=false
 gen:sc.isGenerator=false
 nd:N.Nodup
 pre:N.take P.length=P
 par:∀x∈P,sc.names.lookup x=some .local\/sc.names.lookup x=some .cell
 nofree:∀y∈sc.names,y.2≠.free
theorem jS{kindOf:Str->Option NameKind}:∀{binds:List (Str×Value)}{m:Str->Option Value},(∀v,(x,v)∉binds)->bindL kindOf binds m x=m x
 |[],_,_=>rfl
 |(n,v)::r,m,h=>by
  unfold bindL;rw[jS λw hw=>h w (mc0 _ hw)];split
  .have:x≠n:=by rintro rfl;exact h v ms0
   simp[this]
  .rfl
theorem jT{kindOf:Str->Option NameKind}:∀{binds:List (Str×Value)}{m:Str->Option Value},(∀v,(x,v)∉binds)->bindC kindOf binds m x=m x
 |[],_,_=>rfl
 |(n,v)::r,m,h=>by
  unfold bindC;rw[jT λw hw=>h w (mc0 _ hw)];split
  .rfl
  .have:x≠n:=by rintro rfl;exact h v ms0
   simp[this]
theorem jU{kindOf:Str->Option NameKind}:∀{P:List Str}{vs:List Value}{i:Nat}{m:Str->Option Value},P.Nodup->P[i]?=some x->vs[i]?=some v->kindOf x=some .local->
  bindL kindOf (P.zip vs) m x=some v
 |[],_,_,_,_,h,_,_=>by simp at h
 |_::_,[],_,_,_,_,h,_=>by simp at h
 |p::P,w::vs,0,m,nd,h1,h2,hk=>by
  simp at h1 h2;subst h1;subst h2;show bindL _ ((p,w)::P.zip vs) m p=_;unfold bindL;rw[jS λv hv=>(List.nodup_cons.mp nd).1 (List.of_mem_zip hv).1,if_pos hk];simp
 |p::P,w::vs,i+1,m,nd,h1,h2,hk=>by
  unfold bindL;exact jU (List.nodup_cons.mp nd).2 (by simpa using h1) (by simpa using h2) hk
theorem jV{kindOf:Str->Option NameKind}:∀{P:List Str}{vs:List Value}{i:Nat}{m:Str->Option Value},P.Nodup->P[i]?=some x->vs[i]?=some v->kindOf x≠some .local->
  bindC kindOf (P.zip vs) m x=some v
 |[],_,_,_,_,h,_,_=>by simp at h
 |_::_,[],_,_,_,_,h,_=>by simp at h
 |p::P,w::vs,0,m,nd,h1,h2,hk=>by
  simp at h1 h2;subst h1;subst h2;show bindC _ ((p,w)::P.zip vs) m p=_;unfold bindC;rw[jT λv hv=>(List.nodup_cons.mp nd).1 (List.of_mem_zip hv).1,if_neg hk];simp
 |p::P,w::vs,i+1,m,nd,h1,h2,hk=>by
  unfold bindC;exact jV (List.nodup_cons.mp nd).2 (by simpa using h1) (by simpa using h2) hk
noncomputable def start(N:List Str)(vs:List V):St:=vs.map some++List.replicate (N.length-vs.length) none
noncomputable def dH(CX:CXT)(P:Program)(w:World)(K:fg0)(mg:Str->Option Value)(base:Heap)(N:List Str)(qual:Str)(scope:Scope)(f:Addr)(cd:Value)(A:Around)(outer:List Env)(s:Shared)(H:Hp)(E:XK):Cx where
 prog:=P
 w:=w
 K:=K
 mg:=mg
 base:=base
 A:=A.deeper (envOfC qual scope s.heap.objs.size f cd)
 N:=N
 s₀:=s
 H₀:=H
 env:=envOfC qual scope s.heap.objs.size f cd
 outer:=outer
 stack:=envOfC qual scope s.heap.objs.size f cd::outer
 ex:=[]
 calm:=true
 fn:=λa=>true
 pn:=[]
 xe:=λe s'=>wpAny (model P w) (A.deeper (envOfC qual scope s.heap.objs.size f cd)) (leaving (envOfC qual scope s.heap.objs.size f cd) e) (λa s''=>CX outer H s E e s'') (λe' s''=>CX outer H s E e' s'') s'
def mM{sc:Scope}{n:Nat}(h:sc.names.lookup x=some .cell):∃c,(cellsFrom n sc.names []).lookup x=some c:=is0 (PySem.W.cellsFrom_some _ n [] (.inl h))
def tG{CX:CXT}{K:fg0}{qual:Str}{scope:Scope}{cd:Value}{outer:List Env}{s1:Shared}{E:XK}
  (S:bt N ps scope) (hd:A.handled=none) (e0:Env0 P w K mg base A outer s H) (hl:vs.length=ps.length) (r:Vals vs us)
  (x:InCallC s s.heap.objs.size (bindL (envOfC qual scope s.heap.objs.size f cd).kindOf (ps.zip us) λd=>none) (cellsFrom (s.heap.objs.size+1) scope.names []) (bindC (envOfC qual scope s.heap.objs.size f cd).kindOf (ps.zip us) λd=>none) s1):
  Inv (dH CX P w K mg base N qual scope f cd A outer s H E) [] (start N vs) H s1:=by
 have hpl:ps.length<=N.length:=by have:=congrArg List.length S.pre;rw[List.length_take]at this;grind
 obtain⟨h1,tk,rfl,hk⟩:=x.done;have noA:∀b:Addr,b∉(dH CX P w K mg base N qual scope f cd A outer s H E).ex:=λb z=>absurd (show b∈([]:List Addr)from z) (by simp)
 refine⟨⟨e0.mod,S.kind,rfl,rfl,nr0 _,λy z c h1 h2=>?_,λy hy=>?_,λy c d h=>?_,λd=>hd,Around.frames_deeper e0.frames,.inr ⟨rfl,rfl⟩,λb z=>absurd z (noA b),e0.bs,e0.bsz,λb d d=>noA b,λb z=>absurd z (noA b),e0.funs,e0.frf⟩,
  rfl,e0.bare,Un.kept hk,⟨_,x.toInCall.ns,λi y v h1 h2 h3=>?_⟩,λy c h=>⟨_,x.cell y c h⟩,e0.hok.fresh (nr0 _),λy c h=>?_,λp hp=>absurd (show p∈([]:List (Addr×Obj))from hp) (by simp),e0.hok.kept hk,?_⟩
 .exact name_of_addr x.apart (ml0 h1) (ml0 h2)
 .have hy:scope.names.lookup y=some .cell\/scope.names.lookup y=some .free:=hy
  rcases hy with hy|hy
  .exact mM hy
  .exact absurd rfl (S.nofree _ (ml0 hy))
 .exact Nat.le_of_lt (x.above y c (ml0 h))
 .have hi:i<vs.length:=by
   unfold start at h2
   by_cases hi:i<vs.length
   .exact hi
   .rw[List.getElem?_append_right (by simpa using hi)]at h2
    rw[List.getElem?_replicate]at h2;split at h2<;>cases h2
  have ha:vs[i]?=some v:=by
   unfold start at h2;rw[gl0 (by simpa using hi),gm0]at h2;cases e:vs[i]? with
   |none=>rw[e]at h2;cases h2
   |some a=>rw[e]at h2;cases h2;rfl
  obtain⟨u,hu,rv⟩:=r.get ha;have hp:ps[i]?=some y:=by
   rw[<-S.pre,List.getElem?_take_of_lt (by simp_all)];exact h1
  have ndP:ps.Nodup:=by rw[<-S.pre];exact S.nd.sublist (List.take_sublist _ _)
  refine⟨u,rv,?_⟩;rcases S.par y (mg0 hp)with k|k
  .exact .inl ⟨k,jU ndP hp hu k⟩
  .obtain⟨c,e⟩:=mM (n:=s.heap.objs.size+1) k
   refine .inr ⟨.inl k,c,e,?_⟩;have q:=x.cell y c e;rw[jV ndP hp hu (by show scope.names.lookup y≠_;rw[k];decide)]at q;exact q
 .exact e0.hok.fresh (Nat.le_of_lt (x.above y c (ml0 h)))
 .unfold start
  show _=N.length;rw[la0,lm0,List.length_replicate]
  simp_all
def vV{CX:CXT}{K:fg0}{name qual:Str}{params:Arguments}{scope:Scope}{dV kV doc pm cdv ct oc:Value}{an od:Option Addr}
  {osl:Array (Option Value)}  {sp:Sp} (lk:K.lookup f=some ⟨oc,od,.func (PySem.W.fnOf name qual params body scope dV kV doc pm an cdv ct),osl⟩) (hcd:PySem.W.codeIn K cdv qual=true) (S:bt N ps scope)
  (len:∀vs H Q E,sp vs H Q E->vs.length=ps.length)
  (hbody:∀(A:Around)(outer:List Env)(s:Shared)(H:Hp)(vs:List V)(Q:VK)(E:XK),Room k (A.deeper (envOfC qual scope s.heap.objs.size f cdv))->sp vs H Q E->
   ∃t,PSs (dH CX P w K mg base N qual scope f cdv A outer s H E) body t/\t {nx:=λa H'=>Q .non H',rt:=Q} (start N vs) H):
  FnOk P w K mg base CX (k+1) f (PySem.W.fnOf name qual params body scope dV kV doc pm an cdv ct) ps sp:=by
 refine⟨len,λA outer s H args us vs Q E hr e0 hb r hsp=>?_⟩;have hl:=len _ _ _ _ hsp;have KX:K.In s.heap:=e0.mod.kin.keeps λb o e=>(e0.bs b o e).1
 have lim:s.heap.NoLimit:=e0.mod.nolimit.keeps λb o e=>(e0.bs b o e).1
 have hkind:∀y∈ps.zip us,scope.names.lookup y.1=some .local\/(scope.names.lookup y.1=some .cell/\((cellsFrom (s.heap.objs.size+1) scope.names []).lookup y.1).isSome=true):=λ⟨n,v⟩ hy=>by
  rcases S.par n (List.of_mem_zip hy).1 with q|q
  .exact .inl q
  .exact .inr ⟨q,PySem.W.cellsFrom_some _ _ _ (.inl q)⟩
 refine codeAny_call_function hr.depth (KX _ _ lk) rfl S.co S.gen rfl (PySem.W.codeRec_of KX hcd) (hb _ _ _ _ ?_);refine wpAny_newFunctionEnv_cells S.kind hkind λenv he s1 x=>?_
 subst he;refine⟨lim.keeps x.toInCall.keep,codeAny_func ?_⟩;obtain⟨t,ht,hq⟩:=hbody A outer s H vs Q E (hr.deeper _) hsp;have I:Inv (dH CX P w K mg base N qual scope f cdv A outer s H E) [] (start N vs) H s1:=tG S hr.hd e0 hl r x;refine wpAny_mono (ht [] s1 (start N vs) H _ I hq) (λfl s' hs=>?_) λe s' hs=>hs
 have fin:∀{σ':St}{H':Hp}{v:V}{u:Value},Inv (dH CX P w K mg base N qual scope f cdv A outer s H E) [] σ' H' s'->RelV v u->Q v H'->CE outer P w H s Q u s':=
  λ{σ' H' v u} J rv q=>⟨v,H',J.os,J.bare,J.base,J.hok,rv,q⟩
 cases fl with
 |ret u=>
  obtain⟨v,σ',H',J,rv,q⟩:=hs;exact fin J rv q
 |next=>
  obtain⟨σ',H',J,q⟩:=hs;exact fin (v:=V.non) J rfl q
 |brk=>
  obtain⟨_,_,_,q⟩:=hs;exact False.elim q
 |cont=>
  obtain⟨_,_,_,q⟩:=hs;exact False.elim q
section
variable {id T:String}{r:List V->Hp->VK->Prop}
noncomputable def tCB(r:List V->Hp->VK->Prop)(t:TA):TE:=λσ H Q=>t σ H λvs H1=>r vs H1 Q
def aX(hc:aW X (.builtin id) r)(hg:Gl X x)(hm:X.mg x=none)(hv:bootBuiltins x=some (.builtin id))(ha:PA X (e::es) t)(hn:x≠"__name__":=by decide)(hdb:(x==("__debug__":Str))=false:=by decide)
  (he:starEach (e::es) X.env=(false,eval e X.env)::starEach es X.env:=by rfl) (hpl:(backTo pos (starEach es X.env)).any (·.1)=false:=by rfl):PE X (.Call (.Name x p) (e::es) [] pos) (tCB r t):=λpins s σ H Q I h=>wpAny_Call_Name_kw (ld_blt I hg hm hv (PyProof.Rows.callWith_builtin1 (thn (ha _ _ s σ H _ I h) λus s1 ⟨vs,H1,I1,r1,q1⟩=>hc _ s1 σ H1 vs us Q I1 r1 q1) he hpl) hn hdb)
def aH(hc:aW X (.type T) r)(hg:Gl X x)(hm:X.mg x=none)(hv:bootBuiltins x=some (.type T))(ha:PA X (e::es) t)(hn:x≠"__name__":=by decide)(hdb:(x==("__debug__":Str))=false:=by decide)
  (he:starEach (e::es) X.env=(false,eval e X.env)::starEach es X.env:=by rfl) (hpl:(backTo pos (starEach es X.env)).any (·.1)=false:=by rfl):PE X (.Call (.Name x p) (e::es) [] pos) (tCB r t):=λpins s σ H Q I h=>wpAny_Call_Name_kw (ld_blt I hg hm hv (PyProof.Rows.callWith_type1 (thn (ha _ _ s σ H _ I h) λus s1 ⟨vs,H1,I1,r1,q1⟩=>hc _ s1 σ H1 vs us Q I1 r1 q1) he hpl) hn hdb)
end
end L2
section
variable {P prog:PySem.Program}{w:PySem.World}{s:PySem.Shared}{ns:List Int}{X:L2.Cx}{e o:PySem.Expr}{pos:PySem.Pos}{c i n t':Nat}{α:Type}{a f:PySem.Addr}{b:Bool}{pins:List (PySem.Addr×PySem.Obj)}{σ:L2.St}{H H':L2.Hp}{xs:List L2.V}{its its' us:List PySem.Value}{T:String}{qual x:PySem.Str}{h:PySem.Heap}{loose:List PySem.Str}{mg:PySem.Str->Option PySem.Value}{fd:PySem.FuncData}{st:PySem.Stmt}{u:PySem.Value}{y:L2.V}{kvs:List (L2.Key×L2.V)}{Q:PySem.Value->PySem.Shared->Prop}{env:PySem.Env}{scope:PySem.Scope}{js:List Nat}
namespace HT
open PySem PyProof.Rows
section
open PySem.SeqAt
open PySem.AutoSeq1 (wpAny_loadPart')
open PySem.MeetsSeq PySem.MeetsSeq2 PySem.MeetsSeq3
end
section
variable {A:Around}{E:Value->Shared->Prop}
noncomputable def sIx(n d:Nat):Option Int->Nat
 |none=>d
 |some v=>if v<0 then (v+(n:Int)).toNat else min v.toNat n
end
end HT
namespace L2
open PySem PySem.Spec PyProof.Rows
noncomputable abbrev TO:=St->Hp->(Option Int->Hp->Prop)->Prop
def PO(X:Cx)(e:Option Expr)(t:TO):Prop:=
 ∀(pins:List (Addr×Obj))(s:Shared)(σ:St)(H:Hp)(Q:Option Int->Hp->Prop),Inv X pins σ H s->t σ H Q->
  wpAny (model X.prog X.w) X.A (evalPart e X.env) (λu s'=>∃o H',Inv X pins σ H' s'/\IsPart u o/\Q o H') X.xe s
noncomputable def zQ:TO:=λa H Q=>Q none H
noncomputable def HN(t:TE):TO:=λσ H Q=>t σ H λx H1=>∃i,x=.int i/\Q (some i) H1
def intsAre_of :∀{us:List Value},Vals (ns.map V.int) us->IntsAre us ns:=by
 induction ns with
 |nil=>intro us r;cases r;exact .nil
 |cons n ns ih=>
  intro us r;cases r with
  |cons r1 r2=>
   obtain⟨t,e⟩:=r1;subst e;exact .cons n t (ih r2)
section
variable {te:TE}{lo hi:Option Expr}{tl th:TO}{p2:Pos}
def zR:PO X none zQ:=λpins s σ H Q I h=>wq0 ⟨_,H,I,.none,h⟩
def qR(h:PE X e te):PO X (some e) (HN te):=by
 intro pins s σ H Q I hw;refine thn (h _ s σ H _ I hw) λu s1 ⟨x,H1,I1,r1,q1⟩=>?_
 obtain⟨i,rfl,q⟩:=q1;obtain⟨t,rfl⟩:=r1;exact⟨_,H1,I1,.int i t,q⟩
def SlR(X:Cx)(r:V->Option Int->Option Int->Hp->VK->Prop):Prop:=
 ∀(pins:List (Addr×Obj))(s:Shared)(σ:St)(H:Hp)(x:V)(v vl vu:Value)(lo hi:Option Int)(sl:Addr)(Q:VK),Inv X pins σ H s->RelV x v->s.heap.IsSliceOf sl vl vu .none->IsPart vl lo->IsPart vu hi->r x lo hi H Q->
  ∃T id,typeLookup (.type T) "__getitem__"=pure (some (.builtin id))/\s.TypeIs v T/\wpAny (model X.prog X.w) X.A (getItem v (.ref sl)) (EP X pins σ Q) X.xe s
noncomputable def tSl(r:V->Option Int->Option Int->Hp->VK->Prop)(te:TE)(tl th:TO):TE:=λσ H Q=>te σ H λx H1=>tl σ H1 λl H2=>th σ H2 λu H3=>r x l u H3 Q
def vW{r:V->Option Int->Option Int->Hp->VK->Prop}(hr:SlR X r)(he:PE X e te)(hl:PO X lo tl)(hu:PO X hi th):PE X (.Subscript e (.Slice lo hi none p2) pos) (tSl r te tl th):=by
 intro pins s σ H Q I h;refine Subscript_ (thn (he _ s σ H _ I h) λv s1 ⟨x,H1,I1,r1,q1⟩=>?_);refine wpAny_Slice (thn (hl _ s1 σ H1 _ I1 q1) λvl s2 ⟨l,H2,I2,pl,q2⟩=>thn (hu _ s2 σ H2 _ I2 q2) λvu s3 ⟨u,H3,I3,pu,q3⟩=>?_);refine wq0 ?_;have I4:Inv X _ σ H3 {s3 with heap:=s3.heap.push {cls:=.type "slice",data:=.fields #[vl,vu,.none]}}:=I3.kept λb ob q=>ps0 _ q
 obtain⟨T,id,hT,ht,hg⟩:=hr pins _ σ H3 x v vl vu l u _ Q I4 r1 (Heap.IsSliceOf.new ..) pl pu q3;exact tail_any ht hT hg (rfl)
noncomputable def vX(xs:List V)(lo hi:Option Int):List V:=(xs.drop (HT.sIx xs.length 0 lo)).take (HT.sIx xs.length xs.length hi-HT.sIx xs.length 0 lo)
def mO(xs:List V)(lo hi:Option Int):(vX xs lo hi).length<=xs.length:=by
 unfold vX;rw[List.length_take,List.length_drop]
 grind
end
noncomputable def ixN(n:Nat)(i:Int):Option Nat:=if 0<=i then (if i<n then some i.toNat else none)else if -(n:Int)<=i then some (i+n).toNat else none
noncomputable def atI{α:Type}(xs:List α)(i:Int):Option α:=(ixN xs.length i).bind λj=>xs[j]?
def qS{i:Int}{j:Nat}(h:ixN n i=some j):seqIndex? i n=some j/\j<n/\ -(n:Int)<=i/\i<n:=by
 unfold ixN at h
 by_cases h0:0<=i
 .rw[if_pos h0]at h
  by_cases h1:i<n
  .rw[if_pos h1]at h
   have e:=Option.some.inj h;exact⟨by rw[seqIndex_of h0 h1,e],by omega,by omega,h1⟩
  simp_all
 .rw[if_neg h0]at h
  by_cases h1:-n<=i
  .rw[if_pos h1]at h
   have e:=Option.some.inj h;exact⟨by rw[seqIndex_neg (by omega) h1,e],by omega,h1,by omega⟩
  simp_all
def iA{xs:List α}{i:Int}{v:α}(h:atI xs i=some v):∃j,seqIndex? i xs.length=some j/\xs[j]?=some v/\j<xs.length/\ -(xs.length:Int)<=i/\i<xs.length:=by
 unfold atI at h;cases e:ixN xs.length i with
 |none=>simp_all
 |some j=>
  rw[e]at h;obtain⟨h1,h2,h3,h4⟩:=qS e;exact⟨j,h1,h,h2,h3,h4⟩
def mP(xs:List α)(v:α):atI (xs++[v]) (-1)=some v:=by
 have hl:(xs++[v]).length=xs.length+1:=by simp
 have e:ixN (xs++[v]).length (-1)=some xs.length:=by
  unfold ixN;rw[hl,if_neg (by decide),if_pos (by omega)]
  congr 1
  omega
 unfold atI;rw[e];show (xs++[v])[xs.length]?=some v;simp
def zS(b:Expr):Prop:=∀o i,subscripted b false o i=operate [o,i] (getItem o i)
def IxR(X:Cx)(r:R2):Prop:=
 ∀(value slice:Expr)(pins:List (Addr×Obj))(s:Shared)(σ:St)(H:Hp)(x y:V)(v u:Value)(Q:VK),Inv X pins σ H s->RelV x v->RelV y u->r x y H Q->
  subscripted slice false v u=operate [v,u] (getItem v u)->wpAny (model X.prog X.w) X.A (subscriptTail value slice v u) (EP X pins σ Q) X.xe s
def MtR(X:Cx)(id:String)(r:V->List V->Hp->VK->Prop):Prop:=
 ∀(pins:List (Addr×Obj))(s:Shared)(σ:St)(H:Hp)(x:V)(xs:List V)(v:Value)(us:List Value)(Q:VK),Inv X pins σ H s->RelV x v->Vals xs us->r x xs H Q->
  wpAny (model X.prog X.w) X.A (call (.builtin id) (v::us)) (EP X pins σ Q) X.xe s
section
variable {a b:Expr}{ta tb:TE}
def jW{r:R2}(hr:IxR X r)(ha:PE X a ta)(hb:PE X b tb)(hs:zS b):PE X (.Subscript a b pos) (tOp r ta tb):=λpins s σ H Q I h=>Subscript_ (DR ha hb I h λv u s2 x y H2 I2 rx ry q=>hr a b _ s2 σ H2 x y v u Q I2 rx ry q (hs _ _))
noncomputable def KR(K:fg0):R2:=λx y H Q=>∃p xs i v,x=.ref p/\y=.int i/\SqL K H p xs/\atI xs i=some v/\Q v H
noncomputable def KS(K:fg0):R2:=λx y H Q=>∃p xs i v,x=.ref p/\y=.int i/\SqT K H p xs/\atI xs i=some v/\Q v H
noncomputable def KU:R2:=λx y H Q=>∃z i c,x=.str z/\y=.int i/\z.length<=sizeLine/\atI z.cps.toList i=some c/\Q (.str ⟨#[c]⟩) H
def qU:IxR X (KR X.K):=by
 intro value slice pins s σ H x y v u Q I rx ry h hs;obtain⟨p,xs,i,z,rfl,rfl,hq,he,q⟩:=h;cases rx;obtain⟨t,rfl⟩:=ry;obtain⟨its,r,pl,hz⟩:=I.list hq;obtain⟨j,h1,h2,h3,h4,h5⟩:=iA he;obtain⟨w,ew,rw'⟩:=r.get h2;have hl:=r.length;have hn:=gr;have fin:EP X pins σ Q w s:=⟨z,H,I,rw',q⟩
 by_cases h0:0<=i
 .have hj:i.toNat=j:=by
   rw[seqIndex_of h0 h5]at h1;exact Option.some.inj h1
  exact item_listR pl.isList h0 (by omega) (by rw[hj];simpa using ew) fin hs
 .have hj:(i+(its.toArray.size:Int)).toNat=j:=by
   rw[seqIndex_neg (by omega) h4]at h1;rw[ls0,<-hl];exact Option.some.inj h1
  exact subscriptTail_builtinR (x:=w) pl.isList.typeIs slot_list_getitem.lookup
   (wpAny_getItem_list_neg pl.isList (by omega) (by rw[ls0]<;>omega) (by omega) (by rw[hj];simpa using ew) ⟨rfl,fin⟩) hs
def iT:IxR X (KS X.K):=by
 intro value slice pins s σ H x y v u Q I rx ry h hs;obtain⟨p,xs,i,z,rfl,rfl,hq,he,q⟩:=h;cases rx;obtain⟨t,rfl⟩:=ry;obtain⟨its,r,pl,hz⟩:=I.tuple hq;obtain⟨j,h1,h2,h3,h4,h5⟩:=iA he;obtain⟨w,ew,rw'⟩:=r.get h2;have hl:=r.length;have hn:=gr;have fin:EP X _ σ Q w s:=⟨z,H,I,rw',q⟩;exact subscriptTail_builtinR pl.typeIs slot_tuple_getitem.lookup
  (getItem_tuple (j:=j) pl (by omega) (by omega) (by simp_all) (by simpa using ew) ⟨rfl,fin⟩) hs
def DZ:IxR X KU:=by
 intro value slice pins s σ H x y v u Q I rx ry h hs;obtain⟨z,i,c,rfl,rfl,hz,he,q⟩:=h;obtain⟨t,rfl⟩:=rx;obtain⟨t',rfl⟩:=ry;obtain⟨j,h1,h2,h3,h4,h5⟩:=iA he;have hl:z.cps.toList.length=z.length:=by simp[Str.length]
 rw[hl]at h1 h4 h5;have hn:=gr;exact tail_any (typeIs_str s z t) slot_str_getitem.lookup (getItem_str (c:=c) (by
  grind) (by rw[h1];simpa using h2) ⟨.str ⟨#[c]⟩,H,I.tok _,⟨_,rfl⟩,q⟩) hs
def pM(its:List Value)(n j:Nat)(u:Value):Obj.mapSeq (·.setIfInBounds j u) {cls:=.type "list",data:=.seq its.toArray n}={cls:=.type "list",data:=.seq (its.set j u).toArray n}:=by
 simp[Obj.mapSeq]
theorem Inv.lst{p:Addr}(I:Inv X pins σ H s)(h:H p=some (.lst xs)):
  ∃(its:List Value)(n:Nat),Vals xs its/\s.heap.get? p=some {cls:=.type "list",data:=.seq its.toArray n}/\xs.length<=sizeLine:=by
 obtain⟨z,its,n,r,e⟩:=I.hok p _ h;exact⟨_,n,r,e,z⟩
def Inv.lstUpd{p:Addr}{ys:List V}{n':Nat}{f:Obj->Obj}(I:Inv X pins σ H s)(h:H p=some (.lst xs))
  (ho:s.heap.get? p=some {cls:=.type "list",data:=.seq its.toArray n}) (hf:f {cls:=.type "list",data:=.seq its.toArray n}={cls:=.type "list",data:=.seq its'.toArray n'}) (r:Vals ys its') (hz:ys.length<=sizeLine) (t:Nat):
  Inv X pins σ (upd H p (.lst ys)) {s with heap:=s.heap.update p f,toks:=t}:=by
 have e:(s.heap.update p f).get? p=some {cls:=.type "list",data:=.seq its'.toArray n'}:=by
  rw[hu0 f ho (by rw[hf]<;>rfl),hf]
 refine I.write (by rw[h];trivial) (.inl rfl) (λb u hb q=>(Heap.get?_update_other _ _ (Ne.symm hb)).trans q) ⟨_,e⟩ ?_;exact⟨hz,_,n',r,e⟩
noncomputable def HP:V->V->V->Hp->(Hp->Prop)->Prop:=λo i v H Q=>∃p xs k j,o=.ref p/\i=.int k/\H p=some (.lst xs)/\ixN xs.length k=some j/\Q (upd H p (.lst (xs.set j v)))
def set_list:zK X HP:=by
 intro pins s σ H o i v ov iv u Q I ro ri rv h;obtain⟨p,xs,k,j,rfl,rfl,hp,hj,q⟩:=h;cases ro;obtain⟨t,rfl⟩:=ri;obtain⟨its,n,r,ho,hz⟩:=I.lst hp;obtain⟨h1,h2,h3,h4⟩:=qS hj;have hl:=r.length;have hn:=gr;have I':=
  I.lstUpd hp ho (pM its n j u) (r.set rv j) (by rw[List.length_set];exact hz) s.toks
 by_cases h0:0<=k
 .have hk:k.toNat=j:=by
   rw[seqIndex_of h0 h4]at h1;exact Option.some.inj h1
  exact PySem.W.ki_setAt ho h0 (by omega) (by simp_all) (by rw[hk];exact⟨_,I',q⟩)
 .have hk:(k+(its.toArray.size:Int)).toNat=j:=by
   rw[seqIndex_neg (by omega) h3]at h1;rw[ls0,<-hl];exact Option.some.inj h1
  exact PySem.W.ki_setBack ho (by omega) (by simp_all) (by omega) (by rw[hk];exact⟨_,I',q⟩)
def lx(lo hi:Option Int)(n:Nat):(sliceBounds lo hi none n).1=((HT.sIx n 0 lo:Nat):Int)/\(sliceBounds lo hi none n).2.1=((HT.sIx n n hi:Nat):Int)/\(sliceBounds lo hi none n).2.2=1:=by
 refine⟨?_,?_,rfl⟩
 .cases lo with
  |none=>simp[sliceBounds,HT.sIx]
  |some i=>
   simp only[sliceBounds,HT.sIx,Option.getD_none,show (1:Int)>0 by decide,if_true]
   by_cases h:i<0
   .simp only[h,if_true]<;>omega
   .simp only[h,if_false]<;>omega
 .cases hi with
  |none=>rfl
  |some i=>
   simp only[sliceBounds,HT.sIx,Option.getD_none,show (1:Int)>0 by decide,if_true]
   by_cases h:i<0
   .simp only[h,if_true]<;>omega
   .simp only[h,if_false]<;>omega
def jF(its:List Value)(lo hi:Option Int):slicePick its.toArray lo hi none=((its.drop (HT.sIx its.length 0 lo)).take (HT.sIx its.length its.length hi-HT.sIx its.length 0 lo)).toArray:=by
 obtain⟨h1,h2,h3⟩:=lx lo hi _;unfold slicePick;rw[h1,h2,h3];simp only[sliceRange_one,pick_run]<;>rfl
noncomputable def KW(K:fg0):V->Option Int->Option Int->Hp->VK->Prop:=λx lo hi H Q=>∃a xs,x=.ref a/\SqL K H a xs/\∀p,H p=none->Q (.ref p) (upd H p (.lst (vX xs lo hi)))
def qV:SlR X (KW X.K):=by
 intro pins s σ H x v vl vu lo hi sl Q I rx hs pl pu h;obtain⟨a,xs,rfl,hx,q⟩:=h;cases rx;obtain⟨its,r,ht,hz⟩:=I.list hx;have hlen:=r.length;refine⟨_,_,slot_list_getitem.lookup,ht.isList.typeIs,?_⟩;refine wpAny_getItem_list_slice ht.isList hs pl pu .none (by simp) ?_ (by grind);rw[jF,<-hlen];refine⟨.ref _,_,I.laid (λb ob q=>ps0 _ q) (nr0 _) ?_,rfl,q _ (I.hok.fresh (nr0 _))⟩;exact⟨nt0 (mO xs lo hi) hz,_,0,(r.drop _).take _,pz0 _ rfl⟩
def ly:OpR X (compareOp .NotIn) (λx y H Q=>∃i j,x=.str i/\y=.str j/\Q (.bl (!(!(Builtin.Str.occurrences j i 0 j.length 1).isEmpty))) H):=by
 intro pins s σ H x y v u Q I rx ry h;obtain⟨i,j,rfl,rfl,q⟩:=h;obtain⟨t,rfl⟩:=rx;obtain⟨t',rfl⟩:=ry;exact notIn_str ⟨.bl _,H,I,rfl,q⟩
def lA:aW X (.builtin "len") (λxs H Q=>∃p ys,xs=[.ref p]/\(SqL X.K H p ys\/SqT X.K H p ys)/\Q (.int ys.length) H):=by
 intro pins s σ H xs us Q I r h;obtain⟨p,ys,rfl,hq,q⟩:=h;obtain⟨u,rfl,rx⟩:=vals1 r;cases rx;have hn:=gr;rcases hq with hq|hq
 .obtain⟨its,r',pl,hz⟩:=I.list hq
  have hlen:=r'.length;exact Calls.call_len_list pl.isList (by simp only[ls0]<;>omega) ⟨.int _,H,I.tok _,⟨_,by rw[ls0,hlen]⟩,q⟩
 .obtain⟨its,r',pl,hz⟩:=I.tuple hq
  have hlen:=r'.length;exact len_tuple pl (by simp only[ls0]<;>omega) ⟨.int _,H,I.tok _,⟨_,by rw[ls0,hlen]⟩,q⟩
def fy:aW X (.type "list") (λxs H Q=>∃p ys,xs=[.ref p]/\(SqL X.K H p ys\/SqT X.K H p ys)/\∀l,H l=none->Q (.ref l) (upd H l (.lst ys))):=by
 intro pins s σ H xs us Q I r h;obtain⟨p,ys,rfl,hq,q⟩:=h;obtain⟨u,rfl,rx⟩:=vals1 r;cases rx;have fin:∀(its:List _),Vals ys its->ys.length<=sizeLine->∀(h':Heap)(c':Nat),(∀b o',s.heap.get? b=some o'->h'.get? b=some o')->
   h'.get? _=some _->EP X _ σ Q _ _:=λits r' hz h' c' kp e=>
  ⟨.ref _,_,I.laid (t':=s.toks) kp (nr0 _) (show ObjOk _ _ _ h' _ (.lst ys)from⟨hz,_,c',r',e⟩),rfl,q _ (I.hok.fresh (nr0 _))⟩
 rcases hq with hq|hq
 .obtain⟨its,r',pl,hz⟩:=I.list hq
  have hlen:=r'.length;obtain⟨o,ho,hc,n,hd⟩:=pl.isList;exact call_list_seq p (.inl rfl) ho hc hd (λh' c' kp e=>fin _ r' hz h' c' kp e) (by simp only[ls0]<;>omega)
 .obtain⟨its,r',pl,hz⟩:=I.tuple hq
  have hlen:=r'.length;obtain⟨o,ho,hc,n,hd⟩:=pl;exact call_list_seq p (.inr rfl) ho hc hd (λh' c' kp e=>fin _ r' hz h' c' kp e) (by simp only[ls0]<;>omega)
def eP:aW X (.type "tuple") (λxs H Q=>∃p ys,xs=[.ref p]/\((SqL X.K H p ys/\∀l,H l=none->Q (.ref l) (upd H l (.tup ys)))\/(SqT X.K H p ys/\Q (.ref p) H))):=by
 intro pins s σ H xs us Q I r h;obtain⟨p,ys,rfl,h⟩:=h;obtain⟨u,rfl,rx⟩:=vals1 r;cases rx;rcases h with⟨hq,q⟩|⟨hq,q⟩
 .obtain⟨its,r',pl,hz⟩:=I.list hq
  have hlen:=r'.length;refine call_tuple_list pl.isList (λh' kp=>?_) (by simp only[ls0]<;>omega);have I1:Inv X pins σ H {s with heap:=h'}:=I.kept (t':=s.toks) kp;have I2:Inv X pins σ (upd H h'.objs.size (.tup ys)) {s with heap:=h'.push {cls:=.type "tuple",data:=.seq its.toArray}}:=
   I1.laid (t':=s.toks) (λb o e=>ps0 _ e) (nr0 _) (show ObjOk X.prog X.w _ _ _ (.tup ys)from⟨hz,its,r',IsTup.new _ _⟩)
  exact⟨.ref h'.objs.size,_,I2,rfl,q _ (I1.hok.fresh (nr0 _))⟩
 .obtain⟨its,r',pl,hz⟩:=I.tuple hq
  exact call_tuple_same pl ⟨.ref p,H,I,rfl,q⟩
def tyV(K:fg0)(T:String)(x:V)(H:Hp):Prop:=match x with
 |.str _=>T="str"
 |.int _=>T="int"
 |.ref p=>(T="list"/\∃xs,SqL K H p xs)\/(T="tuple"/\∃o,K.lookup p=some o/\o.cls=.type "tuple"/\o.dict=none)\/
   (T="dict"/\((∃kvs,H p=some (.dK kvs))\/∃kvs,H p=some (.dT kvs)))\/(T="set"/\∃S n,H p=some (.set S n))
 |_=>False
def vY{x:V}{v:Value}(I:Inv X pins σ H s)(r:RelV x v)(ty:tyV X.K T x H):
  s.TypeIs v T/\∀a,v=.ref a->∃ob,s.heap.get? a=some ob/\ob.dict=none:=by
 cases x with
 |str z=>
  obtain⟨t,rfl⟩:=r;cases (ty);exact⟨typeIs_str s z t,λb e=>nomatch e⟩
 |int i=>
  obtain⟨t,rfl⟩:=r;cases (ty);exact⟨typeIs_int s i t,λb e=>nomatch e⟩
 |ref p=>
  cases r;rcases ty with⟨rfl,xs,hq⟩|⟨rfl,o,hk,hc,hd⟩|⟨rfl,hk⟩|⟨rfl,S,n,hk⟩
  .obtain⟨its,_,pl,_⟩:=I.list hq
   refine⟨pl.isList.typeIs,λa e=>?_⟩;cases e;obtain⟨o,n,e,c,hd,_⟩:=pl;exact⟨o,e,hd⟩
  .refine⟨⟨o,I.kIn p o hk,hc⟩,λa e=>?_⟩
   cases e;exact⟨o,I.kIn _ o hk,hd⟩
  .have z:∃o,s.heap.get? p=some o/\o.ExactDict:=by
    rcases hk with⟨kvs,hk⟩|⟨kvs,hk⟩
    .obtain⟨_,_,_,_,o,_,_,e,ex,_⟩:=I.hok p _ hk
     exact⟨o,e,ex⟩
    .obtain⟨_,_,_,_,o,_,_,e,ex,_⟩:=I.hok p _ hk
     exact⟨o,e,ex⟩
   obtain⟨o,e,ex⟩:=z;refine⟨⟨o,e,ex.1⟩,λa e2=>?_⟩;cases e2;exact⟨o,e,ex.2.1⟩
  .obtain⟨o,_,_,_,e,ex,_⟩:=I.hok p _ hk
   refine⟨⟨o,e,ex.1⟩,λa e2=>?_⟩;cases e2;exact⟨o,e,ex.2.1⟩
 |_=>exact False.elim ty
noncomputable def KY(K:fg0)(T:String)(r:V->List V->Hp->VK->Prop)(to:TE):TE:=λσ H Q=>to σ H λx H1=>tyV K T x H1/\r x [] H1 Q
noncomputable def tBM(K:fg0)(T:String)(r:V->List V->Hp->VK->Prop)(to:TE)(t:TA):TE:=λσ H Q=>to σ H λx H1=>tyV K T x H1/\t σ H1 λxs H2=>r x xs H2 Q
variable {es:List Expr}{to:TE}{t:TA}{name:Str}{apos cpos:Pos}{id:String}{r:V->List V->Hp->VK->Prop}
def Eb(pa:PlainAttrs T)(slot:Slot T name id)(hty:typeOf (.builtin id)=pure (.type "method_descriptor"))(hm:MtR X id r)(ho:PE X o to)
  (hbase:attributeBase o name X.env (eval o X.env)=eval o X.env:=by rfl) (hline:(apos.endLine==cpos.line)=true:=by rfl):PE X (.Call (.Attribute o name apos) [] [] cpos) (KY X.K T r to):=by
 intro pins s σ H Q I h;refine wpAny_Call_method0_late hbase hline (thn (ho pins s σ H _ I h) ?_);rintro v s1 ⟨x,H1,I1,r1,ty,q1⟩;obtain⟨h1,h2⟩:=vY I1 r1 ty;exact⟨T,id,pa,slot,hty,h1,h2,Calls.callWith_builtin rfl (PySem.evalArgs_none (hm pins s1 σ H1 x [] v [] Q I1 r1 .nil q1))⟩
def jX(pa:PlainAttrs T)(slot:Slot T name id)(hty:typeOf (.builtin id)=pure (.type "method_descriptor"))(hm:MtR X id r)(ho:PE X o to)(ha:PA X (e::es) t)
  (hbase:attributeBase o name X.env (eval o X.env)=eval o X.env:=by rfl)
  (hfew:((backTo cpos (starEach (e::es) X.env)).all (λx=>!x.1)&&(backToKw cpos (keywordEach [] X.env)).all (λx=>x.1.isSome)
   &&decide ((e::es).length+([]:List Keyword).length+(if ([]:List Keyword).isEmpty then 0 else 1)<30))=true:=by rfl)
  (hline:(apos.endLine==cpos.line)=true:=by rfl) (hs:starEach (e::es) X.env=(false,eval e X.env)::starEach es X.env:=by rfl) (hplain:(backTo cpos (starEach es X.env)).any (·.1)=false:=by rfl):
  PE X (.Call (.Attribute o name apos) (e::es) [] cpos) (tBM X.K T r to t):=by
 intro pins s σ H Q I h;refine wpAny_Call_method_late hbase hfew hline rfl (thn (ho pins s σ H _ I h) λv s1 ⟨x,H1,I1,r1,ty,q1⟩=>?_);obtain⟨h1,h2⟩:=vY I1 r1 ty;refine⟨T,id,pa,slot,hty,h1,h2,?_⟩;have hA:=ha cpos pins s1 σ H1 _ I1 q1;rw[hs]at hA ⊢;exact Calls.callWith_builtin (by show (false||(backTo cpos _).any _)=false;rw[hplain]<;>rfl) (Calls.evalArgs_plain (thn hA λus s2 ⟨vs,H2,I2,r2,q2⟩=>hm pins s2 σ H2 x vs v us Q I2 r1 r2 q2))
end
def MtM(X:Cx)(id:String)(r:V->List V->Hp->VK->Prop):Prop:=
 ∀(pins:List (Addr×Obj))(s:Shared)(σ:St)(H:Hp)(x:V)(xs:List V)(v:Value)(us:List Value)(Q:VK),Inv X pins σ H s->RelV x v->Vals xs us->r x xs H Q->
  wpAny (model X.prog X.w) X.A (call (.builtin id) (v::us)) (EP X pins σ Q) X.xe s
def Vals.one:∀{x:V}{us:List Value},Vals [x] us->∃u,us=[u]/\RelV x u
 |_,_,.cons r .nil=>⟨_,rfl,r⟩
def Vals.zero:∀{us:List Value},Vals [] us->us=[]
 |_,.nil=>rfl
theorem Vals.dropLast(h:Vals xs us):Vals xs.dropLast us.dropLast:=by
 induction h with
 |nil=>exact .nil
 |cons r t ih=>
  cases t with
  |nil=>exact .nil
  |cons q t'=>exact .cons r ih
theorem Vals.reverse(h:Vals xs us):Vals xs.reverse us.reverse:=by
 induction h with
 |nil=>exact .nil
 |cons r t ih=>rw[List.reverse_cons,List.reverse_cons];exact Vals.append ih (.cons r .nil)
theorem Vals.rep(h:Vals xs us):∀k:Nat,Vals (List.replicate k xs).flatten (List.replicate k us).flatten
 |0=>.nil
 |k+1=>by
  exact Vals.append h (Vals.rep h k)
def Ec(l:List α):l.eraseIdx (l.length-1)=l.dropLast:=by
 simp
theorem foldl_rep(its:List Value):∀(k:Nat)(acc:List Value),
  List.foldl (λx1 x2=>x1++x2) acc.toArray (List.replicate k its.toArray)=(acc++(List.replicate k its).flatten).toArray
 |0,acc=>by simp
 |k+1,acc=>by
  have e:acc.toArray++its.toArray=(acc++its).toArray:=by simp
  have e2:(acc++its)++(List.replicate k its).flatten=acc++(List.replicate (k+1) its).flatten:=by
   rw[List.replicate_succ,List.flatten_cons,List.append_assoc]
  rw[<-e2,<-foldl_rep _ k _,<-e,List.replicate_succ,List.foldl_cons]
section
variable {l b:Addr}{ys zs:List V}
def Inv.lset{f:Array Value->Array Value}(I:Inv X pins σ H s)(hH:H l=some (.lst xs))
  (e:s.heap.get? l=some {cls:=.type "list",data:=.seq its.toArray n}) (hf:f its.toArray=its'.toArray) (hv:Vals ys its') (hz:ys.length<=sizeLine):
  Inv X pins σ (upd H l (.lst ys)) {s with heap:=s.heap.update l (Obj.mapSeq f),toks:=t'}:=by
 have q:=PySem.IsL.update e f;rw[hf]at q;refine I.write (by rw[hH];exact trivial) (.inl rfl) (λb' u hb hu=>(Heap.get?_update_other _ _ (Ne.symm hb)).trans hu) ⟨_,q⟩ ?_;exact⟨hz,_,_,hv,q⟩
def Inv.lnew(I:Inv X pins σ H s)(hv:Vals ys its)(hz:ys.length<=sizeLine):
  Inv X pins σ (upd H s.heap.objs.size (.lst ys)) {s with heap:=s.heap.push {cls:=.type "list",data:=.seq its.toArray},toks:=t'}:=
 I.laid (λa a q=>ps0 _ q) (nr0 _) ⟨hz,_,0,hv,pz0 _ rfl⟩
theorem Inv.fresh(I:Inv X pins σ H s):H s.heap.objs.size=none:=I.hok.fresh (nr0 _)
def Inv.lstM(I:Inv X pins σ H s)(hH:H l=some (.lst xs)):xs.length<=sizeLine/\∃(its:List Value)(n:Nat),Vals xs its/\xs.length=its.length/\s.heap.get? l=some {cls:=.type "list",data:=.seq its.toArray n}:=by
 obtain⟨z,its,n,r,e⟩:=I.hok l _ hH;exact⟨z,_,n,r,r.length,e⟩
def mQ(h:n<=sizeLine):Builtin.List.listTooLong n=false:=df0 (by omega)
end
noncomputable def zT:V->List V->Hp->VK->Prop:=λx vs H Q=>∃l xs y,x=.ref l/\vs=[y]/\H l=some (.lst xs)/\xs.length<sizeLine/\Q .non (upd H l (.lst (xs++[y])))
def gy:MtM X "list.append" zT:=by
 intro pins s σ H x vs v us Q I rx rv h;obtain⟨l,xs,y,rfl,rfl,hH,hz,q⟩:=h;cases rx;obtain⟨u,rfl,ru⟩:=rv.one;obtain⟨z,its,n,r,hl,e⟩:=I.lstM hH;refine call_meets F.slot_list_append ⟨_,e,rfl⟩ F.entry_list_append (F.args_list_append_2 _ _) (PySem.list_append l _ n u (by grind)) ⟨e,?_⟩;refine⟨.non,_,I.lset hH e (by simp) (r.append (.cons ru .nil)) ?_,rfl,q⟩
 grind
noncomputable def zU:V->List V->Hp->VK->Prop:=λx vs H Q=>∃l b xs zs,x=.ref l/\vs=[.ref b]/\H l=some (.lst xs)/\H b=some (.lst zs)/\xs.length+zs.length<=sizeLine/\Q .non (upd H l (.lst (xs++zs)))
def jY:MtM X "list.extend" zU:=by
 intro pins s σ H x vs v us Q I rx rv h;obtain⟨l,b,xs,zs,rfl,rfl,hH,hB,hz,q⟩:=h;cases rx;obtain⟨u,rfl,ru⟩:=rv.one;cases ru;obtain⟨z,its,n,r,hl,e⟩:=I.lstM hH;obtain⟨z2,its2,n2,r2,hl2,e2⟩:=I.lstM hB;have hsz:its.toArray.size+its2.toArray.size<=sizeLine:=by grind
 have hlong:¬ (!its.toArray.isEmpty&&Builtin.List.listTooLong (its.toArray.size+its2.toArray.size))=true:=by
  rw[mQ hsz,Bool.and_false];simp
 refine call_meets F.slot_list_extend ⟨_,e,rfl⟩ F.entry_list_extend (F.args_list_extend_2 _ _)
  (AutoSeq1.list_extend_list_list_0 l _ n b _ n2 hlong (by grind) (by omega)) ⟨e,e2,?_⟩
 refine⟨.non,_,I.lset hH e (by simp) (r.append r2) ?_,rfl,q⟩;rw[la0];omega
noncomputable def KZ:V->List V->Hp->VK->Prop:=λx vs H Q=>∃l xs y,x=.ref l/\vs=[]/\H l=some (.lst xs)/\xs[xs.length-1]?=some y/\Q y (upd H l (.lst xs.dropLast))
def Ed:MtM X "list.pop" KZ:=by
 intro pins s σ H x vs v us Q I rx rv h;obtain⟨l,xs,y,rfl,rfl,hH,hy,q⟩:=h;cases rx;have hus:=rv.zero;subst hus;obtain⟨z,its,n,r,hl,e⟩:=I.lstM hH;obtain⟨u,hu,ru⟩:=r.get hy;have hy':its.toArray[its.toArray.size-1]?=some u:=by
  simp_all
 refine call_meets F.slot_list_pop ⟨_,e,rfl⟩ F.entry_list_pop (F.args_list_pop_1 _) (MeetsSeq.list_pop_last l _ n u hy' (by simp_all)) ⟨e,?_⟩;refine⟨y,_,I.lset hH e ?_ r.dropLast ?_,ru,q⟩
 .simp
 .rw[List.length_dropLast]
  omega
noncomputable def La:R2:=λx y H Q=>∃l b xs zs,x=.ref l/\y=.ref b/\H l=some (.lst xs)/\H b=some (.lst zs)/\xs.length+zs.length<=sizeLine/\∀p,H p=none->Q (.ref p) (upd H p (.lst (xs++zs)))
def op_cat:OpR X (binaryOp .Add) La:=by
 intro pins s σ H x y v u Q I rx ry h;obtain⟨l,b,xs,zs,rfl,rfl,hH,hB,hz,q⟩:=h;cases rx;cases ry;obtain⟨z,its,n,r,hl,e⟩:=I.lstM hH;obtain⟨z2,its2,n2,r2,hl2,e2⟩:=I.lstM hB;refine PySem.P.add_list e e2 ?_ (by simp_all);have ea:its.toArray++its2.toArray=(its++its2).toArray:=by simp
 rw[ea];exact⟨.ref _,_,I.lnew (r.append r2) (by rw[la0];omega),rfl,q _ I.fresh⟩
noncomputable def Lb:R2:=λx y H Q=>∃l k xs,x=.ref l/\y=.int k/\H l=some (.lst xs)/\ -(2 ^ 63)<=k/\k<2 ^ 63/\xs.length*k.toNat<=sizeLine/\
 ∀p,H p=none->Q (.ref p) (upd H p (.lst (List.replicate k.toNat xs).flatten))
def len_rep(xs:List α)(k:Nat):(List.replicate k xs).flatten.length=k*xs.length:=by
 simp
def Ee:OpR X (binaryOp .Mult) Lb:=by
 intro pins s σ H x y v u Q I rx ry h;obtain⟨l,k,xs,rfl,rfl,hH,h1,h2,hz,q⟩:=h;cases rx;obtain⟨t,rfl⟩:=ry;obtain⟨z,its,n,r,hl,e⟩:=I.lstM hH;have hlen:its.toArray.size*k.toNat<=sizeLine:=by rw[ls0,<-hl];exact hz
 have hcap:¬ its.toArray.size*k.toNat>(2 ^ 63-1) / 8:=by
  have:(sizeLine:Nat)<=(2 ^ 63-1) / 8:=by decide
  omega
 have hfit:¬ (!Builtin.List.listFitsIndex k)=true:=by
  rw[fitsIndex_both h1 h2];exact fx0
 have hlong:¬ Builtin.List.listTooLong (its.toArray.size*k.toNat)=true:=by
  rw[mQ hlen];exact fx0
 have hnew:List.foldl (λx1 x2=>x1++x2) #[] (List.replicate (if its.toArray.isEmpty=true then 0 else k.toNat) its.toArray)=(List.replicate k.toNat its).flatten.toArray:=by
  have f0:=λm=>by
   have:=foldl_rep its m [];omega
  rw[f0];cases its<;>simp_all
 refine wpAny_binaryOp_repeat_ref (T:="list") (U:="int") (by decide) ⟨_,e,rfl⟩ (λs'=>typeIs_int s' k t) noFill_list_mul F.fills_int_mul F.slot_int_rmul repeat_list F.slot_int_index.lookup
  (call_meets F.slot_int_rmul (typeIs_int s k t) F.entry_int_rmul (F.args_int_rmul_2 _ _) (int___rmul___int_list k t l its.toArray n)
   ⟨e,rfl,⟨_,e,rfl⟩,call_meets F.slot_list_mul ⟨_,e,rfl⟩ F.entry_list_mul (F.args_list_mul_2 _ _) (AutoListH.list___mul___list_int_3 l its.toArray n k t hfit hcap hlong) ⟨e,?_⟩⟩)
 rw[hnew];exact⟨.ref _,_,I.lnew (t':=s.toks) (r.rep k.toNat) (by rw[len_rep,Nat.mul_comm];exact hz),rfl,q _ I.fresh⟩
section
variable {A:Around}{E:Value->Shared->Prop}
end
end L2
namespace Att
open PySem PySem.W PySem.Calls PyProof.Rows
def ir{P:Params}:∀(ns:List Int)(vs:List Value),WellAll P h vs (ns.map WData.int)->IntsAre vs ns:=by
 intro ns
 induction ns with
 |nil=>
  intro vs w;cases w;exact .nil
 |cons n ns ih=>
  intro vs w;cases w with
  |cons a b=>
   cases a;exact .cons _ _ (ih _ b)
def tH{l:OpenLaw}(hn:l.most=some n){P:Params}{args:List WData}{vals:List Value}
  (hpre:l.row.toRowW.claim.pre args=true) (hwl:WellAll P h vals args):
  ∃a vs ns,vals=[Value.ref a]/\args=[WData.list (ns.map WData.int)]/\h.get? a=some {cls:=.type "list",data:=.seq vs.toArray}/\IntsAre vs ns/\ns.length<=n:=by
 have hsh:WShape.hasAll [] args [_]=true:=(pre_splitW hpre).1;have hc:l.pre.holds [] _=true:=(pre_splitW hpre).2;obtain⟨d,r,rfl,h1,h2⟩:=hasAllW_cons hsh;obtain rfl:=hasAllW_nil h2;obtain⟨xs,rfl,h3⟩:=hasW_list h1;obtain⟨ns,rfl⟩:=items_int h3;have hlen:ns.length<=n:=by
  have h4:=by
   have h4:=(holds_andW hc).1
   rwa [hn]at h4
  have h5:=condW_of h4 (w_not (w_lt w_lit (w_len_list (w_arg rfl))))
  simp_all
 cases hwl with
 |cons w1 w2=>
  cases w2;cases w1 with
  |list ho hall=>exact⟨_,_,ns,rfl,rfl,ho,ir ns _ hall,hlen⟩
def tI(l:OpenLaw)(args:List WData):l.row.toRowW.claim.post args (.bool true) args=true:=
 postW_of
  (rfl)
  (w_eq_bool (w_res rfl) w_lit) rfl
def attach_call{l:OpenLaw}{q:Program}{XP:(Str->Option Value)->Heap->Prop}{YP:World->Heap->Prop}{d:DefRec}
  (hn:l.most=some n) (hdf:d.params.defaults=[])
  (call:∀(w:World)(s₀ s₁:Shared)(mg mb:Str->Option Value)(fa:Addr)(o:Obj)(pm cd doc:Value)(a:Addr)(vs:List Value)(ns:List Int),
   Ground q loose [] XP w s₀ mg mb s₁.heap->YP w s₁.heap->
   s₁.heap.get? fa=some o->o.data=.func (docDef d.name d.params d.body d.scope pm cd doc)->s₁.heap.CodeRec cd d.name->mg d.name=some (.ref fa)->
   s₁.heap.get? a=some {cls:=.type "list",data:=.seq vs.toArray}->IntsAre vs ns->ns.length<=n->s₁.gens=#[]->
   codeAny (model l.prog w) callerA (.call (.ref fa) ⟨[.ref a],[]⟩) (λr s'=>r=.ok (.ret (.bool true))/\OldK s₁.heap s'.heap/\s'.os=s₁.os/\AllBare s'.gens) s₁):
  WalkO q loose XP YP l.row.toRowW d [] (λf vs=>PySem.call f vs):=by
 intro w s₀ s₁ mg mb G Y fa o pm cd doc dV kV ho hd hcd hD hmg hg args vals as hpre hlay hrd hwl hlo;obtain rfl:dV=.none:=Dflts.none hD hdf;obtain rfl:kV=.none:=Dflts.noKw hD;obtain⟨a,vs,ns,rfl,rfl,hobj,hints,hlen⟩:=tH hn hpre hwl;refine enter_call (codeAny_mono (call w s₀ s₁ mg mb fa o pm cd doc a vs ns G Y ho (fd_plain hd) hcd hmg hobj hints hlen hg) λr s' hq=>?_);obtain⟨rfl,h2,h3,h4⟩:=hq;exact⟨.inl ⟨_,_,[],rfl,λb=>rfl,.bool true,tI l _,λb=>⟨List.Pairwise.nil,λb hm=>(nomatch hm)⟩⟩,h2,h3,h4⟩
section
variable {A:Around}{E:Value->Shared->Prop}{K:Frag}
end
end Att
namespace L2
open PySem PySem.Spec PyProof.Rows
theorem bg:∀{vs:List Value}{ns:List Int},IntsAre vs ns->Vals (ns.map V.int) vs
 |_,_,.nil=>.nil
 |_,_,.cons n t h=>.cons ⟨t,rfl⟩ (bg h)
def Ef(H:Hp):Prop:=∀b,H b=none\/∃o xs,H b=some (.frz o (.lst xs))
def vZ{K:fg0}{mb:Str->Option Value}{CX:CXT}{k:Nat}{fa:Addr}{sp:Sp}{s₁:Shared}{vs:List Value}
  (KX:K.In s₁.heap) (hns:s₁.heap.Ns mainGlobals mg) (hb:s₁.heap.Ns builtinsNs mb) (hbb:∀x:Str,x≠"__name__"->mb x=bootBuiltins x) (hlim:s₁.heap.NoLimit) (hg:s₁.gens=#[])
  (ha:s₁.heap.get? a=some {cls:=.type "list",data:=.seq vs.toArray}) (hi:IntsAre vs ns) (hl:ns.length<=sizeLine) (hr:Room k callerA)
  (F:∀base:Heap,K.In base->base.Ns mainGlobals mg->FnOk P w K mg base CX k fa fd [x] sp) (hbind:∀(s:Shared)(u:Value),BindsTo s fd ⟨[u],[]⟩ [(x,u)])
  (hsp:∀H:Hp,Ef H->SqL K H a (ns.map V.int)->sp [.ref a] H (λv c=>v=.bl true) λc c c=>False)
  (hCX:∀H e s',CX [] H s₁ (λc c c=>False) e s'->False):
  codeAny (model P w) callerA (.call (.ref fa) ⟨[.ref a],[]⟩) (λr s'=>r=.ok (.ret (.bool true))/\OldK s₁.heap s'.heap/\s'.os=s₁.os/\AllBare s'.gens) s₁:=by
 have rv:=bg hi;have lenV:=hi.length;have core:∀H:Hp,Ef H->SqL K H a (ns.map V.int)->HOk P w H s₁.heap->(∀b,H b≠none->b=a)->(H a≠none->K.lookup a=none)->
   codeAny (model P w) callerA (.call (.ref fa) ⟨[.ref a],[]⟩) (λr s'=>r=.ok (.ret (.bool true))/\OldK s₁.heap s'.heap/\s'.os=s₁.os/\AllBare s'.gens) s₁:=by
  intro H hO hS hok hA hK;have base_of:∀{b:Addr}{o:Obj},s₁.heap.get? b=some o->H b=none->(lq s₁.heap H).get? b=some o:=λe n=>vC e n
  have noA:∀{b:Addr}{o:Obj}{es:Array DictEntry}{ep:Nat},s₁.heap.get? b=some o->o.data=.dict es ep->H b=none:=λ{b o es ep} e d=>by
   cases q:H b with
   |none=>rfl
   |some u=>
    have e':b=a:=hA b (by rw[q];simp);subst e';rw[ha]at e;cases e;have d':Data.seq vs.toArray _=Data.dict es ep:=d;cases d'
  have nsK:∀{b:Addr}{m:Str->Option Value},s₁.heap.Ns b m->(lq s₁.heap H).Ns b m:=λ{b m} ⟨o,es,ep,e,d,r⟩=>⟨o,es,ep,base_of e (noA e d),d,r⟩
  have hKb:K.In (lq s₁.heap H):=λb o e=>base_of (KX b o e) (by
   cases q:H b with
   |none=>rfl
   |some u=>
    have e':b=a:=hA b (by rw[q];simp);subst e';rw[hK (by rw[q];simp)]at e;cases e)
  have hM:Mod K mg (lq s₁.heap H):=⟨hKb,nsK hns,⟨mb,nsK hb,hbb⟩,let ⟨mc,h1,h2⟩:=hlim;⟨mc,nsK h1,h2⟩⟩;have e0:Env0 P w K mg (lq s₁.heap H) callerA [] s₁ H:=⟨rfl,hM,λb o e=>zH e,Nat.le_of_eq (tf _ _),trivial,λb hb=>absurd (show b∈([]:List Addr)from hb) (by simp),hok,.of_eq hg⟩;refine codeAny_mono ((F _ hKb (nsK hns)).run callerA [] s₁ H ⟨[.ref a],[]⟩ [.ref a] [.ref a] _ _ hr e0 (hbind s₁ (.ref a)) (.cons rfl .nil) (hsp H hO hS)) λr s' h=>?_
  cases r with
  |error e=>exact (hCX H e s' h).elim
  |ok fl=>
   cases fl with
   |next=>exact False.elim h
   |brk=>exact False.elim h
   |cont=>exact False.elim h
   |ret u=>
    obtain⟨v,H',os,bare,un,hok',r',q⟩:=h;have q':v=.bl true:=q;subst q';obtain rfl:u=Value.bool true:=r';refine⟨rfl,OldK.of_keep λb o e=>?_,os,bare⟩;cases q:H b with
    |none=>exact un.keep b o e q (by intro z;exact absurd (show b∈([]:List Addr)from z) (by simp)) (by simp)
    |some u=>
     rcases hO b with z|⟨ob,xs,z⟩
     .rw[q]at z;cases z
     .have z2:=un.frzs b ob _ z
      obtain⟨e1,_⟩:=hok b _ z;obtain⟨e2,_⟩:=hok' b _ z2;rw[e]at e1;cases e1;exact e2
 cases hk:K.lookup a with
 |some o=>
  have e:=KX a o hk;rw[ha]at e;cases e;refine core (λc=>none) (λc=>.inl rfl) (.inr ⟨_,vs.toArray,_,hk,rfl,rfl,rfl,by rw[ls0,lenV];exact hl,by simpa using rv⟩) (λb u z=>by have z':(none:Option HO)=some u:=z;cases z') (λb z=>absurd rfl z) λz=>absurd rfl z
 |none=>
  refine core (λb=>if b=a then some (.frz {cls:=.type "list",data:=.seq vs.toArray} (.lst (ns.map V.int)))else none) (λb=>?_) (.inl (.inr ⟨{cls:=.type "list",data:=.seq vs.toArray},if_pos rfl⟩)) (λb u z=>?_) (λb z=>?_) λc=>hk
  .by_cases hb:b=a
   .exact .inr ⟨_,_,if_pos hb⟩
   .exact .inl (if_neg hb)
  .by_cases hb:b=a
   .have z':=(if_pos hb).symm.trans z
    cases z';subst hb;exact⟨ha,by rw[lm0];exact hl,vs,_,rv,ha⟩
   .have z':=(if_neg hb).symm.trans z
    cases z'
  .by_cases hb:b=a
   .exact hb
   .exact absurd (if_neg hb) z
def qW{l:PySem.W.OpenLaw}{k:Nat}{q:Program}{XP:(Str->Option Value)->Heap->Prop}{YP:World->Heap->Prop}{d:DefRec}{K:Params->fg0}{CX:World->CXT}{sp:World->Sp}
  (hn:l.most=some n) (hn2:n<=sizeLine) (hdf:d.params.defaults=[]) (hr:Room k callerA)
  (hY:∀(w:World)(h:Heap),YP w h->(K w.params).In h)
  (F:∀(w:World)(mg:Str->Option Value)(fa:Addr)(h:Heap),(K w.params).In h->h.Ns mainGlobals mg->mg d.name=some (.ref fa)->
   ∃fd:FuncData,(∀(s:Shared)(u:Value),BindsTo s fd ⟨[u],[]⟩ [(x,u)])/\
    ∀base:Heap,(K w.params).In base->base.Ns mainGlobals mg->FnOk l.prog w (K w.params) mg base (CX w) k fa fd [x] (sp w))
  (hsp:∀(w:World)(H:Hp)(a:Addr)(ns:List Int),ns.length<=n->Ef H->SqL (K w.params) H a (ns.map V.int)->sp w [.ref a] H (λv c=>v=.bl true) λc c c=>False)
  (hCX:∀(w:World)(H:Hp)(s:Shared)(e:Value)(s':Shared),CX w [] H s (λc c c=>False) e s'->False):
  PySem.W.WalkO q loose XP YP l.row.toRowW d [] (λf vs=>PySem.call f vs):=by
 refine Att.attach_call hn hdf λw s₀ s₁ mg mb fa o pm cd doc a vs ns G Y ho hd hcd hmg hobj hints hlen hg=>?_
 have KX:=hY w _ Y;obtain⟨fd,hb,hF⟩:=F w mg fa _ KX G.T.g hmg;exact vZ KX G.T.g G.T.b G.T.builtins G.T.nolimit hg hobj hints (nt0 hlen hn2) hr hF hb (λH hO hS=>hsp w H a ns hlen hO hS) λH e s'=>hCX w H _ e s'
noncomputable def defArgs(s:Stmt):Arguments:=match s with
 |.FunctionDef _ a _ _ _ _ _ _ _ _=>a
 |_=>{posonlyargs:=[],args:=[],vararg:=none,kwonlyargs:=[],kw_defaults:=[],kwarg:=none,defaults:=[]}
noncomputable def defBody(s:Stmt):List Stmt:=match s with
 |.FunctionDef _ _ b _ _ _ _ _ _ _=>b
 |_=>[]
noncomputable def defScope(s:Stmt):Scope:=match s with
 |.FunctionDef _ _ _ _ _ _ sc _ _ _=>sc
 |_=>{kind:=.function,names:=[],isGenerator:=false,isCoroutine:=false}
noncomputable abbrev CX0:CXT:=λa a a a a a=>False
noncomputable abbrev E0:XK:=λa a a=>False
def qX :eW CX0 X E0:=λa a a a a a a h=>h.elim
structure Fun(K:fg0)(x qual:Str)(st:Stmt)(f:Addr)(fd:FuncData):Prop where
 ex:∃(oc:Value)(od:Option Addr)(kV doc pm:Value)(an:Option Addr)(cdv ct:Value)(osl:Array (Option Value)),
  fd=PySem.W.fnOf x qual (defArgs st) (defBody st) (defScope st) .none kV doc pm an cdv ct/\K.lookup f=some ⟨oc,od,.func fd,osl⟩/\PySem.W.codeIn K cdv qual=true
 kp:PySem.W.keepIn K (.ref f)=true
section
variable {K:fg0}{base:Heap}
def Fun.ok{N ps:List Str}{k:Nat}{sp:Sp}(F:Fun K x qual st f fd)(S:bt N ps (defScope st))(len:∀vs H Q E,sp vs H Q E->vs.length=ps.length)
  (hbody:∀(cdv:Value)(A:Around)(outer:List Env)(s:Shared)(H:Hp)(vs:List V)(Q:VK)(E:XK),Room k (A.deeper (envOfC qual (defScope st) s.heap.objs.size f cdv))->sp vs H Q E->
   ∃t,PSs (dH CX0 P w K mg base N qual (defScope st) f cdv A outer s H E).nox (defBody st) t/\t {nx:=λa H'=>Q .non H',rt:=Q} (start N vs) H):FnOk P w K mg base CX0 (k+1) f fd ps sp:=by
 obtain⟨oc,od,kV,doc,pm,an,cdv,ct,osl,rfl,lk,hcd⟩:=F.ex;refine vV lk hcd S len λA outer s H vs Q E hr hsp=>?_
 obtain⟨t,h,q⟩:=hbody _ A _ s H vs Q E hr hsp;exact⟨t,h.nox,q⟩
def Fun.binds{ps:List Str}(F:Fun K x qual st f fd)
  (h:∀(kV doc pm:Value)(an:Option Addr)(cdv ct:Value)(us:List Value),us.length=ps.length->bindArgs (PySem.W.fnOf x qual (defArgs st) (defBody st) (defScope st) .none kV doc pm an cdv ct) ⟨us,[]⟩=pure (ps.zip us)):Binds K fd ps []:=by
 obtain⟨oc,od,kV,doc,pm,an,cdv,ct,osl,rfl,lk,hcd⟩:=F.ex;exact .all (h kV _ pm an _ ct)
def Eg{oc:Value}{od an:Option Addr}{osl:Array (Option Value)}{kV doc pm cdv ct:Value}(l:K.lookup f=some ⟨oc,od,.func (PySem.W.fnOf x qual (defArgs st) (defBody st) (defScope st) .none kV doc pm an cdv ct),osl⟩)
  (c:PySem.W.codeIn K cdv qual=true) (k:PySem.W.keepIn K (.ref f)=true):Fun K x qual st f (PySem.W.fnOf x qual (defArgs st) (defBody st) (defScope st) .none kV doc pm an cdv ct):=⟨⟨oc,od,kV,_,pm,an,_,ct,_,rfl,l,c⟩,k⟩
end
def eA(h:n<=1000):n<sizeLine:=Nat.lt_of_le_of_lt h (by decide)
def jG{A B:Prop}(h:B):if false=true then A else B:=h
def jH{A B:Prop}(h:A):if true=true then A else B:=h
def Same(H H':Hp):Prop:=∀b o,H b=some o->H' b=some o
def Same.refl(H:Hp):Same H H:=λa a h=>h
def Same.trans{H1 H2:Hp}(a:Same H H1)(b:Same H1 H2):Same H H2:=λc o h=>b c o (a c o h)
def Same.free(e:Same H H'){l:Addr}(h:H' l=.none):H l=.none:=by
 cases q:H l with
 |none=>rfl
 |some o=>
  rw[e l o q]at h;cases h
def Same.seq{K:fg0}(e:Same H H')(h:SqL K H a xs):SqL K H' a xs:=by
 rcases h with (h|⟨o,h⟩)|h
 .exact .inl (.inl (e _ _ h))
 .exact .inl (.inr ⟨o,e _ _ h⟩)
 .exact .inr h
section
variable {O:Type}[DecidableEq O]
noncomputable def dI(kvs:List (O×V))(k:O):Option V:=(kvs.find? λkv=>decide (kv.1=k)).map (·.2)
noncomputable def putK(kvs:List (O×V))(k:O)(v:V):List (O×V):=
 if (kvs.any λkv=>decide (kv.1=k))=true then kvs.map (λkv=>if kv.1=k then (kv.1,v)else kv)else kvs++[(k,v)]
def fz{p:O×V}{r:List (O×V)}{k:O}(e:p.1=k):dI (p::r) k=some p.2:=by simp[dI,e]
def fA{p:O×V}{r:List (O×V)}{k:O}(e:¬ p.1=k):dI (p::r) k=dI r k:=by simp[dI,e]
theorem mR(k:O):∀kvs:List (O×V),(kvs.any λkv=>decide (kv.1=k))=(dI kvs k).isSome
 |[]=>rfl
 |p::r=>by
  rw[List.any_cons]
  by_cases e:p.1=k
  .simp only[fz e,dt0 e,Bool.true_or,Option.isSome_some]
  .rw[fA e,df0 e,Bool.false_or];exact mR k r
def hZ(kvs:List (O×V))(k:O)(v:V):(putK kvs k v).length<=kvs.length+1:=by
 unfold putK
 grind
def RelO.isSome_eq{o:Option V}{u:Option Value}(r:RelO o u):o.isSome=u.isSome:=by
 cases o with
 |none=>cases u with
  |none=>rfl
  |some _=>exact (r).elim
 |some _=>cases u with
  |none=>exact (r).elim
  |some _=>rfl
def KV.val{kvs:List (O×V)}{vs:List (O×Value)}(r:KV kvs vs)(k:O):RelO (dI kvs k) (valueAt vs k):=by
 induction r with
 |nil=>exact True.intro
 |@cons p q ps qs h t ih=>
  obtain⟨h1,h2⟩:=h
  by_cases e:p.1=k
  .have e':=h1.symm.trans e
   have b:valueAt (q::qs) k=some q.2:=by simp[valueAt,e']
   rwa [fz e,b]
  .have e':¬ q.1=k:=λz=>e (h1.trans z)
   have b:valueAt (q::qs) k=valueAt qs k:=by simp[valueAt,e']
   rwa [fA e,b]
theorem KV.any{kvs:List (O×V)}{vs:List (O×Value)}(r:KV kvs vs)(k:O):(kvs.any λkv=>decide (kv.1=k))=vs.any λkv=>decide (kv.1=k):=by
 induction r<;>simp_all
def KV.repl{kvs:List (O×V)}{vs:List (O×Value)}(r:KV kvs vs)(k:O)(ry:RelV y u):
  KV (kvs.map λkv=>if kv.1=k then (kv.1,y)else kv) (vs.map λkv=>if kv.1=k then (kv.1,u)else kv):=by
 unfold KV at r ⊢
 induction r with
 |nil=>exact .nil
 |@cons p q ps qs h t ih=>
  rw[mk0,mk0];refine .cons ?_ ih;obtain⟨h1,h2⟩:=h
  by_cases e:p.1=k<;>simp_all
def KV.put{kvs:List (O×V)}{vs:List (O×Value)}(r:KV kvs vs)(k:O)(ry:RelV y u):KV (putK kvs k y) (stored vs k u):=by
 unfold putK stored;rw[r.any k]
 by_cases e:(vs.any λkv=>decide (kv.1=k))=true
 .rw[if_pos e,if_pos e];exact r.repl k ry
 .rw[if_neg e,if_neg e];exact Paired.snoc r ⟨rfl,ry⟩
def KV.keys{kvs:List (O×V)}{vs:List (O×Value)}(r:KV kvs vs):kvs.map (·.1)=vs.map (·.1):=by
 induction r<;>simp_all
theorem KV.length{kvs:List (O×V)}{vs:List (O×Value)}(r:KV kvs vs):kvs.length=vs.length:=Paired.length r
end
def qY{k:Key}(r:RelV (kV k) u):(aC P w).is k u=true:=by
 cases k with
 |inl i=>obtain⟨t,e⟩:=(r);subst e;exact mH P w i t
 |inr x=>obtain⟨t,e⟩:=(r);subst e;exact mI P w x t
theorem jZ :∀{ks:List Key}{us:List Value},Vals (ks.map kV) us->ItemsAre (aC P w) ks us
 |[],_,r=>by cases r;exact .nil
 |k::ks,_,r=>by
  cases r with
  |cons h t=>exact .cons (qY h) (jZ t)
noncomputable abbrev KT(H:Hp):List (List Key×V)->List (List Key×Addr×Value)->Prop:=Paired λp q=>p.1=q.1/\H q.2.1=some (.tup (p.1.map kV))/\RelV p.2 q.2.2
def KT.val{kvs:List (List Key×V)}{xs:List (List Key×Addr×Value)}(r:KT H kvs xs)(k:List Key):RelO (dI kvs k) ((atKey xs k).map (·.2)):=by
 induction r with
 |nil=>exact True.intro
 |@cons p q ps qs h t ih=>
  obtain⟨h1,_,h2⟩:=h
  by_cases e:p.1=k
  .have e':=h1.symm.trans e
   have b:atKey (q::qs) k=some q.2:=by simp[atKey,e']
   rwa [fz e,b]
  .have e':¬ q.1=k:=λz=>e (h1.trans z)
   have b:atKey (q::qs) k=atKey qs k:=by simp[atKey,e']
   rwa [fA e,b]
def KT.repl{kvs:List (List Key×V)}{xs:List (List Key×Addr×Value)}(r:KT H kvs xs)(k:List Key)(ry:RelV y u):
  KT H (kvs.map λkv=>if kv.1=k then (kv.1,y)else kv) (xs.map (putAt k u)):=by
 induction r with
 |nil=>exact .nil
 |@cons p q ps qs h t ih=>
  rw[mk0];refine .cons ?_ ih;obtain⟨h1,h2,h3⟩:=h;unfold putAt
  by_cases e:p.1=k
  .rw[if_pos e,if_pos (h1.symm.trans e)];exact⟨h1,h2,ry⟩
  .rw[if_neg e,if_neg (λz=>e (h1.trans z))];exact⟨h1,h2,h3⟩
def KT.put{kvs:List (List Key×V)}{xs:List (List Key×Addr×Value)}(r:KT H kvs xs)(k:List Key){b:Addr}(hb:H b=some (.tup (k.map kV)))(ry:RelV y u):
  KT H (putK kvs k y) (storedH xs k b u):=by
 have e:(kvs.any λkv=>decide (kv.1=k))=(atKey xs k).isSome:=by
  rw[mR,(r.val k).isSome_eq,Option.isSome_map]
 unfold putK storedH;rw[e]
 by_cases q:(atKey xs k).isSome=true
 .rw[if_pos q,if_pos q];exact r.repl k ry
 .rw[if_neg q,if_neg q];exact Paired.snoc r ⟨rfl,hb,ry⟩
def KT.keeps{kvs:List (List Key×V)}{xs:List (List Key×Addr×Value)}(r:KT H kvs xs)(ht:∀b ys,H b=some (.tup ys)->H' b=some (.tup ys)):KT H' kvs xs:=
 Paired.mapP r λa a z=>⟨z.1,ht _ _ z.2.1,z.2.2⟩
def CG{u:HO}(ok:HOk P w H h)(e:Rd H a u):ObjOk P w H h a u:=e.ok ok
def wa(ok:HOk P w H h)(e:Rd H a (.dK kvs)):kvs.length<=sizeLine/\(a==sysModules)=false/\∃vs,KV kvs vs/\h.DictOf (aC P w) a vs:=
 CG ok e
def CH(ok:HOk P w H h)(e:H a=some (.dK kvs)):kvs.length<=sizeLine/\(a==sysModules)=false/\∃vs,KV kvs vs/\h.DictOf (aC P w) a vs:=wa ok (.inl e)
def dJ{ks:List Key}(ok:HOk P w H h)(e:H a=some (.tup (ks.map kV))):(tupleKind (aC P w)).is h ks a:=by
 obtain⟨_,its,r,o,h1,h2,n,h3⟩:=(ok a _ e);exact⟨o,_,n,h1,h2,h3,by simpa using jZ r⟩
def wb{kvs:List (List Key×V)}(ok:HOk P w H h)(e:Rd H a (.dT kvs)):kvs.length<=sizeLine/\(a==sysModules)=false/\
  ∃xs,KT H kvs xs/\h.DictOfH (tupleKind (aC P w)) a xs:=by
 obtain⟨z,y,xs,r,o,es,ep,h1,h2,h3,h4,h5⟩:=(CG ok e);refine⟨z,y,xs,r,o,es,ep,h1,h2,h3,h4,λx hx=>?_,h5⟩;have all:∀{l:List _}{m:List _},KT H l m->∀x∈m,(tupleKind (aC P w)).is h x.1 x.2.1:=by
  intro l m q
  induction q with
  |nil=>simp
  |@cons p q ps qs hq t ih=>
   intro x hx;rcases mq0 hx with e|hx
   .exact dJ ok (by simp_all)
   .exact ih x hx
 exact all r x hx
def HQ{kvs:List (List Key×V)}(ok:HOk P w H h)(e:H a=some (.dT kvs)):kvs.length<=sizeLine/\(a==sysModules)=false/\
  ∃xs,KT H kvs xs/\h.DictOfH (tupleKind (aC P w)) a xs:=wb ok (.inl e)
def DGet(H:Hp)(a:Addr)(y:V)(r:Option V):Prop:=
 (∃kvs k,Rd H a (.dK kvs)/\y=kV k/\r=dI kvs k)\/∃kvs k b,Rd H a (.dT kvs)/\y=.ref b/\H b=some (.tup (k.map kV))/\r=dI kvs k
def DPut(H:Hp)(a:Addr)(y v:V)(H':Hp):Prop:=
 (∃kvs k,H a=some (.dK kvs)/\y=kV k/\kvs.length<sizeLine/\H'=upd H a (.dK (putK kvs k v)))\/
 ∃kvs k b,H a=some (.dT kvs)/\y=.ref b/\H b=some (.tup (k.map kV))/\kvs.length<sizeLine/\H'=upd H a (.dT (putK kvs k v))
theorem DGet.k{k:Key}(e:H a=some (.dK kvs)):DGet H a (kV k) (dI kvs k):=.inl ⟨_,k,.inl e,rfl,rfl⟩
theorem DPut.k{k:Key}{v:V}(e:H a=some (.dK kvs))(hl:kvs.length<sizeLine):DPut H a (kV k) v (upd H a (.dK (putK kvs k v))):=.inl ⟨_,k,e,rfl,hl,rfl⟩
section
variable {v:V}{r:Value}{o:Option V}{A:Around}{E:Value->Shared->Prop}
def Inv.big(I:Inv X pins σ H s):sysModules<s.heap.objs.size:=Nat.lt_trans (by decide) ((I.mod.glob.keeps I.bk).lt)
def Lc(hu:A.units+1<cLine)(I:Inv X pins σ H s)(g:DGet H a y o)(ry:RelV y u)(h:∀s',Inv X pins σ H s'->Q (.bool o.isSome) s'):
  wpAny (model X.prog X.w) A (compareOp .In u (.ref a)) Q E s:=by
 rcases g with⟨kvs,k,e,ey,l⟩|⟨kvs,k,b,e,ey,eb,l⟩
 .subst ey
  obtain⟨z,hd,vs,rel,dd⟩:=wa I.hok e;refine wpAny_in_of (qY ry) hd dd.mapOf ?_;rw[<-(rel.val k).isSome_eq,<-l];exact h _ (I.tok _)
 .subst ey
  cases (ry);obtain⟨z,hd,xs,rel,dd⟩:=wb I.hok e;refine wpAny_in_heap (tupleKind_room_in1 hu) (dJ I.hok eb) hd dd ?_;have q:=(rel.val k).isSome_eq;rw[Option.isSome_map]at q;rw[<-q,<-l];exact h _ (I.tok _)
def zV(hu:A.units+1<cLine)(I:Inv X pins σ H s)(g:DGet H a y o)(ry:RelV y u)(h:∀s',Inv X pins σ H s'->Q (.bool (!o.isSome)) s'):
  wpAny (model X.prog X.w) A (compareOp .NotIn u (.ref a)) Q E s:=by
 rcases g with⟨kvs,k,e,ey,l⟩|⟨kvs,k,b,e,ey,eb,l⟩
 .subst ey
  obtain⟨z,hd,vs,rel,dd⟩:=wa I.hok e;refine wpAny_notIn_of (qY ry) hd dd.mapOf ?_;rw[<-(rel.val k).isSome_eq,<-l];exact h _ (I.tok _)
 .subst ey
  cases (ry);obtain⟨z,hd,xs,rel,dd⟩:=wb I.hok e;refine wpAny_notIn_heap (tupleKind_room_in1 hu) (dJ I.hok eb) hd dd ?_;have q:=(rel.val k).isSome_eq;rw[Option.isSome_map]at q;rw[<-q,<-l];exact h _ (I.tok _)
def qZ{h':Heap}{ob:HO}(I:Inv X pins σ H s)(mu:Mut (H a))(hs:Heap.SameBut a s.heap h')(he:∃q,h'.get? a=some q)(new:ObjOk X.prog X.w (upd H a ob) h' a ob):
  Inv X pins σ (upd H a ob) {s with heap:=h',toks:=t'}:=
 I.write mu (.inl rfl) (λb q hb z=>(hs.2 b hb).trans z) he new
def dk_new{h':Heap}{vs:List (Key×Value)}(z:kvs.length<=sizeLine)(hd:(a==sysModules)=false)(rel:KV kvs vs)(dd:h'.DictOf (aC P w) a vs):
  ObjOk P w H' h' a (.dK kvs):=⟨z,hd,vs,rel,dd⟩
def tJ{Q:Unit->Shared->Prop}(hu:A.units+1<cLine)(I:Inv X pins σ H s)(g:DPut H a y v H')(ry:RelV y u)(rv:RelV v r)(h:∀s',Inv X pins σ H' s'->Q () s'):
  wpAny (model X.prog X.w) A (setItem (.ref a) u r) Q E s:=by
 rcases g with⟨kvs,k,e,ey,l,eH⟩|⟨kvs,k,b,e,ey,eb,l,eH⟩
 .subst ey eH
  obtain⟨z,hd,vs,rel,dd⟩:=CH I.hok e;have hz:vs.length<=sizeLine:=by rw[<-rel.length];exact z
  have hl:(putK kvs k v).length<=sizeLine:=by have:=hZ kvs k v;omega
  refine wpAny_setItem_pairs (hsz:=hz) (qY ry) dd λh' dd' hs=>h _ ?_
  have he:∃q,h'.get? a=some q:=let ⟨q,_,_,hq,_⟩:=dd';⟨q,hq⟩
  exact qZ I (by rw[e];exact True.intro) hs he (dk_new hl hd (rel.put k rv) dd')
 .subst ey eH
  cases (ry);obtain⟨z,hd,xs,rel,dd⟩:=HQ I.hok e;have hz:xs.length<=sizeLine:=by rw[<-Paired.length rel];exact z
  have hl:(putK kvs k v).length<=sizeLine:=by have:=hZ kvs k v;omega
  refine wpAny_setItem_heap (hsz:=hz) (tupleKind_room_in1 hu) (dJ I.hok eb) dd λh' dd' hs=>h _ ?_
  obtain⟨q,es,ep,hq,h2,h3,h4,_,h5⟩:=dd';refine qZ I (by rw[e];exact True.intro) hs ⟨q,hq⟩ ⟨hl,hd,_,(rel.put k eb rv).keeps λc ys ec=>?_,q,es,ep,hq,h2,h3,h4,h5⟩;rw[aa (Hx ec e (λz=>nomatch z))];exact ec
end
section
variable {k:Key}{A:Around}{E:Value->Shared->Prop}
end
section
variable {i value:Expr}{pos' tpos:Pos}{td ty tv:TE}
end
def wc(h:Heap)(hb:sysModules<h.objs.size):ObjOk P w H (h.push {cls:=.type "dict",data:=.dict #[]}) h.objs.size (.dK []):=
 ⟨Nat.zero_le _,bn0 (Ne.symm (nn0 hb)),[],.nil,Heap.DictOf.new h⟩
noncomputable def Eh:TE:=λa H Q=>∀p,H p=none->Q (.ref p) (upd H p (.dK []))
def mU:PE X (.Dict [] [] pos) Eh:=λpins s σ H Q I h=>
 wpAny_Dict_empty ⟨.ref _,_,I.laid (λa a q=>ps0 _ q) (nr0 _) (wc _ I.big),rfl,h _ (I.hok.fresh (nr0 _))⟩
section
variable {d:V}{r:Value}{o:Option V}{A:Around}{E:Value->Shared->Prop}
end
section
variable {f:Expr}{apos cpos:Pos}{td ty tx:TE}
end
section
variable {A:Around}{E:Value->Shared->Prop}
end
section
variable {A:Around}{E:Value->Shared->Prop}
end
section
variable {O:Type}[DecidableEq O]
end
end L2
namespace L2.C
open PySem PySem.Spec PyProof.Rows L2
noncomputable def gz(env:Env):List (Str×NameKind)->List (Str×Addr)->List (Str×Addr)
 |[],acc=>acc
 |(n,k)::r,acc=>if k==.free then gz env r ((n,(env.cells.lookup n).getD 0)::acc)else gz env r acc
def eQ(h:∀x∈scope.names,x.2=.free->(env.cells.lookup x.1).isSome=true):
  closureFor scope env=pure (gz env scope.names []):=by
 simp only[closureFor];generalize scope.names=l at h ⊢;generalize ([]:List (Str×Addr))=acc
 induction l generalizing acc with
 |nil=>rfl
 |cons x r ih=>
  obtain⟨n,k⟩:=x;rw[List.forIn_cons]
  by_cases hk:k=.free
  .subst hk
   have hc:=h (n,.free) ms0 rfl;obtain⟨c,hc⟩:=is0 hc;simp only[gz,cellOf,hc];have:=ih (λy hy=>h y (mc0 _ hy)) ((n,c)::acc);exact this
  .have hb:(k==NameKind.free)=false:=by simpa using hk
   simp only[gz,hb];exact ih (λy hy=>h y (mc0 _ hy)) acc
theorem gA :∀(l:List (Str×NameKind))(acc:List (Str×Addr)),(∀x∈l,x.2=.free->(env.cells.lookup x.1).isSome=true)->(∀x c,acc.lookup x=some c->env.cells.lookup x=some c)->
  ∀x c,(gz env l acc).lookup x=some c->env.cells.lookup x=some c
 |[],acc,_,ha,x,c,e=>ha x c e
 |(n,k)::r,acc,h,ha,x,c,e=>by
  unfold gz at e
  by_cases hk:k=.free
  .subst hk
   obtain⟨c',hc⟩:=is0 (h _ ms0 rfl);refine gA r _ (λy hy=>h y (mc0 _ hy)) (λy d q=>?_) x c e;rw[lk0]at q;cases hy:y==n<;>simp_all
  .have hb:(k==NameKind.free)=false:=by simpa using hk
   rw[if_neg (by simp_all)]at e;exact gA r acc (λy hy=>h y (mc0 _ hy)) ha x c e
theorem fB :∀(l:List (Str×NameKind))(acc:List (Str×Addr))(x:Str),((x,NameKind.free)∈l\/∃c,acc.lookup x=some c)->∃c,(gz env l acc).lookup x=some c
 |[],acc,x,h=>by
  rcases h with h|h
  .cases h
  .exact h
 |(n,k)::r,acc,x,h=>by
  unfold gz
  by_cases hk:k=.free
  .subst hk
   refine fB r _ x ?_;rcases h with h|⟨c,h⟩
   .rcases mq0 h with h|h<;>simp_all
   .right
    rw[lk0];cases hy:x==n with
    |true=>exact⟨_,rfl⟩
    |false=>exact⟨c,h⟩
  .rw[if_neg (by simp_all)]
   refine fB r _ x ?_
   grind
theorem bp{env:Env}(hk:env.scope.kind=.function):∀{names:List (Str×NameKind)}{x},names.lookup x=some .free->env.kindOf x=some .cell->
  (names.map λ(n,k)=>if (k==NameKind.free&&env.scope.kind==.function&&env.kindOf n==some .cell)then (n,NameKind.cell)else (n,k)).lookup x=some .cell
 |[],_,h,_=>by simp at h
 |(n,k)::r,x,h,hx=>by
  have ih:=@bp _ hk r x;show List.lookup x ((if (k==NameKind.free&&env.scope.kind==.function&&env.kindOf n==some _)=true then (n,NameKind.cell)else (n,k))::_)=_;cases hy:x==n with
  |true=>
   simp_all
  |false=>
   simp only[lk0,hy]at h
   by_cases hc:(k==NameKind.free&&env.scope.kind==.function&&env.kindOf n==some .cell)=true
   .rw[if_pos hc];simp only[lk0,hy];exact ih h hx
   .rw[if_neg hc];simp only[lk0,hy];exact ih h hx
section
variable {A:Around}{R:Result->Shared->Prop}
noncomputable abbrev lB(ifs:List Expr)(env:Env):Sem Bool:=
 forIn ifs true λc r=>if r=true then do let ok ←isTrue c env (eval c env);pure (ForInStep.yield ok)else pure (ForInStep.yield r)
def mV{elt target iter}{ifs}{pos}{it acc}(I:Nat->Shared->Prop)
  (turn:∀n s,I n s->wpAny (model prog w) A (pyNext it) (λr s1=>match r with
   |none=>R (.ok .next) s1
   |some v=>wpAny (model prog w) A (letOwnedTupleGo target it v) (λa s2=>wpAny (model prog w) A (assign target env v) (λa s3=>wpAny (model prog w) A (lB ifs env) (λok s4=>
     if ok=true then wpAny (model prog w) A (eval elt env) (λx s5=>wpAny (model prog w) A (call (.builtin "list.append") [acc,x]) (λa s6=>∃m,m<n/\I m s6) (λa a=>False) s5) (λa a=>False) s4
     else ∃m,m<n/\I m s4) (λa a=>False) s3) (λa a=>False) s2) (λa a=>False) s1) (λa a=>False) s)
  (n:Nat) (h:I n s):codeAny (model prog w) A (.compLoop (.ListComp elt [⟨target,iter,ifs,0⟩] scope pos) 0 it acc env) R s:=by
 have no:∀{E:Value->Shared->Prop}(x:Value)(s':Shared),False->E x s':=λa a z=>z.elim
 refine codeAny_loop rfl I (λn s hI=>?_) n h;show wpAny _ A _ _ _ s;refine wpAny_noted ?_;rw[compTurn_list];refine wb0 (wpAny_standAt (wb0 (wpAny_mono (turn n s hI) (λr s1 h1=>?_) no)));cases r with
 |none=>exact wq0 h1
 |some v=>
  refine wb0 (wpAny_mono h1 (λa s2 h2=>?_) no);refine wb0 (wpAny_mono h2 (λa s3 h3=>?_) no);refine wb0 (wpAny_mono h3 (λok s4 h4=>?_) no);cases ok with
  |false=>exact wq0 ⟨rfl,h4⟩
  |true=>
   refine wb0 (wb0 (wpAny_mono h4 (λx s5 h5=>?_) no));exact wb0 (wpAny_mono h5 (λa s6 h6=>wq0 (wq0 ⟨rfl,h6⟩)) no)
end
noncomputable def blk(X:Cx)(scope:Scope)(N:List Str)(C:Addr)(s:Shared)(H:Hp)(fp:List Addr):Cx where
 prog:=X.prog
 w:=X.w
 K:=X.K
 mg:=X.mg
 base:=X.base
 A:=X.A
 N:=N
 s₀:=s
 H₀:=H
 env:=compEnvC scope (gz X.env scope.names []) C X.env
 outer:=X.stack
 stack:=X.stack
 ex:=fp
 fn:=λa=>false
 calm:=X.calm
 pn:=[]
 xe:=λa a=>False
noncomputable def aY(X:Cx)(tn:List Str)(js:List Nat):List Str:=tn++js.map λj=>X.N.getD j Str.empty
noncomputable def iu(tn:List Str)(js:List Nat)(σ:St):St:=tn.map (λa=>.none)++js.map λj=>(σ[j]?).join
structure BlkOk(X:Cx)(scope:Scope)(js:List Nat):Prop where
 kind:scope.kind=.function
 free:∀y∈scope.names,y.2=.free->X.env.kindOf y.1=some .cell
 cell:∀y∈scope.names,y.2≠.cell
 loc:∀y∈scope.names,y.2=.local->scope.names.lookup y.1=some .local
 js:∀j∈js,∃x,X.N[j]?=some x/\scope.names.lookup x=some .free
section
variable {tn:List Str}{fp:List Addr}
theorem BlkOk.cells(B:BlkOk X scope js)(I:Inv X pins σ H s):∀x∈scope.names,x.2=.free->(X.env.cells.lookup x.1).isSome=true:=λx hx hf=>by
 obtain⟨c,e⟩:=I.ok.has _ (.inl (B.free x hx hf));rw[e];rfl
def BlkOk.from(B:BlkOk X scope js)(I:Inv X pins σ H s){x}{c}(e:(gz X.env scope.names []).lookup x=some c):X.env.cells.lookup x=some c:=
 gA _ [] (B.cells I) (λa a z=>by cases z) x c e
def we(B:BlkOk X scope js)(I:Inv X pins σ H s)(hf:∀b∈fp,iO X pins H b)(ho:∀b∈fp,∃o,s.heap.get? b=some o){C:Addr}(hC:s.heap.objs.size<=C):(blk X scope (aY X tn js) C s H fp).Ok where
 mod:=I.ok.mod
 kind:=B.kind
 glob:=I.ok.glob
 blt:=I.ok.blt
 above:=hC
 inj:=λx y c h1 h2=>I.ok.inj x y c (B.from I h1) (B.from I h2)
 has:=λx hx=>by
  refine fB scope.names [] x (.inl ?_);have hm:=hx.imp ml0 ml0;have key:∀k,(x,k)∈(relabel scope X.env).names->k=.cell\/k=.free->(x,NameKind.free)∈scope.names:=λk hk hkk=>by
   obtain⟨⟨n,k0⟩,hn,e⟩:=mm0 hk
   by_cases hc:(k0==NameKind.free&&X.env.scope.kind==.function&&X.env.kindOf n==some .cell)=true
   .simp_all
   .have e':(n,k0)=(x,k):=by rw[<-e];exact (if_neg hc).symm
    cases e';rcases hkk with rfl|rfl
    .exact absurd rfl (B.cell _ hn)
    .exact hn
  rcases hm with hm|hm
  .exact key _ hm (.inl rfl)
  .exact key _ hm (.inr rfl)
 cab:=λx c h a=>by cases h
 hd:=I.ok.hd
 frames:=I.ok.frames
 stk:=.inl rfl
 exf:=λb hb=>⟨by
  obtain⟨o,e⟩:=ho b hb;exact nn0 (nl0 (hs0 e) hC),λx c e=>(hf b hb).2.2.2.2.1 x c (B.from I e)⟩
 bs:=I.bs
 bsz:=nt0 I.ok.bsz I.sz
 noex:=λb o e hb=>by
  rcases (hf b hb).2.2.2.1 with z|z
  .exact I.ok.noex b o e z
  .exact absurd (nl0 (hs0 e) (nt0 I.ok.bsz z)) (li0 _)
 exfs:=λb hb z=>by
  obtain⟨_,h1,h2,_⟩:=hf b hb;exact (mq0 (I.stkSub b z)).elim h1 h2
 funs:=I.stack
 frf:=I.stkFree
def zW(B:BlkOk X scope js)(I:Inv X pins σ H s)(hf:∀b∈fp,iO X pins H b)(ho:∀b∈fp,∃o,s.heap.get? b=some o){C D:Addr}(hD:s.heap.objs.size<=D)(hC:s.heap.objs.size<=C)(hCD:C≠D){h1}{tk}
  (k:∀b o,s.heap.get? b=some o->h1.get? b=some o) (hl:h1.get? D=some {cls:=.type "list",data:=.seq (#[]:Array Value) 0}) {m} (hns:h1.Ns C m):
  Inv (blk X scope (aY X tn js) C s H fp) [] (iu tn js σ) (upd H D (.lst [])) {s with heap:=h1,toks:=tk}:=by
 have hDn:=I.hok.fresh hD;refine⟨we B I hf ho hC,rfl,I.bare,Un.laid k hD hDn,⟨m,hns,λi x v e1 e2 e3=>?_⟩,λx c e=>?_,?_,λx c e=>?_,λp hp=>absurd (show p∈([]:List (Addr×Obj))from hp) (by simp),I.hok.laid k hD ⟨by simp,[],0,.nil,by simpa using hl⟩,?_⟩
 .have e1:(aY X tn js)[i]?=some x:=e1
  by_cases hi:i<tn.length
  .unfold iu at e2
   rw[gl0 (by simpa using hi),gm0]at e2;cases q:tn[i]? with
   |none=>rw[q]at e2;cases e2
   |some y=>rw[q]at e2;cases e2
  .unfold iu at e2
   unfold aY at e1;rw[List.getElem?_append_right (by simp;simp_all),gm0]at e2;rw[List.getElem?_append_right (by simp_all),gm0]at e1;rw[lm0]at e2;cases q:js[i-tn.length]? with
   |none=>rw[q]at e2;cases e2
   |some j=>
    rw[q]at e1 e2;have e2:(σ[j]?).join=some v:=Option.some.inj e2;obtain⟨y,hy,hyf⟩:=B.js j (mg0 q);have e1:X.N.getD j Str.empty=x:=Option.some.inj e1;have ey:y=x:=by rw[<-e1,List.getD_eq_getElem?_getD,hy];rfl
    subst ey;have e2':σ[j]?=some (some v):=by
     cases r:σ[j]? with
     |none=>rw[r]at e2;cases e2
     |some o=>rw[r]at e2;cases o with
      |none=>cases e2
      |some v'=>cases e2;rfl
    have hk:=B.free _ (ml0 hyf) rfl;obtain⟨m0,_,hl0⟩:=I.loc;obtain⟨u,r,lk⟩:=hl0 j y v hy e2' (.inr (.inl hk));refine⟨u,r,?_⟩;rcases lk with⟨z,_⟩|⟨_,c,hc,z⟩
    .rw[hk]at z;cases z
    .obtain⟨c',hc'⟩:=fB (env:=X.env) scope.names [] y (.inl (ml0 hyf))
     have:c'=c:=by have:=B.from I hc';rw[hc]at this;exact (Option.some.inj this).symm
     subst this;refine .inr ⟨.inl (bp I.ok.kind hyf hk),c',hc',?_⟩;obtain⟨o,h2,h3⟩:=z;exact⟨o,k _ _ h2,h3⟩
 .obtain⟨v,o,h2,h3⟩:=I.cell x c (B.from I e)
  exact⟨v,o,k _ _ h2,h3⟩
 .show upd H D (.lst []) C=none
  rw[aa hCD];exact I.hok.fresh hC
 .show upd H D (.lst []) c=none
  have e':=B.from I e;obtain⟨v,o,h2,h3⟩:=I.cell x c e';rw[aa (nn0 (nl0 (hs0 h2) hD))];exact I.freeC x c e'
 .show (iu tn js σ).length=(aY X tn js).length
  unfold iu aY;simp
end
def PCs(X:Cx)(ifs:List Expr)(t:TT):Prop:=
 ∀(pins:List (Addr×Obj))(s:Shared)(σ:St)(H:Hp)(Q:Bool->Hp->Prop),Inv X pins σ H s->t σ H Q->wpAny (model X.prog X.w) X.A (lB ifs X.env) (TP X pins σ Q) X.xe s
def zX :PCs X [] (λa H Q=>Q true H):=λa a a H a I h=>wpAny_tests_nil ⟨H,I,h⟩
noncomputable def CI(tn:List Str)(js:List Nat)(wi:TI)(g:TG)(tc:TT)(te:TE):TE:=λσ H Q=>wi σ H λJ H1=>∀p,H1 p=none->∃W:Nat->Nat->St->Hp->Prop,(∃m,W 0 m (iu tn js σ) (upd H1 p (.lst [])))/\∀i m σ' H',W i m σ' H'->
 (J.stop i H'/\Q (.ref p) H')\/(J.go i H'/\∀x H2,J.yld i H' x H2->g x σ' H2 λσ2 H3=>tc σ2 H3 λb H4=>
  if b=true then te σ2 H4 λy H5=>∃ys,H5 p=some (.lst ys)/\ys.length<sizeLine/\∃m',m'<m/\W (i+1) m' σ2 (upd H5 p (.lst (ys++[y])))else ∃m',m'<m/\W (i+1) m' σ2 H4)
section
variable {elt iter tg:Expr}{ifs:List Expr}{tn:List Str}{wi:TI}{g:TG}{tc:TT}{te:TE}
def ka{s2:Shared}{E:Value->Shared->Prop}{RR:Value->Addr->Result->Shared->Prop}{Q:VK}{itv:Value}(B:BlkOk X scope js)(hcalm:X.calm=true)
  (hg:∀C s H fp,PG (blk X scope (aY X tn js) C s H fp) tg g) (hc:∀C s H fp,PCs (blk X scope (aY X tn js) C s H fp) ifs tc) (he:∀C s H fp,PE (blk X scope (aY X tn js) C s H fp) elt te)
  (h2:PIE X pins σ tg (λJ H1=>∀p,H1 p=none->∃W:Nat->Nat->St->Hp->Prop,(∃m,W 0 m (iu tn js σ) (upd H1 p (.lst [])))/\∀i m σ' H',W i m σ' H'->
   (J.stop i H'/\Q (.ref p) H')\/(J.go i H'/\∀x H2,J.yld i H' x H2->g x σ' H2 λσ2 H3=>tc σ2 H3 λb H4=>
    if b=true then te σ2 H4 λy H5=>∃ys,H5 p=some (.lst ys)/\ys.length<sizeLine/\∃m',m'<m/\W (i+1) m' σ2 (upd H5 p (.lst (ys++[y])))else ∃m',m'<m/\W (i+1) m' σ2 H4)) itv s2)
  (fin:∀(C D:Addr)(s':Shared)(H':Hp)(m:Str->Option Value),Inv X pins σ H' s'->s2.heap.objs.size<=C->C≠X.env.locals->(∀x c,X.env.cells.lookup x=some c->c≠C)->(∀p∈X.pn++pins,p.1≠C)->X.s₀.heap.objs.size<=C->H' C=none->s'.heap.Ns C m->
   Q (.ref D) H'->RR (.ref D) C (.ok .next) s'):
  wpAny (model X.prog X.w) X.A (newList []) (λacc s3=>wpAny (model X.prog X.w) X.A (newFunctionEnv scope X.env.globals (gz X.env scope.names []) [] X.env.qual none .none (some X.env)) (λcenv s4=>
   codeAny (model X.prog X.w) X.A (.compStart (.ListComp elt [⟨tg,iter,ifs,0⟩] scope pos) 0 itv acc {cenv with scope:=relabel scope X.env}) (RR acc cenv.locals) s4) E s3) E s2:=by
 obtain⟨it,fp,tnn,J,H2,e,I2,T,st2,f2,R⟩:=h2;subst e;refine wpAny_newObj_type (wpAny_newFunctionEnv B.cell (by intro y hy;simp at hy) (λh1 hns hsb=>?_) B.kind);dsimp only at hns hsb ⊢;generalize hP:s2.heap.push {cls:=.type "list",dict:=none,data:=.seq ([]:List Value).toArray}=P2 at hns hsb ⊢;have hC:P2.objs.size=s2.heap.objs.size+1:=by rw[<-hP,Heap.size_push]
 have hCle:s2.heap.objs.size<=P2.objs.size:=by simp_all
 have hCD:P2.objs.size≠s2.heap.objs.size:=by simp_all
 have old:∀b o,s2.heap.get? b=some o->h1.get? b=some o:=λb o e=>
  hsb.extBut b o (nn0 (nl0 (hs0 e) hCle)) (ps0 _ (hP▸ps0 _ e))
 have hacc:h1.get? s2.heap.objs.size=some {cls:=.type "list",data:=.seq (#[]:Array Value) 0}:=
  hsb.extBut _ _ (Ne.symm hCD) (ps0 _ (hP▸pz0 _ rfl))
 have ho:∀b∈fp,∃o,s2.heap.get? b=some o:=λb hb=>let ⟨o,e,_⟩:=T.obj 0 _ st2 b hb;⟨o,e⟩
 have hDn:H2 s2.heap.objs.size=none:=I2.hok.fresh (nr0 _);obtain⟨W,⟨m0,w0⟩,turn⟩:=R _ hDn;have I4:=zW (tn:=tn) (tk:=s2.toks+([]:List (Str×Value)).length) B I2 f2 ho (nr0 _) hCle hCD old hacc hns;have fpo:∀{H':Hp},(∀b∈fp,H' b=none)->∀b∈fp,iO (blk X scope (aY X tn js) P2.objs.size s2 H2 fp) [] H' b:=λhn=>(have I:=I2;have hf:=f2;have hC:=hCle;λb hb=>by
   have ok:=we (tn:=tn) B I hf ho hC;exact⟨hn b hb,(ok.exf b hb).1,ok.exfs b hb,.inl hb,(ok.exf b hb).2,λp hp=>absurd (show p∈[] from hp) (by simp)⟩)
 have st4:tnn 0 h1:=T.keep _ _ _ st2 λb hb o e=>old b o e
 have fr4:∀b∈fp,upd H2 s2.heap.objs.size (.lst []) b=none:=λb hb=>by
  obtain⟨o,e⟩:=ho b hb;rw[aa (nn0 (hs0 e))];exact (f2 b hb).1
 have loop:∀s3:Shared,s3={s2 with heap:=h1,toks:=s2.toks+([]:List (Str×Value)).length}->
   codeAny (model X.prog X.w) X.A (.compLoop (.ListComp elt [⟨tg,iter,ifs,0⟩] scope pos) 0 (.ref it) (.ref s2.heap.objs.size) (compEnvC scope (gz X.env scope.names []) P2.objs.size X.env)) (RR (.ref s2.heap.objs.size) P2.objs.size) s3:=by
  rintro s3 rfl
  refine mV (λn s'=>∃i σ' H',Inv (blk X scope (aY X tn js) P2.objs.size s2 H2 fp) [] σ' H' s'/\tnn i s'.heap/\(∀b∈fp,H' b=none)/\W i n σ' H') ?_ m0 ⟨0,_,_,I4,st4,fr4,w0⟩
  rintro n s3 ⟨i,σ3,H3,I3,st3,fr3,w3⟩
  rcases turn i n σ3 H3 w3 with⟨stop,qn⟩|⟨go,step⟩
  .refine thn (T.done (blk X scope (aY X tn js) P2.objs.size s2 H2 fp) rfl rfl rfl hcalm i [] s3 σ3 H3 _ I3 (fpo fr3) st3 stop) ?_;rintro r s4 ⟨hr,I4'⟩
   subst hr;obtain⟨m,hm,_⟩:=I4'.loc;refine fin _ _ s4 H3 m ((have I:=I2;have hf:=f2;have J:=I4';I.call' J.os J.base J.hok J.bare λb hb=>⟨(hf b hb).2.2.2.1,(hf b hb).2.1,(hf b hb).2.2.2.2.1,(hf b hb).2.2.2.2.2⟩)) hCle (Nat.ne_of_gt (nl0 I2.lt hCle)) (λx c e=>?_) (λp hp z=>?_) (nt0 I2.sz hCle) I4'.free hm qn
   .obtain⟨v,q⟩:=I2.cell x c e
    exact nn0 (nl0 q.lt hCle)
   .exact absurd (nl0 (hs0 (I2.pin p hp).1) (by rw[z];exact hCle)) (li0 _)
  .refine thn (T.item (blk X scope (aY X tn js) P2.objs.size s2 H2 fp) rfl rfl rfl hcalm i [] s3 σ3 H3 _ I3 (fpo fr3) st3 go) ?_;rintro r s4 ⟨u,hr,h4⟩
   subst hr;refine thn h4 ?_;rintro _ s5 ⟨x,H5,I5,r5,y5,st5,fr5⟩;have I5':=I5.pinned (fpo fr5) (T.obj _ _ st5);refine thn (hg _ _ _ _ _ s5 σ3 H5 x u _ I5' r5 (step x H5 y5)) ?_;rintro _ s6 ⟨σ6,H6,I6,q6⟩;have again:∀{s7:Shared}{σ7:St}{H7:Hp},Inv (blk X scope (aY X tn js) P2.objs.size s2 H2 fp) ([]++iP fp s5.heap) σ7 H7 s7->(∃m',m'<n/\W (i+1) m' σ7 H7)->
     ∃m,m<n/\∃i σ' H',Inv (blk X scope (aY X tn js) P2.objs.size s2 H2 fp) [] σ' H' s7/\tnn i s7.heap/\(∀b∈fp,H' b=none)/\W i m σ' H':=λ{s7 σ7 H7} I7 ⟨m',hm,w7⟩=>by
    refine⟨m',hm,i+1,σ7,H7,I7.unpinned,T.keep _ _ _ st5 λb hb o e=>(I7.pin (b,o) (mr0 _ (mr0 _ (df hb e)))).1,λb hb=>?_,w7⟩;obtain⟨o,e,d⟩:=T.obj _ _ st5 b hb;exact (I7.pin (b,o) (mr0 _ (mr0 _ (df hb e)))).2.1
   refine thn (hc _ _ _ _ _ s6 σ6 H6 _ I6 q6) ?_;rintro ok s7 ⟨H7,I7,q7⟩;cases ok with
   |false=>
    rw[if_neg fx0]at q7 ⊢;exact again I7 q7
   |true=>
    rw[if_pos rfl]at q7 ⊢;refine thn (he _ _ _ _ _ s7 σ6 H7 _ I7 q7) ?_;rintro xv s8 ⟨y,H8,I8,r8,ys,hp,hz,q8⟩;refine thn (gy _ s8 σ6 H8 (.ref s2.heap.objs.size) [y] _ [xv] (λa H'=>∃m',m'<n/\W (i+1) m' σ6 H') I8 rfl (.cons r8 .nil) ⟨_,ys,y,rfl,rfl,hp,hz,q8⟩) ?_;rintro _ s9 ⟨_,H9,I9,_,q9⟩;exact again I9 q9
 exact codeAny_compStart_list (loop _ rfl) (T.self _ 0 _ _ _ st4 (loop _ rfl))
def zY(B:BlkOk X scope js)(hcalm:X.calm=true)(hi:PI X tg iter wi)(hg:∀C s H fp,PG (blk X scope (aY X tn js) C s H fp) tg g)(hc:∀C s H fp,PCs (blk X scope (aY X tn js) C s H fp) ifs tc)
  (he:∀C s H fp,PE (blk X scope (aY X tn js) C s H fp) elt te) (hs:∀x,foldedSetIterable iter X.env x=pure x:=by intro _;rfl):PE X (.ListComp elt [⟨tg,iter,ifs,0⟩] scope pos) (CI tn js wi g tc te):=λpins s σ H Q I h=>wpAny_comprehension_free rfl hs (eQ (B.cells I)) B.kind B.loc (thn (hi _ s σ H _ I h) λv s1 h1=>thn h1 λitv s2 h2=>ka B hcalm hg hc he h2 λC D s' H' m I' h1 h2 h3 h4 h5 h6 hm q=>⟨m,hm,λh'' sb=>⟨.ref D,H',I'.turned (λb o hb e=>(sb.2 b hb).trans e) h6 h2 (.inr h5) h3 h4,rfl,q⟩⟩)
def zZ{y:Str}{py spos:Pos}(B:BlkOk X scope js)(hcalm:X.calm=true)(hi:PI X tg iter wi)(hg:∀C s H fp,PG (blk X scope (aY X tn js) C s H fp) tg g)(hc:∀C s H fp,PCs (blk X scope (aY X tn js) C s H fp) ifs tc)
  (he:∀C s H fp,PE (blk X scope (aY X tn js) C s H fp) elt te) (hN:X.N.Nodup) (hix:X.N[i]?=some y) (hy:X.env.scope.names.lookup y=some .local)
  (hsw:swapsWith (.ListComp elt [⟨tg,iter,ifs,0⟩] scope pos) (some (.Name y py)) spos.line X.env=pure true:=by rfl) (hs:∀x,foldedSetIterable iter X.env x=pure x:=by intro _;rfl):
  PS X (.Assign [.Name y py] (.ListComp elt [⟨tg,iter,ifs,0⟩] scope pos) spos) (λF σ H=>CI tn js wi g tc te σ H λv H'=>F.nx (σ.set i (some v)) H'):=by
 intro pins s σ H F I h;rw[exec_Assign_Name_used _ _ _ _ hsw];refine wb0 (wpAny_standAt (wb0 ?_));refine wb0 (wpAny_mono (wpAny_comprehension_free (use:=some (assign (.Name y py) X.env)) (Q:=λc s'=>SP X pins F .next s') rfl hs (eQ (B.cells I)) B.kind B.loc
  (thn (hi pins s σ H _ I h) λv s1 h1=>thn h1 λitv s2 h2=>?_)) (λc s' hq=>wq0 (wq0 hq)) λc c e=>e)
 refine ka (Q:=λv H'=>F.nx (σ.set i (some v)) H') B hcalm hg hc he h2 ?_;intro C D s' H' m I' h1 h2 h3 h4 h5 h6 hm q;refine wpAny_assign_Name (store_ok2 (v:=.ref D) I' hN hix (.inl hy) rfl (λs'' I'' hb=>?_) (.inr hy));obtain⟨a,sb,ha⟩:=hb;have haC:C≠a:=by
  rcases ha with z|z
  .rw[z];exact h2
  .exact (h3 _ _ z).symm
 refine⟨m,hm.sameBut sb haC,λh'' sb''=>?_⟩;exact⟨_,H',I''.turned (t':=s''.toks) (λb o hb e=>(sb''.2 b hb).trans e) h6 h2 (.inr h5) h3 h4,q⟩
end
end L2.C
namespace K60
open PySem L2
noncomputable abbrev cV:Nat:=146
noncomputable abbrev cSE:Nat:=31
noncomputable abbrev cNO:Nat:=44
noncomputable abbrev cBT:Nat:=56
noncomputable abbrev cBC:Nat:=68
noncomputable abbrev aN:Nat:=230
noncomputable def top(i:Nat):Stmt:=PySem.Challenge.pw_strata_k60_packed.main.body.getD i (.Pass ⟨0,0,0,0⟩)
noncomputable def met(j:Nat):Stmt:=match top 13 with|.ClassDef _ _ _ b ..=>b.getD j (.Pass ⟨0,0,0,0⟩)|_=>.Pass ⟨0,0,0,0⟩
noncomputable abbrev m0:Value:=.str "strata.names" 262
noncomputable abbrev m1:Value:=.str "strata.vaults" 285
noncomputable abbrev m2:Value:=.str "strata.reaching" 444
noncomputable abbrev m3:Value:=.str "strata.packs" 480
noncomputable abbrev m4:Value:=.str "law_strata_k60_packed" 520
noncomputable abbrev fo(n q:Str)(st:Stmt)(pm:Value)(cd:Addr):Obj:=⟨.type "function",none,.func (PySem.W.fnOf n q (defArgs st) (defBody st) (defScope st) .none .none .none pm none (.ref cd) .none),#[]⟩
noncomputable def kE(P:Params)(k:Str)(t:Nat)(v:Value):DictEntry:=⟨PyData.keyHash P k,.str k t,v⟩
noncomputable def dO(n:Nat)(es:List DictEntry):Obj:=⟨.type "dict",none,.dict es.toArray n,#[]⟩
noncomputable def cO(n:Str)(bs mro:List Value)(ns:Addr)(subs:List Value)(sl:List (Option Value)):Obj:=⟨.type "type",none,.cls {name:=n,bases:=bs,mro:=mro,ns:=ns,qualname:=n,subclasses:=subs},sl.toArray⟩
noncomputable def kO(n q:Str)(t l p e cd:Nat)(w:Bool):Obj:=⟨.type "code",none,.fields #[.str n t,.str q (t+1),.str "/claim/cut.py" (t+2),.int l 0,.int p 0,.int 0 0,.int 0 0,.int 3 0,.ref (cd-(if w then 5 else 3)),.bool true,.int 181 0,.ref (cd-(if w then 4 else 2)),.none,if w then .ref (cd-3)else .none,if w then .ref (cd-2)else .none,.ref (cd-1),.int (t+e-1:Nat) 0,.int l 0,.str "/claim/cut.py" (t+e)],#[]⟩
noncomputable def kf(x:Str)(i:Nat)(pm:Value)(cd t l p e:Nat)(w:Bool)(r:fg0):fg0:=(cd,kO x x t l p e cd w)::(cd+1,fo x x (top i) pm cd)::r
noncomputable def xD(P:Params)(t l s:Nat):Obj:=dO 2 [kE P "__module__" t (.str "strata.errors" 194),kE P "__firstlineno__" (t+4) (.int l (t+3)),kE P "__static_attributes__" (t+5) (.ref s),kE P "__doc__" (t+6) (.none)]
noncomputable def xC(n:Str)(a b t r:Nat):Obj:=cO n [.ref 31] [.ref a,.ref 31,.type "ValueError",.type "Exception",.type "BaseException",.type "object"] b [] [some (.ref r),none,some (.str n t),some (.str n (t+8)),some (.builtin "ValueError.__new__"),some (.bool true)]
noncomputable def kk(P:Params):fg0:=(3,dO 59 [kE P "__name__" 165 (.str "law_strata_k60_packed" 520),kE P "__doc__" 166 (.none),kE P "__package__" 167 (.none),kE P "__loader__" 168 (.builtin "__main__.__loader__#opaque"),kE P "__spec__" 169 (.none),kE P "__annotations__" 170 (.ref 6),kE P "__builtins__" 171 (.ref 4),kE P "__file__" 173 (.str "/claim/cut.py" 172),kE P "__cached__" 174 (.none),kE P "_wall" 193 (.ref 21),kE P "StrataError" 213 (.ref 31),kE P "NoObject" 229 (.ref 44),kE P "BadTree" 245 (.ref 56),kE P "BadCommit" 261 (.ref 68),kE P "LONGEST_NAME" 265 (.int 12 264),kE P "is_name_sign" 272 (.ref 77),kE P "is_name" 278 (.ref 82),kE P "names_rise" 284 (.ref 87),kE P "MOST_PARENTS" 288 (.int 2 287),kE P "Vault" 365 (.ref 146),kE P "blob" 373 (.ref 157),kE P "tree" 379 (.ref 162),kE P "commit" 390 (.ref 169),kE P "text_of" 398 (.ref 176),kE P "entries_of" 406 (.ref 183),kE P "commit_of" 415 (.ref 190),kE P "refuse_wrong_names" 423 (.ref 197),kE P "refuse_what_is_no_tree" 431 (.ref 204),kE P "refuse_wrong_commit" 443 (.ref 211),kE P "reached" 453 (.ref 218),kE P "all_below" 465 (.ref 225),kE P "named_by" 471 (.ref 230),kE P "parents_of" 479 (.ref 237),kE P "packed" 492 (.ref 244),kE P "lines_of_object" 501 (.ref 251),kE P "lines_of_blob" 507 (.ref 256),kE P "lines_of_tree" 513 (.ref 261),kE P "lines_of_commit" 519 (.ref 266),kE P "_law_cell" 529 (.ref 273),kE P "_law_mix" 538 (.ref 280),kE P "_law_whole" 545 (.ref 287),kE P "_law_sign" 554 (.ref 294),kE P "_law_line" 563 (.ref 301),kE P "_law_ends" 569 (.ref 306),kE P "_law_row" 575 (.ref 311),kE P "_law_name" 581 (.ref 316),kE P "_law_thing" 587 (.ref 321),kE P "_law_things" 599 (.ref 328),kE P "_law_put" 607 (.ref 335),kE P "_law_is" 613 (.ref 340),kE P "_law_filled" 622 (.ref 347),kE P "_law_stays" 628 (.ref 352),kE P "_law_wild" 638 (.ref 359),kE P "_law_below" 644 (.ref 364),kE P "_law_reached" 650 (.ref 369),kE P "_law_pack" 656 (.ref 374),kE P "_law_picked" 662 (.ref 379),kE P "_law_told" 674 (.ref 386),kE P "law" 680 (.ref 391)])::
 ((30,dO 3 [kE P "__module__" 203 (.str "strata.errors" 194),kE P "__firstlineno__" 207 (.int 5 206),kE P "__static_attributes__" 208 (.ref 29),kE P "__weakref__" 210 (.ref 32),kE P "__doc__" 211 (.none)])::
 ((31,cO "StrataError" [.type "ValueError"] [.ref 31,.type "ValueError",.type "Exception",.type "BaseException",.type "object"] 30 [.ref 44,.ref 56,.ref 68] [some (.ref 22),none,some (.str "StrataError" 196),some (.str "StrataError" 204),some (.builtin "ValueError.__new__"),some (.bool true)])::
 ((43,xD P 221 7 42)::
 ((44,xC "NoObject" 44 43 214 35)::
 ((55,xD P 237 9 54)::
 ((56,xC "BadTree" 56 55 230 47)::
 ((67,xD P 253 11 66)::
 ((68,xC "BadCommit" 68 67 246 59)::
 (kf "is_name_sign" 8 m0 76 266 15 1 5 true<|
 kf "is_name" 9 m0 81 273 19 1 4 false<|
 kf "names_rise" 10 m0 86 279 25 1 4 false<|
 (100,kO "__init__" "Vault.__init__" 301 31 1 5 100 true)::
 ((101,fo "__init__" "Vault.__init__" (met 0) m1 100)::
 ((107,kO "size" "Vault.size" 308 35 1 5 107 true)::
 ((108,fo "size" "Vault.size" (met 1) m1 107)::
 ((114,kO "kind" "Vault.kind" 315 38 2 6 114 true)::
 ((115,fo "kind" "Vault.kind" (met 2) m1 114)::
 ((121,kO "held" "Vault.held" 323 41 2 6 121 true)::
 ((122,fo "held" "Vault.held" (met 3) m1 121)::
 ((128,kO "content" "Vault.content" 331 46 3 8 128 true)::
 ((129,fo "content" "Vault.content" (met 4) m1 128)::
 ((135,kO "put" "Vault.put" 341 52 2 6 135 true)::
 ((136,fo "put" "Vault.put" (met 5) m1 135)::
 ((145,dO 4 [kE P "__module__" 296 (.str "strata.vaults" 285),kE P "__firstlineno__" 300 (.int 29 299),kE P "__init__" 307 (.ref 101),kE P "size" 314 (.ref 108),kE P "kind" 322 (.ref 115),kE P "held" 330 (.ref 122),kE P "content" 340 (.ref 129),kE P "put" 348 (.ref 136),kE P "copied" 355 (.ref 143),kE P "__static_attributes__" 358 (.ref 144),kE P "__dict__" 360 (.ref 147),kE P "__weakref__" 362 (.ref 148),kE P "__doc__" 363 (.none)])::
 ((146,cO "Vault" [.type "object"] [.ref 146,.type "object"] 145 [] [none,none,some (.str "Vault" 289),some (.str "Vault" 297),some (.builtin "object.__new__"),some (.bool true)])::
 (kf "blob" 14 m1 156 366 60 2 6 true<|
 kf "tree" 15 m1 161 374 62 2 4 false<|
 kf "commit" 16 m1 168 380 68 5 9 true<|
 kf "text_of" 17 m1 175 391 71 2 6 true<|
 kf "entries_of" 18 m1 182 399 73 2 6 true<|
 kf "commit_of" 19 m1 189 407 75 2 7 true<|
 kf "refuse_wrong_names" 20 m1 196 416 78 1 6 true<|
 kf "refuse_what_is_no_tree" 21 m1 203 424 84 2 6 true<|
 kf "refuse_wrong_commit" 22 m1 210 432 86 5 10 true<|
 kf "reached" 24 m2 217 446 99 2 6 true<|
 kf "all_below" 25 m2 224 454 101 3 10 true<|
 kf "named_by" 26 m2 229 466 110 2 4 false<|
 kf "parents_of" 27 m2 236 472 117 2 6 true<|
 kf "packed" 29 m3 243 482 120 3 9 true<|
 kf "lines_of_object" 30 m3 250 493 125 2 7 true<|
 kf "lines_of_blob" 31 m3 255 502 132 2 4 false<|
 kf "lines_of_tree" 32 m3 260 508 136 2 4 false<|
 kf "lines_of_commit" 33 m3 265 514 139 2 4 false<|
 kf "_law_cell" 35 m4 272 522 146 2 6 true<|
 kf "_law_mix" 36 m4 279 530 150 2 7 true<|
 kf "_law_whole" 37 m4 286 539 154 1 5 true<|
 kf "_law_sign" 38 m4 293 546 156 1 7 true<|
 kf "_law_line" 39 m4 300 555 160 2 7 true<|
 kf "_law_ends" 40 m4 305 564 165 2 4 false<|
 kf "_law_row" 41 m4 310 570 170 3 4 false<|
 kf "_law_name" 42 m4 315 576 172 2 4 false<|
 kf "_law_thing" 43 m4 320 582 179 3 4 false<|
 kf "_law_things" 44 m4 327 588 198 3 10 true<|
 kf "_law_put" 45 m4 334 600 205 2 6 true<|
 kf "_law_is" 46 m4 339 608 211 3 4 false<|
 kf "_law_filled" 47 m4 346 614 225 1 7 true<|
 kf "_law_stays" 48 m4 351 623 230 2 4 false<|
 kf "_law_wild" 49 m4 358 629 234 3 8 true<|
 kf "_law_below" 50 m4 363 639 239 1 4 false<|
 kf "_law_reached" 51 m4 368 645 245 2 4 false<|
 kf "_law_pack" 52 m4 373 651 251 2 4 false<|
 kf "_law_picked" 53 m4 378 657 265 4 4 false<|
 kf "_law_told" 54 m4 385 663 267 3 10 true<|
 kf "law" 55 m4 390 675 277 1 4 false<|
 [])))))))))))))))))))))))
noncomputable def ads:List Addr:=[3,30,31,43,44,55,56,67,68,76,77,81,82,86,87,100,101,107,108,114,115,121,122,128,129,135,136,145,146,156,157,161,162,168,169,175,176,182,183,189,190,196,197,203,204,210,211,217,218,224,225,229,230,236,237,243,244,250,251,255,256,260,261,265,266,272,273,279,280,286,287,293,294,300,301,305,306,310,311,315,316,320,321,327,328,334,335,339,340,346,347,351,352,358,359,363,364,368,369,373,374,378,379,385,386,390,391]
noncomputable def lo:List Str:=(["_wall","StrataError","NoObject","BadTree","BadCommit","LONGEST_NAME","is_name_sign","is_name","names_rise","MOST_PARENTS","Vault","blob","tree","commit","text_of","entries_of","commit_of","refuse_wrong_names","refuse_what_is_no_tree","refuse_wrong_commit"]:List Str)++(["reached","all_below","named_by","parents_of","packed","lines_of_object","lines_of_blob","lines_of_tree","lines_of_commit","_law_cell","_law_mix","_law_whole","_law_sign","_law_line","_law_ends","_law_row","_law_name","_law_thing","_law_things","_law_put"]:List Str)++(["_law_is","_law_filled","_law_stays","_law_wild","_law_below","_law_reached","_law_pack","_law_picked","_law_told"]:List Str)
noncomputable def posOf:Stmt->Pos
 |.FunctionDef _ _ _ _ _ _ _ _ _ p=>p
 |_=>⟨0,0,0,0⟩
noncomputable def Ei:DefRec:=⟨"law",defArgs (top 55),defBody (top 55),defScope (top 55),posOf (top 55)⟩
noncomputable def vw:Program:={PySem.Challenge.pw_strata_k60_packed with main:={PySem.Challenge.pw_strata_k60_packed.main with body:=[top 55]}}
open PySem.W PySem.W.X in
theorem hl:LeftO PySem.Challenge.pw_strata_k60_packed vw lo (λs=>xlAt vw [] s&&recOk (RowW.records (OpenRow.toRowW PySem.Challenge.rw_strata_k60_packed.row)) s) (obsZ ads) (valZ kk 392 681) 5238:=by intro w;kernel_rfl
end K60
namespace SI
open PySem
inductive D where
 |none
 |bool (b:Bool)
 |int (i:Int)
 |str (x:Str)
 |tuple (ds:List D)
 |list (ds:List D)
 |dict (kvs:List (Sum Int Str×D))
 |scr (ns:List Int)
 |vlt (C h:Nat) (objs:List D)
 |hdl (h:Nat)
 |exc (C:Nat)
 |fn (a:Nat)
noncomputable instance:DecidableEq D:=λa a=>Classical.propDecidable _
inductive Sl where
 |no
 |dat (d:D)
 |lent (d:D)
 |own (d:D)
inductive Op2 where|add|sub|mul|mod|fdiv
inductive Cop where|lt|le|gt|eq|ne|isin|notin|notN
inductive Bf where|len|int|list|tuple|dict|str|all|srt|fst|lzip|rvl|nset|srtd
inductive Mf where|split|join
inductive Tg where
 |one (i:Nat)
 |tup (is:List Nat)
inductive Md where|val|read|test|walk
noncomputable def big:Nat:=16777216
noncomputable def ixN(n:Nat)(i:Int):Option Nat:=if 0<=i then (if i<n then some i.toNat else none)else if -(n:Int)<=i then some (i+n).toNat else none
noncomputable def atI{α:Type}(xs:List α)(i:Int):Option α:=(ixN xs.length i).bind λj=>xs[j]?
noncomputable def sIx(n d:Nat):Option Int->Nat
 |none=>d
 |some v=>if v<0 then (v+(n:Int)).toNat else min v.toNat n
noncomputable def cut{α:Type}(xs:List α)(lo hi:Option Int):List α:=(xs.drop (sIx xs.length 0 lo)).take (sIx xs.length xs.length hi-sIx xs.length 0 lo)
noncomputable def okS:Nat->D->Bool
 |_,.none=>true
 |_,.int _=>true
 |_,.str _=>true
 |n+1,.tuple ds=>ds.all (okS n)
 |n+1,.list ds=>ds.all (okS n)
 |_,_=>false
noncomputable def gC:D->Option Bool
 |.none=>some false
 |.bool b=>some b
 |.int i=>some (i != 0)
 |.str x=>if x.length<=big then some ((x.length:Int) != 0)else none
 |.tuple ds=>some (!ds.isEmpty)
 |.list ds=>some (!ds.isEmpty)
 |.dict kvs=>some (!kvs.isEmpty)
 |.scr ns=>some (!ns.isEmpty)
 |_=>none
noncomputable def asB:D->Option Bool
 |.bool b=>some b
 |_=>none
noncomputable def asI:D->Option Int
 |.int i=>some i
 |_=>none
noncomputable def fin:Md->Option D->Option D
 |.test,d=>d.bind λd=>(gC d).map .bool
 |_,d=>d
noncomputable def bm:Md->Md
 |.test=>.test
 |_=>.val
noncomputable def noT:Md->Option D->Option D
 |.test,_=>none
 |_,d=>d
noncomputable def rOk(n:Int):Bool:=decide (-(2 ^ 62)<=n)&&decide (n<2 ^ 62)
noncomputable def mW(n:Nat)(j:Int):Bool:=decide (-(2 ^ 63)<=j)&&decide (j<2 ^ 63)&&decide (n*j.toNat<=big)
noncomputable def pN(i j:Int):Bool:=(decide (-(2 ^ 64)<i)&&decide (i<2 ^ 64))||(decide (-(2 ^ 64)<j)&&decide (j<2 ^ 64))
def pO{n:Int}(h1:-1000000<=n)(h2:n<=1000000):rOk n=true:=by
 unfold rOk;grind
def HR{n}{j}(h1:-1000000<=j)(h2:j<=1000000)(h3:n*j.toNat<=big):mW n j=true:=by
 unfold mW;grind
noncomputable def opD:Op2->D->D->Option D
 |.add,.int i,.int j=>some (.int (i+j))
 |.add,.str x,.str y=>if x.length+y.length<=big then some (.str (x++y))else none
 |.add,.list a,.list b=>if a.length+b.length<=big then some (.list (a++b))else none
 |.sub,.int i,.int j=>some (.int (i-j))
 |.mul,.int i,.int j=>if pN i j then some (.int (i*j))else none
 |.mul,.list a,.int j=>if mW a.length j then some (.list (List.replicate j.toNat a).flatten)else none
 |.mul,.str x,.int j=>if -1000<=j/\j<=1000/\x.length<=1000 then some (.str ⟨((List.replicate j.toNat x.cps.toList).flatten).toArray⟩)else none
 |.mod,.int i,.int j=>if 0<j then some (.int (i % j))else none
 |.fdiv,.int i,.int j=>if 0<j/\j<1073741824 then some (.int (i / j))else none
 |_,_,_=>none
noncomputable def tK:D->Option (Sum Int Str)
 |.int i=>some (.inl i)
 |.str x=>some (.inr x)
 |_=>none
noncomputable def look{α:Type}:List (Sum Int Str×α)->Sum Int Str->Option α
 |[],_=>none
 |(l,d)::r,k=>if l=k then some d else look r k
noncomputable def put{α:Type}:List (Sum Int Str×α)->Sum Int Str->α->List (Sum Int Str×α)
 |[],k,v=>[(k,v)]
 |(l,d)::r,k,v=>if l=k then (l,v)::r else (l,d)::put r k v
noncomputable def eqD(a b:D):Option Bool:=
 if okS 8 a&&okS 8 b then some (decide (a=b))else none
noncomputable def hasSub(x y:Str):Bool:=!(Builtin.Str.occurrences y x 0 y.length 1).isEmpty
noncomputable def inD(a b:D):Option Bool:=
 match b with
 |.str y=>match a with
  |.str x=>some (hasSub x y)
  |_=>none
 |.list ds=>if okS 8 a&&ds.all (okS 7)then some (ds.any λd=>decide (d=a))else none
 |.tuple ds=>if okS 8 a&&ds.all (okS 7)then some (ds.any λd=>decide (d=a))else none
 |.dict kvs=>(tK a).map λk=>(look kvs k).isSome
 |_=>none
noncomputable def cp:Cop->D->D->Option Bool
 |.lt,.int i,.int j=>some (decide (i<j))
 |.le,.int i,.int j=>some (decide (i<=j))
 |.gt,.int i,.int j=>some (decide (j<i))
 |.lt,.str x,.str y=>some (decide (x.cps.toList<y.cps.toList))
 |.le,.str x,.str y=>some (!decide (y.cps.toList<x.cps.toList))
 |.eq,a,b=>eqD a b
 |.ne,a,b=>(eqD a b).map (!·)
 |.isin,a,b=>inD a b
 |.notin,a,b=>(inD a b).map (!·)
 |.notN,a,b=>if b=.none then some (!decide (a=.none))else none
 |_,_,_=>none
noncomputable def pP:D->D->Option D
 |.list ds,.int i=>atI ds i
 |.tuple ds,.int i=>atI ds i
 |.scr ns,.int i=>(atI ns i).map .int
 |.str x,.int i=>if x.length<=big then (atI x.cps.toList i).map λc=>.str ⟨#[c]⟩ else none
 |_,_=>none
noncomputable def slD(d:D)(lo hi:Option Int):Option D:=
 match d with
 |.list ds=>some (.list (cut ds lo hi))
 |_=>none
noncomputable def lC(T:String):D->Option Bool
 |.none=>some false
 |.bool _=>some (T=="bool"||T=="int")
 |.int _=>some (T=="int")
 |.str _=>some (T=="str")
 |.tuple _=>some (T=="tuple")
 |.list _=>some (T=="list")
 |.dict _=>some (T=="dict")
 |_=>none
noncomputable def strsOf:List D->Option (List Str)
 |[]=>some []
 |.str x::r=>(strsOf r).map (x::·)
 |_::_=>none
noncomputable def pairsOf:List D->Option (List (Sum Int Str×D))
 |[]=>some []
 |.tuple [.int i,d]::r=>(pairsOf r).map ((.inl i,d)::·)
 |_::_=>none
noncomputable def boolsOf:List D->Option (List Bool)
 |[]=>some []
 |.bool b::r=>(boolsOf r).map (b::·)
 |_::_=>none
noncomputable def ltS(x y:Str):Bool:=decide (x.cps.toList<y.cps.toList)
noncomputable def jI(x:Str):List Str->List Str
 |[]=>[x]
 |y::r=>if x=y then y::r else if ltS x y then x::y::r else y::jI x r
noncomputable def intsOf:List D->Option (List Int)
 |[]=>some []
 |.int i::r=>(intsOf r).map (i::·)
 |_=>none
noncomputable def wg(l:List Int)(k:Int):List Int:=if l.any (·==k)then l else l++[k]
noncomputable def gE(ns:List Int):List Int:=ns.foldl wg []
noncomputable def pQ:List D->Option D
 |[.int i]=>some (.list [.int i])
 |[.int i,.int j]=>some (.list (if i=j then [.int i] else if i<j then [.int i,.int j] else [.int j,.int i]))
 |_=>none
noncomputable def srtS:List Str->List Str
 |[]=>[]
 |x::r=>jI x (srtS r)
noncomputable def kc:List (Sum Int Str×D)->Option (List Int)
 |[]=>some []
 |(.inl i,_)::r=>(kc r).map (i::·)
 |_=>none
noncomputable def insI(ns:List Int):List Int:=ns.mergeSort (λa b=>decide (a<=b))
noncomputable def lD:Nat:=10000000000000000
noncomputable def mX(i:Int):Option Str:=if 0<=i/\i.toNat<=lD then some (toString i)else none
noncomputable def ib:D->Option Str
 |.str x=>some x
 |.int i=>mX i
 |_=>none
noncomputable def fsL:List D->Option Str
 |[]=>some Str.empty
 |d::r=>(ib d).bind λx=>(fsL r).map (x++·)
noncomputable def biD:Bf->List D->Option D
 |.len,[.list ds]=>some (.int ds.length)
 |.len,[.tuple ds]=>some (.int ds.length)
 |.len,[.scr ns]=>some (.int ns.length)
 |.len,[.str x]=>if x.length<=big then some (.int x.length)else none
 |.int,[.int i]=>some (.int i)
 |.int,[.bool b]=>some (.int (if b then 1 else 0))
 |.list,[.list ds]=>some (.list ds)
 |.list,[.tuple ds]=>some (.list ds)
 |.dict,[.list []]=>some (.dict [])
 |.str,[.int i]=>(mX i).map .str
 |.tuple,[.list ds]=>if ds.length<=big then some (.tuple ds)else none
 |.all,[.list ds]=>(boolsOf ds).map λbs=>.bool (bs.all id)
 |.srt,[.list ds]=>(pQ ds).or ((strsOf ds).bind λss=>if ss.length<64 then some (.list ((srtS ss).map .str))else none)
 |.lzip,[.list xs,.list ys]=>some (.list ((xs.zip ys).map λp=>.tuple [p.1,p.2]))
 |.rvl,[.list ds]=>some (.list ds.reverse)
 |.nset,[.list ds]=>(intsOf ds).bind λns=>if ns.length<64 then some (.int (gE ns).length)else none
 |.srtd,[.dict kvs]=>(kc kvs).bind λns=>if ns.length<64 then some (.list ((insI ns).map .int))else none
 |.fst,ds=>(fsL ds).bind λy=>if y.length<=big then some (.str y)else none
 |_,_=>none
noncomputable def meD:Mf->D->List D->Option D
 |.split,.str x,[.str y]=>if (y.length==0)=false/\x.length+2<=big then some (.list ((Txt.split x y).map .str))else none
 |.join,.str x,[.list ds]=>(strsOf ds).bind λys=>if (ys.map (·.length)).sum+ys.length*x.length<=big then some (.str (Txt.join x ys))else none
 |_,_,_=>none
noncomputable def iU:D->Option (List D)
 |.list ds=>some ds
 |.str x=>if x.length<=big then some (x.cps.toList.map λc=>.str ⟨#[c]⟩)else none
 |_=>none
@[simp] noncomputable def zip2:List D->List D->List D
 |a::r,b::q=>.tuple [a,b]::zip2 r q
 |_,_=>[]
@[simp] noncomputable def Ej:List D->List D->List D->List D
 |a::r,b::q,c::p=>.tuple [a,b,c]::Ej r q p
 |_,_,_=>[]
noncomputable def Aa:List (List D)->List D
 |[a,b]=>zip2 a b
 |[a,b,c]=>Ej a b c
 |_=>[]
noncomputable def CJ:List D->Option (List D)
 |[.list a,.list b]=>if b.length<=a.length then some (zip2 a b)else none
 |_=>none
noncomputable def bN:D->Bool
 |.list _=>true
 |.dict _=>true
 |.vlt ..=>true
 |_=>false
noncomputable def aS(m:Md):Sl->Option D
 |.dat d=>some d
 |.lent d=>match m with|.val=>if bN d then none else some d|_=>some d
 |.own d=>match m with|.val=>none|.walk=>none|_=>some d
 |_=>none
noncomputable def aw:Tg->D->List Sl->Option (List Sl)
 |.one i,d,Y=>some (Y.set i (.dat d))
 |.tup is,.tuple ds,Y=>if is.length=ds.length then some ((is.zip ds).foldl (λY p=>Y.set p.1 (.dat p.2)) Y)else none
 |_,_,_=>none
noncomputable def lend:Sl->Sl
 |.own d=>.lent d
 |s=>s
@[simp] noncomputable def blk(nt:Nat)(js:List Nat)(Y:List Sl):List Sl:=List.replicate nt .no++js.map λj=>lend (Y[j]?.getD .no)
noncomputable def aZ(f:D->Option (Option D)):List D->Option (List D)
 |[]=>some []
 |d::r=>(f d).bind λo=>(aZ f r).map λq=>match o with
  |none=>q
  |some x=>x::q
structure Fn where
 lent:List Bool
 run:List D->Option D
noncomputable abbrev Fs:=Str->Option Fn
noncomputable def ai(m:Str):Str:=("Vault.":Str)++m
noncomputable def kg(c:Nat):D->Bool
 |.vlt c' _ _=>c'==c
 |_=>false
noncomputable def El:D->List D
 |.vlt _ _ os=>os
 |_=>[]
noncomputable def Em(tab:List (Nat×Bool)):D->Option Bool
 |.exc C=>tab.lookup C
 |_=>none
noncomputable def roM:Md->Option D->Option D
 |.read,o=>o
 |.test,o=>o
 |_,_=>none
noncomputable abbrev E:=Fs->List (Str×D)->Md->List Sl->Option D
inductive Es where
 |nil
 |cons (a:E) (as:Es)
noncomputable abbrev I:=Fs->List (Str×D)->Md->List Sl->Option (List D)
section
variable (Z:Fs)(Γ:List (Str×D))
noncomputable def ev(m:Md)(Y:List Sl)(e:E):Option D:=e Z Γ m Y
noncomputable def evI(m:Md)(Y:List Sl)(e:I):Option (List D):=e Z Γ m Y
@[simp] noncomputable def evs(m:Md)(fl:List Bool)(Y:List Sl):Es->Option (List D)
 |.nil=>some []
 |.cons a as=>(ev Z Γ (if fl.headD false then m else .val) Y a).bind λx=>(evs m fl.tail Y as).map (x::·)
@[simp] noncomputable def evC(Y:List Sl):Es->Option Bool
 |.nil=>some true
 |.cons a as=>(ev Z Γ .test Y a).bind asB
@[simp] noncomputable def evP(Y:List Sl):Es->Option (Option Int)
 |.nil=>some none
 |.cons a as=>(ev Z Γ .val Y a).bind λd=>(asI d).map some
end
abbrev Es.A(x:E):Es:=.cons x .nil
abbrev Es.B(x y:E):Es:=.cons x (.A y)
namespace E
@[simp] noncomputable def k(d:D):E|Z,Γ,m,Y=>fin m (some d)
@[simp] noncomputable def v(i:Nat):E|Z,Γ,m,Y=>fin m (Y[i]?.bind (aS m))
@[simp] noncomputable def g(x:Str):E|Z,Γ,m,Y=>fin m (Γ.lookup x)
@[simp] noncomputable def op(o:Op2)(a b:E):E|Z,Γ,m,Y=>fin m ((ev Z Γ .read Y a).bind λx=>(ev Z Γ .read Y b).bind λy=>opD o x y)
@[simp] noncomputable def neg(a:E):E|Z,Γ,m,Y=>fin m ((ev Z Γ .val Y a).bind λd=>(asI d).map λi=>.int (-i))
@[simp] noncomputable def cmp(o:Cop)(a b:E):E|Z,Γ,m,Y=>fin m ((ev Z Γ .read Y a).bind λx=>(ev Z Γ .read Y b).bind λy=>(cp o x y).map .bool)
@[simp] noncomputable def chain(o o':Cop)(a b c:E):E|Z,Γ,m,Y=>fin m ((ev Z Γ .read Y a).bind λx=>(ev Z Γ .read Y b).bind λy=>(cp o x y).bind λt=>if t then (ev Z Γ .read Y c).bind λz=>(cp o' y z).map .bool else some (.bool false))
@[simp] noncomputable def and(a b:E):E|Z,Γ,m,Y=>(ev Z Γ (bm m) Y a).bind λd=>(asB d).bind λt=>if t then ev Z Γ (bm m) Y b else some (.bool false)
@[simp] noncomputable def or(a b:E):E|Z,Γ,m,Y=>(ev Z Γ (bm m) Y a).bind λd=>(asB d).bind λt=>if t then some (.bool true)else ev Z Γ (bm m) Y b
@[simp] noncomputable def not(a:E):E|Z,Γ,m,Y=>(ev Z Γ (bm m) Y a).bind λd=>(asB d).map λt=>.bool (!t)
@[simp] noncomputable def ite(c a b:E):E|Z,Γ,m,Y=>noT m ((ev Z Γ .test Y c).bind λd=>(asB d).bind λt=>if t then ev Z Γ .val Y a else ev Z Γ .val Y b)
@[simp] noncomputable def call(f:Str)(as:Es):E|Z,Γ,m,Y=>fin m ((Z f).bind λJ=>(evs Z Γ .read J.lent Y as).bind J.run)
@[simp] noncomputable def idx(a i:E):E|Z,Γ,m,Y=>fin m ((ev Z Γ .read Y a).bind λx=>(ev Z Γ .val Y i).bind λy=>pP x y)
@[simp] noncomputable def sl(a:E)(lo hi:Es):E|Z,Γ,m,Y=>fin m ((ev Z Γ .read Y a).bind λx=>(evP Z Γ Y lo).bind λy=>(evP Z Γ Y hi).bind λz=>slD x y z)
@[simp] noncomputable def lst(as:Es):E|Z,Γ,m,Y=>fin m ((evs Z Γ .val [] Y as).bind λds=>if ds.length<=1000 then some (.list ds)else none)
@[simp] noncomputable def tup(as:Es):E|Z,Γ,m,Y=>fin m ((evs Z Γ .val [] Y as).bind λds=>if ds.length<=1000 then some (.tuple ds)else none)
@[simp] noncomputable def comp(nt:Nat)(js:List Nat)(tg:Tg)(src:I)(ifs:Es)(elt:E):E|Z,Γ,m,Y=>fin m ((evI Z Γ .read Y src).bind λds=>if ds.length<=big then (aZ (λd=>(aw tg d (blk nt js Y)).bind λY'=>(evC Z Γ Y' ifs).bind λt=>if t then (ev Z Γ .val Y' elt).map some else some none) ds).map .list else none)
@[simp] noncomputable def bi(f:Bf)(as:Es):E|Z,Γ,m,Y=>fin m ((evs Z Γ .read [true,true,true] Y as).bind λds=>biD f ds)
@[simp] noncomputable def me(f:Mf)(o:E)(as:Es):E|Z,Γ,m,Y=>fin m ((ev Z Γ .read Y o).bind λx=>(evs Z Γ .read [true,true] Y as).bind λds=>meD f x ds)
@[simp] noncomputable def isi(a:E)(T:String):E|Z,Γ,m,Y=>fin m ((ev Z Γ .read Y a).bind λx=>(lC T x).map .bool)
@[simp] noncomputable def isx(a:E)(c:Nat)(tab:List (Nat×Bool)):E|Z,Γ,m,Y=>fin m ((ev Z Γ .read Y a).bind λx=>(Em tab x).map .bool)
@[simp] noncomputable def vob(c:Nat)(a:E):E|Z,Γ,m,Y=>roM m (fin m ((ev Z Γ .read Y a).bind λx=>if kg c x then some (.list (El x))else none))
@[simp] noncomputable def vcall(c:Nat)(f:Str)(o:E)(as:Es):E|Z,Γ,m,Y=>fin m ((ev Z Γ .read Y o).bind λx=>if kg c x then (Z (ai f)).bind λJ=>(evs Z Γ .read J.lent.tail Y as).bind λds=>if J.lent.headD false then J.run (x::ds)else none else none)
end E
namespace I
@[simp] noncomputable def seq(a:E):I|Z,Γ,m,Y=>(ev Z Γ m Y a).bind iU
@[simp] noncomputable def rng(a:E):I|Z,Γ,m,Y=>(ev Z Γ .val Y a).bind λd=>(asI d).bind λn=>if rOk n then some ((List.range n.toNat).map λ(k:Nat)=>.int k)else none
@[simp] noncomputable def revr(a:E):I|Z,Γ,m,Y=>(ev Z Γ .val Y a).bind λd=>(asI d).bind λn=>if rOk n then some ((List.range n.toNat).reverse.map λ(k:Nat)=>.int k)else none
@[simp] noncomputable def zip(as:Es):I|Z,Γ,m,Y=>(evs Z Γ .read [true,true,true] Y as).bind CJ
end I
section
variable {Z:Fs}{Γ:List (Str×D)}{m:Md}{Y:List Sl}
@[simp] def e_k{d:D}:ev Z Γ m Y (.k d)=E.k d Z Γ m Y:=(rfl)
@[simp] def e_v :ev Z Γ m Y (.v i)=E.v i Z Γ m Y:=(rfl)
@[simp] def e_g :ev Z Γ m Y (.g x)=E.g x Z Γ m Y:=(rfl)
@[simp] def NF{o:Op2}{a b:E}:ev Z Γ m Y (.op o a b)=E.op o a b Z Γ m Y:=(rfl)
@[simp] def MH{a:E}:ev Z Γ m Y (.neg a)=E.neg a Z Γ m Y:=(rfl)
@[simp] def MI{o:Cop}{a b:E}:ev Z Γ m Y (.cmp o a b)=E.cmp o a b Z Γ m Y:=(rfl)
@[simp] def JH{o o':Cop}{a b c:E}:ev Z Γ m Y (.chain o o' a b c)=E.chain o o' a b c Z Γ m Y:=(rfl)
@[simp] def MJ{a b:E}:ev Z Γ m Y (.and a b)=E.and a b Z Γ m Y:=(rfl)
@[simp] def NG{a b:E}:ev Z Γ m Y (.or a b)=E.or a b Z Γ m Y:=(rfl)
@[simp] def MK{a:E}:ev Z Γ m Y (.not a)=E.not a Z Γ m Y:=(rfl)
@[simp] def ML{c a b:E}:ev Z Γ m Y (.ite c a b)=E.ite c a b Z Γ m Y:=(rfl)
@[simp] def Ld{f:Str}{as:Es}:ev Z Γ m Y (.call f as)=E.call f as Z Γ m Y:=(rfl)
@[simp] def MM{a i:E}:ev Z Γ m Y (.idx a i)=E.idx a i Z Γ m Y:=(rfl)
@[simp] def NH{a:E}{lo hi:Es}:ev Z Γ m Y (.sl a lo hi)=E.sl a lo hi Z Γ m Y:=(rfl)
@[simp] def MN{as:Es}:ev Z Γ m Y (.lst as)=E.lst as Z Γ m Y:=(rfl)
@[simp] def MO{as:Es}:ev Z Γ m Y (.tup as)=E.tup as Z Γ m Y:=(rfl)
@[simp] def Le{nt:Nat}{tg:Tg}{src:I}{ifs:Es}{elt:E}:ev Z Γ m Y (.comp nt js tg src ifs elt)=E.comp nt js tg src ifs elt Z Γ m Y:=(rfl)
@[simp] def NI{f:Bf}{as:Es}:ev Z Γ m Y (.bi f as)=E.bi f as Z Γ m Y:=(rfl)
@[simp] def NJ{f:Mf}{o:E}{as:Es}:ev Z Γ m Y (.me f o as)=E.me f o as Z Γ m Y:=(rfl)
@[simp] def MP{a:E}:ev Z Γ m Y (.isi a T)=E.isi a T Z Γ m Y:=(rfl)
@[simp] def MQ{a:E}{tab:List (Nat×Bool)}:ev Z Γ m Y (.isx a c tab)=E.isx a c tab Z Γ m Y:=(rfl)
@[simp] def MR{a:E}:ev Z Γ m Y (.vob c a)=E.vob c a Z Γ m Y:=(rfl)
@[simp] def JI{f:Str}{o:E}{as:Es}:ev Z Γ m Y (.vcall c f o as)=E.vcall c f o as Z Γ m Y:=(rfl)
@[simp] def MS{a:E}:evI Z Γ m Y (.seq a)=I.seq a Z Γ m Y:=(rfl)
@[simp] def MT{a:E}:evI Z Γ m Y (.rng a)=I.rng a Z Γ m Y:=(rfl)
@[simp] def Lf{a:E}:evI Z Γ m Y (.revr a)=I.revr a Z Γ m Y:=(rfl)
@[simp] def MU{as:Es}:evI Z Γ m Y (.zip as)=I.zip as Z Γ m Y:=(rfl)
end
inductive Out where
 |nx (Y:List Sl)
 |rt (d:D)
noncomputable def Out.andThen(o:Out)(f:List Sl->Option Out):Option Out:=match o with
 |.nx Y=>f Y
 |.rt d=>some (.rt d)
noncomputable def freeze:Sl->Sl
 |.own d=>.dat d
 |s=>s
noncomputable def frB:Bf->Bool
 |.list=>true
 |.dict=>true
 |_=>false
noncomputable def frM:Mf->Bool
 |.split=>true
 |_=>false
noncomputable def forL(t:D->List Sl->Option (List Sl))(b:List Sl->Option Out):List D->List Sl->Option Out
 |[],Y=>some (.nx Y)
 |d::r,Y=>(t d Y).bind λY'=>(b Y').bind λo=>o.andThen (forL t b r)
noncomputable abbrev S:=Fs->List (Str×D)->List Sl->Option Out
inductive Ss where
 |nil
 |cons (s:S) (r:Ss)
noncomputable def ex(Z:Fs)(Γ:List (Str×D))(Y:List Sl)(s:S):Option Out:=s Z Γ Y
@[simp] noncomputable def exs(Z:Fs)(Γ:List (Str×D))(Y:List Sl):Ss->Option Out
 |.nil=>some (.nx Y)
 |.cons s r=>(ex Z Γ Y s).bind λo=>o.andThen λY'=>exs Z Γ Y' r
@[simp] noncomputable def HS(i:Nat)(Y:List Sl)(d:D):Option Out:=match Y[i]? with
 |some (.own (.list ds))=>if ds.length<big then some (.nx (Y.set i (.own (.list (ds++[d])))))else none
 |_=>none
@[simp] noncomputable def Eo(i j:Nat)(Y:List Sl):Option Out:=match Y[i]? with
 |some (.own (.list ds))=>(ds[ds.length-1]?).map λd=>.nx ((Y.set i (.own (.list ds.dropLast))).set j (.dat d))
 |_=>none
@[simp] noncomputable def HU(i:Nat)(Y:List Sl)(d x:D):Option Out:=match Y[i]?,x with
 |some (.own (.list ds)),.int n=>(ixN ds.length n).map λj=>.nx (Y.set i (.own (.list (ds.set j d))))
 |some (.own (.dict kvs)),x=>(tK x).bind λkey=>if kvs.length<1000 then some (.nx (Y.set i (.own (.dict (put kvs key d)))))else none
 |_,_=>none
namespace S
@[simp] noncomputable def set(i:Nat)(e:E):S|Z,Γ,Y=>(ev Z Γ .val Y e).map λd=>.nx (Y.set i (.dat d))
@[simp] noncomputable def new(i:Nat)(e:E):S|Z,Γ,Y=>(ev Z Γ .val Y e).bind λd=>if bN d then some (.nx (Y.set i (.own d)))else none
@[simp] noncomputable def app(i:Nat)(e:E):S|Z,Γ,Y=>(ev Z Γ .val Y e).bind λd=>HS i Y d
@[simp] noncomputable def pop(i j:Nat):S|Z,Γ,Y=>Eo i j Y
@[simp] noncomputable def seti(i:Nat)(k e:E):S|Z,Γ,Y=>(ev Z Γ .val Y e).bind λd=>(ev Z Γ .val Y k).bind λx=>HU i Y d x
@[simp] noncomputable def ifs(c:E)(a b:Ss):S|Z,Γ,Y=>(ev Z Γ .test Y c).bind λd=>(asB d).bind λt=>if t then exs Z Γ Y a else exs Z Γ Y b
@[simp] noncomputable def fors(tg:Tg)(src:I)(body:Ss):S|Z,Γ,Y=>(evI Z Γ .walk Y src).bind λds=>forL (aw tg) (λY'=>exs Z Γ Y' body) ds Y
@[simp] noncomputable def ret(e:E):S|Z,Γ,Y=>(ev Z Γ .val (Y.map freeze) e).map .rt
@[simp] noncomputable def pass:S|Z,Γ,Y=>some (.nx Y)
@[simp] noncomputable def stuck:S|Z,Γ,Y=>none
end S
section
variable {Z:Fs}{Γ:List (Str×D)}{Y:List Sl}
@[simp] def MV{e:E}:ex Z Γ Y (.set i e)=S.set i e Z Γ Y:=(rfl)
@[simp] def MW{e:E}:ex Z Γ Y (.new i e)=S.new i e Z Γ Y:=(rfl)
@[simp] def MX{e:E}:ex Z Γ Y (.app i e)=S.app i e Z Γ Y:=(rfl)
@[simp] def s_pop{j:Nat}:ex Z Γ Y (.pop i j)=S.pop i j Z Γ Y:=(rfl)
@[simp] def Lg{k e:E}:ex Z Γ Y (.seti i k e)=S.seti i k e Z Γ Y:=(rfl)
@[simp] def MY{c:E}{a b:Ss}:ex Z Γ Y (.ifs c a b)=S.ifs c a b Z Γ Y:=(rfl)
@[simp] def Lh{tg:Tg}{src:I}{body:Ss}:ex Z Γ Y (.fors tg src body)=S.fors tg src body Z Γ Y:=(rfl)
@[simp] def MZ{e:E}:ex Z Γ Y (.ret e)=S.ret e Z Γ Y:=(rfl)
@[simp] def Li :ex Z Γ Y .pass=S.pass  Z Γ Y:=(rfl)
@[simp] def JJ :ex Z Γ Y .stuck=S.stuck  Z Γ Y:=(rfl)
end
abbrev Ss.A(x:S):Ss:=.cons x .nil
abbrev Ss.B(x y:S):Ss:=.cons x (.A y)
structure Def where
 lent:List Bool
 slots:Nat
 body:Ss
@[simp] noncomputable def cL(d:Def)(ds:List D):List Sl:=(d.lent.zip ds).map (λp=>if p.1 then Sl.lent p.2 else .dat p.2)++List.replicate (d.slots-ds.length) .no
noncomputable def Out.val:Out->Option D
 |.nx _=>some .none
 |.rt d=>some d
noncomputable def den(prog:List (Str×Def))(Γ:List (Str×D)):Nat->Fs
 |0,_=>none
 |k+1,f=>(prog.lookup f).map λd=>⟨d.lent,λds=>if ds.length=d.lent.length then (exs (den prog Γ k) Γ (cL d ds) d.body).bind Out.val else none⟩
section
variable {d:D}{i j:Int}{y:Str}{ds es:List D}{kvs:List (Sum Int Str×D)}{t:Bool}{Y:List Sl}
@[simp] def iV:asB (.bool b)=some b:=rfl
@[simp] def JK:asI (.int i)=some i:=rfl
@[simp] def JL{o:Option D}:fin .val o=o:=rfl
@[simp] def HV{o:Option D}:fin .read o=o:=rfl
@[simp] def JM:bm .test=.test:=rfl
@[simp] def Lj:bm .val=.val:=rfl
@[simp] def JN:bm .read=.val:=rfl
@[simp] def JO:bm .walk=.val:=rfl
@[simp] def HW{o:Option D}:fin .walk o=o:=rfl
@[simp] def HX{o:Option D}:noT .walk o=o:=rfl
@[simp] def Eu:aS .walk (.lent d)=some d:=rfl
@[simp] def Hh:aS .walk (.own d)=none:=rfl
@[simp] def HY{o:Option D}:fin .test o=o.bind λd=>(gC d).map .bool:=rfl
@[simp] def JP{o:Option D}:noT .val o=o:=rfl
@[simp] def HZ{o:Option D}:noT .read o=o:=rfl
@[simp] def Hi:gC .none=some false:=rfl
@[simp] def Hj:gC (.bool b)=some b:=rfl
@[simp] def Ia:gC (.int i)=some (i != 0):=rfl
@[simp] def wj:gC (.str x)=if x.length<=big then some ((x.length:Int) != 0)else none:=rfl
@[simp] def Ex:gC (.tuple ds)=some (!ds.isEmpty):=rfl
@[simp] def Hk:gC (.list ds)=some (!ds.isEmpty):=rfl
@[simp] def Hl:gC (.dict kvs)=some (!kvs.isEmpty):=rfl
@[simp] def Ib:gC (.scr ns)=some (!ns.isEmpty):=rfl
@[simp] def JQ:opD .add (.int i) (.int j)=some (.int (i+j)):=rfl
@[simp] def Ab:opD .add (.str x) (.str y)=if x.length+y.length<=big then some (.str (x++y))else none:=rfl
@[simp] def Ac:opD .add (.list ds) (.list es)=if ds.length+es.length<=big then some (.list (ds++es))else none:=rfl
@[simp] def JR:opD .sub (.int i) (.int j)=some (.int (i-j)):=rfl
@[simp] def iC:opD .mul (.int i) (.int j)=if pN i j then some (.int (i*j))else none:=rfl
@[simp] def Ad:opD .mul (.list ds) (.int j)=if mW ds.length j then some (.list (List.replicate j.toNat ds).flatten)else none:=rfl
@[simp] def Ae:opD .mul (.str x) (.int j)=if -1000<=j/\j<=1000/\x.length<=1000 then some (.str ⟨((List.replicate j.toNat x.cps.toList).flatten).toArray⟩)else none:=rfl
@[simp] def Af:opD .mod (.int i) (.int j)=if 0<j then some (.int (i % j))else none:=rfl
@[simp] def Ag:opD .fdiv (.int i) (.int j)=if 0<j/\j<1073741824 then some (.int (i / j))else none:=rfl
@[simp] def JS:cp .lt (.int i) (.int j)=some (decide (i<j)):=rfl
@[simp] def JT:cp .le (.int i) (.int j)=some (decide (i<=j)):=rfl
@[simp] def JU:cp .gt (.int i) (.int j)=some (decide (j<i)):=rfl
@[simp] def JV:cp .lt (.str x) (.str y)=some (decide (x.cps.toList<y.cps.toList)):=rfl
@[simp] def JW:cp .le (.str x) (.str y)=some (!decide (y.cps.toList<x.cps.toList)):=rfl
@[simp] def Ey{a b:D}:cp .eq a b=eqD a b:=rfl
@[simp] def Ez{a b:D}:cp .ne a b=(eqD a b).map (!·):=rfl
@[simp] def EA{a b:D}:cp .isin a b=inD a b:=rfl
@[simp] def tL{a b:D}:cp .notin a b=(inD a b).map (!·):=rfl
@[simp] def Ic{a:D}:cp .notN a .none=some (!decide (a=.none)):=by cases a<;>exact if_pos rfl
@[simp] def eq_int:eqD (.int i) (.int j)=some (decide (i=j)):=by
 show (if true then some _ else _)=_;simp
@[simp] def eq_str:eqD (.str x) (.str y)=some (decide (x=y)):=by
 show (if true then some _ else _)=_;simp
def rd{a b:D}(h1:okS 8 a=true)(h2:okS 8 b=true):eqD a b=some (decide (a=b)):=by
 unfold eqD;simp_all
@[simp] def Ie:pP (.list ds) (.int i)=atI ds i:=rfl
@[simp] def Hm:pP (.tuple ds) (.int i)=atI ds i:=rfl
@[simp] def JX:pP (.scr ns) (.int i)=(atI ns i).map .int:=rfl
@[simp] def Ah:pP (.str x) (.int i)=if x.length<=big then (atI x.cps.toList i).map λc=>.str ⟨#[c]⟩ else none:=rfl
@[simp] def JY:tK (.int i)=some (.inl i):=rfl
@[simp] def JZ:tK (.str x)=some (.inr x):=rfl
@[simp] def qV{l h:Option Int}:slD (.list ds) l h=some (.list (cut ds l h)):=rfl
@[simp] def len_list:biD .len [.list ds]=some (.int ds.length):=rfl
@[simp] def len_tuple:biD .len [.tuple ds]=some (.int ds.length):=rfl
@[simp] def Ka:biD .len [.scr ns]=some (.int ns.length):=rfl
@[simp] def len_str:biD .len [.str x]=if x.length<=big then some (.int x.length)else none:=rfl
@[simp] def int_int:biD .int [.int i]=some (.int i):=rfl
@[simp] def int_bool:biD .int [.bool b]=some (.int (if b then 1 else 0)):=rfl
@[simp] def list_list:biD .list [.list ds]=some (.list ds):=rfl
@[simp] def list_tuple:biD .list [.tuple ds]=some (.list ds):=rfl
@[simp] def dict_list:biD .dict [.list []]=some (.dict []):=rfl
@[simp] def str_int:biD .str [.int i]=(mX i).map .str:=rfl
def pR:biD .fst ds=(fsL ds).bind λy=>if y.length<=big then some (.str y)else none:=rfl
@[simp] def tuple_list:biD .tuple [.list ds]=if ds.length<=big then some (.tuple ds)else none:=rfl
@[simp] def Ig:biD .all [.list ds]=(boolsOf ds).map λbs=>.bool (bs.all id):=rfl
@[simp] def Hn{l:List Bool}:boolsOf (l.map .bool)=some l:=by
 induction l with
 |nil=>rfl
 |cons a r ih=>show (boolsOf _).map _=_;simp_all
@[simp] def iW:meD .split (.str x) [.str y]=if (y.length==0)=false/\x.length+2<=big then some (.list ((Txt.split x y).map .str))else none:=rfl
@[simp] def bR:meD .join (.str x) [.list ds]=(strsOf ds).bind λys=>if (ys.map (·.length)).sum+ys.length*x.length<=big then some (.str (Txt.join x ys))else none:=rfl
@[simp] def EB:iU (.list ds)=some ds:=rfl
@[simp] def items_str:iU (.str x)=if x.length<=big then some (x.cps.toList.map λc=>.str ⟨#[c]⟩)else none:=rfl
@[simp] def Ai{a b:List D}:CJ [.list a,.list b]=if b.length<=a.length then some (zip2 a b)else none:=rfl
@[simp] def Lk{a b:List D}:Aa [a,b]=zip2 a b:=rfl
@[simp] def Ll{a b c:List D}:Aa [a,b,c]=Ej a b c:=rfl
@[simp] def dM:bN (.list ds)=true:=rfl
@[simp] def mY:bN (.dict kvs)=true:=rfl
@[simp] def Kb:bN (.int i)=false:=rfl
@[simp] def Kc:bN (.str x)=false:=rfl
@[simp] def Ih:bN (.bool b)=false:=rfl
@[simp] def Ii:bN .none=false:=rfl
@[simp] def Ho:bN (.tuple ds)=false:=rfl
@[simp] def Kd:bN (.scr ns)=false:=rfl
@[simp] def Ij{m:Md}:aS m (.dat d)=some d:=rfl
@[simp] def pS:aS .val (.lent d)=if bN d then none else some d:=rfl
@[simp] def EC:aS .read (.lent d)=some d:=rfl
@[simp] def ED:aS .test (.lent d)=some d:=rfl
@[simp] def Hq:aS .val (.own d)=none:=rfl
@[simp] def Hr:aS .read (.own d)=some d:=rfl
@[simp] def Ht:aS .test (.own d)=some d:=rfl
@[simp] def Ik{i:Nat}:aw (.one i) d Y=some (Y.set i (.dat d)):=rfl
@[simp] def gF{is:List Nat}:aw (.tup is) (.tuple ds) Y=if is.length=ds.length then some ((is.zip ds).foldl (λY p=>Y.set p.1 (.dat p.2)) Y)else none:=rfl
@[simp] def mZ:lend (.own d)=.lent d:=rfl
@[simp] def Il:lend (.dat d)=.dat d:=rfl
@[simp] def Hu:lend (.lent d)=.lent d:=rfl
@[simp] def Ke:lend .no=.no:=rfl
@[simp] def Kf{f:List Sl->Option Out}:(Out.nx Y).andThen f=f Y:=rfl
@[simp] def Kg{f:List Sl->Option Out}:(Out.rt d).andThen f=some (.rt d):=rfl
@[simp] def Lm:(Out.nx Y).val=some .none:=rfl
@[simp] def Ln:(Out.rt d).val=some d:=rfl
@[simp] def EE:freeze (.own d)=.dat d:=rfl
@[simp] def EF:freeze (.dat d)=.dat d:=rfl
@[simp] def CK:freeze (.lent d)=.lent d:=rfl
@[simp] def Hv:freeze .no=.no:=rfl
@[simp] def Im :lC T (.list ds)=some (T=="list"):=rfl
@[simp] def Hw :lC T (.tuple ds)=some (T=="tuple"):=rfl
@[simp] def Kh :lC T (.int i)=some (T=="int"):=rfl
@[simp] def Ki :lC T (.str x)=some (T=="str"):=rfl
@[simp] def Io :lC T (.bool b)=some (T=="bool"||T=="int"):=rfl
@[simp] def Ip :lC T .none=some false:=rfl
end
def lE{d:D}{i:Int}(h:asI d=some i):d=.int i:=by
 cases d with
 |int=>simp_all
 |_=>cases h
def pT{d:D}(h:asB d=some b):d=.bool b:=by
 cases d with
 |bool=>simp_all
 |_=>cases h
def ng{d:D}(h:kg c d=true):∃n os,d=.vlt c n os:=by
 cases d with
 |vlt=>cases eq_of_beq h;exact⟨_,_,rfl⟩
 |_=>cases h
def Aj{tab:List (Nat×Bool)}{d:D}(h:Em tab d=some b):∃e,d=.exc e:=by
 cases d with
 |exc e=>exact⟨e,rfl⟩
 |_=>cases h
end SI
end
section
variable {α β:Type}{K:fg0}{G' G0 H H' H0:L2.Hp}{d d1 d2 d3:SI.D}{ds ls ms out:List SI.D}{vs:List L2.V}{σ:L2.St}{Y Y' Y1:List SI.Sl}{ep i j k1 k2 n:Nat}{fl lent:List Bool}{X:L2.Cx}{a b c elt iter o tg:PySem.Expr}{apos cpos np p1 p2 p4 pos pos' px qp sp spos:PySem.Pos}{m qual x y:PySem.Str}{as elts es r:List PySem.Expr}{na t:Bool}{pins pins':List (PySem.Addr×PySem.Obj)}{s:PySem.Shared}{P prog:PySem.Program}{w:PySem.World}{base h:PySem.Heap}{Q:PySem.Value->PySem.Shared->Prop}{T T0 ea f i1 i2 l1 l2 z:PySem.Addr}{fp ps:List PySem.Addr}{xs ys:Array PySem.Value}{N cst fns tn vms:List PySem.Str}{js:List Nat}{Z:SI.Fs}{Γ:List (PySem.Str×SI.D)}{sc scope:PySem.Scope}{st:PySem.Stmt}{body body2:List PySem.Stmt}{env:PySem.Env}{mg:PySem.Str->Option PySem.Value}
namespace SI
open PySem
structure Cs where
 N:List Str
 sc:Scope
 fns:List Str
 cst:List Str
 mts:List Nat
 dp:List Nat
 vc:Option Nat:=none
 vms:List Str:=[]
 xcs:List (Str×Nat×List (Nat×Bool)):=[]
noncomputable def az(C:Cs)(x:Str)(k:NameKind):Bool:=C.sc.names.lookup x==some k
noncomputable def bA(x:Str):Bool:=!(x==("__debug__":Str))&&!(x==("__classdict__":Str))&&!(x==("__name__":Str))
noncomputable def cC(C:Cs)(x:Str):Option Nat:=
 match C.N.idxOf? x with
 |some i=>if (az C x .local||az C x .cell||az C x .free)&&bA x then some i else none
 |none=>none
noncomputable def iX(C:Cs)(x:Str):Option Nat:=
 match C.N.idxOf? x with
 |some i=>if (az C x .local||az C x .cell)&&bA x then some i else none
 |none=>none
noncomputable def ah(C:Cs)(x:Str):Bool:=az C x .globalImplicit&&bA x
noncomputable def cOp:Operator->Option Op2
 |.Add=>some .add
 |.Sub=>some .sub
 |.Mult=>some .mul
 |.Mod=>some .mod
 |.FloorDiv=>some .fdiv
 |_=>none
noncomputable def lF:CmpOp->Option Cop
 |.Lt=>some .lt
 |.LtE=>some .le
 |.Gt=>some .gt
 |.GtE=>none
 |.Eq=>some .eq
 |.NotEq=>some .ne
 |.In=>some .isin
 |.NotIn=>some .notin
 |.Is=>none
 |.IsNot=>some .notN
noncomputable def rf(x:Str):Bool:=x.cps.toList.all λc=>decide (c<0x110000)
noncomputable def isSet:Expr->Bool
 |.Set ..=>true
 |_=>false
noncomputable def isSlice:Expr->Bool
 |.Slice ..=>true
 |_=>false
noncomputable def isStar:Expr->Bool
 |.Starred ..=>true
 |_=>false
noncomputable def kh(x:Str):Option Bf:=
 if x=("len":Str)then some .len else if x=("int":Str)then some .int
 else if x=("list":Str)then some .list else if x=("str":Str)then some .str else if x=("tuple":Str)then some .tuple else if x=("all":Str)then some .all else none
noncomputable def rh(x:Str):Option Mf:=
 if x=("split":Str)then some .split else if x=("join":Str)then some .join else none
noncomputable def pU(x:Str):Option String:=
 if x=("int":Str)then some "int" else if x=("str":Str)then some "str" else if x=("list":Str)then some "list" else if x=("tuple":Str)then some "tuple" else if x=("bool":Str)then some "bool" else none
noncomputable def bK:Expr->Bool
 |.Call (.Name id _) [] [] _=>id==("super":Str)
 |_=>false
noncomputable def slots(C:Cs):List Expr->Option (List Nat)
 |[]=>some []
 |.Name x _::r=>(iX C x).bind λi=>(slots C r).map (i::·)
 |_::_=>none
noncomputable def cTg(C:Cs):Expr->Option Tg
 |.Name x _=>(iX C x).map .one
 |.Tuple es _ _=>(slots C es).map .tup
 |_=>none
noncomputable def bE:Expr->List Str
 |.Name x _=>[x]
 |.Tuple es _ _=>es.filterMap fun|.Name x _=>some x|_=>none
 |_=>[]
noncomputable def tN:Tg->Nat->Bool
 |.one i,n=>decide (i<n)
 |.tup is,n=>is.all λi=>decide (i<n)
noncomputable def freeOf(sc:Scope):List Str:=sc.names.filterMap λ(x,k)=>if k==.free then some x else none
noncomputable def pV(N:List Str):List Str->Option (List Nat)
 |[]=>some []
 |x::r=>(N.idxOf? x).bind λi=>(pV N r).map (i::·)
noncomputable def CL(C:Cs)(sc:Scope)(tn:List Str):Bool:=
 sc.kind==.function&&
 sc.names.all (λy=>(y.2 != .free||az C y.1 .cell)&&y.2 != .cell&&(y.2 != .local||sc.names.lookup y.1==some .local))&&
 tn.all (λx=>sc.names.lookup x==some .local)&&
 (freeOf sc).all (λx=>sc.names.lookup x==some .free)&&
 decide ((tn++freeOf sc).Nodup)
noncomputable def EG(C:Cs)(sc:Scope)(tg:Expr):Option (Cs×Nat×List Nat):=
 if CL C sc (bE tg)then (pV C.N (freeOf sc)).map λjs=>({C with N:=bE tg++freeOf sc,sc:=sc,mts:=[],dp:=[]},(bE tg).length,js)else none
def nn{p:Prop}{z:α}(h:none=some z):p:=nomatch h
noncomputable def dh:Expr->Bool
 |.ListComp ..=>true
 |.SetComp ..=>true
 |.DictComp ..=>true
 |_=>false
noncomputable def chk{α:Type}:(b:Bool)->(b=true->Option α)->Option α
 |true,f=>f rfl
 |false,_=>none
noncomputable def got{α β:Type}:(o:Option α)->((a:α)->o=some a->Option β)->Option β
 |some a,f=>f a rfl
 |none,_=>none
noncomputable def eqS{α:Type}(x y:Str)(f:x=y->Option α):Option α:=if h:x=y then f h else none
noncomputable def CM(m:Str):Bool:=m=("append":Str)||m=("extend":Str)||m=("reverse":Str)||m=("clear":Str)||m=("pop":Str)
mutual
noncomputable def Lo:Nat->Stmt->List (Str×Bool)
 |0,_=>[]
 |n+1,s=>match s with
  |.Assign [.Name _ _] (.Call (.Attribute (.Name x _) m _) [] [] _) _=>if CM m then [(x,false)] else []
  |.Assign [.Subscript (.Name x _) _ _] _ _=>[(x,false)]
  |.Assign [.Subscript (.Subscript (.Name x _) _ _) _ _] _ _=>[(x,true)]
  |.Expr (.Call (.Attribute (.Name x _) m _) _ [] _) _=>if CM m then [(x,false)] else []
  |.If _ a b _=>ki n a++ki n b
  |.For _ _ b _ _=>ki n b
  |.While _ b _ _=>ki n b
  |_=>[]
noncomputable def ki:Nat->List Stmt->List (Str×Bool)
 |0,_=>[]
 |n+1,[]=>[]
 |n+1,s::r=>Lo n s++ki n r
end
noncomputable def ay(sc:Scope)(ps:List Str):List Str:=sc.names.filterMap λ(x,k)=>if (k==.local||k==.cell)&&!ps.contains x then some x else none
noncomputable def bF:Stmt->Option (List Str×List Stmt×Scope)
 |.FunctionDef _ args body _ _ _ sc _ _ _=>some (args.args.map (·.arg),body,sc)
 |_=>none
noncomputable def wm(fns cst:List Str)(ps:List Str)(body:List Stmt)(sc:Scope)(vc:Option Nat:=none)(vms:List Str:=[])(xcs:List (Str×Nat×List (Nat×Bool)):=[]):Cs:=
 let N:=ps++ay sc ps
 let ms:=ki 60 body
 {N,sc,fns,cst,vc,vms,xcs,mts:=ms.filterMap λ(x,d)=>if d then none else N.idxOf? x,dp:=ms.filterMap λ(x,d)=>if d then N.idxOf? x else none}
end SI
namespace L2.Z
open PySem PySem.Spec PyProof.Rows L2 L2.C SI
noncomputable abbrev Fg:=fg0
noncomputable def vfs(l n:Addr)(h:Nat):List (Str×V):=[("objects",.ref l),("numbers",.ref n),("objects",.int h)]
noncomputable def ExcAt(a C:Addr):Heap->Prop:=λh=>∃o,h.get? a=some o/\o.cls=.ref C
mutual
inductive Dp (K:Fg)(H:Hp):D->V->Prop
 |none:Dp K H .none .non
 |bool (b:Bool):Dp K H (.bool b) (.bl b)
 |int (i:Int):Dp K H (.int i) (.int i)
 |str (x:Str):PyData.strOk x=true->Dp K H (.str x) (.str x)
 |tuple {a:Addr}{vs:List V}{ds:List D}:H a=some (.tup vs)->Dps K H ds vs->Dp K H (.tuple ds) (.ref a)
 |list {a:Addr}{vs:List V}{ds:List D}:H a=some (.lst vs)->Dps K H ds vs->Dp K H (.list ds) (.ref a)
 |dict {a:Addr}{kvs:List (Key×D)}{ws:List (Key×V)}:H a=some (.dK ws)->Dks K H kvs ws->Dp K H (.dict kvs) (.ref a)
 |scr {a:Addr}{ns:List Int}:SqL K H a (ns.map V.int)->Dp K H (.scr ns) (.ref a)
 |hdl {a C dx l n:Addr}{h:Nat}:H a=some (.ins C dx (vfs l n h))->Dp K H (.hdl h) (.ref a)
 |exc {a:Addr}{C:Nat}:H a=some (.ext (ExcAt a C))->Dp K H (.exc C) (.ref a)
 |fn (a:Addr):Dp K H (.fn a) (.ref a)
inductive Dps (K:Fg)(H:Hp):List D->List V->Prop
 |nil:Dps K H [] []
 |cons {d:D}{v:V}{ds:List D}{vs:List V}:Dp K H d v->Dps K H ds vs->Dps K H (d::ds) (v::vs)
inductive Dks (K:Fg)(H:Hp):List (Key×D)->List (Key×V)->Prop
 |nil:Dks K H [] []
 |cons {k:Key}{d:D}{v:V}{ds:List (Key×D)}{vs:List (Key×V)}:Dp K H d v->Dks K H ds vs->Dks K H ((k,d)::ds) ((k,v)::vs)
end
section
variable {G:Hp}
def Dp.mono(e:Same G G'){v:V}(x:Dp K G d v):Dp K G' d v:=Dp.rec .none .bool .int .str (λh a r=>.tuple (e _ _ h) r) (λh a r=>.list (e _ _ h) r) (λh a r=>.dict (e _ _ h) r) (λh=>.scr (e.seq h)) (λh=>.hdl (e _ _ h)) (λh=>.exc (e _ _ h)) .fn .nil (λa a=>.cons) .nil (λa a=>.cons) x
def Dps.mono(e:Same G G')(x:Dps K G ds vs):Dps K G' ds vs:=Dps.rec .none .bool .int .str (λh a r=>.tuple (e _ _ h) r) (λh a r=>.list (e _ _ h) r) (λh a r=>.dict (e _ _ h) r) (λh=>.scr (e.seq h)) (λh=>.hdl (e _ _ h)) (λh=>.exc (e _ _ h)) .fn .nil (λa a=>.cons) .nil (λa a=>.cons) x
def Dks.mono(e:Same G G'){ds:List (Key×D)}{vs}(x:Dks K G ds vs):Dks K G' ds vs:=Dks.rec .none .bool .int .str (λh a r=>.tuple (e _ _ h) r) (λh a r=>.list (e _ _ h) r) (λh a r=>.dict (e _ _ h) r) (λh=>.scr (e.seq h)) (λh=>.hdl (e _ _ h)) (λh=>.exc (e _ _ h)) .fn .nil (λa a=>.cons) .nil (λa a=>.cons) x
theorem Dps.length(h:Dps K G ds vs):ds.length=vs.length:=by
 induction vs generalizing ds with
 |nil=>cases h;rfl
 |cons v vs ih=>cases h<;>simp_all
theorem Dks.length{ds:List (Key×D)}{vs}(h:Dks K G ds vs):ds.length=vs.length:=by
 induction vs generalizing ds with
 |nil=>cases h;rfl
 |cons v vs ih=>cases h<;>simp_all
def Dps.get{k:Nat}(h:Dps K G ds vs)(e:ds[k]?=some d):∃v,vs[k]?=some v/\Dp K G d v:=by
 induction vs generalizing ds k with
 |nil=>cases h;simp at e
 |cons v vs ih=>
  cases h with
  |cons h r=>
   cases k with
   |zero=>simp_all
   |succ k=>simpa using ih r (by simpa using e)
def Dps.append{ds es}{vs us}(h:Dps K G ds vs)(q:Dps K G es us):Dps K G (ds++es) (vs++us):=by
 induction vs generalizing ds with
 |nil=>cases h;exact q
 |cons v vs ih=>cases h with|cons h r=>exact .cons h (ih r)
def Dps.one{v:V}(h:Dp K G d v):Dps K G [d] [v]:=.cons h .nil
theorem Dps.take(n:Nat)(h:Dps K G ds vs):Dps K G (ds.take n) (vs.take n):=by
 induction vs generalizing ds n with
 |nil=>cases h;simpa using Dps.nil
 |cons v vs ih=>
  cases h with
  |cons h r=>
   cases n with
   |zero=>simpa using Dps.nil
   |succ n=>simpa using Dps.cons h (ih n r)
theorem Dps.drop(n:Nat)(h:Dps K G ds vs):Dps K G (ds.drop n) (vs.drop n):=by
 induction vs generalizing ds n with
 |nil=>cases h;simpa using Dps.nil
 |cons v vs ih=>
  cases h with
  |cons h r=>
   cases n with
   |zero=>simpa using Dps.cons h r
   |succ n=>simpa using ih n r
theorem Dps.set{v:V}(hd:Dp K G d v)(n:Nat)(h:Dps K G ds vs):Dps K G (ds.set n d) (vs.set n v):=by
 induction vs generalizing ds n with
 |nil=>cases h;simpa using Dps.nil
 |cons u vs ih=>
  cases h with
  |cons h r=>
   cases n with
   |zero=>simpa using Dps.cons hd r
   |succ n=>simpa using Dps.cons h (ih n r)
theorem Dps.reverse(h:Dps K G ds vs):Dps K G ds.reverse vs.reverse:=by
 induction vs generalizing ds with
 |nil=>cases h;exact .nil
 |cons u vs ih=>
  cases h with
  |cons h r=>rw[List.reverse_cons,List.reverse_cons];exact (ih r).append (.one h)
theorem Dps.dropLast(h:Dps K G ds vs):Dps K G ds.dropLast vs.dropLast:=by
 rw[List.dropLast_eq_take,List.dropLast_eq_take,h.length];exact h.take _
theorem Dps.rep(h:Dps K G ds vs):∀k:Nat,Dps K G (List.replicate k ds).flatten (List.replicate k vs).flatten
 |0=>.nil
 |k+1=>by
  exact h.append (Dps.rep h k)
def wo{α}(xs:List α)(i:Int):SI.atI xs i=L2.atI xs i:=rfl
def Lp(n d:Nat)(o):SI.sIx n d o=HT.sIx n d o:=rfl
theorem Dps.atI{i}(h:Dps K G ds vs)(e:SI.atI ds i=some d):∃v,L2.atI vs i=some v/\Dp K G d v:=by
 rw[wo]at e;unfold L2.atI at e ⊢;rw[<-h.length];cases q:L2.ixN _ i with
 |none=>simp_all
 |some j=>
  rw[q]at e;exact h.get (e)
theorem Dps.cut(h:Dps K G ds vs)(lo hi):Dps K G (SI.cut ds lo hi) (L2.vX vs lo hi):=by
 unfold SI.cut L2.vX;rw[h.length];exact (h.drop _).take _
end
structure Ext(G H G' H':Hp):Prop where
 hh:Same H H'
 gg:Same G G'
 gh:Same G' H'
 nw:∀b o,G b=Option.none->H b=some o->G' b=Option.none
 ni:∀b C dx fs,H' b=some (.ins C dx fs)->H b=some (.ins C dx fs)
theorem Ext.refl{G H}(h:Same G H):Ext G H G H:=⟨Same.refl _,Same.refl _,h,λa a h a=>h,λa a a a h=>h⟩
noncomputable def notIns:HO->Bool
 |.ins ..=>false
 |_=>true
def cq{H}{p:Addr}{o:HO}(h:notIns o=true):∀b C dx fs,upd H p o b=some (.ins C dx fs)->H b=some (.ins C dx fs):=λb C dx fs e=>by
 by_cases z:b=p
 .subst z;rw[upd_same]at e;cases e;cases h
 .rwa [aa z]at e
theorem Ext.trans{G H G1 H1 G2 H2}(a:Ext G H G1 H1)(b:Ext G1 H1 G2 H2):Ext G H G2 H2:=
 ⟨a.hh.trans b.hh,a.gg.trans b.gg,b.gh,λc o h1 h2=>b.nw c o (a.nw c o h1 h2) (a.hh c o h2),λc C dx fs h=>a.ni c C dx fs (b.ni c C dx fs h)⟩
def bq{H}{p:Addr}{o:HO}(h:H p=.none):Same H (upd H p o):=λb u e=>by
 rwa [aa (aq e h)]
def Ext.laid{G H}{p:Addr}{o:HO}(h:Same G H)(hp:H p=.none)(hi:notIns o=true:=by rfl):Ext G H (upd G p o) (upd H p o):=
 ⟨bq hp,bq (h.free hp),λb u e=>by
  by_cases q:b=p
  .subst q;rwa [upd_same]at e ⊢
  .rw[aa q]at e ⊢;exact h b u e,λb u e1 e2=>by
  rwa [aa (aq e2 hp)],cq hi⟩
def Ext.hid{G H}{p:Addr}{o:HO}(h:Same G H)(hp:H p=.none)(hi:notIns o=true:=by rfl):Ext G H G (upd H p o):=
 ⟨bq hp,Same.refl _,h.trans (bq hp),λa a e a=>e,cq hi⟩
def Ext.show{G H G' H'}{p:Addr}{o:HO}(e:Ext G H G' H')(hp:H p=.none)(hp':H' p=some o)(hg:G' p=.none):Ext G H (upd G' p o) H':=
 ⟨e.hh,e.gg.trans (bq hg),λb u q=>by
  by_cases z:b=p
  .subst z;rw[upd_same]at q;grind
  .rw[aa z]at q;exact e.gh b u q,λb u e1 e2=>by
  rw[aa (aq e2 hp)];exact e.nw b u e1 e2,e.ni⟩
inductive Dr (K:Fg)(G H:Hp):D->V->Prop
 |of {d:D}{v:V}:Dp K G d v->Dr K G H d v
 |list {a:Addr}{vs:List V}{ds:List D}:H a=some (.lst vs)->Dps K G ds vs->Dr K G H (.list ds) (.ref a)
 |dict {a:Addr}{kvs:List (Key×D)}{ws:List (Key×V)}:H a=some (.dK ws)->Dks K G kvs ws->Dr K G H (.dict kvs) (.ref a)
 |vlt {C a dx l n:Addr}{h:Nat}{as:List Addr}{objs:List D}:H a=some (.ins C dx (vfs l n h))->H l=some (.lst (as.map .ref))->Dps K G objs (as.map .ref)->Dr K G H (.vlt C h objs) (.ref a)
section
variable {G:Hp}{v:V}
def Dr.ext(e:Ext G H G' H'):Dr K G H d v->Dr K G' H' d v
 |.of h=>.of (h.mono e.gg)
 |.list h r=>.list (e.hh _ _ h) (r.mono e.gg)
 |.dict h r=>.dict (e.hh _ _ h) (r.mono e.gg)
 |.vlt h1 h2 r=>.vlt (e.hh _ _ h1) (e.hh _ _ h2) (r.mono e.gg)
theorem Dr.none(h:Dr K G H .none v):v=.non:=by cases h with|of h=>cases h;rfl
theorem Dr.bool{b}(h:Dr K G H (.bool b) v):v=.bl b:=by cases h with|of h=>cases h;rfl
theorem Dr.int{i}(h:Dr K G H (.int i) v):v=.int i:=by cases h with|of h=>cases h;rfl
theorem Dr.str{x}(h:Dr K G H (.str x) v):v=.str x/\PyData.strOk x=true:=by cases h with|of h=>cases h with|str _ o=>exact⟨rfl,o⟩
theorem Dr.lst(s:Same G H)(h:Dr K G H (.list ds) v):∃a vs,v=.ref a/\H a=some (.lst vs)/\Dps K G ds vs:=by
 cases h with
 |of h=>cases h with|list h r=>exact⟨_,_,rfl,s _ _ h,r⟩
 |list h r=>exact⟨_,_,rfl,h,r⟩
def Dr.dct{ds:List (Key×D)}(s:Same G H)(h:Dr K G H (.dict ds) v):∃a vs,v=.ref a/\H a=some (.dK vs)/\Dks K G ds vs:=by
 cases h with
 |of h=>cases h with|dict h r=>exact⟨_,_,rfl,s _ _ h,r⟩
 |dict h r=>exact⟨_,_,rfl,h,r⟩
theorem Dr.tup(s:Same G H)(h:Dr K G H (.tuple ds) v):∃a vs,v=.ref a/\H a=some (.tup vs)/\Dps K G ds vs:=by
 cases h with|of h=>cases h with|tuple h r=>exact⟨_,_,rfl,s _ _ h,r⟩
theorem Dr.scr{ns}(s:Same G H)(h:Dr K G H (.scr ns) v):∃a,v=.ref a/\SqL K H a (ns.map V.int):=by
 cases h with|of h=>cases h with|scr h=>exact⟨_,rfl,s.seq h⟩
def Dr.dp(h:Dr K G H d v)(o:bN d=false):Dp K G d v:=by
 cases h with
 |of h=>exact h
 |list=>cases o
 |dict=>cases o
 |vlt=>cases o
end
def OwnAt(K:Fg)(G H:Hp)(d:D)(p:Addr):Prop:=(∃ds vs,d=.list ds/\H p=some (.lst vs)/\Dps K G ds vs)\/∃kvs ws,d=.dict kvs/\H p=some (.dK ws)/\Dks K G kvs ws
structure EnvD(K:Fg)(G0 H0 G H:Hp)(σ:St)(Y:List Sl):Prop where
 ext:Ext G0 H0 G H
 len:σ.length=Y.length
 dat:∀(i:Nat) d,Y[i]?=some (.dat d)->∃v,σ[i]?=some (some v)/\Dp K G d v
 lent:∀(i:Nat) d,Y[i]?=some (.lent d)->∃v,σ[i]?=some (some v)/\Dr K G0 H0 d v
 own:∀(i:Nat) d,Y[i]?=some (.own d)->∃p,σ[i]?=some (some (.ref p))/\G p=Option.none/\H0 p=Option.none/\OwnAt K G H d p
 apart:∀(i j:Nat) d e p,Y[i]?=some (.own d)->Y[j]?=some (.own e)->σ[i]?=some (some (.ref p))->σ[j]?=some (some (.ref p))->i=j
section
variable {G:Hp}
def OwnAt.ext{p:Addr}(e:Ext G H G' H'):OwnAt K G H d p->OwnAt K G' H' d p
 |.inl ⟨ds,vs,h1,h2,h3⟩=>.inl ⟨ds,vs,h1,e.hh _ _ h2,h3.mono e.gg⟩
 |.inr ⟨ds,vs,h1,h2,h3⟩=>.inr ⟨ds,vs,h1,e.hh _ _ h2,h3.mono e.gg⟩
def OwnAt.dr{p:Addr}:OwnAt K G H d p->Dr K G H d (.ref p)
 |.inl ⟨ds,vs,h1,h2,h3⟩=>by rw[h1];exact .list h2 h3
 |.inr ⟨ds,vs,h1,h2,h3⟩=>by rw[h1];exact .dict h2 h3
theorem OwnAt.some{p:Addr}:OwnAt K G H d p->∃o,H p=.some o
 |.inl ⟨ds,vs,h1,h2,h3⟩=>⟨_,h2⟩
 |.inr ⟨ds,vs,h1,h2,h3⟩=>⟨_,h2⟩
theorem OwnAt.notIns{p:Addr}{o:HO}:OwnAt K G (upd H p o) d p->notIns o=true
 |.inl ⟨ds,vs,h1,h2,h3⟩=>by rw[upd_same]at h2;cases h2;rfl
 |.inr ⟨ds,vs,h1,h2,h3⟩=>by rw[upd_same]at h2;cases h2;rfl
def EnvD.sub(E:EnvD K G0 H0 G H σ Y):Same G H:=E.ext.gh
def EnvD.step(E:EnvD K G0 H0 G H σ Y)(e:Ext G H G' H'):EnvD K G0 H0 G' H' σ Y:=
 ⟨E.ext.trans e,E.len,λi d h=>let ⟨v,a,b⟩:=E.dat i d h;⟨v,a,b.mono e.gg⟩,E.lent,
  λi ds h=>let ⟨p,a,c,f,g⟩:=E.own i ds h;let ⟨o,ho⟩:=g.some;⟨p,a,e.nw _ _ c ho,f,g.ext e⟩,E.apart⟩
theorem EnvD.read(E:EnvD K G0 H0 G H σ Y){sl:Sl}(h:Y[i]?=some sl)(hd:aS .read sl=some d):∃v,σ[i]?=some (some v)/\Dr K G H d v:=by
 cases sl with
 |no=>cases hd
 |dat d'=>cases hd;obtain⟨v,a,b⟩:=E.dat i d h;exact⟨v,a,.of b⟩
 |lent d'=>cases hd;obtain⟨v,a,b⟩:=E.lent i d h;exact⟨v,a,b.ext E.ext⟩
 |own d'=>cases hd;obtain⟨p,a,_,_,b⟩:=E.own i d h;exact⟨_,a,b.dr⟩
set_option tactic.hygienic true in
theorem EnvD.val(E:EnvD K G0 H0 G H σ Y){sl:Sl}(h:Y[i]?=some sl)(hd:aS .val sl=some d):∃v,σ[i]?=some (some v)/\Dp K G d v:=by
 cases sl with
 |no=>cases hd
 |dat d'=>cases hd;exact E.dat i d h
 |lent d'=>
  rw[pS]at hd;split at hd
  .cases hd
  .rename_i c
   cases hd;obtain⟨v,a,b⟩:=E.lent i d h;exact⟨v,a,(b.ext E.ext).dp (by simpa using c)⟩
 |own d'=>cases hd
def getE_set{l:List α}{i j}{x y}(h:(l.set i x)[j]?=some y):(j=i/\y=x)\/(j≠i/\l[j]?=some y):=by
 by_cases e:j=i
 .subst e
  by_cases q:j<l.length<;>simp_all
 .rw[gn0 (Ne.symm e)]at h;exact .inr ⟨e,h⟩
theorem EnvD.set{v:V}(E:EnvD K G0 H0 G H σ Y)(hi:i<σ.length)(h:Dp K G d v):EnvD K G0 H0 G H (σ.set i (some v)) (Y.set i (.dat d)):=by
 refine⟨E.ext,by simp[E.len],λj e hj=>?_,λj e hj=>?_,λj ds hj=>?_,λj k ds es p hj hk aj ak=>?_⟩
 .rcases getE_set hj with⟨rfl,q⟩|⟨ne,q⟩
  .cases q;exact⟨v,gs0 hi,h⟩
  .rw[gn0 (Ne.symm ne)];exact E.dat j e q
 .rcases getE_set hj with⟨rfl,q⟩|⟨ne,q⟩
  .cases q
  .rw[gn0 (Ne.symm ne)];exact E.lent j e q
 .rcases getE_set hj with⟨rfl,q⟩|⟨ne,q⟩
  .cases q
  .rw[gn0 (Ne.symm ne)];exact E.own j ds q
 .rcases getE_set hj with⟨rfl,q⟩|⟨nj,q⟩
  .cases q
  rcases getE_set hk with⟨rfl,r⟩|⟨nk,r⟩
  .cases r
  rw[gn0 (Ne.symm nj)]at aj;rw[gn0 (Ne.symm nk)]at ak;exact E.apart j k ds es p q r aj ak
def EnvD.setOwn{p:Addr}(E:EnvD K G0 H0 G H σ Y)(hi:i<σ.length)(hO:OwnAt K G H d p)(hG:G p=.none)(h0:H0 p=.none)
  (new:∀(j:Nat) e,Y[j]?=some (.own e)->σ[j]?≠some (some (.ref p))):EnvD K G0 H0 G H (σ.set i (some (.ref p))) (Y.set i (.own d)):=by
 refine⟨E.ext,by simp[E.len],λj e hj=>?_,λj e hj=>?_,λj es hj=>?_,λj k es fs q hj hk aj ak=>?_⟩
 .rcases getE_set hj with⟨rfl,z⟩|⟨ne,z⟩
  .cases z
  .rw[gn0 (Ne.symm ne)];exact E.dat j e z
 .rcases getE_set hj with⟨rfl,z⟩|⟨ne,z⟩
  .cases z
  .rw[gn0 (Ne.symm ne)];exact E.lent j e z
 .rcases getE_set hj with⟨rfl,z⟩|⟨ne,z⟩
  .cases z;exact⟨p,gs0 hi,hG,h0,hO⟩
  .rw[gn0 (Ne.symm ne)];exact E.own j es z
 .rcases getE_set hj with⟨ej,_⟩|⟨nj,hj'⟩
  .rcases getE_set hk with⟨ek,_⟩|⟨nk,hk'⟩
   .rw[ej,ek]
   .rw[ej,gs0 hi]at aj
    rw[gn0 (Ne.symm nk)]at ak
    simp_all
  .rw[gn0 (Ne.symm nj)]at aj
   rcases getE_set hk with⟨ek,_⟩|⟨nk,hk'⟩
   .rw[ek,gs0 hi]at ak
    cases ak;exact absurd aj (new j es hj')
   .rw[gn0 (Ne.symm nk)]at ak
    exact E.apart j k es fs q hj' hk' aj ak
def EnvD.fresh{p:Addr}(E:EnvD K G0 H0 G H σ Y)(hp:H p=.none):∀(j:Nat) e,Y[j]?=some (.own e)->σ[j]?≠some (some (.ref p)):=λj es hj hσ=>by
 obtain⟨q,a,_,_,b⟩:=E.own j es hj;obtain⟨o,ho⟩:=b.some
 grind
def EnvD.change{e:D}{p:Addr}{o:HO}(E:EnvD K G0 H0 G H σ Y)(hi:Y[i]?=some (.own d))(hp:σ[i]?=some (some (.ref p)))(h:OwnAt K G (upd H p o) e p):
  EnvD K G0 H0 G (upd H p o) σ (Y.set i (.own e)):=by
 obtain⟨p',a,c,f,g⟩:=E.own i d hi;rw[hp]at a;cases a;refine⟨⟨λx o e=>?_,E.ext.gg,λx o e=>?_,E.ext.nw,λx C dx fs q=>E.ext.ni x C dx fs (cq h.notIns x C dx fs q)⟩,by simp[E.len],λj e hj=>?_,λj e hj=>?_,λj fs hj=>?_,λj k fs gs q hj hk aj ak=>?_⟩
 .rw[aa (aq e f)];exact E.ext.hh x o e
 .rw[aa (aq e c)];exact E.ext.gh x o e
 .rcases getE_set hj with⟨rfl,z⟩|⟨ne,z⟩
  .cases z
  .exact E.dat j e z
 .rcases getE_set hj with⟨rfl,z⟩|⟨ne,z⟩
  .cases z
  .exact E.lent j e z
 .rcases getE_set hj with⟨rfl,z⟩|⟨ne,z⟩
  .cases z;exact⟨p,hp,c,f,h⟩
  .obtain⟨q,a',c',f',g'⟩:=E.own j fs z
   have qp:q≠p:=by
    rintro rfl
    exact ne (E.apart j i fs d q z hi a' hp)
   refine⟨q,a',c',f',?_⟩;rcases g' with⟨ds,vs,h1,h2,h3⟩|⟨ds,vs,h1,h2,h3⟩
   .exact .inl ⟨ds,vs,h1,by rw[aa qp];exact h2,h3⟩
   .exact .inr ⟨ds,vs,h1,by rw[aa qp];exact h2,h3⟩
 .have hj':∃fs',Y[j]?=some (.own fs'):=by
   rcases getE_set hj with⟨rfl,_⟩|⟨_,z⟩
   .exact⟨d,hi⟩
   .exact⟨fs,z⟩
  have hk':∃fs',Y[k]?=some (.own fs'):=by
   rcases getE_set hk with⟨rfl,_⟩|⟨_,z⟩
   .exact⟨d,hi⟩
   .exact⟨gs,z⟩
  obtain⟨_,hj'⟩:=hj';obtain⟨_,hk'⟩:=hk';exact E.apart j k _ _ q hj' hk' aj ak
def EnvD.frz(E:EnvD K G0 H0 G H σ Y)(hl:Y'.length=Y.length)(h:∀(i:Nat) s,Y'[i]?=some s->Y[i]?=some s\/∃d,Y[i]?=some (.own d)/\s=.dat d):∃G',EnvD K G0 H0 G' H σ Y'/\Same G G':=by
 classical
 let P:Addr->Prop:=λb=>∃(i:Nat)(d:D),Y[i]?=some (.own d)/\Y'[i]?=some (.dat d)/\σ[i]?=some (some (.ref b))
 have hp:∀b,P b->G b=.none/\H0 b=.none:=λb ⟨i,d,h1,_,h3⟩=>by
  obtain⟨p,a,c,f,_⟩:=E.own i d h1;rw[h3]at a;cases a;exact⟨c,f⟩
 let G':Hp:=λb=>if P b then H b else G b
 have gin:∀b,P b->G' b=H b:=λb h=>if_pos h
 have gout:∀b,¬P b->G' b=G b:=λb h=>if_neg h
 have gs:Same G G':=λb o e=>by rw[gout b λh=>by rw[(hp b h).1]at e;cases e];exact e
 refine⟨G',⟨⟨E.ext.hh,E.ext.gg.trans gs,λb o e=>?_,λb o e1 e2=>?_,E.ext.ni⟩,by rw[hl];exact E.len,λi d hi=>?_,λi d hi=>?_,λi d hi=>?_,λi j d e p hi hj=>?_⟩,gs⟩
 .by_cases c:P b
  .rw[gin b c]at e;exact e
  .rw[gout b c]at e;exact E.ext.gh b o e
 .rw[gout b λh=>by rw[(hp b h).2]at e2;cases e2];exact E.ext.nw b o e1 e2
 .rcases h i _ hi with z|⟨d',z,e⟩
  .obtain⟨v,a,b⟩:=E.dat i d z
   exact⟨v,a,b.mono gs⟩
  .cases e
   obtain⟨p,a,c,f,g⟩:=E.own i d z;have q:G' p=H p:=gin p ⟨i,d,z,hi,a⟩;rcases g with⟨ds,vs,rfl,h2,h3⟩|⟨ds,vs,rfl,h2,h3⟩
   .exact⟨_,a,.list (q.trans h2) (h3.mono gs)⟩
   .exact⟨_,a,.dict (q.trans h2) (h3.mono gs)⟩
 .rcases h i _ hi with z|⟨d',z,e⟩
  .exact E.lent i d z
  .cases e
 .rcases h i _ hi with z|⟨d',z,e⟩
  .obtain⟨p,a,c,f,g⟩:=E.own i d z
   refine⟨p,a,?_,f,?_⟩
   .rw[gout p λ⟨j,d',y1,y2,y3⟩=>by cases E.apart i j d d' p z y1 a y3;rw[hi]at y2;cases y2];exact c
   .rcases g with⟨ds,vs,h1,h2,h3⟩|⟨ds,vs,h1,h2,h3⟩
    .exact .inl ⟨ds,vs,h1,h2,h3.mono gs⟩
    .exact .inr ⟨ds,vs,h1,h2,h3.mono gs⟩
  .cases e
 .rcases h i _ hi with z|⟨d',z,y⟩
  .rcases h j _ hj with z'|⟨d',z',y⟩
   .exact E.apart i j d e p z z'
   .cases y
  .cases y
def EnvD.freeze1(E:EnvD K G0 H0 G H σ Y)(hi:Y[i]?=some (.own d)):∃G',EnvD K G0 H0 G' H σ (Y.set i (.dat d))/\Same G G':=
 E.frz (by simp) λj s hj=>(getE_set hj).elim (λ⟨e,q⟩=>.inr ⟨d,e▸hi,q⟩) λ⟨_,q⟩=>.inl q
theorem EnvD.freeze(E:EnvD K G0 H0 G H σ Y):∃G',EnvD K G0 H0 G' H σ (Y.map freeze)/\Same G G':=
 E.frz (by simp) λj s hj=>by
  rw[gm0]at hj;obtain⟨s',q,rfl⟩:=mx0 hj;cases s' with
  |own d=>exact .inr ⟨d,q,rfl⟩
  |_=>exact .inl q
end
inductive Das (K:Fg)(G H:Hp):List Bool->List D->List V->Prop
 |nil {fl:List Bool}:Das K G H fl [] []
 |cons {fl:List Bool}{d:D}{v:V}{ds:List D}{vs:List V}:(fl.headD false=false->Dp K G d v)->Dr K G H d v->Das K G H fl.tail ds vs->Das K G H fl (d::ds) (v::vs)
theorem Das.dps{G H}:∀{ds:List D}{vs},Das K G H [] ds vs->Dps K G ds vs
 |_,_,.nil=>.nil
 |_,_,.cons h1 _ r=>.cons (h1 rfl) (Das.dps r)
theorem Das.length{G H}{vs}(h:Das K G H fl ds vs):ds.length=vs.length:=by
 induction h<;>simp_all
noncomputable def tEv(K:Fg)(Y:List Sl)(d:D):TE:=λσ H Q=>∃G0 H0 G,EnvD K G0 H0 G H σ Y/\∀v G' H',Ext G H G' H'->Dp K G' d v->Q v H'
noncomputable def tEr(K:Fg)(Y:List Sl)(d:D):TE:=λσ H Q=>∃G0 H0 G,EnvD K G0 H0 G H σ Y/\∀v G' H',Ext G H G' H'->Dr K G' H' d v->Q v H'
noncomputable def tEt(K:Fg)(Y:List Sl)(b:Bool):TT:=λσ H Q=>∃G0 H0 G,EnvD K G0 H0 G H σ Y/\∀G' H',Ext G H G' H'->Q b H'
noncomputable def tEa(K:Fg)(Y:List Sl)(fl:List Bool)(ds:List D):TA:=λσ H Q=>∃G0 H0 G,EnvD K G0 H0 G H σ Y/\∀vs G' H',Ext G H G' H'->Das K G' H' fl ds vs->Q vs H'
noncomputable def tEn(K:Fg)(Y:List Sl)(d:D):TE:=λσ H Q=>∃G0 H0 G,EnvD K G0 H0 G H σ Y/\∀p G' H',Ext G H G' H'->G' p=.none->H p=.none->OwnAt K G' H' d p->Q (.ref p) H'
def Ev(X:Cx)(Y:List Sl)(e:Expr)(d:D):Prop:=PE X e (tEv X.K Y d)
def Er(X:Cx)(Y:List Sl)(e:Expr)(d:D):Prop:=PE X e (tEr X.K Y d)
def Et(X:Cx)(Y:List Sl)(e:Expr)(b:Bool):Prop:=PT X e (tEt X.K Y b)
def Ew(X:Cx)(Y:List Sl)(e:Expr)(b:Bool):Prop:=PW X e (tEt X.K Y b)
def Ea(X:Cx)(Y:List Sl)(fl:List Bool)(es:List Expr)(ds:List D):Prop:=PA X es (tEa X.K Y fl ds)
def En(X:Cx)(Y:List Sl)(e:Expr)(d:D):Prop:=PE X e (tEn X.K Y d)
theorem OwnAt.show{G H G' H'}{p}(e:Ext G H G' H')(g:G' p=.none)(h0:H p=.none)(o:OwnAt K G' H' d p):∃G2,Ext G H G2 H'/\Dp K G2 d (.ref p):=by
 obtain⟨ob,ho⟩:=o.some;refine⟨_,e.show h0 ho g,?_⟩;rcases o with⟨ds,vs,h1,h2,h3⟩|⟨ds,vs,h1,h2,h3⟩
 .rw[h2]at ho;cases ho;rw[h1];exact .list upd_same (h3.mono (bq g))
 .rw[h2]at ho;cases ho;rw[h1];exact .dict upd_same (h3.mono (bq g))
def En.ev{e:Expr}(h:En X Y e d):Ev X Y e d:=λpins s σ H Q I ⟨G0,H0,G,E,k⟩=>
 h _ s σ H Q I ⟨G0,H0,G,E,λp G' H' e g h0 o=>let ⟨G2,e2,r⟩:=o.show e g h0;k _ G2 H' e2 r⟩
def Ev.er{e:Expr}(h:Ev X Y e d):Er X Y e d:=by rintro pins s σ H Q I ⟨G0,H0,G,E,k⟩;exact h _ s σ H Q I ⟨G0,H0,G,E,λv G' H' e r=>k v G' H' e (.of r)⟩
def Ew.et{e:Expr}{b:Bool}(h:Ew X Y e b):Et X Y e b:=PW.pt h
def EH{i j pos}:Ev X Y (.Constant (.int i) j pos) (.int i):=by rintro pins s σ H Q I ⟨G0,H0,G,E,k⟩;exact gp _ s σ H Q I (k _ G H (.refl E.sub) (.int i))
def Iq{b j pos}:Ev X Y (.Constant (.bool b) j pos) (.bool b):=by rintro pins s σ H Q I ⟨G0,H0,G,E,k⟩;exact Hy _ s σ H Q I (k _ G H (.refl E.sub) (.bool b))
def EI{j pos}:Ev X Y (.Constant .none j pos) .none:=by rintro pins s σ H Q I ⟨G0,H0,G,E,k⟩;exact DJ _ s σ H Q I (k _ G H (.refl E.sub) .none)
def EJ{x j pos}(h:PyData.strOk x=true):Ev X Y (.Constant (.str x) j pos) (.str x):=by rintro pins s σ H Q I ⟨G0,H0,G,E,k⟩;exact DK _ s σ H Q I (k _ G H (.refl E.sub) (.str x h))
def EK(i:Nat)(h:(Y[i]?).bind (aS .val)=some d)(hN:X.N[i]?=some x)(hv:Vis X.env.scope x)(hd:(x==("__debug__":Str))=false)(hcd:(x==("__classdict__":Str))=false):Ev X Y (.Name x pos) d:=by
 rintro pins s σ H Q I ⟨G0,H0,G,E,k⟩
 obtain⟨sl,h1,h2⟩:=bx0 h;obtain⟨v,e,r⟩:=E.val h1 h2;exact cm hN hv hd hcd _ s σ H Q I ⟨v,e,k v G H (.refl E.sub) r⟩
def wq(i:Nat){x}{pos}(h:(Y[i]?).bind (aS .read)=some d)(hN:X.N[i]?=some x)(hv:Vis X.env.scope x)(hd:(x==("__debug__":Str))=false)(hcd:(x==("__classdict__":Str))=false):Er X Y (.Name x pos) d:=by
 rintro pins s σ H Q I ⟨G0,H0,G,E,k⟩
 obtain⟨sl,h1,h2⟩:=bx0 h;obtain⟨v,e,r⟩:=E.read h1 h2;exact cm hN hv hd hcd _ s σ H Q I ⟨v,e,k v G H (.refl E.sub) r⟩
def ae{e:Expr}{es}{env}(h:isStar e=false):starEach (e::es) env=(false,eval e env)::starEach es env:=by cases e<;>first|rfl|cases h
def lH :Ea X Y fl [] []:=by rintro pos pins s σ H Q I ⟨G0,H0,G,E,k⟩;exact aD _ _ s σ H Q I (k [] G H (.refl E.sub) .nil)
def fC{e:Expr}(he:Ev X Y e d)(hr:Ea X Y fl.tail es ds)(hs:isStar e=false):Ea X Y fl (e::es) (d::ds):=
 λpos pins s σ H Q I ⟨G0,H0,G,E,k⟩=>ar he hr (ae hs) _ _ s σ H Q I ⟨G0,H0,G,E,λv G1 H1 e1 r1=>
  ⟨G0,H0,G1,E.step e1,λvs G2 H2 e2 r2=>k _ G2 H2 (e1.trans e2) (.cons (λa=>r1.mono e2.gg) (.of (r1.mono e2.gg)) r2)⟩⟩
def wt{e:Expr}(he:Er X Y e d)(hf:fl.headD false=true)(hr:Ea X Y fl.tail es ds)(hs:isStar e=false):Ea X Y fl (e::es) (d::ds):=
 λpos pins s σ H Q I ⟨G0,H0,G,E,k⟩=>ar he hr (ae hs) _ _ s σ H Q I ⟨G0,H0,G,E,λv G1 H1 e1 r1=>
  ⟨G0,H0,G1,E.step e1,λvs G2 H2 e2 r2=>k _ G2 H2 (e1.trans e2) (.cons (λc=>by simp_all) (r1.ext e2) r2)⟩⟩
abbrev R2r(K:Fg)(r:R2)(d1 d2 d:D):Prop:=∀(x y:V)(G H:Hp)(Q:VK),Same G H->Dr K G H d1 x->Dr K G H d2 y->(∀v G' H',Ext G H G' H'->Dp K G' d v->Q v H')->r x y H Q
abbrev R2n(K:Fg)(r:R2)(d1 d2 d:D):Prop:=∀(x y:V)(G H:Hp)(Q:VK),Same G H->Dr K G H d1 x->Dr K G H d2 y->(∀p G' H',Ext G H G' H'->G' p=.none->H p=.none->OwnAt K G' H' d p->Q (.ref p) H')->r x y H Q
def ev_op{op}{r:R2}(ho:OpR X (binaryOp op) r)(ha:Er X Y a d1)(hb:Er X Y b d2)(h:R2r X.K r d1 d2 d):Ev X Y (.BinOp a op b pos) d:=
 λpins s σ H Q I ⟨G0,H0,G,E,k⟩=>mL ho ha hb _ s σ H Q I ⟨G0,H0,G,E,λx G1 H1 e1 r1=>⟨G0,H0,G1,E.step e1,λy G2 H2 e2 r2=>
  h x y G2 H2 Q e2.gh (r1.ext e2) r2 λv G' H' e3 r3=>k v G' H' (e1.trans (e2.trans e3)) r3⟩⟩
def en_op{op:Operator}{r:R2}(ho:OpR X (binaryOp op) r)(ha:Er X Y a d1)(hb:Er X Y b d2)(h:R2n X.K r d1 d2 d):En X Y (.BinOp a op b pos) d:=
 λpins s σ H Q I ⟨G0,H0,G,E,k⟩=>mL ho ha hb _ s σ H Q I ⟨G0,H0,G,E,λx G1 H1 e1 r1=>⟨G0,H0,G1,E.step e1,λy G2 H2 e2 r2=>
  h x y G2 H2 Q e2.gh (r1.ext e2) r2 λp G' H' e3 g3 h3 r3=>k p G' H' (e1.trans (e2.trans e3)) g3 (e1.hh.free (e2.hh.free h3)) r3⟩⟩
def EL{op:CmpOp}{r:R2}(ho:OpR X (compareOp op) r)(ha:Er X Y a d1)(hb:Er X Y b d2)(h:R2r X.K r d1 d2 d)(hm:behindInMarks op b=false):Ev X Y (.Compare a [op] [b] pos) d:=
 λpins s σ H Q I ⟨G0,H0,G,E,k⟩=>zM ho ha hb hm _ s σ H Q I ⟨G0,H0,G,E,λx G1 H1 e1 r1=>⟨G0,H0,G1,E.step e1,λy G2 H2 e2 r2=>
  h x y G2 H2 Q e2.gh (r1.ext e2) r2 λv G' H' e3 r3=>k v G' H' (e1.trans (e2.trans e3)) r3⟩⟩
def EM{op:CmpOp}{r:R2}(ho:OpR X (compareOp op) r)(ha:Er X Y a d1)(hb:Er X Y b d2)(h:R2r X.K r d1 d2 (.bool t))(hm:behindInMarks op b=false):Et X Y (.Compare a [op] [b] pos) t:=
 λpins s σ H Q I ⟨G0,H0,G,E,k⟩=>iy ho ha hb hm _ s σ H Q I ⟨G0,H0,G,E,λx G1 H1 e1 r1=>⟨G0,H0,G1,E.step e1,λy G2 H2 e2 r2=>
  h x y G2 H2 _ e2.gh (r1.ext e2) r2 λv G' H' e3 r3=>by
   cases r3;exact⟨t,rfl,k G' H' (e1.trans (e2.trans e3))⟩⟩⟩
def rj{r:R2}(hr:IxR X r)(ha:Er X Y a d1)(hb:Ev X Y b d2)(h:R2r X.K r d1 d2 d)(hs:isSlice b=false):Ev X Y (.Subscript a b pos) d:=
 λpins s σ H Q I ⟨G0,H0,G,E,k⟩=>jW hr ha hb (by cases b<;>first|exact λc c=>rfl|cases hs) _ s σ H Q I ⟨G0,H0,G,E,λx G1 H1 e1 r1=>⟨G0,H0,G1,E.step e1,λy G2 H2 e2 r2=>
  h x y G2 H2 Q e2.gh (r1.ext e2) (.of r2) λv G' H' e3 r3=>k v G' H' (e1.trans (e2.trans e3)) r3⟩⟩
def nh{g}{i j}(hg:∀G,Dp K G d (g i j)):R2r K (rI0 g) (.int i) (.int j) d:=λx y G H Q s hx hy k=>⟨i,j,hx.int,hy.int,k _ G H (.refl s) (hg G)⟩
def r2_I{C}{g}{i j}(hC:C i j)(hg:∀G,Dp K G d (g i j)):R2r K (rI C g) (.int i) (.int j) d:=λx y G H Q s hx hy k=>⟨i,j,hx.int,hy.int,hC,k _ G H (.refl s) (hg G)⟩
def big_eq:SI.big=sizeLine:=rfl
def fD{x y}(hx:PyData.strOk x=true)(hy:PyData.strOk y=true):PyData.strOk (x++y)=true:=by
 have e:(x++y).cps=x.cps++y.cps:=rfl;unfold PyData.strOk at hx hy ⊢;rw[e,Array.all_append,hx,hy];rfl
def strOk_iff{x}:PyData.strOk x=true↔∀c∈x.cps.toList,c<0x110000:=by
 unfold PyData.strOk;rw[<-Array.all_toList,List.all_eq_true];simp
set_option tactic.hygienic true in
def mul_eq(x:Str)(j:Int):Txt.mul x j=⟨((List.replicate j.toNat x.cps.toList).flatten).toArray⟩:=by
 have key:∀(n:Nat)(acc:List Nat),(List.replicate n x.cps).foldl (·++·) acc.toArray=(acc++(List.replicate n x.cps.toList).flatten).toArray:=by
  intro n
  induction n with
  |zero=>intro acc;simp
  |succ n ih=>
   intro acc;rw[List.replicate_succ,List.foldl_cons,List.replicate_succ,List.flatten_cons];have e:acc.toArray++x.cps=(acc++x.cps.toList).toArray:=by simp
   rw[e,ih,List.append_assoc]
 unfold Txt.mul;split
 .rename_i h
  have:j.toNat=0:=by grind
  rw[this];rfl
 .rename_i h
  split
  .rename_i h2
   rw[Bool.or_eq_true]at h2;rcases h2 with h2|h2
   .have:j.toNat=1:=by have:=eq_of_beq h2;simp_all
    rw[this];simp
   .have e:x.cps.toList=[]:=by
     have:x.cps.size=0:=eq_of_beq h2;exact ez0 (by simpa using this)
    have e2:(List.replicate j.toNat x.cps.toList).flatten=[]:=by rw[e];simp
    rw[e2];cases x with|mk c=>congr 1;exact Array.toList_inj.mp (by rw[e])
  .have:=key j.toNat []
   rw[List.nil_append]at this;rw[<-this]
mutual
noncomputable def toW:D->PySem.W.Dat
 |.none=>.none
 |.bool b=>.bool b
 |.int i=>.int i
 |.str x=>.str x
 |.tuple ds=>.tuple (eX ds)
 |.list ds=>.list (eX ds)
 |.dict _=>.none
 |.scr _=>.none
 |.vlt ..=>.none
 |.hdl _=>.none
 |.exc _=>.none
 |.fn _=>.none
noncomputable def eX:List D->List PySem.W.Dat
 |[]=>[]
 |d::r=>toW d::eX r
end
theorem fE{p}{q}:∀{ds:List D},(∀d∈ds,q d=true->p (toW d)=true)->ds.all q=true->(eX ds).all p=true
 |[],_,_=>rfl
 |d::r,h,a=>by
  rw[List.all_cons,be0]at a;show (p _&&(eX r).all p)=true;rw[h d ms0 a.1,fE (λe he=>h e (mc0 _ he)) a.2];rfl
def lI:∀(n m:Nat)(a b:D),okS n a=true->okS m b=true->toW a=toW b->a=b:=by
 intro n
 induction n with
 |zero=>
  intro m a b ha hb e;cases a with
  |none=>cases b<;>first|rfl|(cases e;done)|(cases m<;>cases hb)
  |int i=>cases b<;>first|(cases e;rfl)|(cases e;done)
  |str x=>cases b<;>first|(cases e;rfl)|(cases e;done)
  |_=>cases ha
 |succ n ih=>
  intro m a b ha hb e;have all:∀(m:Nat)(ds es:List D),ds.all (okS n)=true->es.all (okS m)=true->eX ds=eX es->ds=es:=by
   intro m ds
   induction ds with
   |nil=>intro es _ _ e;cases es with
    |nil=>rfl
    |cons=>cases e
   |cons d r ih2=>
    intro es h1 h2 e;cases es with
    |nil=>cases e
    |cons f q=>
     rw[List.all_cons,be0]at h1 h2;have e':=e;injection e' with e1 e2
     rw[ih m d f h1.1 h2.1 e1,ih2 q h1.2 h2.2 e2]
  cases a with
  |none=>cases b<;>first|rfl|(cases e;done)|(cases m<;>cases hb)
  |int i=>cases b<;>first|(cases e;rfl)|(cases e;done)
  |str x=>cases b<;>first|(cases e;rfl)|(cases e;done)
  |tuple ds=>
   cases b with
   |tuple es=>
    cases m with
    |zero=>cases hb
    |succ m=>rw[all m ds es ha hb (PySem.W.Dat.tuple.inj e)]
   |_=>cases e
  |list ds=>
   cases b with
   |list es=>
    cases m with
    |zero=>cases hb
    |succ m=>rw[all m ds es ha hb (PySem.W.Dat.list.inj e)]
   |_=>cases e
  |_=>cases ha
section
variable {G:Hp}
def Dps.mem(h:Dps K G ds vs)(hd:d∈ds):∃v,Dp K G d v:=by
 obtain⟨k,e⟩:=List.getElem?_of_mem hd;obtain⟨v,_,r⟩:=h.get e;exact⟨v,r⟩
def dN:∀(n:Nat)(d:D)(v:V),Dp K G d v->okS n d=true->PySem.W.kqdOk n (toW d)=true:=by
 intro n
 induction n with
 |zero=>
  intro d v h o;cases h with
  |none=>rfl
  |int i=>rfl
  |str x hx=>exact hx
  |_=>cases o
 |succ n ih=>
  intro d v h o;have all:∀{ds:List D}{vs:List V},Dps K G ds vs->ds.all _=true->(eX ds).all _=true:=λ{ds vs} r z=>
   fE (λe he oe=>let ⟨u,q⟩:=r.mem he;ih e u q oe) z
  cases h with
  |none=>rfl
  |int i=>rfl
  |str x hx=>exact hx
  |tuple _ r=>exact all r o
  |list _ r=>exact all r o
  |_=>cases o
def lJ{H}(s:Same G H){v:V}(h:Dr K G H d v)(o:okS 8 d=true):PySem.W.kqdOk 8 (toW d)=true:=by
 cases h with
 |of h=>exact dN 8 d v h o
 |list _ r=>exact fE (λe he oe=>let ⟨u,q⟩:=r.mem he;dN 7 e u q oe) o
 |dict=>rfl
 |vlt=>rfl
def gG(I:Inv X pins σ H s)(sm:Same G H){n}(ih:∀(d:D)(v:V)(u:Value),Dp X.K G d v->RelV v u->okS n d=true->∃as,Reads s.heap u (PySem.W.kqdP (toW d)) as):
  ∀{vs:List V}{us:List Value}{ds:List D},Vals vs us->Dps X.K G ds vs->ds.all (okS n)=true->∃as,ReadsAll s.heap us (PySem.W.kqdPs (eX ds)) as:=by
 intro vs us ds r
 induction r generalizing ds with
 |nil=>intro q _;cases q;exact⟨_,ReadsAll.nil⟩
 |cons r1 _ ih2=>
  intro q z;cases q with
  |cons q1 q2=>
   rw[List.all_cons,be0]at z;obtain⟨as,p1⟩:=ih _ _ _ q1 r1 z.1;obtain⟨bs,p2⟩:=ih2 q2 z.2;exact⟨_,ReadsAll.cons p1 p2⟩
def nr(I:Inv X pins σ H s)(sm:Same G H):∀(n:Nat)(d:D)(v:V)(u:Value),Dp X.K G d v->RelV v u->okS n d=true->∃as,Reads s.heap u (PySem.W.kqdP (toW d)) as:=by
 intro n
 induction n with
 |zero=>
  intro d v u h r o;cases h with
  |none=>cases r;exact⟨_,Reads.none⟩
  |int i=>obtain⟨t,rfl⟩:=r;exact⟨_,Reads.int i t⟩
  |str x hx=>obtain⟨t,rfl⟩:=r;exact⟨_,Reads.str x t⟩
  |_=>cases o
 |succ n ih=>
  intro d v u h r o;cases h with
  |none=>cases r;exact⟨_,Reads.none⟩
  |int i=>obtain⟨t,rfl⟩:=r;exact⟨_,Reads.int i t⟩
  |str x hx=>obtain⟨t,rfl⟩:=r;exact⟨_,Reads.str x t⟩
  |tuple q p=>
   cases r;obtain⟨its,rv,⟨ob,e1,e2,m,e3⟩,_⟩:=I.tuple (SqT.of (sm _ _ q));obtain⟨as,w⟩:=gG I sm ih rv p o;exact⟨_,Reads.tuple e1 e2 e3 (by omega)⟩
  |list q p=>
   cases r;obtain⟨its,rv,⟨ob,m,e1,e2,_,e3⟩,_⟩:=I.list (SqL.of (sm _ _ q));obtain⟨as,w⟩:=gG I sm ih rv p o;exact⟨_,Reads.list e1 e2 e3 (by omega)⟩
  |_=>cases o
def bL(I:Inv X pins σ H s)(sm:Same G H){v:V}{u}(h:Dr X.K G H d v)(r:RelV v u)(o:okS 8 d=true):∃as,Reads s.heap u (PySem.W.kqdP (toW d)) as:=by
 cases h with
 |of h=>exact nr I sm 8 d v u h r o
 |list q p=>
  cases r;obtain⟨its,rv,⟨ob,m,e1,e2,_,e3⟩,_⟩:=I.list (SqL.of q);obtain⟨as,w⟩:=gG I sm (nr I sm 7) rv p o;exact⟨_,Reads.list e1 e2 e3 (by omega)⟩
 |dict=>cases o
 |vlt=>cases o
end
def cg{d}(o:PySem.W.kqdOk 8 d=true):SeqAt.shaped (PySem.W.kqdP d)=true:=by
 have l:=PySem.W.kqd_lay 8 d o;unfold SeqAt.shaped;rw[l.1];exact dt0 (nt0 l.2 (by decide))
noncomputable def Ir(K:Fg)(neg:Bool):R2:=λx y H Q=>∃G d1 d2,Same G H/\Dr K G H d1 x/\Dr K G H d2 y/\okS 8 d1=true/\okS 8 d2=true/\Q (.bl (if neg then !decide (d1=d2)else decide (d1=d2))) H
def wu{G:Hp}{x y}(s:Same G H)(h1:Dr K G H d1 x)(h2:Dr K G H d2 y)(o1:okS 8 d1=true)(o2:okS 8 d2=true):PyData.eqv (PySem.W.kqdP (toW d1)) (PySem.W.kqdP (toW d2))=decide (d1=d2):=by
 have q:=PySem.W.kqd_eqv 8 _ _ 8 (lJ s h1 o1) (lJ s h2 o2)
 by_cases e:d1=d2
 .rw[dt0 e];exact q.mpr (by rw[e])
 .rw[df0 e]
  exact bf0 λz=>e (lI 8 8 d1 d2 o1 o2 (q.mp z))
def EN(hu:X.A.units+64<cLine):OpR X (compareOp .Eq) (Ir X.K false):=by
 intro pins s σ H x y v u Q I rx ry h;obtain⟨G,d1,d2,sm,h1,h2,o1,o2,q⟩:=h;obtain⟨as,ra⟩:=bL I sm h1 rx o1;obtain⟨bs,rb⟩:=bL I sm h2 ry o2;exact eq_dataH ra rb (cg (lJ sm h1 o1)) (cg (lJ sm h2 o2)) hu (cK I q (wu sm h1 h2 o1 o2).symm)
def EO(hu:X.A.units+64<cLine):OpR X (compareOp .NotEq) (Ir X.K true):=by
 intro pins s σ H x y v u Q I rx ry h;obtain⟨G,d1,d2,sm,h1,h2,o1,o2,q⟩:=h;obtain⟨as,ra⟩:=bL I sm h1 rx o1;obtain⟨bs,rb⟩:=bL I sm h2 ry o2;exact ne_dataH ra rb (cg (lJ sm h1 o1)) (cg (lJ sm h2 o2)) hu (cK I q (by rw[wu sm h1 h2 o1 o2];rfl))
def Dr.dpsL{G:Hp}{v:V}(h:Dr K G H (.list ds) v):∃vs,Dps K G ds vs:=by
 cases h with
 |of h=>cases h with|list _ r=>exact⟨_,r⟩
 |list _ r=>exact⟨_,r⟩
def Dr.dpsT{G:Hp}{v:V}(h:Dr K G H (.tuple ds) v):∃vs,Dps K G ds vs:=by
 cases h with
 |of h=>cases h with|tuple _ r=>exact⟨_,r⟩
theorem wx{G:Hp}{x}(s:Same G H)(h1:Dr K G H d1 x)(o1:okS 8 d1=true):∀{ds:List D}{vs:List V},Dps K G ds vs->ds.all (okS 7)=true->((PySem.W.kqdPs (eX ds)).any λy=>PyData.eqv y (PySem.W.kqdP (toW d1)))=ds.any λd=>decide (d=d1)
 |[],_,_,_=>rfl
 |d::r,_,.cons q q',o=>by
  rw[List.all_cons,be0]at o;have e:=PySem.W.kqd_eqv 7 _ _ 8 (dN 7 d _ q o.1) (lJ s h1 o1);have e':PyData.eqv (PySem.W.kqdP (toW d)) (PySem.W.kqdP (toW d1))=decide (d=d1):=by
   by_cases z:d=d1
   .rw[dt0 z];exact e.mpr (by rw[z])
   .rw[df0 z];exact bf0 λy=>z (lI 7 8 d d1 o.1 o1 (e.mp y))
  show (PyData.eqv _ _||_)=(decide _||_);rw[e',<-wx s h1 o1 q' o.2]
def fF{G}(r:Dps K G ds vs)(o:ds.all (okS 7)=true):PyData.canLayAll0 (PySem.W.kqdPs (eX ds))=true/\PyData.depthAll (PySem.W.kqdPs (eX ds))<=8:=by
 have l:=PySem.W.kqd_lay 8 (.list _) (fE (λe he oe=>let ⟨u,q⟩:=r.mem he;dN 7 e u q oe) o);rw[PySem.W.kqdP]at l;simp only[PyData.canLay0,PyData.depth]at l
 grind
noncomputable def Iu(K:Fg)(neg:Bool):R2:=λx y H Q=>∃G d ds vs,Same G H/\Dr K G H d x/\Dps K G ds vs/\((Dr K G H (.list ds) y)\/Dr K G H (.tuple ds) y)/\okS 8 d=true/\ds.all (okS 7)=true/\Q (.bl (if neg then !ds.any (λe=>decide (e=d))else ds.any λe=>decide (e=d))) H
def wy(hu:X.A.units+64<cLine):OpR X (compareOp .In) (Iu X.K false):=by
 intro pins s σ H x y v u Q I rx ry h;obtain⟨G,d,ds,vs,sm,h1,r,h2,o1,o2,q⟩:=h;obtain⟨as,ra⟩:=bL I sm h1 rx o1;have l:=fF r o2;have l1:=PySem.W.kqd_lay 8 _ (lJ sm h1 o1);rcases h2 with h2|h2
 .obtain⟨bs,rb⟩:=bL I sm h2 ry o2
  exact SeqAt.in_list_reads rb ra l.1 l1.1 (by omega) (cK I q (wx sm h1 o1 r o2).symm)
 .obtain⟨bs,rb⟩:=bL I sm h2 ry o2
  exact SeqAt.in_tuple_reads rb ra l.1 l1.1 (by omega) (cK I q (wx sm h1 o1 r o2).symm)
def kj(hu:X.A.units+64<cLine):OpR X (compareOp .NotIn) (Iu X.K true):=by
 intro pins s σ H x y v u Q I rx ry h;obtain⟨G,d,ds,vs,sm,h1,r,h2,o1,o2,q⟩:=h;obtain⟨as,ra⟩:=bL I sm h1 rx o1;have l:=fF r o2;have l1:=PySem.W.kqd_lay 8 _ (lJ sm h1 o1);rcases h2 with h2|h2
 .obtain⟨bs,rb⟩:=bL I sm h2 ry o2
  exact SeqAt.notIn_list_reads rb ra l.1 l1.1 (by omega) (cK I q (by rw[wx sm h1 o1 r o2];rfl))
 .obtain⟨bs,rb⟩:=bL I sm h2 ry o2
  exact SeqAt.notIn_tuple_reads rb ra l.1 l1.1 (by omega) (cK I q (by rw[wx sm h1 o1 r o2];rfl))
def ER(hu:X.A.units+1<cLine):OpR X (compareOp .In) (λx y H Q=>∃a kvs k,y=.ref a/\x=kV k/\H a=some (.dK kvs)/\Q (.bl (dI kvs k).isSome) H):=by
 intro pins s σ H x y v u Q I rx ry h;obtain⟨a,kvs,k,rfl,rfl,ha,q⟩:=h;cases ry;exact Lc hu I (DGet.k ha) rx λs' I'=>⟨.bl _,H,I',rfl,q⟩
def tO(hu:X.A.units+1<cLine):OpR X (compareOp .NotIn) (λx y H Q=>∃a kvs k,y=.ref a/\x=kV k/\H a=some (.dK kvs)/\Q (.bl (!(dI kvs k).isSome)) H):=by
 intro pins s σ H x y v u Q I rx ry h;obtain⟨a,kvs,k,rfl,rfl,ha,q⟩:=h;cases ry;exact zV hu I (DGet.k ha) rx λs' I'=>⟨.bl _,H,I',rfl,q⟩
theorem Dks.look{G}{k:Key}:∀{ds:List (Key×D)}{vs:List (Key×V)},Dks K G ds vs->(SI.look ds k=.none/\dI vs k=.none)\/∃d v,SI.look ds k=some d/\dI vs k=some v/\Dp K G d v
 |_,_,.nil=>.inl ⟨rfl,rfl⟩
 |_,_,.cons (k:=l) h r=>by
  by_cases c:l=k
  .right
   refine⟨_,_,?_,fz c,h⟩;show (if l=k then _ else _)=_;rw[if_pos c]
  .rw[fA c]
   show ((if l=k then _ else _)=_/\_)\/∃d v,(if l=k then _ else _)=_/\_;rw[if_neg c];exact Dks.look r
def dJ{G:Hp}{v:V}{k:Key}(h:Dr K G H d v)(e:tK d=some k):v=kV k:=by
 cases d with
 |int i=>cases e;exact h.int
 |str x=>cases e;exact h.str.1
 |_=>cases e
def tP:OpR X (compareOp .LtE) (λx y H Q=>∃i j,x=.str i/\y=.str j/\Q (.bl (!decide (j.cps.toList<i.cps.toList))) H):=by
 intro pins s σ H x y v u Q I rx ry h;obtain⟨i,j,rfl,rfl,q⟩:=h;obtain⟨t,rfl⟩:=rx;obtain⟨t',rfl⟩:=ry;exact PySem.P.le_str (cK I q rfl)
set_option tactic.hygienic true in
def lK{op:CmpOp}{o:Cop}(hu:X.A.units+64<cLine)(ho:lF op=some o)(h:cp o d1 d2=some t):∃r,OpR X (compareOp op) r/\R2r X.K r d1 d2 (.bool t):=by
 have hu1:X.A.units+1<cLine:=by omega
 have eqc:∀t,eqD d1 d2=some t->(∃r,OpR X (compareOp .Eq) r/\R2r X.K r d1 d2 (.bool t))/\∃r,OpR X (compareOp .NotEq) r/\R2r X.K r d1 d2 (.bool (!t)):=by
  clear h;intro t h;unfold eqD at h;split at h
  .rename_i c
   rw[be0]at c;cases h;exact⟨⟨_,EN hu,λx y G H Q s hx hy k=>⟨G,d1,d2,s,hx,hy,c.1,c.2,k _ G H (.refl s) (.bool _)⟩⟩,⟨_,EO hu,λx y G H Q s hx hy k=>⟨G,d1,d2,s,hx,hy,c.1,c.2,k _ G H (.refl s) (.bool _)⟩⟩⟩
  .cases h
 have inc:∀t,inD d1 d2=some t->(∃r,OpR X (compareOp .In) r/\R2r X.K r d1 d2 (.bool t))/\∃r,OpR X (compareOp .NotIn) r/\R2r X.K r d1 d2 (.bool (!t)):=by
  clear h eqc;intro t h;unfold inD at h;cases d2 with
  |str y=>
   cases d1 with
   |str x=>
    cases h;refine⟨⟨_,tB,λu v G H Q s hx hy k=>⟨x,y,hx.str.1,hy.str.1,k _ G H (.refl s) (.bool _)⟩⟩,⟨_,ly,λu v G H Q s hx hy k=>⟨x,y,hx.str.1,hy.str.1,k _ G H (.refl s) (.bool _)⟩⟩⟩
   |_=>cases h
  |list ds=>
   dsimp only at h;split at h
   .rename_i c
    rw[be0]at c;cases h;exact⟨⟨_,wy hu,λu v G H Q s hx hy k=>let ⟨vs,r⟩:=hy.dpsL;⟨G,d1,ds,vs,s,hx,r,.inl hy,c.1,c.2,k _ G H (.refl s) (.bool _)⟩⟩,⟨_,kj hu,λu v G H Q s hx hy k=>let ⟨vs,r⟩:=hy.dpsL;⟨G,d1,ds,vs,s,hx,r,.inl hy,c.1,c.2,k _ G H (.refl s) (.bool _)⟩⟩⟩
   .cases h
  |tuple ds=>
   dsimp only at h;split at h
   .rename_i c
    rw[be0]at c;cases h;exact⟨⟨_,wy hu,λu v G H Q s hx hy k=>let ⟨vs,r⟩:=hy.dpsT;⟨G,d1,ds,vs,s,hx,r,.inr hy,c.1,c.2,k _ G H (.refl s) (.bool _)⟩⟩,⟨_,kj hu,λu v G H Q s hx hy k=>let ⟨vs,r⟩:=hy.dpsT;⟨G,d1,ds,vs,s,hx,r,.inr hy,c.1,c.2,k _ G H (.refl s) (.bool _)⟩⟩⟩
   .cases h
  |dict kvs=>
   obtain⟨key,e1,e2⟩:=mx0 h;subst e2;refine⟨⟨_,ER hu1,λu v G H Q s hx hy k=>?_⟩,⟨_,tO hu1,λu v G H Q s hx hy k=>?_⟩⟩
   .obtain⟨a,vs,rfl,h1,r1⟩:=hy.dct s
    refine⟨a,vs,key,rfl,dJ hx e1,h1,?_⟩;have e:(dI vs key).isSome=(look kvs key).isSome:=by
     rcases r1.look (k:=key)with⟨q1,q2⟩|⟨d,v,q1,q2,_⟩<;>rw[q1,q2]<;>rfl
    rw[e];exact k _ G H (.refl s) (.bool _)
   .obtain⟨a,vs,rfl,h1,r1⟩:=hy.dct s
    refine⟨a,vs,key,rfl,dJ hx e1,h1,?_⟩;have e:(dI vs key).isSome=(look kvs key).isSome:=by
     rcases r1.look (k:=key)with⟨q1,q2⟩|⟨d,v,q1,q2,_⟩<;>rw[q1,q2]<;>rfl
    rw[e];exact k _ G H (.refl s) (.bool _)
  |_=>cases h
 cases op with
 |Lt=>
  cases ho;clear eqc inc;cases d1 with
  |int i=>cases d2 with
   |int j=>cases h;exact⟨_,HH,nh λb=>.bool _⟩
   |_=>cases h
  |str x=>cases d2 with
   |str y=>cases h;exact⟨_,tw,λu v G H Q s hx hy k=>⟨x,y,hx.str.1,hy.str.1,k _ G H (.refl s) (.bool _)⟩⟩
   |_=>cases h
  |_=>cases h
 |LtE=>
  cases ho;clear eqc inc;cases d1 with
  |int i=>cases d2 with
   |int j=>cases h;exact⟨_,HI,nh λb=>.bool _⟩
   |_=>cases h
  |str x=>cases d2 with
   |str y=>cases h;exact⟨_,tP,λu v G H Q s hx hy k=>⟨x,y,hx.str.1,hy.str.1,k _ G H (.refl s) (.bool _)⟩⟩
   |_=>cases h
  |_=>cases h
 |Gt=>
  cases ho;clear eqc inc;cases d1 with
  |int i=>cases d2 with
   |int j=>cases h;exact⟨_,HJ,nh λb=>.bool _⟩
   |_=>cases h
  |_=>cases h
 |GtE=>cases ho
 |Eq=>cases ho;rw[Ey]at h;exact (eqc t h).1
 |NotEq=>
  cases ho;rw[Ez]at h;obtain⟨t',h1,rfl⟩:=mx0 h;exact (eqc t' h1).2
 |In=>cases ho;rw[EA]at h;exact (inc t h).1
 |NotIn=>
  cases ho;rw[tL]at h;obtain⟨t',h1,rfl⟩:=mx0 h;exact (inc t' h1).2
 |Is=>cases ho
 |IsNot=>
  cases ho;have h':(if d2=.none then some (!decide (d1=.none))else .none)=some t:=by clear eqc inc;cases d1<;>exact h
  split at h'
  .rename_i c
   subst c;cases h';refine⟨_,zL,λx y G H Q s hx hy k=>⟨hy.none,?_⟩⟩;have e:decide (x=V.non)=decide (d1=D.none):=by
    by_cases c:d1=.none
    .subst c;rw[hx.none];simp
    .rw[df0 c]
     refine df0 λz=>?_
     subst z;cases hx with|of hx=>cases hx;exact c rfl
   rw[e];exact k _ G H (.refl s) (.bool _)
  .cases h'
def fG{op}{b}(h:isSet b=false):behindInMarks op b=false:=by cases b<;>first|rfl|cases h
section
def wz:OpR X (binaryOp .Mult) (λx y H Q=>∃z n,x=.str z/\y=.int n/\MulOk z n/\Q (.str (Txt.mul z n)) H):=by
 intro pins s σ H x y v u Q I rx ry h;obtain⟨z,n,rfl,rfl,ok,q⟩:=h;obtain⟨t,rfl⟩:=rx;obtain⟨t',rfl⟩:=ry;exact SB.mul ok λt' k=>⟨.str _,H,I.tok k,⟨_,rfl⟩,q⟩
set_option tactic.hygienic true
def wA{op}{o}(ho:cOp op=some o)(h:opD o d1 d2=some d)(ha:Er X Y a d1)(hb:Er X Y b d2):Ev X Y (.BinOp a op b pos) d/\(bN d=true->En X Y (.BinOp a op b pos) d):=by
 have new:En X Y (.BinOp a op b pos) d->Ev X Y (.BinOp a op b pos) d/\(bN d=true->En X Y (.BinOp a op b pos) d):=λq=>⟨q.ev,λe=>q⟩
 have old:bN d=false->Ev X Y (.BinOp a op b pos) d->Ev X Y (.BinOp a op b pos) d/\(bN d=true->En X Y (.BinOp a op b pos) d):=λz q=>⟨q,λc=>by rw[z]at c;cases c⟩
 cases op with
 |Add=>
  cases ho;cases d1 with
  |int i=>cases d2 with
   |int j=>cases h;exact old rfl (ev_op DT ha hb (nh λe=>.int _))
   |_=>cases h
  |str x=>cases d2 with
   |str y=>
    rw[Ab]at h;split at h
    .rename_i c;cases h;rw[big_eq]at c;exact old rfl (ev_op op_add_str ha hb ((have h:=c;λu v G H Q s hx hy k=>by
      obtain⟨rfl,o1⟩:=hx.str;obtain⟨rfl,o2⟩:=hy.str;exact⟨x,y,rfl,rfl,h,k _ G H (.refl s) (.str _ (fD o1 o2))⟩)))
    .cases h
   |_=>cases h
  |list ds=>cases d2 with
   |list es=>
    rw[Ac]at h;split at h
    .rename_i c;cases h;rw[big_eq]at c;exact new (en_op op_cat ha hb ((have h:=c;λx y G H Q s hx hy k=>by
      obtain⟨a,vs,rfl,h1,r1⟩:=hx.lst s;obtain⟨b,ws,rfl,h2,r2⟩:=hy.lst s;exact⟨a,b,vs,ws,rfl,rfl,h1,h2,by rwa [<-r1.length,<-r2.length],λp hp=>k p G _ (.hid s hp) (s.free hp) hp (.inl ⟨_,_,rfl,upd_same,r1.append r2⟩)⟩)))
    .cases h
   |_=>cases h
  |_=>cases h
 |Sub=>
  cases ho;cases d1 with
  |int i=>cases d2 with
   |int j=>cases h;exact old rfl (ev_op DU ha hb (nh λe=>.int _))
   |_=>cases h
  |_=>cases h
 |Mult=>
  cases ho;cases d1 with
  |int i=>cases d2 with
   |int j=>
    rw[iC]at h;split at h
    .rename_i c;cases h;exact old rfl (ev_op op_mul ha hb (r2_I ((by
      have h:=c;unfold SI.pN at h;rw[Bool.or_eq_true,be0,be0]at h;rcases h with⟨h1,h2⟩|⟨h1,h2⟩
      .exact .inl ⟨od0 h1,od0 h2⟩
      .exact .inr ⟨od0 h1,od0 h2⟩)) λe=>.int _))
    .cases h
   |_=>cases h
  |str x=>cases d2 with
   |int j=>
    rw[Ae]at h;split at h
    .rename_i c
     cases h;refine old rfl (ev_op wz ha hb λu v G H Q s hx hy k=>?_);obtain⟨rfl,o1⟩:=hx.str;refine⟨x,j,rfl,hy.int,(by
       have h1:=c.2.1;have h2:=c.2.2;have h0:=c.1;refine⟨?_,λh3 e=>?_,λh3 e=>?_⟩
       .rw[df0 (by grind),df0 (by grind)];rfl
       .intro h4
        have:(1000:Int)<=(2 ^ 63-1) / j:=by
         rw[Int.le_ediv_iff_mul_le (by grind)]
         grind
        grind
       .have h5:x.length*j.toNat<=1000*1000:=Nat.mul_le_mul h2 (by simp_all)
        exact df0 (by rw[sizeLine_eq];grind)),?_⟩
     rw[mul_eq];exact k _ G H (.refl s) (.str _ ((by
       have h:=o1;rw[strOk_iff]at h ⊢
       simp_all)))
    .cases h
   |_=>cases h
  |list ds=>cases d2 with
   |int j=>
    rw[Ad]at h;split at h
    .rename_i c
     cases h;unfold mW at c;rw[be0,be0]at c;exact new (en_op Ee ha hb ((have h1:=(od0 c.1.1);have h2:=(od0 c.1.2);have h:ds.length*j.toNat<=sizeLine:=(by rw[<-big_eq];exact od0 c.2);λx y G H Q s hx hy k=>by
       obtain⟨a,vs,rfl,h3,r1⟩:=hx.lst s;exact⟨a,j,vs,rfl,hy.int,h3,h1,h2,by rwa [<-r1.length],λp hp=>k p G _ (.hid s hp) (s.free hp) hp (.inl ⟨_,_,rfl,upd_same,r1.rep _⟩)⟩)))
    .cases h
   |_=>cases h
  |_=>cases h
 |Mod=>
  cases ho;cases d1 with
  |int i=>cases d2 with
   |int j=>
    rw[Af]at h;split at h
    .rename_i c;cases h;exact old rfl (ev_op op_mod ha hb (r2_I c λe=>.int _))
    .cases h
   |_=>cases h
  |_=>cases h
 |FloorDiv=>
  cases ho;cases d1 with
  |int i=>cases d2 with
   |int j=>
    rw[Ag]at h;split at h
    .rename_i c;cases h;exact old rfl (ev_op op_fdiv ha hb (r2_I c λe=>.int _))
    .cases h
   |_=>cases h
  |_=>cases h
 |_=>cases ho
def ES{i:Int}(ha:Ev X Y a (.int i)):Ev X Y (.UnaryOp .USub a pos) (.int (-i)):=λpins s σ H Q I ⟨G0,H0,G,E,k⟩=>
 CB vJ ha _ s σ H Q I ⟨G0,H0,G,E,λv G1 H1 e1 r1=>by
  cases r1;exact⟨i,rfl,k _ G1 H1 e1 (.int _)⟩⟩
def km{c}(h:c<0x110000):PyData.strOk ⟨#[c]⟩=true:=by
 unfold PyData.strOk;simp;exact h
def tQ(hu:X.A.units+1<cLine)(h:pP d1 d2=some d)(ha:Er X Y a d1)(hb:Ev X Y b d2)(hs:isSlice b=false):Ev X Y (.Subscript a b pos) d:=by
 cases d1 with
 |list ds=>
  cases d2 with
  |int i=>
   refine rj qU ha hb (λu v G H Q s hx hy q=>?_) hs;obtain⟨p,vs,rfl,h1,r⟩:=hx.lst s;obtain⟨w,e,dw⟩:=r.atI h;exact⟨p,vs,i,w,rfl,hy.int,SqL.of h1,e,q _ G H (.refl s) dw⟩
  |_=>cases h
 |tuple ds=>
  cases d2 with
  |int i=>
   refine rj iT ha hb (λu v G H Q s hx hy q=>?_) hs;obtain⟨p,vs,rfl,h1,r⟩:=hx.tup s;obtain⟨w,e,dw⟩:=r.atI h;exact⟨p,vs,i,w,rfl,hy.int,SqT.of h1,e,q _ G H (.refl s) dw⟩
  |_=>cases h
 |scr ns=>
  cases d2 with
  |int i=>
   refine rj qU ha hb (λu v G H Q s hx hy q=>?_) hs;obtain⟨p,rfl,h1⟩:=hx.scr s;obtain⟨n,e,rfl⟩:=mx0 h;have e':L2.atI (ns.map V.int) i=some (.int n):=by
    rw[wo]at e;unfold L2.atI at e ⊢;rw[lm0];cases q:L2.ixN ns.length i with
    |none=>rw[q]at e;cases e
    |some j=>
     rw[q]at e;show (ns.map V.int)[j]?=_;rw[gm0,show ns[j]?=some n from e];rfl
   exact⟨p,_,i,_,rfl,hy.int,h1,e',q _ G H (.refl s) (.int n)⟩
  |_=>cases h
 |str x=>
  cases d2 with
  |int i=>
   rw[Ah]at h;split at h
   .rename_i hz
    rw[big_eq]at hz;obtain⟨k,e,rfl⟩:=mx0 h;refine rj DZ ha hb (λu v G H Q s hx hy q=>?_) hs;obtain⟨rfl,o⟩:=hx.str;refine⟨x,i,k,rfl,hy.int,hz,e,q _ G H (.refl s) (.str _ (km ?_))⟩;obtain⟨j,_,e2,_⟩:=iA e;exact strOk_iff.mp o k (mg0 e2)
   .cases h
  |_=>cases h
 |_=>cases h
set_option tactic.hygienic false
noncomputable def tPt(K:Fg)(Y:List Sl)(o:Option Int):TO:=λσ H Q=>∃G0 H0 G,EnvD K G0 H0 G H σ Y/\∀G' H',Ext G H G' H'->Q o H'
def wB:PO X .none (tPt X.K Y .none):=by rintro pins s σ H Q I ⟨G0,H0,G,E,k⟩;exact zR _ s σ H Q I (k G H (.refl E.sub))
def wC{i:Int}(h:Ev X Y a (.int i)):PO X (some a) (tPt X.K Y (some i)):=λpins s σ H Q I ⟨G0,H0,G,E,k⟩=>
 qR h _ s σ H Q I ⟨G0,H0,G,E,λv G1 H1 e1 r1=>by
  cases r1;exact⟨i,rfl,k G1 H1 e1⟩⟩
def tS{lo hi:Option Expr}{l h:Option Int}(ha:Er X Y a (.list ds))(hl:PO X lo (tPt X.K Y l))(hh:PO X hi (tPt X.K Y h)):En X Y (.Subscript a (.Slice lo hi .none p2) pos) (.list (SI.cut ds l h)):=
 λpins s σ H Q I ⟨G0,H0,G,E,k⟩=>vW qV ha hl hh _ s σ H Q I ⟨G0,H0,G,E,λv G1 H1 e1 r1=>⟨G0,H0,G1,E.step e1,λG2 H2 e2=>⟨G0,H0,G2,(E.step e1).step e2,λG3 H3 e3=>by
  obtain⟨p,vs,rfl,h1,r⟩:=((r1.ext e2).ext e3).lst e3.gh;have e:=e1.trans (e2.trans e3);exact⟨p,vs,rfl,SqL.of h1,λq hq=>k q G3 _ (e.trans (.hid e3.gh hq)) (e3.gh.free hq) (e.hh.free hq) (.inl ⟨_,_,rfl,upd_same,r.cut l h⟩)⟩⟩⟩⟩
def ET(h:Ea X Y [] es ds)(hz:ds.length<=1000):En X Y (.List es pos) (.list ds):=λpins s σ H Q I ⟨G0,H0,G,E,k⟩=>
 vR h _ s σ H Q I ⟨G0,H0,G,E,λvs G1 H1 e1 r=>⟨by rw[<-r.length];exact Nat.le_of_lt (eA hz),λp hp=>
  k p G1 _ (e1.trans (.hid e1.gh hp)) (e1.gh.free hp) (e1.hh.free hp) (.inl ⟨_,_,rfl,upd_same,r.dps⟩)⟩⟩
def EU{x1}(h:Ea X Y [] es ds)(hz:ds.length<=1000):Ev X Y (.Tuple es x1 pos) (.tuple ds):=λpins s σ H Q I ⟨G0,H0,G,E,k⟩=>
 DY h _ s σ H Q I ⟨G0,H0,G,E,λvs G1 H1 e1 r=>⟨by rw[<-r.length];exact Nat.le_of_lt (eA hz),λp hp=>
  k _ _ _ (e1.trans (.laid e1.gh hp)) (.tuple upd_same (r.dps.mono (bq (e1.gh.free hp))))⟩⟩
def ic{K}{G}{ds}{vs}(r:Dps K G ds vs):(!ds.isEmpty)=!vs.isEmpty:=by cases r<;>rfl
set_option tactic.hygienic true in
def EV{G:Hp}{v:V}(s:Same G H)(h:Dr K G H d v)(ht:gC d=some t):DV K v H t:=by
 cases d with
 |none=>rw[h.none];cases ht;rfl
 |bool b=>rw[h.bool];cases ht;rfl
 |int i=>rw[h.int];cases ht;rfl
 |str x=>
  rw[h.str.1];rw[wj]at ht;split at ht
  .rename_i c;cases ht;exact⟨c,rfl⟩
  .cases ht
 |tuple ds=>obtain⟨a,vs,rfl,h1,r⟩:=h.tup s;cases ht;exact .inr (.inl ⟨vs,SqT.of h1,ic r⟩)
 |list ds=>obtain⟨a,vs,rfl,h1,r⟩:=h.lst s;cases ht;exact .inl ⟨vs,SqL.of h1,ic r⟩
 |dict kvs=>obtain⟨a,vs,rfl,h1,r⟩:=h.dct s;cases ht;exact .inr (.inr ⟨vs,h1,(by cases r<;>rfl)⟩)
 |scr ns=>obtain⟨a,rfl,h1⟩:=h.scr s;cases ht;exact .inl ⟨_,h1,by simp⟩
 |vlt=>cases ht
 |hdl=>cases ht
 |exc=>cases ht
 |fn=>cases ht
def iY(h:Er X Y a d)(ht:gC d=some t)(he:∀whole,isTrue a X.env whole=(do let v ←whole;standAt a.pos;holding [v] (truthy v))):Et X Y a t:=
 λpins s σ H Q I ⟨G0,H0,G,E,k⟩=>vN h he _ s σ H Q I ⟨G0,H0,G,E,λv G1 H1 e1 r=>⟨t,EV e1.gh r ht,k G1 H1 e1⟩⟩
variable {u:Bool}
def EW(h:Et X Y a t):Et X Y (.UnaryOp .Not a pos) (!t):=λpins s σ H Q I h0=>DM h _ s σ H Q I (let ⟨G0,H0,G,E,k⟩:=h0;⟨G0,H0,G,E,k⟩)
def Ak(h:Et X Y a t):Ew X Y (.BoolOp .And [a] pos) t:=zJ h
def EX(h:Et X Y a t):Ew X Y (.BoolOp .Or [a] pos) t:=DL h
def Al(h:Et X Y a true)(q:Ew X Y (.BoolOp .And (b::r) pos) u):Ew X Y (.BoolOp .And (a::b::r) pos) u:=by
 intro whole pins s σ H Q I h0;obtain⟨G0,H0,G,E,k⟩:=h0;exact vF h q _ _ s σ H Q I ⟨G0,H0,G,E,λG1 H1 e1=>jH ⟨G0,H0,G1,E.step e1,λG2 H2 e2=>k G2 H2 (e1.trans e2)⟩⟩
def Am(h:Et X Y a false):Ew X Y (.BoolOp .And (a::b::r) pos) false:=by
 intro whole pins s σ H Q I h0;obtain⟨G0,H0,G,E,k⟩:=h0;exact vF (tB':=λc c c=>False) h (λc c c c c c c z=>z.elim) _ _ s σ H Q I ⟨G0,H0,G,E,λG1 H1 e1=>jG (k G1 H1 e1)⟩
def EY(h:Et X Y a false)(q:Ew X Y (.BoolOp .Or (b::r) pos) u):Ew X Y (.BoolOp .Or (a::b::r) pos) u:=by
 intro whole pins s σ H Q I h0;obtain⟨G0,H0,G,E,k⟩:=h0;exact Cw h q _ _ s σ H Q I ⟨G0,H0,G,E,λG1 H1 e1=>jG ⟨G0,H0,G1,E.step e1,λG2 H2 e2=>k G2 H2 (e1.trans e2)⟩⟩
def EZ(h:Et X Y a true):Ew X Y (.BoolOp .Or (a::b::r) pos) true:=by
 intro whole pins s σ H Q I h0;obtain⟨G0,H0,G,E,k⟩:=h0;exact Cw (tB':=λc c c=>False) h (λc c c c c c c z=>z.elim) _ _ s σ H Q I ⟨G0,H0,G,E,λG1 H1 e1=>jH (k G1 H1 e1)⟩
def Fb{op}(h:Ev X Y a d):Ev X Y (.BoolOp op [a] pos) d:=DN h
def An(h:Ev X Y a (.bool true))(q:Ev X Y (.BoolOp .And (b::r) pos) d):Ev X Y (.BoolOp .And (a::b::r) pos) d:=by
 intro pins s σ H Q I h0;obtain⟨G0,H0,G,E,k⟩:=h0;exact pq h q _ s σ H Q I ⟨G0,H0,G,E,λv G1 H1 e1 r1=>by
  cases r1;exact⟨_,rfl,jH ⟨G0,H0,G1,E.step e1,λv G2 H2 e2 r2=>k v G2 H2 (e1.trans e2) r2⟩⟩⟩
def Ao(h:Ev X Y a (.bool false)):Ev X Y (.BoolOp .And (a::b::r) pos) (.bool false):=by
 intro pins s σ H Q I h0;obtain⟨G0,H0,G,E,k⟩:=h0;exact pq (tb:=λc c c=>False) h (λc c c c c c z=>z.elim) _ s σ H Q I ⟨G0,H0,G,E,λv G1 H1 e1 r1=>by
  cases r1;exact⟨_,rfl,jG (k _ G1 H1 e1 (.bool _))⟩⟩
def Fc(h:Ev X Y a (.bool false))(q:Ev X Y (.BoolOp .Or (b::r) pos) d):Ev X Y (.BoolOp .Or (a::b::r) pos) d:=by
 intro pins s σ H Q I h0;obtain⟨G0,H0,G,E,k⟩:=h0;exact Cy h q _ s σ H Q I ⟨G0,H0,G,E,λv G1 H1 e1 r1=>by
  cases r1;exact⟨_,rfl,jG ⟨G0,H0,G1,E.step e1,λv G2 H2 e2 r2=>k v G2 H2 (e1.trans e2) r2⟩⟩⟩
def Fd(h:Ev X Y a (.bool true)):Ev X Y (.BoolOp .Or (a::b::r) pos) (.bool true):=by
 intro pins s σ H Q I h0;obtain⟨G0,H0,G,E,k⟩:=h0;exact Cy (tb:=λc c c=>False) h (λc c c c c c z=>z.elim) _ s σ H Q I ⟨G0,H0,G,E,λv G1 H1 e1 r1=>by
  cases r1;exact⟨_,rfl,jH (k _ G1 H1 e1 (.bool _))⟩⟩
def Fe(h:Ev X Y a (.bool t)):Ev X Y (.UnaryOp .Not a pos) (.bool (!t)):=λpins s σ H Q I ⟨G0,H0,G,E,k⟩=>
 DO h _ s σ H Q I ⟨G0,H0,G,E,λv G1 H1 e1 r1=>by
  cases r1;exact⟨t,rfl,k _ G1 H1 e1 (.bool _)⟩⟩
def Fh(h:Et X Y c true)(ha:Ev X Y a d):Ev X Y (.IfExp c a b pos) d:=by
 intro pins s σ H Q I h0;obtain⟨G0,H0,G,E,k⟩:=h0;exact mJ (tb:=λe e e=>False) h ha (λe e e e e e z=>z.elim) _ s σ H Q I ⟨G0,H0,G,E,λG1 H1 e1=>jH ⟨G0,H0,G1,E.step e1,λv G2 H2 e2 r=>k v G2 H2 (e1.trans e2) r⟩⟩
def Fi(h:Et X Y c false)(hb:Ev X Y b d):Ev X Y (.IfExp c a b pos) d:=by
 intro pins s σ H Q I h0;obtain⟨G0,H0,G,E,k⟩:=h0;exact mJ (ta:=λe e e=>False) h (λe e e e e e z=>z.elim) hb _ s σ H Q I ⟨G0,H0,G,E,λG1 H1 e1=>jG ⟨G0,H0,G1,E.step e1,λv G2 H2 e2 r=>k v G2 H2 (e1.trans e2) r⟩⟩
end
def wD{vs}{bs}{us}(r:Vals vs us)(e:vs=bs.map V.bl):LSm.BoolsAre us bs:=by
 induction r generalizing bs with
 |nil=>
  cases bs with
  |nil=>exact .nil
  |cons b q=>cases e
 |cons r1 _ ih=>
  cases bs with
  |nil=>cases e
  |cons b q=>
   injection e with e1 e2
   subst e1;cases r1;exact .cons b (ih e2)
def wF(hc:X.calm=true):aW X (.builtin "all") (λxs H Q=>∃(p:Addr)(bs:List Bool),xs=[.ref p]/\SqL X.K H p (bs.map V.bl)/\Q (.bl (bs.all id)) H):=by
 intro pins s σ H xs us Q I r h;obtain⟨p,bs,rfl,hq,q⟩:=h;obtain⟨u,rfl,rx⟩:=vals1 r;cases rx;obtain⟨its,r',pl,hz⟩:=I.list hq;have hl:=pl.isList;have hb:=wD r' rfl;have hlt:p<s.heap.objs.size:=by obtain⟨_,e,_⟩:=hl;exact hs0 e
 refine call_all_walk (wpAny_pyIter_list hl ?_);refine⟨_,_,_,_,_,_,λi=>(bs[i]?).getD true,rfl,Walks.list (A:=X.A.in1) (I.ok.hd hc) _ p (nn0 hlt) _,
  ⟨⟨_,pz0 _ rfl,rfl,rfl⟩,hl.push _⟩,λi v s' Q' E' hP hQ=>?_,λh' tk hk=>?_⟩
 .obtain⟨b,e,rfl⟩:=hb.get i v (by simpa using hP)
  simp only[e]at hQ;exact wpAny_truthy_bool hQ
 .have e:((List.range its.toArray.size).all λi=>(bs[i]?).getD true)=bs.all id:=by
   rw[ls0,hb.length];exact LSm.range_all bs
  rw[e];exact⟨.bl _,H,I.kept (LSm.kept_iter hk),rfl,q⟩
def eP:aW X (.type "tuple") (λxs H Q=>∃p ys,xs=[.ref p]/\SqL X.K H p ys/\ys.length<=sizeLine/\∀l,H l=.none->Q (.ref l) (upd H l (.tup ys))):=by
 intro pins s σ H xs us Q I r h;obtain⟨p,ys,rfl,hq,hz,q⟩:=h;obtain⟨u,rfl,rx⟩:=vals1 r;cases rx;obtain⟨its,r',pl,_⟩:=I.list hq;refine PySem.call_tuple_list pl.isList (λh' kp=>?_) (by rwa [ls0,<-r'.length]);have I1:=I.kept (t':=s.toks) kp;exact⟨.ref _,_,I1.laid (λb o e=>ps0 _ e) (nr0 _) (show ObjOk _ _ _ _ _ (.tup ys)from⟨hz,_,r',IsTup.new _ _⟩),rfl,q _ (I1.hok.fresh (nr0 _))⟩
def nu{K}{G}:∀{ds:List D}{vs}{bs},boolsOf ds=some bs->Dps K G ds vs->vs=bs.map V.bl:=by
 intro ds
 induction ds with
 |nil=>intro vs bs h q;cases q;cases h;rfl
 |cons d r ih=>
  intro vs bs h q;cases d with
  |bool b=>
   obtain⟨bs,e,rfl⟩:=mx0 (h);cases q with
   |cons d q=>cases d;rw[ih e q];rfl
  |_=>cases h
end L2.Z
namespace PySem
section
variable {A:Around}{E:Value->Shared->Prop}
def iD{a b}{o u}(ha:h.get? a=some o)(hb:h.get? b=some u)(hc:o.cls≠u.cls):a≠b:=λe=>by subst e;rw[ha]at hb;cases hb;exact hc rfl
end
end PySem
namespace L2.Z
open PySem PySem.Spec PyProof.Rows L2 L2.C SI
section
variable {G:Hp}
theorem Dks.put{d}{v}{key:Key}(hv:Dp K G d v):∀{kvs:List (Key×D)}{vs:List (Key×V)},Dks K G kvs vs->(vs.map (·.1)).Nodup->Dks K G (SI.put kvs key d) (putK vs key v)
 |_,_,.nil,_=>.cons hv .nil
 |_,_,.cons (k:=l) (v:=w) (ds:=ks) (vs:=ws) h r,nd=>by
  have nd':=nd;obtain⟨n1,n2⟩:=List.nodup_cons.mp nd';show Dks K G (if l=key then _ else _) _
  by_cases c:l=key
  .subst c
   rw[if_pos rfl];have e:putK ((l,w)::ws) l v=(l,v)::ws:=by
    unfold putK;rw[if_pos (by simp),mk0,if_pos rfl]
    congr 1
    conv=>rhs;rw[<-List.map_id ws]
    apply List.map_congr_left
    intro kv hkv;rw[if_neg]
    .rfl
    .intro z
     exact n1 (z▸List.mem_map.mpr ⟨kv,hkv,rfl⟩)
   rw[e];exact .cons hv r
  .rw[if_neg c]
   have e:putK ((l,w)::ws) key v=(l,w)::putK ws key v:=by
    unfold putK;rw[List.any_cons,df0 c,Bool.false_or];split
    .rw[mk0,if_neg c]
    .rfl
   rw[e];exact .cons h (Dks.put hv r n2)
end
section
variable {e:Expr}{te:TE}{k:Option Str}{p3:Pos}
def Fj{j}(he:PE X e te):PE X (.Subscript e (.Slice .none .none (some (.UnaryOp .USub (.Constant (.int 1) j p3) p4)) p2) pos) (λσ H Q=>te σ H λx H1=>∃a xs,x=.ref a/\SqL X.K H1 a xs/\∀p,H1 p=none->Q (.ref p) (upd H1 p (.lst xs.reverse))):=by
 intro pins s σ H Q I h;refine Subscript_ (thn (he pins s σ H _ I h) ?_);rintro v s1 ⟨x,H1,I1,r1,a,xs,ex,hx,q⟩;subst ex;cases r1;refine wpAny_Slice ?_;rw[evalPart_none];refine wq0 (wq0 ?_);refine thn (qR (CB vJ gp) pins s1 σ H1 (λo H2=>o=some (-1)/\H2=H1) I1 ⟨1,rfl,-1,rfl,rfl,rfl⟩) ?_;rintro vk s3 ⟨l,H3,I3,pk,el,eH⟩;subst el eH;have I4:Inv X pins σ H3 {s3 with heap:=s3.heap.push {cls:=.type "slice",data:=.fields #[.none,.none,vk]}}:=I3.kept (t':=s3.toks) λb ob q=>ps0 _ q
 obtain⟨its,r,ht,hz⟩:=I4.list hx;show wpAny (model X.prog X.w) X.A (subscriptTail e _ (.ref a) (.ref s3.heap.objs.size)) (EP X pins σ Q) X.xe {s3 with heap:=s3.heap.push {cls:=.type "slice",data:=.fields #[.none,.none,vk]}};refine tail_any (ops:=[.ref a,.ref s3.heap.objs.size]) ht.isList.typeIs slot_list_getitem.lookup (wpAny_getItem_list_slice ht.isList (Heap.IsSliceOf.new ..) .none .none pk (by decide) ?_ (by rw[ls0,<-r.length];exact hz)) (by with_unfolding_all rfl);rw[PySem.W.krv_pick];refine⟨.ref _,_,I4.laid (t':=s3.toks) (o:=.lst xs.reverse) (λb ob q=>ps0 _ q) (nr0 _) ?_,rfl,q _ (I4.hok.fresh (nr0 _))⟩
 exact⟨by rw[List.length_reverse];exact hz,_,0,by simpa using r.reverse,pz0 _ rfl⟩
def tT{j}(ha:Er X Y a (.list ds)):En X Y (.Subscript a (.Slice .none .none (some (.UnaryOp .USub (.Constant (.int 1) j p3) p4)) p2) pos) (.list ds.reverse):=
 λpins s σ H Q I ⟨G0,H0,G,E,k⟩=>Fj ha _ s σ H Q I ⟨G0,H0,G,E,λv G1 H1 e1 r1=>by
  obtain⟨p,vs,rfl,h1,r⟩:=r1.lst e1.gh;exact⟨p,vs,rfl,SqL.of h1,λq hq=>k q G1 _ (e1.trans (.hid e1.gh hq)) (e1.gh.free hq) (e1.hh.free hq) (.inl ⟨_,_,rfl,upd_same,r.reverse⟩)⟩⟩
end
end L2.Z
namespace PySem
def Ris(p:Array Nat):Prop:=p.toList.Pairwise (·<·)
def Ris.lt{p:Array Nat}(r:Ris p){i j}(hj:j<p.size)(h:i<j):p[i]'(Nat.lt_trans h hj)<p[j]:=by
 have:=List.pairwise_iff_getElem.mp r i j (by simpa using Nat.lt_trans h hj) (by omega) h
 simp_all
def Ris.le{p:Array Nat}(r:Ris p){i j}(hj:j<p.size)(h:i<=j):p[i]'(Nat.lt_of_le_of_lt h hj)<=p[j]:=by
 rcases Nat.lt_or_eq_of_le h with h|rfl
 .exact Nat.le_of_lt (r.lt hj h)
 simp
set_option tactic.hygienic true in
theorem iZ{p:Array Nat}(r:Ris p)(x:Nat):∀n lo hi,hi<=p.size->lo<=hi->hi-lo<=n->(∀i (h:i<p.size),i<lo->p[i]<x)->(∀i (h:i<p.size),hi<=i->x<=p[i])->
  SetTable.below.go p x n lo hi<=p.size/\∀i (h:i<p.size),p[i]<x↔i<SetTable.below.go p x n lo hi
 |0,lo,hi,h1,h2,h3,a,b=>by
  obtain rfl:lo=hi:=by omega
  exact⟨h1,λi h=>⟨λq=>Nat.lt_of_not_le λz=>absurd (b i h z) (by omega),a i h⟩⟩
 |n+1,lo,hi,h1,h2,h3,a,b=>by
  unfold SetTable.below.go;split
  .rename_i c
   have hm:(lo+hi) / 2<p.size:=by omega
   simp only;rw[show p.getD ((lo+hi) / 2) x=p[(lo+hi) / 2] from by simp[Array.getD,hm]];split
   .rename_i d
    exact iZ r x n _ hi h1 (by omega) (by omega) (λi h q=>Nat.lt_of_le_of_lt (r.le hm (by omega)) d) b
   .rename_i d
    exact iZ r x n lo _ (by omega) (by omega) (by omega) a λi h q=>nt0 (by omega) (r.le h q)
  .obtain rfl:lo=hi:=by omega
   exact⟨h1,λi h=>⟨λq=>Nat.lt_of_not_le λz=>absurd (b i h z) (by omega),a i h⟩⟩
def ja{p:Array Nat}(r:Ris p)(x:Nat):SetTable.below p x<=p.size/\∀i (h:i<p.size),p[i]<x↔i<SetTable.below p x:=
 iZ r x _ 0 _ (nr0 _) (Nat.zero_le _) (by omega) (λa a q=>absurd q (Nat.not_lt_zero _)) λi h q=>absurd h (by omega)
def Ris.zero{p:Array Nat}(r:Ris p):SetTable.below p 0=0:=by
 obtain⟨a,b⟩:=ja r 0;rcases Nat.eq_zero_or_pos _ with z|z
 .exact z
 grind
def Ris.next{p:Array Nat}(r:Ris p)(e:p[i]?=some j):SetTable.below p (j+1)=i+1:=by
 obtain⟨h,rfl⟩:=Array.getElem?_eq_some_iff.mp e;obtain⟨a,b⟩:=ja r (p[i]+1);have:=(b i h).mp (Nat.lt_succ_self _);rcases Nat.lt_or_ge (i+1) _ with z|z
 .have:=(b _ (by omega)).mpr z
  have:=r.lt (i:=i) (j:=i+1) (by omega) (by omega);omega
 .omega
def Ris.put{p:Array Nat}(r:Ris p){j}(ne:p[SetTable.below p j]?≠some j):Ris (SetTable.insertAt p (SetTable.below p j) j):=by
 obtain⟨a,b⟩:=ja r j;generalize SetTable.below p j=k at a b ne;unfold SetTable.insertAt Ris;have e:((p.extract 0 k).push j++p.extract k p.size).toList=p.toList.take k++j::p.toList.drop k:=by
  simp[Array.toList_extract,List.extract_eq_take_drop];exact List.take_of_length_le (by simp)
 rw[e];have r:=r;have ge:∀i (h:i<p.size),k<=i->j<p[i]:=λi h z=>by
  have h1:¬ p[i]<j:=λq=>absurd ((b i h).mp q) (Nat.not_lt.2 ‹_›)
  have hk:k<p.size:=Nat.lt_of_le_of_lt ‹_› ‹_›;have h2:p[k]≠j:=λq=>ne (by rw[Array.getElem?_eq_getElem hk,q])
  have h3:¬ p[k]<j:=λq=>absurd ((b k hk).mp q) (by simp_all)
  have:=Ris.le (p:=p) r h z
  grind
 refine List.pairwise_append.mpr ⟨r.take,List.pairwise_cons.mpr ⟨λy hy=>?_,r.drop⟩,λx hx y hy=>?_⟩
 .obtain⟨i,hi,rfl⟩:=List.mem_drop_iff_getElem.mp hy
  exact ge (k+i) (by simp at hi;grind) (by simp_all)
 .obtain⟨i,hi,rfl⟩:=List.mem_take_iff_getElem.mp hx
  have hi':i<p.size:=by simp at hi;grind
  have lt:=(b i hi').mpr (by grind);have lt:p.toList[i]<j:=by simpa using lt
  rcases mq0 hy with rfl|hy
  .exact lt
  .obtain⟨l,hl,rfl⟩:=List.mem_drop_iff_getElem.mp hy
   have:=ge (k+l) (by simp at hl;grind) (by omega);have:j<p.toList[k+l]:=by simpa using this
   omega
def jb{mask finger moves}{led plain}{hs}{q}(h:SetTable.laid mask finger moves led plain hs=some q):q.1.dummies=#[]/\Ris q.1.place:=by
 unfold SetTable.laid at h;obtain⟨ow,_,h⟩:=bx0 h;cases h;refine⟨rfl,?_⟩;show List.Pairwise _ _;rw[List.pairwise_map,List.pairwise_filterMap];refine List.pairwise_lt_range.imp λ{a b} lt x hx y hy=>?_
 obtain⟨_,_,rfl⟩:=mx0 hx;obtain⟨_,_,rfl⟩:=mx0 hy;exact lt
end PySem
namespace PySem
open SetTable
noncomputable def itL(m:Nat):Nat->Nat->Nat
 |0,i=>i
 |t+1,i=>itL m t ((i*5+1) % (m+1))
def Mk(m:Nat):Prop:=m=7\/m=15\/m=31
def Mk.all{m}(h:Mk m):∀i,i<m+1->∀j,j<m+1->∃t,t<m+1/\itL m t i=j:=by
 rcases h with rfl|rfl|rfl<;>decide +kernel
set_option tactic.hygienic true in
theorem rk{m:Nat}{ow:Array (Option Nat)}:∀(n i p:Nat),p<32->(∃t,t<n/\ow.getD (itL m t i) (some 0)=none)->∃j,layClean.free m ow n i p=some j/\ow.getD j (some 0)=none
 |0,_,_,_,⟨_,z,_⟩=>absurd z (Nat.not_lt_zero _)
 |n+1,i,p,hp,⟨t,ht,e⟩=>by
  unfold layClean.free;split
  .rename_i k q
   exact⟨_,rfl,by simpa using List.find?_some q⟩
  .rename_i q
   have q0:=List.find?_eq_none.mp q 0 (List.mem_range.mpr (by unfold runEnd;split<;>omega));have hp0:p / 32=0:=by omega
   simp only[leap,hp0,Nat.add_zero];cases t with
   |zero=>exact absurd (by simpa [itL]using e) (by simpa using q0)
   |succ t=>exact rk n _ 0 (by decide) ⟨t,by omega,e⟩
noncomputable abbrev CN(m:Nat)(ow:Array (Option Nat)):List (Nat×Nat):=(List.range (m+1)).filterMap λj=>(ow.getD j none).map (j,·)
structure LayOk(m:Nat)(ow:Array (Option Nat))(k:Nat):Prop where
 sz:ow.size=m+1
 pm:((CN m ow).map (·.2)).Perm (List.range k)
def LayOk.step{m k}{ow}(hm:Mk m)(h:LayOk m ow k)(hk:k<=m)(x:Int)(hx:bits x<32):∃j,layClean.free m ow (turns m) (bits x % (m+1)) (bits x)=some j/\LayOk m (ow.setIfInBounds j (some k)) (k+1):=by
 obtain⟨sz,pm⟩:=h;have ex:∃j,j<m+1/\ow.getD j (some 0)=none:=by
  refine Classical.byContradiction λz=>?_
  have all:∀j∈List.range (m+1),((ow.getD j none).map (j,·)).isSome=true:=λj hj=>by
   have hj:=List.mem_range.mp hj;cases q:ow.getD j none with
   |some v=>rfl
   |none=>exact (z ⟨j,hj,by simpa [Array.getD,sz,hj]using q⟩).elim
  have:(CN m ow).length=m+1:=by
   have:∀l:List Nat,(∀j∈l,((ow.getD j none).map (j,·)).isSome=true)->(l.filterMap λj=>(ow.getD j none).map (j,·)).length=l.length:=by
    intro l
    induction l with
    |nil=>intro _;rfl
    |cons a r ih=>
     intro h;obtain⟨v,e⟩:=is0 (h a ms0);rw[List.filterMap_cons,e];simp only[lc0];rw[ih λj hj=>h j (mc0 _ hj)]
   rw[this _ all,lr0]
  have:=pm.length_eq;rw[lm0,lr0]at this
  grind
 obtain⟨j0,h0,e0⟩:=ex;obtain⟨t,ht,et⟩:=hm.all (bits x % (m+1)) (Nat.mod_lt _ (Nat.succ_pos _)) j0 h0;obtain⟨j,e1,e2⟩:=rk (m:=m) (ow:=ow) (turns m) (bits x % (m+1)) (bits x) hx ⟨t,by unfold turns;grind,by rw[et];exact e0⟩;refine⟨j,e1,by simp[sz],?_⟩;have hj:j<m+1:=by
  rcases Nat.lt_or_ge j (m+1)with z|z
  .exact z
  .simp[Array.getD,sz,Nat.not_lt.mpr z]at e2
 have e3:ow.getD j none=none:=by simpa [Array.getD,sz,hj]using e2
 obtain⟨A,B,e⟩:=List.append_of_mem (List.mem_range.mpr hj);have nd:=List.nodup_range (n:=m+1);rw[e]at nd;have nd:=List.nodup_append.mp nd;have same:∀l:List Nat,j∉l->(l.filterMap λi=>((ow.setIfInBounds j (some k)).getD i none).map (i,·))=l.filterMap λi=>(ow.getD i none).map (i,·):=λl hl=>by
  induction l with
  |nil=>rfl
  |cons i r ih=>
   have ne:j≠i:=λz=>hl (z▸ms0)
   rw[List.filterMap_cons,List.filterMap_cons,ih λz=>hl (mc0 _ z)];simp[Array.getD_eq_getD_getElem?,Array.getElem?_setIfInBounds,ne]
 have hA:j∉A:=λz=>nd.2.2 j z j ms0 rfl
 have hB:=(List.nodup_cons.mp nd.2.1).1;have new:(ow.setIfInBounds j (some k)).getD j none=some k:=by simp[Array.getD_eq_getD_getElem?,Array.getElem?_setIfInBounds,sz,hj]
 show (((List.range (m+1)).filterMap _).map _).Perm _;have pm:(((List.range (m+1)).filterMap λi=>(ow.getD i none).map (i,·)).map (·.2)).Perm (List.range k):=pm;rw[e,List.filterMap_append,List.filterMap_cons,e3]at pm;rw[e,List.filterMap_append,List.filterMap_cons,new,same A hA,same B hB,List.range_succ];simp only[Option.map_none,mo0,List.map_append,mk0]at pm ⊢;exact List.perm_middle.trans ((List.Perm.cons _ pm).trans (List.perm_append_singleton _ _).symm)
theorem fF{m}(hm:Mk m):∀(hs:List Int)(ow:Array (Option Nat))(k:Nat),LayOk m ow k->k+hs.length<=m+1->(∀h∈hs,bits h<32)->
  ∃ow',hs.foldl (λacc h=>do
   let (owner,k) ←acc
   let j ←layClean.free m owner (turns m) (bits h % (m+1)) (bits h)
   pure (owner.setIfInBounds j (some k),k+1)) (some (ow,k))=some (ow',k+hs.length)/\LayOk m ow' (k+hs.length)
 |[],ow,k,h,_,_=>⟨ow,rfl,h⟩
 |x::r,ow,k,h,hk,hx=>by
  have hk:k+(r.length+1)<=m+1:=hk;obtain⟨j,e1,e2⟩:=h.step hm (by omega) x (hx x ms0);obtain⟨ow',a,b⟩:=fF hm r _ _ e2 (by omega) λh z=>hx h (mc0 _ z)<;>grind
def ny{m f v}{l p}{hs}(hm:Mk m)(hz:hs.size<=m+1)(hb:∀h∈hs.toList,bits h<32):
  ∃t od,laid m f v l p hs=some (t,od)/\od.toList.Perm (List.range hs.size)/\t.mask=m/\t.place.size=hs.size/\t.led=l/\t.plain=p:=by
 obtain⟨ow,a,b⟩:=fF hm _ (Array.replicate (m+1) none) 0 ⟨by simp,by
  simp_all⟩ (by simpa using hz) hb
 rw[Nat.zero_add,al0]at a b;have e:layClean m hs=some ow:=by
  unfold layClean;rw[<-Array.foldl_toList,a];rfl
 refine⟨_,_,by unfold laid;rw[e];rfl,b.pm,rfl,?_,rfl,rfl⟩;have:=b.pm.length_eq;rw[lm0,lr0]at this;rw[<-this,ls0,lm0]
end PySem
namespace PySem
open PyProof.Rows
def bC{f}:∀{l m:List β},l.Perm m->∀xs:List α,m=xs.map f->∃ys:List α,ys.Perm xs/\l=ys.map f:=by
 intro l m h
 induction h with
 |nil=>simp
 |cons a _ ih=>
  intro xs e;cases xs with
  |nil=>cases e
  |cons x r=>
   injection e with e1 e2
   obtain⟨ys,p,rfl⟩:=ih r e2;exact⟨_,p.cons x,by simp_all⟩
 |swap a b l=>
  intro xs e
  match xs,e with
  |[],e=>cases e
  |[_],e=>injection e with _ e;cases e
  |x::y::r,e=>
   injection e with e1 e
   exact⟨_,.swap ..,by simp_all⟩
 |trans _ _ ih1 ih2=>
  intro xs e;obtain⟨ys,p,e2⟩:=ih2 xs e;obtain⟨zs,p2,e3⟩:=ih1 ys e2;exact⟨zs,p2.trans p,e3⟩
def Ap(t)(es)(h:Int)(x):(layNew t es h x).2.1.led=t.led:=by
 unfold layNew;split
 .simp only[SetTable.orStandIn];split<;>rfl
 .rfl
set_option tactic.hygienic true in
def wG(t)(es)(n:Nat):(relayAll t es n).2.1.led=t.led/\((relayAll t es n).2.1.plain=true->t.plain=true/\Ris (relayAll t es n).2.1.place):=by
 unfold relayAll;split
 .rename_i t' order e
  dsimp only;split
  .have r:=jb e
   unfold SetTable.relaid SetTable.laid at e;obtain⟨ow,_,e⟩:=bx0 e;cases e;exact⟨rfl,λz=>⟨z,r.2⟩⟩
  .exact⟨rfl,λz=>by cases z⟩
 .exact⟨rfl,λz=>by cases z⟩
noncomputable abbrev byTx(w:World):Bool:=w.params.followText "set-order"
structure KD(prog:Program)(w:World)(O:Type)[DecidableEq O] where
 knd:KeyKind prog w O
 vl:O->Tok->Value
 pl:Bool
 is:∀k t,knd.is k (vl k t)=true
 sc:∀k t,(vl k t).scannable=true
 pk:∀k t,plainKind (vl k t)=pl
noncomputable abbrev KD.e{prog:Program}{w:World}{O:Type}[DecidableEq O](kd:KD prog w O)(p:O×Tok):Int×Value:=(kd.knd.hash p.1,kd.vl p.1 p.2)
def tU(pl:Bool)(t:SetTable)(n:Nat):Prop:=t.plain=true->(n≠0->pl=true)/\Ris t.place
def StrSet{prog:Program}{w:World}{O:Type}[DecidableEq O](kd:KD prog w O)(h:Heap)(a:Addr)(xs:List (O×Tok))(ep:Nat):Prop:=
 ∃o es t,h.get? a=some o/\o.ExactSet/\o.data=.set es ep t/\t.fits es.size=true/\es.toList=xs.map kd.e/\t.led=!byTx w/\tU kd.pl t xs.length
section
variable {A:Around}{E:Value->Shared->Prop}{O:Type}[DecidableEq O][Inhabited O]{kd:KD prog w O}
def StrSet.keep{h h'}{a:Addr}{xs:List (O×Tok)}(x:StrSet kd h a xs ep)(k:∀o,h.get? a=some o->h'.get? a=some o):StrSet kd h' a xs ep:=
 let ⟨o,es,t,h1,r⟩:=x;⟨o,es,t,k o h1,r⟩
def StrSet.isA{a:Addr}{xs:List (O×Tok)}(x:StrSet kd s.heap a xs ep):s.TypeIs (.ref a) "set":=
 let ⟨o,_,_,h1,h2,_⟩:=x;⟨o,h1,h2.1⟩
def kn(kd:KD prog w O)(xs:List (O×Tok)):ElemsOf kd.knd (xs.map kd.e):=λe he=>by
 obtain⟨p,_,rfl⟩:=mm0 he;exact⟨⟨_,kd.is _ _,rfl⟩,kd.sc _ _⟩
def jc(kd:KD prog w O)(xs:List (O×Tok))(x:O):((xs.map kd.e).findIdx? λe=>kd.knd.is x e.2).isSome=decide (x∈xs.map (·.1)):=by
 induction xs with
 |nil=>rfl
 |cons p r ih=>
  have e:=KeyKind.is_eq_decide (kd.is p.1 p.2) x
  grind
set_option tactic.hygienic true
theorem lL{t:SetTable}{f:Nat->Int}{h:Int}:∀(n:Nat)(p:SetTable.Probe)(j:Nat)(d:Option Nat),(∀e,p.dummy=some e->t.slot e=.dummy)->SetTable.probe.go t f h n p=some (.empty j d)->t.slot j=.empty/\∀e,d=some e->t.slot e=.dummy
 |0,p,j,d,_,q=>by cases q
 |n+1,p,j,d,hp,q=>by
  unfold SetTable.probe.go at q;have adv:∀p:SetTable.Probe,(t.advance p).dummy=p.dummy:=λp=>by
   unfold SetTable.advance;split<;>rfl
  split at q
  .rename_i e;cases q;exact⟨e,hp⟩
  .rename_i e
   exact lL n _ j d (λz hz=>by rw[adv]at hz;cases hz;exact e) q
  .split at q
   .cases q
   .exact lL n _ j d (λz hz=>hp z (by rw[adv]at hz;exact hz)) q
def Fk{pl}{t}{es}{h}{x}(p:tU pl t es.size)(hx:pl=true):tU pl (layNew t es h x).2.1 (es.size+1):=by
 unfold layNew;split
 .rename_i slot wd e
  simp only[SetTable.orStandIn];split
  .intro tp
   exact⟨λa=>hx,(p tp).2.put ((by
     have q:=e;have nl:∀i,t.place[SetTable.below t.place i]?=some i->∃l,t.slot i=.live l:=λi z=>⟨_,by unfold SetTable.slot;simp only;rw[if_pos (by rw[z];simp)]⟩
     unfold SetTable.freeSlot at q;split at q
     .rename_i j' d e
      obtain⟨e1,e2⟩:=lL _ _ _ _ (λa z=>by cases z) e;cases q;intro z;obtain⟨l,z⟩:=nl _ z;cases d with
      |none=>rw[show (.none:Option Nat).getD j'=j' from rfl,e1]at z;cases z
      |some y=>rw[show (some y).getD j'=y from rfl,e2 y rfl]at z;cases z
     .cases q))⟩
  .intro tp;cases tp
 .intro tp;cases tp
def di{a:Addr}{o}{es es'}{t t'}(ho:h.get? a=some o)(hd:o.data=.set es ep t):
  (h.update a (Obj.putSet es' t')).get? a=some {o with data:=.set es' (ep+1) t'}:=by
 have:=hu0 (Obj.putSet _ t') ho (by rw[putSet_of es' t' hd];rfl)
 rwa [putSet_of _ t' hd]at this
def Iv{a:Addr}{xs:List (O×Tok)}{x}{tk}{Q}(hS:StrSet kd s.heap a xs ep)(hr:xs.length+1<4096)
  (h:∀h' ys ep' b,Heap.SameBut a s.heap h'->StrSet kd h' a ys ep'->ys.Perm (if x∈xs.map (·.1)then xs else xs++[(x,tk)])->Q b {s with heap:=h'}):
  wpAny (model prog w) A (setAddHashed a (kd.vl x tk) (kd.knd.hash x)) Q E s:=by
 obtain⟨o,es,t,ho,hex,hd,hf,he,hl,hp⟩:=hS;have hsz:es.size=xs.length:=by rw[<-al0,he,lm0]
 have hb:es.size<scanBound:=by rw[hsz];unfold scanBound;exact Nat.le_of_lt ‹_›
 have hel:ElemsOf kd.knd es.toList:=by rw[he];exact kn kd xs
 have hk:=kd.is x tk;have fnd:=jc kd xs x;unfold setAddHashed setAddHashedIn;refine wh0 (wb0 (wpAny_setState_of ho hd hf ?_));dsimp only;rw[byScan_of (knd:=kd.knd) (x:=kd.vl x tk) (kd.sc x tk) hb hel];simp only[if_true];unfold setAddByScan;refine wb0 (wb0 (wpAny_rule (wb0 (wpAny_setScan_of (knd:=kd.knd) hk ho hd hf hel ?_))));rw[<-he]at fnd;cases q:List.findIdx? (λe=>kd.knd.is x e.2) es.toList with
 |some j=>
  rw[q]at fnd;dsimp only;refine wq0 (wq0 (h s.heap xs ep false (Heap.SameBut.refl a _) ⟨o,es,t,ho,hex,hd,hf,he,hl,hp⟩ ?_));rw[if_pos (od0 fnd.symm)]
 |none=>
  rw[q]at fnd;dsimp only;have nin:=of_decide_eq_false fnd.symm;rw[if_neg nin]at h;have gw:∀(b:Bool)(s₁:Shared)(Q':Unit->Shared->Prop),Q' () s₁->wpAny (model prog w) A (match b with|true=>rule "set.scan.the-table-gave-way"|false=>pure ()) Q' E s₁:=
   λb s₁ Q' z=>by cases b<;>first|exact wq0 z|exact wpAny_rule z
  have p1:=layNew_perm t es (kd.knd.hash x) (kd.vl x tk);have f1:=layNew_fits t es (kd.knd.hash x) (kd.vl x tk);have l1:=Ap t es (kd.knd.hash x) (kd.vl x tk);have y1:=λz=>Fk (h:=kd.knd.hash x) (x:=kd.vl x tk) (by rw[hsz];exact hp) z
  generalize layNew t es (kd.knd.hash x) (kd.vl x tk)=L at p1 f1 l1 y1 ⊢;obtain⟨es1,t1,wd,gv⟩:=L;dsimp only at p1 f1 l1 y1 ⊢;have e0:(es.push (kd.knd.hash x,kd.vl x tk)).toList=(xs++[(x,tk)]).map kd.e:=by
   rw[Array.toList_push,he,List.map_append];rfl
  obtain⟨ys,py,ey⟩:=bC p1 _ e0;have hz1:es1.size=xs.length+1:=by rw[<-al0,ey,lm0,py.length_eq,la0];rfl
  have hfit:es1.size<=sizeLine:=by rw[hz1,sizeLine_eq];omega
  refine wb0 (gw _ _ _ ?_);have fin:∀t2:SetTable,t2.fits es1.size=true->t2.led=t.led->tU kd.pl t2 es1.size->wpAny (model prog w) A (do
    storeSet a es1 t2
    if (!wd&&t2.tooFull)=true then do
     (match (relayAll t2 es1 (SetTable.grown es1.size)).2.2 with|true=>rule "set.scan.the-table-gave-way"|false=>pure ())
     storeSet a (relayAll t2 es1 (SetTable.grown es1.size)).1 (relayAll t2 es1 (SetTable.grown es1.size)).2.1
     pure (some true)
    else pure (some true)) (λr s'=>r=some true/\Q true s') E s:=by
   intro t2 g1 g2 g3;refine wb0 (wpAny_storeSet_of (prog:=prog) (w:=w) ho hd ?_ hfit);have ho1:=di (es':=es1) (t':=t2) ho hd;have sb1:=Heap.SameBut.update s.heap a (Obj.putSet es1 t2);split
   .rename_i full
    have p2:=relayAll_perm t2 es1 (SetTable.grown es1.size);have f2:=relayAll_fits t2 es1 (SetTable.grown es1.size);have k2:=wG t2 es1 (SetTable.grown es1.size);generalize relayAll t2 es1 (SetTable.grown es1.size)=L2 at p2 f2 k2 ⊢;obtain⟨es2,t3,gv2⟩:=L2;dsimp only at p2 f2 k2 ⊢;obtain⟨zs,pz,ez⟩:=bC p2 _ ey;refine wb0 (gw _ _ _ (wb0 (wpAny_storeSet_of (prog:=prog) (w:=w) ho1 rfl ?_ ?_)))
    .refine wq0 ⟨rfl,h _ zs _ true (sb1.trans (Heap.SameBut.update _ a _)) ⟨_,es2,t3,di ho1 rfl,hex,rfl,f2,ez,k2.1.trans (g2.trans hl),λtp=>?_⟩ (pz.trans py)⟩
     obtain⟨tp2,k3⟩:=k2.2 tp;have ez2:zs.length=es1.size:=by rw[hz1,pz.length_eq,py.length_eq,la0];rfl
     rw[ez2];exact⟨(g3 tp2).1,k3⟩
    .rw[<-al0,ez,lm0,pz.length_eq,py.length_eq,la0,sizeLine_eq];simp only[List.length_singleton];omega
   .exact wq0 ⟨rfl,h _ ys _ true sb1 ⟨_,es1,t2,ho1,hex,rfl,g1,ey,g2.trans hl,by rw[show ys.length=es1.size by rw[hz1,py.length_eq,la0];rfl];exact g3⟩ py⟩
  split
  .refine wb0 ?_
   rw[hashByValue_scannable 8 (x:=kd.vl x tk) (kd.sc x tk),kd.pk];refine wq0 ?_;cases hpl:kd.pl with
   |false=>
    refine wpAny_mono (fin {t1 with plain:=false} (SetTable.fits_plain_off f1) l1 (λz=>by cases z)) (λr s' z=>?_) λc c z=>z
    obtain⟨rfl,z⟩:=z;exact wq0 z
   |true=>
    refine wpAny_mono (fin t1 f1 l1 (by rw[show es1.size=es.size+1 by simp_all];exact y1 hpl)) (λr s' z=>?_) λc c z=>z
    obtain⟨rfl,z⟩:=z;exact wq0 z
  .rename_i np
   refine wb0 (wq0 ?_);refine wpAny_mono (fin t1 f1 l1 (λz=>absurd z np)) (λr s' z=>?_) λc c z=>z
   obtain⟨rfl,z⟩:=z;exact wq0 z
set_option tactic.hygienic false
def add_str{a:Addr}{xs:List (O×Tok)}{x}{tk}{Q}(hS:StrSet kd s.heap a xs ep)(hr:xs.length+1<4096)
  (h:∀h' ys ep' b,Heap.SameBut a s.heap h'->StrSet kd h' a ys ep'->ys.Perm (if x∈xs.map (·.1)then xs else xs++[(x,tk)])->Q b {s with heap:=h',toks:=s.toks+1}):
  wpAny (model prog w) A (setAdd a (kd.vl x tk)) Q E s:=wh0 (wb0 (kd.knd.pyHash (kd.is x tk) (Iv hS hr h)))
end
def fH(h:Heap):h.get? h.objs.size=none:=by
 cases q:h.get? _ with
 |none=>rfl
 |some o=>exact absurd (hs0 q) (li0 _)
noncomputable abbrev aM(w:World):Obj:={cls:=.type "set",dict:=none,data:=.set #[] 0 (.fresh 0 0 (!byTx w))}
section
variable {A:Around}{E:Value->Shared->Prop}{O:Type}[DecidableEq O][Inhabited O]{kd:KD prog w O}
theorem StrSet.cls{h}{a}{xs}{ep}(x:StrSet kd h a xs ep):∃o,h.get? a=some o/\o.cls=.type "set":=
 let ⟨o,_,_,h1,h2,_⟩:=x;⟨o,h1,h2.1⟩
omit [Inhabited O] in
def ko{xs ys:List (O×Tok)}{x}{tk}(n:(xs.map (·.1)).Nodup)(p:ys.Perm (if x∈xs.map (·.1)then xs else xs++[(x,tk)])):
  (ys.map (·.1)).Nodup/\(∀y,y∈ys.map (·.1)↔y∈xs.map (·.1)\/y=x)/\ys.length<=xs.length+1:=by
 have pm:=p.map (·.1);have pl:=p.length_eq
 by_cases q:x∈xs.map (·.1)
 .rw[if_pos q]at pm pl
  exact⟨pm.nodup_iff.mpr n,λy=>pm.mem_iff.trans ⟨.inl,λz=>z.elim id λe=>e▸q⟩,by omega⟩
 .rw[if_neg q]at pm pl
  rw[List.map_append]at pm;refine⟨pm.nodup_iff.mpr (List.nodup_append.mpr ⟨n,by simp,λa ha b hb=>?_⟩),λy=>pm.mem_iff.trans ?_,by simp_all⟩
  .grind
  .rw[List.mem_append]
   exact or_congr Iff.rfl (by simp)
def wH{l it S}{items}{ss:List O}{R}(hh:A.handled=none)(hz:items.size=ss.length)(hz2:items.size<4000)(hv:∀(j:Nat)(x:O),ss[j]?=some x->∃tk,items[j]?=some (kd.vl x tk)):
  ∀(m i:Nat)(xs:List (O×Tok))(ep:Nat)(s:Shared),i+m=ss.length->xs.length<=i->(xs.map (·.1)).Nodup->s.heap.IsListIter it l i->s.heap.IsList l items->StrSet kd s.heap S xs ep->
   (∀h' tk ys ep',StrSet kd h' S ys ep'->(ys.map (·.1)).Nodup->(∀y,y∈ys.map (·.1)↔y∈xs.map (·.1)\/y∈ss.drop i)->ys.length<=ss.length->(∀b o,b≠it->b≠S->s.heap.get? b=some o->h'.get? b=some o)->R (.ok (.ret .none)) {s with heap:=h',toks:=tk})->
   codeAny (model prog w) A (.builtin "set.update.loop" ⟨[.ref S,.ref it],[]⟩) R s:=by
 intro m
 induction m with
 |zero=>
  intro i xs ep s hm hx nd hi hl hS h;obtain⟨oi,ei,ci,_⟩:=id hi;obtain⟨oS,eS,cS⟩:=hS.cls;have nSi:S≠it:=iD eS ei (by rw[cS,ci];decide);refine codeAny_builtin PyProof.Rows.F.entry_set_update_loop ?_;rw[ui0 PyProof.Rows.F.plain_set_update_loop];unfold Builtin.«set.update.loop»;dsimp only;refine wb0 (wpAny_pyNext_list_end (hh:A.in1.handled=none) hi hl (by rw[Array.getElem?_eq_none];simp_all) λh' eb=>?_);refine wq0 (h h' s.toks xs ep (hS.keep λo e=>eb S o nSi e) nd (λy=>?_) (by simp_all) λb o n1 n2 e=>eb b o n1 e);rw[List.drop_eq_nil_of_le (by simp_all)]
  simp
 |succ m ih=>
  intro i xs ep s hm hx nd hi hl hS h;obtain⟨oi,ei,ci,_⟩:=id hi;obtain⟨oS,eS,cS⟩:=hS.cls;obtain⟨ol,el,cl,_⟩:=id hl;have nSi:S≠it:=iD eS ei (by rw[cS,ci];decide);have nli:=iD el ei (by rw[cl,ci];decide);have nlS:=iD el eS (by rw[cl,cS];decide);have hlt:i<ss.length:=by grind
  obtain⟨tk,hu⟩:=hv i _ (ge0 hlt);refine codeAny_builtin PyProof.Rows.F.entry_set_update_loop ?_;rw[ui0 PyProof.Rows.F.plain_set_update_loop];unfold Builtin.«set.update.loop»;dsimp only;refine wb0 (wpAny_pyNext_list_item hi hl hu λh1 hi' sb=>?_);have k1:∀{b:Addr},b≠it->∀o,s.heap.get? b=some o->h1.get? b=some o:=λhb o e=>(sb.2 _ hb).trans e
  dsimp only;refine wb0 (wh0 (add_str (hS.keep (k1 nSi)) (by grind) λh2 ys ep2 b sb2 hS2 py=>?_));have k2:∀{b:Addr},b≠S->∀o,h1.get? b=some o->h2.get? b=some o:=λhb o e=>(sb2.2 _ hb).trans e
  obtain⟨n2,m2,z2⟩:=ko nd py;refine wq0 ⟨plainId_quiet PyProof.Rows.F.plain_set_update_loop _,?_⟩;refine ih (i+1) ys ep2 {s with heap:=h2,toks:=s.toks+1} (by omega) (by omega) n2 (hi'.at (k2 nSi.symm)) ((hl.at (k1 nli)).at (k2 nlS)) hS2 λh' tk' zs ep3 a1 a2 a3 a4 a5=>?_
  refine h h' tk' zs ep3 a1 a2 (λy=>(a3 y).trans ?_) a4 λb o n1 n2 e=>a5 b o n1 n2 (k2 n2 _ (k1 n1 _ e))
  rw[List.drop_eq_getElem_cons hlt,m2 y,List.mem_cons,or_assoc]
def wI(v){Q₁}(h:Q₁ (.ref s.heap.objs.size) {s with heap:=s.heap.push (aM w)}):
  codeAny (model prog w) A (.call (.builtin "set.__new__") ⟨[.type "set",v],[]⟩) (wants Q₁ E) s:=by
 refine codeAny_of_tree ?_;refine wb0 (wpAny_of_eq (F.newCall_set_1 v) (wq0 ⟨plainId_quiet F.plain_set_new _,codeAny_builtin F.entry_set_new ?_⟩));rw[ui0 F.plain_set_new _];unfold Builtin.«set.__new__» Builtin.Frozenset.newClass;have hs:=sub_set_self;obtain⟨hp,g,d,tk,os⟩:=s;dsimp only
 wp_walk
 refine wpAny_askSetting (wq0 ?_);dsimp only;simp only[newObj];refine wb0 (wpAny_alloc (wq0 (wq0 ?_)));exact h
def wJ{l S}{items}{ss:List O}{R}(hh:A.handled=none)(hS:s.heap.get? S=some (aM w))(hl:s.heap.IsList l items)(hz:items.size=ss.length)(hz2:items.size<4000)(hv:∀(j:Nat)(x:O),ss[j]?=some x->∃tk,items[j]?=some (kd.vl x tk))
  (h:∀h' tk ys ep,StrSet kd h' S ys ep->(ys.map (·.1)).Nodup->(∀y,y∈ys.map (·.1)↔y∈ss)->ys.length<=ss.length->(∀b o,b≠S->s.heap.get? b=some o->h'.get? b=some o)->R (.ok (.ret .none)) {s with heap:=h',toks:=tk}):
  codeAny (model prog w) A (.call (.builtin "set.__init__") ⟨[.ref S,.ref l],[]⟩) R s:=by
 have hT:s.TypeIs (.ref S) "set":=⟨_,hS,rfl⟩;refine codeAny_call_builtin F.called_set.init.plain F.entry_set_init (check_set_init_1 hT ?_);obtain⟨ol,hol,hcl,nl,hdl⟩:=id hl;obtain⟨oc,od,odt,osl⟩:=ol;simp only at hcl hdl;subst hcl;subst hdl;have q1:=F.sub_list_set;have q2:=F.sub_list_frozenset;have q3:(Value.type "list"==Value.type "dict")=false:=by decide
 unfold Builtin.«set.__init__» noKeywords Builtin.Frozenset.updateFrom;generalize hPI:pyIter=PI
 wp_walk
 subst hPI;refine wpAny_pyIter_list hl (wb0 (wpAny_runValue ?_));have lt1:=hs0 hol;have lt2:=hs0 hS;have hS':=ps0 {cls:=.type "list_iterator",data:=.fields #[.ref l,.int 0 0]} hS;have S0:StrSet kd (s.heap.push {cls:=.type "list_iterator",data:=.fields #[.ref l,.int 0 0]}) S [] 0:=⟨aM w,#[],.fresh 0 0 (!byTx w),hS',⟨rfl,rfl,rfl⟩,rfl,rfl,rfl,rfl,λa=>⟨λz=>absurd rfl z,.nil⟩⟩;refine wH (kd:=kd) (prog:=prog) (w:=w) (items:=items) (ss:=ss) (by exact hh) hz hz2 hv ss.length 0 [] 0 {s with heap:=s.heap.push {cls:=.type "list_iterator",data:=.fields #[.ref l,.int 0 0]}} (by omega) (nr0 _) List.nodup_nil ⟨_,pz0 _ rfl,rfl,rfl⟩ (hl.push _) S0 λh' tk ys ep a1 a2 a3 a4 a5=>?_
 refine wq0 ?_;refine wq0 (h h' tk ys ep a1 a2 (λy=>(a3 y).trans (by simp)) a4 λb o nb e=>a5 b o (nn0 (hs0 e)) nb (ps0 _ e))
set_option maxHeartbeats 3200000 in
def jJ{l:Addr}{items:Array Value}{ss:List O}(hh:A.handled=none)(hl:s.heap.IsList l items)(hz:items.size=ss.length)(hz2:items.size<4000)(hv:∀(j:Nat)(x:O),ss[j]?=some x->∃tk,items[j]?=some (kd.vl x tk))
  (h:∀h' tk S ys ep,s.heap.objs.size<=S->StrSet kd h' S ys ep->(ys.map (·.1)).Nodup->(∀y,y∈ys.map (·.1)↔y∈ss)->ys.length<=ss.length->(∀b o,s.heap.get? b=some o->h'.get? b=some o)->Q (.ref S) {s with heap:=h',toks:=tk}):
  wpAny (model prog w) A (call (.type "set") [.ref l]) Q E s:=by
 obtain⟨c,tl,hm⟩:=F.called_set.mro;have hmade:=F.called_set.made;have hsub:=F.called_set.sub;refine wpAny_call (codeAny_of_tree ?_);show wpAny _ _ (callAny (.type "set") ⟨[.ref l],[]⟩) _ _ _;refine wq0 ⟨Code.quiet_builtin _ (by decide +kernel),codeAny_builtin F.entry_type_call ?_⟩;rw[Around.under_plain (weight_type_call_type "set" [.ref l] []) rfl];have h1:=F.called_set.notType;have h2:=F.called_set.canCreate;have h3:=F.typeCall_set_1 (.ref l)
 repeat (any_goals (first|assumption|wp_step))
 refine codeAny_mono (wI (w:=w) (.ref l) (E:=E) (Q₁:=λv s₁=>v=.ref s.heap.objs.size/\s₁={s with heap:=s.heap.push (aM w)}) ⟨rfl,rfl⟩) λr s₁ hr=>?_
 cases r with
 |error e=>exact hr
 |ok fl=>
  cases fl with
  |ret v=>
   obtain⟨rfl,rfl⟩:=hr;have g0:(s.heap.push (aM w)).get? s.heap.objs.size=some (aM w):=pz0 _ rfl;have hT:Shared.TypeIs {s with heap:=s.heap.push (aM w)} (.ref s.heap.objs.size) "set":=⟨_,g0,rfl⟩;have hli:=F.called_set.init.lookup;have hbi:=F.called_set.init.bind (.ref s.heap.objs.size)
   repeat (any_goals (first|assumption|wp_step))
   refine codeAny_mono (wJ (s:={s with heap:=s.heap.push (aM w)}) (R:=wants (λr s₂=>r=.none/\∃h' tk ys ep,s₂={s with heap:=h',toks:=tk}/\StrSet kd h' s.heap.objs.size ys ep/\(ys.map (·.1)).Nodup/\(∀y,y∈ys.map (·.1)↔y∈ss)/\ys.length<=ss.length/\(∀b o,s.heap.get? b=some o->h'.get? b=some o)) E) hh g0 (hl.push _) hz hz2 hv λh' tk ys ep a1 a2 a3 a4 a5=>⟨rfl,h',tk,ys,ep,rfl,a1,a2,a3,a4,λb o e=>a5 b o (nn0 (hs0 e)) (ps0 _ e)⟩) λr2 s₂ hr2=>?_
   cases r2 with
   |error e=>exact hr2
   |ok f2=>
    cases f2 with
    |ret r=>
     obtain⟨rfl,h',tk,ys,ep,rfl,a1,a2,a3,a4,a5⟩:=hr2
     repeat (any_goals (first|assumption|wp_step))
     exact h h' tk _ ys ep (nr0 _) a1 a2 a3 a4 a5
    |_=>exact hr2.elim
  |_=>exact hr.elim
end
def slot_sit_next:Slot "set_iterator" "__next__" "set_iterator.__next__":=
 .of (owner:="set_iterator") (n:="__next__") (rfl) (by decide +kernel) (by decide +kernel) (by decide +kernel) (by first|exact .inl (by decide +kernel)|rfl) (rfl)
def eT:Slot "set_iterator" "__iter__" "set_iterator.__iter__":=
 .of (owner:="set_iterator") (n:="__iter__") (rfl) (by decide +kernel) (by decide +kernel) (by decide +kernel) (by first|exact .inl (by decide +kernel)|rfl) (rfl)
def bG:entryFor table "set_iterator.__next__"=some Builtin.«set_iterator.__next__»:=entryFor_of_fast (rfl)
def jd:entryFor table "set.__iter__"=some Builtin.«frozenset.__iter__»:=by refine entryFor_alias (id':="frozenset.__iter__") ?_ rfl ?_ ?_<;>first|kernel_rfl|rfl
def bM(a):argsOk "set_iterator.__next__" ⟨[a],[]⟩:=by rfl
def rm{l:List α}{i}(h:i<l.length):(l[i]::l.eraseIdx i).Perm l:=by
 rw[List.eraseIdx_eq_take_drop_succ];refine (List.perm_middle.symm).trans (List.Perm.of_eq ?_);simp
theorem rn(f:Nat->Nat):∀(n k:Nat)(l:List α)(o:Array α),n=l.length->(pickOrder.go f n k l o).toList.Perm (o.toList++l)
 |0,k,l,o,e=>by
  have:=ez0 e.symm;subst this;show o.toList.Perm _;simp
 |n+1,k,l,o,e=>by
  have hl:0<l.length:=by omega
  have lt:=Nat.mod_lt (f k) hl;show (match l[f k % l.length]? with|some x=>pickOrder.go f n _ _ _|none=>o).toList.Perm _;rw[ge0 lt];refine (rn f n _ _ _ (by grind)).trans ?_;rw[Array.toList_push,List.append_assoc];exact (List.Perm.refl _).append (rm lt)
def kr(f:Nat->Nat)(xs:Array α):(pickOrder f xs).toList.Perm xs.toList:=by
 have:=rn f xs.size 0 xs.toList #[] (rfl)
 simpa [pickOrder]using this
section
variable {A:Around}{E:Value->Shared->Prop}
def wK{n}{Q}(hn:n≠0)(h:∀i d,i<n->Q i {s with drawn:=d}):wpAny (model prog w) A (choose .order n) Q E s:=λΓ p a=>by
 exact⟨hn,h _ _ (Nat.mod_lt _ (Nat.pos_of_ne_zero hn))⟩
def ku(n:Nat):∀(xs:List α)(s:Shared)(Q:List α->Shared->Prop),n=xs.length->(∀ys d,ys.Perm xs->Q ys {s with drawn:=d})->wpAny (model prog w) A (drawOrder n xs) Q E s:=by
 induction n with
 |zero=>
  intro xs s Q e h;cases xs with
  |nil=>exact wq0 (h [] s.drawn (.refl _))
  |cons x r=>cases e
 |succ n ih=>
  intro xs s Q e h;cases xs with
  |nil=>cases e
  |cons x r=>
   unfold drawOrder;refine wb0 (wK (by simp) λi d hi=>?_);rw[ge0 hi];dsimp only;refine wb0 (ih _ _ _ (by rw[List.length_eraseIdx_of_lt hi];simp at e ⊢;omega) λys d' p=>wq0 (h _ d' ?_));exact (p.cons _).trans (rm hi)
def asks{Q}(h:Q (byTx w) s):wpAny (model prog w) A setsByText Q E s:=wb0 (wpAny_askSetting (wq0 h))
def tV{S}{o}{es}{t}{ep sl i}{Q}(ho:s.heap.get? S=some o)(hd:o.data=.set es ep t)(hf:t.fits es.size=true)(hb:byTx w=true)
  (h:Q (((pickOrder (w.params.setOrder S ep) es)[i]?).map λe=>(e.2,sl)) s):wpAny (model prog w) A (setNext S sl i ep) Q E s:=by
 refine wb0 (wpAny_setState_of ho hd hf (wb0 (asks ?_)));rw[hb];simp only[bne_self_eq_false];refine wb0 ?_;refine wb0 (wpAny_setState_of ho hd hf (wb0 (asks ?_)));rw[hb];exact wb0 (wpAny_askSetting (wq0 (wq0 h)))
def nA{S}{o}{es}{t}{ep sl i}{Q}(ho:s.heap.get? S=some o)(hd:o.data=.set es ep t)(hf:t.fits es.size=true)(hb:byTx w=false)(hl:t.led=true)(h1:t.plain=false->es.size<=1)
  (h:Q (match es[SetTable.below t.place sl]?,t.place[SetTable.below t.place sl]? with|some (_,x),some j=>some (x,j+1)|_,_=>none) s):wpAny (model prog w) A (setNext S sl i ep) Q E s:=by
 refine wb0 (wpAny_setState_of ho hd hf (wb0 (asks ?_)));rw[hb];have e1:(!t.plain&&decide (es.size>1))=false:=by
  cases c:t.plain with
  |true=>rfl
  |false=>rw[df0 (by have:=h1 c;omega),Bool.and_false]
 have e2:(!t.led&&!es.isEmpty)=false:=by rw[hl];rfl
 show wpAny (model prog w) A (if (!t.plain&&decide (es.size>1))=true then _ else _) Q E s;rw[if_neg (by rw[e1];exact fx0)];show wpAny _ A ((if (!t.led&&!es.isEmpty)=true then _ else _) >>= _) Q E s;rw[if_neg (by rw[e2];exact fx0)];exact wb0 (wq0 (wq0 h))
end
def SetIt(h:Heap)(I S:Addr)(f0:Value)(i n ep:Nat):Prop:=∃o,h.get? I=some o/\o.cls=.type "set_iterator"/\o.data=.fields #[f0,.int i 0,.ref S,.int n 0,.int ep 0]
def SetIt.is{I S}{f0}{i n ep}(x:SetIt s.heap I S f0 i n ep):s.TypeIs (.ref I) "set_iterator":=let ⟨o,a,b,_⟩:=x;⟨o,a,b⟩
def SetIt.keep{h h'}{I S}{f0}{i n ep}(x:SetIt h I S f0 i n ep)(k:∀o,h.get? I=some o->h'.get? I=some o):SetIt h' I S f0 i n ep:=let ⟨o,a,b⟩:=x;⟨o,k o a,b⟩
def SetIt.upd{h}{I S}{f0}{i n ep}(x:SetIt h I S f0 i n ep)(k:Nat)(v):
  ∃o,(h.update I (Obj.mapFields (·.setIfInBounds k v))).get? I=some o/\o.cls=.type "set_iterator"/\o.data=.fields ((#[f0,.int i 0,.ref S,.int n 0,.int ep 0]:Array Value).setIfInBounds k v):=by
 obtain⟨o,ho,hc,hd⟩:=x;exact⟨_,hu0 _ ho (Obj.isFreed_of_fields (Obj.data_mapFields hd _)),(Obj.cls_mapFields ..).trans hc,Obj.data_mapFields hd _⟩
section
variable {A:Around}{E:Value->Shared->Prop}{O:Type}[DecidableEq O][Inhabited O]{kd:KD prog w O}{I S:Addr}{xs:List (O×Tok)}{sl:Nat}{x f0:Value}{nx:Nat}{Q:Option Value->Shared->Prop}
def fI{P}(hit:SetIt s.heap I S f0 i n ep)(hS:StrSet kd s.heap S xs ep)(hn:n=xs.length)
  (h:wpAny (model prog w) A (if let .int slot _:=f0 then do
    match ←setNext S slot.toNat (i:Int).toNat (ep:Int).toNat with
    |some (x,next)=>
     setField (.ref I) 0 (rawInt next)
     setField (.ref I) 1 (rawInt ((i:Int)+1))
     ret x
    |none=>setField (.ref I) 2 .none;raiseNew (<-newExc (.type "StopIteration") [])
   else do
    let some places ←seqItems? f0|unsupported "internal:set_iterator"
    match places[(i:Int).toNat]? with
    |some (.int place _)=>
     let x ←setNextDrawn S place.toNat (ep:Int).toNat
     setField (.ref I) 1 (rawInt ((i:Int)+1))
     ret x
    |some _=>unsupported "internal:set_iterator"
    |none=>setField (.ref I) 0 (rawInt 0);setField (.ref I) 2 .none;raiseNew (<-newExc (.type "StopIteration") [])) P E s):
  wpAny (model prog w) A (Builtin.«set_iterator.__next__» ⟨[.ref I],[]⟩) P E s:=by
 obtain⟨o,ho,hc,hd⟩:=hit;obtain⟨oS,es,t,eS,_,dS,fS,le,_⟩:=hS;have hz:es.size=n:=by rw[hn,<-al0,le,lm0]
 refine wb0 (wq0 ?_);refine wb0 (wpAny_fieldsOf ho hd ?_);unfold setEntries;refine wb0 (wb0 (wpAny_setState_of eS dS fS (wq0 ?_)));dsimp only;rw[if_neg (by rw[hz];simp)];exact h
def nB(hit:SetIt s.heap I S (.int sl 0) i n ep)(hS:StrSet kd s.heap S xs ep)(hn:n=xs.length)(hx:∀(A:Around)(E:Value->Shared->Prop)(Q:Option (Value×Nat)->Shared->Prop),Q (some (x,nx)) s->wpAny (model prog w) A (setNext S sl i ep) Q E s)
  (hQ:∀h',SetIt h' I S (.int nx 0) (i+1) n ep->Heap.SameBut I s.heap h'->Q (some x) {s with heap:=h'}):wpAny (model prog w) A (pyNext (.ref I)) Q E s:=by
 refine wb0 (wpAny_attempt (wpAny_callSpecial?_slot hit.is slot_sit_next (wpAny_call_entry slot_sit_next hit.is bG (fI hit hS hn ?_) (bM _))));refine wb0 (hx _ _ _ ?_);obtain⟨o,ho,hc,hd⟩:=id hit;obtain⟨o1,e1,c1,d1⟩:=hit.upd 0 _;refine wb0 (wpAny_setField ho hd (by simp) (wb0 (wpAny_setField e1 d1 (by simp) (wq0 ⟨x,rfl,wq0 (hQ _ ⟨_,hu0 _ e1 (Obj.isFreed_of_fields (Obj.data_mapFields d1 _)),(Obj.cls_mapFields ..).trans c1,?_⟩ ((Heap.SameBut.update ..).trans (Heap.SameBut.update ..)))⟩))));rw[Obj.data_mapFields d1]
 rfl
def nC{P:Fin->Shared->Prop}{E'}{o}{vs}(hh:A.handled=none)(ho:s.heap.get? I=some o)(hd:o.data=.fields vs)(hz:2<vs.size)(hE:∀e h',Shared.TypeIs {s with heap:=h'} e "StopIteration"->Heap.ExtBut I s.heap h'->E' e {s with heap:=h'}):
  wpAny (model prog w) A (do setField (.ref I) 2 .none;raiseNew (<-newExc (.type "StopIteration") [])) P E' s:=by
 refine wb0 (wpAny_setField ho hd hz (wb0 ?_));simp only[newExc,newTuple];refine wb0 (m:=firstArgMember _ _) (wpAny_of_eq (a:=Value.none) (by first|rfl|(simp only[firstArgMember];rfl)) (wpAny_newObj_type ?_ (by size_fits)));simp only[raiseNew];refine wb0 (wpAny_handled ?_);rw[hh];refine wb0 (wq0 (wpAny_throw ?_));refine hE _ _ ?_ (((Heap.SameBut.update ..).extBut.push _).push _);exact⟨_,pz0 _ rfl,rfl⟩
def rp(hh:A.handled=none)(hit:SetIt s.heap I S (.int sl 0) i n ep)(hS:StrSet kd s.heap S xs ep)(hn:n=xs.length)(hx:∀(A:Around)(E:Value->Shared->Prop)(Q:Option (Value×Nat)->Shared->Prop),Q none s->wpAny (model prog w) A (setNext S sl i ep) Q E s)
  (hQ:∀h',Heap.ExtBut I s.heap h'->Q none {s with heap:=h'}):wpAny (model prog w) A (pyNext (.ref I)) Q E s:=by
 refine wb0 (wpAny_attempt (wpAny_callSpecial?_slot hit.is slot_sit_next (wpAny_call_entry slot_sit_next hit.is bG (fI hit hS hn ?_) (bM _))));refine wb0 (hx _ _ _ ?_);obtain⟨o,ho,hc,hd⟩:=id hit;exact nC (hh) ho hd (by simp) λe h' ht eb=>wb0 (wpAny_isInstance ht isSubtype_stop (wq0 (hQ _ eb)))
def tW{ps:List Nat}{p}{oT}{m}{y}(hit:SetIt s.heap I S (.ref T) i n ep)(hS:StrSet kd s.heap S xs ep)(hn:n=xs.length)(hT:s.heap.get? T=some oT)(dT:oT.data=.seq (ps.map λ(k:Nat)=>rawInt (k:Int)).toArray m)(hp:ps[i]?=some p)(hy:xs[p]?=some y)
  (hQ:∀h',SetIt h' I S (.ref T) (i+1) n ep->Heap.SameBut I s.heap h'->Q (some (kd.vl y.1 y.2)) {s with heap:=h'}):wpAny (model prog w) A (pyNext (.ref I)) Q E s:=by
 unfold pyNext;refine wb0 (wpAny_attempt (wpAny_callSpecial?_slot (name:=Str.ofString "__next__") hit.is slot_sit_next (wpAny_call_entry slot_sit_next hit.is bG (fI hit hS hn ?_) (bM _))));dsimp only;simp only[Int.toNat_natCast];unfold seqItems?;refine wb0 (wb0 (wpAny_load hT ?_));rw[dT];refine wq0 ?_;dsimp only;have e:(ps.map λ(k:Nat)=>rawInt (k:Int)).toArray[i]?=some (rawInt (p:Int)):=by simp[hp]
 rw[e];obtain⟨oS,es,t,eS,_,dS,fS,le,_⟩:=id hS;show wpAny _ _ (setNextDrawn S (p:Int).toNat ep >>= _) _ _ _;unfold setNextDrawn;refine wb0 (wb0 (wpAny_setState_of eS dS fS ?_));dsimp only;simp only[bne_self_eq_false,Bool.false_eq_true,if_false,Int.toNat_natCast];have ee:es[p]?=some (kd.e y):=by rw[<-Array.getElem?_toList,le,gm0,hy];rfl
 rw[ee];refine wq0 ?_;obtain⟨o,ho,hc,hd⟩:=id hit;obtain⟨o1,e1,c1,d1⟩:=hit.upd 1 (rawInt ((i:Int)+1));refine wb0 (wpAny_setField ho hd (by simp) (wq0 ⟨_,rfl,wq0 (hQ _ ⟨o1,e1,c1,?_⟩ (Heap.SameBut.update ..))⟩));rw[d1];simp[rawInt]
def wL{ps:List Nat}{oT}{m}(hh:A.handled=none)(hit:SetIt s.heap I S (.ref T) i n ep)(hS:StrSet kd s.heap S xs ep)(hn:n=xs.length)(hT:s.heap.get? T=some oT)(dT:oT.data=.seq (ps.map λ(k:Nat)=>rawInt (k:Int)).toArray m)(hp:ps[i]?=none)
  (hQ:∀h',Heap.ExtBut I s.heap h'->Q none {s with heap:=h'}):wpAny (model prog w) A (pyNext (.ref I)) Q E s:=by
 unfold pyNext;refine wb0 (wpAny_attempt (wpAny_callSpecial?_slot (name:=Str.ofString "__next__") hit.is slot_sit_next (wpAny_call_entry slot_sit_next hit.is bG (fI hit hS hn ?_) (bM _))));dsimp only;simp only[Int.toNat_natCast];unfold seqItems?;refine wb0 (wb0 (wpAny_load hT ?_));rw[dT];refine wq0 ?_;dsimp only;have e:(ps.map λ(k:Nat)=>rawInt (k:Int)).toArray[i]?=none:=by simpa using hp
 rw[e];obtain⟨o,ho,hc,hd⟩:=id hit;obtain⟨o1,e1,c1,d1⟩:=hit.upd 0 (rawInt 0);refine wb0 (wpAny_setField ho hd (by simp) ?_);refine nC (hh:A.in1.handled=none) e1 d1 (by simp) λe h' ht eb=>?_
 exact wb0 (wpAny_isInstance (T:="StopIteration") (b:=true) ht isSubtype_stop (wq0 (hQ _ ((Heap.SameBut.update ..).extBut.trans eb))))
end
def je:entryFor table "set_iterator.__iter__"=some Builtin.«dict_keyiterator.__iter__»:=by
 refine entryFor_alias (id':="dict_keyiterator.__iter__") ?_ rfl ?_ ?_<;>first|kernel_rfl|rfl
section
variable {A:Around}{E:Value->Shared->Prop}{O:Type}[DecidableEq O][Inhabited O]{kd:KD prog w O}{I S:Addr}{xs:List (O×Tok)}
noncomputable abbrev eqG:Array GenState->Array GenState->Prop:=λa b=>b=a
abbrev Aq{prog:Program}{w:World}{O:Type}[DecidableEq O](kd:KD prog w O)(order:List (O×Tok))(i:Nat)(v:Value):Prop:=∃p,order[i]?=some p/\v=kd.vl p.1 p.2
def jf{f0}{i}(hit:SetIt s.heap I S f0 i n ep){Q}(hQ:Q (.ref I) s):wpAny (model prog w) A (pyIter (.ref I)) Q E s:=wpAny_pyIter_slot hit.is eT (wpAny_call_entry eT hit.is je (wq0 ⟨_,rfl,_,_,hit.is,slot_sit_next.lookup,hQ⟩) ((by rfl)))
def tX(hb:byTx w=true)(hIS:S≠I)(hh:A.handled=none):∃order:List (O×Tok),order.Perm xs/\
  WalksS prog w A I [I,S] [I] eqG xs.length (Aq kd order) (λi s=>SetIt s.heap I S (.int 0 0) i xs.length ep/\StrSet kd s.heap S xs ep):=by
 obtain⟨order,po,eo⟩:=bC (kr (w.params.setOrder S ep) (xs.map kd.e).toArray) xs rfl;have nxt:∀(s:Shared)(i:Nat),StrSet kd s.heap S xs ep->∀(A:Around)(E:Value->Shared->Prop)(Q:Option (Value×Nat)->Shared->Prop),Q ((order[i]?).map λp=>(kd.vl p.1 p.2,0)) s->wpAny (model prog w) A (setNext S 0 i ep) Q E s:=λs i hS A E Q q=>by
  obtain⟨o,es,t,h1,_,h2,h3,h4,_⟩:=hS;refine tV h1 h2 h3 hb ?_;rw[(show es=(List.map kd.e xs).toArray by
    rw[<-h4]),<-Array.getElem?_toList,eo,gm0]
  cases z:order[i]?<;>simp_all
 refine⟨order,po,⟨λb hb=>by simp at hb;simp[hb],λa=>rfl,λa a a h1 h2=>h2.trans h1,λi s h' tk st a hk=>⟨st.1.keep λo e=>hk I (by simp) o e,st.2.keep λo e=>hk S (by simp) o e⟩,λi s Q E hi st hQ=>?_,λs Q E st hQ=>?_,λi s Q E st hQ=>jf st.1 hQ⟩⟩
 .have hi':i<order.length:=by rw[po.length_eq];exact hi
  have e:=ge0 hi';refine nB st.1 st.2 rfl (x:=kd.vl order[i].1 order[i].2) (nx:=0) (λA E Q q=>nxt s i st.2 A E Q (by rw[e];exact q)) λh' hit' sb=>?_
  exact hQ _ _ ⟨_,e,rfl⟩ ⟨hit',st.2.keep λo e=>(sb.2 _ hIS).trans e⟩ ⟨λb o hb e=>(sb.2 b (λz=>hb (by simp[z]))).trans e,rfl,rfl,rfl,nr0 _⟩
 .have e:=List.getElem?_eq_none (by rw[po.length_eq];exact nr0 _)
  refine rp hh st.1 st.2 rfl (λA E Q q=>nxt s _ st.2 A E Q (by rw[e];exact q)) λh' eb=>?_
  exact hQ _ ⟨λb o hb e=>eb b o (λz=>hb (by simp[z])) e,rfl,rfl,rfl,nr0 _⟩
def nD{t}{pl}(p:tU pl t n)(hf:t.fits n=true)(h1:t.plain=false->n<=1):Ris t.place:=by
 cases q:t.plain with
 |true=>exact (p q).2
 |false=>
  have:=h1 q;simp only[SetTable.fits,be0,beq_iff_eq]at hf;have hs:t.place.toList.length<=1:=by rw[al0];omega
  unfold Ris
  match t.place.toList,hs with
  |[],_=>exact .nil
  |[x],_=>exact List.pairwise_singleton _ _
def wM(hb:byTx w=false)(hIS:S≠I)(hh:A.handled=none):
  WalksS prog w A I [I,S] [I] eqG xs.length (Aq kd xs) (λi s=>∃sl,SetIt s.heap I S (.int (sl:Nat) 0) i xs.length ep/\StrSet kd s.heap S xs ep/\∀o es t,s.heap.get? S=some o->o.data=.set es ep t->(t.plain=false->xs.length<=1)/\SetTable.below t.place sl=i):=by
 refine⟨λb hb=>by simp at hb;simp[hb],λc=>rfl,λc c c h1 h2=>h2.trans h1,λi s h' tk st c hk=>?_,λi s Q E hi st hQ=>?_,λs Q E st hQ=>?_,λi s Q E st hQ=>?_⟩
 .obtain⟨sl,a,b,d⟩:=st
  obtain⟨o0,es0,t0,e0,r0⟩:=id b;refine⟨sl,a.keep λo e=>hk I (by simp) o e,b.keep λo e=>hk S (by simp) o e,λo es t h1 h2=>d o es t ?_ h2⟩;have:=hk S (by simp) _ e0;have h1:=h1;rw[this]at h1;cases h1;exact e0
 .obtain⟨sl,a,b,d⟩:=st
  obtain⟨o,es,t,h1,h1x,h2,h3,h4,h5,h6⟩:=id b;have hes:es.size=xs.length:=by rw[<-al0,h4,lm0]
  obtain⟨d1,d2⟩:=d o es t h1 h2;have P2:=nD h6 (by rw[<-hes];exact h3) d1;have hf:=h3;simp only[SetTable.fits,be0,beq_iff_eq]at hf;have hj:t.place[i]?=some t.place[i]:=Array.getElem?_eq_getElem (by omega);have hy:es[i]?=some (kd.e xs[i]):=by rw[<-Array.getElem?_toList,h4,gm0,ge0 hi];rfl
  refine nB (nx:=t.place[i]+1) a b rfl (x:=kd.vl xs[i].1 xs[i].2) (λA E Q q=>nA h1 h2 h3 hb (by rw[h5,hb];rfl) (by rw[hes];exact d1) ?_) λh' hit' sb=>?_
  .rw[d2,hj,hy]
   exact q
  .refine hQ _ _ ⟨xs[i],ge0 hi,rfl⟩ ⟨t.place[i]+1,hit',b.keep λo e=>(sb.2 _ hIS).trans e,λo' es' t' z1 z2=>?_⟩ ⟨λb o hb e=>(sb.2 b (λz=>hb (by simp[z]))).trans e,rfl,rfl,rfl,nr0 _⟩
   have z1:=z1;rw[(sb.2 _ hIS).trans h1]at z1;cases z1;rw[h2]at z2;injection z2 with _ _ z2
   subst z2;exact⟨d1,P2.next hj⟩
 .obtain⟨sl,a,b,d⟩:=st
  obtain⟨o,es,t,h1,h1x,h2,h3,h4,h5,h6⟩:=id b;have hes:es.size=xs.length:=by rw[<-al0,h4,lm0]
  obtain⟨d1,d2⟩:=d o es t h1 h2;refine rp hh a b rfl (λA E Q q=>nA h1 h2 h3 hb (by rw[h5,hb];rfl) (by rw[hes];exact d1) ?_) λh' eb=>hQ _ ⟨λb o hb e=>eb b o (λz=>hb (by simp[z])) e,rfl,rfl,rfl,nr0 _⟩
  rw[d2,show es[xs.length]?=none from Array.getElem?_eq_none (by simp_all)];exact q
 .obtain⟨sl,a,_⟩:=st
  exact jf a hQ
def pW{ps:List Nat}(hp:ps.Perm (List.range xs.length))(hIS:S≠I)(hIT:T≠I)(hh:A.handled=none):
  WalksS prog w A I [I,S,T] [I] eqG xs.length (Aq kd (ps.map λk=>xs.getD k default)) (λi s=>SetIt s.heap I S (.ref T) i xs.length ep/\StrSet kd s.heap S xs ep/\∃o,s.heap.get? T=some o/\o.data=.seq (ps.map λ(k:Nat)=>rawInt (k:Int)).toArray):=by
 have hl:ps.length=xs.length:=by rw[hp.length_eq,lr0]
 refine⟨λb hb=>by simp at hb;simp[hb],λf=>rfl,λf f f h1 h2=>h2.trans h1,λi s h' tk st f hk=>?_,λi s Q E hi st hQ=>?_,λs Q E st hQ=>?_,λi s Q E st hQ=>jf st.1 hQ⟩
 .obtain⟨a,b,o,c,d⟩:=st
  exact⟨a.keep λo e=>hk I (by simp) o e,b.keep λo e=>hk S (by simp) o e,o,hk T (by simp) o c,d⟩
 .obtain⟨a,b,o,c,d⟩:=st
  have hi':i<ps.length:=by simp_all
  have e:=ge0 hi';have hm:=List.mem_range.mp (hp.mem_iff.mp (List.getElem_mem hi'));refine tW a b rfl c d e (ge0 hm) λh' hit' sb=>?_
  exact hQ _ _ ⟨xs[ps[i]],by simp[e,List.getD,ge0 hm],rfl⟩ ⟨hit',b.keep λo e=>(sb.2 _ hIS).trans e,o,(sb.2 _ hIT).trans c,d⟩ ⟨λb o hb e=>(sb.2 b (λz=>hb (by simp[z]))).trans e,rfl,rfl,rfl,nr0 _⟩
 .obtain⟨a,b,o,c,d⟩:=st
  exact wL hh a b rfl c d (List.getElem?_eq_none (by simp_all)) λh' eb=>hQ _ ⟨λb o hb e=>eb b o (λz=>hb (by simp[z])) e,rfl,rfl,rfl,nr0 _⟩
end
section
variable {A:Around}{E:Value->Shared->Prop}{S:Addr}{O:Type}[DecidableEq O][Inhabited O]{kd:KD prog w O}{xs:List (O×Tok)}
structure Iw{prog:Program}{w:World}{O:Type}[DecidableEq O](kd:KD prog w O)(A:Around)(S:Addr)(xs:List (O×Tok))(s s':Shared)(I:Addr):Prop where
 ex:∃(fp:List Addr)(order:List (O×Tok))(St:Nat->Shared->Prop),order.Perm xs/\WalksS prog w A I fp [I] eqG xs.length (Aq kd order) St/\St 0 s'/\(∀b∈fp,b=S\/s.heap.get? b=none)/\s.heap.get? I=none
def wN(hh:A.handled=none)(hS:StrSet kd s.heap S xs ep)(hz:xs.length<4000)
  (h:∀h' d I,(∀b o,s.heap.get? b=some o->h'.get? b=some o)->Iw kd A S xs s {s with heap:=h',drawn:=d} I->Q (.ref I) {s with heap:=h',drawn:=d}):
  wpAny (model prog w) A (pyIter (.ref S)) Q E s:=by
 obtain⟨o,es,t,h1,h1x,h2,h3,h4,h5,h6⟩:=id hS;have ltS:=hs0 h1;have hes:es.size=xs.length:=by rw[<-al0,h4,lm0]
 refine wpAny_pyIter_slot hS.isA F.slot_set_iter (wpAny_call_entry F.slot_set_iter hS.isA jd ?_ (F.args_set_iter_1 _));unfold Builtin.«frozenset.__iter__» Builtin.Frozenset.slot0;refine wb0 (wb0 (m:=slotArgs "__iter__" 0 _) (wq0 (wq0 ?_)));unfold Builtin.Frozenset.sizeOf setEntries;refine wb0 (wb0 (wb0 (wpAny_setState_of h1 h2 h3 (wq0 (wq0 ?_)))));unfold setDrawn;refine wb0 (wb0 (wpAny_setState_of h1 h2 h3 (wb0 (asks (wq0 ?_)))));show wpAny (model prog w) A.in1 (do
  let first ←if (!byTx w&&(!t.plain&&decide (es.size>1)))=true then do newTuple ((<-drawOrder es.size (List.range es.size)).map λ(i:Nat)=>rawInt i)else pure (rawInt 0)
  ret (<-newFields "set_iterator" [first,rawInt 0,.ref S,rawInt es.size,rawInt (<-setEpoch S)])) _ _ s
 have fin:∀(f0:Value)(s1:Shared),s1.heap.get? S=some o->(∀Q':Value->Shared->Prop,Q' (.ref s1.heap.objs.size) {s1 with heap:=s1.heap.push {cls:=.type "set_iterator",data:=.fields #[f0,.int 0 0,.ref S,.int xs.length 0,.int ep 0]}}->
   wpAny (model prog w) A.in1 (do ret (<-newFields "set_iterator" [f0,rawInt 0,.ref S,rawInt es.size,rawInt (<-setEpoch S)])) (λf s'=>∃v,f=.done (.ret v)/\Q' v s') E s1):=λf0 s1 g Q' q=>by
  refine wb0 (wpAny_setEpoch_of g h2 h3 ?_);unfold newFields;refine wb0 (wpAny_newObj_type (wq0 ⟨_,rfl,?_⟩));rw[hes];exact q
 cases hb:byTx w with
 |true=>
  rw[if_neg (by simp)];refine wb0 (wq0 (fin _ s h1 _ ?_));have hne:S≠s.heap.objs.size:=nn0 ltS;obtain⟨order,po,W⟩:=tX (kd:=kd) (prog:=prog) (A:=A) (I:=s.heap.objs.size) (S:=S) (xs:=xs) (ep:=ep) hb hne hh;refine⟨_,_,⟨_,pz0 _ rfl,rfl⟩,slot_sit_next.lookup,?_⟩;refine h _ s.drawn _ (λb o e=>ps0 _ e) ⟨_,order,_,po,W,⟨⟨_,pz0 _ rfl,rfl,rfl⟩,hS.keep λo e=>ps0 _ e⟩,λb hb=>?_,fH _⟩;rcases mq0 hb with e|hb
  .rw[e];exact .inr (fH _)
  .exact .inl (by simpa using hb)
 |false=>
  by_cases n1:t.plain=true\/xs.length<=1
  .rw[if_neg (by
    rcases n1 with z|z
    .rw[z];simp
    .rw[df0 (by omega)];simp)]
   refine wb0 (wq0 (fin _ s h1 _ ?_));have hne:S≠s.heap.objs.size:=nn0 ltS;have n1':t.plain=false->xs.length<=1:=λz=>n1.resolve_left (by rw[z];exact fx0)
   have W:=wM (kd:=kd) (A:=A) (I:=s.heap.objs.size) (S:=S) (xs:=xs) (ep:=ep) hb hne hh;refine⟨_,_,⟨_,pz0 _ rfl,rfl⟩,slot_sit_next.lookup,?_⟩;refine h _ s.drawn _ (λb o e=>ps0 _ e) ⟨_,xs,_,.refl _,W,⟨0,⟨_,pz0 _ rfl,rfl,rfl⟩,hS.keep λo e=>ps0 _ e,λo' es' t' z1 z2=>?_⟩,λb hb=>?_,fH _⟩
   .have z1:=z1
    rw[ps0 _ h1]at z1;cases z1;rw[h2]at z2;injection z2 with _ _ z2
    subst z2;exact⟨n1',(nD h6 (by rw[<-hes];exact h3) n1').zero⟩
   rcases mq0 hb with e|hb
   .rw[e];exact .inr (fH _)
   .exact .inl (by simpa using hb)
  .have np:=bf0 λz=>n1 (.inl z)
   rw[if_pos (by rw[np,dt0 (by have:¬ xs.length<=1:=λz=>n1 (.inr z);omega)];rfl)];refine wb0 (ku _ _ _ _ List.length_range.symm λps d hp=>wb0 ?_);rw[hes]at hp;have hl:ps.length=xs.length:=by rw[hp.length_eq,lr0]
   refine wpAny_newTuple ?_ (by rw[lm0,hl,sizeLine_eq];omega);refine fin _ {s with heap:=s.heap.push _,drawn:=d} (ps0 _ h1) _ ?_;have hne:S≠(s.heap.push {cls:=.type "tuple",data:=.seq (ps.map λ(k:Nat)=>rawInt (k:Int)).toArray}).objs.size:=by rw[Heap.size_push];exact nn0 (Nat.lt_succ_of_lt ltS)
   have hne2:s.heap.objs.size≠(s.heap.push {cls:=.type "tuple",data:=.seq (ps.map λ(k:Nat)=>rawInt (k:Int)).toArray}).objs.size:=by rw[Heap.size_push];omega
   have W:=pW (kd:=kd) (prog:=prog) (w:=w) (A:=A) (I:=(s.heap.push {cls:=.type "tuple",data:=.seq (ps.map λ(k:Nat)=>rawInt (k:Int)).toArray}).objs.size) (S:=S) (T:=s.heap.objs.size) (xs:=xs) (ep:=ep) hp hne hne2 hh;have kk:∀b o,s.heap.get? b=some o->((s.heap.push {cls:=.type "tuple",data:=.seq (ps.map λ(k:Nat)=>rawInt (k:Int)).toArray}).push {cls:=.type "set_iterator",data:=.fields #[.ref s.heap.objs.size,.int 0 0,.ref S,.int xs.length 0,.int ep 0]}).get? b=some o:=λb o e=>ps0 _ (ps0 _ e)
   have no:∀b,s.heap.objs.size<=b->s.heap.get? b=none:=λb hb=>by
    cases q:s.heap.get? b with
    |none=>rfl
    |some o=>exact absurd (hs0 q) (Nat.not_lt.mpr hb)
   refine⟨_,_,⟨_,pz0 _ rfl,rfl⟩,slot_sit_next.lookup,?_⟩;refine h _ d _ kk ⟨_,_,_,(hp.map _).trans (.of_eq ((by
     apply List.ext_getElem
     .simp
     .intro i h1 h2
      simp[h2]))),W,⟨⟨_,pz0 _ rfl,rfl,rfl⟩,hS.keep λo e=>kk _ _ e,_,ps0 _ (pz0 _ rfl),rfl⟩,λb hb=>?_,no _ (by rw[Heap.size_push];omega)⟩
   rcases mq0 hb with e|hb
   .rw[e];exact .inr (no _ (by rw[Heap.size_push];omega))
   .rcases mq0 hb with e|hb
    .exact .inl e
    .have:b=s.heap.objs.size:=by simpa using hb
     rw[this];exact .inr (fH _)
def wO{Q}(hT:s.TypeIs (.ref S) "set")(h:Q false s):wpAny (model prog w) A (Builtin.List.listLengthHint (.ref S)) Q E s:=by
 unfold Builtin.List.listLengthHint;refine wb0 (wpAny_specialOf hT F.slot_set_len.lookup ?_);generalize hid:("set.__len__":String)=id0
 wp_delta
 rw[show splitId id0=some ("set","__len__")from by subst hid;decide +kernel];subst hid;refine wb0 (wpAny_isInstance (T:="set") (b:=true) hT (by rw[isSubtype_type];kernel_rfl) ?_);refine wpAny_ite_split (λz=>absurd z (by decide)) λa=>wpAny_ite_split (λa=>wb0 (wpAny_typeOf hT (wq0 h))) λz=>absurd (by decide +kernel) z
def pX{R}{L}(hh:A.handled=none)(hS:StrSet kd s.heap S xs ep)(hz:xs.length<4000)(res)(hL:s.heap.get? L=some {cls:=.type "list",data:=.seq #[]})(hLS:L≠S)
  (h:∀h' tk d (order:List (O×Tok)) (acc:Array Value) c,order.Perm xs->(∀b o,b≠L->s.heap.get? b=some o->h'.get? b=some o)->h'.get? L=some {cls:=.type "list",dict:=none,data:=.seq acc c,slots:=#[]}->acc.toList=order.map (λp=>kd.vl p.1 p.2)->R (.ok (.ret res)) {s with heap:=h',toks:=tk,drawn:=d}):
  wpAny (model prog w) A.in1 (Builtin.List.listExtendWith (.ref L) (.ref S) res)
   (λfin s'=>match fin with|.done f=>R (.ok f) s'|.again c'=>c'.quiet=true/\codeAny (model prog w) A c' R s') (λe s'=>R (.error e) s') s:=by
 unfold Builtin.List.listExtendWith;refine wb0 (wpAny_typeOf (T:="set") hS.isA ?_);have q1:Builtin.List.listSameRef (.ref L) (.ref S)=false:=by simp[Builtin.List.listSameRef,hLS]
 have q2:(Value.type "set"==Value.type "list")=false:=by decide
 have q3:(Value.type "set"==Value.type "tuple")=false:=by decide
 simp only[q1,q2,q3,Bool.or_false,Bool.false_eq_true,if_false];refine wb0 (wN (A:=A.in1) hh hS hz λh' d I kk W=>?_);obtain⟨fp,order,St,po,W,st,hfp,hI⟩:=W.ex;have nIL:I≠L:=λe=>by rw[e,hL]at hI;cases hI
 have nf:L∉fp:=λhb=>(hfp L hb).elim hLS λz=>by rw[hL]at z;cases z
 refine wb0 (wh0 (wO (s:={s with heap:=h',drawn:=d}) (hS.keep λo e=>kk _ _ e).isA ?_));have key:∀(h2:Heap)(tk c:Nat),St 0 {s with heap:=h2,drawn:=d,toks:=tk}->(∀b o,b≠L->s.heap.get? b=some o->h2.get? b=some o)->h2.get? L=some {cls:=.type "list",data:=.seq #[] c}->codeAny (model prog w) A (.builtin "list.extend.loop" ⟨[.ref L,.ref I,res],[]⟩) R {s with heap:=h2,drawn:=d,toks:=tk}:=λh2 tk c st2 k2 l2=>by
  refine codeAny_extend_loopS W (by rw[sizeLine_eq];omega) L nf res xs.length 0 _ #[] c rfl (Nat.zero_le _) st2 l2 (ItemsOf.nil _) λs' acc c' hm hL' hacc=>?_
  have es:s'={s with heap:=s'.heap,toks:=s'.toks,drawn:=d}:=by
   obtain⟨_,a1,a2,a3,_⟩:=hm;obtain⟨hp,g,dd,tk,os⟩:=s';simp only at a1 a2 a3;subst a1 a2 a3;rfl
  rw[es];refine h s'.heap s'.toks d order acc c' po (λb o hb e=>hm.heap b o (λz=>?_) (k2 b o hb e)) hL' ?_
  .rcases mq0 z with z|z
   .exact hb z
   .have:b=I:=by simpa using z
    rw[this,hI]at e;cases e
  .apply List.ext_getElem?
   intro i;rw[Array.getElem?_toList,gm0];cases q:acc[i]? with
   |none=>
    have hi:acc.size<=i:=by simpa using q
    rw[List.getElem?_eq_none (by rw[po.length_eq];rw[hacc.1]at hi;exact hi)];rfl
   |some v=>
    obtain⟨p,e1,rfl⟩:=hacc.2 i v q;rw[e1];rfl
 have oth:∀(f:Array Value->Array Value)(hh:Heap)(b:Addr)(o:Obj),b≠L->hh.get? b=some o->(hh.update L (Obj.mapSeq f)).get? b=some o:=λf hh b o nb e=>(Heap.get?_update_other _ _ (Ne.symm nb)).trans e
 have hL1:=kk _ _ hL;refine wpAny_ite_split (λa=>?_) (λa=>wq0 ⟨plainId_quiet F.plain_extend_loop _,key h' s.toks 0 st (λb o a e=>kk b o e) hL1⟩);refine wb0 (wpAny_rule (wb0 ?_));show wpAny (model prog w) _ (updateSeq L (·.push .none) >>= λa=>updateSeq L (·.pop)) _ _ _;refine wb0 (wpAny_updateSeq hL1 rfl ?_);have hL2:=hu0 (Obj.mapSeq (·.push Value.none)) hL1 rfl;refine wpAny_updateSeq (hz:=by seq_fits) hL2 rfl ?_;have hL3:=hu0 (Obj.mapSeq (·.pop)) hL2 rfl;refine wq0 ⟨plainId_quiet F.plain_extend_loop _,key _ s.toks _ (W.frame 0 _ _ _ st (nr0 _) λb hb o e=>?_) (λb o nb e=>oth _ _ _ _ nb (oth _ _ _ _ nb (kk b o e))) hL3⟩
 exact oth _ _ _ _ (λz=>nf (z▸hb)) (oth _ _ _ _ (λz=>nf (z▸hb)) e)
def nE{R}(hh:A.handled=none)(hS:StrSet kd s.heap S xs ep)(hz:xs.length<4000)
  (h:∀h' tk d (order:List (O×Tok)),order.Perm xs->s.heap.objs.size<=h'.objs.size->(∀b o,s.heap.get? b=some o->h'.get? b=some o)->R (order.map λp=>kd.vl p.1 p.2) {s with heap:=h',toks:=tk,drawn:=d}):
  wpAny (model prog w) A (collect (.ref S)) R E s:=by
 have ltS:=let ⟨_,_,_,e,_⟩:=hS;hs0 e
 unfold collect;refine wb0 (wpAny_runValue (codeAny_builtin entry_proto_collect' ?_));rw[ui0 PySem.F.plain_proto_collect];show wpAny _ A.in1 (newList [] >>= λl=>again (.builtin "list.__iadd__" ⟨[l,.ref S],[]⟩)) _ _ s;refine wb0 (wpAny_newObj_type (wq0 ⟨plainId_quiet PySem.F.plain_list_iadd _,codeAny_builtin entry_list_iadd' ?_⟩));rw[ui0 PySem.F.plain_list_iadd];have hL:(s.heap.push {cls:=.type "list",data:=.seq ([]:List Value).toArray}).get? s.heap.objs.size=some {cls:=.type "list",data:=.seq #[]}:=pz0 _ rfl;show wpAny _ A.in1 (Builtin.List.listExtendWith (.ref s.heap.objs.size) (.ref S) (.ref s.heap.objs.size)) _ _ _
 refine wpAny_mono (pX (kd:=kd) (A:=A) (s:={s with heap:=s.heap.push {cls:=.type "list",data:=.seq ([]:List Value).toArray}})
  (R:=λq s'=>∃h' tk d,∃order:List (O×Tok),∃(acc:Array Value)(c:Nat),q=.ok (.ret (.ref s.heap.objs.size))/\s'={s with heap:=h',toks:=tk,drawn:=d}/\order.Perm xs/\(∀b o,s.heap.get? b=some o->h'.get? b=some o)/\h'.get? s.heap.objs.size=some {cls:=.type "list",dict:=none,data:=.seq acc c,slots:=#[]}/\acc.toList=order.map (λp=>kd.vl p.1 p.2))
  hh (hS.keep λo e=>ps0 _ e) hz (.ref s.heap.objs.size) hL (Nat.ne_of_gt ltS) λh' tk d order acc c a1 a2 a3 a4=>⟨h',tk,d,order,acc,c,rfl,rfl,a1,λb o e=>a2 b o (nn0 (hs0 e)) (ps0 _ e),a3,a4⟩) (λfin s' x=>?_) λe s' x=>?_
 .cases fin with
  |done f=>
   obtain⟨h',tk,d,order,acc,c,e,rfl,a1,a2,a3,a4⟩:=x;cases e;show wpAny (model prog w) A (load s.heap.objs.size >>= _) _ _ _;refine wb0 (wpAny_load a3 (wq0 ?_));rw[a4];exact h h' tk d order a1 (Nat.le_of_lt (hs0 a3)) a2
  |again c1=>
   refine⟨x.1,codeAny_mono x.2 λq s2 y=>?_⟩;obtain⟨h',tk,d,order,acc,c,rfl,rfl,a1,a2,a3,a4⟩:=y;show wpAny (model prog w) A (load s.heap.objs.size >>= _) _ _ _;refine wb0 (wpAny_load a3 (wq0 ?_));rw[a4];exact h h' tk d order a1 (Nat.le_of_lt (hs0 a3)) a2
 .obtain⟨_,_,_,_,_,_,z,_⟩:=x
  cases z
noncomputable def kdS(prog:Program)(w:World):KD prog w Str:=⟨strKind prog w,.str,false,λk t=>by simp[strKind,Value.isStrOf],λa a=>rfl,λa a=>rfl⟩
noncomputable def kdI(prog:Program)(w:World):KD prog w Int:=⟨intKind prog w,.int,true,λk t=>intKind_is _ _ _ _,λa a=>rfl,λa a=>rfl⟩
def eY(order:List (Str×Tok)):StrsAre (order.map λp=>Value.str p.1 p.2) (order.map (·.1)):=by
 induction order with
 |nil=>exact .nil
 |cons p r ih=>exact .cons _ _ ih
def dP(order:List (Int×Tok)):IntsAre (order.map λp=>Value.int p.1 p.2) (order.map (·.1)):=by
 induction order with
 |nil=>exact .nil
 |cons p r ih=>exact .cons _ _ ih
theorem ie:∀{vs:List Value}{a b:List Int},IntsAre vs a->IntsAre vs b->a=b
 |_,_,_,.nil,.nil=>rfl
 |_,_,_,.cons _ _ h1,.cons _ _ h2=>by rw[ie h1 h2]
def jg{P:List Value->Array Value->Prop}(hh:A.handled=none)(hS:StrSet kd s.heap S xs ep)(hz:xs.length<64)
  (srt:∀(A':Around)(E':Value->Shared->Prop)(s':Shared)(a:Addr)(order:List (O×Tok))(Q':Fin->Shared->Prop),order.length<64->s'.heap.get? a=some (seqObj "list" (order.map λp=>kd.vl p.1 p.2).toArray 0)->(∀out,P (order.map λp=>kd.vl p.1 p.2) out->Q' (.done (.ret .none)) {s' with heap:=sortedHeap s'.heap a (order.map λp=>kd.vl p.1 p.2) out})->wpAny (model prog w) A' (Builtin.«list.sort» ⟨[.ref a],[]⟩) Q' E' s')
  (h:∀h' tk d D (out:Array Value) n (order:List (O×Tok)),(∀b o,s.heap.get? b=some o->h'.get? b=some o)->h'.get? D=some (seqObj "list" out n)->s.heap.objs.size<=D->order.Perm xs->P (order.map λp=>kd.vl p.1 p.2) out->Q (.ref D) {s with heap:=h',toks:=tk,drawn:=d}):
  wpAny (model prog w) A (call (.builtin "sorted") [.ref S]) Q E s:=by
 refine Calls.call_function_entry kind_sorted plain_sorted entry_sorted (args_sorted1 _) ?_;unfold Builtin.«sorted»;refine wb0 (m:=checkCount "sorted" 1 1 _) (wq0 (wb0 (nE (A:=A.in1) hh hS (by omega) λh1 tk d order po sz k1=>?_)));have hl:=po.length_eq;refine wb0 (wpAny_newList ?_ (by rw[lm0,hl,sizeLine_eq];omega));have gD:(h1.push _).get? h1.objs.size=some (seqObj "list" (order.map λp=>kd.vl p.1 p.2).toArray 0):=pz0 _ rfl;have kD:=λb o e=>hs0 (k1 b o e)
 refine wb0 (wh0 (wpAny_call_entry slot_list_sort ⟨_,gD,rfl⟩ entry_list_sort (srt _ _ _ _ order _ (by omega) gD λout a1=>⟨_,rfl,?_⟩) (args_list_sort _)));refine wq0 ⟨_,rfl,?_⟩;obtain⟨n,fin⟩:=sortedHeap_at (out:=out) gD;refine h _ tk d h1.objs.size _ n order (λb o e=>?_) fin sz po a1;have lt:=kD b o e;exact (sortedHeap_old (nn0 lt) (by rw[size_push'];exact Nat.lt_succ_of_lt lt)).trans (ps0 _ (k1 b o e))
def iw{xs}(hh:A.handled=none)(hS:StrSet (kdS prog w) s.heap S xs ep)(hz:xs.length<64)
  (h:∀h' tk d D (out:Array Value) n (ss:List Str),(∀b o,s.heap.get? b=some o->h'.get? b=some o)->h'.get? D=some (seqObj "list" out n)->s.heap.objs.size<=D->StrsAre out.toList ss->ss.Perm (xs.map (·.1))->sortedS ss=true->Q (.ref D) {s with heap:=h',toks:=tk,drawn:=d}):
  wpAny (model prog w) A (call (.builtin "sorted") [.ref S]) Q E s:=by
 refine jg (P:=λvs out=>∀ss,StrsAre vs ss->∃ss',StrsAre out.toList ss'/\ss'.Perm ss/\sortedS ss'=true) hh hS hz (λA' E' s' a order Q' l gD k=>?_) λh' tk d D out n order kk gD sz po a1=>?_
 .exact list_sort_treeK strKind_oneLt gD (eY _).keysOf (λv1 v2 rest e=>keyKind_strs (by rw[<-e];exact eY _)) (by simp_all) λst' a1 a2=>k _ λss hs=>sorted_out_str hs a1 a2
 .obtain⟨ss,b1,b2,b3⟩:=a1 _ (eY _)
  exact h h' tk d D _ n ss kk gD sz b1 (b2.trans (po.map _)) b3
def gH{xs}(hh:A.handled=none)(hS:StrSet (kdI prog w) s.heap S xs ep)(hz:xs.length<64)
  (h:∀h' tk d D (out:Array Value) n (ns:List Int),(∀b o,s.heap.get? b=some o->h'.get? b=some o)->h'.get? D=some (seqObj "list" out n)->s.heap.objs.size<=D->IntsAre out.toList ns->ns.Perm (xs.map (·.1))->ns.Pairwise (·<=·)->Q (.ref D) {s with heap:=h',toks:=tk,drawn:=d}):
  wpAny (model prog w) A (call (.builtin "sorted") [.ref S]) Q E s:=by
 refine jg (P:=λvs out=>∀ns,IntsAre vs ns->∃ns',IntsAre out.toList ns'/\ns'.Perm ns/\ns'.Pairwise (·<=·)) hh hS hz (λA' E' s' a order Q' l gD k=>?_) λh' tk d D out n order kk gD sz po a1=>?_
 .refine list_sort_tree gD (dP _) (by simp_all) λout ns' a1 a2 a3=>k _ λns hs=>⟨_,a1,?_,a3⟩
  rwa [ie hs (dP _)]
 .obtain⟨ss,b1,b2,b3⟩:=a1 _ (dP _)
  exact h h' tk d D _ n ss kk gD sz b1 (b2.trans (po.map _)) b3
end
end PySem
namespace L2.Z
open PySem PySem.Spec PyProof.Rows L2 L2.C SI
section
variable {e:Expr}{p:Pos}
def aI(es:List Expr):Prop:=∀e∈es,isStar e=false
theorem aB{env}:∀{es:List Expr},aI es->(backTo pos (starEach es env)).any (·.1)=false
 |[],_=>rfl
 |e::r,h=>by
  rw[ae (h e ms0)];show (false||(backTo _ _).any _)=false;rw[aB λx hx=>h x (mc0 _ hx)];rfl
theorem kx{env}:∀{es:List Expr},aI es->(backTo pos (starEach es env)).all (λx=>!x.1)=true
 |[],_=>rfl
 |e::r,h=>by
  rw[ae (h e ms0)];show (true&&(backTo _ _).all _)=true;rw[kx λx hx=>h x (mc0 _ hx)];rfl
noncomputable abbrev fl3:List Bool:=[true,true,true]
abbrev CRr(K:Fg)(r:List V->Hp->VK->Prop)(fl:List Bool)(ds:List D)(d:D):Prop:=∀(vs:List V)(G H:Hp)(Q:VK),Same G H->Das K G H fl ds vs->(∀v G' H',Ext G H G' H'->Dp K G' d v->Q v H')->r vs H Q
abbrev CRn(K:Fg)(r:List V->Hp->VK->Prop)(fl:List Bool)(ds:List D)(d:D):Prop:=∀(vs:List V)(G H:Hp)(Q:VK),Same G H->Das K G H fl ds vs->(∀p G' H',Ext G H G' H'->G' p=.none->H p=.none->OwnAt K G' H' d p->Q (.ref p) H')->r vs H Q
structure Blt(X:Cx)(x:Str):Prop where
 g:Gl X x
 m:X.mg x=Option.none
 n:x≠"__name__"
 d:(x==("__debug__":Str))=false
def dQ{id}{r}(B:Blt X x)(hc:aW X (.builtin id) r)(hv:bootBuiltins x=some (.builtin id))(ha:Ea X Y fl (e::es) ds)(hs:aI (e::es))(h:CRr X.K r fl ds d):Ev X Y (.Call (.Name x p) (e::es) [] pos) d:=
 λpins s σ H Q I ⟨G0,H0,G,E,k⟩=>aX hc B.g B.m hv ha B.n B.d (ae (hs e ms0)) (aB λy hy=>hs y (mc0 _ hy)) _ s σ H Q I
  ⟨G0,H0,G,E,λvs G1 H1 e1 r1=>h vs G1 H1 Q e1.gh r1 λv G' H' e2 r2=>k v G' H' (e1.trans e2) r2⟩
def fJ{T}{r}(B:Blt X x)(hc:aW X (.type T) r)(hv:bootBuiltins x=some (.type T))(ha:Ea X Y fl (e::es) ds)(hs:aI (e::es))(h:CRr X.K r fl ds d):Ev X Y (.Call (.Name x p) (e::es) [] pos) d:=
 λpins s σ H Q I ⟨G0,H0,G,E,k⟩=>aH hc B.g B.m hv ha B.n B.d (ae (hs e ms0)) (aB λy hy=>hs y (mc0 _ hy)) _ s σ H Q I
  ⟨G0,H0,G,E,λvs G1 H1 e1 r1=>h vs G1 H1 Q e1.gh r1 λv G' H' e2 r2=>k v G' H' (e1.trans e2) r2⟩
def nF{T}{r}(B:Blt X x)(hc:aW X (.type T) r)(hv:bootBuiltins x=some (.type T))(ha:Ea X Y fl (e::es) ds)(hs:aI (e::es))(h:CRn X.K r fl ds d):En X Y (.Call (.Name x p) (e::es) [] pos) d:=
 λpins s σ H Q I ⟨G0,H0,G,E,k⟩=>aH hc B.g B.m hv ha B.n B.d (ae (hs e ms0)) (aB λy hy=>hs y (mc0 _ hy)) pins s σ H Q I
  ⟨G0,H0,G,E,λvs G1 H1 e1 r1=>h vs G1 H1 Q e1.gh r1 λp G' H' e2 g2 h2 r2=>k p G' H' (e1.trans e2) g2 (e1.hh.free h2) r2⟩
def Das.one{K}{G H}{vs}(h:Das K G H fl [d] vs):∃v,vs=[v]/\Dr K G H d v:=by
 cases h with|cons _ h r=>cases r;exact⟨_,rfl,h⟩
def Das.two{K}{G H}{vs}(h:Das K G H fl [d1,d2] vs):∃v w,vs=[v,w]/\Dr K G H d1 v/\Dr K G H d2 w:=by
 cases h with|cons _ h r=>cases r with|cons _ h2 r=>cases r;exact⟨_,_,rfl,h,h2⟩
def tY:bootBuiltins ("all":Str)=some (.builtin "all"):=rfl
def nG:bootBuiltins ("tuple":Str)=some (.type "tuple"):=rfl
set_option tactic.hygienic true
def rq{i}(h:mX i=some x):i.natAbs.log2<1920/\x=toString i/\PyData.strOk x=true:=by
 unfold mX at h;split at h
 .rename_i c
  cases h;refine⟨?_,rfl,(by
    have h0:=c.1;obtain⟨m,rfl⟩:=Int.eq_ofNat_of_zero_le h0;rw[strOk_iff];intro c hc;rw[PySem.W.KIN.signs_num]at hc;obtain⟨ch,_,e⟩:=mm0 hc;rw[<-e];have:=ch.valid;have h:ch.val.toNat<0x110000:=by
     rcases this with h|⟨_,h⟩
     .exact Nat.lt_trans h (by decide)
     .exact h
    exact h)⟩
  have h1:i.natAbs<2 ^ 60:=by unfold lD at c;omega
  by_cases z:i.natAbs=0
  .rw[z];decide
  .exact Nat.lt_trans ((Nat.log2_lt z).mpr h1) (by decide)
 .cases h
def wQ{f:Bf}(hcalm:X.calm=true)(B:Blt X x)(hf:kh x=some f)(h:biD f ds=some d)(ha:Ea X Y fl3 (e::es) ds)(hs:aI (e::es)):
  Ev X Y (.Call (.Name x p) (e::es) [] pos) d/\(frB f=true->bN d=true->En X Y (.Call (.Name x p) (e::es) [] pos) d):=by
 have old:frB f=false->Ev X Y (.Call (.Name x p) (e::es) [] pos) d->Ev X Y (.Call (.Name x p) (e::es) [] pos) d/\(frB f=true->bN d=true->En X Y (.Call (.Name x p) (e::es) [] pos) d):=
  λz q=>⟨q,λc=>by rw[z]at c;cases c⟩
 have new:En X Y (.Call (.Name x p) (e::es) [] pos) d->Ev X Y (.Call (.Name x p) (e::es) [] pos) d/\(frB f=true->bN d=true->En X Y (.Call (.Name x p) (e::es) [] pos) d):=λq=>⟨q.ev,λa a=>q⟩
 unfold kh at hf;split at hf
 .rename_i c
  subst c;cases hf;refine old rfl ?_
  match ds,h with
  |[.list ls],h=>
   cases h;refine dQ B fw PySem.boot_len ha hs λvs G H Q s r k=>?_
   obtain⟨v,rfl,hv⟩:=r.one;obtain⟨q,ws,rfl,h1,r1⟩:=hv.lst s;exact⟨_,ws.length,rfl,.inl ⟨ws,SqL.of h1,rfl⟩,by rw[<-r1.length];exact k _ G H (.refl s) (.int _)⟩
  |[.tuple ls],h=>
   cases h;refine dQ B fw PySem.boot_len ha hs λvs G H Q s r k=>?_
   obtain⟨v,rfl,hv⟩:=r.one;obtain⟨q,ws,rfl,h1,r1⟩:=hv.tup s;exact⟨_,ws.length,rfl,.inr ⟨ws,SqT.of h1,rfl⟩,by rw[<-r1.length];exact k _ G H (.refl s) (.int _)⟩
  |[.scr ns],h=>
   cases h;refine dQ B fw PySem.boot_len ha hs λvs G H Q s r k=>?_
   obtain⟨v,rfl,hv⟩:=r.one;obtain⟨q,rfl,h1⟩:=hv.scr s;exact⟨_,(ns.map V.int).length,rfl,.inl ⟨_,h1,rfl⟩,by rw[lm0];exact k _ G H (.refl s) (.int _)⟩
  |[.str y],h=>
   rw[SI.len_str]at h;split at h
   .rename_i c
    cases h;rw[big_eq]at c;refine dQ B fw PySem.boot_len ha hs λvs G H Q s r k=>?_
    obtain⟨v,rfl,hv⟩:=r.one;exact⟨_,y.length,rfl,by rw[hv.str.1];exact⟨c,rfl⟩,k _ G H (.refl s) (.int _)⟩
   .cases h
 split at hf
 .rename_i c
  subst c;cases hf;refine old rfl ?_
  match ds,h with
  |[.int i],h=>
   cases h;refine fJ B jR PyProof.Rows.boot_int ha hs λvs G H Q s r k=>?_
   obtain⟨v,rfl,hv⟩:=r.one;exact .inl ⟨i,by rw[hv.int],k _ G H (.refl s) (.int _)⟩
  |[.bool t],h=>
   cases h;refine fJ B jR PyProof.Rows.boot_int ha hs λvs G H Q s r k=>?_
   obtain⟨v,rfl,hv⟩:=r.one;exact .inr ⟨t,by rw[hv.bool],k _ G H (.refl s) (.int _)⟩
 split at hf
 .rename_i c
  subst c;cases hf;refine new ?_
  match ds,h with
  |[.list ls],h=>
   cases h;refine nF B fy PyProof.Rows.boot_list ha hs λvs G H Q s r k=>?_
   obtain⟨v,rfl,hv⟩:=r.one;obtain⟨q,ws,rfl,h1,r1⟩:=hv.lst s;exact⟨q,ws,rfl,.inl (SqL.of h1),λl hl=>k l G _ (.hid s hl) (s.free hl) hl (.inl ⟨_,_,rfl,upd_same,r1⟩)⟩
  |[.tuple ls],h=>
   cases h;refine nF B fy PyProof.Rows.boot_list ha hs λvs G H Q s r k=>?_
   obtain⟨v,rfl,hv⟩:=r.one;obtain⟨q,ws,rfl,h1,r1⟩:=hv.tup s;exact⟨q,ws,rfl,.inr (SqT.of h1),λl hl=>k l G _ (.hid s hl) (s.free hl) hl (.inl ⟨_,_,rfl,upd_same,r1⟩)⟩
 split at hf
 .rename_i c
  subst c;cases hf;refine old rfl ?_
  match ds,h with
  |[.int i],h=>
   obtain⟨x,h1,rfl⟩:=mx0 (show (mX i).map _=some d from h);obtain⟨c,e,ok⟩:=rq h1;subst e;refine fJ B lu PyProof.Rows.boot_str ha hs λvs G H Q s r k=>?_
   obtain⟨v,rfl,hv⟩:=r.one;exact⟨i,by rw[hv.int],c,k _ G H (.refl s) (.str _ ok)⟩
 split at hf
 .rename_i c
  subst c;cases hf;refine old rfl ?_
  match ds,h with
  |[.list ls],h=>
   rw[tuple_list]at h;split at h
   .rename_i c
    cases h;rw[big_eq]at c;refine fJ B eP nG ha hs λvs G H Q s r k=>?_
    obtain⟨v,rfl,hv⟩:=r.one;obtain⟨q,ws,rfl,h1,r1⟩:=hv.lst s;exact⟨q,ws,rfl,SqL.of h1,by rw[<-r1.length];exact c,λl hl=>k _ _ _ (.laid s hl) (.tuple upd_same (r1.mono (bq (s.free hl))))⟩
   .cases h
 split at hf
 .rename_i c
  subst c;cases hf;refine old rfl ?_
  match ds,h with
  |[.list ls],h=>
   obtain⟨bs,e1,rfl⟩:=mx0 (show (boolsOf ls).map _=some d from h);refine dQ B (wF hcalm) tY ha hs λvs G H Q s r k=>?_
   obtain⟨v,rfl,hv⟩:=r.one;obtain⟨q,ws,rfl,h1,r1⟩:=hv.lst s;exact⟨q,bs,rfl,by rw[<-nu e1 r1];exact SqL.of h1,k _ G H (.refl s) (.bool _)⟩
 .cases hf
set_option tactic.hygienic false
end
end L2.Z
namespace PySem
open PySem.AutoSeq1 (wpAny_loadPart')
section
variable {A:Around}{E:Value->Shared->Prop}
def nI{a}{Q}(h:Q (s.heap.get? a) s):wpAny (model prog w) A (loadIfAlive a) Q E s:=λΓ p b=>by
 unfold loadIfAlive
 simp_all
abbrev cN(h:Heap)(z TI TO:Addr)(f0 f1:Value):Prop:=
 h.get? z=some {cls:=.type "zip",dict:=none,data:=.fields #[f0,f1,.bool false,.ref TI,.ref TO],slots:=#[]}
def nJ{TI TO:Addr}{b:Bool}{Q}(hz:cN s.heap z TI TO (rawInt T0) (.bool b))(hT:∃o,s.heap.get? T0=some o)
  (hQ:∀h',cN h' z TI TO (rawInt T0) (.bool true)->Heap.SameBut z s.heap h'->Q false {s with heap:=h'}):
  wpAny (model prog w) A (Builtin.SmallTypes.ownedTupleIsFree (.ref z)) Q E s:=by
 obtain⟨o,ho⟩:=hT;refine wb0 (wpAny_field hz rfl (x:=rawInt T0) rfl ?_);refine wb0 (nI ?_);rw[Int.toNat_natCast,ho];refine wb0 (wpAny_field hz rfl (x:=.bool b) rfl ?_);cases b with
 |true=>exact wq0 (hQ _ hz (.refl _ _))
 |false=>
  exact wb0 (wpAny_setField_rec hz (by simp) λh' hz' hs'=>wq0 (hQ h' hz' hs'))
def tZ{TI TO:Addr}{b:Bool}{x y}(D:ZipApart z TI TO i1 i2 l1 l2)
  (hz:cN s.heap z TI TO (rawInt T0) (.bool b)) (hT:∃o,s.heap.get? T0=some o) (hTI:IsPair s.heap TI (.ref i1) (.ref i2))
  (h1:s.heap.IsListIter i1 l1 k1) (h2:s.heap.IsListIter i2 l2 k2) (hl1:s.heap.IsList l1 xs) (hl2:s.heap.IsList l2 ys) (hx:xs[k1]?=some x) (hy:ys[k2]?=some y)
  (hQ:∀h',cN h' z TI TO (rawInt T0) (.bool true)->h'.IsListIter i1 l1 (k1+1)->h'.IsListIter i2 l2 (k2+1)->IsPair h' s.heap.objs.size x y->h'.objs.size=s.heap.objs.size+1->
   (∀c o,c≠z->c≠i1->c≠i2->s.heap.get? c=some o->h'.get? c=some o)->Q (.ref s.heap.objs.size) {s with heap:=h'}):
  wpAny (model prog w) A (Builtin.«zip.__next__» ⟨[.ref z],[]⟩) (λfin s'=>∃v,fin=.done (.ret v)/\Q v s') E s:=by
 show wpAny _ _ (field (.ref z) 2 >>= _) _ _ _;refine wb0 (wpAny_field hz rfl (x:=.bool false) rfl ?_);show wpAny _ _ (field (.ref z) 3 >>= _) _ _ _;refine wb0 (wpAny_field hz rfl (x:=.ref TI) rfl ?_);refine wb0 (wpAny_seqItems hTI rfl ?_);show wpAny _ _ (Builtin.SmallTypes.ownedTupleIsFree (.ref z) >>= _) _ _ _;refine wb0 (nJ hz hT λh₁ hz1 hs1=>?_);simp only[Bool.false_eq_true,if_false];refine wb0 ?_;simp only[List.forIn_toArray,List.forIn_cons,List.forIn_nil];refine wb0 (wb0 (wh0 ?_));show wpAny _ _ (Builtin.SmallTypes.nextOf (.ref i1) >>= _) _ _ _
 refine wb0 (wpAny_nextOf_list_item (h1.extBut hs1.extBut D.i1z) (hl1.extBut hs1.extBut D.l1z) hx λh₂ h12 hs2=>wq0 (wq0 ?_));refine wb0 (wb0 (wh0 ?_));show wpAny _ _ (Builtin.SmallTypes.nextOf (.ref i2) >>= _) _ _ _;refine wb0 (wpAny_nextOf_list_item ((h2.extBut hs1.extBut D.i2z).extBut hs2.extBut D.i12.symm) ((hl2.extBut hs1.extBut D.l2z).extBut hs2.extBut D.l2i1) hy λh3 h23 hs3=>wq0 (wq0 (wq0 ?_)));refine wb0 (wpAny_newTuple (hsz:=by show 2<=sizeLine;decide) ?_);have hsz:h3.objs.size=s.heap.objs.size:=by rw[hs3.1,hs2.1,hs1.1]
 have up:∀c o,c≠z->c≠i1->c≠i2->s.heap.get? c=some o->h3.get? c=some o:=λc o c1 c2 c3 e=>hs3.extBut _ _ c3 (hs2.extBut _ _ c2 (hs1.extBut _ _ c1 e))
 refine wq0 ⟨_,rfl,?_⟩;rw[hsz];refine hQ _ (ps0 _ (hs3.extBut _ _ D.i2z.symm (hs2.extBut _ _ D.i1z.symm hz1))) ?_ ?_ (by rw[<-hsz];exact pz0 _ rfl) (by rw[Heap.size_push,hsz]) λc o c1 c2 c3 e=>ps0 _ (up c o c1 c2 c3 e)
 .exact (h12.extBut hs3.extBut D.i12).at λo e=>ps0 _ e
 .exact h23.at λo e=>ps0 _ e
def wR{TI TO:Addr}{b:Bool}{Q}(hh:A.handled=none)(D:ZipApart z TI TO i1 i2 l1 l2)
  (hz:cN s.heap z TI TO (rawInt T0) (.bool b)) (hT:∃o,s.heap.get? T0=some o) (hTI:IsPair s.heap TI (.ref i1) (.ref i2))
  (h1:s.heap.IsListIter i1 l1 k1) (h2:s.heap.IsListIter i2 l2 k2) (hl1:s.heap.IsList l1 xs) (hl2:s.heap.IsList l2 ys) (hend:xs[k1]?=none\/ys[k2]?=none)
  (hE:∀h' e,(∀c o,c≠z->c≠i1->c≠i2->s.heap.get? c=some o->h'.get? c=some o)->(∃o,h'.get? e=some o/\o.cls=.type "StopIteration")->E (.ref e) {s with heap:=h'}):
  wpAny (model prog w) A (Builtin.«zip.__next__» ⟨[.ref z],[]⟩) Q E s:=by
 show wpAny _ _ (field (.ref z) 2 >>= _) _ _ _;refine wb0 (wpAny_field hz rfl (x:=.bool false) rfl ?_);show wpAny _ _ (field (.ref z) 3 >>= _) _ _ _;refine wb0 (wpAny_field hz rfl (x:=.ref TI) rfl ?_);refine wb0 (wpAny_seqItems hTI rfl ?_);show wpAny _ _ (Builtin.SmallTypes.ownedTupleIsFree (.ref z) >>= _) _ _ _;refine wb0 (nJ hz hT λh₁ hz1 hs1=>?_);simp only[Bool.false_eq_true,if_false];refine wb0 ?_;simp only[List.forIn_toArray,List.forIn_cons,List.forIn_nil];refine wb0 (wb0 (wh0 ?_));show wpAny _ _ (Builtin.SmallTypes.nextOf (.ref i1) >>= _) _ _ _
 cases hx:xs[k1]? with
 |none=>exact wb0 (wpAny_nextOf_list_end hh (h1.extBut hs1.extBut D.i1z) (hl1.extBut hs1.extBut D.l1z) hx λh₂ e hs2 he=>hE h₂ e (λc o c1 c2 a x=>hs2 _ _ c2 (hs1.extBut _ _ c1 x)) he)
 |some x=>
  have hy:=hend.elim (λh=>by rw[hx]at h;cases h) id;refine wb0 (wpAny_nextOf_list_item (h1.extBut hs1.extBut D.i1z) (hl1.extBut hs1.extBut D.l1z) hx λh₂ h12 hs2=>wq0 (wq0 ?_));refine wb0 (wb0 (wh0 ?_));show wpAny _ _ (Builtin.SmallTypes.nextOf (.ref i2) >>= _) _ _ _;exact wb0 (wpAny_nextOf_list_end hh ((h2.extBut hs1.extBut D.i2z).extBut hs2.extBut D.i12.symm) ((hl2.extBut hs1.extBut D.l2z).extBut hs2.extBut D.l2i1) hy λh3 e hs3 he=>hE h3 e (λc o c1 c2 c3 x=>hs3 _ _ c3 (hs2.extBut _ _ c2 (hs1.extBut _ _ c1 x))) he)
def pY{TI TO:Addr}{b:Bool}{x y}{Q:Option Value->Shared->Prop}(D:ZipApart z TI TO i1 i2 l1 l2)
  (hz:cN s.heap z TI TO (rawInt T0) (.bool b)) (hT:∃o,s.heap.get? T0=some o) (hTI:IsPair s.heap TI (.ref i1) (.ref i2))
  (h1:s.heap.IsListIter i1 l1 k1) (h2:s.heap.IsListIter i2 l2 k2) (hl1:s.heap.IsList l1 xs) (hl2:s.heap.IsList l2 ys) (hx:xs[k1]?=some x) (hy:ys[k2]?=some y)
  (hQ:∀h',cN h' z TI TO (rawInt T0) (.bool true)->h'.IsListIter i1 l1 (k1+1)->h'.IsListIter i2 l2 (k2+1)->IsPair h' s.heap.objs.size x y->h'.objs.size=s.heap.objs.size+1->
   (∀c o,c≠z->c≠i1->c≠i2->s.heap.get? c=some o->h'.get? c=some o)->Q (some (.ref s.heap.objs.size)) {s with heap:=h'}):
  wpAny (model prog w) A (pyNext (.ref z)) Q E s:=by
 have hTy:s.TypeIs (.ref z) _:=⟨_,hz,rfl⟩;exact wb0 (wpAny_attempt (wpAny_callSpecial?_slot hTy F.slot_zip_next
  (wpAny_call_entry F.slot_zip_next hTy F.entry_zip_next
   (tZ D hz hT hTI h1 h2 hl1 hl2 hx hy λh' a1 a3 a4 a5 a6 a7=>wq0 (hQ h' a1 a3 a4 a5 a6 a7)) (F.args_zip_next_1 _))))
def ua{TI TO:Addr}{b:Bool}{Q:Option Value->Shared->Prop}(hh:A.handled=none)(D:ZipApart z TI TO i1 i2 l1 l2)
  (hz:cN s.heap z TI TO (rawInt T0) (.bool b)) (hT:∃o,s.heap.get? T0=some o) (hTI:IsPair s.heap TI (.ref i1) (.ref i2))
  (h1:s.heap.IsListIter i1 l1 k1) (h2:s.heap.IsListIter i2 l2 k2) (hl1:s.heap.IsList l1 xs) (hl2:s.heap.IsList l2 ys) (hend:xs[k1]?=none\/ys[k2]?=none)
  (hQ:∀h',(∀c o,c≠z->c≠i1->c≠i2->s.heap.get? c=some o->h'.get? c=some o)->Q none {s with heap:=h'}):wpAny (model prog w) A (pyNext (.ref z)) Q E s:=by
 have hTy:s.TypeIs (.ref z) _:=⟨_,hz,rfl⟩;refine wb0 (wpAny_attempt (wpAny_callSpecial?_slot hTy F.slot_zip_next
  (wpAny_call_entry F.slot_zip_next hTy F.entry_zip_next (wR hh D hz hT hTI h1 h2 hl1 hl2 hend λh' e hk he=>?_) (F.args_zip_next_1 _))))
 obtain⟨o,ho,hc⟩:=he;exact wb0 (wpAny_isInstance ⟨o,ho,hc⟩ isSubtype_stop (wq0 (hQ _ hk)))
structure ZAt(h:Heap)(z TI TO i1 i2 l1 l2 B i:Nat)(xs ys:Array Value):Prop where
 z:cN h z TI TO .none (.bool false)\/∃T0 b,B<=T0/\cN h z TI TO (rawInt (T0:Nat)) (.bool b)/\∃o,h.get? T0=some o
 ti:IsPair h TI (.ref i1) (.ref i2)
 tp:∃a b,IsPair h TO a b
 h1:h.IsListIter i1 l1 i
 h2:h.IsListIter i2 l2 i
 l1:h.IsList l1 xs
 l2:h.IsList l2 ys
structure ZLt(z TI TO i1 i2 l1 l2 B:Nat):Prop where
 z:z<B
 ti:TI<B
 tp:TO<B
 i1:i1<B
 i2:i2<B
variable {z TI TO i1 i2 l1 l2 B:Nat}
def ZAt.keep{h h'}(D:ZLt z TI TO i1 i2 l1 l2 B)(x:ZAt h z TI TO i1 i2 l1 l2 B i xs ys){S}(n1:S≠z)(n2:S≠TI)(n3:S≠TO)(n4:S≠i1)(n5:S≠i2)(n6:S≠l1)(n7:S≠l2)(n8:S<B)
  (k:∀b o,b≠S->h.get? b=some o->h'.get? b=some o):ZAt h' z TI TO i1 i2 l1 l2 B i xs ys:=
 ⟨x.z.imp (k _ _ n1.symm) λ⟨T0,b,a1,a2,o,a3⟩=>⟨T0,b,a1,k _ _ n1.symm a2,o,k _ _ (Nat.ne_of_gt (nl0 n8 a1)) a3⟩,k _ _ n2.symm x.ti,let ⟨a,b,e⟩:=x.tp;⟨a,b,k _ _ n3.symm e⟩,
  x.h1.at λo e=>k _ _ n4.symm e,x.h2.at λo e=>k _ _ n5.symm e,let ⟨o,e,r⟩:=x.l1;⟨o,k _ _ n6.symm e,r⟩,let ⟨o,e,r⟩:=x.l2;⟨o,k _ _ n7.symm e,r⟩⟩
def ZAt.item{x y}{Q:Option Value->Shared->Prop}(D:ZipApart z TI TO i1 i2 l1 l2)(L:ZLt z TI TO i1 i2 l1 l2 B)(hB:B<=s.heap.objs.size)(Z:ZAt s.heap z TI TO i1 i2 l1 l2 B i xs ys)(hx:xs[i]?=some x)(hy:ys[i]?=some y)
  (hQ:∀h',ZAt h' z TI TO i1 i2 l1 l2 B (i+1) xs ys->IsPair h' s.heap.objs.size x y->h'.objs.size=s.heap.objs.size+1->(∀c o,c≠z->c≠TO->c≠i1->c≠i2->s.heap.get? c=some o->h'.get? c=some o)->Q (some (.ref s.heap.objs.size)) {s with heap:=h'}):
  wpAny (model prog w) A (pyNext (.ref z)) Q E s:=by
 obtain⟨a,b,hTO⟩:=Z.tp;have kl:∀{h':Heap}{l:Addr}{vs:Array Value},l≠z->l≠TO->l≠i1->l≠i2->(∀c o,c≠z->c≠TO->c≠i1->c≠i2->s.heap.get? c=some o->h'.get? c=some o)->s.heap.IsList l vs->h'.IsList l vs:=λa1 a2 a3 a4 k ⟨o,e,r⟩=>⟨o,k _ _ a1 a2 a3 a4 e,r⟩
 rcases Z.z with hz|⟨T0,b,lb,hz,hT⟩
 .refine wpAny_pyNext_zip_item D hz Z.ti hTO Z.h1 Z.h2 Z.l1 Z.l2 hx hy λh' a1 a2 a3 a4 a5 a6 k=>?_
  exact hQ h' ⟨.inr ⟨_,false,hB,a1,_,a5⟩,k _ _ D.TIz D.TITO D.TIi1 D.TIi2 Z.ti,⟨_,_,a2⟩,a3,a4,kl D.l1z D.l1TO D.l1i1 D.l1i2 k Z.l1,kl D.l2z D.l2TO D.l2i1 D.l2i2 k Z.l2⟩ a5 a6 k
 .refine pY D hz hT Z.ti Z.h1 Z.h2 Z.l1 Z.l2 hx hy λh' a1 a3 a4 a5 a6 k0=>?_
  have k:∀c o,c≠z->c≠TO->c≠i1->c≠i2->s.heap.get? c=some o->h'.get? c=some o:=λc o c1 d c3 c4 e=>k0 c o c1 c3 c4 e
  obtain⟨o,hT⟩:=hT;have l1:=L.z;have l2:=L.tp;have l3:=L.i1;have l4:=L.i2;exact hQ h' ⟨.inr ⟨T0,true,lb,a1,o,k _ _ (by grind) (by grind) (by grind) (by grind) hT⟩,k _ _ D.TIz D.TITO D.TIi1 D.TIi2 Z.ti,⟨a,_,k0 _ _ D.TOz D.TOi1 D.TOi2 hTO⟩,a3,a4,kl D.l1z D.l1TO D.l1i1 D.l1i2 k Z.l1,kl D.l2z D.l2TO D.l2i1 D.l2i2 k Z.l2⟩ a5 a6 k
def ZAt.stop{Q:Option Value->Shared->Prop}(hh:A.handled=none)(D:ZipApart z TI TO i1 i2 l1 l2)(Z:ZAt s.heap z TI TO i1 i2 l1 l2 B i xs ys)(he:xs[i]?=none\/ys[i]?=none)
  (hQ:∀h',(∀c o,c≠z->c≠TO->c≠i1->c≠i2->s.heap.get? c=some o->h'.get? c=some o)->Q none {s with heap:=h'}):wpAny (model prog w) A (pyNext (.ref z)) Q E s:=by
 obtain⟨a,b,hTO⟩:=Z.tp;rcases Z.z with hz|⟨T0,b,lb,hz,hT⟩
 .exact wpAny_pyNext_zip_end hh D hz Z.ti hTO Z.h1 Z.h2 Z.l1 Z.l2 he hQ
 .exact ua hh D hz hT Z.ti Z.h1 Z.h2 Z.l1 Z.l2 he λh' k=>hQ h' λc o c1 d c3 c4 e=>k c o c1 c3 c4 e
def ZPairs(h:Heap)(B:Nat)(xs ys:Array Value)(acc:Array Value)(i:Nat):Prop:=acc.size=i/\∀(j:Nat)(v:Value),acc[j]?=some v->∃(x y:Value),v=.ref (B+j)/\xs[j]?=some x/\ys[j]?=some y/\IsPair h (B+j) x y
def ZPairs.keep{h h'}{acc}(p:ZPairs h B xs ys acc i)(k:∀b o,B<=b->h.get? b=some o->h'.get? b=some o):ZPairs h' B xs ys acc i:=
 ⟨p.1,λj v e=>let ⟨x,y,a1,a3,a4,a5⟩:=p.2 j v e;⟨x,y,a1,a3,a4,k _ _ (Nat.le_add_right _ _) a5⟩⟩
set_option tactic.hygienic true in
def wU{R}{S}(hh:A.handled=none)(D:ZipApart z TI TO i1 i2 l1 l2)(L:ZLt z TI TO i1 i2 l1 l2 B)(n1:S≠z)(n2:S≠TI)(n3:S≠TO)(n4:S≠i1)(n5:S≠i2)(n6:S≠l1)(n7:S≠l2)(n8:S<B)
  (hx:xs.size<=sizeLine) (res):
  ∀(k i:Nat)(s:Shared)(acc:Array Value)(c:Nat),min xs.size ys.size-i=k->i<=min xs.size ys.size->s.heap.objs.size=B+i->ZAt s.heap z TI TO i1 i2 l1 l2 B i xs ys->s.heap.get? S=some {cls:=.type "list",dict:=none,data:=.seq acc c,slots:=#[]}->ZPairs s.heap B xs ys acc i->
  (∀h' acc' c',(∀b o,b≠S->b≠z->b≠TO->b≠i1->b≠i2->s.heap.get? b=some o->h'.get? b=some o)->h'.get? S=some {cls:=.type "list",dict:=none,data:=.seq acc' c',slots:=#[]}->ZPairs h' B xs ys acc' (min xs.size ys.size)->R (.ok (.ret res)) {s with heap:=h'})->
  codeAny (model prog w) A (.builtin "list.extend.loop" ⟨[.ref S,.ref z,res],[]⟩) R s:=by
 have m1:=L.z;have m2:=L.tp;have m3:=L.i1;have m4:=L.i2;intro k
 induction k with
 |zero=>
  intro i s acc c hk hi hB Z hS hp hR;refine codeAny_builtin F.entry_extend_loop ?_;rw[ui0 F.plain_extend_loop _];show wpAny _ A.in1 (pyNext (.ref z) >>= _) _ _ s;refine wb0 (Z.stop hh D ?_ λh' kk=>?_)
  .rcases Nat.le_total xs.size ys.size with q|q
   .exact .inl (Array.getElem?_eq_none (by grind))
   .exact .inr (Array.getElem?_eq_none (by grind))
  .have e:i=min xs.size ys.size:=by grind
   subst e;exact wq0 (hR h' acc c (λb o a c1 c2 c3 c4 e=>kk b o c1 c2 c3 c4 e) (kk _ _ n1 n3 n4 n5 hS) (hp.keep λb o lb e=>kk b o (by omega) (by omega) (by omega) (by omega) e))
 |succ k ih=>
  intro i s acc c hk hi hB Z hS hp hR;have q1:i<xs.size:=by omega
  have q2:i<ys.size:=by omega
  refine codeAny_builtin F.entry_extend_loop ?_;rw[ui0 F.plain_extend_loop _];show wpAny _ A.in1 (pyNext (.ref z) >>= _) _ _ s;refine wb0 (Z.item D L (by omega) (Array.getElem?_eq_getElem q1) (Array.getElem?_eq_getElem q2) λh' Z' hP hz' kk=>?_);have hS':=kk _ _ n1 n3 n4 n5 hS;show wpAny _ A.in1 (updateSeq S (·.push (.ref s.heap.objs.size)) >>= _) _ _ _;refine wb0 ?_;have oth:∀(b:Addr)(o:Obj),b≠S->h'.get? b=some o->(h'.update S (Obj.mapSeq (·.push (.ref s.heap.objs.size)))).get? b=some o:=λb o nb e=>(Heap.get?_update_other _ _ (Ne.symm nb)).trans e
  refine wpAny_updateSeq hS' rfl (wq0 ⟨plainId_quiet F.plain_extend_loop _,ih (i+1) _ (acc.push (.ref s.heap.objs.size)) _ (by omega) (by omega) ?_ (Z'.keep L n1 n2 n3 n4 n5 n6 n7 n8 oth) (hu0 _ hS' rfl) ?_ λh2 acc2 c2 k2 hS2 hp2=>?_⟩)
   (by rw[hp.1];omega) (by show (acc.push _).size<=sizeLine+1;rw[Array.size_push,hp.1];omega)
  .show (h'.update S _).objs.size=_
   rw[Heap.size_update];omega
  .refine⟨by rw[Array.size_push,hp.1],λj v hj=>?_⟩
   rw[Array.getElem?_push]at hj;split at hj
   .rename_i e
    rw[hp.1]at e;cases hj;subst e;have hP2:=oth _ _ (Nat.ne_of_gt (nl0 n8 (by omega))) hP;exact⟨_,_,by rw[hB],Array.getElem?_eq_getElem q1,Array.getElem?_eq_getElem q2,Eq.mp (congrArg (λn=>(h'.update S (Obj.mapSeq (·.push (.ref s.heap.objs.size)))).get? n=some _) hB) hP2⟩
   .obtain⟨x,y,a1,a3,a4,a5⟩:=hp.2 j v hj
    have a2:B<=B+j:=Nat.le_add_right _ _;exact⟨x,y,a1,a3,a4,oth _ _ (Nat.ne_of_gt (nl0 n8 a2)) (kk _ _ (Nat.ne_of_gt (nl0 m1 a2)) (Nat.ne_of_gt (nl0 m2 a2)) (Nat.ne_of_gt (nl0 m3 a2)) (Nat.ne_of_gt (nl0 m4 a2)) a5)⟩
  .exact hR h2 acc2 c2 (λb o c0 c1 c2 c3 c4 e=>k2 b o c0 c1 c2 c3 c4 (oth _ _ c0 (kk b o c1 c2 c3 c4 e))) hS2 hp2
end
end PySem
namespace PySem
section
variable {A:Around}{E:Value->Shared->Prop}
def pZ:typeLookup (.type "zip") "__len__"=pure none:=by rfl
def nM:typeLookup (.type "zip") "__length_hint__"=pure none:=by rfl
variable {z TI TO i1 i2 l1 l2:Nat}
def qa{R}{S B}(hh:A.handled=none)(D:ZipApart z TI TO i1 i2 l1 l2)(L:ZLt z TI TO i1 i2 l1 l2 B)(n1:S≠z)(n2:S≠TI)(n3:S≠TO)(n4:S≠i1)(n5:S≠i2)(n6:S≠l1)(n7:S≠l2)(n8:S<B)
  (hx:xs.size<=sizeLine) (res) {c0} (hS:s.heap.get? S=some {cls:=.type "list",data:=.seq #[] c0}) (hB:s.heap.objs.size=B) (Z:ZAt s.heap z TI TO i1 i2 l1 l2 B 0 xs ys)
  (hR:∀h' acc' c',(∀b o,b≠S->b≠z->b≠TO->b≠i1->b≠i2->s.heap.get? b=some o->h'.get? b=some o)->h'.get? S=some {cls:=.type "list",dict:=none,data:=.seq acc' c',slots:=#[]}->ZPairs h' B xs ys acc' (min xs.size ys.size)->R (.ok (.ret res)) {s with heap:=h'}):
  wpAny (model prog w) A.in1 (Builtin.List.listExtendWith (.ref S) (.ref z) res)
   (λfin s'=>match fin with|.done f=>R (.ok f) s'|.again c'=>c'.quiet=true/\codeAny (model prog w) A c' R s') (λe s'=>R (.error e) s') s:=by
 have hT:s.TypeIs (.ref z) "zip":=by
  rcases Z.z with e|⟨_,_,_,e,_⟩
  .exact⟨_,e,rfl⟩
  .exact⟨_,e,rfl⟩
 have hI:∀{Q},Q (.ref z) s->wpAny (model prog w) A.in1 (pyIter (.ref z)) Q (λe s'=>R (.error e) s') s:=λh=>by
  refine wpAny_pyIter_slot hT F.slot_zip_iter (wpAny_call_entry F.slot_zip_iter hT F.entry_zip_iter ?_ (F.args_zip_iter_1 _));show wpAny _ _ (ret (.ref z)) _ _ s;exact wq0 ⟨_,rfl,"zip",_,hT,F.slot_zip_next.lookup,h⟩
 unfold Builtin.List.listExtendWith;refine wb0 (wpAny_typeOf hT ?_);have h1:Builtin.List.listSameRef (.ref S) (.ref z)=false:=by simp[Builtin.List.listSameRef,n1]
 have h2:(Value.type "zip"==Value.type "list")=false:=by decide
 have h3:(Value.type "zip"==Value.type "tuple")=false:=by decide
 simp only[h1,h2,h3,Bool.or_false,Bool.false_eq_true,if_false];refine wb0 (hI ?_);refine wb0 (wh0 ?_);unfold Builtin.List.listLengthHint;refine wb0 (wpAny_specialOf hT pZ ?_);show wpAny _ A.in1 (specialOf (Value.ref z) (Str.ofString "__length_hint__") >>= _) _ _ _;refine wb0 (wpAny_specialOf hT nM ?_);refine wq0 ?_;show wpAny _ A.in1 (rule "list.extend.makes-room" >>= λa=>Builtin.List.listTouch (.ref S) >>= λa=>
  again (.builtin "list.extend.loop" ⟨[.ref S,.ref z,res],[]⟩)) _ _ _
 refine wb0 (wpAny_rule ?_);refine wb0 ?_;show wpAny _ A.in1 (updateSeq S (·.push .none) >>= λa=>updateSeq S (·.pop)) _ _ _;refine wb0 (wpAny_updateSeq hS rfl ?_);have hS2:=hu0 (Obj.mapSeq (·.push Value.none)) hS rfl;refine wpAny_updateSeq (hz:=by seq_fits) hS2 rfl ?_;have hS3:=hu0 (Obj.mapSeq (·.pop)) hS2 rfl;have oth:∀b o,b≠S->s.heap.get? b=some o->((s.heap.update S (Obj.mapSeq (·.push Value.none))).update S (Obj.mapSeq (·.pop))).get? b=some o:=
  λb o hb e=>(Heap.get?_update_other _ _ (Ne.symm hb)).trans ((Heap.get?_update_other _ _ (Ne.symm hb)).trans e)
 refine wq0 ⟨plainId_quiet F.plain_extend_loop _,wU hh D L n1 n2 n3 n4 n5 n6 n7 n8 hx res _ 0 _ #[] _ rfl (Nat.zero_le _) ?_ (Z.keep L n1 n2 n3 n4 n5 n6 n7 n8 oth) hS3 ⟨rfl,λj v e=>by simp at e⟩ λh' acc' c' k hS' hp=>?_⟩
 .show ((s.heap.update S _).update S _).objs.size=_
  rw[Heap.size_update,Heap.size_update];exact hB
 .exact hR h' acc' c' (λb o c0 c1 c2 c3 c4 e=>k b o c0 c1 c2 c3 c4 (oth b o c0 e)) hS' hp
def jK{Q}(hh:A.handled=none)(D:ZipApart z TI TO i1 i2 l1 l2)(L:ZLt z TI TO i1 i2 l1 l2 s.heap.objs.size)(m1:l1<s.heap.objs.size)(m2:l2<s.heap.objs.size)
  (hx:xs.size<=sizeLine) (Z:ZAt s.heap z TI TO i1 i2 l1 l2 (s.heap.objs.size+1) 0 xs ys)
  (hQ:∀h' acc c,(∀b o,b≠z->b≠TO->b≠i1->b≠i2->s.heap.get? b=some o->h'.get? b=some o)->h'.get? s.heap.objs.size=some {cls:=.type "list",dict:=none,data:=.seq acc c,slots:=#[]}->
   ZPairs h' (s.heap.objs.size+1) xs ys acc (min xs.size ys.size)->Q (.ref s.heap.objs.size) {s with heap:=h'}):
  wpAny (model prog w) A (call (.type "list") [.ref z]) Q E s:=by
 have a1:=L.z;have a2:=L.ti;have a3:=L.tp;have a4:=L.i1;have a5:=L.i2;refine callType_codes (Q₁:=λobj s₁=>obj=.ref s.heap.objs.size/\s₁={s with heap:=s.heap.push {cls:=.type "list",data:=.seq #[]}}) F.called_list (F.typeCall_list_1 _) F.entry_list_init
  (code_list_new _ ⟨rfl,rfl⟩) λobj s₁ h₁=>?_
 obtain⟨rfl,rfl⟩:=h₁;have hS:(s.heap.push {cls:=.type "list",data:=.seq #[]}).get? s.heap.objs.size=some {cls:=.type "list",data:=.seq #[]}:=pz0 _ rfl;refine⟨⟨_,hS,rfl⟩,F.args_list_init_2 _ _,?_⟩;refine wb0 ?_;unfold Builtin.List.listItems;refine wb0 (wpAny_seqItems hS rfl (wq0 ?_));refine wb0 (wpAny_updateSeq hS rfl ?_);have hS2:=hu0 (Obj.mapSeq (λa=>(#[]:Array Value))) hS rfl;have oth:∀b o,b≠s.heap.objs.size->s.heap.get? b=some o->((s.heap.push {cls:=.type "list",data:=.seq #[]}).update s.heap.objs.size (Obj.mapSeq (λa=>(#[]:Array Value)))).get? b=some o:=
  λb o hb e=>(Heap.get?_update_other _ _ (Ne.symm hb)).trans (ps0 _ e)
 refine wb0 (wpAny_letGo ?_);have L':ZLt z TI TO i1 i2 l1 l2 (s.heap.objs.size+1):=⟨by omega,by omega,by omega,by omega,by omega⟩;have Zk:=Z.keep (S:=s.heap.objs.size) (h':=(s.heap.push {cls:=.type "list",data:=.seq #[]}).update s.heap.objs.size (Obj.mapSeq (λa=>(#[]:Array Value)))) L' (by omega) (by omega) (by omega) (by omega) (by omega) (by omega) (by omega) (by omega) oth;refine qa (A:=A.in1) (B:=s.heap.objs.size+1) hh D L' (by omega) (by omega) (by omega) (by omega) (by omega) (by omega) (by omega) (by omega) hx .none hS2 ?_ Zk λh' acc c k hS' hp=>?_
 .show ((s.heap.push _).update _ _).objs.size=_
  rw[Heap.size_update,Heap.size_push]
 .exact⟨rfl,hQ h' acc c (λb o c1 c2 c3 c4 e=>k b o (nn0 (hs0 e)) c1 c2 c3 c4 (oth b o (nn0 (hs0 e)) e)) hS' hp⟩
end
end PySem
namespace L2.Z
open PySem PySem.Spec PyProof.Rows L2 L2.C SI
section
variable {h':Heap}{t':Nat}
def nN{ch:List Addr}(I:Inv X pins σ H s)(hch:∀b∈ch,X.s₀.heap.objs.size<=b/\∃J,H b=some (.ext J))(ke:∀b o,b∉ch->s.heap.get? b=some o->h'.get? b=some o)
  (ag:∀b,b<s.heap.objs.size->b∉ch->H' b=H b) (new:∀b o,(s.heap.objs.size<=b\/b∈ch)->H' b=some o->ObjOk X.prog X.w H' h' b o):
  Inv X pins σ H' {s with heap:=h',toks:=t'}:=by
 have lt:=λb o e=>(I.hok b o e).lt
 have nc:∀b,(∀J,H b≠some (.ext J))->b∉ch:=λb n hb=>let ⟨J,e⟩:=(hch b hb).2;n J e
 have same:∀b o,(∀J,o≠.ext J)->H b=some o->H' b=some o:=λb o n e=>(ag b (lt b _ e) (nc b λJ z=>by rw[e]at z;cases z;exact n J rfl)).trans e
 refine I.step (g':=s.gens) (d':=s.drawn) (ch:=ch) (λb hb=>?_) (λb o a a hc e a=>ke b o hc e) (λb o a a hc e a=>⟨o.slots,ke b o hc e⟩)
  (λb o hc e n=>(ag b (hs0 e) hc).trans n) (λb o hc e=>⟨o,ke b o hc e⟩) (λb xs e=>same b _ (λa z=>by cases z) e)
  (λb o u e=>same b _ (λa z=>by cases z) e) (λb ps e=>⟨#[],by rw[same b _ (λa z=>by cases z) e];simp⟩) (λm hm=>?_) (λb u e=>?_) I.bare
 .obtain⟨h1,J,h2⟩:=hch b hb
  exact⟨.inr h1,(λz=>by rw[z,I.free]at h2;cases h2),(λx c hx z=>by rw[<-z,I.freeC x c hx]at h2;cases h2),λp hp z=>by rw[<-z,(I.pin p hp).2.1]at h2;cases h2⟩
 .obtain⟨o,es,ep,ho,r⟩:=hm
  exact⟨o,es,ep,ke _ o (nc _ λJ z=>by rw[I.free]at z;cases z) ho,r⟩
 .by_cases c:s.heap.objs.size<=b\/b∈ch
  .exact new b u c e
  .have c2:b∉ch:=λz=>c (.inr z)
   refine (I.hok b u ((ag b (Nat.lt_of_not_le λz=>c (.inl z)) c2).symm.trans e)).stay (λd v hd q=>ke d v (λz=>?_) q) (λd q=>same d _ (λa z=>by cases z) q) λd a q=>same d _ (λa z=>by cases z) q
   rcases hd with y|y<;>simp_all
noncomputable def Ar(n p1 p2 k:Nat):Obj:=match k with
 |0=>{cls:=.type "list_iterator",data:=.fields #[.ref p1,.int 0 0]}
 |1=>{cls:=.type "list_iterator",data:=.fields #[.ref p2,.int 0 0]}
 |2=>{cls:=.type "tuple",data:=.seq #[.ref n,.ref (n+1)]}
 |3=>{cls:=.type "tuple",data:=.seq #[.none,.none]}
 |_=>{cls:=.type "zip",data:=.fields #[.none,.bool false,.bool false,.ref (n+2),.ref (n+3)]}
noncomputable def zG(H:Hp)(n p1 p2:Nat):Hp:=λb=>if n<=b/\b<n+5 then some (.ext λh=>h.get? b=some (Ar n p1 p2 (b-n)))else H b
def wV{p1 p2 k:Nat}(h:k<5):zG H n p1 p2 (n+k)=some (.ext λh=>h.get? (n+k)=some (Ar n p1 p2 k)):=by
 unfold zG
 grind
def gJ{n p1 p2 b}(h:¬ (n<=b/\b<n+5)):zG H n p1 p2 b=H b:=if_neg h
def wW(h:Heap)(l1 l2:Addr):(zipH4 h l1 l2).objs.size=h.objs.size+4/\(zipH5 h l1 l2).objs.size=h.objs.size+5/\(∀b o,h.get? b=some o->(zipH5 h l1 l2).get? b=some o)/\∀k:Nat,k<5->(zipH5 h l1 l2).get? (h.objs.size+k)=some (Ar h.objs.size l1 l2 k):=by
 have z1:(zipH1 h l1).objs.size=h.objs.size+1:=Heap.size_push ..;have z2:(zipH2 h l1 l2).objs.size=h.objs.size+2:=by rw[Heap.size_push,z1]
 have z3:(zipH3 h l1 l2).objs.size=h.objs.size+3:=by rw[Heap.size_push,z2]
 have z4:(zipH4 h l1 l2).objs.size=h.objs.size+4:=by rw[Heap.size_push,z3]
 have z5:(zipH5 h l1 l2).objs.size=h.objs.size+5:=by rw[Heap.size_push,z4]
 refine⟨z4,z5,λb o e=>ps0 _ (ps0 _ (ps0 _ (ps0 _ (ps0 _ e)))),λk hk=>?_⟩;have g5:(zipH5 h l1 l2).get? _=some _:=pz0 _ rfl;have g4:(zipH5 h l1 l2).get? _=some _:=ps0 _ (pz0 _ rfl);have g3:(zipH5 h l1 l2).get? _=some _:=ps0 _ (ps0 _ (pz0 _ rfl));have g2:(zipH5 h l1 l2).get? (zipH1 h l1).objs.size=some _:=ps0 _ (ps0 _ (ps0 _ (pz0 _ rfl)));have g1:(zipH5 h l1 l2).get? h.objs.size=some _:=ps0 _ (ps0 _ (ps0 _ (ps0 _ (pz0 _ rfl))));rw[z2,z3,z4]at g5;rw[z1,z2]at g3;rw[z3]at g4;rw[z1]at g2;rcases (by omega:k=0\/k=1\/k=2\/k=3\/k=4)with rfl|rfl|rfl|rfl|rfl
 .exact g1
 .exact g2
 .exact g3
 .exact g4
 .exact g5
def ub:aW X (.type "zip") (λxs H Q=>∃(p1 p2:Addr)(us vs:List V),xs=[.ref p1,.ref p2]/\SqL X.K H p1 us/\SqL X.K H p2 vs/\∀n:Nat,X.s₀.heap.objs.size<=n->(∀k:Nat,n<=k->H k=none)->Q (.ref (n+4)) (zG H n p1 p2)):=by
 intro pins s σ H xs us Q I r h;obtain⟨p1,p2,as,bs,rfl,h1,h2,k⟩:=h;obtain⟨u1,u2,rfl,r1,r2⟩:=vals2 r;cases r1;cases r2;obtain⟨i1,_,q1,_⟩:=I.list h1;obtain⟨i2,_,q2,_⟩:=I.list h2;obtain⟨a4,a5,ak,ag⟩:=wW s.heap p1 p2;have fr:∀k:Nat,s.heap.objs.size<=k->H k=none:=λk hk=>I.hok.fresh hk
 refine callType_new F.called_zip (by decide) (F.typeCall_zip_2 _ _) (F.newCall_zip_2 _ _) (λobj=>F.args_object_init_3 obj _ _) F.entry_zip_new (meets_zip_new p1 p2 i1.toArray i2.toArray) ⟨q1.isList,q2.isList,⟨_,by rw[a4];exact ag 4 (by simp_all),rfl⟩,?_⟩;rw[a4];refine⟨.ref (s.heap.objs.size+4),zG H s.heap.objs.size p1 p2,nN (t':=s.toks) (ch:=[]) I (λb hb=>by cases hb) (λb o a e=>ak b o e) (λb hb a=>gJ (by grind)) (λb o hb e=>?_),rfl,k _ ?_ fr⟩
 rotate_left
 .obtain⟨m,⟨o,_,_,ho,_⟩,_⟩:=I.loc
  exact nt0 I.ok.above (Nat.le_of_lt (hs0 ho))
 by_cases c:s.heap.objs.size<=b/\b<s.heap.objs.size+5
 .obtain⟨j,rfl⟩:∃j,b=s.heap.objs.size+j:=⟨b-s.heap.objs.size,by simp_all⟩
  have hj:j<5:=by simp_all
  rw[wV hj]at e;cases e;exact⟨ag j hj,⟨_,ag j hj⟩,λh1 h2 x k2=>k2 _ x⟩
 .rw[gJ c]at e
  have:=I.hok b o e;refine this.stay (λd v a q=>ak d v q) (λd q=>?_) λd a q=>?_
  .rw[gJ (λz=>by rw[fr d z.1]at q;cases q)];exact q
  .rw[gJ (λz=>by rw[fr d z.1]at q;cases q)];exact q
noncomputable def lG(H:Hp)(S:Nat)(ps:List (V×V)):Hp:=λb=>if b=S then some (.lst ((List.range ps.length).map λj=>.ref (S+1+j)))else if S<b then (ps[b-S-1]?).map (λp=>.tup [p.1,p.2])else H b
def eZ{S b}{ps}(h:b<S):lG H S ps b=H b:=by
 unfold lG;rw[if_neg (nn0 h),if_neg (Nat.lt_asymm h)]
def ncl{x}(h:x≠"list"):Value.type x≠Value.type "list":=λz=>h (by injection z)
def Iy{b n}(h:b∈[n,n+1,n+2,n+3,n+4]):∃j:Nat,j<5/\b=n+j:=by
 simp only[List.mem_cons,List.not_mem_nil,or_false]at h;exact⟨b-n,by omega,by grind⟩
def Iz{b n}(h:b∉[n,n+1,n+2,n+3,n+4]):b≠n+4/\b≠n+3/\b≠n/\b≠n+1/\¬ (n<=b/\b<n+5):=by
 grind
def ned{a b:Nat}(h:a<b\/b<a):a≠b:=by grind
def rz{l a:Nat}{o}{its}(hl:h.IsList l its)(e:h.get? a=some o)(n:o.cls≠.type "list"):l≠a:=λz=>by
 obtain⟨o',e',hc,_⟩:=hl<;>grind
def uc(S:Nat)(xs:List Nat):Vals (xs.map λj=>V.ref (S+1+j)) (xs.map λj=>Value.ref (S+1+j)):=by
 induction xs with
 |nil=>exact .nil
 |cons x r ih=>exact .cons rfl ih
def qb(hc:X.calm=true):aW X (.type "list") (λxs H Q=>∃(n p1 p2:Nat)(us vs:List V)(H0:Hp),xs=[.ref (n+4)]/\H=zG H0 n p1 p2/\X.s₀.heap.objs.size<=n/\(∀k:Nat,n<=k->H0 k=none)/\H0 p1=some (.lst us)/\H0 p2=some (.lst vs)/\
  ∀S:Nat,n<=S->Q (.ref S) (lG H0 S (us.zip vs))):=by
 intro pins s σ H xs uu Q I r h;obtain⟨n,p1,p2,us,vs,H0,rfl,rfl,hn,fr,h1,h2,k⟩:=h;obtain⟨u,rfl,ru⟩:=vals1 r;cases ru;have sm:∀b o,H0 b=some o->zG H0 n p1 p2 b=some o:=λb o e=>by rw[gJ (λz=>by rw[fr b z.1]at e;cases e)];exact e
 obtain⟨i1,r1,q1,z1⟩:=I.list (SqL.of (sm _ _ h1));obtain⟨i2,r2,q2,z2⟩:=I.list (SqL.of (sm _ _ h2));have g:∀j:Nat,j<5->s.heap.get? (n+j)=some (Ar n p1 p2 j):=λj hj=>(I.hok _ _ (wV hj):ObjOk X.prog X.w _ s.heap (n+j) (.ext _)).1
 have l4:n+4<s.heap.objs.size:=hs0 (g 4 (by decide));have a1:=λj hj=>rz q1.isList (g j hj)
 have a2:=λj hj=>rz q2.isList (g j hj)
 have D:ZipApart (n+4) (n+2) (n+3) n (n+1) p1 p2:=⟨ned (by simp_all),ned (by simp_all),ned (by simp_all),ned (by simp_all),ned (by simp_all),ned (by simp_all),ned (by simp_all),ned (by simp_all),ned (by simp_all),ned (by simp_all),a1 4 (by decide) (ncl (x:="zip") (by decide)),a1 3 (by decide) (ncl (x:="tuple") (by decide)),a1 0 (by decide) (ncl (x:="list_iterator") (by decide)),a1 1 (by decide) (ncl (x:="list_iterator") (by decide)),a2 4 (by decide) (ncl (x:="zip") (by decide)),a2 3 (by decide) (ncl (x:="tuple") (by decide)),a2 0 (by decide) (ncl (x:="list_iterator") (by decide)),a2 1 (by decide) (ncl (x:="list_iterator") (by decide))⟩;have p1l:=let ⟨_,e,_⟩:=q1.isList;hs0 e
 have p2l:=let ⟨_,e,_⟩:=q2.isList;hs0 e
 refine jK (I.ok.hd hc) D ⟨by omega,by omega,by omega,by omega,by omega⟩ p1l p2l (by rw[ls0,<-r1.length];exact z1) ⟨.inl (g 4 (by decide)),g 2 (by decide),⟨_,_,g 3 (by decide)⟩,⟨_,g 0 (by decide),rfl,rfl⟩,⟨_,g 1 (by decide),rfl,rfl⟩,q1.isList,q2.isList⟩ λh' acc c kk hS hp=>?_
 have lz:(us.zip vs).length=min i1.toArray.size i2.toArray.size:=by rw[List.length_zip,ls0,ls0,r1.length,r2.length]
 have hacc:acc=((List.range (us.zip vs).length).map λj=>Value.ref (s.heap.objs.size+1+j)).toArray:=by
  apply Array.toList_inj.mp
  apply List.ext_getElem?
  intro j;rw[Array.getElem?_toList];show acc[j]?=((List.range (us.zip vs).length).map λj=>Value.ref (s.heap.objs.size+1+j))[j]?;rw[gm0];cases e:acc[j]? with
  |none=>
   have:acc.size<=j:=by simpa using e
   rw[List.getElem?_eq_none (by rw[lr0,lz,<-hp.1];exact this)];rfl
  |some v=>
   obtain⟨x,y,rfl,_,_,_⟩:=hp.2 j v e;have:j<acc.size:=by
    rcases Nat.lt_or_ge j acc.size with z|z
    .exact z
    .rw[Array.getElem?_eq_none z]at e;cases e
   rw[List.getElem?_range (by rw[lz,<-hp.1];exact this)];rfl
 refine⟨.ref s.heap.objs.size,lG H0 s.heap.objs.size (us.zip vs),nN (t':=s.toks) (ch:=[n,n+1,n+2,n+3,n+4]) I (λb hb=>?_) (λb o hb e=>?_) (λb hl hb=>?_) (λb o hb e=>?_),rfl,k _ (by omega)⟩
 .obtain⟨j,hj,rfl⟩:=Iy hb
  exact⟨nt0 hn (Nat.le_add_right _ _),_,wV hj⟩
 .obtain⟨c1,c2,c3,c4,_⟩:=Iz hb
  exact kk b o c1 c2 c3 c4 e
 .rw[eZ hl,gJ (Iz hb).2.2.2.2]
 .have hb:s.heap.objs.size<=b:=by
   rcases hb with z|z
   .exact z
   .obtain⟨j,hj,rfl⟩:=Iy z
    rw[eZ (by omega),fr _ (Nat.le_add_right _ _)]at e;cases e
  by_cases cb:b=s.heap.objs.size
  .subst cb
   unfold lG at e;rw[if_pos rfl]at e;cases e;refine⟨by rw[lm0,lr0,List.length_zip];exact nt0 (Nat.min_le_left _ _) z1,_,c,uc _ _,?_⟩;rw[<-hacc];exact hS
  .unfold lG at e
   rw[if_neg cb,if_pos (by omega)]at e;obtain⟨p,e1,rfl⟩:=mx0 e;obtain⟨j,rfl⟩:∃j,b=s.heap.objs.size+1+j:=⟨b-s.heap.objs.size-1,by omega⟩;rw[show s.heap.objs.size+1+j-s.heap.objs.size-1=j by omega]at e1;have hj:j<acc.size:=by rw[hp.1,<-lz];exact (gi0 e1).1
   obtain⟨x,y,_,x1,y1,hP⟩:=hp.2 j _ (Array.getElem?_eq_getElem hj);obtain⟨b1,b2⟩:=List.getElem?_zip_eq_some.mp e1;obtain⟨x',x2,rx⟩:=r1.get b1;obtain⟨y',y2,ry⟩:=r2.get b2;rw[List.getElem?_toArray,x2]at x1;rw[List.getElem?_toArray,y2]at y1;cases x1;cases y1;exact⟨by show 2<=sizeLine;decide,[x,y],.cons rx (.cons ry .nil),_,hP,rfl,0,rfl⟩
end
def As{G:Hp}{S:Nat}:∀{xs ys:List D}{us vs:List V}(j0:Nat),Dps K G xs us->Dps K G ys vs->(∀(j:Nat)(p:V×V),(us.zip vs)[j]?=some p->G (S+1+(j0+j))=some (.tup [p.1,p.2]))->
  Dps K G ((xs.zip ys).map λp=>D.tuple [p.1,p.2]) ((List.range' j0 (us.zip vs).length).map λj=>V.ref (S+1+j)):=by
 intro xs
 induction xs with
 |nil=>intro ys us vs j0 a b h;cases a;exact .nil
 |cons x xs ih=>
  intro ys us vs j0 a b h;cases a with
  |cons a r=>cases b with
   |nil=>exact .nil
   |cons b q=>exact .cons (.tuple (h 0 _ rfl) (.cons a (.cons b .nil))) (ih _ r q λj p e=>by rw[show j0+1+j=j0+(j+1) by omega];exact h _ p e)
def Fm{G H}{n S}{ps}(gh:Same G H)(fr:∀k:Nat,n<=k->H k=none)(hn:n<=S):Ext G H (lG G S ps) (lG H S ps):=by
 have lt:∀b o,H b=some o->b<S:=λb o e=>Nat.lt_of_not_le λz=>by rw[fr b (nt0 hn z)]at e;cases e
 refine⟨λb o e=>by rw[eZ (lt b o e)];exact e,λb o e=>by rw[eZ (lt b o (gh b o e))];exact e,λb o e=>?_,λb o e1 e2=>by rwa [eZ (lt b o e2)],λb C dx fs e=>?_⟩
 .rcases Nat.lt_or_ge b S with z|z
  .rw[eZ z]at e ⊢;exact gh b o e
  .unfold lG at e ⊢
   by_cases c:b=S
   .rw[if_pos c]at e ⊢;exact e
   .rw[if_pos (Nat.lt_of_le_of_ne z (Ne.symm c))]at e ⊢;exact e
 .rcases Nat.lt_or_ge b S with z|z
  .rwa [eZ z]at e
  .unfold lG at e
   by_cases c:b=S
   .simp_all
   .rw[if_neg c,if_pos (Nat.lt_of_le_of_ne z (Ne.symm c))]at e
    simp_all
def ud:bootBuiltins ("zip":Str)=some (.type "zip"):=rfl
section
variable {p q:Pos}{xs ys:List D}
def qc(hcalm:X.calm=true)(B1:Blt X "list")(B2:Blt X "zip")(ha:Ea X Y fl3 [a,b] [.list xs,.list ys])(hs:aI [a,b]):
  Ev X Y (.Call (.Name "list" p) [.Call (.Name "zip" p2) [a,b] [] q] [] pos) (.list ((xs.zip ys).map λp=>.tuple [p.1,p.2])):=by
 intro pins s σ H Q I h0;obtain⟨G0,H0,G,E,k⟩:=h0;refine aH (qb hcalm) B1.g B1.m PyProof.Rows.boot_list (ar (aH ub B2.g B2.m ud ha B2.n B2.d (ae (hs a ms0)) (aB λy hy=>hs y (mc0 _ hy))) aD rfl) B1.n B1.d rfl rfl pins s σ H Q I ?_;refine⟨G0,H0,G,E,λvs G1 H1 e1 r1=>?_⟩;obtain⟨v,w,rfl,hv,hw⟩:=r1.two;obtain⟨p1,us,rfl,h1,d1⟩:=hv.lst e1.gh;obtain⟨p2,ws,rfl,h2,d2⟩:=hw.lst e1.gh;refine⟨p1,p2,us,ws,rfl,SqL.of h1,SqL.of h2,λn hn fr=>?_⟩;refine⟨n,p1,p2,us,ws,H1,rfl,rfl,hn,fr,h1,h2,λS hS=>?_⟩;have ex:=Fm (ps:=us.zip ws) e1.gh fr hS
 refine k _ _ _ (e1.trans ex) (.list (if_pos rfl) ?_);rw[List.range_eq_range'];exact As 0 (d1.mono ex.gg) (d2.mono ex.gg) λj p e=>by rw[Nat.zero_add];exact (by
   have h:=e;unfold lG;rw[if_neg (show ¬ S+1+j=S by grind),if_pos (show S<S+1+j by exact Nat.le_add_right ..),show S+1+j-S-1=j by grind,h];rfl)
end
def Au(ns):firstMet (λi=>ns.getD i 0) ns.length=gE ns:=by
 unfold firstMet gE;have:(List.range ns.length).map (λi=>ns.getD i 0)=ns:=by
  apply List.ext_getElem?
  intro i;rcases Nat.lt_or_ge i ns.length with z|z<;>simp_all
 rw[this];rfl
def wX(l:List Int)(k:Int):(wg l k).length<=l.length+1:=by
 unfold wg;split<;>simp_all
def nO(ns:List Int):(gE ns).length<=ns.length:=by
 have:∀(ns l:List _),(ns.foldl wg l).length<=l.length+ns.length:=by
  intro ns
  induction ns with
  |nil=>intro l;simp
  |cons n r ih=>intro l;have h2:=wX l n;grind
 have:=this ns [];rw[List.length_nil]at this;unfold gE;omega
def ue:bootBuiltins ("set":Str)=some (.type "set"):=rfl
section
variable {p q:Pos}
def uf(hc:X.calm=true):aW X (.type "set") (λxs H Q=>∃(r:Addr)(ns:List Int),xs=[.ref r]/\H r=some (.lst (ns.map .int))/\ns.length<64/\∀l,H l=none->Q (.ref l) (upd H l (.set (λk=>(gE ns).any (·==k)) (gE ns).length))):=by
 intro pins s σ H xs us Q I r h;obtain⟨rr,ns,rfl,hq,hz,k⟩:=h;obtain⟨u,rfl,rx⟩:=vals1 r;cases rx;obtain⟨its,r',pl,_⟩:=I.list (SqL.of hq);have hl:its.toArray.size=ns.length:=by rw[ls0,<-r'.length,lm0]
 refine call_set_list (I.ok.hd hc) pl.isList (intsAre_of r') (nl0 (show its.toArray.size+1<4096 by grind) (by decide)) λh' tk hS kk=>?_
 rw[hl,Au]at hS;exact⟨.ref _,_,I.laid (λb o e=>kk b o (hs0 e) e) (nr0 _) (show ObjOk _ _ _ _ _ (.set _ _)from hS),rfl,k _ (I.hok.fresh (nr0 _))⟩
def ug:aW X (.builtin "len") (λxs H Q=>∃(r:Addr)(S:Int->Bool)(n:Nat),xs=[.ref r]/\H r=some (.set S n)/\n<64/\Q (.int n) H):=by
 intro pins s σ H xs us Q I r h;obtain⟨rr,S,n,rfl,hq,hz,k⟩:=h;obtain⟨u,rfl,rx⟩:=vals1 r;cases rx;obtain⟨o,es,ep,t,h1,h2,h3,_,_,_,h4,rfl⟩:=(I.hok rr _ hq);exact call_len_set h1 h2 h3 h4 (by omega) ⟨.int _,H,(I.tok _),⟨_,rfl⟩,k⟩
def Fo{K}{G}:∀{ds:List D}{vs:List V}{ns:List Int},intsOf ds=some ns->Dps K G ds vs->vs=ns.map V.int:=by
 intro ds
 induction ds with
 |nil=>intro vs ns h r;cases h;cases r;rfl
 |cons d r ih=>
  intro vs ns h q;cases d with
  |int i=>
   obtain⟨ms,h1,rfl⟩:=mx0 (h);cases q with
   |cons q1 q2=>cases q1;rw[ih h1 q2];rfl
  |_=>cases h
set_option tactic.hygienic true in
def qd(hcalm:X.calm=true)(B1:Blt X "len")(B2:Blt X "set")(h:biD .nset ds=some d)(ha:Ea X Y fl3 [a] ds)(hs:isStar a=false):Ev X Y (.Call (.Name "len" p) [.Call (.Name "set" p2) [a] [] q] [] pos) d:=by
 match ds,h with
 |[.list ls],h=>
  obtain⟨ns,h1,h2⟩:=bx0 (h);split at h2
  .rename_i hz
   cases h2;intro pins s σ H Q I h0;obtain⟨G0,H0,G,E,k⟩:=h0;refine aX ug B1.g B1.m PySem.boot_len (ar (aH (uf hcalm) B2.g B2.m ue ha B2.n B2.d (ae hs) rfl) aD rfl) B1.n B1.d rfl rfl pins s σ H Q I ?_;refine⟨G0,H0,G,E,λvs G1 H1 e1 r1=>?_⟩;obtain⟨v,rfl,hv⟩:=r1.one;obtain⟨r,ws,rfl,h3,h4⟩:=hv.lst e1.gh;obtain rfl:=Fo h1 h4;exact⟨r,ns,rfl,h3,hz,λl hl=>⟨l,_,_,rfl,upd_same,Nat.lt_of_le_of_lt (nO ns) hz,k _ _ _ (e1.trans (.hid e1.gh hl)) (.int _)⟩⟩
  .cases h2
end
end L2.Z
namespace SI
open PySem
def fb(x:Str):ltS x x=false:=df0 (List.lt_irrefl _)
def eB(h:x.cps.toList=y.cps.toList):x=y:=by
 cases x;simp_all
def gK{x y z}(h1:ltS x y=true)(h2:ltS y z=true):ltS x z=true:=dt0 (List.lt_trans (od0 h1) (od0 h2))
def ky{x y}(h:x≠y)(h1:ltS x y=false):ltS y x=true:=dt0 (Classical.byContradiction λh2=>h (eB (List.le_antisymm (List.not_lt.mp h2) (List.not_lt.mp (of_decide_eq_false h1)))))
abbrev ig(l:List Str):Prop:=l.Pairwise λa b=>ltS a b=true
set_option tactic.hygienic true
theorem mem_insS(x:Str):∀(l:List Str)(y:Str),y∈jI x l↔y=x\/y∈l
 |[],y=>by simp[jI]
 |z::r,y=>by
  unfold jI;split
  .rename_i e;subst e;simp
  .split
   .simp
   .rw[List.mem_cons,mem_insS x r y,List.mem_cons]
    exact⟨λh=>h.elim (λa=>.inr (.inl a)) λh=>h.elim .inl λa=>.inr (.inr a),λh=>h.elim (λa=>.inr (.inl a)) λh=>h.elim .inl λa=>.inr (.inr a)⟩
theorem kz(x:Str):∀l:List Str,ig l->ig (jI x l)
 |[],_=>by simp[jI]
 |z::r,h=>by
  obtain⟨h1,h2⟩:=List.pairwise_cons.mp h;unfold jI;split
  .exact h
  .rename_i ne
   split
   .rename_i lt
    refine List.pairwise_cons.mpr ⟨λb hb=>?_,h⟩;rcases mq0 hb with e|hb
    .rwa [e]
    .exact gK lt (h1 b hb)
   .rename_i nlt
    refine List.pairwise_cons.mpr ⟨λb hb=>?_,kz x r h2⟩;rcases (mem_insS x r b).mp hb with e|hb
    .rw[e];exact ky ne (bf0 nlt)
    .exact h1 b hb
set_option tactic.hygienic false
theorem fK:∀(l:List Str)(y:Str),y∈srtS l↔y∈l
 |[],y=>by simp[srtS]
 |x::r,y=>by rw[srtS,mem_insS,fK r,List.mem_cons]
theorem gL:∀l:List Str,ig (srtS l)
 |[]=>List.Pairwise.nil
 |x::r=>kz x _ (gL r)
theorem rA:∀{l m:List Str},ig l->ig m->(∀y,y∈l↔y∈m)->l=m
 |[],[],_,_,_=>rfl
 |[],y::r,_,_,h=>absurd ((h y).mpr ms0) (by simp)
 |x::r,[],_,_,h=>absurd ((h x).mp ms0) (by simp)
 |x::r,y::q,h1,h2,h=>by
  obtain⟨a1,a2⟩:=List.pairwise_cons.mp h1;obtain⟨b1,b2⟩:=List.pairwise_cons.mp h2;have e:x=y:=by
   rcases mq0 ((h x).mp ms0)with e|m1
   .exact e
   .rcases mq0 ((h y).mpr ms0)with e|m2
    .exact e.symm
    .exact absurd (gK (b1 x m1) (a1 y m2)) (by rw[fb];simp)
  subst e;rw[rA a2 b2 λz=>⟨λm=>?_,λm=>?_⟩]
  .rcases mq0 ((h z).mp (mc0 _ m))with e|m'
   .subst e;exact absurd (a1 z m) (by rw[fb];simp)
   omega
  .rcases mq0 ((h z).mpr (mc0 _ m))with e|m'
   .subst e;exact absurd (b1 z m) (by rw[fb];simp)
   omega
def wY(l:List Str):(srtS l).length<=l.length:=by
 induction l with
 |nil=>exact nr0 _
 |cons x r ih=>
  have:∀q,(jI x q).length<=q.length+1:=by
   intro q
   induction q with
   |nil=>exact nr0 _
   |cons y q ihq=>
    unfold jI;split
    .simp
    .split<;>simp_all
  have:=this (srtS r);rw[srtS,lc0];omega
end SI
namespace L2.Z
open PySem PySem.Spec PyProof.Rows L2 L2.C SI
def Av{ss:List Str}(h:sortedS ss=true)(n:ss.Nodup):ig ss:=by
 have go:∀(l:List _)(p:Str),risingS p l=true->(p::l).Nodup->ig (p::l):=by
  intro l
  induction l with
  |nil=>intro p _ _;simp
  |cons x r ih=>
   intro p h n;have h:(!ltCps _ _&&risingS x r)=true:=h;rw[be0,Bool.not_eq_true',ltCps_eq]at h;obtain⟨n1,n2⟩:=List.nodup_cons.mp n;have rr:=ih x h.2 n2;have lt:=ky (λe=>n1 (by rw[e];exact ms0)) h.1;refine List.pairwise_cons.mpr ⟨λb hb=>?_,rr⟩;rcases mq0 hb with e|hb
   .rwa [e]
   .exact gK lt ((List.pairwise_cons.mp rr).1 b hb)
 cases ss with
 |nil=>simp
 |cons p l=>exact go l p h n
section
variable {e:Expr}{p q:Pos}
noncomputable def fe{prog:Program}{w:World}{O:Type}[DecidableEq O](kd:KD prog w O)(l:Addr)(ks:List O):Heap->Prop:=λh=>∃xs ep,xs.map (·.1)=ks/\StrSet kd h l xs ep
def nP{O:Type}{f}{g:O->Tok->Value}(fg:∀y u,RelV (f y) u->∃tk,u=g y tk):∀{ss:List O}{us:List Value},Vals (ss.map f) us->us.length=ss.length/\∀(j:Nat)(x:O),ss[j]?=some x->∃tk,us[j]?=some (g x tk):=by
 intro ss
 induction ss with
 |nil=>intro us h;cases h;exact⟨rfl,λj x h=>by simp at h⟩
 |cons y r ih=>
  intro us h;cases h with
  |cons h1 h2=>
   obtain⟨a,b⟩:=ih h2;refine⟨by simp[a],λj x h=>?_⟩;cases j<;>simp_all
def bg{ss:List Int}{us:List Value}(h:Vals (ss.map V.int) us):us.length=ss.length/\∀(j:Nat)(x:Int),ss[j]?=some x->∃tk,us[j]?=some (.int x tk):=nP (f:=V.int) (λa a h=>h) h
theorem fL:∀{us:List Value}{ss:List Str},StrsAre us ss->Vals (ss.map V.str) us
 |_,_,.nil=>.nil
 |_,_,.cons x t r=>.cons ⟨t,rfl⟩ (fL r)
theorem dj:∀{us:List Value}{ss},IntsAre us ss->Vals (ss.map V.int) us
 |_,_,.nil=>.nil
 |_,_,.cons x t r=>.cons ⟨t,rfl⟩ (dj r)
def bI{O:Type}[DecidableEq O][Inhabited O](kd:KD X.prog X.w O)(vv:O->V)(hv:∀(ss:List O)(us:List Value),Vals (ss.map vv) us->us.length=ss.length/\∀(j:Nat)(x:O),ss[j]?=some x->∃tk,us[j]?=some (kd.vl x tk))(hc:X.calm=true):aW X (.type "set") (λxs H Q=>∃(r:Addr)(ss:List O),xs=[.ref r]/\SqL X.K H r (ss.map vv)/\ss.length<64/\∀l (ks:List O),H l=none->ks.Nodup->(∀y,y∈ks↔y∈ss)->ks.length<=ss.length->Q (.ref l) (upd H l (.ext (fe kd l ks)))):=by
 intro pins s σ H xs us Q I r h;obtain⟨rr,ss,rfl,hq,hz,k⟩:=h;obtain⟨u,rfl,rx⟩:=vals1 r;cases rx;obtain⟨its,r',pl,_⟩:=I.list hq;obtain⟨v1,v2⟩:=hv _ _ r';refine jJ (kd:=kd) (I.ok.hd hc) pl.isList (by omega) (by grind) (λj x e=>by obtain⟨tk,e⟩:=v2 j x e;exact⟨tk,by simpa using e⟩) λh' tk S ys ep fr hS nd mem len kk=>?_
 have gS:∃o,h'.get? S=some o:=let ⟨o,_,_,e,_⟩:=hS;⟨o,e⟩
 have hn:H S=none:=I.hok.fresh fr;refine⟨.ref S,_,I.laid (t':=tk) kk fr (show ObjOk X.prog X.w _ _ _ (.ext _)from⟨⟨ys,ep,rfl,hS⟩,gS,λh1 h2 ⟨a,b,c,d⟩ k2=>⟨a,b,c,d.keep k2⟩⟩),rfl,k S (ys.map (·.1)) hn nd mem (by simp_all)⟩
def gM{pins}{H}{s}(I:Inv X pins σ H s)(d):Inv X pins σ H {s with drawn:=d}:=
 ⟨I.ok,I.os,I.bare,I.base,I.loc,I.cell,I.free,I.freeC,I.pin,I.hok,I.len⟩
def lM(hc:X.calm=true):aW X (.builtin "sorted") (λxs H Q=>∃(l:Addr)(ks:List Str),xs=[.ref l]/\H l=some (.ext (fe (kdS X.prog X.w) l ks))/\ks.length<64/\∀r (ss:List Str),H r=none->ss.Perm ks->sortedS ss=true->Q (.ref r) (upd H r (.lst (ss.map V.str)))):=by
 intro pins s σ H xs us Q I r h;obtain⟨l,ks,rfl,hl,hz,k⟩:=h;obtain⟨u,rfl,rx⟩:=vals1 r;cases rx;obtain⟨⟨xs,ep,rfl,hS⟩,_⟩:=(I.hok l _ hl);refine iw (I.ok.hd hc) hS (by simp_all) λh' tk d D out n ss kk gD fr sa pe so=>?_
 have hlen:(ss.map V.str).length<=sizeLine:=by
  rw[lm0,pe.length_eq,sizeLine_eq]
  grind
 refine⟨.ref D,_,((gM I d).laid kk fr (show ObjOk X.prog X.w _ _ _ (.lst _)from⟨hlen,_,n,fL sa,by omega⟩)),rfl,k D ss (I.hok.fresh fr) pe so⟩
def bT(hc:X.calm=true):aW X (.builtin "sorted") (λxs H Q=>∃(l:Addr)(ks:List Int),xs=[.ref l]/\H l=some (.ext (fe (kdI X.prog X.w) l ks))/\ks.length<64/\∀r (ns:List Int),H r=none->ns.Perm ks->ns.Pairwise (·<=·)->Q (.ref r) (upd H r (.lst (ns.map V.int)))):=by
 intro pins s σ H xs us Q I r h;obtain⟨l,ks,rfl,hl,hz,k⟩:=h;obtain⟨u,rfl,rx⟩:=vals1 r;cases rx;obtain⟨⟨xs,ep,rfl,hS⟩,_⟩:=(I.hok l _ hl);rw[lm0]at hz;refine gH (I.ok.hd hc) hS hz λh' tk d D out n ss kk gD fr sa pe so=>?_
 have hlen:(ss.map V.int).length<=sizeLine:=by
  rw[lm0,pe.length_eq,lm0,sizeLine_eq];omega
 refine⟨.ref D,_,((gM I d).laid kk fr (show ObjOk _ X.w _ _ _ (.lst _)from⟨hlen,_,n,dj sa,by omega⟩)),rfl,k D ss (I.hok.fresh fr) pe so⟩
def bh:bootBuiltins ("sorted":Str)=some (.builtin "sorted"):=rfl
def bJ:bootBuiltins ("set":Str)=some (.type "set"):=rfl
def Fp{G:Hp}:∀{ds}{vs:List V}{ss:List Str},strsOf ds=some ss->Dps K G ds vs->vs=ss.map V.str/\∀x∈ss,PyData.strOk x=true:=by
 intro ds
 induction ds with
 |nil=>intro vs ss h q;cases q;cases h;simp
 |cons d r ih=>
  intro vs ss h q;cases d with
  |str x=>
   obtain⟨ss,e,rfl⟩:=mx0 (h);cases q with
   |cons dd q=>
    obtain⟨e1,e2⟩:=ih e q;cases dd with
    |str _ ok=>
     refine⟨by rw[e1];rfl,λy hy=>?_⟩;rcases mq0 hy with z|z<;>simp_all
  |_=>cases h
theorem wZ{G:Hp}:∀{ss:List Str},(∀x∈ss,PyData.strOk x=true)->Dps K G (ss.map .str) (ss.map V.str)
 |[],_=>.nil
 |x::r,h=>.cons (.str _ (h x ms0)) (wZ λy hy=>h y (mc0 _ hy))
theorem qe{G:Hp}:∀(ns:List Int),Dps K G (ns.map .int) (ns.map V.int)
 |[]=>.nil
 |x::r=>.cons (.int _) (qe r)
theorem dR{G:Hp}:∀(ns:List Int){vs:List V},Dps K G (ns.map .int) vs->vs=ns.map V.int
 |[],_,.nil=>rfl
 |n::r,_,.cons q1 q2=>by cases q1;rw[dR r q2];rfl
set_option tactic.hygienic true
def Aw{ds}{d}(h:pQ ds=some d):∃ns rs:List Int,ds=ns.map .int/\d=.list (rs.map .int)/\ns.length<=2/\rs.Nodup/\rs.Pairwise (·<=·)/\∀y,y∈rs↔y∈ns:=by
 unfold pQ at h;split at h
 .rename_i i;cases h;exact⟨[i],[i],rfl,rfl,by simp,by simp,by simp,λy=>Iff.rfl⟩
 .rename_i i j
  cases h
  by_cases c1:i=j
  .subst c1;exact⟨[i,i],[i],rfl,by rw[if_pos rfl];rfl,by simp,by simp,by simp,λy=>by simp⟩
  .by_cases c2:i<j
   .exact⟨[i,j],[i,j],rfl,by rw[if_neg c1,if_pos c2];rfl,by simp,by simpa using c1,by simp;omega,λy=>Iff.rfl⟩
   .exact⟨[i,j],[j,i],rfl,by rw[if_neg c1,if_neg c2];rfl,by simp,by simpa using λz=>c1 z.symm,by simp;omega,λy=>by simp[or_comm]⟩
 .cases h
def uh(hcalm:X.calm=true)(B1:Blt X "sorted")(B2:Blt X "set")(h:biD .srt ds=some d)(ha:Ea X Y fl3 [a] ds)(hs:isStar a=false):Ev X Y (.Call (.Name "sorted" p) [.Call (.Name "set" p2) [a] [] q] [] pos) d:=by
 match ds,h with
 |[.list ls],h=>
  have h:(pQ ls).or ((strsOf ls).bind λss=>if ss.length<64 then some (D.list ((srtS ss).map .str))else .none)=some d:=h;have st:=ae (env:=X.env) (es:=[]) hs;cases h0:pQ ls with
  |some d'=>
   rw[h0]at h;cases h;obtain⟨ns,rs,rfl,rfl,hz,nd,so,mem⟩:=Aw h0;intro pins s σ H Q I h0;obtain⟨G0,H0,G,E,k⟩:=h0;refine aX (bT hcalm) B1.g B1.m bh (ar (aH (bI (kdI X.prog X.w) V.int (λc c=>bg) hcalm) B2.g B2.m bJ ha B2.n B2.d st rfl) aD rfl) B1.n B1.d rfl rfl pins s σ H Q I ?_;refine⟨G0,H0,G,E,λvs G1 H1 e1 r1=>?_⟩;obtain⟨v,rfl,hv⟩:=r1.one;obtain⟨r,ws,rfl,h3,h4⟩:=hv.lst e1.gh;obtain rfl:=dR ns h4;refine⟨r,ns,rfl,SqL.of h3,by omega,λl ks hl nd2 mem2 len=>?_⟩;refine⟨l,ks,rfl,upd_same,by omega,λr2 ns2 hr2 pe so2=>?_⟩
   have e:=((pe.trans ((List.perm_ext_iff_of_nodup nd2 nd).mpr λy=>(mem2 y).trans (mem y).symm))).eq_of_pairwise (λa b c c h1 h2=>Int.le_antisymm h1 h2) so2 so;subst e;have e2:Ext G1 H1 G1 (upd H1 l (.ext (fe (kdI X.prog X.w) l ks))):=.hid e1.gh hl;exact k _ _ _ (e1.trans (e2.trans (.laid e2.gh hr2))) (.list upd_same (qe _))
  |none=>
   rw[h0]at h;obtain⟨ss,h1,h2⟩:=bx0 (h:(strsOf ls).bind _=some d);have h2:=h2;split at h2
   .rename_i hz
    cases h2;intro pins s σ H Q I h0;obtain⟨G0,H0,G,E,k⟩:=h0;refine aX (lM hcalm) B1.g B1.m bh (ar (aH (bI (kdS X.prog X.w) V.str (λc c=>(λh=>nP (f:=V.str) (λc c h=>h) h)) hcalm) B2.g B2.m bJ ha B2.n B2.d st rfl) aD rfl) B1.n B1.d rfl rfl pins s σ H Q I ?_;refine⟨G0,H0,G,E,λvs G1 H1 e1 r1=>?_⟩;obtain⟨v,rfl,hv⟩:=r1.one;obtain⟨r,ws,rfl,h3,h4⟩:=hv.lst e1.gh;obtain⟨rfl,oks⟩:=Fp h1 h4;refine⟨r,ss,rfl,SqL.of h3,hz,λl ks hl nd mem len=>?_⟩;refine⟨l,ks,rfl,upd_same,by omega,λr2 ss2 hr2 pe so=>?_⟩;have e:=rA (Av so (pe.nodup_iff.mpr nd)) (gL ss) λy=>pe.mem_iff.trans ((mem y).trans (fK ss y).symm)
    subst e;have e2:Ext G1 H1 G1 (upd H1 l (.ext (fe (kdS X.prog X.w) l ks))):=.hid e1.gh hl;exact k _ _ _ (e1.trans (e2.trans (.laid e2.gh hr2))) (.list upd_same ((wZ λx hx=>oks x ((fK ss x).mp hx)).mono (Same.refl _)))
   .cases h2
set_option tactic.hygienic false
end
end L2.Z
namespace PySem
open PyProof.Rows
section
variable {A:Around}{E:Value->Shared->Prop}{O:Type}[DecidableEq O][Inhabited O]{kd:KD prog w O}
def lN:isSubtype (.type "set") (.type "set")=pure true:=rfl
def iE{a}{Q}(hT:s.TypeIs (.ref a) "set")(h:Q true s):wpAny (model prog w) A (Builtin.Frozenset.isAnySet (.ref a)) Q E s:=wb0 (wpAny_isInstance hT lN (wq0 h))
def rC{S:Addr}{xs:List (O×Tok)}{p}{Q}(hS:StrSet kd s.heap S xs ep)(hz:xs.length<4000)(h:Q ((xs.map kd.e).findIdx? λe=>kd.knd.is p.1 e.2) s):
  wpAny (model prog w) A (setFind S (kd.e p).2 (kd.e p).1) Q E s:=by
 obtain⟨o,es,t,h1,hex,h2,h3,h4,h5,h6⟩:=hS;have hes:es.size=xs.length:=by rw[<-al0,h4,lm0]
 have hel:ElemsOf kd.knd es.toList:=by rw[h4];exact kn kd xs
 refine wb0 (wpAny_setState_of h1 h2 h3 ?_);dsimp only;rw[byScan_of (kd.sc _ _) (by unfold scanBound;omega) hel];refine wb0 (wpAny_rule (wb0 (wpAny_setScan_of (kd.is _ _) h1 h2 h3 hel ?_)));rw[<-h4]at h;cases hr:List.findIdx? _ _ with
 |none=>rw[hr]at h;exact wq0 h
 |some j=>rw[hr]at h;dsimp only;rw[Nat.zero_add];exact wq0 h
def Ax{S:Addr}{xs:List (O×Tok)}{p}{Q}(hS:StrSet kd s.heap S xs ep)(hz:xs.length<4000)(h:∀r:Option Nat,r.isSome=decide (p.1∈xs.map (·.1))->Q r s):
  wpAny (model prog w) A (setFind S (kd.e p).2 (kd.e p).1) Q E s:=rC hS hz (h _ (jc kd xs _))
def size_of{S:Addr}{xs:List (O×Tok)}{Q}(hS:StrSet kd s.heap S xs ep)(h:Q xs.length s):wpAny (model prog w) A (Builtin.Frozenset.sizeOf S) Q E s:=by
 obtain⟨o,es,t,h1,hex,h2,h3,h4,h5,h6⟩:=hS;have hes:es.size=xs.length:=by rw[<-al0,h4,lm0]
 exact wb0 (wpAny_setEntries_of h1 h2 h3 (wq0 (by rwa [hes])))
def rD{S:Addr}{xs:List (O×Tok)}{Q}(hS:StrSet kd s.heap S xs ep)(h:Q ep s):wpAny (model prog w) A (setEpoch S) Q E s:=by
 obtain⟨o,es,t,h1,hex,h2,h3,_⟩:=hS;exact wpAny_setEpoch_of h1 h2 h3 h
def nQ{S:Addr}{xs:List (O×Tok)}{Q}(hS:StrSet kd s.heap S xs ep)(h:∀(order:List (O×Tok)) d,order.Perm xs->Q (order.map kd.e).toArray {s with drawn:=d}):
  wpAny (model prog w) A (setWalk S) Q E s:=by
 obtain⟨o,es,t,h1,hex,h2,h3,h4,h5,h6⟩:=hS;unfold setWalk;refine wb0 (wpAny_setState_of h1 h2 h3 (wb0 (asks ?_)));have ea:∀order:List (O×Tok),∀a:Array (Int×Value),a.toList=order.map kd.e->a=(order.map kd.e).toArray:=λorder a e=>by rw[<-e]
 cases hb:byTx w with
 |true=>
  obtain⟨order,po,eo⟩:=bC (kr (w.params.setOrder S ep) es) xs h4;simp only[if_true];refine wb0 (wpAny_askSetting (wq0 ?_));have:=h order s.drawn po;rw[<-ea _ _ eo]at this;exact this
 |false=>
  by_cases n1:(!t.plain&&decide (es.size>1))=true
  .show wpAny _ _ (if (!t.plain&&decide (es.size>1))=true then _ else _) Q E s
   rw[if_pos n1];refine wb0 (ku _ _ _ _ (rfl) λys d hp=>wq0 ?_);obtain⟨order,po,eo⟩:=bC hp xs h4;rw[eo];exact h order d po
  .show wpAny _ _ (if (!t.plain&&decide (es.size>1))=true then _ else _) Q E s
   rw[if_neg n1];refine wb0 (m:=if (!t.led&&decide (es.size>1))=true then unsupported "set:maker-not-led" else pure ()) ?_;rw[h5,hb];refine wq0 (wq0 ?_);rw[ea _ _ h4];exact h xs s.drawn (.refl _)
theorem jh{b}{f}{Q}:∀l:List α,(∀a∈l,∀P:ForInStep β->Shared->Prop,P (.yield b) s->wpAny (model prog w) A (f a b) P E s)->Q b s->wpAny (model prog w) A (forIn l b f) Q E s
 |[],_,h=>wq0 h
 |a::l,hf,h=>by
  rw[List.forIn_cons];exact wb0 (hf a ms0 _ (jh l (λa m=>hf a (mc0 _ m)) h))
set_option tactic.hygienic true in
def nR(hr:∀k t a,kd.vl k t≠.ref a){Q}{l}(hl:∀q∈l,∃xs ep,StrSet kd s.heap q xs ep)(h:Q true s):wpAny (model prog w) A (setsQuiet l) Q E s:=by
 refine wb0 (jh l (λa m P q=>?_) (wq0 h));obtain⟨xs,ep,o,es,t,h1,hex,h2,h3,h4,_⟩:=hl a m;refine wb0 (wpAny_setEntries_of h1 h2 h3 (wb0 ?_));rw[<-Array.forIn_toList,h4];refine jh _ (λp m P q=>?_) (wq0 q);obtain⟨⟨x,tk⟩,_,rfl⟩:=mm0 m;dsimp only;split
 .rename_i z;exact absurd z (hr _ _ _)
 .exact wq0 q
def Ay{S r}{xs ys}{ep er}{os}{Q}(hr:∀k t a,kd.vl k t≠.ref a)(hS:StrSet kd s.heap S xs ep)(hR:StrSet kd s.heap r ys er)(hz:ys.length<4000)(ho:∀q∈os,∃xs ep,StrSet kd s.heap q xs ep)
  (h:∀(order:List (O×Tok)) h' er' d,order.Perm xs->Heap.SameBut r s.heap h'->StrSet kd h' r ys er'->Q (order.map kd.e).toArray {s with heap:=h',drawn:=d}):
  wpAny (model prog w) A (setWalkUnseen S os (some r)) Q E s:=by
 have wk:wpAny (model prog w) A (setWalk S) Q E s:=nQ hS λorder d po=>h order s.heap er d po (Heap.SameBut.refl _ _) hR
 obtain⟨o,es,t,h1,hex,h2,h3,h4,h5,h6⟩:=id hS;unfold setWalkUnseen;refine wb0 (wpAny_setState_of h1 h2 h3 (wb0 (asks ?_)));dsimp only;split
 .exact wk
 refine wb0 (nR hr (λq m=>(mq0 m).elim (λe=>e▸⟨_,_,hS⟩) (ho q)) ?_);rw[if_neg (by simp)];refine wb0 (wpAny_rule ?_);obtain⟨oR,eR,tR,r1,rx,r2,r3,r4,r5,r6⟩:=id hR;refine wb0 (wpAny_setState_of r1 r2 r3 ?_);have eq1:es=(xs.map kd.e).toArray:=by rw[<-h4]
 dsimp only;split
 .have hes:eR.size=ys.length:=by rw[<-al0,r4,lm0]
  refine wb0 (wpAny_storeSet_of (prog:=prog) (w:=w) r1 r2 (wq0 ?_) (by rw[hes,sizeLine_eq];grind));rw[eq1];refine h xs _ (er+1) s.drawn (.refl _) (Heap.SameBut.update s.heap r _) ⟨_,eR,_,di r1 r2,rx,rfl,?_,r4,?_,λz=>?_⟩
  .exact r3
  .show (tR.led&&t.led)=_
   rw[r5,h5,Bool.and_self]
  .have z:=z
   rw[be0]at z;exact r6 z.1
 .refine wq0 ?_
  rw[eq1];exact h xs s.heap er s.drawn (.refl _) (Heap.SameBut.refl _ _) hR
def rE{Q}(h:StrSet kd (s.heap.push (aM w)) s.heap.objs.size [] 0->Q (.ref s.heap.objs.size) {s with heap:=s.heap.push (aM w)}):wpAny (model prog w) A (newSet (.type "set")) Q E s:=wb0 (asks (wb0 (wpAny_alloc (wq0 (h ⟨_,_,_,pz0 _ rfl,⟨rfl,rfl,rfl⟩,rfl,rfl,rfl,rfl,λa=>⟨λz=>absurd rfl z,.nil⟩⟩)))))
theorem ji{K W r:Addr}{ks xs:List (O×Tok)}{ek ew:Nat}{nm:String}{Q:PUnit->Shared->Prop}(nK:K≠r)(nW:W≠r)(hk:ks.length<4000)(g:Bool->Bool):∀(l ys:List (O×Tok))(er:Nat)(s:Shared),ys.length+l.length<4000->(ys.map (·.1)).Nodup->StrSet kd s.heap K ks ek->StrSet kd s.heap W xs ew->StrSet kd s.heap r ys er->
  (∀h' zs er',Heap.SameBut r s.heap h'->StrSet kd h' r zs er'->(zs.map (·.1)).Nodup->(∀y,y∈zs.map (·.1)↔y∈ys.map (·.1)\/(y∈l.map (·.1)/\g (decide (y∈ks.map (·.1)))=true))->zs.length<=ys.length+l.length->Q ⟨⟩ {s with heap:=h'})->
  wpAny (model prog w) A (forIn (l.map kd.e) PUnit.unit λx a=>match x with
   |(h,x)=>do
    holding [x] (do
     if g (<-setFind K x h).isSome=true then do
      let _ ←setAddHashed r x h
      pure ()
     else pure ())
    Builtin.Frozenset.unchanged nm W ew
    pure (.yield PUnit.unit)) Q E s
 |[],ys,er,s,hz,nd,hK,hW,hR,h=>wq0 (h s.heap ys er (Heap.SameBut.refl _ _) hR nd (λy=>by simp) (nr0 _))
 |p::l,ys,er,s,hz,nd,hK,hW,hR,h=>by
  have hz:ys.length+(l.length+1)<4000:=hz;have un:∀(s:Shared)(P:ForInStep PUnit->Shared->Prop),StrSet kd s.heap W xs ew->P (.yield PUnit.unit) s->wpAny (model prog w) A (do Builtin.Frozenset.unchanged nm W ew;pure (.yield PUnit.unit)) P E s:=λs P hW q=>by
   unfold Builtin.Frozenset.unchanged;refine wb0 (wb0 (rD hW ?_));rw[if_neg (by simp)];exact wq0 (wq0 q)
  rw[mk0,List.forIn_cons];refine wb0 (wb0 (wh0 (wb0 (Ax hK hk λf hf=>?_))));rw[hf]
  by_cases c:g (decide (p.1∈ks.map (·.1)))=true
  .rw[if_pos c]
   refine wb0 (Iv (x:=p.1) (tk:=p.2) hR (by grind) λh1 y1 e1 b sb1 S1 p1=>wq0 (un _ _ (hW.keep λo e=>(sb1.2 _ nW).trans e) ?_));obtain⟨n1,m1,z1⟩:=ko nd p1;refine ji nK nW hk g l y1 e1 {s with heap:=h1} (by grind) n1 (hK.keep λo e=>(sb1.2 _ nK).trans e) (hW.keep λo e=>(sb1.2 _ nW).trans e) S1 λh2 zs er' sb2 a1 a2 a3 a4=>h h2 zs er' (sb1.trans sb2) a1 a2 (λy=>(a3 y).trans ?_) (by rw[lc0];omega)
   rw[m1 y,mk0,List.mem_cons];constructor
   .rintro ((h|rfl)|h)
    .exact .inl h
    .exact .inr ⟨.inl rfl,c⟩
    .exact .inr ⟨.inr h.1,h.2⟩
   .rintro (h|⟨rfl|h,q⟩)
    .exact .inl (.inl h)
    .exact .inl (.inr rfl)
    .exact .inr ⟨h,q⟩
  .rw[if_neg c]
   refine wq0 (un _ _ hW ?_);refine ji nK nW hk g l ys er s (by omega) nd hK hW hR λh2 zs er' sb2 a1 a2 a3 a4=>h h2 zs er' sb2 a1 a2 (λy=>(a3 y).trans ?_) (by rw[lc0];omega)
   rw[mk0,List.mem_cons];constructor
   .rintro (h|h)
    .exact .inl h
    .exact .inr ⟨.inr h.1,h.2⟩
   .rintro (h|⟨rfl|h,q⟩)
    .exact .inl h
    .exact absurd q c
    .exact .inr ⟨h,q⟩
end
end PySem
namespace L2.Z
open PySem PySem.Spec PyProof.Rows L2 L2.C SI
end L2.Z
namespace PySem
open PyProof.Rows
def Ris.erase{p}(r:Ris p)(i:Nat):Ris (SetTable.eraseAt p i):=by
 unfold Ris SetTable.eraseAt;rw[Array.toList_append,Array.toList_extract,Array.toList_extract];refine List.Pairwise.sublist ?_ (r);refine List.Sublist.trans (List.Sublist.append (List.Sublist.refl _) (List.take_sublist _ _)) ?_
 conv=>rhs;rw[<-(List.take_append_drop i p.toList)]
 exact List.Sublist.append (List.Sublist.refl _) (by rw[<-List.drop_drop];exact List.drop_sublist _ _)
def jj{α}(p:Array α){i}(h:i<p.size):(SetTable.eraseAt p i).toList=p.toList.eraseIdx i:=by
 unfold SetTable.eraseAt;rw[Array.toList_append,Array.toList_extract,Array.toList_extract,List.extract_eq_take_drop,List.extract_eq_take_drop,List.drop_zero,Nat.sub_zero,List.eraseIdx_eq_take_drop_succ,List.take_of_length_le (l:=p.toList.drop _) (by simp)]
section
variable {A:Around}{E:Value->Shared->Prop}{O:Type}[DecidableEq O][Inhabited O]{kd:KD prog w O}
def SetD{prog:Program}{w:World}{O:Type}[DecidableEq O](kd:KD prog w O)(h:Heap)(a:Addr)(xs:List (O×Tok))(ep dm mk:Nat):Prop:=
 ∃o es t,h.get? a=some o/\o.ExactSet/\o.data=.set es ep t/\t.fits es.size=true/\es.toList=xs.map kd.e/\t.led=!byTx w/\tU kd.pl t xs.length/\t.dummies.size<=dm/\t.mask=mk
def SetD.set{h}{a}{xs:List (O×Tok)}{ep dm mk}(x:SetD kd h a xs ep dm mk):StrSet kd h a xs ep:=
 let ⟨o,es,t,h1,h2,h3,h4,h5,h6,h7,_⟩:=x;⟨o,es,t,h1,h2,h3,h4,h5,h6,h7⟩
def jk{es:Array (Int×Value)}{od:Array Nat}(h:od.toList.Perm (List.range es.size)):(od.filterMap (es[·]?)).toList.Perm es.toList:=by
 rw[Array.toList_filterMap];refine (h.filterMap _).trans (.of_eq ?_)
 apply List.ext_getElem?
 intro i;have:=by
  have:∀l:List (Int×Value),(List.range l.length).filterMap (l[·]?)=l:=by
   intro l
   induction l with
   |nil=>rfl
   |cons a r ih=>
    rw[lc0,List.range_succ_eq_map,List.filterMap_cons,List.filterMap_map];simp only[List.getElem?_cons_zero,List.cons.injEq,true_and];exact ih
  simpa using (this es.toList)
 rw[this]
def xa:∀n,n<32->SetTable.sizeAbove n<=64/\Mk (SetTable.sizeAbove n-1)/\(10<=n->15<=SetTable.sizeAbove n-1)/\n<SetTable.sizeAbove n:=by
 unfold Mk;decide +kernel
def Az{S}{xs:List (O×Tok)}{ep}{Q}(hS:StrSet kd s.heap S xs ep)(h1:xs≠[])(hz:xs.length<16)(hb:∀p∈xs,SetTable.bits (kd.knd.hash p.1)<32)
  (h:∀h' ys er mk,(∀b o,s.heap.get? b=some o->h'.get? b=some o)->ys.Perm xs->SetD kd h' s.heap.objs.size ys er 0 mk->(5<=xs.length->15<=mk)->Q (.ref s.heap.objs.size) {s with heap:=h'}):
  wpAny (model prog w) A (Builtin.Frozenset.copyOf S) Q E s:=by
 unfold Builtin.Frozenset.copyOf Builtin.Frozenset.baseOf;refine wb0 (wb0 (wpAny_isInstance hS.isA lN (wq0 ?_)));rw[if_pos rfl];refine wb0 (rE (kd:=kd) λhR=>?_);have kp:∀b o,s.heap.get? b=some o->(s.heap.push (aM w)).get? b=some o:=λb o e=>ps0 _ e
 have nb:∀b o,s.heap.get? b=some o->b≠s.heap.objs.size:=λb o e=>nn0 (hs0 e)
 have ltS:S≠s.heap.objs.size:=by obtain⟨o,e,_⟩:=hS.cls;exact nb _ _ e
 have hS1:=hS.keep λo e=>kp S o e
 refine wb0 (m:=Builtin.Frozenset.addrOf (.ref s.heap.objs.size)) (wq0 (wb0 ?_));obtain⟨o,es,t,a1,a2,a3,a4,a5,a6,a7⟩:=hS1;have hes:es.size=xs.length:=by rw[<-al0,a5,lm0]
 unfold setMerge;rw[if_neg (by simpa using ltS.symm)];refine wb0 (wpAny_setState_of a1 a3 a4 ?_);dsimp only;have e0:es.isEmpty=false:=by
  rw[Array.isEmpty_eq_false_iff];intro z;rw[z]at hes;exact h1 (ez0 hes.symm)
 rw[if_neg (by rw[e0];exact fx0)];have go:∀(tr:SetTable)(es0:Array (Int×Value))(er:Nat)(H1:Heap),(∀b o,s.heap.get? b=some o->H1.get? b=some o)->Mk tr.mask->xs.length<tr.mask->(5<=xs.length->15<=tr.mask)->tr.fits es0.size=true->tr.fill=0->tr.led=(!byTx w)->tr.plain=true->H1.get? s.heap.objs.size=some {cls:=.type "set",dict:=none,data:=.set es0 er tr}->wpAny (model prog w) A (do
   let (_,_,ts) ←setState s.heap.objs.size
   match ts.road t with
   |.slotForSlot=>storeSet s.heap.objs.size es {t with finger:=ts.finger,led:=ts.led&&t.led,moves:=ts.moves,plain:=ts.plain&&t.plain}
   |.clean=>
    let (es,t) ←(do
     let some (t,order):=SetTable.laid ts.mask ts.finger ts.moves (led:=ts.led&&t.led) (plain:=ts.plain&&t.plain) (es.map (·.1))|unsupported "internal:set-table-without-room"
     let es':=order.filterMap (es[·]?)
     if es'.size != es.size then unsupported "internal:set-table-lost-an-element"
     pure (es',t))
    storeSet s.heap.objs.size es t
   |.oneByOne=>
    for (h,x) in ←setWalkUnseen S [s.heap.objs.size] (some s.heap.objs.size) do
     let _ ←holding [x] (setAddHashed s.heap.objs.size x h)
     pure ()
     if (<-setState S).2.1 != ep then unsupported "set.changed-during-merge") (λa s'=>wpAny (model prog w) A (pure (Value.ref s.heap.objs.size)) Q E s') E {s with heap:=H1}:=by
  intro tr es0 er H1 k1 hm hzm h5 ft fl ld pn g1;refine wb0 (wpAny_setState_of g1 rfl ft ?_);dsimp only;have line:es.size<=sizeLine:=by rw[hes,sizeLine_eq];grind
  have k2:∀{es':Array (Int×Value)}{t':SetTable} b o,s.heap.get? b=some o->(H1.update s.heap.objs.size (Obj.putSet es' t')).get? b=some o:=λb o e=>((Heap.SameBut.update H1 s.heap.objs.size _).2 _ (nb b o e)).trans (k1 b o e)
  have led:(tr.led&&t.led)=!byTx w:=by rw[ld,a6,Bool.and_self]
  unfold SetTable.road;rw[if_neg (by rw[fl];simp)]
  by_cases c:(tr.mask==t.mask&&t.dummies.isEmpty)=true
  .rw[if_pos c]
   dsimp only;rw[be0,beq_iff_eq,Array.isEmpty_iff]at c;refine wpAny_storeSet_of (prog:=prog) (w:=w) g1 rfl (wq0 (h _ xs (er+1) tr.mask k2 (.refl _) ⟨_,es,_,di g1 rfl,⟨rfl,rfl,rfl⟩,rfl,a4,a5,led,λz=>a7 (by simpa [pn]using z),?_,c.1.symm⟩ h5)) line;show t.dummies.size<=0;rw[c.2];exact nr0 _
  .rw[if_neg c]
   dsimp only;obtain⟨t',od,e1,e2,e3,e4,e5,e6⟩:=ny (f:=tr.finger) (v:=tr.moves) (l:=tr.led&&t.led) (p:=tr.plain&&t.plain) (hs:=es.map (·.1)) hm (by rw[Array.size_map,hes];grind) (λx hx=>by
    rw[Array.toList_map,a5,List.map_map]at hx;obtain⟨p,hp,rfl⟩:=mm0 hx;exact hb p hp)
   have ri:=jb e1;rw[e1];rw[Array.size_map]at e2 e4;have op:=jk (es:=es) e2;have osz:(od.filterMap (es[·]?)).size=es.size:=by rw[<-al0,op.length_eq,al0]
   dsimp only;obtain⟨ys,py,ey⟩:=bC op _ a5;rw[if_neg (by rw[osz];simp)];refine wb0 (wq0 (wpAny_storeSet_of (prog:=prog) (w:=w) g1 rfl (wq0 (h _ ys (er+1) tr.mask k2 py ⟨_,_,_,di g1 rfl,⟨rfl,rfl,rfl⟩,rfl,?_,ey,e5.trans led,λz=>⟨λn=>?_,ri.2⟩,by rw[ri.1];exact nr0 _,e3⟩ h5)) (by rw[osz];exact line)))
   .unfold SetTable.fits SetTable.fill
    rw[osz,e4,ri.1,e3];simp;omega
   .rw[e6]at z
    exact (a7 (by simpa [pn]using z)).1 (by rw[<-py.length_eq];exact n)
 unfold setRoomFor;refine wb0 (wb0 (wpAny_setState_of (es:=#[]) (ep:=0) (t:=.fresh 0 0 (!byTx w)) (pz0 _ rfl) rfl rfl ?_));dsimp only[SetTable.roomFor,SetTable.fresh,SetTable.fill];simp only[ls0,List.length_nil,Nat.zero_add]
 by_cases c:es.size*5≥7*3
 .rw[if_pos c]
  dsimp only;obtain⟨b1,b2,b3,b4⟩:=xa (es.size*2) (by omega);unfold setRelay;refine wb0 (wpAny_setState_of (es:=#[]) (ep:=0) (t:=.fresh 0 0 (!byTx w)) (pz0 _ rfl) rfl rfl ?_);dsimp only;rw[if_neg (by rw[sizeLine_eq];omega)];obtain⟨t',od,e1,e2,e3,e4,e5,e6⟩:=ny (f:=0) (v:=SetTable.movedTo (.fresh 0 0 (!byTx w)) (SetTable.sizeAbove (es.size*2)-1)) (l:=!byTx w) (p:=true) (hs:=#[]) b2 (Nat.zero_le _) (λx hx=>by cases hx);have ri:=jb e1;have e1:SetTable.relaid (.fresh 0 0 (!byTx w)) (Array.map (λx:Int×Value=>x.fst) #[]) (es.size*2)=some (t',od):=by rw[Array.map_empty];exact e1
  rw[e1];have osz:(od.filterMap ((#[]:Array (Int×Value))[·]?)).size=0:=by
   have:=(jk (es:=#[]) e2).length_eq
   rwa [al0]at this
  refine wb0 (?_:wpAny _ _ (if ((od.filterMap ((#[]:Array (Int×Value))[·]?)).size != (#[]:Array (Int×Value)).size)=true then _ else pure (od.filterMap ((#[]:Array (Int×Value))[·]?),t')) _ _ _);rw[if_neg (by rw[osz];simp)];have g0:(s.heap.push (aM w)).get? s.heap.objs.size=some (aM w):=pz0 _ rfl;refine wq0 (wpAny_storeSet_of (prog:=prog) (w:=w) g0 rfl ?_ (by rw[osz];exact Nat.zero_le _));have e4:=e4;refine go t' _ 1 _ (λb o e=>((Heap.SameBut.update _ s.heap.objs.size _).2 _ (nb b o e)).trans (kp b o e)) (e3▸b2) (by rw[e3];omega) (λz=>by rw[e3];exact b3 (by omega)) ?_ ?_ e5 e6 (di g0 rfl)
  .unfold SetTable.fits SetTable.fill
   rw[osz,e4,ri.1];simp
  .unfold SetTable.fill
   rw[e4,ri.1];rfl
 .rw[if_neg c]
  dsimp only;exact wq0 (go (.fresh 0 0 (!byTx w)) #[] 0 _ kp (.inl rfl) (by omega:xs.length<7) (λz=>by omega) rfl rfl rfl rfl (pz0 _ rfl))
def fits_iff{t:SetTable}{n}:t.fits n=true↔t.place.size=n/\t.place.size+t.dummies.size<=t.mask:=by
 unfold SetTable.fits SetTable.fill;simp
omit [DecidableEq O] [Inhabited O] in
def kA(f:α->β)(l:List α)(i:Nat):(l.eraseIdx i).map f=(l.map f).eraseIdx i:=by
 rw[List.eraseIdx_eq_take_drop_succ,List.eraseIdx_eq_take_drop_succ,List.map_append,List.map_take,List.map_drop]
def xb{S}{xs:List (O×Tok)}{ep}{os}{Q}(hr:∀k t a,kd.vl k t≠.ref a)(hS:StrSet kd s.heap S xs ep)(ho:∀q∈os,∃xs ep,StrSet kd s.heap q xs ep)
  (h:∀(order:List (O×Tok)) d,order.Perm xs->Q (order.map kd.e).toArray {s with drawn:=d}):wpAny (model prog w) A (setWalkUnseen S os none) Q E s:=by
 have wk:wpAny _ A _ Q E s:=nQ hS h;obtain⟨o,es,t,h1,hex,h2,h3,h4,h5,h6⟩:=id hS;refine wb0 (wpAny_setState_of h1 h2 h3 (wb0 (asks ?_)));split
 .exact wk
 refine wb0 (nR hr (λq m=>(mq0 m).elim (λe=>e▸⟨_,_,hS⟩) (ho q)) ?_);refine wb0 (wpAny_rule (wq0 ?_));rw[show es=(xs.map _).toArray by rw[<-h4]];exact h xs _ (.refl _)
def Lq{a}{xs:List (O×Tok)}{ep dm mk}{p}{Q}(hS:SetD kd s.heap a xs ep dm mk)(hz:xs.length<4000)(nd:(xs.map (·.1)).Nodup)
  (h:∀h' ys ep' b,Heap.SameBut a s.heap h'->SetD kd h' a ys ep' (dm+1) mk->(ys.map (·.1)).Nodup->(∀y,y∈ys.map (·.1)↔y∈xs.map (·.1)/\y≠p.1)->ys.length<=xs.length->Q b {s with heap:=h'}):
  wpAny (model prog w) A (setDiscardHashed a (kd.e p).2 (kd.e p).1) Q E s:=by
 unfold setDiscardHashed;refine wb0 (rC hS.set hz ?_);have fs:=jc kd xs p.1;obtain⟨o,es,t,h1,hex,h2,h3,h4,h5,h6,h7,h8⟩:=hS;have hes:es.size=xs.length:=by rw[<-al0,h4,lm0]
 cases q:(xs.map kd.e).findIdx? λe=>kd.knd.is p.1 e.2 with
 |none=>
  rw[q]at fs;refine wq0 (h s.heap xs ep false (Heap.SameBut.refl _ _) ⟨o,es,t,h1,hex,h2,h3,h4,h5,h6,Nat.le_succ_of_le ‹_›,h8⟩ nd (λy=>⟨λz=>⟨z,λe=>?_⟩,λz=>z.1⟩) (nr0 _));rw[e]at z;exact absurd z (of_decide_eq_false fs.symm)
 |some i=>
  obtain⟨hi,e1,_⟩:=List.findIdx?_eq_some_iff_getElem.mp q;rw[lm0]at hi;rw[List.getElem_map]at e1;have e1:=od0 ((KeyKind.is_eq_decide (kd.is xs[i].1 xs[i].2) p.1).symm.trans e1);dsimp only;refine wb0 (wpAny_setState_of h1 h2 h3 ?_);have ft:=fits_iff.mp h3;have el:=jj es (i:=i) (by simp_all);have es1:(SetTable.eraseAt es i).size=xs.length-1:=by rw[<-al0,el,List.length_eraseIdx_of_lt (by rw[al0];simp_all),al0,hes]
  have ps1:(SetTable.eraseAt t.place i).size=xs.length-1:=by rw[<-al0,jj _ (by omega),List.length_eraseIdx_of_lt (by rw[al0];omega),al0,ft.1,hes]
  have ds1:∀j,(SetTable.insertAt t.dummies (SetTable.below t.dummies j) j).size=t.dummies.size+1:=λj=>by
   unfold SetTable.insertAt;simp;omega
  have dr:t.drop i={t with place:=SetTable.eraseAt t.place i,dummies:=SetTable.insertAt t.dummies (SetTable.below t.dummies (t.place[i]'(by omega))) (t.place[i]'(by omega))}:=by
   unfold SetTable.drop;rw[Array.getElem?_eq_getElem (by omega:i<t.place.size)]
  refine wb0 (wpAny_storeSet_of (prog:=prog) (w:=w) h1 h2 (wb0 (wpAny_point (wq0 ?_))) (by rw[es1,sizeLine_eq];omega));have hk:(xs.eraseIdx i).map (·.1)=(xs.map (·.1)).eraseIdx i:=kA _ _ _;have sp:xs.map (·.1)=(xs.map (·.1)).take i++p.1::(xs.map (·.1)).drop (i+1):=by
   rw[e1];have:=List.take_append_drop i (xs.map (·.1));rw[List.drop_eq_getElem_cons (by rw[lm0];exact hi),List.getElem_map]at this;exact this.symm
  have nd':=nd;rw[sp]at nd';have nd2:=List.nodup_append.mp nd';have nd3:=List.nodup_cons.mp nd2.2.1;refine h _ (xs.eraseIdx i) (ep+1) true (Heap.SameBut.update _ a _) ⟨_,_,_,di h1 h2,hex,rfl,?_,?_,?_,?_,?_,?_⟩ ?_ (λy=>?_) (List.length_eraseIdx_le ..)
  .rw[dr]
   refine fits_iff.mpr ⟨ps1.trans es1.symm,?_⟩;show (SetTable.eraseAt t.place i).size+(SetTable.insertAt _ _ _).size<=t.mask;rw[ps1,ds1];omega
  .rw[el,h4,kA]
  .rw[dr];exact h5
  .rw[dr]
   intro z;refine⟨λn=>(h6 z).1 (λz=>n ?_),(h6 z).2.erase i⟩;rw[List.length_eraseIdx_of_lt hi];omega
  .rw[dr];show (SetTable.insertAt _ _ _).size<=_;rw[ds1];omega
  .rw[dr];exact h8
  .rw[hk,List.eraseIdx_eq_take_drop_succ]
   exact List.nodup_append.mpr ⟨nd2.1,nd3.2,λa ha b hb=>nd2.2.2 a ha b (mc0 _ hb)⟩
  .rw[hk,List.eraseIdx_eq_take_drop_succ,List.mem_append]
   conv=>rhs;rw[sp]
   rw[List.mem_append,List.mem_cons];constructor
   .rintro (z|z)
    .exact⟨.inl z,nd2.2.2 _ z _ ms0⟩
    .exact⟨.inr (.inr z),λe=>nd3.1 (e▸z)⟩
   .rintro ⟨z|z|z,n⟩
    .exact .inl z
    .exact absurd z n
    .exact .inr z
theorem kB{W r:Addr}{xs:List (O×Tok)}{ew mk:Nat}{nm:String}{Q:PUnit->Shared->Prop}(nW:W≠r):∀(l ys:List (O×Tok))(er dm:Nat)(s:Shared),ys.length<4000->(ys.map (·.1)).Nodup->StrSet kd s.heap W xs ew->SetD kd s.heap r ys er dm mk->
  (∀h' zs er',Heap.SameBut r s.heap h'->SetD kd h' r zs er' (dm+l.length) mk->(zs.map (·.1)).Nodup->(∀y,y∈zs.map (·.1)↔y∈ys.map (·.1)/\y∉l.map (·.1))->zs.length<=ys.length->Q ⟨⟩ {s with heap:=h'})->
  wpAny (model prog w) A (forIn (l.map kd.e) PUnit.unit λx a=>match x with
   |(h,x)=>do
    let _ ←holding [x] (setDiscardHashed r x h)
    Builtin.Frozenset.unchanged nm W ew
    pure (.yield PUnit.unit)) Q E s
 |[],ys,er,dm,s,hz,nd,hW,hR,h=>wq0 (h s.heap ys er (Heap.SameBut.refl _ _) hR nd (λy=>by simp) (nr0 _))
 |p::l,ys,er,dm,s,hz,nd,hW,hR,h=>by
  rw[mk0,List.forIn_cons];refine wb0 (wb0 (wh0 (Lq hR hz nd λh1 y1 e1 b sb1 S1 n1 m1 z1=>?_)));have hW1:=hW.keep λo e=>(sb1.2 _ nW).trans e
  unfold Builtin.Frozenset.unchanged;refine wb0 (wb0 (rD (s:={s with heap:=h1}) hW1 ?_));rw[if_neg (by simp)];refine wq0 (wq0 ?_);refine kB nW l y1 e1 (dm+1) {s with heap:=h1} (by omega) n1 hW1 S1 λh2 zs er' sb2 a1 a2 a3 a4=>h h2 zs er' (sb1.trans sb2) (by grind) a2 (λy=>(a3 y).trans ?_) (by omega)
  rw[m1 y,mk0,List.mem_cons,not_or,and_assoc]
def jL:entryFor table "set.__sub__"=some Builtin.«frozenset.__sub__»:=by refine entryFor_alias (id':="frozenset.__sub__") ?_ rfl ?_ ?_<;>first|kernel_rfl|decide +kernel
def xf{S T}{xs ys}{ep eq}{Q}(hr:∀k t a,kd.vl k t≠.ref a)(hne:S≠T)(hS:StrSet kd s.heap S xs ep)(hT:StrSet kd s.heap T ys eq)(nd:(xs.map (·.1)).Nodup)(hz:xs.length<16)(hz2:ys.length<16)(hb:∀p∈xs,SetTable.bits (kd.knd.hash p.1)<32)
  (h:∀h' d r zs er,(∀b o,s.heap.get? b=some o->h'.get? b=some o)->s.heap.objs.size<=r->StrSet kd h' r zs er->(zs.map (·.1)).Nodup->(∀y,y∈zs.map (·.1)↔y∈xs.map (·.1)/\y∉ys.map (·.1))->zs.length<=xs.length->Q (.ref r) {s with heap:=h',drawn:=d}):
  wpAny (model prog w) A (binaryOp .Sub (.ref S) (.ref T)) Q E s:=by
 refine wpAny_binaryOp_same (T:="set") hS.isA hT.isA F.fills_set_sub F.slot_set_sub (wpAny_call_entry F.slot_set_sub hS.isA jL ?_ (F.args_set_sub_2 _ _));unfold Builtin.«frozenset.__sub__»;refine wb0 (wb0 (m:=slotArgs "__sub__" 1 _) (wq0 (wq0 ?_)));dsimp only;rw[if_neg fx0];refine wb0 (m:=andM (Builtin.Frozenset.isAnySet (.ref S)) (Builtin.Frozenset.isAnySet (.ref T))) ?_;refine wb0 (iE hS.isA (iE hT.isA ?_));refine wb0 (m:=Builtin.Frozenset.addrOf (.ref S)) (wq0 (wb0 ?_));unfold Builtin.Frozenset.difference;refine wb0 (iE hT.isA ?_)
 simp only[Bool.not_true,Bool.false_eq_true,if_false,Bool.false_and,if_true,pure_bind];refine wb0 (m:=Builtin.Frozenset.addrOf (.ref T)) (wq0 ?_);refine wb0 (size_of hT (wb0 (size_of hS ?_)));have kp:∀b o,s.heap.get? b=some o->(s.heap.push (aM w)).get? b=some o:=λb o e=>ps0 _ e
 have nb:∀b o,s.heap.get? b=some o->b≠s.heap.objs.size:=λb o e=>nn0 (hs0 e)
 have ltS:S≠s.heap.objs.size:=by obtain⟨o,e,_⟩:=hS.cls;exact nb _ _ e
 have ltT:T≠s.heap.objs.size:=by obtain⟨o,e,_⟩:=hT.cls;exact nb _ _ e
 by_cases c:xs.length / 4>ys.length
 .rw[if_pos c]
  refine wb0 (wpAny_rule (wb0 (Az hS (λz=>by rw[z]at c;exact absurd c (by simp)) hz hb λh1 zs er mk kk pz hR hmk=>?_)));have nz:=(pz.map _).nodup_iff.mpr nd;have hT1:=hT.keep λo e=>kk T o e
  refine wb0 (m:=Builtin.Frozenset.addrOf (.ref s.heap.objs.size)) (wq0 (wb0 (wh0 ?_)));unfold Builtin.Frozenset.differenceUpdate;rw[if_neg (by simpa using ltT)];refine wb0 (iE (s:={s with heap:=h1}) hT1.isA ?_);rw[if_pos rfl];refine wb0 (m:=Builtin.Frozenset.addrOf (.ref T)) (wq0 (wb0 (size_of (s:={s with heap:=h1}) hT1 (wb0 (size_of (s:={s with heap:=h1}) hR.set ?_)))));have pl:=pz.length_eq;rw[if_neg (by grind)];refine wb0 (rD (s:={s with heap:=h1}) hT1 (wb0 (wh0 (wb0 (xb (s:={s with heap:=h1}) hr hT1 (λq m=>?_) λorder d po=>?_)))))
  .rw[List.mem_singleton]at m;rw[m];exact⟨_,_,hR.set⟩
  rw[<-Array.forIn_toList];refine wb0 (kB (kd:=kd) (nm:=_) ltT order zs er 0 _ (by grind) nz hT1 hR λh2 us er' sb2 a1 a2 a3 a4=>wq0 ?_);unfold setTidy;obtain⟨o,es,t,b1,_,b3,b4,b5,_,_,b6,b7⟩:=id a1;refine wb0 (wpAny_setState_of b1 b3 b4 ?_);have tm:t.tooManyDummies=false:=by
   refine df0 ?_;rw[b7];have:=po.length_eq;rcases Nat.lt_or_ge xs.length 5 with z|z
   .omega
   .have:=hmk z;omega
  dsimp only;rw[tm,if_neg fx0];refine wq0 (wq0 (wq0 ⟨_,rfl,λz=>(nomatch z),?_⟩));refine h h2 d _ us er' (λb o e=>(sb2.2 _ (nb b o e)).trans (kk b o e)) (nr0 _) a1.set a2 (λy=>(a3 y).trans ?_) (by omega);rw[(pz.map _).mem_iff,(po.map _).mem_iff]
 .rw[if_neg c]
  unfold Builtin.Frozenset.baseOf;refine wb0 (wb0 (wpAny_isInstance hS.isA lN (wq0 ?_)));rw[if_pos rfl];refine wb0 (rE (kd:=kd) λhR=>?_);have hS1:=hS.keep λo e=>kp S o e
  have hT1:=hT.keep λo e=>kp T o e
  refine wb0 (m:=Builtin.Frozenset.addrOf (.ref s.heap.objs.size)) (wq0 (wb0 (rD (s:={s with heap:=s.heap.push (aM w)}) hS1 (wb0 (wh0 ?_)))));refine wb0 (Ay (s:={s with heap:=s.heap.push (aM w)}) hr hS1 hR (by simp) (λq m=>?_) λorder h1 er d po sb1 hR1=>?_)
  .rcases mq0 m with rfl|m
   .exact⟨_,_,hT1⟩
   .rw[List.mem_singleton]at m;rw[m];exact⟨_,_,hR⟩
  .rw[<-Array.forIn_toList]
   refine wb0 (ji (kd:=kd) (nm:=_) ltT ltS (by omega) (λb=>!b) order [] er _ (by rw[List.length_nil,po.length_eq];omega) .nil (hT1.keep λo e=>(sb1.2 _ ltT).trans e) (hS1.keep λo e=>(sb1.2 _ ltS).trans e) hR1 λh2 zs er' sb2 a1 a2 a3 a4=>?_);refine wq0 (wq0 (wq0 ⟨_,rfl,λz=>(nomatch z),?_⟩));refine h h2 d _ zs er' (λb o e=>(sb2.2 _ (nb b o e)).trans ((sb1.2 _ (nb b o e)).trans (kp b o e))) (nr0 _) a1 a2 (λy=>(a3 y).trans ?_) (by rw[List.length_nil,po.length_eq]at a4;omega);rw[(po.map _).mem_iff];simp
end
end PySem
namespace L2.Z
open PySem PySem.Spec PyProof.Rows L2 L2.C SI
def qf:∀n:Nat,n<32->SetTable.bits ((kdI X.prog X.w).knd.hash (n:Int))<32:=by
 show ∀n:Nat,n<32->SetTable.bits (hashInt n)<32;decide +kernel
def lO:OpR X (binaryOp .Sub) (λx y H Q=>∃(l m:Addr)(ks js:List Int),x=.ref l/\y=.ref m/\l≠m/\H l=some (.ext (fe (kdI X.prog X.w) l ks))/\H m=some (.ext (fe (kdI X.prog X.w) m js))/\ks.Nodup/\ks.length<16/\js.length<16/\(∀k∈ks,0<=k/\k<32)/\∀r zs,H r=none->zs.Nodup->(∀y,y∈zs↔y∈ks/\y∉js)->zs.length<64->Q (.ref r) (upd H r (.ext (fe (kdI X.prog X.w) r zs)))):=by
 intro pins s σ H x y v u Q I rx ry h;obtain⟨l,m,ks,js,rfl,rfl,ne,hl,hm,nd,zk,zj,sm,k⟩:=h;cases rx;cases ry;obtain⟨⟨xs,ep,rfl,hS⟩,_⟩:=(I.hok l _ hl);obtain⟨⟨ys,eq,rfl,hT⟩,_⟩:=(I.hok m _ hm);rw[lm0]at zk zj;refine xf (λf f f z=>by cases z) ne hS hT nd zk zj (λp hp=>?_) λh' d r zs er kk fr hR nd mem len=>?_
 .obtain⟨h0,h1⟩:=sm p.1 (List.mem_map.mpr ⟨p,hp,rfl⟩)
  obtain⟨n,e⟩:=Int.eq_ofNat_of_zero_le h0;rw[e];exact qf n (by omega)
 have gS:∃o,h'.get? r=some o:=let ⟨o,_,_,e,_⟩:=hR;⟨o,e⟩
 exact⟨.ref r,_,(gM I d).laid (s:={s with drawn:=d}) (t':=s.toks) kk fr (show ObjOk X.prog X.w _ _ _ (.ext _)from⟨⟨zs,er,rfl,hR⟩,gS,λh1 h2 ⟨a,b,c,d⟩ k2=>⟨a,b,c,d.keep k2⟩⟩),rfl,k r (zs.map (·.1)) (I.hok.fresh fr) nd mem (by rw[lm0];omega)⟩
def ui{i}{v}(h:gY (.inl i) v=true):∃t,v=.int i t:=by
 cases v<;>simp[gY,Value.isInt]at h<;>simp_all
theorem rF:∀{vs:List Value}{ns},vs.length=ns.length->(∀(j:Nat)(v:Value)(i:Int),vs[j]?=some v->ns[j]?=some i->∃t,v=.int i t)->IntsAre vs ns
 |[],[],_,_=>.nil
 |v::vs,i::ns,hl,h=>by
  obtain⟨t,rfl⟩:=h 0 v i rfl rfl;exact .cons _ _ (rF (by simpa using hl) λj v i a b=>h (j+1) v i (by simpa using a) (by simpa using b))
 |[],_::_,hl,_=>by cases hl
 |_::_,[],hl,_=>by cases hl
def lP{prog}{w}{A}{E}{s}{d}{kvs}{ep}{R}(hh:A.handled=none)(lo:(d==sysModules)=false)(hat:s.heap.DictAt (aC prog w) d kvs ep)(hn:kvs.length<=sizeLine)
  (h:∀h' tk (acc:Array Value),s.heap.objs.size<=h'.objs.size->(∀b o,s.heap.get? b=some o->h'.get? b=some o)->ItemsOf (λi v=>∃k x,kvs[i]?=some (k,x)/\(aC prog w).is k v=true) acc kvs.length->R acc.toList {s with heap:=h',toks:=tk}):
  wpAny (model prog w) A (collect (.ref d)) R E s:=by
 have ltS:=hat.lt_size;have K:=PySem.W.kdl_dict (prog:=prog) (w:=w) (knd:=aC prog w) (kvs:=kvs) (ep:=ep) lo;unfold collect;refine wb0 (wpAny_runValue (codeAny_builtin entry_proto_collect' ?_));rw[ui0 PySem.F.plain_proto_collect];show wpAny _ A.in1 (newList [] >>= λl=>again (.builtin "list.__iadd__" ⟨[l,.ref d],[]⟩)) _ _ s;refine wb0 (wpAny_newObj_type (wq0 ⟨plainId_quiet PySem.F.plain_list_iadd _,codeAny_builtin entry_list_iadd' ?_⟩));rw[ui0 PySem.F.plain_list_iadd];have hL:(s.heap.push {cls:=.type "list",data:=.seq ([]:List Value).toArray}).get? s.heap.objs.size=some {cls:=.type "list",data:=.seq #[]}:=pz0 _ rfl
 show wpAny _ A.in1 (Builtin.List.listExtendWith (.ref s.heap.objs.size) (.ref d) (.ref s.heap.objs.size)) _ _ _;refine wpAny_mono (PySem.W.kdl_extend (A:=A) (s:={s with heap:=s.heap.push {cls:=.type "list",data:=.seq ([]:List Value).toArray}})
  (R:=λ(q:Result) (s':Shared)=>∃(h':Heap)(tk:Nat)(acc:Array Value)(c:Nat),q=.ok (.ret (.ref s.heap.objs.size))/\s'={s with heap:=h',toks:=tk}/\(∀b o,s.heap.get? b=some o->h'.get? b=some o)/\h'.get? s.heap.objs.size=some {cls:=.type "list",dict:=none,data:=.seq acc c,slots:=#[]}/\ItemsOf (λi v=>∃k x,kvs[i]?=some (k,x)/\(aC prog w).is k v=true) acc kvs.length)
  K hh (K.keep _ _ hat λb a o e=>ps0 _ e) s.heap.objs.size (Nat.ne_of_gt ltS) (Nat.ne_of_gt ltS) (.ref s.heap.objs.size) 0 hL (λh' tk acc c a2 a3 a4=>⟨h',tk,acc,c,rfl,rfl,λb o e=>a2 b o (nn0 (hs0 e)) (ps0 _ e),a3,a4⟩) hn) (λfin s' x=>?_) λe s' x=>?_
 .cases fin with
  |done f=>
   obtain⟨h',tk,acc,c,e,rfl,a2,a3,a4⟩:=x;cases e;show wpAny (model prog w) A (load s.heap.objs.size >>= _) _ _ _;refine wb0 (wpAny_load a3 (wq0 ?_));exact h h' tk acc (Nat.le_of_lt (hs0 a3)) a2 a4
  |again c1=>
   refine⟨x.1,codeAny_mono x.2 λq s2 y=>?_⟩;obtain⟨h',tk,acc,c,rfl,rfl,a2,a3,a4⟩:=y;show wpAny (model prog w) A (load s.heap.objs.size >>= _) _ _ _;refine wb0 (wpAny_load a3 (wq0 ?_));exact h h' tk acc (Nat.le_of_lt (hs0 a3)) a2 a4
 .obtain⟨_,_,_,_,z,_⟩:=x
  cases z
def gN{prog}{w}{A}{E}{s:Shared}{d}{kvs}{ns}{Q}(hh:A.handled=none)(lo:(d==sysModules)=false)(hD:s.heap.DictOf (aC prog w) d kvs)(hk:kvs.map (·.1)=ns.map .inl)(hz:ns.length<64)
  (h:∀h' tk D (out:Array Value) n (ms:List Int),(∀b o,s.heap.get? b=some o->h'.get? b=some o)->h'.get? D=some (seqObj "list" out n)->s.heap.objs.size<=D->IntsAre out.toList ms->ms.Perm ns->ms.Pairwise (·<=·)->Q (.ref D) {s with heap:=h',toks:=tk}):
  wpAny (model prog w) A (call (.builtin "sorted") [.ref d]) Q E s:=by
 obtain⟨ep,hat⟩:=hD.dictAt;have kl:kvs.length=ns.length:=by simpa using congrArg List.length hk
 refine Calls.call_function_entry kind_sorted plain_sorted entry_sorted (args_sorted1 _) ?_;unfold Builtin.«sorted»;refine wb0 (m:=checkCount "sorted" 1 1 _) (wq0 (wb0 (lP (A:=A.in1) hh lo hat (by rw[kl,sizeLine_eq];grind) λh1 tk acc sz k1 hacc=>?_)));have hl:acc.toList.length=ns.length:=by rw[al0,hacc.1,kl]
 have ia:=rF hl λj v i a b=>by
  obtain⟨k,x,e1,e2⟩:=hacc.2 j v (by simpa using a);have e3:=congrArg (·[j]?) hk;simp[e1,b]at e3;subst e3;exact ui e2
 refine wb0 (wpAny_newList ?_ (by rw[hl,sizeLine_eq];grind));have gD:(h1.push {cls:=.type "list",data:=.seq acc.toList.toArray}).get? h1.objs.size=some (seqObj "list" acc.toList.toArray 0):=pz0 _ rfl;have kD:∀b o,s.heap.get? b=some o->b<h1.objs.size:=λb o e=>hs0 (k1 b o e)
 refine wb0 (wh0 (wpAny_call_entry slot_list_sort ⟨_,gD,rfl⟩ entry_list_sort (list_sort_tree gD ia (by rw[hl];exact hz) λout ms a1 a2 a3=>⟨_,rfl,?_⟩) (args_list_sort _)));refine wq0 ⟨_,rfl,?_⟩;obtain⟨n,fin⟩:=sortedHeap_at (out:=out) gD;refine h _ tk h1.objs.size _ n ms (λb o e=>?_) fin ?_ a1 a2 a3
 .have lt:=kD b o e
  exact (sortedHeap_old (nn0 lt) (by rw[size_push'];exact Nat.lt_succ_of_lt lt)).trans (ps0 _ (k1 b o e))
 .exact sz
def KV.keys{O}{ws}{vs:List (O×Value)}(h:KV ws vs):ws.map (·.1)=vs.map (·.1):=by
 induction h<;>simp_all
theorem Dks.keys{K}{G}:∀{ds:List (Key×D)}{vs:List (Key×V)},Dks K G ds vs->ds.map (·.1)=vs.map (·.1)
 |_,_,.nil=>rfl
 |_,_,.cons _ r=>by rw[mk0,mk0,Dks.keys r]
theorem nS:∀{kvs:List (Key×D)}{ns},kc kvs=some ns->kvs.map (·.1)=ns.map .inl
 |[],_,h=>by cases h;rfl
 |(.inl i,_)::r,_,h=>by
  obtain⟨ns,h1,rfl⟩:=mx0 (h);rw[mk0,mk0,nS h1]
 |(.inr _,_)::_,_,h=>by cases h
section
variable {p:Pos}
def jM(hc:X.calm=true):aW X (.builtin "sorted") (λxs H Q=>∃(l:Addr)(ws:List (Key×V))(ns:List Int),xs=[.ref l]/\H l=some (.dK ws)/\ws.map (·.1)=ns.map .inl/\ns.length<64/\∀r (ms:List Int),H r=none->ms.Perm ns->ms.Pairwise (·<=·)->Q (.ref r) (upd H r (.lst (ms.map V.int)))):=by
 intro pins s σ H xs us Q I r h;obtain⟨l,ws,ns,rfl,hl,hk,hz,k⟩:=h;obtain⟨u,rfl,rx⟩:=vals1 r;cases rx;obtain⟨_,lo,vs,kv,hD⟩:=(I.hok l _ hl);refine gN (I.ok.hd hc) lo hD (kv.keys.symm.trans hk) hz λh' tk D out n ms kk gD fr sa pe so=>?_
 have hlen:(ms.map V.int).length<=sizeLine:=by
  rw[lm0,pe.length_eq,sizeLine_eq];omega
 exact⟨.ref D,_,(I.laid kk fr (show ObjOk X.prog X.w _ _ _ (.lst _)from⟨hlen,_,n,dj sa,by omega⟩)),rfl,k D ms (I.hok.fresh fr) pe so⟩
def AA(ns):(insI ns).Perm ns/\(insI ns).Pairwise (·<=·):=by
 refine⟨List.mergeSort_perm ns _,?_⟩;have:=List.pairwise_mergeSort (le:=λa b=>decide (a<=b)) (λa b c h1 h2=>by grind) (λa b=>by grind) ns
 simpa [insI]using this
set_option tactic.hygienic true in
def qg(hcalm:X.calm=true)(B1:Blt X "sorted")(h:biD .srtd ds=some d)(ha:Ea X Y fl3 [a] ds)(hs:isStar a=false):Ev X Y (.Call (.Name "sorted" p) [a] [] pos) d:=by
 match ds,h with
 |[.dict kvs],h=>
  obtain⟨ns,h1,h⟩:=bx0 (h);split at h
  .rename_i hz
   cases h;intro pins s σ H Q I h0;obtain⟨G0,H0,G,E,k⟩:=h0;refine aX (jM hcalm) B1.g B1.m bh ha B1.n B1.d (ae hs) rfl pins s σ H Q I ⟨G0,H0,G,E,λvs G1 H1 e1 r1=>?_⟩;obtain⟨v,rfl,hv⟩:=r1.one;obtain⟨r,ws,rfl,h3,h4⟩:=hv.dct e1.gh;refine⟨r,ws,ns,rfl,h3,h4.keys.symm.trans (nS h1),hz,λr2 ms hr2 pe so=>?_⟩;obtain⟨i1,i2⟩:=AA ns;have e:=(pe.trans i1.symm).eq_of_pairwise (λa b c c h1 h2=>Int.le_antisymm h1 h2) so i2;subst e;exact k _ _ _ (e1.trans (.laid e1.gh hr2)) (.list upd_same (qe _))
  .cases h
end
section
variable {e:Expr}{p:Pos}
def IA{G H}{v}(s:Same G H)(h:Dr K G H d v)(hd:∃b,lC "int" d=some b):∃T,fx K H v (.type T)/\(d=.none/\T="NoneType"\/(∃b,d=.bool b)/\T="bool"\/(∃i,d=.int i)/\T="int"\/(∃x,d=.str x)/\T="str"\/(∃l,d=.tuple l)/\T="tuple"\/(∃l,d=.list l)/\T="list"\/(∃l,d=.dict l)/\T="dict"):=by
 cases d with
 |none=>rw[h.none];exact⟨_,.non,.inl ⟨rfl,rfl⟩⟩
 |bool b=>rw[h.bool];exact⟨_,.bl b,.inr (.inl ⟨⟨b,rfl⟩,rfl⟩)⟩
 |int i=>rw[h.int];exact⟨_,.int i,.inr (.inr (.inl ⟨⟨i,rfl⟩,rfl⟩))⟩
 |str x=>rw[h.str.1];exact⟨_,.str x,.inr (.inr (.inr (.inl ⟨⟨x,rfl⟩,rfl⟩)))⟩
 |tuple l=>obtain⟨a,vs,rfl,h1,_⟩:=h.tup s;exact⟨_,.tup h1,.inr (.inr (.inr (.inr (.inl ⟨⟨l,rfl⟩,rfl⟩))))⟩
 |list l=>obtain⟨a,vs,rfl,h1,_⟩:=h.lst s;exact⟨_,.lst h1,.inr (.inr (.inr (.inr (.inr (.inl ⟨⟨l,rfl⟩,rfl⟩)))))⟩
 |dict l=>obtain⟨a,vs,rfl,h1,_⟩:=h.dct s;exact⟨_,.dK h1,.inr (.inr (.inr (.inr (.inr (.inr ⟨⟨l,rfl⟩,rfl⟩)))))⟩
 |scr=>obtain⟨_,z⟩:=hd;cases z
 |vlt=>obtain⟨_,z⟩:=hd;cases z
 |hdl=>obtain⟨_,z⟩:=hd;cases z
 |exc=>obtain⟨_,z⟩:=hd;cases z
 |fn=>obtain⟨_,z⟩:=hd;cases z
def Kj :∀T,T="NoneType"\/T="bool"\/T="int"\/T="str"\/T="tuple"\/T="list"\/T="dict"->∀U,U="int"\/U="str"\/U="list"\/U="tuple"\/U="bool"->
  PySem.W.kitOne K (.type T) (.type U)=some ((T==U)||(T=="bool"&&U=="int")):=by
 rintro T (rfl|rfl|rfl|rfl|rfl|rfl|rfl) U (rfl|rfl|rfl|rfl|rfl)<;>rfl
def nU:bootBuiltins ("isinstance":Str)=some (.builtin "isinstance"):=rfl
set_option tactic.hygienic true in
def uj{x}{T}(h:pU x=some T):bootBuiltins x=some (.type T)/\(T="int"\/T="str"\/T="list"\/T="tuple"\/T="bool"):=by
 unfold pU at h;split at h
 .rename_i c;subst c;cases h;exact⟨PyProof.Rows.boot_int,.inl rfl⟩
 split at h
 .rename_i c;subst c;cases h;exact⟨PyProof.Rows.boot_str,.inr (.inl rfl)⟩
 split at h
 .rename_i c;subst c;cases h;exact⟨PyProof.Rows.boot_list,.inr (.inr (.inl rfl))⟩
 split at h
 .rename_i c;subst c;cases h;exact⟨PyProof.Rows.boot_tuple,.inr (.inr (.inr (.inl rfl)))⟩
 split at h
 .rename_i c;subst c;cases h;exact⟨PyProof.Rows.boot_bool,.inr (.inr (.inr (.inr rfl)))⟩
 .cases h
def uk{x}{T}{t}{px}(B:Blt X "isinstance")(Bx:Blt X x)(hT:pU x=some T)(ha:Er X Y a d)(hs:isStar a=false)(h:lC T d=some t):Ev X Y (.Call (.Name "isinstance" p) [a,.Name x px] [] pos) (.bool t):=by
 obtain⟨hb,hU⟩:=uj hT;have pn:PE X (.Name x px) (tC (.ty T)):=qM Bx.g Bx.m hb rfl Bx.n Bx.d;intro pins s σ H Q I h0;obtain⟨G0,H0,G,E,k⟩:=h0;refine aX ((show aW X (.builtin "isinstance") (λvs H Q=>∃v t r,vs=[v,.ty T]/\fx X.K H v t/\PySem.W.kitOne X.K t (.type T)=some r/\Q (.bl r) H) by
   intro pins s σ H xs us Q I r h;obtain⟨v,t,b,rfl,ty,hk,q⟩:=h;obtain⟨u,w',rfl,r1,r2⟩:=vals2 r;cases r2;exact tF I r1 ty hk λtk=>⟨.bl b,H,I.tok tk,rfl,q⟩)) B.g B.m nU (ar ha (ar pn aD rfl) (ae hs)) (by decide) (by decide) (ae hs) rfl pins s σ H Q I ⟨G0,H0,G,E,λv G1 H1 e1 r1=>?_⟩
 obtain⟨U,ty,alt⟩:=IA e1.gh r1 (by cases d<;>first|exact⟨_,rfl⟩|cases h);refine⟨v,.type U,t,rfl,ty,?_,k _ G1 H1 e1 (.bool _)⟩;rcases alt with⟨rfl,rfl⟩|⟨⟨b,rfl⟩,rfl⟩|⟨⟨b,rfl⟩,rfl⟩|⟨⟨b,rfl⟩,rfl⟩|⟨⟨b,rfl⟩,rfl⟩|⟨⟨b,rfl⟩,rfl⟩|⟨⟨b,rfl⟩,rfl⟩<;>(cases h;rcases hU with rfl|rfl|rfl|rfl|rfl<;>rfl)
theorem nV{G}:∀{ds:List D}{ys:List Str}{vs:List V},strsOf ds=some ys->Dps K G ds vs->vs=ys.map V.str/\∀y∈ys,PyData.strOk y=true
 |[],ys,vs,e,h=>by cases e;cases h;simp
 |.str x::r,ys,vs,e,h=>by
  obtain⟨q,e1,rfl⟩:=mx0 (e);cases h with
  |cons h t=>
   obtain⟨e2,o⟩:=nV e1 t;cases h with
   |str _ hy=>exact⟨by rw[e2];rfl,λz hz=>(mq0 hz).elim (λq=>q▸hy) (o z)⟩
 |.none::r,ys,vs,e,h=>by cases e
 |.bool _::r,ys,vs,e,h=>by cases e
 |.int _::r,ys,vs,e,h=>by cases e
 |.tuple _::r,ys,vs,e,h=>by cases e
 |.list _::r,ys,vs,e,h=>by cases e
 |.dict _::r,ys,vs,e,h=>by cases e
 |.scr _::r,ys,vs,e,h=>by cases e
 |.vlt ..::r,ys,vs,e,h=>by cases e
 |.hdl _::r,ys,vs,e,h=>by cases e
 |.exc _::r,ys,vs,e,h=>by cases e
theorem nX{G}:∀{ys:List Str},(∀y∈ys,PyData.strOk y=true)->Dps K G (ys.map .str) (ys.map V.str)
 |[],_=>.nil
 |y::ys,h=>.cons (.str y (h y ms0)) (nX λz hz=>h z (mc0 _ hz))
theorem fM:∀{ys:List Str}{us:List Value},Vals (ys.map V.str) us->StrsAre us ys
 |[],_,.nil=>.nil
 |y::ys,_,.cons r t=>by
  obtain⟨tk,rfl⟩:=r;exact .cons y tk (fM t)
theorem fN:∀{us:List Value}{ys:List Str},StrsAre us ys->Vals (ys.map V.str) us
 |_,_,.nil=>.nil
 |_,_,.cons y t r=>.cons ⟨t,rfl⟩ (fN r)
theorem join_codes(sep:Str):∀(ys:List Str)(c:Nat),c∈(Str.join sep ys).cps.toList->c∈sep.cps.toList\/∃y∈ys,c∈y.cps.toList
 |[],c,h=>by cases h
 |[y],c,h=>.inr ⟨y,ms0,h⟩
 |y::z::r,c,h=>by
  have e:(Str.join sep (y::z::r)).cps.toList=y.cps.toList++sep.cps.toList++(Str.join sep (z::r)).cps.toList:=by
   show (y.cps++sep.cps++(Str.join _ _).cps).toList=_;simp
  rw[e,List.mem_append,List.mem_append]at h;rcases h with (h|h)|h
  .exact .inr ⟨y,ms0,h⟩
  .exact .inl h
  .rcases join_codes _ _ c h with q|⟨x,hx,q⟩
   .exact .inl q
   .exact .inr ⟨x,mc0 _ hx,q⟩
noncomputable def rJoin(K:Fg):V->List V->Hp->VK->Prop:=λx vs H Q=>∃sep a ys,x=.str sep/\vs=[.ref a]/\SqL K H a (ys.map V.str)/\(ys.map (·.length)).sum+ys.length*sep.length<=16777216/\Q (.str (Txt.join sep ys)) H
def AB:MtR X "str.join" (rJoin X.K):=by
 intro pins s σ H x xs v us Q I rx rs h;obtain⟨sep,p,ys,rfl,rfl,hq,hz,q⟩:=h;obtain⟨t,rfl⟩:=rx;obtain⟨u,rfl,ru⟩:=Vals.one rs;cases ru;obtain⟨its,rv,pl,_⟩:=I.list hq;exact join_list pl.isList (by simpa using fM rv) hz λt' k=>⟨.str _,H,I.tok k,⟨_,rfl⟩,q⟩
noncomputable def Fq:V->List V->Hp->VK->Prop:=λx vs H Q=>∃t sep,x=.str t/\vs=[.str sep]/\(sep.length==0)=false/\t.length+2<=sizeLine/\∀p,H p=none->Q (.ref p) (upd H p (.lst ((Txt.split t sep).map V.str)))
def qh{prog}{w}{A}{E}{s}{x y}{t u}{Q}(hy:(y.length==0)=false)(hsz:x.length+2<=sizeLine)
  (h:∀l k,l.map (·.1)=Txt.split x y->Q (.ref s.heap.objs.size) {s with heap:=s.heap.push {cls:=.type "list",data:=.seq (strValues l).toArray},toks:=k}):
  wpAny (model prog w) A (call (.builtin "str.split") [.str x t,.str y u]) Q E s:=by
 have hn:(Builtin.Str.partsBetween x (Builtin.Str.occurrences x y 0 x.length (x.length+1)) y.length).length<=sizeLine:=by
  have e1:=StrLaws.occ_length_le x y 0 x.length (x.length+1);rw[length_partsBetween];omega
 cases h1:(decide (x.length<y.length)||decide (Builtin.Str.strKind x<Builtin.Str.strKind y))with
 |true=>
  refine call_meets PySem.F.slot_str_split (typeIs_str _ _ _) PySem.F.entry_str_split (PySem.F.args_str_split_2 _ _) (meets_str_split_cannot_occur x y t u h1) ?_;exact h [(x,t)] s.toks (by unfold Txt.split;rw[if_pos h1];rfl)
 |false=>
  cases hf:(Builtin.Str.occurrences x y 0 x.length (x.length+1)).isEmpty with
  |true=>
   refine call_meets PySem.F.slot_str_split (typeIs_str _ _ _) PySem.F.entry_str_split (PySem.F.args_str_split_2 _ _) (meets_str_split_not_found x y t u h1 hy hf) ?_;exact h [(x,t)] s.toks (by unfold Txt.split;rw[if_neg (by rw[h1];decide),if_pos hf];rfl)
  |false=>
   refine call_meets PySem.F.slot_str_split (typeIs_str _ _ _) PySem.F.entry_str_split (PySem.F.args_str_split_2 _ _) (meets_str_split_sep x y t u h1 hy hf (by omega) hn) ?_;rw[strsFrom_eq];refine h (numbered s.toks _) _ ?_;rw[numbered_texts];unfold Txt.split;rw[if_neg (by rw[h1];decide),if_neg (by rw[hf];decide)]
def split_len(x y:Str):(Txt.split x y).length<=x.length+2:=by
 unfold Txt.split;split
 .simp
 .split
  .simp
  .have e1:=StrLaws.occ_length_le x y 0 x.length (x.length+1)
   rw[length_partsBetween];simp_all
def nY(x y:Str):∀p∈Txt.split x y,∀c∈p.cps.toList,c∈x.cps.toList:=by
 have sub:∀i j c,c∈(Builtin.Str.strSub x i j).cps.toList->c∈x.cps.toList:=λi j c h=>by
  rw[StrLaws.strSub_toList]at h;exact List.mem_of_mem_drop (List.mem_of_mem_take h)
 have parts:∀(w:Nat)(cuts:List _)(a:Nat),∀p∈StrLaws.partsFrom x w a cuts,∀c∈p.cps.toList,c∈x.cps.toList:=by
  intro w cuts
  induction cuts with
  |nil=>intro a p hp c hc;rw[List.mem_singleton.mp hp]at hc;exact sub _ _ c hc
  |cons d r ih=>
   intro a p hp c hc;rcases mq0 hp with e|hp
   .rw[e]at hc;exact sub _ _ c hc
   .exact ih _ p hp c hc
 intro p hp c hc;unfold Txt.split at hp;split at hp
 .rwa [List.mem_singleton.mp hp]at hc
 .split at hp
  .rwa [List.mem_singleton.mp hp]at hc
  .rw[StrLaws.partsBetween_eq]at hp
   exact parts _ _ _ p hp c hc
def xg:MtR X "str.split" Fq:=by
 intro pins s σ H x xs v us Q I rx rs h;obtain⟨t,sep,rfl,rfl,hy,hz,q⟩:=h;obtain⟨tk,rfl⟩:=rx;obtain⟨u,rfl,ru⟩:=Vals.one rs;obtain⟨tk',rfl⟩:=ru;refine qh hy hz λl k e=>?_
 have rv:Vals ((Txt.split t sep).map V.str) (strValues l):=by rw[<-e];exact fN (strsAre_of_values l)
 have hl:((Txt.split t sep).map V.str).length<=sizeLine:=by
  rw[lm0];exact nt0 (split_len t _) hz
 exact⟨.ref _,_,I.lnew rv hl,rfl,q _ I.fresh⟩
def base_of{name}{env}(h:bK o=false):attributeBase o name env (eval o env)=eval o env:=by
 have other:∀e:Expr,(∀id p pos,e≠.Call (.Name id p) [] [] pos)->attributeBase e name env (eval e env)=eval e env:=by
  intro e he;unfold attributeBase;simp
 by_cases c:∃id p pos,o=.Call (.Name id p) [] [] pos
 .obtain⟨id,p,pos,rfl⟩:=c
  have hid:(id=="super")=false:=h;unfold attributeBase
  simp_all
 .exact other o λid p pos z=>c ⟨id,p,pos,z⟩
set_option tactic.hygienic true in
def xh{m}{f}(hf:rh m=some f)(h:meD f d1 [d2]=some d)(ho:Er X Y o d1)(ha:Er X Y a d2)(hs:isStar a=false)(hsup:bK o=false)(hline:(apos.endLine==pos.line)=true):
  Ev X Y (.Call (.Attribute o m apos) [a] [] pos) d/\(f=.split->En X Y (.Call (.Attribute o m apos) [a] [] pos) d):=by
 have hS:=ae (es:=[]) (env:=X.env) hs;have few:∀pos:Pos,((backTo pos (starEach [a] X.env)).all (λx=>!x.1)&&(backToKw pos (keywordEach [] X.env)).all (λx=>x.1.isSome)
   &&decide ([a].length+([]:List Keyword).length+(if ([]:List Keyword).isEmpty then 0 else 1)<30))=true:=λpos=>by rw[hS];rfl
 unfold rh at hf;split at hf
 .rename_i c
  subst c;cases hf;have key:En X Y (.Call (.Attribute o "split" apos) [a] [] pos) d:=by
   cases d1 with
   |str x=>cases d2 with
    |str sep=>
     rw[iW]at h;split at h
     .rename_i c
      cases h;rw[big_eq]at c;intro pins s σ H Q I h0;obtain⟨G0,H0,G,E,k⟩:=h0;refine jX PySem.F.plainAttrs_str PySem.F.slot_str_split PySem.F.type_str_split xg ho (ar ha aD hS) (base_of hsup) (few pos) hline hS rfl pins s σ H Q I ⟨G0,H0,G,E,λv G1 H1 e1 r1=>?_⟩;obtain⟨rfl,os⟩:=r1.str;refine⟨rfl,G0,H0,G1,E.step e1,λw G2 H2 e2 r2=>?_⟩;obtain⟨rfl,oy⟩:=r2.str;have e3:=e1.trans e2;exact⟨x,sep,rfl,rfl,c.1,c.2,λp hp=>k p G2 _ (e3.trans (.hid e3.gh hp)) (e3.gh.free hp) (e3.hh.free hp) (.inl ⟨_,_,rfl,upd_same,nX ((λp hp=>by
        rw[strOk_iff]at os ⊢;exact λc hc=>os c (nY x sep p hp c hc)))⟩)⟩
     .cases h
    |_=>cases h
   |_=>cases h
  exact⟨key.ev,λb=>key⟩
 split at hf
 .rename_i c
  subst c;cases hf;refine⟨?_,λz=>by cases z⟩;cases d1 with
  |str sep=>cases d2 with
   |list ls=>
    obtain⟨ys,e1,h⟩:=bx0 (h:(strsOf ls).bind _=some d);split at h
    .rename_i c
     cases h;intro pins s σ H Q I h0;obtain⟨G0,H0,G,E,k⟩:=h0;refine jX PySem.F.plainAttrs_str PySem.F.slot_str_join PySem.F.type_str_join AB ho (ar ha aD hS) (base_of hsup) (few pos) hline hS rfl pins s σ H Q I ⟨G0,H0,G,E,λv G1 H1 e1 r1=>?_⟩;obtain⟨rfl,os⟩:=r1.str;refine⟨rfl,G0,H0,G1,E.step e1,λw G2 H2 e2 r2=>?_⟩;obtain⟨p,vs,rfl,h1,r⟩:=r2.lst e2.gh;obtain⟨rfl,oy⟩:=nV (by assumption) r;exact⟨sep,p,ys,rfl,rfl,SqL.of h1,c,k _ G2 H2 (e1.trans e2) (.str _ ((by
       have hs:=os;have hy:=oy;rw[strOk_iff]at hs ⊢;intro c hc;have e:Txt.join _ ys=Str.join _ ys:=StrLaws.glued_eq_join sep ys;rw[e]at hc;rcases join_codes _ ys c hc with q|⟨y,h1,h2⟩
       .exact hs c q
       .exact strOk_iff.mp (hy y h1) c h2)))⟩
    .cases h
   |_=>cases h
  |_=>cases h
 .cases hf
noncomputable def Pur(K:Fg)(J:Fn):Sp:=λvs H Q a=>∃ds d G,J.run ds=some d/\Same G H/\Das K G H J.lent ds vs/\∀v G' H',Ext G H G' H'->Dp K G' d v->Q v H'
structure FnZ(P:Program)(w:World)(K:Fg)(mg:Str->Option Value)(base:Heap)(k:Nat)(x:Str)(J:Fn):Prop where
 ex:∃f fd ps,mg x=some (.ref f)/\PySem.W.keepIn K (.ref f)=true/\Binds K fd ps []/\FnOk P w K mg base CX0 k f fd ps (Pur K J)
def qi{x}{k}{J}(F:FnZ X.prog X.w X.K X.mg X.base k x J)(hr:Room k X.A)(hg:Gl X x)(hd:(x==("__debug__":Str))=false)(ha:Ea X Y J.lent (e::es) ds)(h:J.run ds=some d)(hs:aI (e::es)):
  Ev X Y (.Call (.Name x p) (e::es) [] pos) d:=by
 obtain⟨f,fd,ps,hm,hk,hb,F⟩:=F.ex;intro pins s σ H Q I h0;obtain⟨G0,H0,G,E,k⟩:=h0;exact zO F hr hg hm hk hb .nil qX ha hd (ae (hs e ms0)) (aB λy hy=>hs y (mc0 _ hy)) _ s σ H Q I
  ⟨G0,H0,G,E,λvs G1 H1 e1 r1=>⟨ds,d,G1,h,e1.gh,by simp_all,λv G' H' e2 r2=>k v G' H' (e1.trans e2) r2⟩⟩
end
noncomputable def Its(x:Str):It:=⟨λi a=>i<x.cps.size,λi H v H'=>H'=H/\∃c,x.cps[i]?=some c/\v=.str ⟨#[c]⟩,λi a=>i=x.cps.size⟩
def xi{P}{w}{tg}{T}(it:Addr)(x:Str)(t:Tok)(hn:["enumerate","zip","dict_itemiterator","dict_reverseitemiterator","odict_iterator","itertools.zip_longest","itertools.pairwise"].contains T=false)
  (W:∀A:Around,A.handled=none->Walks P w A it [it] [it] x.cps.size (SignAt x) (λi h=>h.IsStrIter it T x t i))
  (S:∀(A:Around)(i:Nat)(s:Shared)(Q:Value->Shared->Prop)(E:Value->Shared->Prop),s.heap.IsStrIter it T x t i->Q (.ref it) s->wpAny (model P w) A (pyIter (.ref it)) Q E s):Turn P w K tg (Its x) [it] it (λi h=>h.IsStrIter it T x t i) where
 mem:=by simp
 obj:=λi h st b hb=>by
  have e:b=it:=by simpa using hb
  subst e;obtain⟨o,e,c,d⟩:=st<;>simp_all
 keep:=λi h h' st k=>by
  obtain⟨o,e,r⟩:=st;exact⟨o,k it (by simp) o e,r⟩
 item:=by
  intro X hP hw hK hc i pins s σ H E I hf st hg;subst hP hw hK;obtain⟨f0,f1,f2,f3,f4,f5⟩:=hf it (by simp);refine (W X.A (I.ok.hd hc)).item i s _ _ hg st λv h' tk hv st' kk=>?_
  obtain⟨c,u,hc',rfl⟩:=hv;have I1:Inv X pins σ H {s with heap:=h',toks:=tk}:=I.turned (λb o hb e=>kk b o (by simpa using hb) e) f0 f1 f3 f4 f5;obtain⟨o,e,c1,d1⟩:=id st';exact⟨_,rfl,qQ (s:={s with heap:=h',toks:=tk}) e c1 d1 hn ⟨.str ⟨#[c]⟩,H,I1,⟨u,rfl⟩,⟨rfl,c,hc',rfl⟩,st',λb hb=>(hf b hb).1⟩⟩
 done:=by
  intro X hP hw hK hc i pins s σ H E I hf st hg;subst hP hw hK;have hg:=hg;subst hg;obtain⟨f0,f1,f2,f3,f4,f5⟩:=hf it (by simp);exact (W X.A (I.ok.hd hc)).done s _ _ st λh' tk kk=>⟨rfl,I.turned (λb o hb e=>kk b o (by simpa using hb) e) f0 f1 f3 f4 f5⟩
 self:=S
def xj{l}{tl}(hl:PE X l tl):PI X tg l (λσ H R=>tl σ H λx H1=>∃t,x=.str t/\R (Its t) H1):=by
 intro pins s σ H R I h;refine thn (hl pins s σ H _ I h) ?_;rintro v s1 ⟨x,H1,I1,r1,q1⟩;obtain⟨a,e,q⟩:=q1;subst e;obtain⟨t,rfl⟩:=r1;have fin:∀(T:String)(o:Obj),["enumerate","zip","dict_itemiterator","dict_reverseitemiterator","odict_iterator","itertools.zip_longest","itertools.pairwise"].contains T=false->o={cls:=.type T,data:=.fields #[.str a t,.int 0 0]}->
   (∀A:Around,A.handled=none->Walks X.prog X.w A s1.heap.objs.size [s1.heap.objs.size] [s1.heap.objs.size] a.cps.size (SignAt a) (λi h=>h.IsStrIter s1.heap.objs.size T a t i))->
   (∀(A:Around)(i:Nat)(s:Shared)(Q:Value->Shared->Prop)(E:Value->Shared->Prop),s.heap.IsStrIter s1.heap.objs.size T a t i->Q (.ref s1.heap.objs.size) s->wpAny (model X.prog X.w) A (pyIter (.ref s1.heap.objs.size)) Q E s)->PIE X pins σ tg R (.ref s1.heap.objs.size) {s1 with heap:=s1.heap.push o}:=λT o hn ho W S=>by
  subst ho;refine⟨s1.heap.objs.size,[s1.heap.objs.size],_,_,H1,rfl,I1.kept (t':=s1.toks) λb o e=>ps0 _ e,xi _ a t hn W S,⟨_,pz0 _ rfl,rfl,rfl⟩,λb hb=>?_,q⟩;have e:b=s1.heap.objs.size:=by simpa using hb
  subst e;exact I1.fpOk (nr0 _) (I1.hok.fresh (nr0 _))
 cases ha:a.cps.all (·<128)
 .exact wpAny_pyIter_wide ha (fin _ _ (by decide) rfl (λA hA=>Walks.strWide hA _ a t) λc c c c c st h=>wpAny_pyIter_striter_wide st h)
 .exact wpAny_pyIter_ascii ha (fin _ _ (by decide) rfl (λA hA=>Walks.strAscii hA _ a t) λc c c c c st h=>wpAny_pyIter_striter_ascii st h)
noncomputable def tEk(K:Fg)(Y:List Sl)(d:D):TE:=λσ H Q=>∃G0 H0 G,EnvD K G0 H0 G H σ Y/\∀v G' H',Ext G H G' H'->Dr K G' H0 d v->Q v H'
def Ek(X:Cx)(Y:List Sl)(e:Expr)(d:D):Prop:=PE X e (tEk X.K Y d)
section
variable {e:Expr}{p:Pos}
def Ev.ek{e:Expr}(h:Ev X Y e d):Ek X Y e d:=by rintro pins s σ H Q I ⟨G0,H0,G,E,k⟩;exact h _ s σ H Q I ⟨G0,H0,G,E,λv G' H' e r=>k v G' H' e (.of r)⟩
def Dr.monoG{G G' H}{v}(s:Same G G'):Dr K G H d v->Dr K G' H d v
 |.of h=>.of (h.mono s)
 |.list h r=>.list h (r.mono s)
 |.dict h r=>.dict h (r.mono s)
 |.vlt h1 h2 r=>.vlt h1 h2 (r.mono s)
def Ft(i:Nat)(h:(Y[i]?).bind (aS .walk)=some d)(hN:X.N[i]?=some x)(hv:Vis X.env.scope x)(hd:(x==("__debug__":Str))=false)(hcd:(x==("__classdict__":Str))=false):Ek X Y (.Name x pos) d:=by
 rintro pins s σ H Q I ⟨G0,H0,G,E,k⟩
 obtain⟨sl,h1,h2⟩:=bx0 h;have:∃v,σ[i]?=some (some v)/\Dr X.K G H0 d v:=by
  cases sl with
  |no=>cases h2
  |dat d'=>cases h2;obtain⟨v,a,b⟩:=E.dat i d h1;exact⟨v,a,.of b⟩
  |lent d'=>cases h2;obtain⟨v,a,b⟩:=E.lent i d h1;exact⟨v,a,b.monoG E.ext.gg⟩
  |own d'=>cases h2
 obtain⟨v,e,r⟩:=this;exact cm hN hv hd hcd pins s σ H Q I ⟨v,e,k v G H (.refl E.sub) r⟩
structure ij(K:Fg)(G1 Hb:Hp)(J:It)(ds:List D):Prop where
 go:∀i H',i<ds.length->Same G1 H'->Same Hb H'->J.go i H'
 yld:∀i G' H' x H2 d,ds[i]?=some d->Same G1 G'->Same G' H'->Same Hb H'->J.yld i H' x H2->∃G2,Ext G' H' G2 H2/\Dp K G2 d x
 stop:∀H',Same G1 H'->Same Hb H'->J.stop ds.length H'
def src_list{G1 Hb}{a}{vs}(hq:∀H',Same G1 H'->Same Hb H'->SqL K H' a vs)(r:Dps K G1 ds vs):ij K G1 Hb (Itl K a) ds where
 go:=λi H' hi hs hb=>by
  have hl:i<vs.length:=by rwa [<-r.length]
  exact⟨vs,_,hq H' hs hb,ge0 hl⟩
 yld:=λi G' H' x H2 b hb g1 g2 g3 y=>by
  obtain⟨e,y⟩:=y;subst e;have:=y vs (hq _ (g1.trans g2) g3);obtain⟨v,e,d⟩:=r.get hb;rw[this]at e;cases e;exact⟨G',.refl g2,d.mono g1⟩
 stop:=λH' hs hb=>⟨vs,hq H' hs hb,by rw[<-r.length];simp⟩
def src_range{G1 Hb}(lo:Int)(n:Nat):ij K G1 Hb (Itr lo n) ((List.range n).map λ(k:Nat)=>.int (lo+k)) where
 go:=λi H' hi a a=>by rwa [lm0,lr0]at hi
 yld:=λi G' H' x H2 b hb g1 g2 a y=>by
  obtain⟨e,y⟩:=y;subst e y;have hi:i<n:=by have:=(gi0 hb).1;simp_all
  rw[gm0,List.getElem?_range hi]at hb;cases hb;exact⟨G',.refl g2,.int _⟩
 stop:=λH' a a=>by show n<=_;simp
def rG{G1 Hb}{x}(ok:PyData.strOk x=true):ij K G1 Hb (Its x) (x.cps.toList.map λc=>.str ⟨#[c]⟩) where
 go:=λi H' hi a a=>by rwa [lm0]at hi
 yld:=λi G' H' v H2 b hb g1 g2 a y=>by
  obtain⟨e,c,hc,y⟩:=y;subst e y;rw[gm0,Array.getElem?_toList,hc]at hb;cases hb;refine⟨G',.refl g2,.str _ (km ?_)⟩;rw[<-Array.getElem?_toList]at hc;exact strOk_iff.mp ok c (mg0 hc)
 stop:=λH' a a=>by show _=x.cps.size;simp
theorem nZ{G}:∀ns:List Int,Dps K G (ns.map .int) (ns.map V.int)
 |[]=>.nil
 |n::r=>.cons (.int n) (nZ r)
noncomputable def tSi(K:Fg)(Y:List Sl)(wk:Bool)(ds:List D):TI:=λσ H R=>∃G0 H0 G,EnvD K G0 H0 G H σ Y/\∀J G' H',Ext G H G' H'->ij K G' (if wk then H0 else H') J ds->R J H'
def Si(X:Cx)(Y:List Sl)(wk:Bool)(iter:Expr)(ds:List D):Prop:=∀tg,PI X tg iter (tSi X.K Y wk ds)
def xl{ds'}{d}(h:iU d=some ds')(hk:Ek X Y iter d):Si X Y true iter ds':=by
 intro tg pins s σ H R I h0;obtain⟨G0,H0,G,E,k⟩:=h0;cases d with
 |list ls=>
  cases h;refine ix hk pins s σ H R I ⟨G0,H0,G,E,λv G1 H1 e1 r1=>?_⟩;have now:=(E.step e1).ext.hh;cases r1 with
  |of r1=>cases r1 with
   |list hq r=>exact⟨_,rfl,⟨_,SqL.of (e1.gh _ _ hq)⟩,k _ G1 H1 e1 (src_list (λH' g a=>SqL.of (g _ _ hq)) r)⟩
  |list hq r=>exact⟨_,rfl,⟨_,SqL.of (now _ _ hq)⟩,k _ G1 H1 e1 (src_list (λH' a g=>SqL.of (g _ _ hq)) r)⟩
 |str x=>
  rw[items_str]at h;split at h
  .cases h
   refine xj hk pins s σ H R I ⟨G0,H0,G,E,λv G1 H1 e1 r1=>?_⟩;obtain⟨rfl,ok⟩:=r1.str;exact⟨_,rfl,k _ G1 H1 e1 (rG ok)⟩
  .cases h
 |_=>cases h
def um{ds'}{d}(h:iU d=some ds')(hk:Er X Y iter d):Si X Y false iter ds':=by
 intro tg pins s σ H R I h0;obtain⟨G0,H0,G,E,k⟩:=h0;cases d with
 |list ls=>
  cases h;refine ix hk pins s σ H R I ⟨G0,H0,G,E,λv G1 H1 e1 r1=>?_⟩;obtain⟨p,vs,rfl,hq,r⟩:=r1.lst e1.gh;exact⟨_,rfl,⟨_,SqL.of hq⟩,k _ G1 H1 e1 (src_list (λH' a g=>SqL.of (g _ _ hq)) r)⟩
 |str x=>
  rw[items_str]at h;split at h
  .cases h
   refine xj hk pins s σ H R I ⟨G0,H0,G,E,λv G1 H1 e1 r1=>?_⟩;obtain⟨rfl,ok⟩:=r1.str;exact⟨_,rfl,k _ G1 H1 e1 (rG ok)⟩
  .cases h
 |_=>cases h
def qj{n}(h:rOk n=true):-(2 ^ 62)<=n/\n<2 ^ 62:=by
 unfold rOk at h
 simp_all
def uo{wk}{n}{p pos}(B:Blt X "range")(ha:Ev X Y a (.int n))(h:rOk n=true)(hs:isStar a=false):Si X Y wk (.Call (.Name "range" p) [a] [] pos) ((List.range n.toNat).map λ(k:Nat)=>.int k):=by
 have e:((List.range n.toNat).map λ(k:Nat)=>D.int k)=(List.range n.toNat).map λk=>.int (0+k):=by simp
 rw[e];intro tg pins s σ H R I h0;obtain⟨G0,H0,G,E,k⟩:=h0;refine tq B.g B.m (fC (fl:=[]) ha lH hs) (by rw[ae hs];rfl) _ s σ H R I ⟨G0,H0,G,E,λvs G1 H1 e1 r1=>?_⟩;obtain⟨v,rfl,hv⟩:=r1.one;exact⟨n,by rw[hv.int],(qj h).1,(qj h).2,k _ G1 H1 e1 (src_range 0 _)⟩
end
noncomputable def Itd(lo:Int)(n:Nat):It:=⟨λi a=>i<n,λi H x H'=>H'=H/\x=.int (lo-i),λi a=>n<=i⟩
def uq{P}{w}{tg}(it:Addr)(lo:Int)(n:Nat):Turn P w K tg (Itd lo n) [it] it (λi h=>IsRangeIter h it (lo+(i:Nat)*(-1)) ((n:Int)-(i:Nat)) (-1)) where
 mem:=by simp
 obj:=λi h st b hb=>by
  have e:b=it:=by simpa using hb
  subst e;exact⟨_,st,λv z=>by
   have z':=z;cases z'⟩
 keep:=λi h h' st k=>k it (by simp) _ st
 item:=by
  intro X hP hw hK hc i pins s σ H E I hf st hg;subst hP hw hK;obtain⟨f0,f1,f2,f3,f4,f5⟩:=hf it (by simp);have W:=Walks.range (prog:=X.prog) (w:=X.w) (I.ok.hd hc) it lo (-1) n;refine W.item i s _ _ hg st λv h' tk hv st' kk=>?_
  obtain⟨t,rfl⟩:=hv;have I1:Inv X pins σ H {s with heap:=h',toks:=tk}:=I.turned (λb o hb e=>kk b o (by simpa using hb) e) f0 f1 f3 f4 f5;refine⟨_,rfl,qQ (s:={s with heap:=h',toks:=tk}) (n:="range_iterator") st' rfl rfl (by decide) ⟨.int (lo-i),H,I1,⟨t,?_⟩,⟨rfl,rfl⟩,st',λb hb=>(hf b hb).1⟩⟩;rw[show lo+(i:Int)*(-1)=lo-i by omega]
 done:=by
  intro X hP hw hK hc i pins s σ H E I hf st hg;subst hP hw hK;obtain⟨f0,f1,f2,f3,f4,f5⟩:=hf it (by simp);exact wpAny_pyNext_range_end (I.ok.hd hc) st (by have:n<=i:=hg;omega) λh' eb=>⟨rfl,I.turned (t':=s.toks) (λb o hb e=>eb b o hb e) f0 f1 f3 f4 f5⟩
 self:=λa a a a a st h=>wpAny_pyIter_rangeiter st h
section
variable {e:Expr}{p:Pos}
def xm{K}{G1 Hb}(lo:Int)(n:Nat):ij K G1 Hb (Itd lo n) ((List.range n).map λ(k:Nat)=>.int (lo-k)) where
 go:=λi H' hi a a=>by rw[lm0,lr0]at hi;exact hi
 yld:=λi G' H' x H2 b hb g1 g2 a y=>by
  obtain⟨e,y⟩:=y;subst e y;have hi:i<n:=by have:=(gi0 hb).1;rwa [lm0,lr0]at this
  rw[gm0,List.getElem?_range hi]at hb;cases hb;exact⟨G',.refl g2,.int _⟩
 stop:=λH' a a=>by show n<=_;rw[lm0,lr0];exact nr0 _
def xo:bootBuiltins ("reversed":Str)=some (.type "reversed"):=by decide +kernel
end
end L2.Z
namespace PySem
namespace F
def sub_ri_reversed:isSubtype (.type "range_iterator") (.type "reversed")=pure false:=by rw[isSubtype_type];kernel_rfl
end F
def dU(r:Addr)(a b c:Int)(t u v:Tok)(hc0:¬(!(Builtin.Range.rangeFitsLong a&&Builtin.Range.rangeFitsLong b&&Builtin.Range.rangeFitsLong c&&Builtin.Range.rangeFitsLong (-c)&&Builtin.Range.rangeFitsLong (a-c)&&Builtin.Range.rangeFitsLong (Builtin.Range.rangeSize a b c)))=true):
  Meets (Builtin.«range.__reversed__» ⟨[.ref r],[]⟩) (λe R s=>s.heap.get? r=some {cls:=.type "range",dict:=none,data:=.fields #[.int a t,.int b u,.int c v],slots:=#[]}/\R (.ok (.ret (Value.ref s.heap.objs.size))) {s with heap:=s.heap.push {cls:=Value.type (if (Builtin.Range.rangeFitsLong a&&Builtin.Range.rangeFitsLong b&&Builtin.Range.rangeFitsLong c&&Builtin.Range.rangeFitsLong (-c)&&Builtin.Range.rangeFitsLong (a-c)&&Builtin.Range.rangeFitsLong (Builtin.Range.rangeSize a b c))=true then "range_iterator" else "longrange_iterator"),data:=Data.fields #[rawInt (a+(Builtin.Range.rangeSize a b c-1)*c),rawInt (Builtin.Range.rangeSize a b c),rawInt (-c)]},toks:=s.toks}):=
 .of_wp λprog w A R s h=>by obtain⟨hp,g,d,tk,os⟩:=s;obtain⟨hl,h⟩:=h;wp_walk;exact⟨_,rfl,h⟩
section
variable {A:Around}{E:Value->Shared->Prop}
def fO(n:Int):Builtin.Range.rangeSize 0 n 1=(n.toNat:Int):=by
 unfold Builtin.Range.rangeSize;rw[if_pos (by decide)];split<;>omega
noncomputable abbrev rH(n:Int):Obj:={cls:=.type "range_iterator",data:=.fields #[rawInt ((n.toNat:Int)-1),rawInt (n.toNat:Int),rawInt (-1)]}
def eN{r}{n:Int}{t u v}{Q}(hr:IsRange s.heap r 0 n 1 t u v)(h1:-(2 ^ 62)<=n)(h2:n<2 ^ 62)
  (h:Q (.ref s.heap.objs.size) {s with heap:=s.heap.push (rH n)}):wpAny (model prog w) A (call (.builtin "range.__reversed__") [.ref r]) Q E s:=by
 have hT:s.TypeIs (.ref r) "range":=⟨_,hr,rfl⟩;have hs:(Builtin.Range.rangeFitsLong 0&&Builtin.Range.rangeFitsLong n&&Builtin.Range.rangeFitsLong 1&&Builtin.Range.rangeFitsLong (-1)&&Builtin.Range.rangeFitsLong (0-1)&&Builtin.Range.rangeFitsLong (Builtin.Range.rangeSize 0 n 1))=true:=by
  rw[fO];simp only[Builtin.Range.rangeFitsLong,be0,decide_eq_true_eq];omega
 refine call_meets F.slot_range_reversed hT F.entry_range_reversed (F.args_range_reversed_1 _) (dU r 0 n 1 t u v (by rw[hs];decide)) ⟨hr,?_⟩;rw[hs,fO];simp only[if_true];have e:(0:Int)+((n.toNat:Int)-1)*1=(n.toNat:Int)-1:=by omega
 rw[e];exact h
def fh{r}{n:Int}{t u v}{Q₁}(hr:IsRange s.heap r 0 n 1 t u v)(h1:-(2 ^ 62)<=n)(h2:n<2 ^ 62)
  (h:Q₁ (.ref s.heap.objs.size) {s with heap:=s.heap.push (rH n)}):
  codeAny (model prog w) A (.call (.builtin "reversed.__new__") ⟨[.type "reversed",.ref r],[]⟩) (wants Q₁ E) s:=by
 have hT:s.TypeIs (.ref r) "range":=⟨_,hr,rfl⟩;refine codeAny_of_tree ?_;show wpAny _ A.in1 (do checkBuiltinCall "reversed.__new__" ⟨[.type "reversed",.ref r],[]⟩;again (.builtin "reversed.__new__" ⟨[.type "reversed",.ref r],[]⟩)) _ _ s;refine wb0 (wpAny_of_eq (F.newCall_reversed_1 _) (wq0 ⟨plainId_quiet F.plain_reversed_new _,codeAny_builtin F.entry_reversed_new ?_⟩));rw[ui0 F.plain_reversed_new _];unfold Builtin.«reversed.__new__»;refine wb0 (wpAny_of_eq (newClass_reversed _) ?_)
 try dsimp only
 refine wb0 (wpAny_of_eq (a:=()) (by first|rfl|kernel_rfl) ?_);refine wb0 (wpAny_of_eq (a:=()) (by first|rfl|kernel_rfl) ?_)
 try dsimp only
 refine wb0 (wpAny_specialOf hT F.slot_range_reversed.lookup ?_)
 try dsimp only
 refine wb0 (wpAny_of_eq (F.slot_range_reversed.bind _) ?_)
 try dsimp only
 first
 |rw[if_neg (fx0:¬ ((Value.builtin "range.__reversed__"==Value.none)=true))]
 |(show wpAny _ _ (if (Value.builtin "range.__reversed__"==Value.none)=true then _ else _) _ _ _;rw[if_neg (show ¬ ((Value.builtin "range.__reversed__"==Value.none)=true)from fx0)])
 refine wb0 (wpAny_rule ?_);refine wb0 (m:=runValue (.call (.builtin "range.__reversed__") ⟨[.ref r],[]⟩)) (eN hr h1 h2 ?_:wpAny _ _ (call (.builtin "range.__reversed__") [.ref r]) _ _ _)
 first
 |exact wq0 h
 |exact wb0 (wq0 (wq0 h))
def eO{r}{n:Int}{t u v}{Q}(hr:IsRange s.heap r 0 n 1 t u v)(h1:-(2 ^ 62)<=n)(h2:n<2 ^ 62)
  (h:Q (.ref s.heap.objs.size) {s with heap:=s.heap.push (rH n)}):wpAny (model prog w) A (call (.type "reversed") [.ref r]) Q E s:=by
 refine callType_other (U:="range_iterator") (Q₁:=λobj s₁=>obj=.ref s.heap.objs.size/\s₁={s with heap:=s.heap.push (rH n)}) (by decide +kernel) F.create_reversed ⟨_,_,F.mro_reversed⟩ F.made_reversed F.sub_ri_reversed (F.typeCall_reversed_1 _) (fh hr h1 h2 ⟨rfl,rfl⟩) ?_
 rintro obj s₁ ⟨rfl,rfl⟩
 exact⟨⟨_,pz0 _ rfl,rfl⟩,h⟩
end
end PySem
namespace L2.Z
open PySem PySem.Spec PyProof.Rows L2 L2.C SI
section
variable {e:Expr}{p:Pos}
def AC{wk}{n:Int}{p p2 pos pos2}(B:Blt X "range")(B2:Blt X "reversed")(ha:Ev X Y a (.int n))(h:rOk n=true)(hs:isStar a=false):
  Si X Y wk (.Call (.Name "reversed" p2) [.Call (.Name "range" p) [a] [] pos] [] pos2) ((List.range n.toNat).reverse.map λ(k:Nat)=>.int k):=by
 intro tg pins s σ H R I h0;obtain⟨G0,H0,G,E,k⟩:=h0;obtain⟨b1,b2⟩:=qj h;have hA:Ea X Y [] [a] [.int n]:=fC ha lH hs;refine Call_ (ld_blt I B2.g B2.m xo (PyProof.Rows.callWith_type1 (Calls.spliced_cons ?_) rfl rfl));refine Call_ (ld_blt I B.g B.m boot_range (PyProof.Rows.callWith_type1 (thn (hA pos pins s σ H _ I ⟨G0,H0,G,E,λvs G1 H1 e1 r1=>(⟨G1,e1,r1⟩:∃G1,Ext G H G1 H1/\Das X.K G1 H1 [] [.int n] vs)⟩) λus s1 ⟨vs,H1,I1,r1,q1⟩=>?_) (ae hs) rfl));obtain⟨G1,e1,q1⟩:=q1;obtain rfl:vs=[.int n]:=by
  cases q1 with
  |cons _ h1 r=>cases r;rw[h1.int]
 cases r1 with
 |cons r rr=>
  cases rr;obtain⟨t,rfl⟩:=r;refine call_range_1 (Calls.spliced_nil ?_);have I2:Inv X pins σ H1 {s1 with heap:=s1.heap.push {cls:=.type "range",data:=.fields #[.int 0 s1.toks,.int n t,.int 1 (s1.toks+1)]},toks:=s1.toks+1+1}:=I1.kept λb o e=>ps0 _ e
  refine PySem.eO (r:=s1.heap.objs.size) (t:=s1.toks) (u:=t) (v:=s1.toks+1) (pz0 _ rfl) b1 b2 ?_;refine wpAny_pyIter_rangeiter (x:=(n.toNat:Int)-1) (left:=(n.toNat:Int)) (step:=-1) (pz0 _ rfl) ?_;generalize hs2:({s1 with heap:=s1.heap.push {cls:=.type "range",data:=.fields #[.int 0 s1.toks,.int n t,.int 1 (s1.toks+1)]},toks:=s1.toks+1+1}:Shared)=s2 at I2;refine⟨s2.heap.objs.size,[s2.heap.objs.size],_,_,H1,by subst hs2;rfl,?_,uq _ ((n.toNat:Int)-1) n.toNat,?_,λb hb=>?_,k _ G1 H1 e1 ((by
    have e:((List.range n.toNat).reverse.map λ(k:Nat)=>D.int k)=(List.range n.toNat).map λ(k:Nat)=>.int ((n.toNat:Int)-1-k):=by
     apply List.ext_getElem?
     intro i;rw[gm0,gm0]
     by_cases h:i<n.toNat
     .rw[List.getElem?_reverse (by simpa using h),lr0,List.getElem?_range (by omega),List.getElem?_range h]
      show some (D.int _)=some (D.int _);rw[show ((n.toNat-1-i:Nat):Int)=(n.toNat:Int)-1-i by omega]
     .rw[List.getElem?_eq_none (by simp;omega),List.getElem?_eq_none (by simp;omega)];rfl
    rw[e];exact xm _ _))⟩
  .subst hs2
   exact I2.kept (t':=s1.toks+1+1) λb o e=>ps0 _ e
  .subst hs2
   show IsRangeIter _ _ ((n.toNat:Int)-1+((0:Nat):Int)*(-1)) ((n.toNat:Int)-((0:Nat):Int)) (-1);rw[show (n.toNat:Int)-1+((0:Nat):Int)*(-1)=(n.toNat:Int)-1 by omega,show (n.toNat:Int)-((0:Nat):Int)=(n.toNat:Int) by omega];exact pz0 _ rfl
  .have e:b=s2.heap.objs.size:=by simpa using hb
   subst e;subst hs2;exact I2.fpOk (nr0 _) (I2.hok.fresh (nr0 _))
end
end L2.Z
namespace PySem
section
variable {A:Around}{E:Value->Shared->Prop}
def gP{a b}{h h'}{o}(sb:Heap.SameBut a h h')(hn:b≠a)(e:h.get? b=o):h'.get? b=o:=(sb.2 b hn).trans e
namespace F
end F
end
end PySem
namespace L2.Z
open PySem PySem.Spec PyProof.Rows L2 L2.C SI
section
variable {h':Heap}
def AD{t'}(I:Inv X pins σ H s)(hf:∀b∈fp,iO X pins H b)(k:∀b o,b∉fp->s.heap.get? b=some o->h'.get? b=some o):Inv X pins σ H {s with heap:=h',toks:=t'}:=by
 have nit:∀b u,H b=some u->b∉fp:=λb u e z=>by rw[(hf b z).1]at e;cases e
 refine I.step (λb hb=>?_) (λb o a a hc e a=>k b o hc e) (λb o a a hc e a=>⟨_,k b o hc e⟩) (λa a a a n=>n)
  (λb o hc e=>⟨o,k b o hc e⟩) (λa a e=>e) (λa a a e=>e) (λb ps e=>⟨#[],by simp_all⟩) (λm hm=>?_) (λb u e=>?_) I.bare
 .obtain⟨_,f1,f2,f3,f4,f5⟩:=hf b hb
  exact⟨f3,f1,f4,f5⟩
 .obtain⟨o,es,ep,ho,r⟩:=hm
  exact⟨o,es,ep,k _ o (λz=>(hf _ z).2.1 rfl) ho,r⟩
 .refine (I.hok b u e).stay (λc v hc q=>k c v ?_ q) (λa q=>q) λa a q=>q
  rcases hc with z|z
  .rw[z];exact nit b u e
  .exact nit c _ z
def xp{t'}{o}(I:Inv X pins σ H s)(hf:∀b∈fp,iO X pins H b)(k:∀b o,b∉fp->s.heap.get? b=some o->h'.get? b=some o)(hT:s.heap.objs.size<=T)
  (new:ObjOk X.prog X.w (upd H T o) h' T o):Inv X pins σ (upd H T o) {s with heap:=h',toks:=t'}:=by
 have nit:∀b u,H b=some u->b∉fp:=λb u e z=>by rw[(hf b z).1]at e;cases e
 have nT:∀b u,s.heap.get? b=some u->b≠T:=λb u e z=>by subst z;exact absurd (nl0 (hs0 e) hT) (li0 _)
 have nH:∀b u,H b=some u->b≠T:=λb u e z=>by subst z;exact absurd (nl0 (I.hok b u e).lt hT) (li0 _)
 refine I.step (ch:=fp) (λb hb=>?_) (λb o a a hc e a=>k b o hc e) (λb o a a hc e a=>⟨o.slots,k b o hc e⟩) (λb o a e n=>by rw[aa (nT b o e)];exact n)
  (λb o hc e=>⟨o,k b o hc e⟩) (λb a e=>by rw[aa (nH b _ e)];exact e) (λb a a e=>by rw[aa (nH b _ e)];exact e) (λb ps e=>⟨#[],by rw[aa (nH b _ e),e];simp⟩) (λm hm=>?_) (λb u e=>?_) I.bare
 .obtain⟨_,f1,f2,f3,f4,f5⟩:=hf b hb
  exact⟨f3,f1,f4,f5⟩
 .obtain⟨o,es,ep,ho,r⟩:=hm
  exact⟨o,es,ep,k _ o (λz=>(hf _ z).2.1 rfl) ho,r⟩
 .by_cases hb:b=T
  .subst hb
   rw[upd_same]at e
   simp_all
  .rw[aa hb]at e
   refine (I.hok b u e).stay (λc v hc q=>k c v ?_ q) (λc q=>by rw[aa (nH c _ q)];exact q) λc a q=>by rw[aa (nH c _ q)];exact q
   rcases hc with z|z
   .rw[z];exact nit b u e
   .exact nit c _ z
end
def fj{a b}{o u}(ha:h.get? a=some o)(hb:h.get? b=some u)(hc:o.cls≠u.cls):a≠b:=λe=>by grind
section
variable {p:Pos}
def boot_zip:bootBuiltins ("zip":Str)=some (.type "zip"):=rfl
end
noncomputable def Itp(K:Fg)(l1 l2:Addr)(n:Nat):It:=
 ⟨λi H=>i<n/\∃xs ys,SqL K H l1 xs/\SqL K H l2 ys/\n<=xs.length/\ys.length=n,
  λi H x H'=>∃T,x=.ref T/\H T=none/\∀xs ys,SqL K H l1 xs->SqL K H l2 ys->∃a b,xs[i]?=some a/\ys[i]?=some b/\H'=upd H T (.tup [a,b]),
  λi H=>i=n/\∃xs ys,SqL K H l1 xs/\SqL K H l2 ys/\ys.length=n⟩
def Pst(z TI TO i1 i2 l1 l2:Addr)(i:Nat)(h:Heap):Prop:=
 IsZip h z TI TO .none/\IsPair h TI (.ref i1) (.ref i2)/\(∃a b,IsPair h TO a b)/\h.IsListIter i1 l1 i/\h.IsListIter i2 l2 i
def jl{h}{z TI TO i1 i2 l1 l2}{a b}{k1 k2}{xs ys}(hTT:TI≠TO)(h12:i1≠i2)(hz:IsZip h z TI TO .none)(ht:IsPair h TI (.ref i1) (.ref i2))(ho:IsPair h TO a b)
  (q1:h.IsListIter i1 l1 k1) (q2:h.IsListIter i2 l2 k2) (p1:h.IsList l1 xs) (p2:h.IsList l2 ys):ZipApart z TI TO i1 i2 l1 l2:=by
 obtain⟨o1,e1,c1,_⟩:=q1;obtain⟨o2,e2,c2,_⟩:=q2;obtain⟨o3,e3,c3,_⟩:=p1;obtain⟨o4,e4,c4,_⟩:=p2;have cz:∀{x:Addr}{o:Obj},h.get? x=some o->o.cls≠.type _->x≠z:=λe hn=>fj e hz hn
 have ct:∀{x:Addr}{o:Obj},h.get? x=some o->o.cls≠.type "tuple"->x≠TO:=λe hn=>fj e ho hn
 have cI:∀{x:Addr}{o:Obj},h.get? x=some o->o.cls≠.type "tuple"->x≠TI:=λe hn=>fj e ht hn
 exact⟨cz ht (by decide:Value.type "tuple"≠Value.type "zip"),cz ho (show Value.type "tuple"≠Value.type "zip" by decide),cz e1 (by rw[c1];decide),cz e2 (by rw[c2];decide),hTT,(cI e1 (by rw[c1];decide)).symm,(cI e2 (by rw[c2];decide)).symm,
  (ct e1 (by rw[c1];decide)).symm,(ct e2 (by rw[c2];decide)).symm,h12,cz e3 (by rw[c3];decide),ct e3 (by rw[c3];decide),fj e3 e1 (by rw[c3,c1];decide),fj e3 e2 (by rw[c3,c2];decide),
  cz e4 (by rw[c4];decide),ct e4 (by rw[c4];decide),fj e4 e1 (by rw[c4,c1];decide),fj e4 e2 (by rw[c4,c2];decide)⟩
def ur{tk:Nat}{tpos:Pos}{TI TO:Addr}(n:Nat)(hTT:TI≠TO)(h12:i1≠i2):
  Turn P w K (.Tuple elts tk tpos) (Itp K l1 l2 n) [z,TI,TO,i1,i2] z (Pst z TI TO i1 i2 l1 l2) where
 mem:=by simp
 obj:=λi h st b hb=>by
  obtain⟨hz,ht,⟨a,c,ho⟩,⟨o1,e1,c1,d1⟩,⟨o2,e2,c2,d2⟩⟩:=st;simp only[List.mem_cons,List.not_mem_nil,or_false]at hb;rcases hb with rfl|rfl|rfl|rfl|rfl
  .exact⟨_,hz,λv q=>by cases q⟩
  .exact⟨_,ht,λv q=>by cases q⟩
  .exact⟨_,ho,λv q=>by cases q⟩
  .exact⟨_,e1,λv q=>by rw[d1]at q;cases q⟩
  .exact⟨_,e2,λv q=>by rw[d2]at q;cases q⟩
 keep:=λi h h' st k=>by
  obtain⟨hz,ht,⟨a,c,ho⟩,q1,q2⟩:=st;exact⟨k _ (by simp) _ hz,k _ (by simp) _ ht,⟨a,c,k _ (by simp) _ ho⟩,q1.at (k _ (by simp)),q2.at (k _ (by simp))⟩
 item:=by
  intro X hP hw hK hc i pins s σ H E I hf st hg;subst hP hw hK;obtain⟨hi,xs,ys,s1,s2,n1,n2⟩:=hg;obtain⟨it1,rv1,p1,z1⟩:=I.list s1;obtain⟨it2,rv2,p2,z2⟩:=I.list s2;have g1:xs[i]?=some (xs[i]'(by omega)):=ge0 _;have g2:ys[i]?=some (ys[i]'(by omega)):=ge0 _;generalize xs[i]'(by omega)=va at g1;generalize ys[i]'(by omega)=vb at g2;obtain⟨u1,hu1,ru1⟩:=rv1.get g1;obtain⟨u2,hu2,ru2⟩:=rv2.get g2;obtain⟨hz,ht,⟨a,b,ho⟩,q1,q2⟩:=st;have ap:=jl hTT h12 hz ht ho q1 q2 p1.isList p2.isList;refine wpAny_pyNext_zip_item ap hz ht ho q1 q2 p1.isList p2.isList (x:=u1) (y:=u2) (by simpa using hu1) (by simpa using hu2) λh1 a1 a3 a4 a5 a7 a8 a9=>⟨_,rfl,?_⟩
  refine wpAny_letOwnedTupleGo_zip a1 λh2 b1 sb=>?_
  have nz:s.heap.objs.size≠z:=λe=>by have:=hs0 hz;rw[<-e]at this;exact absurd this (li0 _)
  have kk:∀b o,b∉[z,TI,TO,i1,i2]->s.heap.get? b=some o->h2.get? b=some o:=λb o hb e=>by
   simp only[List.mem_cons,List.not_mem_nil,or_false,not_or]at hb;exact gP sb hb.1 (a9 b o hb.1 hb.2.2.1 hb.2.2.2.1 hb.2.2.2.2 e)
  have I2:=xp (h':=h2) (t':=s.toks) (o:=.tup [va,vb]) I hf kk (nr0 _) ⟨(show 2<=sizeLine by decide),[u1,u2],.cons ru1 (.cons ru2 .nil),⟨_,gP sb nz a7,rfl,_,rfl⟩⟩;refine⟨.ref s.heap.objs.size,_,I2,rfl,⟨_,rfl,I.fresh,λxs' ys' t1 t2=>⟨va,vb,by rw[I.list_inj t1 s1];exact g1,by rw[I.list_inj t2 s2];exact g2,rfl⟩⟩,?_,λb hb=>?_⟩
  .exact⟨b1,gP sb ap.TIz (a9 TI _ ap.TIz ap.TITO ap.TIi1 ap.TIi2 ht),⟨_,_,gP sb ap.TOz a3⟩,a4.at λo e=>gP sb ap.i1z e,a5.at λo e=>gP sb ap.i2z e⟩
  .have hb0:=(hf b hb).1
   rw[aa]
   .exact hb0
   .intro e
    have hlt:∃o,s.heap.get? b=some o:=by
     simp only[List.mem_cons,List.not_mem_nil,or_false]at hb;obtain⟨o1,e1,_⟩:=q1;obtain⟨o2,e2,_⟩:=q2;rcases hb with rfl|rfl|rfl|rfl|rfl
     .exact⟨_,hz⟩
     .exact⟨_,ht⟩
     .exact⟨_,ho⟩
     .exact⟨_,e1⟩
     .exact⟨_,e2⟩
    obtain⟨o,eo⟩:=hlt;have:=hs0 eo;rw[e]at this;exact absurd this (li0 _)
 done:=by
  intro X hP hw hK hc i pins s σ H E I hf st hg;subst hP hw hK;obtain⟨rfl,xs,ys,s1,s2,n2⟩:=hg;obtain⟨it1,rv1,p1,z1⟩:=I.list s1;obtain⟨it2,rv2,p2,z2⟩:=I.list s2;obtain⟨hz,ht,⟨a,b,ho⟩,q1,q2⟩:=st;have ap:=jl hTT h12 hz ht ho q1 q2 p1.isList p2.isList;have hx:it2.toArray[i]?=none:=by
   have:=rv2.length;simp;omega
  exact wpAny_pyNext_zip_end (I.ok.hd hc) ap hz ht ho q1 q2 p1.isList p2.isList (.inr hx) λh' a1=>⟨rfl,AD (t':=s.toks) (fp:=[z,TI,TO,i1,i2]) I hf λb o hb eb=>a1 b o (λq=>hb (by simp[q])) (λq=>hb (by simp[q])) (λq=>hb (by simp[q])) (λq=>hb (by simp[q])) eb⟩
 self:=λd d d d d st h=>PySem.wpAny_pyIter_zip st.1 h
section
variable {p:Pos}
def xq :∀{i:Nat}{d:D},(zip2 ls ms)[i]?=some d->∃x y,ls[i]?=some x/\ms[i]?=some y/\d=.tuple [x,y]:=by
 induction ls generalizing ms with
 |nil=>intro i d h;simp_all
 |cons x r ih=>
  intro i d h;cases ms with
  |nil=>simp_all
  |cons y q=>cases i with
   |zero=>simp only[zip2,List.getElem?_cons_zero,Option.some.injEq]at h;exact⟨x,y,rfl,rfl,h.symm⟩
   |succ i=>exact ih h
def oa(h1:ms.length<=ls.length):(zip2 ls ms).length=ms.length:=by
 induction ls generalizing ms with
 |nil=>simp_all
 |cons x r ih=>
  cases ms<;>simp_all
def xr{K}{G1 Hb}{l1 l2}{vs us}(h1:Hb l1=some (.lst vs))(h2:Hb l2=some (.lst us))(r1:Dps K G1 ls vs)(r2:Dps K G1 ms us)
  (e1:ms.length<=ls.length):ij K G1 Hb (Itp K l1 l2 ms.length) (zip2 ls ms) where
 go:=λi H' hi hs hb=>⟨by rwa [oa e1]at hi,vs,us,SqL.of (hb _ _ h1),SqL.of (hb _ _ h2),by rwa [<-r1.length],r2.length.symm⟩
 yld:=λi G' H' x H2 d hd g1 g2 g3 y=>by
  obtain⟨T,rfl,hT,y⟩:=y;obtain⟨a,b,y1,y2,rfl⟩:=y vs us (SqL.of (g3 _ _ h1)) (SqL.of (g3 _ _ h2));obtain⟨x1,x2,k1,k2,rfl⟩:=xq hd;obtain⟨v1,w1,d1⟩:=r1.get k1;obtain⟨v2,w2,d2⟩:=r2.get k2;rw[y1]at w1;cases w1;rw[y2]at w2;cases w2;have ex:Ext G' H' _ (upd H' T (.tup [a,b])):=.laid g2 hT;exact⟨_,ex,.tuple upd_same (.cons ((d1.mono g1).mono ex.gg) (.cons ((d2.mono g1).mono ex.gg) .nil))⟩
 stop:=λH' hs hb=>⟨oa e1,vs,us,SqL.of (hb _ _ h1),SqL.of (hb _ _ h2),r2.length.symm⟩
def AE{elts}{tk}{tpos}(B:Blt X "zip")(hA:Ea X Y [true,true,true] [a,b] [.list ls,.list ms])(hst:aI [a,b])(e1:ms.length<=ls.length):
  PI X (.Tuple elts tk tpos) (.Call (.Name "zip" p) [a,b] [] pos) (tSi X.K Y false (zip2 ls ms)):=by
 intro pins s σ H R I h0;obtain⟨G0,H0,G,E,k⟩:=h0;refine Call_ (ld_blt I B.g B.m boot_zip (PyProof.Rows.callWith_type1 (thn (hA pos pins s σ H _ I ⟨G0,H0,G,E,λvs G1 H1 e1 r1=>(⟨G1,e1,r1⟩:∃G1,Ext G H G1 H1/\Das X.K G1 H1 [true,true,true] [.list ls,.list ms] vs)⟩) λus s1 ⟨vs,H1,I1,r1,q1⟩=>?_) (ae (hst a (by simp))) (aB (es:=[b]) λx hx=>hst x (mc0 _ hx))));obtain⟨G1,x1,q1⟩:=q1;obtain⟨v,w,rfl,d1,d2⟩:=q1.two;obtain⟨l1,vs1,rfl,hq1,rr1⟩:=d1.lst x1.gh;obtain⟨l2,vs2,rfl,hq2,rr2⟩:=d2.lst x1.gh;cases r1 with
 |cons r rr=>cases rr with
  |cons r' rr=>
   cases rr;cases r;cases r';obtain⟨it1,_,p1,_⟩:=I1.list (SqL.of hq1);obtain⟨it2,_,p2,_⟩:=I1.list (SqL.of hq2);refine PySem.call_zip_2 p1.isList p2.isList λh' a1 a2 a3 a4 a5 a7 a8=>?_
   refine PySem.wpAny_pyIter_zip a1 ⟨_,[_,_,_,_,_],_,_,H1,rfl,I1.kept (t':=s1.toks) a8,ur ms.length (nn0 (by simp_all)) (nn0 (by simp_all)),⟨a1,a2,⟨_,_,a3⟩,a4,a5⟩,λb hb=>?_,k _ G1 H1 x1 (xr hq1 hq2 rr1 rr2 e1)⟩;have hle:s1.heap.objs.size<=b:=by
    simp only[List.mem_cons,List.not_mem_nil,or_false]at hb;rcases hb with rfl|rfl|rfl|rfl|rfl<;>first|exact Nat.le_add_right _ _|exact nr0 _
   exact I1.fpOk hle (I1.hok.fresh hle)
end
def Tgj(X:Cx)(tg:Expr)(t:Tg):Prop:=∀d,PG X tg (λv σ H Q=>∃G0 H0 G Y Y',EnvD X.K G0 H0 G H σ Y/\Dp X.K G d v/\aw t d Y=some Y'/\∀σ',EnvD X.K G0 H0 G H σ' Y'->Q σ' H)
section
variable {e:Expr}{ifs:List Expr}{p:Pos}
def og{x}(hN:X.N.Nodup)(hi:X.N[i]?=some x)(hx:Loc X.env.scope x)(hf:X.fn x=true\/X.env.scope.names.lookup x=some .local):Tgj X (.Name x px) (.one i):=
 λd pins s σ H v u Q I r ⟨G0,H0,G,Y,Y',env,dv,hb,k⟩=>by
  cases hb;exact qO hN hi hx hf _ s σ H v u Q I r (k _ (env.set (by rw[I.len];exact (gi0 hi).1) dv))
structure Fu(X:Cx)(x:Str)(i:Nat):Prop where
 at':X.N[i]?=some x
 loc:Loc X.env.scope x
 fn:X.fn x=true\/X.env.scope.names.lookup x=some .local
inductive Nms (X:Cx):List Expr->List Nat->Prop
 |nil:Nms X [] []
 |cons {x:Str}{px:Pos}{i:Nat}{es:List Expr}{is:List Nat}:Fu X x i->Nms X es is->Nms X (.Name x px::es) (i::is)
theorem Nms.each{env}:∀{es:List Expr}{is:List Nat},Nms X es is->(assignEach es env).length=is.length/\(assignEach es env).findIdx? (·.1)=.none
 |_,_,.nil=>⟨rfl,rfl⟩
 |_,_,.cons (es:=es) _ r=>by
  obtain⟨h1,h2⟩:=Nms.each r;refine⟨?_,?_⟩
  .show (assignEach es _).length+1=_
   rw[h1];rfl
  .show List.findIdx? _ ((false,_)::assignEach es _)=_
   rw[List.findIdx?_cons];simp[h2]
def Lr(X:Cx)(ts:List Expr)(is:List Nat):Prop:=∀ds,ds.length=is.length->PGs X ts (λvs σ H Q=>∃G0 H0 G Y,EnvD X.K G0 H0 G H σ Y/\Dps X.K G ds vs/\∀σ',EnvD X.K G0 H0 G H σ' ((is.zip ds).foldl (λY p=>Y.set p.1 (.dat p.2)) Y)->Q σ' H)
def Ls{ts}{is:List Nat}(hN:X.N.Nodup)(h:Nms X ts is):Lr X ts is:=by
 induction h with
 |nil=>
  intro ds hl pins s σ H vs us Q I r h0;obtain⟨G0,H0,G,Y,env,dv,k⟩:=h0;have:=ez0 hl;subst this;cases dv;exact qP _ s σ H [] us Q I r ⟨rfl,k σ env⟩
 |@cons x px i es is h1 h2 ih=>
  intro ds hl pins s σ H vs us Q I r h0;obtain⟨G0,H0,G,Y,env,dv,k⟩:=h0;cases ds with
  |nil=>cases hl
  |cons d ds=>
   cases dv with
   |cons d1 d2=>
    exact mK (og hN h1.at' h1.loc h1.fn d) (ih ds (by simpa using hl)) rfl _ s σ H _ us Q I r
     ⟨_,_,rfl,G0,H0,G,Y,_,env,d1,rfl,λσ' env'=>⟨G0,H0,G,_,env',d2,λσ2 env2=>k _ env2⟩⟩
section
variable {G:Hp}
def blk_at{sl:Sl}(h:(SI.blk tn.length js Y)[i]?=some sl):sl=.no\/∃j,js[i-tn.length]?=some j/\tn.length<=i/\sl=lend (Y[j]?.getD .no):=by
 unfold SI.blk at h
 by_cases hi:i<tn.length
 .rw[gl0 (by simp_all),List.getElem?_replicate,if_pos hi]at h
  simp_all
 .rw[List.getElem?_append_right (by simp;omega)]at h
  cases q:js[i-tn.length]?<;>simp_all
def lQ{i j}(h:tn.length<=i)(e:js[i-tn.length]?=some j):(iu tn js σ)[i]?=some (σ[j]?).join:=by
 unfold iu;rw[List.getElem?_append_right (by simpa using h),gm0,lm0,e];rfl
def fP(Y:List Sl):Prop:=∀(i:Nat) d,Y[i]?≠some (.own d)
def mZ{sl:Sl}{d}:lend sl≠.own d:=by cases sl<;>(simp)
def gQ:fP (SI.blk tn.length js Y):=λi d h=>by
 rcases blk_at h with h|⟨j,_,_,h⟩
 .cases h
 .exact mZ h.symm
theorem EnvD.blk(E:EnvD K G0 H0 G H σ Y):EnvD K G H G H (iu tn js σ) (SI.blk tn.length js Y):=by
 have slot:∀{j:Nat}{sl:Sl},lend (Y[j]?.getD .no)=sl->sl≠.no->∃s,Y[j]?=some s/\lend s=sl:=λ{j sl} h hn=>by
  cases r:Y[j]? with
  |none=>rw[r]at h;exact absurd h.symm hn
  |some s=>rw[r]at h;exact⟨s,rfl,h⟩
 refine⟨.refl E.sub,by simp[iu,SI.blk],λi d h=>?_,λi d h=>?_,λi ds h=>(gQ i ds h).elim,λi a ds a a h=>(gQ i ds h).elim⟩
 .rcases blk_at h with h|⟨j,e1,hi,h⟩
  .cases h
  obtain⟨s,e2,h⟩:=slot h.symm (by simp);cases s with
  |dat d'=>
   cases h;obtain⟨v,e3,r⟩:=E.dat j d e2;exact⟨v,by rw[lQ hi e1,e3];rfl,r⟩
  |_=>cases h
 .rcases blk_at h with h|⟨j,e1,hi,h⟩
  .cases h
  obtain⟨s,e2,h⟩:=slot h.symm (by simp);cases s with
  |lent d'=>
   cases h;obtain⟨v,e3,r⟩:=E.lent j d e2;exact⟨v,by rw[lQ hi e1,e3];rfl,r.ext E.ext⟩
  |own d'=>
   cases h;obtain⟨q,e3,_,_,r⟩:=E.own j d e2;exact⟨_,by rw[lQ hi e1,e3];rfl,r.dr⟩
  |_=>cases h
def EnvD.touch{p:Addr}{o:HO}(E:EnvD K G0 H0 G H σ Y)(hn:fP Y)(hg:G p=none)(h0:H0 p=none)(hi:notIns o=true:=by rfl):EnvD K G0 H0 G (upd H p o) σ Y:=
 ⟨⟨λb u e=>by rw[aa (aq e h0)];exact E.ext.hh b u e,E.ext.gg,λb u e=>by rw[aa (aq e hg)];exact E.ext.gh b u e,E.ext.nw,λx C dx fs e=>E.ext.ni x C dx fs (cq hi x C dx fs e)⟩,E.len,E.dat,E.lent,λi ds h=>(hn i ds h).elim,λi a ds a a h=>(hn i ds h).elim⟩
def EnvD.forget(E:EnvD K G0 H0 G H σ Y)(hl:Y'.length=Y.length)(h:∀(i:Nat) sl,Y'[i]?=some sl->sl=.no\/Y[i]?=some sl):EnvD K G0 H0 G H σ Y':=
 ⟨E.ext,by rw[hl];exact E.len,λi d e=>(h i _ e).elim (λz=>by cases z) (E.dat i d),λi d e=>(h i _ e).elim (λz=>by cases z) (E.lent i d),λi d e=>(h i _ e).elim (λz=>by cases z) (E.own i d),
  λi j d e p h1 h2 h3 h4=>(h i _ h1).elim (λz=>by cases z) λh1=>(h j _ h2).elim (λz=>by cases z) λh2=>E.apart i j d e p h1 h2 h3 h4⟩
end
def uv{t:Tg}(ht:tN t n=true)(hb:aw t d Y=some Y'):Y'.length=Y.length/\(∀i,n<=i->Y'[i]?=Y[i]?)/\(fP Y->fP Y'):=by
 have one:∀{i:Nat}{Y:List Sl}{d:D},i<n->(Y.set i (.dat d)).length=Y.length/\(∀j,n<=j->(Y.set i (.dat d))[j]?=Y[j]?)/\(fP Y->fP (Y.set i (.dat d))):=λ{i Y d} hi=>
  ⟨by simp,λj hj=>gn0 (by omega),λh j e hj=>by
   rcases getE_set hj with⟨_,q⟩|⟨_,q⟩
   .cases q
   .exact h j e q⟩
 have fold:∀(ps:List (Nat×D))(Y:List Sl),(∀p∈ps,p.1<n)->(ps.foldl (λY p=>Y.set p.1 (.dat p.2)) Y).length=Y.length/\(∀j,n<=j->(ps.foldl (λY p=>Y.set p.1 (Sl.dat p.2)) Y)[j]?=Y[j]?)/\(fP Y->fP (ps.foldl (λY p=>Y.set p.1 (Sl.dat p.2)) Y)):=by
  intro ps
  induction ps with
  |nil=>intro Y _;exact⟨rfl,λc c=>rfl,λh=>h⟩
  |cons q r ih=>
   intro Y hp;obtain⟨a1,a2,a3⟩:=one (Y:=Y) (d:=q.2) (hp q ms0);obtain⟨b1,b2,b3⟩:=ih (Y.set q.1 (.dat q.2)) λx hx=>hp x (mc0 _ hx)
   exact⟨b1.trans a1,λj hj=>(b2 j hj).trans (a2 j hj),λh=>b3 (a3 h)⟩
 have mem:∀{is:List Nat}{ds:List D},(is.all λi=>decide (i<n))=true->∀p∈is.zip ds,p.1<n:=λh p hp=>od0 (List.all_eq_true.mp h p.1 (List.of_mem_zip (a:=p.1) (b:=p.2) hp).1)
 cases t with
 |one i=>cases hb;exact one (od0 ht)
 |tup is=>
  cases d with
  |tuple ds=>
   rw[gF]at hb;split at hb
   .cases hb;exact fold _ _ (mem ht)
   .cases hb
  |_=>cases hb
def Ecs(X:Cx)(Y:List Sl)(ifs:List Expr)(t:Bool):Prop:=PCs X ifs (tEt X.K Y t)
def AF:Ecs X Y [] true:=by rintro pins s σ H Q I ⟨G0,H0,G,E,k⟩;exact zX _ s σ H Q I (k G H (.refl E.sub))
def AG(h:Et X Y c t):Ecs X Y [c] t:=(λpins s σ H Q I q=>wpAny_tests_one (h _ s σ H Q I q))
theorem jm(f:D->Option (Option D)):∀(xs:List D)(d:D),aZ f (xs++[d])=(aZ f xs).bind λa=>(f d).map λo=>a++o.toList
 |[],d=>by
  show (f d).bind _=_;cases f d with
  |none=>rfl
  |some o=>cases o<;>rfl
 |x::r,d=>by
  show (f x).bind _=((f x).bind _).bind _;cases f x with
  |none=>rfl
  |some o=>
   show (aZ f (r++[d])).map _=((aZ f r).map _).bind _;rw[jm f r d];cases aZ f r with
   |none=>rfl
   |some q=>cases f d with
    |none=>rfl
    |some u=>cases o<;>rfl
def qk{f}{ds out}(h:aZ f ds=some out):∀i≤ds.length,∃q,aZ f (ds.take i)=some q:=by
 have key:∀(xs ys:List D)(out:List D),aZ f (xs++ys)=some out->∃q,aZ f xs=some q:=by
  intro xs
  induction xs with
  |nil=>intro ys out _;exact⟨_,rfl⟩
  |cons x r ih=>
   intro ys out h;obtain⟨o,h1,h2⟩:=bx0 (h);obtain⟨q,h3,h4⟩:=mx0 h2;obtain⟨q',h5⟩:=ih ys q h3;exact⟨_,by show (f x).bind _=_;rw[h1,h5];rfl⟩
 exact λi hi=>key _ (ds.drop i) out (by simp_all)
theorem kF{f}:∀{ds out},aZ f ds=some out->out.length<=ds.length
 |[],out,h=>by cases h;exact nr0 _
 |x::r,out,h=>by
  obtain⟨o,h1,h2⟩:=bx0 (h);obtain⟨q,h3,h4⟩:=mx0 h2;have:=kF h3;subst h4;cases o<;>simp<;>omega
noncomputable def teC(X:Cx)(scope:Scope)(N:List Str)(e:Expr):TE:=λσ H Q=>∀C s0 H0 fp pins s,Inv (L2.C.blk X scope N C s0 H0 fp) pins σ H s->wpAny (model X.prog X.w) X.A (eval e (L2.C.blk X scope N C s0 H0 fp).env) (EP (L2.C.blk X scope N C s0 H0 fp) pins σ Q) (λa a=>False) s
noncomputable def tcC(X:Cx)(scope:Scope)(N:List Str)(ifs:List Expr):TT:=λσ H Q=>∀C s0 H0 fp pins s,Inv (L2.C.blk X scope N C s0 H0 fp) pins σ H s->wpAny (model X.prog X.w) X.A (lB ifs (L2.C.blk X scope N C s0 H0 fp).env) (TP (L2.C.blk X scope N C s0 H0 fp) pins σ Q) (λa a=>False) s
noncomputable def tgC(X:Cx)(scope:Scope)(N:List Str)(tg:Expr):TG:=λv σ H Q=>∀C s0 H0 fp pins s u,Inv (L2.C.blk X scope N C s0 H0 fp) pins σ H s->RelV v u->wpAny (model X.prog X.w) X.A (assign tg (L2.C.blk X scope N C s0 H0 fp).env u) (λa s'=>∃σ' H',Inv (L2.C.blk X scope N C s0 H0 fp) pins σ' H' s'/\Q σ' H') (λa a=>False) s
structure rJ(X:Cx)(Z:Fs)(Γ:List (Str×D))(scope:Scope)(N:List Str)(tg:Expr)(t:Tg)(ifs:List Expr)(ifs':Es)(elt:Expr)(elt':E):Prop where
 tgt:∀(C:Addr)(s:Shared)(H:Hp)(fp:List Addr),Tgj (L2.C.blk X scope N C s H fp) tg t
 test:∀(C:Addr)(s:Shared)(H:Hp)(fp:List Addr) Y b,evC Z Γ Y ifs'=some b->Ecs (L2.C.blk X scope N C s H fp) Y ifs b
 elt:∀(C:Addr)(s:Shared)(H:Hp)(fp:List Addr) Y d,ev Z Γ .val Y elt'=some d->Ev (L2.C.blk X scope N C s H fp) Y elt d
variable {t:Tg}{ifs':Es}{elt':E}
noncomputable abbrev kG(Z:Fs)(Γ:List (Str×D))(n:Nat)(js:List Nat)(t:Tg)(ifs':Es)(elt':E)(Y:List Sl):D->Option (Option D):=
 λd=>(aw t d (SI.blk n js Y)).bind λY'=>(evC Z Γ Y' ifs').bind λb=>if b then (ev Z Γ .val Y' elt').map some else some none
def kH{σ}{G0 H0 G1 H1}{J}{Q:VK}(hi:ij X.K G1 H1 J ds)(T:rJ X Z Γ scope (aY X tn js) tg t ifs ifs' elt elt')(ht:tN t tn.length=true)(hz:ds.length<=sizeLine)(E:EnvD X.K G0 H0 G1 H1 σ Y)
  (hrun:aZ (kG Z Γ tn.length js t ifs' elt' Y) ds=some out)
  (k:∀q vs G' H',Ext G1 H1 G' H'->G' q=none->H1 q=none->H' q=some (.lst vs)->Dps X.K G' out vs->Q (.ref q) H'):
  ∀q,H1 q=none->∃W:Nat->Nat->St->Hp->Prop,(∃m,W 0 m (iu tn js σ) (upd H1 q (.lst [])))/\∀i m σ' H',W i m σ' H'->
   (J.stop i H'/\Q (.ref q) H')\/(J.go i H'/\∀v H2,J.yld i H' v H2->tgC X scope (aY X tn js) tg v σ' H2 λσ2 H3=>tcC X scope (aY X tn js) ifs σ2 H3 λb H4=>
    if b=true then teC X scope (aY X tn js) elt σ2 H4 λy H5=>∃ys,H5 q=some (.lst ys)/\ys.length<sizeLine/\∃m',m'<m/\W (i+1) m' σ2 (upd H5 q (.lst (ys++[y])))else ∃m',m'<m/\W (i+1) m' σ2 H4):=by
 intro q hq0;have noB:fP (SI.blk tn.length js Y):=gQ;refine⟨λi m σ' H'=>m=ds.length-i/\i<=ds.length/\∃G' ys outs,EnvD X.K G1 H1 G' H' σ' (SI.blk tn.length js Y)/\H' q=some (.lst ys)/\G' q=none/\Dps X.K G' outs ys/\aZ (kG Z Γ tn.length js t ifs' elt' Y) (ds.take i)=some outs,
  ⟨ds.length,by simp,Nat.zero_le _,G1,[],[],?_,upd_same,E.sub.free hq0,.nil,rfl⟩,?_⟩
 .exact (E.blk (tn:=tn) (js:=js)).touch noB (E.sub.free hq0) hq0
 .rintro i m σ' H' ⟨rfl,hil,G',ys,outs,E',hq',hg',r',hc'⟩
  have sm:=E'.ext.gg.trans E'.sub
  by_cases hlt:i<ds.length
  .refine .inr ⟨hi.go i H' hlt sm E'.ext.hh,λv H2 y=>?_⟩
   have hb:=ge0 hlt;have tk:ds.take (i+1)=ds.take i++[ds[i]]:=by rw[List.take_add_one,hb];rfl
   generalize ds[i]=dd at hb tk;obtain⟨outs1,hc1⟩:=qk hrun (i+1) hlt;have hc2:=hc1;rw[tk,jm,hc']at hc2;obtain⟨o,ho,e1⟩:=mx0 (hc2:(kG Z Γ tn.length js t ifs' elt' Y dd).map _=some outs1);obtain⟨Y1,hb1,ho⟩:=bx0 ho;obtain⟨tb,hb2,ho⟩:=bx0 ho;obtain⟨l1,l2,l3⟩:=uv ht hb1;obtain⟨G2,e2,d2⟩:=hi.yld i G' H' v H2 dd hb E'.ext.gg E'.sub E'.ext.hh y;have hq2:=e2.hh _ _ hq';have hg2:=e2.nw _ _ hg' hq';have r2:=r'.mono e2.gg;have hlen:ys.length<=i:=by
    rw[<-r'.length];exact nt0 (kF hc') (by rw[List.length_take];simp_all)
   have no1:=l3 noB;have back:∀{G3 H3:Hp}{σ3:St},EnvD X.K G1 H1 G3 H3 σ3 Y1->EnvD X.K G1 H1 G3 H3 σ3 (SI.blk tn.length js Y):=λE3=>E3.forget l1.symm λj sl hj=>by
    by_cases hjn:j<tn.length
    .left
     rcases blk_at hj with z|⟨_,_,z,_⟩
     .exact z
     .grind
    .right;rw[l2 j (by simp_all)];exact hj
   intro C s0 H0' fp pins s u I rv;refine T.tgt C s0 H0' fp dd pins s σ' H2 v u _ I rv ⟨G1,H1,G2,_,Y1,E'.step e2,d2,hb1,λσ2 E2=>?_⟩;intro C s0 H0' fp pins s I;refine T.test C s0 H0' fp Y1 tb hb2 pins s _ H2 _ I ⟨G1,H1,G2,E2,λG3 H3 e3=>?_⟩;have hq3:=e3.hh _ _ hq2;have hg3:=e3.nw _ _ hg2 hq2;cases tb with
   |false=>
    rw[if_neg fx0]at ho;cases ho;subst e1;refine jG ⟨ds.length-(i+1),by omega,rfl,hlt,G3,ys,_,back (E2.step e3),hq3,hg3,?_,hc1⟩;rw[Option.toList_none,List.append_nil];exact r2.mono e3.gg
   |true=>
    rw[if_pos rfl]at ho;obtain⟨w0,hw,e4⟩:=mx0 ho;subst e4 e1;refine jH ?_;intro C s0 H0' fp pins s I;refine T.elt C s0 H0' fp Y1 w0 hw pins s _ H3 _ I ⟨G1,H1,G3,E2.step e3,λw G4 H4 e4 r4=>?_⟩;refine⟨ys,e4.hh _ _ hq3,by grind,ds.length-(i+1),by omega,rfl,hlt,G4,ys++[w],_,(back ((E2.step e3).step e4)).touch noB (e4.nw _ _ hg3 hq3) hq0,upd_same,e4.nw _ _ hg3 hq3,?_,hc1⟩;exact ((r2.mono e3.gg).mono e4.gg).append (.one r4)
  .have e:i=ds.length:=by omega
   subst e;rw[List.take_length,hrun]at hc';cases hc';exact .inl ⟨hi.stop H' sm E'.ext.hh,k q ys G' H' E'.ext hg' hq0 hq' r'⟩
def rK(B:BlkOk X scope js)(hcalm:X.calm=true)(hi:PI X tg iter (tSi X.K Y false ds))(T:rJ X Z Γ scope (aY X tn js) tg t ifs ifs' elt elt')(ht:tN t tn.length=true)(hz:ds.length<=sizeLine)
  (hrun:aZ (kG Z Γ tn.length js t ifs' elt' Y) ds=some out) (hs:∀x,foldedSetIterable iter X.env x=pure x):En X Y (.ListComp elt [⟨tg,iter,ifs,0⟩] scope pos) (.list out):=by
 intro pins s σ H Q I h;obtain⟨G0,H0,G,E,k⟩:=h;refine zY (tn:=tn) (g:=tgC X _ _ tg) (tc:=tcC X _ _ _) (te:=teC X _ _ _) B hcalm hi
  (λC s H fp pins s' σ' H' v u Q' I' r h=>h C s H fp _ s' u I' r) (λC s H fp pins s' σ' H' Q' I' h=>h C s H fp _ s' I') (λC s H fp pins s' σ' H' Q' I' h=>h C s H fp _ s' I') hs _ s σ H Q I ?_
 refine⟨G0,H0,G,E,λJ G1 H1 e1 hJ=>kH hJ T ht hz (E.step e1) hrun λq vs G' H' e2 g1 h1 h2 r=>k q G' H' (e1.trans e2) g1 (e1.hh.free h1) (.inl ⟨_,_,rfl,h2,r⟩)⟩
end
def Goes(K:Fg)(G0 H0 G:Hp)(o:Out)(F:Ends):Prop:=match o with
 |.nx Y'=>∀G' H' σ',EnvD K G0 H0 G' H' σ' Y'->Same G G'->F.nx σ' H'
 |.rt d=>∀v G' H',Dp K G' d v->Ext G0 H0 G' H'->F.rt v H'
def Goes.go{K}{G0 H0 G G1}{o}{F}(h:Goes K G0 H0 G o F)(s:Same G G1):Goes K G0 H0 G1 o F:=by
 cases o with
 |nx Y'=>exact λG' H' σ' e g=>h G' H' _ e (s.trans g)
 |rt d=>exact h
noncomputable def tEp(K:Fg)(Y:List Sl)(o:Out):TS:=λF σ H=>∃G0 H0 G,EnvD K G0 H0 G H σ Y/\Goes K G0 H0 G o F
def E1(X:Cx)(Y:List Sl)(st:Stmt)(o:Out):Prop:=PS X st (tEp X.K Y o)
def Ep(X:Cx)(Y:List Sl)(sts:List Stmt)(o:Out):Prop:=PSs X sts (tEp X.K Y o)
section
variable {rest:List Stmt}{o:Out}{e:Expr}{p:Pos}{es:List D}
def Fv:Ep X Y [] (.nx Y):=by rintro pins s σ H F I ⟨G0,H0,G,env,R⟩;exact eg _ s σ H F I (R G H σ env (Same.refl _))
def xt(h1:E1 X Y st (.nx Y1))(h2:Ep X Y1 rest o):Ep X Y (st::rest) o:=λpins s σ H F I ⟨G0,H0,G,env,R⟩=>
 aV h1 h2 _ s σ H F I ⟨G0,H0,G,env,λG' H' σ' env' g=>⟨G0,H0,G',env',R.go g⟩⟩
def xu(h1:E1 X Y st (.rt d)):Ep X Y (st::rest) (.rt d):=λpins s σ H F I ⟨G0,H0,G,env,R⟩=>
 aV (u:=λa a a=>False) h1 (λa a a a a a z=>z.elim) _ s σ H F I ⟨G0,H0,G,env,R⟩
def AH:E1 X Y (.Pass pos) (.nx Y):=by rintro pins s σ H F I ⟨G0,H0,G,env,R⟩;exact qN _ s σ H F I (R G H σ env (Same.refl _))
def Fw(h:Ev X (Y.map freeze) e d):E1 X Y (.Return (some e) pos) (.rt d):=by
 rintro pins s σ H F I ⟨G0,H0,G,env,R⟩
 obtain⟨G1,env1,s1⟩:=env.freeze;exact lr h _ s σ H F I ⟨G0,H0,G1,env1,λv G' H' e1 r=>R v G' H' r (env1.ext.trans e1)⟩
structure Sto(X:Cx)(x:Str)(i:Nat):Prop where
 nd:X.N.Nodup
 nm:Fu X x i
def Sto.lt(S:Sto X x i){pins}{H}{s}(I:Inv X pins σ H s):i<σ.length:=by rw[I.len];exact (gi0 S.nm.at').1
def Fx(S:Sto X x i)(h:Ev X Y e d)(hs:swapsWith e (some (.Name x pos')) pos.line X.env=pure false):E1 X Y (.Assign [.Name x pos'] e pos) (.nx (Y.set i (.dat d))):=
 λpins s σ H F I ⟨G0,H0,G,env,R⟩=>gq S.nd S.nm.at' S.nm.loc h hs S.nm.fn _ s σ H F I ⟨G0,H0,G,env,λv G' H' e1 r=>
  R G' H' _ ((env.step e1).set (S.lt I) r) e1.gg⟩
def xw(S:Sto X x i)(h:En X Y e d)(hs:swapsWith e (some (.Name x pos')) pos.line X.env=pure false):E1 X Y (.Assign [.Name x pos'] e pos) (.nx (Y.set i (.own d))):=
 λpins s σ H F I ⟨G0,H0,G,env,R⟩=>gq S.nd S.nm.at' S.nm.loc h hs S.nm.fn pins s σ H F I ⟨G0,H0,G,env,λp G' H' e1 g1 h1 r=>
  R G' H' _ ((env.step e1).setOwn (S.lt I) r g1 (env.ext.hh.free h1) (env.fresh h1)) e1.gg⟩
def AI{ifs:List Expr}{t:Tg}{ifs':Es}{elt':E}(S:Sto X x i)(B:BlkOk X scope js)(hcalm:X.calm=true)(hi:PI X tg iter (tSi X.K Y false ds))
  (T:rJ X Z Γ scope (aY X tn js) tg t ifs ifs' elt elt') (ht:tN t tn.length=true) (hz:ds.length<=sizeLine) (hrun:aZ (kG Z Γ tn.length js t ifs' elt' Y) ds=some out) (hs:∀x,foldedSetIterable iter X.env x=pure x)
  (hy:X.env.scope.names.lookup x=some .local) (hsw:swapsWith (.ListComp elt [⟨tg,iter,ifs,0⟩] scope p) (some (.Name x pos')) pos.line X.env=pure true):
  E1 X Y (.Assign [.Name x pos'] (.ListComp elt [⟨tg,iter,ifs,0⟩] scope p) pos) (.nx (Y.set i (.own (.list out)))):=by
 intro pins s σ H F I h;obtain⟨G0,H0,G,env,R⟩:=h;refine zZ (tn:=tn) (js:=js) (g:=tgC X scope (aY X tn js) tg) (tc:=tcC X scope (aY X tn js) ifs) (te:=teC X scope (aY X tn js) elt) B hcalm hi
  (λC s H fp pins s' σ' H' v u Q' I' r h=>h C s H fp pins s' u I' r) (λC s H fp pins s' σ' H' Q' I' h=>h C s H fp pins s' I') (λC s H fp pins s' σ' H' Q' I' h=>h C s H fp pins s' I') S.nd S.nm.at' hy hsw hs pins s σ H F I ?_
 refine⟨G0,H0,G,env,λJ G1 H1 e1 hJ=>kH (Q:=λv H'=>F.nx (σ.set i (some v)) H') hJ T ht hz (env.step e1) hrun λq vs G' H' e2 g1 h1 h2 r=>?_⟩;have en:=(env.step e1).step e2;exact R G' H' _ (en.setOwn (S.lt I) (.inl ⟨_,_,rfl,h2,r⟩) g1 (env.ext.hh.free (e1.hh.free h1)) ((env.step e1).fresh h1)) (e1.gg.trans e2.gg)
def xx(S:Sto X x i)(h:E1 X Y st (.nx (Y.set i (.own d)))):E1 X Y st (.nx (Y.set i (.dat d))):=λpins s σ H F I ⟨G0,H0,G,env,R⟩=>
 h pins s σ H F I ⟨G0,H0,G,env,λG' H' σ' env' g=>by
  have hi:i<Y.length:=by rw[<-env.len];exact S.lt I
  obtain⟨G2,env2,s2⟩:=env'.freeze1 (i:=i) (d:=d) (gs0 hi);rw[List.set_set]at env2;exact R G2 H' σ' env2 (g.trans s2)⟩
def IB{a b}{t}(h:Et X Y c t)(ha:t=true->Ep X Y a o)(hb:t=false->Ep X Y b o):E1 X Y (.If c a b pos) o:=by
 cases t with
 |true=>
  intro pins s σ H F I h0;obtain⟨G0,H0,G,env,R⟩:=h0;exact jQ (u:=λd d d=>False) h (ha rfl) (λd d d d d d z=>z.elim) _ s σ H F I ⟨G0,H0,G,env,λG1 H1 e1=>jH ⟨G0,H0,G1,env.step e1,R.go e1.gg⟩⟩
 |false=>
  intro pins s σ H F I h0;obtain⟨G0,H0,G,env,R⟩:=h0;exact jQ (t:=λd d d=>False) h (λd d d d d d z=>z.elim) (hb rfl) _ s σ H F I ⟨G0,H0,G,env,λG1 H1 e1=>jG ⟨G0,H0,G1,env.step e1,R.go e1.gg⟩⟩
noncomputable def tXs(X:Cx)(body:List Stmt):TS:=λF σ H=>∀pins s,Inv X pins σ H s->wpAny (model X.prog X.w) X.A (execs body X.env) (SP X pins F) X.xe s
def rM:PSs X body (tXs X body):=λpins s σ H F I h=>h _ s I
noncomputable def tXt(X:Cx)(c:Expr):TT:=λσ H Q=>∀pins s,Inv X pins σ H s->wpAny (model X.prog X.w) X.A (isTrue c X.env (eval c X.env)) (TP X pins σ Q) X.xe s
def Lu:PT X c (tXt X c):=λpins s σ H Q I h=>h pins s I
noncomputable def tXg(X:Cx)(tg:Expr):TG:=λv σ H Q=>∀pins s u,Inv X pins σ H s->RelV v u->wpAny (model X.prog X.w) X.A (assign tg X.env u) (λa s'=>∃σ' H',Inv X pins σ' H' s'/\Q σ' H') X.xe s
def Fy:PG X tg (tXg X tg):=λpins s σ H v u Q I r h=>h _ s u I r
def Fz{t:Tg}{run:List Sl->Option Out}(hi:Si X Y true iter ds)(ht:Tgj X tg t)(hb:∀Y' o',run Y'=some o'->Ep X Y' body o')(h:forL (aw t) run ds Y=some o)
  (hc:X.calm=true) (hp:PassesOwn (model X.prog X.w) X.A X.env X.xe) (hf:∀x,foldedSetIterable iter X.env x=pure x):E1 X Y (.For tg iter body [] pos) o:=by
 intro pins s σ H F I h0;obtain⟨G0,H0,G,env,R⟩:=h0;refine pC hp hc (hi _) (Fy (tg:=tg)) (rM (body:=body)) hf pins s σ H F I ?_;refine⟨G0,H0,G,env,λJ G1 H1 e1 hJ=>⟨λk m σ' H'=>m=ds.length-k/\k<=ds.length/\∃Y' G',forL (aw t) run (ds.drop k) Y'=some o/\EnvD X.K G0 H0 G' H' σ' Y'/\Same G1 G',⟨ds.length,by simp,Nat.zero_le _,Y,G1,h,env.step e1,Same.refl _⟩,?_⟩⟩
 rintro k m σ' H' ⟨rfl,hk,Y',G',pv,env',g1⟩
 have g0:Same G G':=e1.gg.trans g1
 by_cases hlt:k<ds.length
 .refine .inr ⟨hJ.go k H' hlt (g1.trans env'.sub) env'.ext.hh,λσ2 H2=>k+1<=ds.length/\∃Y2 G2,forL (aw t) run (ds.drop (k+1)) Y2=some o/\EnvD X.K G0 H0 G2 H2 σ2 Y2/\Same G1 G2,λσ2 H2 ⟨h1,Y2,G2,p2,en2,s2⟩=>⟨ds.length-(k+1),by grind,rfl,h1,Y2,G2,p2,en2,s2⟩,λv H2 y=>?_⟩
  have hd:ds[k]?=some ds[k]:=ge0 hlt;rw[List.drop_eq_getElem_cons hlt]at pv;generalize ds[k]=dd at hd pv;obtain⟨Y1,b1,pv⟩:=bx0 (show (aw t dd Y').bind _=some o from pv);obtain⟨o1,b2,pv⟩:=bx0 pv;obtain⟨G2,e2,d2⟩:=hJ.yld k G' H' v H2 dd hd g1 env'.sub env'.ext.hh y;intro pins' s' u' I' r';refine ht dd pins' s' σ' H2 v u' _ I' r' ⟨G0,H0,G2,Y',Y1,env'.step e2,d2,b1,λσ2 en2=>?_⟩;intro pins2 s2 I2;refine hb Y1 o1 b2 pins2 s2 σ2 H2 _ I2 ⟨G0,H0,G2,en2,?_⟩;cases o1 with
  |nx Y3=>exact λG3 H3 σ3 en3 g3=>⟨hlt,Y3,G3,pv,en3,g1.trans (e2.gg.trans g3)⟩
  |rt dr=>
   cases pv;exact R
 .have e:k=ds.length:=by grind
  subst e;rw[List.drop_length]at pv;cases pv;exact .inl ⟨hJ.stop H' (g1.trans env'.sub) env'.ext.hh,R G' H' σ' env' g0⟩
end
structure VarOk(X:Cx)(x:Str)(i:Nat):Prop where
 at':X.N[i]?=some x
 vis:Vis X.env.scope x
 d:(x==("__debug__":Str))=false
 cd:(x==("__classdict__":Str))=false
section
variable {rest:List Stmt}{o:Out}{e k:Expr}{p:Pos}{es:List D}
def VarOk.pe(V:VarOk X x i):PE X (.Name x p) (vD i):=cm V.at' V.vis V.d V.cd
def eC{name}:attributeBase (.Name x p1) name env (eval (.Name x p1) env)=eval (.Name x p1) env:=rfl
def dM{K}{G0 H0 G H}{σ}(env:EnvD K G0 H0 G H σ Y)(h:Y[i]?=some (.own (.list ds))):∃q vs,σ[i]?=some (some (.ref q))/\H q=some (.lst vs)/\Dps K G ds vs:=by
 obtain⟨q,a,_,_,g⟩:=env.own i _ h;rcases g with⟨ds',vs,h1,h2,h3⟩|⟨kvs,ws,h1,_⟩<;>simp_all
def mY{K}{G0 H0 G H}{σ}{kvs:List (Key×D)}(env:EnvD K G0 H0 G H σ Y)(h:Y[i]?=some (.own (.dict kvs))):∃q vs,σ[i]?=some (some (.ref q))/\H q=some (.dK vs)/\Dks K G kvs vs:=by
 obtain⟨q,a,_,_,g⟩:=env.own i _ h;rcases g with⟨ds',vs,h1,h2,h3⟩|⟨kvs,ws,h1,h2,h3⟩<;>simp_all
def FA(V:VarOk X x i)(h:Ev X Y e d)(hs:isStar e=false)(ho:Y[i]?=some (.own (.list ds)))(hz:ds.length<sizeLine)(hline:(apos.endLine==cpos.line)=true):
  E1 X Y (.Expr (.Call (.Attribute (.Name x p1) "append" apos) [e] [] cpos) pos) (.nx (Y.set i (.own (.list (ds++[d]))))):=by
 have hS:=ae (es:=[]) (env:=X.env) hs;intro pins s σ H F I h0;obtain⟨G0,H0,G,env,R⟩:=h0;obtain⟨q,vs,a,b,g⟩:=dM env ho;exact eu (jX PySem.F.plainAttrs_list PySem.F.slot_list_append PySem.F.type_list_append gy V.pe (ar h aD hS) eC (by rw[hS];rfl) hline hS rfl) rfl _ s σ H F I ⟨_,a,.inl ⟨rfl,vs,SqL.of b⟩,G0,H0,G,env,λw G1 H1 e1 r=>⟨q,vs,w,rfl,rfl,e1.hh _ _ b,by rwa [<-g.length],R G1 _ _ ((env.step e1).change ho a (.inl ⟨_,_,rfl,upd_same,(g.mono e1.gg).append (.one r)⟩)) e1.gg⟩⟩
def FC(V:VarOk X x i)(S:Sto X y j)(ho:Y[i]?=some (.own (.list ds)))(hl:ds[ds.length-1]?=some d)(hline:(apos.endLine==cpos.line)=true):
  E1 X Y (.Assign [.Name y pos'] (.Call (.Attribute (.Name x p1) "pop" apos) [] [] cpos) pos) (.nx ((Y.set i (.own (.list ds.dropLast))).set j (.dat d))):=by
 intro pins s σ H F I h0;obtain⟨G0,H0,G,env,R⟩:=h0;obtain⟨q,vs,a,b,g⟩:=dM env ho;refine gq S.nd S.nm.at' S.nm.loc (Eb PySem.F.plainAttrs_list PySem.F.slot_list_pop PySem.F.type_list_pop Ed V.pe eC hline) rfl S.nm.fn pins s σ H F I ?_;obtain⟨v,ev,dv⟩:=g.get hl;rw[g.length]at ev;exact⟨.ref q,a,.inl ⟨rfl,vs,SqL.of b⟩,q,vs,v,rfl,rfl,b,ev,R G _ _ ((env.change ho a (.inl ⟨_,_,rfl,upd_same,g.dropLast⟩)).set (S.lt I) dv) (Same.refl _)⟩
def jn(hk:isSlice k=false):∀v,assign (.Subscript (.Name x p1) k spos) env v=(do
   let ov ←holding [v] (eval (.Name x p1) env)
   let iv ←holding [v,ov] (eval k env)
   standAt spos
   holding [v,ov,iv] (setItem ov iv v)
   release [v,ov,iv] []):=by
 intro v;cases k<;>first|rfl|cases hk
def kI :swapsWithSole [.Subscript (.Name x p1) k spos] e pos.line env=pure false:=by
 cases e<;>rfl
def ik :swappedStores [.Subscript (.Name x p1) k spos] e env=pure .none:=rfl
def AJ{n:Int}{m:Nat}(V:VarOk X x i)(h:Ev X Y e d)(hk:Ev X Y k (.int n))(hks:isSlice k=false)(ho:Y[i]?=some (.own (.list ds)))(hm:SI.ixN ds.length n=some m):
  E1 X Y (.Assign [.Subscript (.Name x p1) k spos] e pos) (.nx (Y.set i (.own (.list (ds.set m d))))):=by
 intro pins s σ H F I h0;obtain⟨G0,H0,G,env,R⟩:=h0;obtain⟨q,vs,a,b,g⟩:=dM env ho;refine pA h (pw V.pe hk set_list (jn hks)) kI ik rfl _ s σ H F I ?_;refine⟨G0,H0,G,env,λv G1 H1 e1 r1=>⟨_,a,G0,H0,G1,env.step e1,λw G2 H2 e2 r2=>?_⟩⟩;cases r2;have e3:=e1.trans e2;exact⟨q,vs,n,m,rfl,rfl,e3.hh _ _ b,by rwa [<-g.length],R G2 _ _ ((env.step e3).change ho a (.inl ⟨_,_,rfl,upd_same,(g.mono e3.gg).set (r1.mono e2.gg) m⟩)) e3.gg⟩
def AK{key:Key}{dk:D}{kvs:List (Key×D)}(hu:X.A.units+1<cLine)(V:VarOk X x i)(h:Ev X Y e d)(hk:Ev X Y k dk)(hkey:tK dk=some key)(hks:isSlice k=false)(ho:Y[i]?=some (.own (.dict kvs)))(hz:kvs.length<1000):
  E1 X Y (.Assign [.Subscript (.Name x p1) k spos] e pos) (.nx (Y.set i (.own (.dict (SI.put kvs key d))))):=by
 intro pins s σ H F I h0;obtain⟨G0,H0,G,env,R⟩:=h0;obtain⟨q,vs,a,b,g⟩:=mY env ho;have set_dict:zK X (λo i v H Q=>∃p kvs k,o=.ref p/\i=kV k/\H p=some (.dK kvs)/\kvs.length<sizeLine/\((kvs.map (·.1)).Nodup->Q (upd H p (.dK (putK kvs k v))))):=by
  intro pins s σ H o i v ov iv u Q I ro ri rv h;obtain⟨p,kvs,k,rfl,rfl,hp,hl,q⟩:=h;cases ro;have nd:(kvs.map (·.1)).Nodup:=by
   obtain⟨_,_,vs,rel,dd⟩:=CH I.hok hp;rw[rel.keys];obtain⟨_,_,_,_,_,_,_,_,nd⟩:=dd;exact nd
  exact tJ hu I (DPut.k hp hl) ri rv λs' I'=>⟨_,I',q nd⟩
 refine pA h (pw V.pe hk set_dict (jn hks)) kI ik rfl pins s σ H F I ?_;refine⟨G0,H0,G,env,λv G1 H1 e1 r1=>⟨.ref q,a,G0,H0,G1,env.step e1,λw G2 H2 e2 r2=>?_⟩⟩;have e3:=e1.trans e2;exact⟨q,vs,key,rfl,dJ (.of (H:=H2) r2) hkey,e3.hh _ _ b,by rw[<-g.length];exact eA (Nat.le_of_lt hz),λnd=>R G2 _ _ ((env.step e3).change ho a (.inr ⟨_,_,rfl,upd_same,Dks.put (r1.mono e2.gg) (g.mono e3.gg) nd⟩)) e3.gg⟩
end
end L2.Z
namespace PySem.W
open PySem PySem.Spec PySem.Calls PyProof.Rows
structure ExcI(K:Frag)(C:Addr):Prop where
 ga:findIn K (.ref C) "__getattribute__"=some (some (.builtin "BaseException.__getattribute__"))
 gt:findIn K (.ref C) "__getattr__"=some none
 cl:findIn K (.ref C) "__class__"=some (some (.builtin "object.__class__"))
 sb:subIn K (.ref C) (.type "BaseException")=some true
 so:subIn K (.ref C) (.type "object")=some true
 ci:(clsIn K C).isSome=true
section
variable {A:Around}{E:Value->Shared->Prop}{g:Array GenState}{d:Drawn}{t:Nat}{os:OsState}{a C:Addr}{o:Obj}{K:Frag}
def xy{R}(Z:ExcI K C)(X:K.In h)(hx:h.get? a=some o)(hc:o.cls=.ref C)(hq:R (.ok (.ret (.ref C))) ⟨h,g,d,t,os⟩):
  codeAny (model prog w) A (.call (.builtin "getset_descriptor.__get__") ⟨[.builtin "object.__class__",.ref a,.ref C],[]⟩) R ⟨h,g,d,t,os⟩:=by
 have hT5:=F.typeOf_object_class;have L8:Looks (model prog w) h (isSubtype (.ref C) (.type (".".intercalate ("object.__class__".cutAt '.').dropLast))) true:=by rw[F.owner_object_class];exact looks_subIn X Z.so
 refine codeAny_call_builtin F.slot_gs_get.plain F.entry_gs_get (F.slot_gs_get.check _ _ _ _ _ _ _ _ hT5 (F.args_gs_get _ _ _) ?_)
 repeat (any_goals (first|assumption|(with_reducible refine wpAny_loadPart_at hx ?_;rw[hc])|with_reducible refine Looks.at L8 ?_|wp_step))
 refine⟨Code.quiet_builtin _ (by decide +kernel),codeAny_builtin F.entry_object_class ?_⟩
 repeat (any_goals (first|assumption|(with_reducible refine wpAny_loadPart_at hx ?_;rw[hc])|wp_step))
def ql{M}{nameV}{Q}(Z:ExcI K C)(X:K.In h)(hx:h.get? a=some o)(hc:o.cls=.ref C)(hq:Q () ⟨h,g,d,t,os⟩):
  wpAny M A (checkBuiltinCall "BaseException.__getattribute__" ⟨[.ref a,nameV],[]⟩) Q E ⟨h,g,d,t,os⟩:=by
 have hk:builtinKind "BaseException.__getattribute__"=some .slot:=by decide +kernel
 have hsplit:splitId "BaseException.__getattribute__"=some ("BaseException","__getattribute__"):=by decide +kernel
 have L:Looks M h (isSubtype (.ref C) (.type "BaseException")) true:=looks_subIn X Z.sb;have ha:=F.args_bexc_ga (.ref a) nameV;simp only[checkBuiltinCall,hk,hsplit];refine wb0 ?_
 .unfold isInstance
  repeat (first|(with_reducible refine wpAny_loadPart_at hx ?_;rw[hc])|with_reducible refine Looks.at L ?_|wp_step)
  exact hq
def uw{tk}{R}(Z:ExcI K C)(X:K.In h)(hx:h.get? a=some o)(hc:o.cls=.ref C)(hq:R (.ok (.ret (.ref C))) ⟨h,g,d,t,os⟩):
  codeAny (model prog w) A (.call (.builtin "BaseException.__getattribute__") ⟨[.ref a,.str "__class__" tk],[]⟩) R ⟨h,g,d,t,os⟩:=
 codeAny_call_builtin F.attrBase_ValueError.ga.plain F.entry_bexc_ga (ql Z X hx hc ((by
   have L4:=looks_findIn (M:=model prog w) X Z.cl;have f5:=F.typeOf_object_class;have f6:=F.slot_gs_get.lookup;have f7:=F.slot_gs_set.lookup
   repeat (any_goals (first|assumption|(with_reducible refine wpAny_loadPart_at hx ?_;rw[hc])|with_reducible refine Looks.at L4 ?_|wp_step))
   refine xy Z X hx hc ?_
   repeat (any_goals (first|assumption|wp_step)))))
def xcls_by{tk}{fill expr}{Q}(Z:ExcI K C)(X:K.In h)(hx:h.get? a=some o)(hc:o.cls=.ref C)(hq:Q (.ref C) ⟨h,g,d,t,os⟩):
  wpAny (model prog w) A (getAttrBy (.ref a) (.str "__class__" tk) fill expr) Q E ⟨h,g,d,t,os⟩:=by
 have f3:=F.attrBase_ValueError.ga.bind (.ref a);have hx0:(expr&&onTheHeap (Value.builtin "BaseException.__getattribute__"))=false:=by cases expr<;>rfl
 have hx2:(Value.builtin "BaseException.__getattribute__"==Value.builtin "object.__getattribute__")=false:=by decide +kernel
 have hx1:(onTheHeap (Value.ref C)&&Value.builtin "BaseException.__getattribute__"==Value.builtin "object.__getattribute__")=false:=by rw[hx2];rfl
 have L1:=looks_findIn (M:=model prog w) X Z.ga;have L2:=looks_findIn (M:=model prog w) X Z.gt
 repeat (any_goals (first|assumption|(with_reducible refine wpAny_loadPart_at hx ?_;rw[hc])|with_reducible refine Looks.at L1 ?_|with_reducible refine Looks.at L2 ?_|wp_step))
 refine uw Z X hx hc ?_
 repeat (any_goals (first|assumption|wp_step))
set_option tactic.hygienic true in
def kitx_exc(Z:ExcI K C):KitX K (.ref a) (.ref C) (L2.Z.ExcAt a C) where
 ty:=λM h b p=>by
  obtain⟨o,h1,h2⟩:=p;exact h2▸(Looks.ld h1).andThen .now
 it:=λb b X b=>by
  have hcD:=Z.ci;unfold clsIn at hcD;split at hcD
  .rename_i c' d' cd' sl' ho
   intro A' Q' E' s' k q;unfold isType loadHead;exact wb0 (wpAny_loadPart (k _ _ (X _ _ ho)) (wq0 q))
  .cases hcD
 ne:=λh tp dd its n sl X htp=>by
  have hcD:=Z.ci;refine bf0 λq=>?_
  have e:=Value.ref.inj (beq_iff_eq.mp q);subst e;unfold clsIn at hcD;split at hcD
  .rename_i c' d' cd' sl' ho
   have z:=(X _ _ ho).symm.trans htp;cases z
  .cases hcD
 ca:=λ{_ _ _ _ _ s} X p k=>by
  obtain⟨h,g,d,t,os⟩:=s;obtain⟨o,h1,h2⟩:=p;exact (by
    have hx:=h1;have hc:=h2;have hq:=k;unfold getAttr? getAttrBy?
    repeat (any_goals (first|assumption|with_reducible apply xcls_by Z X hx hc|wp_step)))
end
end PySem.W
namespace L2.Z
open PySem PySem.Spec PyProof.Rows L2 L2.C SI
def gR(h:N.idxOf? x=some i):N[i]?=some x:=by
 obtain⟨h1,h2,_⟩:=List.findIdx?_eq_some_iff_getElem.mp h
 simp_all
structure CxC(X:Cx)(C:Cs):Prop where
 N:X.N=C.N
 nd:C.N.Nodup
 vis:∀x k,C.sc.names.lookup x=some k->(k=.local\/k=.cell\/k=.free)->Vis X.env.scope x
 loc:∀x k,C.sc.names.lookup x=some k->(k=.local\/k=.cell)->Loc X.env.scope x/\(X.fn x=true\/X.env.scope.names.lookup x=some .local)
 cell:∀x,C.sc.names.lookup x=some .cell->X.env.kindOf x=some .cell
 glob:∀x,C.sc.names.lookup x=some .globalImplicit->Gl X x
 calm:X.calm=true
 kind:X.env.scope.kind=.function
noncomputable def bltNames:List Str:=["len","max","min","int","list","str","isinstance","range","tuple","bool","reversed","dict","zip","all","ord","sorted","set"]
structure FnZv(P:Program)(w:World)(K:Fg)(mg:Str->Option Value)(base:Heap)(k:Nat)(c:Addr)(m:Str)(J:Fn):Prop where
 nm:m≠"objects"/\m≠"numbers"
 ex:∃f fd ps,iR K c m f/\Binds K fd ps []/\FnOk P w K mg base CX0 k f fd ps (Pur K J)
structure XcZ(K:Fg)(mg:Str->Option Value)(t:Str)(c:Addr)(tab:List (Nat×Bool)):Prop where
 nm:mg t=some (.ref c)\/t="ValueError"/\mg t=Option.none
 one:∀e b,tab.lookup e=some b->PySem.W.ExcI K e/\(mg t=some (.ref c)->PySem.W.kitOne K (.ref e) (.ref c)=some b)/\(mg t=Option.none->PySem.W.kitOne K (.ref e) (.type "ValueError")=some b)
structure Wz(X:Cx)(Z:Fs)(Γ:List (Str×D))(C:Cs)(k:Nat):Prop where
 blt:∀x∈bltNames,X.mg x=Option.none
 fns:∀x,C.fns.contains x=true->∀J,Z x=some J->FnZ X.prog X.w X.K X.mg X.base k x J
 gl:∀x d,Γ.lookup x=some d->∃u v,X.mg x=some u/\RelV v u/\∀G,Dp X.K G d v
 room:Room k X.A
 vc:∀c,C.vc=some c->Cls X.K c/\NoAttr X.K c "objects"
 vf:∀c m,C.vc=some c->C.vms.contains m=true->∀J,Z (ai m)=some J->FnZv X.prog X.w X.K X.mg X.base k c m J
 xc:∀t c tab,C.xcs.lookup t=some (c,tab)->XcZ X.K X.mg t c tab
structure SdE(X:Cx)(Z:Fs)(Γ:List (Str×D))(e:Expr)(E':E)(n:Bool):Prop where
 v:∀{Y d},ev Z Γ .val Y E'=some d->Ev X Y e d
 r:∀{Y d},ev Z Γ .read Y E'=some d->Er X Y e d
 w:∀{Y d},ev Z Γ .walk Y E'=some d->Ek X Y e d
 t:∀{Y d},ev Z Γ .test Y E'=some d->∃b,d=.bool b/\Et X Y e b
 n:n=true->∀{Y d},ev Z Γ .val Y E'=some d->bN d=true->En X Y e d
def kJ(hsup:bK o=false)(hs:aI es)(hn:es.length<=20)(hline:(apos.endLine==pos.line)=true):
  eval (.Call (.Attribute o m apos) es [] pos) env=(do
   let ov ←eval o env
   standAt apos.atName
   let (f,first) ←holding [ov] (getMethod ov m (do return (<-importBound o env).getD true))
   callWith pos f first (backTo pos (starEach es env)) (backToKw pos (keywordEach [] env))):=by
 have hform:methodCallForm (es.length+([]:List Keyword).length) (backTo pos (starEach es env)) (backToKw pos (keywordEach [] env))=true:=by
  unfold methodCallForm;rw[kx hs];show (true&&true&&decide (es.length+0+0<30))=true
  grind
 rw[arm_eval_Call,base_of hsup];unfold methodCall;rw[hform];have hpos:methodCallPos true o env apos pos=pure pos:=by unfold methodCallPos;simp[hline]
 rw[hpos];rfl
section
variable {e:Expr}{c h k:Nat}{os:List D}{p:Pos}
def FD(hc:Cls X.K c)(hn:NoAttr X.K c "objects")(ho:Er X Y o (.vlt c h os))(hsup:bK o=false):Er X Y (.Attribute o "objects" pos) (.list os):=
 λpins s σ H Q I ⟨G0,H0,G,E,k⟩=>pI ho (base_of hsup) _ s σ H Q I ⟨G0,H0,G,E,λv G1 H1 e1 r1=>by
  cases r1 with
  |of r1=>cases r1
  |vlt h1 h2 r=>exact⟨_,_,_,_,_,rfl,h1,hc,hn,rfl,k _ G1 H1 e1 (.list h2 r)⟩⟩
def xA{K}{G H}{v}(hm:m≠"objects"/\m≠"numbers")(r:Dr K G H (.vlt c h os) v):∃a dx fs,v=.ref a/\H a=some (.ins c dx fs)/\fs.lookup m=.none:=by
 cases r with
 |of r1=>cases r1
 |vlt h1 h2 r=>
  refine⟨_,_,_,rfl,h1,?_⟩;simp[vfs,lk0,(bn0 hm.1),(bn0 hm.2)]
def xB{J}(F:FnZv X.prog X.w X.K X.mg X.base k c m J)(hc:Cls X.K c)(hr:Room k X.A)(ho:Er X Y o (.vlt c h os))(ha:Ea X Y J.lent.tail es ds)(hl:J.lent.headD false=true)(hrun:J.run (.vlt c h os::ds)=some d)(hs:aI es)(hnil:es=[]->ds=[])
  {pl} (ht:eval (.Call (.Attribute o m apos) es [] pos) X.env=(do
   let ov ←eval o X.env
   standAt apos.atName
   let (f,first) ←holding [ov] (getMethod ov m pl)
   callWith pos f first (backTo pos (starEach es X.env)) (backToKw pos (keywordEach [] X.env)))):Ev X Y (.Call (.Attribute o m apos) es [] pos) d:=by
 obtain⟨f,fd,ps,hm,hb,Ff⟩:=F.ex;intro pins s σ H Q I h0;obtain⟨G0,H0,G,E,kq⟩:=h0;cases es with
 |nil=>
  refine vS (pl:=pl) ho hc hm Ff hr hb .nil qX ht pins s σ H Q I ⟨G0,H0,G,E,λv G1 H1 e1 r1=>?_⟩;obtain⟨a,dx,fs,rfl,h1,h2⟩:=xA F.nm r1;refine⟨a,dx,fs,rfl,h1,h2,?_⟩;have hds:=hnil rfl;subst hds;exact⟨[.vlt c h os],d,G1,hrun,e1.gh,.cons (λz=>by rw[hl]at z;cases z) r1 .nil,λv G' H' e2 r2=>kq v G' H' (e1.trans e2) r2⟩
 |cons e es=>
  refine zP (pl:=pl) ho hc hm Ff hr hb .nil qX ha (ae (hs e ms0)) (aB λy hy=>hs y (mc0 _ hy)) ht pins s σ H Q I ⟨G0,H0,G,E,λv G1 H1 e1 r1=>?_⟩;obtain⟨a,dx,fs,rfl,h1,h2⟩:=xA F.nm r1;exact⟨a,dx,fs,rfl,h1,h2,G0,H0,G1,E.step e1,λvs G2 H2 e2 r2=>⟨_,d,G2,hrun,e2.gh,by rw[List.append_nil];exact .cons (λz=>by simp_all) (r1.ext e2) r2,λv G' H' e3 r3=>kq v G' H' (e1.trans (e2.trans e3)) r3⟩⟩
def AL:bootBuiltins ("ValueError":Str)=some (.type "ValueError"):=rfl
def ux{c e:Addr}{a}{b}{tab}(B:Blt X "isinstance")(T:XcZ X.K X.mg x c tab)(hg:Gl X x)(hdb:(x==("__debug__":Str))=false)(ha:Er X Y a (.exc e))(hs:isStar a=false)(h:tab.lookup e=some b):
  Ev X Y (.Call (.Name "isinstance" p) [a,.Name x px] [] pos) (.bool b):=by
 obtain⟨Z,h1,h2⟩:=T.one e b h;have key:∀(y:V)(u:Value),(∀v,RelV y v->v=u)->PySem.W.kitOne X.K (.ref e) u=some b->PE X (.Name x px) (λσ H Q=>Q y H)->Ev X Y (.Call (.Name "isinstance" p) _ [] pos) (.bool b):=λy u hy hk pn=>by
  intro pins s σ H Q I h0;obtain⟨G0,H0,G,E,k⟩:=h0;refine aX ((show aW X (.builtin "isinstance") (λxs H Q=>∃a,xs=[.ref a,y]/\H a=some (.ext (ExcAt a e))/\Q (.bl b) H) by
    intro pins s σ H xs us Q I r h;obtain⟨a,rfl,ha,q⟩:=h;obtain⟨w,v,rfl,ru,rv⟩:=vals2 r;cases ru;obtain rfl:=hy v rv;exact PySem.W.kia_one (PySem.W.kitx_exc Z) I.kIn ((I.hok a _ ha).1) hk (λz=>nomatch z) λtk=>⟨.bl b,H,I.tok tk,rfl,q⟩)) B.g B.m nU (ar ha (ar pn aD rfl) (ae hs)) (by decide) (by decide) (ae hs) rfl pins s σ H Q I ⟨G0,H0,G,E,λv G1 H1 e1 r1=>?_⟩
  cases r1 with
  |of r1=>cases r1 with
   |exc r1=>exact⟨_,rfl,e1.gh _ _ r1,k _ G1 H1 e1 (.bool _)⟩
 rcases T.nm with hm|⟨rfl,hm⟩
 .exact key (.ref c) (.ref c) (λv r=>r) (h1 hm) λpins s σ H Q I q=>qL hg hm (show RelV (.ref c) (.ref c)from rfl) hdb pins s σ H Q I q
 .exact key (.ty "ValueError") _ (λv r=>r) (h2 hm) (qM hg hm AL rfl (by decide) hdb)
end
section
variable {C:Cs}{k:Nat}{e:Expr}{E':E}
def xE{n:Bool}{core:List Sl->Option D}(h:∀m Y,ev Z Γ m Y E'=fin m (core Y))(hv:∀Y d,core Y=some d->Ev X Y e d/\(n=true->bN d=true->En X Y e d))(ht:∀Y d t,core Y=some d->gC d=some t->Et X Y e t):SdE X Z Γ e E' n:=by
 refine⟨λq=>?_,λq=>?_,λq=>?_,λq=>?_,λf a a q=>?_⟩
 .rw[h]at q;exact (hv _ _ q).1
 .rw[h]at q;exact (hv _ _ q).1.er
 .rw[h]at q;exact (hv _ _ q).1.ek
 .rw[h]at q
  obtain⟨d',q1,q2⟩:=bx0 q;obtain⟨t,q3,q4⟩:=mx0 q2;exact⟨t,q4.symm,ht _ d' t q1 q3⟩
 .rw[h]at q;exact (hv _ _ q).2 f
def dW{n:Bool}{core:List Sl->Option D}(h:∀m Y,ev Z Γ m Y E'=fin m (core Y))(hv:∀Y d,core Y=some d->Ev X Y e d/\(n=true->bN d=true->En X Y e d))(he:∀whole,isTrue e X.env whole=(do let v ←whole;standAt e.pos;holding [v] (truthy v)):=by exact λa=>rfl):SdE X Z Γ e E' n:=
 xE h hv λY d t q1 q2=>iY (hv Y d q1).1.er q2 he
def bx{core:List Sl->Option D}(h:∀m Y,ev Z Γ m Y E'=fin m (core Y))(hv:∀Y d,core Y=some d->Ev X Y e d)(he:∀whole,isTrue e X.env whole=(do let v ←whole;standAt e.pos;holding [v] (truthy v)):=by exact λa=>rfl):SdE X Z Γ e E' false:=
 dW h (λY d q=>⟨hv Y d q,λz=>by cases z⟩) he
def lR{core:List Sl->Option D}(h:∀m Y,ev Z Γ m Y E'=fin m (core Y))(hv:∀Y d,core Y=some d->En X Y e d)(he:∀whole,isTrue e X.env whole=(do let v ←whole;standAt e.pos;holding [v] (truthy v)):=by exact λa=>rfl):SdE X Z Γ e E' true:=
 dW h (λY d q=>⟨(hv Y d q).ev,λa a=>hv Y d q⟩) he
set_option tactic.hygienic true
def bU(c:CxC X C)(h:cC C x=some i):VarOk X x i:=by
 unfold cC at h;split at h
 .rename_i j hj
  split at h
  .rename_i q
   cases h;rw[be0,Bool.or_eq_true,Bool.or_eq_true]at q;obtain⟨q1,q2⟩:=q;unfold bA at q2;rw[be0,be0]at q2;refine⟨by rw[c.N];exact gR hj,?_,by simpa using q2.1.1,by simpa using q2.1.2⟩;rcases q1 with (q1|q1)|q1
   .exact c.vis x _ (eq_of_beq q1) (.inl rfl)
   .exact c.vis x _ (eq_of_beq q1) (.inr (.inl rfl))
   .exact c.vis x _ (eq_of_beq q1) (.inr (.inr rfl))
  .cases h
 .cases h
def jo(c:CxC X C)(h:iX C x=some i):Fu X x i:=by
 unfold iX at h;split at h
 .rename_i j hj
  split at h
  .rename_i q
   cases h;rw[be0,Bool.or_eq_true]at q;obtain⟨q1,q2⟩:=q;have l:Loc X.env.scope x/\(X.fn x=true\/X.env.scope.names.lookup x=some .local):=by
    rcases q1 with q1|q1
    .exact c.loc x _ (eq_of_beq q1) (.inl rfl)
    .exact c.loc x _ (eq_of_beq q1) (.inr rfl)
   exact⟨by rw[c.N];exact gR hj,l.1,l.2⟩
  .cases h
 .cases h
def dX(c:CxC X C)(h:iX C x=some i):Sto X x i:=⟨by rw[c.N];exact c.nd,jo c h⟩
def aO(c:CxC X C)(h:ah C x=true):Gl X x/\x≠"__name__"/\(x==("__debug__":Str))=false:=by
 unfold ah at h;rw[be0]at h;unfold bA az at h;rw[be0,be0]at h;exact⟨c.glob x (eq_of_beq h.1),by simpa using h.2.2,by simpa using h.2.1.1⟩
def ba(c:CxC X C)(w:Wz X Z Γ C k)(h:ah C x=true)(hb:x∈bltNames):Blt X x:=⟨(aO c h).1,w.blt x hb,(aO c h).2.1,(aO c h).2.2⟩
def CO(c:CxC X C){tg}{t}(h:cTg C tg=some t):Tgj X tg t:=by
 have nms:∀{es}{is:List Nat},slots C es=some is->Nms X es is:=by
  intro es
  induction es with
  |nil=>intro is h;cases h;exact .nil
  |cons e r ih=>
   intro is h;cases e with
   |Name x px=>
    obtain⟨i,h1,h2⟩:=bx0 (h);obtain⟨is',h3,rfl⟩:=mx0 h2;exact .cons (jo c h1) (ih h3)
   |_=>cases h
 cases tg with
 |Name x px=>
  obtain⟨i,h1,rfl⟩:=mx0 (h);have n:=jo c h1;exact og (by rw[c.N];exact c.nd) n.at' n.loc n.fn
 |Tuple es n pos=>
  obtain⟨is,h1,rfl⟩:=mx0 (h);exact (by
    have hc:=c.calm;have hN:X.N.Nodup:=(by rw[c.N];exact c.nd);have h:=(nms h1);intro d pins s σ H v u Q I r h0;obtain⟨G0,H0,G,Y,Y',env,dv,hb,k⟩:=h0;cases d with
    |tuple ds=>
     rw[gF]at hb;split at hb
     .rename_i hl
      cases hb;cases dv with
      |tuple hq dr=>
       obtain⟨e1,e2⟩:=h.each (env:=X.env);exact vG (n:=is.length) hc (Ls hN h ds hl.symm) e1 e2 pins s σ H _ u Q I r ⟨_,_,rfl,SqT.of (env.sub _ _ hq),by rw[<-dr.length];exact hl.symm,G0,H0,G,Y,env,dr,k⟩
     .cases hb
    |_=>cases hb)
 |_=>cases h
theorem kK{N}:∀{xs:List Str}{js},pV N xs=some js->(js.map λj=>N.getD j Str.empty)=xs/\∀j∈js,∃x∈xs,N[j]?=some x
 |[],js,h=>by cases h;simp
 |x::r,js,h=>by
  obtain⟨i,h1,h2⟩:=bx0 (h);obtain⟨js',h3,rfl⟩:=mx0 h2;obtain⟨q1,q2⟩:=kK h3;have e:=gR h1
  simp_all
theorem bO{env:Env}{nk}(hne:nk≠.free):∀{names:List (Str×NameKind)}{x:Str},names.lookup x=some nk->
  (names.map λ(n,k)=>if (k==NameKind.free&&env.scope.kind==.function&&env.kindOf n==some .cell)then (n,NameKind.cell)else (n,k)).lookup x=some nk
 |[],_,h=>by simp at h
 |(n,k)::r,x,h=>by
  have ih:=@bO env nk hne r x;show List.lookup x ((if (k==NameKind.free&&env.scope.kind==.function&&env.kindOf n==some _)=true then (n,NameKind.cell)else (n,k))::_)=_;cases hy:x==n with
  |true=>
   simp_all
  |false=>
   simp only[lk0,hy]at h
   by_cases hc:(k==NameKind.free&&env.scope.kind==.function&&env.kindOf n==some .cell)=true
   .rw[if_pos hc];simp only[lk0,hy];exact ih h
   .rw[if_neg hc];simp only[lk0,hy];exact ih h
structure Lv(X:Cx)(C B:Cs)(sc:Scope)(tg:Expr)(nt:Nat)(js:List Nat):Prop where
 ok:BlkOk X sc js
 nt:nt=(bE tg).length
 n:B.N=aY X (bE tg) js
 cx:∀(A:Addr)(s:Shared)(H:Hp)(fp:List Addr),CxC (L2.C.blk X sc (aY X (bE tg) js) A s H fp) B
 same:B.fns=C.fns/\B.cst=C.cst/\B.vc=C.vc/\B.vms=C.vms/\B.xcs=C.xcs
def AM(c:CxC X C){sc}{tg}{B}{nt}{js}(h:EG C sc tg=some (B,nt,js)):Lv X C B sc tg nt js:=by
 unfold EG at h;split at h
 .rename_i q
  obtain⟨js',h1,h2⟩:=mx0 h;injection h2 with h2 h3
  injection h3 with h3 h4
  subst h2 h3 h4;unfold CL at q;simp only[be0]at q;obtain⟨⟨⟨⟨q1,q2⟩,q3⟩,q4⟩,q5⟩:=q;have q2':=λy hy=>List.all_eq_true.mp q2 y hy
  obtain⟨i1,i2⟩:=kK h1;have hN:bE tg++freeOf sc=aY X (bE tg) js':=by
   unfold aY;rw[c.N,i1]
  have hfree:∀y∈sc.names,y.2=.free->X.env.kindOf y.1=some .cell:=λy hy hf=>by
   have z:=q2' y hy;simp only[be0,Bool.or_eq_true]at z;rcases z.1.1 with z|z
   .rw[hf]at z;simp at z
   .exact c.cell y.1 (eq_of_beq z)
  have hcell:∀y∈sc.names,y.2≠.cell:=λy hy=>by
   have z:=q2' y hy;simp only[be0]at z
   simpa using z.1.2
  refine⟨⟨eq_of_beq q1,hfree,hcell,λy hy hl=>?_,λj hj=>?_⟩,rfl,hN,λA s H fp=>⟨hN.symm,od0 q5,λx kd e ek=>?_,λx kd e ek=>?_,λx e=>?_,λx e=>?_,c.calm,eq_of_beq q1⟩,rfl,rfl,rfl,rfl,rfl⟩
  .have z:=q2' y hy
   simp only[be0,Bool.or_eq_true]at z;rcases z.2 with z|z
   .rw[hl]at z;simp at z
   .exact eq_of_beq z
  .obtain⟨x,hx,e⟩:=i2 j hj
   refine⟨x,by rw[c.N];exact e,eq_of_beq (List.all_eq_true.mp q4 x hx)⟩
  .have e:sc.names.lookup x=some kd:=e
   rcases ek with rfl|rfl|rfl
   .exact .inl (lookup_relabel_local e)
   .exact absurd rfl (hcell _ (ml0 e))
   .exact .inr (.inl (bp c.kind e (hfree _ (ml0 e) rfl)))
  .have e:sc.names.lookup x=some kd:=e
   rcases ek with rfl|rfl
   .exact⟨.inl (lookup_relabel_local e),.inr (lookup_relabel_local e)⟩
   .exact absurd rfl (hcell _ (ml0 e))
  .have e:=e
   exact absurd rfl (hcell _ (ml0 e))
  .have e:=e
   exact bO (env:=X.env) (by decide) e
 .cases h
set_option tactic.hygienic false
end
def bS{o:Option α}{f:α->Option β}{c:β}(h:o.bind f=some c):∃x,o=some x/\f x=some c:=bx0 h
def mS{o:Option α}{f:α->β}{c:β}(h:o.map f=some c):∃x,o=some x/\f x=c:=mx0 h
def iS{p:Prop}[Decidable p]{x:α}{c:α}(h:(if p then some x else .none)=some c):p/\x=c:=by
 simp_all
def iB{p:Prop}[Decidable p]{x:Option α}{c:α}(h:(if p then x else .none)=some c):p/\x=some c:=by
 simp_all
def nt{b:Bool}(h:(!b)=true):b=false:=by simpa using h
def a2{a b:Bool}(h:(a&&b)=true):a=true/\b=true:=by simpa using h
def oh(h:rf x=true):PyData.strOk x=true:=by
 rw[strOk_iff];exact λc hc=>od0 (List.all_eq_true.mp h c hc)
def fQ{e:Expr}{env}(h:isSet e=false):∀x,foldedSetIterable e env x=pure x:=by
 intro x;cases e<;>first|rfl|cases h
section
variable {k:Nat}{C:Cs}{e:Expr}{a' b' c':E}{as':Es}{p:Pos}{f:Str}{nb nc:Bool}
theorem Wz.blk(w:Wz X Z Γ C k){B}{sc}{N}(h:B.fns=C.fns/\B.cst=C.cst/\B.vc=C.vc/\B.vms=C.vms/\B.xcs=C.xcs)(A:Addr)(s)(H:Hp)(fp):Wz (L2.C.blk X sc N A s H fp) Z Γ B k:=
 ⟨w.blt,λx hx J hφ=>w.fns x (by rwa [<-h.1]) J hφ,w.gl,w.room,λc hc=>w.vc c (by rwa [<-h.2.2.1]),λc m hc hm J hφ=>w.vf c m (by rwa [<-h.2.2.1]) (by rwa [<-h.2.2.2.1]) J hφ,λt c tab hc=>w.xc t c _ (by simp_all)⟩
def Wz.u1(w:Wz X Z Γ C k):X.A.units+1<cLine:=by have:=w.room.units;omega
def AN(h:∀Y,Ev X Y e d)(he:∀whole,isTrue e X.env whole=(do let v ←whole;standAt e.pos;holding [v] (truthy v))):SdE X Z Γ e (.k d) false:=bx (λa a=>rfl) (λY d' q=>by simp_all) he
def FE(V:VarOk X x i):SdE X Z Γ (.Name x p) (.v i) false:=by
 refine⟨λq=>EK i q V.at' V.vis V.d V.cd,λq=>wq i q V.at' V.vis V.d V.cd,λq=>Ft i q V.at' V.vis V.d V.cd,λq=>?_,λz=>by cases z⟩;obtain⟨d',q1,q2⟩:=bS q;obtain⟨t,q3,q4⟩:=mS q2;refine⟨t,q4.symm,iY (wq i ?_ V.at' V.vis V.d V.cd) q3 λa=>rfl⟩;obtain⟨sl,z1,z2⟩:=bS q1;rw[z1];cases sl<;>exact z2
def Lw(c:CxC X C)(w:Wz X Z Γ C k)(h:ah C x=true):SdE X Z Γ (.Name x p) (.g x) false:=bx (λa a=>rfl) λY d hd=>by
 obtain⟨u,v,h1,h2,h3⟩:=w.gl x d hd;exact λpins s σ H Q I ⟨G0,H0,G,E,k⟩=>qL (aO c h).1 h1 h2 (aO c h).2.2 _ s σ H Q I (k _ G H (.refl E.sub) (h3 G))
def IC{op:Operator}{o:Op2}(h:cOp op=some o)(A:SdE X Z Γ a a' na)(B:SdE X Z Γ b b' nb):SdE X Z Γ (.BinOp a op b pos) (.op o a' b') true:=dW (λc c=>rfl) λY d q=>by
 obtain⟨x,q1,q⟩:=bS q;obtain⟨y,q2,q⟩:=bS q;have:=wA (pos:=pos) h q (A.r q1) (B.r q2);exact⟨this.1,λc=>this.2⟩
def FG(A:SdE X Z Γ a a' na):SdE X Z Γ (.UnaryOp .USub a pos) (.neg a') false:=bx (λb b=>rfl) λY d q=>by
 obtain⟨x,q1,q⟩:=bS q;obtain⟨i,q2,rfl⟩:=mS q;obtain rfl:=lE q2;exact ES (A.v q1)
def FH(A:SdE X Z Γ a a' na):SdE X Z Γ (.UnaryOp .Not a pos) (.not a') false:=by
 have val:∀{Y d},ev Z Γ .val Y (.not a')=some d->Ev X Y (.UnaryOp _ a pos) d:=λq=>by
  obtain⟨x,q1,q⟩:=bS q;obtain⟨t,q2,rfl⟩:=mS q;obtain rfl:=pT q2;exact Fe (A.v q1)
 refine⟨val,λq=>(val q).er,λq=>(val q).ek,λq=>?_,λz=>by cases z⟩;obtain⟨x,q1,q⟩:=bS q;obtain⟨t,q2,rfl⟩:=mS q;obtain⟨b,rfl,hb⟩:=A.t q1;cases q2;exact⟨_,rfl,EW hb⟩
def FI{op:CmpOp}{o:Cop}(w:Wz X Z Γ C k)(h:lF op=some o)(hs:(!isSet b)=true)(A:SdE X Z Γ a a' na)(B:SdE X Z Γ b b' nb):SdE X Z Γ (.Compare a [op] [b] pos) (.cmp o a' b') false:=by
 have both:∀{Y d},((ev Z Γ .read Y a').bind λx=>(ev Z Γ .read Y b').bind λy=>(cp o x y).map D.bool)=some d->∃t,d=.bool t/\Ev X Y (.Compare a _ _ pos) (.bool t)/\Et X Y (.Compare a _ _ pos) t:=λq=>by
  obtain⟨x,q1,q⟩:=bS q;obtain⟨y,q2,q⟩:=bS q;obtain⟨t,q3,rfl⟩:=mS q;obtain⟨r,hr,hR⟩:=lK w.room.units h q3;exact⟨t,rfl,EL hr (A.r q1) (B.r q2) hR (fG (nt hs)),EM hr (A.r q1) (B.r q2) hR (fG (nt hs))⟩
 refine xE (λc c=>rfl) (λY d q=>?_) λY d t q ht=>?_
 .obtain⟨t,rfl,z,_⟩:=both q;simp_all
 .obtain⟨t,rfl,_,z⟩:=both q;simp_all
def oj{op op':CmpOp}{r r':R2}{u:Bool}(ho:OpR X (compareOp op) r)(ho':OpR X (compareOp op') r')(ha:Er X Y a d1)(hb:Er X Y b d2)(hc:t=true->Er X Y c d3)
  (h1:R2r X.K r d1 d2 (.bool t)) (h2:t=true->R2r X.K r' d2 d3 (.bool u)) (hm:lastMarks [op,op'] [b,c]=false) (hu:t=false->u=false):
  Ev X Y (.Compare a [op,op'] [b,c] pos) (.bool u)/\Et X Y (.Compare a [op,op'] [b,c] pos) u:=by
 have key:∀(tc:TE),(t=true->tc=tEr X.K Y d3)->∀(σ:St)(H:Hp)(Q:VK),(∃G0 H0 G,EnvD X.K G0 H0 G H σ Y/\∀v G' H',Ext G H G' H'->Dp X.K G' (.bool u) v->Q v H')->pD r r' (tEr X.K Y d1) (tEr X.K Y d2) tc σ H Q:=by
  intro tc htc σ H Q h0;obtain⟨G0,H0,G,E,kk⟩:=h0;refine⟨G0,H0,G,E,λx G1 H1 e1 r1=>⟨G0,H0,G1,E.step e1,λy G2 H2 e2 r2=>h1 x y G2 H2 _ e2.gh (r1.ext e2) r2 λv G3 H3 e3 r3=>?_⟩⟩;cases r3;refine⟨t,rfl,?_⟩;cases t with
  |true=>
   rw[htc rfl];refine⟨G0,H0,G3,((E.step e1).step e2).step e3,λz G4 H4 e4 r4=>h2 rfl y z G4 H4 Q e4.gh ((r2.ext e3).ext e4) r4 λv G5 H5 e5 r5=>kk v G5 H5 (e1.trans (e2.trans (e3.trans (e4.trans e5)))) r5⟩
  |false=>
   exact kk _ G3 H3 (e1.trans (e2.trans e3)) (by rw[hu rfl];exact .bool _)
 have fin:∀tc,PE X c tc->(t=true->tc=tEr X.K Y d3)->Ev X Y (.Compare a [op,op'] [b,c] pos) (.bool u)/\Et X Y (.Compare a [op,op'] [b,c] pos) u:=λtc hp ht=>
  ⟨λpins s σ H Q I h0=>vK ho ho' ha hb hp hm pins s σ H Q I (key _ ht σ H Q h0),λpins s σ H Q I h0=>vL ho ho' ha hb hp hm pins s σ H Q I (key _ ht σ H _ (by
   obtain⟨G0,H0,G,E,kk⟩:=h0;exact⟨G0,H0,G,E,λv G' H' e r=>by cases r;exact⟨u,rfl,kk G' H' e⟩⟩))⟩
 cases t with
 |true=>exact fin _ (hc rfl) λd=>rfl
 |false=>exact fin (λd d d=>False) (λd d d d d d z=>z.elim) λz=>by cases z
def xF{op op':CmpOp}{o o':Cop}(w:Wz X Z Γ C k)(h:lF op=some o)(h':lF op'=some o')(hs:(!isSet c)=true)(A:SdE X Z Γ a a' na)(B:SdE X Z Γ b b' nb)(Cc:SdE X Z Γ c c' nc):SdE X Z Γ (.Compare a [op,op'] [b,c] pos) (.chain o o' a' b' c') false:=by
 have both:∀{Y d},((ev Z Γ .read Y a').bind λx=>(ev Z Γ .read Y b').bind λy=>(cp o x y).bind λt=>if t then (ev Z Γ .read Y c').bind λz=>(cp o' y z).map D.bool else some (.bool false))=some d->
   ∃u,d=.bool u/\Ev X Y (.Compare a [op,op'] [b,c] pos) (.bool u)/\Et X Y _ u:=λq=>by
  obtain⟨x,q1,q⟩:=bS q;obtain⟨y,q2,q⟩:=bS q;obtain⟨t,q3,q⟩:=bS q;obtain⟨r,hr,hR⟩:=lK (X:=X) w.room.units h q3;have hm:lastMarks [op,op'] [b,c]=false:=fG (nt hs);cases t with
  |true=>
   obtain⟨z,q4,q⟩:=bS q;obtain⟨u,q5,rfl⟩:=mS q;obtain⟨r',hr',hR'⟩:=lK w.room.units h' q5;exact⟨u,rfl,oj hr hr' (A.r q1) (B.r q2) (λe=>Cc.r q4) hR (λe=>hR') hm (λz=>by cases z)⟩
  |false=>
   cases q;exact⟨false,rfl,oj (d3:=.none) (r':=λe e e e=>False) hr (λpins s σ H x y v u Q I rx ry h=>h.elim) (A.r q1) (B.r q2) (λz=>by cases z) hR (λz=>by cases z) hm (λe=>rfl)⟩
 refine xE (λe e=>rfl) (λY d q=>?_) λY d t q ht=>?_
 .obtain⟨t,rfl,z,_⟩:=both q;exact⟨z,λz=>by cases z⟩
 .obtain⟨t,rfl,_,z⟩:=both q;cases ht;exact z
structure SdB(X:Cx)(Z:Fs)(Γ:List (Str×D))(op:BoolOp)(es:List Expr)(f:E):Prop where
 v:∀{pos Y d},ev Z Γ .val Y f=some d->Ev X Y (.BoolOp op es pos) d
 t:∀{pos Y d},ev Z Γ .test Y f=some d->∃b,d=.bool b/\Ew X Y (.BoolOp op es pos) b
def rN{op:BoolOp}(B:SdB X Z Γ op as a')(h:(∀Y,ev Z Γ .read Y a'=ev Z Γ .val Y a')/\∀Y,ev Z Γ .walk Y a'=ev Z Γ .val Y a'):SdE X Z Γ (.BoolOp op as pos) a' false:=
 ⟨B.v,λq=>(B.v (by rwa [<-h.1])).er,λq=>(B.v (by rwa [<-h.2])).ek,λq=>let ⟨b,e,z⟩:=B.t q;⟨b,e,z.et⟩,λz=>by cases z⟩
def FJ{op:BoolOp}(A:SdE X Z Γ a a' na):SdB X Z Γ op [a] a':=⟨λq=>Fb (A.v q),λq=>by
 obtain⟨b,rfl,t⟩:=A.t q;cases op with
 |And=>exact⟨b,rfl,Ak t⟩
 |Or=>exact⟨b,rfl,EX t⟩⟩
def xG(A:SdE X Z Γ a a' na)(B:SdB X Z Γ .And (b::as) b'):SdB X Z Γ .And (a::b::as) (.and a' b'):=⟨λq=>by
 obtain⟨x,q1,q⟩:=bS q;obtain⟨t,q2,q⟩:=bS q;obtain rfl:=pT q2;cases t with
 |true=>exact An (A.v q1) (B.v q)
 |false=>cases q;exact Ao (A.v q1),λq=>by
 obtain⟨x,q1,q⟩:=bS q;obtain⟨t,rfl,ht⟩:=A.t q1;cases t with
 |true=>
  obtain⟨b,rfl,hb⟩:=B.t q;exact⟨b,rfl,Al ht hb⟩
 |false=>cases q;exact⟨_,rfl,Am ht⟩⟩
def CP(A:SdE X Z Γ a a' na)(B:SdB X Z Γ .Or (b::as) b'):SdB X Z Γ .Or (a::b::as) (.or a' b'):=⟨λq=>by
 obtain⟨x,q1,q⟩:=bS q;obtain⟨t,q2,q⟩:=bS q;obtain rfl:=pT q2;cases t with
 |true=>cases q;exact Fd (A.v q1)
 |false=>exact Fc (A.v q1) (B.v q),λq=>by
 obtain⟨x,q1,q⟩:=bS q;obtain⟨t,rfl,ht⟩:=A.t q1;cases t with
 |true=>cases q;exact⟨_,rfl,EZ ht⟩
 |false=>
  obtain⟨b,rfl,hb⟩:=B.t q;exact⟨b,rfl,EY ht hb⟩⟩
def FK(Cc:SdE X Z Γ c c' nc)(A:SdE X Z Γ a a' na)(B:SdE X Z Γ b b' nb):SdE X Z Γ (.IfExp c a b pos) (.ite c' a' b') false:=by
 have val:∀{Y d},ev Z Γ .val Y (.ite c' a' b')=some d->Ev X Y (.IfExp c a b pos) d:=λq=>by
  obtain⟨x,q1,q⟩:=bS q;obtain⟨t,rfl,ht⟩:=Cc.t q1;cases t with
  |true=>exact Fh ht (A.v q)
  |false=>exact Fi ht (B.v q)
 exact⟨val,λq=>(val q).er,λq=>(val q).ek,λq=>(by cases (q)),λz=>by cases z⟩
def FL{vc:Nat}(w:Wz X Z Γ C k)(h:C.vc=some vc)(hs:(!bK a)=true)(hx:x="objects")(A:SdE X Z Γ a a' na):SdE X Z Γ (.Attribute a x pos) (.vob vc a') false:=by
 subst hx;have key:∀{Y d},((ev Z Γ .read Y a').bind λx=>if kg vc x then some (D.list (El x))else .none)=some d->Er X Y (.Attribute a _ pos) d:=λq=>by
  obtain⟨x,q1,q⟩:=bS q;obtain⟨hv,rfl⟩:=iS q;obtain⟨hh,os,rfl⟩:=ng hv;exact FD (w.vc vc h).1 (w.vc vc h).2 (A.r q1) (nt hs)
 refine⟨λq=>nn q,λq=>key q,λq=>nn q,λq=>?_,λz=>by cases z⟩;obtain⟨d',q1,q2⟩:=bS q;obtain⟨t,q3,q4⟩:=mS q2;exact⟨t,q4.symm,iY (key q1) q3 λb=>rfl⟩
def FM(w:Wz X Z Γ C k)(hs:(!isSlice b)=true)(A:SdE X Z Γ a a' na)(B:SdE X Z Γ b b' nb):SdE X Z Γ (.Subscript a b pos) (.idx a' b') false:=bx (λc c=>rfl) λY d q=>by
 obtain⟨x,q1,q⟩:=bS q;obtain⟨y,q2,q⟩:=bS q;exact tQ w.u1 q (A.r q1) (B.v q2) (nt hs)
def FN{i:Int}{p3:Pos}(hi:i=1)(A:SdE X Z Γ a a' na):SdE X Z Γ (.Subscript a (.Slice .none .none (some (.UnaryOp .USub (.Constant (.int i) j p3) p4)) p2) pos) (.bi .rvl (.cons a' .nil)) false:=bx (λb b=>rfl) λY d q=>by
 subst hi;obtain⟨ds,q1,q⟩:=bS q;obtain⟨x,q2,q1⟩:=bS (q1);cases q1;cases x with
 |list ls=>cases q;exact (tT (A.r q2)).ev
 |_=>cases q
structure SdO(X:Cx)(Z:Fs)(Γ:List (Str×D))(eo:Option Expr)(as:Es):Prop where
 o:∀{Y o},evP Z Γ Y as=some o->PO X eo (tPt X.K Y o)
def AO:SdO X Z Γ .none .nil:=⟨λq=>by cases q;exact wB⟩
def AQ(A:SdE X Z Γ a a' na):SdO X Z Γ (some a) (.cons a' .nil):=⟨λq=>by
 obtain⟨d,q1,q2⟩:=bS q;obtain⟨i,q3,rfl⟩:=mS q2;obtain rfl:=lE q3;exact wC (A.v q1)⟩
def ID{lo hi:Option Expr}{lo' hi':Es}(A:SdE X Z Γ a a' na)(L:SdO X Z Γ lo lo')(H:SdO X Z Γ hi hi'):SdE X Z Γ (.Subscript a (.Slice lo hi .none p) pos) (.sl a' lo' hi') true:=lR (λb b=>rfl) λY d q=>by
 obtain⟨x,q1,q⟩:=bS q;obtain⟨y,q2,q⟩:=bS q;obtain⟨z,q3,q⟩:=bS q;cases x with
 |list ds=>cases q;exact tS (A.r q1) (L.o q2) (H.o q3)
 |_=>cases q
structure SdA(X:Cx)(Z:Fs)(Γ:List (Str×D))(es:List Expr)(as:Es):Prop where
 s:aI es
 r:∀{fl Y ds},evs Z Γ .read fl Y as=some ds->Ea X Y fl es ds
 v:∀{Y ds},evs Z Γ .val [] Y as=some ds->Ea X Y [] es ds
 l:∀{m fl Y ds},evs Z Γ m fl Y as=some ds->ds.length=es.length
def FO:SdA X Z Γ [] .nil:=⟨λa z=>(by cases z),λq=>(by cases q;exact lH),λq=>(by cases q;exact lH),λq=>by simp_all⟩
def AR(hs:(!isStar a)=true)(A:SdE X Z Γ a a' na)(R:SdA X Z Γ as as'):SdA X Z Γ (a::as) (.cons a' as'):=by
 refine⟨λx hx=>(mq0 hx).elim (λz=>z▸nt hs) (R.s x),λ{fl _ _} q=>?_,λq=>?_,λq=>?_⟩
 .obtain⟨x,q1,q⟩:=bS q
  obtain⟨rs,q2,rfl⟩:=mS q;cases hf:fl.headD _ with
  |true=>rw[hf]at q1;exact wt (A.r q1) hf (R.r q2) (nt hs)
  |false=>rw[hf]at q1;exact fC (A.v q1) (R.r q2) (nt hs)
 .obtain⟨x,q1,q⟩:=bS q
  obtain⟨rs,q2,rfl⟩:=mS q;exact fC (A.v q1) (R.v q2) (nt hs)
 .obtain⟨x,q1,q⟩:=bS q
  obtain⟨rs,q2,rfl⟩:=mS q;rw[lc0,lc0,R.l q2]
def FP(A:SdA X Z Γ as as'):SdE X Z Γ (.List as pos) (.lst as') true:=lR (λa a=>rfl) λY d q=>by
 obtain⟨ds,q1,q⟩:=bS q;obtain⟨hz,rfl⟩:=iS q;exact ET (A.v q1) hz
def FQ(A:SdA X Z Γ as as'):SdE X Z Γ (.Tuple as j pos) (.tup as') false:=bx (λa a=>rfl) λY d q=>by
 obtain⟨ds,q1,q⟩:=bS q;obtain⟨hz,rfl⟩:=iS q;exact EU (A.v q1) hz
def AS:SdE X Z Γ (.Dict [] [] pos) (.bi .dict (.cons (.lst .nil) .nil)) true:=lR (core:=λa=>some _) (λm a=>rfl) λY d q=>by
 cases q;exact λpins s σ H Q I ⟨G0,H0,G,E,k⟩=>mU _ s σ H Q I λp hp=>k p G _ (.hid E.sub hp) (E.sub.free hp) hp (.inr ⟨_,_,rfl,upd_same,.nil⟩)
structure SdF(X:Cx)(Z:Fs)(Γ:List (Str×D))(vs:List Expr)(es:Es):Prop where
 j:∀{Y:List Sl}{pins:List (Addr×Obj)}{σ:St}{G0 H0:Hp}{fl:List Bool}{ds:List D}{y acc:Str}{P:Str->Shared->Prop}{s:Shared}{H G:Hp},evs Z Γ .read fl Y es=some ds->fsL ds=some y->Inv X pins σ H s->EnvD X.K G0 H0 G H σ Y->acc.length+y.length<=sizeLine->(∀G1 H1 s1,Ext G H G1 H1->Inv X pins σ H1 s1->PyData.strOk y=true->P (acc++y) s1)->Joins (model X.prog X.w) X.A X.xe (evalEach vs X.env) acc P s
def FR:SdF X Z Γ [] .nil:=⟨λ{_ _ _ _ _ _ _ _ acc _ s H G} q e I E hz k=>by
 cases q;cases e;have:=k G H s (.refl E.sub) I (by rw[strOk_iff];intro c hc;cases hc)
 rwa [show acc++Str.empty=acc from eB (rfl)]at this⟩
def len_app(x y:Str):(x++y).length=x.length+y.length:=by show (x.cps++y.cps).size=_;rw[Array.size_append];rfl
def rO{v:Expr}(R:SdF X Z Γ as as')
  (h:∀{Y:List Sl}{pins:List (Addr×Obj)}{σ:St}{G0 H0 G H:Hp}{m:Md}{d:D}{x:Str}{s:Shared}{Q:VK},(m=.read\/m=.val)->ev Z Γ m Y a'=some d->ib d=some x->Inv X pins σ H s->EnvD X.K G0 H0 G H σ Y->x.length<=sizeLine->(∀G1 H1,Ext G H G1 H1->PyData.strOk x=true->Q (.str x) H1)->wpAny (model X.prog X.w) X.A (eval v X.env) (EP X pins σ Q) X.xe s):SdF X Z Γ (v::as) (.cons a' as'):=⟨λ{Y pins σ G0 H0 fl ds y acc P s H G} q e I E hz k=>by
 obtain⟨d,q1,q⟩:=bS q;obtain⟨ds',q2,rfl⟩:=mS q;obtain⟨x,e1,e⟩:=bS (e);obtain⟨y',e2,rfl⟩:=mS e;rw[len_app]at hz;refine thn (h (Q:=λv H1=>∃G1,v=.str x/\Ext G H G1 H1/\PyData.strOk x=true) (by split<;>simp) q1 e1 I E (by omega) λG1 H1 x1 ok=>⟨G1,rfl,x1,ok⟩) λu s1 ⟨vv,H1,I1,ru,G1,ev,x1,ok⟩=>?_
 subst ev;obtain⟨t,rfl⟩:=ru;exact⟨x,t,rfl,by rw[len_app];omega,R.j q2 e2 I1 (E.step x1) (by rw[len_app];omega) λG2 H2 s2 x2 I2 o2=>by
  have:=k G2 H2 s2 (x1.trans x2) I2 (fD ok o2)
  rwa [show acc++(x++y')=acc++x++y' from eB (by show (acc.cps++(x.cps++y'.cps)).toList=(acc.cps++x.cps++y'.cps).toList;simp)]at this⟩⟩
def FS{z:Str}(R:SdF X Z Γ as as')(h:rf z=true):SdF X Z Γ (.Constant (.str z) j pos::as) (.cons (.k (.str z)) as'):=rO R λ{_ _ _ _ _ G H m d x s Q} hm q e I E hz k=>by
 have:d=.str z:=by rcases hm with rfl|rfl<;>(simp_all)
 subst this;cases e;exact wpAny_Constant_str ⟨.str _,_,I.tok _,⟨_,rfl⟩,k G H (.refl E.sub) (oh h)⟩
def FU{i:Int}(R:SdF X Z Γ as as')(h:i = -1)(A:SdE X Z Γ a a' na):SdF X Z Γ (.FormattedValue a i .none pos::as) (.cons a' as'):=by
 subst h;refine rO R λ{Y pins σ G0 H0 G H m d x s Q} hm q e I E hz k=>?_
 have er:Er X Y a d:=by
  rcases hm with rfl|rfl
  .exact A.r q
  .exact (A.v q).er
 refine wpAny_FormattedValue_plain (thn (er pins s σ H (λv H1=>∃G1,Ext G H G1 H1/\Dr X.K G1 H1 d v) I ⟨G0,H0,G,E,λv G1 H1 x1 r1=>⟨G1,x1,r1⟩⟩) λu s1 ⟨vv,H1,I1,ru,G1,x1,r1⟩=>?_);cases d with
 |str z=>
  cases e;obtain⟨rfl,ok⟩:=r1.str;obtain⟨tk,rfl⟩:=ru;exact wpAny_formatField_str ⟨.str _,H1,I1,⟨_,rfl⟩,k G1 H1 x1 ok⟩ ⟨.str _,H1,I1.tok _,⟨_,rfl⟩,k G1 H1 x1 ok⟩ hz
 |int i=>
  obtain⟨c,e,ok⟩:=rq (show mX i=some x from e);subst e;obtain rfl:=r1.int;obtain⟨tk,rfl⟩:=ru;exact wpAny_formatField_int c ⟨.str _,H1,(I1.tok _).tok _,⟨_,rfl⟩,k G1 H1 x1 ok⟩
 |_=>cases e
def FV{v:Expr}(A:SdF X Z Γ (a::v::as) as'):SdE X Z Γ (.JoinedStr (a::v::as) pos) (.bi .fst as') false:=bx (λb b=>rfl) λY d q=>by
 obtain⟨ds,q1,q⟩:=bS q;obtain⟨y,q2,q⟩:=bS (q);obtain⟨hz,rfl⟩:=iS q;rw[big_eq]at hz;intro pins s σ H Q I h0;obtain⟨G0,H0,G,E,k⟩:=h0;refine wpAny_JoinedStr (A.j q1 q2 I E (by show 0+y.length<=_;omega) λG1 H1 s1 x1 I1 ok=>?_);rw[show Str.empty++y=y from eB (by show (Str.empty.cps++y.cps).toList=_;rw[Array.toList_append];rfl)];exact⟨by omega,.str _,H1,I1.tok _,⟨_,rfl⟩,k _ G1 H1 x1 (.str _ ok)⟩
def AU{f:Bf}(h:kh x=some f):x∈bltNames:=by
 unfold kh at h
 repeat' split at h
 all_goals first|cases h;done|(subst_vars;simp[bltNames])
def FW{T:String}(h:pU x=some T):x∈bltNames:=by
 unfold pU at h
 repeat' split at h
 all_goals first|cases h;done|(subst_vars;simp[bltNames])
def AV(c:CxC X C)(w:Wz X Z Γ C k)(hf:C.fns.contains f=true)(hg:ah C f=true)(A:SdA X Z Γ (a::as) as'):SdE X Z Γ (.Call (.Name f p) (a::as) [] pos) (.call f as') false:=bx (λb b=>rfl) λY d q=>by
 obtain⟨J,q1,q⟩:=bS q;obtain⟨ds,q2,q⟩:=bS q;exact qi (w.fns f hf J q1) w.room (aO c hg).1 (aO c hg).2.2 (A.r q2) q A.s
def FX{tn:Str}{z:Nat×List (Nat×Bool)}(c:CxC X C)(w:Wz X Z Γ C k)(hf:f="isinstance")(hg:ah C f=true)(h:C.xcs.lookup tn=some z)(hq:(ah C tn&&!isStar a)=true)(A:SdE X Z Γ a a' na):SdE X Z Γ (.Call (.Name f p) [a,.Name tn px] [] pos) (.isx a' z.1 z.2) false:=bx (λb b=>rfl) λY d q=>by
 subst hf;obtain⟨x,q1,q⟩:=bS q;obtain⟨t,q2,rfl⟩:=mS q;obtain⟨e,rfl⟩:=Aj q2;exact ux (ba c w hg (by simp[bltNames])) (w.xc _ _ _ h) (aO c (a2 hq).1).1 (aO c (a2 hq).1).2.2 (A.r q1) (nt (a2 hq).2) q2
def FY{tn:Str}{T:String}(c:CxC X C)(w:Wz X Z Γ C k)(hf:f="isinstance")(hg:ah C f=true)(h:pU tn=some T)(hq:(ah C tn&&!isStar a)=true)(A:SdE X Z Γ a a' na):SdE X Z Γ (.Call (.Name f p) [a,.Name tn px] [] pos) (.isi a' T) false:=bx (λb b=>rfl) λY d q=>by
 subst hf;obtain⟨x,q1,q⟩:=bS q;obtain⟨t,q2,rfl⟩:=mS q;exact uk (ba c w hg (by simp[bltNames])) (ba c w (a2 hq).1 (FW h)) h (A.r q1) (nt (a2 hq).2) q2
def FZ{g:Str}(c:CxC X C)(w:Wz X Z Γ C k)(hf:f="sorted")(hg:ah C f=true)(h:g="set")(hg':ah C g=true)(A:SdA X Z Γ [a] as'):SdE X Z Γ (.Call (.Name f p) [.Call (.Name g sp) [a] [] qp] [] pos) (.bi .srt as') false:=bx (λb b=>rfl) λY d q=>by
 subst hf h;obtain⟨ds,q1,q⟩:=bS q;exact uh c.calm (ba c w hg (by simp[bltNames])) (ba c w hg' (by simp[bltNames])) q (A.r q1) (A.s a ms0)
def AW(c:CxC X C)(w:Wz X Z Γ C k)(hf:f="sorted")(hg:ah C f=true)(A:SdA X Z Γ [a] as'):SdE X Z Γ (.Call (.Name f p) [a] [] pos) (.bi .srtd as') false:=bx (λb b=>rfl) λY d q=>by
 subst hf;obtain⟨ds,q1,q⟩:=bS q;exact qg c.calm (ba c w hg (by simp[bltNames])) q (A.r q1) (A.s a ms0)
def AX{g:Str}(c:CxC X C)(w:Wz X Z Γ C k)(hf:f="len")(hg:ah C f=true)(h:g="set")(hg':ah C g=true)(A:SdA X Z Γ [a] as'):SdE X Z Γ (.Call (.Name f p) [.Call (.Name g sp) [a] [] qp] [] pos) (.bi .nset as') false:=bx (λb b=>rfl) λY d q=>by
 subst hf h;obtain⟨ds,q1,q⟩:=bS q;exact qd c.calm (ba c w hg (by simp[bltNames])) (ba c w hg' (by simp[bltNames])) q (A.r q1) (A.s a ms0)
def AY{g:Str}(c:CxC X C)(w:Wz X Z Γ C k)(hf:f="list")(hg:ah C f=true)(h:g="zip")(hg':ah C g=true)(A:SdA X Z Γ [a,b] as'):SdE X Z Γ (.Call (.Name f p) [.Call (.Name g sp) [a,b] [] qp] [] pos) (.bi .lzip as') false:=bx (λe e=>rfl) λY d q=>by
 subst hf h;obtain⟨ds,q1,q⟩:=bS q
 match ds,q,q1 with
 |[.list xs,.list ys],q,q1=>cases q;exact qc c.calm (ba c w hg (by simp[bltNames])) (ba c w hg' (by simp[bltNames])) (A.r q1) A.s
def IE{b:Bf}(c:CxC X C)(w:Wz X Z Γ C k)(hg:ah C f=true)(h:kh f=some b)(A:SdA X Z Γ (a::as) as'):SdE X Z Γ (.Call (.Name f p) (a::as) [] pos) (.bi b as') (frB b):=dW (λe e=>rfl) λY d q=>by
 obtain⟨ds,q1,q⟩:=bS q;exact wQ c.calm (ba c w hg (AU h)) h q (A.r q1) A.s
def xH{vc:Nat}(w:Wz X Z Γ C k)(h:C.vc=some vc)(hm:C.vms.contains m=true)(hq:(!bK a&&decide (as.length<=20)&&(apos.endLine==pos.line))=true)(O:SdE X Z Γ a a' na)(A:SdA X Z Γ as as'):SdE X Z Γ (.Call (.Attribute a m apos) as [] pos) (.vcall vc m a' as') false:=bx (λb b=>rfl) λY d q=>by
 obtain⟨x,q1,q⟩:=bS q;obtain⟨hv,q⟩:=iB q;obtain⟨J,q2,q⟩:=bS q;obtain⟨ds,q3,q⟩:=bS q;obtain⟨hl,q⟩:=iB q;obtain⟨hh,os,rfl⟩:=ng hv;exact xB (w.vf vc m h hm J q2) (w.vc vc h).1 w.room (O.r q1) (A.r q3) hl q A.s (λe=>ez0 (by rw[A.l q3,e];rfl)) (kJ (nt (a2 (a2 hq).1).1) A.s (od0 (a2 (a2 hq).1).2) (a2 hq).2)
def IF{g:Mf}(h:rh m=some g)(hq:(!bK a&&!isStar b&&(apos.endLine==pos.line))=true)(O:SdE X Z Γ a a' na)(A:SdE X Z Γ b b' nb):SdE X Z Γ (.Call (.Attribute a m apos) [b] [] pos) (.me g a' (.cons b' .nil)) (frM g):=dW (λc c=>rfl) λY d q=>by
 obtain⟨x,q1,q⟩:=bS q;obtain⟨ds,q2,q⟩:=bS q;obtain⟨y,q3,q4⟩:=bS (show (ev Z Γ .read Y b').bind _=some ds from q2);cases q4;have:=xh (pos:=pos) h q (O.r q1) (A.r q3) (nt (a2 (a2 hq).1).2) (nt (a2 (a2 hq).1).1) (a2 hq).2;exact⟨this.1,λz c=>this.2 (by cases g<;>first|rfl|cases z)⟩
structure SdI(X:Cx)(Z:Fs)(Γ:List (Str×D))(e:Expr)(src:I):Prop where
 w:∀{Y ds},evI Z Γ .walk Y src=some ds->Si X Y true e ds
 r:∀{Y ds},evI Z Γ .read Y src=some ds->Si X Y false e ds
 s:isSet e=false
def Ga(hs:(!isSet e)=true)(A:SdE X Z Γ e a' na):SdI X Z Γ e (.seq a'):=⟨λq=>by
 obtain⟨d,q1,q⟩:=bS q;exact xl q (A.w q1),λq=>by
 obtain⟨d,q1,q⟩:=bS q;exact um q (A.r q1),nt hs⟩
def Gc(c:CxC X C)(w:Wz X Z Γ C k)(hf:f="range")(hg:ah C f=true)(hs:(!isStar a)=true)(A:SdE X Z Γ a a' na):SdI X Z Γ (.Call (.Name f p) [a] [] pos) (.rng a'):=by
 subst hf;have key:∀wk {Y ds},((ev Z Γ .val Y a').bind λd=>(asI d).bind λn=>if rOk n then some ((List.range n.toNat).map λ(k:Nat)=>D.int k)else .none)=some ds->Si X Y wk (.Call (.Name "range" p) [a] [] pos) ds:=λwk b b q=>by
  obtain⟨d,q1,q⟩:=bS q;obtain⟨i,q2,q⟩:=bS q;obtain⟨hr,rfl⟩:=iS q;obtain rfl:=lE q2;exact uo (ba c w hg (by simp[bltNames])) (A.v q1) hr (nt hs)
 exact⟨key true,key false,rfl⟩
def AZ{g:Str}(c:CxC X C)(w:Wz X Z Γ C k)(hf:f="reversed")(hg:ah C f=true)(h:g="range")(hg':ah C g=true)(hs:(!isStar a)=true)(A:SdE X Z Γ a a' na):SdI X Z Γ (.Call (.Name f p) [.Call (.Name g sp) [a] [] qp] [] pos) (.revr a'):=by
 subst hf h;have key:∀wk {Y ds},((ev Z Γ .val Y a').bind λd=>(asI d).bind λn=>if rOk n then some ((List.range n.toNat).reverse.map λ(k:Nat)=>D.int k)else .none)=some ds->Si X Y wk (.Call (.Name "reversed" p) [.Call (.Name "range" sp) [a] [] qp] [] pos) ds:=λwk b b q=>by
  obtain⟨d,q1,q⟩:=bS q;obtain⟨i,q2,q⟩:=bS q;obtain⟨hr,rfl⟩:=iS q;obtain rfl:=lE q2;exact AC (ba c w hg' (by simp[bltNames])) (ba c w hg (by simp[bltNames])) (A.v q1) hr (nt hs)
 exact⟨key true,key false,rfl⟩
structure SdR(X:Cx)(Z:Fs)(Γ:List (Str×D))(tg e:Expr)(src:I):Prop where
 r:∀{Y ds},evI Z Γ .read Y src=some ds->PI X tg e (tSi X.K Y false ds)
 s:isSet e=false
def SdI.sr{src:I}(h:SdI X Z Γ e src):SdR X Z Γ tg e src:=⟨λq=>h.r q tg,h.s⟩
def Gd{tk:Nat}{tpos:Pos}(c:CxC X C)(w:Wz X Z Γ C k)(hf:f="zip")(hg:ah C f=true)(A:SdA X Z Γ [a,b] as'):SdR X Z Γ (.Tuple elts tk tpos) (.Call (.Name f p) [a,b] [] pos) (.zip as'):=⟨λq=>by
 subst hf;obtain⟨ls,q1,q⟩:=bS q
 match ls,q,q1 with
 |[.list x,.list y],q,q1=>
  rw[Ai]at q;obtain⟨hl,rfl⟩:=iS q;exact AE (ba c w hg (by simp[bltNames])) (A.r q1) A.s hl
 |[.list x,.list y,.list z],q,q1=>(cases A.l q1),rfl⟩
end
section
structure Ce(C:Cs)(e:Expr) where
 f:E
 n:Bool
 ok:∀{Z Γ k X},CxC X C->Wz X Z Γ C k->SdE X Z Γ e f n
structure Ca(C:Cs)(es:List Expr) where
 f:Es
 ok:∀{Z Γ k X},CxC X C->Wz X Z Γ C k->SdA X Z Γ es f
structure Ci(C:Cs)(e:Expr) where
 f:I
 ok:∀{Z Γ k X},CxC X C->Wz X Z Γ C k->SdI X Z Γ e f
structure Cr(C:Cs)(tg e:Expr) where
 f:I
 ok:∀{Z Γ k X},CxC X C->Wz X Z Γ C k->SdR X Z Γ tg e f
structure Cb(C:Cs)(op:BoolOp)(es:List Expr) where
 f:E
 ok:∀{Z Γ k X},CxC X C->Wz X Z Γ C k->SdB X Z Γ op es f
structure Co(C:Cs)(e:Option Expr) where
 f:Es
 ok:∀{Z Γ k X},CxC X C->Wz X Z Γ C k->SdO X Z Γ e f
structure Cf(C:Cs)(es:List Expr) where
 f:Es
 ok:∀{Z Γ k X},CxC X C->Wz X Z Γ C k->SdF X Z Γ es f
structure Ct(C:Cs)(ifs:List Expr) where
 f:Es
 ok:∀{Z Γ k X},CxC X C->Wz X Z Γ C k->∀{Y b},evC Z Γ Y f=some b->Ecs X Y ifs b
structure Cc(C:Cs)(elt tg iter:Expr)(ifs:List Expr)(sc:Scope) where
 f:E
 ok:∀{Z Γ k X},CxC X C->Wz X Z Γ C k->∀{Y d},ev Z Γ .val Y f=some d->∃ds out js,∃(t:Tg)(ifs':Es)(elt':E),d=.list out/\BlkOk X sc js/\PI X tg iter (tSi X.K Y false ds)/\rJ X Z Γ sc (aY X (bE tg) js) tg t ifs ifs' elt elt'/\tN t (bE tg).length=true/\ds.length<=sizeLine/\aZ (kG Z Γ (bE tg).length js t ifs' elt' Y) ds=some out/\∀x,foldedSetIterable iter X.env x=pure x
 fin:∀Z Γ m Y,ev Z Γ m Y f=SI.fin m (ev Z Γ .val Y f)
variable (r:∀C e,Option (Ce C e))(C:Cs)
noncomputable def cEs:(es:List Expr)->Option (Ca C es)
 |[]=>some ⟨.nil,λa a=>FO⟩
 |e::es=>chk (!isStar e) λh=>(r C e).bind λA=>(cEs es).map λR=>⟨.cons A.f R.f,λc w=>AR h (A.ok c w) (R.ok c w)⟩
noncomputable def cB(op:BoolOp):(es:List Expr)->Option (Cb C op es)
 |[]=>none
 |[a]=>(r C a).map λA=>⟨A.f,λc w=>FJ (A.ok c w)⟩
 |a::b::es=>(r C a).bind λA=>(cB op (b::es)).map λB=>match op,B with
  |.And,B=>⟨.and A.f B.f,λc w=>xG (A.ok c w) (B.ok c w)⟩
  |.Or,B=>⟨.or A.f B.f,λc w=>CP (A.ok c w) (B.ok c w)⟩
noncomputable def cBo(op:BoolOp)(a b:Expr)(es:List Expr)(pos:Pos):Option (Ce C (.BoolOp op (a::b::es) pos)):=(r C a).bind λA=>(cB r C op (b::es)).map λB=>match op,B with
 |.And,B=>⟨.and A.f B.f,false,λc w=>rN (xG (A.ok c w) (B.ok c w)) ⟨λd=>rfl,λd=>rfl⟩⟩
 |.Or,B=>⟨.or A.f B.f,false,λc w=>rN (CP (A.ok c w) (B.ok c w)) ⟨λd=>rfl,λd=>rfl⟩⟩
noncomputable def cO:(e:Option Expr)->Option (Co C e)
 |none=>some ⟨.nil,λa a=>AO⟩
 |some e=>(r C e).map λA=>⟨.cons A.f .nil,λc w=>AQ (A.ok c w)⟩
noncomputable def cF:(es:List Expr)->Option (Cf C es)
 |[]=>some ⟨.nil,λb b=>FR⟩
 |.Constant (.str z) _ _::es=>chk (rf z) λh=>(cF es).map λR=>⟨.cons (.k (.str z)) R.f,λc w=>FS (R.ok c w) h⟩
 |.FormattedValue a i none _::es=>if h:i = -1 then (r C a).bind λA=>(cF es).map λR=>⟨.cons A.f R.f,λc w=>FU (R.ok c w) h (A.ok c w)⟩ else none
 |_=>none
noncomputable def cT:(es:List Expr)->Option (Ct C es)
 |[]=>some ⟨.nil,λa a a a q=>by cases q;exact AF⟩
 |[e]=>(r C e).map λA=>⟨.cons A.f .nil,λc w a a q=>by
  obtain⟨x,q1,q2⟩:=bS q;obtain⟨t,rfl,ht⟩:=(A.ok c w).t q1;cases q2;exact AG ht⟩
 |_=>none
noncomputable def cQ(e:Expr):Option (Ci C e):=chk (!isSet e) λh=>(r C e).map λA=>⟨.seq A.f,λc w=>Ga h (A.ok c w)⟩
noncomputable def cI:(e:Expr)->Option (Ci C e)
 |.Call (.Name f p) [a] [] pos=>if hf:f="range" then chk (ah C f) λhg=>chk (!isStar a) λhs=>(r C a).map λA=>⟨.rng A.f,λc w=>Gc c w hf hg hs (A.ok c w)⟩
  else if hf:f="reversed" then (match a with
   |.Call (.Name g _) [b] [] _=>chk (ah C f) λhg=>eqS g "range" λh=>chk (ah C g) λhg'=>chk (!isStar b) λhs=>(r C b).map λA=>⟨.revr A.f,λc w=>AZ c w hf hg h hg' hs (A.ok c w)⟩
   |_=>none)else cQ r C (.Call (.Name f p) [a] [] pos)
 |e=>cQ r C e
noncomputable def cRI(tg e:Expr):Option (Cr C tg e):=(cI r C e).map λA=>⟨A.f,λc w=>(A.ok c w).sr⟩
noncomputable def cR:(tg e:Expr)->Option (Cr C tg e)
 |.Tuple ts j q,.Call (.Name f p) [a,b] [] pos=>if hf:f="zip" then chk (ah C f) λhg=>(cEs r C [a,b]).map λA=>⟨.zip A.f,λc w=>Gd c w hf hg (A.ok c w)⟩ else cRI r C (.Tuple ts j q) (.Call (.Name f p) [a,b] [] pos)
 |tg,e=>cRI r C tg e
noncomputable def cCo(elt tg iter:Expr)(ifs:List Expr)(sc:Scope):Option (Cc C elt tg iter ifs sc):=(cR r C tg iter).bind λS=>got (EG C sc tg) λq h=>got (cTg q.1 tg) λt ht=>chk (tN t q.2.1) λhl=>(cT r q.1 ifs).bind λT=>(r q.1 elt).map λA=>⟨.comp q.2.1 q.2.2 t S.f T.f A.f,λc w Y d z=>by
 obtain⟨B,nt,js⟩:=q;obtain⟨ds,q1,z⟩:=bS z;obtain⟨hz,z⟩:=iB z;obtain⟨out,q2,rfl⟩:=mS z;have R:=AM c h;have e:=R.nt;subst e;exact⟨ds,out,js,t,T.f,A.f,rfl,R.ok,(S.ok c w).r q1,⟨λA s H fp=>CO (R.cx A s H fp) ht,λA' s H fp Y b z=>T.ok (R.cx A' s H fp) (w.blk R.same A' s H fp) z,λA' s H fp Y d z=>(A.ok (R.cx A' s H fp) (w.blk R.same A' s H fp)).v z⟩,hl,by rw[<-big_eq];exact hz,q2,fQ (S.ok c w).s⟩,λa a m Y=>by cases m<;>rfl⟩
def Ge{ifs:List Expr}(A:Cc C elt tg iter ifs sc){k:Nat}(c:CxC X C)(w:Wz X Z Γ C k):SdE X Z Γ (.ListComp elt [⟨tg,iter,ifs,0⟩] sc pos) A.f true:=lR (A.fin _ _) λY d q=>by
 obtain⟨ds,out,js,t,ifs',elt',rfl,h1,h2,h3,h4,h5,h6,h7⟩:=A.ok c w q;exact rK h1 c.calm h2 h3 h4 h5 h6 h7
noncomputable def cBi(f:Str)(p:Pos)(a:Expr)(as:List Expr)(pos:Pos)(hg:ah C f=true):Option (Ce C (.Call (.Name f p) (a::as) [] pos)):=got (kh f) λb h=>(cEs r C (a::as)).map λA=>⟨.bi b A.f,frB b,λc w=>IE c w hg h (A.ok c w)⟩
noncomputable def cSd(f:Str)(p:Pos)(a:Expr)(pos:Pos)(hg:ah C f=true)(hf:f="sorted"):Option (Ce C (.Call (.Name f p) [a] [] pos)):=(cEs r C [a]).map λA=>⟨.bi .srtd A.f,false,λc w=>AW c w hf hg (A.ok c w)⟩
noncomputable def IG(f:Str)(p:Pos)(as:List Expr)(pos:Pos):Option (Ce C (.Call (.Name f p) as [] pos)):=chk (ah C f) λhg=>
 if hf:C.fns.contains f=true then (match as with
  |[]=>none
  |a::as=>(cEs r C (a::as)).map λA=>⟨.call f A.f,false,λc w=>AV c w hf hg (A.ok c w)⟩)
 else if hf:f="isinstance" then (match as with
  |[a,.Name t _]=>chk (ah C t&&!isStar a) λhq=>(r C a).bind λA=>match h:C.xcs.lookup t with
   |some z=>some ⟨.isx A.f z.1 z.2,false,λc w=>FX c w hf hg h hq (A.ok c w)⟩
   |none=>got (pU t) λT h=>some ⟨.isi A.f T,false,λc w=>FY c w hf hg h hq (A.ok c w)⟩
  |_=>none)
 else match as with
  |[]=>none
  |a::as=>if hf:f="sorted" then (match a,as with
    |.Call (.Name g sp) [b] [] qp,[]=>if h:g="set" then chk (ah C g) λhg'=>(cEs r C [b]).map λA=>⟨.bi .srt A.f,false,λc w=>FZ c w hf hg h hg' (A.ok c w)⟩ else cSd r C f p _ pos hg hf
    |a,[]=>cSd r C f p a pos hg hf
    |_,_=>none)
   else match a,as with
    |.Call (.Name g sp) [b] [] qp,[]=>if hf:f="len"/\g="set" then chk (ah C g) λhg'=>(cEs r C [b]).map λA=>⟨.bi .nset A.f,false,λc w=>AX c w hf.1 hg hf.2 hg' (A.ok c w)⟩ else cBi r C f p _ [] pos hg
    |.Call (.Name g sp) [b,d] [] qp,[]=>if hf:f="list"/\g="zip" then chk (ah C g) λhg'=>(cEs r C [b,d]).map λA=>⟨.bi .lzip A.f,false,λc w=>AY c w hf.1 hg hf.2 hg' (A.ok c w)⟩ else cBi r C f p _ [] pos hg
    |a,as=>cBi r C f p a as pos hg
noncomputable def cMe(o:Expr)(m:Str)(apos:Pos)(as:List Expr)(pos:Pos):Option (Ce C (.Call (.Attribute o m apos) as [] pos)):=(r C o).bind λO=>
 if hm:C.vms.contains m=true then got C.vc λvc h=>chk (!bK o&&decide (as.length<=20)&&(apos.endLine==pos.line)) λhq=>(cEs r C as).map λA=>⟨.vcall vc m O.f A.f,false,λc w=>xH w h hm hq (O.ok c w) (A.ok c w)⟩
 else match as with
  |[a]=>got (rh m) λg h=>chk (!bK o&&!isStar a&&(apos.endLine==pos.line)) λhq=>(r C a).map λA=>⟨.me g O.f (.cons A.f .nil),frM g,λc w=>IF h hq (O.ok c w) (A.ok c w)⟩
  |_=>none
noncomputable def Lx(a:Expr)(pos:Pos):(i:Expr)->Option (Ce C (.Subscript a i pos))
 |.Slice lo hi none _=>(r C a).bind λA=>(cO r C lo).bind λL=>(cO r C hi).map λH=>⟨.sl A.f L.f H.f,true,λc w=>ID (A.ok c w) (L.ok c w) (H.ok c w)⟩
 |.Slice none none (some (.UnaryOp .USub (.Constant (.int i) _ _) _)) _=>if h:i=1 then (r C a).map λA=>⟨.bi .rvl (.cons A.f .nil),false,λc w=>FN h (A.ok c w)⟩ else none
 |i=>chk (!isSlice i) λh=>(r C a).bind λA=>(r C i).map λI=>⟨.idx A.f I.f,false,λc w=>FM w h (A.ok c w) (I.ok c w)⟩
noncomputable def IH:(e:Expr)->Option (Ce C e)
 |.Constant (.int i) _ _=>some ⟨.k (.int i),false,λd d=>AN (λd=>EH) λd=>rfl⟩
 |.Constant (.str x) _ _=>chk (rf x) λh=>some ⟨.k (.str x),false,λd d=>AN (λd=>EJ (oh h)) λd=>rfl⟩
 |.Constant (.bool b) _ _=>some ⟨.k (.bool b),false,λd d=>AN (λd=>Iq) λd=>rfl⟩
 |.Constant .none _ _=>some ⟨.k .none,false,λd d=>AN (λd=>EI) λd=>rfl⟩
 |.Name x _=>match h:cC C x with
  |some i=>some ⟨.v i,false,λc d=>FE (bU c h)⟩
  |none=>chk (ah C x) λh=>chk (C.cst.contains x) λd=>some ⟨.g x,false,λc w=>Lw c w h⟩
 |.BinOp a op b _=>got (cOp op) λo h=>(r C a).bind λA=>(r C b).map λB=>⟨.op o A.f B.f,true,λc w=>IC h (A.ok c w) (B.ok c w)⟩
 |.UnaryOp .USub a _=>(r C a).map λA=>⟨.neg A.f,false,λc w=>FG (A.ok c w)⟩
 |.UnaryOp .Not a _=>(r C a).map λA=>⟨.not A.f,false,λc w=>FH (A.ok c w)⟩
 |.Compare a [op] [b] _=>got (lF op) λo h=>chk (!isSet b) λhs=>(r C a).bind λA=>(r C b).map λB=>⟨.cmp o A.f B.f,false,λc w=>FI w h hs (A.ok c w) (B.ok c w)⟩
 |.Compare a [op,op'] [b,e] _=>got (lF op) λo h=>got (lF op') λo' h'=>chk (!isSet e) λhs=>(r C a).bind λA=>(r C b).bind λB=>(r C e).map λE=>⟨.chain o o' A.f B.f E.f,false,λc w=>xF w h h' hs (A.ok c w) (B.ok c w) (E.ok c w)⟩
 |.BoolOp op (a::b::es) pos=>cBo r C op a b es pos
 |.IfExp t a b _=>(r C t).bind λT=>(r C a).bind λA=>(r C b).map λB=>⟨.ite T.f A.f B.f,false,λc w=>FK (T.ok c w) (A.ok c w) (B.ok c w)⟩
 |.Call g as [] pos=>match g with
  |.Name f p=>IG r C f p as pos
  |.Attribute o m apos=>cMe r C o m apos as pos
  |_=>none
 |.Attribute o x _=>eqS x "objects" λhx=>got C.vc λvc h=>chk (!bK o) λhs=>(r C o).map λO=>⟨.vob vc O.f,false,λc w=>FL w h hs hx (O.ok c w)⟩
 |.Subscript a i pos=>Lx r C a pos i
 |.List es _=>(cEs r C es).map λA=>⟨.lst A.f,true,λc w=>FP (A.ok c w)⟩
 |.Dict [] [] _=>some ⟨.bi .dict (.cons (.lst .nil) .nil),true,λd d=>AS⟩
 |.Tuple es _ _=>(cEs r C es).map λA=>⟨.tup A.f,false,λc w=>FQ (A.ok c w)⟩
 |.JoinedStr (a::v::es) _=>(cF r C (a::v::es)).map λA=>⟨.bi .fst A.f,false,λc w=>FV (A.ok c w)⟩
 |.ListComp elt [⟨tg,iter,ifs,0⟩] sc _=>(cCo r C elt tg iter ifs sc).map λA=>⟨A.f,true,λc w=>Ge C A c w⟩
 |_=>none
end
noncomputable def cE:Nat->(C:Cs)->(e:Expr)->Option (Ce C e)
 |0=>λa a=>none
 |n+1=>IH (cE n)
section
variable {k:Nat}{C:Cs}{e t:Expr}{a' b' t':E}{p:Pos}{nb nt':Bool}{o:Out}
def cX{v}{t}{line}{env}(h:dh v=false):swapsWith v t line env=pure false:=by cases v<;>first|rfl|cases h
def kL{ifs:List Expr}(A:Cc C elt tg iter ifs sc)(S:Sto X x i)(c:CxC X C)(w:Wz X Z Γ C k)(hd:ev Z Γ .val Y A.f=some d):
  E1 X Y (.Assign [.Name x px] (.ListComp elt [⟨tg,iter,ifs,0⟩] sc p) pos) (.nx (Y.set i (.own d))):=by
 obtain⟨ds,out,js,t,ifs',elt',rfl,h1,h2,h3,h4,h5,h6,h7⟩:=A.ok c w hd;cases hsw:(X.env.blockKind==.function&&X.env.kindOf x==some .local&&px.line==p.line&&!(sc.names.any λ(n,k)=>n==x&&(k==.local||k==.cell)))with
 |false=>exact xw S (rK h1 c.calm h2 h3 h4 h5 h6 h7) (congrArg (pure (f:=Sem)) hsw)
 |true=>
  refine AI S h1 c.calm h2 h3 h4 h5 h6 h7 ?_ (congrArg (pure (f:=Sem)) hsw);simp only[be0]at hsw;exact eq_of_beq hsw.1.1.2
def Gf(S:Sto X x i)(hc:(!dh a)=true)(A:SdE X Z Γ a a' true)(q:ex Z Γ Y (.new i a')=some o):E1 X Y (.Assign [.Name x px] a pos) o:=by
 obtain⟨d,q1,q⟩:=bS q;obtain⟨ho,rfl⟩:=iS q;exact xw S (A.n rfl q1 ho) (cX (nt hc))
def Gg(S:Sto X x i)(hc:(!dh a)=true)(A:SdE X Z Γ a a' na)(q:ex Z Γ Y (.set i a')=some o):E1 X Y (.Assign [.Name x px] a pos) o:=by
 obtain⟨d,q1,rfl⟩:=mS q;exact Fx S (A.v q1) (cX (nt hc))
def Ba{ifs:List Expr}(c:CxC X C)(w:Wz X Z Γ C k)(S:Sto X x i)(A:Cc C elt tg iter ifs sc)(q:ex Z Γ Y (.new i A.f)=some o):E1 X Y (.Assign [.Name x px] (.ListComp elt [⟨tg,iter,ifs,0⟩] sc p) pos) o:=by
 obtain⟨d,q1,q⟩:=bS q;obtain⟨ho,rfl⟩:=iS q;exact kL A S c w q1
def Bb{ifs:List Expr}(c:CxC X C)(w:Wz X Z Γ C k)(S:Sto X x i)(A:Cc C elt tg iter ifs sc)(q:ex Z Γ Y (.set i A.f)=some o):E1 X Y (.Assign [.Name x px] (.ListComp elt [⟨tg,iter,ifs,0⟩] sc p) pos) o:=by
 obtain⟨d,q1,rfl⟩:=mS q;exact xx S (kL A S c w q1)
def Gh(V:VarOk X y i)(S:Sto X x j)(hm:m="pop")(hl:(apos.endLine==cpos.line)=true)(q:ex Z Γ Y (.pop i j)=some o):E1 X Y (.Assign [.Name x px] (.Call (.Attribute (.Name y p) m apos) [] [] cpos) pos) o:=by
 subst hm;have q:Eo i j Y=some o:=q;unfold Eo at q;split at q
 .obtain⟨d,q1,rfl⟩:=mS q
  exact FC V S ‹_› q1 hl
 .cases q
def Bc(w:Wz X Z Γ C k)(V:VarOk X x i)(hs:(!isSlice b)=true)(A:SdE X Z Γ a a' na)(B:SdE X Z Γ b b' nb)(q:ex Z Γ Y (.seti i b' a')=some o):E1 X Y (.Assign [.Subscript (.Name x p) b spos] a pos) o:=by
 obtain⟨d,q1,q⟩:=bS q;obtain⟨y,q2,q⟩:=bS q;unfold HU at q;split at q
 .obtain⟨j,q3,rfl⟩:=mS q
  exact AJ V (A.v q1) (B.v q2) (nt hs) ‹_› q3
 .obtain⟨key,q3,q⟩:=bS q
  obtain⟨hz,rfl⟩:=iS q;exact AK w.u1 V (A.v q1) (B.v q2) q3 (nt hs) ‹_› hz
 .cases q
def Gi(V:VarOk X x i)(hm:m="append")(hq:((apos.endLine==cpos.line)&&!isStar a)=true)(A:SdE X Z Γ a a' na)(q:ex Z Γ Y (.app i a')=some o):E1 X Y (.Expr (.Call (.Attribute (.Name x p) m apos) [a] [] cpos) pos) o:=by
 subst hm;obtain⟨d,q1,q⟩:=bS q;unfold HS at q;split at q
 .obtain⟨hz,rfl⟩:=iS q
  exact FA V (A.v q1) (nt (a2 hq).2) ‹_› (by rw[<-big_eq];exact hz) (a2 hq).1
 .cases q
end
section
structure Cst(C:Cs)(st:Stmt) where
 f:S
 ok:∀{Z Γ k X},CxC X C->Wz X Z Γ C k->PassesOwn (model X.prog X.w) X.A X.env X.xe->∀{Y o},ex Z Γ Y f=some o->E1 X Y st o
structure Css(C:Cs)(sts:List Stmt) where
 f:Ss
 ok:∀{Z Γ k X},CxC X C->Wz X Z Γ C k->PassesOwn (model X.prog X.w) X.A X.env X.xe->∀{Y o},exs Z Γ Y f=some o->Ep X Y sts o
variable (r:∀C e,Option (Ce C e))(C:Cs)
noncomputable def cAs(y:Str)(py:Pos)(pos:Pos):(v:Expr)->Option (Cst C (.Assign [.Name y py] v pos)):=λv=>got (iX C y) λj h=>match v with
 |.Call (.Attribute (.Name x _) m apos) [] [] cpos=>eqS m "pop" λhm=>chk (apos.endLine==cpos.line) λhl=>got (cC C x) λi hi=>chk (!C.mts.contains j) λa=>some ⟨.pop i j,λc a a a a q=>Gh (bU c hi) (dX c h) hm hl q⟩
 |.ListComp elt [⟨tg,iter,ifs,0⟩] sc _=>(cCo r C elt tg iter ifs sc).map λA=>if C.mts.contains j then⟨.new j A.f,λc w a a a q=>Ba c w (dX c h) A q⟩ else⟨.set j A.f,λc w a a a q=>Bb c w (dX c h) A q⟩
 |v=>chk (!dh v) λhc=>(r C v).bind λA=>if C.mts.contains j then (match A with
   |⟨f,true,ok⟩=>some ⟨.new j f,λc w a a a q=>Gf (dX c h) hc (ok c w) q⟩
   |_=>none)else some ⟨.set j A.f,λc w a a a q=>Gg (dX c h) hc (A.ok c w) q⟩
noncomputable def CQ(rs:∀C sts,Option (Css C sts)):(st:Stmt)->Option (Cst C st)
 |.Assign [.Name y py] v pos=>cAs r C y py pos v
 |.Assign [.Subscript (.Name x _) b _] a _=>chk (!isSlice b) λhs=>got (cC C x) λi h=>(r C a).bind λA=>(r C b).map λB=>⟨.seti i B.f A.f,λc w g g g q=>Bc w (bU c h) hs (A.ok c w) (B.ok c w) q⟩
 |.Expr (.Call (.Attribute (.Name x _) m apos) [a] [] cpos) _=>eqS m "append" λhm=>chk ((apos.endLine==cpos.line)&&!isStar a) λhq=>got (cC C x) λi h=>(r C a).map λA=>⟨.app i A.f,λc w g g g q=>Gi (bU c h) hm hq (A.ok c w) q⟩
 |.If t a b _=>(r C t).bind λT=>(rs C a).bind λA=>(rs C b).map λB=>⟨.ifs T.f A.f B.f,λc w po Y o q=>by
  obtain⟨d,q1,q⟩:=bS q;obtain⟨t,rfl,ht⟩:=(T.ok c w).t q1;exact IB ht (λz=>by subst z;exact A.ok c w po q) λz=>by subst z;exact B.ok c w po q⟩
 |.For tg iter body [] _=>got (cTg C tg) λt h=>(cI r C iter).bind λS=>(rs C body).map λB=>⟨.fors t S.f B.f,λc w po Y o q=>by
  obtain⟨ds,q1,q⟩:=bS q;exact Fz ((S.ok c w).w q1) (CO c h) (λY' o' q'=>B.ok c w po q') q c.calm po (fQ (S.ok c w).s)⟩
 |.Return (some e) _=>(r C e).map λA=>⟨.ret A.f,λc w g g g q=>by
  obtain⟨d,q1,rfl⟩:=mS q;exact Fw ((A.ok c w).v q1)⟩
 |.Pass _=>some ⟨.pass,λg g g g g q=>by cases q;exact AH⟩
 |.Raise ..=>some ⟨.stuck,λg g g g g q=>nn q⟩
 |_=>none
noncomputable def II(s:∀C st,Option (Cst C st)):(sts:List Stmt)->Option (Css C sts)
 |[]=>some ⟨.nil,λa a a a a q=>by cases q;exact Fv⟩
 |st::sts=>(s C st).bind λA=>(II s sts).map λB=>⟨.cons A.f B.f,λc w po Y o q=>by
  obtain⟨o1,q1,q⟩:=bS q;cases o1 with
  |nx Y1=>exact xt (A.ok c w po q1) (B.ok c w po q)
  |rt d=>cases q;exact xu (A.ok c w po q1)⟩
end
noncomputable def cSs:Nat->(C:Cs)->(sts:List Stmt)->Option (Css C sts)
 |0=>λa a=>none
 |n+1=>λC=>II C (λC=>CQ (cE 60) C (cSs n))
section
variable {k:Nat}
def kM{G:Hp}{dfn:Def}:∀{ds:List D}{vs:List V},Same G H->Das K G H dfn.lent ds vs->ds.length=dfn.lent.length->dfn.slots=N.length->vs.length<=N.length->EnvD K G H G H (start N vs) (cL dfn ds):=by
 intro ds vs s r hl hs hn;have len:=r.length;have rep:∀(i n:Nat) sl,(List.replicate n Sl.no)[i]?=some sl->sl=.no:=λi n sl h=>by
  rw[List.getElem?_replicate]at h;split at h
  .cases h;rfl
  .cases h
 have at':∀(fl:List Bool)(ds:List D)(vs:List V),Das K G H fl ds vs->ds.length=fl.length->∀(i:Nat) sl,((fl.zip ds).map (λp=>if p.1 then Sl.lent p.2 else .dat p.2))[i]?=some sl->
   ∃d v,vs[i]?=some v/\((sl=.lent d/\Dr K G H d v)\/(sl=.dat d/\Dp K G d v)):=by
  intro fl ds vs r
  induction r with
  |nil=>intro hl i sl h;simp at h
  |@cons fl d v ds vs h1 h2 _ ih=>
   intro hl i sl h;cases fl with
   |nil=>simp at hl
   |cons b fl=>
    cases i with
    |zero=>
     simp at h;refine⟨d,v,rfl,?_⟩;cases b with
     |true=>exact .inl ⟨by simpa using h.symm,h2⟩
     |false=>exact .inr ⟨by simpa using h.symm,h1 rfl⟩
    |succ i=>simpa using ih (by simpa using hl) i sl (by simpa using h)
 have zl:((dfn.lent.zip ds).map (λp=>if p.1 then Sl.lent p.2 else Sl.dat p.2)).length=vs.length:=by simp[len,<-hl]
 have slot:∀(i:Nat) sl,(cL dfn ds)[i]?=some sl->sl=.no\/∃d v,(start N vs)[i]?=some (some v)/\((sl=.lent d/\Dr K G H d v)\/(sl=.dat d/\Dp K G d v)):=λi sl h=>by
  unfold cL at h
  by_cases hi:i<vs.length
  .rw[gl0 (by rw[zl];exact hi)]at h
   obtain⟨d,v,e,q⟩:=at' dfn.lent ds vs r hl i sl h;refine .inr ⟨d,v,?_,q⟩;unfold start;rw[gl0 (by simpa using hi),gm0,e];rfl
  .rw[List.getElem?_append_right (by rw[zl];omega)]at h
   exact .inl (rep _ _ _ h)
 refine⟨.refl s,?_,λi d h=>?_,λi d h=>?_,λi d h=>?_,λi j d e p h=>?_⟩
 .unfold start cL
  simp[hs,len,<-hl]
 .rcases slot i _ h with z|⟨d',v,e,z|z⟩
  .cases z
  .cases z.1
  .cases z.1;exact⟨v,e,z.2⟩
 .rcases slot i _ h with z|⟨d',v,e,z|z⟩
  .cases z
  .cases z.1;exact⟨v,e,z.2⟩
  .cases z.1
 .rcases slot i _ h with z|⟨d',v,e,z|z⟩
  .cases z
  .cases z.1
  .cases z.1
 .rcases slot i _ h with z|⟨d',v,e,z|z⟩
  .cases z
  .cases z.1
  .cases z.1
noncomputable def uy(fns cst:List Str)(lent:List Bool)(st:Stmt)(vc:Option Nat:=none)(vms:List Str:=[])(xcs:List (Str×Nat×List (Nat×Bool)):=[]):Option Def:=
 (bF st).bind λ(ps,body,sc)=>(cSs 60 (wm fns cst ps body sc vc vms xcs) body).map λb=>{lent,slots:=(ps++ay sc ps).length,body:=b.f}
structure Gj(P:Program)(w:World)(K:Fg)(mg:Str->Option Value)(base:Heap)(Z:Fs)(Γ:List (Str×D))(fns:List Str)(vc:Option Nat)(vms:List Str)(xcs:List (Str×Nat×List (Nat×Bool)))(k:Nat):Prop where
 blt:∀x∈bltNames,mg x=Option.none
 fns:∀x,fns.contains x=true->∀J,Z x=some J->FnZ P w K mg base k x J
 gl:∀x d,Γ.lookup x=some d->∃u v,mg x=some u/\RelV v u/\∀G,Dp K G d v
 vcl:∀c,vc=some c->Cls K c/\NoAttr K c "objects"
 vf:∀c m,vc=some c->vms.contains m=true->∀J,Z (ai m)=some J->FnZv P w K mg base k c m J
 xc:∀t c tab,xcs.lookup t=some (c,tab)->XcZ K mg t c tab
noncomputable def Gk(Z:Fs)(Γ:List (Str×D))(d:Def):Fn:=⟨d.lent,λds=>if ds.length=d.lent.length then (exs Z Γ (cL d ds) d.body).bind Out.val else .none⟩
set_option tactic.hygienic true in
def CS{fd:FuncData}{ps:List Str}{dfn:Def}{vc:Option Nat}{xcs:List (Str×Nat×List (Nat×Bool))}(F:Fun K x qual st f fd)(S:bt (ps++ay (defScope st) ps) ps (defScope st))(hp:bF st=some (ps,defBody st,defScope st))(hd:uy fns cst lent st vc vms xcs=some dfn)(hlen:lent.length=ps.length)
  (M:Gj P w K mg base Z Γ fns vc vms xcs k):FnOk P w K mg base CX0 (k+1) f fd ps (Pur K (Gk Z Γ dfn)):=by
 unfold uy at hd;rw[hp,bs0]at hd;obtain⟨b,hb,rfl⟩:=mx0 (show (cSs 60 (wm fns cst ps (defBody st) (defScope st) vc vms xcs) (defBody st)).map _=some dfn from hd);refine F.ok S (λvs H Q E h=>?_) (λcdv A outer s H vs Q E hr h=>?_)
 .obtain⟨ds,d,G,h1,_,r,_⟩:=h
  have h1:(if ds.length=lent.length then _ else .none)=some d:=h1;split at h1
  .rename_i hl;rw[<-r.length,hl,hlen]
  .cases h1
 .obtain⟨ds,d,G,h1,sm,r,kq⟩:=h
  have h1:(if ds.length=lent.length then (exs Z Γ (cL ⟨lent,(ps++ay (defScope st) ps).length,b.f⟩ ds) b.f).bind Out.val else .none)=some d:=h1;split at h1
  .rename_i hl
   obtain⟨o,h2,h3⟩:=bx0 h1;have hpre:=congrArg List.length S.pre;rw[List.length_take]at hpre;have C:CxC (dH CX0 P w K mg base (ps++ay (defScope st) ps) qual (defScope st) f cdv A outer s H E).nox (wm fns cst ps (defBody st) (defScope st) vc vms xcs):=by
    refine⟨rfl,S.nd,λy kd e ek=>?_,λy kd e ek=>⟨?_,.inl rfl⟩,λy e=>e,λy e=>e,rfl,S.kind⟩
    .rcases ek with rfl|rfl|rfl
     .exact .inl e
     .exact .inr (.inl e)
     .exact .inr (.inr e)
    .rcases ek with rfl|rfl
     .exact .inl e
     .exact .inr e
   have W:Wz (dH CX0 P w K mg base (ps++ay (defScope st) ps) qual (defScope st) f cdv A outer s H E).nox Z Γ (wm fns cst ps (defBody st) (defScope st) vc vms xcs) k:=⟨M.blt,M.fns,M.gl,hr,M.vcl,M.vf,M.xc⟩;have body:=b.ok C W PassesOwn.never h2;refine⟨_,body,G,H,G,kM sm r hl rfl (by rw[<-r.length,hl,hlen];omega),?_⟩;cases o with
   |nx Y'=>
    cases h3;exact λG' H' σ' env a=>kq .non G' H' env.ext .none
   |rt d'=>
    cases h3;exact λv G' H' dv e=>kq v G' H' e dv
  .cases h1
structure uz(K:Fg)(mg:Str->Option Value)(fns cst:List Str)(vc:Option Nat)(vms:List Str)(xcs:List (Str×Nat×List (Nat×Bool)))(x:Str)(d:Def):Prop where
 ex:∃st f fd ps,Fun K x x st f fd/\mg x=some (.ref f)/\Binds K fd ps []/\bt (ps++ay (defScope st) ps) ps (defScope st)/\bF st=some (ps,defBody st,defScope st)/\uy fns cst d.lent st vc vms xcs=some d/\d.lent.length=ps.length
structure uA(K:Fg)(fns cst:List Str)(c:Nat)(vms:List Str)(xcs:List (Str×Nat×List (Nat×Bool)))(m:Str)(d:Def):Prop where
 nm:m≠"objects"/\m≠"numbers"
 ex:∃st f fd ps,Fun K m (ai m) st f fd/\iR K c m f/\Binds K fd ps []/\bt (ps++ay (defScope st) ps) ps (defScope st)/\bF st=some (ps,defBody st,defScope st)/\uy fns cst d.lent st (some c) vms xcs=some d/\d.lent.length=ps.length
structure Base(K:Fg)(mg:Str->Option Value)(Γ:List (Str×D))(vc:Option Nat)(xcs:List (Str×Nat×List (Nat×Bool))):Prop where
 blt:∀x∈bltNames,mg x=Option.none
 gl:∀x d,Γ.lookup x=some d->∃u v,mg x=some u/\RelV v u/\∀G,Dp K G d v
 vcl:∀c,vc=some c->Cls K c/\NoAttr K c "objects"
 xc:∀t c tab,xcs.lookup t=some (c,tab)->XcZ K mg t c tab
theorem eD{prog:List (Str×Def)}{vc:Option Nat}{xcs:List (Str×Nat×List (Nat×Bool))}(B:Base K mg Γ vc xcs)(defs:∀x d,fns.contains x=true->prog.lookup x=some d->uz K mg fns cst vc vms xcs x d)
  (mets:∀c m d,vc=some c->vms.contains m=true->prog.lookup (ai m)=some d->uA K fns cst c vms xcs m d):
  ∀k x J,den prog Γ k x=some J->(fns.contains x=true->FnZ P w K mg base k x J)/\∀c m,x=ai m->vc=some c->vms.contains m=true->FnZv P w K mg base k c m J
 |0,x,J,h=>by cases h
 |k+1,x,J,h=>by
  obtain⟨d,h1,rfl⟩:=mx0 (h);have M:Gj P w K mg _ _ Γ _ vc _ _ k:=⟨B.blt,λy hy J' q=>(eD B defs mets k y J' q).1 hy,B.gl,B.vcl,λc m hc hm J' q=>(eD B defs mets k _ J' q).2 c m rfl hc hm,B.xc⟩;refine⟨λhx=>?_,λc m e hc hm=>?_⟩
  .obtain⟨st,f,fd,ps,F,hm,hb,S,hp,hd,hl⟩:=(defs x d hx h1).ex
   exact⟨⟨f,fd,ps,hm,F.kp,hb,CS F S hp hd hl M⟩⟩
  .subst e
   have Z:=mets c m d hc hm h1;obtain⟨st,f,fd,ps,F,hm,hb,S,hp,hd,hl⟩:=Z.ex;exact⟨Z.nm,⟨f,fd,ps,hm,hb,CS F S hp (by rwa [hc]) hl M⟩⟩
end
noncomputable def xI(K:Fg):Sp:=λvs H Q b=>∃(a:Addr)(ns:List Int),vs=[.ref a]/\SqL K H a (ns.map V.int)/\ns.length<=63/\∀H',Q (.bl true) H'
mutual
inductive IsK (h:Heap):Nat->D->Value->Prop
 |int {n:Nat} (i:Int) (t:Tok):IsK h n (.int i) (.int i t)
 |str {n:Nat} (x:Str) (t:Tok):PyData.strOk x=true->IsK h n (.str x) (.str x t)
 |tup {n:Nat}{a:Addr}{o:Obj}{items:List Value}{m:Nat}{ds:List D}:h.get? a=some o->o.cls=.type "tuple"->o.data=.seq items.toArray m->IsKs h n ds items->IsK h (n+1) (.tuple ds) (.ref a)
inductive IsKs (h:Heap):Nat->List D->List Value->Prop
 |nil {n:Nat}:IsKs h n [] []
 |cons {n:Nat}{d:D}{v:Value}{ds:List D}{vs:List Value}:IsK h n d v->IsKs h n ds vs->IsKs h n (d::ds) (v::vs)
end
def isk{P:Nat->D->Value->Prop}{R:Nat->List D->List Value->Prop}(hi:∀n i t,P n (.int i) (.int i t))(hs:∀n x t,PyData.strOk x=true->P n (.str x) (.str x t))
  (ht:∀{n a o items m ds},h.get? a=some o->o.cls=.type "tuple"->o.data=.seq (List.toArray items) m->R n ds items->P (n+1) (.tuple ds) (.ref a)) (h0:∀n,R n [] []) (hc:∀{n d v ds vs},P n d v->R n ds vs->R n (d::ds) (v::vs)):
  (∀{n d v},IsK h n d v->P n d v)/\∀{n ds vs},IsKs h n ds vs->R n ds vs:=
 ⟨λx=>IsK.rec (motive_1:=λn d v e=>P n d v) (motive_2:=λn ds vs e=>R n ds vs) (λi t=>hi _ i t) (λx t o=>hs _ x t o) (λa b c e r=>ht a b c r) (h0 _) (λe e a b=>hc a b) x,
  λx=>IsKs.rec (motive_1:=λn d v e=>P n d v) (motive_2:=λn ds vs e=>R n ds vs) (λi t=>hi _ i t) (λx t o=>hs _ x t o) (λa b c e r=>ht a b c r) (h0 _) (λe e a b=>hc a b) x⟩
def IsK.inj{n m}{d e}{v:Value}(a:IsK h n d v)(b:IsK h m e v):d=e:=(isk (P:=λf d v=>∀{m e},IsK h m e v->d=e) (R:=λf ds vs=>∀{m es},IsKs h m es vs->ds=es) (λn i t m e b=>by cases b;rfl) (λn x t f m e b=>by cases b;rfl) (λh1 f h3 r m e b=>by
   cases b with
   |tup k1 _ k3 k4=>
    rw[h1]at k1;cases k1;rw[h3]at k3;have e:=k3;simp only[Data.seq.injEq]at e;have e:=congrArg Array.toList e.1;simp only[List.toList_toArray]at e;subst e;rw[r k4]) (λn m es b=>by cases b;rfl) λa r m es b=>by
   cases b with
   |cons c d=>rw[a c,r d]).1 a b
def IsK.keeps{h h'}(k:∀a o items m,h.get? a=some o->o.data=.seq items m->h'.get? a=some o){v:Value}(x:IsK h n d v):IsK h' n d v:=((isk (λb i t=>.int i t) (λb x t o=>.str x t o) (λh1 h2 h3 r=>.tup (k _ _ _ _ h1 h3) h2 h3 r) (λb=>.nil) λa r=>.cons a r)).1 x
def IsK.reads{v:Value}(x:IsK h n d v):∃as,Reads h v (PySem.W.kqdP (toW d)) as:=
 (isk (P:=λa d v=>∃as,Reads h v (PySem.W.kqdP (toW d)) as) (R:=λa ds vs=>∃as,ReadsAll h vs (PySem.W.kqdPs (eX ds)) as) (λa i t=>⟨_,Reads.int i t⟩) (λa x t a=>⟨_,Reads.str x t⟩) (λh1 h2 h3 ⟨as,w⟩=>⟨_,Reads.tuple h1 h2 h3 (by simpa using w)⟩) (λa=>⟨_,.nil⟩) λ⟨_,w⟩ ⟨_,u⟩=>⟨_,.cons w u⟩).1 x
def IsK.ok{v:Value}(x:IsK h n d v):okS n d=true:=
 (isk (P:=λn d b=>okS n d=true) (R:=λn ds b=>ds.all (okS n)=true) (λn i t=>by cases n<;>rfl) (λn x t b=>by cases n<;>rfl) (λb b b r=>r) (λb=>rfl) λa r=>by rw[List.all_cons,a,r];rfl).1 x
mutual
noncomputable def om(w:World):D->Int
 |.int i=>hashInt i
 |.str x=>hashStr w x
 |.tuple ds=>reduceHash (Builtin.Tuple.tupleHashOf (cU w ds))
 |_=>0
noncomputable def cU(w:World):List D->List Int
 |[]=>[]
 |d::r=>om w d::cU w r
end
mutual
noncomputable def oq:D->Nat
 |.tuple ds=>lS ds+1
 |_=>1
noncomputable def lS:List D->Nat
 |[]=>0
 |d::r=>oq d+lS r
end
def IsK.kok{v:Value}(x:IsK h n d v):PySem.W.kqdOk n (toW d)=true:=
 (isk (P:=λn d b=>PySem.W.kqdOk n (toW d)=true) (R:=λn ds b=>(eX ds).all (PySem.W.kqdOk n)=true) (λn i t=>by cases n<;>rfl) (λn x t o=>by cases n<;>exact o) (λb b b r=>r) (λb=>rfl) λ{n d _ ds _} a r=>by
  show (PySem.W.kqdOk _ (toW _)&&(eX _).all (PySem.W.kqdOk _))=true;rw[a,r];rfl).1 x
section
variable {E:Value->Shared->Prop}
def uB{A:Around}(one:∀{d:D}{v:Value}{s:Shared}{Q:Int->Shared->Prop},s.heap=h->IsK h n d v->Q (om w d) {s with toks:=s.toks+oq d}->wpAny (model prog w) A (pyHash v) Q E s):
  ∀(vs:List Value)(ds:List D)(acc:Array Int)(s:Shared)(Q:Array Int->Shared->Prop),s.heap=h->IsKs h n ds vs->Q (acc++(cU w ds).toArray) {s with toks:=s.toks+lS ds}->
   wpAny (model prog w) A (forIn vs acc λx acc=>do let i ←pyHash x;pure (ForInStep.yield (acc.push i))) Q E s:=by
 intro vs
 induction vs with
 |nil=>
  intro ds acc s Q e r q;cases r;rw[List.forIn_nil];refine wq0 ?_;have:acc++(cU w []).toArray=acc:=by simp[cU]
  rw[this]at q;exact q
 |cons v vs ih=>
  intro ds acc s Q e r q;cases r with
  |@cons _ d _ ds _ a b=>
   rw[List.forIn_cons];refine wb0 (wb0 (one e a (wq0 ?_)));refine ih ds _ _ Q e b ?_;have e1:acc.push (om w d)++(cU w ds).toArray=acc++(cU w (d::ds)).toArray:=by simp[cU]
   rw[e1];show Q _ {s with toks:=s.toks+oq d+lS ds};rw[Nat.add_assoc];exact q
def xJ:∀{n:Nat}{A:Around}{d:D}{v:Value}{s:Shared}{Q:Int->Shared->Prop},A.units+n<cLine+1->IsK s.heap n d v->Q (om w d) {s with toks:=s.toks+oq d}->wpAny (model prog w) A (pyHash v) Q E s:=by
 intro n
 induction n with
 |zero=>
  intro A d v s Q hu hk q;cases hk with
  |int i t=>exact wpAny_pyHash_int q
  |str x t _=>exact wpAny_pyHash_str q
 |succ n ih=>
  intro A d v s Q hu hk q;cases hk with
  |int i t=>exact wpAny_pyHash_int q
  |str x t _=>exact wpAny_pyHash_str q
  |@tup _ a o items m ds h1 h2 h3 h4=>
   have hT:s.TypeIs (.ref a) "tuple":=⟨o,h1,h2⟩;show wpAny (model prog w) A (pyHashByItsType (.ref a)) Q E s;refine PySem.W.pyHash_slot hT F.slot_tuple_hash F.entry_tuple_hash (F.args_tuple_hash_1 _) (by decide) (.inr (by grind)) ?_;unfold Builtin.«tuple.__hash__»;refine wb0 (wpAny_of_eq (a:=(.ref a,[])) rfl ?_);dsimp only;unfold Builtin.Tuple.tupleItemsOf;refine wb0 (wb0 (wpAny_seqItems h1 h3 (wq0 ?_)));refine wb0 ?_;rw[<-Array.forIn_toList];refine uB (A:=A.in1) (n:=n) (h:=s.heap) (λe a q=>ih (by show A.units+1+n<cLine+1;grind) (by rw[e];exact a) q) items ds #[] s _ rfl h4 ?_
   unfold retInt
   wp_walk
   refine⟨_,_,rfl,?_⟩;have e:(#[]++(cU w ds).toArray:Array Int).toList=cU w ds:=by simp
   rw[e];exact q
def xK{A:Around}{d e}{a b}{Q}(hu:A.units+64<cLine)(h1:IsK s.heap 8 d (.ref a))(h2:IsK s.heap 8 e (.ref b))(q:Q (decide (d=e)) s):wpAny (model prog w) A (eqBool (.ref a) (.ref b)) Q E s:=by
 refine wh0 ?_
 by_cases c:a=b
 .subst c
  rw[if_pos (by simp)];refine wb0 (wpAny_rule (wq0 ?_));rw[IsK.inj h1 h2]at q
  simpa using q
 .rw[if_neg (by simpa using c)]
  obtain⟨as,ra⟩:=h1.reads;obtain⟨bs,rb⟩:=h2.reads;have ev:PyData.eqv (PySem.W.kqdP (toW d)) (PySem.W.kqdP (toW e))=decide (d=e):=by
   have z:=PySem.W.kqd_eqv 8 (toW d) (toW e) 8 h1.kok h2.kok
   by_cases c':d=e
   .rw[dt0 c'];exact z.mpr (by rw[c'])
   .rw[df0 c']
    exact bf0 λy=>c' (lI 8 8 d e h1.ok h2.ok (z.mp y))
  exact wb0 (eq_dataH (prog:=prog) (w:=w) (A:=A) (E:=E) ra rb (cg h1.kok) (cg h2.kok) hu (by
   rw[ev];exact wpAny_truthy_bool q))
def Bd:∀{n m:Nat}{A:Around}{d:D}{v:Value}{s:Shared}{Q:Bool->Shared->Prop},n<=m->IsK s.heap n d v->Q true s->wpAny (model prog w) A (eqIsQuiet m v) Q E s:=by
 intro n
 induction n with
 |zero=>
  intro m A d v s Q _ hk q;cases hk with
  |int i t=>cases m<;>exact wq0 q
  |str x t _=>cases m<;>exact wq0 q
 |succ n ih=>
  intro m A d v s Q hm hk q;cases hk with
  |int i t=>cases m<;>exact wq0 q
  |str x t _=>cases m<;>exact wq0 q
  |@tup _ a o items k ds h1 h2 h3 h4=>
   obtain⟨m,rfl⟩:∃m',m=m'+1:=⟨m-1,by omega⟩;have hT:s.TypeIs (.ref a) "tuple":=⟨o,h1,h2⟩;unfold eqIsQuiet;refine wb0 (wpAny_specialOf hT F.slot_tuple_eq.lookup ?_);refine wb0 (wpAny_isInstance hT PySem.isSubtype_tuple_tuple ?_);rw[if_neg (by decide)];refine wb0 (wpAny_seqItems h1 h3 ?_);rw[<-Array.forIn_toList];have all:∀(vs:List Value)(es:List D)(Q':Option Bool×Unit->Shared->Prop),IsKs s.heap n es vs->Q' (none,()) s->
     wpAny (model prog w) A (forIn vs ((none:Option Bool),()) λy __s=>do
      let __do_lift ←eqIsQuiet m y
      if (!__do_lift)=true then pure (ForInStep.done (some false,()))else pure (ForInStep.yield (none,()))) Q' E s:=by
    intro vs
    induction vs with
    |nil=>intro es Q' _ q';rw[List.forIn_nil];exact wq0 q'
    |cons v vs ih2=>
     intro es Q' hk q';cases hk with
     |cons a b=>
      rw[List.forIn_cons];refine wb0 (wb0 (ih (by omega) a ?_));rw[if_neg (by decide)];exact wq0 (ih2 _ Q' b q')
   exact wb0 (all items ds _ h4 (wq0 q))
noncomputable def ot(prog:Program)(w:World):HeapKind prog w D where
 is:=λh d a=>IsK h 8 d (.ref a)
 hash:=om w
 draws:=oq
 room:=λA=>A.units+64<cLine
 inj:=λh1 h2=>IsK.inj h1 h2
 keeps:=λ{h h' k a d o es ep} hk ho hd sb=>hk.keeps λb u items m e c=>(sb.2 b (λz=>by
  subst z;rw[ho]at e;cases e;rw[hd]at c;cases c)).trans e
 pyHash:=λ{A E s k a Q} hu hk q=>xJ (by omega) hk q
 eqBool:=λ{A E s x y a b Q} hu h1 h2 q=>xK hu h1 h2 q
 quiet:=λ{A E s k a Q} hk q=>Bd (nr0 _) hk q
end
noncomputable abbrev Vd:=List (Addr×Addr×Addr)
noncomputable def parts(d:Vd):List Addr:=d.flatMap λp=>[p.2.1,p.2.2]
noncomputable def er(H:Hp)(ps:List Addr):Hp:=λb=>if b∈ps then .none else H b
def kN{b:Addr}(h:b∈ps):er H ps b=.none:=if_pos h
def aL{b:Addr}(h:b∉ps):er H ps b=H b:=if_neg h
def bu{b:Addr}{o}(h:er H ps b=some o):b∉ps/\H b=some o:=by
 by_cases q:b∈ps
 .rw[kN q]at h;cases h
 .rw[aL q]at h;exact⟨q,h⟩
def au :Same (er H ps) H:=λb o h=>(bu h).2
def gT{d:Vd}{h:Nat}{a l n}(e:d[h]?=some (a,l,n)):l∈parts d/\n∈parts d:=
 ⟨List.mem_flatMap.mpr ⟨_,mg0 e,by simp⟩,List.mem_flatMap.mpr ⟨_,mg0 e,by simp⟩⟩
def ou{d:Vd}{b:Addr}(e:b∈parts d):∃(h:Nat)(a l n:Addr),d[h]?=some (a,l,n)/\(b=l\/b=n):=by
 obtain⟨⟨a,l,n⟩,h1,h2⟩:=List.mem_flatMap.mp e;obtain⟨h,hh⟩:=List.getElem?_of_mem h1;exact⟨h,a,l,n,hh,by simp_all⟩
inductive eU:Nat->List (D×Addr×Value)->List Addr->List D->Prop
 |nil {k:Nat}:eU k [] [] []
 |cons {k:Nat}{t:Tok}{d:D}{a:Addr}{xs:List (D×Addr×Value)}{as:List Addr}{ds:List D}:eU (k+1) xs as ds->eU k ((d,a,.int k t)::xs) (a::as) (d::ds)
noncomputable def cu(P:Program)(w:World)(n:Addr)(as:List Addr)(objs:List D):Heap->Prop:=λh=>
 (n==sysModules)=false/\∃xs:List (D×Addr×Value),eU 0 xs as objs/\objs.length<=1000000/\
  ∃o es ep,h.get? n=some o/\o.ExactDict/\o.data=.dict es ep/\es.toList=xs.map (entryOfKey (ot P w))/\(xs.map (·.1)).Nodup
noncomputable def okK:Nat->D->Bool
 |_,.int _=>true
 |_,.str _=>true
 |n+1,.tuple ds=>ds.all (okK n)
 |_,_=>false
noncomputable def jN:D->Bool
 |.tuple _=>true
 |_=>false
structure VS(P:Program)(w:World)(K:Fg)(C:Addr)(G H:Hp)(d:Vd)(U:List (List D)):Prop where
 len:d.length=U.length
 nd:(parts d).Nodup
 at':∀(h:Nat) a l n,d[h]?=some (a,l,n)->∃dx objs,U[h]?=some objs/\G a=some (.ins C dx (vfs l n h))/\H dx=some (.own a)/\
  ∃as:List Addr,H l=some (.lst (as.map .ref))/\Dps K G objs (as.map .ref)/\H n=some (.ext (cu P w n as objs))/\∀d∈objs,okK 8 d=true/\jN d=true
 uni:∀a C' dx fs,H a=some (.ins C' dx fs)->∃(h:Nat)(l n:Addr),d[h]?=some (a,l,n)
 out:∀b∈parts d,G b=Option.none
def VS.part{C:Addr}{G H}{d:Vd}{U:List (List D)}(v:VS P w K C G H d U){b:Addr}(h:b∈parts d):∃o,H b=some o:=by
 obtain⟨i,a,l,n,e,q⟩:=ou h;obtain⟨dx,objs,_,_,_,as,h1,_,h2,_⟩:=v.at' i a l n e;rcases q with rfl|rfl
 .exact⟨_,h1⟩
 .exact⟨_,h2⟩
def VS.step{C:Addr}{G H G' H'}{d:Vd}{U:List (List D)}(v:VS P w K C G H d U)(e:Ext G H G' H'):VS P w K C G' H' d U:=
 ⟨v.len,v.nd,λh a l n q=>by
  obtain⟨dx,objs,h1,h2,h3,as,h4,h5,h6,h7⟩:=v.at' h a l n q;exact⟨dx,_,h1,e.gg _ _ h2,e.hh _ _ h3,as,e.hh _ _ h4,h5.mono e.gg,e.hh _ _ h6,h7⟩,
  λa C' dx fs q=>v.uni a C' dx fs (e.ni a C' dx fs q),λb hb=>let ⟨o,ho⟩:=v.part hb;e.nw b o (v.out b hb) ho⟩
theorem Ext.er{G H G' H'}(e:Ext G H G' H')(hp:∀b∈ps,G b=.none/\∃o,H b=some o)(s:Same G (er H ps)):Ext G (er H ps) G' (er H' ps):=
 ⟨(have s:=e.hh;λb o h=>by
   obtain⟨h1,h2⟩:=bu h;rw[aL h1];exact s b o h2),e.gg,λb o q=>by
  have nb:b∉ps:=λhb=>by
   obtain⟨h1,o',h2⟩:=hp b hb;rw[e.nw b o' h1 h2]at q;cases q
  rw[aL nb];exact e.gh b o q,λb o h1 h2=>e.nw b o h1 (bu h2).2,λb C dx fs q=>by
  obtain⟨h1,h2⟩:=bu q;rw[aL h1];exact e.ni b C dx fs h2⟩
def Dr.monoH{G H H'}{d}{v}(s:Same H H'):Dr K G H d v->Dr K G H' d v
 |.of h=>.of h
 |.list h r=>.list (s _ _ h) r
 |.dict h r=>.dict (s _ _ h) r
 |.vlt h1 h2 r=>.vlt (s _ _ h1) (s _ _ h2) r
theorem VS.hdl{P:Program}{w:World}{K:Fg}{C:Addr}{G H}{d:Vd}{U:List (List D)}(v:VS P w K C G H d U)(s:Same G H){h}{u}(q:Dp K G (.hdl h) u):
  ∃a l n dx objs,u=.ref a/\d[h]?=some (a,l,n)/\U[h]?=some objs/\G a=some (.ins C dx (vfs l n h))/\H dx=some (.own a)/\
   ∃as:List Addr,H l=some (.lst (as.map .ref))/\Dps K G objs (as.map .ref)/\H n=some (.ext (cu P w n as objs))/\∀d∈objs,okK 8 d=true/\jN d=true:=by
 cases q with
 |@hdl a C' dx' l' n' _ q=>
  obtain⟨h2,l,n,e⟩:=v.uni a C' dx' _ (s _ _ q);obtain⟨dx,objs,h1,h3,r⟩:=v.at' h2 a l n e;rw[q]at h3;injection h3 with h3
  injection h3 with e1 e2 e3
  obtain⟨rfl,rfl,rfl⟩:=(show l'=l/\n'=n/\h=h2 by
    injection e3 with e1 e2
    injection e2 with e2 e3
    injection e3 with e3 _
    injection e1 with _ e1
    injection e2 with _ e2
    injection e3 with _ e3
    injection e1 with e1
    injection e2 with e2
    injection e3 with e3
    exact⟨e1,e2,Int.ofNat.inj e3⟩)
  subst e1 e2;exact⟨a,l',n',dx',_,rfl,e,h1,q,r⟩
structure EnvM(P:Program)(w:World)(K:Fg)(C:Addr)(G0 H0:Hp)(d0:Vd)(G H:Hp)(d:Vd)(σ:St)(Y:List Sl)(U:List (List D)):Prop where
 bas:∃Gb Hb,Same G0 Gb/\(Same (er H0 (parts d0)) Hb/\∀b o,Hb b=some o->notIns o=true->er H0 (parts d0) b=some o)/\EnvD K Gb Hb G (er H (parts d)) σ Y
 nw:∀b o,G0 b=Option.none->H0 b=some o->G b=Option.none
 pre:d0 <+: d
 vs:VS P w K C G H d U
noncomputable def vE(C:Addr)(U:List (List D)):Sl->Sl
 |.own d=>.lent d
 |.dat (.hdl h)=>match U[h]? with|some objs=>.lent (.vlt C h objs)|.none=>.no
 |s=>s
section
variable {C:Addr}{G:Hp}{d0 d:Vd}{U:List (List D)}
theorem EnvM.sub(E:EnvM P w K C G0 H0 d0 G H d σ Y U):Same G H:=by
 obtain⟨_,_,_,_,e⟩:=E.bas;exact e.sub.trans au
def EnvM.sub'(E:EnvM P w K C G0 H0 d0 G H d σ Y U):Same G (er H (parts d)):=by
 obtain⟨_,_,_,_,e⟩:=E.bas;exact e.sub
theorem EnvM.gg(E:EnvM P w K C G0 H0 d0 G H d σ Y U):Same G0 G:=by
 obtain⟨_,_,s,_,e⟩:=E.bas;exact s.trans e.ext.gg
theorem EnvM.hh(E:EnvM P w K C G0 H0 d0 G H d σ Y U):Same (er H0 (parts d0)) (er H (parts d)):=by
 obtain⟨_,_,_,s,e⟩:=E.bas;exact s.1.trans e.ext.hh
set_option tactic.hygienic true in
def EnvM.view(E:EnvM P w K C G0 H0 d0 G H d σ Y U):EnvD K G H G H σ (Y.map (vE C U)):=by
 obtain⟨Gb,Hb,s1,s2,e⟩:=E.bas;have at':∀(i:Nat) sl,(Y.map (vE C U))[i]?=some sl->∃s0,Y[i]?=some s0/\vE C U s0=sl:=λi sl h=>by
  rw[gm0]at h;cases q:Y[i]? with
  |none=>rw[q]at h;cases h
  |some s0=>rw[q]at h;cases h;exact⟨s0,rfl,rfl⟩
 have no:∀(i:Nat) d',(Y.map (vE C U))[i]?≠some (.own d'):=λi d' h=>by
  obtain⟨s0,_,h2⟩:=at' i _ h;cases s0 with
  |dat d2=>cases d2<;>first|(cases h2;done)|(rename_i hh;simp only[vE]at h2;split at h2<;>cases h2)
  |_=>cases h2
 refine⟨.refl E.sub,by simp[e.len],λi d' h=>?_,λi d' h=>?_,λi d' h=>absurd h (no i d'),λi j d' c c h=>absurd h (no i d')⟩
 .obtain⟨s0,h1,h2⟩:=at' i _ h
  cases s0 with
  |dat d2=>
   have:d2=d':=by
    cases d2<;>first|(cases h2;rfl)|(rename_i hh;simp only[vE]at h2;split at h2<;>cases h2)
   subst this;exact e.dat i d2 h1
  |_=>cases h2
 .obtain⟨s0,h1,h2⟩:=at' i _ h
  cases s0 with
  |no=>cases h2
  |lent d2=>
   cases h2;obtain⟨v,a,b⟩:=e.lent i d' h1;exact⟨v,a,(b.ext e.ext).monoH au⟩
  |own d2=>
   cases h2;obtain⟨p,a,_,_,b⟩:=e.own i d' h1;exact⟨_,a,b.dr.monoH au⟩
  |dat d2=>
   cases d2 with
   |hdl hh=>
    simp only[vE]at h2;split at h2
    .rename_i objs ho
     cases h2;obtain⟨v,a,b⟩:=e.dat i _ h1;obtain⟨a',l,n,dx,objs',rfl,_,q1,q2,_,as,q3,q4,_⟩:=E.vs.hdl E.sub b;rw[ho]at q1;cases q1;exact⟨_,a,.vlt (E.sub _ _ q2) q3 q4⟩
    .cases h2
   |_=>cases h2
def EnvD.wide{Gb Hb H2:Hp}(e:EnvD K Gb Hb G H σ Y)(s:Same H H2)(ni:∀b C dx fs,H2 b=some (.ins C dx fs)->H b=some (.ins C dx fs)):EnvD K Gb Hb G H2 σ Y:=
 ⟨⟨e.ext.hh.trans s,e.ext.gg,e.ext.gh.trans s,e.ext.nw,λb C dx fs q=>e.ext.ni b C dx fs (ni b C dx fs q)⟩,e.len,e.dat,e.lent,λi d h=>by
  obtain⟨p,a,b,c,g⟩:=e.own i d h;refine⟨p,a,b,c,?_⟩;rcases g with⟨ds,vs,h1,h2,h3⟩|⟨ds,vs,h1,h2,h3⟩
  .exact .inl ⟨ds,vs,h1,s _ _ h2,h3⟩
  .exact .inr ⟨ds,vs,h1,s _ _ h2,h3⟩,e.apart⟩
def VS.notPart(v:VS P w K C G H d U){b C' dx}{fs}(h:H b=some (.ins C' dx fs)):b∉parts d:=λhb=>by
 obtain⟨i,a,l,n,e,q⟩:=ou hb;obtain⟨dx',objs,_,_,_,as,h1,_,h2,_⟩:=v.at' i a l n e;rcases q with rfl|rfl<;>simp_all
def EnvM.full(E:EnvM P w K C G0 H0 d0 G H d σ Y U):∃Gb Hb,EnvD K Gb Hb G H σ Y/\∀G' H' d' σ' Y' U',EnvM P w K C G0 H0 d0 G' H' d' σ' Y' U'->Same G G'->Same Hb H':=by
 obtain⟨Gb,Hb,s1,s2,e⟩:=E.bas;refine⟨Gb,Hb,e.wide au λb C' dx fs h=>by rwa [aL (E.vs.notPart h)],λG' H' d' σ' Y' U' E' g b o h=>?_⟩;cases q:notIns o with
 |true=>exact au b o (E'.hh b o (s2.2 b o h q))
 |false=>
  cases o with
  |ins C' dx fs=>
   have hH:=au b _ (e.ext.hh b _ h);obtain⟨i,l,n,hd⟩:=E.vs.uni b C' dx fs hH;obtain⟨dx',objs,_,hG,_⟩:=E.vs.at' i b l n hd;rw[E.sub _ _ hG]at hH;cases hH;exact E'.sub _ _ (g _ _ hG)
  |_=>cases q
end
def Fl(X:Cx)(ea C:Addr)(H:Hp)(s:Shared):Prop:=
 ∃B:Heap,HOk X.prog X.w H B/\(∀b o,X.s₀.heap.get? b=some o->X.H₀ b=none->b∉X.fs->b∉X.ex->B.get? b=some o)/\(∀b o,X.s₀.heap.get? b=some o->b∉frs X.stack->b∉X.ex->∃o',B.get? b=some o')/\(∀p∈X.pn,B.get? p.1=some p.2)/\
  ((∃vs,Heap.MadeExcOf B s.heap ea (.ref C) vs/\B.FunFrames X.base X.stack)\/∃a0,Heap.FlyingW B X.stack ea (.ref C) a0 s.heap)
noncomputable def CX1(P:Program)(w:World):CXT:=λouter H s E e s'=>∃(ea C:Addr)(B:Heap)(a0:Value)(H':Hp),e=.ref ea/\s'.os=s.os/\AllBare s'.gens/\Heap.FlyingW B outer ea (.ref C) a0 s'.heap/\HOk P w H' B/\
 (∀b o,s.heap.get? b=some o->H b=none->b∉frs outer->B.get? b=some o)/\(∀b o,s.heap.get? b=some o->b∉frs outer->∃o',B.get? b=some o')/\Un (frs outer) [] H H' s.heap s'.heap/\E (.ref C) none H'
def qm{X}{pins}{H}{s s'}{E}{e}(I:Inv X pins σ H s)(h:CX1 X.prog X.w X.stack H s E e s'):
  ∃ea C H',e=.ref ea/\Inv X pins σ H' s'/\Fl X ea C H' s'/\E (.ref C) none H':=by
 obtain⟨ea,C,B,a0,H',rfl,os,bare,fl,ok,kb,th,un,q⟩:=h;have nst:∀b o,X.s₀.heap.get? b=some o->b∉X.fs->b∉frs _:=λb o e nf z=>by
  rcases mq0 (I.stkSub b z)with r|r
  .subst r
   exact absurd (nl0 (hs0 e) I.ok.above) (li0 _)
  .exact nf r
 refine⟨ea,C,H',rfl,I.call' os un (ok.kept fl.1) bare (λa z=>nomatch z),⟨B,ok,λb o e n nf nx=>?_,λb o e nf nx=>?_,λp hp=>?_,.inr ⟨a0,fl⟩⟩,q⟩
 .exact kb b o (I.base.keep b o e n nf nx) (I.base.free b o e n nx) (nst b o e nf)
 .obtain⟨o',h1⟩:=I.base.there b o e nx
  exact th b o' h1 nf
 .obtain⟨h1,h2,h3,h4,_⟩:=I.pin p (List.mem_append_left _ hp)
  refine kb _ _ h1 h2 λz=>?_
  rcases mq0 (I.stkSub _ z)with r|r
  .exact h3 r
  .exact h4 r
def Be{X}{pins}{H}{s}{h'}{ea C}{vs}(I:Inv X pins σ H s)(m:Heap.MadeExcOf s.heap h' ea (.ref C) vs):
  Inv X pins σ H {s with heap:=h'}/\Fl X ea C H {s with heap:=h'}:=
 ⟨I.kept m.keeps,_,I.hok,λb o e n nf nx=>I.base.keep b o e n nf nx,λb o e nf nx=>I.base.there b o e nx,λp hp=>(I.pin p (List.mem_append_left _ hp)).1,.inl ⟨vs,m,I.stack⟩⟩
def uC{K:fg0}{cd:Value}{A:Around}{outer:List Env}{E:XK}
     {s':Shared}{C:Addr} (I:Inv (dH (CX1 P w) P w K mg base N qual scope f cd A outer s H E) pins σ H' s') (fl:Fl (dH (CX1 P w) P w K mg base N qual scope f cd A outer s H E) ea C H' s')
  (h:E (.ref C) none H'):(dH (CX1 P w) P w K mg base N qual scope f cd A outer s H E).xe (.ref ea) s':=by
 obtain⟨B,ok,kb,th,pn,r⟩:=fl;have nL:∀b o,s.heap.get? b=some o->b≠s.heap.objs.size:=λb o e z=>by subst z;exact absurd (hs0 e) (li0 _)
 have stk:∀b,b∈frs (envOfC qual scope s.heap.objs.size f cd::outer)->b=s.heap.objs.size\/b∈frs outer:=λb hb=>by
  obtain⟨env,he,hf⟩:=List.mem_filterMap.mp hb;rcases mq0 he with rfl|he
  .exact .inl (Option.some.inj hf).symm
  .exact .inr (List.mem_filterMap.mpr ⟨env,he,hf⟩)
 have fin:∀(B':Heap)(a0:Value)(h':Heap),Heap.FlyingW B' outer ea (.ref C) a0 h'->s'.heap.UpToSlots h'->HOk P w H' B'->(∀b o,B.get? b=some o->b∉frs (envOfC qual scope s.heap.objs.size f cd::outer)->B'.get? b=some o)->
   CX1 P w outer H s E (.ref ea) {s' with heap:=h'}:=by
  intro B' a0 h' fl' up ok' bb;have out:∀b o,s.heap.get? b=some o->b∉frs outer->b∉frs (envOfC qual scope s.heap.objs.size f cd::outer):=λb o e nf z=>(stk b z).elim (nL b o e) nf
  have k1:∀b o,s.heap.get? b=some o->H b=none->b∉frs outer->B'.get? b=some o:=λb o e n nf=>bb b o (kb b o e n nf (λz=>nomatch z)) (out b o e nf)
  have k2:∀b o,s.heap.get? b=some o->b∉frs outer->∃o',B'.get? b=some o':=λb o e nf=>by
   obtain⟨o',h1⟩:=th b o e (out b o e nf) (λz=>nomatch z);exact⟨o',bb b o' h1 (out b o e nf)⟩
  have sl:∀b o,s.heap.get? b=some o->H b=none->b∈frs outer->∃sl,h'.get? b=some {o with slots:=sl}:=λb o e n hb=>by
   obtain⟨sl,h1⟩:=I.base.slot b o e n hb (λz=>nomatch z);obtain⟨_,o2,h2,h3⟩:=I.ok.funs.mem hb;have h2:s.heap.get? b=some o2:=h2;rw[e]at h2;cases h2;obtain⟨sl',h4⟩:=up b _ h1 h3;exact⟨sl',h4⟩
  refine⟨ea,C,B',a0,H',rfl,I.os,I.bare,fl',ok',k1,k2,⟨λb o e n nf a=>fl'.1 b o (k1 b o e n nf),λb o e n hb a=>sl b o e n hb,λb o e n a=>I.base.free b o e n (λz=>nomatch z),λb o e a=>?_,I.base.tups,I.base.frzs,I.base.tbls⟩,h⟩
  by_cases hb:b∈frs outer
  .have n:H b=none:=I.ok.frf b hb
   obtain⟨sl',q⟩:=sl b o e n hb;exact⟨_,q⟩
  .obtain⟨o',q⟩:=k2 b o e hb
   exact⟨o',fl'.1 b o' q⟩
 have hfr:(A.deeper (envOfC qual scope s.heap.objs.size f cd)).frames=some (envOfC qual scope s.heap.objs.size f cd::outer):=I.ok.frames;show wpAny _ _ (leaving _ (.ref ea)) _ _ s';rcases r with⟨vs,m,ff⟩|⟨a0,fl⟩
 .have hin:∀env∈(envOfC qual scope s.heap.objs.size f cd::outer),∀b,env.frame=some b->b∈frs (envOfC qual scope s.heap.objs.size f cd::outer):=λenv he b hb=>List.mem_filterMap.mpr ⟨env,he,hb⟩
  refine wpAny_leaves_madeW (base:=PySem.W.hideAll B (frs (envOfC qual scope s.heap.objs.size f cd::outer))) hfr rfl (λb o q=>PySem.W.of_hideAll _ q) (PySem.W.funFrames_hide ff hin) m λh' t x1 x2 x3 x4=>?_
  refine fin _ _ h' x1 x4 (λb o e=>?_) λb o e n=>PySem.W.hideAll_get _ e n
  have nf:∀c u,H' c=some u->c∉frs (envOfC qual scope s.heap.objs.size f cd::outer):=λc u e z=>by
   have:=I.stkFree c z;rw[e]at this;cases this
  refine (ok b o e).stay (λc u hc q=>PySem.W.hideAll_get _ q ?_) (λa q=>q) λa a q=>q
  rcases hc with rfl|hc
  .exact nf _ _ e
  .exact nf _ _ hc
 .refine wpAny_leaves_onW hfr rfl fl λh' x1 x2=>?_
  exact fin B a0 h' x1 x2 ok λb o e a=>e
structure MExt(G H:Hp)(d:Vd)(G' H':Hp)(d':Vd):Prop where
 gg:Same G G'
 hh:Same (er H (parts d)) (er H' (parts d'))
 gh:Same G' (er H' (parts d'))
 nw:∀b o,G b=Option.none->H b=some o->G' b=Option.none
 pre:d <+: d'
 st:∀b o,H b=some o->∃o',H' b=some o'
def gU{d d':Vd}(h:d <+: d'){b}(hb:b∈parts d):b∈parts d':=by
 obtain⟨t,ht⟩:=h;subst ht;unfold parts at hb ⊢;rw[List.flatMap_append];exact List.mem_append_left _ hb
section
variable {C:Addr}{G G1 H1 G2 H2:Hp}{d0 d d' d1 d2:Vd}{U U':List (List D)}
theorem MExt.refl(s:Same G (er H (parts d))):MExt G H d G H d:=⟨Same.refl _,Same.refl _,s,λa a h a=>h,List.prefix_refl _,λa o h=>⟨o,h⟩⟩
theorem MExt.trans(a:MExt G H d G1 H1 d1)(b:MExt G1 H1 d1 G2 H2 d2):MExt G H d G2 H2 d2:=
 ⟨a.gg.trans b.gg,a.hh.trans b.hh,b.gh,λc o h1 h2=>let ⟨o',h3⟩:=a.st c o h2;b.nw c o' (a.nw c o h1 h2) h3,a.pre.trans b.pre,λc o h=>let ⟨o',h3⟩:=a.st c o h;b.st c o' h3⟩
def VS.mext(v:VS P w K C G H d U)(s:Same G (er H (parts d)))(e:Ext G H G' H'):MExt G H d G' H' d:=by
 have x:=e.er (λb hb=>⟨v.out b hb,v.part hb⟩) s;exact⟨e.gg,x.hh,x.gh,e.nw,List.prefix_refl _,λb o h=>⟨o,e.hh b o h⟩⟩
noncomputable def dq:Option HO->Bool
 |some (.ins ..)=>true
 |_=>false
def EnvM.start(E:EnvM P w K C G0 H0 d0 G H d σ Y U):MExt G0 H0 d0 G H d:=by
 refine⟨E.gg,E.hh,E.sub',E.nw,E.pre,λb o h=>?_⟩
 by_cases hb:b∈parts d0
 .exact E.vs.part (gU E.pre hb)
 .exact⟨o,au b o (E.hh b o (by rwa [aL hb]))⟩
set_option tactic.hygienic true in
def EnvM.go(E:EnvM P w K C G0 H0 d0 G H d σ Y U)(m:MExt G H d G' H' d')(v:VS P w K C G' H' d' U'):EnvM P w K C G0 H0 d0 G' H' d' σ Y U':=by
 have st0:=E.start;obtain⟨Gb,Hb,s1,s2,e⟩:=E.bas
 let Hb':Hp:=λb=>match Hb b with
  |some o=>some o
  |.none=>if dq (er H' (parts d') b)then er H' (parts d') b else .none
 let Gb':Hp:=λb=>match Gb b with
  |some o=>some o
  |.none=>match Hb b with
   |some _=>.none
   |.none=>if dq (er H' (parts d') b)then G' b else .none
 have hb1:Same Hb Hb':=λb o h=>by show (match Hb b with|some o=>some o|.none=>_)=_;rw[h]
 have gb1:Same Gb Gb':=λb o h=>by show (match Gb b with|some o=>some o|.none=>_)=_;rw[h]
 have hbn:∀b o,Hb b=.none->er H (parts d) b=some o->notIns o=true->Hb' b=.none:=λb o h1 h2 h3=>by
  show (match Hb b with|some o=>some o|.none=>_)=_;rw[h1];have:=m.hh b o h2;show (if dq (er H' (parts d') b)then _ else _)=_;rw[this];cases o<;>first|rfl|cases h3
 have hS:Same Hb' (er H' (parts d')):=λb o h=>by
  have h:(match Hb b with|some o=>some o|.none=>if dq (er H' (parts d') b)then er H' (parts d') b else .none)=some o:=h;cases q:Hb b with
  |some o'=>rw[q]at h;cases h;exact m.hh b _ (e.ext.hh b _ q)
  |none=>
   rw[q]at h;dsimp only at h;split at h
   .exact h
   .cases h
 have ow:∀p,G p=.none->(∃o,er H (parts d) p=some o)->G' p=.none:=λp h1 ⟨o,h2⟩=>m.nw p o h1 (bu h2).2
 refine⟨⟨Gb',Hb',s1.trans gb1,⟨s2.1.trans hb1,λb o h n=>?_⟩,⟨⟨hS,λb o h=>?_,m.gh,λb o h1 h2=>?_,λb C' dx fs h=>?_⟩,e.len,λi d h=>?_,λi d h=>?_,λi d h=>?_,e.apart⟩⟩,λb o h1 h2=>?_,E.pre.trans m.pre,v⟩
 .have h:(match Hb b with|some o=>some o|.none=>if dq (er H' (parts d') b)then er H' (parts d') b else .none)=some o:=h
  cases q:Hb b with
  |some o'=>rw[q]at h;cases h;exact s2.2 b _ q n
  |none=>
   rw[q]at h;dsimp only at h;split at h
   .rename_i c;rw[h]at c;cases o<;>first|(cases c;done)|(cases n;done)
   .cases h
 .have h:(match Gb b with|some o=>some o|.none=>match Hb b with|some _=>.none|.none=>if dq (er H' (parts d') b)then G' b else .none)=some o:=h
  cases q:Gb b with
  |some o'=>rw[q]at h;cases h;exact m.gg b _ (e.ext.gg b _ q)
  |none=>
   rw[q]at h;cases q2:Hb b with
   |some _=>rw[q2]at h;cases h
   |none=>
    rw[q2]at h;dsimp only at h;split at h
    .exact h
    .cases h
 .have h1:(match Gb b with|some o=>some o|.none=>match Hb b with|some _=>.none|.none=>if dq (er H' (parts d') b)then G' b else .none)=.none:=h1
  have h2:(match Hb b with|some o=>some o|.none=>if dq (er H' (parts d') b)then er H' (parts d') b else .none)=some o:=h2;cases q:Gb b with
  |some o'=>rw[q]at h1;cases h1
  |none=>
   rw[q]at h1;cases q2:Hb b with
   |some o'=>
    have:=e.ext.hh b o' q2;exact ow b (e.ext.nw b o' q q2) ⟨_,this⟩
   |none=>
    rw[q2]at h1 h2;dsimp only at h1 h2;split at h1
    .exact h1
    .rename_i c;rw[if_neg c]at h2;cases h2
 .show (match Hb b with|some o=>some o|.none=>if dq (er H' (parts d') b)then er H' (parts d') b else .none)=_
  cases q:Hb b with
  |some o'=>
   have:=m.hh b o' (e.ext.hh b o' q);rw[h]at this;exact this.symm
  |none=>
   dsimp only;rw[h];rfl
 .obtain⟨u,a,b⟩:=e.dat i d h
  exact⟨u,a,b.mono m.gg⟩
 .obtain⟨u,a,b⟩:=e.lent i d h
  exact⟨u,a,(b.monoH hb1).monoG gb1⟩
 .obtain⟨p,a,c,f,g⟩:=e.own i d h
  obtain⟨o,ho⟩:=g.some;have ni:notIns o=true:=by
   rcases g with⟨_,_,_,z,_⟩|⟨_,_,_,z,_⟩<;>(rw[ho]at z;cases z;rfl)
  refine⟨p,a,ow p c ⟨o,ho⟩,hbn p o f ho ni,?_⟩;rcases g with⟨ds,vs,z1,z2,z3⟩|⟨ds,vs,z1,z2,z3⟩
  .exact .inl ⟨ds,vs,z1,m.hh _ _ z2,z3.mono m.gg⟩
  .exact .inr ⟨ds,vs,z1,m.hh _ _ z2,z3.mono m.gg⟩
 .obtain⟨o',h3⟩:=st0.st b o h2
  exact m.nw b o' (E.nw b o h1 h2) h3
theorem EnvM.set{i}{e}{v}(E:EnvM P w K C G0 H0 d0 G H d σ Y U)(hi:i<σ.length)(h:Dp K G e v):EnvM P w K C G0 H0 d0 G H d (σ.set i (some v)) (Y.set i (.dat e)) U:=by
 obtain⟨Gb,Hb,s1,s2,en⟩:=E.bas;exact⟨⟨Gb,Hb,s1,s2,en.set hi h⟩,E.nw,E.pre,E.vs⟩
theorem EnvM.freeze(E:EnvM P w K C G0 H0 d0 G H d σ Y U):∃G',EnvM P w K C G0 H0 d0 G' H d σ (Y.map SI.freeze) U/\Same G G':=by
 obtain⟨Gb,Hb,s1,s2,en⟩:=E.bas;obtain⟨G1,en1,s⟩:=en.freeze;have out:∀b∈parts d,G1 b=.none:=λb hb=>by
  cases q:G1 b with
  |none=>rfl
  |some o=>have:=en1.sub b o q;rw[kN hb]at this;cases this
 refine⟨G1,⟨⟨Gb,Hb,s1,s2,en1⟩,(λb o h1 h2=>by
  by_cases hb:b∈parts d0
  .exact out b (gU E.pre hb)
  .refine en1.ext.nw b o ?_ (s2.1 b o (by rwa [aL hb]))
   cases q:Gb b with
   |none=>rfl
   |some o'=>have:=en.ext.gg b o' q;rw[E.nw b o h1 h2]at this;cases this),E.pre,⟨E.vs.len,E.vs.nd,λh a l n q=>?_,E.vs.uni,out⟩⟩,s⟩
 .obtain⟨dx,objs,h1,h2,h3,as,h4,h5,h6,h7⟩:=E.vs.at' h a l n q
  exact⟨dx,_,h1,s _ _ h2,h3,as,h4,h5.mono s,h6,h7⟩
end
inductive R where
 |ok (d:D)
 |exc (C:Nat)
inductive Rs where
 |ok (ds:List D)
 |exc (C:Nat)
def qo(X:Cx)(c:Addr)(σ:St)(H:Hp):Prop:=∀pins ea s,Inv X pins σ H s->Fl X ea c H s->X.xe (.ref ea) s
noncomputable def PostM(X:Cx)(C:Addr)(G H:Hp)(d:Vd)(U:List (List D))(σ:St)(Q:VK):R->Prop
 |.ok e=>∀v G' H' d',MExt G H d G' H' d'->VS X.prog X.w X.K C G' H' d' U->Dp X.K G' e v->Q v H'
 |.exc c=>∀G' H' d',MExt G H d G' H' d'->VS X.prog X.w X.K C G' H' d' U->qo X c σ H'
noncomputable def IJ(X:Cx)(C:Addr)(G H:Hp)(d:Vd)(U:List (List D))(σ:St)(fl:List Bool)(Q:List V->Hp->Prop):Rs->Prop
 |.ok es=>∀vs G' H' d',MExt G H d G' H' d'->VS X.prog X.w X.K C G' H' d' U->Das X.K G' (er H' (parts d')) fl es vs->Q vs H'
 |.exc c=>∀G' H' d',MExt G H d G' H' d'->VS X.prog X.w X.K C G' H' d' U->qo X c σ H'
noncomputable def tM(X:Cx)(C:Addr)(Y:List Sl)(U:List (List D))(r:R)(U':List (List D)):TE:=λσ H Q=>∃G0 H0 d0 G d,EnvM X.prog X.w X.K C G0 H0 d0 G H d σ Y U/\PostM X C G H d U' σ Q r
noncomputable def tMa(X:Cx)(C:Addr)(Y:List Sl)(U:List (List D))(fl:List Bool)(r:Rs)(U':List (List D)):TA:=λσ H Q=>∃G0 H0 d0 G d,EnvM X.prog X.w X.K C G0 H0 d0 G H d σ Y U/\IJ X C G H d U' σ fl Q r
def EvM(X:Cx)(C:Addr)(Y:List Sl)(U:List (List D))(e:Expr)(r:R)(U':List (List D)):Prop:=PE X e (tM X C Y U r U')
def EaM(X:Cx)(C:Addr)(Y:List Sl)(U:List (List D))(fl:List Bool)(es:List Expr)(r:Rs)(U':List (List D)):Prop:=PA X es (tMa X C Y U fl r U')
structure FnM where
 lent:List Bool
 run:List (List D)->List D->Option (List (List D)×R)
noncomputable def Mur(P:Program)(w:World)(K:Fg)(C:Addr)(J:FnM):Sp:=λvs H Q E=>∃ds U U' r G d,J.run U ds=some (U',r)/\Same G (er H (parts d))/\Das K G (er H (parts d)) J.lent ds vs/\VS P w K C G H d U/\
 match r with
 |.ok e=>∀v G' H' d',MExt G H d G' H' d'->VS P w K C G' H' d' U'->Dp K G' e v->Q v H'
 |.exc c=>∀G' H' d',MExt G H d G' H' d'->VS P w K C G' H' d' U'->E (.ref c) none H'
section
variable {C:Addr}{U U1 U2 U':List (List D)}{e:Expr}{c k:Nat}{r:R}{rs:Rs}{p:Pos}
def PostM.go{G H G' H'}{d d'}{σ}{Q}(h:PostM X C G H d U σ Q r)(m:MExt G H d G' H' d'):PostM X C G' H' d' U σ Q r:=by
 cases r with
 |ok e=>exact λv G2 H2 d2 m2 v2 q=>h v G2 H2 d2 (m.trans m2) v2 q
 |exc c=>exact λG2 H2 d2 m2 v2=>h G2 H2 d2 (m.trans m2) v2
def xM(h:Ev X (Y.map (vE C U)) e d):EvM X C Y U e (.ok d) U:=λpins s σ H Q I ⟨G0,H0,d0,G,dd,E,k⟩=>
 h _ s σ H Q I ⟨G,H,G,E.view,λv G' H' e1 r=>k v G' H' dd (E.vs.mext E.sub' e1) (E.vs.step e1) r⟩
def lU(i:Nat)(h:Y[i]?=some (.dat d))(hN:X.N[i]?=some x)(hv:Vis X.env.scope x)(hd:(x==("__debug__":Str))=false)(hcd:(x==("__classdict__":Str))=false):EvM X C Y U (.Name x pos) (.ok d) U:=
 λpins s σ H Q I ⟨G0,H0,d0,G,dd,E,k⟩=>by
  obtain⟨Gb,Hb,_,_,en⟩:=E.bas;obtain⟨v,a,b⟩:=en.dat i d h;exact cm hN hv hd hcd _ s σ H Q I ⟨v,a,k v G H dd (.refl E.sub') E.vs b⟩
def Bg:EaM X C Y U fl [] (.ok []) U:=by rintro pos pins s σ H Q I ⟨G0,H0,d0,G,dd,E,k⟩;exact aD _ _ s σ H Q I (k [] G H dd (.refl E.sub') E.vs .nil)
def xN(he:EvM X C Y U e (.ok d) U1)(hr:EaM X C Y U1 fl.tail es rs U2)(hs:isStar e=false):EaM X C Y U fl (e::es) (match rs with|.ok ds=>.ok (d::ds)|.exc c=>.exc c) U2:=
 λpos pins s σ H Q I ⟨G0,H0,d0,G,dd,E,k⟩=>ar he hr (ae hs) _ _ s σ H Q I ⟨G0,H0,d0,G,dd,E,λv G1 H1 d1 m1 v1 r1=>by
  refine⟨G0,H0,d0,G1,d1,E.go m1 v1,?_⟩;cases rs with
  |ok ds=>exact λvs G2 H2 d2 m2 v2 r2=>k _ G2 H2 d2 (m1.trans m2) v2 (.cons (λa=>r1.mono m2.gg) (.of (r1.mono m2.gg)) r2)
  |exc c=>exact λG2 H2 d2 m2 v2=>k G2 H2 d2 (m1.trans m2) v2⟩
def uD(he:EvM X C Y U e (.exc c) U1)(hs:isStar e=false):EaM X C Y U fl (e::es) (.exc c) U1:=
 λpos pins s σ H Q I ⟨G0,H0,d0,G,dd,E,k⟩=>ar (t:=λa a a=>False) he (λa a a a a a a z=>z.elim) (ae hs) _ _ s σ H Q I ⟨G0,H0,d0,G,dd,E,k⟩
def lV{pins}{H}{s}{Q}{us}{vs}{f}{fd}{ps}{sp}(F:FnOk X.prog X.w X.K X.mg X.base (CX1 X.prog X.w) k f fd ps sp)(hr:Room k X.A)(hb:Binds X.K fd ps [])
  (I:Inv X pins σ H s) (r:Vals vs us) (h:sp vs H Q (λc a H'=>∃c',c=.ref c'/\qo X c' σ H')):wpAny (model X.prog X.w) X.A (call (.ref f) us) (EP X pins σ Q) X.xe s:=by
 have hl:us.length=ps.length:=by rw[<-r.length];exact F.len _ _ _ _ h
 refine wpAny_call (codeAny_mono (F.run _ _ s H _ us vs Q _ hr I.env0 (by have:=hb s us I.kIn (by simpa using hl);simp_all) r h) λr s' hq=>?_);cases r with
 |error e=>
  have hq:CX1 _ _ _ H s (λc a H'=>∃c',c=.ref c'/\qo X c' σ H') e s':=hq;obtain⟨ea,c,H',rfl,I',fl,c',ec,ac⟩:=qm I hq;cases ec;exact ac _ ea s' I' fl
 |ok fl=>
  cases fl with
  |ret u=>exact I.after hq
  |next=>exact False.elim hq
  |brk=>exact False.elim hq
  |cont=>exact False.elim hq
noncomputable def xO(run:List (List D)->List D->Option (List (List D)×R)):Rs->List (List D)->Option (List (List D)×R)
 |.ok ds,U=>run U ds
 |.exc c,U=>some (U,.exc c)
def xP{J}{G H}{d}{σ}{Q}{vs}(h:J.run U1 ds=some (U2,r))(s:Same G (er H (parts d)))(das:Das X.K G (er H (parts d)) J.lent ds vs)(v:VS X.prog X.w X.K C G H d U1)(q:PostM X C G H d U2 σ Q r):
  Mur X.prog X.w X.K C J vs H Q (λc a H'=>∃c',c=.ref c'/\qo X c' σ H'):=by
 refine⟨ds,U1,U2,r,G,d,h,s,das,v,?_⟩;cases r with
 |ok e=>exact q
 |exc c=>exact λG' H' d' m v'=>⟨c,rfl,q G' H' d' m v'⟩
structure xQ(P:Program)(w:World)(K:Fg)(mg:Str->Option Value)(base:Heap)(C:Addr)(k:Nat)(x:Str)(J:FnM):Prop where
 ex:∃f fd ps,mg x=some (.ref f)/\PySem.W.keepIn K (.ref f)=true/\Binds K fd ps []/\FnOk P w K mg base (CX1 P w) k f fd ps (Mur P w K C J)
def xR{J:FnM}(F:xQ X.prog X.w X.K X.mg X.base C k x J)(hr:Room k X.A)(hg:Gl X x)(hd:(x==("__debug__":Str))=false)(ha:EaM X C Y U J.lent (e::es) rs U1)(h:xO J.run rs U1=some (U2,r))(hs:aI (e::es)):
  EvM X C Y U (.Call (.Name x p) (e::es) [] pos) r U2:=by
 obtain⟨f,fd,ps,hm,hk,hb,F⟩:=F.ex;intro pins s σ H Q I h0;obtain⟨G0,H0,d0,G,dd,E,kq⟩:=h0;refine wpAny_Call_Name_kw (ef I hg hm ?_ hd);cases rs with
 |exc c=>
  cases h;refine PySem.W.callWith_K I.ok.mod.kin hk (thn (ha pos _ s σ H (λa a=>False) I ⟨G0,H0,d0,G,dd,E,kq⟩) λus s1 ⟨vs,H1,I1,r1,q⟩=>q.elim) (ae (hs e ms0)) (aB λy hy=>hs y (mc0 _ hy))
 |ok ds=>
  exact PySem.W.callWith_K I.ok.mod.kin hk (thn (ha pos pins s σ H _ I ⟨G0,H0,d0,G,dd,E,λvs G1 H1 d1 m1 v1 r1=>xP h m1.gh r1 v1 (kq.go m1)⟩) λus s1 ⟨vs,H1,I1,r1,q⟩=>⟨I1.kIn,lV F hr hb I1 r1 q⟩) (ae (hs e ms0)) (aB λy hy=>hs y (mc0 _ hy))
structure FnVm(P:Program)(w:World)(K:Fg)(mg:Str->Option Value)(base:Heap)(C:Addr)(k:Nat)(m:Str)(J:FnM):Prop where
 ex:∃f fd ps,Cls K C/\iR K C m f/\Binds K fd ps []/\FnOk P w K mg base (CX1 P w) k f fd ps (Mur P w K C J)
def xS{J}{h}(F:FnVm X.prog X.w X.K X.mg X.base C k m J)(hl:J.lent.headD false=false)(hm2:m≠"objects"/\m≠"numbers")(hr:Room k X.A)(ho:EvM X C Y U o (.ok (.hdl h)) U1)(ha:EaM X C Y U1 J.lent.tail (e::es) (.ok ds) U2)(hrun:J.run U2 (.hdl h::ds)=some (U',r))(hs:aI (e::es))
  {pl} (ht:eval (.Call (.Attribute o m apos) (e::es) [] pos) X.env=(do
   let ov ←eval o X.env
   standAt apos.atName
   let (f,first) ←holding [ov] (getMethod ov m pl)
   callWith pos f first (backTo pos (starEach (e::es) X.env)) (backToKw pos (keywordEach [] X.env)))):
  EvM X C Y U (.Call (.Attribute o m apos) (e::es) [] pos) r U':=by
 obtain⟨f,fd,ps,hc,hm,hb,F⟩:=F.ex;intro pins s σ H Q I h0;obtain⟨G0,H0,d0,G,dd,E,kq⟩:=h0;refine PySem.W.methodCall_KW (pl:=pl) (thn (ho pins s σ H (λx H1=>∃a dx fs,x=.ref a/\H1 a=some (.ins C dx fs)/\fs.lookup m=none/\∃G1 d1,MExt G H dd G1 H1 d1/\VS X.prog X.w X.K C G1 H1 d1 U1/\Dp X.K G1 (.hdl h) (.ref a)) I ⟨G0,H0,d0,G,dd,E,λv G1 H1 d1 m1 v1 r1=>?_⟩) λu s1 ⟨x,H1,I1,rx,a,dx,fs,ex,ea,l,G1,d1,m1,v1,r1⟩=>?_) ht
 .obtain⟨a,l,n,dx,objs,rfl,_,_,q,_⟩:=v1.hdl (m1.gh.trans au) r1
  refine⟨a,dx,_,rfl,(m1.gh.trans au) _ _ q,?_,G1,d1,m1,v1,r1⟩;have n1:=bn0 hm2.1;have n2:=bn0 hm2.2;simp[vfs,lk0,n1,n2]
 .subst ex
  obtain rfl:u=Value.ref a:=rx;refine dg I1 ea hc hm l ?_;refine PySem.W.callWith_K (first:=[.ref a]) (h₀:=X.base) I.ok.mod.kin hm.kp (thn (ha pos pins s1 σ H1 _ I1 ⟨G0,H0,d0,G1,d1,E.go m1 v1,λvs G2 H2 d2 m2 v2 r2=>?_⟩) λus s2 ⟨vs,H2,I2,r2,q⟩=>⟨I2.kIn,lV (us:=.ref a::us) (vs:=.ref a::vs) F hr hb I2 (.cons rfl r2) q⟩) (ae (hs e ms0)) (aB λy hy=>hs y (mc0 _ hy));exact xP hrun m2.gh (.cons (λb=>r1.mono m2.gg) (.of (r1.mono m2.gg)) r2) v2 (kq.go (m1.trans m2))
end
inductive OM where
 |nx (Y:List Sl)
 |rt (d:D)
 |exc (c:Nat) (Y:List Sl)
noncomputable def GoesM(X:Cx)(C:Addr)(G0 H0:Hp)(d0:Vd)(G:Hp)(U:List (List D))(F:Ends):OM->Prop
 |.nx Y'=>∀G' H' d' σ',EnvM X.prog X.w X.K C G0 H0 d0 G' H' d' σ' Y' U->Same G G'->F.nx σ' H'
 |.rt e=>∀v G' H' d',MExt G0 H0 d0 G' H' d'->VS X.prog X.w X.K C G' H' d' U->Dp X.K G' e v->F.rt v H'
 |.exc c Y'=>∀G' H' d' σ',EnvM X.prog X.w X.K C G0 H0 d0 G' H' d' σ' Y' U->Same G G'->qo X c σ' H'
noncomputable def tSM(X:Cx)(C:Addr)(Y:List Sl)(U:List (List D))(o:OM)(U':List (List D)):TS:=λF σ H=>∃G0 H0 d0 G d,EnvM X.prog X.w X.K C G0 H0 d0 G H d σ Y U/\GoesM X C G0 H0 d0 G U' F o
def S1M(X:Cx)(C:Addr)(Y:List Sl)(U:List (List D))(st:Stmt)(o:OM)(U':List (List D)):Prop:=PS X st (tSM X C Y U o U')
def SsM(X:Cx)(C:Addr)(Y:List Sl)(U:List (List D))(sts:List Stmt)(o:OM)(U':List (List D)):Prop:=PSs X sts (tSM X C Y U o U')
inductive Rt where
 |ok (b:Bool)
 |exc (C:Nat)
noncomputable def tTM(X:Cx)(C:Addr)(Y:List Sl)(U:List (List D))(r:Rt)(U':List (List D)):TT:=λσ H Q=>∃G0 H0 d0 G d,EnvM X.prog X.w X.K C G0 H0 d0 G H d σ Y U/\match r with
 |.ok b=>∀G' H' d',MExt G H d G' H' d'->VS X.prog X.w X.K C G' H' d' U'->Q b H'
 |.exc c=>∀G' H' d',MExt G H d G' H' d'->VS X.prog X.w X.K C G' H' d' U'->qo X c σ H'
def EtM(X:Cx)(C:Addr)(Y:List Sl)(U:List (List D))(e:Expr)(r:Rt)(U':List (List D)):Prop:=PT X e (tTM X C Y U r U')
section
variable {C:Addr}{U U1 U2 U':List (List D)}{rest:List Stmt}{o:OM}{e:Expr}{p:Pos}{c k:Nat}
def GoesM.go{G0 H0 G G1}{d0}{F}(h:GoesM X C G0 H0 d0 G U F o)(s:Same G G1):GoesM X C G0 H0 d0 G1 U F o:=by
 cases o with
 |nx Y'=>exact λG' H' d' σ' e g=>h G' H' d' _ e (s.trans g)
 |rt d=>exact h
 |exc c Y'=>exact λG' H' d' σ' e g=>h G' H' d' _ e (s.trans g)
def Bh:SsM X C Y U [] (.nx Y) U:=by rintro pins s σ H F I ⟨G0,H0,d0,G,d,E,R⟩;exact eg _ s σ H F I (R G H d σ E (Same.refl _))
def uE(h1:S1M X C Y U st (.nx Y1) U1)(h2:SsM X C Y1 U1 rest o U2):SsM X C Y U (st::rest) o U2:=λpins s σ H F I ⟨G0,H0,d0,G,d,E,R⟩=>
 aV h1 h2 _ s σ H F I ⟨G0,H0,d0,G,d,E,λG' H' d' σ' E' g=>⟨G0,H0,d0,G',d',E',R.go g⟩⟩
def uF(h1:S1M X C Y U st (.rt d) U1):SsM X C Y U (st::rest) (.rt d) U1:=λpins s σ H F I ⟨G0,H0,d0,G,dd,E,R⟩=>
 aV (u:=λa a a=>False) h1 (λa a a a a a z=>z.elim) _ s σ H F I ⟨G0,H0,d0,G,dd,E,R⟩
def uG(h1:S1M X C Y U st (.exc c Y1) U1):SsM X C Y U (st::rest) (.exc c Y1) U1:=λpins s σ H F I ⟨G0,H0,d0,G,dd,E,R⟩=>
 aV (u:=λa a a=>False) h1 (λa a a a a a z=>z.elim) _ s σ H F I ⟨G0,H0,d0,G,dd,E,R⟩
def xT:S1M X C Y U (.Pass pos) (.nx Y) U:=by rintro pins s σ H F I ⟨G0,H0,d0,G,d,E,R⟩;exact qN _ s σ H F I (R G H d σ E (Same.refl _))
def jq{G0 H0 G H}{d0 d}{σ}{Q}{F}(E:EnvM X.prog X.w X.K C G0 H0 d0 G H d σ Y U)(R:GoesM X C G0 H0 d0 G U1 F (.exc c Y)):PostM X C G H d U1 σ Q (.exc c):=
 λG' H' d' m v=>R G' H' d' σ (E.go m v) m.gg
def Bi(S:Sto X x i)(h:EvM X C Y U e (.ok d) U1)(hs:swapsWith e (some (.Name x pos')) pos.line X.env=pure false):S1M X C Y U (.Assign [.Name x pos'] e pos) (.nx (Y.set i (.dat d))) U1:=
 λpins s σ H F I ⟨G0,H0,d0,G,dd,E,R⟩=>gq S.nd S.nm.at' S.nm.loc h hs S.nm.fn _ s σ H F I ⟨G0,H0,d0,G,dd,E,λv G' H' d' m v1 r=>R G' H' d' _ ((E.go m v1).set (S.lt I) r) m.gg⟩
def xU(S:Sto X x i)(h:EvM X C Y U e (.exc c) U1)(hs:swapsWith e (some (.Name x pos')) pos.line X.env=pure false):S1M X C Y U (.Assign [.Name x pos'] e pos) (.exc c Y) U1:=
 λpins s σ H F I ⟨G0,H0,d0,G,dd,E,R⟩=>gq S.nd S.nm.at' S.nm.loc h hs S.nm.fn _ s σ H F I ⟨G0,H0,d0,G,dd,E,jq E R⟩
def xV(h:EvM X C Y U e (.ok d) U1)(hs:swapsWith e none pos.line X.env=pure false):S1M X C Y U (.Expr e pos) (.nx Y) U1:=
 λpins s σ H F I ⟨G0,H0,d0,G,dd,E,R⟩=>eu h hs _ s σ H F I ⟨G0,H0,d0,G,dd,E,λv G' H' d' m v1 r=>R G' H' d' _ (E.go m v1) m.gg⟩
def uH(h:EvM X C Y U e (.exc c) U1)(hs:swapsWith e none pos.line X.env=pure false):S1M X C Y U (.Expr e pos) (.exc c Y) U1:=
 λpins s σ H F I ⟨G0,H0,d0,G,dd,E,R⟩=>eu h hs _ s σ H F I ⟨G0,H0,d0,G,dd,E,jq E R⟩
def Bj(h:EvM X C (Y.map SI.freeze) U e (.ok d) U1):S1M X C Y U (.Return (some e) pos) (.rt d) U1:=by
 rintro pins s σ H F I ⟨G0,H0,d0,G,dd,E,R⟩
 obtain⟨G1,E1,s1⟩:=E.freeze;exact lr h _ s σ H F I ⟨G0,H0,d0,G1,dd,E1,λv G' H' d' m v1 r=>R v G' H' d' (E1.go m v1).start v1 r⟩
def xW(h:EvM X C (Y.map SI.freeze) U e (.exc c) U1):S1M X C Y U (.Return (some e) pos) (.exc c (Y.map SI.freeze)) U1:=by
 rintro pins s σ H F I ⟨G0,H0,d0,G,dd,E,R⟩
 obtain⟨G1,E1,s1⟩:=E.freeze;exact lr h _ s σ H F I ⟨G0,H0,d0,G1,dd,E1,jq E1 (R.go s1)⟩
def etM_pure(h:Et X (Y.map (vE C U)) e t):EtM X C Y U e (.ok t) U:=λpins s σ H Q I ⟨G0,H0,d0,G,dd,E,k⟩=>
 h _ s σ H Q I ⟨G,H,G,E.view,λG' H' e1=>k G' H' dd (E.vs.mext E.sub' e1) (E.vs.step e1)⟩
def rP(hc:EtM X C Y U e (.ok true) U1)(h:SsM X C Y U1 body o U2):S1M X C Y U (.If e body body2 pos) o U2:=λpins s σ H F I ⟨G0,H0,d0,G,dd,E,R⟩=>
 jQ (u:=λa a a=>False) hc h (λa a a a a a z=>z.elim) _ s σ H F I ⟨G0,H0,d0,G,dd,E,λG' H' d' m v=>jH ⟨G0,H0,d0,G',d',E.go m v,R.go m.gg⟩⟩
def rQ(hc:EtM X C Y U e (.ok false) U1)(h:SsM X C Y U1 body2 o U2):S1M X C Y U (.If e body body2 pos) o U2:=λpins s σ H F I ⟨G0,H0,d0,G,dd,E,R⟩=>
 jQ (t:=λa a a=>False) hc (λa a a a a a z=>z.elim) h _ s σ H F I ⟨G0,H0,d0,G,dd,E,λG' H' d' m v=>jG ⟨G0,H0,d0,G',d',E.go m v,R.go m.gg⟩⟩
def Bk(hc:EtM X C Y U e (.exc c) U1):S1M X C Y U (.If e body body2 pos) (.exc c Y) U1:=λpins s σ H F I ⟨G0,H0,d0,G,dd,E,R⟩=>
 jQ (t:=λa a a=>False) (u:=λa a a=>False) hc (λa a a a a a z=>z.elim) (λa a a a a a z=>z.elim) _ s σ H F I ⟨G0,H0,d0,G,dd,E,λG' H' d' m v=>R G' H' d' σ (E.go m v) m.gg⟩
def TgM(X:Cx)(tg:Expr)(t:Tg):Prop:=∀d,PG X tg (λv σ H Q=>∃(W:St->List Sl->Prop)(G:Hp)(Y Y':List Sl),W σ Y/\(∀σ Y i e u,W σ Y->i<σ.length->Dp X.K G e u->W (σ.set i (some u)) (Y.set i (.dat e)))/\Same G H/\Dp X.K G d v/\aw t d Y=some Y'/\∀σ',W σ' Y'->Q σ' H)
def ox{i}{x}(hN:X.N.Nodup)(hi:X.N[i]?=some x)(hx:Loc X.env.scope x)(hf:X.fn x=true\/X.env.scope.names.lookup x=some .local):TgM X (.Name x p) (.one i):=
 λd pins s σ H v u Q I r ⟨W,G,Y,Y',w,cl,sm,dv,hb,k⟩=>by
  cases hb;exact qO hN hi hx hf _ s σ H v u Q I r (k _ (cl σ Y i d v w (by rw[I.len];exact (gi0 hi).1) dv))
def Ly(X:Cx)(ts:List Expr)(is:List Nat):Prop:=∀ds,ds.length=is.length->PGs X ts (λvs σ H Q=>∃(W:St->List Sl->Prop)(G:Hp)(Y:List Sl),W σ Y/\(∀σ Y i e u,W σ Y->i<σ.length->Dp X.K G e u->W (σ.set i (some u)) (Y.set i (.dat e)))/\Same G H/\Dps X.K G ds vs/\
 ∀σ',W σ' ((is.zip ds).foldl (λY p=>Y.set p.1 (.dat p.2)) Y)->Q σ' H)
def Lz{ts}{is}(hN:X.N.Nodup)(h:Nms X ts is):Ly X ts is:=by
 induction h with
 |nil=>
  intro ds hl pins s σ H vs us Q I r h0;obtain⟨W,G,Y,w,cl,sm,dv,k⟩:=h0;have:=ez0 hl;subst this;cases dv;exact qP _ s σ H [] us Q I r ⟨rfl,k σ w⟩
 |@cons x px i es is h1 h2 ih=>
  intro ds hl pins s σ H vs us Q I r h0;obtain⟨W,G,Y,w,cl,sm,dv,k⟩:=h0;cases ds with
  |nil=>cases hl
  |cons d ds=>
   cases dv with
   |cons d1 d2=>
    exact mK (ox hN h1.at' h1.loc h1.fn d) (ih ds (by simpa using hl)) rfl _ s σ H _ us Q I r
     ⟨_,_,rfl,W,G,Y,_,w,cl,sm,d1,rfl,λσ' w'=>⟨W,G,_,w',cl,sm,d2,λσ2 w2=>k _ w2⟩⟩
set_option tactic.hygienic true in
def xX{Cc}(c:CxC X Cc){tg}{t}(h:cTg Cc tg=some t):TgM X tg t:=by
 have nms:∀{es:List Expr}{is},slots Cc es=some is->Nms X es is:=by
  intro es
  induction es with
  |nil=>intro is h;cases h;exact .nil
  |cons e r ih=>
   intro is h;cases e with
   |Name x px=>
    obtain⟨i,h1,h2⟩:=bx0 (h);obtain⟨is',h3,rfl⟩:=mx0 h2;exact .cons (jo c h1) (ih h3)
   |_=>cases h
 cases tg with
 |Name x px=>
  obtain⟨i,h1,rfl⟩:=mx0 (h);have n:=jo c h1;exact ox (by rw[c.N];exact c.nd) n.at' n.loc n.fn
 |Tuple es n pos=>
  obtain⟨is,h1,rfl⟩:=mx0 (h);exact (by
    have hc:=c.calm;have hN:X.N.Nodup:=(by rw[c.N];exact c.nd);have h:=(nms h1);intro d pins s σ H v u Q I r h0;obtain⟨W,G,Y,Y',w,cl,sm,dv,hb,k⟩:=h0;cases d with
    |tuple ds=>
     rw[gF]at hb;split at hb
     .rename_i hl
      cases hb;cases dv with
      |tuple hq dr=>
       obtain⟨e1,e2⟩:=h.each (env:=X.env);exact vG (n:=is.length) hc (Lz hN h ds hl.symm) e1 e2 pins s σ H _ u Q I r ⟨_,_,rfl,SqT.of (sm _ _ hq),by rw[<-dr.length];exact hl.symm,W,G,Y,w,cl,sm,dr,k⟩
     .cases hb
    |_=>cases hb)
 |_=>cases h
noncomputable def OM.andThen:OM->(List Sl->Option (OM×List (List D)))->List (List D)->Option (OM×List (List D))
 |.nx Y,f,_=>f Y
 |.rt d,_,U=>some (.rt d,U)
 |.exc c Y,_,U=>some (.exc c Y,U)
noncomputable def forM(t:D->List Sl->Option (List Sl))(b:List Sl->List (List D)->Option (OM×List (List D))):List D->List Sl->List (List D)->Option (OM×List (List D))
 |[],Y,U=>some (.nx Y,U)
 |d::r,Y,U=>(t d Y).bind λY'=>(b Y' U).bind λq=>q.1.andThen (λY2=>forM t b r Y2 q.2) q.2
noncomputable def tIM(X:Cx)(C:Addr)(Y:List Sl)(U:List (List D))(ds:List D)(U':List (List D)):TI:=λσ H R=>∃G0 H0 d0 G d,EnvM X.prog X.w X.K C G0 H0 d0 G H d σ Y U/\∀J G' H' d',MExt G H d G' H' d'->VS X.prog X.w X.K C G' H' d' U'->
 (∃Hs,ij X.K G' Hs J ds/\∀G2 H2 d2 σ2 Y2 U2,EnvM X.prog X.w X.K C G0 H0 d0 G2 H2 d2 σ2 Y2 U2->Same G' G2->Same Hs H2)->R J H'
def SiM(X:Cx)(C:Addr)(Y:List Sl)(U:List (List D))(iter:Expr)(ds:List D)(U':List (List D)):Prop:=∀tg,PI X tg iter (tIM X C Y U ds U')
def xY(h:Si X Y true iter ds):SiM X C Y U iter ds U:=by
 rintro tg pins s σ H R I ⟨G0,H0,d0,G,d,E,k⟩
 obtain⟨Gb,Hb,en,st⟩:=E.full;exact h tg _ s σ H R I ⟨Gb,Hb,G,en,λJ G' H' e1 sr=>k J G' H' d (E.vs.mext E.sub' e1) (E.vs.step e1) ⟨Hb,sr,λG2 H2 d2 σ2 Y2 U2 E2 g=>st G2 H2 d2 _ _ U2 E2 (e1.gg.trans g)⟩⟩
def rR{t}{run}(hi:SiM X C Y U iter ds U1)(ht:TgM X tg t)(hb:∀Y' U' o' U2,run Y' U'=some (o',U2)->SsM X C Y' U' body o' U2)(h:forM (aw t) run ds Y U1=some (o,U2))
  (hc:X.calm=true) (hp:PassesOwn (model X.prog X.w) X.A X.env X.xe) (hf:∀x,foldedSetIterable iter X.env x=pure x):S1M X C Y U (.For tg iter body [] pos) o U2:=by
 intro pins s σ H F I h0;obtain⟨G0,H0,d0,G,d,E,R⟩:=h0;refine pC hp hc (hi _) (Fy (tg:=tg)) (rM (body:=body)) hf pins s σ H F I ?_;refine⟨G0,H0,d0,G,d,E,λJ G1 H1 d1 m1 v1 ⟨Hs,hJ,hst⟩=>⟨λk m σ' H'=>m=ds.length-k/\k<=ds.length/\∃Y' U' G' d',forM (aw t) run (ds.drop k) Y' U'=some (o,U2)/\EnvM X.prog X.w X.K C G0 H0 d0 G' H' d' σ' Y' U'/\Same G1 G',⟨ds.length,by simp,Nat.zero_le _,Y,U1,G1,d1,h,E.go m1 v1,Same.refl _⟩,?_⟩⟩
 rintro k m σ' H' ⟨rfl,hk,Y',U',G',d',pv,E',g1⟩
 have g0:=m1.gg.trans g1;have hs:=hst G' H' d' σ' Y' U' E' g1
 by_cases hlt:k<ds.length
 .refine .inr ⟨hJ.go k H' hlt (g1.trans E'.sub) hs,λσ2 H2=>k+1<=ds.length/\∃Y2 U3 G2 d2,forM (aw t) run (ds.drop (k+1)) Y2 U3=some (o,U2)/\EnvM X.prog X.w X.K C G0 H0 d0 G2 H2 d2 σ2 Y2 U3/\Same G1 G2,λσ2 H2 ⟨h1,Y2,U3,G2,d2,p2,en2,s2⟩=>⟨ds.length-(k+1),by grind,rfl,h1,Y2,U3,G2,d2,p2,en2,s2⟩,λv H2 y=>?_⟩
  have hd:=ge0 hlt;rw[List.drop_eq_getElem_cons hlt]at pv;generalize ds[k]=dd at hd pv;obtain⟨Y1,b1,pv⟩:=bx0 (pv:(aw t dd Y').bind _=some (o,U2));obtain⟨⟨o1,U3⟩,b2,pv⟩:=bx0 pv;obtain⟨G2,e2,d2⟩:=hJ.yld k G' H' v H2 dd hd g1 E'.sub hs y;have E2:=E'.go (E'.vs.mext E'.sub' e2) (E'.vs.step e2);intro pins' s' u' I' r';refine ht dd pins' s' σ' H2 v u' _ I' r' ⟨λσ3 Y3=>EnvM X.prog X.w X.K C G0 H0 d0 G2 H2 d' σ3 Y3 U',G2,Y',Y1,E2,λσ3 Y3 i e u E3 hi de=>E3.set hi de,E2.sub,d2,b1,λσ2 en2=>?_⟩;intro pins2 s2 I2;refine hb Y1 U' o1 U3 b2 pins2 s2 σ2 H2 _ I2 ⟨G0,H0,d0,G2,d',en2,?_⟩;cases o1 with
  |nx Y3=>exact λG3 H3 d3 σ3 en3 g3=>⟨hlt,Y3,U3,G3,d3,pv,en3,g1.trans (e2.gg.trans g3)⟩
  |rt dr=>cases pv;exact R
  |exc c Y3=>cases pv;exact R.go (g0.trans e2.gg)
 .have e:k=ds.length:=by grind
  subst e;rw[List.drop_length]at pv;cases pv;exact .inl ⟨hJ.stop H' (g1.trans E'.sub) hs,R G' H' d' σ' E' g0⟩
end
noncomputable def bj:List Value:=[.type "ValueError",.type "Exception",.type "BaseException",.type "object"]
set_option tactic.hygienic true in
def rS{h}{C}{bmB}{newId}(X:K.In h)(q:PySem.W.excIn K C bmB newId=true):
  ∃bm N nm qn bs hdct sn sub ab col dd k0 k1 k2 k3 k5 mN,h.get? C=some (excClassObj nm qn C N bs bm hdct sn sub ab col dd k0 k1 k2 k3 k5 newId)/\h.Ns N mN/\mN "__init__"=none/\OwnTail h bmB bm:=by
 unfold PySem.W.excIn at q;split at q
 .rename_i dd cd sl ho
  split at q
  .rename_i C' bm k0 k1 k2 k3 n k5 hm hs
   simp only[be0,beq_iff_eq,Bool.not_eq_true']at q;obtain⟨⟨⟨⟨⟨rfl,rfl⟩,hdel⟩,ht⟩,hok⟩,hni⟩:=q;obtain⟨nm,bs,mro,ns,qn,hd,sn,sub,ab,col,del⟩:=cd;dsimp only at hm hdel hok hni;subst hm hdel;have hsl:sl=#[k0,k1,k2,k3,some (.builtin n),k5]:=by
    obtain⟨l⟩:=sl;simp only at hs;rw[hs]
   subst hsl;exact⟨bm,ns,nm,qn,bs,hd,sn,sub,ab,col,dd,k0,k1,k2,k3,k5,_,X _ _ ho,.of_isNs (PySem.W.isNs_of_in X hok),PySem.W.nsMap_none_of_in X hok hni,PySem.W.tail_of_in X ht⟩
  .cases q
 .cases q
structure IK(X:Cx)(x:Str)(c:Addr):Prop where
 mg:X.mg x=some (.ref c)
 ex:∃newId initId,ExcBaseFacts "ValueError" newId initId bj/\PySem.W.excIn X.K c bj newId=true
section
variable {C:Addr}{U U1:List (List D)}{e:Expr}{c:Nat}{r:R}
def uI(K:IK X x c)(hg:Gl X x)(hd:(x==("__debug__":Str))=false)(hc:X.calm=true)(h:EaM X C Y U [] (e::es) (.ok ds) U1)(hl:ds.length<=1000)(hs:aI (e::es)):
  S1M X C Y U (.Raise (some (.Call (.Name x np) (e::es) [] cpos)) none pos) (.exc c Y) U1:=by
 intro pins s σ H F I h0;obtain⟨G0,H0,d0,G,d,E,R⟩:=h0;obtain⟨newId,initId,FB,q⟩:=K.ex;obtain⟨bm,N,nm,qn,bs,hdct,sn,sub,ab,col,dd,k0,k1,k2,k3,k5,mN,hC,hN,hni,TL⟩:=rS I.ok.mod.kin q;refine wpAny_Raise_call_subT (C:=c) (nm:=nm) (q:=qn) (N:=N) (bs:=bs) (bm:=bm) (hdct:=hdct) (sn:=sn) (sub:=sub) (ab:=ab) (col:=col) (dd:=dd) (k0:=k0) (k1:=k1) (k2:=k2) (k3:=k3) (k5:=k5)
  FB (mN:=mN) (TL.hasType FB.hasBase) (I.ok.hd hc) (aB hs) hni (ef I hg K.mg ⟨rfl,?_⟩ hd)
 have step:=h cpos pins s σ H (λvs H1=>vs.length<=1000/\∃G1 d1,MExt G H d G1 H1 d1/\VS X.prog X.w X.K C G1 H1 d1 U1) I ⟨G0,H0,d0,G,d,E,λvs G1 H1 d1 m1 v1 r1=>⟨by rw[<-r1.length];exact hl,G1,d1,m1,v1⟩⟩;rw[(ae (env:=X.env) (es:=es) (hs e ms0))]at step ⊢;refine Calls.evalArgs_plain (wpAny_mono step (λus s1 h1=>?_) λa a y=>y);obtain⟨vs,H1,I1,rv,hlen,G1,d1,m1,v1⟩:=h1;have kp:=I1.bk;refine⟨rfl,by rw[<-rv.length];exact Nat.le_of_lt (eA hlen),kp _ _ hC,hN.keeps kp,TL.keeps kp,λh' ea hm=>?_⟩;obtain⟨I2,fl⟩:=Be I1 hm;exact R G1 H1 d1 σ (E.go m1 v1) m1.gg pins ea _ I2 fl
end
noncomputable abbrev tri(X:Cx)(E:Value->Shared->Prop)(pn:List (Addr×Obj)):Cx:={X with xe:=E,pn:=pn}
section
variable {E:Value->Shared->Prop}{c:Addr}
def lW(I:Inv X pins σ H s):Inv (tri X E (X.pn++pins)) [] σ H s:=⟨(have ok:=I.ok;⟨ok.mod,ok.kind,ok.glob,ok.blt,ok.above,ok.inj,ok.has,ok.cab,ok.hd,ok.frames,ok.stk,ok.exf,ok.bs,ok.bsz,ok.noex,ok.exfs,ok.funs,ok.frf⟩),I.os,I.bare,I.base,I.loc,I.cell,I.free,I.freeC,λp hp=>I.pin p (by simp_all),I.hok,I.len⟩
def cj(I:Inv (tri X E (X.pn++pins)) pins' σ H s):Inv X pins σ H s:=⟨(have ok:=I.ok;⟨ok.mod,ok.kind,ok.glob,ok.blt,ok.above,ok.inj,ok.has,ok.cab,ok.hd,ok.frames,ok.stk,ok.exf,ok.bs,ok.bsz,ok.noex,ok.exfs,ok.funs,ok.frf⟩),I.os,I.bare,I.base,I.loc,I.cell,I.free,I.freeC,λp hp=>I.pin p (List.mem_append_left _ hp),I.hok,I.len⟩
def xZ{B h'}(I:Inv X pins' σ H s)(ok:HOk X.prog X.w H B)(kb:∀b o,X.s₀.heap.get? b=some o->X.H₀ b=none->b∉X.fs->b∉X.ex->B.get? b=some o)
  (th:∀b o,X.s₀.heap.get? b=some o->b∉frs X.stack->b∉X.ex->∃o',B.get? b=some o') (pn:∀p∈X.pn,B.get? p.1=some p.2) (st:B.StaysIn h') (up:s.heap.UpToSlots h'):Inv X [] σ H {s with heap:=h'}:=by
 have cellK:∀cc v,s.heap.IsCell cc v->h'.IsCell cc v:=λcc v ⟨o,ho,hd⟩=>by
  obtain⟨sl,q⟩:=up cc o ho λvs z=>by rw[hd]at z;cases z
  exact⟨_,q,hd⟩
 have slot:∀b o,X.s₀.heap.get? b=some o->X.H₀ b=none->b∈X.fs->b∉X.ex->∃sl,h'.get? b=some {o with slots:=sl}:=λb o e n hb nx=>by
  obtain⟨sl,h1⟩:=I.base.slot b o e n hb nx;obtain⟨_,o2,h2,h3⟩:=I.ok.funs.mem hb;rw[e]at h2;cases h2;obtain⟨sl',h4⟩:=up b _ h1 h3;exact⟨sl',h4⟩
 refine⟨I.ok,I.os,I.bare,⟨λb o e n nf nx=>st b o (kb b o e n nf nx),slot,I.base.free,λb o e nx=>?_,I.base.tups,I.base.frzs,I.base.tbls⟩,?_,λx cc e=>?_,I.free,I.freeC,λp hp=>?_,ok.kept st,I.len⟩
 .by_cases hb:b∈frs X.stack
  .rcases mq0 (I.stkSub b hb)with r|r
   .subst r
    exact absurd (nl0 (hs0 e) I.ok.above) (li0 _)
   .obtain⟨sl,q⟩:=slot b o e (I.ok.frf b r) r nx
    exact⟨_,q⟩
  .obtain⟨o',q⟩:=th b o e hb nx
   exact⟨o',st b o' q⟩
 .obtain⟨m,hn,hl⟩:=I.loc
  refine⟨m,up.ns hn,λi x v e1 e2 e3=>?_⟩;obtain⟨u,r,l⟩:=hl i x v e1 e2 e3;refine⟨u,r,?_⟩;rcases l with l|⟨k,cc,e,z⟩
  .exact .inl l
  .exact .inr ⟨k,cc,e,cellK cc _ z⟩
 .obtain⟨v,z⟩:=I.cell x cc e
  exact⟨v,cellK cc v z⟩
 .have hp:p∈X.pn:=by simpa using hp
  obtain⟨_,b,d,e,f⟩:=I.pin p (List.mem_append_left _ hp);exact⟨st _ _ (pn p hp),b,d,e,f⟩
def uJ{o:Obj}(I:Inv X pins σ H s)(hn:H ea=none)(ho:s.heap.get? ea=some o)(hcl:o.cls=.ref c)(h0:X.s₀.heap.get? ea=none)(hL:ea≠X.env.locals)(hc:∀x cc,X.env.cells.lookup x=some cc->cc≠ea)(hp:∀p∈X.pn++pins,p.1≠ea):
  Inv X pins σ (upd H ea (.ext (ExcAt ea c))) s:=by
 have ne:∀b u,H b=some u->b≠ea:=λb u e=>aq e hn
 refine⟨I.ok,I.os,I.bare,⟨I.base.keep,I.base.slot,λb u e n nx=>?_,I.base.there,λb xs e=>?_,λb u xs e=>?_,λb ps e=>?_⟩,I.loc,I.cell,?_,λx cc e=>?_,λp q=>?_,λb u e=>?_,I.len⟩
 .rw[aa λz=>by grind];exact I.base.free b u e n nx
 .rw[aa (ne _ _ (I.base.tups b xs e))];exact I.base.tups b xs e
 .rw[aa (ne _ _ (I.base.frzs b u xs e))];exact I.base.frzs b u xs e
 .obtain⟨more,q⟩:=I.base.tbls b ps e
  exact⟨more,by rw[aa (ne _ _ q)];exact q⟩
 .rw[aa (Ne.symm hL)];exact I.free
 .rw[aa (hc x cc e)];exact I.freeC x cc e
 .obtain⟨a,b,r⟩:=I.pin p q
  exact⟨a,by rwa [aa (hp p q)],r⟩
 .by_cases z:b=ea
  .subst z
   rw[upd_same]at e;cases e;exact⟨⟨o,ho,hcl⟩,⟨o,ho⟩,λh1 h2 ⟨o1,a1,b1⟩ k=>⟨o1,k o1 a1,b1⟩⟩
  .rw[aa z]at e
   exact (I.hok b u e).stay (λd d d q=>q) (λcc q=>by rw[aa (ne _ _ q)];exact q) λcc xs q=>by rw[aa (ne _ _ q)];exact q
def ya{h'}{m}{n}{v}{j t'}(I:Inv X pins σ H s)(hN:X.N.Nodup)(hj:X.N[j]?=some n)(hm:∀(i:Nat)(x:Str)(v:V),X.N[i]?=some x->σ[i]?=some (some v)->Vis X.env.scope x->∃u,RelV v u/\Look X.env s.heap m x u)
  (hn:h'.Ns X.env.locals (λx=>if x=n then v else m x)) (sb:Heap.SameBut X.env.locals s.heap h'):Inv X pins (σ.set j .none) H {s with heap:=h',toks:=t'}:=by
 have k:∀b o,b≠X.env.locals->s.heap.get? b=some o->h'.get? b=some o:=λb o hb e=>(sb.2 b hb).trans e
 have nL:∀b o,X.s₀.heap.get? b=some o->b≠X.env.locals:=λb o e=>nn0 (nl0 (hs0 e) I.ok.above)
 have cellK:∀x cc,X.env.cells.lookup x=some cc->∀v,s.heap.IsCell cc v->h'.IsCell cc v:=λx cc e v ⟨o,ho,hd⟩=>⟨o,k cc o (I.cne x cc e) ho,hd⟩
 refine⟨I.ok,I.os,I.bare,⟨λb o e n nf nx=>k b o (nL b o e) (I.base.keep b o e n nf nx),λb o e n hb nx=>?_,I.base.free,λb o e nx=>?_,I.base.tups,I.base.frzs,I.base.tbls⟩,⟨_,hn,λi x w e1 e2 e3=>?_⟩,λx cc e=>?_,I.free,I.freeC,λp hp=>?_,λb u e=>?_,by simp[I.len]⟩
 .obtain⟨sl,q⟩:=I.base.slot b o e n hb nx
  exact⟨sl,k b _ (nL b o e) q⟩
 .obtain⟨o',q⟩:=I.base.there b o e nx
  exact⟨o',k b o' (nL b o e) q⟩
 .rcases getE_set e2 with⟨rfl,z⟩|⟨ne,z⟩
  .cases z
  .obtain⟨u,r,l⟩:=hm i x w e1 z e3
   refine⟨u,r,?_⟩;rcases l with⟨l1,l2⟩|⟨l1,cc,e,q⟩
   .have xn:x≠n:=λz=>ne (iM hN (z▸e1) hj)
    exact .inl ⟨l1,by simp_all⟩
   .exact .inr ⟨l1,cc,e,cellK x cc e _ q⟩
 .obtain⟨v,z⟩:=I.cell x cc e
  exact⟨v,cellK x cc e v z⟩
 .obtain⟨a,b,d,f⟩:=I.pin p hp
  exact⟨k _ _ d a,b,d,f⟩
 .have nb:b≠X.env.locals:=λz=>by subst z;rw[I.free]at e;cases e
  exact (I.hok b u e).stay (λcc w hc q=>k cc w (by
   rcases hc with rfl|hc
   .exact nb
   .intro z;subst z;rw[I.free]at hc;cases hc) q) (λc q=>q) λc c q=>q
def oz{P}{w}{H}{h}{a}{o}(x:ObjOk P w H h a o):∃ob,h.get? a=some ob:=by
 induction o with
 |lst xs=>obtain⟨_,_,n,_,e⟩:=x;exact⟨_,e⟩
 |tup xs=>obtain⟨_,_,_,ob,e,_⟩:=x;exact⟨_,e⟩
 |dK kvs=>obtain⟨_,_,_,_,ob,es,ep,e,_⟩:=x;exact⟨_,e⟩
 |dT kvs=>obtain⟨_,_,_,_,ob,es,ep,e,_⟩:=x;exact⟨_,e⟩
 |set S n=>obtain⟨ob,es,ep,t,e,_⟩:=x;exact⟨_,e⟩
 |ins C dx fs=>obtain⟨_,_,_,e,_⟩:=x;exact⟨_,e⟩
 |own y=>exact x
 |xd fs=>obtain⟨mA,⟨od,es,ep,e,c⟩,r⟩:=x;exact⟨_,e⟩
 |rng lo hi=>obtain⟨t,u,v,e⟩:=x;exact⟨_,e⟩
 |frz ob u ih=>exact ih x.2
 |tbl ps=>exact⟨_,x⟩
 |met f y=>exact⟨_,x⟩
 |ext J=>exact x.2.1
end
structure Bl(X:Cx):Prop where
 stk:X.stack=X.env::X.outer
 fr:X.env.frame=some X.env.locals
 ex:X.ex=[]
section
variable {M:Model}{A:Around}{E:Value->Shared->Prop}
variable {nm q nmT qT:Str}{C N NT:Addr}{bs bm bsT bmT:List Value}{hdct hdctT:Bool}{sn snT:List Str}{sub subT:List Value}{ab abT:Bool}{col colT:Option Bool}{dd ddT:Option Addr}{k0 k1 k2 k3 k5 l0 l1 l2 l3 l5:Option Value}{newId newIdT:String}
def jr{h}{g}{d}{t}{os}{e}{oe}{Q}
  (hC:h.get? C=some (excClassObj nm q C N bs bm hdct sn sub ab col dd k0 k1 k2 k3 k5 newId)) (hT:h.get? T=some (excClassObj nmT qT T NT bsT bmT hdctT snT subT abT colT ddT l0 l1 l2 l3 l5 newIdT)) (he:h.get? e=some oe) (hcls:oe.cls=.ref C) (hbase:bmT.contains (.type "BaseException")=true)
  (hq:Q ((Value.ref C::bm).contains (.ref T)) ⟨h,g,d,t,os⟩):wpAny M A (excMatches (.ref e) (.ref T)) Q E ⟨h,g,d,t,os⟩:=by
 have hcB:(Value.ref T::bmT).contains (.type "BaseException")=true:=by rw[List.contains_cons,hbase,Bool.or_true]
 have f:=tc_notTuple;unfold excMatches
 repeat (first|(with_reducible refine wpAny_loadPart_at he ?_;rw[hcls])|with_reducible refine wpAny_loadPart_at hT ?_|with_reducible refine wpAny_loadPart_at hC ?_|(with_reducible refine wpAny_isSubtype_exc hT ?_;rw[hcB])|(with_reducible refine wpAny_isSubtype_exc hC ?_)|wp_step)
 cases hb:(Value.ref C::bm).contains (.ref T)<;>(rw[hb]at hq;wp_walk;exact hq)
end
def Lnd(X:Cx)(pins:List (Addr×Obj))(σ:St)(H:Hp)(ea c:Addr)(s:Shared):Prop:=
 Inv X pins σ H s/\∃B a0,HOk X.prog X.w H B/\(∀b o,X.s₀.heap.get? b=some o->X.H₀ b=none->b∉X.fs->b∉X.ex->B.get? b=some o)/\(∀b o,X.s₀.heap.get? b=some o->b∉frs X.stack->b∉X.ex->∃o',B.get? b=some o')/\
  (∀p∈X.pn++pins,B.get? p.1=some p.2)/\Heap.FlyingW B X.stack ea (.ref c) a0 s.heap
section
variable {E E':Value->Shared->Prop}{c:Addr}
def qq{B}{a0}{h'}(I:Inv X pins σ H s)(ok:HOk X.prog X.w H B)(kb:∀b o,X.s₀.heap.get? b=some o->X.H₀ b=none->b∉X.fs->b∉X.ex->B.get? b=some o)
  (th:∀b o,X.s₀.heap.get? b=some o->b∉frs X.stack->b∉X.ex->∃o',B.get? b=some o') (pn:∀p∈X.pn++pins,B.get? p.1=some p.2) (fl:Heap.FlyingW B X.stack ea (.ref c) a0 h') (up:s.heap.UpToSlots h'):Lnd X pins σ H ea c {s with heap:=h'}:=
 ⟨cj (E:=λa a=>False) (xZ (lW I) ok kb th pn fl.1 up),B,a0,ok,kb,th,pn,fl⟩
def lands(f:Bl X)(I:Inv (tri X E' (X.pn++pins)) pins' σ H s)(fl:Fl (tri X E' (X.pn++pins)) ea c H s){Q:Shared->Prop}(k:∀h',Lnd X pins σ H ea c {s with heap:=h'}->Q {s with heap:=h'}):
  wpAny (model X.prog X.w) X.A (noteFrame (.ref ea) X.env) (λa s₂=>wpAny (model X.prog X.w) X.A (setFlight (.ref ea) none) (λa s3=>Q s3) E s₂) E s:=by
 obtain⟨B,ok,kb,th,pn,r⟩:=fl;have hfr:X.A.frames=some (X.env::X.outer):=by rw[<-f.stk];exact I.ok.frames
 have I0:=cj I;rcases r with⟨vs,m,ff⟩|⟨a0,fl⟩
 .have hin:∀env∈X.stack,∀b,env.frame=some b->b∈frs X.stack:=λenv he b hb=>List.mem_filterMap.mpr ⟨env,he,hb⟩
  let B':=PySem.W.hideAll B (frs X.stack)
  have nfr:=I0.stkFree;have ok':HOk X.prog X.w H B':=λb o e=>by
   have nf:∀cc u,H cc=some u->cc∉frs X.stack:=λcc u e z=>by rw[nfr cc z]at e;cases e
   refine (ok b o e).stay (λcc u hc q=>PySem.W.hideAll_get _ q ?_) (λa q=>q) λa a q=>q
   rcases hc with rfl|hc
   .exact nf _ _ e
   .exact nf _ _ hc
  have nst:∀b o,X.s₀.heap.get? b=some o->b∉X.fs->b∉frs X.stack:=λb o e nf z=>by
   rcases mq0 (I0.stkSub b z)with r|r
   .subst r
    exact absurd (nl0 (hs0 e) I0.ok.above) (li0 _)
   .exact nf r
  have kb':∀b o,X.s₀.heap.get? b=some o->X.H₀ b=none->b∉X.fs->b∉X.ex->B'.get? b=some o:=λb o e n nf nx=>PySem.W.hideAll_get _ (kb b o e n nf nx) (nst b o e nf)
  have th':∀b o,X.s₀.heap.get? b=some o->b∉frs X.stack->b∉X.ex->∃o',B'.get? b=some o':=λb o e nf nx=>let ⟨o',q⟩:=th b o e nf nx;⟨o',PySem.W.hideAll_get _ q nf⟩
  have pn':∀p∈X.pn++pins,B'.get? p.1=some p.2:=λp hp=>PySem.W.hideAll_get _ (pn p hp) λz=>by
   obtain⟨_,_,d,e,_⟩:=I0.pin p hp;rcases mq0 (I0.stkSub p.1 z)with r|r
   .exact d r
   .exact e r
  obtain⟨t,he,htn,ht⟩:=m.there;have ff':s.heap.FunFrames B' X.stack:=(PySem.W.funFrames_hide ff hin).of_keeps λb o hb a=>⟨o,m.keeps b o hb,rfl⟩
  have hen:B'.get? ea=none:=by
   cases q:B'.get? ea with
   |none=>rfl
   |some o=>have:=PySem.W.of_hideAll _ q;rw[m.new]at this;cases this
  rw[f.stk]at ff';unfold noteFrame;simp only[f.fr];refine wb0 (wpAny_field he rfl (x:=.none) rfl ?_);rw[if_neg (by decide)];refine wpAny_entryW (a0:=.ref t) hfr ff' f.fr he (λb o q=>m.keeps b o (PySem.W.of_hideAll _ q)) hen rfl (by show 1<6;decide) rfl λh4 hN=>?_
  obtain⟨n1,n2,n3,n4⟩:=hN;refine wpAny_landsW (base:=B') (l:=X.env::X.outer) (a0:=.ref t) (cls:=.ref c) (L:=X.env.locals) ⟨n1,hen,n2,n3⟩ λh5 fl5 up5=>?_
  exact k h5 (qq I0 ok' kb' th' pn' (by rw[f.stk];exact fl5) (Heap.UpToSlots.trans n4 up5))
 .have fl:Heap.FlyingW B (X.env::X.outer) ea (.ref c) a0 s.heap:=by rw[<-f.stk];exact fl
  refine wpAny_looks_onW hfr f.fr fl λh4 held up4=>?_
  refine wpAny_landsW held λh5 fl5 up5=>?_
  exact k h5 (qq I0 ok kb th pn (by rw[f.stk];exact fl5) (up4.trans up5))
def uK{M}{A}{Q:Shared->Prop}(L:Lnd X pins σ H ea c s)(k:∀h',Lnd X pins σ H ea c {s with heap:=h'}->Q {s with heap:=h'}):wpAny M A (setFlight (.ref ea) none) (λa s'=>Q s') E s:=by
 obtain⟨I,B,a0,ok,kb,th,pn,fl⟩:=L;exact lands_againW fl λh' fl' up=>k h' (qq I ok kb th pn fl' up)
def uL(f:Bl X)(L:Lnd X pins σ H ea c s):Inv X pins σ (upd H ea (.ext (ExcAt ea c))) s/\H ea=none:=by
 obtain⟨I,B,a0,ok,kb,th,pn,fl⟩:=L;obtain⟨oe,vs,ho,hcl,hd,_⟩:=fl.first;have hn:H ea=none:=by
  cases q:H ea with
  |none=>rfl
  |some o=>obtain⟨ob,e⟩:=oz (ok ea o q);rw[fl.2.1]at e;cases e
 have nfr:ea∉frs X.stack:=λz=>by
  obtain⟨_,o,h1,h2⟩:=fl.2.2.1.mem z<;>simp_all
 refine⟨uJ I hn ho hcl ?_ (λz=>?_) (λx cc e z=>?_) λp hp z=>?_,hn⟩
 .cases q:X.s₀.heap.get? ea with
  |none=>rfl
  |some o=>obtain⟨o',e⟩:=th ea o q nfr (by rw[f.ex];simp);rw[fl.2.1]at e;cases e
 .refine nfr ?_
  rw[z,f.stk];exact List.mem_filterMap.mpr ⟨X.env,ms0,f.fr⟩
 .obtain⟨v,o,h1,h2⟩:=I.cell x cc e<;>grind
 .have:=pn p hp
  rw[z,fl.2.1]at this;cases this
end
def EnvD.unset{G:Hp}(E:EnvD K G0 H0 G H σ Y)(j:Nat):EnvD K G0 H0 G H (σ.set j .none) (Y.set j .no):=by
 have at':∀{i:Nat}{sl:Sl},(Y.set j .no)[i]?=some sl->sl≠.no->i≠j/\Y[i]?=some sl:=λ{i sl} h hn=>by
  rcases getE_set h with⟨rfl,z⟩|⟨ne,z⟩
  .exact absurd z hn
  .exact⟨ne,z⟩
 have sg:∀{i:Nat},i≠j->(σ.set j .none)[i]?=σ[i]?:=λ{i} ne=>gn0 (Ne.symm ne)
 refine⟨E.ext,by simp[E.len],λi d h=>?_,λi d h=>?_,λi d h=>?_,λi k d e p h1 h2 h3 h4=>?_⟩
 .obtain⟨ne,z⟩:=at' h (by intro q;cases q)
  rw[sg ne];exact E.dat i d z
 .obtain⟨ne,z⟩:=at' h (by intro q;cases q)
  rw[sg ne];exact E.lent i d z
 .obtain⟨ne,z⟩:=at' h (by intro q;cases q)
  rw[sg ne];exact E.own i d z
 .obtain⟨n1,z1⟩:=at' h1 (by intro q;cases q)
  obtain⟨n2,z2⟩:=at' h2 (by intro q;cases q);rw[sg n1]at h3;rw[sg n2]at h4;exact E.apart i k d e p z1 z2 h3 h4
theorem EnvM.unset{P}{w}{K}{C}{G0 H0 G H}{d0 d}{Y}{U}(E:EnvM P w K C G0 H0 d0 G H d σ Y U)(j:Nat):EnvM P w K C G0 H0 d0 G H d (σ.set j .none) (Y.set j .no) U:=by
 obtain⟨Gb,Hb,s1,s2,en⟩:=E.bas;exact⟨⟨Gb,Hb,s1,s2,en.unset j⟩,E.nw,E.pre,E.vs⟩
noncomputable abbrev mrk(X:Cx)(ea:Addr):Cx:={X with A:=X.A.mark (some (.ref ea)),calm:=false,xe:=λa a=>False}
def rT{X}{pins}{H}{s}{ea}(I:Inv X pins σ H s):Inv (mrk X ea) pins σ H s:=
 ⟨⟨I.ok.mod,I.ok.kind,I.ok.glob,I.ok.blt,I.ok.above,I.ok.inj,I.ok.has,I.ok.cab,(λz=>nomatch z),I.ok.frames,I.ok.stk,I.ok.exf,I.ok.bs,I.ok.bsz,I.ok.noex,I.ok.exfs,I.ok.funs,I.ok.frf⟩,I.os,I.bare,I.base,I.loc,I.cell,I.free,I.freeC,I.pin,I.hok,I.len⟩
def uM{X}{pins}{H}{s}{ea}(ok:X.Ok)(I:Inv (mrk X ea) pins σ H s):Inv X pins σ H s:=
 ⟨ok,I.os,I.bare,I.base,I.loc,I.cell,I.free,I.freeC,I.pin,I.hok,I.len⟩
noncomputable def fk(K:Fg)(c t:Addr):Bool:=match K.lookup c with
 |some ⟨_,_,.cls cd,_⟩=>cd.mro.contains (.ref t)
 |_=>false
section
variable {C:Addr}{U U1:List (List D)}{n k:Str}{c t:Nat}{tp kp ap hp:Pos}
def oA{hs}{rs}{o}(hb:∀E pn,PassesOwn (model X.prog X.w) X.A X.env E->SsM (tri X E pn) C Y U body o U1)(ho:∀c Y',o≠.exc c Y'):S1M X C Y U (.Try body (hs::rs) [] [] pos) o U1:=by
 intro pins s σ H F I h0;obtain⟨G0,H0,d0,G,d,E,R⟩:=h0;refine wpAny_Try_except ?_;refine wpAny_mono (hb _ _ PassesOwn.looking [] s σ H F (lW I) ⟨G0,H0,d0,G,d,E,?_⟩) (λf s1 h1=>?_) λe s1 h1=>h1
 .cases o with
  |nx Y'=>exact R
  |rt dd=>exact R
  |exc c Y'=>exact absurd rfl (ho c _)
 .have h2:=(show SP X pins F f s1 by
   cases f with
   |next=>obtain⟨σ',H',I,q⟩:=h1;exact⟨_,H',cj I,q⟩
   |brk=>obtain⟨σ',H',I,q⟩:=h1;exact⟨_,H',cj I,q⟩
   |cont=>obtain⟨σ',H',I,q⟩:=h1;exact⟨_,H',cj I,q⟩
   |ret u=>obtain⟨v,σ',H',I,r,q⟩:=h1;exact⟨v,_,H',cj I,r,q⟩)
  cases f with
  |next=>exact wpAny_execs_nil h2
  |brk=>exact h2
  |cont=>exact h2
  |ret u=>exact h2
set_option tactic.hygienic true in
def yb(f:Bl X)(hb:∀E pn,PassesOwn (model X.prog X.w) X.A X.env E->SsM (tri X E pn) C Y U body (.exc c Y1) U1)
  (hg:Gl X x) (hd:(x==("__debug__":Str))=false) (hm:X.mg x=some (.ref t)) {newId newIdT}{bmB} (hq:PySem.W.excIn X.K c bmB newId=true) (hqT:PySem.W.excIn X.K t bmB newIdT=true) (hbB:bmB.contains (.type "BaseException")=true) (hbel:fk X.K c t=true)
  (Sn:Sto X n j) (hln:X.env.kindOf n=some .local) (hdn:(n==("__debug__":Str))=false) (hcn:(n==("__classdict__":Str))=false) (Sk:Sto X k i) (hij:i≠j) (hsw:swapsWith (.Name n np) (some (.Name k kp)) ap.line X.env=pure false):
  S1M X C Y U (.Try body [.ExceptHandler (some (.Name x tp)) (some n) [.Assign [.Name k kp] (.Name n np) ap] hp] [] [] pos) (.nx ((Y1.set i (.dat (.exc c))).set j .no)) U1:=by
 intro pins s σ H F I h0;obtain⟨G0,H0,d0,G,d,E,R⟩:=h0;refine wpAny_Try_except ?_;refine wpAny_mono (hb _ (X.pn++pins) PassesOwn.looking [] s σ H {F with nx:=λa a=>False,rt:=λa a=>False,bk:=λa a=>False,ct:=λa a=>False} (lW I) ⟨G0,H0,d0,G,d,E,?_⟩) (λf s1 h1=>?_) λe s1 h1=>h1
 .intro G1 H1 d1 σ1 E1 g1 pins' ea s1 I1 fl
  refine lands f I1 fl λh5 L5=>?_
  refine wpAny_handleBy_cons (codeAny_handlers_test (ef (X:=mrk X ea) (rT L5.1) hg hm ?_ hd)) (by intro q;cases q);have kin:=L5.1.kIn;obtain⟨bm,N,nm,qn,bs,hdct,sn,sub,ab,col,dd,k0,k1,k2,k3,k5,hC,hcon⟩:=(show ∃bm N nm qn bs hdct sn sub ab col dd k0 k1 k2 k3 k5,h5.get? c=some (excClassObj nm qn c N bs bm hdct sn sub ab col dd k0 k1 k2 k3 k5 newId)/\(Value.ref c::bm).contains (.ref t)=true by
    unfold PySem.W.excIn at hq;split at hq
    .rename_i dd cd sl ho
     split at hq
     .rename_i C' bm k0 k1 k2 k3 n k5 hm hs
      simp only[be0,beq_iff_eq,Bool.not_eq_true']at hq;obtain⟨⟨⟨⟨⟨rfl,rfl⟩,hdel⟩,ht⟩,hok⟩,hni⟩:=hq;obtain⟨nm,bs,mro,ns,qn,hd,sn,sub,ab,col,del⟩:=cd;dsimp only at hm hdel hok hni;subst hm hdel;have hsl:sl=#[k0,k1,k2,k3,some (.builtin n),k5]:=by
       obtain⟨l⟩:=sl;simp only at hs;rw[hs]
      subst hsl;refine⟨bm,ns,nm,qn,bs,hd,sn,sub,ab,col,dd,k0,k1,k2,k3,k5,kin _ _ ho,?_⟩;unfold fk at hbel;rw[ho]at hbel;exact hbel
     .cases hq
    .cases hq)
  obtain⟨bmT,NT,nmT,qT,bsT,hdT,snT,subT,abT,colT,ddT,l0,l1,l2,l3,l5,mT,hT,_,_,TLT⟩:=rS kin hqT;have L5':=L5;obtain⟨_,B,a0,_,_,_,_,fl5⟩:=L5';obtain⟨ob,hob,hobc⟩:=fl5.there;refine jr (T:=t) hC hT hob hobc (TLT.hasType hbB) ?_;rw[hcon];refine codeAny_handlers_suite_as ?_;refine uK L5 λh6 L6=>?_
  obtain⟨I6,hn6⟩:=uL f L6;have e6:Ext G1 H1 (upd G1 ea (.ext (ExcAt ea c))) (upd H1 ea (.ext (ExcAt ea c))):=.laid E1.sub hn6;have E6:=E1.go (E1.vs.mext E1.sub' e6) (E1.vs.step e6);have lj:=Sn.lt I6;have li:=Sk.lt I6;refine iN I6 Sn.nd Sn.nm.at' Sn.nm.loc (v:=.ref ea) rfl (λs7 I7=>?_) Sn.nm.fn;have I7':Inv (mrk X ea) pins (σ1.set j (some (.ref ea))) (upd H1 ea (.ext (ExcAt ea c))) s7:=rT I7;have asg:=gq (X:=mrk X ea) (i:=i) (x:=k) (pos:=ap) (pos':=kp) Sk.nd Sk.nm.at' Sk.nm.loc (cm (X:=mrk X ea) (i:=j) (x:=n) (pos:=np) Sn.nm.at' (Or.inl hln) hdn hcn) hsw Sk.nm.fn pins s7 _ _ {nx:=λσ8 H8=>σ8=(σ1.set j (some (.ref ea))).set i (some (.ref ea))/\H8=upd H1 ea (.ext (ExcAt ea c)),rt:=λa a=>False} I7' ⟨.ref ea,gs0 lj,rfl,rfl⟩
  refine wpAny_execs_cons (wpAny_mono asg (λf s8 h8=>?_) λe s8 h8=>h8.elim);cases f with
  |next=>
   obtain⟨σ8,H8,I8,rfl,rfl⟩:=h8;refine wpAny_execs_nil ?_;have I8:=uM I.ok I8;obtain⟨m,hn,hl⟩:=I8.loc;refine wpAny_nameGoes_keeps hln hn (by rw[I.ok.kind];rfl) λh9 v hn9 sb9=>?_
   have I9:=ya (t':=s8.toks+1) I8 Sn.nd Sn.nm.at' hl hn9 sb9;refine⟨_,_,I9,R _ _ d1 _ ?_ (g1.trans e6.gg)⟩;have E9:=(E6.set li (.exc upd_same:Dp X.K _ (.exc c) (.ref ea))).unset j;have e:((σ1.set j (some (.ref ea))).set i (some (.ref ea))).set j .none=(σ1.set i (some (.ref ea))).set j .none:=by
    rw[List.set_comm _ _ hij.symm,List.set_set]
   rw[e];exact E9
  |brk=>obtain⟨_,_,_,z⟩:=h8;exact z.elim
  |cont=>obtain⟨_,_,_,z⟩:=h8;exact z.elim
  |ret u=>obtain⟨_,_,_,_,_,z⟩:=h8;exact z.elim
 .cases f with
  |next=>obtain⟨_,_,_,z⟩:=h1;exact z.elim
  |brk=>obtain⟨_,_,_,z⟩:=h1;exact z.elim
  |cont=>obtain⟨_,_,_,z⟩:=h1;exact z.elim
  |ret u=>obtain⟨_,_,_,_,_,z⟩:=h1;exact z.elim
end
def Gm{H}{ps}{q}{o}(h:q∉ps):er (upd H q o) ps=upd (er H ps) q o:=by
 funext b
 by_cases e:b=q
 .subst e;rw[upd_same,aL h,upd_same]
 .rw[aa e]
  by_cases z:b∈ps
  .rw[kN z,kN z]
  .rw[aL z,aL z,aa e]
section
variable {C:Addr}{G:Hp}{d0 d:Vd}{U:List (List D)}
def VS.touch(v:VS P w K C G H d U){q}{o}(hq:q∉parts d)(no:∀a,H q≠some (.own a))(ni:notIns o=true):VS P w K C G (upd H q o) d U:=
 ⟨v.len,v.nd,λh a l n e=>by
  obtain⟨dx,objs,h1,h2,h3,as,h4,h5,h6,h7⟩:=v.at' h a l n e;have m:=gT e;refine⟨dx,_,h1,h2,?_,as,?_,h5,?_,h7⟩
  .rwa [aa λz=>no a (by rwa [<-z])]
  .rwa [aa λz=>hq (by rw[<-z];exact m.1)]
  .rwa [aa λz=>hq (by rw[<-z];exact m.2)],
  λa C' dx fs e=>v.uni a C' dx fs (cq ni a C' dx fs e),v.out⟩
theorem EnvM.own(E:EnvM P w K C G0 H0 d0 G H d σ Y U){ds}(h:Y[i]?=some (.own (.list ds))):∃q vs,σ[i]?=some (some (.ref q))/\H q=some (.lst vs)/\Dps K G ds vs/\q∉parts d:=by
 obtain⟨Gb,Hb,_,_,e⟩:=E.bas;obtain⟨q,vs,a,b,c⟩:=dM e h;exact⟨q,vs,a,(bu b).2,c,(bu b).1⟩
theorem EnvM.change(E:EnvM P w K C G0 H0 d0 G H d σ Y U){i}{ds es}{q}{vs ws}(h:Y[i]?=some (.own (.list ds)))(a:σ[i]?=some (some (.ref q)))(b:H q=some (.lst vs))(hp:q∉parts d)(r:Dps K G es ws):
  EnvM P w K C G0 H0 d0 G (upd H q (.lst ws)) d σ (Y.set i (.own (.list es))) U:=by
 obtain⟨Gb,Hb,s1,s2,e⟩:=E.bas;refine⟨⟨Gb,Hb,s1,s2,?_⟩,E.nw,E.pre,E.vs.touch hp (λa z=>by grind) rfl⟩;rw[Gm hp];exact e.change h a (.inl ⟨_,_,rfl,upd_same,r⟩)
end
section
variable {C:Addr}{U U1 U2 U':List (List D)}{rest:List Stmt}{o:OM}{e:Expr}{p:Pos}{c k:Nat}{r:R}{rs:Rs}
def IL(ha:EvM X C Y U a (.exc c) U1):EvM X C Y U (.BoolOp .And [a,b] pos) (.exc c) U1:=λpins s σ H Q I ⟨G0,H0,d0,G,dd,E,k⟩=>
 pq (tb:=λd d d=>False) ha (λd d d d d d z=>z.elim) _ s σ H Q I ⟨G0,H0,d0,G,dd,E,k⟩
def Bm(ha:EvM X C Y U a (.ok (.tuple (d::ds))) U1):EvM X C Y U (.Subscript a (.Constant (.int 0) j p) pos) (.ok d) U1:=λpins s σ H Q I ⟨G0,H0,d0,G,dd,E,k⟩=>
 jW iT ha gp (λb b=>rfl) _ s σ H Q I ⟨G0,H0,d0,G,dd,E,λv G1 H1 d1 m1 v1 r1=>by
  cases r1 with
  |tuple hq r=>cases r with
   |cons q1 q2=>exact⟨_,_,0,_,rfl,rfl,SqT.of ((m1.gh.trans au) _ _ hq),by unfold L2.atI L2.ixN;simp,k _ G1 H1 d1 m1 v1 q1⟩⟩
def yc(ha:EvM X C Y U a (.exc c) U1):EvM X C Y U (.Subscript a (.Constant (.int 0) j p) pos) (.exc c) U1:=λpins s σ H Q I ⟨G0,H0,d0,G,dd,E,k⟩=>
 jW iT ha gp (λb b=>rfl) _ s σ H Q I ⟨G0,H0,d0,G,dd,E,k⟩
def yd(h:EvM X C Y U iter (.ok (.list ds)) U1):SiM X C Y U iter ds U1:=by
 intro tg pins s σ H R I h0;obtain⟨G0,H0,d0,G,dd,E,k⟩:=h0;refine ix h _ s σ H R I ⟨G0,H0,d0,G,dd,E,λv G1 H1 d1 m1 v1 r1=>?_⟩;cases r1 with
 |list hq r=>exact⟨_,rfl,⟨_,SqL.of ((m1.gh.trans au) _ _ hq)⟩,k _ G1 H1 d1 m1 v1 ⟨λa=>none,src_list (λH' g a=>SqL.of (g _ _ hq)) r,λa a a a a a a a b o z=>by cases z⟩⟩
def ye(h:EvM X C Y U iter (.exc c) U1)(hc:X.calm=true)(hp:PassesOwn (model X.prog X.w) X.A X.env X.xe)(hf:∀x,foldedSetIterable iter X.env x=pure x):S1M X C Y U (.For tg iter body [] pos) (.exc c Y) U1:=by
 intro pins s σ H F I h0;obtain⟨G0,H0,d0,G,dd,E,R⟩:=h0;exact pC hp hc (ix h) (Fy) (rM) hf _ s σ H F I ⟨G0,H0,d0,G,dd,E,jq E R⟩
def Bn(V:VarOk X x i)(h:EvM X C Y U e (.ok (.list ds)) U1)(hs:isStar e=false){es:List D}(ho:Y[i]?=some (.own (.list es)))(hz:es.length+ds.length<=sizeLine)(hline:(apos.endLine==cpos.line)=true):
  S1M X C Y U (.Expr (.Call (.Attribute (.Name x p1) "extend" apos) [e] [] cpos) pos) (.nx (Y.set i (.own (.list (es++ds))))) U1:=by
 have hS:=ae (es:=[]) (env:=X.env) hs;intro pins s σ H F I h0;obtain⟨G0,H0,d0,G,dd,E,R⟩:=h0;obtain⟨q,vs,a,b,g,np⟩:=E.own ho;refine eu (jX PySem.F.plainAttrs_list PySem.F.slot_list_extend PySem.F.type_list_extend jY V.pe (ar h aD hS) eC (by rw[hS];rfl) hline hS rfl) rfl _ s σ H F I ?_;refine⟨_,a,.inl ⟨rfl,vs,SqL.of b⟩,G0,H0,d0,G,dd,E,λv G1 H1 d1 m1 v1 r1=>?_⟩;have E1:=E.go m1 v1;obtain⟨q',vs',a',b',g',np'⟩:=E1.own ho;rw[a]at a';cases a';cases r1 with
 |@list q2 ws _ hq r=>
  exact⟨q,q2,_,ws,rfl,rfl,b',(m1.gh.trans au) _ _ hq,by rwa [<-g'.length,<-r.length],R G1 _ _ _ (E1.change ho a b' np' (g'.append r)) m1.gg⟩
noncomputable def cW:Sl->Bool
 |.lent (.scr _)=>true
 |.lent _=>false
 |_=>true
noncomputable def yf:Option HO->Bool
 |some (.own _)=>true
 |_=>false
def uN(h:E1 X Y st (.nx Y1))(hl:∀sl∈Y1,cW sl=true):S1M X C Y U st (.nx Y1) U:=by
 intro pins s σ H F I h0;obtain⟨G0,H0,d0,G,dd,E,R⟩:=h0;obtain⟨Gb,Hb,s1,s2,e⟩:=E.bas
 let sp:Addr->Prop:=λb=>b∈parts dd\/yf (H b)=true
 have spH:∀b,sp b->∃o,H b=some o:=λb z=>by
  rcases z with z|z
  .exact E.vs.part z
  .cases q:H b with
   |none=>rw[q]at z;cases z
   |some o=>exact⟨o,rfl⟩
 have spG:∀b,sp b->∀C' dx fs,H b≠some (.ins C' dx fs):=λb z C' dx fs q=>by
  rcases z with z|z
  .exact E.vs.notPart q z
  .rw[q]at z;cases z
 open Classical in
 let Hp':Hp:=λb=>if sp b then H b else Hb b
 open Classical in
 let Gp':Hp:=λb=>if sp b then G b else Gb b
 have hI:∀b,sp b->Hp' b=H b:=λb z=>if_pos z
 have hO:∀b,¬ sp b->Hp' b=Hb b:=λb z=>if_neg z
 have gI:∀b,sp b->Gp' b=G b:=λb z=>if_pos z
 have gO:∀b,¬ sp b->Gp' b=Gb b:=λb z=>if_neg z
 have sub:Same G H:=E.sub;have hbH:Same Hb H:=λb o z=>au b o (e.ext.hh b o z)
 have hbHp:Same Hb Hp':=λb o z=>by
  by_cases q:sp b
  .rw[hI b q];exact hbH b o z
  .rw[hO b q];exact z
 have gbGp:Same Gb Gp':=λb o z=>by
  by_cases q:sp b
  .rw[gI b q];exact e.ext.gg b o z
  .rw[gO b q];exact z
 have E0:EnvD X.K Gp' Hp' G H σ Y:=by
  refine⟨⟨λb o z=>?_,λb o z=>?_,sub,λb o z1 z2=>?_,λb C' dx fs z=>?_⟩,e.len,e.dat,λi d z=>?_,λi d z=>?_,e.apart⟩
  .by_cases q:sp b
   .rw[hI b q]at z;exact z
   .rw[hO b q]at z;exact hbH b o z
  .by_cases q:sp b
   .rw[gI b q]at z;exact z
   .rw[gO b q]at z;exact e.ext.gg b o z
  .by_cases q:sp b
   .rw[gI b q]at z1;exact z1
   .rw[gO b q]at z1;rw[hO b q]at z2;exact e.ext.nw b o z1 z2
  .have q:¬ sp b:=λq=>spG b q C' dx fs z
   rw[hO b q];exact e.ext.ni b C' dx fs (by rw[aL λm=>q (.inl m)];exact z)
  .obtain⟨v,a1,a2⟩:=e.lent i d z
   exact⟨v,a1,(a2.monoH hbHp).monoG gbGp⟩
  .obtain⟨q,a1,a2,a3,a4⟩:=e.own i d z
   obtain⟨oo,ho⟩:=a4.some;have nq:¬ sp q:=λz=>by
    rcases z with z|z
    .exact (bu ho).1 z
    .rcases a4 with⟨_,_,_,y,_⟩|⟨_,_,_,y,_⟩<;>(rw[(bu y).2]at z;cases z)
   refine⟨q,a1,a2,by rw[hO q nq];exact a3,?_⟩;rcases a4 with⟨ds,vs,y1,y2,y3⟩|⟨ds,vs,y1,y2,y3⟩
   .exact .inl ⟨ds,vs,y1,au _ _ y2,y3⟩
   .exact .inr ⟨ds,vs,y1,au _ _ y2,y3⟩
 refine h pins s σ H F I ⟨Gp',Hp',G,E0,λG' H' σ' e' g=>R G' H' dd σ' ?_ g⟩;have ns:∀b,sp b->H' b=H b:=λb z=>by
  obtain⟨o,ho⟩:=spH b z;rw[ho];exact e'.ext.hh b o (by rw[hI b z];exact ho)
 have pG:∀b∈parts dd,G' b=none:=λb hb=>by
  obtain⟨o,ho⟩:=E.vs.part hb;exact e'.ext.nw b o (by rw[gI b (.inl hb)];exact E.vs.out b hb) (by rw[hI b (.inl hb)];exact ho)
 have lst_nsp:∀{q:Addr}{o:HO},H' q=some o->Hp' q=none->¬ sp q:=λ{q o} y z m=>by
  obtain⟨o',ho⟩:=spH q m;rw[hI q m,ho]at z;cases z
 refine⟨⟨Gb,Hb,s1,s2,⟨⟨λb o z=>?_,gbGp.trans e'.ext.gg,λb o z=>?_,λb o z1 z2=>?_,λb C' dx fs z=>?_⟩,e'.len,e'.dat,λi d z=>?_,λi d z=>?_,e'.apart⟩⟩,λb o z1 z2=>?_,E.pre,?_⟩
 .have np:b∉parts dd:=(bu (e.ext.hh b o z)).1
  rw[aL np];exact e'.ext.hh b o (hbHp b o z)
 .have np:b∉parts dd:=λm=>by rw[pG b m]at z;cases z
  rw[aL np];exact e'.ext.gh b o z
 .by_cases q:sp b
  .exact e'.ext.nw b o (by rw[gI b q];exact e.ext.nw b o z1 z2) (hbHp b o z2)
  .exact e'.ext.nw b o (by rw[gO b q];exact z1) (hbHp b o z2)
 .obtain⟨n1,n2⟩:=bu z
  have:=e'.ext.ni b C' dx fs n2;have q:¬ sp b:=λq=>by rw[hI b q]at this;exact spG b q C' dx fs this
  rw[hO b q]at this;exact this
 .obtain⟨v,a1,a2⟩:=e'.lent i d z
  have lo:=hl _ (mg0 z);have gB:∀{q:Addr}{o:HO},Gp' q=some o->yf (some o)=false->Gb q=some o:=λ{q o} y z=>by
   have nq:¬ sp q:=λm=>by
    rw[gI q m]at y;rcases m with m|m
    .rw[E.vs.out q m]at y;cases y
    .rw[sub q o y,z]at m;cases m
   rw[gO q nq]at y;exact y
  refine⟨v,a1,?_⟩;cases d with
  |scr ns=>
   cases a2 with
   |of y=>
    cases y with
    |scr y=>
     refine .of (.scr ?_);rcases y with y|y
     .left
      rcases y with y|⟨o,y⟩
      .exact .inl (gB y rfl)
      .exact .inr ⟨o,gB y rfl⟩
     .exact .inr y
  |_=>cases lo
 .obtain⟨q,a1,a2,a3,a4⟩:=e'.own i d z
  obtain⟨oo,ho⟩:=a4.some;have nq:=lst_nsp ho a3;refine⟨q,a1,a2,by rw[hO q nq]at a3;exact a3,?_⟩;rcases a4 with⟨ds,vs,y1,y2,y3⟩|⟨ds,vs,y1,y2,y3⟩
  .exact .inl ⟨ds,vs,y1,by rw[aL λm=>nq (.inl m)];exact y2,y3⟩
  .exact .inr ⟨ds,vs,y1,by rw[aL λm=>nq (.inl m)];exact y2,y3⟩
 .have gn:=E.nw b o z1 z2
  obtain⟨o',ho⟩:=E.start.st b o z2
  by_cases q:sp b
  .exact e'.ext.nw b o' (by rw[gI b q];exact gn) (by rw[hI b q];exact ho)
  .have np:b∉parts d0:=λm=>q (.inl (gU E.pre m))
   have hb:Hb b=some o:=s2.1 b o (by rw[aL np];exact z2);refine e'.ext.nw b o ?_ (by rw[hO b q];exact hb);rw[gO b q];cases y:Gb b with
   |none=>rfl
   |some o''=>have:=e.ext.gg b o'' y;rw[gn]at this;cases this
 .refine⟨E.vs.len,E.vs.nd,λh a l n q=>?_,λa C' dx fs z=>?_,pG⟩
  .obtain⟨dx,objs,h1,h2,h3,as,h4,h5,h6,h7⟩:=E.vs.at' h a l n q
   have m:=gT q;exact⟨dx,objs,h1,g _ _ h2,by rw[ns dx (.inr (by rw[h3];rfl))];exact h3,as,by rw[ns l (.inl m.1)];exact h4,h5.mono g,by rw[ns n (.inl m.2)];exact h6,h7⟩
  .have:=e'.ext.ni a C' dx fs z
   have q:¬ sp a:=λq=>by rw[hI a q]at this;exact spG a q C' dx fs this
   rw[hO a q]at this;exact E.vs.uni a C' dx fs (hbH _ _ this)
end
section
variable {C:Addr}{G G1 H1:Hp}{d0 d d1:Vd}{U:List (List D)}{q:Addr}
end
section
variable {C:Addr}{U U1 U2:List (List D)}{t:Tg}
end
noncomputable def gW(cond:List Sl->List (List D)->Option D)(run:List Sl->List (List D)->Option (OM×List (List D))):Nat->List Sl->List (List D)->Option (OM×List (List D))
 |0,_,_=>.none
 |n+1,Y,U=>(cond Y U).bind λd=>(asB d).bind λt=>if t then (run Y U).bind λq=>q.1.andThen (λY2=>gW cond run n Y2 q.2) q.2 else some (.nx Y,U)
section
variable {C:Addr}{U U1 U2 U':List (List D)}{o:OM}{e:Expr}{p:Pos}{k:Nat}{r:R}{rs:Rs}
def uO{cond}{run}(hc:∀Y' U' d',cond Y' U'=some d'->∃b,d'=.bool b/\Et X (Y'.map (vE C U')) c b)(hb:∀Y' U' o' U2,run Y' U'=some (o',U2)->SsM X C Y' U' body o' U2)(n:Nat)(h:gW cond run n Y U=some (o,U2))
  (hp:PassesOwn (model X.prog X.w) X.A X.env X.xe):S1M X C Y U (.While c body [] pos) o U2:=by
 intro pins s σ H F I h0;obtain⟨G0,H0,d0,G,d,E,R⟩:=h0;refine vH hp (Lu (c:=c)) (rM (body:=body)) pins s σ H F I ?_;refine⟨λm σ' H'=>∃Y' U' G' d',gW cond run m Y' U'=some (o,U2)/\EnvM X.prog X.w X.K C G0 H0 d0 G' H' d' σ' Y' U'/\Same G G',⟨n,Y,U,G,d,h,E,Same.refl _⟩,?_⟩
 rintro m σ' H' ⟨Y',U',G',d',pv,E',g0⟩
 cases m with
 |zero=>cases pv
 |succ m=>
  obtain⟨d1,c1,pv⟩:=bx0 (pv:(cond Y' U').bind _=some (o,U2));obtain⟨t,rfl,ht⟩:=hc Y' U' d1 c1;rw[iV,bs0]at pv;intro pins' s' I';refine etM_pure ht pins' s' σ' H' _ I' ⟨G0,H0,d0,G',d',E',λG1 H1 d2 m1 v1=>?_⟩;cases t with
  |true=>
   rw[if_pos rfl]at pv;obtain⟨⟨o1,U3⟩,b2,pv⟩:=bx0 pv;refine jH ⟨λσ2 H2=>∃Y2 U4 G2 d3,gW cond run m Y2 U4=some (o,U2)/\EnvM X.prog X.w X.K C G0 H0 d0 G2 H2 d3 σ2 Y2 U4/\Same G G2,λσ2 H2 w2=>⟨m,Nat.lt_succ_self _,w2⟩,?_⟩;intro pins2 s2 I2;refine hb Y' U' o1 U3 b2 pins2 s2 σ' H1 _ I2 ⟨G0,H0,d0,G1,d2,E'.go m1 v1,?_⟩;cases o1 with
   |nx Y3=>exact λG3 H3 d3 σ3 en3 g3=>⟨Y3,U3,G3,d3,pv,en3,g0.trans (m1.gg.trans g3)⟩
   |rt dr=>cases pv;exact R
   |exc x Y3=>cases pv;exact (R.go (g0.trans m1.gg))
  |false=>
   rw[if_neg fx0]at pv;cases pv;exact jG (R G1 H1 d2 σ' (E'.go m1 v1) (g0.trans m1.gg))
def Bo{d':D}(ha:EvM X C Y U a (.ok (.tuple (d'::d::ds))) U1):EvM X C Y U (.Subscript a (.Constant (.int 1) j p) pos) (.ok d) U1:=λpins s σ H Q I ⟨G0,H0,d0,G,dd,E,k⟩=>
 jW iT ha gp (λb b=>rfl) _ s σ H Q I ⟨G0,H0,d0,G,dd,E,λv G1 H1 d1 m1 v1 r1=>by
  cases r1 with
  |tuple hq r=>cases r with
   |cons q1 r=>cases r with
    |@cons _ w _ vs q2 q3=>exact⟨_,_,1,_,rfl,rfl,SqT.of ((m1.gh.trans au) _ _ hq),by unfold L2.atI L2.ixN;simp[show (1:Int)<vs.length+1+1 by omega],k _ G1 H1 d1 m1 v1 q2⟩⟩
def yg{c:Nat}(ha:EvM X C Y U a (.exc c) U1):EvM X C Y U (.Subscript a (.Constant (.int 1) j p) pos) (.exc c) U1:=λpins s σ H Q I ⟨G0,H0,d0,G,dd,E,k⟩=>
 jW iT ha gp (λb b=>rfl) _ s σ H Q I ⟨G0,H0,d0,G,dd,E,k⟩
end
section
variable {C:Addr}{U U1 U2:List (List D)}{e:Expr}{p:Pos}{k:Nat}{r:R}{rs:Rs}
def uP{J}{f}(F:xQ X.prog X.w X.K X.mg X.base C k y J)(hf:X.mg y=some (.ref f))(V:VarOk X x i)(hv:Y[i]?=some (.dat (.fn f)))(hr:Room k X.A)(ha:EaM X C Y U J.lent (e::es) rs U1)(h:xO J.run rs U1=some (U2,r))(hs:aI (e::es)):
  EvM X C Y U (.Call (.Name x p) (e::es) [] pos) r U2:=by
 obtain⟨f',fd,ps,hm,hk,hb,F⟩:=F.ex;rw[hf]at hm;cases hm;intro pins s σ H Q I h0;obtain⟨G0,H0,d0,G,dd,E,kq⟩:=h0;obtain⟨Gb,Hb,_,_,en⟩:=E.bas;obtain⟨v,av,bv⟩:=en.dat i _ hv;cases bv;refine wpAny_Call_Name_kw (thn (cm (pos:=p) V.at' V.vis V.d V.cd pins s σ H (λv H1=>v=.ref f/\H1=H) I ⟨.ref f,av,rfl,rfl⟩) λu s1 ⟨v,H1,I1,rv,e1,e2⟩=>?_);subst e1 e2;obtain rfl:u=Value.ref f:=rv;cases rs with
 |exc c=>
  cases h;refine PySem.W.callWith_K (h₀:=X.base) I.ok.mod.kin hk (thn (ha pos pins s1 σ H1 (λa a=>False) I1 ⟨G0,H0,d0,G,dd,E,kq⟩) λus s1 ⟨vs,H1,I1,r1,q⟩=>q.elim) (ae (hs e ms0)) (aB λy hy=>hs y (mc0 _ hy))
 |ok ds=>
  refine PySem.W.callWith_K (h₀:=X.base) I.ok.mod.kin hk (thn (ha pos pins s1 σ H1 _ I1 ⟨G0,H0,d0,G,dd,E,λvs G1 H1 d1 m1 v1 r1=>?_⟩) λus s1 ⟨vs,H1,I1,r1,q⟩=>⟨I1.kIn,lV F hr hb I1 r1 q⟩) (ae (hs e ms0)) (aB λy hy=>hs y (mc0 _ hy));exact xP h m1.gh r1 v1 (kq.go m1)
def Bp{a b}{op}{r2}{d1 d2}{t}(ho:OpR X (compareOp op) r2)(ha:EvM X C Y U a (.ok d1) U1)(hb:Er X (Y.map (vE C U1)) b d2)(h:R2r X.K r2 d1 d2 (.bool t))(hm:behindInMarks op b=false):EtM X C Y U (.Compare a [op] [b] pos) (.ok t) U1:=
 by rintro pins s σ H Q I ⟨G0,H0,d0,G,dd,E,k⟩;exact iy ho ha hb hm pins s σ H Q I ⟨G0,H0,d0,G,dd,E,λx G1 H1 d1' m1 v1 r1=>⟨G1,H1,G1,(E.go m1 v1).view,λy G2 H2 e2 r2=>
  h x y G2 H2 _ e2.gh (.of (r1.mono e2.gg)) r2 λv G' H' e3 r3=>by
   cases r3;exact⟨t,rfl,k G' H' d1' (m1.trans (v1.mext (E.go m1 v1).sub' (e2.trans e3))) (v1.step (e2.trans e3))⟩⟩⟩
def opF{op}:OpR X (compareOp op) (λa a a a=>False):=by
 intro pins s σ H x y v u Q I rx ry h;simp_all
def yh{a b}{op}{c}(ha:EvM X C Y U a (.exc c) U1)(hm:behindInMarks op b=false):EtM X C Y U (.Compare a [op] [b] pos) (.exc c) U1:=
 by rintro pins s σ H Q I ⟨G0,H0,d0,G,dd,E,k⟩;exact iy (tb:=λd d d=>False) opF ha (λd d d d d d z=>z.elim) hm pins s σ H Q I ⟨G0,H0,d0,G,dd,E,k⟩
def yi{c:Nat}(V:VarOk X x i)(h:EvM X C Y U e (.exc c) U1)(hs:isStar e=false)(ho:Y[i]?=some (.own (.list ls)))(hline:(apos.endLine==cpos.line)=true):
  S1M X C Y U (.Expr (.Call (.Attribute (.Name x p1) "extend" apos) [e] [] cpos) pos) (.exc c Y) U1:=by
 have hS:=ae (es:=[]) (env:=X.env) hs;intro pins s σ H F I h0;obtain⟨G0,H0,d0,G,dd,E,R⟩:=h0;obtain⟨q,vs,a,b,g,np⟩:=E.own ho;exact eu (jX PySem.F.plainAttrs_list PySem.F.slot_list_extend PySem.F.type_list_extend jY V.pe (ar h aD hS) eC (by rw[hS];rfl) hline hS rfl) rfl _ s σ H F I ⟨_,a,.inl ⟨rfl,vs,SqL.of b⟩,G0,H0,d0,G,dd,E,jq E R⟩
end
end L2.Z
namespace L2.Z
open PySem PySem.W PySem.Spec PySem.Calls PyProof.Rows L2 L2.C SI
noncomputable def okN(ns:List Int):Bool:=decide (ns.length<16)&&ns.all λn=>decide (0<=n)&&decide (n<32)
def lX{ns}(h:okN ns=true):ns.length<64/\ns.length<16/\∀n∈ns,0<=n/\n<32:=by
 unfold okN at h;rw[be0,decide_eq_true_iff,List.all_eq_true]at h;exact⟨by omega,h.1,λn hn=>by simpa using h.2 n hn⟩
section
variable {C:Addr}{U U1 U2:List (List D)}{ns ms out:List Int}{p pos2 pos3 pos4:Pos}
noncomputable def Gn(a b:Expr)(p p2 p4 pos pos2 pos3 pos4:Pos):Expr:=.Call (.Name "sorted" p) [.BinOp (.Call (.Name "set" p2) [a] [] pos2) .Sub (.Call (.Name "set" p4) [b] [] pos3) pos4] [] pos
def Bq(hcalm:X.calm=true)(B1:Blt X "sorted")(B2:Blt X "set")(ha:EvM X C Y U a (.ok (.list (ns.map .int))) U1)(hs:isStar a=false)(hz:okN ns=true)(hb:EvM X C Y U1 b (.ok (.list (ms.map .int))) U2)(hs2:isStar b=false)(hz2:ms.length<16)
  (hu:∀l:List Int,l.Nodup->l.Pairwise (·<=·)->(∀y,y∈l↔y∈ns/\y∉ms)->l=out):EvM X C Y U (Gn a b p p2 p4 pos pos2 pos3 pos4) (.ok (.list (out.map .int))) U2:=by
 intro pins s σ H Q I h0;obtain⟨G0,H0,d0,G,dd,E,k⟩:=h0;have S1:=λ{e:Expr} (h:isStar e=false)=>ae (es:=[]) (env:=X.env) h
 refine aX (bT hcalm) B1.g B1.m bh (ar (mL lO (aH (bI (kdI X.prog X.w) V.int (λc c=>bg) hcalm) B2.g B2.m bJ (ar ha aD (S1 hs)) B2.n B2.d (S1 hs) rfl) (aH (bI (kdI X.prog X.w) V.int (λc c=>bg) hcalm) B2.g B2.m bJ (ar hb aD (S1 hs2)) B2.n B2.d (S1 hs2) rfl)) aD (S1 rfl)) B1.n B1.d (S1 rfl) rfl pins s σ H Q I ⟨G0,H0,d0,G,dd,E,λv G1 H1 d1 m1 v1 r1=>?_⟩;cases r1 with
 |@list l1 ws1 _ hq1 rq1=>
  obtain rfl:=dR ns rq1;refine⟨l1,ns,rfl,SqL.of ((m1.gh.trans au) _ _ hq1),(lX hz).1,λS ks hS nd1 mem1 len1=>?_⟩;have e1:Ext G1 H1 G1 (upd H1 S (.ext (fe (kdI X.prog X.w) S ks))):=.hid (m1.gh.trans au) hS;have mm1:=m1.trans (v1.mext m1.gh e1);have vv1:=v1.step e1;refine⟨G0,H0,d0,G1,d1,E.go mm1 vv1,λv G2 H2 d2 m2 v2 r2=>?_⟩;cases r2 with
  |@list l2 ws2 _ hq2 rq2=>
   obtain rfl:=dR ms rq2;have np:S∉parts d1:=λz=>by obtain⟨o,e⟩:=v1.part z;rw[hS]at e;cases e
   have hS2:H2 S=some (.ext (fe (kdI X.prog X.w) S ks)):=au _ _ (m2.hh _ _ (by rw[aL np];exact upd_same));refine⟨l2,ms,rfl,SqL.of ((m2.gh.trans au) _ _ hq2),by omega,λT js hT nd2 mem2 len2=>?_⟩;have e2:Ext G2 H2 G2 (upd H2 T (.ext (fe (kdI X.prog X.w) T js))):=.hid (m2.gh.trans au) hT;have ne:S≠T:=λz=>by rw[<-z,hS2]at hT;cases hT
   have vv2:=v2.step e2;have mm2:=mm1.trans (m2.trans (v2.mext m2.gh e2));refine⟨S,T,ks,js,rfl,rfl,ne,by rw[aa ne];exact hS2,upd_same,nd1,by have:=(lX hz).2.1;omega,by omega,λk hk=>(lX hz).2.2 k ((mem1 k).mp hk),λr zs hr nd3 mem3 len3=>?_⟩;have e3:Ext G2 (upd H2 T (.ext (fe (kdI X.prog X.w) T js))) G2 (upd (upd H2 T (.ext (fe (kdI X.prog X.w) T js))) r (.ext (fe (kdI X.prog X.w) r zs))):=.hid (mm2.gh.trans au) hr;have vv3:=vv2.step e3;have mm3:=mm2.trans (vv2.mext mm2.gh e3);refine⟨r,zs,rfl,upd_same,len3,λD rs hD pe so=>?_⟩;obtain rfl:=hu rs (pe.nodup_iff.mpr nd3) so λy=>by rw[pe.mem_iff,mem3,mem1,mem2]
   have e4:=Ext.laid (o:=HO.lst (rs.map V.int)) (mm3.gh.trans au) hD;exact k _ _ _ d2 (mm3.trans (vv3.mext mm3.gh e4)) (vv3.step e4) (.list upd_same (by simpa using nZ rs))
def uQ{c:Nat}(hcalm:X.calm=true)(B1:Blt X "sorted")(B2:Blt X "set")(ha:EvM X C Y U a (.exc c) U1)(hs:isStar a=false)(hs2:isStar b=false):EvM X C Y U (Gn a b p p2 p4 pos pos2 pos3 pos4) (.exc c) U1:=by
 intro pins s σ H Q I h0;obtain⟨G0,H0,d0,G,dd,E,k⟩:=h0;have S1:=λ{e:Expr} (h:isStar e=false)=>ae (es:=[]) (env:=X.env) h
 exact aX (bT hcalm) B1.g B1.m bh (ar (mL lO (aH (bI (kdI _ _) _ (λf f=>bg) hcalm) B2.g B2.m bJ (ar ha aD (S1 hs)) B2.n B2.d (S1 hs) rfl) (λf f f f f f z=>(z:False).elim)) aD (S1 rfl)) B1.n B1.d (S1 rfl) rfl _ s σ H Q I ⟨G0,H0,d0,G,dd,E,k⟩
def uR{c:Nat}(hcalm:X.calm=true)(B1:Blt X "sorted")(B2:Blt X "set")(ha:EvM X C Y U a (.ok (.list (ns.map .int))) U1)(hs:isStar a=false)(hz:okN ns=true)(hb:EvM X C Y U1 b (.exc c) U2)(hs2:isStar b=false):EvM X C Y U (Gn a b p p2 p4 pos pos2 pos3 pos4) (.exc c) U2:=by
 intro pins s σ H Q I h0;obtain⟨G0,H0,d0,G,dd,E,k⟩:=h0;have S1:=λ{e:Expr} (h:isStar e=false)=>ae (es:=[]) (env:=X.env) h
 refine aX (bT hcalm) B1.g B1.m bh (ar (mL lO (aH (bI (kdI X.prog X.w) V.int (λf f=>bg) hcalm) B2.g B2.m bJ (ar ha aD (S1 hs)) B2.n B2.d (S1 hs) rfl) (aH (bI (kdI X.prog X.w) V.int (λf f=>bg) hcalm) B2.g B2.m bJ (ar hb aD (S1 hs2)) B2.n B2.d (S1 hs2) rfl)) aD (S1 rfl)) B1.n B1.d (S1 rfl) rfl pins s σ H Q I ⟨G0,H0,d0,G,dd,E,λv G1 H1 d1 m1 v1 r1=>?_⟩;cases r1 with
 |@list l1 ws1 _ hq1 rq1=>
  obtain rfl:=dR ns rq1;refine⟨l1,ns,rfl,SqL.of ((m1.gh.trans au) _ _ hq1),(lX hz).1,λS ks hS nd1 mem1 len1=>?_⟩;have e1:Ext G1 H1 G1 (upd H1 S (.ext (fe (kdI X.prog X.w) S ks))):=.hid (m1.gh.trans au) hS;have mm:=m1.trans (v1.mext m1.gh e1);exact⟨G0,H0,d0,G1,d1,E.go mm (v1.step e1),λG' H' d' m=>k G' H' d' (mm.trans m)⟩
end
end L2.Z
namespace L2.Z
open PySem PySem.Spec PyProof.Rows L2 L2.C SI
noncomputable abbrev Ust:=List (List D)
noncomputable abbrev FsM:=Str->Option FnM
noncomputable def oB:Option Sl->Option Nat
 |some (.dat (.hdl h))=>some h
 |_=>none
noncomputable def Gp:Bool->Option Sl->Option D
 |true,some sl=>aS .read sl
 |false,some (.dat d)=>some d
 |_,_=>none
@[simp] noncomputable def rV(d:D):Rs->Rs
 |.ok ds=>.ok (d::ds)
 |.exc c=>.exc c
noncomputable def IM:D->Option (List D)
 |.list ds=>some ds
 |.tuple ds=>some ds
 |_=>none
noncomputable def hdD:D->Option D
 |.tuple (d::_)=>some d
 |_=>none
noncomputable def hd1:D->Option D
 |.tuple (_::d::_)=>some d
 |_=>none
noncomputable def fnOf(Γ:List (Str×D)):Option Sl->Option Str
 |some (.dat (.fn a))=>(Γ.find? λp=>decide (p.2=.fn a)).bind λp=>if Γ.lookup p.1=some (.fn a)then some p.1 else none
 |_=>none
noncomputable def goR(z:R×Ust)(f:D->Ust->Option (R×Ust)):Option (R×Ust):=match z.1 with
 |.ok d=>f d z.2
 |.exc x=>some (.exc x,z.2)
noncomputable def okL:R×Ust->Option (List D×Ust)
 |(.ok (.list ds),U)=>some (ds,U)
 |_=>none
noncomputable def oC:D->Option (List Int)
 |.list ds=>intsOf ds
 |_=>none
noncomputable def ip(ns ms:List Int):List Int:=ns.filter λn=>!ms.contains n
noncomputable def kP(ns:List Int)(e:D):Option D:=(oC e).bind λms=>if ms.length<16 then some (.list ((ip ns ms).map .int))else none
noncomputable abbrev M:=Fs->FsM->List (Str×D)->Nat->List Sl->Ust->Option (R×Ust)
inductive Ms where
 |nil
 |va (i:Nat) (r:Ms)
 |ex (a:M) (r:Ms)
noncomputable def evM(Z:Fs)(O:FsM)(Γ:List (Str×D))(c:Nat)(Y:List Sl)(U:Ust)(e:M):Option (R×Ust):=e Z O Γ c Y U
noncomputable def exR(z:R×Ust)(f:D->Ust->Option (Rs×Ust)):Option (Rs×Ust):=match z.1 with
 |.ok d=>f d z.2
 |.exc x=>some (.exc x,z.2)
noncomputable def IP(J:FnM)(h:Nat)(q:Rs×Ust):Option (R×Ust):=match q.1 with
 |.ok ds=>(J.run q.2 (.hdl h::ds)).map λz=>(z.2,z.1)
 |.exc _=>none
@[simp] noncomputable def qr(Z:Fs)(O:FsM)(Γ:List (Str×D))(c:Nat)(fl:List Bool)(Y:List Sl)(U:Ust):Ms->Option (Rs×Ust)
 |.nil=>some (.ok [],U)
 |.va i r=>(Gp (fl.headD false) Y[i]?).bind λd=>(qr Z O Γ c fl.tail Y U r).map λq=>(rV d q.1,q.2)
 |.ex a r=>(evM Z O Γ c Y U a).bind λz=>exR z λd U'=>(qr Z O Γ c fl.tail Y U' r).map λq=>(rV d q.1,q.2)
namespace M
@[simp] noncomputable def p(e:E):M|Z,O,Γ,c,Y,U=>(ev Z Γ .val (Y.map (vE c U)) e).map λd=>(.ok d,U)
@[simp] noncomputable def call(f:Str)(as:Ms):M|Z,O,Γ,c,Y,U=>(O f).bind λJ=>(qr Z O Γ c J.lent Y U as).bind λq=>(xO J.run q.1 q.2).map λz=>(z.2,z.1)
@[simp] noncomputable def meth(m:Str)(i:Nat)(as:Ms):M|Z,O,Γ,c,Y,U=>(O (ai m)).bind λJ=>(oB Y[i]?).bind λh=>(qr Z O Γ c J.lent.tail Y U as).bind λq=>IP J h q
@[simp] noncomputable def new:M|Z,O,Γ,c,Y,U=>some (.ok (.hdl U.length),U++[[]])
@[simp] noncomputable def hv(i:Nat):M|Z,O,Γ,c,Y,U=>(oB Y[i]?).map λh=>(.ok (.hdl h),U)
@[simp] noncomputable def ix0(a:M):M|Z,O,Γ,c,Y,U=>(evM Z O Γ c Y U a).bind λz=>goR z λd U'=>(hdD d).map λd'=>(.ok d',U')
@[simp] noncomputable def ix1(a:M):M|Z,O,Γ,c,Y,U=>(evM Z O Γ c Y U a).bind λz=>goR z λd U'=>(hd1 d).map λd'=>(.ok d',U')
@[simp] noncomputable def ssub(a b:M):M|Z,O,Γ,c,Y,U=>(evM Z O Γ c Y U a).bind λz=>goR z λd U'=>(oC d).bind λns=>if okN ns=true/\ns.Pairwise (·<·)then (evM Z O Γ c Y U' b).bind λz=>goR z λe U''=>(kP ns e).map λo=>(.ok o,U'')else none
@[simp] noncomputable def callv(i:Nat)(as:Ms):M|Z,O,Γ,c,Y,U=>(fnOf Γ Y[i]?).bind λf=>(O f).bind λJ=>(qr Z O Γ c J.lent Y U as).bind λq=>(xO J.run q.1 q.2).map λz=>(z.2,z.1)
end M
section
variable {O:FsM}{c:Nat}{U:Ust}
@[simp] def m_p{e:E}: evM Z O Γ c Y U (.p e)=M.p e Z O Γ c Y U:=(rfl)
@[simp] def LA{f:Str}{as:Ms}: evM Z O Γ c Y U (.call f as)=M.call f as Z O Γ c Y U:=(rfl)
@[simp] def LB{as:Ms}: evM Z O Γ c Y U (.meth m i as)=M.meth m i as Z O Γ c Y U:=(rfl)
@[simp] def Na:evM Z O Γ c Y U .new=M.new  Z O Γ c Y U:=(rfl)
@[simp] def NK : evM Z O Γ c Y U (.hv i)=M.hv i Z O Γ c Y U:=(rfl)
@[simp] def Nb{a:M}: evM Z O Γ c Y U (.ix0 a)=M.ix0 a Z O Γ c Y U:=(rfl)
@[simp] def Nc{a:M}: evM Z O Γ c Y U (.ix1 a)=M.ix1 a Z O Γ c Y U:=(rfl)
@[simp] def LC{a b:M}: evM Z O Γ c Y U (.ssub a b)=M.ssub a b Z O Γ c Y U:=(rfl)
@[simp] def Kk{as:Ms}: evM Z O Γ c Y U (.callv i as)=M.callv i as Z O Γ c Y U:=(rfl)
end
abbrev Ms.G(x:M):Ms:=.ex x .nil
abbrev Ms.W(i:Nat):Ms:=.va i .nil
noncomputable def uS(f:D->OM)(Y:List Sl):R->OM
 |.ok d=>f d
 |.exc x=>.exc x Y
noncomputable def Gq(tab:List (Nat×Bool))(i j:Nat)(U:Ust):OM->Option (OM×Ust)
 |.exc x Y=>if tab.lookup x=some true then some (.nx ((Y.set i (.dat (.exc x))).set j .no),U)else none
 |o=>some (o,U)
noncomputable def CT(o:Out)(U:Ust):Option (OM×Ust):=match o with
 |.nx Y=>if Y.all cW then some (.nx Y,U)else none
 |.rt _=>none
noncomputable def qt:D->Option (List D)
 |.list ds=>some ds
 |_=>none
noncomputable def yj:Option Sl->Option (List D)
 |some (.own (.list ds))=>some ds
 |_=>none
noncomputable def yk(s:Option Sl)(ds:List D)(k:D->OM×Ust):Option (OM×Ust):=match s with
 |some (.own (.list es))=>if es.length+ds.length<=big then some (k (.list (es++ds)))else none
 |_=>none
noncomputable abbrev SM:=Fs->FsM->List (Str×D)->Nat->List Sl->Ust->Option (OM×Ust)
inductive SMs where
 |nil
 |cons (s:SM) (r:SMs)
noncomputable def exM(Z:Fs)(O:FsM)(Γ:List (Str×D))(c:Nat)(Y:List Sl)(U:Ust)(s:SM):Option (OM×Ust):=s Z O Γ c Y U
@[simp] noncomputable def br(Z:Fs)(O:FsM)(Γ:List (Str×D))(c:Nat)(Y:List Sl)(U:Ust):SMs->Option (OM×Ust)
 |.nil=>some (.nx Y,U)
 |.cons s r=>(exM Z O Γ c Y U s).bind λq=>q.1.andThen (λY'=>br Z O Γ c Y' q.2 r) q.2
noncomputable def rsR(x:Nat)(Y:List Sl)(q:Rs×Ust):Option (OM×Ust):=match q.1 with
 |.ok ds=>if ds.length<=1000 then some (.exc x Y,q.2)else none
 |.exc _=>none
noncomputable def goS(Y:List Sl)(z:R×Ust)(f:D->Ust->Option (OM×Ust)):Option (OM×Ust):=match z.1 with
 |.ok d=>f d z.2
 |.exc x=>some (.exc x Y,z.2)
noncomputable def Gr(i:Nat)(Y:List Sl)(z:R×Ust):Option (OM×Ust):=match z.1 with
 |.ok d=>(qt d).bind λds=>yk Y[i]? ds λd=>(.nx (Y.set i (.own d)),z.2)
 |.exc x=>(yj Y[i]?).map λa=>(.exc x Y,z.2)
namespace SM
@[simp] noncomputable def set(i:Nat)(e:M):SM|Z,O,Γ,c,Y,U=>(evM Z O Γ c Y U e).map λz=>(uS (λd=>.nx (Y.set i (.dat d))) Y z.1,z.2)
@[simp] noncomputable def expr(e:M):SM|Z,O,Γ,c,Y,U=>(evM Z O Γ c Y U e).map λz=>(uS (λa=>.nx Y) Y z.1,z.2)
@[simp] noncomputable def ret(e:M):SM|Z,O,Γ,c,Y,U=>(evM Z O Γ c (Y.map freeze) U e).map λz=>(uS .rt (Y.map freeze) z.1,z.2)
@[simp] noncomputable def ifs(t:E)(a b:SMs):SM|Z,O,Γ,c,Y,U=>(ev Z Γ .test (Y.map (vE c U)) t).bind λd=>(asB d).bind λt=>if t then br Z O Γ c Y U a else br Z O Γ c Y U b
@[simp] noncomputable def fors(tg:Tg)(src:I)(body:SMs):SM|Z,O,Γ,c,Y,U=>(evI Z Γ .walk Y src).bind λds=>forM (aw tg) (λY' U'=>br Z O Γ c Y' U' body) ds Y U
@[simp] noncomputable def raise(x:Nat)(as:Ms):SM|Z,O,Γ,c,Y,U=>(qr Z O Γ c [] Y U as).bind λq=>rsR x Y q
@[simp] noncomputable def try1(tab:List (Nat×Bool))(i j:Nat)(body:SMs):SM|Z,O,Γ,c,Y,U=>(br Z O Γ c Y U body).bind λq=>Gq tab i j q.2 q.1
@[simp] noncomputable def pass:SM|Z,O,Γ,c,Y,U=>some (.nx Y,U)
@[simp] noncomputable def pure(s:S):SM|Z,O,Γ,c,Y,U=>(ex Z Γ Y s).bind λo=>CT o U
@[simp] noncomputable def ext(i:Nat)(e:M):SM|Z,O,Γ,c,Y,U=>(evM Z O Γ c Y U e).bind λz=>Gr i Y z
@[simp] noncomputable def form(tg:Tg)(src:M)(body:SMs):SM|Z,O,Γ,c,Y,U=>(evM Z O Γ c Y U src).bind λz=>goS Y z λd U'=>(qt d).bind λds=>forM (aw tg) (λY' U'=>br Z O Γ c Y' U' body) ds Y U'
@[simp] noncomputable def whl(t:E)(body:SMs):SM|Z,O,Γ,c,Y,U=>gW (λY' U'=>ev Z Γ .test (Y'.map (vE c U')) t) (λY' U'=>br Z O Γ c Y' U' body) 100000 Y U
@[simp] noncomputable def ifm(o:Cop)(a:M)(b:E)(s t:SMs):SM|Z,O,Γ,c,Y,U=>(evM Z O Γ c Y U a).bind λz=>goS Y z λd U'=>(ev Z Γ .read (Y.map (vE c U')) b).bind λe=>(cp o d e).bind λq=>if q then br Z O Γ c Y U' s else br Z O Γ c Y U' t
end SM
section
variable {O:FsM}{c:Nat}{U:Ust}{x:Nat}{q:Ust}
@[simp] def LD{e:M}: exM Z O Γ c Y U (.set i e)=SM.set i e Z O Γ c Y U:=(rfl)
@[simp] def Kl{e:M}: exM Z O Γ c Y U (.expr e)=SM.expr e Z O Γ c Y U:=(rfl)
@[simp] def LF{e:M}: exM Z O Γ c Y U (.ret e)=SM.ret e Z O Γ c Y U:=(rfl)
@[simp] def LG{t:E}{a b:SMs}: exM Z O Γ c Y U (.ifs t a b)=SM.ifs t a b Z O Γ c Y U:=(rfl)
@[simp] def Km{tg:Tg}{src:I}{body:SMs}: exM Z O Γ c Y U (.fors tg src body)=SM.fors tg src body Z O Γ c Y U:=(rfl)
@[simp] def IQ{x:Nat}{as:Ms}: exM Z O Γ c Y U (.raise x as)=SM.raise x as Z O Γ c Y U:=(rfl)
@[simp] def Kn{tab:List (Nat×Bool)}{body:SMs}: exM Z O Γ c Y U (.try1 tab i j body)=SM.try1 tab i j body Z O Γ c Y U:=(rfl)
@[simp] def Ko:exM Z O Γ c Y U .pass=SM.pass  Z O Γ c Y U:=(rfl)
@[simp] def Kp{s:S}: exM Z O Γ c Y U (.pure s)=SM.pure s Z O Γ c Y U:=(rfl)
@[simp] def LH{e:M}: exM Z O Γ c Y U (.ext i e)=SM.ext i e Z O Γ c Y U:=(rfl)
@[simp] def Kq{tg:Tg}{src:M}{body:SMs}: exM Z O Γ c Y U (.form tg src body)=SM.form tg src body Z O Γ c Y U:=(rfl)
@[simp] def LI{t:E}{body:SMs}: exM Z O Γ c Y U (.whl t body)=SM.whl t body Z O Γ c Y U:=(rfl)
@[simp] def LJ{o:Cop}{a:M}{b:E}{s t:SMs}: exM Z O Γ c Y U (.ifm o a b s t)=SM.ifm o a b s t Z O Γ c Y U:=(rfl)
@[simp] def Nd{f:D->Ust->Option (Rs×Ust)}:exR (.ok d,U) f=f d U:=(rfl)
@[simp] def Nf{f:D->Ust->Option (Rs×Ust)}:exR (.exc x,U) f=some (.exc x,U):=(rfl)
@[simp] def LK{J:FnM}{h:Nat}:IP J h (.ok ds,U)=(J.run U (.hdl h::ds)).map λz=>(z.2,z.1):=(rfl)
@[simp] def Ng:rsR x Y (.ok ds,U)=if ds.length<=1000 then some (.exc x Y,U)else none:=(rfl)
@[simp] def Nh{f:D->Ust->Option (OM×Ust)}:goS Y (.ok d,U) f=f d U:=(rfl)
@[simp] def Ni{f:D->Ust->Option (OM×Ust)}:goS Y (.exc x,U) f=some (.exc x Y,U):=(rfl)
@[simp] def LL :Gr i Y (.ok d,U)=(qt d).bind λds=>yk Y[i]? ds λd=>(.nx (Y.set i (.own d)),U):=(rfl)
@[simp] def LM :Gr i Y (.exc x,U)=(yj Y[i]?).map λa=>(.exc x Y,U):=(rfl)
end
abbrev SMs.A(x:SM):SMs:=.cons x .nil
abbrev SMs.B(x y:SM):SMs:=.cons x (.A y)
structure bz where
 lent:List Bool
 slots:Nat
 body:SMs
noncomputable def oE:OM->R
 |.nx _=>.ok .none
 |.rt d=>.ok d
 |.exc c _=>.exc c
@[simp] noncomputable def startM(d:bz)(ds:List D):List Sl:=cL ⟨d.lent,d.slots,.nil⟩ ds
noncomputable def runM(Z:Fs)(O:FsM)(Γ:List (Str×D))(c:Nat)(d:bz):FnM:=⟨d.lent,λU ds=>if ds.length=d.lent.length then (br Z O Γ c (startM d ds) U d.body).map λq=>(q.2,oE q.1)else none⟩
noncomputable def jO(O0:FsM)(prog:List (Str×Def))(progM:List (Str×bz))(Γ:List (Str×D))(c:Nat):Nat->FsM
 |0,f=>O0 f
 |k+1,f=>match O0 f with
  |some J=>some J
  |none=>(progM.lookup f).map (runM (den prog Γ k) (jO O0 prog progM Γ c k) Γ c)
structure Cm where
 cs:Cs
 c:Nat
 mfs:List Str
 mms:List Str
 vn:Str
 xks:List (Str×Nat)
 vrs:List Str:=[]
 fvs:List Str:=[]
noncomputable def yl(C:Cm):Expr->Bool
 |.Call (.Name f _) _ _ _=>C.mfs.contains f||f==C.vn||C.fvs.contains f
 |.Call (.Attribute (.Name _ _) m _) _ _ _=>C.mms.contains m
 |_=>false
noncomputable def LN(C:Cs):Expr->Bool
 |.Call (.Attribute (.Name x _) _ _) [] [] _=>(cC C x).any λi=>C.mts.contains i
 |_=>false
noncomputable def LO:Expr->Expr->Bool
 |.Call (.Name f _) [_] [] _,.Call (.Name g _) [_] [] _=>f=("set":Str)&&g=("set":Str)
 |_,_=>false
noncomputable def LP(C:Cm):Expr->Bool
 |.Call (.Name f _) [.BinOp a .Sub b _] [] _=>(f=("sorted":Str)&&LO a b)||yl C (.Call (.Name f ⟨0,0,0,0⟩) [] [] ⟨0,0,0,0⟩)
 |e=>yl C e
structure oF where
 fns:List Str
 cst:List Str
 c:Nat
 vms:List Str
 xcs:List (Str×Nat×List (Nat×Bool))
 mfs:List Str
 mms:List Str
 vn:Str
 xks:List (Str×Nat)
 vrs:List Str:=[]
 fvs:List Str:=[]
noncomputable def Br(V:oF)(ps:List Str)(body:List Stmt)(sc:Scope):Cm:=⟨wm V.fns V.cst ps body sc (some V.c) V.vms V.xcs,V.c,V.mfs,V.mms,V.vn,V.xks,V.vrs,V.fvs⟩
end L2.Z
namespace L2.Z
open PySem PySem.Spec PyProof.Rows L2 L2.C SI
structure WzM(X:Cx)(Z:Fs)(O:FsM)(Γ:List (Str×D))(C:Cm)(k:Nat):Prop where
 w:Wz X Z Γ C.cs k
 fm:∀x,C.mfs.contains x=true->∀J,O x=some J->xQ X.prog X.w X.K X.mg X.base C.c k x J
 vm:∀m,C.mms.contains m=true->∀J,O (ai m)=some J->FnVm X.prog X.w X.K X.mg X.base C.c k m J/\J.lent.headD false=false/\m≠"objects"/\m≠"numbers"
 fv:∀x a,Γ.lookup x=some (.fn a)->C.mfs.contains x=true
 nw:∀X':Cx,X'.prog=X.prog->X'.w=X.w->X'.K=X.K->X'.mg=X.mg->X'.base=X.base->Room k X'.A->Gl X' C.vn->∀Y U p pos,EvM X' C.c Y U (.Call (.Name C.vn p) [] [] pos) (.ok (.hdl U.length)) (U++[[]])
structure WzT(X:Cx)(Z:Fs)(O:FsM)(Γ:List (Str×D))(C:Cm)(k:Nat):Prop where
 m:WzM X Z O Γ C k
 xk:∀t x,C.xks.lookup t=some x->IK X t x
 tr:∀(t:Str) x tab,t≠("ValueError":Str)->C.cs.xcs.lookup t=some (x,tab)->∀e,tab.lookup e=some true->∃newId newIdT,PySem.W.excIn X.K e bj newId=true/\PySem.W.excIn X.K x bj newIdT=true/\fk X.K e x=true
 lcl:∀x,C.cs.sc.names.lookup x=some .local->X.env.kindOf x=some .local
 fc:Bl X
theorem CxC.tri{C}(c:CxC X C){E}{pn}:CxC (tri X E pn) C:=⟨c.N,c.nd,c.vis,c.loc,c.cell,c.glob,c.calm,c.kind⟩
theorem Wz.tri{Z}{C}{k}(w:Wz X Z Γ C k){E}{pn}:Wz (tri X E pn) Z Γ C k:=⟨w.blt,w.fns,w.gl,w.room,w.vc,w.vf,w.xc⟩
theorem WzT.tri{Z}{O}{C:Cm}{k}(w:WzT X Z O Γ C k){E}{pn}:WzT (tri X E pn) Z O Γ C k:=
 ⟨⟨w.m.w.tri,w.m.fm,w.m.vm,w.m.fv,w.m.nw⟩,λt x h=>⟨(w.xk t x h).mg,(w.xk t x h).ex⟩,w.tr,w.lcl,⟨w.fc.stk,w.fc.fr,w.fc.ex⟩⟩
section
variable {C:Addr}{U U1 U2:Ust}{e:Expr}{p:Pos}{rs:Rs}{c:Nat}
def kQ(he:EvM X C Y U e (.ok d) U1)(hr:EaM X C Y U1 fl.tail es rs U2)(hs:isStar e=false):EaM X C Y U fl (e::es) (rV d rs) U2:=by
 have:=xN he hr hs;cases rs<;>exact this
def Gs{i}(V:VarOk X x i)(h:Gp (fl.headD false) Y[i]?=some d)(hr:EaM X C Y U fl.tail es rs U2):EaM X C Y U fl (.Name x p::es) (rV d rs) U2:=by
 cases hf:fl.headD _ with
 |true=>
  rw[hf]at h;cases q:Y[i]? with
  |none=>rw[q]at h;cases h
  |some sl=>
   rw[q]at h;have:=(show EaM X C Y U fl (.Name x p::es) (match rs with|.ok ds=>.ok (d::ds)|.exc c=>.exc c) U2 from λpos pins s σ H Q I ⟨G0,H0,d0,G,dd,E,k⟩=>by
      obtain⟨Gb,Hb,_,_,en⟩:=E.bas;obtain⟨v,a,b⟩:=en.read q h;refine ar (cm V.at' V.vis V.d V.cd) hr rfl _ _ s σ H Q I ⟨v,a,G0,H0,d0,G,dd,E,?_⟩;cases rs with
      |ok ds=>exact λvs G2 H2 d2 m2 v2 r2=>k _ G2 H2 d2 m2 v2 (.cons (λc=>by simp_all) ((b.monoH m2.hh).monoG m2.gg) r2)
      |exc c=>exact λG2 H2 d2 m2 v2=>k G2 H2 d2 m2 v2)
   cases rs<;>exact this
 |false=>
  rw[hf]at h;cases q:Y[i]? with
  |none=>rw[q]at h;cases h
  |some sl=>
   rw[q]at h;cases sl with
   |dat d'=>cases h;exact kQ (lU i q V.at' V.vis V.d V.cd) hr rfl
   |_=>cases h
end
def oG{s}{h}(q:oB s=some h):s=some (.dat (.hdl h)):=by
 unfold oB at q;split at q<;>simp_all
def Bs{s}{y}(h:fnOf Γ s=some y):∃a,s=some (.dat (.fn a))/\Γ.lookup y=some (.fn a):=by
 unfold fnOf at h;split at h
 .obtain⟨p,_,h2⟩:=bx0 h
  split at h2<;>simp_all
 .cases h
def Gu{d e}(h:hd1 d=some e):∃x ds,d=.tuple (x::e::ds):=by
 unfold hd1 at h;split at h<;>simp_all
def uT:∀{ds}{ns},intsOf ds=some ns->ds=ns.map .int:=by
 intro ds
 induction ds with
 |nil=>intro ns h;cases h;rfl
 |cons d r ih=>
  intro ns h;cases d with
  |int i=>
   obtain⟨ms,h1,rfl⟩:=mx0 (h);rw[ih h1];rfl
  |_=>cases h
def oH{d}{ns}(h:oC d=some ns):d=.list (ns.map .int):=by
 cases d with
 |list ds=>rw[uT (h)]
 |_=>cases h
def ym{ns ms l:List Int}(hn:ns.Pairwise (·<·))(h1:l.Nodup)(h2:l.Pairwise (·<=·))(h3:∀y,y∈l↔y∈ns/\y∉ms):l=ip ns ms:=by
 have q:(ip ns ms).Pairwise _:=List.Pairwise.filter _ hn;refine ((List.perm_ext_iff_of_nodup h1 (q.imp λh=>Int.ne_of_lt h)).mpr λy=>?_).eq_of_pairwise (λa b c c h1 h2=>Int.le_antisymm h1 h2) h2 (q.imp λh=>Int.le_of_lt h);rw[h3 y];unfold ip;simp
set_option tactic.hygienic true in
def yn{ns}{e o}(h:kP ns e=some o):∃ms:List Int,e=.list (ms.map .int)/\ms.length<16/\o=.list ((ip ns ms).map .int):=by
 obtain⟨ms,h1,h⟩:=bx0 h;split at h
 .rename_i hz;cases h;exact⟨ms,oH h1,hz,rfl⟩
 .cases h
def rW(h:qt d=some ds):d=.list ds:=by
 cases d with
 |list=>cases h;rfl
 |_=>cases h
def Bt{s}{ds}(h:yj s=some ds):s=some (.own (.list ds)):=by
 unfold yj at h;split at h<;>simp_all
section
variable {O:FsM}{k:Nat}{C:Cm}{U U':Ust}{e t:Expr}{as':Ms}{p:Pos}{f:Str}{c:Nat}{r:R}{o:OM}{a' b' t':E}
def SdM(X:Cx)(Z:Fs)(O:FsM)(Γ:List (Str×D))(c:Nat)(e:Expr)(f:M):Prop:=∀⦃Y U r U'⦄,evM Z O Γ c Y U f=some (r,U')->EvM X c Y U e r U'
structure SaM(X:Cx)(Z:Fs)(O:FsM)(Γ:List (Str×D))(c:Nat)(es:List Expr)(f:Ms):Prop where
 s:aI es
 a:∀{fl Y U rs U'},qr Z O Γ c fl Y U f=some (rs,U')->EaM X c Y U fl es rs U'
def Gv:SaM X Z O Γ c [] .nil:=⟨λa z=>(by cases z),λq=>by cases q;exact Bg⟩
def IR(V:VarOk X x i)(R:SaM X Z O Γ c as as'):SaM X Z O Γ c (.Name x p::as) (.va i as'):=⟨λx hx=>(mq0 hx).elim (λz=>z▸rfl) (R.s x),λq=>by
 obtain⟨d,q1,q⟩:=bS q;obtain⟨⟨rs,U1⟩,q2,q⟩:=mS q;cases q;exact Gs V q1 (R.a q2)⟩
def CU{a':M}(hs:(!isStar a)=true)(A:SdM X Z O Γ c a a')(R:SaM X Z O Γ c as as'):SaM X Z O Γ c (a::as) (.ex a' as'):=⟨λx hx=>(mq0 hx).elim (λz=>z▸nt hs) (R.s x),λq=>by
 obtain⟨⟨r,U1⟩,q1,q⟩:=bS q;have A:=A q1;cases r with
 |ok d=>
  obtain⟨⟨rs,U2⟩,q2,q⟩:=mS q;cases q;exact kQ A (R.a q2) (nt hs)
 |exc x=>cases q;exact uD A (nt hs)⟩
def LQ(A:SdE X Z Γ e a' na):SdM X Z O Γ c e (.p a'):=λa a a a q=>by
 obtain⟨d,q1,q⟩:=mS q;cases q;exact xM (A.v q1)
def Bu(c:CxC X C.cs)(w:WzM X Z O Γ C k)(hg:ah C.cs f=true)(hm:C.mfs.contains f=true)(A:SaM X Z O Γ C.c (a::as) as'):SdM X Z O Γ C.c (.Call (.Name f p) (a::as) [] pos) (.call f as'):=λb b b b q=>by
 obtain⟨J,q1,q⟩:=bS q;obtain⟨⟨rs,U1⟩,q2,q⟩:=bS q;obtain⟨⟨U2,r2⟩,q3,q⟩:=mS q;cases q;exact xR (w.fm f hm J q1) w.w.room (aO c hg).1 (aO c hg).2.2 (A.a q2) q3 A.s
def yp(c:CxC X C.cs)(w:WzM X Z O Γ C k)(h:cC C.cs f=some i)(A:SaM X Z O Γ C.c (a::as) as'):SdM X Z O Γ C.c (.Call (.Name f p) (a::as) [] pos) (.callv i as'):=λb b b b q=>by
 obtain⟨y,q0,q⟩:=bS q;obtain⟨J,q1,q⟩:=bS q;obtain⟨⟨rs,U1⟩,q2,q⟩:=bS q;obtain⟨⟨U2,r2⟩,q3,q⟩:=mS q;cases q;obtain⟨fa,g1,g2⟩:=Bs q0;obtain⟨u,v,m1,m2,m3⟩:=w.w.gl y _ g2;cases m3 (λb=>.none);obtain rfl:u=Value.ref fa:=m2;exact uP (w.fm y (w.fv y fa g2) J q1) m1 (bU c h) g1 w.w.room (A.a q2) q3 A.s
def Gw(c:CxC X C.cs)(w:WzM X Z O Γ C k)(hf:f=C.vn)(hg:ah C.cs f=true):SdM X Z O Γ C.c (.Call (.Name f p) [] [] pos) .new:=λY U a a q=>by
 cases q;subst hf;exact w.nw X rfl rfl rfl rfl rfl w.w.room (aO c hg).1 Y U p _
def Gx{a' b':M}{g g':Str}{pos2 pos3 pos4:Pos}(c:CxC X C.cs)(w:WzM X Z O Γ C k)(hf:f="sorted"/\g="set"/\g'="set")(hg:ah C.cs f=true)(hg':ah C.cs g=true)(hs:(!isStar a)=true)(hs':(!isStar b)=true)(A:SdM X Z O Γ C.c a a')(B:SdM X Z O Γ C.c b b'):
  SdM X Z O Γ C.c (.Call (.Name f p) [.BinOp (.Call (.Name g p2) [a] [] pos2) .Sub (.Call (.Name g' p4) [b] [] pos3) pos4] [] pos) (.ssub a' b'):=λh h h h q=>by
 obtain⟨rfl,rfl,rfl⟩:=hf;have B1:=ba c w.w hg (by simp[bltNames]);have B2:=ba c w.w hg' (by simp[bltNames]);obtain⟨⟨r1,U1⟩,q1,q⟩:=bS q;have A:=A q1;cases r1 with
 |exc x=>cases q;exact uQ c.calm B1 B2 A (nt hs) (nt hs')
 |ok d=>
  obtain⟨ns,q3,q⟩:=bS (show (oC d).bind _=_ from q);obtain rfl:=oH q3;obtain⟨hz,q⟩:=iB q;obtain⟨⟨r2,U2⟩,q4,q⟩:=bS q;have B:=B q4;cases r2 with
  |exc x=>cases q;exact uR c.calm B1 B2 A (nt hs) hz.1 B (nt hs')
  |ok e=>
   obtain⟨o,q5,q⟩:=mS (show (kP ns e).map _=_ from q);cases q;obtain⟨ms,rfl,hz2,rfl⟩:=yn q5;exact Bq c.calm B1 B2 A (nt hs) hz.1 B (nt hs') hz2 λl=>ym hz.2
def Bv(c:CxC X C.cs)(w:WzM X Z O Γ C k)(h:cC C.cs x=some i)(hm:C.mms.contains m=true)(hq:((apos.endLine==pos.line)&&decide ((a::as).length<=20))=true)(A:SaM X Z O Γ C.c (a::as) as'):SdM X Z O Γ C.c (.Call (.Attribute (.Name x p) m apos) (a::as) [] pos) (.meth m i as'):=λb b b b q=>by
 have V:=bU c h;obtain⟨J,q1,q⟩:=bS q;obtain⟨hh,q3,q⟩:=bS q;obtain⟨⟨rs,U1⟩,q5,q⟩:=bS q;cases rs with
 |exc _=>cases q
 |ok ds=>
  obtain⟨⟨U2,r2⟩,q7,q⟩:=mS (q);cases q;obtain⟨F,f1,f2⟩:=w.vm m hm J q1;exact xS F f1 f2 w.w.room (lU i (oG q3) V.at' V.vis V.d V.cd) (A.a q5) q7 A.s (kJ rfl A.s (od0 (a2 hq).2) (a2 hq).1)
def IS(V:VarOk X x i):SdM X Z O Γ c (.Name x p) (.hv i):=λa a a a q=>by
 obtain⟨hh,q1,q⟩:=mS q;cases q;exact lU i (oG q1) V.at' V.vis V.d V.cd
def Gy{a':M}{z:Int}(h:z=0)(A:SdM X Z O Γ c a a'):SdM X Z O Γ c (.Subscript a (.Constant (.int z) j p) pos) (.ix0 a'):=λb b b b q=>by
 subst h;obtain⟨⟨r1,U1⟩,q1,q⟩:=bS q;have A:=A q1;cases r1 with
 |exc x=>cases q;exact yc A
 |ok d=>
  obtain⟨d',q3,q⟩:=mS (q);unfold hdD at q3;split at q3
  .cases q3;cases q;exact Bm A
  .cases q3
def Gz{a':M}{z:Int}(h:z=1)(A:SdM X Z O Γ c a a'):SdM X Z O Γ c (.Subscript a (.Constant (.int z) j p) pos) (.ix1 a'):=λb b b b q=>by
 subst h;obtain⟨⟨r1,U1⟩,q1,q⟩:=bS q;have A:=A q1;cases r1 with
 |exc x=>cases q;exact yg A
 |ok d=>
  obtain⟨d',q3,q⟩:=mS (q);obtain⟨x,ds,rfl⟩:=Gu q3;cases q;exact Bo A
def GA{a':M}(S:Sto X x i)(hc:(!dh a)=true)(A:SdM X Z O Γ c a a')(q:exM Z O Γ c Y U (.set i a')=some (o,U')):S1M X c Y U (.Assign [.Name x px] a pos) o U':=by
 obtain⟨⟨r,U1⟩,q1,q⟩:=mS q;have A:=A q1;cases q;cases r with
 |ok d=>exact Bi S A (cX (nt hc))
 |exc x=>exact xU S A (cX (nt hc))
def Bw{a':M}(hc:(!dh a)=true)(A:SdM X Z O Γ c a a')(q:exM Z O Γ c Y U (.expr a')=some (o,U')):S1M X c Y U (.Expr a pos) o U':=by
 obtain⟨⟨r,U1⟩,q1,q⟩:=mS q;have A:=A q1;cases q;cases r with
 |ok d=>exact xV A (cX (nt hc))
 |exc x=>exact uH A (cX (nt hc))
def GB{a':M}(A:SdM X Z O Γ c a a')(q:exM Z O Γ c Y U (.ret a')=some (o,U')):S1M X c Y U (.Return (some a) pos) o U':=by
 obtain⟨⟨r,U1⟩,q1,q⟩:=mS q;have A:=A q1;cases q;cases r with
 |ok d=>exact Bj A
 |exc x=>exact xW A
def By{s:S}(A:∀{Y o},ex Z Γ Y s=some o->E1 X Y st o)(q:exM Z O Γ c Y U (.pure s)=some (o,U')):S1M X c Y U st o U':=by
 obtain⟨o1,q1,q⟩:=bS q;cases o1 with
 |rt d=>exact nn q
 |nx Y1=>
  obtain⟨hl,q⟩:=iS q;cases q;exact uN (A q1) λsl hs=>List.all_eq_true.mp hl sl hs
def GC{a':M}(V:VarOk X x i)(hm:m="extend")(hq:((apos.endLine==cpos.line)&&!isStar a)=true)(A:SdM X Z O Γ c a a')(q:exM Z O Γ c Y U (.ext i a')=some (o,U')):S1M X c Y U (.Expr (.Call (.Attribute (.Name x p) m apos) [a] [] cpos) pos) o U':=by
 subst hm;obtain⟨⟨r,U1⟩,q1,q⟩:=bS q;have A:=A q1;cases r with
 |exc y=>
  obtain⟨ls,q2,q⟩:=mS (q);cases q;exact yi V A (nt (a2 hq).2) (Bt q2) (a2 hq).1
 |ok d=>
  obtain⟨ds,q2,q⟩:=bS (q);obtain rfl:=rW q2;unfold yk at q;split at q
  .obtain⟨hl,q⟩:=iS q
   cases q;exact Bn V A (nt (a2 hq).2) ‹_› (by exact hl) (a2 hq).1
  .cases q
def SsZ(X:Cx)(Z:Fs)(O:FsM)(Γ:List (Str×D))(c:Nat)(sts:List Stmt)(f:SMs):Prop:=∀⦃Y U o U'⦄,br Z O Γ c Y U f=some (o,U')->SsM X c Y U sts o U'
variable {s s2:SMs}
def CV(T:SdE X Z Γ t t' na)(A:SsZ X Z O Γ c body s)(B:SsZ X Z O Γ c body2 s2)(q:exM Z O Γ c Y U (.ifs t' s s2)=some (o,U')):S1M X c Y U (.If t body body2 pos) o U':=by
 obtain⟨d,q1,q⟩:=bS q;obtain⟨t,rfl,ht⟩:=T.t q1;cases t with
 |true=>exact rP (etM_pure ht) (A q)
 |false=>exact rQ (etM_pure ht) (B q)
def GD{a':M}{op:CmpOp}{cop:Cop}(w:WzM X Z O Γ C k)(h:lF op=some cop)(hs:(!isSet b)=true)(A:SdM X Z O Γ C.c a a')(B:SdE X Z Γ b b' na)(T:SsZ X Z O Γ C.c body s)(T2:SsZ X Z O Γ C.c body2 s2)(q:exM Z O Γ C.c Y U (.ifm cop a' b' s s2)=some (o,U')):S1M X C.c Y U (.If (.Compare a [op] [b] px) body body2 pos) o U':=by
 obtain⟨⟨r1,U1⟩,q1,q⟩:=bS q;have A:=A q1;have mk:=fG (op:=op) (nt hs);cases r1 with
 |exc x=>cases q;exact Bk (yh A mk)
 |ok d=>
  obtain⟨e',q3,q⟩:=bS (q);obtain⟨t,q5,q⟩:=bS q;obtain⟨r2,o1,o2⟩:=lK w.w.room.units h q5;have T0:=Bp (pos:=px) o1 A (B.r q3) o2 mk;cases t with
  |true=>exact rP T0 (T q)
  |false=>exact rQ T0 (T2 q)
def Bz{a':M}{t:Tg}(c:CxC X C.cs)(h:cTg C.cs tg=some t)(po:PassesOwn (model X.prog X.w) X.A X.env X.xe)(hs:(!isSet iter)=true)(A:SdM X Z O Γ C.c iter a')(B:SsZ X Z O Γ C.c body s)(q:exM Z O Γ C.c Y U (.form t a' s)=some (o,U')):S1M X C.c Y U (.For tg iter body [] pos) o U':=by
 obtain⟨⟨r1,U1⟩,q1,q⟩:=bS q;have A:=A q1;cases r1 with
 |exc x=>cases q;exact ye A c.calm po (fQ (nt hs))
 |ok d=>
  obtain⟨ds,q3,q⟩:=bS (q);obtain rfl:=rW q3;exact rR (yd A) (xX c h) (λY' U1 o' U2 q'=>B q') q c.calm po (fQ (nt hs))
def GE{src:I}{t:Tg}(c:CxC X C.cs)(h:cTg C.cs tg=some t)(po:PassesOwn (model X.prog X.w) X.A X.env X.xe)(A:SdI X Z Γ iter src)(B:SsZ X Z O Γ C.c body s)(q:exM Z O Γ C.c Y U (.fors t src s)=some (o,U')):S1M X C.c Y U (.For tg iter body [] pos) o U':=by
 obtain⟨ds,q1,q⟩:=bS q;exact rR (xY (A.w q1)) (xX c h) (λY' U1 o' U2 q'=>B q') q c.calm po (fQ A.s)
def yq{xc:Nat}(c:CxC X C.cs)(w:WzT X Z O Γ C k)(hg:ah C.cs x=true)(h:C.xks.lookup x=some xc)(A:SaM X Z O Γ C.c (a::as) as')(q:exM Z O Γ C.c Y U (.raise xc as')=some (o,U')):S1M X C.c Y U (.Raise (some (.Call (.Name x p) (a::as) [] cpos)) .none pos) o U':=by
 obtain⟨⟨rs,U1⟩,q1,q⟩:=bS q;cases rs with
 |exc _=>cases q
 |ok ds=>
  obtain⟨hl,q⟩:=iS (q);cases q;exact uI (w.xk x xc h) (aO c hg).1 (aO c hg).2.2 c.calm (A.a q1) hl A.s
def GF{nm nm' kk:Str}{z:Nat×List (Nat×Bool)}{tp kp ap hp:Pos}(c:CxC X C.cs)(w:WzT X Z O Γ C k)(po:PassesOwn (model X.prog X.w) X.A X.env X.xe)(hn:nm'=nm)(hq:(ah C.cs x&&az C.cs nm .local&&(bA nm&&!(x==("ValueError":Str))))=true)(h2:C.cs.xcs.lookup x=some z)(h3:iX C.cs nm=some j)(h4:iX C.cs kk=some i)(hij:i≠j)
  (B:∀{X},CxC X C.cs->WzT X Z O Γ C k->PassesOwn (model X.prog X.w) X.A X.env X.xe->SsZ X Z O Γ C.c body s) (q:exM Z O Γ C.c Y U (.try1 z.2 i j s)=some (o,U')):S1M X C.c Y U (.Try body [.ExceptHandler (some (.Name x tp)) (some nm) [.Assign [.Name kk kp] (.Name nm' np) ap] hp] [] [] pos) o U':=by
 subst hn;obtain⟨ct,tab⟩:=z;obtain⟨⟨o1,U1⟩,q1,q⟩:=bS q;have B:∀E pn,PassesOwn (model X.prog X.w) X.A X.env E->SsM (tri X E pn) C.c Y U body o1 U1:=λE pn po'=>B (X:=tri X E pn) c.tri w.tri po' q1
 have hq:=And.intro (a2 (a2 hq).1) (a2 (a2 hq).2);have hpl:=hq.2.1;unfold bA at hpl;have hpl:=And.intro (a2 (a2 hpl).1) (a2 hpl).2;have hX:X.mg x=some (.ref ct):=(w.m.w.xc x ct tab h2).nm.elim id λz=>by have:=hq.2.2;rw[z.1]at this;simp at this
 cases o1 with
 |nx Y1=>cases q;exact oA B (λa a z=>by cases z)
 |rt d=>cases q;exact oA B (λa a z=>by cases z)
 |exc xc Y1=>
  obtain⟨ht,q⟩:=iS (show (if tab.lookup xc=some true then some (OM.nx ((Y1.set i (.dat (.exc xc))).set j .no),U1)else .none)=_ from q);cases q;obtain⟨newId,newIdT,t1,t2,t3⟩:=w.tr x ct tab (λz=>by have:=hq.2.2;rw[z]at this;simp at this) h2 xc ht;exact yb w.fc B (aO c hq.1.1).1 (aO c hq.1.1).2.2 hX t1 t2 (by decide) t3 (dX c h3) (w.lcl nm' (eq_of_beq hq.1.2)) (nt hpl.1.1) (nt hpl.1.2) (dX c h4) hij rfl
def GG(po:PassesOwn (model X.prog X.w) X.A X.env X.xe)(T:SdE X Z Γ t t' na)(B:SsZ X Z O Γ c body s)(q:exM Z O Γ c Y U (.whl t' s)=some (o,U')):S1M X c Y U (.While t body [] pos) o U':=
 uO (λY' U' d' z=>T.t z) (λY' U' o' U2 z=>B z) 100000 q po
end
section
structure Cme(C:Cm)(e:Expr) where
 f:M
 ok:∀{Z O Γ k X},CxC X C.cs->WzM X Z O Γ C k->SdM X Z O Γ C.c e f
structure Cma(C:Cm)(es:List Expr) where
 f:Ms
 ok:∀{Z O Γ k X},CxC X C.cs->WzM X Z O Γ C k->SaM X Z O Γ C.c es f
structure Cmt(C:Cm)(st:Stmt) where
 f:SM
 ok:∀{Z O Γ k X},CxC X C.cs->WzT X Z O Γ C k->PassesOwn (model X.prog X.w) X.A X.env X.xe->∀{Y U o U'},exM Z O Γ C.c Y U f=some (o,U')->S1M X C.c Y U st o U'
structure Cms(C:Cm)(sts:List Stmt) where
 f:SMs
 ok:∀{Z O Γ k X},CxC X C.cs->WzT X Z O Γ C k->PassesOwn (model X.prog X.w) X.A X.env X.xe->SsZ X Z O Γ C.c sts f
variable (C:Cm)
noncomputable def cP(e:Expr):Option (Cme C e):=(cE 60 C.cs e).map λA=>⟨.p A.f,λc w=>LQ (A.ok c w.w)⟩
variable (r:∀e,Option (Cme C e))
noncomputable def cMs:(es:List Expr)->Option (Cma C es)
 |[]=>some ⟨.nil,λa a=>Gv⟩
 |e::es=>(cMs es).bind λR=>match e with
  |.Name x p=>match h:cC C.cs x with
   |some i=>some ⟨.va i R.f,λc w=>IR (bU c h) (R.ok c w)⟩
   |none=>(r (.Name x p)).map λA=>⟨.ex A.f R.f,λc w=>CU rfl (A.ok c w) (R.ok c w)⟩
  |e=>chk (!isStar e) λhs=>(r e).map λA=>⟨.ex A.f R.f,λc w=>CU hs (A.ok c w) (R.ok c w)⟩
noncomputable def cSb(f:Str)(p:Pos)(pos:Pos):(as:List Expr)->Option (Cme C (.Call (.Name f p) as [] pos))
 |[.BinOp (.Call (.Name g p2) [a] [] pos2) .Sub (.Call (.Name g' p4) [b] [] pos3) pos4]=>if h:f="sorted"/\g="set"/\g'="set" then chk (ah C.cs f) λhg=>chk (ah C.cs g) λhg'=>chk (!isStar a) λhs=>chk (!isStar b) λhs'=>(r a).bind λA=>(r b).map λB=>⟨.ssub A.f B.f,λc w=>Gx c w h hg hg' hs hs' (A.ok c w) (B.ok c w)⟩
  else cP C (.Call (.Name f p) [.BinOp (.Call (.Name g p2) [a] [] pos2) .Sub (.Call (.Name g' p4) [b] [] pos3) pos4] [] pos)
 |as=>cP C (.Call (.Name f p) as [] pos)
noncomputable def IT:(e:Expr)->Option (Cme C e)
 |.Call (.Name f p) (a::as) [] pos=>if hm:C.mfs.contains f=true then chk (ah C.cs f) λhg=>(cMs C r (a::as)).map λA=>⟨.call f A.f,λc w=>Bu c w hg hm (A.ok c w)⟩
  else if C.fvs.contains f then got (cC C.cs f) λi h=>(cMs C r (a::as)).map λA=>⟨.callv i A.f,λc w=>yp c w h (A.ok c w)⟩
  else cSb C r f p pos (a::as)
 |.Call (.Name f p) [] [] pos=>if h:f=C.vn then chk (ah C.cs f) λhg=>some ⟨.new,λc w=>Gw c w h hg⟩ else cP C (.Call (.Name f p) [] [] pos)
 |.Call (.Attribute (.Name x p) m apos) (a::as) [] pos=>if hm:C.mms.contains m=true then got (cC C.cs x) λi h=>chk ((apos.endLine==pos.line)&&decide ((a::as).length<=20)) λhq=>(cMs C r (a::as)).map λA=>⟨.meth m i A.f,λc w=>Bv c w h hm hq (A.ok c w)⟩
  else cP C (.Call (.Attribute (.Name x p) m apos) (a::as) [] pos)
 |.Subscript a (.Constant (.int z) j p) pos=>if yl C a then (r a).bind λA=>if h:z=0 then some ⟨.ix0 A.f,λc w=>Gy h (A.ok c w)⟩ else if h:z=1 then some ⟨.ix1 A.f,λc w=>Gz h (A.ok c w)⟩ else none
  else cP C (.Subscript a (.Constant (.int z) j p) pos)
 |.Name x p=>if C.vrs.contains x then got (cC C.cs x) λi h=>some ⟨.hv i,λc b=>IS (bU c h)⟩ else cP C (.Name x p)
 |e=>cP C e
noncomputable def cM:Nat->(e:Expr)->Option (Cme C e)
 |0=>λa=>none
 |n+1=>IT C (cM n)
noncomputable def cPs(st:Stmt):Option (Cmt C st):=(CQ (cE 60) C.cs (cSs 60) st).map λA=>⟨.pure A.f,λc w po a a a a q=>By (A.ok c w.m.w po) q⟩
noncomputable def cXs(v:Expr)(pos:Pos):Option (Cmt C (.Expr v pos)):=chk (!dh v) λhc=>(cM C 60 v).map λA=>⟨.expr A.f,λc w a a a a a q=>Bw hc (A.ok c w.m) q⟩
noncomputable def GH(rs:∀sts,Option (Cms C sts)):(st:Stmt)->Option (Cmt C st)
 |.Assign [.Name y py] v pos=>got (iX C.cs y) λj h=>if C.cs.mts.contains j||LN C.cs v||dh v then cPs C (.Assign [.Name y py] v pos)else chk (!dh v) λhc=>(cM C 60 v).map λA=>⟨.set j A.f,λc w d d d d d q=>GA (dX c h) hc (A.ok c w.m) q⟩
 |.Assign ts v pos=>cPs C (.Assign ts v pos)
 |.Expr (.Call (.Attribute (.Name x p) m apos) [a] [] cpos) pos=>match h:cC C.cs x with
  |some i=>if C.cs.mts.contains i then (if hm:m="extend" then (if yl C a then chk ((apos.endLine==cpos.line)&&!isStar a) λhq=>(cM C 60 a).map λA=>⟨.ext i A.f,λc w d d d d d q=>GC (bU c h) hm hq (A.ok c w.m) q⟩ else none)
   else cPs C (.Expr (.Call (.Attribute (.Name x p) m apos) [a] [] cpos) pos))else cXs C (.Call (.Attribute (.Name x p) m apos) [a] [] cpos) pos
  |none=>cXs C (.Call (.Attribute (.Name x p) m apos) [a] [] cpos) pos
 |.Expr v pos=>cXs C v pos
 |.Return (some e) _=>(cM C 60 e).map λA=>⟨.ret A.f,λc w d d d d d q=>GB (A.ok c w.m) q⟩
 |.If (.Compare a [op] [b] px) s s2 pos=>(rs s).bind λT=>(rs s2).bind λT2=>if yl C a then got (lF op) λo h=>chk (!isSet b) λhs=>(cM C 60 a).bind λA=>(cE 60 C.cs b).map λB=>⟨.ifm o A.f B.f T.f T2.f,λc w po d d d d q=>GD w.m h hs (A.ok c w.m) (B.ok c w.m.w) (T.ok c w po) (T2.ok c w po) q⟩
  else (cE 60 C.cs (.Compare a [op] [b] px)).map λA=>⟨.ifs A.f T.f T2.f,λc w po d d d d q=>CV (A.ok c w.m.w) (T.ok c w po) (T2.ok c w po) q⟩
 |.If t s s2 pos=>(rs s).bind λT=>(rs s2).bind λT2=>(cE 60 C.cs t).map λA=>⟨.ifs A.f T.f T2.f,λc w po d d d d q=>CV (A.ok c w.m.w) (T.ok c w po) (T2.ok c w po) q⟩
 |.For tg iter body [] _=>got (cTg C.cs tg) λt h=>(rs body).bind λB=>if LP C iter then chk (!isSet iter) λhs=>(cM C 60 iter).map λA=>⟨.form t A.f B.f,λc w po d d d d q=>Bz c h po hs (A.ok c w.m) (B.ok c w po) q⟩
  else (cI (cE 60) C.cs iter).map λA=>⟨.fors t A.f B.f,λc w po d d d d q=>GE c h po (A.ok c w.m.w) (B.ok c w po) q⟩
 |.Raise (some (.Call (.Name x _) (a::as) [] _)) none _=>chk (ah C.cs x) λhg=>got (C.xks.lookup x) λxc h=>(cMs C (cM C 60) (a::as)).map λA=>⟨.raise xc A.f,λc w d d d d d q=>yq c w hg h (A.ok c w.m) q⟩
 |.Try body [.ExceptHandler (some (.Name x _)) (some nm) [.Assign [.Name kk _] (.Name nm' _) _] _] [] [] _=>eqS nm' nm λhn=>chk (ah C.cs x&&az C.cs nm .local&&(bA nm&&!(x==("ValueError":Str)))) λhq=>got (C.cs.xcs.lookup x) λz h2=>got (iX C.cs nm) λj h3=>got (iX C.cs kk) λi h4=>if hij:i=j then none else (rs body).map λB=>⟨.try1 z.2 i j B.f,λc w po d d d d q=>GF c w po hn hq h2 h3 h4 hij B.ok q⟩
 |.While t body [] _=>(cE 60 C.cs t).bind λT=>(rs body).map λB=>⟨.whl T.f B.f,λc w po d d d d q=>GG po (T.ok c w.m.w) (B.ok c w po) q⟩
 |.Pass _=>some ⟨.pass,λd d d d d d d q=>by cases q;exact xT⟩
 |_=>none
noncomputable def IU(s:∀st,Option (Cmt C st)):(sts:List Stmt)->Option (Cms C sts)
 |[]=>some ⟨.nil,λa a a a a a a q=>by cases q;exact Bh⟩
 |st::sts=>(IU s sts).map λB=>
  let A:Cmt C st:=(s st).getD ⟨.pure .stuck,λa a a a a a a q=>nn q⟩
  ⟨.cons A.f B.f,λc w po Y U o U' q=>by
  obtain⟨⟨o1,U1⟩,q1,q⟩:=bS q;have A:=A.ok c w po q1;cases o1 with
  |nx Y1=>exact uE A (B.ok c w po q)
  |rt d=>cases q;exact uF A
  |exc x Y1=>cases q;exact uG A⟩
noncomputable def GI:Nat->(sts:List Stmt)->Option (Cms C sts)
 |0=>λa=>none
 |n+1=>IU C (GH C (GI n))
end
section
variable {O:FsM}{k:Nat}{V:oF}
structure GJ(P:Program)(w:World)(K:Fg)(mg:Str->Option Value)(base:Heap)(Z:Fs)(O:FsM)(Γ:List (Str×D))(V:oF)(k:Nat):Prop where
 m:Gj P w K mg base Z Γ V.fns (some V.c) V.vms V.xcs k
 fm:∀x,V.mfs.contains x=true->∀J,O x=some J->xQ P w K mg base V.c k x J
 vm:∀m,V.mms.contains m=true->∀J,O (ai m)=some J->FnVm P w K mg base V.c k m J/\J.lent.headD false=false/\m≠"objects"/\m≠"numbers"
 fv:∀x a,Γ.lookup x=some (.fn a)->V.mfs.contains x=true
 nw:∀X:Cx,X.prog=P->X.w=w->X.K=K->X.mg=mg->X.base=base->Room k X.A->Gl X V.vn->∀Y U p pos,EvM X V.c Y U (.Call (.Name V.vn p) [] [] pos) (.ok (.hdl U.length)) (U++[[]])
 xk:∀t x,V.xks.lookup t=some x->mg t=some (.ref x)/\∃newId initId,ExcBaseFacts "ValueError" newId initId bj/\PySem.W.excIn K x bj newId=true
 tr:∀(t:Str) x tab,t≠("ValueError":Str)->V.xcs.lookup t=some (x,tab)->∀e,tab.lookup e=some true->∃newId newIdT,PySem.W.excIn K e bj newId=true/\PySem.W.excIn K x bj newIdT=true/\fk K e x=true
noncomputable def jt(V:oF)(lent:List Bool)(st:Stmt):Option bz:=
 (bF st).bind λ(ps,body,sc)=>(GI (Br V ps body sc) 60 body).map λb=>{lent,slots:=(ps++ay sc ps).length,body:=b.f}
def qu{G:Hp}{d:Vd}{U:Ust}{dfn:bz}{vs:List L2.V}{C:Addr}(s:Same G (er H (parts d)))(r:Das K G (er H (parts d)) dfn.lent ds vs)(hl:ds.length=dfn.lent.length)(hs:dfn.slots=N.length)(hn:vs.length<=N.length)(v:VS P w K C G H d U):
  EnvM P w K C G H d G H d (start N vs) (startM dfn ds) U:=
 ⟨⟨G,_,Same.refl _,⟨Same.refl _,λa a h a=>h⟩,kM s r hl hs hn⟩,λa a h a=>h,List.prefix_refl _,v⟩
set_option tactic.hygienic true in
def qv{fd:FuncData}{ps:List Str}{dfn:bz}(F:Fun K x qual st f fd)(S:bt (ps++ay (defScope st) ps) ps (defScope st))(hp:bF st=some (ps,defBody st,defScope st))(hd:jt V lent st=some dfn)(hlen:lent.length=ps.length)
  (M:GJ P w K mg base Z O Γ V k):FnOk P w K mg base (CX1 P w) (k+1) f fd ps (Mur P w K V.c (runM Z O Γ V.c dfn)):=by
 unfold jt at hd;rw[hp,bs0]at hd;obtain⟨b,hb,rfl⟩:=mx0 (show (GI (Br V ps (defBody st) (defScope st)) 60 (defBody st)).map _=some dfn from hd);obtain⟨oc,od,kV,doc,pm,an,cdv,ct,osl,rfl,lk,hcd⟩:=F.ex;refine vV (CX:=CX1 P w) lk hcd S (λvs H Q E h=>?_) (λA outer s H vs Q E hr h=>?_)
 .obtain⟨ds,U,U',r,G,d,h1,_,das,_⟩:=h
  have h1:(if ds.length=lent.length then _ else .none)=some (U',r):=h1;split at h1
  .rename_i hl;rw[<-das.length,hl,hlen]
  .cases h1
 .obtain⟨ds,U,U',r,G,d,h1,sm,das,vs',kq⟩:=h
  have h1:(if ds.length=lent.length then (br Z O Γ V.c (startM ⟨lent,(ps++ay (defScope st) ps).length,b.f⟩ ds) U b.f).map λq=>(q.2,oE q.1)else .none)=some (U',r):=h1;split at h1
  .rename_i hl
   obtain⟨⟨o,U1⟩,h2,h3⟩:=mx0 h1;have hpre:=congrArg List.length S.pre;rw[List.length_take]at hpre;have C:CxC (dH (CX1 P w) P w K mg base (ps++ay (defScope st) ps) qual (defScope st) f cdv A outer s H E) (Br V ps (defBody st) (defScope st)).cs:=by
    refine⟨rfl,S.nd,λy kd e ek=>?_,λy kd e ek=>⟨?_,.inl rfl⟩,λy e=>e,λy e=>e,rfl,S.kind⟩
    .rcases ek with rfl|rfl|rfl
     .exact .inl e
     .exact .inr (.inl e)
     .exact .inr (.inr e)
    .rcases ek with rfl|rfl
     .exact .inl e
     .exact .inr e
   have W:WzT (dH (CX1 P w) P w K mg base (ps++ay (defScope st) ps) qual (defScope st) f cdv A outer s H E) Z O Γ (Br V ps (defBody st) (defScope st)) k:=
    ⟨⟨⟨M.m.blt,M.m.fns,M.m.gl,hr,M.m.vcl,M.m.vf,M.m.xc⟩,M.fm,M.vm,M.fv,M.nw⟩,λt x h=>⟨(M.xk t x h).1,(M.xk t x h).2⟩,M.tr,λy e=>e,⟨rfl,rfl,rfl⟩⟩
   have body:=b.ok C W PassesOwn.leaving h2;refine⟨_,body,G,H,d,G,d,qu (N:=ps++ay (defScope st) ps) (dfn:=⟨lent,(ps++ay (defScope st) ps).length,b.f⟩) sm das hl rfl (by rw[<-das.length,hl,hlen];omega) vs',?_⟩;cases h3;cases o with
   |nx Y'=>exact λG' H' d' σ' env a=>kq .non G' H' d' env.start env.vs .none
   |rt e=>exact λv G' H' d' m v' dv=>kq v G' H' d' m v' dv
   |exc x Y'=>exact λG' H' d' σ' env a pins ea s' I fl=>uC I fl (kq G' H' d' env.start env.vs)
  .cases h1
structure oI(K:Fg)(mg:Str->Option Value)(V:oF)(x:Str)(d:bz):Prop where
 ex:∃st f fd ps,Fun K x x st f fd/\mg x=some (.ref f)/\Binds K fd ps []/\bt (ps++ay (defScope st) ps) ps (defScope st)/\bF st=some (ps,defBody st,defScope st)/\jt V d.lent st=some d/\d.lent.length=ps.length
structure oJ(K:Fg)(V:oF)(m:Str)(d:bz):Prop where
 nm:m≠"objects"/\m≠"numbers"
 hd:d.lent.headD false=false
 ex:∃st f fd ps qual,Fun K m qual st f fd/\Cls K V.c/\iR K V.c m f/\Binds K fd ps []/\bt (ps++ay (defScope st) ps) ps (defScope st)/\bF st=some (ps,defBody st,defScope st)/\jt V d.lent st=some d/\d.lent.length=ps.length
theorem FnZ.mono{x}{J}{j}(F:FnZ P w K mg base j x J)(h:j<=k):FnZ P w K mg base k x J:=by
 obtain⟨f,fd,ps,h1,h2,h3,h4⟩:=F.ex;exact⟨⟨f,fd,ps,h1,h2,h3,h4.mono h⟩⟩
theorem FnZv.mono{c}{m}{J}{j}(F:FnZv P w K mg base j c m J)(h:j<=k):FnZv P w K mg base k c m J:=by
 obtain⟨f,fd,ps,h1,h2,h3⟩:=F.ex;exact⟨F.nm,⟨f,fd,ps,h1,h2,h3.mono h⟩⟩
theorem FnVm.mono{c}{m}{J}{j}(F:FnVm P w K mg base c j m J)(h:j<=k):FnVm P w K mg base c k m J:=by
 obtain⟨f,fd,ps,h1,h2,h3,h4⟩:=F.ex;exact⟨⟨f,fd,ps,h1,h2,h3,h4.mono h⟩⟩
structure yr(P:Program)(w:World)(K:Fg)(mg:Str->Option Value)(base:Heap)(O0:FsM)(V:oF):Prop where
 nw:∀X:Cx,X.prog=P->X.w=w->X.K=K->X.mg=mg->X.base=base->Room 2 X.A->Gl X V.vn->∀Y U p pos,EvM X V.c Y U (.Call (.Name V.vn p) [] [] pos) (.ok (.hdl U.length)) (U++[[]])
 vm:∀m J,O0 (ai m)=some J->FnVm P w K mg base V.c 2 m J/\J.lent.headD false=false/\m≠"objects"/\m≠"numbers"
 nf:∀x,V.mfs.contains x=true->O0 x=Option.none
 xk:∀t x,V.xks.lookup t=some x->mg t=some (.ref x)/\∃newId initId,ExcBaseFacts "ValueError" newId initId bj/\PySem.W.excIn K x bj newId=true
 tr:∀(t:Str) x tab,t≠("ValueError":Str)->V.xcs.lookup t=some (x,tab)->∀e,tab.lookup e=some true->∃newId newIdT,PySem.W.excIn K e bj newId=true/\PySem.W.excIn K x bj newIdT=true/\fk K e x=true
theorem fR{prog}{progM}{O0}(B:Base K mg Γ (some V.c) V.xcs)(BM:yr P w K mg base O0 V)(fv:∀x a,Γ.lookup x=some (.fn a)->V.mfs.contains x=true)
  (defs:∀x d,V.fns.contains x=true->prog.lookup x=some d->uz K mg V.fns V.cst (some V.c) V.vms V.xcs x d)
  (mets:∀c m d,some V.c=some c->V.vms.contains m=true->prog.lookup (ai m)=some d->uA K V.fns V.cst c V.vms V.xcs m d)
  (defm:∀x d,V.mfs.contains x=true->progM.lookup x=some d->oI K mg V x d)
  (metm:∀m d,V.mms.contains m=true->progM.lookup (ai m)=some d->oJ K V m d):
  ∀k x J,jO O0 prog progM Γ V.c k x=some J->(V.mfs.contains x=true->xQ P w K mg base V.c (k+2) x J)/\∀m,x=ai m->V.mms.contains m=true->FnVm P w K mg base V.c (k+2) m J/\J.lent.headD false=false/\m≠"objects"/\m≠"numbers"
 |0,x,J,h=>by
  have h:O0 x=some J:=h;refine⟨λhx=>(by rw[BM.nf x hx]at h;cases h),λm e hm=>?_⟩;subst e;exact BM.vm m J h
 |k+1,x,J,h=>by
  have h:(match O0 x with|some J=>some J|.none=>(progM.lookup x).map (runM (den prog Γ k) (jO O0 prog progM Γ V.c k) Γ V.c))=some J:=h;cases q:O0 x with
  |some J'=>
   rw[q]at h;cases h;refine⟨λhx=>(by rw[BM.nf x hx]at q;cases q),λm e hm=>?_⟩;subst e;obtain⟨h1,h2⟩:=BM.vm m J q;exact⟨h1.mono (by simp_all),h2⟩
  |none=>
   rw[q]at h;obtain⟨d,h1,rfl⟩:=mx0 h;have M:GJ P w K mg base (den prog Γ k) (jO O0 prog progM Γ V.c k) Γ V (k+2):=
    ⟨⟨B.blt,λy hy J' q=>((eD B defs mets k y J' q).1 hy).mono (by simp_all),B.gl,B.vcl,λc m hc hm J' q=>((eD B defs mets k _ J' q).2 c m rfl hc hm).mono (by simp_all),B.xc⟩,
     λy hy J' q=>(fR B BM fv defs mets defm metm k y J' q).1 hy,λm hm J' q=>(fR B BM fv defs mets defm metm k _ J' q).2 m rfl hm,fv,λX e1 e2 e3 e4 e5 r g=>BM.nw X e1 e2 e3 e4 e5 (r.mono (by simp_all)) g,BM.xk,BM.tr⟩
   refine⟨λhx=>?_,λm e hm=>?_⟩
   .obtain⟨st,f,fd,ps,F,hm,hb,S,hp,hd,hl⟩:=(defm x d hx h1).ex
    exact⟨⟨f,fd,ps,hm,F.kp,hb,qv F S hp hd hl M⟩⟩
   .subst e
    have Z:=metm m d hm h1;obtain⟨st,f,fd,ps,qual,F,hc,hme,hb,S,hp,hd,hl⟩:=Z.ex;exact⟨⟨⟨f,fd,ps,hc,hme,hb,qv F S hp hd hl M⟩⟩,Z.hd,Z.nm⟩
def BA{prog}{progM}{O0}(B:Base K mg Γ (some V.c) V.xcs)(BM:yr P w K mg base O0 V)(fv:∀x a,Γ.lookup x=some (.fn a)->V.mfs.contains x=true)
  (defs:∀x d,V.fns.contains x=true->prog.lookup x=some d->uz K mg V.fns V.cst (some V.c) V.vms V.xcs x d)
  (mets:∀c m d,some V.c=some c->V.vms.contains m=true->prog.lookup (ai m)=some d->uA K V.fns V.cst c V.vms V.xcs m d)
  (defm:∀x d,V.mfs.contains x=true->progM.lookup x=some d->oI K mg V x d)
  (metm:∀m d,V.mms.contains m=true->progM.lookup (ai m)=some d->oJ K V m d) (k:Nat):GJ P w K mg base (den prog Γ k) (jO O0 prog progM Γ V.c k) Γ V (k+2):=
 ⟨⟨B.blt,λy hy J' q=>((eD B defs mets k y _ q).1 hy).mono (by omega),B.gl,B.vcl,λc m hc hm J' q=>((eD B defs mets k _ _ q).2 c m rfl hc hm).mono (by omega),B.xc⟩,
  λy hy J' q=>(fR B BM fv defs mets defm metm k y _ q).1 hy,λm hm J' q=>(fR B BM fv defs mets defm metm k _ _ q).2 m rfl hm,fv,λX e1 e2 e3 e4 e5 r g=>BM.nw X e1 e2 e3 e4 e5 (r.mono (by omega)) g,BM.xk,BM.tr⟩
end
noncomputable def qw(K:Fg):Sp:=λvs H Q E=>xI K vs H Q E/\∀a C dx fs,H a≠some (.ins C dx fs)
def BB{P}{w}{mg}{base}{k}{f C}{fd}{ps}{J}(F:FnOk P w K mg base (CX1 P w) k f fd ps (Mur P w K C J))(hfl:J.lent=[true])
  (h:∀ns:List Int,ns.length<=63->∃U,J.run [] [.scr ns]=some (U,.ok (.bool true))):FnOk P w K mg base CX0 k f fd ps (qw K):=by
 have key:∀vs H Q (E:XK),(xI K vs H Q E/\∀a C dx fs,H a≠some (.ins C dx fs))->Mur P w K C J vs H Q E0:=λvs H Q E q=>by
  obtain⟨⟨a,ns,rfl,hS,hl,q⟩,ni⟩:=q;obtain⟨U,hU⟩:=h ns hl;have he:er H (parts [])=H:=rfl;exact⟨_,[],U,_,H,[],hU,Same.refl _,by rw[hfl,he];exact .cons (λz=>by cases z) (.of (.scr hS)) .nil,⟨rfl,by simp[parts],λh a l n z=>by simp at z,λa C' dx fs z=>(ni a C' dx fs z).elim,λb hb=>by simp[parts]at hb⟩,λv G' H' d' c c r=>by cases r;exact q H'⟩
 refine⟨λvs H Q E q=>F.len vs H Q E0 (key vs H Q E q),λA outer s H args us vs Q E hr e0 hb r q=>?_⟩;refine codeAny_mono (F.run A outer s H args us vs Q E0 hr e0 hb r (key vs H Q E q)) λr s' z=>?_
 cases r with
 |ok fl=>cases fl<;>exact z
 |error e=>
  obtain⟨_,_,_,_,_,_,_,_,_,_,_,_,_,z⟩:=(z);exact z
section
variable {G:Hp}
def BC(I:Inv X pins σ H s){n}(ih:∀(d:D)(v:V)(u:Value),Dp X.K G d v->RelV v u->okK n d=true->IsK s.heap n d u):
  ∀{vs:List V}{us:List Value}{ds:List D},Vals vs us->Dps X.K G ds vs->ds.all (okK n)=true->IsKs s.heap n ds us:=by
 intro vs us ds r
 induction r generalizing ds with
 |nil=>intro q _;cases q;exact .nil
 |cons r1 _ ih2=>
  intro q z;cases q with
  |cons q1 q2=>
   rw[List.all_cons,be0]at z;exact .cons (ih _ _ _ q1 r1 z.1) (ih2 q2 z.2)
def lY(I:Inv X pins σ H s)(sm:Same G H):∀(n:Nat)(d:D)(v:V)(u:Value),Dp X.K G d v->RelV v u->okK n d=true->IsK s.heap n d u:=by
 intro n
 induction n with
 |zero=>
  intro d v u h r o;cases h with
  |int i=>obtain⟨t,rfl⟩:=r;exact .int i t
  |str x hx=>obtain⟨t,rfl⟩:=r;exact .str x t hx
  |_=>cases o
 |succ n ih=>
  intro d v u h r o;cases h with
  |int i=>obtain⟨t,rfl⟩:=r;exact .int i t
  |str x hx=>obtain⟨t,rfl⟩:=r;exact .str x t hx
  |tuple q p=>
   cases r;obtain⟨its,rv,⟨ob,e1,e2,m,e3⟩,_⟩:=I.tuple (SqT.of (sm _ _ q));exact .tup e1 e2 e3 (BC I ih rv p o)
  |_=>cases o
theorem gX:∀{k:Nat}{xs:List (D×Addr×Value)}{as:List Addr}{ds:List D},eU k xs as ds->xs.length=ds.length/\as.length=ds.length
 |_,_,_,_,.nil=>⟨rfl,rfl⟩
 |_,_,_,_,.cons r=>⟨by rw[lc0,lc0,(gX r).1],by rw[lc0,lc0,(gX r).2]⟩
def yt{h}{G}{K}(one:∀(d:D)(a:Addr),Dp K G d (.ref a)->okK 8 d=true->IsK h 8 d (.ref a)):∀{k:Nat}{xs:List (D×Addr×Value)}{as:List Addr}{ds:List D},eU k xs as ds->Dps K G ds (as.map .ref)->(∀d∈ds,okK 8 d=true/\jN d=true)->∀x∈xs,IsK h 8 x.1 (.ref x.2.1):=by
 intro k xs as ds n
 induction n with
 |nil=>exact λb b b z=>by cases z
 |cons r ih=>
  intro q hk x hx;cases q with
  |cons d1 d2=>
   rcases mq0 hx with rfl|hx
   .exact one _ _ d1 (hk _ ms0).1
   .exact ih d2 (λd hd=>hk d (mc0 _ hd)) x hx
theorem numXs_at{d}:∀{k:Nat}{xs:List (D×Addr×Value)}{as:List Addr}{ds:List D},eU k xs as ds->(ds.idxOf? d=.none/\atKey xs d=.none)\/∃j a t,ds.idxOf? d=some j/\atKey xs d=some (a,.int ((k+j:Nat):Int) t)
 |_,_,_,_,.nil=>.inl ⟨rfl,rfl⟩
 |k,_,_,_,.cons (d:=e) r=>by
  unfold atKey;rw[List.find?_cons,List.idxOf?_cons]
  by_cases c:e=d
  .simp_all
  .rw[df0 c,bn0 c]
   rcases numXs_at r with⟨q1,q2⟩|⟨j,a',t',q1,q2⟩
   .exact .inl ⟨by rw[q1];rfl,q2⟩
   .refine .inr ⟨j+1,a',t',by rw[q1];rfl,?_⟩
    rwa [show k+(j+1)=k+1+j by omega]
theorem kR{d}{a}{t}:∀{k:Nat}{xs:List (D×Addr×Value)}{as:List Addr}{ds:List D},eU k xs as ds->eU k (xs++[(d,a,.int ((k+ds.length:Nat):Int) t)]) (as++[a]) (ds++[d])
 |k,_,_,_,.nil=>.cons .nil
 |k,_,_,_,.cons (ds:=ds) r=>by
  have:=kR (d:=d) (a:=a) (t:=t) r;rw[show k+1+ds.length=k+(ds.length+1) by grind]at this;exact .cons this
def ju{n}{as:List Addr}{objs}(I:Inv X pins σ H s)(sm:Same G H)(hn:H n=some (.ext (cu X.prog X.w n as objs)))(dp:Dps X.K G objs (as.map .ref))(hk:∀d∈objs,okK 8 d=true/\jN d=true):
  (n==sysModules)=false/\objs.length<=1000000/\∃xs,eU 0 xs as objs/\s.heap.DictOfH (ot X.prog X.w) n xs:=by
 obtain⟨⟨h1,xs,nx,hl,o,es,ep,ho,hx,hd,he,nd⟩,_⟩:=(I.hok n _ hn);exact⟨h1,hl,xs,nx,o,es,ep,ho,hx,hd,he,yt (λd a q o=>lY I sm 8 d _ _ q rfl o) nx dp hk,nd⟩
def Vat(X:Cx)(G H:Hp)(x y:V)(d:D)(n:Addr)(as:List Addr)(objs:List D):Prop:=
 y=.ref n/\Same G H/\Dp X.K G d x/\okK 8 d=true/\jN d=true/\H n=some (.ext (cu X.prog X.w n as objs))/\Dps X.K G objs (as.map .ref)/\∀d∈objs,okK 8 d=true/\jN d=true
def jv{K}{d}{x}(h:Dp K G d x)(t:jN d=true):∃a,x=.ref a:=by
 cases h<;>first|exact⟨_,rfl⟩|cases t
def uU(hu:X.A.units+100<cLine):OpR X (compareOp .NotIn) (λx y H Q=>∃G d n as objs,Vat X G H x y d n as objs/\Q (.bl (objs.idxOf? d).isNone) H):=by
 intro pins s σ H x y v u Q I rx ry h;obtain⟨G,d,n,as,objs,⟨rfl,sm,dx,ok,tp,hn,dp,hk⟩,q⟩:=h;obtain⟨a,rfl⟩:=jv dx tp;cases ry;cases rx;obtain⟨h1,hl,xs,nx,dd⟩:=ju I sm hn dp hk;refine wpAny_notIn_heap (show X.A.units+1+64<cLine by omega) (lY I sm 8 d _ _ dx rfl ok) h1 dd ⟨.bl _,H,I.tok _,rfl,?_⟩;rcases numXs_at nx with⟨q1,q2⟩|⟨j,a',t,q1,q2⟩
 .rw[q1]at q;rwa [q2]
 .rw[q1]at q;rwa [q2]
def LR(hu:X.A.units+100<cLine):IxR X (λx y H Q=>∃G d n as objs j,Vat X G H y x d n as objs/\objs.idxOf? d=some j/\Q (.int (j:Nat)) H):=by
 intro value slice pins s σ H x y v u Q I rx ry h hs;obtain⟨G,d,n,as,objs,j,⟨rfl,sm,dx,ok,tp,hn,dp,hk⟩,hj,q⟩:=h;obtain⟨a,rfl⟩:=jv dx tp;cases ry;cases rx;obtain⟨h1,hl,xs,nx,dd⟩:=ju I sm hn dp hk;rcases numXs_at (d:=d) nx with⟨q1,q2⟩|⟨j',a',t,q1,q2⟩
 .simp_all
 .rw[hj]at q1
  cases q1;refine tail_any dd.typeIs PySem.F.slot_dict_getitem.lookup (wpAny_getItem_heap (by omega:X.A.units+1+64<cLine) (lY I sm 8 d _ _ dx rfl ok) dd q2 ⟨.int _,H,I.tok _,⟨t,?_⟩,q⟩) hs;rw[Nat.zero_add]
def IV(hu:X.A.units+100<cLine):zK X (λo i v H Q=>∃G d n as objs a,Vat X G H i o d n as objs/\i=.ref a/\objs.idxOf? d=.none/\objs.length<1000000/\v=.int (objs.length:Nat)/\Q (upd H n (.ext (cu X.prog X.w n (as++[a]) (objs++[d]))))):=by
 intro pins s σ H o i v ov iv u Q I ro ri rv h;obtain⟨G,d,n,as,objs,a,⟨rfl,sm,dx,ok,tp,hn,dp,hk⟩,rfl,hj,hlt,rfl,q⟩:=h;cases ro;cases ri;obtain⟨t,rfl⟩:=rv;obtain⟨h1,hl,xs,nx,dd⟩:=ju I sm hn dp hk;have hz:xs.length<=sizeLine:=by rw[(gX nx).1,sizeLine_eq];grind
 rcases numXs_at (d:=d) nx with⟨q1,q2⟩|⟨j',a',t',q1,q2⟩
 .refine wpAny_setItem_heap (hsz:=hz) (by grind:X.A.units+1+64<cLine) (lY I sm 8 d _ _ dx rfl ok) dd λh' dd' hs=>⟨_,?_,q⟩
  obtain⟨ob,es,ep,hq,h2,h3,h4,_,h5⟩:=dd';rw[storedH_new q2]at h4 h5;have nx':=kR (d:=d) (a:=a) (t:=t) nx;rw[Nat.zero_add]at nx';exact I.write (t':=_) (by rw[hn];exact True.intro) (.inl rfl) (λb w hb e=>(hs.2 b hb).trans e) ⟨ob,hq⟩ ⟨⟨h1,_,nx',by simp;grind,ob,es,ep,hq,h2,h3,h4,h5⟩,⟨ob,hq⟩,λh1' h2' ⟨y1,ys,y2,y3,yo,yes,yep,y4,y5⟩ k=>⟨y1,ys,y2,y3,yo,yes,yep,k yo y4,y5⟩⟩
 .rw[hj]at q1;cases q1
end
noncomputable def jw(U:Ust):List D->Option (Ust×R)
 |[.hdl h,d]=>(U[h]?).bind λobjs=>if okK 8 d&&jN d&&decide (objs.length<1000000)then (match objs.idxOf? d with
  |some j=>some (U,.ok (.int (j:Nat)))
  |none=>some (U.set h (objs++[d]),.ok (.int (objs.length:Nat))))else none
 |_=>none
noncomputable def iq:FnM:=⟨[false,false],jw⟩
set_option tactic.hygienic true in
theorem kS{d}:∀{os:List D},os.idxOf? d=.none->(os++[d]).idxOf? d=some os.length
 |[],_=>by simp
 |o::r,h=>by
  rw[List.idxOf?_cons]at h;rw[List.cons_append,List.idxOf?_cons];split at h
  .cases h
  .rename_i c
   rw[if_neg c];cases q:r.idxOf? d with
   |some j=>simp_all
   |none=>rw[kS q];rfl
def VS.put{P}{w}{K}{C}{G H}{dd}{U:Ust}(v:VS P w K C G H dd U)(sm:Same G (er H (parts dd))){h}{a l n dx b:Addr}{objs}{as}{d}(e:dd[h]?=some (a,l,n))(hU:U[h]?=some objs)(hl:H l=some (.lst (as.map .ref)))
  (hn:H n=some (.ext (cu P w n as objs))) (dp:Dps K G objs (as.map .ref)) (hk:∀d∈objs,okK 8 d=true/\jN d=true) (dv:Dp K G d (.ref b)) (ok:okK 8 d=true) (tp:jN d=true):
  MExt G H dd G (upd (upd H n (.ext (cu P w n (as++[b]) (objs++[d])))) l (.lst ((as++[b]).map .ref))) dd/\VS P w K C G (upd (upd H n (.ext (cu P w n (as++[b]) (objs++[d])))) l (.lst ((as++[b]).map .ref))) dd (U.set h (objs++[d])):=by
 obtain⟨ml,mn⟩:=gT e;have nln:n≠l:=λz=>by subst z;rw[hl]at hn;cases hn
 have out:∀c,c∉parts dd->upd (upd H n (.ext (cu P w n (as++[b]) (objs++[d])))) l (.lst ((as++[b]).map .ref)) c=H c:=λc hc=>by
  have c1:c≠l:=λz=>hc (by rw[z];exact ml)
  have c2:c≠n:=λz=>hc (by rw[z];exact mn)
  rw[aa c1,aa c2]
 have ere:er (upd (upd H n (.ext (cu P w n (as++[b]) (objs++[d])))) l (.lst ((as++[b]).map .ref))) (parts dd)=er H (parts dd):=by
  funext c
  by_cases hc:c∈parts dd
  .rw[kN hc,kN hc]
  .rw[aL hc,aL hc,out c hc]
 have hlen:=(gi0 hU).1;refine⟨⟨Same.refl _,by rw[ere];exact Same.refl _,by rw[ere];exact sm,λf f h f=>h,List.prefix_refl _,λc o hc=>?_⟩,⟨by rw[v.len];simp,v.nd,λh' a' l' n' e'=>?_,λc C' dx' fs q=>?_,v.out⟩⟩
 .by_cases c1:c=l
  .subst c1;exact⟨_,upd_same⟩
  .rw[aa c1]
   by_cases c2:c=n
   .subst c2;exact⟨_,upd_same⟩
   .rw[aa c2];exact⟨o,hc⟩
 .obtain⟨dx',objs',q1,q2,q3,as',q4,q5,q6,q7⟩:=v.at' h' a' l' n' e'
  have hdx:upd (upd H n (.ext (cu P w n (as++[b]) (objs++[d])))) l (.lst ((as++[b]).map .ref)) dx'=some (.own a'):=by
   have c1:dx'≠l:=λz=>by rw[z,hl]at q3;cases q3
   have c2:dx'≠n:=λz=>by rw[z,hn]at q3;cases q3
   rw[aa c1,aa c2];exact q3
  by_cases hh:h'=h
  .subst hh
   rw[e]at e';cases e';rw[hU]at q1;cases q1;rw[hl]at q4;have eas:as'=as:=by
    have z:=HO.lst.inj (Option.some.inj q4);exact (List.map_inj_right (λf f z=>V.ref.inj z)).mp z.symm
   subst eas;refine⟨dx',objs++[d],by rw[gs0 hlen],q2,hdx,as'++[b],upd_same,by rw[List.map_append];exact q5.append (.one dv),by rw[aa nln];exact upd_same,λy hy=>?_⟩;rcases ma0 hy with hy|hy
   .exact hk y hy
   .obtain rfl:y=d:=by simpa using hy
    exact⟨ok,tp⟩
  .have ap:l'≠l/\l'≠n/\n'≠l/\n'≠n:=by
    have key:∀(dd:Vd)(i j:Nat)(p q:Addr×Addr×Addr),(parts dd).Nodup->i<j->dd[i]?=some p->dd[j]?=some q->∀x∈[p.2.1,p.2.2],∀y∈[q.2.1,q.2.2],x≠y:=by
     intro dd
     induction dd with
     |nil=>intro i j p q _ _ h1;simp at h1
     |cons r rs ih=>
      intro i j p q nd hij h1 h2 x hx y hy;have nd2:=nd;obtain⟨n1,n2,n3⟩:=List.nodup_append.mp nd2;cases i with
      |zero=>
       cases j with
       |zero=>exact absurd hij (li0 _)
       |succ j=>
        simp at h1;subst h1;exact n3 x hx y (List.mem_flatMap.mpr ⟨q,mg0 (by simpa using h2),hy⟩)
      |succ i=>
       cases j with
       |zero=>exact absurd hij (Nat.not_lt_zero _)
       |succ j=>exact ih i j p q n2 (by grind) (by simpa using h1) (by simpa using h2) x hx y hy
    rcases Nat.lt_or_gt_of_ne hh with c|c
    .have k2:=key dd h' h _ _ v.nd c e' e
     exact⟨k2 _ (by simp) _ (by simp),k2 _ (by simp) _ (by simp),k2 _ (by simp) _ (by simp),k2 _ (by simp) _ (by simp)⟩
    .have k2:=key dd h h' _ _ v.nd c e e'
     exact⟨(k2 _ (by simp) _ (by simp)).symm,(k2 _ (by simp) _ (by simp)).symm,(k2 _ (by simp) _ (by simp)).symm,(k2 _ (by simp) _ (by simp)).symm⟩
   obtain⟨a1,a2,a3,a4⟩:=ap;exact⟨dx',objs',by rw[gn0 (Ne.symm hh)];exact q1,q2,hdx,as',by rw[aa a1,aa a2];exact q4,q5,by rw[aa a3,aa a4];exact q6,q7⟩
 .have:H c=some (.ins C' dx' fs):=by
   by_cases c1:c=l
   .subst c1;rw[upd_same]at q;cases q
   .rw[aa c1]at q
    by_cases c2:c=n
    .subst c2;rw[upd_same]at q;cases q
    .rw[aa c2]at q;exact q
  exact v.uni c C' dx' fs this
structure yu(st:Stmt):Prop where
 ex:∃p1 p2 p3 p4 p5 p6 p7 p8 p9 p10 p11 p12 p13 p14 p15 p16 p17 p18 p19 p20 p21 p22 p23 p24 p25:Pos,(p16.endLine==p18.line)=true/\defBody st =
  [.If (.Compare (.Name "made" p1) [.NotIn] [.Attribute (.Name "self" p2) "numbers" p3] p4)
   [.Assign [.Subscript (.Attribute (.Name "self" p5) "numbers" p6) (.Name "made" p7) p8] (.Call (.Name "len" p9) [.Attribute (.Name "self" p10) "objects" p11] [] p12) p13,
    .Expr (.Call (.Attribute (.Attribute (.Name "self" p14) "objects" p15) "append" p16) [.Name "made" p17] [] p18) p19] [] p20,
   .Return (some (.Subscript (.Attribute (.Name "self" p21) "numbers" p22) (.Name "made" p23) p24)) p25]
 gl:(defScope st).names.lookup ("len":Str)=some NameKind.globalImplicit
set_option tactic.hygienic true in
def GK{P}{w}{mg}{base}{C}{x qual}{st}{f}{fd}(F:Fun K x qual st f fd)(S:bt ["self","made"] ["self","made"] (defScope st))(T:yu st)(hlen:mg "len"=none)(hc:Cls K C)(h1:NoAttr K C "objects")(h2:NoAttr K C "numbers"):
  FnOk P w K mg base (CX1 P w) 2 f fd ["self","made"] (Mur P w K C iq):=by
 obtain⟨oc,od,kV,doc,pm,an,cdv,ct,osl,rfl,lk,hcd⟩:=F.ex;obtain⟨p1,p2,p3,p4,p5,p6,p7,p8,p9,p10,p11,p12,p13,p14,p15,p16,p17,p18,p19,p20,p21,p22,p23,p24,p25,hline,hbody⟩:=T.ex;refine vV (CX:=CX1 P w) lk hcd S (λvs H Q E h=>?_) (λA outer s H vs Q E hr h=>?_)
 .obtain⟨ds,U,U',r,G,d,h1,_,das,_⟩:=h
  have:ds.length=2:=by
   match ds,h1 with
   |[.hdl h,d],_=>rfl
  rw[<-das.length,this];rfl
 .obtain⟨ds,U,U',r,G,dd,hrun,sm,das,v,kq⟩:=h
  have sm':=sm.trans au;have hu:(dH (CX1 P w) P w K mg base ["self","made"] qual (defScope st) f cdv A outer s H E).A.units+100<cLine:=by have:=hr.un;show (A.deeper _).units+100<_;omega
  have vself:∀p:Pos,PE (dH (CX1 P w) P w K mg base ["self","made"] qual (defScope st) f cdv A outer s H E) (.Name "self" p) (vD 0):=λp=>cm rfl ((S.par "self" (by simp)).elim .inl λz=>.inr (.inl z))
  have vmade:∀p:Pos,PE (dH (CX1 P w) P w K mg base ["self","made"] qual (defScope st) f cdv A outer s H E) (.Name "made" p) (vD 1):=λp=>cm rfl ((S.par "made" (by simp)).elim .inl λz=>.inr (.inl z))
  have num:=λ(p q:Pos)=>pI (pos:=q) (f:="numbers") (vself p) rfl
  have obs:=λ(p q:Pos)=>pI (pos:=q) (f:="objects") (vself p) rfl
  rw[hbody];refine⟨_,aV (jQ (pos:=p20) (iy (pos:=p4) (uU hu) (vmade p1) (num p2 p3) rfl)
   (aV (pA (pos:=p13) (aX (p:=p9) (pos:=p12) lA T.gl hlen PySem.boot_len (ar (obs p10 p11) aD)) (pw (pos:=p8) (num p5 p6) (vmade p7) (IV hu)))
    (aV (eu (pos:=p19) (jX (apos:=p16) (cpos:=p18) PySem.F.plainAttrs_list PySem.F.slot_list_append PySem.F.type_list_append gy (obs p14 p15) (ar (vmade p17) aD) rfl rfl hline)) eg)) eg)
   (aV (lr (pos:=p25) (jW (pos:=p24) (LR hu) (num p21 p22) (vmade p23) λc c=>rfl)) eg),?_⟩
  match ds,hrun,das with
  |[.hdl h,d],hrun,das=>
   obtain⟨va,vb,rfl,da,db⟩:=das.two;have da:=da.dp rfl;obtain⟨objs,hU,hrun⟩:=bx0 (hrun:(U[h]?).bind _=some (U',r));split at hrun
   .rename_i hq
    simp only[be0,decide_eq_true_eq]at hq;obtain⟨⟨ok,tp⟩,hlt⟩:=hq;have db:=db.dp (by cases d<;>first|rfl|cases tp);obtain⟨b,rfl⟩:=jv db tp;obtain⟨a,l,n,dx,objs',rfl,e,hU',hG,hdx,as,hl,dp,hn,hk⟩:=v.hdl sm' da;rw[hU]at hU';cases hU';have hlo:(vfs l n h).lookup ("objects":Str)=some (V.ref l):=rfl;have hln:(vfs l n h).lookup ("numbers":Str)=some (V.ref n):=rfl;have fself:(start ["self","made"] [V.ref a,V.ref b])[0]?=some (some (.ref a)):=rfl;have fmade:(start ["self","made"] [V.ref a,V.ref b])[1]?=some (some (.ref b)):=rfl;have aslen:as.length=objs.length:=by have:=dp.length;simpa using this.symm
    refine⟨.ref b,fmade,.ref a,fself,a,C,dx,_,_,rfl,sm' _ _ hG,hc,h2,hln,G,d,n,as,objs,⟨rfl,sm',db,ok,tp,hn,dp,hk⟩,?_⟩;cases hj:objs.idxOf? d with
    |some j=>
     rw[hj]at hrun;cases hrun;refine⟨false,rfl,jG ⟨.ref a,fself,a,C,dx,_,_,rfl,sm' _ _ hG,hc,h2,hln,.ref b,fmade,G,d,n,as,objs,j,⟨rfl,sm',db,ok,tp,hn,dp,hk⟩,hj,?_⟩⟩;exact kq _ G H dd (.refl sm) v (.int _)
    |none=>
     rw[hj]at hrun;cases hrun;have nln:n≠l:=λz=>by subst z;rw[hl]at hn;cases hn
     have anl:a≠l:=λz=>by rw[z]at hG;rw[sm' _ _ hG]at hl;cases hl
     have ann:a≠n:=λz=>by rw[z]at hG;rw[sm' _ _ hG]at hn;cases hn
     refine⟨true,rfl,jH ?_⟩;refine⟨.ref a,fself,a,C,dx,_,_,rfl,sm' _ _ hG,hc,h1,hlo,l,as.map .ref,rfl,.inl (SqL.of hl),.ref a,fself,a,C,dx,_,_,rfl,sm' _ _ hG,hc,h2,hln,.ref b,fmade,G,d,n,as,objs,b,⟨rfl,sm',db,ok,tp,hn,dp,hk⟩,rfl,hj,hlt,by rw[lm0,aslen],?_⟩;obtain⟨mx,v2⟩:=v.put sm (dx:=dx) e hU hl hn dp hk db ok tp;refine⟨.ref a,fself,a,C,dx,_,_,rfl,by rw[aa ann];exact sm' _ _ hG,hc,h1,hlo,.inl ⟨rfl,as.map .ref,SqL.of (by rw[aa (Ne.symm nln)];exact hl)⟩,.ref b,fmade,l,as.map .ref,.ref b,rfl,rfl,by rw[aa (Ne.symm nln)];exact hl,by rw[lm0,aslen,sizeLine_eq];omega,?_⟩;have eas:(as.map V.ref++[V.ref b])=(as++[b]).map V.ref:=by simp
     rw[eas];have sm2:=mx.gh.trans au;refine⟨.ref a,fself,a,C,dx,_,_,rfl,sm2 _ _ hG,hc,h2,hln,.ref b,fmade,G,d,n,as++[b],objs++[d],objs.length,⟨rfl,sm2,db,ok,tp,by rw[aa nln];exact upd_same,by rw[List.map_append];exact dp.append (.one db),λy hy=>?_⟩,kS hj,kq _ G _ dd mx v2 (.int _)⟩;rcases ma0 hy with hy|hy
     .exact hk y hy
     .obtain rfl:y=d:=by simpa using hy
      exact⟨ok,tp⟩
   .cases hrun
noncomputable def BD(C dx l n:Addr):HO:=.ins C dx [("objects",.ref l),("numbers",.ref n)]
noncomputable def jx(C x dx l n:Addr)(H:Hp):Hp:=upd (upd (upd (upd H l (.lst [])) x (.ins C dx [("objects",.ref l)])) n (.dK [])) x (BD C dx l n)
noncomputable def yv(C:Addr):Sp:=λvs H Q a=>∃x dx,vs=[.ref x]/\H x=some (.ins C dx [])/\∀l n,H l=none->H n=none->l≠n->Q .non (jx C x dx l n H)
structure rX(st:Stmt):Prop where
 ex:∃p1 p2 p3 p4 p5 p6 p7 p8:Pos,defBody st=[.Assign [.Attribute (.Name "self" p1) "objects" p2] (.List [] p3) p4,.Assign [.Attribute (.Name "self" p5) "numbers" p6] (.Dict [] [] p7) p8]
def BE{P}{w}{mg}{base}{C}{x qual}{st}{f}{fd}(F:Fun K x qual st f fd)(S:bt ["self"] ["self"] (defScope st))(T:rX st)(hc:Cls K C)(h1:NoAttr K C "objects")(h2:NoAttr K C "numbers"):
  FnOk P w K mg base CX0 1 f fd ["self"] (yv C):=by
 obtain⟨p1,p2,p3,p4,p5,p6,p7,p8,hbody⟩:=T.ex;refine F.ok S (λvs H Q E h=>?_) (λcdv A outer s H vs Q E hr h=>?_)
 .obtain⟨x,dx,rfl,_⟩:=h;rfl
 .obtain⟨x,dx,rfl,hx,q⟩:=h
  have vself:∀p:Pos,PE (dH CX0 P w K mg base ["self"] qual (defScope st) f cdv A outer s H E).nox (.Name "self" p) (vD 0):=λp=>cm rfl ((S.par "self" (by simp)).elim .inl λz=>.inr (.inl z))
  rw[hbody];refine⟨_,aV (vQ (pos:=p4) (pos':=p2) (f:="objects") (vself p1) (vR (pos:=p3) aD) rfl) (aV (vQ (pos:=p8) (pos':=p6) (f:="numbers") (vself p5) (mU (pos:=p7)) rfl) eg),?_⟩;refine⟨Nat.zero_le _,λl hl=>⟨.ref x,rfl,x,C,dx,[],rfl,?_,hc,h1,by decide,λn hn=>⟨.ref x,rfl,x,C,dx,[("objects",.ref l)],rfl,?_,hc,h2,(by decide:1<1000),?_⟩⟩⟩
  .rw[aa (aq hx hl)];exact hx
  .have nx:n≠x:=λz=>by subst z;rw[upd_same]at hn;cases hn
   rw[aa (Ne.symm nx)];exact upd_same
  .have nx:n≠x:=λz=>by subst z;rw[upd_same]at hn;cases hn
   rw[aa nx]at hn;have nl:n≠l:=λz=>by subst z;rw[upd_same]at hn;cases hn
   rw[aa nl]at hn;exact q l n hl hn (Ne.symm nl)
def yw(l n:Addr)(h:Nat)(f:Str):(vfs l n h).lookup f=([("objects",.ref l),("numbers",.ref n)]:List (Str×V)).lookup f:=by
 unfold vfs;simp only[lk0];cases c:f=="objects"<;>rfl
structure yx(P:Program)(w:World)(K:Fg)(mg:Str->Option Value)(base:Heap)(C:Addr)(vn:Str):Prop where
 ex:∃f fd,Mk K C f/\mg vn=some (.ref C)/\(vn==("__debug__":Str))=false/\Binds K fd ["self"] []/\FnOk P w K mg base CX0 1 f fd ["self"] (yv C)
def BF{X}{C}{vn}{Y}{U:Ust}{p pos}(Z:yx X.prog X.w X.K X.mg X.base C vn)(hr:Room 2 X.A)(hg:Gl X vn):EvM X C Y U (.Call (.Name vn p) [] [] pos) (.ok (.hdl U.length)) (U++[[]]):=by
 obtain⟨f,fd,hM,hm,hdb,hb,F⟩:=Z.ex;intro pins s σ H Q I h0;obtain⟨G0,H0,d0,G,d,E,kq⟩:=h0;refine thn (vU (p:=p) (pos:=pos) hM F hr hg hm hb .nil qX hdb pins s σ H (λv H2=>∃x dx l n,v=.ref x/\H x=none/\H dx=none/\dx≠x/\l≠x/\n≠x/\l≠dx/\n≠dx/\l≠n/\H l=none/\H n=none/\H2=jx C x dx l n (upd (upd H dx (.own x)) x (.ins C dx []))) I ?_) λu s2 hq=>?_
 .intro x dx hx hdx hne
  refine⟨x,dx,rfl,upd_same,λl n hl hn hln=>⟨rfl,x,dx,l,n,rfl,hx,hdx,hne,?_⟩⟩;have l1:l≠x:=λz=>by subst z;rw[upd_same]at hl;cases hl
  rw[aa l1]at hl;have l2:l≠dx:=λz=>by subst z;rw[upd_same]at hl;cases hl
  rw[aa l2]at hl;have n1:n≠x:=λz=>by subst z;rw[upd_same]at hn;cases hn
  rw[aa n1]at hn;have n2:n≠dx:=λz=>by subst z;rw[upd_same]at hn;cases hn
  rw[aa n2]at hn;exact⟨l1,n1,l2,n2,hln,hl,hn,rfl⟩
 .obtain⟨v,H2,I2,rv,x,dx,l,n,rfl,hx,hdx,hne,l1,n1,l2,n2,hln,hl,hn,rfl⟩:=hq
  generalize hH2:jx C x dx l n (upd (upd H dx (.own x)) x (.ins C dx []))=H2 at I2;have at_x:H2 x=some (BD C dx l n):=by rw[<-hH2];exact upd_same
  have at_n:H2 n=some (.dK []):=by rw[<-hH2];unfold jx;rw[aa n1];exact upd_same
  have at_l:H2 l=some (.lst []):=by rw[<-hH2];unfold jx;rw[aa l1,aa hln,aa l1];exact upd_same
  have at_dx:H2 dx=some (.own x):=by rw[<-hH2];unfold jx;rw[aa hne,aa (Ne.symm n2),aa hne,aa (Ne.symm l2),aa hne];exact upd_same
  have other:∀b,b≠x->b≠dx->b≠l->b≠n->H2 b=H b:=λb b1 b2 b3 b4=>by rw[<-hH2];unfold jx;rw[aa b1,aa b4,aa b1,aa b3,aa b1,aa b2]
  obtain⟨_,hsm,vs,kv,⟨o,es,ep,ho,hex,hdt,_,hpr,_⟩⟩:=(I2.hok n _ at_n:ObjOk X.prog X.w H2 s2.heap n (.dK []));have hvs:vs=[]:=by cases kv;rfl
  subst hvs;have hes:es.toList=[]:=by cases q:es.toList with|nil=>rfl|cons a r=>rw[q]at hpr;cases hpr
  have num:cu X.prog X.w n [] [] s2.heap:=⟨hsm,[],.nil,by decide,o,es,ep,ho,hex,hdt,hes,List.nodup_nil⟩;have I3:Inv X pins σ (upd H2 n (.ext (cu X.prog X.w n [] []))) {s2 with heap:=s2.heap,toks:=s2.toks}:=I2.write (x:=n) (e:=n) (by rw[at_n];exact True.intro) (.inl rfl) (λb w g e=>e) ⟨o,ho⟩
   ⟨num,⟨o,ho⟩,λh1' h2' ⟨y1,ys,y2,y3,yo,yes,yep,y4,y5⟩ k=>⟨y1,ys,y2,y3,yo,yes,yep,k yo y4,y5⟩⟩
  generalize hH3:upd H2 n (.ext (cu X.prog X.w n [] []))=H3 at I3;have b_x:H3 x=some (BD C dx l n):=by rw[<-hH3,aa (Ne.symm n1)];exact at_x
  have b_dx:H3 dx=some (.own x):=by rw[<-hH3,aa (Ne.symm n2)];exact at_dx
  obtain⟨z1,z2,z3,z4,mA,z5,z6,z7⟩:=(I3.hok x _ b_x:ObjOk X.prog X.w H3 s2.heap x (BD C dx l n));have I4:Inv X pins σ (upd H3 x (.ins C dx (vfs l n U.length))) {s2 with heap:=s2.heap,toks:=s2.toks}:=I3.write (x:=x) (e:=x) (by rw[b_x];exact True.intro) (.inl rfl) (λb w g e=>e) ⟨_,z4⟩
   ⟨by rw[aa hne];exact b_dx,(by decide:3<=1000),z3,z4,mA,z5,λf=>by rw[yw];exact z6 f,λf hf=>by
    have:=z7 f hf;simp only[mk0,List.map_nil,List.mem_cons,List.not_mem_nil,or_false]at this;unfold vfs;rcases this with z|z
    .exact List.mem_cons.mpr (.inl z)
    .exact mc0 _ (List.mem_cons.mpr (.inl z))⟩
  generalize hH4:upd H3 x (.ins C dx (vfs l n U.length))=H4 at I4;have c_x:H4 x=some (.ins C dx (vfs l n U.length)):=by rw[<-hH4];exact upd_same
  have c_dx:H4 dx=some (.own x):=by rw[<-hH4,aa hne];exact b_dx
  have c_n:H4 n=some (.ext (cu X.prog X.w n [] [])):=by rw[<-hH4,aa n1,<-hH3];exact upd_same
  have c_l:H4 l=some (.lst []):=by rw[<-hH4,aa l1,<-hH3,aa hln];exact at_l
  have c_o:∀b,b≠x->b≠dx->b≠l->b≠n->H4 b=H b:=λb b1 b2 b3 b4=>by rw[<-hH4,aa b1,<-hH3,aa b4];exact other b b1 b2 b3 b4
  have keep:∀b o,H b=some o->H4 b=some o:=λb o e=>by
   rw[c_o b (aq e hx) (aq e hdx) (aq e hl) (aq e hn)];exact e
  have hlen:=E.vs.len
  let G':Hp:=upd G x (.ins C dx (vfs l n U.length))
  have gx:∀b,H b=none->G b=none:=λb hb=>E.sub.free hb
  have gg:Same G G':=bq (gx x hx);have pd:parts (d++[(x,l,n)])=parts d++[l,n]:=by unfold parts;rw[List.flatMap_append];rfl
  have nl:∀b,H b=none->b∉parts d:=λb hb z=>by
   obtain⟨o,ho⟩:=E.vs.part z;rw[hb]at ho;cases ho
  have hh:Same (er H (parts d)) (er H4 (parts (d++[(x,l,n)]))):=λb o e=>by
   obtain⟨e1,e2⟩:=bu e;rw[aL (by
           rw[pd];intro z;rcases ma0 z with z|z
           .exact e1 z
           .simp only[List.mem_cons,List.not_mem_nil,or_false]at z
            rcases z with rfl|rfl
            .rw[hl]at e2;cases e2
            .rw[hn]at e2;cases e2)]
   exact keep b o e2
  have mx:MExt G H d G' H4 (d++[(x,l,n)]):=by
   refine⟨gg,hh,λb o e=>?_,λb o e1 e2=>?_,List.prefix_append _ _,λb o e=>⟨o,keep b o e⟩⟩
   .by_cases c:b=x
    .subst c
     have e:upd G b (.ins C dx (vfs l n U.length)) b=some o:=e;rw[upd_same]at e;cases e;rw[aL (by
             rw[pd];intro z;rcases ma0 z with z|z
             .exact nl b hx z
             .simp only[List.mem_cons,List.not_mem_nil,or_false]at z
              rcases z with z|z
              .exact l1 z.symm
              .exact n1 z.symm)]
     exact c_x
    .have e:upd G x (.ins C dx (vfs l n U.length)) b=some o:=e
     rw[aa c]at e;exact hh b o (E.sub' b o e)
   .show upd G x (.ins C dx (vfs l n U.length)) b=none
    rw[aa (aq e2 hx)];exact e1
  have v':VS X.prog X.w X.K C G' H4 (d++[(x,l,n)]) (U++[[]]):=by
   refine⟨by simp[hlen],?_,λh a l' n' e=>?_,λa C' dx' fs q=>?_,λb hb=>?_⟩
   .rw[pd]
    refine List.nodup_append.mpr ⟨E.vs.nd,by simp[hln],λa ha b hb z=>?_⟩;subst z;simp only[List.mem_cons,List.not_mem_nil,or_false]at hb;rcases hb with rfl|rfl
    .exact nl _ hl ha
    .exact nl _ hn ha
   .by_cases hlt:h<d.length
    .rw[gl0 hlt]at e
     obtain⟨dx',objs,q1,q2,q3,as,q4,q5,q6,q7⟩:=E.vs.at' h a l' n' e;exact⟨dx',objs,by rw[gl0 (by rw[<-hlen];exact hlt)];exact q1,gg _ _ q2,keep _ _ q3,as,keep _ _ q4,q5.mono gg,keep _ _ q6,q7⟩
    .rw[List.getElem?_append_right (by simp_all)]at e
     have h0:h-d.length=0:=by
      have:=(gi0 e).1;simp at this;omega
     rw[h0]at e;cases e;have eh:h=U.length:=by grind
     subst eh;refine⟨dx,[],by simp,upd_same,c_dx,[],c_l,.nil,c_n,λg z=>by cases z⟩
   .by_cases c:a=x
    .subst c
     exact⟨d.length,l,n,by simp⟩
    .have q':H a=some (.ins C' dx' fs):=by
      by_cases c1:a=dx
      .subst c1;rw[c_dx]at q;cases q
      by_cases c2:a=l
      .subst c2;rw[c_l]at q;cases q
      by_cases c3:a=n
      .subst c3;rw[c_n]at q;cases q
      rw[c_o a c c1 c2 c3]at q;exact q
     obtain⟨h,l',n',e⟩:=E.vs.uni a C' dx' fs q';exact⟨h,l',n',by rw[gl0 (gi0 e).1];exact e⟩
   .show upd G x (.ins C dx (vfs l n U.length)) b=none
    rw[pd]at hb;rcases ma0 hb with hb|hb
    .rw[aa (λz=>by subst z;exact nl _ hx hb)];exact E.vs.out b hb
    .simp only[List.mem_cons,List.not_mem_nil,or_false]at hb
     rcases hb with rfl|rfl
     .rw[aa l1];exact gx _ hl
     .rw[aa n1];exact gx _ hn
  exact⟨.ref x,H4,I4,rv,kq (.ref x) G' H4 _ mx v' (.hdl (upd_same:upd G x (.ins C dx (vfs l n U.length)) x=_))⟩
end L2.Z
namespace M1
open PySem PySem.Builtin PySem.Builtin.Str
def ext{a b:Str}(h:a.cps.toList=b.cps.toList):a=b:=by
 cases a;cases b
 congr 1
 exact Array.toList_inj.mp h
def toL_append(a b:Str):(a++b).cps.toList=a.cps.toList++b.cps.toList:=by
 show (a.cps++b.cps).toList=_;simp
def yy(x:Str)(c:Nat):Txt.split x ⟨#[c]⟩≠[]:=by
 unfold Txt.split;split
 .simp
 .split
  .simp
  .rw[StrLaws.partsBetween_eq]
   obtain⟨p,r,e⟩:=StrLaws.partsFrom_ne x (⟨#[c]⟩:Str).length 0 (occurrences x ⟨#[c]⟩ 0 x.length (x.length+1));rw[e];simp
noncomputable def nl:Str:=⟨#[10]⟩
def qx:∀ls:List Str,(Txt.join Str.empty ls).cps.toList=(ls.map λp=>p.cps.toList).flatten:=by
 intro ls;show (glued Str.empty ls).cps.toList=_;rw[StrLaws.glued_eq_join]
 induction ls with
 |nil=>rfl
 |cons x r ih=>
  cases r with
  |nil=>show x.cps.toList=_;simp
  |cons y r=>
   show (x++Str.empty++Str.join Str.empty (y::r)).cps.toList=_;rw[toL_append,toL_append,ih];show x.cps.toList++[]++_=_;simp
end M1
set_option maxRecDepth 10000
end
section
variable {Z:SI.Fs}{Γ:List (PySem.Str×SI.D)}{α β:Type}{aP c n:Nat}{m x:PySem.Str}{vms:List PySem.Str}{Y:List SI.Sl}{ds:List SI.D}{mg:PySem.Str->Option PySem.Value}
namespace TX
open PySem SI
noncomputable def dY:Def:=⟨[true,true],2,(.B (.ifs (.v 0) (.A (.ret (.idx (.v 0) (.op .mod (.v 1) (.bi .len (.A (.v 0))))))) .nil) (.ret (.k (.int 0))))⟩
noncomputable def iF:Def:=⟨[true,true],3,(.cons (.set 2 (.op .mod (.op .add (.call "_law_cell" (.B (.v 0) (.v 1))) (.op .mul (.k (.int 104729)) (.op .add (.v 1) (.k (.int 1))))) (.k (.int 4294967291)))) (.B (.set 2 (.op .mod (.op .mul (.v 2) (.k (.int 48271))) (.k (.int 4294967279)))) (.ret (.op .mod (.op .add (.op .mul (.op .fdiv (.v 2) (.k (.int 64))) (.k (.int 69621))) (.v 2)) (.k (.int 4294967231))))))⟩
noncomputable def fT:Def:=⟨[true],3,(.cons (.set 1 (.k (.str ⟨#[32,33,34,35,36,38,39,40,41,42,43,44,45,46,47,48,49,50,51,52,53,54,55,56,57,58,59,60,61,62,63,64,65,66,67,68,69,70,71,72,73,74,75,76,77,78,79]⟩))) (.B (.set 2 (.k (.str ⟨#[80,81,82,83,84,85,86,87,88,89,90,91,92,93,94,95,96,97,98,99,100,101,102,103,104,105,106,107,108,109,110,111,112,113,114,115,116,117,118,119,120,121,122,123,124,125,126]⟩))) (.ret (.idx (.op .add (.v 1) (.v 2)) (.op .mod (.v 0) (.k (.int 94)))))))⟩
noncomputable def dZ:Def:=⟨[true,true],3,(.cons (.set 2 (.call "_law_mix" (.B (.v 0) (.v 1)))) (.B (.ifs (.cmp .eq (.op .mod (.v 2) (.k (.int 4))) (.k (.int 3))) (.A (.ret (.op .add (.call "_law_sign" (.A (.op .fdiv (.v 2) (.k (.int 4))))) (.call "_law_sign" (.A (.op .fdiv (.v 2) (.k (.int 376)))))))) .nil) (.ret (.idx (.lst (.cons (.k (.str ⟨#[97]⟩)) (.cons (.k (.str ⟨#[98]⟩)) (.cons (.k (.str ⟨#[]⟩)) (.cons (.k (.str ⟨#[97,32,98]⟩)) (.B (.k (.str ⟨#[124]⟩)) (.k (.str ⟨#[99]⟩)))))))) (.op .mod (.op .fdiv (.v 2) (.k (.int 4))) (.k (.int 6)))))))⟩
noncomputable def fU:Def:=⟨[true,true],3,(.cons (.new 2 (.comp 1 [] (.one 0) (.seq (.v 0)) .nil (.op .add (.v 0) (.k (.str ⟨#[10]⟩))))) (.B (.ifs (.and (.v 1) (.and (.v 0) (.cmp .ne (.idx (.v 0) (.neg (.k (.int 1)))) (.k (.str ⟨#[]⟩))))) (.A (.seti 2 (.neg (.k (.int 1))) (.idx (.v 0) (.neg (.k (.int 1)))))) .nil) (.ret (.v 2))))⟩
noncomputable def iG:Def:=⟨[true,true,true],3,(.A (.ret (.comp 1 [1,0] (.one 0) (.rng (.v 2)) .nil (.call "_law_line" (.B (.v 2) (.op .add (.v 1) (.v 0)))))))⟩
noncomputable def kT:Def:=⟨[true],1,(.A (.ret (.and (.isi (.v 0) "int") (.not (.isi (.v 0) "bool")))))⟩
noncomputable def ans(Z:Fs)(Γ:List (Str×D))(d:Def)(ds:List D):Option D:=(exs Z Γ (cL d ds) d.body).bind Out.val
def Has(Z:Fs)(f:Str)(fl:List Bool)(P:(List D->Option D)->Prop):Prop:=∃run,Z f=some ⟨fl,run⟩/\P run
noncomputable def kU(ns:List Int)(k:Int):Int:=if ns=[] then 0 else (ns[(k % ns.length).toNat]?).getD 0
def rY{ns:List Int}(h:ns≠[])(k:Int):0<=k % (ns.length:Int)/\k % (ns.length:Int)<ns.length:=by
 have:0<ns.length:=lp0 h;exact⟨en0 _ (by omega),el0 _ (by omega)⟩
def cD{xs:List α}{i:Int}(h0:0<=i)(h1:i<xs.length):atI xs i=xs[i.toNat]?:=by
 unfold atI ixN;rw[if_pos h0,if_pos h1];rfl
def cY{xs:List α}{i:Nat}(d:α)(h:i<xs.length):xs[i]?=some (xs[i]?.getD d):=by
 rw[ge0 h];rfl
def yz(ns:List Int)(k:Int):ans Z Γ dY [.scr ns,.int k]=some (.int (kU ns k)):=by
 by_cases h:ns=[]
 .subst h;simp[ans,dY,kU]
 .have hl:0<ns.length:=lp0 h
  have hm:=rY h k;have e:atI ns (k % (ns.length:Int))=some (kU ns k):=by
   rw[cD hm.1 hm.2,cY 0 (by omega)];simp[kU,h]
  simp[ans,dY,h,hl,e]
end TX
namespace TX
open PySem SI M1
noncomputable def mixF(ns:List Int)(k:Int):Int:=
 let a:=(kU ns k+104729*(k+1)) % 4294967291
 let b:=a*48271 % 4294967279
 (b / 64*69621+b) % 4294967231
abbrev CW(Z:Fs):Prop:=Has Z "_law_cell" [true,true] λrun=>∀ns k,run [.scr ns,.int k]=some (.int (kU ns k))
abbrev qy(Z:Fs):Prop:=Has Z "_law_mix" [true,true] λrun=>∀ns k,run [.scr ns,.int k]=some (.int (mixF ns k))
def lZ(i:Int)(j:Int)(h1:-(2 ^ 64)<j)(h2:j<2 ^ 64):pN i j=true:=by
 unfold pN;rw[dt0 h1,dt0 h2];simp
def yA(i:Int)(j:Int)(h1:-(2 ^ 64)<i)(h2:i<2 ^ 64):pN i j=true:=by
 unfold pN;rw[dt0 h1,dt0 h2];simp
def BG(hc:CW Z)(ns)(k:Int):ans Z Γ iF [.scr ns,.int k]=some (.int (mixF ns k)):=by
 obtain⟨run,h,hs⟩:=hc;simp[ans,iF,h,hs,yA 104729,lZ _ 48271,lZ _ 69621,mixF]
def iH(ns)(k:Int)(m:Int)(h:0<m):0<=mixF ns k % m/\mixF ns k % m<m:=⟨en0 _ (by omega),el0 _ h⟩
noncomputable def tbl:List Nat:=[32,33,34,35,36,38,39,40,41,42,43,44,45,46,47,48,49,50,51,52,53,54,55,56,57,58,59,60,61,62,63,64,65,66,67,68,69,70,71,72,73,74,75,76,77,78,79,80,81,82,83,84,85,86,87,88,89,90,91,92,93,94,95,96,97,98,99,100,101,102,103,104,105,106,107,108,109,110,111,112,113,114,115,116,117,118,119,120,121,122,123,124,125,126]
noncomputable def kW(n:Int):Nat:=(tbl[(n % 94).toNat]?).getD 0
noncomputable def jy(n:Int):Str:=⟨#[kW n]⟩
def uV(n:Int):kW n∈tbl:=by
 have h1:=en0 n (b:=94) (by decide);have h2:=el0 n (b:=94) (by decide);have hl:(n % 94).toNat<tbl.length:=by
  have:tbl.length=94:=by decide
  omega
 unfold kW;rw[ge0 hl];exact List.getElem_mem hl
def GL:∀c∈tbl,32<=c/\c<=126/\c≠37:=by decide
abbrev CY(Z:Fs):Prop:=Has Z "_law_sign" [true] λrun=>∀n,run [.int n]=some (.str (jy n))
def yB(n:Int):ans Z Γ fT [.int n]=some (.str (jy n)):=by
 have h1:=en0 n (b:=94) (by decide);have h2:=el0 n (b:=94) (by decide);have e:atI tbl (n % 94)=some (kW n):=by
  have hl:tbl.length=94:=by decide
  rw[cD h1 (by rw[hl];exact_mod_cast h2),cY 0 (by omega)];rfl
 have e2:∀(x y:Str)(h:(x++y).cps.toList=tbl),atI (x++y).cps.toList (n % 94)=some (kW n):=λx y h=>by rw[h];exact e
 simp[ans,fT];rw[if_pos (by decide)];simp;rw[if_pos (by decide),e2 _ _ (by decide)];rfl
theorem ao{f}{inj g}:∀{xs:List β},(∀x∈xs,f (inj x)=some (some (g x)))->aZ f (xs.map inj)=some (xs.map g)
 |[],_=>rfl
 |x::r,h=>by
  show (f (inj x)).bind _=_;rw[h x ms0];show (aZ f (r.map inj)).map _=_;rw[ao λy hy=>h y (mc0 _ hy)];rfl
theorem bV{f}{inj g}{p:β->Bool}:∀{xs:List β},(∀x∈xs,f (inj x)=some (if p x then some (g x)else none))->aZ f (xs.map inj)=some ((xs.filter p).map g)
 |[],_=>rfl
 |x::r,h=>by
  show (f (inj x)).bind _=_;rw[h x ms0];show (aZ f (r.map inj)).map _=_;rw[bV λy hy=>h y (mc0 _ hy),List.filter_cons];cases p x<;>rfl
theorem cv:∀ys:List Str,strsOf (ys.map .str)=some ys
 |[]=>rfl
 |y::r=>by show (strsOf (r.map .str)).map _=_;rw[cv r];rfl
def yC{α}{xs}{i}(d:α)(h0:0<=i)(h1:i<xs.length):atI xs i=some (xs[i.toNat]?.getD d):=by
 rw[cD h0 h1,<-cY d (by simp_all)]
structure Clean(n:Nat)(x:Str):Prop where
 free:10∉x.cps.toList
 short:x.length<=n
def dt(n:Int):Clean 1 (jy n):=⟨by
 show 10∉[kW n];intro h;have:=GL _ (uV n);rw[<-List.mem_singleton.mp h]at this
 grind,nr0 _⟩
def Clean.append{n m}{x y}(hx:Clean n x)(hy:Clean m y):Clean (n+m) (x++y):=⟨by
 rw[toL_append,List.mem_append];exact λh=>h.elim hx.free hy.free,by rw[Str.length_append];have:=hx.short;have:=hy.short;grind⟩
def Clean.mono{n m}{x}(h:Clean n x)(hm:n<=m):Clean m x:=⟨h.free,nt0 h.short hm⟩
noncomputable def menu:List Str:=[⟨#[97]⟩,⟨#[98]⟩,⟨#[]⟩,⟨#[97,32,98]⟩,⟨#[124]⟩,⟨#[99]⟩]
def BH:∀x∈menu,Clean 3 x:=by
 intro x hx;simp only[menu,List.mem_cons,List.not_mem_nil,or_false]at hx;rcases hx with rfl|rfl|rfl|rfl|rfl|rfl<;>exact⟨by decide,by decide⟩
noncomputable def fV(ns:List Int)(k:Int):Str:=
 if mixF ns k % 4=3 then jy (mixF ns k / 4)++jy (mixF ns k / 376)else (menu[(mixF ns k / 4 % 6).toNat]?).getD Str.empty
def fq(ns:List Int)(k:Int):Clean 3 (fV ns k):=by
 unfold fV;split
 .exact ((dt _).append (dt _)).mono (by simp_all)
 .have h1:=en0 (mixF ns k / 4) (b:=6) (by decide)
  have h2:=el0 (mixF ns k / 4) (b:=6) (by decide);have hl:(mixF ns k / 4 % 6).toNat<menu.length:=by show _<6;simp_all
  rw[ge0 hl];exact BH _ (List.getElem_mem hl)
abbrev yD(Z:Fs):Prop:=Has Z "_law_line" [true,true] λrun=>∀ns k,run [.scr ns,.int k]=some (.str (fV ns k))
def yE(hm:qy Z)(hs:CY Z)(ns:List Int)(k:Int):ans Z Γ dZ [.scr ns,.int k]=some (.str (fV ns k)):=by
 obtain⟨r1,e1,h1⟩:=hm;obtain⟨r2,e2,h2⟩:=hs;have l1:=(dt (mixF ns k / 4)).short;have l2:=(dt (mixF ns k / 376)).short
 by_cases c:mixF ns k % 4=3
 .have hz:(jy (mixF ns k / 4)).length+(jy (mixF ns k / 376)).length<=big:=nt0 (Nat.add_le_add l1 l2) (by decide)
  simp[ans,dZ,e1,h1,e2,h2,c,hz,fV]
 .have g1:=en0 (mixF ns k / 4) (b:=6) (by decide)
  have g2:=el0 (mixF ns k / 4) (b:=6) (by decide);have e:atI (menu.map D.str) (mixF ns k / 4 % 6)=some (.str ((menu[(mixF ns k / 4 % 6).toNat]?).getD Str.empty)):=by
   rw[cD g1 (by show _<((6:Nat):Int);exact_mod_cast g2),gm0,cY Str.empty (xs:=menu) (by show _<6;omega)];rfl
  have e':atI [D.str ⟨#[97]⟩,.str ⟨#[98]⟩,.str ⟨#[]⟩,.str ⟨#[97,32,98]⟩,.str ⟨#[124]⟩,.str ⟨#[99]⟩] (mixF ns k / 4 % 6)=some (.str ((menu[(mixF ns k / 4 % 6).toNat]?).getD Str.empty)):=e;simp[ans,dZ,e1,h1,e2,h2,c,e',fV]
noncomputable def rowF(ns:List Int)(b:Int)(n:Int):List Str:=(List.range n.toNat).map λ(k:Nat)=>fV ns (b+k)
abbrev IW(Z:Fs):Prop:=Has Z "_law_row" [true,true,true] λrun=>∀ns b n,-1000<=n->n<=1000->run [.scr ns,.int b,.int n]=some (.list ((rowF ns b n).map .str))
def BI(hl:yD Z)(ns:List Int)(b n:Int)(hn:-1000<=n)(hn2:n<=1000):ans Z Γ iG [.scr ns,.int b,.int n]=some (.list ((rowF ns b n).map .str)):=by
 obtain⟨r1,e1,h1⟩:=hl;have hr:=pO (n:=n) (by grind) (by grind);have hz:n.toNat<=big:=by unfold big;grind
 have key:=λf h=>ao (f:=f) (inj:=λk:Nat=>D.int k) (g:=λk:Nat=>D.str (fV ns (b+k))) (xs:=List.range n.toNat) h
 simp[ans,iG,hr,hz];rw[key]
 .simp[rowF]
 .intro k _
  simp[e1,h1,blk]
def empty_eq:(⟨#[]⟩:Str)=Str.empty:=rfl
noncomputable def lastF(row:List Str):Str:=row.getLastD Str.empty
noncomputable def endsF(row:List Str)(cut:Bool):List Str:=
 if cut=true/\row≠[]/\lastF row≠Str.empty then row.dropLast.map (·++nl)++[lastF row] else row.map (·++nl)
abbrev CZ(Z:Fs):Prop:=Has Z "_law_ends" [true,true] λrun=>∀(row:List Str)(b:Bool),row.length<=1000->(∀x∈row,x.length<=1000)->run [.list (row.map .str),.bool b]=some (.list ((endsF row b).map .str))
def mP{α}{xs}(h:xs≠[])(d:α):atI xs (-1)=some (xs.getLastD d):=by
 have hl:=lp0 h;have e:ixN xs.length (-1)=some (xs.length-1):=by
  unfold ixN;rw[if_neg (by decide),if_pos (by grind)]
  congr 1;grind
 unfold atI;rw[e];show xs[xs.length-1]?=_;rw[<-List.getLast?_eq_getElem?,List.getLastD_eq_getLast?];cases q:xs.getLast? with
 |none=>rw[List.getLast?_eq_none_iff]at q;exact absurd q h
 |some v=>rfl
def rZ{n}(h:0<n):ixN n (-1)=some (n-1):=by
 unfold ixN;rw[if_neg (by decide),if_pos (by grind)]
 congr 1;grind
def yF{xs}(h:xs≠[])(v:α):xs.set (xs.length-1) v=xs.dropLast++[v]:=by
 induction xs with
 |nil=>exact absurd rfl h
 |cons a r ih=>
  cases r with
  |nil=>rfl
  |cons b q=>
   have e:(a::b::q).length-1=((b::q).length-1)+1:=by simp
   rw[e,List.set_cons_succ,ih (by simp)];rfl
def map_dropLast(f:α->β)(xs:List α):(xs.map f).dropLast=xs.dropLast.map f:=by
 rw[List.dropLast_eq_take,List.dropLast_eq_take,lm0,List.map_take]
def ma(f:α->β)(xs:List α)(d:α):(xs.map f).getLastD (f d)=f (xs.getLastD d):=by
 rw[List.getLastD_eq_getLast?,List.getLastD_eq_getLast?,List.getLast?_map];cases xs.getLast?<;>rfl
def yG(row:List Str)(b:Bool)(h1:row.length<=1000)(h2:∀x∈row,x.length<=1000):ans Z Γ fU [.list (row.map .str),.bool b]=some (.list ((endsF row b).map .str)):=by
 have hz:row.length<=big:=by unfold big;grind
 have key:=λf h=>ao (f:=f) (inj:=D.str) (g:=λx=>D.str (x++nl)) (xs:=row) h
 simp[ans,fU,hz];rw[key]
 .cases b with
  |false=>simp[endsF]
  |true=>
   by_cases he:row=[]
   .subst he;simp[endsF]
   .have e:=mP (xs:=row.map D.str) (by simpa using he) (.str Str.empty)
    rw[ma]at e;have e:atI (row.map D.str) (-1)=some (.str (lastF row)):=e;have hl:=lp0 he;have e3:=yF (xs:=row.map λx=>D.str (x++nl)) (by simpa using he) (.str (lastF row));rw[lm0,map_dropLast]at e3;unfold endsF;generalize lastF row=t at e e3
    by_cases ht:t=Str.empty
    .simp[he,e,ht,empty_eq]
    .simp only[e,ht,empty_eq,rZ hl,e3,he,ne_eq,not_false_eq_true,and_self,and_true,if_true,List.map_append,List.map_map]
     simp[he,e,ht,empty_eq,rZ hl,e3];rfl
 .intro x hx
  simp[(show x.length+(⟨#[10]⟩:Str).length<=big by
    have:=h2 x hx;have e:(⟨#[10]⟩:Str).length=1:=rfl;unfold big;grind)]
  rfl
theorem ed{c}:∀{ys:List Str}{p:Str},p∈ys->p.length<=(Str.join ⟨#[c]⟩ ys).length
 |[],_,h=>by cases h
 |[y],p,h=>by rw[List.mem_singleton.mp h];exact nr0 _
 |y::z::r,p,h=>by
  have e:(Str.join ⟨#[c]⟩ (y::z::r)).length=y.length+1+(Str.join ⟨#[c]⟩ (z::r)).length:=by
   show (y++⟨#[c]⟩++Str.join ⟨#[c]⟩ (z::r)).length=_;rw[Str.length_append,Str.length_append];rfl
  rcases mq0 h with rfl|h
  .omega
  .have:=ed (c:=c) h
   omega
def split_le(x:Str):∀p∈Txt.split x nl,p.length<=x.length:=by
 intro p hp;have:=ed (c:=10) hp;rw[show Str.join ⟨#[10]⟩ (Txt.split x nl)=x from StrLaws.join_split x nl]at this;exact this
def uW(ns)(b n:Int):∀x∈rowF ns b n,Clean 3 x:=by
 intro x hx;obtain⟨k,_,rfl⟩:=mm0 hx;exact fq ns _
def BJ(ns)(b n:Int):(rowF ns b n).length=n.toNat:=by unfold rowF;simp
set_option tactic.hygienic true
def yH(row)(b:Bool):(endsF row b).length=row.length:=by
 unfold endsF;split
 .rename_i c
  have:=lp0 c.2.1;simp;omega
 .simp
def qz{n}{row}(h:∀x∈row,x.length<=n)(b:Bool):∀x∈endsF row b,x.length<=n+1:=by
 intro x hx;have one:∀y∈row.map (·++nl),y.length<=n+1:=λy hy=>by
  obtain⟨z,hz,rfl⟩:=mm0 hy;rw[Str.length_append];have:=h z hz;have e:nl.length=1:=rfl;omega
 unfold endsF at hx;split at hx
 .rename_i c
  rcases ma0 hx with hx|hx
  .rw[<-map_dropLast]at hx
   exact one x (List.dropLast_subset _ hx)
  .rw[List.mem_singleton.mp hx]
   exact Nat.le_succ_of_le (h _ ((by
     have h:=c.2.1;unfold lastF;rw[List.getLastD_eq_getLast?,List.getLast?_eq_some_getLast h];exact List.getLast_mem h)))
 .exact one x hx
set_option tactic.hygienic false
theorem yI{f}{n}:∀{xs:List α},(∀x∈xs,f x<=n)->(xs.map f).sum<=xs.length*n
 |[],_=>by simp
 |x::r,h=>by
  have h1:=h x ms0;have h2:=yI (f:=f) (xs:=r) λy hy=>h y (mc0 _ hy)
  simp only[mk0,List.sum_cons,lc0,Nat.succ_mul];omega
def yJ(ys):(Txt.join Str.empty ys).length<=(ys.map (·.length)).sum:=by
 have h:=StrLaws.join_length_le Str.empty ys;have e:Txt.join Str.empty ys=Str.join Str.empty ys:=StrLaws.glued_eq_join _ _;rw[e];have z:Str.empty.length=0:=rfl;rw[z,Nat.mul_zero,Nat.add_zero]at h;exact h
end TX
namespace L2.Z
open PySem PySem.Spec PyProof.Rows L2 L2.C SI
def run_eq{Z}{Γ}{d}{ds}(h:ds.length=d.lent.length):(Gk Z Γ d).run ds=TX.ans Z Γ d ds:=if_pos h
def ax{prog}{Γ}{k}{x}{d}{P}(h:prog.lookup x=some d)(hP:P (Gk (den prog Γ k) Γ d).run):TX.Has (den prog Γ (k+1)) x d.lent P:=
 ⟨_,by show (prog.lookup x).map _=_;rw[h];rfl,hP⟩
def walk{l:PySem.W.OpenLaw}{q}{loose}{XP}{YP}{d}{K:Params->fg0}(hn:l.most=some 63)(hdf:d.params.defaults=[])
  (hY:∀(w:World)(h:Heap),YP w h->(K w.params).In h)
  (F:∀(w:World)(mg:Str->Option Value)(fa:Addr)(h:Heap),(K w.params).In h->h.Ns mainGlobals mg->mg d.name=some (.ref fa)->
   ∃fd:FuncData,(∀(s:Shared)(u:Value),BindsTo s fd ⟨[u],[]⟩ [("_law_script",u)])/\∀base:Heap,(K w.params).In base->base.Ns mainGlobals mg->FnOk l.prog w (K w.params) mg base CX0 40 fa fd ["_law_script"] (xI (K w.params))):
  PySem.W.WalkO q loose XP YP l.row.toRowW d [] (λf vs=>PySem.call f vs):=
 L2.qW hn (by decide) hdf ⟨rfl,by decide,by decide⟩ hY F (λb b a ns hl b hS=>⟨a,ns,rfl,hS,hl,λb=>rfl⟩) λb b b b b z=>z
noncomputable def IX(Q:Str->Prop):List Str->Prop
 |[]=>True
 |x::r=>Q x/\IX Q r
theorem sd{Q}:∀{xs:List Str},IX Q xs->∀x∈xs,Q x
 |[],_,x,h=>by cases h
 |y::r,hq,x,h=>(mq0 h).elim (λe=>e▸hq.1) (sd hq.2 x)
noncomputable def IY(Q:Str->D->Prop):List (Str×D)->Prop
 |[]=>True
 |p::r=>Q p.1 p.2/\IY Q r
theorem se{Q}:∀{prog:List (Str×D)},IY Q prog->∀x d,prog.lookup x=some d->Q x d
 |[],_,x,d,h=>by cases h
 |(y,e)::r,hq,x,d,h=>by
  rw[lk0]at h;cases hxy:x==y with
  |true=>
   rw[hxy]at h;have:=eq_of_beq hxy;subst this;cases h;exact hq.1
  |false=>rw[hxy]at h;exact se hq.2 x d h
def len1{P:List Value->Prop}(h:∀a,P [a])(us)(e:us.length=1):P us:=by
 obtain⟨a,rfl⟩:=List.length_eq_one_iff.mp e;exact h a
def len2{P:List Value->Prop}(h:∀a b,P [a,b])(us)(e:us.length=2):P us:=by
 cases us with|nil=>cases e|cons a r=>exact len1 (P:=λr=>P (a::r)) (h a) r (Nat.succ.inj e)
def len3{P:List Value->Prop}(h:∀a b c,P [a,b,c])(us)(e:us.length=3):P us:=by
 cases us with|nil=>cases e|cons a r=>exact len2 (P:=λr=>P (a::r)) (h a) r (Nat.succ.inj e)
def LS{P:List Value->Prop}(h:∀a b c d,P [a,b,c,d]):∀us,us.length=4->P us
 |[a,b,c,d],_=>h a b c d
def LU{P:List Value->Prop}(h:∀a b c d e,P [a,b,c,d,e])(us)(e:us.length=5):P us:=by
 cases us with|nil=>cases e|cons a r=>cases r with|nil=>cases e|cons b r=>exact len3 (P:=λr=>P (a::b::r)) (h a b) r (Nat.succ.inj (Nat.succ.inj e))
def walkX{q}{loose}{XP}{K}{ads}{n t}{r}{d}{kwd}{run}
  (e:∀P:Params,ads=(K P).map (·.1)) (h:PySem.W.WalkO q loose XP (λw h=>(K w.params).In h) r d kwd run):PySem.W.WalkX q loose XP (PySem.W.X.obsZ ads) (PySem.W.X.valZ K n t) r d kwd run:=
 λw s₀ s₁ mg mb G y a o pm cd doc dV kV ho hd hcd hD hmg hg args vals as L hpre hlay hrd hwl hlo=>
  h w _ _ mg mb G (λb o e'=>L.keeps b o ((PySem.W.X.z_facts e y).2.1 b o e')) a o pm cd _ dV kV ho hd hcd hD hmg hg _ _ as hpre hlay hrd hwl hlo
end L2.Z
set_option maxRecDepth 10000
namespace TX
open PySem SI L2.Z
noncomputable def bH:Def:=⟨[true],1,(.B (.ifs (.or (.chain .le .le (.k (.str ⟨#[97]⟩)) (.v 0) (.k (.str ⟨#[122]⟩))) (.or (.chain .le .le (.k (.str ⟨#[65]⟩)) (.v 0) (.k (.str ⟨#[90]⟩))) (.chain .le .le (.k (.str ⟨#[48]⟩)) (.v 0) (.k (.str ⟨#[57]⟩))))) (.A (.ret (.k (.bool true)))) .nil) (.ret (.cmp .isin (.v 0) (.k (.str ⟨#[46,95,45]⟩)))))⟩
noncomputable def eE:Def:=⟨[true],1,(.cons (.ifs (.not (.chain .le .le (.k (.int 1)) (.bi .len (.A (.v 0))) (.g "LONGEST_NAME"))) (.A (.ret (.k (.bool false)))) .nil) (.B (.ifs (.or (.cmp .eq (.v 0) (.k (.str ⟨#[46]⟩))) (.cmp .eq (.v 0) (.k (.str ⟨#[46,46]⟩)))) (.A (.ret (.k (.bool false)))) .nil) (.ret (.bi .all (.A (.comp 1 [] (.one 0) (.seq (.v 0)) .nil (.call "is_name_sign" (.A (.v 0)))))))))⟩
noncomputable def du:Def:=⟨[true],1,(.A (.ret (.bi .all (.A (.comp 2 [] (.tup [0,1]) (.zip (.B (.v 0) (.sl (.v 0) (.A (.k (.int 1))) .nil))) .nil (.cmp .lt (.v 0) (.v 1)))))))⟩
noncomputable def bW(cV:Nat):Def:=⟨[true,true],2,(.A (.ret (.bi .list (.A (.vcall cV "content" (.v 0) (.B (.v 1) (.k (.str ⟨#[116,114,101,101]⟩))))))))⟩
noncomputable def fW(cV:Nat):Def:=⟨[true],1,(.A (.ret (.bi .len (.A (.vob cV (.v 0))))))⟩
noncomputable def fX(cV:Nat):Def:=⟨[true,true],2,(.A (.ret (.idx (.vcall cV "held" (.v 0) (.A (.v 1))) (.k (.int 0)))))⟩
noncomputable def fY(cV:Nat):Def:=⟨[true,true],2,(.B (.ifs (.not (.chain .le .lt (.k (.int 0)) (.v 1) (.bi .len (.A (.vob cV (.v 0)))))) (.A .stuck) .nil) (.ret (.idx (.vob cV (.v 0)) (.v 1))))⟩
noncomputable def cG(cV:Nat):Def:=⟨[true,true,true],4,(.cons (.set 3 (.vcall cV "held" (.v 0) (.A (.v 1)))) (.B (.ifs (.cmp .ne (.idx (.v 3) (.k (.int 0))) (.v 2)) (.A .stuck) .nil) (.ret (.idx (.v 3) (.k (.int 1))))))⟩
noncomputable def md:bz:=⟨[false,false],2,(.A (.ret (.meth "put" 0 (.G (.p (.tup (.B (.k (.str ⟨#[98,108,111,98]⟩)) (.v 1))))))))⟩
noncomputable def aJ(cBT:Nat):bz:=⟨[false],2,(.B (.fors (.one 1) (.seq (.v 0)) (.A (.ifs (.not (.call "is_name" (.A (.v 1)))) (.A (.raise cBT (.G (.p (.k (.str ⟨#[97,110,32,101,110,116,114,121,39,115,32,110,97,109,101,32,105,115,32,110,111,110,101]⟩)))))) .nil))) (.ifs (.not (.call "names_rise" (.A (.v 0)))) (.A (.raise cBT (.G (.p (.k (.str ⟨#[116,104,101,32,110,97,109,101,115,32,100,111,110,39,116,32,114,105,115,101]⟩)))))) .nil))⟩
end TX
namespace TX
open PySem SI M1 L2.Z
noncomputable def signs65:List Nat:=[97,98,99,100,101,102,103,104,105,106,107,108,109,110,111,112,113,114,115,116,117,118,119,120,121,122,65,66,67,68,69,70,71,72,73,74,75,76,77,78,79,80,81,82,83,84,85,86,87,88,89,90,48,49,50,51,52,53,54,55,56,57,46,95,45]
noncomputable def cw(c:Nat):Bool:=decide (c∈signs65)
def sf(c:Nat)(y:Str):hasSub ⟨#[c]⟩ y=decide (c∈y.cps.toList):=PySem.StrLaws.found_one y c
def GM(a b:Nat):decide ([a]<[b])=decide (a<b):=by
 by_cases h:a<b
 .rw[dt0 h,dt0]
  exact List.Lex.rel h
 .rw[df0 h,df0]
  intro z;cases z with
  |rel h'=>exact h h'
  |cons h'=>cases h'
def uX(c:Nat):cw c=((!decide (c<97)&&!decide (122<c))||((!decide (c<65)&&!decide (90<c))||(!decide (c<48)&&!decide (57<c)))||decide (c∈[46,95,45])):=by
 by_cases h:c<128
 .have key:∀c<128,cw c=((!decide (c<97)&&!decide (122<c))||((!decide (c<65)&&!decide (90<c))||(!decide (c<48)&&!decide (57<c)))||decide (c∈[46,95,45])):=by decide
  exact key c h
 .have h1:cw c=false:=by
   unfold cw;refine df0 λz=>h ?_
   have:∀c∈signs65,c<128:=by decide
   exact this c z
  have h2:decide (c∈[46,95,45])=false:=df0 (by simp;omega);rw[h1,h2,dt0 (by omega:122<c),dt0 (show 90<c by omega),dt0 (by omega:57<c)];simp
abbrev sh(Z:Fs):Prop:=Has Z "is_name_sign" [true] λrun=>∀c,run [.str ⟨#[c]⟩]=some (.bool (cw c))
noncomputable def dot:Str:=⟨#[46]⟩
noncomputable def GN:Str:=⟨#[46,46]⟩
noncomputable def cZ(x:Str):Bool:=decide (1<=x.length)&&decide (x.length<=12)&&!decide (x=dot)&&!decide (x=GN)&&x.cps.toList.all cw
abbrev si(Z:Fs):Prop:=Has Z "is_name" [true] λrun=>∀x:Str,x.length<=1000->run [.str x]=some (.bool (cZ x))
noncomputable def mf:List Str->Bool
 |a::b::r=>decide (a.cps.toList<b.cps.toList)&&mf (b::r)
 |_=>true
variable {O:FsM}
def dy(O:FsM)(f:Str)(fl:List Bool)(P:(Ust->List D->Option (Ust×R))->Prop):Prop:=∃run,O f=some ⟨fl,run⟩/\P run
@[simp] def GO{h}{os}:kg c (.vlt c h os)=true:=by simp[kg]
@[simp] def IZ{h}{os}:El (.vlt c h os)=os:=rfl
@[simp] def Ja{o}:roM .read o=o:=rfl
@[simp] def Jb{o}:roM .test o=o:=rfl
@[simp] def LV{os}:vE c [os] (.dat (.hdl 0))=.lent (.vlt c 0 os):=rfl
@[simp] def LW{U:Ust}{x}:vE c U (.dat (.str x))=.dat (.str x):=rfl
@[simp] def LX{U:Ust}{x}:vE c U (.dat (.int x))=.dat (.int x):=rfl
@[simp] def Kr{U:Ust}{x}:vE c U (.dat (.bool x))=.dat (.bool x):=rfl
@[simp] def Ks{U:Ust}{x}:vE c U (.dat (.list x))=.dat (.list x):=rfl
@[simp] def Kt{U:Ust}:vE c U (.dat .none)=.dat .none:=rfl
@[simp] def LY{U:Ust}{x}:vE c U (.dat (.exc x))=.dat (.exc x):=rfl
@[simp] def Nj{U:Ust}:vE c U .no=.no:=rfl
@[simp] def Ku{U:Ust}{d}:vE c U (.lent d)=.lent d:=rfl
noncomputable abbrev dF:Str:=⟨#[98,108,111,98]⟩
noncomputable abbrev bc:Str:=⟨#[116,114,101,101]⟩
noncomputable abbrev af:Str:=⟨#[99,111,109,109,105,116]⟩
abbrev Da(Z:Fs)(c:Nat):Prop:=Has Z (ai "size") [true] λrun=>∀h os,run [.vlt c h os]=some (.int os.length)
abbrev yK(Z:Fs)(c:Nat):Prop:=Has Z (ai "held") [true,true] λrun=>∀(h:Nat)(os:List D)(n:Nat)(d:D),os[n]?=some d->run [.vlt c h os,.int n]=some d
abbrev Dc(Z:Fs)(c:Nat):Prop:=Has Z (ai "kind") [true,true] λrun=>∀(h:Nat)(os:List D)(n:Nat)(k:Str)(ds:List D),os[n]?=some (.tuple (.str k::ds))->run [.vlt c h os,.int n]=some (.str k)
abbrev fZ(Z:Fs)(c:Nat):Prop:=Has Z (ai "content") [true,true,true] λrun=>∀(h:Nat)(os:List D)(n:Nat)(k:Str)(d:D),os[n]?=some (.tuple [.str k,d])->run [.vlt c h os,.int n,.str k]=some d
abbrev gb(Z:Fs)(c:Nat):Prop:=Has Z "entries_of" [true,true] λrun=>∀(h:Nat)(os:List D)(n:Nat)(es:List D),os[n]?=some (.tuple [.str bc,.tuple es])->run [.vlt c h os,.int n]=some (.list es)
def yL(h:Nat)(os:List D):ans Z Γ (fW c) [.vlt c h os]=some (.int os.length):=by
 simp[ans,fW]
def yM(h:Nat)(os:List D)(n:Nat)(d:D)(hd:os[n]?=some d):ans Z Γ (fY c) [.vlt c h os,.int n]=some d:=by
 have hn:=(gi0 hd).1;have e:atI os (n:Int)=some d:=by rw[cD (by omega) (by omega)];simpa using hd
 have l1:(0:Int)<=(n:Int):=by omega
 have l2:(n:Int)<(os.length:Int):=by omega
 simp[ans,fY,e,l1,hn]
def yN(hh:yK Z c)(h:Nat)(os:List D)(n:Nat)(k:Str)(ds)(hd:os[n]?=some (.tuple (.str k::ds))):ans Z Γ (fX c) [.vlt c h os,.int n]=some (.str k):=by
 obtain⟨r1,e1,h1⟩:=hh;have q:=h1 h os n _ hd;have e:atI (D.str k::ds) 0=some (.str k):=by rw[cD (by omega) (by simp)];rfl
 simp[ans,fX,e1,q,e]
def oK(hh:yK Z c)(h:Nat)(os:List D)(n:Nat)(k:Str)(d:D)(hd:os[n]?=some (.tuple [.str k,d])):ans Z Γ (cG c) [.vlt c h os,.int n,.str k]=some d:=by
 obtain⟨r1,e1,h1⟩:=hh;have q:=h1 h os n _ hd;have e:atI [D.str k,d] 0=some (.str k):=rfl;have e':atI [D.str k,d] 1=some d:=rfl;simp[ans,cG,e1,q,e,e']
def oM(hc:fZ Z c)(h:Nat)(os:List D)(n:Nat)(es)(hd:os[n]?=some (.tuple [.str bc,.tuple es])):ans Z Γ (bW c) [.vlt c h os,.int n]=some (.list es):=by
 obtain⟨r1,e1,h1⟩:=hc;have q:=h1 h os n bc _ hd;simp[ans,bW,e1,q]
noncomputable def cy(Z:Fs)(O:FsM)(Γ:List (Str×D))(c:Nat)(d:bz)(U:Ust)(ds:List D):Option (Ust×R):=(br Z O Γ c (startM d ds) U d.body).map λq=>(q.2,oE q.1)
abbrev yO(O:FsM):Prop:=O (ai "put")=some iq
variable {O:FsM}{cNO cBT:Nat}
noncomputable def oN(es:List Str):Bool:=es.all cZ&&mf es
end TX
set_option maxRecDepth 10000
namespace TX
open PySem SI L2.Z
noncomputable def eF(cV:Nat):Def:=⟨[true,true],2,(.A (.ret (.vcall cV "content" (.v 0) (.B (.v 1) (.k (.str ⟨#[98,108,111,98]⟩))))))⟩
noncomputable def gc:Def:=⟨[true,true],5,(.cons (.set 2 (.call "_law_mix" (.B (.v 0) (.v 1)))) (.cons (.ifs (.cmp .gt (.op .mod (.v 2) (.k (.int 3))) (.k (.int 0))) (.A (.ret (.idx (.lst (.cons (.k (.str ⟨#[97]⟩)) (.cons (.k (.str ⟨#[98]⟩)) (.cons (.k (.str ⟨#[97,98]⟩)) (.cons (.k (.str ⟨#[97,46,98]⟩)) (.cons (.k (.str ⟨#[66]⟩)) (.cons (.k (.str ⟨#[48]⟩)) (.B (.k (.str ⟨#[97,45]⟩)) (.k (.str ⟨#[95]⟩)))))))))) (.op .mod (.op .fdiv (.v 2) (.k (.int 3))) (.k (.int 8)))))) .nil) (.cons (.set 3 (.k (.str ⟨#[97,98,99,100,101,102,103,104,105,106,107,108,109,110,111,112,113,114,115,116,117,118,119,120,121,122,65,66,67,68,69,70,71,72,73,74,75,76,77,78,79,80,81,82,83,84,85,86,87,88,89,90,48,49,50,51,52,53,54,55,56,57,46,95,45]⟩))) (.B (.set 4 (.me .join (.k (.str ⟨#[]⟩)) (.A (.comp 1 [1,0,3] (.one 0) (.rng (.op .add (.k (.int 1)) (.op .mod (.op .fdiv (.v 2) (.k (.int 3))) (.k (.int 12))))) .nil (.idx (.v 3) (.op .mod (.op .fdiv (.call "_law_mix" (.B (.v 2) (.op .add (.v 1) (.op .mul (.k (.int 7)) (.v 0))))) (.k (.int 5))) (.k (.int 65)))))))) (.ret (.op .add (.v 4) (.op .mul (.k (.str ⟨#[97]⟩)) (.bi .int (.A (.cmp .isin (.v 4) (.tup (.B (.k (.str ⟨#[46]⟩)) (.k (.str ⟨#[46,46]⟩))))))))))))))⟩
noncomputable def ck(cV:Nat)(cNO:Nat):bz:=⟨[false,false],2,(.B (.ifs (.not (.chain .le .lt (.k (.int 0)) (.v 1) (.bi .len (.A (.vob cV (.v 0)))))) (.A (.raise cNO (.G (.p (.k (.str ⟨#[110,111,32,111,98,106,101,99,116,32,104,97,115,32,116,104,105,115,32,110,117,109,98,101,114]⟩)))))) .nil) (.ret (.p (.idx (.vob cV (.v 0)) (.v 1)))))⟩
noncomputable def bX(cNO:Nat):bz:=⟨[false,false,false],4,(.cons (.set 3 (.meth "held" 0 (.W 1))) (.B (.ifs (.cmp .ne (.idx (.v 3) (.k (.int 0))) (.v 2)) (.A (.raise cNO (.G (.p (.bi .fst (.B (.k (.str ⟨#[116,104,101,32,111,98,106,101,99,116,32,119,105,116,104,32,116,104,105,115,32,110,117,109,98,101,114,32,105,115,32,110,111,32]⟩)) (.v 2))))))) .nil) (.ret (.p (.idx (.v 3) (.k (.int 1)))))))⟩
end TX
namespace TX
open PySem SI M1
abbrev Jc(o:Option D):Prop:=∃t:Str,o=some (.str t)/\cZ t=true
abbrev Dd(Z:Fs):Prop:=Has Z "_law_name" [true,true] λrun=>∀ns k,Jc (run [.scr ns,.int k])
def uY{t}(h:cZ t=true):1<=t.length/\t.length<=12:=by
 unfold cZ at h;simp only[be0,decide_eq_true_eq]at h;exact⟨h.1.1.1.1,h.1.1.1.2⟩
noncomputable def sgn7(ns:List Int)(b:Int)(k:Nat):Nat:=(signs65[(mixF ns (b+7*(k:Int)) / 5 % 65).toNat]?).getD 0
def join_one(l:List Nat):Txt.join Str.empty (l.map λc=>(⟨#[c]⟩:Str))=⟨l.toArray⟩:=by
 apply eB
 rw[qx,List.map_map];show _=l
 induction l with
 |nil=>rfl
 |cons c r ih=>rw[mk0,List.flatten_cons,ih];rfl
def yP(ts)(h:ts.length<64):biD .srt [.list (ts.map .str)]=some (.list ((srtS ts).map .str)):=by
 have e:pQ (ts.map .str)=.none:=by
  match ts with
  |[]=>rfl
  |[_]=>rfl
  |[_,_]=>rfl
  |_::_::_::_=>rfl
 show (pQ (ts.map .str)).or ((strsOf (ts.map .str)).bind λss=>if ss.length<64 then some (D.list ((srtS ss).map .str))else .none)=_;rw[e,cv,bs0,if_pos h];rfl
end TX
namespace TX
open PySem SI M1 L2.Z
variable {O:FsM}{cNO cBT cNP:Nat}
variable {O:FsM}{cNO cBT cNP:Nat}
def BK(y:Str):y++Str.empty=y:=M1.ext (by rw[M1.toL_append];exact List.append_nil _)
def jz(x y:Str):(x++y).length=x.length+y.length:=by show (x.cps++y.cps).size=_;rw[Array.size_append];rfl
def BL{x y}(h:x.length+y.length<=big):biD .fst [.str x,.str y]=some (.str (x++y)):=by
 show (if (x++(y++Str.empty)).length<=big then some (D.str (x++(y++Str.empty)))else none)=_;rw[BK,jz,if_pos h]
end TX
namespace TX
open PySem SI M1
end TX
namespace L2.Z
open PySem PySem.Spec PyProof.Rows L2 L2.C SI
def aE{Z}{O}{Γ}{c}{d}{U:Ust}{ds}(h:ds.length=d.lent.length):(runM Z O Γ c d).run U ds=TX.cy Z O Γ c d U ds:=if_pos h
def aK{O0}{prog}{progM}{Γ}{c k}{x}{d}{P}(h0:O0 x=.none)(h:progM.lookup x=some d)(hP:P (runM (den prog Γ k) (jO O0 prog progM Γ c k) Γ c d).run):
  TX.dy (jO O0 prog progM Γ c (k+1)) x d.lent P:=
 ⟨_,by show (match O0 x with|some J=>some J|.none=>(progM.lookup x).map _)=_;rw[h0,h];rfl,hP⟩
noncomputable def uZ:FsM:=λf=>if f=ai "put" then some iq else .none
def oO:uZ (ai "put")=some iq:=if_pos rfl
def mh{prog:List (Str×Def)}{progM:List (Str×bz)}(k:Nat):TX.yO (jO uZ prog progM Γ c k):=by
 unfold TX.yO;cases k with
 |zero=>exact oO
 |succ k=>rw[jO,oO]
def BN{J:FnM}(h:uZ (ai m)=some J):ai m=ai "put"/\J=iq:=by
 unfold uZ at h
 grind
def bD{a b:Str}(h:ai a=ai b):a=b:=by
 unfold ai at h;have e:=congrArg (λs=>s.cps.toList) h;simp only[M1.toL_append]at e;exact M1.ext (List.append_cancel_left e)
def walkM{l:PySem.W.OpenLaw}{q:Program}{loose:List Str}{XP:(Str->Option Value)->Heap->Prop}{YP:World->Heap->Prop}{d:DefRec}{K:Params->fg0}(hn:l.most=some 63)(hdf:d.params.defaults=[])
  (hY:∀(w:World)(h:Heap),YP w h->(K w.params).In h)
  (F:∀(w:World)(mg:Str->Option Value)(fa:Addr)(h:Heap),(K w.params).In h->h.Ns mainGlobals mg->mg d.name=some (.ref fa)->
   ∃fd:FuncData,(∀(s:Shared)(u:Value),BindsTo s fd ⟨[u],[]⟩ [("_law_script",u)])/\∀base:Heap,(K w.params).In base->base.Ns mainGlobals mg->FnOk l.prog w (K w.params) mg base CX0 40 fa fd ["_law_script"] (qw (K w.params))):
  PySem.W.WalkO q loose XP YP l.row.toRowW d [] (λf vs=>PySem.call f vs):=
 L2.qW hn (by decide) hdf ⟨rfl,by decide,by decide⟩ hY F (λc c a ns hl hO hS=>⟨⟨a,ns,rfl,hS,hl,λc=>rfl⟩,λb C dx fs e=>by
  rcases hO b with z|⟨o,xs,z⟩<;>simp_all⟩) λc c c c c z=>z
def eG{a b:Nat}{x y t:Bool}{e:Nat}(h:List.lookup e [(a,x),(b,y)]=some t):(e=a/\t=x)\/(e=b/\t=y):=by
 rw[lk0]at h;cases q:e==a with
 |true=>simp_all
 |false=>
  rw[lk0]at h;cases q2:e==b<;>simp_all
def oP{K:Fg}(c:Addr):PySem.W.kitOne K (.ref c) (.ref c)=some true:=by
 unfold PySem.W.kitOne;simp
noncomputable def Jd{α:Type}(Q:Str->α->Prop):List (Str×α)->Prop
 |[]=>True
 |p::r=>Q p.1 p.2/\Jd Q r
theorem bY{Q:Str->α->Prop}:∀{prog:List (Str×α)},Jd Q prog->∀x d,prog.lookup x=some d->Q x d
 |[],_,x,d,h=>by cases h
 |(y,e)::r,hq,x,d,h=>by
  rw[lk0]at h;cases hxy:x==y with
  |true=>
   rw[hxy]at h;have:=eq_of_beq hxy;subst this;cases h;exact hq.1
  |false=>rw[hxy]at h;exact bY hq.2 x d h
def Je(h:(vms.all λm=>!(x==ai m))=true)(e:x=ai m)(hm:vms.contains m=true):False:=by
 have:=List.all_eq_true.mp h m (List.contains_iff_mem.mp hm)
 simp_all
end L2.Z
set_option maxRecDepth 10000
namespace TX
open PySem SI L2.Z
noncomputable def cH(cV:Nat):Def:=⟨[true,true],3,(.B (.set 2 (.vcall cV "content" (.v 0) (.B (.v 1) (.k (.str ⟨#[99,111,109,109,105,116]⟩))))) (.ret (.tup (.cons (.idx (.v 2) (.k (.int 0))) (.cons (.bi .list (.A (.idx (.v 2) (.k (.int 1))))) (.B (.idx (.v 2) (.k (.int 2))) (.idx (.v 2) (.k (.int 3)))))))))⟩
noncomputable def eI:Def:=⟨[true,true,true],12,(.cons (.set 3 (.call "_law_mix" (.B (.v 0) (.v 1)))) (.cons (.set 4 (.comp 1 [2] (.one 0) (.rng (.bi .len (.A (.v 2)))) (.A (.cmp .eq (.idx (.idx (.v 1) (.v 0)) (.k (.int 0))) (.k (.str ⟨#[116,114,101,101]⟩)))) (.v 0))) (.cons (.set 5 (.comp 1 [2] (.one 0) (.rng (.bi .len (.A (.v 2)))) (.A (.cmp .eq (.idx (.idx (.v 1) (.v 0)) (.k (.int 0))) (.k (.str ⟨#[99,111,109,109,105,116]⟩)))) (.v 0))) (.cons (.set 6 (.comp 1 [2] (.one 0) (.rng (.bi .len (.A (.v 2)))) (.A (.cmp .ne (.idx (.idx (.v 1) (.v 0)) (.k (.int 0))) (.k (.str ⟨#[99,111,109,109,105,116]⟩)))) (.v 0))) (.cons (.ifs (.or (.cmp .lt (.op .mod (.v 3) (.k (.int 6))) (.k (.int 2))) (.not (.v 6))) (.B (.set 7 (.call "_law_row" (.cons (.v 0) (.B (.op .add (.v 1) (.k (.int 1))) (.op .mod (.op .fdiv (.v 3) (.k (.int 6))) (.k (.int 4))))))) (.ret (.tup (.B (.k (.str ⟨#[98,108,111,98]⟩)) (.me .join (.k (.str ⟨#[]⟩)) (.A (.call "_law_ends" (.B (.v 7) (.cmp .eq (.op .mod (.op .fdiv (.v 3) (.k (.int 24))) (.k (.int 2))) (.k (.int 0))))))))))) .nil) (.cons (.ifs (.or (.cmp .lt (.op .mod (.v 3) (.k (.int 6))) (.k (.int 4))) (.not (.v 4))) (.cons (.set 8 (.bi .srt (.A (.comp 1 [1,0] (.one 0) (.rng (.op .mod (.op .fdiv (.v 3) (.k (.int 6))) (.k (.int 4)))) .nil (.call "_law_name" (.B (.v 2) (.op .add (.op .add (.v 1) (.k (.int 1))) (.v 0)))))))) (.B (.set 9 (.comp 1 [6,1,0] (.one 0) (.rng (.bi .len (.A (.v 8)))) .nil (.op .mul (.idx (.v 1) (.op .mod (.call "_law_mix" (.B (.v 3) (.op .add (.op .add (.v 2) (.k (.int 2))) (.v 0)))) (.bi .len (.A (.v 1))))) (.bi .int (.A (.cmp .lt (.v 0) (.k (.int 2)))))))) (.ret (.tup (.B (.k (.str ⟨#[116,114,101,101]⟩)) (.bi .lzip (.B (.v 8) (.v 9)))))))) .nil) (.cons (.set 10 (.lst .nil)) (.cons (.ifs (.v 5) (.A (.set 10 (.bi .srt (.A (.comp 1 [1,0,5] (.one 0) (.rng (.op .mod (.op .fdiv (.v 3) (.k (.int 6))) (.k (.int 3)))) .nil (.idx (.v 3) (.op .mod (.call "_law_mix" (.B (.v 2) (.op .add (.op .add (.v 1) (.k (.int 1))) (.v 0)))) (.bi .len (.A (.v 3)))))))))) .nil) (.cons (.ifs (.cmp .eq (.op .mod (.op .fdiv (.v 3) (.k (.int 18))) (.k (.int 2))) (.k (.int 0))) (.A (.set 10 (.bi .rvl (.A (.v 10))))) .nil) (.B (.set 11 (.idx (.lst (.cons (.k (.int 0)) (.cons (.k (.int 1)) (.cons (.k (.int 2)) (.B (.k (.int 999999999999999)) (.op .mod (.op .fdiv (.v 3) (.k (.int 36))) (.k (.int 10)))))))) (.op .mod (.op .fdiv (.v 3) (.k (.int 36))) (.k (.int 5))))) (.ret (.tup (.cons (.k (.str ⟨#[99,111,109,109,105,116]⟩)) (.cons (.idx (.v 4) (.op .mod (.call "_law_mix" (.B (.v 0) (.op .add (.v 1) (.k (.int 3))))) (.bi .len (.A (.v 4))))) (.cons (.v 10) (.B (.v 11) (.call "_law_line" (.B (.v 0) (.op .add (.v 1) (.k (.int 4)))))))))))))))))))))⟩
noncomputable def dz:Def:=⟨[true,true,true],6,(.cons (.new 3 (.lst .nil)) (.B (.fors (.one 4) (.rng (.v 2)) (.B (.set 5 (.call "_law_thing" (.cons (.v 0) (.B (.op .add (.v 1) (.op .mul (.k (.int 5)) (.v 4))) (.v 3))))) (.ifs (.cmp .notin (.v 5) (.v 3)) (.A (.app 3 (.v 5))) .nil))) (.ret (.v 3))))⟩
noncomputable def mi(cV:Nat):Def:=⟨[true,true,true],4,(.cons (.ifs (.cmp .ne (.vcall cV "kind" (.v 0) (.A (.v 1))) (.idx (.v 2) (.k (.int 0)))) (.A (.ret (.k (.bool false)))) .nil) (.cons (.ifs (.cmp .eq (.idx (.v 2) (.k (.int 0))) (.k (.str ⟨#[98,108,111,98]⟩))) (.A (.ret (.cmp .eq (.call "text_of" (.B (.v 0) (.v 1))) (.idx (.v 2) (.k (.int 1)))))) .nil) (.cons (.ifs (.cmp .eq (.idx (.v 2) (.k (.int 0))) (.k (.str ⟨#[116,114,101,101]⟩))) (.B (.set 3 (.call "entries_of" (.B (.v 0) (.v 1)))) (.ret (.and (.isi (.v 3) "list") (.and (.cmp .eq (.v 3) (.idx (.v 2) (.k (.int 1)))) (.bi .all (.A (.comp 1 [] (.one 0) (.seq (.v 3)) .nil (.call "_law_whole" (.A (.idx (.v 0) (.k (.int 1)))))))))))) .nil) (.cons (.set 3 (.call "commit_of" (.B (.v 0) (.v 1)))) (.cons (.ifs (.or (.not (.isi (.v 3) "tuple")) (.or (.cmp .ne (.bi .len (.A (.v 3))) (.k (.int 4))) (.not (.isi (.idx (.v 3) (.k (.int 1))) "list")))) (.A (.ret (.k (.bool false)))) .nil) (.B (.ifs (.not (.bi .all (.A (.comp 1 [] (.one 0) (.seq (.op .add (.idx (.v 3) (.k (.int 1))) (.lst (.B (.idx (.v 3) (.k (.int 0))) (.idx (.v 3) (.k (.int 2))))))) .nil (.call "_law_whole" (.A (.v 0))))))) (.A (.ret (.k (.bool false)))) .nil) (.ret (.cmp .eq (.v 3) (.tup (.cons (.idx (.v 2) (.k (.int 1))) (.cons (.idx (.v 2) (.k (.int 2))) (.B (.idx (.v 2) (.k (.int 3))) (.idx (.v 2) (.k (.int 4)))))))))))))))⟩
noncomputable def eJ(cV:Nat):Def:=⟨[true,true],2,(.B (.ifs (.cmp .ne (.vcall cV "size" (.v 0) .nil) (.bi .len (.A (.v 1)))) (.A (.ret (.k (.bool false)))) .nil) (.ret (.bi .all (.A (.comp 1 [1,0] (.one 0) (.rng (.bi .len (.A (.v 1)))) .nil (.call "_law_is" (.cons (.v 2) (.B (.v 0) (.idx (.v 1) (.v 0))))))))))⟩
noncomputable def gd:Def:=⟨[true,true,true],4,(.cons (.set 3 (.call "_law_mix" (.B (.v 0) (.v 1)))) (.B (.ifs (.or (.cmp .eq (.op .mod (.v 3) (.k (.int 4))) (.k (.int 0))) (.cmp .eq (.v 2) (.k (.int 0)))) (.A (.ret (.idx (.lst (.cons (.neg (.k (.int 1))) (.cons (.v 2) (.cons (.op .add (.v 2) (.k (.int 1))) (.B (.op .add (.k (.int 100000000000000)) (.op .mod (.v 3) (.k (.int 1000)))) (.op .sub (.neg (.k (.int 100))) (.op .mod (.v 3) (.k (.int 1000))))))))) (.op .mod (.op .fdiv (.v 3) (.k (.int 4))) (.k (.int 5)))))) .nil) (.ret (.op .mod (.op .fdiv (.v 3) (.k (.int 4))) (.v 2)))))⟩
noncomputable def gf:bz:=⟨[false,false,false,false,false],5,(.B (.expr (.call "refuse_wrong_commit" (.va 0 (.va 1 (.va 2 (.va 3 (.W 4))))))) (.ret (.meth "put" 0 (.G (.p (.tup (.B (.k (.str ⟨#[99,111,109,109,105,116]⟩)) (.tup (.cons (.v 1) (.cons (.bi .tuple (.A (.v 2))) (.B (.v 3) (.v 4))))))))))))⟩
noncomputable def aA:bz:=⟨[false,false],2,(.A (.expr (.meth "content" 0 (.va 1 (.G (.p (.k (.str ⟨#[116,114,101,101]⟩))))))))⟩
noncomputable def aG(cBC:Nat):bz:=⟨[false,false,false,false,false],6,(.cons (.expr (.call "refuse_what_is_no_tree" (.va 0 (.W 1)))) (.cons (.fors (.one 5) (.seq (.v 2)) (.A (.expr (.meth "content" 0 (.va 5 (.G (.p (.k (.str ⟨#[99,111,109,109,105,116]⟩))))))))) (.cons (.ifs (.cmp .gt (.bi .len (.A (.v 2))) (.g "MOST_PARENTS")) (.A (.raise cBC (.G (.p (.k (.str ⟨#[97,32,99,111,109,109,105,116,32,104,97,115,32,97,116,32,109,111,115,116,32,116,119,111,32,112,97,114,101,110,116,115]⟩)))))) .nil) (.cons (.ifs (.cmp .lt (.bi .nset (.A (.v 2))) (.bi .len (.A (.v 2)))) (.A (.raise cBC (.G (.p (.k (.str ⟨#[116,104,101,32,112,97,114,101,110,116,115,32,97,114,101,32,97,108,105,107,101]⟩)))))) .nil) (.B (.ifs (.cmp .lt (.v 3) (.k (.int 0))) (.A (.raise cBC (.G (.p (.k (.str ⟨#[116,104,101,32,116,105,109,101,32,108,105,101,115,32,98,101,108,111,119,32,48]⟩)))))) .nil) (.ifs (.cmp .isin (.k (.str ⟨#[10]⟩)) (.v 4)) (.A (.raise cBC (.G (.p (.k (.str ⟨#[116,104,101,32,109,101,115,115,97,103,101,32,104,97,115,32,97,32,108,105,110,101,32,101,110,100]⟩)))))) .nil))))))⟩
noncomputable def iI:bz:=⟨[false,false],2,(.cons (.ifs (.cmp .eq (.idx (.v 1) (.k (.int 0))) (.k (.str ⟨#[98,108,111,98]⟩))) (.A (.ret (.call "blob" (.va 0 (.G (.p (.idx (.v 1) (.k (.int 1))))))))) .nil) (.B (.ifs (.cmp .eq (.idx (.v 1) (.k (.int 0))) (.k (.str ⟨#[116,114,101,101]⟩))) (.A (.ret (.call "tree" (.va 0 (.G (.p (.bi .list (.A (.idx (.v 1) (.k (.int 1))))))))))) .nil) (.ret (.call "commit" (.va 0 (.ex (.p (.idx (.v 1) (.k (.int 1)))) (.ex (.p (.bi .list (.A (.idx (.v 1) (.k (.int 2)))))) (.ex (.p (.idx (.v 1) (.k (.int 3)))) (.G (.p (.idx (.v 1) (.k (.int 4)))))))))))))⟩
noncomputable def dA:bz:=⟨[false],3,(.cons (.set 1 .new) (.B (.fors (.one 2) (.seq (.v 0)) (.A (.expr (.call "_law_put" (.va 1 (.W 2)))))) (.ret (.hv 1))))⟩
noncomputable def eK:bz:=⟨[false,false],2,(.A (.ret (.ix0 (.meth "held" 0 (.W 1)))))⟩
end TX
namespace SI
open PySem
section
variable {x0 y:α}{l:List α}
@[simp ↓ high] def gt0:(x0::l)[0]?=some x0:=rfl
@[simp ↓ high] def gtS :(x0::l)[n+1]?=l[n]?:=rfl
@[simp ↓ high] def st0:(x0::l).set 0 y=y::l:=rfl
@[simp ↓ high] def stS :(x0::l).set (n+1) y=x0::l.set n y:=rfl
end
noncomputable def fzM(Y:List Sl):List Sl:=Y.map freeze
@[simp ↓ high] def fz_g{Y}{i:Nat}:(fzM Y)[i]?=Y[i]?.map freeze:=gm0
section
variable {s:S}{r a b:Ss}{d:D}{m:Md}{t:Bool}{e:E}
noncomputable def nxS(Z:Fs)(Γ:List (Str×D))(o:Option Out)(r:Ss):Option Out:=o.bind λo=>o.andThen λY'=>exs Z Γ Y' r
noncomputable def ifS(Z:Fs)(Γ:List (Str×D))(o:Option D)(Y:List Sl)(a b:Ss):Option Out:=o.bind λd=>(asB d).bind λt=>if t then exs Z Γ Y a else exs Z Γ Y b
noncomputable def oQ(Z:Fs)(Γ:List (Str×D))(tg:Tg)(body:Ss)(ds:List D)(Y:List Sl):Option Out:=forL (aw tg) (λY'=>exs Z Γ Y' body) ds Y
noncomputable def cpF(Z:Fs)(Γ:List (Str×D))(Y:List Sl)(nt:Nat)(js:List Nat)(tg:Tg)(ifs:Es)(elt:E)(d:D):Option (Option D):=(aw tg d (blk nt js Y)).bind λY'=>(evC Z Γ Y' ifs).bind λt=>if t then (ev Z Γ .val Y' elt).map some else some none
@[simp ↓ high] def exs_c:exs Z Γ Y (.cons s r)=nxS Z Γ (ex Z Γ Y s) r:=(rfl)
@[simp] def NL:nxS Z Γ (some (.nx Y)) r=exs Z Γ Y r:=(rfl)
@[simp] def NM:nxS Z Γ (some (.rt d)) r=some (.rt d):=(rfl)
@[simp ↓ high] def ex_if{c}:ex Z Γ Y (.ifs c a b)=ifS Z Γ (ev Z Γ .test Y c) Y a b:=(rfl)
@[simp] def NN:ifS Z Γ (some (.bool t)) Y a b=if t then exs Z Γ Y a else exs Z Γ Y b:=(rfl)
@[simp ↓ high] def ex_ret:ex Z Γ Y (.ret e)=(ev Z Γ .val (fzM Y) e).map .rt:=(rfl)
@[simp ↓ high] def ex_for{tg:Tg}{src}:ex Z Γ Y (.fors tg src r)=(evI Z Γ .walk Y src).bind λds=>oQ Z Γ tg r ds Y:=(rfl)
@[simp ↓ high] def ev_cp{nt}{js}{tg:Tg}{src}{ifs}:ev Z Γ m Y (.comp nt js tg src ifs e)=fin m ((evI Z Γ .read Y src).bind λds=>if ds.length<=big then (aZ (cpF Z Γ Y nt js tg ifs e) ds).map .list else none):=(rfl)
noncomputable def yQ(o:Option D):Option (List D):=o.bind λd=>(asI d).bind λn=>if rOk n then some ((List.range n.toNat).map λ(k:Nat)=>.int k)else none
@[simp ↓ high] def evI_r:evI Z Γ m Y (.rng e)=yQ (ev Z Γ .val Y e):=(rfl)
def ve{n}(h1:-1000000<=n)(h2:n<=1000000):yQ (some (.int n))=some ((List.range n.toNat).map λ(k:Nat)=>.int k):=by
 show (if rOk n then _ else _)=_;rw[if_pos (pO h1 h2)]
noncomputable def GP(o:Option D):Option (List D):=o.bind λd=>yQ (biD .len [d])
@[simp ↓ 20000] def evI_rl:evI Z Γ m Y (.rng (.bi .len (.cons e .nil)))=GP (ev Z Γ .read Y e):=by
 show yQ (((ev Z Γ .read Y e).bind λx=>some _).bind _)=_;cases h:ev Z Γ _ Y e<;>rfl
def sj(h:ds.length<=1000000):GP (some (.list ds))=some ((List.range ds.length).map λ(k:Nat)=>.int k):=by rw[GP,bs0,len_list,(show yQ (some (.int ds.length))=some ((List.range ds.length).map λ(k:Nat)=>.int k)from ve (by omega) (by omega))]
theorem De{inj}{tg:Tg}{F:α->List Sl}(J:Nat->α->Prop){P:Option Out->Prop}(k:∀s,J 0 s->P (some (.nx (F s)))):∀{xs:List β}{s} (h:∀x∈xs,∀n s,J (n+1) s->∃s',J n s'/\(aw tg (inj x) (F s)).bind (λY=>exs Z Γ Y r)=some (.nx (F s'))),J xs.length s->P (oQ Z Γ tg r (xs.map inj) (F s))
 |[],s,_,j=>k s j
 |x::xs,s,h,j=>by
  obtain⟨s',j',e⟩:=h x ms0 _ s j;obtain⟨Y',e1,e2⟩:=bx0 e;show P ((aw tg (inj x) (F s)).bind λY'=>(exs Z Γ Y' r).bind _);rw[e1,bs0,e2];exact De J k (λy hy=>h y (mc0 _ hy)) j'
def Jf{tab}:Em tab (.exc n)=tab.lookup n:=(rfl)
def Df :biD .rvl [.list ds]=some (.list ds.reverse):=rfl
@[simp] theorem BO{p:α->Bool}:∀{xs:List α},boolsOf (xs.map λx=>.bool (p x))=some (xs.map p)
 |[]=>rfl
 |x::xs=>by rw[mk0,boolsOf,BO];rfl
def bo{nt}{js}{tg:Tg}{ifs}:cpF Z Γ Y nt js tg ifs e d=(aw tg d (blk nt js Y)).bind λY'=>(evC Z Γ Y' ifs).bind λt=>if t then (ev Z Γ .val Y' e).map some else some none:=(rfl)
noncomputable def jA(o p:Option D):Option D:=o.bind λx=>p.bind λy=>opD .mul x y
@[simp ↓ high] def ev_m{a b}:ev Z Γ m Y (.op .mul a b)=fin m (jA (ev Z Γ .read Y a) (ev Z Γ .read Y b)):=(rfl)
@[simp] def NO{i}:jA (some (.int i)) (some (.int 1))=some (.int i):=by
 rw[jA,bs0,bs0,iC,TX.lZ _ 1 (by decide) (by decide),if_pos rfl,Int.mul_one]
@[simp] def NP{i}:jA (some (.int i)) (some (.int 0))=some (.int 0):=by
 rw[jA,bs0,bs0,iC,TX.lZ _ 0 (by decide) (by decide),if_pos rfl,Int.mul_zero]
def mulL{i j}(h1:-(2 ^ 64)<i)(h2:i<2 ^ 64):jA (some (.int i)) (some (.int j))=some (.int (i*j)):=by
 rw[jA,bs0,bs0,iC,TX.yA _ _ h1 h2,if_pos rfl]
@[simp] def orP{P}[Decidable P]:(if P then some (D.bool true)else some (D.bool t))=some (.bool (decide P||t)):=by by_cases h:P<;>simp[h]
@[simp] def NQ{P}[Decidable P]:(if P then some (D.bool t)else some (D.bool false))=some (.bool (decide P&&t)):=by by_cases h:P<;>simp[h]
noncomputable def BP(o:Option Out):Option D:=o.bind Out.val
@[simp] def LZ:BP (some (.rt d))=some d:=rfl
@[simp] def Ma:BP (some (.nx Y))=some .none:=rfl
def dG{xs}{x:α}(h:xs[n]?=some x):atI xs (n:Int)=some x:=by
 have:=(gi0 h).1
 rwa [TX.cD (by omega) (by omega)]
section
variable {x y z u v:α}{l:List α}
@[simp] def Nk:atI (x::l) 0=some x:=dG rfl
@[simp] def Nl:atI (x::y::l) 1=some y:=dG rfl
@[simp] def Nm:atI (x::y::z::l) 2=some z:=dG rfl
@[simp] def Nn:atI (x::y::z::u::l) 3=some u:=dG rfl
@[simp] def Np:atI (x::y::z::u::v::l) 4=some v:=dG rfl
end
end
end SI
namespace TX
open SI L2.Z PySem
def ans_e{fl}{b}:ans Z Γ ⟨fl,n,b⟩ ds=BP (exs Z Γ (cL ⟨fl,n,b⟩ ds) b):=(rfl)
noncomputable def vg(o:Option (OM×Ust)):Option (Ust×R):=o.map λq=>(q.2,oE q.1)
@[simp] def Mb{o}{U}:vg (some (o,U))=some (U,oE o):=(rfl)
def aQ{O}{c n}{fl}{b}{U}:cy Z O Γ c ⟨fl,n,b⟩ U ds=vg (br Z O Γ c (startM ⟨fl,n,b⟩ ds) U b):=(rfl)
end TX
namespace L2.Z
open PySem SI
section
variable {O:FsM}{U U':Ust}{s:SM}{r a b:SMs}{d:D}{t:Bool}{x:Nat}{e:M}
noncomputable def nxM(Z:Fs)(O:FsM)(Γ:List (Str×D))(c:Nat)(o:Option (OM×Ust))(r:SMs):Option (OM×Ust):=o.bind λq=>q.1.andThen (λY'=>br Z O Γ c Y' q.2 r) q.2
noncomputable def ifM(Z:Fs)(O:FsM)(Γ:List (Str×D))(c:Nat)(o:Option D)(Y:List Sl)(U:Ust)(a b:SMs):Option (OM×Ust):=o.bind λd=>(asB d).bind λt=>if t then br Z O Γ c Y U a else br Z O Γ c Y U b
noncomputable def gi(Z:Fs)(O:FsM)(Γ:List (Str×D))(c:Nat)(tg:Tg)(body:SMs)(ds:List D)(Y:List Sl)(U:Ust):Option (OM×Ust):=forM (aw tg) (λY' U'=>br Z O Γ c Y' U' body) ds Y U
noncomputable def vM(c:Nat)(U:Ust)(Y:List Sl):List Sl:=Y.map (vE c U)
@[simp ↓ high] def vM_g{i:Nat}:(vM c U Y)[i]?=Y[i]?.map (vE c U):=gm0
@[simp ↓ high] def evM_p{q}:evM Z O Γ c Y U (.p q)=(ev Z Γ .val (vM c U Y) q).map λd=>(.ok d,U):=(rfl)
@[simp ↓ high] def exM_ret:exM Z O Γ c Y U (.ret e)=(evM Z O Γ c (fzM Y) U e).map λz=>(uS .rt (fzM Y) z.1,z.2):=(rfl)
@[simp ↓ high] def exMs_c:br Z O Γ c Y U (.cons s r)=nxM Z O Γ c (exM Z O Γ c Y U s) r:=(rfl)
@[simp] def Nq:nxM Z O Γ c (some (.nx Y,U)) r=br Z O Γ c Y U r:=(rfl)
@[simp] def Nr:nxM Z O Γ c (some (.rt d,U)) r=some (.rt d,U):=(rfl)
@[simp] def Nt:nxM Z O Γ c (some (.exc x Y,U)) r=some (.exc x Y,U):=(rfl)
@[simp ↓ high] def exM_if{q}:exM Z O Γ c Y U (.ifs q a b)=ifM Z O Γ c (ev Z Γ .test (vM c U Y) q) Y U a b:=(rfl)
@[simp] def Nu:ifM Z O Γ c (some (.bool t)) Y U a b=if t then br Z O Γ c Y U a else br Z O Γ c Y U b:=(rfl)
@[simp ↓ high] def exM_for{tg:Tg}{src}:exM Z O Γ c Y U (.fors tg src r)=(evI Z Γ .walk Y src).bind λds=>gi Z O Γ c tg r ds Y U:=(rfl)
@[simp] def Nv{f}:goR (.ok d,U) f=f d U:=(rfl)
@[simp] def Nw{f}:goR (.exc x,U) f=some (.exc x,U):=(rfl)
@[simp] def Mc{f}:uS f Y (.ok d)=f d:=rfl
@[simp] def Me{f}:uS f Y (.exc x)=.exc x Y:=rfl
@[simp] def Mg:oE (.nx Y)=.ok .none:=rfl
@[simp] def Mh:oE (.rt d)=.ok d:=rfl
@[simp] def Mi:oE (.exc x Y)=.exc x:=rfl
@[simp] def GQ{l}:vE c U (.dat (.tuple l))=.dat (.tuple l):=rfl
@[simp] def Nx{h}:oB (some (.dat (.hdl h)))=some h:=rfl
@[simp] def Mj:Gp false (some (.dat d))=some d:=rfl
@[simp] def Ml{f:Ust->List D->Option (Ust×R)}:xO f (.ok ds) U=f U ds:=(rfl)
@[simp] def Ny :hdD (.tuple (d::ds))=some d:=rfl
@[simp] def Mm :IM (.tuple ds)=some ds:=rfl
@[simp] def Mn :IM (.list ds)=some ds:=rfl
@[simp] def Nz{tab}{i j}:Gq tab i j U (.nx Y)=some (.nx Y,U):=(rfl)
def Jg{tab}{i j}(h:tab.lookup x=some true):Gq tab i j U (.exc x Y)=some (.nx ((Y.set i (.dat (.exc x))).set j .no),U):=if_pos h
def BQ{tg:Tg}:gi Z O Γ c tg r (d::ds) Y U=(aw tg d Y).bind λY'=>(br Z O Γ c Y' U r).bind λq=>q.1.andThen (λY2=>gi Z O Γ c tg r ds Y2 q.2) q.2:=(rfl)
@[simp] def NR{f:List Sl->Option (OM×Ust)}:(OM.nx Y).andThen f U=f Y:=(rfl)
noncomputable def vh(Y:List Sl):Option Nat->OM
 |none=>.nx Y
 |some x=>.exc x Y
@[simp] def NS:vh Y none=.nx Y:=rfl
@[simp] def NU:vh Y (some x)=.exc x Y:=rfl
theorem Dg{inj}{tg:Tg}{F:α->List Sl}{f}:∀{xs:List β}{s} (h:∀x∈xs,∀s,∃s',(aw tg (inj x) (F s)).bind (λY=>br Z O Γ c Y U r)=some (vh (F s') (f x),U)),∃s',gi Z O Γ c tg r (xs.map inj) (F s) U=some (vh (F s') (xs.findSome? f),U)
 |[],s,_=>⟨s,rfl⟩
 |x::xs,s,h=>by
  obtain⟨s',e⟩:=h x ms0 s;obtain⟨Y',e1,e2⟩:=bx0 e;show ∃s',((aw tg (inj x) (F s)).bind λY'=>(br Z O Γ c Y' U r).bind _)=_;rw[e1,bs0,e2,List.findSome?_cons];cases f x with
  |some y=>exact⟨s',rfl⟩
  |none=>exact Dg λy hy=>h y (mc0 _ hy)
def yR{inj}{tg:Tg}{F:α->List Sl}(f:β->Option Nat){xs:List β}{s}{P:Option (OM×Ust)->Prop}(h:∀x∈xs,∀s,∃s',(aw tg (inj x) (F s)).bind (λY=>br Z O Γ c Y U r)=some (vh (F s') (f x),U))(k:∀s',P (some (vh (F s') (xs.findSome? f),U))):P (gi Z O Γ c tg r (xs.map inj) (F s) U):=by
 obtain⟨s',e⟩:=Dg h;rw[e];exact k s'
@[simp] def Mo:cW (.dat d)=true:=rfl
@[simp] def Mp{ns}:cW (.lent (.scr ns))=true:=rfl
@[simp] def Mq:CT (.nx Y) U=if Y.all cW then some (.nx Y,U)else none:=(rfl)
end
end L2.Z
namespace TX
open PySem SI M1 L2.Z
variable {O:FsM}{cNO cBT cBC:Nat}
inductive Th where
 |blob (t:Str)
 |tree (es:List (Str×Int))
 |com (a:Int) (ps:List Int) (tm:Int) (m:Str)
deriving DecidableEq
noncomputable def bZ(p:Str×Int):D:=.tuple [.str p.1,.int p.2]
noncomputable def Th.d:Th->D
 |.blob t=>.tuple [.str dF,.str t]
 |.tree es=>.tuple [.str bc,.list (es.map bZ)]
 |.com a ps tm m=>.tuple [.str af,.int a,.list (ps.map .int),.int tm,.str m]
noncomputable def Th.k:Th->Str
 |.blob _=>dF
 |.tree _=>bc
 |.com ..=>af
noncomputable def Th.cn:Th->D
 |.blob t=>.str t
 |.tree es=>.tuple (es.map bZ)
 |.com a ps tm m=>.tuple [.int a,.tuple (ps.map .int),.int tm,.str m]
noncomputable def Th.o(t:Th):D:=.tuple [.str t.k,t.cn]
noncomputable def Th.t:Th->D
 |.blob t=>.str t
 |.tree es=>.list (es.map bZ)
 |.com a ps tm m=>.tuple [.int a,.list (ps.map .int),.int tm,.str m]
section
variable {es:List (Str×Int)}{a tm:Int}{ps:List Int}
@[simp] def k_b:(Th.blob x).k=dF:=rfl
@[simp] def k_t:(Th.tree es).k=bc:=rfl
@[simp] def k_c:(Th.com a ps tm m).k=af:=rfl
@[simp] def c_b:(Th.blob x).cn=.str x:=rfl
@[simp] def c_t:(Th.tree es).cn=.tuple (es.map bZ):=rfl
@[simp] def c_c:(Th.com a ps tm m).cn=.tuple [.int a,.tuple (ps.map .int),.int tm,.str m]:=rfl
@[simp] def d_b:(Th.blob x).d=.tuple [.str dF,.str x]:=rfl
@[simp] def d_t:(Th.tree es).d=.tuple [.str bc,.list (es.map bZ)]:=rfl
@[simp] def d_c:(Th.com a ps tm m).d=.tuple [.str af,.int a,.list (ps.map .int),.int tm,.str m]:=rfl
@[simp] def t_b:(Th.blob x).t=.str x:=rfl
@[simp] def t_t:(Th.tree es).t=.list (es.map bZ):=rfl
@[simp] def t_c:(Th.com a ps tm m).t=.tuple [.int a,.list (ps.map .int),.int tm,.str m]:=rfl
end
@[simp] def NV{a b:List (Str×Int)}:a.map bZ=b.map bZ↔a=b:=List.map_inj_right λx y q=>by simp[bZ]at q;exact Prod.ext q.1 q.2
@[simp] def NW{a b:List Int}:a.map D.int=b.map D.int↔a=b:=List.map_inj_right λc c q=>D.int.inj q
def Th.o_inj{a b:Th}(h:a.o=b.o):a=b:=by cases a<;>cases b<;>simp_all [Th.o]
def Th.d_ok(t:Th):okS 7 t.d=true:=by cases t<;>simp[okS,bZ]
noncomputable def atL(L:List Th)(i:Int):Option Th:=if 0<=i then L[i.toNat]? else none
noncomputable abbrev vt(L:List Th):Ust:=[L.map Th.o]
noncomputable def putL(L:List Th)(t:Th):List Th:=if t∈L then L else L++[t]
def qA(L:List Th)(t:Th)(hz:L.length<1000000):∃j:Nat,jw (vt L) [.hdl 0,t.o]=some (vt (putL L t),.ok (.int (j:Nat))):=by
 have m:t.o∈L.map Th.o↔t∈L:=⟨λz=>by obtain⟨s,h1,h2⟩:=mm0 z;exact Th.o_inj h2▸h1,List.mem_map_of_mem⟩;have o:=(show okK 8 t.o=true by cases t<;>simp[okK,bZ,Th.o]);cases h:(L.map Th.o).idxOf? t.o with
 |some j=>
  have:t∈L:=m.mp (Classical.byContradiction λz=>by rw[List.idxOf?_eq_none_iff.mpr z]at h;cases h);exact⟨j,by simp[jw,putL,o,h,hz,this];rfl⟩
 |none=>
  have:t∉L:=λz=>List.idxOf?_eq_none_iff.mp h (m.mpr z)
  exact⟨L.length,by simp[jw,putL,o,h,hz,this];rfl⟩
noncomputable abbrev orX{α:Type}(cNO:Nat)(f:α->R):Option α->R
 |some t=>f t
 |none=>.exc cNO
def iJ{L}{i}{t}(h:atL L i=some t):∃n:Nat,i=(n:Int)/\L[n]?=some t/\n<L.length/\(L.map Th.o)[n]?=some t.o:=by
 unfold atL at h;split at h
 .exact⟨i.toNat,by omega,h,(gi0 h).1,by rw[gm0,h];rfl⟩
 .cases h
abbrev yS(cNO:Nat)(run:Ust->List D->Option (Ust×R)):Prop:=∀(L:List Th)(i:Int),run (vt L) [.hdl 0,.int i]=some (vt L,orX cNO (λt=>.ok t.o) (atL L i))
abbrev qB(O:FsM)(cNO:Nat):Prop:=dy O (ai "held") [false,false] (yS cNO)
def Jh:yS cNO (cy Z O Γ c (ck c cNO)):=by
 intro L i;cases h:atL L i with
 |none=>
  by_cases z:0<=i
  .have:¬ i<L.length:=by simp[atL,z]at h;omega
   simp[aQ,ck,z,this]
  .simp[aQ,ck,z]
 |some t=>
  obtain⟨n,rfl,_,g,h2⟩:=iJ h;simp[aQ,ck,dG h2,g]
noncomputable def az(L:List Th)(i:Int)(k:Str):Option Th:=(atL L i).bind λt=>if t.k=k then some t else none
abbrev yT(cNO:Nat)(run:Ust->List D->Option (Ust×R)):Prop:=∀(L:List Th)(i:Int)(k:Str),k.length<=100->run (vt L) [.hdl 0,.int i,.str k]=some (vt L,orX cNO (λt=>.ok t.cn) (az L i k))
abbrev qC(O:FsM)(cNO:Nat):Prop:=dy O (ai "content") [false,false,false] (yT cNO)
def GR{x y}(h:y.length<=100)(hx:x.cps.size<=900):biD .fst [.str x,.str y]=some (.str (x++y)):=BL (by omega:x.cps.size+y.length<=16777216)
def Ji(hh:qB O cNO):yT cNO (cy Z O Γ c (bX cNO)):=by
 intro L i k hk;obtain⟨r,e,h⟩:=hh;simp[aQ,bX,e,h,az];cases atL L i with
 |none=>rfl
 |some t=>by_cases z:t.k=k<;>simp[Th.o,z,GQ,GR hk]
abbrev yU(cNO:Nat)(run:Ust->List D->Option (Ust×R)):Prop:=∀(L:List Th)(i:Int),run (vt L) [.hdl 0,.int i]=some (vt L,orX cNO (λt=>.ok (.str t.k)) (atL L i))
abbrev mj(O:FsM)(cNO:Nat):Prop:=dy O (ai "kind") [false,false] (yU cNO)
def Jj(hh:qB O cNO):yU cNO (cy Z O Γ c eK):=by
 intro L i;obtain⟨r,e,h⟩:=hh;simp[aQ,eK,e,h];cases atL L i<;>simp[Th.o]
variable {O:FsM}{cNO cBT cBC:Nat}
abbrev yV(run:List D->Option D):Prop:=∀xs:List Str,xs.length<=4->run [.list (xs.map .str)]=some (.bool (mf xs))
abbrev yW(Z:Fs):Prop:=Has Z "names_rise" [true] yV
def Jk:yV (ans Z Γ du):=by
 intro xs hl
 match xs,hl with
 |[],_=>rfl
 |[x],_=>rfl
 |[x,y],_=>exact .trans (b:=some (D.bool ([ltS x y].all id))) rfl (by simp[mf,ltS])
 |[x,y,z],_=>exact .trans (b:=some (D.bool ([ltS x y,ltS y z].all id))) rfl (by simp[mf,ltS])
 |[x,y,z,w],_=>exact .trans (b:=some (D.bool ([ltS x y,ltS y z,ltS z w].all id))) rfl (by simp[mf,ltS])
abbrev Dh(cBT:Nat)(run:Ust->List D->Option (Ust×R)):Prop:=∀(U:Ust)(es:List Str),es.length<=4->(∀x∈es,x.length<=1000)->run U [.list (es.map .str)]=some (U,if oN es then .ok .none else .exc cBT)
abbrev Di(O:FsM)(cBT:Nat):Prop:=dy O "refuse_wrong_names" [false] (Dh cBT)
theorem jB{p:α->Bool}{y:β}:∀xs:List α,xs.findSome? (λx=>if p x then none else some y)=if xs.all p then none else some y
 |[]=>rfl
 |x::r=>by rw[List.findSome?_cons,jB r,List.all_cons];cases p x<;>rfl
def Mr(hn:si Z)(hr:yW Z):Dh cBT (cy Z O Γ c (aJ cBT)):=by
 intro U es hl hx;obtain⟨r1,e1,h1⟩:=hn;obtain⟨r2,e2,h2⟩:=hr;simp only[aQ,aJ];simp;refine yR (F:=λs=>[Sl.dat (.list (es.map .str)),s]) (λx=>if cZ x then none else some cBT) (P:=λo=>vg (nxM Z O Γ c o _)=_) (λx m s=>⟨.dat (.str x),?_⟩) λs=>?_
 .simp[e1,h1 x (hx x m)]
  cases cZ x<;>simp
 .rw[jB,oN]
  cases es.all cZ
  .simp
  .simp[e2,h2 es hl]
   cases mf es<;>simp
noncomputable def vj(cNO cBT:Nat)(L:List Th)(p:Str×Int):Option Nat:=match atL L p.2 with
 |none=>some cNO
 |some t=>if t.k=af then some cBT else none
noncomputable def kX(cNO cBT:Nat)(L:List Th)(es:List (Str×Int)):Option Nat:=if oN (es.map (·.1))then es.findSome? (vj cNO cBT L)else some cBT
def vp(L:List Th)(t:Th)(x:Option Nat)(o:Option (Ust×R)):Prop:=match x with
 |some x=>o=some (vt L,.exc x)
 |none=>∃j:Nat,o=some (vt (putL L t),.ok (.int (j:Nat)))
@[simp] def Mt{L}{t}{x}{o}:vp L t (some x) o↔o=some (vt L,.exc x):=Iff.rfl
abbrev yX(cNO cBT:Nat)(run:Ust->List D->Option (Ust×R)):Prop:=∀(L:List Th)(es:List (Str×Int)),es.length<=4->(∀p∈es,p.1.length<=1000)->L.length<1000->vp L (.tree es) (kX cNO cBT L es) (run (vt L) [.hdl 0,.list (es.map bZ)])
abbrev yY(O:FsM)(cNO cBT:Nat):Prop:=dy O "tree" [false,false] (yX cNO cBT)
variable {O:FsM}{cNO cBT cBC:Nat}
abbrev sk(cNO:Nat)(run:Ust->List D->Option (Ust×R)):Prop:=∀(L:List Th)(i:Int),run (vt L) [.hdl 0,.int i]=some (vt L,orX cNO (λa=>.ok .none) (az L i bc))
abbrev sq(O:FsM)(cNO:Nat):Prop:=dy O "refuse_what_is_no_tree" [false,false] (sk cNO)
def GS(hh:qC O cNO):sk cNO (cy Z O Γ c aA):=by
 intro L i;obtain⟨r,e,h⟩:=hh;simp only[aQ,aA];simp[e,h L i bc (by decide)];cases az L i bc<;>simp
noncomputable def yZ(L:List Th)(ps:List Int):Bool:=ps.all λp=>(az L p af).isSome
noncomputable def jP(cNO cBC:Nat)(L:List Th)(a:Int)(ps:List Int)(tm:Int)(m:Str):Option Nat:=
 if !((az L a bc).isSome&&yZ L ps)then some cNO
 else if decide (ps.length<=2)&&decide ((gE ps).length=ps.length)&&decide (0<=tm)&&decide (10∉m.cps.toList)then none else some cBC
theorem dB:∀ps:List Int,intsOf (ps.map .int)=some ps
 |[]=>rfl
 |p::r=>by
  show (intsOf (r.map .int)).map (p::·)=_;rw[dB r];rfl
def mq{ps}(h:ps.length<64):biD .nset [.list (ps.map .int)]=some (.int (gE ps).length):=by
 show (intsOf (ps.map .int)).bind _=_;rw[dB,bs0,if_pos h]
abbrev Dj(cNO cBC:Nat)(run:Ust->List D->Option (Ust×R)):Prop:=∀(L:List Th)(a:Int)(ps:List Int)(tm:Int)(m:Str),ps.length<=3->run (vt L) [.hdl 0,.int a,.list (ps.map .int),.int tm,.str m]=some (vt L,match jP cNO cBC L a ps tm m with|some x=>.exc x|none=>.ok .none)
abbrev Dk(O:FsM)(cNO cBC:Nat):Prop:=dy O "refuse_wrong_commit" [false,false,false,false,false] (Dj cNO cBC)
def Mu(hc:qC O cNO)(ht:sq O cNO)(hg:Γ.lookup ("MOST_PARENTS":Str)=some (D.int 2)):Dj cNO cBC (cy Z O Γ c (aG cBC)):=by
 intro L a ps tm m hl;obtain⟨r1,e1,h1⟩:=ht;obtain⟨r2,e2,h2⟩:=hc;have dl:=nO ps;simp only[aQ,aG,jP];simp[e1,h1];cases az L a bc with
 |none=>simp
 |some t=>
  simp;refine yR (F:=λs=>[.dat (.hdl 0),.dat (.int a),.dat (.list (ps.map .int)),.dat (.int tm),.dat (.str m),s]) (λx=>if (az L x af).isSome then none else some cNO) (P:=λo=>vg (nxM Z O Γ c o _)=_) (λx b s=>⟨.dat (.int x),?_⟩) λs=>?_
  .simp[e2,h2 L x af (by decide)]
   cases az L x af<;>simp
  .rw[jB,yZ]
   cases ps.all λp=>(az L p af).isSome
   .simp
   by_cases z1:ps.length<=2
   .have y1:¬ (2:Int)<ps.length:=by omega
    by_cases z2:(gE ps).length=ps.length
    .by_cases z3:0<=tm
     .have y3:¬ tm<0:=by omega
      by_cases z4:10∈m.cps<;>simp[hg,z1,y1,z2,z3,y3,z4,mq (ps:=ps) (by omega),inD,sf]
     .simp[hg,z1,y1,z2,z3,show tm<0 by omega,mq (ps:=ps) (by omega)]
    .have y2:(gE ps).length<ps.length:=by omega
     simp[hg,z1,y1,z2,y2,mq (ps:=ps) (by omega)]
   .simp[hg,z1,show (2:Int)<ps.length by omega]
abbrev oU(cNO cBC:Nat)(run:Ust->List D->Option (Ust×R)):Prop:=∀(L:List Th)(a:Int)(ps:List Int)(tm:Int)(m:Str),ps.length<=3->L.length<1000->vp L (.com a ps tm m) (jP cNO cBC L a ps tm m) (run (vt L) [.hdl 0,.int a,.list (ps.map .int),.int tm,.str m])
abbrev oV(O:FsM)(cNO cBC:Nat):Prop:=dy O "commit" [false,false,false,false,false] (oU cNO cBC)
def BR(hr:Dk O cNO cBC)(hp:yO O):oU cNO cBC (cy Z O Γ c gf):=by
 intro L a ps tm m hl hz;obtain⟨r1,e1,h1⟩:=hr;obtain⟨j,q⟩:=qA L (.com a ps tm m) (by omega);simp only[aQ,gf];simp[e1,h1 _ _ _ _ _ hl];cases jP cNO cBC L a ps tm m with
 |some x=>simp
 |none=>exact⟨j,by simp[hp,iq,show ps.length<=big from nt0 hl (by decide),show jw (vt L) [.hdl 0,.tuple [.str af,.tuple [.int a,.tuple (ps.map .int),.int tm,.str m]]]=_ from q]⟩
abbrev za(run:Ust->List D->Option (Ust×R)):Prop:=∀(L:List Th)(x:Str),L.length<1000->vp L (.blob x) none (run (vt L) [.hdl 0,.str x])
abbrev zb(O:FsM):Prop:=dy O "blob" [false,false] za
def Jl(hp:yO O):za (cy Z O Γ c md):=by
 intro L x hz;obtain⟨j,q⟩:=qA L (.blob x) (by omega);exact⟨j,by simp only[aQ,md];simp[hp,iq,show jw (vt L) [.hdl 0,.tuple [.str dF,.str x]]=_ from q]⟩
variable {O:FsM}{cNO cBT cBC:Nat}
noncomputable def thX(cNO cBT cBC:Nat)(L:List Th):Th->Option Nat
 |.blob _=>none
 |.tree es=>kX cNO cBT L es
 |.com a ps tm m=>jP cNO cBC L a ps tm m
noncomputable def Th.sm:Th->Prop
 |.blob x=>x.length<=1000
 |.tree es=>es.length<=4/\∀p∈es,p.1.length<=1000
 |.com _ ps tm m=>ps.length<=3/\tm.toNat<=lD/\m.length<=1000
abbrev Dl(cNO cBT cBC:Nat)(run:Ust->List D->Option (Ust×R)):Prop:=∀(L:List Th)(t:Th),t.sm->L.length<1000->vp L t (thX cNO cBT cBC L t) (run (vt L) [.hdl 0,t.d])
abbrev Dm(O:FsM)(cNO cBT cBC:Nat):Prop:=dy O "_law_put" [false,false] (Dl cNO cBT cBC)
def BS(hb:zb O)(ht:yY O cNO cBT)(hc:oV O cNO cBC):Dl cNO cBT cBC (cy Z O Γ c iI):=by
 intro L t hs hz;obtain⟨r1,e1,h1⟩:=hb;obtain⟨r2,e2,h2⟩:=ht;obtain⟨r3,e3,h3⟩:=hc;simp only[aQ,iI];cases t with
 |blob x=>
  obtain⟨j,k⟩:=h1 L x hz;exact⟨j,by simp[e1,k]⟩
 |tree es=>
  have k:=h2 L es hs.1 hs.2 hz;rw[thX];revert k;cases kX cNO cBT L es with
  |some y=>intro k;simp at k;simp[e2,k]
  |none=>intro k;obtain⟨j,k⟩:=k;exact⟨j,by simp[e2,k]⟩
 |com a ps tm m=>
  have k:=h3 L a ps tm m hs.1 hz;rw[thX];revert k;cases jP cNO cBC L a ps tm m with
  |some y=>intro k;simp at k;simp[e3,k]
  |none=>intro k;obtain⟨j,k⟩:=k;exact⟨j,by simp[e3,k]⟩
def Jm(cNO cBT cBC:Nat)(P:List Th)(t:Th):Prop:=t.sm/\thX cNO cBT cBC P t=none/\t∉P
def Valid(cNO cBT cBC:Nat)(L:List Th):Prop:=∀P t R,L=P++t::R->Jm cNO cBT cBC P t
def Valid.snoc{L}{t}(h:Valid cNO cBT cBC L)(k:Jm cNO cBT cBC L t):Valid cNO cBT cBC (L++[t]):=by
 intro P x R e;rcases List.eq_nil_or_concat R with rfl|⟨R',y,rfl⟩
 .obtain⟨rfl,e2⟩:=List.append_inj' e rfl
  cases e2;exact k
 .have e':L++[t]=(P++x::R')++[y]:=by simp[e]
  exact h P x R' (List.append_inj' e' rfl).1
abbrev su(cNO cBT cBC:Nat)(run:Ust->List D->Option (Ust×R)):Prop:=∀L:List Th,Valid cNO cBT cBC L->L.length<1000->run [] [.list (L.map Th.d)]=some (vt L,.ok (.hdl 0))
abbrev sv(O:FsM)(cNO cBT cBC:Nat):Prop:=dy O "_law_filled" [false] (su cNO cBT cBC)
def qD(hp:Dm O cNO cBT cBC):su cNO cBT cBC (cy Z O Γ c dA):=by
 intro L hv hz;obtain⟨r1,e1,h1⟩:=hp;have loop:∀(R P:List Th)(s2:Sl),Valid cNO cBT cBC (P++R)->(P++R).length<1000->
   ∃s3,gi Z O Γ c (.one 2) (.cons (.expr (.call "_law_put" (.va 1 (.va 2 .nil)))) .nil) (R.map Th.d) [.dat (.list (L.map Th.d)),.dat (.hdl 0),s2] (vt P)=some (.nx [.dat (.list (L.map Th.d)),.dat (.hdl 0),s3],vt (P++R)):=by
  intro R
  induction R with
  |nil=>intro P s2 _ _;exact⟨s2,by rw[List.append_nil];rfl⟩
  |cons t r ih=>
   intro P s2 hv hz;obtain⟨k1,k2,k3⟩:=hv P t r rfl;have k:=h1 P t k1 (by rw[la0]at hz;grind);rw[k2]at k;obtain⟨j,k⟩:=k;obtain⟨s3,hs⟩:=ih (P++[t]) (.dat t.d) (by simpa using hv) (by simpa using hz);exact⟨s3,by simp[BQ,e1,k,putL,k3];simpa using hs⟩
 obtain⟨s3,hl⟩:=loop L [] .no hv hz;simp only[aQ,dA];simp at hl ⊢;exact hl▸rfl
variable {O:FsM}{cNO cBT cBC:Nat}
abbrev sx(Z:Fs):Prop:=Has Z "_law_whole" [true] λrun=>∀n:Int,run [.int n]=some (.bool true)
abbrev sy(c:Nat)(run:List D->Option D)(p:Th->Prop):Prop:=∀(h:Nat)(os:List D)(n:Nat)(t:Th),p t->os[n]?=some t.o->run [.vlt c h os,.int n]=some t.t
abbrev mr(Z:Fs)(c:Nat):Prop:=Has Z "text_of" [true,true] λrun=>sy c run λt=>t.k=dF
abbrev oW(Z:Fs)(c:Nat):Prop:=Has Z "commit_of" [true,true] λrun=>sy c run λt=>t.k=af
def Jn(hc:fZ Z c):sy c (ans Z Γ (eF c)) λt=>t.k=dF:=by
 intro h os n t z hd;obtain⟨r1,e1,h1⟩:=hc;cases t<;>simp at z
 simp only[ans_e,eF];simp[e1,h1 h os n dF _ hd]
def Mv(hc:fZ Z c):sy c (ans Z Γ (cH c)) λt=>t.k=af:=by
 intro h os n t z hd;obtain⟨r1,e1,h1⟩:=hc;cases t<;>simp at z
 simp only[ans_e,cH];simp[e1,h1 h os n af _ hd]
abbrev SIs(c:Nat)(run:List D->Option D):Prop:=∀(h:Nat)(os:List D)(n:Nat)(t:Th),t.sm->os[n]?=some t.o->run [.vlt c h os,.int n,t.d]=some (.bool true)
abbrev HIs(Z:Fs)(c:Nat):Prop:=Has Z "_law_is" [true,true,true] (SIs c)
def Dn{es:List (Str×Int)}{n}:okS (n+2) (.list (es.map bZ))=true:=by simp[okS,bZ]
def GT(hk:Dc Z c)(ht:mr Z c)(he:gb Z c)(hc:oW Z c)(hw:sx Z):SIs c (ans Z Γ (mi c)):=by
 intro h os n t hs hd;obtain⟨r1,e1,h1⟩:=hk;obtain⟨r2,e2,h2⟩:=ht;obtain⟨r3,e3,h3⟩:=he;obtain⟨r4,e4,h4⟩:=hc;obtain⟨r5,e5,h5⟩:=hw;have k:=h1 h os n t.k _ hd;simp only[ans_e,mi];cases t with
 |blob x=>simp[e1,e2,k,h2 h os n _ rfl hd]
 |tree es=>
  simp[e1,e3,k,h3 h os n _ hd,rd Dn Dn,show es.length<=big from nt0 hs.1 (by decide)];rw[ao (g:=λb=>.bool true) (λx b=>by simp[bo,bZ,e5,h5])];simp
 |com a ps tm m=>
  simp[e1,e4,k,h4 h os n _ rfl hd,show ps.length+2<=big from nt0 (Nat.add_le_add_right hs.1 2) (by decide)];rw[show ps.map D.int++[.int a,.int tm]=(ps++[a,tm]).map .int by simp];generalize ps++[a,tm]=qs;rw[ao (g:=λb=>.bool true) (λx b=>by simp[bo,e5,h5])];have o:okS 8 (.tuple [.int a,.list (ps.map .int),.int tm,.str m])=true:=by simp[okS]
  simp[rd o o]
abbrev zc(c:Nat)(run:List D->Option D):Prop:=∀(h:Nat)(L:List Th),(∀t∈L,t.sm)->L.length<=1000->run [.vlt c h (L.map Th.o),.list (L.map Th.d)]=some (.bool true)
abbrev zd(Z:Fs)(c:Nat):Prop:=Has Z "_law_stays" [true,true] (zc c)
def vq(hz:Da Z c)(hi:HIs Z c):zc c (ans Z Γ (eJ c)):=by
 intro h L hs hl;obtain⟨r1,e1,h1⟩:=hz;obtain⟨r2,e2,h2⟩:=hi;simp only[ans_e,eJ];simp[e1,h1,sj (ds:=L.map Th.d) (by simp;grind),show L.length<=big from nt0 hl (by decide)];rw[ao (g:=λa=>.bool true) (λk hk=>by
  have hk:=List.mem_range.mp hk;have e:=ge0 hk;simp[bo,e2,h2 h (L.map Th.o) k L[k] (hs _ (List.getElem_mem _)) (by simp[e]),dG (xs:=L.map Th.d) (n:=k) (x:=L[k].d) (by simp[e])])]
 simp
variable {O:FsM}{cNO cBT cBC:Nat}
noncomputable def ixs(p:Str->Bool)(L:List Th):List Nat:=(List.range L.length).filter λi=>(L[i]?).any λt=>p t.k
def mv{p}{L}{i}(h:i∈ixs p L):∃t,atL L i=some t/\p t.k=true:=by
 obtain⟨h1,h2⟩:=List.mem_filter.mp h;rw[ge0 (List.mem_range.mp h1)]at h2;exact⟨_,by simp[atL],h2⟩
noncomputable def pk(xs:List Nat)(n:Int):Nat:=xs[(n % (xs.length:Int)).toNat]?.getD 0
def kY{xs:List Nat}(h:xs≠[])(n:Int):pk xs n∈xs/\atI (xs.map λi:Nat=>D.int i) (n % (xs.length:Int))=some (.int (pk xs n)):=by
 have m:=rY (ns:=xs.map Int.ofNat) (by simpa using h) n;rw[lm0]at m;have hb:(n % xs.length).toNat<xs.length:=by omega
 have e:=cY 0 hb;exact⟨mg0 e,by rw[cD m.1 (by simp_all),gm0,e];rfl⟩
def BU{L:List Th}{k}(h:k<L.length):atI (L.map Th.d) (k:Int)=some L[k].d:=dG (by simp[h])
def d_0(t:Th):pP t.d (.int 0)=some (.str t.k):=by cases t<;>simp
def ze{f}(p:Str->Bool)(L)(h:∀(k:Nat)(hk:k<L.length),f (.int k)=some (if p L[k].k then some (.int k)else none)):aZ f ((List.range L.length).map λk:Nat=>.int k)=some ((ixs p L).map λk:Nat=>D.int k):=
 bV λk hk=>by
  simp_all
def Aa(zs:List Str)(gs):biD .lzip [.list (zs.map .str),.list (gs.map .int)]=some (.list ((zs.zip gs).map bZ)):=by
 show some _=_;rw[List.zip_map,List.map_map];rfl
def zf{gs:List Int}(h:gs.length<=2):∃rs:List Int,biD .srt [.list (gs.map .int)]=some (.list (rs.map .int))/\rs.Nodup/\rs.length<=2/\∀r∈rs,r∈gs:=by
 match gs,h with
 |[],_=>exact⟨[],rfl,List.nodup_nil,by simp,λc h=>h⟩
 |[a],_=>exact⟨[a],rfl,by simp,by simp,λc h=>h⟩
 |[a,b],_=>
  have e:biD .srt [.list [.int a,.int b]]=some _:=rfl
  by_cases c1:a=b
  .subst c1;exact⟨[a],by simpa using e,by simp,by simp,by simp⟩
  .by_cases c2:a<b
   .exact⟨[a,b],by simp[e,c1,c2],by simpa,by simp,by simp⟩
   .exact⟨[b,a],by simp[e,c1,c2],by simpa using λz=>c1 z.symm,by simp,by simp⟩
theorem zg:∀{xs:List Str},ig xs->mf xs=true
 |[],_=>rfl
 |[_],_=>rfl
 |a::b::r,h=>by
  obtain⟨h1,h2⟩:=List.pairwise_cons.mp h;have:=h1 b ms0;unfold ltS at this;show (decide _&&mf _)=true;rw[this,zg h2];rfl
abbrev zh(cNO cBT cBC:Nat)(run:List D->Option D):Prop:=∀ns k L,Valid cNO cBT cBC L->L.length<=100->∃t:Th,t.sm/\thX cNO cBT cBC L t=none/\run [.scr ns,.int k,.list (L.map Th.d)]=some t.d
abbrev zi(Z:Fs)(cNO cBT cBC:Nat):Prop:=Has Z "_law_thing" [true,true,true] (zh cNO cBT cBC)
def vx(hm:qy Z)(hr:IW Z)(he:CZ Z)(hn:Dd Z)(hli:yD Z):zh cNO cBT cBC (ans Z Γ eI):=by
 intro ns k L hv hl;obtain⟨r1,e1,h1⟩:=hm;obtain⟨r2,e2,h2⟩:=hr;obtain⟨r3,e3,h3⟩:=he;obtain⟨r4,e4,h4⟩:=hn;obtain⟨r5,e5,h5⟩:=hli;obtain⟨nm,hnm⟩:∃g:Int->Str,∀k,r4 [.scr ns,.int k]=some (.str (g k))/\cZ (g k)=true:=⟨λk=>Classical.choose (h4 ns k),λk=>Classical.choose_spec (h4 ns k)⟩;have N0:=(en0 _ (by decide):0<=mixF ns k);have hN:=h1 ns k;generalize mixF ns k=N at N0 hN;have rg:=sj (ds:=L.map Th.d) (by simp;omega);rw[lm0]at rg;have hb:L.length<=big:=nt0 hl (by decide);simp only[ans_e,eI];simp[e1,hN,rg,hb];rw[ze (λk=>decide (k=bc)) L λk hk=>by by_cases z:L[k].k=bc<;>simp[bo,BU hk,d_0,z]]
 simp[rg,hb];rw[ze (λk=>decide (k=af)) L λk hk=>by by_cases z:L[k].k=af<;>simp[bo,BU hk,d_0,z]];simp[rg,hb];rw[ze (λk=>!decide (k=af)) L λk hk=>by by_cases z:L[k].k=af<;>simp[bo,BU hk,d_0,z]];have ti:=λt=>mv (p:=λk=>decide (k=bc)) (L:=L) (i:=t)
 have vi:=λt=>mv (p:=λk=>decide (k=af)) (L:=L) (i:=t)
 have ii:=λt=>mv (p:=λk=>!decide (k=af)) (L:=L) (i:=t)
 have iL:ixs (λk=>!decide (k=af)) L≠[]->L≠[]:=λh z=>h (by rw[z];rfl)
 have il:(ixs (λk=>!decide (k=af)) L).length<=L.length:=nt0 (List.length_filter_le ..) (by simp);generalize ixs (λk=>decide (k=bc)) L=tops at *;generalize ixs (λk=>decide (k=af)) L=vers at *;generalize ixs (λk=>!decide (k=af)) L=inner at *;simp
 by_cases cA:N % 6<2\/inner=[]
 .have g1:=en0 (N / 6) (b:=4) (by decide)
  have g2:=el0 (N / 6) (b:=4) (by decide);have rl:=BJ ns (k+1) (N / 6 % 4);have rc:=λx hx=>(uW ns (k+1) (N / 6 % 4) x hx).short
  have ll:=yH (rowF ns (k+1) (N / 6 % 4)) (decide (N / 24 % 2=0));have ls:=yI (qz rc (decide (N / 24 % 2=0)));have q3:=h3 (rowF ns (k+1) (N / 6 % 4)) (decide (N / 24 % 2=0)) (by omega) (λx hx=>nt0 (rc x hx) (by omega));refine⟨.blob (Txt.join Str.empty (endsF (rowF ns (k+1) (N / 6 % 4)) (decide (N / 24 % 2=0)))),nt0 (yJ _) (nt0 ls (by omega)),rfl,?_⟩;generalize endsF (rowF ns (k+1) (N / 6 % 4)) (decide (N / 24 % 2=0))=E at ll ls q3;have hj:(E.map λx=>x.length).sum<=big:=nt0 ls (by unfold big;omega);simp[cA,e2,h2 ns (k+1) (N / 6 % 4) (by omega) (by omega),e3,q3,cv,hj,show (⟨#[]⟩:Str).length=0 from rfl]
  rfl
 simp[cA];obtain⟨a1,hi⟩:¬ N % 6<2/\inner≠[]:=by simpa using cA
 have g1:=en0 (N / 6) (b:=4) (by decide);have g2:=el0 (N / 6) (b:=4) (by decide)
 by_cases cB:N % 6<4\/tops=[]
 .simp[cB,ve (n:=N / 6 % 4) (by omega) (by omega),show (N / 6 % 4).toNat<=big by unfold big;omega]
  rw[ao (g:=λj:Nat=>D.str (nm (k+1+j))) λj c=>by simp[bo,e4,hnm]];obtain⟨ts,hts⟩:∃ts,(List.range (N / 6 % 4).toNat).map (λj:Nat=>nm (k+1+j))=ts:=⟨_,rfl⟩;have tl:ts.length<=3:=by rw[<-hts];simp;omega
  have tp:∀t∈srtS ts,cZ t=true:=λt ht=>by
   have:=(fK ts t).mp ht;rw[<-hts]at this;obtain⟨j,_,rfl⟩:=mm0 this;exact (hnm _).2
  have sl:=wY ts;have s1:=gL ts;rw[show (List.range (N / 6 % 4).toNat).map (λj:Nat=>D.str (nm (k+1+j)))=ts.map .str by rw[<-hts,List.map_map];rfl];have ss:=yP ts (by omega);generalize srtS ts=zs at *;simp[ss,sj (ds:=zs.map .str) (by simp;omega),show zs.length<=big by unfold big;omega];rw[ao (g:=λj:Nat=>D.int (if (j:Int)<2 then (pk inner (mixF ns (k+2+j)):Int)else 0)) λj c=>by by_cases z:(j:Int)<2<;>simp[bo,e1,h1,(kY hi (mixF ns (k+2+j))).2,z,show 0<inner.length from lp0 hi]];obtain⟨gs,hgs⟩:∃gs:List Int,(List.range zs.length).map (λj:Nat=>if (j:Int)<2 then (pk inner (mixF ns (k+2+j)):Int)else 0)=gs:=⟨_,rfl⟩
  have gl:gs.length=zs.length:=by rw[<-hgs];simp
  rw[show (List.range zs.length).map (λj:Nat=>D.int (if (j:Int)<2 then (pk inner (mixF ns (k+2+j)):Int)else 0))=gs.map .int by rw[<-hgs,List.map_map];rfl];have e0:(zs.zip gs).map (·.1)=zs:=List.map_fst_zip (by omega);refine⟨.tree (zs.zip gs),⟨by rw[List.length_zip];omega,λp hp=>nt0 (uY (tp _ (List.of_mem_zip hp).1)).2 (by omega)⟩,?_,by simp[Aa]⟩;rw[thX,kX,e0,oN,List.all_eq_true.mpr tp,zg s1,Bool.and_true,if_pos rfl,List.findSome?_eq_none_iff];intro p hp;have:=(List.of_mem_zip hp).2;rw[<-hgs]at this;obtain⟨j,_,e⟩:=mm0 this;have ok:∃t,atL L p.2=some t/\t.k≠af:=by
   rw[<-e];split
   .obtain⟨t,h⟩:=ii _ (kY hi (mixF ns (k+2+j))).1
    exact⟨t,by simpa using h⟩
   .exact (by
     have h:=(iL hi);cases L with
     |nil=>exact absurd rfl h
     |cons t r=>
      obtain⟨_,h2,_⟩:=hv [] t r rfl;exact⟨t,rfl,λhk=>by cases t<;>simp[thX,jP,az,atL]at hk h2⟩)
  obtain⟨t,o1,o2⟩:=ok;simp[vj,o1,o2]
 .obtain⟨b1,ht⟩:¬ N % 6<4/\tops≠[]:=by simpa using cB
  have f1:=en0 (N / 6) (b:=3) (by decide);have f2:=el0 (N / 6) (b:=3) (by decide);simp[cB];have par:∃ps:List Int,ps.Nodup/\ps.length<=2/\(∀p∈ps,∃x∈vers,p=(x:Int))/\(vers=[]->ps=[])/\(vers≠[]->biD .srt [.list ((List.range (N / 6 % 3).toNat).map λj:Nat=>D.int (pk vers (mixF ns (k+1+j))))]=some (.list (ps.map .int))):=by
   by_cases v:vers=[]
   .exact⟨[],by simp,by simp,by simp,λc=>rfl,λh=>absurd v h⟩
   .obtain⟨rs,t1,t2,t3,t4⟩:=zf (gs:=(List.range (N / 6 % 3).toNat).map λj:Nat=>(pk vers (mixF ns (k+1+j)):Int)) (by simp;omega)
    exact⟨rs,t2,t3,λp hp=>by
     obtain⟨j,_,e⟩:=mm0 (t4 p hp);exact⟨_,(kY v (mixF ns (k+1+j))).1,e.symm⟩,λh=>absurd h v,λc=>by rw[<-t1,List.map_map];rfl⟩
  obtain⟨ps,p1,p2,p3,p4,p5⟩:=par;have tm:∃tm:Int,(0<=tm/\tm.toNat<=lD)/\atI [D.int 0,.int 1,.int 2,.int 999999999999999,.int (N / 36 % 10)] (N / 36 % 5)=some (.int tm):=by
   have:=en0 (N / 36) (b:=10) (by decide);have:=el0 (N / 36) (b:=10) (by decide);unfold lD;obtain e|e|e|e|e:N / 36 % 5=0\/N / 36 % 5=1\/N / 36 % 5=2\/N / 36 % 5=3\/N / 36 % 5=4:=by omega
   all_goals rw[e];simp<;>omega
  obtain⟨tm,⟨tm0,tm1⟩,tme⟩:=tm;obtain⟨qs,q1,q2,q3,q4⟩:∃qs:List Int,qs.Nodup/\qs.length<=2/\(∀p∈qs,∃x∈vers,p=(x:Int))/\qs.map D.int=if N / 18 % 2=0 then (ps.map D.int).reverse else ps.map D.int:=by
   split
   .exact⟨ps.reverse,List.pairwise_reverse.mpr (p1.imp Ne.symm),by simpa,by simpa using p3,by simp⟩
   .exact⟨ps,p1,p2,p3,rfl⟩
  refine⟨.com (pk tops (mixF ns (k+3))) qs tm (fV ns (k+4)),⟨by omega,tm1,nt0 (fq ns (k+4)).short (by omega)⟩,?_,?_⟩
  .rw[thX,jP]
   obtain⟨th,c1,c2⟩:=ti _ (kY ht (mixF ns (k+3))).1;have k2:yZ L qs=true:=by
    rw[yZ,List.all_eq_true];intro p hp;obtain⟨x,hx,rfl⟩:=q3 p hp;obtain⟨th,c1,c2⟩:=vi x hx;simp at c2;simp[az,c1,c2]
   simp at c2;have:=(fq ns (k+4)).free;simp at this;simp[az,c1,c2,k2,q2,(show (gE qs).length=qs.length by
     match qs,q2 with
     |[],_=>rfl
     |[a],_=>rfl
     |[a,b],_=>simp[gE,wg,by simpa using q1]),tm0,this]
  .have hp:=(kY ht (mixF ns (k+3))).2
   have tl:=lp0 ht;rw[d_c,q4]
   by_cases v:vers=[]
   .rw[p4 v]
    by_cases w:N / 18 % 2=0<;>simp[v,w,tme,e1,h1,e5,h5,hp,tl,Df]
   .simp[v,ve (n:=N / 6 % 3) (by omega) (by omega),show (N / 6 % 3).toNat<=big by unfold big;omega]
    rw[ao (g:=λj:Nat=>D.int (pk vers (mixF ns (k+1+j)))) λj c=>by simp[bo,e1,h1,(kY v (mixF ns (k+1+j))).2,lp0 v]]
    by_cases w:N / 18 % 2=0<;>simp[p5 v,w,tme,e1,h1,e5,h5,hp,tl,Df]
def Do(L:List Th)(t:Th):inD t.d (.list (L.map Th.d))=some (decide (t∈L)):=by
 have o:∀t:Th,okS 8 t.d=true:=λt=>by cases t<;>simp[okS,bZ]
 show (if okS 8 t.d&&(L.map _).all _ then _ else _)=_;rw[o,List.all_eq_true.mpr (by simp[Th.d_ok])];show some _=_
 congr 1
 rw[Bool.eq_iff_iff,List.any_eq_true,decide_eq_true_iff];constructor
 .rintro ⟨d,hd,q⟩
  obtain⟨s,hs,rfl⟩:=mm0 hd
  rwa [<-(have h:=(od0 q);show s=t by cases s<;>cases t<;>simp_all)]
 .intro h;exact⟨_,List.mem_map_of_mem h,dt0 rfl⟩
variable {O:FsM}{cV cNO cBT cBC cNP cBP:Nat}
abbrev Dq(run:List D->Option D):Prop:=∀ns k m,0<=m->m<=1000->∃i:Int,run [.scr ns,.int k,.int m]=some (.int i)
abbrev Ds(Z:Fs):Prop:=Has Z "_law_wild" [true,true,true] Dq
def zm(hm:qy Z):Dq (ans Z Γ gd):=by
 intro ns k m h0 h1;obtain⟨r1,e1,h1'⟩:=hm;have hx:=h1' ns k;generalize mixF ns k=N at hx;simp only[ans_e,gd];simp[e1,hx]
 by_cases z:N % 4=0\/m=0
 .simp[z]
  obtain e|e|e|e|e:N / 4 % 5=0\/N / 4 % 5=1\/N / 4 % 5=2\/N / 4 % 5=3\/N / 4 % 5=4:=by grind
  all_goals simp[e]
 .exact⟨N / 4 % m,by simp[z,show 0<m by grind]⟩
def Mw(c:Nat):ans Z Γ bH [.str ⟨#[c]⟩]=some (.bool (cw c)):=by
 rw[uX];simp only[ans_e,bH]
 by_cases h:97<=c/\c<=122\/65<=c/\c<=90\/48<=c/\c<=57<;>simp[GM,h,inD,sf]
def Mx(hs:sh Z)(hg:Γ.lookup ("LONGEST_NAME":Str)=some (D.int 12))(x:Str)(hx:x.length<=1000):ans Z Γ eE [.str x]=some (.bool (cZ x)):=by
 obtain⟨r1,e1,h1⟩:=hs;have hz:x.length<=big:=nt0 hx (by decide);have hy:x.cps.size<=big:=hz;simp only[ans_e,eE,cZ,dot,GN]
 by_cases c1:1<=x.length/\x.length<=12
 .by_cases c2:x=⟨#[46]⟩\/x=⟨#[46,46]⟩
  .simp[hz,hg,c1,c2,show ¬ ((x.length:Int)<1\/12<(x.length:Int)) by omega]
   rcases c2 with rfl|rfl<;>simp
  .simp[hz,hy,hg,c1,c2,show ¬ ((x.length:Int)<1\/12<(x.length:Int)) by omega]
   rw[ao (g:=λc=>D.bool (cw c)) λc a=>by simp[bo,e1,h1]];simp[not_or.mp c2]
 .simp[hz,hg,show (x.length:Int)<1\/12<(x.length:Int) by grind]
  omega
def nmR(hm:qy Z)(ns)(b:Int):Jc (ans Z Γ gc [.scr ns,.int b]):=by
 obtain⟨r1,e1,h1⟩:=hm;have hx:=h1 ns b;generalize mixF ns b=N at hx;simp only[ans_e,gc];simp[e1,hx]
 by_cases c0:0<N % 3
 .have g1:=en0 (N / 3) (b:=8) (by decide)
  have g2:=el0 (N / 3) (b:=8) (by decide);generalize N / 3 % 8=m at g1 g2;obtain⟨k,rfl⟩:=Int.eq_ofNat_of_zero_le g1;simp[c0]
  match k,(by grind:k<8)with
  |0,_|1,_|2,_|3,_|4,_|5,_|6,_|7,_=>exact⟨_,rfl,by decide⟩
 .have m1:=en0 (N / 3) (b:=12) (by decide)
  have m2:=el0 (N / 3) (b:=12) (by decide);obtain⟨k,ek⟩:=Int.eq_ofNat_of_zero_le m1;rw[ek]at m2;have hb:k+1<=big:=nt0 (m:=13) (by omega) (by decide);have hm:∀c∈List.map (sgn7 ns b) (List.range (k+1)),cw c=true:=λc hc=>by
   obtain⟨j,_,rfl⟩:=mm0 hc;exact (by
     have q1:=en0 (mixF ns (b+7*(j:Int)) / 5) (b:=65) (by decide);have q2:=el0 (mixF ns (b+7*(j:Int)) / 5) (b:=65) (by decide);have hl:(mixF ns (b+7*(j:Int)) / 5 % 65).toNat<signs65.length:=by show _<65;simp_all
     unfold sgn7 cw;rw[ge0 hl];exact dt0 (List.getElem_mem hl))
  simp[c0,ek,ve (n:=1+(k:Int)) (by omega) (by omega),show (1+(k:Int)).toNat=k+1 by omega,hb];rw[ao (g:=D.str ∘ (λc=>(⟨#[c]⟩:Str)) ∘ sgn7 ns b) λj a=>by
   have q3:=yC (xs:=signs65) 0 (en0 (mixF ns (b+7*(j:Int)) / 5) (b:=65) (by decide)) (el0 _ (by decide));simp[bo,e1,h1,mulL (i:=7) (by decide) (by decide)];exact⟨by decide,q3⟩,<-List.map_map,<-List.map_map]
  obtain⟨cs,hc⟩:∃cs,(List.range (k+1)).map (sgn7 ns b)=cs:=⟨_,rfl⟩;have hl:cs.length=k+1:=by rw[<-hc];simp
  rw[hc]at hm ⊢;have S:strsOf (cs.map (D.str ∘ λc=>(⟨#[c]⟩:Str)))=some (cs.map λc=>⟨#[c]⟩):=by rw[<-List.map_map,cv]
  have J:Txt.join ⟨#[]⟩ (cs.map λc=>(⟨#[c]⟩:Str))=⟨cs.toArray⟩:=join_one cs;have L1:((λx:Str=>x.length) ∘ λc:Nat=>(⟨#[c]⟩:Str))=λa=>1:=rfl
  have L2:(⟨#[]⟩:Str).length=0:=rfl;simp[S,J,L1,L2,List.map_const',List.sum_replicate_nat,hl,hb];obtain⟨T,hT⟩:∃T:Str,⟨cs.toArray⟩=T:=⟨_,rfl⟩;have lT:T.length=k+1:=by rw[<-hT];show cs.toArray.size=_;simp[hl]
  have sT:T.cps.toList.all cw=true:=by rw[<-hT];simpa using hm
  rw[hT];have m0:jA (some (.str ⟨#[97]⟩)) (some (.int 0))=some (.str ⟨#[]⟩):=rfl;have m1:jA (some (.str ⟨#[97]⟩)) (some (.int 1))=some (.str ⟨#[97]⟩):=rfl;have n:∀Q:Str,opD .add (.str T) (.str Q)=if T.length+Q.length<=big then some (.str (T++Q))else none:=λa=>rfl
  have b2:k+1+1<=big:=nt0 (m:=14) (by omega) (by decide)
  by_cases q:⟨#[46]⟩=T\/⟨#[46,46]⟩=T
  .refine⟨T++⟨#[97]⟩,?_,by rcases q with rfl|rfl<;>decide⟩
   simp[inD,okS,q,m1,n,lT,show (⟨#[97]⟩:Str).length=1 from rfl,b2]
  .refine⟨T,?_,?_⟩
   .simp[inD,okS,q,m0,n,lT,L2,hb]
    exact eB (by show (T.cps++#[]).toList=_;simp)
   .have q':=not_or.mp q
    rw[cZ,sT];simp[lT,dot,GN,Ne.symm q'.1,Ne.symm q'.2];omega
end TX
set_option maxRecDepth 10000
namespace TX
open PySem SI L2.Z
noncomputable def cf:Def:=⟨[true,true],2,(.A (.ret (.idx (.call "commit_of" (.B (.v 0) (.v 1))) (.k (.int 1)))))⟩
noncomputable def eL:Def:=⟨[true],1,(.cons (.ifs (.cmp .eq (.idx (.v 0) (.k (.int 0))) (.k (.str ⟨#[98,108,111,98]⟩))) (.A (.ret (.lst .nil))) .nil) (.B (.ifs (.cmp .eq (.idx (.v 0) (.k (.int 0))) (.k (.str ⟨#[116,114,101,101]⟩))) (.A (.ret (.comp 1 [] (.one 0) (.seq (.idx (.v 0) (.k (.int 1)))) .nil (.idx (.v 0) (.k (.int 1)))))) .nil) (.ret (.op .add (.lst (.A (.idx (.v 0) (.k (.int 1))))) (.idx (.v 0) (.k (.int 2)))))))⟩
noncomputable def cJ:Def:=⟨[true,true],5,(.cons (.new 3 (.comp 1 [1] (.one 0) (.rng (.bi .len (.A (.v 0)))) .nil (.cmp .isin (.v 0) (.v 1)))) (.B (.fors (.one 2) (.revr (.bi .len (.A (.v 0)))) (.A (.fors (.one 4) (.seq (.call "_law_below" (.A (.idx (.v 0) (.v 2))))) (.A (.seti 3 (.v 4) (.or (.idx (.v 3) (.v 4)) (.idx (.v 3) (.v 2)))))))) (.ret (.comp 1 [3] (.one 0) (.rng (.bi .len (.A (.v 0)))) (.A (.idx (.v 1) (.v 0))) (.v 0)))))⟩
noncomputable def iK(cBT:Nat):bz:=⟨[false,false],4,(.cons (.expr (.call "refuse_wrong_names" (.G (.p (.comp 2 [] (.tup [0,1]) (.seq (.v 1)) .nil (.v 0)))))) (.B (.fors (.tup [2,3]) (.seq (.v 1)) (.A (.ifm .eq (.meth "kind" 0 (.W 3)) (.k (.str ⟨#[99,111,109,109,105,116]⟩)) (.A (.raise cBT (.G (.p (.k (.str ⟨#[97,110,32,101,110,116,114,121,32,110,97,109,101,115,32,97,32,99,111,109,109,105,116]⟩)))))) .nil))) (.ret (.meth "put" 0 (.G (.p (.tup (.B (.k (.str ⟨#[116,114,101,101]⟩)) (.bi .tuple (.A (.comp 2 [] (.tup [0,1]) (.seq (.v 1)) .nil (.tup (.B (.v 0) (.v 1))))))))))))))⟩
noncomputable def dC:bz:=⟨[false,false],3,(.cons (.set 2 (.meth "kind" 0 (.W 1))) (.cons (.ifs (.cmp .eq (.v 2) (.k (.str ⟨#[116,114,101,101]⟩))) (.A (.ret (.p (.comp 2 [] (.tup [0,1]) (.seq (.call "entries_of" (.B (.v 0) (.v 1)))) .nil (.v 1))))) .nil) (.B (.ifs (.cmp .eq (.v 2) (.k (.str ⟨#[99,111,109,109,105,116]⟩))) (.A (.ret (.p (.op .add (.lst (.A (.idx (.call "commit_of" (.B (.v 0) (.v 1))) (.k (.int 0))))) (.call "parents_of" (.B (.v 0) (.v 1))))))) .nil) (.ret (.p (.lst .nil))))))⟩
noncomputable def eM:bz:=⟨[false,false],2,(.A (.ret (.call "all_below" (.va 0 (.va 1 (.G (.p (.g "named_by"))))))))⟩
noncomputable def bP:bz:=⟨[false,false,false],6,(.cons (.pure (.new 3 (.bi .list (.A (.v 1))))) (.cons (.pure (.new 4 (.bi .dict (.A (.lst .nil))))) (.B (.whl (.v 3) (.B (.pure (.pop 3 5)) (.ifs (.cmp .notin (.v 5) (.v 4)) (.B (.pure (.seti 4 (.v 5) (.k (.bool true)))) (.ext 3 (.callv 2 (.va 0 (.W 5))))) .nil))) (.ret (.p (.bi .srtd (.A (.v 4))))))))⟩
end TX
namespace L2.Z
open PySem SI
section
variable {O:FsM}{U:Ust}{b:SMs}{t:E}
noncomputable def BV(Z:Fs)(O:FsM)(Γ:List (Str×D))(c:Nat)(t:E)(b:SMs)(n:Nat)(Y:List Sl)(U:Ust):Option (OM×Ust):=gW (λY' U'=>ev Z Γ .test (Y'.map (vE c U')) t) (λY' U'=>br Z O Γ c Y' U' b) n Y U
@[simp ↓ high] def exM_whl:exM Z O Γ c Y U (.whl t b)=BV Z O Γ c t b 100000 Y U:=rfl
def GU{n}:BV Z O Γ c t b (n+1) Y U=(ev Z Γ .test (Y.map (vE c U)) t).bind λd=>(asB d).bind λq=>if q then (br Z O Γ c Y U b).bind λq=>q.1.andThen (λY2=>BV Z O Γ c t b n Y2 q.2) q.2 else some (.nx Y,U):=rfl
theorem Dt{F:α->List Sl}{V:α->Ust}(J:Nat->α->Prop){P:Option (OM×Ust)->Prop}
  (h:∀n s,J n s->(ev Z Γ .test ((F s).map (vE c (V s))) t=some (.bool false)/\P (some (.nx (F s),V s)))\/(ev Z Γ .test ((F s).map (vE c (V s))) t=some (.bool true)/\((∃s' m,m<n/\J m s'/\br Z O Γ c (F s) (V s) b=some (.nx (F s'),V s'))\/∃x s',br Z O Γ c (F s) (V s) b=some (.exc x (F s'),V s')/\P (some (.exc x (F s'),V s'))))):
  ∀n k s,J n s->n<k->P (BV Z O Γ c t b k (F s) (V s))
 |n,0,s,_,hk=>by omega
 |n,k+1,s,j,hk=>by
  rw[GU];rcases h n s j with⟨e,p⟩|⟨e,⟨s',m,hm,j',e2⟩|⟨x,s',e2,p⟩⟩
  .simp_all
  .rw[e,bs0,iV,bs0,if_pos rfl,e2]
   exact Dt J h m k s' j' (by omega)
  .rwa [e,bs0,iV,bs0,if_pos rfl,e2]
end
end L2.Z
namespace TX
open PySem SI M1 L2.Z
variable {O:FsM}{cNO cBT cBC:Nat}
noncomputable def Th.bl:Th->List Int
 |.blob _=>[]
 |.tree es=>es.map (·.2)
 |.com a ps _ _=>a::ps
noncomputable def Th.pa:Th->List Int
 |.com _ ps _ _=>ps
 |_=>[]
inductive Rch (g:Int->Option (List Int))(xs:List Int):Int->Prop
 |base {x:Int}:x∈xs->Rch g xs x
 |step {x y:Int}{ys:List Int}:Rch g xs x->g x=some ys->y∈ys->Rch g xs y
noncomputable def gB(L:List Th)(i:Int):Option (List Int):=(atL L i).map Th.bl
def kind_some{L:List Th}{i}{k}{t}:az L i k=some t↔atL L i=some t/\t.k=k:=by
 rw[az];cases atL L i<;>simp
 exact⟨λh=>⟨h.2,h.2▸h.1⟩,λh=>⟨h.1▸h.2,h.1⟩⟩
def at_nat{L:List Th}:atL L (n:Int)=L[n]?:=rfl
set_option tactic.hygienic true in
def zo{L:List Th}(hv:Valid cNO cBT cBC L){n}{t}(h:L[n]?=some t):(∀x∈t.bl,∃m s,x=((m:Nat):Int)/\m<n/\L[m]?=some s/\(s.k=af->x∈t.pa))/\∀x∈t.pa,(az L x af).isSome:=by
 obtain⟨hn,e⟩:=gi0 h;have k2:=(hv (L.take n) t (L.drop (n+1)) (by rw[<-e,List.getElem_cons_drop,List.take_append_drop])).2.1;have up:∀{x:Int}{s:Th},atL (L.take n) x=some s->∃m:Nat,x=m/\m<n/\L[m]?=some s:=λq=>by
  obtain⟨m,e1,e2,e3,_⟩:=iJ q;rw[List.length_take]at e3;rw[List.getElem?_take_of_lt (by omega)]at e2;exact⟨m,e1,by omega,e2⟩
 cases t with
 |blob _=>exact⟨nofun,nofun⟩
 |tree es=>
  refine⟨λx hx=>?_,nofun⟩;obtain⟨p,hp,rfl⟩:=mm0 hx;simp only[thX,kX]at k2;split at k2
  .have k3:=List.findSome?_eq_none_iff.mp k2 p hp
   rw[vj]at k3;split at k3
   .cases k3
   .rename_i s hs
    obtain⟨m,e1,e2,e3⟩:=up hs;exact⟨m,s,e1,e2,e3,λq=>by rw[if_pos q]at k3;cases k3⟩
  .cases k2
 |com a ps tm m=>
  simp only[thX,jP]at k2;split at k2
  .cases k2
  rename_i w;simp only[Bool.not_eq_true',Bool.not_eq_false,be0,yZ,List.all_eq_true]at w;have w2:∀x∈ps,∃m s,x=((m:Nat):Int)/\m<n/\L[m]?=some s/\s.k=af:=λx hx=>by
   obtain⟨s,hs⟩:=is0 (w.2 x hx);obtain⟨q1,q2⟩:=kind_some.mp hs;obtain⟨m,e1,e2,e3⟩:=up q1;exact⟨m,s,e1,e2,e3,q2⟩
  refine⟨λx hx=>?_,λx hx=>?_⟩
  .rcases mq0 hx with rfl|hx
   .obtain⟨s,hs⟩:=is0 w.1
    obtain⟨q1,q2⟩:=kind_some.mp hs;obtain⟨m,e1,e2,e3⟩:=up q1;exact⟨m,s,e1,e2,e3,λq=>by rw[q2]at q;exact absurd q (by decide)⟩
   .obtain⟨m,s,e1,e2,e3,_⟩:=w2 x hx
    exact⟨m,s,e1,e2,e3,λb=>hx⟩
  .obtain⟨m,s,rfl,_,e3,q⟩:=w2 x hx
   rw[kind_some.mpr ⟨at_nat.trans e3,q⟩];rfl
def Good(N:Nat)(g:Int->Option (List Int)):Prop:=∀i ys,g i=some ys->(∃n:Nat,i=n/\n<N)/\ys.length<=4/\∀y∈ys,(g y).isSome
def sA{L:List Th}(hv:Valid cNO cBT cBC L):Good L.length (gB L):=by
 intro i ys h;obtain⟨t,h1,rfl⟩:=mx0 h;obtain⟨n,e,e2,e3,_⟩:=iJ h1;have sm:=(hv (L.take n) t (L.drop (n+1)) (by rw[<-(gi0 e2).2,List.getElem_cons_drop,List.take_append_drop])).1;refine⟨⟨n,e,e3⟩,?_,λy hy=>?_⟩
 .cases t with
  |blob _=>exact Nat.zero_le _
  |tree es=>simp[Th.bl];exact sm.1
  |com _ ps _ _=>exact Nat.succ_le_succ sm.1
 .obtain⟨m,s,rfl,_,q,_⟩:=(zo hv e2).1 y hy
  rw[gB,at_nat,q];rfl
noncomputable def rL(P:Int->Prop)(N:Nat):List Int:=open Classical in ((List.range N).filter λn:Nat=>decide (P n)).map λn:Nat=>(n:Int)
def mem_rL{P:Int->Prop}{N:Nat}{z:Int}:z∈rL P N↔∃n:Nat,z=n/\n<N/\P z:=by
 simp only[rL,List.mem_map,List.mem_filter,List.mem_range,decide_eq_true_eq];exact⟨λ⟨n,⟨h1,h2⟩,h3⟩=>⟨n,h3.symm,h1,h3▸h2⟩,λ⟨n,h1,h2,h3⟩=>⟨n,⟨h2,h1▸h3⟩,h1.symm⟩⟩
def sC(P:Int->Prop)(N:Nat):(rL P N).Pairwise (·<·):=by
 rw[rL,List.pairwise_map];exact (List.pairwise_lt_range.filter _).imp λh=>Int.ofNat_lt.mpr h
theorem kZ:∀{xs ys:List Int},xs.Pairwise (·<·)->ys.Pairwise (·<·)->(∀z,z∈xs↔z∈ys)->xs=ys
 |[],[],_,_,_=>rfl
 |[],y::ys,_,_,h=>nomatch (h y).mpr ms0
 |x::xs,[],_,_,h=>nomatch (h x).mp ms0
 |x::xs,y::ys,h1,h2,h=>by
  obtain⟨a1,b1⟩:=List.pairwise_cons.mp h1;obtain⟨a2,b2⟩:=List.pairwise_cons.mp h2;have e:x=y:=by
   rcases mq0 ((h x).mp ms0)with q|q
   .exact q
   rcases mq0 ((h y).mpr ms0)with p|p
   .exact p.symm
   .have:=a1 y p;have:=a2 x q;grind
  subst e
  congr 1
  refine kZ b1 b2 λz=>⟨λhz=>?_,λhz=>?_⟩
  .exact (mq0 ((h z).mp (mc0 _ hz))).resolve_left λq=>by have:=a1 z hz;omega
  .exact (mq0 ((h z).mpr (mc0 _ hz))).resolve_left λq=>by have:=a2 z hz;omega
def vy{ns}(h:ns.Nodup):(insI ns).Pairwise (·<·)/\∀z,z∈insI ns↔z∈ns:=by
 have p:=List.mergeSort_perm ns (λa b=>decide (a<=b));exact⟨((List.pairwise_mergeSort (λa b c h1 h2=>by grind) (λa b=>by grind) ns).and (p.symm.nodup h)).imp λh=>by grind,λz=>p.mem_iff⟩
end TX
namespace L2.Z
open PySem SI
section
variable {O:FsM}{U U':Ust}{s:SM}{r a b:SMs}{d:D}{t:Bool}{x:Nat}{e:M}
noncomputable def ifC(Z:Fs)(O:FsM)(Γ:List (Str×D))(c:Nat)(o:Cop)(y:E)(Y:List Sl)(a b:SMs):R×Ust->Option (OM×Ust)
 |(.ok d,U)=>ifM Z O Γ c ((ev Z Γ .read (vM c U Y) y).bind λe=>(cp o d e).map .bool) Y U a b
 |(.exc x,U)=>some (.exc x Y,U)
@[simp ↓ high] def exM_ifm{o:Cop}{y:E}:exM Z O Γ c Y U (.ifm o e y a b)=(evM Z O Γ c Y U e).bind (ifC Z O Γ c o y Y a b):=by
 show (evM Z O Γ c Y U e).bind _=_;congr 1;funext z;obtain⟨z,V⟩:=z;cases z with
 |exc=>rfl
 |ok d=>
  show Option.bind (ev Z Γ .read (Y.map (vE c V)) y) _=Option.bind (Option.bind (ev Z Γ .read (Y.map (vE c V)) y) _) _;cases ev Z Γ .read (Y.map (vE c V)) y with
  |none=>rfl
  |some q=>
   show Option.bind (cp o d q) _=Option.bind (Option.map _ (cp o d q)) _;cases cp o d q<;>rfl
@[simp] def NA{o:Cop}{y:E}:ifC Z O Γ c o y Y a b (.ok d,U)=ifM Z O Γ c ((ev Z Γ .read (vM c U Y) y).bind λe=>(cp o d e).map .bool) Y U a b:=(rfl)
@[simp] def NB{o:Cop}{y:E}:ifC Z O Γ c o y Y a b (.exc x,U)=some (.exc x Y,U):=(rfl)
end
end L2.Z
namespace TX
open PySem SI M1 L2.Z
variable {O:FsM}{cNO cBT cBC:Nat}
def Jo(hf:Di O cBT)(hk:mj O cNO)(hp:yO O):yX cNO cBT (cy Z O Γ c (iK cBT)):=by
 intro L es hl hx hz;obtain⟨r1,e1,h1⟩:=hf;obtain⟨r2,e2,h2⟩:=hk;obtain⟨j,q⟩:=qA L (.tree es) (by omega);have hr:=h1 (vt L) (es.map (·.1)) (by simpa) (by simpa using λx a b=>hx (x,a) b);rw[List.map_map]at hr;have hb:es.length<=big:=nt0 hl (by decide);simp only[aQ,iK];simp[hb,e1];rw[ao (g:=D.str ∘ Prod.fst) (λd d=>rfl),kX];simp[show (λx:Str×Int=>x.1)=Prod.fst from rfl]at hr ⊢;rw[hr];cases oN (es.map Prod.fst)with
 |false=>simp
 |true=>
  simp;refine yR (F:=λs:Sl×Sl=>[.dat (.hdl 0),.dat (.list (es.map bZ)),s.1,s.2]) (s:=(.no,.no)) (vj cNO cBT L) (P:=λo=>vp L _ _ (vg (nxM Z O Γ c o _))) (λx m s=>⟨(.dat (.str x.1),.dat (.int x.2)),?_⟩) λs=>?_
  .simp[e2,h2,vj,bZ]
   cases atL L x.2 with
   |none=>simp
   |some t=>by_cases z:t.k=af<;>simp[z]
  .cases es.findSome? (vj cNO cBT L)with
   |some x=>simp
   |none=>
    refine⟨j,?_⟩;simp[hb,hp];rw[ao (g:=bZ) (λd d=>rfl)];simp[hb,iq,show jw (vt L) [.hdl 0,.tuple [.str bc,.tuple (es.map bZ)]]=_ from q]
abbrev Du(Z:Fs)(c:Nat):Prop:=Has Z "parents_of" [true,true] λrun=>∀(h:Nat)(os:List D)(n:Nat)(t:Th),t.k=af->os[n]?=some t.o->run [.vlt c h os,.int n]=some (.list (t.pa.map .int))
def My(hc:oW Z c)(h:Nat)(os:List D)(n:Nat)(t:Th)(z:t.k=af)(hd:os[n]?=some t.o):ans Z Γ cf [.vlt c h os,.int n]=some (.list (t.pa.map .int)):=by
 obtain⟨r1,e1,h1⟩:=hc;have k:=h1 h os n t z hd;cases t<;>simp at z
 simp only[ans_e,cf];simp[e1,k,Th.pa]
abbrev SBl(g:List Th->Int->Option (List Int))(cNO:Nat)(run:Ust->List D->Option (Ust×R)):Prop:=∀(L:List Th)(i:Int),(∀t∈L,t.sm)->run (vt L) [.hdl 0,.int i]=some (vt L,orX cNO (λys=>.ok (.list (ys.map .int))) (g L i))
abbrev zp(O:FsM)(cNO:Nat):Prop:=dy O "named_by" [false,false] (SBl gB cNO)
def vz(hk:mj O cNO)(he:gb Z c)(hc:oW Z c)(hp:Du Z c):SBl gB cNO (cy Z O Γ c dC):=by
 intro L i hs;obtain⟨r1,e1,h1⟩:=hk;obtain⟨r2,e2,h2⟩:=he;obtain⟨r3,e3,h3⟩:=hc;obtain⟨r4,e4,h4⟩:=hp;simp only[aQ,dC];simp[e1,h1,gB];cases q:atL L i with
 |none=>simp
 |some t=>
  obtain⟨n,rfl,p1,_,p2⟩:=iJ q;have sm:=hs t (mg0 p1);cases t with
  |blob x=>simp[Th.bl]
  |tree es=>
   have hb:es.length<=big:=nt0 sm.1 (by decide);have k:=h2 0 _ n _ p2;simp[e2,k,hb,Th.bl];rw[ao (g:=λp:Str×Int=>D.int p.2) (λb b=>rfl)];simp[Function.comp_def]
  |com a ps tm m=>
   have k3:=h3 0 _ n _ rfl p2;have k4:=h4 0 _ n _ rfl p2;have hb:1+ps.length<=big:=nt0 (Nat.add_le_add_left sm.1 1) (by decide);simp[e3,k3,e4,k4,Th.bl,Th.pa,hb]
variable {O:FsM}{cNO cBT cBC:Nat}
noncomputable def dk(sn:List Int):List (Sum Int Str×D):=sn.map λi=>(.inl i,.bool true)
theorem sD{x}:∀{sn:List Int},(look (dk sn) (.inl x)).isSome=decide (x∈sn)
 |[]=>rfl
 |y::r=>by
  show (if Sum.inl y=Sum.inl x then _ else look (dk r) _).isSome=_
  by_cases h:y=x
  .simp[h]
  .rw[if_neg (by simpa using h),sD];simp[Ne.symm h]
theorem qE{x}:∀{sn:List Int},x∉sn->put (dk sn) (.inl x) (.bool true)=dk (sn++[x])
 |[],_=>rfl
 |y::r,h=>by
  show (if Sum.inl y=Sum.inl x then _ else _::put (dk r) _ _)=_;rw[if_neg (by rintro ⟨⟩;exact h ms0),qE λq=>h (mc0 _ q)];rfl
theorem sE:∀{sn:List Int},kc (dk sn)=some sn
 |[]=>rfl
 |y::r=>by show (kc (dk r)).map _=_;rw[sE];rfl
def zq{sn:List Int}{x}:inD (.int x) (.dict (dk sn))=some (decide (x∈sn)):=by
 show some (look _ _).isSome=_;rw[sD]
theorem la:∀{l m:List Int},l.Nodup->l ⊆ m->l.length<=m.length
 |[],_,_,_=>Nat.zero_le _
 |x::r,m,h,s=>by
  have⟨a,b⟩:=List.nodup_cons.mp h;have q:=la b λy hy=>(List.mem_erase_of_ne λ(e:y=x)=>a (e▸hy)).mpr (s (mc0 _ hy))
  grind
def oX{N}{l:List Int}(h:l.Nodup)(hb:∀x∈l,∃n:Nat,x=n/\n<N):l.length<=N:=by
 have:=la h λx hx=>by
  obtain⟨n,rfl,hn⟩:=hb x hx;exact List.mem_map.mpr ⟨n,List.mem_range.mpr hn,rfl⟩
 simp_all
structure St where
 w:List Int
 sn:List Int
 s:Sl
structure Inv(N:Nat)(g:Int->Option (List Int))(xs:List Int)(m:Nat)(q:St):Prop where
 nd:q.sn.Nodup
 rs:∀x∈q.sn,Rch g xs x
 rw:∀x∈q.w,Rch g xs x
 al:∀x∈xs,x∈q.sn\/x∈q.w
 cl:∀x∈q.sn,∃ys,g x=some ys/\∀y∈ys,y∈q.sn\/y∈q.w
 me:m=q.w.length+5*(N-q.sn.length)
 wl:m<=1000
noncomputable def fu(cNO N:Nat)(g:Int->Option (List Int))(xs:List Int):R:=open Classical in if ∀x∈xs,(g x).isSome then .ok (.list ((rL (Rch g xs) N).map .int))else .exc cNO
def BW{aF}{f}(hf:fnOf Γ (some (.dat (.fn aF)))=some f){L}{N}{g}(hb:dy O f [false,false] λrun=>∀i,run (vt L) [.hdl 0,.int i]=some (vt L,orX cNO (λys=>.ok (.list (ys.map .int))) (g i)))(hg:Good N g)(hN:N<64)(xs)(hx:xs.length<=10):
  cy Z O Γ c bP (vt L) [.hdl 0,.list (xs.map .int),.fn aF]=some (vt L,fu cNO N g xs):=by
 obtain⟨r1,e1,h1⟩:=hb;have lo:∀d,cW (.own d)=true:=λl=>rfl
 have ln:cW .no=true:=rfl;have vo:∀d,vE c (vt L) (.own d)=.lent d:=λl=>rfl
 have vd:∀d,vE c (vt L) (.dat (.dict d))=.dat (.dict d):=λl=>rfl
 have d1:∀d,aS .read (.lent d)=some d:=λl=>rfl
 have d2:∀d,aS .test (.lent d)=some d:=λl=>rfl
 simp only[aQ,bP];simp[lo,ln,bN];refine Dt (F:=λq:St=>[.dat (.hdl 0),.dat (.list (xs.map .int)),.dat (.fn aF),.own (.list (q.w.map .int)),.own (.dict (dk q.sn)),q.s]) (V:=λl=>vt L) (Inv N g xs) (P:=λo=>vg (nxM Z O Γ c o _)=_) (λm q j=>?_) (xs.length+5*N) 100000 ⟨xs,[],.no⟩ ⟨List.nodup_nil,nofun,λx=>.base,λx hx=>.inr hx,nofun,rfl,by grind⟩ (by omega);have sb:∀x∈q.sn,∃n:Nat,x=n/\n<N:=λx hx=>by
  obtain⟨ys,k,_⟩:=j.cl x hx;exact (hg x ys k).1
 have sl:=oX j.nd sb;rcases List.eq_nil_or_concat q.w with e|⟨w',x,e⟩
 .left
  have ok:∀x∈xs,(g x).isSome:=λx hx=>by
   obtain⟨ys,k,_⟩:=j.cl x ((j.al x hx).resolve_right (by simp[e]));simp[k]
  have al:∀x,Rch g xs x->x∈q.sn:=λx r=>by
   induction r with
   |base h=>exact (j.al _ h).resolve_right (by simp[e])
   |step _ k1 k2 ih=>
    obtain⟨ys,k,k3⟩:=j.cl _ ih;cases k.symm.trans k1;exact (k3 _ k2).resolve_right (by simp[e])
  have rr:=vy j.nd;have fin:insI q.sn=rL (Rch g xs) N:=kZ rr.1 (sC _ _) λz=>by
   rw[rr.2,mem_rL];exact⟨λh=>by obtain⟨n,e,hn⟩:=sb z h;exact⟨n,e,hn,j.rs z h⟩,λ⟨_,_,_,h⟩=>al z h⟩
  refine⟨by simp[e,vo,d2],?_⟩;simp[(have h:=(by omega:q.sn.length<64);show biD .srtd [.dict (dk q.sn)]=some (.list ((insI q.sn).map .int)) by
    show (kc _).bind _=_;rw[sE,bs0,if_pos h]),fin,fu,vd,if_pos ok]
 .right
  rw[List.concat_eq_append]at e;refine⟨by simp[e,vo,d2],?_⟩;have rx:=j.rw x (by simp[e])
  by_cases hs:x∈q.sn
  .refine .inl ⟨⟨w',q.sn,.dat (.int x)⟩,m-1,?_,?_,?_⟩
   .have:=j.me;simp[e]at this;omega
   .refine⟨j.nd,j.rs,λy hy=>j.rw y (by simp[e,hy]),λy hy=>?_,λy hy=>?_,?_,?_⟩
    .rcases j.al y hy with h|h
     .exact .inl h
     .simp[e]at h;exact h.elim .inr λh=>.inl (h▸hs)
    .obtain⟨ys,k,k2⟩:=j.cl y hy
     refine⟨ys,k,λz hz=>?_⟩;rcases k2 z hz with h|h
     .exact .inl h
     .simp[e]at h;exact h.elim .inr λh=>.inl (h▸hs)
    .have:=j.me;simp[e]at this;show m-1=w'.length+5*(N-q.sn.length);omega
    .have:=j.wl;omega
   .simp[e,zq,hs,lo,ln,vo,d1]
  .cases k:g x with
   |none=>
    refine .inr ⟨cNO,⟨w',q.sn++[x],.dat (.int x)⟩,?_,?_⟩
    .simp[e,zq,hs,lo,ln,qE hs,vo,d1,hf,e1,h1,k,show (dk q.sn).length<1000 by simp[dk];omega]
     simp[yj]
    .have:¬ ∀x∈xs,(g x).isSome:=λh=>by have:=(by
      have r:=rx
      induction r with
      |base q=>exact h _ q
      |step _ q1 q2 _=>exact (hg _ _ q1).2.2 _ q2);simp[k]at this
     rw[fu,if_neg this];rfl
   |some ys=>
    have gx:=hg x ys k;have nd:(q.sn++[x]).Nodup:=List.nodup_append.mpr ⟨j.nd,by simp,λa ha b hb=>by simp at hb;exact λe=>hs (hb▸e▸ha)⟩;have sl2:=oX nd λy hy=>(ma0 hy).elim (sb y) λh=>by rw[List.mem_singleton.mp h];exact gx.1
    rw[la0,List.length_singleton]at sl2;have me:=j.me;have wl:=j.wl;simp[e]at me;have up:∀y,y∈q.sn\/y∈q.w->y∈q.sn++[x]\/y∈w'++ys:=λy h=>by
     rcases h with h|h
     .exact .inl (List.mem_append_left _ h)
     .simp[e]at h;exact h.elim (λh=>.inr (List.mem_append_left _ h)) λh=>.inl (by simp[h])
    refine .inl ⟨⟨w'++ys,q.sn++[x],.dat (.int x)⟩,(w'++ys).length+5*(N-(q.sn++[x]).length),?_,⟨nd,λy hy=>?_,λy hy=>?_,λy hy=>up y (j.al y hy),λy hy=>?_,rfl,?_⟩,?_⟩
    .simp;omega
    .exact (ma0 hy).elim (j.rs y) λh=>List.mem_singleton.mp h▸rx
    .exact (ma0 hy).elim (λh=>j.rw y (by simp[e,h])) λh=>.step rx k h
    .rcases ma0 hy with h|h
     .obtain⟨zs,k1,k2⟩:=j.cl y h
      exact⟨zs,k1,λz hz=>up z (k2 z hz)⟩
     .rw[List.mem_singleton.mp h]
      exact⟨ys,k,λz hz=>.inr (mr0 _ hz)⟩
    .simp;omega
    .simp[e,zq,hs,lo,ln,qE hs,vo,d1,hf,e1,h1,k,show (dk q.sn).length<1000 by simp[dk];omega]
     simp[qt,yk,show w'.length+ys.length<=big from nt0 (m:=1100) (by omega) (by decide)]
variable {O:FsM}{cNO cBT cBC aN:Nat}
abbrev VL(cNO cBT cBC:Nat)(L:List Th):Prop:=Valid cNO cBT cBC L/\L.length<=20
theorem Valid.sm{L}(h:Valid cNO cBT cBC L):∀t∈L,t.sm:=λt ht=>by
 obtain⟨P,R,e⟩:=List.append_of_mem ht;exact (h P t R e).1
def GV{a}{x}{l r}(e:Γ=l++(x,.fn a)::r)(h:∀p∈l,p.2≠.fn a)(k:Γ.lookup x=some (.fn a)):fnOf Γ (some (.dat (.fn a)))=some x:=by
 have q:Γ.find? (λp=>decide (p.2=.fn a))=some (x,.fn a):=by
  rw[e,List.find?_append,List.find?_eq_none.mpr λp hp=>by simpa using h p hp];simp
 simp only[fnOf];rw[q];exact if_pos k
abbrev oY(cNO cBT cBC:Nat)(run:Ust->List D->Option (Ust×R)):Prop:=∀(L:List Th)(xs:List Int),VL cNO cBT cBC L->xs.length<=10->run (vt L) [.hdl 0,.list (xs.map .int)]=some (vt L,fu cNO L.length (gB L) xs)
abbrev oZ(O:FsM)(cNO cBT cBC:Nat):Prop:=dy O "reached" [false,false] (oY cNO cBT cBC)
end TX
namespace SI
open PySem
section
variable {r:Ss}{d:D}{m:Md}{e:E}
noncomputable def rvO(o:Option D):Option (List D):=o.bind λd=>(asI d).bind λn=>if rOk n then some ((List.range n.toNat).reverse.map λ(k:Nat)=>.int k)else none
def rvI{n}(h1:-1000000<=n)(h2:n<=1000000):rvO (some (.int n))=some ((List.range n.toNat).reverse.map λ(k:Nat)=>.int k):=by
 show (if rOk n then _ else _)=_;rw[if_pos (pO h1 h2)]
noncomputable def rvL(o:Option D):Option (List D):=o.bind λd=>rvO (biD .len [d])
@[simp ↓ 20000] def evI_rv:evI Z Γ m Y (.revr (.bi .len (.cons e .nil)))=rvL (ev Z Γ .read Y e):=by
 show rvO (((ev Z Γ .read Y e).bind λx=>some _).bind _)=_;cases h:ev Z Γ _ Y e<;>rfl
def Mz{ds}(h:ds.length<=1000000):rvL (some (.list ds))=some ((List.range ds.length).reverse.map λ(k:Nat)=>.int k):=by rw[rvL,bs0,len_list,rvI (by simp_all) (by grind),Int.toNat_natCast]
def zr{tg}{ds}:oQ Z Γ tg r (d::ds) Y=(aw tg d Y).bind λY'=>(exs Z Γ Y' r).bind λo=>o.andThen λY2=>oQ Z Γ tg r ds Y2:=(rfl)
end
end SI
namespace TX
open PySem SI M1 L2.Z
variable {O:FsM}{cNO cBT cBC aN:Nat}
abbrev zt(run:List D->Option D):Prop:=∀t:Th,t.sm->run [t.d]=some (.list (t.bl.map .int))
abbrev qF(Z:Fs):Prop:=Has Z "_law_below" [true] zt
def vA:zt (ans Z Γ eL):=by
 intro t sm;simp only[ans_e,eL];cases t with
 |blob x=>simp[Th.bl]
 |tree es=>
  have hb:es.length<=big:=nt0 sm.1 (by decide);simp[Th.bl,hb];rw[ao (g:=λp:Str×Int=>D.int p.2) (λx b=>by simp[bo,bZ])];simp[Function.comp_def]
 |com a ps tm m=>
  have hb:1+ps.length<=big:=nt0 (Nat.add_le_add_left sm.1 1) (by decide);simp[Th.bl,hb]
noncomputable abbrev bl(N:Nat)(p:Nat->Bool):List D:=(List.range N).map λj=>.bool (p j)
def zu{N m}{p}(h:m<N):atI (bl N p) (m:Int)=some (.bool (p m)):=dG (by simp[h])
def GW{N m}{p}{b}:(bl N p).set m (.bool b)=bl N λj=>if j=m then b else p j:=by
 apply List.ext_getElem (by simp)
 intro i h1 h2;simp[List.getElem_set]
 by_cases e:m=i
 .simp[e]
 .simp[e,Ne.symm e]
theorem inner{N a:Nat}{tl nl:Sl}(ha:a<N):∀(ys:List Int)(p:Nat->Bool)(s4:Sl),(∀y∈ys,∃m:Nat,y=m/\m<a)->∃s4',oQ Z Γ (.one 4) (.cons (.seti 3 (.v 4) (.or (.idx (.v 3) (.v 4)) (.idx (.v 3) (.v 2)))) .nil) (ys.map .int) [tl,nl,.dat (.int a),.own (.list (bl N p)),s4]=some (.nx [tl,nl,.dat (.int a),.own (.list (bl N λj=>p j||(p a&&decide ((j:Int)∈ys)))),s4'])
 |[],p,s4,_=>⟨s4,by simp[oQ,forL]⟩
 |y::ys,p,s4,h=>by
  obtain⟨m,rfl,hm⟩:=h y ms0;obtain⟨s4',e⟩:=inner (tl:=tl) (nl:=nl) ha ys (λj=>if j=m then (p m||p a)else p j) (.dat (.int m)) λy hy=>h y (mc0 _ hy)
  refine⟨s4',?_⟩;have k:ixN (bl N p).length (m:Int)=some m:=by simp[ixN];omega
  simp at k;simp[zr,zu (p:=p) (show m<N by omega),zu (p:=p) ha,k];rw[GW,e];simp;intro j _;have na:a≠m:=by omega
  by_cases q:j=m
  .simp[q,na];cases p m<;>cases p a<;>simp
  .simp[q,na,show ¬ (j:Int)=m by omega]
noncomputable abbrev kBl:Ss:=.cons (.fors (.one 4) (.seq (.call "_law_below" (.cons (.idx (.v 0) (.v 2)) .nil))) (.cons (.seti 3 (.v 4) (.or (.idx (.v 3) (.v 4)) (.idx (.v 3) (.v 2)))) .nil)) .nil
structure Jp(L:List Th)(xs:List Int)(k:Nat)(p:Nat->Bool):Prop where
 so:∀j,p j=true->Rch (gB L) xs j
 al:∀j:Nat,(j:Int)∈xs->p j=true
 cl:∀i t,k<=i->L[i]?=some t->p i=true->∀m:Nat,(m:Int)∈t.bl->p m=true
theorem outer(hb:qF Z){L}(hv:Valid cNO cBT cBC L){xs}{nl}:∀(k:Nat)(p:Nat->Bool)(s2 s4:Sl),k<=L.length->Jp L xs k p->∃p' s2' s4',Jp L xs 0 p'/\oQ Z Γ (.one 2) kBl ((List.range k).reverse.map λk:Nat=>.int k) [.lent (.list (L.map Th.d)),nl,s2,.own (.list (bl L.length p)),s4]=some (.nx [.lent (.list (L.map Th.d)),nl,s2',.own (.list (bl L.length p')),s4'])
 |0,p,s2,s4,_,j=>⟨p,s2,s4,j,rfl⟩
 |k+1,p,s2,s4,hk,j=>by
  have ht:=ge0 (by assumption);have ok:=(zo hv ht).1;obtain⟨r1,e1,h1⟩:=hb;obtain⟨s4',e⟩:=inner (Z:=Z) (Γ:=Γ) (N:=L.length) (a:=k) (tl:=.lent (.list (L.map Th.d))) (nl:=nl) (by omega) L[k].bl p s4 λy hy=>by obtain⟨m,_,q1,q2,_⟩:=ok y hy;exact⟨m,q1,q2⟩
  have up:∀m,p m=true->(p m||(p k&&decide ((m:Int)∈L[k].bl)))=true:=λm h=>by simp[h]
  obtain⟨p',s2',s4'',j',e'⟩:=outer ⟨r1,e1,h1⟩ hv (xs:=xs) (nl:=nl) k (λj=>p j||(p k&&decide ((j:Int)∈L[k].bl))) (.dat (.int k)) s4' (Nat.le_of_lt ‹_›) ⟨λm h=>by
    simp only[Bool.or_eq_true,be0,decide_eq_true_eq]at h;exact h.elim (j.so m) λh=>.step (j.so k h.1) (by rw[gB,at_nat,ht];rfl) h.2,λm h=>up m (j.al m h),λi t hi q h m hm=>by
    by_cases ei:i=k
    .subst ei
     cases ht.symm.trans q;have na:¬ (i:Int)∈L[i].bl:=λh=>by obtain⟨z,_,q1,q2,_⟩:=ok _ h;grind
     simp[na]at h;simp[h,hm]
    .have na:¬ (i:Int)∈L[k].bl:=λh=>by obtain⟨z,_,q1,q2,_⟩:=ok _ h;grind
     simp[na]at h;exact up m (j.cl i t (by grind) q h m hm)⟩
  refine⟨p',s2',s4'',j',?_⟩;rw[List.range_succ,List.reverse_append];simp only[List.reverse_singleton,List.singleton_append,mk0,zr];simp[e1,BU (by omega:k<L.length),h1 L[k] (hv.sm _ (List.getElem_mem _)),e];rw[<-List.map_reverse];exact e'
abbrev sF(cNO cBT cBC:Nat)(run:List D->Option D):Prop:=∀(L:List Th)(xs:List Int),VL cNO cBT cBC L->(∀x∈xs,(gB L x).isSome)->run [.list (L.map Th.d),.list (xs.map .int)]=some (.list ((rL (Rch (gB L) xs) L.length).map .int))
abbrev sG(Z:Fs)(cNO cBT cBC:Nat):Prop:=Has Z "_law_reached" [true,true] (sF cNO cBT cBC)
def sH{x}{xs:List Int}:inD (.int x) (.list (xs.map .int))=some (decide (x∈xs)):=by
 simp[inD,okS];rw[Bool.eq_iff_iff];simp
def qG(hb:qF Z):sF cNO cBT cBC (ans Z Γ cJ):=by
 intro L xs hv hx;have hl:=hv.2;have hbig:L.length<=big:=nt0 hl (by decide);simp only[ans_e,cJ];have R1:=sj (ds:=L.map Th.d) (by simp;omega);have R2:=Mz (ds:=L.map Th.d) (by simp;omega);simp only[lm0]at R1 R2;simp[R1,hbig];rw[ao (g:=λk:Nat=>D.bool (decide ((k:Int)∈xs))) λk a=>by simp[bo,sH]];obtain⟨p,s2,s4,j,e⟩:=outer (Z:=Z) (Γ:=Γ) hb hv.1 (xs:=xs) (nl:=.lent (.list (xs.map .int))) L.length (λk=>decide ((k:Int)∈xs)) .no .no (nr0 _) ⟨λm h=>.base (by simpa using h),λm h=>by simpa using h,λi t hi q=>by have:=(gi0 q).1;grind⟩;simp[bN,R2]
 rw[<-List.map_reverse,e];simp[R1,hbig];rw[bV (g:=λk:Nat=>D.int k) (p:=p) λk hk=>by cases q:p k<;>simp[bo,zu (p:=p) (List.mem_range.mp hk),q]];have fin:∀x,Rch (gB L) xs x->∃n:Nat,x=n/\n<L.length/\p n=true:=λx r=>by
  induction r with
  |base h=>
   obtain⟨ys,q⟩:=is0 (hx _ h);obtain⟨n,rfl,hn⟩:=(sA hv.1 _ _ q).1;exact⟨n,rfl,hn,j.al n h⟩
  |step _ q1 q2 ih=>
   obtain⟨n,rfl,hn,hp⟩:=ih;obtain⟨ys,q⟩:=is0 ((sA hv.1 _ _ q1).2.2 _ q2);obtain⟨m,rfl,hm⟩:=(sA hv.1 _ _ q).1;obtain⟨t,q3,rfl⟩:=mx0 q1;rw[at_nat]at q3;exact⟨m,rfl,hm,j.cl n t (Nat.zero_le _) q3 hp m q2⟩
 simp[rL];refine congrArg _ (List.filter_congr λk hk=>?_);rw[Bool.eq_iff_iff,@decide_eq_true_eq _ (_)];exact⟨j.so k,λr=>by obtain⟨n,e,_,h⟩:=fin _ r;rwa [Int.ofNat_inj.mp e]⟩
variable {O:FsM}{cNO cBT cBC aN:Nat}
end TX
set_option maxRecDepth 10000
namespace TX
open PySem SI L2.Z
noncomputable def aR:Def:=⟨[true,true],4,(.cons (.set 2 (.me .split (.call "text_of" (.B (.v 0) (.v 1))) (.A (.k (.str ⟨#[10]⟩))))) (.B (.set 3 (.bi .len (.A (.v 2)))) (.ret (.op .add (.lst (.A (.bi .fst (.cons (.v 1) (.B (.k (.str ⟨#[32,98,108,111,98,32]⟩)) (.v 3)))))) (.comp 1 [] (.one 0) (.seq (.v 2)) .nil (.op .add (.k (.str ⟨#[124]⟩)) (.v 0)))))))⟩
noncomputable def bw:Def:=⟨[true,true],3,(.B (.set 2 (.comp 2 [] (.tup [0,1]) (.seq (.call "entries_of" (.B (.v 0) (.v 1)))) .nil (.bi .fst (.cons (.v 0) (.B (.k (.str ⟨#[61]⟩)) (.v 1)))))) (.ret (.lst (.A (.me .join (.k (.str ⟨#[32]⟩)) (.A (.op .add (.lst (.A (.bi .fst (.B (.v 1) (.k (.str ⟨#[32,116,114,101,101]⟩)))))) (.v 2))))))))⟩
noncomputable def aT:Def:=⟨[true,true],6,(.cons (.set 2 (.call "commit_of" (.B (.v 0) (.v 1)))) (.cons (.set 3 (.idx (.v 2) (.k (.int 0)))) (.cons (.set 4 (.ite (.idx (.v 2) (.k (.int 1))) (.me .join (.k (.str ⟨#[44]⟩)) (.A (.comp 1 [] (.one 0) (.seq (.idx (.v 2) (.k (.int 1)))) .nil (.bi .str (.A (.v 0)))))) (.k (.str ⟨#[45]⟩)))) (.B (.set 5 (.idx (.v 2) (.k (.int 2)))) (.ret (.lst (.B (.bi .fst (.cons (.v 1) (.cons (.k (.str ⟨#[32,99,111,109,109,105,116,32]⟩)) (.cons (.v 3) (.cons (.k (.str ⟨#[32]⟩)) (.cons (.v 4) (.B (.k (.str ⟨#[32]⟩)) (.v 5)))))))) (.op .add (.k (.str ⟨#[124]⟩)) (.idx (.v 2) (.k (.int 3)))))))))))⟩
noncomputable def pkB:Ss:=(.cons (.set 4 (.idx (.v 0) (.v 3))) (.cons (.ifs (.cmp .eq (.idx (.v 4) (.k (.int 0))) (.k (.str ⟨#[98,108,111,98]⟩))) (.cons (.set 5 (.me .split (.idx (.v 4) (.k (.int 1))) (.cons (.k (.str ⟨#[10]⟩)) .nil))) (.cons (.new 2 (.op .add (.op .add (.v 2) (.lst (.cons (.op .add (.op .add (.bi .str (.cons (.v 3) .nil)) (.k (.str ⟨#[32,98,108,111,98,32]⟩))) (.bi .str (.cons (.bi .len (.cons (.v 5) .nil)) .nil))) .nil))) (.comp 1 [] (.one 0) (.seq (.v 5)) .nil (.op .add (.k (.str ⟨#[124]⟩)) (.v 0))))) .nil)) (.cons (.ifs (.cmp .eq (.idx (.v 4) (.k (.int 0))) (.k (.str ⟨#[116,114,101,101]⟩))) (.cons (.app 2 (.me .join (.k (.str ⟨#[32]⟩)) (.cons (.op .add (.lst (.cons (.bi .str (.cons (.v 3) .nil)) (.cons (.k (.str ⟨#[116,114,101,101]⟩)) .nil))) (.comp 2 [] (.tup [0,1]) (.seq (.idx (.v 4) (.k (.int 1)))) .nil (.op .add (.op .add (.v 0) (.k (.str ⟨#[61]⟩))) (.bi .str (.cons (.v 1) .nil))))) .nil))) .nil) (.cons (.set 6 (.me .join (.k (.str ⟨#[44]⟩)) (.cons (.comp 1 [] (.one 0) (.seq (.idx (.v 4) (.k (.int 2)))) .nil (.bi .str (.cons (.v 0) .nil))) .nil))) (.cons (.set 7 (.lst (.cons (.bi .str (.cons (.v 3) .nil)) (.cons (.k (.str ⟨#[99,111,109,109,105,116]⟩)) (.cons (.bi .str (.cons (.idx (.v 4) (.k (.int 1))) .nil)) (.cons (.ite (.cmp .ne (.v 6) (.k (.str ⟨#[]⟩))) (.v 6) (.k (.str ⟨#[45]⟩))) (.cons (.bi .str (.cons (.idx (.v 4) (.k (.int 3))) .nil)) .nil))))))) (.cons (.new 2 (.op .add (.v 2) (.lst (.cons (.me .join (.k (.str ⟨#[32]⟩)) (.cons (.v 7) .nil)) (.cons (.op .add (.k (.str ⟨#[124]⟩)) (.idx (.v 4) (.k (.int 4)))) .nil))))) .nil)))) .nil)) .nil))
noncomputable def gj:Def:=⟨[true,true],8,(.cons (.new 2 (.lst .nil)) (.B (.fors (.one 3) (.seq (.v 1)) pkB) (.ret (.v 2))))⟩
noncomputable def dD:Def:=⟨[true,true,true,true],4,(.A (.ret (.comp 1 [1,2,0] (.one 0) (.rng (.op .mod (.call "_law_mix" (.B (.v 0) (.v 1))) (.op .add (.v 3) (.k (.int 1))))) .nil (.op .mod (.call "_law_mix" (.B (.v 3) (.op .add (.op .add (.v 1) (.k (.int 1))) (.v 0)))) (.v 2)))))⟩
noncomputable def aU:bz:=⟨[false,false],3,(.cons (.set 2 (.meth "kind" 0 (.W 1))) (.cons (.ifs (.cmp .eq (.v 2) (.k (.str ⟨#[98,108,111,98]⟩))) (.A (.ret (.p (.call "lines_of_blob" (.B (.v 0) (.v 1)))))) .nil) (.B (.ifs (.cmp .eq (.v 2) (.k (.str ⟨#[116,114,101,101]⟩))) (.A (.ret (.p (.call "lines_of_tree" (.B (.v 0) (.v 1)))))) .nil) (.ret (.p (.call "lines_of_commit" (.B (.v 0) (.v 1))))))))⟩
noncomputable def gk:bz:=⟨[false,false,false],5,(.cons (.pure (.new 3 (.lst .nil))) (.B (.form (.one 4) (.ssub (.call "reached" (.va 0 (.W 1))) (.call "reached" (.va 0 (.W 2)))) (.A (.ext 3 (.call "lines_of_object" (.va 0 (.W 4)))))) (.ret (.p (.v 3)))))⟩
noncomputable def dE(cNO:Nat)(cBT:Nat):bz:=⟨[false,false,false],6,(.cons (.set 3 (.p (.k .none))) (.cons (.set 4 (.p (.k .none))) (.cons (.try1 [(cNO,true),(cBT,true)] 3 5 (.A (.set 4 (.call "packed" (.va 0 (.va 1 (.W 2))))))) (.B (.ifs (.cmp .notN (.v 3) (.k .none)) (.A (.ret (.p (.ite (.and (.isx (.v 3) cNO [(cNO,true),(cBT,false)]) (.not (.isx (.v 3) cBT [(cNO,false),(cBT,true)]))) (.k (.str ⟨#[110,111]⟩)) (.k (.str ⟨#[119,114,111,110,103]⟩)))))) .nil) (.ret (.p (.v 4)))))))⟩
noncomputable def dc:bz:=⟨[true],11,(.cons (.set 1 (.p (.call "_law_things" (.cons (.v 0) (.B (.k (.int 1)) (.op .add (.k (.int 1)) (.op .mod (.call "_law_mix" (.B (.v 0) (.k (.int 0)))) (.k (.int 14))))))))) (.cons (.set 2 (.call "_law_filled" (.W 1))) (.cons (.set 3 (.p (.call "_law_picked" (.cons (.v 0) (.cons (.k (.int 72)) (.B (.bi .len (.A (.v 1))) (.k (.int 3)))))))) (.cons (.set 4 (.p (.call "_law_picked" (.cons (.v 0) (.cons (.k (.int 77)) (.B (.bi .len (.A (.v 1))) (.k (.int 3)))))))) (.cons (.set 5 (.p (.call "_law_reached" (.B (.v 1) (.v 4))))) (.cons (.set 6 (.p (.call "_law_pack" (.B (.v 1) (.comp 1 [5] (.one 0) (.seq (.call "_law_reached" (.B (.v 1) (.v 3)))) (.A (.cmp .notin (.v 0) (.v 1))) (.v 0)))))) (.cons (.set 7 (.p (.tup (.B (.bi .list (.A (.v 3))) (.bi .list (.A (.v 4))))))) (.cons (.set 8 (.call "_law_told" (.va 2 (.ex (.p (.idx (.v 7) (.k (.int 0)))) (.G (.p (.idx (.v 7) (.k (.int 1))))))))) (.cons (.ifs (.or (.not (.isi (.v 8) "list")) (.or (.cmp .ne (.v 8) (.v 6)) (.cmp .ne (.v 7) (.tup (.B (.v 3) (.v 4)))))) (.A (.ret (.p (.k (.bool false))))) .nil) (.cons (.set 9 (.p (.call "_law_wild" (.cons (.v 0) (.B (.k (.int 82)) (.bi .len (.A (.v 1)))))))) (.B (.ifs (.not (.chain .le .lt (.k (.int 0)) (.v 9) (.bi .len (.A (.v 1))))) (.B (.set 10 (.p (.op .mod (.call "_law_mix" (.B (.v 0) (.k (.int 83)))) (.k (.int 2))))) (.ifm .ne (.call "_law_told" (.va 2 (.ex (.p (.op .add (.v 3) (.op .mul (.lst (.A (.v 9))) (.v 10)))) (.G (.p (.op .add (.v 4) (.op .mul (.lst (.A (.v 9))) (.op .sub (.k (.int 1)) (.v 10))))))))) (.k (.str ⟨#[110,111]⟩)) (.A (.ret (.p (.k (.bool false))))) .nil)) .nil) (.ret (.p (.call "_law_stays" (.B (.v 2) (.v 1))))))))))))))))⟩
end TX
namespace TX
open PySem SI M1 L2.Z
variable {O:FsM}{cNO cBT cBC aN:Nat}
def Dv:∃g:Int->Str,∀i,Str.ofString (toString i)=g i:=⟨_,λa=>rfl⟩
noncomputable def ts:Int->Str:=Classical.choose Dv
def zv(i:Int):Str.ofString (toString i)=ts i:=Classical.choose_spec Dv i
abbrev Sm(i:Int):Prop:=0<=i/\i.toNat<=lD
def bQ{i}(h:Sm i):mX i=some (ts i):=by rw[<-zv];exact if_pos h
def bf{i:Int}(h:Sm i):(ts i).length<=20:=by
 have:=int_text_length_le10 (a:=i) (k:=17) (by decide) (by have h2:=h.2;unfold lD at h2;omega);rw[<-zv,ofString_length];omega
def Jq{i}(h:Sm i):ts i≠Str.empty:=by
 obtain⟨m,rfl⟩:=Int.eq_ofNat_of_zero_le h.1;intro z;have:=congrArg Str.length z;rw[<-zv,ofString_length]at this;exact absurd this (Nat.ne_of_gt Nat.length_repr_pos)
def mw(x y z:Str):x++y++z=x++(y++z):=ext (by simp only[toL_append,List.append_assoc])
noncomputable abbrev bB:Str:=⟨#[32,98,108,111,98,32]⟩
noncomputable abbrev sp:Str:=⟨#[32]⟩
noncomputable def gm(ps:List Int):Str:=if ps=[] then⟨#[45]⟩ else Txt.join ⟨#[44]⟩ (ps.map ts)
noncomputable def my(x:Str):Str:=⟨#[124]⟩++x
noncomputable def mz(p:Str×Int):Str:=p.1++(⟨#[61]⟩++ts p.2)
noncomputable def lnF(n:Int):Th->List Str
 |.blob x=>(ts n++(bB++ts (Txt.split x ⟨#[10]⟩).length))::(Txt.split x ⟨#[10]⟩).map my
 |.tree es=>[Txt.join sp (ts n::bc::es.map mz)]
 |.com a ps tm m=>[Txt.join sp [ts n,af,ts a,gm ps,ts tm],my m]
def mB(x y:Str)(r):Txt.join sp (x::y::r)=x++(sp++Txt.join sp (y::r)):=by
 rw[show Txt.join sp _=Str.join sp _ from StrLaws.glued_eq_join _ _,show Txt.join sp _=Str.join sp _ from StrLaws.glued_eq_join _ _];exact mw _ _ _
def join_1(s x:Str):Txt.join s [x]=x:=StrLaws.glued_eq_join _ _
def join_le{k m}(s:Str){xs:List Str}(h:xs.length<=k)(hx:∀x∈xs,x.length+s.length<=m):(xs.map (·.length)).sum+xs.length*s.length<=k*m:=by
 have:∀xs:List Str,(∀x∈xs,x.length+s.length<=m)->(xs.map (·.length)).sum+xs.length*s.length<=xs.length*m:=by
  intro xs
  induction xs with
  |nil=>intro _;simp
  |cons x r ih=>
   intro h;have h1:=h x ms0;have h2:=ih λy hy=>h y (mc0 _ hy)
   simp only[mk0,List.sum_cons,lc0,Nat.succ_mul]
   grind
 exact nt0 (this xs hx) (Nat.mul_le_mul_right _ h)
def mC{x}(h:x.length<=1000):Sm (Txt.split x ⟨#[10]⟩).length/\(Txt.split x ⟨#[10]⟩).length<=1001/\∀p∈Txt.split x ⟨#[10]⟩,p.length<=1000:=by
 have h1:(Txt.split x ⟨#[10]⟩).length<=x.length+1:=(by
   have key:∀ys:List Str,ys≠[]->ys.length<=(Str.join nl ys).length+1:=by
    intro ys
    induction ys with
    |nil=>intro h;exact absurd rfl h
    |cons y r ih=>
     intro _;cases r with
     |nil=>simp
     |cons z q=>
      have e:(Str.join nl (y::z::q)).length=y.length+1+(Str.join nl (z::q)).length:=by
       show (y++nl++Str.join nl (z::q)).length=_;rw[Str.length_append,Str.length_append];rfl
      have:=ih (by simp);rw[e];simp only[lc0]at this ⊢;omega
   have:=key _ ((show Txt.split x nl≠[] from yy x 10))
   rwa [show Str.join nl (Txt.split x nl)=x from StrLaws.join_split x nl]at this)
 exact⟨⟨by simp_all,by unfold lD;grind⟩,by grind,λp hp=>nt0 (split_le x p hp) h⟩
def Dw{x}(h:x.length<=1000):meD .split (.str x) [.str ⟨#[10]⟩]=some (.list ((Txt.split x ⟨#[10]⟩).map .str)):=if_pos ⟨rfl,nt0 (Nat.add_le_add_right h 2) (by decide)⟩
def sI(h:x.length<=1000):(⟨#[124]⟩:Str).length+x.length<=big:=nt0 (Nat.add_le_add_left h _) (by decide)
def Jr{y z:Str}(h:x.length+(y.length+z.length)<=big){d1 d2 d3:D}(h1:ib d1=some x)(h2:ib d2=some y)(h3:ib d3=some z):biD .fst [d1,d2,d3]=some (.str (x++(y++z))):=by
 simp[pR,fsL,h1,h2,h3,BK,jz,h]
abbrev SLn(k:Str)(c:Nat)(run:List D->Option D):Prop:=∀(h:Nat)(os:List D)(n:Nat)(t:Th),t.k=k->t.sm->Sm n->os[n]?=some t.o->run [.vlt c h os,.int n]=some (.list ((lnF n t).map .str))
set_option tactic.hygienic true in
def BX(ht:mr Z c):SLn dF c (ans Z Γ aR):=by
 intro h os n t z sm hn hd;obtain⟨r1,e1,h1⟩:=ht;have k:=h1 h os n t z hd;cases t<;>simp at z
 rename_i x;obtain⟨s1,s2,s3⟩:=mC (sm:x.length<=1000);have l1:=bf hn;have l2:=bf s1;have f:=Jr (d1:=.int n) (d2:=.str bB) (d3:=.int (Txt.split x ⟨#[10]⟩).length) (x:=ts n) (y:=bB) (z:=ts (Txt.split x ⟨#[10]⟩).length) (nt0 (Nat.add_le_add l1 (Nat.add_le_add_left l2 _)) (by decide)) (bQ hn) rfl (bQ s1);simp only[ans_e,aR];have sb:(Txt.split x ⟨#[10]⟩).length<=big:=nt0 s2 (by decide);have sb1:1+(Txt.split x ⟨#[10]⟩).length<=big:=nt0 (Nat.add_le_add_left s2 1) (by decide);simp[e1,k,Dw sm,sb,f,-iW];rw[ao (g:=λy=>D.str (my y)) λy hy=>by simp[bo,sI (s3 y hy),my]]
 simp[sb1,lnF]
def MA{x y}(h:x.length+y.length<=big){d1 d2}(h1:ib d1=some x)(h2:ib d2=some y):biD .fst [d1,d2]=some (.str (x++y)):=by
 simp[pR,fsL,h1,h2,BK,jz,h]
noncomputable def okL:Th->Prop
 |.blob _=>True
 |.tree es=>∀p∈es,Sm p.2
 |.com a ps tm _=>Sm a/\(∀p∈ps,Sm p)/\Sm tm
def join_tree(x:Str)(r):Txt.join sp ((x++⟨#[32,116,114,101,101]⟩)::r)=Txt.join sp (x::bc::r):=rfl
def mD{p:Str×Int}(h1:p.1.length<=1000)(h2:Sm p.2):p.1.length+((⟨#[61]⟩:Str).length+(ts p.2).length)<=1021:=Nat.add_le_add h1 (Nat.add_le_add_left (bf h2) 1)
def jC{s}{xs}(h1:xs.length<=10)(h2:∀x∈xs,x.length<=2000)(hs:s.length=1):meD .join (.str s) [.list (xs.map .str)]=some (.str (Txt.join s xs)):=by
 rw[bR,cv];exact if_pos (nt0 (join_le s h1 λx hx=>by rw[hs];exact Nat.succ_le_succ (h2 x hx)) (by decide))
def pb{ps}(hl:ps.length<=3)(h:∀p∈ps,Sm p):(gm ps).length<=100:=by
 unfold gm;split
 .decide
 .exact (by
   rw[show Txt.join _ _=Str.join _ _ from StrLaws.glued_eq_join _ _];refine nt0 (StrLaws.join_length_le _ _) (nt0 (join_le (m:=21) _ (by simpa using hl) λx hx=>?_) (by decide));obtain⟨p,hp,rfl⟩:=mm0 hx;exact Nat.succ_le_succ (bf (h p hp)))
noncomputable abbrev kC:Str:=⟨#[32,99,111,109,109,105,116,32]⟩
def zw(x a p t:Str):x++(kC++(a++(sp++(p++(sp++t)))))=Txt.join sp [x,af,a,p,t]:=by
 have e:kC=sp++(af++sp):=rfl;rw[mB,mB,mB,mB,join_1,e];simp only[mw]
end TX
namespace SI
open PySem L2.Z
section
variable {O:FsM}{r:Ss}{q:SMs}
theorem Dx{σ:Type}{inj}{tg}{F:List Str->σ->List Sl}{f}{K M}:∀(xs:List β)(acc:List Str)(s:σ),(∀x∈xs,(f x).length<=K/\∀acc s,acc.length<=M->∃s',(aw tg (inj x) (F acc s)).bind (λY=>exs Z Γ Y r)=some (.nx (F (acc++f x) s')))->acc.length+K*xs.length<=M->∃s',oQ Z Γ tg r (xs.map inj) (F acc s)=some (.nx (F (acc++(xs.map f).flatten) s'))
 |[],acc,s,_,_=>⟨s,by rw[List.map_nil,List.map_nil,List.flatten_nil,List.append_nil];rfl⟩
 |x::xs,acc,s,h,hz=>by
  have hz:acc.length+K*(xs.length+1)<=M:=hz;rw[Nat.mul_succ]at hz;obtain⟨k1,k2⟩:=h x ms0;obtain⟨s1,e⟩:=k2 acc s (by grind);obtain⟨Y',e1,e2⟩:=bx0 e;obtain⟨s2,e3⟩:=Dx xs (acc++f x) s1 (λy hy=>h y (mc0 _ hy)) (by rw[la0];grind);refine⟨s2,?_⟩;show (aw tg (inj x) (F acc s)).bind _=_;rw[e1,bs0];show (exs Z Γ Y' r).bind _=_;rw[e2,mk0,List.flatten_cons,<-List.append_assoc];exact e3
theorem Dy{σ:Type}{inj}{tg}{F:List Str->σ->List Sl}{f}{K M}{U}:∀(xs:List β)(acc:List Str)(s:σ),(∀x∈xs,(f x).length<=K/\∀acc s,acc.length<=M->∃s',(aw tg (inj x) (F acc s)).bind (λY=>br Z O Γ c Y U q)=some (.nx (F (acc++f x) s'),U))->acc.length+K*xs.length<=M->∃s',gi Z O Γ c tg q (xs.map inj) (F acc s) U=some (.nx (F (acc++(xs.map f).flatten) s'),U)
 |[],acc,s,_,_=>⟨s,by rw[List.map_nil,List.map_nil,List.flatten_nil,List.append_nil];rfl⟩
 |x::xs,acc,s,h,hz=>by
  have hz:acc.length+K*(xs.length+1)<=M:=hz;rw[Nat.mul_succ]at hz;obtain⟨k1,k2⟩:=h x ms0;obtain⟨s1,e⟩:=k2 acc s (by omega);obtain⟨Y',e1,e2⟩:=bx0 e;obtain⟨s2,e3⟩:=Dy xs (acc++f x) s1 (λy hy=>h y (mc0 _ hy)) (by rw[la0];omega);refine⟨s2,?_⟩;show (aw tg (inj x) (F acc s)).bind _=_;rw[e1,bs0];show (br Z O Γ c Y' U q).bind _=_;rw[e2,mk0,List.flatten_cons,<-List.append_assoc];exact e3
end
end SI
namespace TX
open PySem SI M1 L2.Z
variable {O:FsM}{cNO cBT cBC aN:Nat}
set_option tactic.hygienic true in
def dN{L}(hv:VL cNO cBT cBC L){t}(h:L[n]?=some t):t.sm/\okL t/\Sm n/\(L.map Th.o)[n]?=some t.o:=by
 have hl:=hv.2;obtain⟨hn,e⟩:=gi0 h;have sm:∀m:Nat,m<=20->Sm m:=λm hm=>⟨by omega,by unfold lD;omega⟩
 have bl:∀x∈t.bl,Sm x:=λx hx=>by obtain⟨m,_,rfl,hm,_⟩:=(zo hv.1 h).1 x hx;exact sm m (by omega)
 refine⟨hv.1.sm t (mg0 h),?_,sm n (by omega),by rw[gm0,h];rfl⟩;have k2:=(hv.1 (L.take n) t (L.drop (n+1)) (by rw[<-e,List.getElem_cons_drop,List.take_append_drop]));cases t with
 |blob _=>trivial
 |tree es=>exact λp hp=>bl _ (List.mem_map.mpr ⟨p,hp,rfl⟩)
 |com a ps tm m=>
  refine⟨bl a ms0,λp hp=>bl p (mc0 _ hp),?_,k2.1.2.1⟩;have:=k2.2.1;simp only[thX,jP]at this;split at this
  .cases this
  .split at this
   .rename_i w
    simp only[be0,decide_eq_true_eq]at w;exact w.1.2
   .cases this
noncomputable def lnA(L:List Th)(x:Int):List Str:=(atL L x).elim [] (lnF x)
def sJ{t}(h:t.sm)(n:Int):(lnF n t).length<=1002:=by
 cases t with
 |blob x=>have:=(mC (h)).2.1;simp[lnF];omega
 |_=>simp[lnF]
abbrev Js(cNO cBT cBC:Nat)(run:Ust->List D->Option (Ust×R)):Prop:=∀(L:List Th)(n:Nat)(t:Th),VL cNO cBT cBC L->L[n]?=some t->run (vt L) [.hdl 0,.int n]=some (vt L,.ok (.list ((lnF n t).map .str)))
abbrev Jt(O:FsM)(cNO cBT cBC:Nat):Prop:=dy O "lines_of_object" [false,false] (Js cNO cBT cBC)
abbrev HLn(Z:Fs)(c:Nat)(f k:Str):Prop:=Has Z f [true,true] λrun=>∀(h:Nat)(os:List D)(n:Nat)(t:Th),t.k=k->t.sm->okL t->Sm n->os[n]?=some t.o->run [.vlt c h os,.int n]=some (.list ((lnF n t).map .str))
def BY(hk:mj O cNO)(h1:HLn Z c "lines_of_blob" dF)(h2:HLn Z c "lines_of_tree" bc)(h3:HLn Z c "lines_of_commit" af):Js cNO cBT cBC (cy Z O Γ c aU):=by
 intro L n t hv ht;obtain⟨r0,e0,h0⟩:=hk;obtain⟨r1,e1,h1⟩:=h1;obtain⟨r2,e2,h2⟩:=h2;obtain⟨r3,e3,h3⟩:=h3;obtain⟨o1,o2,o3,o4⟩:=dN hv ht;simp only[aQ,aU];simp[e0,h0,at_nat,ht];cases t with
 |blob x=>simp[e1,h1 0 _ n _ rfl o1 o2 o3 o4]
 |tree es=>simp[e2,h2 0 _ n _ rfl o1 o2 o3 o4]
 |com a ps tm m=>simp[e3,h3 0 _ n _ rfl o1 o2 o3 o4]
end TX
namespace L2.Z
open PySem SI
section
variable {O:FsM}{U V:Ust}{a b:M}{q:SMs}{ns:List Int}{x:Nat}{d:D}
noncomputable def ssb(z2:Ust->Option (R×Ust))(d:D)(U:Ust):Option (R×Ust):=(oC d).bind λns=>if okN ns=true/\ns.Pairwise (·<·)then (z2 U).bind λz=>goR z λe V=>(kP ns e).map λo=>(.ok o,V)else none
@[simp ↓ high] def evM_ssub:evM Z O Γ c Y U (.ssub a b)=(evM Z O Γ c Y U a).bind λz=>goR z (ssb λV=>evM Z O Γ c Y V b):=(rfl)
def BZ{ms}(h:ms.length<16):kP ns (.list (ms.map .int))=some (.list ((ip ns ms).map .int)):=by
 show ((intsOf _).bind _)=_;rw[TX.dB,bs0,if_pos h]
noncomputable def frm(Z:Fs)(O:FsM)(Γ:List (Str×D))(c:Nat)(tg:Tg)(q:SMs)(Y:List Sl):R×Ust->Option (OM×Ust)
 |(.ok d,U)=>(qt d).bind λds=>gi Z O Γ c tg q ds Y U
 |(.exc x,U)=>some (.exc x Y,U)
@[simp ↓ high] def exM_form{tg:Tg}:exM Z O Γ c Y U (.form tg a q)=(evM Z O Γ c Y U a).bind (frm Z O Γ c tg q Y):=by
 show (evM Z O Γ c Y U a).bind _=_;congr 1;funext z;obtain⟨z,V⟩:=z;cases z<;>rfl
@[simp] def NC{tg}{ds}:frm Z O Γ c tg q Y (.ok (.list ds),U)=gi Z O Γ c tg q ds Y U:=(rfl)
@[simp] def ND{tg}:frm Z O Γ c tg q Y (.exc x,U)=some (.exc x Y,U):=(rfl)
end
end L2.Z
namespace TX
open PySem SI M1 L2.Z
variable {O:FsM}{cNO cBT cBC aN:Nat}
abbrev VL5(cNO cBT cBC:Nat)(L:List Th):Prop:=VL cNO cBT cBC L/\L.length<=15
noncomputable abbrev rB(L:List Th)(xs:List Int):List Int:=rL (Rch (gB L) xs) L.length
noncomputable def dif(L:List Th)(xs ys:List Int):List Int:=ip (rB L xs) (rB L ys)
noncomputable def pkL(L:List Th)(xs:List Int):List Str:=(xs.map (lnA L)).flatten
def mE{P}{N}:(rL P N).length<=N:=by
 simp[rL];exact nt0 (List.length_filter_le _ _) (by simp)
noncomputable def pf(cNO:Nat)(L:List Th)(xs ys:List Int):R:=open Classical in if ∀x∈xs++ys,(gB L x).isSome then .ok (.list ((pkL L (dif L xs ys)).map .str))else .exc cNO
abbrev sL(cNO cBT cBC:Nat)(run:Ust->List D->Option (Ust×R)):Prop:=∀(L:List Th)(xs ys:List Int),VL5 cNO cBT cBC L->xs.length<=10->ys.length<=10->run (vt L) [.hdl 0,.list (xs.map .int),.list (ys.map .int)]=some (vt L,pf cNO L xs ys)
abbrev sM(O:FsM)(cNO cBT cBC:Nat):Prop:=dy O "packed" [false,false,false] (sL cNO cBT cBC)
def sN{L}{xs ys}{x}(h:x∈dif L xs ys):∃n:Nat,x=n/\n<L.length:=by
 obtain⟨n,e,hn,_⟩:=mem_rL.mp (List.mem_filter.mp h).1;exact⟨n,e,hn⟩
def sP{L}{xs ys}:(dif L xs ys).length<=L.length:=nt0 (List.length_filter_le _ _) mE
def qH(hr:oZ O cNO cBT cBC)(hl:Jt O cNO cBT cBC):sL cNO cBT cBC (cy Z O Γ c gk):=by
 intro L xs ys hv hx hy;obtain⟨r1,e1,h1⟩:=hr;obtain⟨r2,e2,h2⟩:=hl;have k1:=h1 L xs hv.1 hx;have k2:=h1 L ys hv.1 hy;have hN:=hv.2;simp only[aQ,gk];have lo:∀d,cW (.own d)=true:=λa=>rfl
 have ln:cW .no=true:=rfl;rw[fu]at k1 k2
 by_cases c1:∀x∈xs,(gB L x).isSome
 .rw[if_pos c1]at k1
  have o1:okN (rB L xs)=true:=by
   unfold okN;rw[be0,decide_eq_true_iff,List.all_eq_true];refine⟨Nat.lt_of_le_of_lt mE (by omega),λx hx=>?_⟩;obtain⟨n,rfl,hn,_⟩:=mem_rL.mp hx;simp;grind
  have s1:=λ{z2:Ust->Option (R×Ust)}{U:Ust}=>(have h2:=(sC _ _);show ssb z2 (.list ((TX.rB L xs).map .int)) U=(z2 U).bind λz=>goR z λe V=>(kP (TX.rB L xs) e).map λo=>(.ok o,V) by
    show ((intsOf _).bind _)=_;rw[TX.dB,bs0,if_pos ⟨o1,h2⟩])
  by_cases c2:∀x∈ys,(gB L x).isSome
  .rw[if_pos c2]at k2
   have s2:=BZ (ns:=rB L xs) (ms:=rB L ys) (Nat.lt_of_le_of_lt mE (by omega));obtain⟨s,e⟩:=Dy (Z:=Z) (O:=O) (Γ:=Γ) (c:=c) (tg:=.one 4) (q:=.cons (.ext 3 (.call "lines_of_object" (.va 0 (.va 4 .nil)))) .nil) (inj:=D.int) (U:=vt L) (F:=λacc (s:Sl)=>[.dat (.hdl 0),.dat (.list (xs.map .int)),.dat (.list (ys.map .int)),.own (.list (acc.map .str)),s]) (f:=lnA L) (K:=1002) (M:=20000) (dif L xs ys) [] .no (λx hx=>by
    obtain⟨n,rfl,hn⟩:=sN hx;have ht:=ge0 hn;have el:lnA L n=lnF n L[n]:=by rw[lnA,at_nat,ht];rfl
    have ll:=sJ (dN hv.1 ht).1 n;rw[el];refine⟨ll,λacc s ha=>⟨.dat (.int n),?_⟩⟩;have hb:acc.length+(lnF n L[n]).length<=big:=nt0 (Nat.add_le_add ha ll) (by decide);simp[e2,h2 L n _ hv.1 ht,qt,yk,hb]) (by have:=sP (L:=L) (xs:=xs) (ys:=ys);simp;omega)
   rw[pf,if_pos λx hx=>(ma0 hx).elim (c1 x) (c2 x)];simp only[List.map_nil]at e;simp[lo,ln,e1,k1,s1,k2,s2];rw[show ip (rB L xs) (rB L ys)=dif L xs ys from rfl,e];simp[pkL]
  .rw[if_neg c2]at k2
   rw[pf,if_neg λz=>c2 λx hx=>z x (mr0 _ hx)];simp[lo,ln,e1,k1,s1,k2]
 .rw[if_neg c1]at k1
  rw[pf,if_neg λz=>c1 λx hx=>z x (List.mem_append_left _ hx)];simp[lo,ln,e1,k1]
noncomputable def ph(L:List Th)(xs ys:List Int):D:=open Classical in if ∀x∈xs++ys,(gB L x).isSome then .list ((pkL L (dif L xs ys)).map .str)else .str ⟨#[110,111]⟩
abbrev sQ(cNO cBT cBC:Nat)(run:Ust->List D->Option (Ust×R)):Prop:=∀(L:List Th)(xs ys:List Int),VL5 cNO cBT cBC L->xs.length<=10->ys.length<=10->run (vt L) [.hdl 0,.list (xs.map .int),.list (ys.map .int)]=some (vt L,.ok (ph L xs ys))
abbrev sR(O:FsM)(cNO cBT cBC:Nat):Prop:=dy O "_law_told" [false,false,false] (sQ cNO cBT cBC)
def zx(n1:cNO≠cBT)(hr:sM O cNO cBT cBC):sQ cNO cBT cBC (cy Z O Γ c (dE cNO cBT)):=by
 intro L xs ys hv hx hy;obtain⟨r1,e1,h1⟩:=hr;simp only[aQ,dE];simp[e1,(h1 L xs ys hv hx hy)];rw[pf,ph];split
 .simp
 .simp[Jg,Jf]
abbrev Dz(cNO cBT cBC:Nat)(run:List D->Option D):Prop:=∀(L:List Th)(xs:List Int),VL5 cNO cBT cBC L->xs.length<=15->(∀x∈xs,∃n:Nat,x=n/\n<L.length)->run [.list (L.map Th.d),.list (xs.map .int)]=some (.list ((pkL L xs).map .str))
abbrev DA(Z:Fs)(cNO cBT cBC:Nat):Prop:=Has Z "_law_pack" [true,true] (Dz cNO cBT cBC)
noncomputable def sO(o:Option D):Sl:=match o with
 |some d=>.dat d
 |none=>.no
noncomputable abbrev S5:=Option D×Option D×Option D×Option D×Option D
noncomputable abbrev pkF(L:List Th)(xs:List Int)(acc:List Str)(s:S5):List Sl:=[.lent (.list (L.map Th.d)),.lent (.list (xs.map .int)),.own (.list (acc.map .str)),sO s.1,sO s.2.1,sO s.2.2.1,sO s.2.2.2.1,sO s.2.2.2.2]
def zy:Dz cNO cBT cBC (ans Z Γ gj):=by
 intro L xs hv hx hn;have hN:=hv.2;simp only[ans_e,gj];simp;obtain⟨s,e⟩:=Dx (Z:=Z) (Γ:=Γ) (tg:=.one 3) (r:=pkB) (inj:=D.int) (F:=pkF L xs) (f:=lnA L) (K:=1002) (M:=20000) xs [] _ (λx hx=>by
  obtain⟨n,rfl,hn⟩:=hn x hx;have ht:=ge0 hn;have el:lnA L n=lnF n L[n]:=by rw[lnA,at_nat,ht];rfl
  rw[el];refine⟨sJ (dN hv.1 ht).1 n,λacc s ha=>?_⟩;generalize L[n]=t at ht;cases t with
  |blob x=>exact (by
    obtain⟨sm,ok,hn,_⟩:=dN hv.1 ht;obtain⟨s1,s2,s3⟩:=mC (sm);have l1:=bf hn;have l2:=bf s1;refine⟨(some (.int n),some (Th.blob x).d,some (.list ((Txt.split x ⟨#[10]⟩).map .str)),s.2.2.2.1,s.2.2.2.2),?_⟩;have at1:atI (L.map Th.d) (n:Int)=some (Th.blob x).d:=dG (by rw[gm0,ht];rfl);have sb:(Txt.split x ⟨#[10]⟩).length<=big:=nt0 s2 (by decide);have a1:(ts n).length+bB.length<=big:=nt0 (Nat.add_le_add_right l1 _) (by decide);have a2:(ts n++bB).length+(ts (Txt.split x ⟨#[10]⟩).length).length<=big:=by rw[jz];exact nt0 (Nat.add_le_add (Nat.add_le_add_right l1 _) l2) (by decide)
    have z1:acc.length+1<=big:=nt0 (Nat.succ_le_succ ha) (by decide);have z2:acc.length+1+(Txt.split x ⟨#[10]⟩).length<=big:=nt0 (Nat.add_le_add (Nat.succ_le_succ ha) s2) (by decide);unfold pkB;simp[at1,Dw sm,bQ hn,bQ s1,a1,a2,z1,sb,-iW];rw[ao (g:=λy=>D.str (my y)) λy hy=>by simp[bo,sI (s3 y hy),my]];simp[z2,bN,lnF,sO,mw])
  |tree es=>exact (by
    obtain⟨sm,ok,hn,_⟩:=dN hv.1 ht;have l1:=bf hn;refine⟨(some (.int n),some (Th.tree es).d,s.2.2.1,s.2.2.2.1,s.2.2.2.2),?_⟩;have at1:atI (L.map Th.d) (n:Int)=some (Th.tree es).d:=dG (by rw[gm0,ht];rfl);have hb:es.length<=big:=nt0 sm.1 (by decide);have hb2:2+es.length<=big:=nt0 (Nat.add_le_add_left sm.1 2) (by decide);have z1:acc.length<big:=Nat.lt_of_le_of_lt ha (by decide);have j:=jC (s:=sp) (xs:=ts n::bc::es.map mz) (by simp;have:=sm.1;grind) (λx hx=>by
     rcases mq0 hx with rfl|hx
     .exact nt0 l1 (by decide)
     rcases mq0 hx with rfl|hx
     .decide
     .obtain⟨p,hp,rfl⟩:=mm0 hx
      rw[mz,jz,jz];exact nt0 (mD (sm.2 p hp) (ok p hp)) (by decide)) rfl
    simp only[mk0,List.map_map,Function.comp_def]at j;unfold pkB;simp[at1,bQ hn,hb,-bR];rw[ao (g:=λp=>D.str (mz p)) λp hp=>by
     have q1:p.1.length+(⟨#[61]⟩:Str).length<=big:=nt0 (Nat.add_le_add_right (sm.2 p hp) _) (by decide);have q2:(p.1++(⟨#[61]⟩:Str)).length+(ts p.2).length<=big:=by rw[jz];exact nt0 (Nat.add_le_add (Nat.add_le_add_right (sm.2 p hp) _) (bf (ok p hp))) (by decide)
     simp[bo,bZ,bQ (ok p hp),q1,q2,mz,mw]]
    simp[hb2,j,z1,-bR];simp[lnF,sO])
  |com a ps tm m=>exact (by
    obtain⟨sm,⟨o1,o2,o3⟩,hn,_⟩:=dN hv.1 ht;have at1:atI (L.map Th.d) (n:Int)=some (Th.com a ps tm m).d:=dG (by rw[gm0,ht];rfl);have hb:ps.length<=big:=nt0 sm.1 (by decide);have z1:acc.length+2<=big:=nt0 (Nat.add_le_add_right ha 2) (by decide);have pl:=pb sm.1 o2;have bs:=sI sm.2.2;have j1:=jC (s:=⟨#[44]⟩) (xs:=ps.map ts) (by have:=sm.1;simp;grind) (λx hx=>by
     obtain⟨y,hy,rfl⟩:=mm0 hx;exact nt0 (bf (o2 y hy)) (by decide)) rfl
    rw[List.map_map]at j1;have j2:=jC (s:=sp) (xs:=[ts n,af,ts a,gm ps,ts tm]) (by simp) (λx hx=>by
     simp only[List.mem_cons,List.not_mem_nil,or_false]at hx;rcases hx with rfl|rfl|rfl|rfl|rfl
     .exact nt0 (bf hn) (by decide)
     .decide
     .exact nt0 (bf o1) (by decide)
     .exact nt0 pl (by decide)
     .exact nt0 (bf o3) (by decide)) rfl
    have pe:(if Txt.join ⟨#[44]⟩ (ps.map ts)=⟨#[]⟩ then some (D.str ⟨#[45]⟩)else some (D.str (Txt.join ⟨#[44]⟩ (ps.map ts))))=some (.str (gm ps)):=by
     unfold gm
     by_cases z:ps=[]
     .subst z;rfl
     .rw[if_neg (show ¬ Txt.join ⟨#[44]⟩ (ps.map ts)=⟨#[]⟩ from (by
       cases ps with
       |nil=>exact absurd rfl z
       |cons p r=>
        intro z;have h1:=ed (c:=44) (ys:=(p::r).map ts) (p:=ts p) (by simp);rw[<-show Txt.join _ _=Str.join _ _ from StrLaws.glued_eq_join _ _,z]at h1;refine Jq (o2 p ms0) (ext ?_);rw[Array.size_eq_zero_iff.mp (Nat.le_zero.mp h1)];rfl)),if_neg z]
    refine⟨(some (.int n),some (Th.com a ps tm m).d,s.2.2.1,some (.str (Txt.join ⟨#[44]⟩ (ps.map ts))),some (.list ([ts n,af,ts a,gm ps,ts tm].map .str))),?_⟩;simp only[mk0,List.map_nil]at j2;unfold pkB;simp[at1,hb,-bR];rw[ao (g:=D.str ∘ ts) λp hp=>by simp[bo,bQ (o2 p hp)]];simp[j1,bQ hn,bQ o1,bQ o3,-bR];rw[pe];simp[j2,bs,z1,bN,-bR];simp[lnF,sO,my])) (by simp;omega)
 rw[show [Sl.lent (.list (L.map Th.d)),.lent (.list (xs.map .int)),.own (.list []),.no,.no,.no,.no,.no]=pkF L xs [] (none,none,none,none,none)from rfl,e];simp[pkL]
variable {O:FsM}{cNO cBT cBC aN:Nat}
noncomputable def pckF(ns:List Int)(k m:Int):List Int:=(List.range (mixF ns k % 4).toNat).map λj:Nat=>mixF ns (k+1+j) % m
abbrev sS(run:List D->Option D):Prop:=∀ns k m,0<m->run [.scr ns,.int k,.int m,.int 3]=some (.list ((pckF ns k m).map .int))
abbrev sU(Z:Fs):Prop:=Has Z "_law_picked" [true,true,true,true] sS
def qI(hm:qy Z):sS (ans Z Γ dD):=by
 intro ns k m h0;obtain⟨r1,e1,h1⟩:=hm;have hb:(mixF ns k % 4).toNat<=big:=nt0 (m:=4) (by omega) (by decide);simp only[ans_e,dD];simp[e1,h1,ve (n:=mixF ns k % 4) (by omega) (by omega),hb];rw[ao (g:=D.int ∘ λj:Nat=>mixF ns (k+1+j) % m) λj a=>by simp[bo,e1,h1,h0]];simp[pckF]
def sV(ns)(k m:Int):(pckF ns k m).length<=3:=by
 simp[pckF];omega
def sW{ns}{k}{N:Nat}(h:0<N){x}(hx:x∈pckF ns k N):∃n:Nat,x=n/\n<N:=by
 obtain⟨j,_,rfl⟩:=mm0 hx;have:=iH ns (k+1+j) (N:Int) (by simp_all);exact⟨(mixF ns (k+1+j) % N).toNat,by grind,by simp_all⟩
abbrev lg(cNO cBT cBC:Nat)(run:List D->Option D):Prop:=∀ns b m,1<=m->m<=15->∃L:List Th,VL5 cNO cBT cBC L/\L≠[]/\run [.scr ns,.int b,.int m]=some (.list (L.map Th.d))
abbrev lh(Z:Fs)(cNO cBT cBC:Nat):Prop:=Has Z "_law_things" [true,true,true] (lg cNO cBT cBC)
def mF(ht:zi Z cNO cBT cBC):lg cNO cBT cBC (ans Z Γ dz):=by
 intro ns b m h0 h1;obtain⟨r1,e1,h2⟩:=ht;simp only[ans_e,dz];simp[ve (n:=m) (by grind) (by grind)];refine De (F:=λs:List Th×Sl×Sl=>[.lent (.scr ns),.lent (.int b),.lent (.int m),.own (.list (s.1.map Th.d)),s.2.1,s.2.2]) (s:=([],.no,.no)) (λn s=>Valid cNO cBT cBC s.1/\s.1.length+n<=15/\1<=s.1.length+n) (P:=λo=>∃L:List Th,VL5 cNO cBT cBC L/\L≠[]/\BP (nxS Z Γ o _)=some (.list (L.map Th.d))) (λs j=>⟨s.1,⟨⟨j.1,by have:=j.2.1;grind⟩,j.2.1⟩,List.ne_nil_of_length_pos j.2.2,by simp⟩) (λx a n s j=>?_) ⟨λP t R h=>(by cases P<;>cases h),by simp;omega,by simp;grind⟩;obtain⟨t,t1,t2,t3⟩:=h2 ns (b+5*x) s.1 j.1 (by grind)
 have hb:s.1.length<big:=by unfold big;omega
 by_cases c:t∈s.1
 .exact⟨(s.1,.dat (.int x),.dat t.d),⟨j.1,Nat.le_of_succ_le j.2.1,nt0 (List.length_pos_of_mem c) (Nat.le_add_right _ _)⟩,by simp[e1,mulL (i:=5) (by decide) (by decide),t3,Do,c]⟩
 .exact⟨(s.1++[t],.dat (.int x),.dat t.d),⟨j.1.snoc ⟨t1,t2,c⟩,by have:=j.2;simp;omega,by simp;omega⟩,by simp[e1,mulL (i:=5) (by decide) (by decide),t3,Do,c,hb]⟩
def zz(d:D):jA (some (.list [d])) (some (.int 0))=some (.list []):=rfl
def zA(d:D):jA (some (.list [d])) (some (.int 1))=some (.list [d]):=rfl
structure GX(Z:Fs)(O:FsM)(c cNO cBT cBC:Nat):Prop where
 mx:qy Z
 wi:Ds Z
 th:lh Z cNO cBT cBC
 re:sG Z cNO cBT cBC
 pi:sU Z
 pa:DA Z cNO cBT cBC
 fi:sv O cNO cBT cBC
 to:sR O cNO cBT cBC
 st:zd Z c
def pj(h:GX Z O c cNO cBT cBC)(ns):∃U,cy Z O Γ c dc [] [.scr ns]=some (U,.ok (.bool true)):=by
 obtain⟨⟨r1,e1,h1⟩,⟨r3,e3,h3⟩,⟨r4,e4,h4⟩,⟨r5,e5,h5⟩,⟨r2,e2,h2⟩,⟨r6,e6,h6⟩,⟨r7,e7,h7⟩,⟨r8,e8,h8⟩,⟨r9,e9,h9⟩⟩:=h;obtain⟨L,hv,hn,k4⟩:=h4 ns 1 (1+mixF ns 0 % 14) (by have:=iH ns 0 14 (by decide);grind) (by have:=iH ns 0 14 (by decide);omega);have hl:=hv.2;have lp:=lp0 hn;have k7:=h7 L hv.1.1 (by omega);have k9:=h9 0 L hv.1.1.sm (by omega);obtain⟨i,k3⟩:=h3 ns 82 L.length (by omega) (by omega);have nat:∀z:Int,(∃n:Nat,z=n/\n<L.length)->(gB L z).isSome:=λz ⟨n,e,hn⟩=>by
  rw[e,gB,at_nat,ge0 hn];rfl
 have p1:=h2 ns 72 L.length (by omega);have p2:=h2 ns 77 L.length (by omega);have l1:=sV ns 72 L.length;have l2:=sV ns 77 L.length;have x1:=λx hx=>nat x (sW (ns:=ns) (k:=72) lp hx)
 have x2:=λx hx=>nat x (sW (ns:=ns) (k:=77) lp hx)
 generalize pckF ns 72 L.length=xs at p1 l1 x1;generalize pckF ns 77 L.length=ys at p2 l2 x2;have q1:=h5 L xs hv.1 x1;have q2:=h5 L ys hv.1 x2;have q3:=h6 L (dif L xs ys) hv (nt0 sP hl) λx hx=>sN hx
 have t1:=h8 L xs ys hv (by omega) (by omega);rw[ph,if_pos λx hx=>(ma0 hx).elim (x1 x) (x2 x)]at t1;have hr:∀P,(rL P L.length).length<=big:=λP=>nt0 mE (nt0 hl (by decide))
 have eqS:∀a:List Str,eqD (.list (a.map .str)) (.list (a.map .str))=some true:=λa=>by rw[rd (by simp[okS]) (by simp[okS])];simp
 have eqT:eqD (.tuple [.list (xs.map .int),.list (ys.map .int)]) (.tuple [.list (xs.map .int),.list (ys.map .int)])=some true:=by rw[rd (by simp[okS]) (by simp[okS])];simp
 have ln:cW .no=true:=rfl;simp only[aQ,dc];simp[e1,h1,e4,k4,e7,k7,e2,p1,p2,e5,q1,q2,hr];rw[bV (g:=D.int) (p:=λx=>!(rB L ys).contains x) λx hx=>by
  by_cases z:x∈rB L ys<;>simp[bo,sH,z]]
 rw[show (rL (Rch (gB L) xs) L.length).filter (λx=>!(rB L ys).contains x)=dif L xs ys from rfl];simp[e6,q3,e8,t1,eqS,eqT,e3,k3]
 by_cases z:0<=i/\i<L.length
 .rw[if_neg (by omega)]
  simp[e9,k9]
 .have off:gB L i=none:=by
   rw[gB,atL];split
   .rw[List.getElem?_eq_none (by omega)];rfl
   .rfl
  have m2:=iH ns 83 2 (by decide);rw[if_pos (by omega)];have no:∀as bs:List Int,i∈as++bs->ph L as bs=.str ⟨#[110,111]⟩:=λas bs h=>by
   rw[ph,if_neg λq=>by have:=q i h;rw[off]at this;cases this]
  have u1:=h8 L xs (ys++[i]) hv (by omega) (by simp;omega);have u2:=h8 L (xs++[i]) ys hv (by simp;omega) (by omega);rw[no _ _ (by simp)]at u1 u2;simp only[List.map_append,mk0,List.map_nil]at u1 u2;have b1:xs.length+1<=big:=nt0 (m:=4) (by omega) (by decide);have b2:ys.length+1<=big:=nt0 (m:=4) (by omega) (by decide);have b3:=Nat.le_of_succ_le b1;have b4:=Nat.le_of_succ_le b2;obtain w|w:mixF ns 83 % 2=0\/mixF ns 83 % 2=1:=by omega
  .simp[e1,h1,w,zz,zA,b1,b2,b3,b4,e8,u1,e9,k9]
  .simp[e1,h1,w,zz,zA,b1,b2,b3,b4,e8,u2,e9,k9]
variable {O:FsM}{cNO cBT cBC aN:Nat}
abbrev GY(k:Str)(c:Nat)(run:List D->Option D):Prop:=∀(h:Nat)(os:List D)(n:Nat)(t:Th),t.k=k->t.sm->okL t->Sm n->os[n]?=some t.o->run [.vlt c h os,.int n]=some (.list ((lnF n t).map .str))
def lnB(ht:mr Z c):GY dF c (ans Z Γ aR):=λh os n t z sm a hn hd=>BX ht h os n t z sm hn hd
def lnT(he:gb Z c):GY bc c (ans Z Γ bw):=λh os n t z sm ok hn hd=>by
 cases t with
 |tree es=>exact (by
   obtain⟨r1,e1,h1⟩:=he;have k:=h1 h os n _ hd;have l1:=bf hn;have hb:es.length<=big:=nt0 sm.1 (by decide);have hb1:1+es.length<=big:=nt0 (Nat.add_le_add_left sm.1 1) (by decide);have f:=MA (d1:=.int n) (d2:=.str ⟨#[32,116,114,101,101]⟩) (x:=ts n) (nt0 (Nat.add_le_add_right l1 _) (by decide)) (bQ hn) rfl;simp only[ans_e,bw];simp[e1,k,hb];rw[ao (g:=λp=>D.str (mz p)) λp hp=>by
    have f3:=Jr (d1:=.str p.1) (d2:=.str ⟨#[61]⟩) (d3:=.int p.2) (nt0 (mD (sm.2 p hp) (ok p hp)) (by decide)) rfl rfl (bQ (ok p hp));simp[bo,bZ,f3,mz]]
   have j:=jC (s:=sp) (xs:=(ts n++⟨#[32,116,114,101,101]⟩)::es.map mz) (by simp;have:=sm.1;grind) (λx hx=>by
    rcases mq0 hx with rfl|hx
    .rw[jz];exact nt0 (Nat.add_le_add_right l1 _) (by decide)
    .obtain⟨p,hp,rfl⟩:=mm0 hx
     rw[mz,jz,jz];exact nt0 (mD (sm.2 p hp) (ok p hp)) (by decide)) rfl
   simp only[mk0,List.map_map]at j;simp[f,hb1,-bR];simp only[Function.comp_def]at j ⊢;rw[j];simp[lnF,join_tree])
 |_=>cases z
def lnC(hc:oW Z c):GY af c (ans Z Γ aT):=λh os n t z sm ok hn hd=>by
 cases t with
 |com a ps tm m=>exact (by
   obtain⟨r1,e1,h1⟩:=hc;have k:=h1 h os n _ rfl hd;obtain⟨o1,o2,o3⟩:=ok;have hb:ps.length<=big:=nt0 sm.1 (by decide);have f:=(have hp:=(pb sm.1 o2);show biD .fst [.int (↑n),.str kC,.int a,.str sp,.str (TX.gm ps),.str sp,.int tm]=some (.str (Txt.join sp [ts (↑n),af,ts a,(TX.gm ps),ts tm])) by
     have h:(ts (↑n)).length+(kC.length+((ts a).length+(sp.length+((TX.gm ps).length+(sp.length+(ts tm).length)))))<=big:=nt0 (Nat.add_le_add (bf hn) (Nat.add_le_add_left (Nat.add_le_add (bf o1) (Nat.add_le_add_left (Nat.add_le_add hp (Nat.add_le_add_left (bf o3) _)) _)) _)) (by decide);rw[<-zw];simp[pR,fsL,ib,bQ hn,bQ o1,bQ o3,BK,jz,h])
   have bs:=sI sm.2.2;simp only[ans_e,aT]
   by_cases z:ps=[]
   .subst z
    simp[e1,k];simp[gm]at f;simp[f,bs,lnF,my,gm]
   .have j:=jC (s:=⟨#[44]⟩) (xs:=ps.map ts) (by have:=sm.1;simp;grind) (λx hx=>by
     obtain⟨y,hy,rfl⟩:=mm0 hx;exact nt0 (bf (o2 y hy)) (by decide)) rfl
    rw[List.map_map]at j;rw[gm,if_neg z]at f;simp[e1,k,z,hb,-bR];rw[ao (g:=D.str ∘ ts) λp hp=>by simp[bo,bQ (o2 p hp)]];simp[j,f,bs,lnF,my,gm,z,-bR])
 |_=>cases z
abbrev DB(aN cNO cBT cBC:Nat)(run:Ust->List D->Option (Ust×R)):Prop:=∀(L:List Th)(xs:List Int),VL cNO cBT cBC L->xs.length<=10->run (vt L) [.hdl 0,.list (xs.map .int),.fn aN]=some (vt L,fu cNO L.length (gB L) xs)
abbrev DC(O:FsM)(aN cNO cBT cBC:Nat):Prop:=dy O "all_below" [false,false,false] (DB aN cNO cBT cBC)
def Cd(f1:fnOf Γ (some (.dat (.fn aN)))=some "named_by")(hn:zp O cNO):DB aN cNO cBT cBC (cy Z O Γ c bP):=by
 intro L xs hv hx;obtain⟨r1,e1,h1⟩:=hn;exact BW f1 ⟨r1,e1,λi=>h1 L i hv.1.sm⟩ (sA hv.1) (by omega) xs hx
def mG(ha:DC O aN cNO cBT cBC)(hg:Γ.lookup ("named_by":Str)=some (.fn aN)):oY cNO cBT cBC (cy Z O Γ c eM):=by
 intro L xs hv hx;obtain⟨r1,e1,h1⟩:=ha;simp only[aQ,eM];simp[e1,h1 L xs hv hx,hg];cases fu _ _ _ xs<;>simp
end TX
noncomputable section
namespace K60
open PySem L2 L2.Z SI TX
noncomputable def gam:List (Str×D):=[("LONGEST_NAME",.int 12),("MOST_PARENTS",.int 2),("named_by",.fn aN)]
noncomputable def env:oF:={fns:=["is_name_sign","is_name","names_rise","text_of","entries_of","commit_of","parents_of","lines_of_blob","lines_of_tree","lines_of_commit","_law_cell","_law_mix","_law_whole","_law_sign","_law_line","_law_ends","_law_row","_law_name","_law_thing","_law_things","_law_is","_law_stays","_law_wild","_law_below","_law_reached","_law_pack","_law_picked"],cst:=["LONGEST_NAME","MOST_PARENTS","named_by"],c:=cV,vms:=["size","kind","held","content"],xcs:=[("StrataError",cSE,[(cNO,true),(cBT,true)]),("NoObject",cNO,[(cNO,true),(cBT,false)]),("BadTree",cBT,[(cNO,false),(cBT,true)])],mfs:=["blob","tree","commit","refuse_wrong_names","refuse_what_is_no_tree","refuse_wrong_commit","named_by","reached","all_below","lines_of_object","packed","_law_put","_law_filled","_law_told","law"],mms:=["put","kind","held","content"],vn:="Vault",xks:=[("BadTree",cBT),("NoObject",cNO),("BadCommit",cBC)],vrs:=["_law_vault"],fvs:=["below"]}
noncomputable def prog:List (Str×Def):=[("is_name_sign",bH),("is_name",eE),("names_rise",du),("text_of",(eF cV)),("entries_of",(bW cV)),("commit_of",(cH cV)),("parents_of",cf),("lines_of_blob",aR),("lines_of_tree",bw),("lines_of_commit",aT),("_law_cell",dY),("_law_mix",iF),("_law_whole",kT),("_law_sign",fT),("_law_line",dZ),("_law_ends",fU),("_law_row",iG),("_law_name",gc),("_law_thing",eI),("_law_things",dz),("_law_is",(mi cV)),("_law_stays",(eJ cV)),("_law_wild",gd),("_law_below",eL),("_law_reached",cJ),("_law_pack",gj),("_law_picked",dD),(ai "size",(fW cV)),(ai "kind",(fX cV)),(ai "held",(fY cV)),(ai "content",(cG cV))]
noncomputable def progM:List (Str×bz):=[("blob",md),("tree",(iK cBT)),("commit",gf),("refuse_wrong_names",(aJ cBT)),("refuse_what_is_no_tree",aA),("refuse_wrong_commit",(aG cBC)),("named_by",dC),("reached",eM),("all_below",bP),("lines_of_object",aU),("packed",gk),("_law_put",iI),("_law_filled",dA),("_law_told",(dE cNO cBT)),("law",dc),(ai "kind",eK),(ai "held",(ck cV cNO)),(ai "content",(bX cNO))]
theorem ti:rX (met 0):=⟨⟨_,_,_,_,_,_,_,_,rfl⟩⟩
theorem tp:yu (met 5):=⟨⟨_,_,_,_,_,_,_,_,_,_,_,_,_,_,_,_,_,_,_,_,_,_,_,_,_,rfl,rfl⟩,by decide +kernel⟩
noncomputable def scB(ps:List Str)(st:Stmt):Bool:=decide ((defScope st).kind=.function/\(defScope st).isCoroutine=false/\(defScope st).isGenerator=false/\(ps++ay (defScope st) ps).Nodup/\(ps++ay (defScope st) ps).take ps.length=ps/\(∀x∈ps,(defScope st).names.lookup x=some .local\/(defScope st).names.lookup x=some .cell)/\∀y∈(defScope st).names,y.2≠.free)
theorem qJ{ps:List Str}{st:Stmt}(h:scB ps st=true):bt (ps++ay (defScope st) ps) ps (defScope st):=
 have⟨a,b,c,d,e,f,g⟩:=od0 h
 ⟨a,b,c,d,e,f,g⟩
structure FF(x q:Str)(st:Stmt)(f cd:Addr)(pm:Value)(ps:List Str):Prop where
 l:∀P,(kk P).lookup f=some (fo x q st pm cd):=by intro;kernel_rfl
 c:∀P,(PySem.W.codeIn (kk P) (.ref cd) q&&PySem.W.keepIn (kk P) (.ref f))=true:=by intro;kernel_rfl
 s:scB ps st=true:=by kernel_rfl
 d:bF st=some (ps,defBody st,defScope st):=by rfl
 b:∀(kV doc pm:Value)(an:Option Addr)(cdv ct:Value)(us:List Value),us.length=ps.length->bindArgs (PySem.W.fnOf x q (defArgs st) (defBody st) (defScope st) .none kV doc pm an cdv ct) ⟨us,[]⟩=pure (ps.zip us):=by first|exact λa a a a a a=>len1 λa=>rfl|exact λa a a a a a=>len2 λa a=>rfl|exact λa a a a a a=>len3 λa a a=>rfl|exact λa a a a a a=>LS λa a a a=>rfl|exact λa a a a a a=>LU λa a a a a=>rfl
section
variable {q:Str}{st:Stmt}{f cd:Addr}{pm:Value}{ps:List Str}{P:Params}{h:Heap}
abbrev FT(x:Str)(i:Nat)(cd:Addr)(pm:Value)(ps:List Str):Prop:=FF x x (top i) (cd+1) cd pm ps
theorem FF.fn(F:FF x q st f cd pm ps)(P:Params):Fun (kk P) x q st f (PySem.W.fnOf x q (defArgs st) (defBody st) (defScope st) .none .none .none pm none (.ref cd) .none):=Eg (F.l P) (ax0 (F.c P)).1 (ax0 (F.c P)).2
theorem mkD{d:Def}(F:FF x x st f cd pm ps)(X:(kk P).In h)(G:h.Ns mainGlobals mg)(a:PySem.W.nsIn (kk P) mainGlobals x=some (some (.ref f)):=by kernel_rfl)(c:uy env.fns env.cst d.lent st (some env.c) env.vms env.xcs=some d:=by kernel_rfl)(e:d.lent.length=ps.length:=by rfl):uz (kk P) mg env.fns env.cst (some env.c) env.vms env.xcs x d:=
 ⟨⟨st,f,_,ps,F.fn P,PySem.W.mg_of X G a,(F.fn P).binds F.b,qJ F.s,F.d,c,e⟩⟩
theorem mkM{d:bz}(F:FF x x st f cd pm ps)(X:(kk P).In h)(G:h.Ns mainGlobals mg)(a:PySem.W.nsIn (kk P) mainGlobals x=some (some (.ref f)):=by kernel_rfl)(c:jt env d.lent st=some d:=by kernel_rfl)(e:d.lent.length=ps.length:=by rfl):oI (kk P) mg env x d:=
 ⟨⟨st,f,_,ps,F.fn P,PySem.W.mg_of X G a,(F.fn P).binds F.b,qJ F.s,F.d,c,e⟩⟩
theorem nv{α:Prop}(e:x=ai m)(hm:vms.contains m=true)(h:(vms.all λm=>!(x==ai m))=true:=by kernel_rfl):α:=(Je h e hm).elim
theorem mn{n:Str}(X:(kk P).In h)(G:h.Ns mainGlobals mg)(e:PySem.W.nsIn (kk P) mainGlobals n=some none:=by kernel_rfl):mg n=none:=PySem.W.mg_none_of X G e
theorem mo{n:Str}{v:Value}(X:(kk P).In h)(G:h.Ns mainGlobals mg)(e:PySem.W.nsIn (kk P) mainGlobals n=some (some v):=by kernel_rfl):mg n=some v:=PySem.W.mg_of X G e
theorem mkT(F:FF x q st f cd pm ps)(a:PySem.W.findIn (kk P) (.ref cV) x=some (some (.ref f)):=by kernel_rfl)(n:PySem.W.isFn (kk P) (.ref f)=true:=by kernel_rfl):iR (kk P) cV x f:=⟨a,n,(ax0 (F.c P)).2⟩
theorem mkV{d:Def}(F:FF x (ai x) st f cd pm ps)(T:iR (kk P) cV x f)(n:x≠"objects"/\x≠"numbers":=by decide)(c:uy env.fns env.cst d.lent st (some env.c) env.vms env.xcs=some d:=by kernel_rfl)(e:d.lent.length=ps.length:=by rfl):uA (kk P) env.fns env.cst env.c env.vms env.xcs x d:=
 ⟨n,⟨st,f,_,ps,F.fn P,T,(F.fn P).binds F.b,qJ F.s,F.d,c,e⟩⟩
theorem mkX{t:Str}{c:Addr}{tab:List (Nat×Bool)}(m:mg t=some (.ref c))(h:∀e b,tab.lookup e=some b->PySem.W.ExcI (kk P) e/\PySem.W.kitOne (kk P) (.ref e) (.ref c)=some b):XcZ (kk P) mg t c tab:=⟨.inl m,λe b q=>⟨(h e b q).1,λa=>(h e b q).2,λ(z:mg t=none)=>by rw[m]at z;cases z⟩⟩
theorem mkW{d:bz}(C:Cls (kk P) cV)(F:FF x q st f cd pm ps)(T:iR (kk P) cV x f)(n:x≠"objects"/\x≠"numbers":=by decide)(c:jt env d.lent st=some d:=by kernel_rfl)(e:d.lent.length=ps.length:=by rfl)(e':d.lent.headD false=false:=by rfl):oJ (kk P) env x d:=
 ⟨n,e',⟨st,f,_,ps,q,F.fn P,C,T,(F.fn P).binds F.b,qJ F.s,F.d,c,e⟩⟩
end
theorem F8:FT "is_name_sign" 8 76 m0 ["sign"]:={}
theorem F9:FT "is_name" 9 81 m0 ["text"]:={}
theorem F10:FT "names_rise" 10 86 m0 ["names"]:={}
theorem F17:FT "text_of" 17 175 m1 ["vault","number"]:={}
theorem F18:FT "entries_of" 18 182 m1 ["vault","number"]:={}
theorem F19:FT "commit_of" 19 189 m1 ["vault","number"]:={}
theorem F27:FT "parents_of" 27 236 m2 ["vault","number"]:={}
theorem F31:FT "lines_of_blob" 31 255 m3 ["vault","number"]:={}
theorem F32:FT "lines_of_tree" 32 260 m3 ["vault","number"]:={}
theorem F33:FT "lines_of_commit" 33 265 m3 ["vault","number"]:={}
theorem F35:FT "_law_cell" 35 272 m4 ["_law_script","_law_k"]:={}
theorem F36:FT "_law_mix" 36 279 m4 ["_law_script","_law_k"]:={}
theorem F37:FT "_law_whole" 37 286 m4 ["_law_found"]:={}
theorem F38:FT "_law_sign" 38 293 m4 ["_law_number"]:={}
theorem F39:FT "_law_line" 39 300 m4 ["_law_script","_law_k"]:={}
theorem F40:FT "_law_ends" 40 305 m4 ["_law_row_here","_law_cut"]:={}
theorem F41:FT "_law_row" 41 310 m4 ["_law_script","_law_base","_law_many"]:={}
theorem F42:FT "_law_name" 42 315 m4 ["_law_script","_law_k"]:={}
theorem F43:FT "_law_thing" 43 320 m4 ["_law_script","_law_k","_law_things_here"]:={}
theorem F44:FT "_law_things" 44 327 m4 ["_law_script","_law_base","_law_many"]:={}
theorem F46:FT "_law_is" 46 339 m4 ["_law_vault","_law_number","_law_thing_here"]:={}
theorem F48:FT "_law_stays" 48 351 m4 ["_law_vault","_law_things_here"]:={}
theorem F49:FT "_law_wild" 49 358 m4 ["_law_script","_law_k","_law_many"]:={}
theorem F50:FT "_law_below" 50 363 m4 ["_law_thing_here"]:={}
theorem F51:FT "_law_reached" 51 368 m4 ["_law_things_here","_law_numbers"]:={}
theorem F52:FT "_law_pack" 52 373 m4 ["_law_things_here","_law_numbers"]:={}
theorem F53:FT "_law_picked" 53 378 m4 ["_law_script","_law_k","_law_many","_law_most"]:={}
theorem F14:FT "blob" 14 156 m1 ["vault","text"]:={}
theorem F15:FT "tree" 15 161 m1 ["vault","entries"]:={}
theorem F16:FT "commit" 16 168 m1 ["vault","top","parents","time","message"]:={}
theorem F20:FT "refuse_wrong_names" 20 196 m1 ["names"]:={}
theorem F21:FT "refuse_what_is_no_tree" 21 203 m1 ["vault","number"]:={}
theorem F22:FT "refuse_wrong_commit" 22 210 m1 ["vault","top","parents","time","message"]:={}
theorem F26:FT "named_by" 26 229 m2 ["vault","number"]:={}
theorem F24:FT "reached" 24 217 m2 ["vault","numbers"]:={}
theorem F25:FT "all_below" 25 224 m2 ["vault","numbers","below"]:={}
theorem F30:FT "lines_of_object" 30 250 m3 ["vault","number"]:={}
theorem F29:FT "packed" 29 243 m3 ["vault","wanted","had"]:={}
theorem F45:FT "_law_put" 45 334 m4 ["_law_vault","_law_thing_here"]:={}
theorem F47:FT "_law_filled" 47 346 m4 ["_law_things_here"]:={}
theorem F54:FT "_law_told" 54 385 m4 ["_law_vault","_law_wanted","_law_had"]:={}
theorem F55:FT "law" 55 390 m4 ["_law_script"]:={}
theorem Fm0:FF "__init__" "Vault.__init__" (met 0) 101 100 m1 ["self"]:={}
theorem Fm5:FF "put" "Vault.put" (met 5) 136 135 m1 ["self","made"]:={}
theorem Fm1:FF "size" "Vault.size" (met 1) 108 107 m1 ["self"]:={}
theorem Fm2:FF "kind" "Vault.kind" (met 2) 115 114 m1 ["self","number"]:={}
theorem Fm3:FF "held" "Vault.held" (met 3) 122 121 m1 ["self","number"]:={}
theorem Fm4:FF "content" "Vault.content" (met 4) 129 128 m1 ["self","number","wanted"]:={}
noncomputable abbrev dn(k:Nat):Fs:=den (prog) gam k
noncomputable abbrev dm(k:Nat):FsM:=jO uZ (prog) (progM) gam cV k
theorem Ju(k:Nat):CW (dn (k+1)):=ax (d:=dY) rfl λns j=>by rw[run_eq rfl];exact yz ns j
theorem vB(k:Nat):qy (dn (k+2)):=ax (d:=iF) rfl λns j=>by rw[run_eq rfl];exact BG (Ju k) ns j
theorem Jv(k:Nat):CY (dn (k+1)):=ax (d:=fT) rfl λn=>by rw[run_eq rfl];exact yB n
theorem DD(k:Nat):yD (dn (k+3)):=ax (d:=dZ) rfl λns j=>by rw[run_eq rfl];exact yE (vB k) (Jv (k+1)) ns j
theorem MB(k:Nat):IW (dn (k+4)):=ax (d:=iG) rfl λns b n h1 h2=>by rw[run_eq rfl];exact BI (DD k) ns b n h1 h2
theorem Jw(k:Nat):CZ (dn (k+1)):=ax (d:=fU) rfl λrow b h1 h2=>by rw[run_eq rfl];exact yG row b h1 h2
theorem GZ(k:Nat):sx (dn (k+1)):=ax (d:=kT) rfl λi=>by rw[run_eq rfl];exact rfl
theorem hName(k:Nat):Dd (dn (k+3)):=ax (d:=gc) rfl λns j=>by rw[run_eq rfl];exact nmR (vB k) ns j
theorem Ha(k:Nat):zi (dn (k+5)) cNO cBT cBC:=ax (d:=eI) rfl λns j L h1 h2=>by rw[run_eq rfl];exact vx (vB (k+2)) (MB k) (Jw (k+3)) (hName (k+1)) (DD (k+1)) ns j L h1 h2
theorem Cg(k:Nat):lh (dn (k+6)) cNO cBT cBC:=ax (d:=dz) rfl λns b m h1 h2=>by rw[run_eq rfl];exact mF (Ha k) ns b m h1 h2
theorem Jx(k:Nat):Ds (dn (k+3)):=ax (d:=gd) rfl λns j m h1 h2=>by rw[run_eq rfl];exact zm (vB k) ns j m h1 h2
theorem Cj(k:Nat):sh (dn (k+1)):=ax (d:=bH) rfl λc=>by rw[run_eq rfl];exact Mw c
theorem Ck(k:Nat):si (dn (k+2)):=ax (d:=eE) rfl λx h=>by rw[run_eq rfl];exact Mx (Cj k) rfl x h
theorem Jy(k:Nat):yW (dn (k+1)):=ax (d:=du) rfl λxs h1=>by rw[run_eq rfl];exact Jk xs h1
theorem Jz(k:Nat):Da (dn (k+1)) cV:=ax (d:=(fW cV)) rfl λh os=>by rw[run_eq rfl];exact yL h os
theorem DE(k:Nat):yK (dn (k+1)) cV:=ax (d:=(fY cV)) rfl λh os n d hd=>by rw[run_eq rfl];exact yM h os n d hd
theorem JA(k:Nat):Dc (dn (k+2)) cV:=ax (d:=(fX cV)) rfl λh os n kk ds hd=>by rw[run_eq rfl];exact yN (DE k) h os n kk ds hd
theorem jD(k:Nat):fZ (dn (k+2)) cV:=ax (d:=(cG cV)) rfl λh os n kk d hd=>by rw[run_eq rfl];exact oK (DE k) h os n kk d hd
theorem zB(k:Nat):mr (dn (k+3)) cV:=ax (d:=(eF cV)) rfl λh os n t z hd=>by rw[run_eq rfl];exact Jn (jD k) h os n t z hd
theorem jE(k:Nat):gb (dn (k+3)) cV:=ax (d:=(bW cV)) rfl λh os n es hd=>by rw[run_eq rfl];exact oM (jD k) h os n es hd
theorem sX(k:Nat):oW (dn (k+3)) cV:=ax (d:=(cH cV)) rfl λh os n t z hd=>by rw[run_eq rfl];exact Mv (jD k) h os n t z hd
theorem JB(k:Nat):Du (dn (k+4)) cV:=ax (d:=cf) rfl λh os n t z hd=>by rw[run_eq rfl];exact My (sX k) h os n t z hd
theorem hIs(k:Nat):HIs (dn (k+4)) cV:=ax (d:=(mi cV)) rfl λh os n t h1 h2=>by rw[run_eq rfl];exact GT (JA (k+1)) (zB k) (jE k) (sX k) (GZ (k+2)) h os n t h1 h2
theorem Hc(k:Nat):zd (dn (k+5)) cV:=ax (d:=(eJ cV)) rfl λh L h1 h2=>by rw[run_eq rfl];exact vq (Jz (k+3)) (hIs k) h L h1 h2
theorem Hd(k:Nat):qF (dn (k+1)):=ax (d:=eL) rfl λt h=>by rw[run_eq rfl];exact vA t h
theorem Cn(k:Nat):sG (dn (k+2)) cNO cBT cBC:=ax (d:=cJ) rfl λL xs h1 h2=>by rw[run_eq rfl];exact qG (Hd k) L xs h1 h2
theorem Cp(k:Nat):sU (dn (k+3)):=ax (d:=dD) rfl λns kk m h1=>by rw[run_eq rfl];exact qI (vB k) ns kk m h1
theorem JC(k:Nat):DA (dn (k+1)) cNO cBT cBC:=ax (d:=gj) rfl λL xs h1 h2 h3=>by rw[run_eq rfl];exact zy L xs h1 h2 h3
theorem MC(k:Nat):HLn (dn (k+4)) cV "lines_of_blob" dF:=ax (d:=aR) rfl λh os n t z sm ok hn hd=>by rw[run_eq rfl];exact lnB (zB k) h os n t z sm ok hn hd
theorem MD(k:Nat):HLn (dn (k+4)) cV "lines_of_tree" bc:=ax (d:=bw) rfl λh os n t z sm ok hn hd=>by rw[run_eq rfl];exact lnT (jE k) h os n t z sm ok hn hd
theorem ME(k:Nat):HLn (dn (k+4)) cV "lines_of_commit" af:=ax (d:=aT) rfl λh os n t z sm ok hn hd=>by rw[run_eq rfl];exact lnC (sX k) h os n t z sm ok hn hd
theorem zC(k:Nat):qB (dm (k+1)) cNO:=aK (d:=(ck cV cNO)) rfl rfl λL i=>by rw[aE rfl];exact Jh L i
theorem zD(k:Nat):qC (dm (k+2)) cNO:=aK (d:=(bX cNO)) rfl rfl λL i s hk=>by rw[aE rfl];exact Ji (zC k) L i s hk
theorem qK(k:Nat):mj (dm (k+2)) cNO:=aK (d:=eK) rfl rfl λL i=>by rw[aE rfl];exact Jj (zC k) L i
theorem JD(k:Nat):Di (dm (k+3)) cBT:=aK (d:=(aJ cBT)) rfl rfl λU es h1 h2=>by rw[aE rfl];exact Mr (Ck k) (Jy (k+1)) U es h1 h2
theorem He(k:Nat):yY (dm (k+4)) cNO cBT:=aK (d:=(iK cBT)) rfl rfl λL es h1 h2 h3=>by rw[aE rfl];exact Jo (JD k) (qK (k+1)) (mh _) L es h1 h2 h3
theorem Cq(k:Nat):sq (dm (k+3)) cNO:=aK (d:=aA) rfl rfl λL i=>by rw[aE rfl];exact GS (zD k) L i
theorem JE(k:Nat):Dk (dm (k+4)) cNO cBC:=aK (d:=(aG cBC)) rfl rfl λL a ps tm m h1=>by rw[aE rfl];exact Mu (zD (k+1)) (Cq k) rfl L a ps tm m h1
theorem zE(k:Nat):oV (dm (k+5)) cNO cBC:=aK (d:=gf) rfl rfl λL a ps tm m h1 h2=>by rw[aE rfl];exact BR (JE k) (mh _) L a ps tm m h1 h2
theorem Hf(k:Nat):zb (dm (k+1)):=aK (d:=md) rfl rfl λL x hz=>by rw[aE rfl];exact Jl (mh _) L x hz
theorem JF(k:Nat):Dm (dm (k+6)) cNO cBT cBC:=aK (d:=iI) rfl rfl λL t h1 h2=>by rw[aE rfl];exact BS (Hf (k+4)) (He (k+1)) (zE k) L t h1 h2
theorem Cu(k:Nat):sv (dm (k+7)) cNO cBT cBC:=aK (d:=dA) rfl rfl λL h1 h2=>by rw[aE rfl];exact qD (JF k) L h1 h2
theorem Hg(k:Nat):zp (dm (k+5)) cNO:=aK (d:=dC) rfl rfl λL i hs=>by rw[aE rfl];exact vz (qK (k+2)) (jE (k+1)) (sX (k+1)) (JB k) L i hs
theorem MF(k:Nat):Jt (dm (k+5)) cNO cBT cBC:=aK (d:=aU) rfl rfl λL n t h1 h2=>by rw[aE rfl];exact BY (qK (k+2)) (MC k) (MD k) (ME k) L n t h1 h2
theorem MG(k:Nat):DC (dm (k+6)) aN cNO cBT cBC:=aK (d:=bP) rfl rfl λL xs h1 h2=>by rw[aE rfl];exact Cd (GV (l:=gam.take 2) rfl (by simp[gam]) rfl) (Hg k) L xs h1 h2
theorem zF(k:Nat):oZ (dm (k+7)) cNO cBT cBC:=aK (d:=eM) rfl rfl λL xs h1 h2=>by rw[aE rfl];exact mG (MG k) rfl L xs h1 h2
theorem Cv(k:Nat):sM (dm (k+8)) cNO cBT cBC:=aK (d:=gk) rfl rfl λL xs ys h1 h2 h3=>by rw[aE rfl];exact qH (zF k) (MF (k+2)) L xs ys h1 h2 h3
theorem JG(k:Nat):sR (dm (k+9)) cNO cBT cBC:=aK (d:=(dE cNO cBT)) rfl rfl λL xs ys h1 h2 h3=>by rw[aE rfl];exact zx (by decide) (Cv k) L xs ys h1 h2 h3
theorem holds(ns:List Int)(hl:ns.length<=63):∃U,cy (dn 37) (dm 37) gam cV dc [] [.scr ns]=some (U,.ok (.bool true)):=pj (cNO:=cNO) (cBT:=cBT) (cBC:=cBC) ⟨(vB 35),(Jx 34),(Cg 31),(Cn 35),(Cp 34),(JC 36),(Cu 30),(JG 28),(Hc 32)⟩ ns
set_option maxHeartbeats 0 in
theorem all_mk{w:World}{h:Heap}{fa:Addr}(P:Params)(X:(kk P).In h)(G:h.Ns mainGlobals mg)(hfa:mg "law"=some (.ref fa)):
  ∃fd:FuncData,(∀(s:Shared)(v:Value),BindsTo s fd ⟨[v],[]⟩ [("_law_script",v)])/\∀base:Heap,(kk P).In base->base.Ns mainGlobals mg->FnOk PySem.Challenge.pw_strata_k60_packed w (kk P) mg base CX0 40 fa fd ["_law_script"] (qw (kk P)):=by
 have e:=hfa.symm.trans (PySem.W.mg_of X G (by kernel_rfl:PySem.W.nsIn (kk P) mainGlobals "law"=some (some (.ref 391))));cases e;have cls:Cls (kk P) cV:=⟨(by kernel_rfl),(by kernel_rfl),(by kernel_rfl),(by kernel_rfl)⟩;have v5:PySem.W.findIn (kk P) (.ref cV) "objects"=some none:=by kernel_rfl
 have v6:PySem.W.findIn (kk P) (.ref cV) "numbers"=some none:=by kernel_rfl
 have T0:=mkT (P:=P) Fm0;have T5:=mkT (P:=P) Fm5;have T1:=mkT (P:=P) Fm1;have T2:=mkT (P:=P) Fm2;have T3:=mkT (P:=P) Fm3;have T4:=mkT (P:=P) Fm4;have defs:∀x d,env.fns.contains x=true->prog.lookup x=some d->uz (kk P) mg env.fns env.cst (some env.c) env.vms env.xcs x d:=λx d hx hl=>bY (Q:=λx d=>env.fns.contains x=true->uz (kk P) mg env.fns env.cst (some env.c) env.vms env.xcs x d) (prog:=prog) ⟨λf=>mkD F8 X G,λf=>mkD F9 X G,λf=>mkD F10 X G,λf=>mkD F17 X G,λf=>mkD F18 X G,λf=>mkD F19 X G,λf=>mkD F27 X G,λf=>mkD F31 X G,λf=>mkD F32 X G,λf=>mkD F33 X G,λf=>mkD F35 X G,λf=>mkD F36 X G,λf=>mkD F37 X G,λf=>mkD F38 X G,λf=>mkD F39 X G,λf=>mkD F40 X G,λf=>mkD F41 X G,λf=>mkD F42 X G,λf=>mkD F43 X G,λf=>mkD F44 X G,λf=>mkD F46 X G,λf=>mkD F48 X G,λf=>mkD F49 X G,λf=>mkD F50 X G,λf=>mkD F51 X G,λf=>mkD F52 X G,λf=>mkD F53 X G,λz=>absurd (Eq.trans (by kernel_rfl:false=env.fns.contains (ai "size")) z) fx0,λz=>absurd (Eq.trans (by kernel_rfl:false=env.fns.contains (ai "kind")) z) fx0,λz=>absurd (Eq.trans (by kernel_rfl:false=env.fns.contains (ai "held")) z) fx0,λz=>absurd (Eq.trans (by kernel_rfl:false=env.fns.contains (ai "content")) z) fx0,trivial⟩ x d hl hx
 have mets:∀c m d,some env.c=some c->env.vms.contains m=true->prog.lookup (ai m)=some d->uA (kk P) env.fns env.cst c env.vms env.xcs m d:=λc m d hc hm hl=>by
  cases hc;exact bY (Q:=λx d=>∀m,x=ai m->env.vms.contains m=true->uA (kk P) env.fns env.cst env.c env.vms env.xcs m d) (prog:=prog) ⟨λf z h=>nv z h,λf z h=>nv z h,λf z h=>nv z h,λf z h=>nv z h,λf z h=>nv z h,λf z h=>nv z h,λf z h=>nv z h,λf z h=>nv z h,λf z h=>nv z h,λf z h=>nv z h,λf z h=>nv z h,λf z h=>nv z h,λf z h=>nv z h,λf z h=>nv z h,λf z h=>nv z h,λf z h=>nv z h,λf z h=>nv z h,λf z h=>nv z h,λf z h=>nv z h,λf z h=>nv z h,λf z h=>nv z h,λf z h=>nv z h,λf z h=>nv z h,λf z h=>nv z h,λf z h=>nv z h,λf z h=>nv z h,λf z h=>nv z h,λm z f=>bD z▸mkV Fm1 T1,λm z f=>bD z▸mkV Fm2 T2,λm z f=>bD z▸mkV Fm3 T3,λm z f=>bD z▸mkV Fm4 T4,trivial⟩ _ d hl m rfl hm
 have defm:∀x d,env.mfs.contains x=true->progM.lookup x=some d->oI (kk P) mg env x d:=λx d hx hl=>bY (Q:=λx d=>env.mfs.contains x=true->oI (kk P) mg env x d) (prog:=progM) ⟨λf=>mkM F14 X G,λf=>mkM F15 X G,λf=>mkM F16 X G,λf=>mkM F20 X G,λf=>mkM F21 X G,λf=>mkM F22 X G,λf=>mkM F26 X G,λf=>mkM F24 X G,λf=>mkM F25 X G,λf=>mkM F30 X G,λf=>mkM F29 X G,λf=>mkM F45 X G,λf=>mkM F47 X G,λf=>mkM F54 X G,λf=>mkM F55 X G,λz=>absurd (Eq.trans (by kernel_rfl:false=env.mfs.contains (ai "kind")) z) fx0,λz=>absurd (Eq.trans (by kernel_rfl:false=env.mfs.contains (ai "held")) z) fx0,λz=>absurd (Eq.trans (by kernel_rfl:false=env.mfs.contains (ai "content")) z) fx0,trivial⟩ x d hl hx
 have metm:∀m d,env.mms.contains m=true->progM.lookup (ai m)=some d->oJ (kk P) env m d:=λm d hm hl=>bY (Q:=λx d=>∀m,x=ai m->env.mms.contains m=true->oJ (kk P) env m d) (prog:=progM) ⟨λf z h=>nv z h,λf z h=>nv z h,λf z h=>nv z h,λf z h=>nv z h,λf z h=>nv z h,λf z h=>nv z h,λf z h=>nv z h,λf z h=>nv z h,λf z h=>nv z h,λf z h=>nv z h,λf z h=>nv z h,λf z h=>nv z h,λf z h=>nv z h,λf z h=>nv z h,λf z h=>nv z h,λm z f=>bD z▸mkW cls Fm2 T2,λm z f=>bD z▸mkW cls Fm3 T3,λm z f=>bD z▸mkW cls Fm4 T4,trivial⟩ _ d hl m rfl hm
 have blt:∀x∈bltNames,mg x=none:=sd (xs:=bltNames) ⟨mn X G,mn X G,mn X G,mn X G,mn X G,mn X G,mn X G,mn X G,mn X G,mn X G,mn X G,mn X G,mn X G,mn X G,mn X G,mn X G,mn X G,trivial⟩;have gl:∀x d,gam.lookup x=some d->∃u v,mg x=some u/\RelV v u/\∀G,Dp (kk P) G d v:=se (prog:=gam) ⟨⟨.int 12 264,.int 12,mo X G,⟨_,rfl⟩,λf=>.int _⟩,⟨.int 2 287,.int 2,mo X G,⟨_,rfl⟩,λf=>.int _⟩,⟨.ref aN,.ref aN,mo X G,rfl,λf=>.fn aN⟩,trivial⟩;have fv:∀x a,gam.lookup x=some (.fn a)->env.mfs.contains x=true:=λx a h=>bY (Q:=λx d=>∀a,d=.fn a->env.mfs.contains x=true) (prog:=gam) ⟨nofun,nofun,λf f=>(by kernel_rfl),trivial⟩ x _ h a rfl
 have INoObject:PySem.W.ExcI (kk P) cNO:=⟨(by kernel_rfl),(by kernel_rfl),(by kernel_rfl),(by kernel_rfl),(by kernel_rfl),(by kernel_rfl)⟩;have IBadTree:PySem.W.ExcI (kk P) cBT:=⟨(by kernel_rfl),(by kernel_rfl),(by kernel_rfl),(by kernel_rfl),(by kernel_rfl),(by kernel_rfl)⟩;have yStrataError:PySem.W.excIn (kk P) cSE bj "ValueError.__new__"=true:=by kernel_rfl
 have yNoObject:PySem.W.excIn (kk P) cNO bj "ValueError.__new__"=true:=by kernel_rfl
 have yBadTree:PySem.W.excIn (kk P) cBT bj "ValueError.__new__"=true:=by kernel_rfl
 have yBadCommit:PySem.W.excIn (kk P) cBC bj "ValueError.__new__"=true:=by kernel_rfl
 have xc:∀t c tab,env.xcs.lookup t=some (c,tab)->XcZ (kk P) mg t c tab:=λt c tab hl=>bY (Q:=λt (p:Nat×List (Nat×Bool))=>XcZ (kk P) mg t p.1 p.2) (prog:=env.xcs) ⟨mkX (mo X G) λe b hq=>(eG hq).elim (λz=>by obtain⟨z1,z2⟩:=z;subst z1 z2;exact⟨INoObject,(by kernel_rfl)⟩) (λz=>by obtain⟨z1,z2⟩:=z;subst z1 z2;exact⟨IBadTree,(by kernel_rfl)⟩),mkX (mo X G) λe b hq=>(eG hq).elim (λz=>by obtain⟨z1,z2⟩:=z;subst z1 z2;exact⟨INoObject,oP _⟩) (λz=>by obtain⟨z1,z2⟩:=z;subst z1 z2;exact⟨IBadTree,(by kernel_rfl)⟩),mkX (mo X G) λe b hq=>(eG hq).elim (λz=>by obtain⟨z1,z2⟩:=z;subst z1 z2;exact⟨INoObject,(by kernel_rfl)⟩) (λz=>by obtain⟨z1,z2⟩:=z;subst z1 z2;exact⟨IBadTree,oP _⟩),trivial⟩ t (c,tab) hl
 have tr:∀(t:Str) x tab,t≠("ValueError":Str)->env.xcs.lookup t=some (x,tab)->∀e,tab.lookup e=some true->∃newId newIdT,PySem.W.excIn (kk P) e bj newId=true/\PySem.W.excIn (kk P) x bj newIdT=true/\fk (kk P) e x=true:=λt x tab hn hl=>bY (Q:=λt (p:Nat×List (Nat×Bool))=>t≠("ValueError":Str)->∀e,p.2.lookup e=some true->∃newId newIdT,PySem.W.excIn (kk P) e bj newId=true/\PySem.W.excIn (kk P) p.1 bj newIdT=true/\fk (kk P) e p.1=true) (prog:=env.xcs) ⟨λf e hq=>(eG hq).elim (λz=>by obtain⟨z1,z2⟩:=z;subst z1;exact⟨_,_,yNoObject,yStrataError,(by kernel_rfl)⟩) (λz=>by obtain⟨z1,z2⟩:=z;subst z1;exact⟨_,_,yBadTree,yStrataError,(by kernel_rfl)⟩),λf e hq=>(eG hq).elim (λz=>by obtain⟨z1,z2⟩:=z;subst z1;exact⟨_,_,yNoObject,yNoObject,(by kernel_rfl)⟩) (λz=>by cases z.2),λf e hq=>(eG hq).elim (λz=>by cases z.2) (λz=>by obtain⟨z1,z2⟩:=z;subst z1;exact⟨_,_,yBadTree,yBadTree,(by kernel_rfl)⟩),trivial⟩ t (x,tab) hl hn
 have B:Base (kk P) mg gam (some env.c) env.xcs:=⟨blt,gl,λc hc=>by cases hc;exact⟨cls,v5⟩,xc⟩;refine⟨PySem.W.fnOf "law" "law" (defArgs (top 55)) (defBody (top 55)) (defScope (top 55)) .none .none .none m4 none (.ref 390) .none,λs v=>.of_eq rfl,λbase f f=>?_⟩;have VZ:yx PySem.Challenge.pw_strata_k60_packed w (kk P) mg base cV "Vault":=⟨⟨_,_,⟨(by kernel_rfl),T0.1,T0.2,(by kernel_rfl)⟩,mo X G,by decide,(Fm0.fn P).binds Fm0.b,BE (Fm0.fn P) (qJ Fm0.s) ti cls v5 v6⟩⟩;have BM:yr PySem.Challenge.pw_strata_k60_packed w (kk P) mg base uZ env:=⟨λX e1 e2 e3 e4 e5 r g Y U p pos=>BF (by rw[e1,e2,e3,e4,e5];exact VZ) r g,λm J h=>by
   obtain⟨h1,rfl⟩:=BN h;obtain rfl:=bD h1;exact⟨⟨⟨_,_,_,cls,T5,(Fm5.fn P).binds Fm5.b,GK (Fm5.fn P) (qJ Fm5.s) tp (mn X G) cls v5 v6⟩⟩,rfl,by decide,by decide⟩,
  λx hx=>if_neg λz=>by
   subst z;exact absurd (Eq.trans (by kernel_rfl:false=env.mfs.contains (ai "put")) hx) fx0,
  λt x hl=>bY (Q:=λt x=>mg t=some (.ref x)/\∃newId initId,ExcBaseFacts "ValueError" newId initId bj/\PySem.W.excIn (kk P) x bj newId=true) (prog:=env.xks) ⟨⟨mo X G,_,_,PySem.F.excBase_ValueError,yBadTree⟩,⟨mo X G,_,_,PySem.F.excBase_ValueError,yNoObject⟩,⟨mo X G,_,_,PySem.F.excBase_ValueError,yBadCommit⟩,trivial⟩ t x hl,tr⟩
 have M:=BA (P:=PySem.Challenge.pw_strata_k60_packed) (w:=w) (base:=base) (Γ:=gam) (prog:=prog) (progM:=progM) B BM fv defs mets defm metm 37;exact BB (qv (F55.fn P) (qJ F55.s) F55.d (by kernel_rfl:jt env [true] (top 55)=some dc) rfl M) rfl λns hl=>by
  obtain⟨U,hU⟩:=holds ns hl;exact⟨U,by rw[aE rfl];exact hU⟩
end K60
open PySem PySem.W PySem.W.X PyProof.Rows K60
set_option maxRecDepth 100000 in
set_option maxHeartbeats 0 in
theorem PySem.Challenge.cw_strata_k60_packed_holds : PySem.Challenge.rw_strata_k60_packed.Holds := by
 w_on
 refine PySem.W.holds_law (by decide +kernel) λsaid=>?_
 refine PySem.W.holds_openX (q:=vw) (loose:=lo) (Xt:=λs=>xlAt vw [] s&&recOk (RowW.records (OpenRow.toRowW PySem.Challenge.rw_strata_k60_packed.row)) s) (XP:=XL vw []) (Yf:=obsZ ads) (Ya:=valZ kk 392 681) (d:=Ei) (kwd:=[]) (N:=5238) hl (λs e=>xl_of s (ax0 e).1) XL.keeps (by kernel_rfl) (by kernel_rfl) (by kernel_rfl) (λs e=>recFacts_of (ax0 e).2) (by rfl) said (by decide +kernel) ⟨rfl,rfl,rfl,rfl,rfl,by decide +kernel⟩ ?hw ?hc
 case hw=>w_witness2
 case hc=>exact L2.Z.walkX (λP=>by kernel_rfl) (L2.Z.walkM (l:=PySem.Challenge.rw_strata_k60_packed) rfl rfl (λw h Y=>Y) λw mg fa h KX G hmg=>K60.all_mk w.params KX G hmg)

end
end

import PyProof.Rows.All
import Wide.All
import OpenK.AllK
import Wide.FinOn
import PySem.Challenge.RW_strata_k52_differences
set_option tactic.hygienic false
set_option genSizeOf false
set_option compiler.extract_closed false
set_option bootstrap.genMatcherCode false
set_option Elab.async false
set_option linter.all false
set_option maxRecDepth 100000
noncomputable section
def zn0{α:Type}{P:Prop}{e:α}(h:none=some e):P:=nomatch h
def gi0{α:Type}{l:List α}{i:Nat}{a:α}:l[i]?=some a->∃h:i<l.length,l[i]=a:=List.getElem?_eq_some_iff.1
def bf0{a:Bool}:¬a=true->a=false:=Bool.eq_false_iff.2
def is0{α:Type}{x:Option α}:x.isSome=true->∃a,x=some a:=Option.isSome_iff_exists.1
def lp0{α:Type}{l:List α}:l≠[]->0<l.length:=List.length_pos_iff.2
def bn0{α:Type}[BEq α][LawfulBEq α]{a b:α}:a≠b->(a==b)=false:=beq_eq_false_iff_ne.2
abbrev wb0:=@PySem.wpAny_bind
abbrev wq0:=@PySem.wpAny_pure
abbrev wh0:=@PySem.wpAny_holding
abbrev fg0:=@PySem.W.Frag
abbrev ml0:=@PySem.mem_of_lookup
abbrev hu0:=@PySem.Heap.get?_update_self
abbrev ez0:=@List.eq_nil_of_length_eq_zero
abbrev ui0:=@PySem.Around.under_plainId
def bx0{α β:Type}{f:α->Option β}{b:β}{x:Option α}:x.bind f=some b->∃a,x=some a/\f a=some b:=Option.bind_eq_some_iff.1
def mx0{α β:Type}{f:α->β}{b:β}{x:Option α}:x.map f=some b->∃a,x=some a/\f a=b:=Option.map_eq_some_iff.1
def ax0{a b:Bool}:(a&&b)=true->a=true/\b=true:=Bool.and_eq_true_iff.1
def fx0:false≠true:=Bool.false_ne_true
def mm0{α β:Type}{f:α->β}{l:List α}{b:β}:b∈l.map f->∃a,a∈l/\f a=b:=List.mem_map.1
def ma0{α:Type}{a:α}{s t:List α}:a∈s++t->a∈s\/a∈t:=List.mem_append.1
def mq0{α:Type}{a b:α}{l:List α}:a∈b::l->a=b\/a∈l:=List.mem_cons.1
abbrev bs0:=@Option.bind_some
abbrev mc0:=@List.mem_cons_of_mem
abbrev ps0:=@PySem.Heap.get?_push_of_some
abbrev ms0:=@List.mem_cons_self
abbrev lm0:=@List.length_map
abbrev ls0:=@List.size_toArray
abbrev ge0:=@List.getElem?_eq_getElem
abbrev hs0:=@PySem.Heap.lt_size
abbrev nr0:=@Nat.le_refl
abbrev nl0:=@Nat.lt_of_lt_of_le
abbrev pz0:=@PySem.Heap.get?_push_size
abbrev lc0:=@List.length_cons
abbrev nt0:=@Nat.le_trans
abbrev gn0:=@List.getElem?_set_ne
abbrev nn0:=@Nat.ne_of_lt
abbrev be0:=@Bool.and_eq_true
abbrev df0:=@decide_eq_false
abbrev dt0:=@decide_eq_true
abbrev od0:=@of_decide_eq_true
abbrev gm0:=@List.getElem?_map
abbrev lk0:=@List.lookup_cons
abbrev mo0:=@Option.map_some
abbrev mk0:=@List.map_cons
abbrev li0:=@Nat.lt_irrefl
abbrev al0:=@Array.length_toList
abbrev la0:=@List.length_append
abbrev mr0:=@List.mem_append_right
abbrev gs0:=@List.getElem?_set_self
abbrev mg0:=@List.mem_of_getElem?
abbrev gl0:=@List.getElem?_append_left
abbrev el0:=@Int.emod_lt_of_pos
abbrev en0:=@Int.emod_nonneg
abbrev lr0:=@List.length_range
namespace L2
open PySem
noncomputable def lamTs:List (Nat×Str):=[(199,"differences.<locals>.<lambda>")]
def FO:(lamTs.map (·.1)).Nodup:=by decide
end L2
namespace L2
open PySem PySem.Spec PyProof.Rows
noncomputable abbrev Key:=Sum Int Str
noncomputable def fY:Key->Value->Bool
 |.inl k,v=>Value.isInt k v
 |.inr x,v=>Value.isStrOf x v
noncomputable def Jc(w:World):Key->Int
 |.inl k=>hashInt k
 |.inr x=>hashStr w x
def keyIs_shape:∀{k:Key}{v:Value},fY k v=true->(∃i t,k=Sum.inl i/\v=Value.int i t)\/(∃x t,k=Sum.inr x/\v=Value.str x t)
 |.inl i,v,h=>by
  obtain⟨t,e⟩:=Value.isInt_shape (k:=i) (v:=v) h;exact .inl ⟨i,t,rfl,e⟩
 |.inr x,v,h=>by
  obtain⟨t,e⟩:=Value.isStrOf_shape (x:=x) (v:=v) h;exact .inr ⟨x,t,rfl,e⟩
def rF(i:Int)(t:Tok):fY (.inl i) (.int i t)=true:=by simp[fY,Value.isInt]
def rG(x:Str)(t:Tok):fY (.inr x) (.str x t)=true:=by simp[fY,Value.isStrOf]
def BN(a b:Int):decide ((Sum.inl a:Key)=Sum.inl b)=(a==b):=by
 by_cases e:a=b
 .subst e;simp
 .have h:¬ (Sum.inl a:Key)=Sum.inl b:=λq=>e (Sum.inl.inj q)
  rw[df0 h];exact (bn0 e).symm
def BO(a b:Str):decide ((Sum.inr a:Key)=Sum.inr b)=decide (a=b):=by
 by_cases e:a=b
 .subst e;simp
 .have h:¬ (Sum.inr a:Key)=Sum.inr b:=λq=>e (Sum.inr.inj q)
  rw[df0 h,df0 e]
def BP(a:Int)(b:Str):decide ((Sum.inl a:Key)=Sum.inr b)=false:=df0 (λq=>nomatch q)
def BQ(a:Str)(b:Int):decide ((Sum.inr a:Key)=Sum.inl b)=false:=df0 (λq=>nomatch q)
noncomputable def mixKind(prog:Program)(w:World):PySem.KeyKind prog w Key where
 is:=fY
 hash:=Jc w
 inj:=λv a b ha hb=>by
  rcases keyIs_shape ha with⟨i,t,rfl,rfl⟩|⟨x,t,rfl,rfl⟩
  .rcases keyIs_shape hb with⟨j,u,rfl,e⟩|⟨y,u,rfl,e⟩
   .injection e with e1 _;rw[e1]
   .exact nomatch e
  .rcases keyIs_shape hb with⟨j,u,rfl,e⟩|⟨y,u,rfl,e⟩
   .exact nomatch e
   .injection e with e1 _;rw[e1]
 byValue:=λk v h=>by
  rcases keyIs_shape h with⟨i,t,rfl,rfl⟩|⟨x,t,rfl,rfl⟩<;>rfl
 pyHash:=λhv h=>by
  rcases keyIs_shape hv with⟨i,t,rfl,rfl⟩|⟨x,t,rfl,rfl⟩
  .exact wpAny_pyHash_int h
  .exact wpAny_pyHash_str h
 eqBool:=λhu hv h=>by
  rcases keyIs_shape hu with⟨i,t,rfl,rfl⟩|⟨x,t,rfl,rfl⟩
  .rcases keyIs_shape hv with⟨j,u,rfl,rfl⟩|⟨y,u,rfl,rfl⟩
   .rw[BN]at h;exact wpAny_eqBool_int h
   .rw[BP]at h;exact SeqAt.EqAt.int_str i t y u _ _ _ _ h
  .rcases keyIs_shape hv with⟨j,u,rfl,rfl⟩|⟨y,u,rfl,rfl⟩
   .rw[BQ]at h;exact SeqAt.EqAt.str_int x t j u _ _ _ _ h
   .rw[BO]at h;exact wpAny_eqBool_str h
 «strs»:=λk x t v h=>by
  rcases keyIs_shape h with⟨i,u,rfl,e⟩|⟨y,u,rfl,e⟩
  .exact nomatch e
  .injection e with e1 _
   subst e1;cases v<;>rfl
def lI(prog:Program)(w:World)(i:Int)(t:Tok):(mixKind prog w).is (.inl i) (.int i t)=true:=rF i t
def lJ(prog:Program)(w:World)(x:Str)(t:Tok):(mixKind prog w).is (.inr x) (.str x t)=true:=rG x t
inductive V where
 |non|bl (b:Bool)|int (i:Int)|str (x:Str)|byt (b:Array UInt8)|flt (b:UInt64)|ref (a:Addr)|ty (n:String)
 deriving DecidableEq
noncomputable def RelV:V->Value->Prop
 |.non,u=>u=Value.none
 |.bl b,u=>u=Value.bool b
 |.int i,u=>∃t,u=Value.int i t
 |.str x,u=>∃t,u=Value.str x t
 |.byt b,u=>∃t,u=Value.bytes b t
 |.flt b,u=>∃t,u=Value.float b t
 |.ref a,u=>u=Value.ref a
 |.ty n,u=>u=Value.type n
noncomputable abbrev Vals:List V->List Value->Prop:=Paired RelV
theorem Vals.length{xs:List V}{us:List Value}(r:Vals xs us):xs.length=us.length:=Paired.length r
theorem Vals.get:∀{xs:List V}{us:List Value}{i:Nat}{x:V},Vals xs us->xs[i]?=some x->∃u,us[i]?=some u/\RelV x u
 |_,_,_,_,.nil,e=>by simp at e
 |_,_,0,_,.cons r _,e=>by simp at e;subst e;exact⟨_,rfl,r⟩
 |_,_,i+1,x,.cons _ t,e=>by
  obtain⟨u,h1,h2⟩:=Vals.get (i:=i) (x:=x) t (by simpa using e);exact⟨u,by simpa using h1,h2⟩
theorem Vals.set{x:V}{u:Value}(r:RelV x u):∀{xs:List V}{us:List Value}(i:Nat),Vals xs us->Vals (xs.set i x) (us.set i u)
 |_,_,_,.nil=>.nil
 |_,_,0,.cons _ t=>.cons r t
 |_,_,i+1,.cons q t=>.cons q (Vals.set r i t)
theorem Vals.append:∀{xs ys:List V}{us ws:List Value},Vals xs us->Vals ys ws->Vals (xs++ys) (us++ws)
 |_,_,_,_,.nil,s=>s
 |_,_,_,_,.cons r t,s=>.cons r (Vals.append t s)
theorem Vals.take:∀{xs:List V}{us:List Value}(n:Nat),Vals xs us->Vals (xs.take n) (us.take n)
 |_,_,0,_=>.nil
 |_,_,_+1,.nil=>.nil
 |_,_,n+1,.cons r t=>.cons r (Vals.take n t)
theorem Vals.drop:∀{xs:List V}{us:List Value}(n:Nat),Vals xs us->Vals (xs.drop n) (us.drop n)
 |_,_,0,r=>r
 |_,_,_+1,.nil=>.nil
 |_,_,n+1,.cons _ t=>Vals.drop n t
def Vals.none_of:∀{xs:List V}{us:List Value}{i:Nat},Vals xs us->xs[i]?=none->us[i]?=none:=λ{xs us i} r e=>by
 have h1:=r.length;have h2:xs.length<=i:=List.getElem?_eq_none_iff.mp e;exact List.getElem?_eq_none_iff.mpr (by omega)
noncomputable def RelO:Option V->Option Value->Prop
 |some v,some u=>RelV v u
 |none,none=>True
 |_,_=>False
noncomputable def KV{Z:Type}:List (Z×V)->List (Z×Value)->Prop:=Paired λ(p:Z×V) (q:Z×Value)=>p.1=q.1/\RelV p.2 q.2
noncomputable def kV:Key->V
 |.inl i=>.int i
 |.inr x=>.str x
inductive HO where
 |lst (xs:List V)
 |tup (xs:List V)
 |dK (kvs:List (Key×V))|dT (kvs:List (List Key×V))
 |set (S:Int->Bool) (n:Nat)
 |ins (C dx:Addr) (fs:List (Str×V))
 |own (x:Addr)
 |xd (fs:List (Str×V))
 |met (f x:Addr)
 |rng (lo hi:Int)
 |frz (o:Obj) (u:HO)
 |tbl (q:Str) (ps:Array Value)
 |ext (L:Heap->Prop)
noncomputable abbrev Hp:=Addr->Option HO
noncomputable def upd(H:Hp)(a:Addr)(o:HO):Hp:=λb=>if b=a then some o else H b
def ae{H:Hp}{a:Addr}{o:HO}:upd H a o a=some o:=by unfold upd;rw[if_pos rfl]
def aa{H:Hp}{a b:Addr}{o:HO}(h:b≠a):upd H a o b=H b:=by unfold upd;rw[if_neg h]
def yh{H:Hp}{a:Addr}{o u:HO}:upd (upd H a o) a u=upd H a u:=by
 funext b;unfold upd;split<;>rfl
def FP{H:Hp}{a b:Addr}{o u:HO}(h:H a=some o)(h':H b=some u)(d:o≠u):a≠b:=by
 intro e;subst e;rw[h]at h';exact d (Option.some.inj h')
def ag{H:Hp}{a b:Addr}{o:HO}(h:H a=some o)(h':H b=none):a≠b:=by
 intro e;subst e;rw[h]at h';cases h'
section
variable (P:Program)(w:World)
noncomputable def ObjOk(H:Hp)(h:Heap)(a:Addr):HO->Prop
 |.lst xs=>xs.length<=sizeLine/\∃(its:List Value)(n:Nat),Vals xs its/\h.get? a=some {cls:=.type "list",data:=.seq its.toArray n}
 |.tup xs=>xs.length<=sizeLine/\∃its:List Value,Vals xs its/\IsTup h a its.toArray
 |.dK kvs=>kvs.length<=sizeLine/\(a==sysModules)=false/\∃vs,KV kvs vs/\h.DictOf (mixKind P w) a vs
 |.dT kvs=>kvs.length<=sizeLine/\(a==sysModules)=false/\∃xs:List (List Key×Addr×Value),
   Paired (λ(p:List Key×V) (q:List Key×Addr×Value)=>p.1=q.1/\H q.2.1=some (.tup (p.1.map kV))/\RelV p.2 q.2.2) kvs xs/\
   ∃o es ep,h.get? a=some o/\o.ExactDict/\o.data=.dict es ep/\es.toList=xs.map (entryOfKey (tupleKind (mixKind P w)))/\(xs.map (·.1)).Nodup
 |.set S n=>h.SetOf (intKind P w) a S n
 |.ins C dx fs=>H dx=some (.own a)/\fs.length<=1000/\dx≠a/\h.get? a=some (PySem.W.instObj C dx)/\
   ∃mA,h.Ns1 dx mA/\(∀f,RelO (fs.lookup f) (mA f))/\PySem.Within mA (fs.map (·.1))
 |.own _=>∃o,h.get? a=some o
 |.xd fs=>∃mA,h.Ns1 a mA/\∀f,RelO (fs.lookup f) (mA f)
 |.rng lo hi=>∃t u v,h.get? a=some {cls:=.type "range",data:=.fields #[.int lo t,.int hi u,.int 1 v]}
 |.frz o u=>h.get? a=some o/\ObjOk H h a u
 |.tbl q ps=>h.get? a=some {cls:=.none,data:=.fields ps}/\TriplesOk ps.toList/\∀pos cv,codeAmong pos ps.toList=some cv->∃c o vs t u,cv=.ref c/\H c=some (.frz o u)/\o.data=.fields vs/\vs[1]?=some (.str q t)
 |.met f x=>h.get? a=some (PySem.W.methodObj (.ref f) (.ref x))
 |.ext L=>L h/\(∃o,h.get? a=some o)/\∀h1 h2:Heap,L h1->(∀o,h1.get? a=some o->h2.get? a=some o)->L h2
def HOk(H:Hp)(h:Heap):Prop:=∀a o,H a=some o->ObjOk P w H h a o
end
section
variable {P:Program}{w:World}{H H':Hp}{h h':Heap}{a:Addr}{o:HO}
theorem ObjOk.lt(x:ObjOk P w H h a o):a<h.objs.size:=by
 cases o with
 |lst xs=>obtain⟨_,_,_,_,e⟩:=x;exact hs0 e
 |tup xs=>obtain⟨_,_,_,p⟩:=x;exact p.lt
 |dK kvs=>obtain⟨_,_,_,_,o,_,_,e,_⟩:=x;exact hs0 e
 |dT kvs=>obtain⟨_,_,_,_,o,_,_,e,_⟩:=x;exact hs0 e
 |set S n=>obtain⟨o,_,_,_,e,_⟩:=x;exact hs0 e
 |ins C dx fs=>obtain⟨_,_,_,e,_⟩:=x;exact hs0 e
 |own y=>obtain⟨_,e⟩:=x;exact hs0 e
 |xd fs=>obtain⟨_,⟨_,_,_,e,_⟩,_⟩:=x;exact hs0 e
 |rng lo hi=>obtain⟨_,_,_,e⟩:=x;exact hs0 e
 |frz ob u=>obtain⟨e,_⟩:=x;exact hs0 e
 |tbl q ps=>exact hs0 x.1
 |met f y=>exact hs0 (show h.get? a=some _ from x)
 |ext L=>obtain⟨_,⟨_,e⟩,_⟩:=x;exact hs0 e
theorem Paired.mapP{α β:Type}{F G:α->β->Prop}:∀{l₁:List α}{l₂:List β},Paired F l₁ l₂->(∀a b,F a b->G a b)->Paired G l₁ l₂
 |_,_,.nil,_=>.nil
 |_,_,.cons r t,f=>.cons (f _ _ r) (Paired.mapP t f)
def ObjOk.stay(x:ObjOk P w H h a o)(k:∀b u,(b=a\/H b=some (.own a))->h.get? b=some u->h'.get? b=some u)
  (ho:∀b,H b=some (.own a)->H' b=some (.own a)) (ht:∀b o,((∃xs,o=.tup xs)\/∃ob u,o=.frz ob u)->H b=some o->H' b=some o):ObjOk P w H' h' a o:=by
 induction o with
 |lst xs=>obtain⟨z,its,n,r,e⟩:=x;exact⟨z,its,n,r,k _ _ (.inl rfl) e⟩
 |tup xs=>obtain⟨z,its,r,ob,e,c⟩:=x;exact⟨z,its,r,ob,k _ _ (.inl rfl) e,c⟩
 |dK kvs=>obtain⟨z,y,vs,r,ob,es,ep,e,c⟩:=x;exact⟨z,y,vs,r,ob,es,ep,k _ _ (.inl rfl) e,c⟩
 |dT kvs=>
  obtain⟨z,y,xs,r,ob,es,ep,e,c⟩:=x;exact⟨z,y,xs,Paired.mapP r λp q z=>⟨z.1,ht _ _ (.inl ⟨_,rfl⟩) z.2.1,z.2.2⟩,ob,es,ep,k _ _ (.inl rfl) e,c⟩
 |set S n=>obtain⟨ob,es,ep,t,e,c⟩:=x;exact⟨ob,es,ep,t,k _ _ (.inl rfl) e,c⟩
 |ins C dx fs=>
  obtain⟨d,z,ne,e,mA,⟨od,es,ep,e2,c⟩,r⟩:=x;exact⟨ho _ d,z,ne,k _ _ (.inl rfl) e,mA,⟨od,es,ep,k _ _ (.inr d) e2,c⟩,r⟩
 |own y=>obtain⟨ob,e⟩:=x;exact⟨ob,k _ _ (.inl rfl) e⟩
 |xd fs=>obtain⟨mA,⟨od,es,ep,e,c⟩,r⟩:=x;exact⟨mA,⟨od,es,ep,k _ _ (.inl rfl) e,c⟩,r⟩
 |rng lo hi=>obtain⟨t,u,v,e⟩:=x;exact⟨t,u,v,k _ _ (.inl rfl) e⟩
 |frz ob u ih=>obtain⟨e,q⟩:=x;exact⟨k _ _ (.inl rfl) e,ih q⟩
 |tbl q ps=>
  obtain⟨e,t,c⟩:=x;refine⟨k a _ (.inl rfl) e,t,λpos cv hc=>?_⟩;obtain⟨c',o,vs,tk,u,rfl,h1,h2⟩:=c pos cv hc;exact⟨c',o,vs,tk,u,rfl,ht _ _ (.inr ⟨_,_,rfl⟩) h1,h2⟩
 |met f y=>
  have e:h.get? a=some (PySem.W.methodObj (.ref f) (.ref y)):=x;show h'.get? a=some (PySem.W.methodObj (.ref f) (.ref y));exact k a _ (.inl rfl) e
 |ext L=>obtain⟨p,⟨o,e⟩,st⟩:=x;exact⟨st _ _ p λo q=>k _ _ (.inl rfl) q,⟨o,k _ _ (.inl rfl) e⟩,st⟩
theorem HOk.lt(x:HOk P w H h)(e:H a=some o):a<h.objs.size:=(x a o e).lt
def HOk.fresh(x:HOk P w H h)(e:h.objs.size<=a):H a=none:=by
 cases q:H a with
 |none=>rfl
 |some u=>exact absurd (nl0 (x.lt q) e) (li0 _)
def HOk.kept(x:HOk P w H h)(k:∀b u,h.get? b=some u->h'.get? b=some u):HOk P w H h':=λa o e=>
 (x a o e).stay (λb u c q=>k b u q) (λc q=>q) λc c c q=>q
def HOk.laid(x:HOk P w H h)(k:∀b u,h.get? b=some u->h'.get? b=some u)(hp:h.objs.size<=a)(new:ObjOk P w (upd H a o) h' a o):HOk P w (upd H a o) h':=λb u e=>by
 have hn:=x.fresh hp
 by_cases hb:b=a
 .subst hb;rw[ae]at e;cases e;exact new
 .rw[aa hb]at e
  exact (x b u e).stay (λc v d q=>k c v q) (λc q=>by rw[aa (ag q hn)];exact q) λc o d q=>by rw[aa (ag q hn)];exact q
end
def Rd(H:Hp)(a:Addr)(u:HO):Prop:=H a=some u\/∃o,H a=some (.frz o u)
def Rd.ok{P:Program}{w:World}{H:Hp}{h:Heap}{a:Addr}{u:HO}(r:Rd H a u)(x:HOk P w H h):ObjOk P w H h a u:=by
 rcases r with r|⟨o,r⟩
 .exact x a u r
 .obtain⟨_,q⟩:=x a _ r
  exact q
noncomputable def Mut:Option HO->Prop
 |some (.lst _)=>True
 |some (.dK _)=>True
 |some (.dT _)=>True
 |some (.set _ _)=>True
 |some (.ins _ _ _)=>True
 |some (.ext _)=>True
 |_=>False
section
variable {P:Program}{w:World}{H:Hp}{h h':Heap}{x e:Addr}{o':HO}
def HOk.write(ok:HOk P w H h)(mu:Mut (H x))(he:e=x\/H e=some (.own x))(k:∀b u,b≠e->h.get? b=some u->h'.get? b=some u)(heo:∃u,h'.get? e=some u)
  (new:ObjOk P w (upd H x o') h' x o'):HOk P w (upd H x o') h':=λb u q=>by
 have nown:∀c y,H c=some (.own y)->c≠x:=λc y r z=>by subst z;rw[r]at mu;exact mu
 have ntup:∀c o,((∃xs,o=HO.tup xs)\/∃ob u,o=HO.frz ob u)->H c=some o->c≠x:=λc o f r z=>by
  subst z;rw[r]at mu;rcases f with⟨_,rfl⟩|⟨_,_,rfl⟩<;>exact mu
 by_cases hb:b=x
 .subst hb;rw[ae]at q;cases q;exact new
 .rw[aa hb]at q
  by_cases hbe:b=e
  .have q':H b=some (.own x):=by
    rcases he with z|z
    .exact absurd (hbe.trans z) hb
    .rw[hbe];exact z
   rw[q]at q';cases q';obtain⟨v,hv⟩:=heo;exact⟨v,by rw[hbe];exact hv⟩
  .refine (ok b u q).stay (λc v hc r=>k c v ?_ r) (λc r=>by rw[aa (nown c b r)];exact r) λc o f r=>by rw[aa (ntup c o f r)];exact r
   rcases hc with rfl|hc
   .exact hbe
   .rintro rfl
    rcases he with z|z
    .exact nown c b hc z
    .rw[hc]at z;cases z;exact hb rfl
end
structure Un(fs ex:List Addr)(H H':Hp)(h h':Heap):Prop where
 keep:∀b o,h.get? b=some o->H b=none->b∉fs->b∉ex->h'.get? b=some o
 slot:∀b o,h.get? b=some o->H b=none->b∈fs->b∉ex->∃sl,h'.get? b=some {o with slots:=sl}
 free:∀b o,h.get? b=some o->H b=none->b∉ex->H' b=none
 there:∀b o,h.get? b=some o->b∉ex->∃o',h'.get? b=some o'
 tups:∀b xs,H b=some (.tup xs)->H' b=some (.tup xs)
 frzs:∀b o u,H b=some (.frz o u)->H' b=some (.frz o u)
 tbls:∀b n ps,H b=some (.tbl n ps)->∃more,H' b=some (.tbl n (ps++more))
section
variable {fs fs' ex ex':List Addr}{H H1 H2:Hp}{h h1 h2 h':Heap}{a x e:Addr}{o:HO}
def Un.any(u:Un fs ex H H1 h h1){b:Addr}{ob:Obj}(q:h.get? b=some ob)(n:H b=none)(hx:b∉ex):∃sl,h1.get? b=some {ob with slots:=sl}:=by
 by_cases hb:b∈fs
 .exact u.slot b ob q n hb hx
 .exact⟨ob.slots,u.keep b ob q n hb hx⟩
def Un.kept(k:∀b u,h.get? b=some u->h'.get? b=some u):Un fs ex H H h h':=
 ⟨λb ob q a a a=>k b ob q,λb ob q a a a=>⟨ob.slots,k b ob q⟩,λa a a n a=>n,λb ob q a=>⟨ob,k b ob q⟩,λa a q=>q,λa a a q=>q,λa a ps q=>⟨#[],by rw[q];simp⟩⟩
def Un.refl:Un fs ex H H h h:=Un.kept λa a q=>q
def Un.laid(k:∀b u,h.get? b=some u->h'.get? b=some u)(hp:h.objs.size<=a)(hn:H a=none):Un fs ex H (upd H a o) h h' where
 keep:=λb u q c c c=>k b u q
 slot:=λb u q c c c=>⟨u.slots,k b u q⟩
 free:=λb u q n c=>by rw[aa (nn0 (nl0 (hs0 q) hp))];exact n
 there:=λb u q c=>⟨u,k b u q⟩
 tups:=λb xs q=>by rw[aa (ag q hn)];exact q
 frzs:=λb u xs q=>by rw[aa (ag q hn)];exact q
 tbls:=λb c ps q=>⟨#[],by rw[aa (ag q hn),q];simp⟩
def Un.write(mu:Mut (H x))(he:e=x\/H e=some (.own x))(k:∀b u,b≠e->h.get? b=some u->h'.get? b=some u)(heo:∃u,h'.get? e=some u):Un fs ex H (upd H x o) h h':=by
 have hx:∀b,H b=none->b≠x:=λb n z=>by subst z;rw[n]at mu;exact mu
 have hb:∀b,H b=none->b≠e:=λb n z=>by
  subst z;rcases he with r|r
  .exact hx b n r
  .rw[n]at r;cases r
 have hm:∀b u,H b=some u->¬ Mut (some u)->b≠x:=λb u q nm z=>by subst z;rw[q]at mu;exact nm mu
 refine⟨λb u q n a a=>k b u (hb b n) q,λb u q n a a=>⟨u.slots,k b u (hb b n) q⟩,λb u q n a=>by rw[aa (hx b n)];exact n,λb u q a=>?_,
  λb xs q=>by rw[aa (hm b _ q λz=>z)];exact q,λb u xs q=>by rw[aa (hm b _ q λz=>z)];exact q,λb a ps q=>⟨#[],by rw[aa (hm b _ q λz=>z),q];simp⟩⟩
 by_cases hbe:b=e
 .subst hbe;exact heo
 .exact⟨u,k b u hbe q⟩
end
noncomputable def trk(h:Heap)(H:Hp):List Addr:=(List.range h.objs.size).filter λa=>(H a).isSome
noncomputable def kj(h:Heap)(H:Hp):Heap:=PySem.W.hideAll h (trk h H)
def rH(h:Heap)(H:Hp):(kj h H).objs.size=h.objs.size:=PySem.W.hideAll_size _ _
def tX{h:Heap}{H:Hp}{b:Addr}{o:Obj}(e:h.get? b=some o)(n:H b=none):(kj h H).get? b=some o:=
 PySem.W.hideAll_get _ e λhm=>by
  have q:(H b).isSome=true:=(List.mem_filter.mp hm).2;rw[n]at q;simp at q
def yi{h:Heap}{H:Hp}{b:Addr}{o:Obj}(e:(kj h H).get? b=some o):h.get? b=some o/\H b=none:=by
 have e':h.get? b=some o:=PySem.W.of_hideAll (trk h H) e;refine⟨e',?_⟩;cases q:H b with
 |none=>rfl
 |some x=>
  have hm:b∈trk h H:=List.mem_filter.mpr ⟨List.mem_range.mpr (hs0 e'),by simp[q]⟩;have z:(kj h H).get? b=none:=PySem.W.hideAll_none (trk h H) hm;rw[z]at e;cases e
noncomputable def yj(g h:Heap)(L:Addr):List (Addr×Obj):=(List.range h.objs.size).filterMap λa=>if a=L\/(g.get? a).isSome=true then none else (h.get? a).map λo=>(a,o)
noncomputable def rest(g h:Heap)(L d:Addr):List (Addr×Obj):=(yj g h L).filter λp=>decide (p.1≠d)
structure Mod(K:fg0)(mg:Str->Option Value)(base:Heap):Prop where
 kin:K.In base
 glob:base.Ns mainGlobals mg
 blt:∃mb,base.Ns builtinsNs mb/\∀x:Str,x≠"__name__"->mb x=bootBuiltins x
 nolimit:base.NoLimit
structure Cx where
 prog:Program
 w:World
 K:fg0
 mg:Str->Option Value
 base:Heap
 A:Around
 N:List Str
 s₀:Shared
 H₀:Hp
 env:Env
 outer:List Env
 stack:List Env
 ex:List Addr
 fn:Str->Bool
 calm:Bool
 pn:List (Addr×Obj)
 xe:Value->Shared->Prop
noncomputable def frs(l:List Env):List Addr:=l.filterMap (·.frame)
noncomputable abbrev Cx.fs(X:Cx):List Addr:=frs X.outer
def Vis(sc:Scope)(x:Str):Prop:=sc.names.lookup x=some .local\/sc.names.lookup x=some .cell\/sc.names.lookup x=some .free
def Loc(sc:Scope)(x:Str):Prop:=sc.names.lookup x=some .local\/sc.names.lookup x=some .cell
def Look(env:Env)(h:Heap)(m:Str->Option Value)(x:Str)(u:Value):Prop:=
 (env.kindOf x=some .local/\m x=some u)\/((env.kindOf x=some .cell\/env.kindOf x=some .free)/\∃c,env.cells.lookup x=some c/\h.IsCell c (some u))
structure Cx.Ok(X:Cx):Prop where
 mod:Mod X.K X.mg X.base
 kind:X.env.scope.kind=.function
 glob:X.env.globals=mainGlobals
 blt:X.env.builtins=builtinsNs
 above:X.s₀.heap.objs.size<=X.env.locals
 inj:∀x y c,X.env.cells.lookup x=some c->X.env.cells.lookup y=some c->x=y
 has:∀x,(X.env.kindOf x=some .cell\/X.env.kindOf x=some .free)->∃c,X.env.cells.lookup x=some c
 cab:∀x c,X.fn x=true->X.env.cells.lookup x=some c->X.s₀.heap.objs.size<=c
 hd:X.calm=true->X.A.handled=none
 frames:X.A.frames=some X.stack
 stk:X.stack=X.outer\/(X.stack=X.env::X.outer/\X.env.frame=some X.env.locals)
 exf:∀b∈X.ex,b≠X.env.locals/\∀x c,X.env.cells.lookup x=some c->c≠b
 bs:∀b o,X.base.get? b=some o->X.s₀.heap.get? b=some o/\X.H₀ b=none
 bsz:X.base.objs.size<=X.s₀.heap.objs.size
 noex:∀b o,X.base.get? b=some o->b∉X.ex
 exfs:∀b∈X.ex,b∉X.fs
 funs:X.s₀.heap.FunFrames X.base X.outer
 frf:∀b∈X.fs,X.H₀ b=none
 tb:∀p∈lamTs,∃ps,X.H₀ p.1=some (.tbl p.2 ps)
structure Inv(X:Cx)(pins:List (Addr×Obj))(σ:List (Option V))(H:Hp)(s:Shared):Prop where
 ok:X.Ok
 os:s.os=X.s₀.os
 bare:AllBare s.gens
 base:Un X.fs X.ex X.H₀ H X.s₀.heap s.heap
 loc:∃m,s.heap.Ns X.env.locals m/\∀(i:Nat)(x:Str)(v:V),X.N[i]?=some x->σ[i]?=some (some v)->Vis X.env.scope x->∃u,RelV v u/\Look X.env s.heap m x u
 cell:∀x c,X.env.cells.lookup x=some c->∃v,s.heap.IsCell c v
 free:H X.env.locals=none
 freeC:∀x c,X.env.cells.lookup x=some c->H c=none
 pin:∀p∈X.pn++pins,s.heap.get? p.1=some p.2/\H p.1=none/\p.1≠X.env.locals/\p.1∉X.fs/\∀v,p.2.data≠.cell v
 hok:HOk X.prog X.w H s.heap
 len:σ.length=X.N.length
section
variable {X:Cx}{pins:List (Addr×Obj)}{σ:List (Option V)}{H H':Hp}{s:Shared}{h':Heap}
def Cx.Ok.nofr(ok:X.Ok){b:Addr}{o:Obj}(e:X.base.get? b=some o):b∉X.fs:=λhb=>by
 have:=(ok.funs.mem hb).1;rw[e]at this;cases this
theorem Inv.bs(I:Inv X pins σ H s):∀b o,X.base.get? b=some o->s.heap.get? b=some o/\H b=none:=λb o e=>
 ⟨I.base.keep b o (I.ok.bs b o e).1 (I.ok.bs b o e).2 (I.ok.nofr e) (I.ok.noex b o e),I.base.free b o (I.ok.bs b o e).1 (I.ok.bs b o e).2 (I.ok.noex b o e)⟩
def Inv.bk(I:Inv X pins σ H s):∀b o,X.base.get? b=some o->s.heap.get? b=some o:=λb o e=>(I.bs b o e).1
theorem Inv.mod(I:Inv X pins σ H s):Mod X.K X.mg X.base:=I.ok.mod
def Inv.kIn(I:Inv X pins σ H s):X.K.In s.heap:=I.ok.mod.kin.keeps I.bk
theorem Inv.nolimit(I:Inv X pins σ H s):s.heap.NoLimit:=I.ok.mod.nolimit.keeps I.bk
theorem Inv.lt(I:Inv X pins σ H s):X.env.locals<s.heap.objs.size:=let ⟨_,hn,_⟩:=I.loc;hn.lt
def Inv.sz(I:Inv X pins σ H s):X.s₀.heap.objs.size<=s.heap.objs.size:=nt0 I.ok.above (Nat.le_of_lt I.lt)
def Inv.nofs(I:Inv X pins σ H s){a:Addr}(h:s.heap.objs.size<=a):a∉X.fs:=λhb=>by
 obtain⟨_,o,ho,_⟩:=I.ok.funs.mem hb;exact absurd (nl0 (hs0 ho) (nt0 I.sz h)) (li0 _)
def Inv.cne(I:Inv X pins σ H s):∀x c,X.env.cells.lookup x=some c->c≠X.env.locals:=λx c e z=>by
 obtain⟨v,o,ho,hd⟩:=I.cell x c e;obtain⟨m,⟨o',es,ep,ho',hd',_⟩,_⟩:=I.loc;rw[z,ho']at ho;cases ho;rw[hd']at hd;cases hd
theorem Inv.funs(I:Inv X pins σ H s):s.heap.FunFrames X.base X.outer:=by
 have all:∀(l:List Env),(∀b∈frs l,b∈X.fs)->X.s₀.heap.FunFrames X.base l->s.heap.FunFrames X.base l:=by
  intro l
  induction l with
  |nil=>intro _ _;trivial
  |cons env r ih=>
   intro hs hl;obtain⟨hk,⟨L,o,hf,hn,ho,hd⟩,hr⟩:=hl;have hL:L∈X.fs:=hs L (by unfold frs;rw[List.filterMap_cons,hf];exact ms0);obtain⟨sl,e⟩:=I.base.slot L o ho (I.ok.frf L hL) hL λz=>I.ok.exfs L z hL
   exact⟨hk,⟨L,_,hf,hn,e,hd⟩,ih (λb hb=>hs b (by unfold frs;rw[List.filterMap_cons,hf];exact mc0 _ hb)) hr⟩
 exact all X.outer (λa hb=>hb) I.ok.funs
theorem Inv.stack(I:Inv X pins σ H s):s.heap.FunFrames X.base X.stack:=by
 rcases I.ok.stk with e|⟨e,hf⟩
 .rw[e];exact I.funs
 .rw[e]
  obtain⟨m,hn,_⟩:=I.loc;refine .cons (by rw[I.ok.kind];decide) hf hn ?_ I.funs;exact Heap.get?_none_of_le (nt0 I.ok.bsz I.ok.above)
def Inv.stkSub(I:Inv X pins σ H s):∀b∈frs X.stack,b∈X.env.locals::X.fs:=λb hb=>by
 rcases I.ok.stk with e|⟨e,hf⟩
 .rw[e]at hb;exact mc0 _ hb
 .rw[e]at hb
  unfold frs at hb;rw[List.filterMap_cons,hf]at hb;exact hb
def Inv.stkFree(I:Inv X pins σ H s):∀b∈frs X.stack,H b=none:=λb hb=>by
 rcases mq0 (I.stkSub b hb)with e|hb
 .rw[e];exact I.free
 .obtain⟨_,o,ho,_⟩:=I.ok.funs.mem hb
  exact I.base.free b o ho (I.ok.frf b hb) λz=>I.ok.exfs b z hb
def Inv.step{g':Array GenState}{t':Nat}{d':Drawn}{ch:List Addr}(I:Inv X pins σ H s)
  (hch:∀b∈ch,(b∈X.ex\/X.s₀.heap.objs.size<=b)/\b≠X.env.locals/\(∀x c,X.env.cells.lookup x=some c->c≠b)/\∀p∈X.pn++pins,p.1≠b)
  (keep:∀b o,b≠X.env.locals->b∉X.fs->b∉ch->s.heap.get? b=some o->H b=none->h'.get? b=some o)
  (slot:∀b o,b≠X.env.locals->b∈X.fs->b∉ch->s.heap.get? b=some o->H b=none->∃sl,h'.get? b=some {o with slots:=sl}) (free:∀b o,b∉ch->s.heap.get? b=some o->H b=none->H' b=none)
  (there:∀b o,b∉ch->s.heap.get? b=some o->∃o',h'.get? b=some o')
  (tups:∀b xs,H b=some (.tup xs)->H' b=some (.tup xs)) (frzs:∀b o u,H b=some (.frz o u)->H' b=some (.frz o u)) (tbls:∀b n ps,H b=some (.tbl n ps)->∃more,H' b=some (.tbl n (ps++more)))
  (ns:∀m,s.heap.Ns X.env.locals m->h'.Ns X.env.locals m) (hok:HOk X.prog X.w H' h') (hg:AllBare g'):
  Inv X pins σ H' {s with heap:=h',gens:=g',drawn:=d',toks:=t'}:=by
 have neL:∀b o,X.s₀.heap.get? b=some o->b≠X.env.locals:=λb o e=>nn0 (nl0 (hs0 e) I.ok.above)
 have neC:∀b o,X.s₀.heap.get? b=some o->b∉X.ex->b∉ch:=λb o e hx hb=>by
  rcases (hch b hb).1 with z|z
  .exact hx z
  .exact absurd (nl0 (hs0 e) z) (li0 _)
 have cellK:∀x c,X.env.cells.lookup x=some c->∀v,s.heap.IsCell c v->h'.IsCell c v:=λx c e v ⟨o,ho,hd⟩=>by
  have nch:c∉ch:=λz=>(hch c z).2.2.1 x c e rfl
  by_cases hc:c∈X.fs
  .obtain⟨sl,q⟩:=slot c o (I.cne x c e) hc nch ho (I.freeC x c e)
   exact⟨_,q,hd⟩
  .exact⟨o,keep c o (I.cne x c e) hc nch ho (I.freeC x c e),hd⟩
 refine⟨I.ok,I.os,hg,⟨λb o e n hb hx=>?_,λb o e n hb hx=>?_,λb o e n hx=>?_,λb o e hx=>?_,λb xs e=>tups b xs (I.base.tups b xs e),λb o xs e=>frzs b o xs (I.base.frzs b o xs e),λb n ps e=>?_⟩,?_,λx c e=>?_,?_,λx c e=>?_,λp hp=>?_,hok,I.len⟩
 .exact keep b o (neL b o e) hb (neC b o e hx) (I.base.keep b o e n hb hx) (I.base.free b o e n hx)
 .obtain⟨sl,e1⟩:=I.base.slot b o e n hb hx
  obtain⟨sl',e2⟩:=slot b _ (neL b o e) hb (neC b o e hx) e1 (I.base.free b o e n hx);exact⟨sl',e2⟩
 .obtain⟨o',e1⟩:=I.base.there b o e hx
  exact free b o' (neC b o e hx) e1 (I.base.free b o e n hx)
 .obtain⟨o',e1⟩:=I.base.there b o e hx
  exact there b o' (neC b o e hx) e1
 .obtain⟨m1,e1⟩:=I.base.tbls b n ps e
  obtain⟨m2,e2⟩:=tbls b n _ e1;exact⟨m1++m2,by rw[e2,Array.append_assoc]⟩
 .obtain⟨m,hn,hl⟩:=I.loc
  refine⟨m,ns m hn,λi x v e1 e2 e3=>?_⟩;obtain⟨u,r,l⟩:=hl i x v e1 e2 e3;refine⟨u,r,?_⟩;rcases l with l|⟨k,c,e,z⟩
  .exact .inl l
  .exact .inr ⟨k,c,e,cellK x c e _ z⟩
 .obtain⟨v,z⟩:=I.cell x c e
  exact⟨v,cellK x c e v z⟩
 .obtain⟨m,⟨o,_,_,ho,_⟩,_⟩:=I.loc
  exact free _ o (λz=>(hch _ z).2.1 rfl) ho I.free
 .obtain⟨v,o,ho,hd⟩:=I.cell x c e
  exact free c o (λz=>(hch c z).2.2.1 x c e rfl) ho (I.freeC x c e)
 .obtain⟨e,n,ne,nf,d⟩:=I.pin p hp
  have nch:p.1∉ch:=λz=>(hch p.1 z).2.2.2 p hp rfl
  exact⟨keep p.1 p.2 ne nf nch e n,free p.1 p.2 nch e n,ne,nf,d⟩
def Inv.un{t':Nat}(I:Inv X pins σ H s)(u:Un X.fs [] H H' s.heap h')(hok:HOk X.prog X.w H' h'):Inv X pins σ H' {s with heap:=h',toks:=t'}:=by
 obtain⟨m,⟨o,es,ep,ho,r⟩,_⟩:=id I.loc;obtain⟨sl,hL⟩:=u.any ho I.free (by simp);exact I.step (g':=s.gens) (d':=s.drawn) (ch:=[]) (λa z=>nomatch z) (λb o a hb a e n=>u.keep b o e n hb (by simp)) (λb o a hb a e n=>u.slot b o e n hb (by simp)) (λb o a e n=>u.free b o e n (by simp)) (λb o a e=>u.there b o e (by simp)) u.tups u.frzs u.tbls (λm' hm=>by
  obtain⟨o',es',ep',ho',r'⟩:=hm;rw[ho]at ho';cases ho';exact⟨_,es',ep',hL,r'⟩) hok I.bare
def Inv.call{g':Array GenState}{t':Nat}{d':Drawn}{ch:List Addr}(I:Inv X pins σ H s)(u:Un (frs X.stack) ch H H' s.heap h')(hok:HOk X.prog X.w H' h')(hg:AllBare g')
  (hch:∀b∈ch,(b∈X.ex\/X.s₀.heap.objs.size<=b)/\b≠X.env.locals/\(∀x c,X.env.cells.lookup x=some c->c≠b)/\∀p∈X.pn++pins,p.1≠b):
  Inv X pins σ H' {s with heap:=h',gens:=g',drawn:=d',toks:=t'}:=by
 obtain⟨m,⟨o,es,ep,ho,r⟩,_⟩:=id I.loc;obtain⟨sl,hL⟩:=u.any ho I.free λz=>(hch _ z).2.1 rfl
 exact I.step (ch:=ch) hch (λb o hL hb hc e n=>u.keep b o e n (λz=>(mq0 (I.stkSub b z)).elim hL hb) hc) (λb o a a hc e n=>u.any e n hc) (λb o hc e n=>u.free b o e n hc) (λb o hc e=>u.there b o e hc) u.tups u.frzs u.tbls (λm' hm=>by
  obtain⟨o',es',ep',ho',r'⟩:=hm;rw[ho]at ho';cases ho';exact⟨_,es',ep',hL,r'⟩) hok hg
def Inv.turned{t':Nat}{it:Addr}(I:Inv X pins σ H s)(k:∀b o,b≠it->s.heap.get? b=some o->h'.get? b=some o)(hn:H it=none)(hL:it≠X.env.locals)
  (h1:it∈X.ex\/X.s₀.heap.objs.size<=it) (h2:∀x c,X.env.cells.lookup x=some c->c≠it) (h3:∀p∈X.pn++pins,p.1≠it):Inv X pins σ H {s with heap:=h',toks:=t'}:=by
 have nit:∀b u,H b=some u->b≠it:=λb u e z=>by rw[z,hn]at e;cases e
 refine I.step (g':=s.gens) (d':=s.drawn) (ch:=[it]) (λb hb=>?_) (λb o a a hc e a=>k b o (λz=>hc (by simp[z])) e) (λb o a a hc e a=>⟨o.slots,k b o (λz=>hc (by simp[z])) e⟩) (λa a a a n=>n)
  (λb o hc e=>⟨o,k b o (λz=>hc (by simp[z])) e⟩) (λa a e=>e) (λa a a e=>e) (λb a ps e=>⟨#[],by rw[e];simp⟩) (λm hm=>?_) (λb u e=>?_) I.bare
 .have e:b=it:=by simpa using hb
  subst e;exact⟨h1,hL,h2,h3⟩
 .obtain⟨o,es,ep,ho,r⟩:=hm
  exact⟨o,es,ep,k _ o (Ne.symm hL) ho,r⟩
 .refine (I.hok b u e).stay (λc v hc q=>k c v ?_ q) (λa q=>q) λa a a q=>q
  rcases hc with z|z
  .rw[z];exact nit b u e
  .exact nit c _ z
def Inv.tok(I:Inv X pins σ H s)(t:Nat):Inv X pins σ H {s with toks:=t}:=I.un (h':=s.heap) (t':=t) Un.refl I.hok
theorem Inv.kept{t':Nat}(I:Inv X pins σ H s)(k:∀b u,s.heap.get? b=some u->h'.get? b=some u):Inv X pins σ H {s with heap:=h',toks:=t'}:=I.un (Un.kept k) (I.hok.kept k)
theorem Inv.laid{a:Addr}{o:HO}{t':Nat}(I:Inv X pins σ H s)(k:∀b u,s.heap.get? b=some u->h'.get? b=some u)(hp:s.heap.objs.size<=a)(new:ObjOk X.prog X.w (upd H a o) h' a o):
  Inv X pins σ (upd H a o) {s with heap:=h',toks:=t'}:=I.un (Un.laid k hp (I.hok.fresh hp)) (I.hok.laid k hp new)
theorem Inv.write{x e:Addr}{o:HO}{t':Nat}(I:Inv X pins σ H s)(mu:Mut (H x))(he:e=x\/H e=some (.own x))(k:∀b u,b≠e->s.heap.get? b=some u->h'.get? b=some u)(heo:∃u,h'.get? e=some u)
  (new:ObjOk X.prog X.w (upd H x o) h' x o):Inv X pins σ (upd H x o) {s with heap:=h',toks:=t'}:=I.un (Un.write mu he k heo) (I.hok.write mu he k heo new)
def Inv.pins_of{pins':List (Addr×Obj)}(I:Inv X pins σ H s)(h:∀p∈pins',s.heap.get? p.1=some p.2/\H p.1=none/\p.1≠X.env.locals/\p.1∉X.fs/\∀v,p.2.data≠.cell v):Inv X pins' σ H s:=
 ⟨I.ok,I.os,I.bare,I.base,I.loc,I.cell,I.free,I.freeC,λp hp=>(ma0 hp).elim (λz=>I.pin p (List.mem_append_left _ z)) (h p),I.hok,I.len⟩
def lK{N:List Str}(hN:N.Nodup){i j:Nat}{x:Str}(a:N[i]?=some x)(b:N[j]?=some x):i=j:=by
 obtain⟨h1,e1⟩:=gi0 a;obtain⟨h2,e2⟩:=gi0 b;exact (List.getElem_inj hN).mp (e1.trans e2.symm)
def store_ok2{M:Model}{A:Around}{E:Value->Shared->Prop}{i:Nat}{x:Str}{v:V}{u:Value}{Q:Unit->Shared->Prop}(I:Inv X pins σ H s)(hN:X.N.Nodup)(hi:X.N[i]?=some x)(hx:Loc X.env.scope x)(r:RelV v u)
  (h:∀s',Inv X pins (σ.set i (some v)) H s'->(∃a,Heap.SameBut a s.heap s'.heap/\(a=X.env.locals\/X.env.cells.lookup x=some a))->Q () s') (hf:X.fn x=true\/X.env.scope.names.lookup x=some .local:=by first|exact .inl rfl|exact .inr rfl|assumption):wpAny M A (storeName X.env x u) Q E s:=by
 obtain⟨m,hn,hl⟩:=id I.loc;have hcls:(X.env.scope.kind==.class||(X.env.scope.kind==.module&&X.env.locals != X.env.globals))=false:=by rw[I.ok.kind];rfl
 have hiσ:i<σ.length:=by rw[I.len];exact (gi0 hi).1
 have cne:=I.cne;have tracked:∀{a:Addr}{h':Heap},(∃o,s.heap.get? a=some o/\H a=none)->Heap.SameBut a s.heap h'->HOk X.prog X.w H h':=λ{a h'} ha hs b ob e=>by
  obtain⟨_,_,hfree⟩:=ha;refine (I.hok b ob e).stay (λc w' hc q=>(hs.2 c ?_).trans q) (λf q=>q) λf f f q=>q
  rintro rfl
  rcases hc with rfl|hc
  .rw[hfree]at e;cases e
  .rw[hfree]at hc;cases hc
 rcases hx with hk|hk
 .refine wpAny_storeName_local hk hn (λh' hn' hs=>?_) hcls
  obtain⟨oL,_,_,hoL,_⟩:=id hn;refine h _ ⟨I.ok,I.os,I.bare,⟨λb o e n hb hx=>?_,λb o e n hb hx=>?_,I.base.free,λb o e hx=>?_,I.base.tups,I.base.frzs,I.base.tbls⟩,⟨_,hn',λj y v' e1 e2 e3=>?_⟩,λy c e=>?_,I.free,I.freeC,λp hp=>?_,tracked ⟨oL,hoL,I.free⟩ hs,by simpa using I.len⟩ ⟨_,hs,.inl rfl⟩
  .exact (hs.2 b (nn0 (nl0 (hs0 e) I.ok.above))).trans (I.base.keep b o e n hb hx)
  .obtain⟨sl,e1⟩:=I.base.slot b o e n hb hx
   exact⟨sl,(hs.2 b (nn0 (nl0 (hs0 e) I.ok.above))).trans e1⟩
  .obtain⟨o',e1⟩:=I.base.there b o e hx
   exact⟨o',(hs.2 b (nn0 (nl0 (hs0 e) I.ok.above))).trans e1⟩
  .by_cases hj:j=i
   .subst hj
    rw[hi]at e1;cases e1;rw[gs0 hiσ]at e2;cases e2;exact⟨u,r,.inl ⟨hk,by simp⟩⟩
   .rw[gn0 (Ne.symm hj)]at e2
    obtain⟨u',r',q⟩:=hl j y v' e1 e2 e3;refine⟨u',r',?_⟩;rcases q with⟨k,e⟩|⟨k,c,e,z⟩
    .refine .inl ⟨k,?_⟩
     have:y≠x:=λe=>hj (lK hN e1 (e▸hi))
     simp[this,e]
    .exact .inr ⟨k,c,e,z.sameBut hs (cne y c e)⟩
  .obtain⟨w',z⟩:=I.cell y c e
   exact⟨w',z.sameBut hs (cne y c e)⟩
  .obtain⟨e,n,ne,nf,d⟩:=I.pin p hp
   exact⟨(hs.2 p.1 ne).trans e,n,ne,nf,d⟩
 .have hfn:X.fn x=true:=by
   rcases hf with z|z
   .exact z
   .rw[z]at hk;cases hk
  obtain⟨c,hc⟩:=I.ok.has x (.inl hk);obtain⟨w',z⟩:=I.cell x c hc;refine wpAny_storeName_cell I.ok.kind hk hc z (λh' hc' hs=>?_);obtain⟨oc,hoc,hocd⟩:=id z;refine h {s with heap:=h'} ⟨I.ok,I.os,I.bare,⟨λb o e n hb hx=>?_,λb o e n hb hx=>?_,I.base.free,λb o e hx=>?_,I.base.tups,I.base.frzs,I.base.tbls⟩,⟨m,hn.sameBut hs (Ne.symm (cne x c hc)),λj y v' e1 e2 e3=>?_⟩,λy c' e=>?_,I.free,I.freeC,λp hp=>?_,tracked ⟨oc,hoc,I.freeC x c hc⟩ hs,by simpa using I.len⟩ ⟨c,hs,.inr hc⟩
  .exact (hs.2 b (nn0 (nl0 (hs0 e) (I.ok.cab x c hfn hc)))).trans (I.base.keep b o e n hb hx)
  .obtain⟨sl,e1⟩:=I.base.slot b o e n hb hx
   exact⟨sl,(hs.2 b (nn0 (nl0 (hs0 e) (I.ok.cab x c hfn hc)))).trans e1⟩
  .obtain⟨o',e1⟩:=I.base.there b o e hx
   exact⟨o',(hs.2 b (nn0 (nl0 (hs0 e) (I.ok.cab x c hfn hc)))).trans e1⟩
  .by_cases hj:j=i
   .subst hj
    rw[hi]at e1;cases e1;rw[gs0 hiσ]at e2;cases e2;exact⟨u,r,.inr ⟨.inl hk,c,hc,hc'⟩⟩
   .rw[gn0 (Ne.symm hj)]at e2
    obtain⟨u',r',q⟩:=hl j y v' e1 e2 e3;refine⟨u',r',?_⟩;rcases q with q|⟨k,c',e,z'⟩
    .exact .inl q
    .refine .inr ⟨k,c',e,z'.sameBut hs ?_⟩
     rintro rfl
     exact hj (lK hN e1 (I.ok.inj _ _ _ e hc▸hi))
  .by_cases hcc:c'=c
   .subst hcc;exact⟨_,hc'⟩
   .obtain⟨w2,z2⟩:=I.cell y c' e
    exact⟨w2,z2.sameBut hs hcc⟩
  .obtain⟨e,n,ne,nf,d⟩:=I.pin p hp
   refine⟨(hs.2 p.1 ?_).trans e,n,ne,nf,d⟩;intro q;rw[q,hoc]at e;have q':oc=p.2:=Option.some.inj e;exact d w' (by rw[<-q'];exact hocd)
def store_ok{M:Model}{A:Around}{E:Value->Shared->Prop}{i:Nat}{x:Str}{v:V}{u:Value}{Q:Unit->Shared->Prop}(I:Inv X pins σ H s)(hN:X.N.Nodup)(hi:X.N[i]?=some x)(hx:Loc X.env.scope x)(r:RelV v u)
  (h:∀s',Inv X pins (σ.set i (some v)) H s'->Q () s') (hf:X.fn x=true\/X.env.scope.names.lookup x=some .local:=by first|exact .inl rfl|exact .inr rfl|assumption):wpAny M A (storeName X.env x u) Q E s:=
 store_ok2 I hN hi hx r (λs' I' a=>h s' I') hf
def Inv.call'{s':Shared}{ch:List Addr}(I:Inv X pins σ H s)(ho:s'.os=s.os)(u:Un (frs X.stack) ch H H' s.heap s'.heap)(hok:HOk X.prog X.w H' s'.heap)(hg:AllBare s'.gens)
  (hch:∀b∈ch,(b∈X.ex\/X.s₀.heap.objs.size<=b)/\b≠X.env.locals/\(∀x c,X.env.cells.lookup x=some c->c≠b)/\∀p∈X.pn++pins,p.1≠b):Inv X pins σ H' s':=by
 obtain⟨h',g',d',t',o'⟩:=s';have e:o'=s.os:=ho;subst e;exact I.call (g':=g') (t':=t') (d':=d') u hok hg hch
end
noncomputable abbrev XK:=Value->Option Addr->Hp->Prop
noncomputable abbrev St:=List (Option V)
noncomputable abbrev VK:=V->Hp->Prop
noncomputable abbrev TE:=St->Hp->VK->Prop
noncomputable abbrev TT:=St->Hp->(Bool->Hp->Prop)->Prop
noncomputable abbrev TA:=St->Hp->(List V->Hp->Prop)->Prop
structure Ends where
 nx:St->Hp->Prop
 rt:VK
 bk:St->Hp->Prop:=λa a=>False
 ct:St->Hp->Prop:=λa a=>False
noncomputable abbrev TS:=Ends->St->Hp->Prop
def EP(X:Cx)(pins:List (Addr×Obj))(σ:St)(Q:VK)(u:Value)(s':Shared):Prop:=∃v H',Inv X pins σ H' s'/\RelV v u/\Q v H'
def TP(X:Cx)(pins:List (Addr×Obj))(σ:St)(Q:Bool->Hp->Prop)(b:Bool)(s':Shared):Prop:=∃H',Inv X pins σ H' s'/\Q b H'
def AP(X:Cx)(pins:List (Addr×Obj))(σ:St)(Q:List V->Hp->Prop)(us:List Value)(s':Shared):Prop:=∃vs H',Inv X pins σ H' s'/\Vals vs us/\Q vs H'
def SP(X:Cx)(pins:List (Addr×Obj))(D:Ends)(f:Flow)(s':Shared):Prop:=
 match f with
 |.next=>∃σ' H',Inv X pins σ' H' s'/\D.nx σ' H'
 |.brk=>∃σ' H',Inv X pins σ' H' s'/\D.bk σ' H'
 |.cont=>∃σ' H',Inv X pins σ' H' s'/\D.ct σ' H'
 |.ret u=>∃v σ' H',Inv X pins σ' H' s'/\RelV v u/\D.rt v H'
def PE(X:Cx)(e:Expr)(t:TE):Prop:=
 ∀(pins:List (Addr×Obj))(s:Shared)(σ:St)(H:Hp)(Q:VK),Inv X pins σ H s->t σ H Q->wpAny (model X.prog X.w) X.A (eval e X.env) (EP X pins σ Q) X.xe s
def PT(X:Cx)(e:Expr)(t:TT):Prop:=
 ∀(pins:List (Addr×Obj))(s:Shared)(σ:St)(H:Hp)(Q:Bool->Hp->Prop),Inv X pins σ H s->t σ H Q->wpAny (model X.prog X.w) X.A (isTrue e X.env (eval e X.env)) (TP X pins σ Q) X.xe s
def PW(X:Cx)(e:Expr)(t:TT):Prop:=
 ∀(whole:Sem Value)(pins:List (Addr×Obj))(s:Shared)(σ:St)(H:Hp)(Q:Bool->Hp->Prop),Inv X pins σ H s->t σ H Q->wpAny (model X.prog X.w) X.A (isTrue e X.env whole) (TP X pins σ Q) X.xe s
variable {α β:Type}{C a b dx f:Addr}{vs xs:List V}{us:List Value}{m name qual x:Str}{u v:Value}{H H':Hp}{P prog:Program}{w:World}{base h h':Heap}{c e tg:Expr}{o:Option Value}{X:Cx}{pins:List (Addr×Obj)}{s s':Shared}{i k t':Nat}{ch fp:List Addr}{N ps:List Str}{A:Around}{E Q:Value->Shared->Prop}{t:TA}{ta te:TE}{σ:St}{apos p pos:Pos}{es:List Expr}{body:List Stmt}{mA mg:Str->Option Value}{fd:FuncData}{scope:Scope}{params:Arguments}{an od:Option Addr}
def PW.pt{t:TT}(h:PW X e t):PT X e t:=h _
def PA(X:Cx)(es:List Expr)(t:TA):Prop:=
 ∀(pos:Pos)(pins:List (Addr×Obj))(s:Shared)(σ:St)(H:Hp)(Q:List V->Hp->Prop),Inv X pins σ H s->t σ H Q->wpAny (model X.prog X.w) X.A (spliced (backTo pos (starEach es X.env))) (AP X pins σ Q) X.xe s
def PS(X:Cx)(st:Stmt)(t:TS):Prop:=
 ∀(pins:List (Addr×Obj))(s:Shared)(σ:St)(H:Hp)(D:Ends),Inv X pins σ H s->t D σ H->wpAny (model X.prog X.w) X.A (exec st X.env) (SP X pins D) X.xe s
def PSs(X:Cx)(st:List Stmt)(t:TS):Prop:=
 ∀(pins:List (Addr×Obj))(s:Shared)(σ:St)(H:Hp)(D:Ends),Inv X pins σ H s->t D σ H->wpAny (model X.prog X.w) X.A (execs st X.env) (SP X pins D) X.xe s
def thn{t:Sem α}{Q Q':α->Shared->Prop}{M:Model}(h:wpAny M A t Q E s)(hQ:∀a s,Q a s->Q' a s):wpAny M A t Q' E s:=wpAny_mono h hQ λb b x=>x
section
def bin{a b:Expr}{tb:TE}(ha:PE X a ta)(hb:PE X b tb){R:V->V->Hp->Prop}(I:Inv X pins σ H s)(h:ta σ H λx H1=>tb σ H1 λy H2=>R x y H2)
   {Q:α->Shared->Prop}{f:Value->Value->Sem α}
  (hf:∀v u s2 x y H2,Inv X pins σ H2 s2->RelV x v->RelV y u->R x y H2->wpAny (model X.prog X.w) X.A (f v u) Q X.xe s2):
  wpAny (model X.prog X.w) X.A (eval a X.env) (λv s₁=>wpAny (model X.prog X.w) X.A (eval b X.env) (λu s₂=>wpAny (model X.prog X.w) X.A (f v u) Q X.xe s₂) X.xe s₁) X.xe s:=by
 refine thn (ha pins s σ H _ I h) λv s1 ⟨x,H1,I1,r1,q1⟩=>?_
 refine thn (hb pins s1 σ H1 _ I1 q1) λu s2 ⟨y,H2,I2,r2,q2⟩=>?_
 exact hf v u s2 x y H2 I2 r1 r2 q2
noncomputable def tY(i:Nat):TE:=λσ H Q=>∃v,σ[i]?=some (some v)/\Q v H
noncomputable def tC(v:V):TE:=λa H Q=>Q v H
def cF(hN:X.N[i]?=some x)(hv:Vis X.env.scope x)(hd:(x==("__debug__":Str))=false:=by decide)(hcd:(x==("__classdict__":Str))=false:=by decide):PE X (.Name x pos) (tY i):=by
 intro pins s σ H Q I h;obtain⟨v,e,h⟩:=h;obtain⟨m,hn,hl⟩:=I.loc;obtain⟨u,r,l⟩:=hl i x v hN e hv;have fin:EP X pins σ Q u s:=⟨v,H,I,r,h⟩;rcases l with⟨hk,hm⟩|⟨hk,c,hc,hcell⟩
 .exact wpAny_Name (wpAny_loadName_local I.ok.kind hk hn hm fin) hd
 .rcases hk with hk|hk
  .exact wpAny_Name (wpAny_loadName_cell I.ok.kind hk hc hcell fin) hd
  .exact wpAny_Name (wpAny_loadName_free I.ok.kind hk hc hcell fin hcd) hd
def BR{i j pos}:PE X (.Constant (.int i) j pos) (tC (.int i)):=λa a a H a I h=>wpAny_Constant_int ⟨.int i,H,I.tok _,⟨_,rfl⟩,h⟩
def FQ{b j pos}:PE X (.Constant (.bool b) j pos) (tC (.bl b)):=λa a a H a I h=>Constant_bool ⟨.bl b,H,I,rfl,h⟩
def BS{j pos}:PE X (.Constant .none j pos) (tC .non):=λa a a H a I h=>Constant_none ⟨.non,H,I,rfl,h⟩
def BU{x j pos}:PE X (.Constant (.str x) j pos) (tC (.str x)):=λa a a H a I h=>Calls.Constant_str ⟨.str x,H,I.tok _,⟨_,rfl⟩,h⟩
def Gl(X:Cx)(x:Str):Prop:=X.env.kindOf x=some .globalImplicit
def ld_glob(I:Inv X pins σ H s)(hg:Gl X x)(hm:X.mg x=some u)(h:Q u s)
  (hd:(x==("__debug__":Str))=false:=by decide):wpAny (model X.prog X.w) X.A (eval (.Name x pos) X.env) Q E s:=
 Calls.Name_function_global I.ok.kind hg (Calls.loadGlobal_global (by rw[I.ok.glob];exact I.mod.glob.keeps I.bk) hm h) hd
def ld_blt(I:Inv X pins σ H s)(hg:Gl X x)(hm:X.mg x=none)(hv:bootBuiltins x=some u)(h:Q u s)
  (hn:x≠"__name__":=by decide) (hd:(x==("__debug__":Str))=false:=by decide):wpAny (model X.prog X.w) X.A (eval (.Name x pos) X.env) Q E s:=by
 obtain⟨mb,h1,h2⟩:=I.mod.blt;exact Calls.Name_function_global I.ok.kind hg (Calls.loadGlobal_builtin (by rw[I.ok.glob];exact I.mod.glob.keeps I.bk) hm (by rw[I.ok.blt];exact h1.keeps I.bk) ((h2 x hn).trans hv) h) hd
def pY{v:V}(hg:Gl X x)(hm:X.mg x=some u)(r:RelV v u)(hd:(x==("__debug__":Str))=false:=by decide):PE X (.Name x pos) (tC v):=
 λa a a H a I h=>ld_glob I hg hm ⟨v,H,I,r,h⟩ hd
def yk{v:V}(hg:Gl X x)(hm:X.mg x=none)(hv:bootBuiltins x=some u)(r:RelV v u)(hn:x≠"__name__":=by decide)(hd:(x==("__debug__":Str))=false:=by decide):PE X (.Name x pos) (tC v):=
 λa a a H a I h=>ld_blt I hg hm hv ⟨v,H,I,r,h⟩ hn hd
variable {a b:Expr}{tb:TE}
variable {tA tB':TT}{rest:List Expr}
noncomputable def Jd(t u:TT):TT:=λσ H Q=>t σ H λc H1=>if c=true then u σ H1 Q else Q false H1
noncomputable def tOr(t u:TT):TT:=λσ H Q=>t σ H λc H1=>if c=true then Q true H1 else u σ H1 Q
noncomputable def Je(t:TT):TT:=λσ H Q=>t σ H λc H1=>Q (!c) H1
def ym(ha:PT X a tA):PW X (.BoolOp .And [a] pos) tA:=by
 intro wh pins s σ H Q I h;refine isTrue_and (thn (ha pins s σ H Q I h) λc s1 e=>?_);cases c with
 |true=>exact isTrue_and_nil e
 |false=>exact e
def BV(ha:PT X a tA):PW X (.BoolOp .Or [a] pos) tA:=by
 intro wh pins s σ H Q I h;refine isTrue_or (thn (ha pins s σ H Q I h) λc s1 e=>?_);cases c with
 |false=>exact isTrue_or_nil e
 |true=>exact e
def tZ(ha:PT X a tA)(hb:PW X (.BoolOp .And (b::rest) pos) tB'):PW X (.BoolOp .And (a::b::rest) pos) (Jd tA tB'):=by
 intro wh pins s σ H Q I h;refine isTrue_and (thn (ha pins s σ H _ I h) λc s1 ⟨H1,I1,q1⟩=>?_);cases c with
 |true=>exact hb wh pins s1 σ H1 Q I1 q1
 |false=>exact⟨H1,I1,q1⟩
def AN(ha:PT X a tA)(hb:PW X (.BoolOp .Or (b::rest) pos) tB'):PW X (.BoolOp .Or (a::b::rest) pos) (tOr tA tB'):=by
 intro wh pins s σ H Q I h;refine isTrue_or (thn (ha pins s σ H _ I h) λc s1 ⟨H1,I1,q1⟩=>?_);cases c with
 |true=>exact⟨H1,I1,q1⟩
 |false=>exact hb wh pins s1 σ H1 Q I1 q1
def BW(ha:PT X a tA):PT X (.UnaryOp .Not a pos) (Je tA):=by
 intro pins s σ H Q I h;exact isTrue_not (ha pins s σ H (λc H1=>Q (!c) H1) I h)
noncomputable def FR(ta tb:TE):TE:=λσ H Q=>ta σ H λx H1=>∃c,x=.bl c/\if c=true then tb σ H1 Q else Q (.bl false) H1
noncomputable def Jf(ta tb:TE):TE:=λσ H Q=>ta σ H λx H1=>∃c,x=.bl c/\if c=true then Q (.bl true) H1 else tb σ H1 Q
noncomputable def FS(ta:TE):TE:=λσ H Q=>ta σ H λx H1=>∃c,x=.bl c/\Q (.bl (!c)) H1
def BX{op}{t:TE}(h:PE X a t):PE X (.BoolOp op [a] pos) t:=λpins s σ H Q I hw=>BoolOp_one (h pins s σ H Q I hw)
def ua(ha:PE X a ta)(hb:PE X (.BoolOp .And (b::rest) pos) tb):PE X (.BoolOp .And (a::b::rest) pos) (FR ta tb):=by
 intro pins s σ H Q I h;refine BoolOp_and (thn (ha pins s σ H _ I h) λv s1 ⟨x,H1,I1,r1,q1⟩=>?_);obtain⟨c,rfl,q1⟩:=q1;cases r1;refine wpAny_truthy_bool ?_;cases c with
 |true=>exact hb pins s1 σ H1 Q I1 q1
 |false=>exact⟨.bl false,H1,I1,rfl,q1⟩
def AO(ha:PE X a ta)(hb:PE X (.BoolOp .Or (b::rest) pos) tb):PE X (.BoolOp .Or (a::b::rest) pos) (Jf ta tb):=by
 intro pins s σ H Q I h;refine BoolOp_or (thn (ha pins s σ H _ I h) λv s1 ⟨x,H1,I1,r1,q1⟩=>?_);obtain⟨c,rfl,q1⟩:=q1;cases r1;refine wpAny_truthy_bool ?_;cases c with
 |false=>exact hb pins s1 σ H1 Q I1 q1
 |true=>exact⟨.bl true,H1,I1,rfl,q1⟩
def BY(ha:PE X a ta):PE X (.UnaryOp .Not a pos) (FS ta):=by
 intro pins s σ H Q I h;refine UnaryOp_ (thn (ha pins s σ H _ I h) λv s1 ⟨x,H1,I1,r1,q1⟩=>?_);obtain⟨c,rfl,q1⟩:=q1;cases r1;exact not_of (wpAny_truthy_bool ⟨.bl (!c),H1,I1,rfl,q1⟩)
noncomputable def tIf(t:TT)(ta tb:TE):TE:=λσ H Q=>t σ H λc H1=>if c=true then ta σ H1 Q else tb σ H1 Q
def lL(hc:PT X c tA)(ha:PE X a ta)(hb:PE X b tb):PE X (.IfExp c a b pos) (tIf tA ta tb):=by
 intro pins s σ H Q I h;refine wpAny_IfExp (thn (hc pins s σ H _ I h) λd s1 ⟨H1,I1,q1⟩=>?_);cases d with
 |true=>exact ha pins s1 σ H1 Q I1 q1
 |false=>exact hb pins s1 σ H1 Q I1 q1
end
def SqL(K:fg0)(H:Hp)(a:Addr)(xs:List V):Prop:=
 Rd H a (.lst xs)\/
  ∃(o:Obj)(its:Array Value)(n:Nat),K.lookup a=some o/\o.cls=.type "list"/\o.dict=none/\o.data=.seq its n/\its.size<=sizeLine/\Vals xs its.toList
def SqT(K:fg0)(H:Hp)(a:Addr)(xs:List V):Prop:=
 Rd H a (.tup xs)\/
  ∃(o:Obj)(its:Array Value)(n:Nat),K.lookup a=some o/\o.cls=.type "tuple"/\o.data=.seq its n/\its.size<=sizeLine/\Vals xs its.toList
noncomputable def Jg:Value->Option V
 |.none=>some .non
 |.bool b=>some (.bl b)
 |.int i _=>some (.int i)
 |.str x _=>some (.str x)
 |.bytes b _=>some (.byt b)
 |.float b _=>some (.flt b)
 |.ref a=>some (.ref a)
 |.type n=>some (.ty n)
 |_=>none
def RelV.abs{x:V}(r:RelV x u):Jg u=some x:=by
 cases x with
 |non=>cases r;rfl
 |bl _=>cases r;rfl
 |int _=>obtain⟨t,rfl⟩:=r;rfl
 |str _=>obtain⟨t,rfl⟩:=r;rfl
 |byt _=>obtain⟨t,rfl⟩:=r;rfl
 |flt _=>obtain⟨t,rfl⟩:=r;rfl
 |ref _=>cases r;rfl
 |ty _=>cases r;rfl
theorem RelV.inj{x y:V}(r:RelV x u)(q:RelV y u):x=y:=Option.some.inj (r.abs.symm.trans q.abs)
theorem Vals.inj:∀{xs ys:List V}{us:List Value},Vals xs us->Vals ys us->xs=ys
 |_,_,_,.nil,.nil=>rfl
 |_,_,_,.cons r t,.cons r' t'=>by rw[r.inj r',Vals.inj t t']
section
variable {ys:List V}
def SqL.of{K:fg0}(h:H a=some (.lst xs)):SqL K H a xs:=.inl (.inl h)
def SqT.of{K:fg0}(h:H a=some (.tup xs)):SqT K H a xs:=.inl (.inl h)
def Inv.list(I:Inv X pins σ H s)(h:SqL X.K H a xs):∃its:List Value,Vals xs its/\PlainL s.heap a its.toArray/\xs.length<=sizeLine:=by
 rcases h with h|⟨o,its,n,hk,hc,hd,hs,hz,r⟩
 .obtain⟨z,its,n,r,e⟩:=h.ok I.hok
  exact⟨its,r,⟨_,n,e,rfl,rfl,rfl⟩,z⟩
 .refine⟨its.toList,r,⟨o,n,I.kIn a o hk,hc,hd,by simpa using hs⟩,?_⟩
  have e:=r.length;simp only[al0]at e;omega
def Inv.tuple(I:Inv X pins σ H s)(h:SqT X.K H a xs):∃its:List Value,Vals xs its/\IsTup s.heap a its.toArray/\xs.length<=sizeLine:=by
 rcases h with h|⟨o,its,n,hk,hc,hs,hz,r⟩
 .obtain⟨z,its,r,p⟩:=h.ok I.hok
  exact⟨its,r,p,z⟩
 .refine⟨its.toList,r,⟨o,I.kIn a o hk,hc,n,by simpa using hs⟩,?_⟩
  have e:=r.length;simp only[al0]at e;omega
def Inv.list_inj(I:Inv X pins σ H s)(h:SqL X.K H a xs)(h':SqL X.K H a ys):xs=ys:=by
 obtain⟨its,r,⟨o,n,e,_,_,d⟩,_⟩:=I.list h;obtain⟨its',r',⟨o',n',e',_,_,d'⟩,_⟩:=I.list h';rw[e]at e';cases e';rw[d]at d';injection d' with d1 _
 have:its=its':=by simpa using congrArg Array.toList d1
 subst this;exact r.inj r'
def Inv.tuple_inj(I:Inv X pins σ H s)(h:SqT X.K H a xs)(h':SqT X.K H a ys):xs=ys:=by
 obtain⟨its,r,⟨o,e,_,n,d⟩,_⟩:=I.tuple h;obtain⟨its',r',⟨o',e',_,n',d'⟩,_⟩:=I.tuple h';rw[e]at e';cases e';rw[d]at d';injection d' with d1 _
 have:its=its':=by simpa using congrArg Array.toList d1
 subst this;exact r.inj r'
end
noncomputable abbrev Cx.wish(X:Cx)(E:Value->Shared->Prop):Cx:={X with xe:=E}
noncomputable abbrev Cx.nox(X:Cx):Cx:=X.wish λa a=>False
theorem Cx.Ok.wish(ok:X.Ok)(E:Value->Shared->Prop):(X.wish E).Ok:=
 ⟨ok.mod,ok.kind,ok.glob,ok.blt,ok.above,ok.inj,ok.has,ok.cab,ok.hd,ok.frames,ok.stk,ok.exf,ok.bs,ok.bsz,ok.noex,ok.exfs,ok.funs,ok.frf,ok.tb⟩
def Cx.Ok.unwish(ok:(X.wish E).Ok):X.Ok:=
 ⟨ok.mod,ok.kind,ok.glob,ok.blt,ok.above,ok.inj,ok.has,ok.cab,ok.hd,ok.frames,ok.stk,ok.exf,ok.bs,ok.bsz,ok.noex,ok.exfs,ok.funs,ok.frf,ok.tb⟩
theorem Inv.wish(I:Inv X pins σ H s)(E:Value->Shared->Prop):Inv (X.wish E) pins σ H s:=⟨I.ok.wish E,I.os,I.bare,I.base,I.loc,I.cell,I.free,I.freeC,I.pin,I.hok,I.len⟩
theorem Inv.unwish(I:Inv (X.wish E) pins σ H s):Inv X pins σ H s:=⟨I.ok.unwish,I.os,I.bare,I.base,I.loc,I.cell,I.free,I.freeC,I.pin,I.hok,I.len⟩
theorem SP.unwish{D:Ends}{f:Flow}(h:SP (X.wish E) pins D f s'):SP X pins D f s':=by
 cases f with
 |next=>obtain⟨σ',H',I,q⟩:=h;exact⟨σ',H',I.unwish,q⟩
 |brk=>obtain⟨σ',H',I,q⟩:=h;exact⟨σ',H',I.unwish,q⟩
 |cont=>obtain⟨σ',H',I,q⟩:=h;exact⟨σ',H',I.unwish,q⟩
 |ret u=>obtain⟨v,σ',H',I,r,q⟩:=h;exact⟨v,σ',H',I.unwish,r,q⟩
theorem PSs.nox{st:List Stmt}{t:TS}(h:PSs X.nox st t):PSs X st t:=λpins s σ H D I hw=>
 wpAny_mono (h pins s σ H D (I.wish _) hw) (λa a q=>q.unwish) λa a z=>False.elim z
section
variable {st:Stmt}{rest:List Stmt}{t u:TS}
noncomputable def FU:TS:=λD σ H=>D.nx σ H
noncomputable def Jh(t u:TS):TS:=λD σ H=>t {D with nx:=u D} σ H
def dD:PSs X [] FU:=λa a σ H a I h=>wpAny_execs_nil ⟨σ,H,I,h⟩
def aI(h1:PS X st t)(h2:PSs X rest u):PSs X (st::rest) (Jh t u):=by
 intro pins s σ H D I h;refine wpAny_execs_cons (thn (h1 pins s σ H {D with nx:=u D} I h) λf s1 q=>?_);cases f with
 |next=>
  obtain⟨σ',H',I',q⟩:=q;exact h2 pins s1 σ' H' D I' q
 |ret v=>exact q
 |brk=>exact q
 |cont=>exact q
def Inv.quiet(I:Inv X pins σ H s):interactive X.env=false:=by simp[interactive,I.ok.kind]
noncomputable def FV(te:TE):TS:=λD σ H=>te σ H λa H1=>D.nx σ H1
def cG(he:PE X e te)(hs:swapsWith e none pos.line X.env=pure false:=by rfl):PS X (.Expr e pos) (FV te):=by
 intro pins s σ H D I h;exact wpAny_Expr_any (thn (he pins s σ H _ I h) λv s1 ⟨x,H1,I1,r1,q1⟩=>⟨σ,H1,I1,q1⟩) I.quiet hs
noncomputable def Ji(te:TE):TS:=λD σ H=>te σ H D.rt
def km(he:PE X e te):PS X (.Return (some e) pos) (Ji te):=by
 intro pins s σ H D I h;exact wpAny_Return_some (thn (he pins s σ H _ I h) λv s1 ⟨x,H1,I1,r1,q1⟩=>⟨x,σ,H1,I1,r1,q1⟩)
noncomputable def Jj(c:TT)(t u:TS):TS:=λD σ H=>c σ H λb H1=>if b=true then t D σ H1 else u D σ H1
def lM{a b:List Stmt}{tc:TT}(hc:PT X c tc)(ha:PSs X a t)(hb:PSs X b u):PS X (.If c a b pos) (Jj tc t u):=by
 intro pins s σ H D I h;refine wpAny_If (thn (hc pins s σ H _ I h) λd s1 ⟨H1,I1,q1⟩=>?_);cases d with
 |true=>exact ha pins s1 σ H1 D I1 q1
 |false=>exact hb pins s1 σ H1 D I1 q1
end
noncomputable abbrev TG:=V->St->Hp->(St->Hp->Prop)->Prop
noncomputable abbrev TGs:=List V->St->Hp->(St->Hp->Prop)->Prop
def PG(X:Cx)(target:Expr)(t:TG):Prop:=
 ∀(pins:List (Addr×Obj))(s:Shared)(σ:St)(H:Hp)(v:V)(u:Value)(Q:St->Hp->Prop),Inv X pins σ H s->RelV v u->t v σ H Q->
  wpAny (model X.prog X.w) X.A (assign target X.env u) (λa s'=>∃σ' H',Inv X pins σ' H' s'/\Q σ' H') X.xe s
def PGs(X:Cx)(ts:List Expr)(t:TGs):Prop:=
 ∀(pins:List (Addr×Obj))(s:Shared)(σ:St)(H:Hp)(vs:List V)(us:List Value)(Q:St->Hp->Prop),Inv X pins σ H s->Vals vs us->t vs σ H Q->
  wpAny (model X.prog X.w) X.A (assignInOrder ((assignEach ts X.env).map (·.2)) us) (λa s'=>∃σ' H',Inv X pins σ' H' s'/\Q σ' H') X.xe s
noncomputable abbrev BZ:=V->V->V->Hp->(Hp->Prop)->Prop
def Cd(X:Cx)(t:BZ):Prop:=
 ∀(pins:List (Addr×Obj))(s:Shared)(σ:St)(H:Hp)(o i v:V)(ov iv u:Value)(Q:Hp->Prop),Inv X pins σ H s->RelV o ov->RelV i iv->RelV v u->t o i v H Q->
  wpAny (model X.prog X.w) X.A (setItem ov iv u) (λa s'=>∃H',Inv X pins σ H' s'/\Q H') X.xe s
noncomputable def AQ(i:Nat):TG:=λv σ H Q=>Q (σ.set i (some v)) H
def pZ(hN:X.N.Nodup)(hi:X.N[i]?=some x)(hx:Loc X.env.scope x)(hf:X.fn x=true\/X.env.scope.names.lookup x=some .local:=by first|exact .inl rfl|exact .inr rfl|assumption):PG X (.Name x pos) (AQ i):=by
 intro pins s σ H v u Q I r h;exact wpAny_assign_Name (store_ok I hN hi hx r (λs' I'=>⟨_,H,I',h⟩) hf)
noncomputable def Jk:TGs:=λvs σ H Q=>vs=[]/\Q σ H
noncomputable def FW(t:TG)(u:TGs):TGs:=λvs σ H Q=>∃v r,vs=v::r/\t v σ H λσ' H'=>u r σ' H' Q
def qa:PGs X [] Jk:=by
 intro pins s σ H vs us Q I r h;obtain⟨e,h⟩:=h;subst e;cases r;exact assignInOrder_nil ⟨σ,H,I,h⟩
def lN{e:Expr}{t:TG}{u:TGs}(h1:PG X e t)(h2:PGs X es u)
  (hs:(assignEach (e::es) X.env).map (·.2)=assign e X.env::(assignEach es X.env).map (·.2):=by rfl):PGs X (e::es) (FW t u):=by
 intro pins s σ H vs us Q I r h;obtain⟨v,vr,e1,h⟩:=h;subst e1;cases r with
 |cons r rr=>
  rw[hs];refine assignInOrder_cons (thn (h1 pins s σ H _ _ _ I r h) λa s1 ⟨σ1,H1,I1,q1⟩=>?_);exact h2 pins s1 σ1 H1 _ _ Q I1 rr q1
noncomputable def Jl(K:fg0)(n:Nat)(t:TGs):TG:=λv σ H Q=>∃a xs,v=.ref a/\SqT K H a xs/\xs.length=n/\t xs σ H Q
def uc{t:TGs}{n:Nat}(hc:X.calm=true)(h:PGs X es t)
  (hn:(assignEach es X.env).length=n:=by rfl) (hst:(assignEach es X.env).findIdx? (·.1)=none:=by rfl):PG X (.Tuple es k pos) (Jl X.K n t):=by
 intro pins s σ H v u Q I r hw;obtain⟨a,xs,e1,hq,hl,hw⟩:=hw;subst e1;cases r;obtain⟨its,rv,ht,hz⟩:=I.tuple hq;refine assign_Tuple_tuple (I.ok.hd hc) ht (by simp[hn,<-hl,rv.length]) hst λh' hx=>?_
 have I1:Inv X pins σ H {s with heap:=h'}:=I.kept (t':=s.toks) λb o e=>hx b o (nn0 (hs0 e)) e
 exact h pins _ σ H xs _ Q I1 (by simpa using rv) hw
noncomputable def Jm(to ti:TE)(t:BZ):TG:=λv σ H Q=>to σ H λo H1=>ti σ H1 λi H2=>t o i v H2 λH3=>Q σ H3
def ud{o i:Expr}{to ti:TE}{t:BZ}(ho:PE X o to)(hi:PE X i ti)(hs:Cd X t)
  (ha:∀v,assign (.Subscript o i pos) X.env v=(do
   let ov ←holding [v] (eval o X.env)
   let iv ←holding [v,ov] (eval i X.env)
   standAt pos
   holding [v,ov,iv] (setItem ov iv v)
   release [v,ov,iv] []):=by intro _;rfl):PG X (.Subscript o i pos) (Jm to ti t):=by
 intro pins s σ H v u Q I r h;rw[ha];refine wb0 (wh0 (thn (ho pins s σ H _ I h) λov s1 ⟨x,H1,I1,r1,q1⟩=>?_));refine wb0 (wh0 (thn (hi pins s1 σ H1 _ I1 q1) λiv s2 ⟨y,H2,I2,r2,q2⟩=>?_));refine wb0 (wpAny_standAt (wb0 (wh0 (thn (hs pins s2 σ H2 x y v ov iv u _ I2 r1 r2 r q2) λa s3 ⟨H3,I3,q3⟩=>?_))));exact wpAny_release ⟨σ,H3,I3,q3⟩
noncomputable def FX(te:TE)(g:TG):TS:=λD σ H=>te σ H λx H1=>g x σ H1 D.nx
def nX{g:TG}(he:PE X e te)(hg:PG X tg g)(hs:swapsWithSole [tg] e pos.line X.env=pure false:=by rfl)(hw:swappedStores [tg] e X.env=pure none:=by rfl)
  (h1:(assignEach [tg] X.env).map (·.2)=[assign tg X.env]:=by rfl):PS X (.Assign [tg] e pos) (FX te g):=by
 intro pins s σ H D I h;refine wpAny_Assign_stores (thn (he pins s σ H _ I h) λv s1 ⟨x,H1,I1,r1,q1⟩=>?_) hs hw;rw[h1];exact thn (hg pins s1 σ H1 x v _ I1 r1 q1) λa s2 q=>q
def kn{pos':Pos}(hN:X.N.Nodup)(hi:X.N[i]?=some x)(hx:Loc X.env.scope x)(he:PE X e te)(hs:swapsWith e (some (.Name x pos')) pos.line X.env=pure false:=by rfl)(hf:X.fn x=true\/X.env.scope.names.lookup x=some .local:=by first|exact .inl rfl|exact .inr rfl|assumption):
  PS X (.Assign [.Name x pos'] e pos) (FX te (AQ i)):=by
 intro pins s σ H D I h;refine wpAny_Assign_Name (thn (he pins s σ H _ I h) λv s1 ⟨y,H1,I1,r1,q1⟩=>?_) hs;exact store_ok I1 hN hi hx r1 (λs2 I2=>⟨_,H1,I2,q1⟩) hf
structure It where
 go:Nat->Hp->Prop
 yld:Nat->Hp->V->Hp->Prop
 stop:Nat->Hp->Prop
def eO(X:Cx)(pins:List (Addr×Obj))(H:Hp)(b:Addr):Prop:=
 H b=none/\b≠X.env.locals/\b∉X.fs/\(b∈X.ex\/X.s₀.heap.objs.size<=b)/\(∀x c,X.env.cells.lookup x=some c->c≠b)/\∀p∈X.pn++pins,p.1≠b
def Inv.fpOk(I:Inv X pins σ H s)(hb:s.heap.objs.size<=b)(hn:H' b=none):eO X pins H' b:=by
 refine⟨hn,Nat.ne_of_gt (nl0 I.lt hb),I.nofs hb,.inr (nt0 I.sz hb),λx c e z=>?_,λp hp z=>?_⟩
 .obtain⟨v,q⟩:=I.cell x c e
  exact absurd (nl0 q.lt (by rw[z];exact hb)) (li0 _)
 .exact absurd (nl0 (hs0 (I.pin p hp).1) (by rw[z];exact hb)) (li0 _)
structure Turn(P:Program)(w:World)(K:fg0)(tg:Expr)(J:It)(fp:List Addr)(it:Addr)(tn:Nat->Heap->Prop):Prop where
 mem:it∈fp
 obj:∀i h,tn i h->∀b∈fp,∃o,h.get? b=some o/\∀v,o.data≠.cell v
 keep:∀i h h',tn i h->(∀b∈fp,∀o,h.get? b=some o->h'.get? b=some o)->tn i h'
 item:∀(X:Cx),X.prog=P->X.w=w->X.K=K->X.calm=true->∀(i:Nat)(pins:List (Addr×Obj))(s:Shared)(σ:St)(H:Hp)(E:Value->Shared->Prop),Inv X pins σ H s->(∀b∈fp,eO X pins H b)->tn i s.heap->J.go i H->
  wpAny (model P w) X.A (pyNext (.ref it)) (λr s1=>∃u,r=some u/\
   wpAny (model P w) X.A (letOwnedTupleGo tg (.ref it) u) (λa s2=>∃x H',Inv X pins σ H' s2/\RelV x u/\J.yld i H x H'/\tn (i+1) s2.heap/\∀b∈fp,H' b=none) E s1) E s
 done:∀(X:Cx),X.prog=P->X.w=w->X.K=K->X.calm=true->∀(i:Nat)(pins:List (Addr×Obj))(s:Shared)(σ:St)(H:Hp)(E:Value->Shared->Prop),Inv X pins σ H s->(∀b∈fp,eO X pins H b)->tn i s.heap->J.stop i H->
  wpAny (model P w) X.A (pyNext (.ref it)) (λr s1=>r=none/\Inv X pins σ H s1) E s
 self:∀(A:Around)(i:Nat)(s:Shared)(Q:Value->Shared->Prop)(E:Value->Shared->Prop),tn i s.heap->Q (.ref it) s->wpAny (model P w) A (pyIter (.ref it)) Q E s
noncomputable abbrev TI:=St->Hp->(It->Hp->Prop)->Prop
def PIE(X:Cx)(pins:List (Addr×Obj))(σ:St)(tg:Expr)(R:It->Hp->Prop)(itv:Value)(s2:Shared):Prop:=
 ∃(it:Addr)(fp:List Addr)(tn:Nat->Heap->Prop)(J:It)(H':Hp),itv=.ref it/\Inv X pins σ H' s2/\Turn X.prog X.w X.K tg J fp it tn/\tn 0 s2.heap/\(∀b∈fp,eO X pins H' b)/\R J H'
def PI(X:Cx)(tg iter:Expr)(wi:TI):Prop:=
 ∀(pins:List (Addr×Obj))(s:Shared)(σ:St)(H:Hp)(R:It->Hp->Prop),Inv X pins σ H s->wi σ H R->
  wpAny (model X.prog X.w) X.A (eval iter X.env) (λv s1=>wpAny (model X.prog X.w) X.A (pyIter v) (PIE X pins σ tg R) X.xe s1) X.xe s
def lO{M:Model}{it:Addr}{o:Obj}{n:String}{vs:Array Value}{Q:Unit->Shared->Prop}(ho:s.heap.get? it=some o)(hc:o.cls=.type n)(hd:o.data=.fields vs)
  (hn:["enumerate","zip","dict_itemiterator","dict_reverseitemiterator","odict_iterator","itertools.zip_longest","itertools.pairwise"].contains n=false) (hQ:Q () s):wpAny M A (letOwnedTupleGo tg (.ref it) u) Q E s:=by
 unfold letOwnedTupleGo;cases tg<;>first
  |exact wq0 hQ
  |(cases u<;>first
    |exact wq0 hQ
    |(refine wb0 (wpAny_load ho ?_)
      rw[hc,hd];show wpAny M A (if (["enumerate","zip","dict_itemiterator","dict_reverseitemiterator","odict_iterator","itertools.zip_longest","itertools.pairwise"].contains n&&vs[0]?==some (rawInt _))=true then _ else _) Q E s;rw[if_neg (by intro h;rw[hn,Bool.false_and]at h;cases h)];exact wq0 hQ))
noncomputable def Itl(K:fg0)(a:Addr):It:=
 ⟨λi H=>∃xs x,SqL K H a xs/\xs[i]?=some x,λi H x H'=>H'=H/\∀xs,SqL K H a xs->xs[i]?=some x,λi H=>∃xs,SqL K H a xs/\xs.length<=i⟩
noncomputable def Itt(K:fg0)(a:Addr):It:=
 ⟨λi H=>∃xs x,SqT K H a xs/\xs[i]?=some x,λi H x H'=>H'=H/\∀xs,SqT K H a xs->xs[i]?=some x,λi H=>∃xs,SqT K H a xs/\xs.length<=i⟩
noncomputable def Itr(lo:Int)(n:Nat):It:=⟨λi a=>i<n,λi H x H'=>H'=H/\x=.int (lo+i),λi a=>n<=i⟩
def rJ{K:fg0}(a it:Addr):Turn P w K tg (Itl K a) [it] it (λi h=>h.IsListIter it a i) where
 mem:=by simp
 obj:=λi h st b hb=>by
  have e:b=it:=by simpa using hb
  subst e;obtain⟨o,e,c,d⟩:=st;exact⟨o,e,λv z=>by rw[d]at z;cases z⟩
 keep:=λi h h' st k=>st.at λo e=>k it (by simp) o e
 item:=by
  intro X hP hw hK hc i pins s σ H E I hf st hg;subst hP hw hK;obtain⟨xs,x,hq,hx⟩:=hg;obtain⟨its,rv,p,hz⟩:=I.list hq;obtain⟨u,hu,ru⟩:=rv.get hx;obtain⟨f0,f1,f2,f3,f4,f5⟩:=hf it (by simp);refine wpAny_pyNext_list_item st p.isList (x:=u) (by simpa using hu) λh' st' sb=>?_
  have I1:Inv X pins σ H {s with heap:=h'}:=I.turned (t':=s.toks) (λb o hb e=>(sb.2 b hb).trans e) f0 f1 f3 f4 f5;obtain⟨o,e,c,d⟩:=id st';exact⟨u,rfl,lO (s:={s with heap:=h'}) e c d (by decide) ⟨x,H,I1,ru,⟨rfl,λys hy=>by rw[I.list_inj hy hq];exact hx⟩,st',λb hb=>(hf b hb).1⟩⟩
 done:=by
  intro X hP hw hK hc i pins s σ H E I hf st hg;subst hP hw hK;obtain⟨xs,hq,hx⟩:=hg;obtain⟨its,rv,p,hz⟩:=I.list hq;obtain⟨f0,f1,f2,f3,f4,f5⟩:=hf it (by simp);have hl:=rv.length;exact wpAny_pyNext_list_end (I.ok.hd hc) st p.isList (by simp;omega) λh' eb=>⟨rfl,I.turned (t':=s.toks) (λb o hb e=>eb b o hb e) f0 f1 f3 f4 f5⟩
 self:=λf f f f f st h=>wpAny_pyIter_listiter st h
def nY{K:fg0}(a it:Addr):Turn P w K tg (Itt K a) [it] it (λi h=>h.IsTupleIter it a i) where
 mem:=by simp
 obj:=λi h st b hb=>by
  have e:b=it:=by simpa using hb
  subst e;obtain⟨o,e,c,d⟩:=st;exact⟨o,e,λv z=>by rw[d]at z;cases z⟩
 keep:=λi h h' st k=>st.at λo e=>k it (by simp) o e
 item:=by
  intro X hP hw hK hc i pins s σ H E I hf st hg;subst hP hw hK;obtain⟨xs,x,hq,hx⟩:=hg;obtain⟨its,rv,p,hz⟩:=I.tuple hq;obtain⟨u,hu,ru⟩:=rv.get hx;obtain⟨f0,f1,f2,f3,f4,f5⟩:=hf it (by simp);refine wpAny_pyNext_tuple_item st (show s.heap.IsTuple a its.toArray from p) (x:=u) (by simpa using hu) λh' st' sb=>?_
  have I1:Inv X pins σ H {s with heap:=h'}:=I.turned (t':=s.toks) (λb o hb e=>(sb.2 b hb).trans e) f0 f1 f3 f4 f5;obtain⟨o,e,c,d⟩:=id st';exact⟨u,rfl,lO (s:={s with heap:=h'}) e c d (by decide) ⟨x,H,I1,ru,⟨rfl,λys hy=>by rw[I.tuple_inj hy hq];exact hx⟩,st',λb hb=>(hf b hb).1⟩⟩
 done:=by
  intro X hP hw hK hc i pins s σ H E I hf st hg;subst hP hw hK;obtain⟨xs,hq,hx⟩:=hg;obtain⟨its,rv,p,hz⟩:=I.tuple hq;obtain⟨f0,f1,f2,f3,f4,f5⟩:=hf it (by simp);have hl:=rv.length;exact wpAny_pyNext_tuple_end (I.ok.hd hc) st (show s.heap.IsTuple a its.toArray from p) (by simp;omega) λh' eb=>⟨rfl,I.turned (t':=s.toks) (λb o hb e=>eb b o hb e) f0 f1 f3 f4 f5⟩
 self:=λf f f f f st h=>wpAny_pyIter_tupleiter st h
def nZ{K:fg0}(it:Addr)(lo:Int)(n:Nat):Turn P w K tg (Itr lo n) [it] it (λi h=>IsRangeIter h it (lo+(i:Nat)*1) ((n:Int)-(i:Nat)) 1) where
 mem:=by simp
 obj:=λi h st b hb=>by
  have e:b=it:=by simpa using hb
  subst e;exact⟨_,st,λv z=>by
   have z':Data.fields _=Data.cell v:=z;cases z'⟩
 keep:=λi h h' st k=>k it (by simp) _ st
 item:=by
  intro X hP hw hK hc i pins s σ H E I hf st hg;subst hP hw hK;obtain⟨f0,f1,f2,f3,f4,f5⟩:=hf it (by simp);have W:=Walks.range (prog:=X.prog) (w:=X.w) (I.ok.hd hc) it lo 1 n;refine W.item i s _ _ hg st λv h' tk hv st' kk=>?_
  obtain⟨t,rfl⟩:=hv;have I1:Inv X pins σ H {s with heap:=h',toks:=tk}:=I.turned (λb o hb e=>kk b o (by simpa using hb) e) f0 f1 f3 f4 f5;refine⟨_,rfl,lO (s:={s with heap:=h',toks:=tk}) (n:="range_iterator") st' rfl rfl (by decide) ⟨.int (lo+i),H,I1,⟨t,?_⟩,⟨rfl,rfl⟩,st',λb hb=>(hf b hb).1⟩⟩;rw[Int.mul_one]
 done:=by
  intro X hP hw hK hc i pins s σ H E I hf st hg;subst hP hw hK;obtain⟨f0,f1,f2,f3,f4,f5⟩:=hf it (by simp);exact wpAny_pyNext_range_end (I.ok.hd hc) st (by have:n<=i:=hg;omega) λh' eb=>⟨rfl,I.turned (t':=s.toks) (λb o hb e=>eb b o hb e) f0 f1 f3 f4 f5⟩
 self:=λa a a a a st h=>wpAny_pyIter_rangeiter st h
noncomputable def FY(K:fg0)(tl:TE):TI:=λσ H R=>tl σ H λx H1=>∃a,x=.ref a/\(∃xs,SqL K H1 a xs)/\R (Itl K a) H1
noncomputable def Jn(K:fg0)(tl:TE):TI:=λσ H R=>tl σ H λx H1=>∃a,x=.ref a/\(∃xs,SqT K H1 a xs)/\R (Itt K a) H1
def qc{l:Expr}{tl:TE}(hl:PE X l tl):PI X tg l (FY X.K tl):=by
 intro pins s σ H R I h;refine thn (hl pins s σ H _ I h) λv s1 ⟨x,H1,I1,r1,q1⟩=>?_
 obtain⟨a,e,⟨xs,hq⟩,q⟩:=q1;subst e;cases r1;obtain⟨its,rv,p,hz⟩:=I1.list hq;refine wpAny_pyIter_list p.isList ?_;refine⟨s1.heap.objs.size,[s1.heap.objs.size],_,_,H1,rfl,I1.kept (t':=s1.toks) λb o e=>ps0 _ e,rJ a _,⟨_,pz0 _ rfl,rfl,rfl⟩,λb hb=>?_,q⟩;have e:b=s1.heap.objs.size:=by simpa using hb
 subst e;exact I1.fpOk (nr0 _) (I1.hok.fresh (nr0 _))
def Cf{l:Expr}{tl:TE}(hl:PE X l tl):PI X tg l (Jn X.K tl):=by
 intro pins s σ H R I h;refine thn (hl pins s σ H _ I h) λv s1 ⟨x,H1,I1,r1,q1⟩=>?_
 obtain⟨a,e,⟨xs,hq⟩,q⟩:=q1;subst e;cases r1;obtain⟨its,rv,p,hz⟩:=I1.tuple hq;refine wpAny_pyIter_tuple (show s1.heap.IsTuple a its.toArray from p) ?_;refine⟨s1.heap.objs.size,[s1.heap.objs.size],_,_,H1,rfl,I1.kept (t':=s1.toks) λb o e=>ps0 _ e,nY a _,⟨_,pz0 _ rfl,rfl,rfl⟩,λb hb=>?_,q⟩;have e:b=s1.heap.objs.size:=by simpa using hb
 subst e;exact I1.fpOk (nr0 _) (I1.hok.fresh (nr0 _))
def ue{R:It->Hp->Prop}{lo hi:Int}{t u v:Tok}{tk:Nat}(I:Inv X pins σ H s)(h1:-(2 ^ 62)<=lo)(h2:lo<2 ^ 62)(h3:-(2 ^ 62)<=hi)(h4:hi<2 ^ 62)
  (q:R (Itr lo (hi-lo).toNat) H):wpAny (model X.prog X.w) X.A (pyIter (.ref s.heap.objs.size)) (PIE X pins σ tg R) E {s with heap:=s.heap.push {cls:=.type "range",data:=.fields #[.int lo t,.int hi u,.int 1 v]},toks:=tk}:=by
 refine wpAny_pyIter_range (IsRange.new ..) (small_one h1 h2 h3 h4) ?_;have I1:Inv X pins σ H {s with heap:=s.heap.push {cls:=.type "range",data:=.fields #[.int lo t,.int hi u,.int 1 v]},toks:=tk}:=I.kept λb o e=>ps0 _ e
 refine⟨(s.heap.push {cls:=.type "range",data:=.fields #[.int lo t,.int hi u,.int 1 v]}).objs.size,[(s.heap.push {cls:=.type "range",data:=.fields #[.int lo t,.int hi u,.int 1 v]}).objs.size],_,_,H,rfl,
  I1.kept (t':=tk) λb o e=>ps0 _ e,nZ _ lo (hi-lo).toNat,?_,λb hb=>?_,q⟩
 .have e1:lo+((0:Nat):Int)*1=lo:=by simp
  have e2:(((hi-lo).toNat:Nat):Int)-((0:Nat):Int)=Builtin.Range.rangeSize lo hi 1:=by rw[rangeSize_one];split<;>omega
  show IsRangeIter _ _ (lo+((0:Nat):Int)*1) ((((hi-lo).toNat:Nat):Int)-((0:Nat):Int)) 1;rw[e1,e2];exact pz0 _ rfl
 .have e:b=(s.heap.push {cls:=.type "range",data:=.fields #[.int lo t,.int hi u,.int 1 v]}).objs.size:=by simpa using hb
  subst e;exact I1.fpOk (nr0 _) (I1.hok.fresh (nr0 _))
noncomputable def FZ(ta:TA):TI:=λσ H R=>ta σ H λvs H1=>∃j:Int,vs=[.int j]/\ -(2 ^ 62)<=j/\j<2 ^ 62/\R (Itr 0 j.toNat) H1
def rK{a:Expr}{ta:TA}(hg:Gl X "range")(hm:X.mg "range"=none)(ha:PA X [a] ta)(hs:starEach [a] X.env=[(false,eval a X.env)]:=by rfl):PI X tg (.Call (.Name "range" p) [a] [] pos) (FZ ta):=by
 intro pins s σ H R I h;refine Call_ (ld_blt I hg hm boot_range (PyProof.Rows.callWith_type1 (thn (ha pos pins s σ H _ I h) λus s1 ⟨vs,H1,I1,r1,q1⟩=>?_) hs rfl));obtain⟨j,e,q1,q2,q⟩:=q1;subst e;cases r1 with
 |cons r rr=>
  cases rr;obtain⟨t,rfl⟩:=r;exact call_range_1 (ue I1 (by omega) (by omega) q1 q2 (by simpa using q))
noncomputable def Jo(wi:TI)(g:TG)(tb:TS):TS:=λD σ H=>wi σ H λJ H1=>∃W:Nat->Nat->St->Hp->Prop,(∃m,W 0 m σ H1)/\∀i m σ H,W i m σ H->
 (J.stop i H/\D.nx σ H)\/(J.go i H/\∃N:St->Hp->Prop,(∀σ' H',N σ' H'->∃m',m'<m/\W (i+1) m' σ' H')/\∀x H',J.yld i H x H'->g x σ H' λσ2 H2=>tb {D with nx:=N,ct:=N,bk:=D.nx} σ2 H2)
noncomputable def gX(fp:List Addr)(h:Heap):List (Addr×Obj):=fp.filterMap λb=>(h.get? b).map λo=>(b,o)
def cH{o:Obj}(hb:b∈fp)(e:h.get? b=some o):(b,o)∈gX fp h:=List.mem_filterMap.mpr ⟨b,hb,by rw[e];rfl⟩
def rL{p:Addr×Obj}(hp:p∈gX fp h):p.1∈fp/\h.get? p.1=some p.2:=by
 obtain⟨b,hb,e⟩:=List.mem_filterMap.mp hp;cases q:h.get? b with
 |none=>rw[q]at e;cases e
 |some o=>
  rw[q]at e;have e':(b,o)=p:=Option.some.inj e;subst e';exact⟨hb,q⟩
def Inv.pinned(I:Inv X pins σ H s)(hf:∀b∈fp,eO X pins H b)(ho:∀b∈fp,∃o,s.heap.get? b=some o/\∀v,o.data≠.cell v):Inv X (pins++gX fp s.heap) σ H s:=
 I.pins_of λp hp=>(ma0 hp).elim (λz=>I.pin p (mr0 _ z)) λz=>by
  obtain⟨hb,e⟩:=rL z;obtain⟨f0,f1,f2,_⟩:=hf p.1 hb;obtain⟨o,e',d⟩:=ho p.1 hb;rw[e]at e';cases e';exact⟨e,f0,f1,f2,d⟩
def Inv.unpinned{pl:List (Addr×Obj)}(I:Inv X (pins++pl) σ H s):Inv X pins σ H s:=I.pins_of λp hp=>I.pin p (mr0 _ (List.mem_append_left _ hp))
def ug{iter:Expr}{wi:TI}{g:TG}{tb:TS}(hp:PassesOwn (model X.prog X.w) X.A X.env X.xe)(hc:X.calm=true)(hi:PI X tg iter wi)(hg:PG X tg g)(hb:PSs X body tb)
  (hs:∀x,foldedSetIterable iter X.env x=pure x:=by intro _;rfl):PS X (.For tg iter body [] pos) (Jo wi g tb):=by
 intro pins s σ H D I h;refine wpAny_For (thn (hi pins s σ H _ I h) λv s1 h1=>thn h1 λitv s2 h2=>?_) hs;obtain⟨it,fp,tn,J,H2,e,I2,T,st2,f2,W,⟨m0,w0⟩,turn⟩:=h2;subst e;have stat:∀{H':Hp},(∀b∈fp,H' b=none)->∀b∈fp,eO X pins H' b:=λhn b hb=>⟨hn b hb,(f2 b hb).2⟩
 refine codeAny_forLoop_any (λn s'=>∃i σ' H',Inv X pins σ' H' s'/\tn i s'.heap/\(∀b∈fp,H' b=none)/\W i n σ' H') ?_ m0 ⟨0,σ,H2,I2,st2,λb hb=>(f2 b hb).1,w0⟩
 rintro n s3 ⟨i,σ3,H3,I3,st3,fr3,w3⟩
 rcases turn i n σ3 H3 w3 with⟨stop,qn⟩|⟨go,N,hN,step⟩
 .refine wpAny_passesOwn hp (thn (T.done X rfl rfl rfl hc i pins s3 σ3 H3 X.xe I3 (stat fr3) st3 stop) λr s4 ⟨hr,I4⟩=>?_)
  subst hr;exact wpAny_execs_nil ⟨σ3,H3,I4,qn⟩
 .refine wpAny_passesOwn hp (thn (T.item X rfl rfl rfl hc i pins s3 σ3 H3 X.xe I3 (stat fr3) st3 go) λr s4 ⟨u,hr,h4⟩=>?_)
  subst hr;refine wpAny_passesOwn hp (thn h4 λa s5 ⟨x,H5,I5,r5,y5,st5,fr5⟩=>?_);have I5':=I5.pinned (stat fr5) (T.obj _ _ st5);refine wpAny_passesOwn hp (thn (hg _ s5 σ3 H5 x u _ I5' r5 (step x H5 y5)) λa s6 ⟨σ6,H6,I6,q6⟩=>?_);refine wpAny_passesOwn hp (thn (hb _ s6 σ6 H6 _ I6 q6) λf s7 q7=>?_);have again:∀{σ7:St}{H7:Hp},Inv X (pins++gX fp s5.heap) σ7 H7 s7->N σ7 H7->∃m,m<n/\∃i σ' H',Inv X pins σ' H' s7/\tn i s7.heap/\(∀b∈fp,H' b=none)/\W i m σ' H':=λ{σ7 H7} I7 n7=>by
   obtain⟨m',hm,w7⟩:=hN σ7 H7 n7;refine⟨m',hm,i+1,σ7,H7,I7.unpinned,T.keep _ _ _ st5 λb hb o e=>(I7.pin (b,o) (mr0 _ (mr0 _ (cH hb e)))).1,λb hb=>?_,w7⟩;obtain⟨o,e,d⟩:=T.obj _ _ st5 b hb;exact (I7.pin (b,o) (mr0 _ (mr0 _ (cH hb e)))).2.1
  cases f with
  |next=>obtain⟨σ7,H7,I7,n7⟩:=q7;exact again I7 n7
  |cont=>obtain⟨σ7,H7,I7,n7⟩:=q7;exact again I7 n7
  |brk=>obtain⟨σ7,H7,I7,q7⟩:=q7;exact⟨σ7,H7,I7.unpinned,q7⟩
  |ret v=>obtain⟨x7,σ7,H7,I7,r7,q7⟩:=q7;exact⟨x7,σ7,H7,I7.unpinned,r7,q7⟩
noncomputable abbrev R2:=V->V->Hp->VK->Prop
def OpR(X:Cx)(f:Value->Value->Sem Value)(r:R2):Prop:=
 ∀(pins:List (Addr×Obj))(s:Shared)(σ:St)(H:Hp)(x y:V)(v u:Value)(Q:VK),Inv X pins σ H s->RelV x v->RelV y u->r x y H Q->
  wpAny (model X.prog X.w) X.A (f v u) (EP X pins σ Q) X.xe s
def UnR(X:Cx)(f:Value->Sem Value)(r:V->Hp->VK->Prop):Prop:=
 ∀(pins:List (Addr×Obj))(s:Shared)(σ:St)(H:Hp)(x:V)(v:Value)(Q:VK),Inv X pins σ H s->RelV x v->r x H Q->
  wpAny (model X.prog X.w) X.A (f v) (EP X pins σ Q) X.xe s
def aW(X:Cx)(f:Value)(r:List V->Hp->VK->Prop):Prop:=
 ∀(pins:List (Addr×Obj))(s:Shared)(σ:St)(H:Hp)(xs:List V)(us:List Value)(Q:VK),Inv X pins σ H s->Vals xs us->r xs H Q->
  wpAny (model X.prog X.w) X.A (call f us) (EP X pins σ Q) X.xe s
def Jp(X:Cx)(r:V->Hp->(Bool->Hp->Prop)->Prop):Prop:=
 ∀(pins:List (Addr×Obj))(s:Shared)(σ:St)(H:Hp)(x:V)(v:Value)(Q:Bool->Hp->Prop),Inv X pins σ H s->RelV x v->r x H Q->
  wpAny (model X.prog X.w) X.A (truthy v) (TP X pins σ Q) X.xe s
noncomputable def tOp(r:R2)(ta tb:TE):TE:=λσ H Q=>ta σ H λx H1=>tb σ H1 λy H2=>r x y H2 Q
noncomputable def tUn(r:V->Hp->VK->Prop)(ta:TE):TE:=λσ H Q=>ta σ H λx H1=>r x H1 Q
noncomputable def rI(C:Int->Int->Prop)(g:Int->Int->V):R2:=λx y H Q=>∃i j,x=.int i/\y=.int j/\C i j/\Q (g i j) H
noncomputable def rI0(g:Int->Int->V):R2:=λx y H Q=>∃i j,x=.int i/\y=.int j/\Q (g i j) H
noncomputable def rU(g:Int->V):V->Hp->VK->Prop:=λx H Q=>∃i,x=.int i/\Q (g i) H
section
variable {a b:Expr}{tb tc:TE}
def binT(ha:PE X a ta)(hb:PE X b tb){R:V->V->Hp->Prop}(I:Inv X pins σ H s)
  (h:ta σ H λx H1=>tb σ H1 λy H2=>R x y H2)  {f:Value->Value->Sem Value}
  (hf:∀v u s2 x y H2,Inv X pins σ H2 s2->RelV x v->RelV y u->R x y H2->wpAny (model X.prog X.w) X.A (f v u) Q X.xe s2):
  wpAny (model X.prog X.w) X.A (eval a X.env) (λv s₁=>wpAny (model X.prog X.w) X.A (eval b X.env) (λu s₂=>wpAny (model X.prog X.w) X.A (f v u) Q X.xe s₂) X.xe s₁) X.xe s:=by
 refine thn (ha pins s σ H _ I h) λv s1 ⟨x,H1,I1,r1,q1⟩=>?_
 refine thn (hb pins s1 σ H1 _ I1 q1) λu s2 ⟨y,H2,I2,r2,q2⟩=>?_
 exact hf v u s2 x y H2 I2 r1 r2 q2
def AR{op:Operator}{r:R2}(ho:OpR X (binaryOp op) r)(ha:PE X a ta)(hb:PE X b tb):PE X (.BinOp a op b pos) (tOp r ta tb):=by
 intro pins s σ H Q I h;exact wpAny_BinOp (binT ha hb I h λv u s2 x y H2 I2 rx ry q=>ho pins s2 σ H2 x y v u Q I2 rx ry q)
def Ga{op:UnaryOp}{r:V->Hp->VK->Prop}(ho:UnR X (unaryOp op) r)(ha:PE X a ta):PE X (.UnaryOp op a pos) (tUn r ta):=by
 intro pins s σ H Q I h;exact UnaryOp_ (thn (ha pins s σ H _ I h) λv s1 ⟨x,H1,I1,r1,q1⟩=>ho pins s1 σ H1 x v Q I1 r1 q1)
def opI{f:Value->Value->Sem Value}{C:Int->Int->Prop}{g:Int->Int->Int}
  (rule:∀(i j:Int)(t u:Tok)(s:Shared)(Q:Value->Shared->Prop)(E:Value->Shared->Prop),C i j->Q (.int (g i j) s.toks) {s with toks:=s.toks+1}->wpAny (model X.prog X.w) X.A (f (.int i t) (.int j u)) Q E s):
  OpR X f (rI C λi j=>.int (g i j)):=by
 intro pins s σ H x y v u Q I rx ry h;obtain⟨i,j,rfl,rfl,hc,q⟩:=h;obtain⟨t,rfl⟩:=rx;obtain⟨t',rfl⟩:=ry;exact rule i j t t' s _ _ hc ⟨.int (g i j),H,I.tok _,⟨_,rfl⟩,q⟩
def Gc{f:Value->Value->Sem Value}{g:Int->Int->Int}
  (rule:∀(i j:Int)(t u:Tok)(s:Shared)(Q:Value->Shared->Prop)(E:Value->Shared->Prop),Q (.int (g i j) s.toks) {s with toks:=s.toks+1}->wpAny (model X.prog X.w) X.A (f (.int i t) (.int j u)) Q E s):
  OpR X f (rI0 λi j=>.int (g i j)):=by
 intro pins s σ H x y v u Q I rx ry h;obtain⟨i,j,rfl,rfl,q⟩:=h;obtain⟨t,rfl⟩:=rx;obtain⟨t',rfl⟩:=ry;exact rule i j t t' s _ _ ⟨.int (g i j),H,I.tok _,⟨_,rfl⟩,q⟩
def Cg{f:Value->Value->Sem Value}{g:Int->Int->Bool}
  (rule:∀(i j:Int)(t u:Tok)(s:Shared)(Q:Value->Shared->Prop)(E:Value->Shared->Prop),Q (.bool (g i j)) s->wpAny (model X.prog X.w) X.A (f (.int i t) (.int j u)) Q E s):
  OpR X f (rI0 λi j=>.bl (g i j)):=by
 intro pins s σ H x y v u Q I rx ry h;obtain⟨i,j,rfl,rfl,q⟩:=h;obtain⟨t,rfl⟩:=rx;obtain⟨t',rfl⟩:=ry;exact rule i j t t' s _ _ ⟨.bl (g i j),H,I,rfl,q⟩
def Jq(i j:Int):Prop:=0<j/\j<1073741824
def CMul(i j:Int):Prop:=(-(2 ^ 64)<i/\i<2 ^ 64)\/(-(2 ^ 64)<j/\j<2 ^ 64)
def CMul.ok{i j:Int}(h:CMul i j):IntMulOk i j:=by
 rcases h with⟨h1,h2⟩|⟨h1,h2⟩
 .exact .of_left (intBits_le_64 h1 h2)
 .exact .of_right (intBits_le_64 h1 h2)
def Cj:OpR X (binaryOp .Add) (rI0 λi j=>.int (i+j)):=Gc λa a a a a a a q=>add_int q
def Ck:OpR X (binaryOp .Sub) (rI0 λi j=>.int (i-j)):=Gc λa a a a a a a q=>sub_int q
def op_mul:OpR X (binaryOp .Mult) (rI CMul λi j=>.int (i*j)):=opI λa a a a a a a hc q=>mul_int q hc.ok
def op_fdiv:OpR X (binaryOp .FloorDiv) (rI Jq λi j=>.int (i / j)):=opI λi j a a a a a hc q=>by
 have h1:(0:Int)<j:=hc.1;have h2:j<1073741824:=hc.2;exact floordiv_int (by omega) (by rw[Int.fdiv_eq_ediv_of_nonneg i (by omega)];exact q) (.inl (PyProof.noPylong_small (by omega)))
def op_mod:OpR X (binaryOp .Mod) (rI (λa j=>0<j) λi j=>.int (i % j)):=opI λi j a a a a a hc q=>by
 have h1:(0:Int)<j:=hc;exact mod_int' (by omega) (by rw[Int.fmod_eq_emod_of_nonneg i (by omega)];exact q)
def unI{f:Value->Sem Value}{g:Int->Int}
  (rule:∀(i:Int)(t:Tok)(s:Shared)(Q:Value->Shared->Prop)(E:Value->Shared->Prop),Q (.int (g i) s.toks) {s with toks:=s.toks+1}->wpAny (model X.prog X.w) X.A (f (.int i t)) Q E s):
  UnR X f (rU λi=>.int (g i)):=by
 intro pins s σ H x v Q I rx h;obtain⟨i,rfl,q⟩:=h;obtain⟨t,rfl⟩:=rx;exact rule i t s _ _ ⟨.int (g i),H,I.tok _,⟨_,rfl⟩,q⟩
def Cn:UnR X (unaryOp .USub) (rU λi=>.int (-i)):=unI λa a a a a q=>neg_int q
end
section
variable {a b:Expr}{tb tc:TE}
def bF{Q:VK}{k k':Bool}(I:Inv X pins σ H s)(q:Q (.bl k) H)(e:k=k'):EP X pins σ Q (.bool k') s:=by
 subst e;exact⟨.bl k,H,I,rfl,q⟩
def Gd:OpR X (compareOp .Lt) (rI0 λi j=>.bl (decide (i<j))):=Cg λa a a a a a a q=>lt_int q
def Ge:OpR X (compareOp .LtE) (rI0 λi j=>.bl (decide (i<=j))):=Cg λa a a a a a a q=>le_int q
def Gf:OpR X (compareOp .Gt) (rI0 λi j=>.bl (decide (j<i))):=Cg λa a a a a a a q=>gt_int q
def rM:OpR X (compareOp .Lt) (λx y H Q=>∃i j,x=.str i/\y=.str j/\Q (.bl (decide (i.cps.toList<j.cps.toList))) H):=by
 intro pins s σ H x y v u Q I rx ry h;obtain⟨i,j,rfl,rfl,q⟩:=h;obtain⟨t,rfl⟩:=rx;obtain⟨t',rfl⟩:=ry;exact lt_str (bF I q rfl)
def rN:OpR X (compareOp .In) (λx y H Q=>∃i j,x=.str i/\y=.str j/\Q (.bl (!(Builtin.Str.occurrences j i 0 j.length 1).isEmpty)) H):=by
 intro pins s σ H x y v u Q I rx ry h;obtain⟨i,j,rfl,rfl,q⟩:=h;obtain⟨t,rfl⟩:=rx;obtain⟨t',rfl⟩:=ry;exact in_str (bF I q rfl)
def Cp:OpR X (compareOp .Is) (λx y H Q=>y=.non/\Q (.bl (decide (x=.non))) H):=by
 intro pins s σ H x y v u Q I rx ry h;obtain⟨rfl,q⟩:=h;cases ry;refine is_none_gen (bF I q ?_);cases x<;>first
  |(cases rx;rfl)
  |(obtain⟨t,rfl⟩:=rx;rfl)
def yn:OpR X (compareOp .IsNot) (λx y H Q=>y=.non/\Q (.bl (!decide (x=.non))) H):=by
 intro pins s σ H x y v u Q I rx ry h;obtain⟨rfl,q⟩:=h;cases ry;refine isnot_none_gen (bF I q ?_);cases x<;>first
  |(cases rx;rfl)
  |(obtain⟨t,rfl⟩:=rx;rfl)
def ko{op:CmpOp}{r:R2}(ho:OpR X (compareOp op) r)(ha:PE X a ta)(hb:PE X b tb)(hm:behindInMarks op b=false):PE X (.Compare a [op] [b] pos) (tOp r ta tb):=by
 intro pins s σ H Q I h;exact wpAny_Compare1 (binT ha hb I h λv u s2 x y H2 I2 rx ry q=>ho pins s2 σ H2 x y v u Q I2 rx ry q) hm
noncomputable def AS(t:TE):TT:=λσ H Q=>t σ H λx H'=>∃k,x=.bl k/\Q k H'
def qd{op:CmpOp}{r:R2}(ho:OpR X (compareOp op) r)(ha:PE X a ta)(hb:PE X b tb)(hm:behindInMarks op b=false):PT X (.Compare a [op] [b] pos) (AS (tOp r ta tb)):=by
 intro pins s σ H Q I h;refine wpAny_isTrue_Compare1 (thn (ha pins s σ H _ I h) λv s1 ⟨x,H1,I1,r1,q1⟩=>thn (hb pins s1 σ H1 _ I1 q1) λu s2 ⟨y,H2,I2,r2,q2⟩=>
  thn (ho pins s2 σ H2 x y v u _ I2 r1 r2 q2) λc s3 ⟨z,H3,I3,r3,k,e,q3⟩=>?_) hm
 subst e;cases r3;exact wpAny_truthy_bool ⟨H3,I3,q3⟩
noncomputable def oa(r r':R2)(ta tb tc:TE):TE:=λσ H Q=>ta σ H λx H1=>tb σ H1 λy H2=>r x y H2 λz H3=>∃k,z=.bl k/\
 (if k=true then tc σ H3 λw' H4=>r' y w' H4 Q else Q (.bl false) H3)
def uh{op op':CmpOp}{r r':R2}(ho:OpR X (compareOp op) r)(ho':OpR X (compareOp op') r')(ha:PE X a ta)(hb:PE X b tb)(hc:PE X c tc)
  (hm:lastMarks [op,op'] [b,c]=false:=by with_unfolding_all rfl):PE X (.Compare a [op,op'] [b,c] pos) (oa r r' ta tb tc):=by
 intro pins s σ H Q I h;refine Compare_chain (thn (ha pins s σ H _ I h) λv s1 ⟨x,H1,I1,r1,q1⟩=>chain_link (thn (hb pins s1 σ H1 _ I1 q1) λu s2 ⟨y,H2,I2,r2,q2⟩=>
  thn (ho pins s2 σ H2 x y v u _ I2 r1 r2 q2) λd s3 ⟨z,H3,I3,r3,k,e,q3⟩=>?_)) hm
 subst e;cases r3;refine wpAny_truthy_bool ?_;cases k with
 |false=>exact ite_ff ⟨.bl false,H3,I3,rfl,q3⟩
 |true=>exact ite_tt (chain_last (thn (hc pins s3 σ H3 _ I3 q3) λw' s4 ⟨z',H4,I4,r4,q4⟩=>ho' pins s4 σ H4 y z' u w' Q I4 r2 r4 q4))
def ui{op op':CmpOp}{r r':R2}(ho:OpR X (compareOp op) r)(ho':OpR X (compareOp op') r')(ha:PE X a ta)(hb:PE X b tb)(hc:PE X c tc)
  (hm:lastMarks [op,op'] [b,c]=false:=by with_unfolding_all rfl):PT X (.Compare a [op,op'] [b,c] pos) (AS (oa r r' ta tb tc)):=by
 intro pins s σ H Q I h;refine isTrue_chain (thn (ha pins s σ H _ I h) λv s1 ⟨x,H1,I1,r1,q1⟩=>test_link (thn (hb pins s1 σ H1 _ I1 q1) λu s2 ⟨y,H2,I2,r2,q2⟩=>
  thn (ho pins s2 σ H2 x y v u _ I2 r1 r2 q2) λd s3 ⟨z,H3,I3,r3,k,e,q3⟩=>?_)) hm
 subst e;cases r3;refine wpAny_truthy_bool ?_;cases k with
 |false=>
  obtain⟨k',e',q'⟩:=q3;cases e';exact ite_ff ⟨H3,I3,q'⟩
 |true=>
  refine ite_tt (test_last (thn (hc pins s3 σ H3 _ I3 q3) λw' s4 ⟨z',H4,I4,r4,q4⟩=>thn (ho' pins s4 σ H4 y z' u w' _ I4 r2 r4 q4) λd' s5 ⟨z2,H5,I5,r5,k2,e2,q5⟩=>?_));subst e2;cases r5;exact wpAny_truthy_bool ⟨H5,I5,q5⟩
def Cq(K:fg0)(x:V)(H:Hp)(k:Bool):Prop:=
 match x with
 |.non=>k=false
 |.bl b=>k=b
 |.int i=>k=(i != 0)
 |.str y=>y.length<=sizeLine/\k=((y.length:Int) != 0)
 |.byt y=>y.size<=sizeLine/\k=((y.size:Int) != 0)
 |.ref p=>(∃xs,SqL K H p xs/\k=!xs.isEmpty)\/(∃xs,SqT K H p xs/\k=!xs.isEmpty)\/∃kvs,H p=some (.dK kvs)/\k=!kvs.isEmpty
 |_=>False
def og{Z:Type}{kvs:List (Z×V)}{vs:List (Z×Value)}(r:KV kvs vs):(!vs.isEmpty)=!kvs.isEmpty:=by
 cases r<;>rfl
def gY{its:List Value}(r:Vals xs its):(!its.toArray.isEmpty)=!xs.isEmpty:=by
 cases r<;>simp
def eF:(sizeLine:Nat)<2 ^ 63:=by rw[sizeLine_eq];decide
def Cu:Jp X (λx H Q=>∃k,Cq X.K x H k/\Q k H):=by
 intro pins s σ H x v Q I rx h;obtain⟨k,e,q⟩:=h;have hl:=eF;have hs:sizeLine=16777216:=sizeLine_eq;cases x with
 |non=>
  cases rx;have e':k=false:=e;subst e';exact truthy_none ⟨H,I,q⟩
 |bl b=>
  cases rx;have e':k=b:=e;subst e';exact wpAny_truthy_bool ⟨H,I,q⟩
 |int i=>
  obtain⟨t,rfl⟩:=rx;have e':k=(i != 0):=e;subst e';exact PySem.P.truthy_int ⟨H,I,q⟩
 |str y=>
  obtain⟨t,rfl⟩:=rx;obtain⟨hy,e'⟩:y.length<=sizeLine/\k=((y.length:Int) != 0):=e;subst e';exact PySem.P.truthy_str (by omega) ⟨H,I.tok _,q⟩
 |byt y=>
  obtain⟨t,rfl⟩:=rx;obtain⟨hy,e'⟩:y.size<=sizeLine/\k=((y.size:Int) != 0):=e;subst e';exact PySem.W.truthy_bytes (by omega) ⟨H,I.tok _,q⟩
 |ref p=>
  cases rx;have e':(∃xs,SqL X.K H p xs/\k=!xs.isEmpty)\/(∃xs,SqT X.K H p xs/\k=!xs.isEmpty)\/∃kvs,H p=some (.dK kvs)/\k=!kvs.isEmpty:=e;rcases e' with⟨xs,hx,e'⟩|⟨xs,hx,e'⟩|⟨kvs,hx,e'⟩
  .subst e'
   obtain⟨its,r,pl,hz⟩:=I.list hx;have hlen:=r.length;exact wpAny_truthy_list pl.isList (by simp only[ls0];omega) ⟨H,I.tok _,by rw[gY r];exact q⟩
  .subst e'
   obtain⟨its,r,pl,hz⟩:=I.tuple hx;have hlen:=r.length;exact truthy_tuple pl (by simp only[ls0];omega) ⟨H,I.tok _,by rw[gY r];exact q⟩
  .subst e'
   obtain⟨hz,hS,vs,r,m⟩:kvs.length<=sizeLine/\(p==sysModules)=false/\∃vs,KV kvs vs/\s.heap.DictOf (mixKind X.prog X.w) p vs:=I.hok p _ hx;have hlen:kvs.length=vs.length:=Paired.length r;exact wpAny_truthy_dict hS m (by omega) ⟨H,I.tok _,by rw[og r];exact q⟩
 |_=>exact (show False from e).elim
def uj(ha:PE X a ta)(he:∀whole,isTrue a X.env whole=(do let v ←whole;standAt a.pos;holding [v] (truthy v))):
  PT X a (λσ H Q=>ta σ H λx H'=>∃k,Cq X.K x H' k/\Q k H'):=by
 intro pins s σ H Q I h;exact isTrue_plain (thn (ha pins s σ H _ I h) λv s1 ⟨x,H1,I1,r1,q1⟩=>Cu pins s1 σ H1 x v Q I1 r1 q1) (he _)
def op_add_str:OpR X (binaryOp .Add) (λx y H Q=>∃i j,x=.str i/\y=.str j/\i.length+j.length<=sizeLine/\Q (.str (i++j)) H):=by
 intro pins s σ H x y v u Q I rx ry h;obtain⟨i,j,rfl,rfl,hz,q⟩:=h;obtain⟨t,rfl⟩:=rx;obtain⟨t',rfl⟩:=ry;exact add_str (λt' tk=>⟨.str (i++j),H,I.tok _,⟨_,rfl⟩,q⟩) hz
def vals1{x:V}(r:Vals [x] us):∃u,us=[u]/\RelV x u:=by
 cases r with
 |cons r1 r2=>cases r2;exact⟨_,rfl,r1⟩
def vals2{x y:V}(r:Vals [x,y] us):∃u w',us=[u,w']/\RelV x u/\RelV y w':=by
 cases r with
 |cons r1 r2=>
  cases r2 with
  |cons r3 r4=>cases r4;exact⟨_,_,rfl,r1,r3⟩
def jj:aW X (.type "int") (λxs H Q=>(∃i,xs=[.int i]/\Q (.int i) H)\/∃k,xs=[.bl k]/\Q (.int (if k then 1 else 0)) H):=by
 intro pins s σ H xs us Q I r h;rcases h with⟨i,rfl,q⟩|⟨k,rfl,q⟩
 .obtain⟨u,rfl,t,rfl⟩:=vals1 r
  exact call_int_int ⟨.int i,H,I,⟨_,rfl⟩,q⟩
 .obtain⟨u,rfl,r1⟩:=vals1 r
  cases r1;exact call_int_bool ⟨.int (if k then 1 else 0),H,I.tok _,⟨_,rfl⟩,q⟩
def Jr(K:fg0)(x:V)(H:Hp)(n:Nat):Prop:=
 match x with
 |.str y=>y.length<=sizeLine/\n=y.length
 |.byt y=>y.size<=sizeLine/\n=y.size
 |.ref p=>(∃xs,SqL K H p xs/\n=xs.length)\/∃xs,SqT K H p xs/\n=xs.length
 |_=>False
def eP:aW X (.builtin "len") (λxs H Q=>∃x n,xs=[x]/\Jr X.K x H n/\Q (.int n) H):=by
 intro pins s σ H xs us Q I r h;obtain⟨x,n,rfl,e,q⟩:=h;obtain⟨u,rfl,rx⟩:=vals1 r;have hl:=eF;have hs:sizeLine=16777216:=sizeLine_eq;cases x with
 |str y=>
  obtain⟨t,rfl⟩:=rx;obtain⟨hy,e'⟩:y.length<=sizeLine/\n=y.length:=e;subst e';exact len_str (by omega) ⟨.int _,H,I.tok _,⟨_,rfl⟩,q⟩
 |byt y=>
  obtain⟨t,rfl⟩:=rx;obtain⟨hy,e'⟩:y.size<=sizeLine/\n=y.size:=e;subst e';exact PySem.W.len_bytes (by omega) ⟨.int _,H,I.tok _,⟨_,rfl⟩,q⟩
 |ref p=>
  cases rx;have e':(∃xs,SqL X.K H p xs/\n=xs.length)\/∃xs,SqT X.K H p xs/\n=xs.length:=e;rcases e' with⟨xs,hx,e'⟩|⟨xs,hx,e'⟩
  .subst e'
   obtain⟨its,r',pl,hz⟩:=I.list hx;have hlen:=r'.length;exact Calls.call_len_list pl.isList (by simp only[ls0];omega) ⟨.int xs.length,H,I.tok _,⟨_,by simp only[ls0];rw[hlen]⟩,q⟩
  .subst e'
   obtain⟨its,r',pl,hz⟩:=I.tuple hx;have hlen:=r'.length;exact len_tuple pl (by simp only[ls0];omega) ⟨.int xs.length,H,I.tok _,⟨_,by simp only[ls0];rw[hlen]⟩,q⟩
 |_=>exact (show False from e).elim
end
structure ObjM(h:Heap)(x dx C:Addr)(mA:Str->Option Value):Prop where
 obj:h.get? x=some (PySem.W.instObj C dx)
 ns:h.Ns1 dx mA
 ne:dx≠x
set_option tactic.hygienic true in
def rO(n:h.Ns1 dx mA):∃od,h.get? dx=some od/\∀name,PySem.W.lookIn name od=some (mA name):=by
 obtain⟨o,es,ep,ho,hd,hk,_,hm⟩:=n;refine⟨o,ho,λname=>?_⟩;have e:=hm name;unfold nsFind findBy at e;rw[<-Array.find?_toList]at e;unfold PySem.W.lookIn;rw[hd];dsimp only;split
 .rename_i y q
  rw[q]at e;exact congrArg some e
 .rename_i q
  rw[q]at e;have a:es.toList.any (·.refKey)=false:=by
   rw[List.any_eq_false];intro y hy;obtain⟨z,t,hkey⟩:=hk y (Array.mem_toList_iff.mp hy);simp[DictEntry.refKey,hkey]
  have a':¬ es.toList.any (·.refKey)=true:=by rw[a];exact fx0
  rw[if_neg a'];exact congrArg some e
def ObjM.look{x:Addr}(I:ObjM h x dx C mA):∃od,PySem.W.InstAt h x (PySem.W.instObj C dx) C (some od)/\∀name,PySem.W.lookIn name od=some (mA name):=
 let ⟨od,ho,hl⟩:=rO I.ns
 ⟨od,⟨I.obj,rfl,rfl,ho⟩,hl⟩
section
variable {K:fg0}{x:Addr}
def get_map{expr:Bool}(X:K.In s.heap)(I:ObjM s.heap x dx C mA)(hg:PySem.W.plainGet K C name=true)(hh:PySem.W.hasDictIn K C=true)
  (ha:PySem.W.findIn K (.ref C) name=some none) (hv:mA name=some v) (hv':PySem.W.handedIn v=true) (h:Q v {s with toks:=s.toks+1}):
  wpAny (model prog w) A (getAttr (.ref x) name expr) Q E s:=by
 obtain⟨od,J,hl⟩:=I.look;exact PySem.W.get_value X J (PySem.W.plainGet_of hg).1 (PySem.W.findObj_own hh ha rfl (by rw[hl,hv])) hv' h
def uk{pl:Sem Bool}{Q:Value×List Value->Shared->Prop}(X:K.In s.heap)(I:ObjM s.heap x dx C mA)(hg:PySem.W.plainGet K C name=true)
  (hf:PySem.W.findIn K (.ref C) name=some (some (.ref f))) (ht:PySem.W.isFn K (.ref f)=true) (hv:mA name=none) (h:Q (.ref f,[.ref x]) s):
  wpAny (model prog w) A (getMethod (.ref x) name pl) Q E s:=by
 obtain⟨od,J,hl⟩:=I.look;exact PySem.W.method_fn X J (PySem.W.plainGet_of hg).1 (PySem.W.plainGet_of hg).2 hf (beq_iff_eq.mp ht) (by show (PySem.W.lookIn name od).map (·.isSome)=some false;rw[hl,hv];rfl) h
def yq{ns:List Str}{Q:Unit->Shared->Prop}(X:K.In s.heap)(I:ObjM s.heap x dx C mA)
  (hs:PySem.W.findIn K (.ref C) "__setattr__"=some (some (.builtin "object.__setattr__"))) (hp:PySem.W.plainOver K C=true) (ht:PySem.W.takerIn K C name=some none) (hh:PySem.W.hasDictIn K C=true)
  (hw:PySem.Within mA ns) (hsz:ns.length<=sizeLine)
  (h:∀h',ObjM h' x dx C (λy=>if y=name then some v else mA y)->Heap.SameBut dx s.heap h'->Q () {s with heap:=h',toks:=s.toks+2}):
  wpAny (model prog w) A (setAttr (.ref x) name v) Q E s:=by
 obtain⟨od,J,hl⟩:=I.look;refine PySem.W.set_plain X J hs (PySem.W.osa_open (s:={s with toks:=s.toks+1}) (r:=none) X J hp ht λb=>?_);obtain⟨cd,hc,hd'⟩:=PySem.W.any_some hh;have hx:s.heap.get? x=some ⟨.ref C,some dx,.plain,#[]⟩:=I.obj;refine wb0 (wq0 (wb0 (wb0 (wpAny_loadPart hx (wb0 (PySem.W.Looks.here (s:={s with toks:=s.toks+1}) (PySem.W.looks_clsIn X hc) ?_))))));rw[hd'];refine wq0 (a:=some dx) (wb0 (wq0 (wb0 ?_)));refine wpAny_nsSet1 (s:={s with toks:=s.toks+1}) I.ns λh' hn2 hs2=>?_
 obtain⟨oD,esD,epD,hoD,hdD,hcD⟩:=hn2.count (PySem.Within.cons name v hw);refine wb0 (wpAny_lookBehind hoD (by rw[hdD];exact pastItsLine_dict (nt0 hcD (by rw[lc0];omega))) ?_);exact wq0 (h _ ⟨(hs2.2 _ (Ne.symm I.ne)).trans I.obj,hn2,I.ne⟩ hs2)
def um{R:Result->Shared->Prop}{vs:List Value}{kw:List (Str×Value)}(X:K.In s.heap)(hm:PySem.W.makesIn K C=true)
  (hi:PySem.W.findIn K (.ref C) "__init__"=some (some (.ref f))) (hf:PySem.W.typeIn K (.ref f)=some (.type "function"))
  (h:codeAny (model prog w) (A.under (.builtin "type.__call__" ⟨.ref C::vs,kw⟩)) (.call (.ref f) ⟨.ref (s.heap.objs.size+1)::vs,kw⟩) (PySem.W.InitBack (s.heap.objs.size+1) R)
   {s with heap:=(s.heap.push PySem.W.emptyDict).push (PySem.W.instObj C s.heap.objs.size)}):
  codeAny (model prog w) A (.call (.ref C) ⟨vs,kw⟩) R s:=by
 obtain⟨hh,g,d,t,os⟩:=s;exact PySem.W.make_core (PySem.W.makes_of X hm) (PySem.W.looks_findIn X hi) (λself=>PySem.W.bind_fn X self hf) (.inl rfl) h
end
noncomputable def eg(f:Str)(v:V):List (Str×V)->List (Str×V)
 |[]=>[(f,v)]
 |(g,x)::r=>if g=f then (g,v)::r else (g,x)::eg f v r
theorem fZ(f g:Str)(v:V):∀fs:List (Str×V),(eg f v fs).lookup g=if g=f then some v else fs.lookup g
 |[]=>by
  show List.lookup g [(f,v)]=_
  by_cases h:g=f
  .have hb:(g==f)=true:=beq_iff_eq.mpr h
   simp only[List.lookup,hb,if_pos h]
  .have hb:(g==f)=false:=bn0 h
   simp only[List.lookup,hb,if_neg h]
 |(k,x)::r=>by
  have ih:=fZ f g v r;rw[show eg f v ((k,x)::r)=(if k=f then (k,v)::r else (k,x)::eg f v r)from rfl]
  by_cases hk:k=f
  .rw[if_pos hk]
   by_cases h:g=k
   .have hb:(g==k)=true:=beq_iff_eq.mpr h
    simp only[List.lookup,hb,if_pos (h.trans hk)]
   .have hb:(g==k)=false:=bn0 h
    simp only[List.lookup,hb,if_neg (λe:g=f=>h (e.trans hk.symm))]
  .rw[if_neg hk]
   by_cases h:g=k
   .have hb:(g==k)=true:=beq_iff_eq.mpr h
    simp only[List.lookup,hb,if_neg (λe:g=f=>hk (h.symm.trans e))]
   .have hb:(g==k)=false:=bn0 h
    simp only[List.lookup,hb];exact ih
theorem fB(f:Str)(v:V):∀fs:List (Str×V),f∈(eg f v fs).map (·.1)/\∀g,g∈fs.map (·.1)->g∈(eg f v fs).map (·.1)
 |[]=>⟨by simp[eg],λg h=>by simp at h⟩
 |(k,x)::r=>by
  obtain⟨i1,i2⟩:=fB f v r;rw[show eg f v ((k,x)::r)=(if k=f then (k,v)::r else (k,x)::eg f v r)from rfl]
  by_cases hk:k=f
  .rw[if_pos hk]
   subst hk;exact⟨by simp,λg h=>by simpa using h⟩
  .rw[if_neg hk]
   refine⟨?_,λg h=>?_⟩
   .rw[mk0]
    exact mc0 _ i1
   .rw[mk0]at h ⊢
    rcases mq0 h with e|e
    .exact List.mem_cons.mpr (.inl e)
    .exact mc0 _ (i2 g e)
theorem gb(f:Str)(v:V):∀fs:List (Str×V),(eg f v fs).length<=fs.length+1
 |[]=>by simp[eg]
 |(k,x)::r=>by
  have ih:=gb f v r;rw[show eg f v ((k,x)::r)=(if k=f then (k,v)::r else (k,x)::eg f v r)from rfl]
  by_cases hk:k=f
  .rw[if_pos hk,lc0,lc0];omega
  .rw[if_neg hk,lc0,lc0];omega
def RelO.some_of{v:V}(r:RelO (some v) o):∃u,o=some u/\RelV v u:=by
 cases o with
 |none=>exact (show False from r).elim
 |some u=>exact⟨u,rfl,r⟩
def RelO.none_of(r:RelO none o):o=none:=by
 cases o with
 |none=>rfl
 |some u=>exact (show False from r).elim
def rP{v:V}(r:RelV v u):PySem.W.handedIn u=true:=by
 cases v with
 |non=>cases (show u=Value.none from r);rfl
 |bl b=>cases (show u=Value.bool b from r);rfl
 |int i=>obtain⟨t,e⟩:=(show ∃t,u=Value.int i t from r);cases e;rfl
 |str x=>obtain⟨t,e⟩:=(show ∃t,u=Value.str x t from r);cases e;rfl
 |byt b=>obtain⟨t,e⟩:=(show ∃t,u=Value.bytes b t from r);cases e;rfl
 |flt b=>obtain⟨t,e⟩:=(show ∃t,u=Value.float b t from r);cases e;rfl
 |ref a=>cases (show u=Value.ref a from r);rfl
 |ty n=>cases (show u=Value.type n from r);rfl
section
variable {fs fs':List (Str×V)}
def gH(hok:HOk P w H h)(e:H a=some (.ins C dx fs)):∃mA,ObjM h a dx C mA/\(∀f,RelO (fs.lookup f) (mA f))/\PySem.Within mA (fs.map (·.1))/\fs.length<=1000/\H dx=some (.own a):=by
 obtain⟨d,z,ne,ob,mA,n,r,q⟩:=(show ObjOk P w H h a (.ins C dx fs)from hok a _ e);exact⟨mA,⟨ob,n,ne⟩,r,q,z,d⟩
end
structure Cls(K:fg0)(C:Addr):Prop where
 pg:PySem.W.plainGet K C Str.empty=true
 hd:PySem.W.hasDictIn K C=true
 po:PySem.W.plainOver K C=true
 sa:PySem.W.findIn K (.ref C) "__setattr__"=some (some (.builtin "object.__setattr__"))
def Cls.get{K:fg0}(c:Cls K C)(f:Str):PySem.W.plainGet K C f=true:=c.pg
def NoAttr(K:fg0)(C:Addr)(f:Str):Prop:=PySem.W.findIn K (.ref C) f=some none
def NoAttr.taker{K:fg0}{f:Str}(n:NoAttr K C f):PySem.W.takerIn K C f=some none:=by
 unfold PySem.W.takerIn;rw[show PySem.W.findIn K (.ref C) f=some none from n];rfl
structure kr(K:fg0)(C:Addr)(m:Str)(f:Addr):Prop where
 at_:PySem.W.findIn K (.ref C) m=some (some (.ref f))
 fn:PySem.W.isFn K (.ref f)=true
 kp:PySem.W.keepIn K (.ref f)=true
section
variable {fs:List (Str×V)}{f:Str}{v:V}
def oh{b:Bool}(I:Inv X pins σ H s)(e:H a=some (.ins C dx fs))(c:Cls X.K C)(n:NoAttr X.K C f)(l:fs.lookup f=some v)
  (h:∀u s',Inv X pins σ H s'->RelV v u->Q u s'):wpAny (model X.prog X.w) A (getAttr (.ref a) f b) Q E s:=by
 obtain⟨mA,O,r,_,_,_⟩:=gH I.hok e;obtain⟨u,hu,ru⟩:=RelO.some_of (v:=v) (o:=mA f) (by rw[<-l];exact r f);exact get_map I.kIn O (c.get f) c.hd n hu (rP ru) (h u _ (I.tok _) ru)
def cJ{g:Addr}{pl:Sem Bool}{Q:Value×List Value->Shared->Prop}(I:Inv X pins σ H s)(e:H a=some (.ins C dx fs))(c:Cls X.K C)(k:kr X.K C m g)(l:fs.lookup m=none)
  (h:Q (.ref g,[.ref a]) s):wpAny (model X.prog X.w) A (getMethod (.ref a) m pl) Q E s:=by
 obtain⟨mA,O,r,_,_,_⟩:=gH I.hok e;have hn:mA m=none:=RelO.none_of (by rw[<-l];exact r m);exact uk I.kIn O (c.get m) k.at_ k.fn hn h
def oj{y:V}{Q:Unit->Shared->Prop}(I:Inv X pins σ H s)(e:H a=some (.ins C dx fs))(c:Cls X.K C)(n:NoAttr X.K C f)(hl:fs.length<1000)(ry:RelV y u)
  (h:∀s',Inv X pins σ (upd H a (.ins C dx (eg f y fs))) s'->Q () s'):wpAny (model X.prog X.w) A (setAttr (.ref a) f u) Q E s:=by
 obtain⟨mA,O,r,wi,_,ho⟩:=gH I.hok e;have hz:(fs.map (·.1)).length<=sizeLine:=by rw[lm0,sizeLine_eq];omega
 refine yq I.kIn O c.sa c.po n.taker c.hd wi hz λh' O' sb=>h _ ?_
 have hd:∃o,h'.get? dx=some o:=let ⟨o,_,_,e',_⟩:=O'.ns;⟨o,e'⟩
 refine I.write (x:=a) (e:=dx) (by rw[e];exact True.intro) (.inr ho) (λb q hb z=>(sb.2 b hb).trans z) hd ?_;refine⟨by rw[aa O.ne];exact ho,?_,O.ne,O'.obj,_,O'.ns,λg=>?_,λg hg=>?_⟩
 .have:=gb f y fs;omega
 .show RelO ((eg f y fs).lookup g) (if g=f then some u else mA g)
  rw[fZ]
  by_cases q:g=f
  .rw[if_pos q,if_pos q];exact ry
  .rw[if_neg q,if_neg q];exact r g
 .by_cases q:g=f
  .rw[q];exact (fB f y fs).1
  .refine (fB f y fs).2 g (wi g λz=>hg ?_)
   show (if g=f then some u else mA g)=none;rw[if_neg q];exact z
def Inv.made(I:Inv X pins σ H s):Inv X pins σ (upd (upd H s.heap.objs.size (.own (s.heap.objs.size+1))) (s.heap.objs.size+1) (.ins C s.heap.objs.size []))
  {s with heap:=(s.heap.push PySem.W.emptyDict).push (PySem.W.instObj C s.heap.objs.size)}:=by
 have e1:(s.heap.push PySem.W.emptyDict).get? s.heap.objs.size=some PySem.W.emptyDict:=pz0 s.heap rfl;have e2:((s.heap.push PySem.W.emptyDict).push (PySem.W.instObj C s.heap.objs.size)).get? (s.heap.objs.size+1)=some (PySem.W.instObj C s.heap.objs.size):=by
  have:=pz0 (s.heap.push PySem.W.emptyDict) (o:=PySem.W.instObj C s.heap.objs.size) rfl
  rwa [Heap.size_push]at this
 have e3:(s.heap.push PySem.W.emptyDict).Ns s.heap.objs.size (λc=>none):=⟨PySem.W.emptyDict,#[],_,e1,rfl,(λe he=>absurd he (by simp)),λc=>rfl⟩;have I1:=I.laid (a:=s.heap.objs.size) (o:=.own (s.heap.objs.size+1)) (h':=s.heap.push PySem.W.emptyDict) (t':=s.toks) (λb u q=>ps0 _ q) (nr0 _) ⟨_,e1⟩;refine I1.laid (a:=s.heap.objs.size+1) (o:=.ins C s.heap.objs.size []) (t':=s.toks) (λb u q=>ps0 _ q) (Nat.le_of_eq (Heap.size_push _ _)) ?_;have ne:s.heap.objs.size≠s.heap.objs.size+1:=nn0 (Nat.lt_succ_self _);refine⟨by rw[aa ne,ae],Nat.zero_le _,ne,e2,λc=>none,(Heap.Ns1.of_empty e3).at λo q=>ps0 _ q,λc=>True.intro,λy hy=>absurd rfl hy⟩
def attr_of{env:Env}{f:Str}(hb:attributeBase e f env (eval e env)=eval e env)
  (h:wpAny (model prog w) A (eval e env) (λo s₁=>wpAny (model prog w) A (getAttr o f true) Q E s₁) E s):wpAny (model prog w) A (eval (.Attribute e f pos) env) Q E s:=
 Attribute_any_ h (by rw[arm_eval_Attribute,hb])
end
noncomputable def Js(K:fg0)(ta:TE)(f:Str):TE:=λσ H Q=>ta σ H λx H1=>∃a C dx fs v,x=.ref a/\H1 a=some (.ins C dx fs)/\Cls K C/\NoAttr K C f/\fs.lookup f=some v/\Q v H1
noncomputable def Jt(K:fg0)(ta tv:TE)(f:Str):TS:=λD σ H=>tv σ H λy H1=>ta σ H1 λx H2=>∃a C dx fs,x=.ref a/\H2 a=some (.ins C dx fs)/\Cls K C/\NoAttr K C f/\fs.length<1000/\
 D.nx σ (upd H2 a (.ins C dx (eg f y fs)))
section
variable {o value:Expr}{f:Str}{pos' tpos:Pos}{tv:TE}
def om(he:PE X e ta)(hb:attributeBase e f X.env (eval e X.env)=eval e X.env):PE X (.Attribute e f pos) (Js X.K ta f):=by
 intro pins s σ H Q I h;refine attr_of hb (thn (he pins s σ H _ I h) λu s1 ⟨x,H1,I1,rx,a,C,dx,fs,v,ex,ea,c,n,l,q⟩=>?_);subst ex;obtain rfl:u=Value.ref a:=rx;exact oh I1 ea c n l λu' s2 I2 ru=>⟨v,H1,I2,ru,q⟩
def uo(ha:PE X o ta)(hv:PE X value tv)(hs:swapsWith value (some (.Attribute o f pos')) pos.line X.env=pure false):PS X (.Assign [.Attribute o f pos'] value pos) (Jt X.K ta tv f):=by
 intro pins s σ H D I h;refine plainObj_wpAny_Assign_Attribute (thn (hv pins s σ H _ I h) λu s1 ⟨y,H1,I1,ry,q⟩=>thn (ha pins s1 σ H1 _ I1 q) λov s2 ⟨x,H2,I2,rx,a,C,dx,fs,ex,ea,c,n,l,q2⟩=>?_) hs;subst ex;obtain rfl:ov=Value.ref a:=rx;exact oj I2 ea c n l ry λs3 I3=>⟨σ,_,I3,q2⟩
def AU{pl:Sem Bool}{args:List Expr}(he:PE X e te)(I:Inv X pins σ H s)
  (h:te σ H λx H1=>∃a C dx fs g,x=.ref a/\H1 a=some (.ins C dx fs)/\Cls X.K C/\kr X.K C m g/\fs.lookup m=none/\
   ∀s1,Inv X pins σ H1 s1->wpAny (model X.prog X.w) X.A (callWith pos (.ref g) [.ref a] (backTo pos (starEach args X.env)) (backToKw pos (keywordEach [] X.env))) Q X.xe s1)
  (ht:eval (.Call (.Attribute e m apos) args [] pos) X.env=(do
   let ov ←eval e X.env
   standAt apos.atName
   let (f,first) ←holding [ov] (getMethod ov m pl)
   callWith pos f first (backTo pos (starEach args X.env)) (backToKw pos (keywordEach [] X.env)))):
  wpAny (model X.prog X.w) X.A (eval (.Call (.Attribute e m apos) args [] pos) X.env) Q X.xe s:=by
 refine PySem.W.methodCall_KW (pl:=pl) (thn (he pins s σ H _ I h) λu s1 ⟨x,H1,I1,rx,a,C,dx,fs,g,ex,ea,c,k,l,q⟩=>?_) ht;subst ex;obtain rfl:u=Value.ref a:=rx;exact cJ I1 ea c k l (q s1 I1)
end
section
variable {c:Value}{b:Bool}
inductive eQ (K:fg0)(H:Hp):V->Value->Prop where
 |non:eQ K H .non (.type "NoneType")
 |bl (x:Bool):eQ K H (.bl x) (.type "bool")
 |int (i:Int):eQ K H (.int i) (.type "int")
 |str (x:Str):eQ K H (.str x) (.type "str")
 |flt (x:UInt64):eQ K H (.flt x) (.type "float")
 |lst {a:Addr}{xs:List V} (e:H a=some (.lst xs)):eQ K H (.ref a) (.type "list")
 |frz {a:Addr}{o:Obj}{xs:List V} (e:H a=some (.frz o (.lst xs))):eQ K H (.ref a) (.type "list")
 |tup {a:Addr}{xs:List V} (e:H a=some (.tup xs)):eQ K H (.ref a) (.type "tuple")
 |dK {a:Addr}{kvs:List (Key×V)} (e:H a=some (.dK kvs)):eQ K H (.ref a) (.type "dict")
 |dT {a:Addr}{kvs:List (List Key×V)} (e:H a=some (.dT kvs)):eQ K H (.ref a) (.type "dict")
 |ins {a C dx:Addr}{fs:List (Str×V)} (e:H a=some (.ins C dx fs)) (cl:Cls K C) (ha:PySem.W.findIn K (.ref C) "__class__"=some (some (.builtin "object.__class__")))
   (hn:PySem.W.specialIn K (.builtin "object.__class__") "__get__"=some (some (.builtin "getset_descriptor.__get__"))) (htk:PySem.W.takesIn K (.builtin "object.__class__")=some true)
   (hm:PySem.W.mroIn K C (.type "object")=some true):eQ K H (.ref a) (.ref C)
def rQ{x:V}{t:Value}(I:Inv X pins σ H s)(rx:RelV x u)(ty:eQ X.K H x t)(e:PySem.W.kitOne X.K t c=some b)(h:∀tk,Q (.bool b) {s with toks:=tk}):
  wpAny (model X.prog X.w) A (call (.builtin "isinstance") [u,c]) Q E s:=by
 cases ty with
 |non=>cases (show u=Value.none from rx);exact PySem.W.kia_one PySem.W.kitx_none I.kIn True.intro e (λz=>nomatch z) h
 |bl y=>cases (show u=Value.bool y from rx);exact PySem.W.kia_one PySem.W.kitx_bool I.kIn True.intro e (λz=>nomatch z) h
 |int i=>obtain⟨t,q⟩:=(show ∃t,u=Value.int i t from rx);cases q;exact PySem.W.kia_one PySem.W.kitx_int I.kIn True.intro e (λz=>nomatch z) h
 |str y=>obtain⟨t,q⟩:=(show ∃t,u=Value.str y t from rx);cases q;exact PySem.W.kia_one PySem.W.kitx_str I.kIn True.intro e (λz=>nomatch z) h
 |flt y=>obtain⟨t,q⟩:=(show ∃t,u=Value.float y t from rx);cases q;exact PySem.W.kia_one PySem.W.kitx_float I.kIn True.intro e (λz=>nomatch z) h
 |@lst a xs ea=>
  cases (show u=Value.ref a from rx);obtain⟨_,_,n,_,h1⟩:=(show ObjOk X.prog X.w H s.heap a (.lst xs)from I.hok a _ ea);exact PySem.W.kia_one PySem.W.kitx_list I.kIn ⟨_,h1,rfl⟩ e (λz=>nomatch z) h
 |@frz a ob xs ea=>
  cases (show u=Value.ref a from rx);obtain⟨_,_,_,n,_,h1⟩:=(show ObjOk X.prog X.w H s.heap a (.frz ob (.lst xs))from I.hok a _ ea);exact PySem.W.kia_one PySem.W.kitx_list I.kIn ⟨_,h1,rfl⟩ e (λz=>nomatch z) h
 |@tup a xs ea=>
  cases (show u=Value.ref a from rx);obtain⟨_,_,_,p⟩:=(show ObjOk X.prog X.w H s.heap a (.tup xs)from I.hok a _ ea);obtain⟨o,h1,h2,_⟩:=p;exact PySem.W.kia_one PySem.W.kitx_tuple I.kIn ⟨o,h1,h2⟩ e (λz=>nomatch z) h
 |@dK a kvs ea=>
  cases (show u=Value.ref a from rx);obtain⟨_,_,vs,_,p⟩:=(show ObjOk X.prog X.w H s.heap a (.dK kvs)from I.hok a _ ea);obtain⟨o,es,ep,h1,h2,_⟩:=p;exact PySem.W.kia_one PySem.W.kitx_dict I.kIn ⟨o,h1,h2.1⟩ e (λz=>nomatch z) h
 |@dT a kvs ea=>
  cases (show u=Value.ref a from rx);obtain⟨_,_,xs,_,o,es,ep,h1,h2,_⟩:=(show ObjOk X.prog X.w H s.heap a (.dT kvs)from I.hok a _ ea);exact PySem.W.kia_one PySem.W.kitx_dict I.kIn ⟨o,h1,h2.1⟩ e (λz=>nomatch z) h
 |@ins a C dx fs ea cl ha hn htk hm=>
  cases (show u=Value.ref a from rx);obtain⟨mA,O,_⟩:=gH I.hok ea;obtain⟨od,J,_⟩:=O.look;exact PySem.W.kia_one (PySem.W.kitx_own (cl.get _) cl.hd ha hn htk hm) I.kIn J e (λz=>nomatch z) h
end
structure Room(k:Nat)(A:Around):Prop where
 hd:A.handled=none
 dp:A.depth+3*k+5<recursionLimit
 un:A.units+16*k+200<cLine
def Room.mono{j:Nat}(r:Room k A)(h:j<=k):Room j A:=⟨r.hd,by have:=r.dp;omega,by have:=r.un;omega⟩
theorem Room.deeper(r:Room (k+1) A)(env:Env):Room k (A.deeper env):=
 ⟨r.hd,by have:=r.dp;show A.depth+1+3*k+5<_;omega,by have:=r.un;show A.units+3+16*k+200<_;omega⟩
def oq{kw:List (Str×Value)}:(A.under (.builtin "type.__call__" ⟨.ref C::us,kw⟩)).depth=A.depth+1:=by
 first|rfl|simp[Around.under,Code.weight,Code.isCreation,Code.isGuard,Code.isCaller,Code.frames,Code.isFrame,guardIds]
def ot{kw:List (Str×Value)}:(A.under (.builtin "type.__call__" ⟨.ref C::us,kw⟩)).units=A.units+1:=by
 first|rfl|simp[Around.under,Code.cUnits,Code.frames,Code.isFrame]
def Room.make(r:Room (k+1) A)(C:Addr)(us:List Value)(kw:List (Str×Value)):Room k (A.under (.builtin "type.__call__" ⟨.ref C::us,kw⟩)):=
 ⟨r.hd,by have:=r.dp;rw[oq];omega,by have:=r.un;rw[ot];omega⟩
theorem Room.depth(r:Room k A):A.depth<recursionLimit:=by have:=r.dp;omega
theorem Room.units(r:Room k A):A.units+64<cLine:=by have:=r.un;omega
noncomputable def yt:TA:=λa H Q=>Q [] H
noncomputable def AV(ta:TE)(tr:TA):TA:=λσ H Q=>ta σ H λx H1=>tr σ H1 λxs H2=>Q (x::xs) H2
def aT:PA X [] yt:=λa a a a H Q I h=>Calls.spliced_nil ⟨[],H,I,.nil,h⟩
def ay(ha:PE X e te)(hr:PA X es t)(hs:starEach (e::es) X.env=(false,eval e X.env)::starEach es X.env:=by rfl):PA X (e::es) (AV te t):=by
 intro pos pins s σ H Q I h;rw[hs];show wpAny _ _ (spliced ((false,eval e X.env)::backTo pos (starEach es X.env))) _ _ s;refine Calls.spliced_cons (thn (ha pins s σ H _ I h) λu s1 ⟨x,H1,I1,r1,q1⟩=>?_);exact thn (hr pos pins s1 σ H1 _ I1 q1) λus s2 ⟨xs,H2,I2,r2,q2⟩=>⟨x::xs,H2,I2,.cons r1 r2,q2⟩
noncomputable def Ju(t:TA):TE:=λσ H Q=>t σ H λxs H1=>xs.length<=sizeLine/\∀p,H1 p=none->Q (.ref p) (upd H1 p (.tup xs))
noncomputable def Jv(t:TA):TE:=λσ H Q=>t σ H λxs H1=>xs.length<=sizeLine/\∀p,H1 p=none->Q (.ref p) (upd H1 p (.lst xs))
def uq{x1}(h:PA X es t):PE X (.Tuple es x1 pos) (Ju t):=by
 intro pins s σ H Q I hq;refine wpAny_Tuple_spliced (thn (h pos pins s σ H _ I hq) λus s1 ⟨xs,H1,I1,r,z,q⟩=>⟨by rw[<-r.length];exact z,?_⟩);have hf:H1 s1.heap.objs.size=none:=I1.hok.fresh (nr0 _);refine⟨.ref s1.heap.objs.size,upd H1 s1.heap.objs.size (.tup xs),I1.laid (t':=s1.toks) (λb u e=>ps0 _ e) (nr0 _) ?_,rfl,q _ hf⟩;exact⟨z,us,r,⟨_,pz0 _ rfl,rfl,_,rfl⟩⟩
def ur(h:PA X es t):PE X (.List es pos) (Jv t):=by
 intro pins s σ H Q I hq;refine wpAny_List_spliced (thn (h pos pins s σ H _ I hq) λus s1 ⟨xs,H1,I1,r,z,q⟩=>⟨by rw[<-r.length];exact z,?_⟩);have hf:H1 s1.heap.objs.size=none:=I1.hok.fresh (nr0 _);refine⟨.ref s1.heap.objs.size,upd H1 s1.heap.objs.size (.lst xs),I1.laid (t':=s1.toks) (λb u e=>ps0 _ e) (nr0 _) ?_,rfl,q _ hf⟩;exact⟨z,us,0,r,pz0 _ rfl⟩
noncomputable abbrev Sp:=List V->Hp->VK->XK->Prop
noncomputable abbrev CXT:=List Env->Hp->Shared->XK->Value->Shared->Prop
structure Env0(P:Program)(w:World)(K:fg0)(mg:Str->Option Value)(base:Heap)(A:Around)(outer:List Env)(s:Shared)(H:Hp):Prop where
 frames:A.frames=some outer
 mod:Mod K mg base
 bs:∀b o,base.get? b=some o->s.heap.get? b=some o/\H b=none
 bsz:base.objs.size<=s.heap.objs.size
 funs:s.heap.FunFrames base outer
 frf:∀b∈frs outer,H b=none
 hok:HOk P w H s.heap
 bare:AllBare s.gens
 tb:∀p∈lamTs,∃ps,H p.1=some (.tbl p.2 ps)
def CE(outer:List Env)(P:Program)(w:World)(H:Hp)(s:Shared)(Q:VK)(u:Value)(s':Shared):Prop:=
 ∃v H',s'.os=s.os/\AllBare s'.gens/\Un (frs outer) [] H H' s.heap s'.heap/\HOk P w H' s'.heap/\RelV v u/\Q v H'
def CR(CX:CXT)(outer:List Env)(P:Program)(w:World)(H:Hp)(s:Shared)(Q:VK)(E:XK)(r:Result)(s':Shared):Prop:=
 match r with
 |.ok (.ret u)=>CE outer P w H s Q u s'
 |.ok _=>False
 |.error e=>CX outer H s E e s'
structure FnOk(P:Program)(w:World)(K:fg0)(mg:Str->Option Value)(base:Heap)(CX:CXT)(k:Nat)(f:Addr)(fd:FuncData)(ps:List Str)(sp:Sp):Prop where
 len:∀vs H Q E,sp vs H Q E->vs.length=ps.length
 run:∀(A:Around)(outer:List Env)(s:Shared)(H:Hp)(args:Args)(us:List Value)(vs:List V)(Q:VK)(E:XK),Room k A->Env0 P w K mg base A outer s H->BindsTo s fd args (ps.zip us)->Vals vs us->sp vs H Q E->
  codeAny (model P w) A (.call (.ref f) args) (CR CX outer P w H s Q E) s
theorem FnOk.mono{K:fg0}{CX:CXT}{j:Nat}{sp:Sp}(F:FnOk P w K mg base CX j f fd ps sp)(h:j<=k):
  FnOk P w K mg base CX k f fd ps sp:=⟨F.len,λA outer s H args us vs Q E hr=>F.run A outer s H args us vs Q E (hr.mono h)⟩
def Env0.make{K:fg0}{outer:List Env}(e:Env0 P w K mg base A outer s H)(C:Addr)(us:List Value)(kw:List (Str×Value)):
  Env0 P w K mg base (A.under (.builtin "type.__call__" ⟨.ref C::us,kw⟩)) outer s H:=⟨by first|exact e.frames|(simpa [Around.under,Code.envs,Code.isFrame,pushEnvs]using e.frames),e.mod,e.bs,e.bsz,e.funs,e.frf,e.hok,e.bare,e.tb⟩
theorem Env0.in1{K:fg0}{outer:List Env}(e:Env0 P w K mg base A outer s H):
  Env0 P w K mg base A.in1 outer s H:=⟨e.frames,e.mod,e.bs,e.bsz,e.funs,e.frf,e.hok,e.bare,e.tb⟩
theorem Inv.tb(I:Inv X pins σ H s):∀p∈lamTs,∃ps,H p.1=some (.tbl p.2 ps):=λp hp=>by
 obtain⟨ps,e⟩:=I.ok.tb p hp;obtain⟨m,q⟩:=I.base.tbls _ _ _ e;exact⟨_,q⟩
def Inv.env0(I:Inv X pins σ H s):Env0 X.prog X.w X.K X.mg X.base X.A X.stack s H:=
 ⟨I.ok.frames,I.ok.mod,I.bs,nt0 I.ok.bsz I.sz,I.stack,I.stkFree,I.hok,I.bare,I.tb⟩
def Inv.after{Q:VK}(I:Inv X pins σ H s)(h:CE X.stack X.prog X.w H s Q u s'):EP X pins σ Q u s':=by
 obtain⟨v,H',os,bare,un,hok,r,q⟩:=h;obtain⟨hh,g,d,t,os'⟩:=s';obtain rfl:os'=s.os:=os;exact⟨v,H',I.call (h':=hh) (g':=g) (d':=d) (t':=t) (ch:=[]) un hok bare (λb z=>absurd z (by simp)),r,q⟩
noncomputable def Gg(sp:Sp)(dvs:List V)(E:XK)(t:TA):TE:=λσ H Q=>t σ H λvs H1=>sp (vs++dvs) H1 Q E
noncomputable def AW(C:Addr)(m:Str)(sp:Sp)(dvs:List V)(E:XK)(ta:TE)(t:TA):TE:=λσ H Q=>ta σ H λx H1=>∃a dx fs,x=.ref a/\H1 a=some (.ins C dx fs)/\fs.lookup m=none/\
 t σ H1 λvs H2=>sp (x::(vs++dvs)) H2 Q E
noncomputable def Gh(C:Addr)(sp:Sp)(dvs:List V)(E:XK)(t:TA):TE:=λσ H Q=>t σ H λvs H1=>∀x dx,H1 x=none->H1 dx=none->dx≠x->
 sp (.ref x::(vs++dvs)) (upd (upd H1 dx (.own x)) x (.ins C dx [])) (λv H2=>v=.non/\Q (.ref x) H2) E
def Binds(K:fg0)(fd:FuncData)(ps:List Str)(ds:List Value):Prop:=
 ∀(s:Shared)(us:List Value),K.In s.heap->(us++ds).length=ps.length->BindsTo s fd ⟨us,[]⟩ (ps.zip (us++ds))
def Binds.all{K:fg0}(h:∀us:List Value,us.length=ps.length->bindArgs fd ⟨us,[]⟩=pure (ps.zip us)):Binds K fd ps []:=λs us a hl=>by
 rw[List.append_nil]at hl ⊢;exact .of_eq (h us hl)
def eG(CX:CXT)(X:Cx)(E:XK):Prop:=∀(pins:List (Addr×Obj))(σ:St)(H:Hp)(s:Shared)(e:Value)(s':Shared),Inv X pins σ H s->CX X.stack H s E e s'->X.xe e s'
section
variable {CX:CXT}{sp:Sp}{dvs:List V}{ds:List Value}{E:XK}{o:Expr}
def ou{Q:VK}(F:FnOk X.prog X.w X.K X.mg X.base CX k f fd ps sp)(hr:Room k X.A)(hb:Binds X.K fd ps ds)(hd:Vals dvs ds)(hx:eG CX X E)
  (I:Inv X pins σ H s) (r:Vals vs us) (h:sp (vs++dvs) H Q E):wpAny (model X.prog X.w) X.A (call (.ref f) us) (EP X pins σ Q) X.xe s:=by
 have r2:Vals (vs++dvs) (us++ds):=r.append hd;have hl:(us++ds).length=ps.length:=by rw[<-r2.length];exact F.len _ _ _ _ h
 refine wpAny_call (codeAny_mono (F.run X.A X.stack s H ⟨us,[]⟩ (us++ds) (vs++dvs) Q E hr I.env0 (hb s us I.kIn hl) r2 h) λr s' hq=>?_);cases r with
 |error e=>exact hx pins σ H s e s' I hq
 |ok fl=>
  cases fl with
  |ret u=>exact I.after hq
  |next=>exact False.elim hq
  |brk=>exact False.elim hq
  |cont=>exact False.elim hq
def yu(F:FnOk X.prog X.w X.K X.mg X.base CX k f fd ps sp)(hr:Room k X.A)(hg:Gl X x)(hm:X.mg x=some (.ref f))(hk:PySem.W.keepIn X.K (.ref f)=true)(hb:Binds X.K fd ps ds)(hd:Vals dvs ds)(hx:eG CX X E)
  (ha:PA X (e::es) t) (hdb:(x==("__debug__":Str))=false:=by decide) (he:starEach (e::es) X.env=(false,eval e X.env)::starEach es X.env:=by rfl) (hpl:(backTo pos (starEach es X.env)).any (·.1)=false:=by rfl):
  PE X (.Call (.Name x p) (e::es) [] pos) (Gg sp dvs E t):=by
 intro pins s σ H Q I h;refine wpAny_Call_Name_kw (ld_glob I hg hm ?_ hdb);refine PySem.W.callWith_K (h₀:=X.base) I.ok.mod.kin hk (thn (ha pos pins s σ H _ I h) λus s1 ⟨vs,H1,I1,r,q⟩=>⟨I1.kIn,?_⟩) he hpl;exact ou F hr hb hd hx I1 r q
def yv{pl:Sem Bool}(he:PE X o ta)(c:Cls X.K C)(hm:kr X.K C m f)(F:FnOk X.prog X.w X.K X.mg X.base CX k f fd ps sp)(hr:Room k X.A)(hb:Binds X.K fd ps ds)(hd:Vals dvs ds)(hx:eG CX X E)(ha:PA X (e::es) t)
  (hst:starEach (e::es) X.env=(false,eval e X.env)::starEach es X.env:=by rfl) (hpl:(backTo pos (starEach es X.env)).any (·.1)=false:=by rfl)
  (ht:eval (.Call (.Attribute o m apos) (e::es) [] pos) X.env=(do
   let ov ←eval o X.env
   standAt apos.atName
   let (f,first) ←holding [ov] (getMethod ov m pl)
   callWith pos f first (backTo pos (starEach (e::es) X.env)) (backToKw pos (keywordEach [] X.env))):=by rfl):
  PE X (.Call (.Attribute o m apos) (e::es) [] pos) (AW C m sp dvs E ta t):=by
 intro pins s σ H Q I h;refine PySem.W.methodCall_KW (pl:=pl) (thn (he pins s σ H _ I h) λu s1 ⟨x,H1,I1,rx,a,dx,fs,ex,ea,l,q⟩=>?_) ht;subst ex;obtain rfl:u=Value.ref a:=rx;refine cJ I1 ea c hm l ?_;refine PySem.W.callWith_K (first:=[.ref a]) (h₀:=X.base) I.ok.mod.kin hm.kp (thn (ha pos pins s1 σ H1 _ I1 q) λus s2 ⟨vs,H2,I2,r,q2⟩=>⟨I2.kIn,?_⟩) hst hpl;exact ou (us:=.ref a::us) (vs:=.ref a::vs) F hr hb hd hx I2 (.cons rfl r) q2
def uu{pl:Sem Bool}(he:PE X o ta)(c:Cls X.K C)(hm:kr X.K C m f)(F:FnOk X.prog X.w X.K X.mg X.base CX k f fd ps sp)(hr:Room k X.A)(hb:Binds X.K fd ps ds)(hd:Vals dvs ds)(hx:eG CX X E)
  (ht:eval (.Call (.Attribute o m apos) [] [] pos) X.env=(do
   let ov ←eval o X.env
   standAt apos.atName
   let (f,first) ←holding [ov] (getMethod ov m pl)
   callWith pos f first (backTo pos (starEach [] X.env)) (backToKw pos (keywordEach [] X.env))):=by rfl):
  PE X (.Call (.Attribute o m apos) [] [] pos) (AW C m sp dvs E ta yt):=by
 intro pins s σ H Q I h;refine PySem.W.methodCall_KW (pl:=pl) (thn (he pins s σ H _ I h) λu s1 ⟨x,H1,I1,rx,a,dx,fs,ex,ea,l,q⟩=>?_) ht;subst ex;obtain rfl:u=Value.ref a:=rx;refine cJ I1 ea c hm l ?_;exact PySem.W.callWith_K0 (first:=[.ref a]) I1.kIn hm.kp (ou (us:=[.ref a]) (vs:=[.ref a]) F hr hb hd hx I1 (.cons rfl .nil) q)
structure Mk(K:fg0)(C f:Addr):Prop where
 makes:PySem.W.makesIn K C=true
 init:PySem.W.findIn K (.ref C) "__init__"=some (some (.ref f))
 fn:PySem.W.isFn K (.ref f)=true
 kp:PySem.W.keepIn K (.ref C)=true
def run_make{Q:VK}(M:Mk X.K C f)(F:FnOk X.prog X.w X.K X.mg X.base CX k f fd ps sp)(hr:Room (k+1) X.A)(hb:Binds X.K fd ps ds)(hd:Vals dvs ds)
  (hx:eG CX X E) (I:Inv X pins σ H s) (r:Vals vs us)
  (h:∀x dx,H x=none->H dx=none->dx≠x->sp (.ref x::(vs++dvs)) (upd (upd H dx (.own x)) x (.ins C dx [])) (λv H2=>v=.non/\Q (.ref x) H2) E):
  wpAny (model X.prog X.w) X.A (call (.ref C) us) (EP X pins σ Q) X.xe s:=by
 have hq:=h (s.heap.objs.size+1) s.heap.objs.size (I.hok.fresh (Nat.le_succ _)) (I.hok.fresh (nr0 _)) (nn0 (Nat.lt_succ_self _));have I2:=Inv.made (C:=C) I;have r2:Vals (V.ref (s.heap.objs.size+1)::(vs++dvs)) (Value.ref (s.heap.objs.size+1)::(us++ds)):=.cons rfl (r.append hd);have hl:(Value.ref (s.heap.objs.size+1)::us++ds).length=ps.length:=by
  have e:=r2.length;rw[F.len _ _ _ _ hq]at e;exact e.symm
 refine wpAny_call (um (f:=f) I.kIn M.makes M.init (beq_iff_eq.mp M.fn) (codeAny_mono (F.run _ X.stack _ _ ⟨Value.ref (s.heap.objs.size+1)::us,[]⟩ (Value.ref (s.heap.objs.size+1)::(us++ds)) _ _ E (hr.make C us [])
  (I2.env0.make C us []) (hb _ (Value.ref (s.heap.objs.size+1)::us) I2.kIn hl) r2 hq) λr s' hq'=>?_))
 cases r with
 |error e=>exact hx pins σ _ _ e s' I2 hq'
 |ok fl=>
  cases fl with
  |ret u=>
   obtain⟨v,H',I3,rv,ev,q3⟩:=I2.after hq';subst ev;exact⟨rv,⟨V.ref (s.heap.objs.size+1),H',I3,rfl,q3⟩⟩
  |next=>exact False.elim hq'
  |brk=>exact False.elim hq'
  |cont=>exact False.elim hq'
def uv(M:Mk X.K C f)(F:FnOk X.prog X.w X.K X.mg X.base CX k f fd ps sp)(hr:Room (k+1) X.A)(hg:Gl X x)(hm:X.mg x=some (.ref C))(hb:Binds X.K fd ps ds)(hd:Vals dvs ds)(hx:eG CX X E)
  (hdb:(x==("__debug__":Str))=false:=by decide):PE X (.Call (.Name x p) [] [] pos) (Gh C sp dvs E yt):=by
 intro pins s σ H Q I h;refine wpAny_Call_Name_kw (ld_glob I hg hm ?_ hdb);exact PySem.W.callWith_K0 I.kIn M.kp (run_make (us:=[]) M F hr hb hd hx I .nil h)
end
def PK(X:Cx)(kws:List Keyword)(t:TA):Prop:=
 ∀(pos:Pos)(pins:List (Addr×Obj))(s:Shared)(σ:St)(H:Hp)(Q:List V->Hp->Prop),Inv X pins σ H s->t σ H Q->wpAny (model X.prog X.w) X.A (evalAll ((backToKw pos (keywordEach kws X.env)).map (·.2))) (AP X pins σ Q) X.xe s
section
variable {CX:CXT}{ks:List Str}{sp:Sp}{E:XK}{kpos:Pos}{o:Expr}{kws:List Keyword}{tk:TA}{nm:Option Str}
def Cv:PK X [] yt:=λa a a a H Q I h=>wpAny_evalAll_nil ⟨[],H,I,.nil,h⟩
def yw(ha:PE X e te)(hr:PK X kws t):PK X (⟨nm,e,kpos⟩::kws) (AV te t):=by
 intro pos pins s σ H Q I h;show wpAny _ _ (evalAll ((do let v ←eval e X.env;standAt pos;pure v)::(backToKw pos (keywordEach kws X.env)).map (·.2))) _ _ s;refine wpAny_evalAll_cons (wb0 (thn (ha pins s σ H _ I h) λu s1 ⟨x,H1,I1,r1,q1⟩=>wb0 (wpAny_standAt (wq0 ?_))));exact thn (hr pos pins s1 σ H1 _ I1 q1) λus s2 ⟨xs,H2,I2,r2,q2⟩=>⟨x::xs,H2,I2,.cons r1 r2,q2⟩
variable {g:List Value->List Value->List Value}{gV:List V->List V->List V}
end
structure aP(N P:List Str)(sc:Scope):Prop where
 kind:sc.kind=.function
 co:sc.isCoroutine=false
 gen:sc.isGenerator=false
 nd:N.Nodup
 pre:N.take P.length=P
 par:∀x∈P,sc.names.lookup x=some .local\/sc.names.lookup x=some .cell
 nofree:∀y∈sc.names,y.2≠.free
theorem jk{kindOf:Str->Option NameKind}:∀{binds:List (Str×Value)}{m:Str->Option Value},(∀v,(x,v)∉binds)->bindL kindOf binds m x=m x
 |[],_,_=>rfl
 |(n,v)::r,m,h=>by
  unfold bindL;rw[jk λw hw=>h w (mc0 _ hw)];split
  .have:x≠n:=by rintro rfl;exact h v ms0
   simp[this]
  .rfl
theorem jm{kindOf:Str->Option NameKind}:∀{binds:List (Str×Value)}{m:Str->Option Value},(∀v,(x,v)∉binds)->bindC kindOf binds m x=m x
 |[],_,_=>rfl
 |(n,v)::r,m,h=>by
  unfold bindC;rw[jm λw hw=>h w (mc0 _ hw)];split
  .rfl
  .have:x≠n:=by rintro rfl;exact h v ms0
   simp[this]
theorem jo{kindOf:Str->Option NameKind}:∀{P:List Str}{vs:List Value}{i:Nat}{m:Str->Option Value},P.Nodup->P[i]?=some x->vs[i]?=some v->kindOf x=some .local->
  bindL kindOf (P.zip vs) m x=some v
 |[],_,_,_,_,h,_,_=>by simp at h
 |_::_,[],_,_,_,_,h,_=>by simp at h
 |p::P,w::vs,0,m,nd,h1,h2,hk=>by
  simp at h1 h2;subst h1;subst h2;show bindL kindOf ((p,w)::P.zip vs) m p=_;unfold bindL;rw[jk λv hv=>(List.nodup_cons.mp nd).1 (List.of_mem_zip hv).1,if_pos hk];simp
 |p::P,w::vs,i+1,m,nd,h1,h2,hk=>by
  show bindL kindOf ((p,w)::P.zip vs) m x=_;unfold bindL;exact jo (i:=i) (List.nodup_cons.mp nd).2 (by simpa using h1) (by simpa using h2) hk
theorem jr{kindOf:Str->Option NameKind}:∀{P:List Str}{vs:List Value}{i:Nat}{m:Str->Option Value},P.Nodup->P[i]?=some x->vs[i]?=some v->kindOf x≠some .local->
  bindC kindOf (P.zip vs) m x=some v
 |[],_,_,_,_,h,_,_=>by simp at h
 |_::_,[],_,_,_,_,h,_=>by simp at h
 |p::P,w::vs,0,m,nd,h1,h2,hk=>by
  simp at h1 h2;subst h1;subst h2;show bindC kindOf ((p,w)::P.zip vs) m p=_;unfold bindC;rw[jm λv hv=>(List.nodup_cons.mp nd).1 (List.of_mem_zip hv).1,if_neg hk];simp
 |p::P,w::vs,i+1,m,nd,h1,h2,hk=>by
  show bindC kindOf ((p,w)::P.zip vs) m x=_;unfold bindC;exact jr (i:=i) (List.nodup_cons.mp nd).2 (by simpa using h1) (by simpa using h2) hk
noncomputable def start(N:List Str)(vs:List V):St:=vs.map some++List.replicate (N.length-vs.length) none
noncomputable def df(CX:CXT)(P:Program)(w:World)(K:fg0)(mg:Str->Option Value)(base:Heap)(N:List Str)(qual:Str)(scope:Scope)(f:Addr)(cd:Value)(A:Around)(outer:List Env)(s:Shared)(H:Hp)(E:XK):Cx where
 prog:=P
 w:=w
 K:=K
 mg:=mg
 base:=base
 A:=A.deeper (envOfC qual scope s.heap.objs.size f cd)
 N:=N
 s₀:=s
 H₀:=H
 env:=envOfC qual scope s.heap.objs.size f cd
 outer:=outer
 stack:=envOfC qual scope s.heap.objs.size f cd::outer
 ex:=[]
 calm:=true
 fn:=λa=>true
 pn:=[]
 xe:=λe s'=>wpAny (model P w) (A.deeper (envOfC qual scope s.heap.objs.size f cd)) (leaving (envOfC qual scope s.heap.objs.size f cd) e) (λa s''=>CX outer H s E e s'') (λe' s''=>CX outer H s E e' s'') s'
def lP{sc:Scope}{n:Nat}(h:sc.names.lookup x=some .cell):∃c,(cellsFrom n sc.names []).lookup x=some c:=by
 have q:=PySem.W.cellsFrom_some sc.names n [] (.inl h);exact is0 q
def rR{CX:CXT}{K:fg0}{cd:Value}{outer:List Env}{s1:Shared}{E:XK}
  (S:aP N ps scope) (hd:A.handled=none) (e0:Env0 P w K mg base A outer s H) (hl:vs.length=ps.length) (r:Vals vs us)
  (x:InCallC s s.heap.objs.size (bindL (envOfC qual scope s.heap.objs.size f cd).kindOf (ps.zip us) λd=>none) (cellsFrom (s.heap.objs.size+1) scope.names []) (bindC (envOfC qual scope s.heap.objs.size f cd).kindOf (ps.zip us) λd=>none) s1):
  Inv (df CX P w K mg base N qual scope f cd A outer s H E) [] (start N vs) H s1:=by
 have hpl:ps.length<=N.length:=by have:=congrArg List.length S.pre;rw[List.length_take]at this;omega
 obtain⟨h1,tk,rfl,hk⟩:=x.done;have noA:∀b:Addr,b∉(df CX P w K mg base N qual scope f cd A outer s H E).ex:=λb z=>absurd (show b∈([]:List Addr)from z) (by simp)
 refine⟨⟨e0.mod,S.kind,rfl,rfl,nr0 _,λy z c h1 h2=>?_,λy hy=>?_,λy c d h=>?_,λd=>hd,Around.frames_deeper e0.frames,.inr ⟨rfl,rfl⟩,λb z=>absurd z (noA b),e0.bs,e0.bsz,λb d d=>noA b,λb z=>absurd z (noA b),e0.funs,e0.frf,e0.tb⟩,
  rfl,e0.bare,Un.kept hk,⟨_,x.toInCall.ns,λi y v h1 h2 h3=>?_⟩,λy c h=>⟨_,x.cell y c h⟩,e0.hok.fresh (nr0 _),λy c h=>?_,λp hp=>absurd (show p∈([]:List (Addr×Obj))from hp) (by simp),e0.hok.kept hk,?_⟩
 .exact name_of_addr x.apart (ml0 h1) (ml0 h2)
 .have hy:scope.names.lookup y=some .cell\/scope.names.lookup y=some .free:=hy
  rcases hy with hy|hy
  .exact lP hy
  .exact absurd rfl (S.nofree _ (ml0 hy))
 .exact Nat.le_of_lt (x.above y c (ml0 h))
 .have hi:i<vs.length:=by
   unfold start at h2
   by_cases hi:i<vs.length
   .exact hi
   .rw[List.getElem?_append_right (by simpa using hi)]at h2
    rw[List.getElem?_replicate]at h2;split at h2<;>cases h2
  have ha:vs[i]?=some v:=by
   unfold start at h2;rw[gl0 (by simpa using hi),gm0]at h2;cases e:vs[i]? with
   |none=>rw[e]at h2;cases h2
   |some a=>rw[e]at h2;cases h2;rfl
  obtain⟨u,hu,rv⟩:=r.get ha;have hp:ps[i]?=some y:=by
   rw[<-S.pre,List.getElem?_take_of_lt (by omega)];exact h1
  have ndP:ps.Nodup:=by rw[<-S.pre];exact S.nd.sublist (List.take_sublist _ _)
  refine⟨u,rv,?_⟩;rcases S.par y (mg0 hp)with k|k
  .exact .inl ⟨k,jo ndP hp hu k⟩
  .obtain⟨c,e⟩:=lP (n:=s.heap.objs.size+1) k
   refine .inr ⟨.inl k,c,e,?_⟩;have q:=x.cell y c e;rw[jr ndP hp hu (by show scope.names.lookup y≠_;rw[k];decide)]at q;exact q
 .exact e0.hok.fresh (Nat.le_of_lt (x.above y c (ml0 h)))
 .unfold start
  show _=N.length;rw[la0,lm0,List.length_replicate];omega
structure Gi(k:Nat)(A:Around):Prop where
 r:Room k A
 dp:A.depth+3*k+7<=recursionLimit
 un:A.units+16*k+212<cLine
def uw{CX:CXT}{K:fg0}{dV kV doc pm cdv ct oc:Value}
  {osl:Array (Option Value)}  {sp:Sp} (lk:K.lookup f=some ⟨oc,od,.func (PySem.W.fnOf name qual params body scope dV kV doc pm an cdv ct),osl⟩) (hcd:PySem.W.codeIn K cdv qual=true) (S:aP N ps scope)
  (len:∀vs H Q E,sp vs H Q E->vs.length=ps.length)
  (hbody:∀(A:Around)(outer:List Env)(s:Shared)(H:Hp)(vs:List V)(Q:VK)(E:XK),Gi k (A.deeper (envOfC qual scope s.heap.objs.size f cdv))->sp vs H Q E->
   ∃t,PSs (df CX P w K mg base N qual scope f cdv A outer s H E) body t/\t {nx:=λa H'=>Q .non H',rt:=Q} (start N vs) H):
  FnOk P w K mg base CX (k+1) f (PySem.W.fnOf name qual params body scope dV kV doc pm an cdv ct) ps sp:=by
 refine⟨len,λA outer s H args us vs Q E hr e0 hb r hsp=>?_⟩;have hl:=len _ _ _ _ hsp;have KX:K.In s.heap:=e0.mod.kin.keeps λb o e=>(e0.bs b o e).1
 have lim:s.heap.NoLimit:=e0.mod.nolimit.keeps λb o e=>(e0.bs b o e).1
 have hkind:∀y∈ps.zip us,scope.names.lookup y.1=some .local\/(scope.names.lookup y.1=some .cell/\((cellsFrom (s.heap.objs.size+1) scope.names []).lookup y.1).isSome=true):=λ⟨n,v⟩ hy=>by
  rcases S.par n (List.of_mem_zip hy).1 with q|q
  .exact .inl q
  .exact .inr ⟨q,PySem.W.cellsFrom_some _ _ _ (.inl q)⟩
 refine codeAny_call_function hr.depth (KX _ _ lk) rfl S.co S.gen rfl (PySem.W.codeRec_of KX hcd) (hb _ _ _ _ ?_);refine wpAny_newFunctionEnv_cells S.kind hkind λenv he s1 x=>?_
 subst he;refine⟨lim.keeps x.toInCall.keep,codeAny_func ?_⟩;obtain⟨t,ht,hq⟩:=hbody A outer s H vs Q E ⟨hr.deeper _,by have:=hr.dp;show A.depth+1+3*k+7<=_;omega,by have:=hr.un;show A.units+3+16*k+212<_;omega⟩ hsp;have I:Inv (df CX P w K mg base N qual scope f cdv A outer s H E) [] (start N vs) H s1:=rR S hr.hd e0 hl r x;refine wpAny_mono (ht [] s1 (start N vs) H _ I hq) (λfl s' hs=>?_) λe s' hs=>hs
 have fin:∀{σ':St}{H':Hp}{v:V}{u:Value},Inv (df CX P w K mg base N qual scope f cdv A outer s H E) [] σ' H' s'->RelV v u->Q v H'->CE outer P w H s Q u s':=
  λ{σ' H' v u} J rv q=>⟨v,H',J.os,J.bare,J.base,J.hok,rv,q⟩
 cases fl with
 |ret u=>
  obtain⟨v,σ',H',J,rv,q⟩:=hs;exact fin J rv q
 |next=>
  obtain⟨σ',H',J,q⟩:=hs;exact fin (v:=V.non) (u:=Value.none) J rfl q
 |brk=>
  obtain⟨_,_,_,q⟩:=hs;exact False.elim q
 |cont=>
  obtain⟨_,_,_,q⟩:=hs;exact False.elim q
def AX{CX:CXT}{K:fg0}{dV kV doc pm cdv ct oc:Value}
  {osl:Array (Option Value)}  {sp:Sp} (lk:K.lookup f=some ⟨oc,od,.func (PySem.W.fnOf name qual params body scope dV kV doc pm an cdv ct),osl⟩) (hcd:PySem.W.codeIn K cdv qual=true) (S:aP N ps scope)
  (len:∀vs H Q E,sp vs H Q E->vs.length=ps.length)
  (hbody:∀(A:Around)(outer:List Env)(s:Shared)(H:Hp)(vs:List V)(Q:VK)(E:XK),Room k (A.deeper (envOfC qual scope s.heap.objs.size f cdv))->sp vs H Q E->
   ∃t,PSs (df CX P w K mg base N qual scope f cdv A outer s H E) body t/\t {nx:=λa H'=>Q .non H',rt:=Q} (start N vs) H):
  FnOk P w K mg base CX (k+1) f (PySem.W.fnOf name qual params body scope dV kV doc pm an cdv ct) ps sp:=uw lk hcd S len λA outer s H vs Q E hr=>hbody A outer s H vs Q E hr.r
section
variable {id T:String}{r:List V->Hp->VK->Prop}
noncomputable def tCB(r:List V->Hp->VK->Prop)(t:TA):TE:=λσ H Q=>t σ H λvs H1=>r vs H1 Q
def di(hc:aW X (.builtin id) r)(hg:Gl X x)(hm:X.mg x=none)(hv:bootBuiltins x=some (.builtin id))(ha:PA X (e::es) t)(hn:x≠"__name__":=by decide)(hdb:(x==("__debug__":Str))=false:=by decide)
  (he:starEach (e::es) X.env=(false,eval e X.env)::starEach es X.env:=by rfl) (hpl:(backTo pos (starEach es X.env)).any (·.1)=false:=by rfl):PE X (.Call (.Name x p) (e::es) [] pos) (tCB r t):=by
 intro pins s σ H Q I h;refine wpAny_Call_Name_kw (ld_blt I hg hm hv ?_ hn hdb);exact PyProof.Rows.callWith_builtin1 (thn (ha pos pins s σ H _ I h) λus s1 ⟨vs,H1,I1,r1,q1⟩=>hc pins s1 σ H1 vs us Q I1 r1 q1) he hpl
def dE(hc:aW X (.type T) r)(hg:Gl X x)(hm:X.mg x=none)(hv:bootBuiltins x=some (.type T))(ha:PA X (e::es) t)(hn:x≠"__name__":=by decide)(hdb:(x==("__debug__":Str))=false:=by decide)
  (he:starEach (e::es) X.env=(false,eval e X.env)::starEach es X.env:=by rfl) (hpl:(backTo pos (starEach es X.env)).any (·.1)=false:=by rfl):PE X (.Call (.Name x p) (e::es) [] pos) (tCB r t):=by
 intro pins s σ H Q I h;refine wpAny_Call_Name_kw (ld_blt I hg hm hv ?_ hn hdb);exact PyProof.Rows.callWith_type1 (thn (ha pos pins s σ H _ I h) λus s1 ⟨vs,H1,I1,r1,q1⟩=>hc pins s1 σ H1 vs us Q I1 r1 q1) he hpl
end
end L2
section
variable {P prog:PySem.Program}{w:PySem.World}{s:PySem.Shared}{X:L2.Cx}{e o:PySem.Expr}{pos:PySem.Pos}{i n:Nat}{α:Type}{a f:PySem.Addr}{pins:List (PySem.Addr×PySem.Obj)}{σ:L2.St}{H H':L2.Hp}{xs:List L2.V}{its its':List PySem.Value}{T:String}{qual x:PySem.Str}{h:PySem.Heap}{loose:List PySem.Str}{mg:PySem.Str->Option PySem.Value}{fd:PySem.FuncData}{st:PySem.Stmt}{u:PySem.Value}{y:L2.V}{kvs:List (L2.Key×L2.V)}{Q:PySem.Value->PySem.Shared->Prop}{env:PySem.Env}{scope:PySem.Scope}{js:List Nat}
namespace HT
open PySem PyProof.Rows
section
open PySem.SeqAt
open PySem.AutoSeq1 (wpAny_loadPart')
open PySem.MeetsSeq PySem.MeetsSeq2 PySem.MeetsSeq3
end
section
variable {A:Around}{E:Value->Shared->Prop}
noncomputable def sIx(n d:Nat):Option Int->Nat
 |none=>d
 |some v=>if v<0 then (v+(n:Int)).toNat else min v.toNat n
end
end HT
namespace L2
open PySem PySem.Spec PyProof.Rows
noncomputable abbrev TO:=St->Hp->(Option Int->Hp->Prop)->Prop
def PO(X:Cx)(e:Option Expr)(t:TO):Prop:=
 ∀(pins:List (Addr×Obj))(s:Shared)(σ:St)(H:Hp)(Q:Option Int->Hp->Prop),Inv X pins σ H s->t σ H Q->
  wpAny (model X.prog X.w) X.A (evalPart e X.env) (λu s'=>∃o H',Inv X pins σ H' s'/\IsPart u o/\Q o H') X.xe s
noncomputable def yx:TO:=λa H Q=>Q none H
noncomputable def Gj(t:TE):TO:=λσ H Q=>t σ H λx H1=>∃i,x=.int i/\Q (some i) H1
section
variable {te:TE}{lo hi:Option Expr}{tl th:TO}{p2:Pos}
def yy:PO X none yx:=by
 intro pins s σ H Q I h;rw[evalPart_none];exact wq0 ⟨none,H,I,.none,h⟩
def yz(h:PE X e te):PO X (some e) (Gj te):=by
 intro pins s σ H Q I hw;rw[evalPart_some];refine thn (h pins s σ H _ I hw) λu s1 ⟨x,H1,I1,r1,q1⟩=>?_
 obtain⟨i,rfl,q⟩:=q1;obtain⟨t,rfl⟩:=r1;exact⟨some i,H1,I1,.int i t,q⟩
def SlR(X:Cx)(r:V->Option Int->Option Int->Hp->VK->Prop):Prop:=
 ∀(pins:List (Addr×Obj))(s:Shared)(σ:St)(H:Hp)(x:V)(v vl vu:Value)(lo hi:Option Int)(sl:Addr)(Q:VK),Inv X pins σ H s->RelV x v->s.heap.IsSliceOf sl vl vu .none->IsPart vl lo->IsPart vu hi->r x lo hi H Q->
  ∃T id,typeLookup (.type T) "__getitem__"=pure (some (.builtin id))/\s.TypeIs v T/\wpAny (model X.prog X.w) X.A (getItem v (.ref sl)) (EP X pins σ Q) X.xe s
noncomputable def tSl(r:V->Option Int->Option Int->Hp->VK->Prop)(te:TE)(tl th:TO):TE:=λσ H Q=>te σ H λx H1=>tl σ H1 λl H2=>th σ H2 λu H3=>r x l u H3 Q
def ux{r:V->Option Int->Option Int->Hp->VK->Prop}(hr:SlR X r)(he:PE X e te)(hl:PO X lo tl)(hu:PO X hi th):PE X (.Subscript e (.Slice lo hi none p2) pos) (tSl r te tl th):=by
 intro pins s σ H Q I h;refine Subscript_ (thn (he pins s σ H _ I h) λv s1 ⟨x,H1,I1,r1,q1⟩=>?_);refine wpAny_Slice (thn (hl pins s1 σ H1 _ I1 q1) λvl s2 ⟨l,H2,I2,pl,q2⟩=>thn (hu pins s2 σ H2 _ I2 q2) λvu s3 ⟨u,H3,I3,pu,q3⟩=>?_);rw[evalPart_none];refine wq0 ?_;have I4:Inv X pins σ H3 {s3 with heap:=s3.heap.push {cls:=.type "slice",data:=.fields #[vl,vu,.none]}}:=I3.kept (t':=s3.toks) λb ob q=>ps0 _ q
 obtain⟨T,id,hT,ht,hg⟩:=hr pins {s3 with heap:=s3.heap.push {cls:=.type "slice",data:=.fields #[vl,vu,.none]}} σ H3 x v vl vu l u s3.heap.objs.size Q I4 r1 (Heap.IsSliceOf.new ..) pl pu q3;show wpAny (model X.prog X.w) X.A (subscriptTail e (.Slice lo hi none p2) v (.ref s3.heap.objs.size)) (EP X pins σ Q) X.xe {s3 with heap:=s3.heap.push {cls:=.type "slice",data:=.fields #[vl,vu,.none]}};exact tail_any (ops:=[.ref s3.heap.objs.size,v]) ht hT hg (by with_unfolding_all rfl)
noncomputable def rS(xs:List V)(lo hi:Option Int):List V:=(xs.drop (HT.sIx xs.length 0 lo)).take (HT.sIx xs.length xs.length hi-HT.sIx xs.length 0 lo)
def lQ(xs:List V)(lo hi:Option Int):(rS xs lo hi).length<=xs.length:=by
 unfold rS;rw[List.length_take,List.length_drop];omega
end
noncomputable def ixN(n:Nat)(i:Int):Option Nat:=if 0<=i then (if i<n then some i.toNat else none)else if -(n:Int)<=i then some (i+n).toNat else none
noncomputable def atI{α:Type}(xs:List α)(i:Int):Option α:=(ixN xs.length i).bind λj=>xs[j]?
def qe{i:Int}{j:Nat}(h:ixN n i=some j):seqIndex? i n=some j/\j<n/\ -(n:Int)<=i/\i<n:=by
 unfold ixN at h
 by_cases h0:0<=i
 .rw[if_pos h0]at h
  by_cases h1:i<n
  .rw[if_pos h1]at h
   have e:i.toNat=j:=Option.some.inj h;exact⟨by rw[seqIndex_of h0 h1,e],by omega,by omega,h1⟩
  .rw[if_neg h1]at h;cases h
 .rw[if_neg h0]at h
  by_cases h1:-(n:Int)<=i
  .rw[if_pos h1]at h
   have e:(i+n).toNat=j:=Option.some.inj h;exact⟨by rw[seqIndex_neg (by omega) h1,e],by omega,h1,by omega⟩
  .rw[if_neg h1]at h;cases h
def gJ{xs:List α}{i:Int}{v:α}(h:atI xs i=some v):∃j,seqIndex? i xs.length=some j/\xs[j]?=some v/\j<xs.length/\ -(xs.length:Int)<=i/\i<xs.length:=by
 unfold atI at h;cases e:ixN xs.length i with
 |none=>rw[e]at h;cases h
 |some j=>
  rw[e]at h;obtain⟨h1,h2,h3,h4⟩:=qe e;exact⟨j,h1,h,h2,h3,h4⟩
def lR(xs:List α)(v:α):atI (xs++[v]) (-1)=some v:=by
 have hl:(xs++[v]).length=xs.length+1:=by simp
 have e:ixN (xs++[v]).length (-1)=some xs.length:=by
  unfold ixN;rw[hl,if_neg (by decide),if_pos (by omega)]
  congr 1
  omega
 unfold atI;rw[e];show (xs++[v])[xs.length]?=some v;simp
def yA(b:Expr):Prop:=∀o i,subscripted b false o i=operate [o,i] (getItem o i)
def IxR(X:Cx)(r:R2):Prop:=
 ∀(value slice:Expr)(pins:List (Addr×Obj))(s:Shared)(σ:St)(H:Hp)(x y:V)(v u:Value)(Q:VK),Inv X pins σ H s->RelV x v->RelV y u->r x y H Q->
  subscripted slice false v u=operate [v,u] (getItem v u)->wpAny (model X.prog X.w) X.A (subscriptTail value slice v u) (EP X pins σ Q) X.xe s
def MtR(X:Cx)(id:String)(r:V->List V->Hp->VK->Prop):Prop:=
 ∀(pins:List (Addr×Obj))(s:Shared)(σ:St)(H:Hp)(x:V)(xs:List V)(v:Value)(us:List Value)(Q:VK),Inv X pins σ H s->RelV x v->Vals xs us->r x xs H Q->
  wpAny (model X.prog X.w) X.A (call (.builtin id) (v::us)) (EP X pins σ Q) X.xe s
section
variable {a b:Expr}{ta tb:TE}
def AY{r:R2}(hr:IxR X r)(ha:PE X a ta)(hb:PE X b tb)(hs:yA b):PE X (.Subscript a b pos) (tOp r ta tb):=by
 intro pins s σ H Q I h;exact Subscript_ (binT ha hb I h λv u s2 x y H2 I2 rx ry q=>hr a b pins s2 σ H2 x y v u Q I2 rx ry q (hs _ _))
noncomputable def Jw(K:fg0):R2:=λx y H Q=>∃p xs i v,x=.ref p/\y=.int i/\SqL K H p xs/\atI xs i=some v/\Q v H
noncomputable def Jx(K:fg0):R2:=λx y H Q=>∃p xs i v,x=.ref p/\y=.int i/\SqT K H p xs/\atI xs i=some v/\Q v H
noncomputable def Jy:R2:=λx y H Q=>∃z i c,x=.str z/\y=.int i/\z.length<=sizeLine/\atI z.cps.toList i=some c/\Q (.str ⟨#[c]⟩) H
def qf:IxR X (Jw X.K):=by
 intro value slice pins s σ H x y v u Q I rx ry h hs;obtain⟨p,xs,i,z,rfl,rfl,hq,he,q⟩:=h;cases rx;obtain⟨t,rfl⟩:=ry;obtain⟨its,r,pl,hz⟩:=I.list hq;obtain⟨j,h1,h2,h3,h4,h5⟩:=gJ he;obtain⟨w,ew,rw'⟩:=r.get h2;have hl:=r.length;have hn:=eF;have fin:EP X pins σ Q w s:=⟨z,H,I,rw',q⟩
 by_cases h0:0<=i
 .have hj:i.toNat=j:=by
   rw[seqIndex_of h0 h5]at h1;exact Option.some.inj h1
  exact item_listR pl.isList h0 (by omega) (by rw[hj];simpa using ew) fin hs
 .have hj:(i+(its.toArray.size:Int)).toNat=j:=by
   rw[seqIndex_neg (by omega) h4]at h1;rw[ls0,<-hl];exact Option.some.inj h1
  exact subscriptTail_builtinR (x:=w) pl.isList.typeIs slot_list_getitem.lookup
   (wpAny_getItem_list_neg (Q:=λr s'=>r=w/\EP X pins σ Q r s') pl.isList (by omega) (by rw[ls0]<;>omega) (by omega) (by rw[hj];simpa using ew) ⟨rfl,fin⟩) hs
def Cw:IxR X (Jx X.K):=by
 intro value slice pins s σ H x y v u Q I rx ry h hs;obtain⟨p,xs,i,z,rfl,rfl,hq,he,q⟩:=h;cases rx;obtain⟨t,rfl⟩:=ry;obtain⟨its,r,pl,hz⟩:=I.tuple hq;obtain⟨j,h1,h2,h3,h4,h5⟩:=gJ he;obtain⟨w,ew,rw'⟩:=r.get h2;have hl:=r.length;have hn:=eF;have fin:EP X pins σ Q w s:=⟨z,H,I,rw',q⟩;exact subscriptTail_builtinR (x:=w) pl.typeIs slot_tuple_getitem.lookup
  (getItem_tuple (j:=j) (Q:=λr s'=>r=w/\EP X pins σ Q r s') pl (by omega) (by omega) (by rw[ls0,<-hl];exact h1) (by simpa using ew) ⟨rfl,fin⟩) hs
def Cy:IxR X Jy:=by
 intro value slice pins s σ H x y v u Q I rx ry h hs;obtain⟨z,i,c,rfl,rfl,hz,he,q⟩:=h;obtain⟨t,rfl⟩:=rx;obtain⟨t',rfl⟩:=ry;obtain⟨j,h1,h2,h3,h4,h5⟩:=gJ he;have hl:z.cps.toList.length=z.length:=by simp[Str.length]
 rw[hl]at h1 h4 h5;have hn:=eF;exact tail_any (typeIs_str s z t) slot_str_getitem.lookup (getItem_str (c:=c) (by
  have e1:decide (i < -(2 ^ 63:Int))=false:=df0 (by omega);have e2:decide (i≥2 ^ 63)=false:=df0 (by omega);rw[e1,e2,Bool.or_false]) (by rw[h1];simpa using h2) ⟨.str ⟨#[c]⟩,H,I.tok _,⟨_,rfl⟩,q⟩) hs
def ox(its:List Value)(n j:Nat)(u:Value):Obj.mapSeq (·.setIfInBounds j u) {cls:=.type "list",data:=.seq its.toArray n}={cls:=.type "list",data:=.seq (its.set j u).toArray n}:=by
 simp[Obj.mapSeq]
theorem Inv.lst{p:Addr}(I:Inv X pins σ H s)(h:H p=some (.lst xs)):
  ∃(its:List Value)(n:Nat),Vals xs its/\s.heap.get? p=some {cls:=.type "list",data:=.seq its.toArray n}/\xs.length<=sizeLine:=by
 obtain⟨z,its,n,r,e⟩:=I.hok p _ h;exact⟨its,n,r,e,z⟩
def Inv.lstUpd{p:Addr}{ys:List V}{n':Nat}{f:Obj->Obj}(I:Inv X pins σ H s)(h:H p=some (.lst xs))
  (ho:s.heap.get? p=some {cls:=.type "list",data:=.seq its.toArray n}) (hf:f {cls:=.type "list",data:=.seq its.toArray n}={cls:=.type "list",data:=.seq its'.toArray n'}) (r:Vals ys its') (hz:ys.length<=sizeLine) (t:Nat):
  Inv X pins σ (upd H p (.lst ys)) {s with heap:=s.heap.update p f,toks:=t}:=by
 have e:(s.heap.update p f).get? p=some {cls:=.type "list",data:=.seq its'.toArray n'}:=by
  rw[hu0 f ho (by rw[hf]<;>rfl),hf]
 refine I.write (x:=p) (e:=p) (by rw[h];trivial) (.inl rfl) (λb u hb q=>(Heap.get?_update_other _ _ (Ne.symm hb)).trans q) ⟨_,e⟩ ?_;exact⟨hz,its',n',r,e⟩
noncomputable def Gk:V->V->V->Hp->(Hp->Prop)->Prop:=λo i v H Q=>∃p xs k j,o=.ref p/\i=.int k/\H p=some (.lst xs)/\ixN xs.length k=some j/\Q (upd H p (.lst (xs.set j v)))
def set_list:Cd X Gk:=by
 intro pins s σ H o i v ov iv u Q I ro ri rv h;obtain⟨p,xs,k,j,rfl,rfl,hp,hj,q⟩:=h;cases ro;obtain⟨t,rfl⟩:=ri;obtain⟨its,n,r,ho,hz⟩:=I.lst hp;obtain⟨h1,h2,h3,h4⟩:=qe hj;have hl:=r.length;have hn:=eF;have I':Inv X pins σ (upd H p (.lst (xs.set j v))) {s with heap:=s.heap.update p (Obj.mapSeq (·.setIfInBounds j u))}:=
  I.lstUpd hp ho (ox its n j u) (r.set rv j) (by rw[List.length_set];exact hz) s.toks
 by_cases h0:0<=k
 .have hk:k.toNat=j:=by
   rw[seqIndex_of h0 h4]at h1;exact Option.some.inj h1
  exact PySem.W.ki_setAt ho h0 (by omega) (by rw[ls0,<-hl];exact h4) (by rw[hk];exact⟨_,I',q⟩)
 .have hk:(k+(its.toArray.size:Int)).toNat=j:=by
   rw[seqIndex_neg (by omega) h3]at h1;rw[ls0,<-hl];exact Option.some.inj h1
  exact PySem.W.ki_setBack ho (by omega) (by rw[ls0,<-hl];exact h3) (by omega) (by rw[hk];exact⟨_,I',q⟩)
def ku(lo hi:Option Int)(n:Nat):(sliceBounds lo hi none n).1=((HT.sIx n 0 lo:Nat):Int)/\(sliceBounds lo hi none n).2.1=((HT.sIx n n hi:Nat):Int)/\(sliceBounds lo hi none n).2.2=1:=by
 refine⟨?_,?_,rfl⟩
 .cases lo with
  |none=>simp[sliceBounds,HT.sIx]
  |some i=>
   simp only[sliceBounds,HT.sIx,Option.getD_none,show (1:Int)>0 by decide,if_true]
   by_cases h:i<0
   .simp only[h,if_true]<;>omega
   .simp only[h,if_false]<;>omega
 .cases hi with
  |none=>simp[sliceBounds,HT.sIx]
  |some i=>
   simp only[sliceBounds,HT.sIx,Option.getD_none,show (1:Int)>0 by decide,if_true]
   by_cases h:i<0
   .simp only[h,if_true]<;>omega
   .simp only[h,if_false]<;>omega
def jb(its:List Value)(lo hi:Option Int):slicePick its.toArray lo hi none=((its.drop (HT.sIx its.length 0 lo)).take (HT.sIx its.length its.length hi-HT.sIx its.length 0 lo)).toArray:=by
 obtain⟨h1,h2,h3⟩:=ku lo hi its.toArray.size;unfold slicePick;rw[h1,h2,h3];simp only[sliceRange_one,pick_run,ls0]<;>rfl
noncomputable def Jz(K:fg0):V->Option Int->Option Int->Hp->VK->Prop:=λx lo hi H Q=>∃a xs,x=.ref a/\SqL K H a xs/\∀p,H p=none->Q (.ref p) (upd H p (.lst (rS xs lo hi)))
def qg:SlR X (Jz X.K):=by
 intro pins s σ H x v vl vu lo hi sl Q I rx hs pl pu h;obtain⟨a,xs,rfl,hx,q⟩:=h;cases rx;obtain⟨its,r,ht,hz⟩:=I.list hx;have hlen:=r.length;refine⟨"list",_,slot_list_getitem.lookup,ht.isList.typeIs,?_⟩;refine wpAny_getItem_list_slice ht.isList hs pl pu .none (by simp) ?_ (by rw[ls0]<;>omega);rw[jb,<-hlen];refine⟨.ref s.heap.objs.size,_,I.laid (t':=s.toks) (o:=.lst (rS xs lo hi)) (λb ob q=>ps0 _ q) (nr0 _) ?_,rfl,q _ (I.hok.fresh (nr0 _))⟩;exact⟨nt0 (lQ xs lo hi) hz,_,0,(r.drop (HT.sIx xs.length 0 lo)).take (HT.sIx xs.length xs.length hi-HT.sIx xs.length 0 lo),pz0 _ rfl⟩
def kx:OpR X (compareOp .NotIn) (λx y H Q=>∃i j,x=.str i/\y=.str j/\Q (.bl (!(!(Builtin.Str.occurrences j i 0 j.length 1).isEmpty))) H):=by
 intro pins s σ H x y v u Q I rx ry h;obtain⟨i,j,rfl,rfl,q⟩:=h;obtain⟨t,rfl⟩:=rx;obtain⟨t',rfl⟩:=ry;exact notIn_str ⟨.bl _,H,I,rfl,q⟩
def ky:aW X (.builtin "len") (λxs H Q=>∃p ys,xs=[.ref p]/\(SqL X.K H p ys\/SqT X.K H p ys)/\Q (.int ys.length) H):=by
 intro pins s σ H xs us Q I r h;obtain⟨p,ys,rfl,hq,q⟩:=h;obtain⟨u,rfl,rx⟩:=vals1 r;cases rx;have hn:=eF;rcases hq with hq|hq
 .obtain⟨its,r',pl,hz⟩:=I.list hq
  have hlen:=r'.length;exact Calls.call_len_list pl.isList (by simp only[ls0]<;>omega) ⟨.int ys.length,H,I.tok _,⟨s.toks+1,by rw[ls0,hlen]⟩,q⟩
 .obtain⟨its,r',pl,hz⟩:=I.tuple hq
  have hlen:=r'.length;exact len_tuple pl (by simp only[ls0]<;>omega) ⟨.int ys.length,H,I.tok _,⟨s.toks+1,by rw[ls0,hlen]⟩,q⟩
def eR:aW X (.type "list") (λxs H Q=>∃p ys,xs=[.ref p]/\(SqL X.K H p ys\/SqT X.K H p ys)/\∀l,H l=none->Q (.ref l) (upd H l (.lst ys))):=by
 intro pins s σ H xs us Q I r h;obtain⟨p,ys,rfl,hq,q⟩:=h;obtain⟨u,rfl,rx⟩:=vals1 r;cases rx;have fin:∀(its:List Value),Vals ys its->ys.length<=sizeLine->∀(h':Heap)(c':Nat),(∀b o',s.heap.get? b=some o'->h'.get? b=some o')->
   h'.get? s.heap.objs.size=some {cls:=.type "list",dict:=none,data:=.seq its.toArray c',slots:=#[]}->EP X pins σ Q (.ref s.heap.objs.size) {s with heap:=h'}:=λits r' hz h' c' kp e=>
  ⟨.ref s.heap.objs.size,_,I.laid (t':=s.toks) kp (nr0 _) (show ObjOk X.prog X.w _ h' _ (.lst ys)from⟨hz,its,c',r',e⟩),rfl,q _ (I.hok.fresh (nr0 _))⟩
 rcases hq with hq|hq
 .obtain⟨its,r',pl,hz⟩:=I.list hq
  have hlen:=r'.length;obtain⟨o,ho,hc,n,hd⟩:=pl.isList;exact call_list_seq p (.inl rfl) ho hc hd (λh' c' kp e=>fin its r' hz h' c' kp e) (by simp only[ls0]<;>omega)
 .obtain⟨its,r',pl,hz⟩:=I.tuple hq
  have hlen:=r'.length;obtain⟨o,ho,hc,n,hd⟩:=pl;exact call_list_seq p (.inr rfl) ho hc hd (λh' c' kp e=>fin its r' hz h' c' kp e) (by simp only[ls0]<;>omega)
def eB:aW X (.type "tuple") (λxs H Q=>∃p ys,xs=[.ref p]/\((SqL X.K H p ys/\∀l,H l=none->Q (.ref l) (upd H l (.tup ys)))\/(SqT X.K H p ys/\Q (.ref p) H))):=by
 intro pins s σ H xs us Q I r h;obtain⟨p,ys,rfl,h⟩:=h;obtain⟨u,rfl,rx⟩:=vals1 r;cases rx;rcases h with⟨hq,q⟩|⟨hq,q⟩
 .obtain⟨its,r',pl,hz⟩:=I.list hq
  have hlen:=r'.length;refine call_tuple_list pl.isList (λh' kp=>?_) (by simp only[ls0]<;>omega);have I1:Inv X pins σ H {s with heap:=h'}:=I.kept (t':=s.toks) kp;have I2:Inv X pins σ (upd H h'.objs.size (.tup ys)) {s with heap:=h'.push {cls:=.type "tuple",data:=.seq its.toArray}}:=
   I1.laid (t':=s.toks) (λb o e=>ps0 _ e) (nr0 _) (show ObjOk X.prog X.w _ _ _ (.tup ys)from⟨hz,its,r',IsTup.new _ _⟩)
  exact⟨.ref h'.objs.size,_,I2,rfl,q _ (I1.hok.fresh (nr0 _))⟩
 .obtain⟨its,r',pl,hz⟩:=I.tuple hq
  exact call_tuple_same pl ⟨.ref p,H,I,rfl,q⟩
def tyV(K:fg0)(T:String)(x:V)(H:Hp):Prop:=match x with
 |.str _=>T="str"
 |.int _=>T="int"
 |.ref p=>(T="list"/\∃xs,SqL K H p xs)\/(T="tuple"/\∃o,K.lookup p=some o/\o.cls=.type "tuple"/\o.dict=none)\/
   (T="dict"/\((∃kvs,H p=some (.dK kvs))\/∃kvs,H p=some (.dT kvs)))\/(T="set"/\∃S n,H p=some (.set S n))
 |_=>False
def Cz{x:V}{v:Value}(I:Inv X pins σ H s)(r:RelV x v)(ty:tyV X.K T x H):
  s.TypeIs v T/\∀a,v=.ref a->∃ob,s.heap.get? a=some ob/\ob.dict=none:=by
 cases x with
 |str z=>
  obtain⟨t,rfl⟩:=r;cases (show T="str" from ty);exact⟨typeIs_str s z t,λb e=>nomatch e⟩
 |int i=>
  obtain⟨t,rfl⟩:=r;cases (show T="int" from ty);exact⟨typeIs_int s i t,λb e=>nomatch e⟩
 |ref p=>
  cases r;rcases ty with⟨rfl,xs,hq⟩|⟨rfl,o,hk,hc,hd⟩|⟨rfl,hk⟩|⟨rfl,S,n,hk⟩
  .obtain⟨its,_,pl,_⟩:=I.list hq
   refine⟨pl.isList.typeIs,λa e=>?_⟩;cases e;obtain⟨o,n,e,c,hd,_⟩:=pl;exact⟨o,e,hd⟩
  .refine⟨⟨o,I.kIn p o hk,hc⟩,λa e=>?_⟩
   cases e;exact⟨o,I.kIn _ o hk,hd⟩
  .have z:∃o,s.heap.get? p=some o/\o.ExactDict:=by
    rcases hk with⟨kvs,hk⟩|⟨kvs,hk⟩
    .obtain⟨_,_,_,_,o,_,_,e,ex,_⟩:=I.hok p _ hk
     exact⟨o,e,ex⟩
    .obtain⟨_,_,_,_,o,_,_,e,ex,_⟩:=I.hok p _ hk
     exact⟨o,e,ex⟩
   obtain⟨o,e,ex⟩:=z;refine⟨⟨o,e,ex.1⟩,λa e2=>?_⟩;cases e2;exact⟨o,e,ex.2.1⟩
  .obtain⟨o,_,_,_,e,ex,_⟩:=I.hok p _ hk
   refine⟨⟨o,e,ex.1⟩,λa e2=>?_⟩;cases e2;exact⟨o,e,ex.2.1⟩
 |_=>exact False.elim ty
noncomputable def tBM(K:fg0)(T:String)(r:V->List V->Hp->VK->Prop)(to:TE)(t:TA):TE:=λσ H Q=>to σ H λx H1=>tyV K T x H1/\t σ H1 λxs H2=>r x xs H2 Q
variable {es:List Expr}{to:TE}{t:TA}{name:Str}{apos cpos:Pos}{id:String}{r:V->List V->Hp->VK->Prop}
def ju(pa:PlainAttrs T)(slot:Slot T name id)(hty:typeOf (.builtin id)=pure (.type "method_descriptor"))(hm:MtR X id r)(ho:PE X o to)(ha:PA X (e::es) t)
  (hbase:attributeBase o name X.env (eval o X.env)=eval o X.env:=by rfl)
  (hfew:((backTo cpos (starEach (e::es) X.env)).all (λx=>!x.1)&&(backToKw cpos (keywordEach [] X.env)).all (λx=>x.1.isSome)
   &&decide ((e::es).length+([]:List Keyword).length+(if ([]:List Keyword).isEmpty then 0 else 1)<30))=true:=by rfl)
  (hline:(apos.endLine==cpos.line)=true:=by rfl) (hs:starEach (e::es) X.env=(false,eval e X.env)::starEach es X.env:=by rfl) (hplain:(backTo cpos (starEach es X.env)).any (·.1)=false:=by rfl):
  PE X (.Call (.Attribute o name apos) (e::es) [] cpos) (tBM X.K T r to t):=by
 intro pins s σ H Q I h;refine wpAny_Call_method_late hbase hfew hline rfl (thn (ho pins s σ H _ I h) λv s1 ⟨x,H1,I1,r1,ty,q1⟩=>?_);obtain⟨h1,h2⟩:=Cz I1 r1 ty;refine⟨T,id,pa,slot,hty,h1,h2,?_⟩;have hA:=ha cpos pins s1 σ H1 _ I1 q1;rw[hs]at hA ⊢;refine Calls.callWith_builtin (by show (false||(backTo cpos (starEach es X.env)).any (·.1))=false;rw[hplain]<;>rfl) (Calls.evalArgs_plain ?_);exact thn hA λus s2 ⟨vs,H2,I2,r2,q2⟩=>hm pins s2 σ H2 x vs v us Q I2 r1 r2 q2
end
def MtM(X:Cx)(id:String)(r:V->List V->Hp->VK->Prop):Prop:=
 ∀(pins:List (Addr×Obj))(s:Shared)(σ:St)(H:Hp)(x:V)(xs:List V)(v:Value)(us:List Value)(Q:VK),Inv X pins σ H s->RelV x v->Vals xs us->r x xs H Q->
  wpAny (model X.prog X.w) X.A (call (.builtin id) (v::us)) (EP X pins σ Q) X.xe s
def Vals.one:∀{x:V}{us:List Value},Vals [x] us->∃u,us=[u]/\RelV x u
 |_,_,.cons r .nil=>⟨_,rfl,r⟩
theorem Vals.rep{us:List Value}(h:Vals xs us):∀k:Nat,Vals (List.replicate k xs).flatten (List.replicate k us).flatten
 |0=>.nil
 |k+1=>by
  rw[List.replicate_succ,List.replicate_succ,List.flatten_cons,List.flatten_cons];exact Vals.append h (Vals.rep h k)
theorem foldl_rep(its:List Value):∀(k:Nat)(acc:List Value),
  List.foldl (λx1 x2=>x1++x2) acc.toArray (List.replicate k its.toArray)=(acc++(List.replicate k its).flatten).toArray
 |0,acc=>by simp
 |k+1,acc=>by
  have e:acc.toArray++its.toArray=(acc++its).toArray:=by simp
  have e2:(acc++its)++(List.replicate k its).flatten=acc++(List.replicate (k+1) its).flatten:=by
   rw[List.replicate_succ,List.flatten_cons,List.append_assoc]
  rw[<-e2,<-foldl_rep its k (acc++its),<-e,List.replicate_succ,List.foldl_cons]
section
variable {l b:Addr}{ys zs:List V}
def Inv.lset{f:Array Value->Array Value}{t':Nat}(I:Inv X pins σ H s)(hH:H l=some (.lst xs))
  (e:s.heap.get? l=some {cls:=.type "list",data:=.seq its.toArray n}) (hf:f its.toArray=its'.toArray) (hv:Vals ys its') (hz:ys.length<=sizeLine):
  Inv X pins σ (upd H l (.lst ys)) {s with heap:=s.heap.update l (Obj.mapSeq f),toks:=t'}:=by
 have q:=PySem.IsL.update e f;rw[hf]at q;refine I.write (x:=l) (e:=l) (by rw[hH];exact trivial) (.inl rfl) (λb' u hb hu=>(Heap.get?_update_other s.heap (Obj.mapSeq f) (Ne.symm hb)).trans hu) ⟨_,q⟩ ?_;exact⟨hz,its',_,hv,q⟩
def Inv.lnew{t':Nat}(I:Inv X pins σ H s)(hv:Vals ys its)(hz:ys.length<=sizeLine):
  Inv X pins σ (upd H s.heap.objs.size (.lst ys)) {s with heap:=s.heap.push {cls:=.type "list",data:=.seq its.toArray},toks:=t'}:=
 I.laid (λa a q=>ps0 _ q) (nr0 _) ⟨hz,its,0,hv,pz0 _ rfl⟩
theorem Inv.fresh(I:Inv X pins σ H s):H s.heap.objs.size=none:=I.hok.fresh (nr0 _)
def Inv.lstM(I:Inv X pins σ H s)(hH:H l=some (.lst xs)):xs.length<=sizeLine/\∃(its:List Value)(n:Nat),Vals xs its/\xs.length=its.length/\s.heap.get? l=some {cls:=.type "list",data:=.seq its.toArray n}:=by
 obtain⟨z,its,n,r,e⟩:=I.hok l _ hH;exact⟨z,its,n,r,r.length,e⟩
def lS(h:n<=sizeLine):Builtin.List.listTooLong n=false:=by
 unfold Builtin.List.listTooLong;exact df0 (by omega)
end
noncomputable def yB:V->List V->Hp->VK->Prop:=λx vs H Q=>∃l xs y,x=.ref l/\vs=[y]/\H l=some (.lst xs)/\xs.length<sizeLine/\Q .non (upd H l (.lst (xs++[y])))
def fC:MtM X "list.append" yB:=by
 intro pins s σ H x vs v us Q I rx rv h;obtain⟨l,xs,y,rfl,rfl,hH,hz,q⟩:=h;cases rx;obtain⟨u,rfl,ru⟩:=rv.one;obtain⟨z,its,n,r,hl,e⟩:=I.lstM hH;refine call_meets F.slot_list_append ⟨_,e,rfl⟩ F.entry_list_append (F.args_list_append_2 _ _) (PySem.list_append l its.toArray n u (by rw[ls0];omega)) ⟨e,?_⟩;refine⟨.non,_,I.lset (its':=its++[u]) hH e (by simp) (r.append (.cons ru .nil)) ?_,rfl,q⟩;rw[la0,List.length_singleton];omega
noncomputable def yC:V->List V->Hp->VK->Prop:=λx vs H Q=>∃l b xs zs,x=.ref l/\vs=[.ref b]/\H l=some (.lst xs)/\H b=some (.lst zs)/\xs.length+zs.length<=sizeLine/\Q .non (upd H l (.lst (xs++zs)))
def rT:MtM X "list.extend" yC:=by
 intro pins s σ H x vs v us Q I rx rv h;obtain⟨l,b,xs,zs,rfl,rfl,hH,hB,hz,q⟩:=h;cases rx;obtain⟨u,rfl,ru⟩:=rv.one;cases ru;obtain⟨z,its,n,r,hl,e⟩:=I.lstM hH;obtain⟨z2,its2,n2,r2,hl2,e2⟩:=I.lstM hB;have hsz:its.toArray.size+its2.toArray.size<=sizeLine:=by rw[ls0,ls0];omega
 have hlong:¬ (!its.toArray.isEmpty&&Builtin.List.listTooLong (its.toArray.size+its2.toArray.size))=true:=by
  rw[lS hsz,Bool.and_false];exact fx0
 refine call_meets F.slot_list_extend ⟨_,e,rfl⟩ F.entry_list_extend (F.args_list_extend_2 _ _)
  (AutoSeq1.list_extend_list_list_0 l its.toArray n b its2.toArray n2 hlong (by rw[ls0];omega) (by omega)) ⟨e,e2,?_⟩
 refine⟨.non,_,I.lset (its':=its++its2) hH e (by simp) (r.append r2) ?_,rfl,q⟩;rw[la0];omega
noncomputable def JA:R2:=λx y H Q=>∃l b xs zs,x=.ref l/\y=.ref b/\H l=some (.lst xs)/\H b=some (.lst zs)/\xs.length+zs.length<=sizeLine/\∀p,H p=none->Q (.ref p) (upd H p (.lst (xs++zs)))
def op_cat:OpR X (binaryOp .Add) JA:=by
 intro pins s σ H x y v u Q I rx ry h;obtain⟨l,b,xs,zs,rfl,rfl,hH,hB,hz,q⟩:=h;cases rx;cases ry;obtain⟨z,its,n,r,hl,e⟩:=I.lstM hH;obtain⟨z2,its2,n2,r2,hl2,e2⟩:=I.lstM hB;refine PySem.P.add_list e e2 ?_ (by rw[ls0,ls0];omega);have ea:its.toArray++its2.toArray=(its++its2).toArray:=by simp
 rw[ea];exact⟨.ref _,_,I.lnew (t':=s.toks) (r.append r2) (by rw[la0];omega),rfl,q _ I.fresh⟩
noncomputable def JB:R2:=λx y H Q=>∃l k xs,x=.ref l/\y=.int k/\H l=some (.lst xs)/\ -(2 ^ 63)<=k/\k<2 ^ 63/\xs.length*k.toNat<=sizeLine/\
 ∀p,H p=none->Q (.ref p) (upd H p (.lst (List.replicate k.toNat xs).flatten))
def len_rep(xs:List α)(k:Nat):(List.replicate k xs).flatten.length=k*xs.length:=by
 induction k with
 |zero=>simp
 |succ k ih=>rw[List.replicate_succ,List.flatten_cons,la0,ih,Nat.succ_mul,Nat.add_comm]
def CA:OpR X (binaryOp .Mult) JB:=by
 intro pins s σ H x y v u Q I rx ry h;obtain⟨l,k,xs,rfl,rfl,hH,h1,h2,hz,q⟩:=h;cases rx;obtain⟨t,rfl⟩:=ry;obtain⟨z,its,n,r,hl,e⟩:=I.lstM hH;have hlen:its.toArray.size*k.toNat<=sizeLine:=by rw[ls0,<-hl];exact hz
 have hcap:¬ its.toArray.size*k.toNat>(2 ^ 63-1) / 8:=by
  have:(sizeLine:Nat)<=(2 ^ 63-1) / 8:=by decide
  omega
 have hfit:¬ (!Builtin.List.listFitsIndex k)=true:=by
  rw[fitsIndex_both h1 h2];exact fx0
 have hlong:¬ Builtin.List.listTooLong (its.toArray.size*k.toNat)=true:=by
  rw[lS hlen];exact fx0
 have hnew:List.foldl (λx1 x2=>x1++x2) #[] (List.replicate (if its.toArray.isEmpty=true then 0 else k.toNat) its.toArray)=(List.replicate k.toNat its).flatten.toArray:=by
  have f0:∀m:Nat,List.foldl (λx1 x2=>x1++x2) #[] (List.replicate m its.toArray)=(List.replicate m its).flatten.toArray:=λm=>by
   have:=foldl_rep its m [];rw[List.nil_append]at this;exact this
  rw[f0];cases its with
  |nil=>simp
  |cons a r'=>rw[if_neg (by simp)]
 refine wpAny_binaryOp_repeat_ref (T:="list") (U:="int") (by decide) ⟨_,e,rfl⟩ (λs'=>typeIs_int s' k t) noFill_list_mul F.fills_int_mul F.slot_int_rmul repeat_list F.slot_int_index.lookup
  (call_meets F.slot_int_rmul (typeIs_int s k t) F.entry_int_rmul (F.args_int_rmul_2 _ _) (int___rmul___int_list k t l its.toArray n)
   ⟨e,rfl,⟨_,e,rfl⟩,call_meets F.slot_list_mul ⟨_,e,rfl⟩ F.entry_list_mul (F.args_list_mul_2 _ _) (AutoListH.list___mul___list_int_3 l its.toArray n k t hfit hcap hlong) ⟨e,?_⟩⟩)
 rw[hnew];exact⟨.ref _,_,I.lnew (t':=s.toks) (r.rep k.toNat) (by rw[len_rep,Nat.mul_comm];exact hz),rfl,q _ I.fresh⟩
section
variable {A:Around}{E:Value->Shared->Prop}
end
end L2
namespace Att
open PySem PySem.W PySem.Calls PyProof.Rows
def gA{P:Params}:∀(ns:List Int)(vs:List Value),WellAll P h vs (ns.map WData.int)->IntsAre vs ns:=by
 intro ns
 induction ns with
 |nil=>
  intro vs w;rw[List.map_nil]at w;cases w;exact .nil
 |cons n ns ih=>
  intro vs w;rw[mk0]at w;cases w with
  |cons a b=>
   cases a;exact .cons _ _ (ih _ b)
def rV{l:OpenLaw}(hn:l.most=some n){P:Params}{args:List WData}{vals:List Value}
  (hpre:l.row.toRowW.claim.pre args=true) (hwl:WellAll P h vals args):
  ∃a vs ns,vals=[Value.ref a]/\args=[WData.list (ns.map WData.int)]/\h.get? a=some {cls:=.type "list",data:=.seq vs.toArray}/\IntsAre vs ns/\ns.length<=n:=by
 have hsh:WShape.hasAll [] args [.list .int]=true:=(pre_splitW hpre).1;have hc:l.pre.holds [] {args:=args}=true:=(pre_splitW hpre).2;obtain⟨d,r,rfl,h1,h2⟩:=hasAllW_cons hsh;obtain rfl:=hasAllW_nil h2;obtain⟨xs,rfl,h3⟩:=hasW_list h1;obtain⟨ns,rfl⟩:=items_int h3;have hlen:ns.length<=n:=by
  unfold OpenLaw.pre at hc;have h4:(WTm.not (.lt (.lit (.int (n:Int))) (.len (.arg 0)))).holds [] {args:=[.list (ns.map .int)]}=true:=by
   have h4:=(holds_andW hc).1;rw[hn]at h4;exact h4
  have h5:=condW_of h4 (w_not (w_lt w_lit (w_len_list (w_arg rfl))));rw[lm0]at h5;refine Nat.le_of_not_lt λq=>?_
  have q':(n:Int)<((ns.length:Nat):Int):=by omega
  first
   |(rw[dt0 q']at h5;exact absurd h5 (by decide))
   |(simp at h5;omega)
 cases hwl with
 |cons w1 w2=>
  cases w2;cases w1 with
  |list ho hall=>exact⟨_,_,ns,rfl,rfl,ho,gA ns _ hall,hlen⟩
def rW(l:OpenLaw)(args:List WData):l.row.toRowW.claim.post args (.bool true) args=true:=
 postW_of (r:=l.row.toRowW) (X:=(true==true))
  (show WShape.has [] (.bool true) .bool=true by first|rfl|decide|simp[WShape.has,WShape.arms,WShape.armsAll])
  (show (WTm.eq .res (.lit (.bool true))).value [] {args:=args,res:=some (.bool true),after:=args}=some (.bool (true==true))from w_eq_bool (w_res rfl) w_lit) rfl
def attach_call{l:OpenLaw}{q:Program}{XP:(Str->Option Value)->Heap->Prop}{YP:World->Heap->Prop}{d:DefRec}
  (hn:l.most=some n) (hdf:d.params.defaults=[])
  (call:∀(w:World)(s₀ s₁:Shared)(mg mb:Str->Option Value)(fa:Addr)(o:Obj)(pm cd doc:Value)(a:Addr)(vs:List Value)(ns:List Int),
   Ground q loose [] XP w s₀ mg mb s₁.heap->YP w s₁.heap->
   s₁.heap.get? fa=some o->o.data=.func (docDef d.name d.params d.body d.scope pm cd doc)->s₁.heap.CodeRec cd d.name->mg d.name=some (.ref fa)->
   s₁.heap.get? a=some {cls:=.type "list",data:=.seq vs.toArray}->IntsAre vs ns->ns.length<=n->s₁.gens=#[]->
   codeAny (model l.prog w) callerA (.call (.ref fa) ⟨[.ref a],[]⟩) (λr s'=>r=.ok (.ret (.bool true))/\OldK s₁.heap s'.heap/\s'.os=s₁.os/\AllBare s'.gens) s₁):
  WalkO q loose XP YP l.row.toRowW d [] (λf vs=>PySem.call f vs):=by
 intro w s₀ s₁ mg mb G Y fa o pm cd doc dV kV ho hd hcd hD hmg hg args vals as hpre hlay hrd hwl hlo;obtain rfl:dV=.none:=Dflts.none hD hdf;obtain rfl:kV=.none:=Dflts.noKw hD;obtain⟨a,vs,ns,rfl,rfl,hobj,hints,hlen⟩:=rV hn hpre hwl;refine enter_call (codeAny_mono (call w s₀ s₁ mg mb fa o pm cd doc a vs ns G Y ho (fd_plain hd) hcd hmg hobj hints hlen hg) λr s' hq=>?_);obtain⟨rfl,h2,h3,h4⟩:=hq;exact⟨.inl ⟨.bool true,.bool true,[],rfl,λb=>rfl,.bool true,rW l _,λb=>⟨List.Pairwise.nil,λb hm=>(nomatch hm)⟩⟩,h2,h3,h4⟩
section
variable {A:Around}{E:Value->Shared->Prop}{K:Frag}
end
end Att
namespace L2
open PySem PySem.Spec PyProof.Rows
theorem fD:∀{vs:List Value}{ns:List Int},IntsAre vs ns->Vals (ns.map V.int) vs
 |_,_,.nil=>.nil
 |_,_,.cons n t h=>.cons ⟨t,rfl⟩ (fD h)
set_option tactic.hygienic true in
theorem uy{β:Type}[BEq α][LawfulBEq α]{a:α}{b:β}:∀{l:List (α×β)},l.lookup a=some b->(a,b)∈l
 |[],h=>by cases h
 |(x,y)::l,h=>by
  rw[lk0]at h;split at h
  .rename_i e;cases h;rw[eq_of_beq e];exact ms0
  .exact mc0 _ (uy h)
def CB(H:Hp):Prop:=(∀b,H b=none\/(∃o xs,H b=some (.frz o (.lst xs)))\/∃p∈lamTs,b=p.1/\H b=some (.tbl p.2 #[]))/\∀p∈lamTs,H p.1=some (.tbl p.2 #[])
def uz{K:fg0}{mb:Str->Option Value}{CX:CXT}{k:Nat}{fa:Addr}{sp:Sp}{s₁:Shared}{vs:List Value}{ns:List Int}
  (KX:K.In s₁.heap) (hns:s₁.heap.Ns mainGlobals mg) (hb:s₁.heap.Ns builtinsNs mb) (hbb:∀x:Str,x≠"__name__"->mb x=bootBuiltins x) (hlim:s₁.heap.NoLimit) (hg:s₁.gens=#[])
  (ha:s₁.heap.get? a=some {cls:=.type "list",data:=.seq vs.toArray}) (hi:IntsAre vs ns) (hl:ns.length<=sizeLine) (hr:Room k callerA)
  (F:∀base:Heap,K.In base->base.Ns mainGlobals mg->FnOk P w K mg base CX k fa fd [x] sp) (hbind:∀(s:Shared)(u:Value),BindsTo s fd ⟨[u],[]⟩ [(x,u)])
  (hsp:∀H:Hp,CB H->SqL K H a (ns.map V.int)->sp [.ref a] H (λv c=>v=.bl true) λc c c=>False)
  (hCX:∀H e s',CX [] H s₁ (λc c c=>False) e s'->False) (hT:∀p∈lamTs,K.lookup p.1=none/\s₁.heap.get? p.1=some (PySem.W.tabObj #[])/\isCodeTable s₁.heap p.1/\lamTs.lookup p.1=some p.2):
  codeAny (model P w) callerA (.call (.ref fa) ⟨[.ref a],[]⟩) (λr s'=>r=.ok (.ret (.bool true))/\OldK s₁.heap s'.heap/\s'.os=s₁.os/\AllBare s'.gens) s₁:=by
 have rv:=fD hi;have lenV:=hi.length;have core:∀H:Hp,CB H->SqL K H a (ns.map V.int)->HOk P w H s₁.heap->(∀b,H b≠none->b=a\/∃p∈lamTs,b=p.1)->(H a≠none->K.lookup a=none)->
   codeAny (model P w) callerA (.call (.ref fa) ⟨[.ref a],[]⟩) (λr s'=>r=.ok (.ret (.bool true))/\OldK s₁.heap s'.heap/\s'.os=s₁.os/\AllBare s'.gens) s₁:=by
  intro H hO hS hok hA hK;have hTb:=hO.2;have base_of:∀{b:Addr}{o:Obj},s₁.heap.get? b=some o->H b=none->(kj s₁.heap H).get? b=some o:=λe n=>tX e n
  have noA:∀{b:Addr}{o:Obj}{es:Array DictEntry}{ep:Nat},s₁.heap.get? b=some o->o.data=.dict es ep->H b=none:=λ{b o es ep} e d=>by
   cases q:H b with
   |none=>rfl
   |some u=>
    rcases hA b (by rw[q];simp)with e'|⟨p,hp,e'⟩
    .subst e'
     rw[ha]at e;cases e;have d':Data.seq vs.toArray _=Data.dict es ep:=d;cases d'
    .subst e'
     rw[(hT p hp).2.1]at e;cases e;cases d
  have nsK:∀{b:Addr}{m:Str->Option Value},s₁.heap.Ns b m->(kj s₁.heap H).Ns b m:=λ{b m} ⟨o,es,ep,e,d,r⟩=>⟨o,es,ep,base_of e (noA e d),d,r⟩
  have hKb:K.In (kj s₁.heap H):=λb o e=>base_of (KX b o e) (by
   cases q:H b with
   |none=>rfl
   |some u=>
    rcases hA b (by rw[q];simp)with e'|⟨p,hp,e'⟩
    .subst e'
     rw[hK (by rw[q];simp)]at e;cases e
    .subst e'
     rw[(hT p hp).1]at e;cases e)
  have hM:Mod K mg (kj s₁.heap H):=⟨hKb,nsK hns,⟨mb,nsK hb,hbb⟩,let ⟨mc,h1,h2⟩:=hlim;⟨mc,nsK h1,h2⟩⟩;have e0:Env0 P w K mg (kj s₁.heap H) callerA [] s₁ H:=⟨rfl,hM,λb o e=>yi e,Nat.le_of_eq (rH _ _),trivial,λb hb=>absurd (show b∈([]:List Addr)from hb) (by simp),hok,.of_eq hg,λp hp=>⟨_,hTb p hp⟩⟩;refine codeAny_mono ((F _ hKb (nsK hns)).run callerA [] s₁ H ⟨[.ref a],[]⟩ [.ref a] [.ref a] _ _ hr e0 (hbind s₁ (.ref a)) (.cons rfl .nil) (hsp H hO hS)) λr s' h=>?_
  cases r with
  |error e=>exact (hCX H e s' h).elim
  |ok fl=>
   cases fl with
   |next=>exact False.elim h
   |brk=>exact False.elim h
   |cont=>exact False.elim h
   |ret u=>
    obtain⟨v,H',os,bare,un,hok',r',q⟩:=h;have q':v=.bl true:=q;subst q';obtain rfl:u=Value.bool true:=r';refine⟨rfl,⟨λb o e=>?_,λb o e=>un.there b o e (by simp)⟩,os,bare⟩;cases q:H b with
    |none=>exact .inl (un.keep b o e q (by intro z;exact absurd (show b∈([]:List Addr)from z) (by simp)) (by simp))
    |some u=>
     rcases hO.1 b with z|⟨ob,xs,z⟩|⟨p,hp,rfl,z⟩
     .rw[q]at z;cases z
     .have z2:=un.frzs b ob _ z
      obtain⟨e1,_⟩:=hok b _ z;obtain⟨e2,_⟩:=hok' b _ z2;rw[e]at e1;cases e1;exact .inl e2
     .obtain⟨more,z2⟩:=un.tbls _ _ _ z
      obtain⟨e2,_⟩:=hok' _ _ z2;obtain⟨_,e1,e3,_⟩:=hT p hp;rw[e]at e1;cases e1;exact .inr (.inl ⟨e3,rfl,#[],more,rfl,e2⟩)
 have nT:∀p∈lamTs,p.1≠a:=λp hp z=>by
  have:=(hT p hp).2.1;rw[z,ha]at this;cases this
 have tOk:∀{H:Hp}{p:Addr×Str},p∈lamTs->ObjOk P w H s₁.heap p.1 (.tbl p.2 #[]):=λ{H p} hp=>⟨(hT p hp).2.1,trivial,λpos cv z=>by cases z⟩
 have mT:∀{b:Addr}{q:Str},lamTs.lookup b=some q->(b,q)∈lamTs:=uy;cases hk:K.lookup a with
 |some o=>
  have e:=KX a o hk;rw[ha]at e;cases e;refine core (λb=>(lamTs.lookup b).map λq=>.tbl q #[]) ⟨λb=>?_,λp hp=>by simp[(hT p hp).2.2.2]⟩ (.inr ⟨_,vs.toArray,_,hk,rfl,rfl,rfl,by rw[ls0,lenV];exact hl,by simpa using rv⟩) (λb u z=>?_) (λb z=>?_) λz=>?_
  .cases y:lamTs.lookup b with
   |none=>exact .inl (by simp[y])
   |some q=>exact .inr (.inr ⟨_,mT y,rfl,by simp[y]⟩)
  .obtain⟨q,y,rfl⟩:=mx0 z
   exact tOk (p:=(b,q)) (mT y)
  .cases y:lamTs.lookup b with
   |none=>exact absurd (by simp[y]) z
   |some q=>exact .inr ⟨_,mT y,rfl⟩
  .cases y:lamTs.lookup a with
   |none=>exact absurd (by simp[y]) z
   |some q=>exact absurd rfl (nT _ (mT y))
 |none=>
  refine core (λb=>if b=a then some (.frz {cls:=.type "list",data:=.seq vs.toArray} (.lst (ns.map V.int)))else (lamTs.lookup b).map λq=>.tbl q #[]) ⟨λb=>?_,λp hp=>(if_neg (nT p hp)).trans (by rw[(hT p hp).2.2.2];rfl)⟩ (.inl (.inr ⟨{cls:=.type "list",data:=.seq vs.toArray},if_pos rfl⟩)) (λb u z=>?_) (λb z=>?_) λc=>hk
  .by_cases hb:b=a
   .exact .inr (.inl ⟨_,_,if_pos hb⟩)
   .cases y:lamTs.lookup b with
    |none=>exact .inl (by simp[hb,y])
    |some q=>exact .inr (.inr ⟨_,mT y,rfl,by simp[hb,y]⟩)
  .by_cases hb:b=a
   .have z':=(if_pos hb).symm.trans z
    cases z';subst hb;exact⟨ha,by rw[lm0];exact hl,vs,_,rv,ha⟩
   .have z':=(if_neg hb).symm.trans z
    obtain⟨q,y,rfl⟩:=mx0 z';exact tOk (p:=(b,q)) (mT y)
  .by_cases hb:b=a
   .exact .inl hb
   .cases y:lamTs.lookup b with
    |none=>exact absurd (by simp[hb,y]) z
    |some q=>exact .inr ⟨_,mT y,rfl⟩
def qh{l:PySem.W.OpenLaw}{k:Nat}{q:Program}{XP:(Str->Option Value)->Heap->Prop}{YP:World->Heap->Prop}{d:DefRec}{K:Params->fg0}{CX:World->CXT}{sp:World->Sp}
  (hn:l.most=some n) (hn2:n<=sizeLine) (hdf:d.params.defaults=[]) (hr:Room k callerA)
  (hY:∀(w:World)(h:Heap),YP w h->(K w.params).In h)
  (F:∀(w:World)(mg:Str->Option Value)(fa:Addr)(h:Heap),(K w.params).In h->h.Ns mainGlobals mg->mg d.name=some (.ref fa)->
   ∃fd:FuncData,(∀(s:Shared)(u:Value),BindsTo s fd ⟨[u],[]⟩ [(x,u)])/\
    ∀base:Heap,(K w.params).In base->base.Ns mainGlobals mg->FnOk l.prog w (K w.params) mg base (CX w) k fa fd [x] (sp w))
  (hsp:∀(w:World)(H:Hp)(a:Addr)(ns:List Int),ns.length<=n->CB H->SqL (K w.params) H a (ns.map V.int)->sp w [.ref a] H (λv c=>v=.bl true) λc c c=>False)
  (hCX:∀(w:World)(H:Hp)(s:Shared)(e:Value)(s':Shared),CX w [] H s (λc c c=>False) e s'->False) (hT:∀(w:World)(h:Heap),YP w h->∀p∈lamTs,(K w.params).lookup p.1=none/\h.get? p.1=some (PySem.W.tabObj #[])/\isCodeTable h p.1/\lamTs.lookup p.1=some p.2):
  PySem.W.WalkO q loose XP YP l.row.toRowW d [] (λf vs=>PySem.call f vs):=by
 refine Att.attach_call hn hdf λw s₀ s₁ mg mb fa o pm cd doc a vs ns G Y ho hd hcd hmg hobj hints hlen hg=>?_
 have KX:=hY w _ Y;obtain⟨fd,hb,hF⟩:=F w mg fa _ KX G.T.g hmg;exact uz KX G.T.g G.T.b G.T.builtins G.T.nolimit hg hobj hints (nt0 hlen hn2) hr hF hb (λH hO hS=>hsp w H a ns hlen hO hS) (λH e s'=>hCX w H s₁ e s') (hT w _ Y)
noncomputable def defArgs(s:Stmt):Arguments:=match s with
 |.FunctionDef _ a _ _ _ _ _ _ _ _=>a
 |_=>{posonlyargs:=[],args:=[],vararg:=none,kwonlyargs:=[],kw_defaults:=[],kwarg:=none,defaults:=[]}
noncomputable def defBody(s:Stmt):List Stmt:=match s with
 |.FunctionDef _ _ b _ _ _ _ _ _ _=>b
 |_=>[]
noncomputable def defScope(s:Stmt):Scope:=match s with
 |.FunctionDef _ _ _ _ _ _ sc _ _ _=>sc
 |_=>{kind:=.function,names:=[],isGenerator:=false,isCoroutine:=false}
noncomputable abbrev CX0:CXT:=λa a a a a a=>False
noncomputable abbrev E0:XK:=λa a a=>False
def qi :eG CX0 X E0:=λa a a a a a a h=>h.elim
structure Fun(K:fg0)(x qual:Str)(st:Stmt)(f:Addr)(fd:FuncData):Prop where
 ex:∃(oc:Value)(od:Option Addr)(kV doc pm:Value)(an:Option Addr)(cdv ct:Value)(osl:Array (Option Value)),
  fd=PySem.W.fnOf x qual (defArgs st) (defBody st) (defScope st) .none kV doc pm an cdv ct/\K.lookup f=some ⟨oc,od,.func fd,osl⟩/\PySem.W.codeIn K cdv qual=true
 kp:PySem.W.keepIn K (.ref f)=true
section
variable {K:fg0}{base:Heap}
def Fun.ok{N ps:List Str}{k:Nat}{sp:Sp}(F:Fun K x qual st f fd)(S:aP N ps (defScope st))(len:∀vs H Q E,sp vs H Q E->vs.length=ps.length)
  (hbody:∀(cdv:Value)(A:Around)(outer:List Env)(s:Shared)(H:Hp)(vs:List V)(Q:VK)(E:XK),Room k (A.deeper (envOfC qual (defScope st) s.heap.objs.size f cdv))->sp vs H Q E->
   ∃t,PSs (df CX0 P w K mg base N qual (defScope st) f cdv A outer s H E).nox (defBody st) t/\t {nx:=λa H'=>Q .non H',rt:=Q} (start N vs) H):FnOk P w K mg base CX0 (k+1) f fd ps sp:=by
 obtain⟨oc,od,kV,doc,pm,an,cdv,ct,osl,rfl,lk,hcd⟩:=F.ex;refine AX lk hcd S len λA outer s H vs Q E hr hsp=>?_
 obtain⟨t,h,q⟩:=hbody cdv A outer s H vs Q E hr hsp;exact⟨t,h.nox,q⟩
def Fun.binds{ps:List Str}(F:Fun K x qual st f fd)
  (h:∀(kV doc pm:Value)(an:Option Addr)(cdv ct:Value)(us:List Value),us.length=ps.length->bindArgs (PySem.W.fnOf x qual (defArgs st) (defBody st) (defScope st) .none kV doc pm an cdv ct) ⟨us,[]⟩=pure (ps.zip us)):Binds K fd ps []:=by
 obtain⟨oc,od,kV,doc,pm,an,cdv,ct,osl,rfl,lk,hcd⟩:=F.ex;exact .all (h kV doc pm an cdv ct)
def CC{oc:Value}{od an:Option Addr}{osl:Array (Option Value)}{kV doc pm cdv ct:Value}(l:K.lookup f=some ⟨oc,od,.func (PySem.W.fnOf x qual (defArgs st) (defBody st) (defScope st) .none kV doc pm an cdv ct),osl⟩)
  (c:PySem.W.codeIn K cdv qual=true) (k:PySem.W.keepIn K (.ref f)=true):Fun K x qual st f (PySem.W.fnOf x qual (defArgs st) (defBody st) (defScope st) .none kV doc pm an cdv ct):=⟨⟨oc,od,kV,doc,pm,an,cdv,ct,osl,rfl,l,c⟩,k⟩
end
def dF(h:n<=1000):n<sizeLine:=Nat.lt_of_le_of_lt h (by decide)
def kz{A B:Prop}(h:B):if false=true then A else B:=by
 rw[if_neg fx0];exact h
def iteT{A B:Prop}(h:A):if true=true then A else B:=by
 rw[if_pos rfl];exact h
def Same(H H':Hp):Prop:=∀b o,H b=some o->H' b=some o
def Same.refl(H:Hp):Same H H:=λa a h=>h
def Same.trans{H1 H2:Hp}(a:Same H H1)(b:Same H1 H2):Same H H2:=λc o h=>b c o (a c o h)
def Same.free(e:Same H H'){l:Addr}(h:H' l=.none):H l=.none:=by
 cases q:H l with
 |none=>rfl
 |some o=>
  rw[e l o q]at h;cases h
def Same.seq{K:fg0}(e:Same H H')(h:SqL K H a xs):SqL K H' a xs:=by
 rcases h with (h|⟨o,h⟩)|h
 .exact .inl (.inl (e _ _ h))
 .exact .inl (.inr ⟨o,e _ _ h⟩)
 .exact .inr h
section
variable {Z:Type}[DecidableEq Z]
noncomputable def dj(kvs:List (Z×V))(k:Z):Option V:=(kvs.find? λkv=>decide (kv.1=k)).map (·.2)
noncomputable def putK(kvs:List (Z×V))(k:Z)(v:V):List (Z×V):=
 if (kvs.any λkv=>decide (kv.1=k))=true then kvs.map (λkv=>if kv.1=k then (kv.1,v)else kv)else kvs++[(k,v)]
def gZ{p:Z×V}{r:List (Z×V)}{k:Z}(e:p.1=k):dj (p::r) k=some p.2:=by simp[dj,List.find?_cons,e]
def hV{p:Z×V}{r:List (Z×V)}{k:Z}(e:¬ p.1=k):dj (p::r) k=dj r k:=by simp[dj,List.find?_cons,e]
def lU(kvs:List (Z×V))(k:Z)(v:V):(putK kvs k v).length<=kvs.length+1:=by
 unfold putK;split
 .rw[lm0];omega
 .rw[la0,lc0,List.length_nil];omega
def RelO.isSome_eq{o:Option V}{u:Option Value}(r:RelO o u):o.isSome=u.isSome:=by
 cases o with
 |none=>cases u with
  |none=>rfl
  |some _=>exact (show False from r).elim
 |some _=>cases u with
  |none=>exact (show False from r).elim
  |some _=>rfl
theorem RelO.getD{o:Option V}{u:Option Value}{d:V}{d':Value}(r:RelO o u)(rd:RelV d d'):RelV (o.getD d) (u.getD d'):=by
 cases o with
 |none=>cases u with
  |none=>exact rd
  |some _=>exact (show False from r).elim
 |some _=>cases u with
  |none=>exact (show False from r).elim
  |some _=>exact r
def KV.val{kvs:List (Z×V)}{vs:List (Z×Value)}(r:KV kvs vs)(k:Z):RelO (dj kvs k) (valueAt vs k):=by
 unfold KV at r
 induction r with
 |nil=>exact True.intro
 |@cons p q ps qs h t ih=>
  obtain⟨h1,h2⟩:=h
  by_cases e:p.1=k
  .have e':q.1=k:=h1.symm.trans e
   have b:valueAt (q::qs) k=some q.2:=by simp[valueAt,List.find?_cons,e']
   rw[gZ e,b];exact h2
  .have e':¬ q.1=k:=λz=>e (h1.trans z)
   have b:valueAt (q::qs) k=valueAt qs k:=by simp[valueAt,List.find?_cons,e']
   rw[hV e,b];exact ih
theorem KV.any{kvs:List (Z×V)}{vs:List (Z×Value)}(r:KV kvs vs)(k:Z):(kvs.any λkv=>decide (kv.1=k))=vs.any λkv=>decide (kv.1=k):=by
 unfold KV at r
 induction r with
 |nil=>rfl
 |cons h t ih=>rw[List.any_cons,List.any_cons,ih,h.1]
def KV.repl{kvs:List (Z×V)}{vs:List (Z×Value)}(r:KV kvs vs)(k:Z)(ry:RelV y u):
  KV (kvs.map λkv=>if kv.1=k then (kv.1,y)else kv) (vs.map λkv=>if kv.1=k then (kv.1,u)else kv):=by
 unfold KV at r ⊢
 induction r with
 |nil=>exact .nil
 |@cons p q ps qs h t ih=>
  rw[mk0,mk0];refine .cons ?_ ih;obtain⟨h1,h2⟩:=h
  by_cases e:p.1=k
  .rw[if_pos e,if_pos (h1.symm.trans e)];exact⟨h1,ry⟩
  .rw[if_neg e,if_neg (λz=>e (h1.trans z))];exact⟨h1,h2⟩
def KV.put{kvs:List (Z×V)}{vs:List (Z×Value)}(r:KV kvs vs)(k:Z)(ry:RelV y u):KV (putK kvs k y) (stored vs k u):=by
 unfold putK stored;rw[r.any k]
 by_cases e:(vs.any λkv=>decide (kv.1=k))=true
 .rw[if_pos e,if_pos e];exact r.repl k ry
 .rw[if_neg e,if_neg e];exact Paired.snoc r ⟨rfl,ry⟩
def KV.keys{kvs:List (Z×V)}{vs:List (Z×Value)}(r:KV kvs vs):kvs.map (·.1)=vs.map (·.1):=by
 unfold KV at r
 induction r with
 |nil=>rfl
 |cons h t ih=>rw[mk0,mk0,ih,h.1]
theorem KV.length{kvs:List (Z×V)}{vs:List (Z×Value)}(r:KV kvs vs):kvs.length=vs.length:=Paired.length r
end
def jv{k:Key}(r:RelV (kV k) u):(mixKind P w).is k u=true:=by
 cases k with
 |inl i=>obtain⟨t,e⟩:=(show ∃t,u=Value.int i t from r);subst e;exact lI P w i t
 |inr x=>obtain⟨t,e⟩:=(show ∃t,u=Value.str x t from r);subst e;exact lJ P w x t
theorem jw :∀{ks:List Key}{us:List Value},Vals (ks.map kV) us->ItemsAre (mixKind P w) ks us
 |[],_,r=>by rw[List.map_nil]at r;cases r;exact .nil
 |k::ks,_,r=>by
  rw[mk0]at r;cases r with
  |cons h t=>exact .cons (jv h) (jw t)
noncomputable abbrev KT(H:Hp):List (List Key×V)->List (List Key×Addr×Value)->Prop:=Paired λp q=>p.1=q.1/\H q.2.1=some (.tup (p.1.map kV))/\RelV p.2 q.2.2
def KT.val{kvs:List (List Key×V)}{xs:List (List Key×Addr×Value)}(r:KT H kvs xs)(k:List Key):RelO (dj kvs k) ((atKey xs k).map (·.2)):=by
 induction r with
 |nil=>exact True.intro
 |@cons p q ps qs h t ih=>
  obtain⟨h1,_,h2⟩:=h
  by_cases e:p.1=k
  .have e':q.1=k:=h1.symm.trans e
   have b:atKey (q::qs) k=some q.2:=by simp[atKey,List.find?_cons,e']
   rw[gZ e,b];exact h2
  .have e':¬ q.1=k:=λz=>e (h1.trans z)
   have b:atKey (q::qs) k=atKey qs k:=by simp[atKey,List.find?_cons,e']
   rw[hV e,b];exact ih
def AZ{u:HO}(ok:HOk P w H h)(e:Rd H a u):ObjOk P w H h a u:=e.ok ok
def eT(ok:HOk P w H h)(e:Rd H a (.dK kvs)):kvs.length<=sizeLine/\(a==sysModules)=false/\∃vs,KV kvs vs/\h.DictOf (mixKind P w) a vs:=
 show ObjOk P w H h a (.dK kvs)from AZ ok e
def Ba(ok:HOk P w H h)(e:H a=some (.dK kvs)):kvs.length<=sizeLine/\(a==sysModules)=false/\∃vs,KV kvs vs/\h.DictOf (mixKind P w) a vs:=eT ok (.inl e)
def bQ{ks:List Key}(ok:HOk P w H h)(e:H a=some (.tup (ks.map kV))):(tupleKind (mixKind P w)).is h ks a:=by
 obtain⟨_,its,r,o,h1,h2,n,h3⟩:=(show ObjOk P w H h a (.tup (ks.map kV))from ok a _ e);exact⟨o,its.toArray,n,h1,h2,h3,by simpa using jw r⟩
def jx{kvs:List (List Key×V)}(ok:HOk P w H h)(e:Rd H a (.dT kvs)):kvs.length<=sizeLine/\(a==sysModules)=false/\
  ∃xs,KT H kvs xs/\h.DictOfH (tupleKind (mixKind P w)) a xs:=by
 obtain⟨z,y,xs,r,o,es,ep,h1,h2,h3,h4,h5⟩:=(show ObjOk P w H h a (.dT kvs)from AZ ok e);refine⟨z,y,xs,r,o,es,ep,h1,h2,h3,h4,λx hx=>?_,h5⟩;have all:∀{l:List (List Key×V)}{m:List (List Key×Addr×Value)},KT H l m->∀x∈m,(tupleKind (mixKind P w)).is h x.1 x.2.1:=by
  intro l m q
  induction q with
  |nil=>intro x hx;exact nomatch hx
  |@cons p q ps qs hq t ih=>
   intro x hx;rcases mq0 hx with e|hx
   .subst e
    exact bQ ok (by rw[<-hq.1];exact hq.2.1)
   .exact ih x hx
 exact all r x hx
def oz(H:Hp)(a:Addr)(y:V)(r:Option V):Prop:=
 (∃kvs k,Rd H a (.dK kvs)/\y=kV k/\r=dj kvs k)\/∃kvs k b,Rd H a (.dT kvs)/\y=.ref b/\H b=some (.tup (k.map kV))/\r=dj kvs k
section
variable {v:V}{r:Value}{o:Option V}{A:Around}{E:Value->Shared->Prop}
def Inv.big(I:Inv X pins σ H s):sysModules<s.heap.objs.size:=by
 have h:mainGlobals<s.heap.objs.size:=(I.mod.glob.keeps I.bk).lt;exact Nat.lt_trans (by decide) h
def rX(hu:A.units+1<cLine)(I:Inv X pins σ H s)(g:oz H a y (some v))(ry:RelV y u)(h:∀w' s',Inv X pins σ H s'->RelV v w'->Q w' s'):
  wpAny (model X.prog X.w) A (getItem (.ref a) u) Q E s:=by
 rcases g with⟨kvs,k,e,ey,l⟩|⟨kvs,k,b,e,ey,eb,l⟩
 .subst ey
  obtain⟨z,hd,vs,rel,dd⟩:=eT I.hok e;obtain⟨w',hw,rw'⟩:=RelO.some_of (v:=v) (o:=valueAt vs k) (by rw[l];exact rel.val k);exact wpAny_getItem_of (jv ry) dd.mapOf hw (h w' _ (I.tok _) rw')
 .subst ey
  cases (show u=Value.ref b from ry);obtain⟨z,hd,xs,rel,dd⟩:=jx I.hok e;obtain⟨w',hw,rw'⟩:=RelO.some_of (v:=v) (o:=(atKey xs k).map (·.2)) (by rw[l];exact rel.val k);obtain⟨p,hp,hp2⟩:=mx0 hw;refine wpAny_getItem_heap (tupleKind_room_in1 hu) (bQ I.hok eb) dd hp ?_;rw[hp2];exact h w' _ (I.tok _) rw'
def JC(hu:A.units+1<cLine)(I:Inv X pins σ H s)(g:oz H a y o)(ry:RelV y u)(h:∀s',Inv X pins σ H s'->Q (.bool o.isSome) s'):
  wpAny (model X.prog X.w) A (compareOp .In u (.ref a)) Q E s:=by
 rcases g with⟨kvs,k,e,ey,l⟩|⟨kvs,k,b,e,ey,eb,l⟩
 .subst ey
  obtain⟨z,hd,vs,rel,dd⟩:=eT I.hok e;refine wpAny_in_of (jv ry) hd dd.mapOf ?_;rw[<-(rel.val k).isSome_eq,<-l];exact h _ (I.tok _)
 .subst ey
  cases (show u=Value.ref b from ry);obtain⟨z,hd,xs,rel,dd⟩:=jx I.hok e;refine wpAny_in_heap (tupleKind_room_in1 hu) (bQ I.hok eb) hd dd ?_;have q:=(rel.val k).isSome_eq;rw[Option.isSome_map]at q;rw[<-q,<-l];exact h _ (I.tok _)
def yD(hu:A.units+1<cLine)(I:Inv X pins σ H s)(g:oz H a y o)(ry:RelV y u)(h:∀s',Inv X pins σ H s'->Q (.bool (!o.isSome)) s'):
  wpAny (model X.prog X.w) A (compareOp .NotIn u (.ref a)) Q E s:=by
 rcases g with⟨kvs,k,e,ey,l⟩|⟨kvs,k,b,e,ey,eb,l⟩
 .subst ey
  obtain⟨z,hd,vs,rel,dd⟩:=eT I.hok e;refine wpAny_notIn_of (jv ry) hd dd.mapOf ?_;rw[<-(rel.val k).isSome_eq,<-l];exact h _ (I.tok _)
 .subst ey
  cases (show u=Value.ref b from ry);obtain⟨z,hd,xs,rel,dd⟩:=jx I.hok e;refine wpAny_notIn_heap (tupleKind_room_in1 hu) (bQ I.hok eb) hd dd ?_;have q:=(rel.val k).isSome_eq;rw[Option.isSome_map]at q;rw[<-q,<-l];exact h _ (I.tok _)
def oA{h':Heap}{vs:List (Key×Value)}(z:kvs.length<=sizeLine)(hd:(a==sysModules)=false)(rel:KV kvs vs)(dd:h'.DictOf (mixKind P w) a vs):
  ObjOk P w H' h' a (.dK kvs):=⟨z,hd,vs,rel,dd⟩
end
section
variable {k:Key}{A:Around}{E:Value->Shared->Prop}
end
def lV{o:Option V}(I:Inv X pins σ H s)(g:oz H a y o):s.TypeIs (.ref a) "dict":=by
 rcases g with⟨kvs,k,e,_,_⟩|⟨kvs,k,b,e,_,_,_⟩
 .obtain⟨_,_,vs,_,dd⟩:=eT I.hok e
  exact dd.typeIs
 .obtain⟨_,_,xs,_,dd⟩:=jx I.hok e
  exact dd.typeIs
section
variable {i value:Expr}{pos' tpos:Pos}{td ty tv:TE}
end
def uA(h:Heap)(hb:sysModules<h.objs.size):ObjOk P w H (h.push {cls:=.type "dict",data:=.dict #[]}) h.objs.size (.dK []):=
 ⟨Nat.zero_le _,bn0 (Ne.symm (nn0 hb)),[],.nil,Heap.DictOf.new h⟩
noncomputable def CD:TE:=λa H Q=>∀p,H p=none->Q (.ref p) (upd H p (.dK []))
def uB:PE X (.Dict [] [] pos) CD:=λpins s σ H Q I h=>
 wpAny_Dict_empty ⟨.ref s.heap.objs.size,_,I.laid (a:=s.heap.objs.size) (o:=.dK []) (t':=s.toks) (λb b q=>ps0 _ q) (nr0 _) (uA s.heap I.big),rfl,h _ (I.hok.fresh (nr0 _))⟩
noncomputable def bG(kvs more:List (Key×V)):List (Key×V):=more.foldl (λacc kv=>putK acc kv.1 kv.2) kvs
def KV.merge:∀{more:List (Key×V)}{rs:List (Key×Value)}{kvs:List (Key×V)}{vs:List (Key×Value)},KV more rs->KV kvs vs->KV (bG kvs more) (merged vs rs):=by
 intro more rs kvs vs r;unfold KV at r
 induction r generalizing kvs vs with
 |nil=>intro q;exact q
 |@cons p q ps qs h t ih=>
  intro r0;have e:KV (putK kvs p.1 p.2) (stored vs q.1 q.2):=by
   have:=r0.put p.1 h.2;rw[<-h.1];exact this
  exact ih e
theorem bR:∀(more kvs:List (Key×V)),(bG kvs more).length<=kvs.length+more.length
 |[],kvs=>by show kvs.length<=kvs.length+0;omega
 |p::r,kvs=>by
  have h1:=bR r (putK kvs p.1 p.2);have h2:=lU kvs p.1 p.2;show (bG (putK kvs p.1 p.2) r).length<=_;rw[lc0];omega
structure M1(X:Cx)(o:Expr)(m:Str)(apos:Pos)(e:Expr)(cpos:Pos):Prop where
 base:attributeBase o m X.env (eval o X.env)=eval o X.env
 few:((backTo cpos (starEach [e] X.env)).all (λx=>!x.1)&&(backToKw cpos (keywordEach [] X.env)).all (λx=>x.1.isSome)
  &&decide (([e]:List Expr).length+([]:List Keyword).length+(if ([]:List Keyword).isEmpty then 0 else 1)<30))=true
 line:(apos.endLine==cpos.line)=true
 trees:backTo cpos (starEach [e] X.env)=[(false,eval e X.env)]
def IsD(H:Hp)(a:Addr):Prop:=(∃kvs,Rd H a (.dK kvs))\/∃kvs,Rd H a (.dT kvs)
def CF(I:Inv X pins σ H s)(d:IsD H a):
  s.TypeIs (.ref a) "dict"/\(∀b,Value.ref a=.ref b->∃ob,s.heap.get? b=some ob/\ob.dict=none)/\(a==sysModules)=false:=by
 rcases d with⟨kvs,e⟩|⟨kvs,e⟩
 .obtain⟨_,hd,vs,_,dd⟩:=eT I.hok e
  refine⟨dd.typeIs,λb q=>?_,hd⟩;cases q;obtain⟨ob,_,_,h1,h2,_⟩:=dd;exact⟨ob,h1,h2.2.1⟩
 .obtain⟨_,hd,xs,_,dd⟩:=jx I.hok e
  refine⟨dd.typeIs,λb q=>?_,hd⟩;cases q;obtain⟨ob,_,_,h1,h2,_⟩:=dd;exact⟨ob,h1,h2.2.1⟩
section
variable {d:V}{r:Value}{o:Option V}{A:Around}{E:Value->Shared->Prop}
def CG(hu:A.units+1<cLine)(I:Inv X pins σ H s)(g:oz H a y o)(ry:RelV y u)(h:∀w' s',Inv X pins σ H s'->RelV (o.getD .non) w'->Q w' s'):
  wpAny (model X.prog X.w) A (call (.builtin "dict.get") [.ref a,u]) Q E s:=by
 rcases g with⟨kvs,k,e,ey,l⟩|⟨kvs,k,b,e,ey,eb,l⟩
 .subst ey
  obtain⟨z,hd,vs,rel,dd⟩:=eT I.hok e;refine call_meetsIn PySem.F.slot_dict_get dd.typeIs PySem.F.entry_dict_get (PySem.F.args_dict_get_2 _ _) (meets_dict_get (mixKind X.prog X.w) a (jv ry) hd) ⟨_,dd.mapOf,h _ _ (I.tok _) ?_⟩;rw[l];exact (rel.val k).getD rfl
 .subst ey
  cases (show u=Value.ref b from ry);obtain⟨z,hd,xs,rel,dd⟩:=jx I.hok e;refine call_meetsIn PySem.F.slot_dict_get dd.typeIs PySem.F.entry_dict_get (PySem.F.args_dict_get_2 _ _) (meetsH_dict_get (tupleKind (mixKind X.prog X.w)) a b hd) ⟨tupleKind_room_in1 hu,k,xs,bQ I.hok eb,dd,h _ _ (I.tok _) ?_⟩;rw[l];exact (rel.val k).getD rfl
end
noncomputable def CH(td ty:TE):TE:=λσ H Q=>td σ H λx H1=>∃a,x=.ref a/\IsD H1 a/\ty σ H1 λy H2=>∃o,oz H2 a y o/\Q (o.getD .non) H2
section
variable {f:Expr}{apos cpos:Pos}{td ty tx:TE}
def uC(hu:X.A.units+1<cLine)(ho:PE X o td)(he:PE X e ty)(m:M1 X o "get" apos e cpos):PE X (.Call (.Attribute o "get" apos) [e] [] cpos) (CH td ty):=by
 intro pins s σ H Q I h;refine wpAny_Call_method m.base m.few m.line PySem.F.plainAttrs_dict PySem.F.slot_dict_get PySem.F.type_dict_get (thn (ho pins s σ H _ I h) λu s1 ⟨x,H1,I1,rx,a,ex,d,q1⟩=>?_);subst ex;obtain rfl:u=Value.ref a:=rx;obtain⟨t1,t2,_⟩:=CF I1 d;refine⟨t1,t2,?_⟩;rw[m.trees];refine Calls.callWith_builtin rfl (Calls.evalArgs_plain (Calls.spliced_cons (thn (he pins s1 σ H1 _ I1 q1) λiv s2 ⟨y,H2,I2,ry,ov,g,q2⟩=>Calls.spliced_nil ?_)));exact CG hu I2 g ry λw' s3 I3 rw'=>⟨_,H2,I3,rw',q2⟩
end
section
variable {A:Around}{E:Value->Shared->Prop}
end
section
variable {A:Around}{E:Value->Shared->Prop}
end
section
variable {Z:Type}[DecidableEq Z]
end
end L2
namespace L2.C
open PySem PySem.Spec PyProof.Rows L2
noncomputable def bK(env:Env):List (Str×NameKind)->List (Str×Addr)->List (Str×Addr)
 |[],acc=>acc
 |(n,k)::r,acc=>if k==.free then bK env r ((n,(env.cells.lookup n).getD 0)::acc)else bK env r acc
def bT(h:∀x∈scope.names,x.2=.free->(env.cells.lookup x.1).isSome=true):
  closureFor scope env=pure (bK env scope.names []):=by
 simp only[closureFor];generalize scope.names=l at h ⊢;generalize ([]:List (Str×Addr))=acc
 induction l generalizing acc with
 |nil=>rfl
 |cons x r ih=>
  obtain⟨n,k⟩:=x;rw[List.forIn_cons]
  by_cases hk:k=.free
  .subst hk
   have hc:=h (n,.free) ms0 rfl;obtain⟨c,hc⟩:=is0 hc;simp only[bK,cellOf,hc];have:=ih (λy hy=>h y (mc0 _ hy)) ((n,c)::acc);exact this
  .have hb:(k==NameKind.free)=false:=by simpa using hk
   simp only[bK,hb];exact ih (λy hy=>h y (mc0 _ hy)) acc
theorem fE :∀(l:List (Str×NameKind))(acc:List (Str×Addr)),(∀x∈l,x.2=.free->(env.cells.lookup x.1).isSome=true)->(∀x c,acc.lookup x=some c->env.cells.lookup x=some c)->
  ∀x c,(bK env l acc).lookup x=some c->env.cells.lookup x=some c
 |[],acc,_,ha,x,c,e=>ha x c e
 |(n,k)::r,acc,h,ha,x,c,e=>by
  unfold bK at e
  by_cases hk:k=.free
  .subst hk
   obtain⟨c',hc⟩:=is0 (h (n,.free) ms0 rfl);rw[if_pos (by rfl)]at e;refine fE r _ (λy hy=>h y (mc0 _ hy)) (λy d q=>?_) x c e;rw[lk0]at q;cases hy:y==n with
   |true=>
    rw[hy]at q;have:y=n:=by simpa using hy
    rw[this,hc];rw[hc]at q;exact q
   |false=>rw[hy]at q;exact ha y d q
  .have hb:(k==NameKind.free)=false:=by simpa using hk
   rw[if_neg (by rw[hb];decide)]at e;exact fE r acc (λy hy=>h y (mc0 _ hy)) ha x c e
theorem bZ :∀(l:List (Str×NameKind))(acc:List (Str×Addr))(x:Str),((x,NameKind.free)∈l\/∃c,acc.lookup x=some c)->∃c,(bK env l acc).lookup x=some c
 |[],acc,x,h=>by
  rcases h with h|h
  .cases h
  .exact h
 |(n,k)::r,acc,x,h=>by
  unfold bK
  by_cases hk:k=.free
  .subst hk
   rw[if_pos (by rfl)];refine bZ r _ x ?_;rcases h with h|⟨c,h⟩
   .rcases mq0 h with h|h
    .cases h
     exact .inr ⟨_,by rw[List.lookup_cons_self]⟩
    .exact .inl h
   .right
    rw[lk0];cases hy:x==n with
    |true=>exact⟨_,rfl⟩
    |false=>exact⟨c,h⟩
  .have hb:(k==NameKind.free)=false:=by simpa using hk
   rw[if_neg (by rw[hb];decide)];refine bZ r acc x ?_;rcases h with h|h
   .rcases mq0 h with h|h
    .cases h;exact absurd rfl hk
    .exact .inl h
   .exact .inr h
theorem aM{env:Env}(hk:env.scope.kind=.function):∀{names:List (Str×NameKind)}{x:Str},names.lookup x=some .free->env.kindOf x=some .cell->
  (names.map λ(n,k)=>if (k==NameKind.free&&env.scope.kind==.function&&env.kindOf n==some .cell)then (n,NameKind.cell)else (n,k)).lookup x=some .cell
 |[],_,h,_=>by simp at h
 |(n,k)::r,x,h,hx=>by
  have ih:=@aM env hk r x;show List.lookup x ((if (k==NameKind.free&&env.scope.kind==.function&&env.kindOf n==some .cell)=true then (n,NameKind.cell)else (n,k))::_)=_;cases hy:x==n with
  |true=>
   have e:x=n:=by simpa using hy
   subst e;simp only[lk0,hy]at h;cases h;rw[if_pos (by simp[hk,hx])];simp[lk0]
  |false=>
   simp only[lk0,hy]at h
   by_cases hc:(k==NameKind.free&&env.scope.kind==.function&&env.kindOf n==some .cell)=true
   .rw[if_pos hc];simp only[lk0,hy];exact ih h hx
   .rw[if_neg hc];simp only[lk0,hy];exact ih h hx
section
variable {A:Around}{R:Result->Shared->Prop}
noncomputable abbrev kA(ifs:List Expr)(env:Env):Sem Bool:=
 forIn ifs true λc r=>if r=true then do let ok ←isTrue c env (eval c env);pure (ForInStep.yield ok)else pure (ForInStep.yield r)
def lW{elt target iter:Expr}{ifs:List Expr}{it acc:Value}(I:Nat->Shared->Prop)
  (turn:∀n s,I n s->wpAny (model prog w) A (pyNext it) (λr s1=>match r with
   |none=>R (.ok .next) s1
   |some v=>wpAny (model prog w) A (letOwnedTupleGo target it v) (λa s2=>wpAny (model prog w) A (assign target env v) (λa s3=>wpAny (model prog w) A (kA ifs env) (λok s4=>
     if ok=true then wpAny (model prog w) A (eval elt env) (λx s5=>wpAny (model prog w) A (call (.builtin "list.append") [acc,x]) (λa s6=>∃m,m<n/\I m s6) (λa a=>False) s5) (λa a=>False) s4
     else ∃m,m<n/\I m s4) (λa a=>False) s3) (λa a=>False) s2) (λa a=>False) s1) (λa a=>False) s)
  (n:Nat) (h:I n s):codeAny (model prog w) A (.compLoop (.ListComp elt [⟨target,iter,ifs,0⟩] scope pos) 0 it acc env) R s:=by
 have no:∀{E:Value->Shared->Prop}(x:Value)(s':Shared),False->E x s':=λa a z=>z.elim
 refine codeAny_loop rfl I (λn s hI=>?_) n h;show wpAny _ A (Sem.onRaise (compTurn _ 0 it acc env) _) _ _ s;refine wpAny_noted ?_;rw[compTurn_list];refine wb0 (wpAny_standAt (wb0 (wpAny_mono (turn n s hI) (λr s1 h1=>?_) no)));cases r with
 |none=>exact wq0 h1
 |some v=>
  refine wb0 (wpAny_mono h1 (λa s2 h2=>?_) no);refine wb0 (wpAny_mono h2 (λa s3 h3=>?_) no);refine wb0 (wpAny_mono h3 (λok s4 h4=>?_) no);cases ok with
  |false=>exact wq0 ⟨rfl,h4⟩
  |true=>
   refine wb0 (wb0 (wpAny_mono h4 (λx s5 h5=>?_) no));exact wb0 (wpAny_mono h5 (λa s6 h6=>wq0 (wq0 ⟨rfl,h6⟩)) no)
end
noncomputable def blk(X:Cx)(scope:Scope)(N:List Str)(C:Addr)(s:Shared)(H:Hp)(fp:List Addr):Cx where
 prog:=X.prog
 w:=X.w
 K:=X.K
 mg:=X.mg
 base:=X.base
 A:=X.A
 N:=N
 s₀:=s
 H₀:=H
 env:=compEnvC scope (bK X.env scope.names []) C X.env
 outer:=X.stack
 stack:=X.stack
 ex:=fp
 fn:=λa=>false
 calm:=X.calm
 pn:=[]
 xe:=λa a=>False
noncomputable def au(X:Cx)(tn:List Str)(js:List Nat):List Str:=tn++js.map λj=>X.N.getD j Str.empty
noncomputable def dg(tn:List Str)(js:List Nat)(σ:St):St:=tn.map (λa=>.none)++js.map λj=>(σ[j]?).join
structure BlkOk(X:Cx)(scope:Scope)(js:List Nat):Prop where
 kind:scope.kind=.function
 free:∀y∈scope.names,y.2=.free->X.env.kindOf y.1=some .cell
 cell:∀y∈scope.names,y.2≠.cell
 loc:∀y∈scope.names,y.2=.local->scope.names.lookup y.1=some .local
 js:∀j∈js,∃x,X.N[j]?=some x/\scope.names.lookup x=some .free
section
variable {tn:List Str}{fp:List Addr}
theorem BlkOk.cells(B:BlkOk X scope js)(I:Inv X pins σ H s):∀x∈scope.names,x.2=.free->(X.env.cells.lookup x.1).isSome=true:=λx hx hf=>by
 obtain⟨c,e⟩:=I.ok.has x.1 (.inl (B.free x hx hf));rw[e];rfl
def BlkOk.from(B:BlkOk X scope js)(I:Inv X pins σ H s){c:Addr}(e:(bK X.env scope.names []).lookup x=some c):X.env.cells.lookup x=some c:=
 fE scope.names [] (B.cells I) (λa a z=>by cases z) x c e
def uD(B:BlkOk X scope js)(I:Inv X pins σ H s)(hf:∀b∈fp,eO X pins H b)(ho:∀b∈fp,∃o,s.heap.get? b=some o){C:Addr}(hC:s.heap.objs.size<=C):(blk X scope (au X tn js) C s H fp).Ok where
 mod:=I.ok.mod
 kind:=B.kind
 glob:=I.ok.glob
 blt:=I.ok.blt
 above:=hC
 inj:=λx y c h1 h2=>I.ok.inj x y c (B.from I h1) (B.from I h2)
 has:=λx hx=>by
  have hx:(relabel scope X.env).names.lookup x=some .cell\/(relabel scope X.env).names.lookup x=some .free:=hx;refine bZ scope.names [] x (.inl ?_);have hm:(x,NameKind.cell)∈(relabel scope X.env).names\/(x,NameKind.free)∈(relabel scope X.env).names:=hx.imp ml0 ml0;have key:∀k,(x,k)∈(relabel scope X.env).names->k=.cell\/k=.free->(x,NameKind.free)∈scope.names:=λk hk hkk=>by
   obtain⟨⟨n,k0⟩,hn,e⟩:=mm0 hk
   by_cases hc:(k0==NameKind.free&&X.env.scope.kind==.function&&X.env.kindOf n==some .cell)=true
   .have e':(n,NameKind.cell)=(x,k):=by rw[<-e];exact (if_pos hc).symm
    cases e';have:k0=.free:=by simp at hc;exact hc.1.1
    rw[<-this];exact hn
   .have e':(n,k0)=(x,k):=by rw[<-e];exact (if_neg hc).symm
    cases e';rcases hkk with rfl|rfl
    .exact absurd rfl (B.cell _ hn)
    .exact hn
  rcases hm with hm|hm
  .exact key _ hm (.inl rfl)
  .exact key _ hm (.inr rfl)
 cab:=λx c h a=>by cases h
 hd:=I.ok.hd
 frames:=I.ok.frames
 stk:=.inl rfl
 exf:=λb hb=>⟨by
  obtain⟨o,e⟩:=ho b hb;exact nn0 (nl0 (hs0 e) hC),λx c e=>(hf b hb).2.2.2.2.1 x c (B.from I e)⟩
 bs:=I.bs
 tb:=I.tb
 bsz:=nt0 I.ok.bsz I.sz
 noex:=λb o e hb=>by
  rcases (hf b hb).2.2.2.1 with z|z
  .exact I.ok.noex b o e z
  .exact absurd (nl0 (hs0 e) (nt0 I.ok.bsz z)) (li0 _)
 exfs:=λb hb z=>by
  obtain⟨_,h1,h2,_⟩:=hf b hb;exact (mq0 (I.stkSub b z)).elim h1 h2
 funs:=I.stack
 frf:=I.stkFree
def CI(B:BlkOk X scope js)(I:Inv X pins σ H s)(hf:∀b∈fp,eO X pins H b)(ho:∀b∈fp,∃o,s.heap.get? b=some o){C:Addr}(hC:s.heap.objs.size<=C)(hn:∀b∈fp,H' b=none):
  ∀b∈fp,eO (blk X scope (au X tn js) C s H fp) [] H' b:=λb hb=>by
 have ok:=uD (tn:=tn) B I hf ho hC;exact⟨hn b hb,(ok.exf b hb).1,ok.exfs b hb,.inl hb,(ok.exf b hb).2,λp hp=>absurd (show p∈([]:List (Addr×Obj))from hp) (by simp)⟩
def yE(B:BlkOk X scope js)(I:Inv X pins σ H s)(hf:∀b∈fp,eO X pins H b)(ho:∀b∈fp,∃o,s.heap.get? b=some o){C D:Addr}(hD:s.heap.objs.size<=D)(hC:s.heap.objs.size<=C)(hCD:C≠D){h1:Heap}{tk:Nat}
  (k:∀b o,s.heap.get? b=some o->h1.get? b=some o) (hl:h1.get? D=some {cls:=.type "list",data:=.seq (#[]:Array Value) 0}) {m:Str->Option Value} (hns:h1.Ns C m):
  Inv (blk X scope (au X tn js) C s H fp) [] (dg tn js σ) (upd H D (.lst [])) {s with heap:=h1,toks:=tk}:=by
 have hDn:H D=none:=I.hok.fresh hD;refine⟨uD B I hf ho hC,rfl,I.bare,Un.laid k hD hDn,⟨m,hns,λi x v e1 e2 e3=>?_⟩,λx c e=>?_,?_,λx c e=>?_,λp hp=>absurd (show p∈([]:List (Addr×Obj))from hp) (by simp),I.hok.laid k hD ⟨by simp,[],0,.nil,by simpa using hl⟩,?_⟩
 .have e1:(au X tn js)[i]?=some x:=e1
  by_cases hi:i<tn.length
  .unfold dg at e2
   rw[gl0 (by simpa using hi),gm0]at e2;cases q:tn[i]? with
   |none=>rw[q]at e2;cases e2
   |some y=>rw[q]at e2;cases e2
  .unfold dg at e2
   unfold au at e1;rw[List.getElem?_append_right (by simp;omega),gm0]at e2;rw[List.getElem?_append_right (by omega),gm0]at e1;rw[lm0]at e2;cases q:js[i-tn.length]? with
   |none=>rw[q]at e2;cases e2
   |some j=>
    rw[q]at e1 e2;have e2:(σ[j]?).join=some v:=Option.some.inj e2;obtain⟨y,hy,hyf⟩:=B.js j (mg0 q);have e1:X.N.getD j Str.empty=x:=Option.some.inj e1;have ey:y=x:=by rw[<-e1,List.getD_eq_getElem?_getD,hy];rfl
    subst ey;have e2':σ[j]?=some (some v):=by
     cases r:σ[j]? with
     |none=>rw[r]at e2;cases e2
     |some o=>rw[r]at e2;cases o with
      |none=>cases e2
      |some v'=>cases e2;rfl
    have hk:=B.free _ (ml0 hyf) rfl;obtain⟨m0,_,hl0⟩:=I.loc;obtain⟨u,r,lk⟩:=hl0 j y v hy e2' (.inr (.inl hk));refine⟨u,r,?_⟩;rcases lk with⟨z,_⟩|⟨_,c,hc,z⟩
    .rw[hk]at z;cases z
    .obtain⟨c',hc'⟩:=bZ (env:=X.env) scope.names [] y (.inl (ml0 hyf))
     have:c'=c:=by have:=B.from I hc';rw[hc]at this;exact (Option.some.inj this).symm
     subst this;refine .inr ⟨.inl (aM I.ok.kind hyf hk),c',hc',?_⟩;obtain⟨o,h2,h3⟩:=z;exact⟨o,k _ _ h2,h3⟩
 .obtain⟨v,o,h2,h3⟩:=I.cell x c (B.from I e)
  exact⟨v,o,k _ _ h2,h3⟩
 .show upd H D (.lst []) C=none
  rw[aa hCD];exact I.hok.fresh hC
 .show upd H D (.lst []) c=none
  have e':=B.from I e;obtain⟨v,o,h2,h3⟩:=I.cell x c e';rw[aa (nn0 (nl0 (hs0 h2) hD))];exact I.freeC x c e'
 .show (dg tn js σ).length=(au X tn js).length
  unfold dg au;simp
def yF{C:Addr}{σ':St}{s':Shared}{N:List Str}{pl:List (Addr×Obj)}(I:Inv X pins σ H s)(hf:∀b∈fp,eO X pins H b)(J:Inv (blk X scope N C s H fp) pl σ' H' s'):Inv X pins σ H' s':=
 I.call' J.os J.base J.hok J.bare λb hb=>⟨(hf b hb).2.2.2.1,(hf b hb).2.1,(hf b hb).2.2.2.2.1,(hf b hb).2.2.2.2.2⟩
end
def PCs(X:Cx)(ifs:List Expr)(t:TT):Prop:=
 ∀(pins:List (Addr×Obj))(s:Shared)(σ:St)(H:Hp)(Q:Bool->Hp->Prop),Inv X pins σ H s->t σ H Q->wpAny (model X.prog X.w) X.A (kA ifs X.env) (TP X pins σ Q) X.xe s
def pcs_nil :PCs X [] (λa H Q=>Q true H):=λa a a H a I h=>wpAny_tests_nil ⟨H,I,h⟩
noncomputable def Bb(tn:List Str)(js:List Nat)(wi:TI)(g:TG)(tc:TT)(te:TE):TE:=λσ H Q=>wi σ H λJ H1=>∀p,H1 p=none->∃W:Nat->Nat->St->Hp->Prop,(∃m,W 0 m (dg tn js σ) (upd H1 p (.lst [])))/\∀i m σ' H',W i m σ' H'->
 (J.stop i H'/\Q (.ref p) H')\/(J.go i H'/\∀x H2,J.yld i H' x H2->g x σ' H2 λσ2 H3=>tc σ2 H3 λb H4=>
  if b=true then te σ2 H4 λy H5=>∃ys,H5 p=some (.lst ys)/\ys.length<sizeLine/\∃m',m'<m/\W (i+1) m' σ2 (upd H5 p (.lst (ys++[y])))else ∃m',m'<m/\W (i+1) m' σ2 H4)
section
variable {elt iter tg:Expr}{ifs:List Expr}{tn:List Str}{wi:TI}{g:TG}{tc:TT}{te:TE}
def jy{s2:Shared}{E:Value->Shared->Prop}{RR:Value->Addr->Result->Shared->Prop}{Q:VK}{itv:Value}(B:BlkOk X scope js)(hcalm:X.calm=true)
  (hg:∀C s H fp,PG (blk X scope (au X tn js) C s H fp) tg g) (hc:∀C s H fp,PCs (blk X scope (au X tn js) C s H fp) ifs tc) (he:∀C s H fp,PE (blk X scope (au X tn js) C s H fp) elt te)
  (h2:PIE X pins σ tg (λJ H1=>∀p,H1 p=none->∃W:Nat->Nat->St->Hp->Prop,(∃m,W 0 m (dg tn js σ) (upd H1 p (.lst [])))/\∀i m σ' H',W i m σ' H'->
   (J.stop i H'/\Q (.ref p) H')\/(J.go i H'/\∀x H2,J.yld i H' x H2->g x σ' H2 λσ2 H3=>tc σ2 H3 λb H4=>
    if b=true then te σ2 H4 λy H5=>∃ys,H5 p=some (.lst ys)/\ys.length<sizeLine/\∃m',m'<m/\W (i+1) m' σ2 (upd H5 p (.lst (ys++[y])))else ∃m',m'<m/\W (i+1) m' σ2 H4)) itv s2)
  (fin:∀(C D:Addr)(s':Shared)(H':Hp)(m:Str->Option Value),Inv X pins σ H' s'->s2.heap.objs.size<=C->C≠X.env.locals->(∀x c,X.env.cells.lookup x=some c->c≠C)->(∀p∈X.pn++pins,p.1≠C)->X.s₀.heap.objs.size<=C->H' C=none->s'.heap.Ns C m->
   Q (.ref D) H'->RR (.ref D) C (.ok .next) s'):
  wpAny (model X.prog X.w) X.A (newList []) (λacc s3=>wpAny (model X.prog X.w) X.A (newFunctionEnv scope X.env.globals (bK X.env scope.names []) [] X.env.qual none .none (some X.env)) (λcenv s4=>
   codeAny (model X.prog X.w) X.A (.compStart (.ListComp elt [⟨tg,iter,ifs,0⟩] scope pos) 0 itv acc {cenv with scope:=relabel scope X.env}) (RR acc cenv.locals) s4) E s3) E s2:=by
 obtain⟨it,fp,tnn,J,H2,e,I2,T,st2,f2,R⟩:=h2;subst e;refine wpAny_newObj_type (wpAny_newFunctionEnv B.cell (by intro y hy;simp at hy) (λh1 hns hsb=>?_) B.kind);dsimp only at hns hsb ⊢;generalize hP:s2.heap.push {cls:=.type "list",dict:=none,data:=.seq ([]:List Value).toArray}=P2 at hns hsb ⊢;have hC:P2.objs.size=s2.heap.objs.size+1:=by rw[<-hP,Heap.size_push]
 have hCle:s2.heap.objs.size<=P2.objs.size:=by omega
 have hCD:P2.objs.size≠s2.heap.objs.size:=by omega
 have old:∀b o,s2.heap.get? b=some o->h1.get? b=some o:=λb o e=>
  hsb.extBut b o (nn0 (nl0 (hs0 e) hCle)) (ps0 _ (hP▸ps0 _ e))
 have hacc:h1.get? s2.heap.objs.size=some {cls:=.type "list",data:=.seq (#[]:Array Value) 0}:=
  hsb.extBut _ _ (Ne.symm hCD) (ps0 _ (hP▸pz0 _ rfl))
 have ho:∀b∈fp,∃o,s2.heap.get? b=some o:=λb hb=>let ⟨o,e,_⟩:=T.obj 0 _ st2 b hb;⟨o,e⟩
 have hDn:H2 s2.heap.objs.size=none:=I2.hok.fresh (nr0 _);obtain⟨W,⟨m0,w0⟩,turn⟩:=R _ hDn;have I4:=yE (tn:=tn) (tk:=s2.toks+([]:List (Str×Value)).length) B I2 f2 ho (nr0 _) hCle hCD old hacc hns;have fpo:∀{H':Hp},(∀b∈fp,H' b=none)->∀b∈fp,eO (blk X scope (au X tn js) P2.objs.size s2 H2 fp) [] H' b:=λhn=>CI (tn:=tn) B I2 f2 ho hCle hn
 have st4:tnn 0 h1:=T.keep _ _ _ st2 λb hb o e=>old b o e
 have fr4:∀b∈fp,upd H2 s2.heap.objs.size (.lst []) b=none:=λb hb=>by
  obtain⟨o,e⟩:=ho b hb;rw[aa (nn0 (hs0 e))];exact (f2 b hb).1
 have loop:∀s3:Shared,s3={s2 with heap:=h1,toks:=s2.toks+([]:List (Str×Value)).length}->
   codeAny (model X.prog X.w) X.A (.compLoop (.ListComp elt [⟨tg,iter,ifs,0⟩] scope pos) 0 (.ref it) (.ref s2.heap.objs.size) (compEnvC scope (bK X.env scope.names []) P2.objs.size X.env)) (RR (.ref s2.heap.objs.size) P2.objs.size) s3:=by
  rintro s3 rfl
  refine lW (λn s'=>∃i σ' H',Inv (blk X scope (au X tn js) P2.objs.size s2 H2 fp) [] σ' H' s'/\tnn i s'.heap/\(∀b∈fp,H' b=none)/\W i n σ' H') ?_ m0 ⟨0,_,_,I4,st4,fr4,w0⟩
  rintro n s3 ⟨i,σ3,H3,I3,st3,fr3,w3⟩
  rcases turn i n σ3 H3 w3 with⟨stop,qn⟩|⟨go,step⟩
  .refine thn (T.done (blk X scope (au X tn js) P2.objs.size s2 H2 fp) rfl rfl rfl hcalm i [] s3 σ3 H3 _ I3 (fpo fr3) st3 stop) λr s4 ⟨hr,I4'⟩=>?_
   subst hr;obtain⟨m,hm,_⟩:=I4'.loc;refine fin _ _ s4 H3 m (yF I2 f2 I4') hCle (Nat.ne_of_gt (nl0 I2.lt hCle)) (λx c e=>?_) (λp hp z=>?_) (nt0 I2.sz hCle) I4'.free hm qn
   .obtain⟨v,q⟩:=I2.cell x c e
    exact nn0 (nl0 q.lt hCle)
   .exact absurd (nl0 (hs0 (I2.pin p hp).1) (by rw[z];exact hCle)) (li0 _)
  .refine thn (T.item (blk X scope (au X tn js) P2.objs.size s2 H2 fp) rfl rfl rfl hcalm i [] s3 σ3 H3 _ I3 (fpo fr3) st3 go) λr s4 ⟨u,hr,h4⟩=>?_
   subst hr;refine thn h4 λa s5 ⟨x,H5,I5,r5,y5,st5,fr5⟩=>?_
   have I5':=I5.pinned (fpo fr5) (T.obj _ _ st5);refine thn (hg _ _ _ _ _ s5 σ3 H5 x u _ I5' r5 (step x H5 y5)) λa s6 ⟨σ6,H6,I6,q6⟩=>?_
   have again:∀{s7:Shared}{σ7:St}{H7:Hp},Inv (blk X scope (au X tn js) P2.objs.size s2 H2 fp) ([]++gX fp s5.heap) σ7 H7 s7->(∃m',m'<n/\W (i+1) m' σ7 H7)->
     ∃m,m<n/\∃i σ' H',Inv (blk X scope (au X tn js) P2.objs.size s2 H2 fp) [] σ' H' s7/\tnn i s7.heap/\(∀b∈fp,H' b=none)/\W i m σ' H':=λ{s7 σ7 H7} I7 ⟨m',hm,w7⟩=>by
    refine⟨m',hm,i+1,σ7,H7,I7.unpinned,T.keep _ _ _ st5 λb hb o e=>(I7.pin (b,o) (mr0 _ (mr0 _ (cH hb e)))).1,λb hb=>?_,w7⟩;obtain⟨o,e,d⟩:=T.obj _ _ st5 b hb;exact (I7.pin (b,o) (mr0 _ (mr0 _ (cH hb e)))).2.1
   refine thn (hc _ _ _ _ _ s6 σ6 H6 _ I6 q6) λok s7 ⟨H7,I7,q7⟩=>?_
   cases ok with
   |false=>
    rw[if_neg fx0]at q7 ⊢;exact again I7 q7
   |true=>
    rw[if_pos rfl]at q7 ⊢;refine thn (he _ _ _ _ _ s7 σ6 H7 _ I7 q7) λxv s8 ⟨y,H8,I8,r8,ys,hp,hz,q8⟩=>?_
    refine thn (fC _ s8 σ6 H8 (.ref s2.heap.objs.size) [y] _ [xv] (λa H'=>∃m',m'<n/\W (i+1) m' σ6 H') I8 rfl (.cons r8 .nil) ⟨_,ys,y,rfl,rfl,hp,hz,q8⟩) λa s9 ⟨_,H9,I9,_,q9⟩=>?_
    exact again I9 q9
 exact codeAny_compStart_list (loop _ rfl) (T.self _ 0 _ _ _ st4 (loop _ rfl))
def ql(B:BlkOk X scope js)(hcalm:X.calm=true)(hi:PI X tg iter wi)(hg:∀C s H fp,PG (blk X scope (au X tn js) C s H fp) tg g)(hc:∀C s H fp,PCs (blk X scope (au X tn js) C s H fp) ifs tc)
  (he:∀C s H fp,PE (blk X scope (au X tn js) C s H fp) elt te) (hs:∀x,foldedSetIterable iter X.env x=pure x:=by intro _;rfl):PE X (.ListComp elt [⟨tg,iter,ifs,0⟩] scope pos) (Bb tn js wi g tc te):=by
 intro pins s σ H Q I h;rw[eval_ListComp];refine wpAny_comprehension_free (use:=none) rfl hs (bT (B.cells I)) B.kind B.loc (thn (hi pins s σ H _ I h) λv s1 h1=>thn h1 λitv s2 h2=>?_);refine jy (RR:=λacc C=>compPost (model X.prog X.w) X.A X.xe none (EP X pins σ Q) acc C) B hcalm hg hc he h2 ?_;intro C D s' H' m I' h1 h2 h3 h4 h5 h6 hm q;refine⟨m,hm,λh'' sb=>?_⟩;exact⟨.ref D,H',I'.turned (t':=s'.toks) (λb o hb e=>(sb.2 b hb).trans e) h6 h2 (.inr h5) h3 h4,rfl,q⟩
def yG{y:Str}{py spos:Pos}(B:BlkOk X scope js)(hcalm:X.calm=true)(hi:PI X tg iter wi)(hg:∀C s H fp,PG (blk X scope (au X tn js) C s H fp) tg g)(hc:∀C s H fp,PCs (blk X scope (au X tn js) C s H fp) ifs tc)
  (he:∀C s H fp,PE (blk X scope (au X tn js) C s H fp) elt te) (hN:X.N.Nodup) (hix:X.N[i]?=some y) (hy:X.env.scope.names.lookup y=some .local)
  (hsw:swapsWith (.ListComp elt [⟨tg,iter,ifs,0⟩] scope pos) (some (.Name y py)) spos.line X.env=pure true:=by rfl) (hs:∀x,foldedSetIterable iter X.env x=pure x:=by intro _;rfl):
  PS X (.Assign [.Name y py] (.ListComp elt [⟨tg,iter,ifs,0⟩] scope pos) spos) (λF σ H=>Bb tn js wi g tc te σ H λv H'=>F.nx (σ.set i (some v)) H'):=by
 intro pins s σ H F I h;rw[exec_Assign_Name_used _ _ _ _ hsw];refine wb0 (wpAny_standAt (wb0 ?_));refine wb0 (wpAny_mono (wpAny_comprehension_free (use:=some (assign (.Name y py) X.env)) (Q:=λc s'=>SP X pins F .next s') rfl hs (bT (B.cells I)) B.kind B.loc
  (thn (hi pins s σ H _ I h) λv s1 h1=>thn h1 λitv s2 h2=>?_)) (λc s' hq=>wq0 (wq0 hq)) λc c e=>e)
 refine jy (RR:=λacc C=>compPost (model X.prog X.w) X.A X.xe (some (assign (.Name y py) X.env)) (λc s'=>SP X pins F .next s') acc C) (Q:=λv H'=>F.nx (σ.set i (some v)) H') B hcalm hg hc he h2 ?_;intro C D s' H' m I' h1 h2 h3 h4 h5 h6 hm q;show wpAny _ X.A (assign (.Name y py) X.env (.ref D)) _ _ s';refine wpAny_assign_Name (store_ok2 (v:=.ref D) I' hN hix (.inl hy) rfl (λs'' I'' hb=>?_) (.inr hy));obtain⟨a,sb,ha⟩:=hb;have haC:C≠a:=by
  rcases ha with z|z
  .rw[z];exact h2
  .exact (h3 _ _ z).symm
 refine⟨m,hm.sameBut sb haC,λh'' sb''=>?_⟩;exact⟨_,H',I''.turned (t':=s''.toks) (λb o hb e=>(sb''.2 b hb).trans e) h6 h2 (.inr h5) h3 h4,q⟩
end
end L2.C
namespace K52
open PySem L2
noncomputable abbrev cV:Nat:=153
noncomputable def top(i:Nat):Stmt:=PySem.Challenge.pw_strata_k52_differences.main.body.getD i (.Pass ⟨0,0,0,0⟩)
noncomputable def met(j:Nat):Stmt:=match top 13 with|.ClassDef _ _ _ b ..=>b.getD j (.Pass ⟨0,0,0,0⟩)|_=>.Pass ⟨0,0,0,0⟩
noncomputable abbrev m0:Value:=.str "strata.names" 262
noncomputable abbrev m1:Value:=.str "strata.vaults" 293
noncomputable abbrev m2:Value:=.str "strata.walking" 410
noncomputable abbrev m3:Value:=.str "law_strata_k52_differences" 448
noncomputable abbrev fo(n q:Str)(st:Stmt)(pm:Value)(cd:Addr):Obj:=⟨.type "function",none,.func (PySem.W.fnOf n q (defArgs st) (defBody st) (defScope st) .none .none .none pm none (.ref cd) .none),#[]⟩
noncomputable def kE(P:Params)(k:Str)(t:Nat)(v:Value):DictEntry:=⟨PyData.keyHash P k,.str k t,v⟩
noncomputable def dO(n:Nat)(es:List DictEntry):Obj:=⟨.type "dict",none,.dict es.toArray n,#[]⟩
noncomputable def cO(n:Str)(bs mro:List Value)(ns:Addr)(subs:List Value)(sl:List (Option Value)):Obj:=⟨.type "type",none,.cls {name:=n,bases:=bs,mro:=mro,ns:=ns,qualname:=n,subclasses:=subs},sl.toArray⟩
noncomputable def kO(n q:Str)(t l p e cd:Nat)(w:Bool):Obj:=⟨.type "code",none,.fields #[.str n t,.str q (t+1),.str "/claim/cut.py" (t+2),.int l 0,.int p 0,.int 0 0,.int 0 0,.int 3 0,.ref (cd-(if w then 5 else 3)),.bool true,.int 181 0,.ref (cd-(if w then 4 else 2)),.none,if w then .ref (cd-3)else .none,if w then .ref (cd-2)else .none,.ref (cd-1),.int (t+e-1:Nat) 0,.int l 0,.str "/claim/cut.py" (t+e)],#[]⟩
noncomputable def kf(x:Str)(i:Nat)(pm:Value)(cd t l p e:Nat)(w:Bool)(r:fg0):fg0:=(cd,kO x x t l p e cd w)::(cd+1,fo x x (top i) pm cd)::r
noncomputable def kk(P:Params):fg0:=(3,dO 48 [kE P "__name__" 165 (.str "law_strata_k52_differences" 448),kE P "__doc__" 166 (.none),kE P "__package__" 167 (.none),kE P "__loader__" 168 (.builtin "__main__.__loader__#opaque"),kE P "__spec__" 169 (.none),kE P "__annotations__" 170 (.ref 6),kE P "__builtins__" 171 (.ref 4),kE P "__file__" 173 (.str "/claim/cut.py" 172),kE P "__cached__" 174 (.none),kE P "_wall" 193 (.ref 21),kE P "StrataError" 213 (.ref 31),kE P "NoObject" 229 (.ref 44),kE P "BadTree" 245 (.ref 56),kE P "NoPath" 261 (.ref 68),kE P "LONGEST_NAME" 265 (.int 12 264),kE P "is_name_sign" 272 (.ref 77),kE P "is_name" 278 (.ref 82),kE P "names_rise" 284 (.ref 87),kE P "joined" 292 (.ref 94),kE P "Vault" 371 (.ref 153),kE P "blob" 379 (.ref 164),kE P "tree" 385 (.ref 169),kE P "text_of" 393 (.ref 176),kE P "entries_of" 401 (.ref 183),kE P "refuse_wrong_names" 409 (.ref 190),kE P "MOST_NAMES" 413 (.int 20 412),kE P "files" 422 (.ref 197),kE P "differences" 428 (.ref 202),kE P "names_of" 434 (.ref 207),kE P "blobs_below" 447 (.ref 214),kE P "_law_cell" 457 (.ref 221),kE P "_law_mix" 466 (.ref 228),kE P "_law_whole" 473 (.ref 235),kE P "_law_sign" 482 (.ref 242),kE P "_law_line" 491 (.ref 249),kE P "_law_ends" 497 (.ref 254),kE P "_law_row" 503 (.ref 259),kE P "_law_edited" 518 (.ref 266),kE P "_law_name" 524 (.ref 271),kE P "_law_lines" 530 (.ref 276),kE P "_law_node" 541 (.ref 283),kE P "_law_folder" 547 (.ref 288),kE P "_law_turn" 553 (.ref 293),kE P "_law_store" 559 (.ref 298),kE P "_law_texts" 571 (.ref 305),kE P "_law_told" 577 (.ref 310),kE P "_law_names" 584 (.ref 317),kE P "law" 590 (.ref 322)])::
 ((4,⟨.type "module",some 0,.plain,#[]⟩)::
 (kf "is_name_sign" 8 m0 76 266 15 1 5 true<|
 kf "is_name" 9 m0 81 273 19 1 4 false<|
 kf "names_rise" 10 m0 86 279 25 1 4 false<|
 kf "joined" 11 m0 93 285 27 2 6 true<|
 (107,kO "__init__" "Vault.__init__" 307 32 1 5 107 true)::
 ((108,fo "__init__" "Vault.__init__" (met 0) m1 107)::
 ((121,kO "kind" "Vault.kind" 321 39 2 6 121 true)::
 ((122,fo "kind" "Vault.kind" (met 2) m1 121)::
 ((128,kO "held" "Vault.held" 329 42 2 6 128 true)::
 ((129,fo "held" "Vault.held" (met 3) m1 128)::
 ((135,kO "content" "Vault.content" 337 47 3 8 135 true)::
 ((136,fo "content" "Vault.content" (met 4) m1 135)::
 ((142,kO "put" "Vault.put" 347 53 2 6 142 true)::
 ((143,fo "put" "Vault.put" (met 5) m1 142)::
 ((152,dO 4 [kE P "__module__" 302 (.str "strata.vaults" 293),kE P "__firstlineno__" 306 (.int 30 305),kE P "__init__" 313 (.ref 108),kE P "size" 320 (.ref 115),kE P "kind" 328 (.ref 122),kE P "held" 336 (.ref 129),kE P "content" 346 (.ref 136),kE P "put" 354 (.ref 143),kE P "copied" 361 (.ref 150),kE P "__static_attributes__" 364 (.ref 151),kE P "__dict__" 366 (.ref 154),kE P "__weakref__" 368 (.ref 155),kE P "__doc__" 369 (.none)])::
 ((153,cO "Vault" [.type "object"] [.ref 153,.type "object"] 152 [] [none,none,some (.str "Vault" 295),some (.str "Vault" 303),some (.builtin "object.__new__"),some (.bool true)])::
 (kf "blob" 14 m1 163 372 61 2 6 true<|
 kf "tree" 15 m1 168 380 63 2 4 false<|
 kf "text_of" 16 m1 175 386 69 2 6 true<|
 kf "entries_of" 17 m1 182 394 71 2 6 true<|
 kf "refuse_wrong_names" 18 m1 189 402 73 1 6 true<|
 kf "files" 21 m2 196 414 81 3 7 true<|
 kf "differences" 22 m2 201 423 84 3 4 false<|
 kf "names_of" 23 m2 206 429 92 1 4 false<|
 kf "blobs_below" 24 m2 213 435 99 3 11 true<|
 kf "_law_cell" 26 m3 220 450 109 2 6 true<|
 kf "_law_mix" 27 m3 227 458 113 2 7 true<|
 kf "_law_sign" 29 m3 241 474 119 1 7 true<|
 kf "_law_line" 30 m3 248 483 123 2 7 true<|
 kf "_law_ends" 31 m3 253 492 128 2 4 false<|
 kf "_law_row" 32 m3 258 498 133 3 4 false<|
 kf "_law_edited" 33 m3 265 504 135 3 13 true<|
 kf "_law_name" 34 m3 270 519 144 2 4 false<|
 kf "_law_lines" 35 m3 275 525 151 1 4 false<|
 kf "_law_node" 36 m3 282 531 156 3 9 true<|
 kf "_law_folder" 37 m3 287 542 162 3 4 false<|
 kf "_law_turn" 38 m3 292 548 165 4 4 false<|
 kf "_law_store" 39 m3 297 554 184 2 4 false<|
 kf "_law_texts" 40 m3 304 560 188 2 10 true<|
 kf "_law_told" 41 m3 309 572 197 2 4 false<|
 kf "_law_names" 42 m3 316 578 203 1 5 true<|
 kf "law" 43 m3 321 585 205 1 4 false<|
 []))))))))))))))
noncomputable def kT(P:Params):fg0:=kk P++[(199,PySem.W.tabObj #[])]
noncomputable def ads:List Addr:=[3,4,76,77,81,82,86,87,93,94,107,108,121,122,128,129,135,136,142,143,152,153,163,164,168,169,175,176,182,183,189,190,196,197,201,202,206,207,213,214,220,221,227,228,241,242,248,249,253,254,258,259,265,266,270,271,275,276,282,283,287,288,292,293,297,298,304,305,309,310,316,317,321,322,199]
noncomputable def lo:List Str:=(["_wall","StrataError","NoObject","BadTree","NoPath","LONGEST_NAME","is_name_sign","is_name","names_rise","joined","Vault","blob","tree","text_of","entries_of","refuse_wrong_names","MOST_NAMES","files","differences","names_of"]:List Str)++(["blobs_below","_law_cell","_law_mix","_law_whole","_law_sign","_law_line","_law_ends","_law_row","_law_edited","_law_name","_law_lines","_law_node","_law_folder","_law_turn","_law_store","_law_texts","_law_told","_law_names"]:List Str)
noncomputable def posOf:Stmt->Pos
 |.FunctionDef _ _ _ _ _ _ _ _ _ p=>p
 |_=>⟨0,0,0,0⟩
noncomputable def CJ:DefRec:=⟨"law",defArgs (top 43),defBody (top 43),defScope (top 43),posOf (top 43)⟩
noncomputable def vw:Program:={PySem.Challenge.pw_strata_k52_differences with main:={PySem.Challenge.pw_strata_k52_differences.main with body:=[top 43]}}
open PySem.W PySem.W.X in
theorem hl:LeftO PySem.Challenge.pw_strata_k52_differences vw lo (λs=>xlAt vw [] s&&recOk (RowW.records (OpenRow.toRowW PySem.Challenge.rw_strata_k52_differences.row)) s) (obsZ ads) (valZ kT 323 591) 4576:=by intro w;kernel_rfl
end K52
namespace SI
open PySem
inductive D where
 |none
 |bool (b:Bool)
 |int (i:Int)
 |str (x:Str)
 |tuple (ds:List D)
 |list (ds:List D)
 |dict (kvs:List (Sum Int Str×D))
 |scr (ns:List Int)
 |vlt (C h:Nat) (objs:List D)
 |hdl (h:Nat)
 |exc (C:Nat)
 |fn (a:Nat)
 |fdc (kvs:List (Sum Int Str×D))
noncomputable instance:DecidableEq D:=λa a=>Classical.propDecidable _
inductive Sl where
 |no
 |dat (d:D)
 |lent (d:D)
 |own (d:D)
inductive Op2 where|add|sub|mul|mod|fdiv
inductive Cop where|lt|le|gt|eq|ne|isin|notin|isN|notN
inductive Bf where|len|int|list|tuple|dict|all|srt
inductive Mf where|split|join
inductive Tg where
 |one (i:Nat)
 |tup (is:List Nat)
inductive Md where|val|read|test|walk
noncomputable def big:Nat:=16777216
noncomputable def ixN(n:Nat)(i:Int):Option Nat:=if 0<=i then (if i<n then some i.toNat else none)else if -(n:Int)<=i then some (i+n).toNat else none
noncomputable def atI{α:Type}(xs:List α)(i:Int):Option α:=(ixN xs.length i).bind λj=>xs[j]?
noncomputable def sIx(n d:Nat):Option Int->Nat
 |none=>d
 |some v=>if v<0 then (v+(n:Int)).toNat else min v.toNat n
noncomputable def cut{α:Type}(xs:List α)(lo hi:Option Int):List α:=(xs.drop (sIx xs.length 0 lo)).take (sIx xs.length xs.length hi-sIx xs.length 0 lo)
noncomputable def okS:Nat->D->Bool
 |_,.none=>true
 |_,.int _=>true
 |_,.str _=>true
 |n+1,.tuple ds=>ds.all (okS n)
 |n+1,.list ds=>ds.all (okS n)
 |_,_=>false
noncomputable def fF:D->Option Bool
 |.none=>some false
 |.bool b=>some b
 |.int i=>some (i != 0)
 |.str x=>if x.length<=big then some ((x.length:Int) != 0)else none
 |.tuple ds=>some (!ds.isEmpty)
 |.list ds=>some (!ds.isEmpty)
 |.scr ns=>some (!ns.isEmpty)
 |_=>none
noncomputable def asB:D->Option Bool
 |.bool b=>some b
 |_=>none
noncomputable def asI:D->Option Int
 |.int i=>some i
 |_=>none
noncomputable def fin:Md->Option D->Option D
 |.test,d=>d.bind λd=>(fF d).map .bool
 |_,d=>d
noncomputable def bm:Md->Md
 |.test=>.test
 |_=>.val
noncomputable def noT:Md->Option D->Option D
 |.test,_=>none
 |_,d=>d
noncomputable def rOk(n:Int):Bool:=decide (-(2 ^ 62)<=n)&&decide (n<2 ^ 62)
noncomputable def uE(n:Nat)(j:Int):Bool:=decide (-(2 ^ 63)<=j)&&decide (j<2 ^ 63)&&decide (n*j.toNat<=big)
noncomputable def oB(i j:Int):Bool:=(decide (-(2 ^ 64)<i)&&decide (i<2 ^ 64))||(decide (-(2 ^ 64)<j)&&decide (j<2 ^ 64))
def CK{n:Int}(h1:-1000000<=n)(h2:n<=1000000):rOk n=true:=by
 unfold rOk;rw[dt0 (by omega),dt0 (by omega)];rfl
noncomputable def opD:Op2->D->D->Option D
 |.add,.int i,.int j=>some (.int (i+j))
 |.add,.str x,.str y=>if x.length+y.length<=big then some (.str (x++y))else none
 |.add,.list a,.list b=>if a.length+b.length<=big then some (.list (a++b))else none
 |.sub,.int i,.int j=>some (.int (i-j))
 |.mul,.int i,.int j=>if oB i j then some (.int (i*j))else none
 |.mul,.list a,.int j=>if uE a.length j then some (.list (List.replicate j.toNat a).flatten)else none
 |.mul,.str x,.int j=>if -1000<=j/\j<=1000/\x.length<=1000 then some (.str ⟨((List.replicate j.toNat x.cps.toList).flatten).toArray⟩)else none
 |.mod,.int i,.int j=>if 0<j then some (.int (i % j))else none
 |.fdiv,.int i,.int j=>if 0<j/\j<1073741824 then some (.int (i / j))else none
 |_,_,_=>none
noncomputable def kB:D->Option (Sum Int Str)
 |.int i=>some (.inl i)
 |.str x=>some (.inr x)
 |_=>none
noncomputable def look{α:Type}:List (Sum Int Str×α)->Sum Int Str->Option α
 |[],_=>none
 |(l,d)::r,k=>if l=k then some d else look r k
noncomputable def put{α:Type}:List (Sum Int Str×α)->Sum Int Str->α->List (Sum Int Str×α)
 |[],k,v=>[(k,v)]
 |(l,d)::r,k,v=>if l=k then (l,v)::r else (l,d)::put r k v
@[simp] noncomputable def getD:D->D->Option D
 |.fdc kvs,k=>(kB k).map λk=>(look kvs k).getD .none
 |_,_=>none
noncomputable def eqD(a b:D):Option Bool:=
 if okS 20 a&&okS 20 b then some (decide (a=b))else none
noncomputable def hasSub(x y:Str):Bool:=!(Builtin.Str.occurrences y x 0 y.length 1).isEmpty
noncomputable def inD(a b:D):Option Bool:=
 match b with
 |.str y=>match a with
  |.str x=>some (hasSub x y)
  |_=>none
 |.list ds=>if okS 20 a&&ds.all (okS 19)then some (ds.any λd=>decide (d=a))else none
 |.tuple ds=>if okS 20 a&&ds.all (okS 19)then some (ds.any λd=>decide (d=a))else none
 |.fdc kvs=>(kB a).map λk=>(look kvs k).isSome
 |_=>none
noncomputable def cb:Cop->D->D->Option Bool
 |.lt,.int i,.int j=>some (decide (i<j))
 |.le,.int i,.int j=>some (decide (i<=j))
 |.gt,.int i,.int j=>some (decide (j<i))
 |.lt,.str x,.str y=>some (decide (x.cps.toList<y.cps.toList))
 |.le,.str x,.str y=>some (!decide (y.cps.toList<x.cps.toList))
 |.eq,a,b=>eqD a b
 |.ne,a,b=>(eqD a b).map (!·)
 |.isin,a,b=>inD a b
 |.notin,a,b=>(inD a b).map (!·)
 |.isN,a,b=>if b=.none then some (decide (a=.none))else none
 |.notN,a,b=>if b=.none then some (!decide (a=.none))else none
 |_,_,_=>none
noncomputable def oC:D->D->Option D
 |.list ds,.int i=>atI ds i
 |.tuple ds,.int i=>atI ds i
 |.scr ns,.int i=>(atI ns i).map .int
 |.str x,.int i=>if x.length<=big then (atI x.cps.toList i).map λc=>.str ⟨#[c]⟩ else none
 |.fdc kvs,k=>(kB k).bind (look kvs)
 |_,_=>none
noncomputable def slD(d:D)(lo hi:Option Int):Option D:=
 match d with
 |.list ds=>some (.list (cut ds lo hi))
 |.str x=>if x.length<=big then some (.str (Txt.slice x lo hi))else none
 |_=>none
noncomputable def kC(T:String):D->Option Bool
 |.none=>some false
 |.bool _=>some (T=="bool"||T=="int")
 |.int _=>some (T=="int")
 |.str _=>some (T=="str")
 |.tuple _=>some (T=="tuple")
 |.list _=>some (T=="list")
 |_=>none
noncomputable def strsOf:List D->Option (List Str)
 |[]=>some []
 |.str x::r=>(strsOf r).map (x::·)
 |_::_=>none
noncomputable def pairsOf:List D->Option (List (Sum Int Str×D))
 |[]=>some []
 |.tuple [.int i,d]::r=>(pairsOf r).map ((.inl i,d)::·)
 |.tuple [.str x,d]::r=>(pairsOf r).map ((.inr x,d)::·)
 |_::_=>none
noncomputable def putAll{α:Type}:List (Sum Int Str×α)->List (Sum Int Str×α)->List (Sum Int Str×α)
 |acc,[]=>acc
 |acc,(k,v)::r=>putAll (put acc k v) r
noncomputable def boolsOf:List D->Option (List Bool)
 |[]=>some []
 |.bool b::r=>(boolsOf r).map (b::·)
 |_::_=>none
noncomputable def ltS(x y:Str):Bool:=decide (x.cps.toList<y.cps.toList)
noncomputable def jc(x:Str):List Str->List Str
 |[]=>[x]
 |y::r=>if x=y then y::r else if ltS x y then x::y::r else y::jc x r
noncomputable def srtS:List Str->List Str
 |[]=>[]
 |x::r=>jc x (srtS r)
noncomputable def cc(x:Str):Bool:=x.cps.toList.all λc=>decide (c<0x110000)
noncomputable def Gm:List (Sum Int Str×D)->Option (List (Str×Int))
 |[]=>some []
 |(.inr x,.int i)::r=>if cc x then (Gm r).map ((x,i)::·)else none
 |_=>none
noncomputable def Gn(p:Str×Int):List (Str×Int)->List (Str×Int)
 |[]=>[p]
 |q::r=>if ltS p.1 q.1 then p::q::r else q::Gn p r
noncomputable def Gp:List (Str×Int)->List (Str×Int)
 |[]=>[]
 |p::r=>Gn p (Gp r)
@[simp] noncomputable def Lb:D->Option D
 |.dict kvs=>(Gm kvs).bind λps=>if ps.length<64 then some (.list ((Gp ps).map λq=>.tuple [.str q.1,.int q.2]))else none
 |_=>none
noncomputable def bN:List (Sum Int Str×D)->Option (List Str)
 |[]=>some []
 |(.inr x,_)::r=>if cc x then (bN r).map (x::·)else none
 |_=>none
noncomputable def ltL(p q:List Str):Bool:=decide (p.map (·.cps.toList)<q.map (·.cps.toList))
noncomputable def jd(z:List Str×D):List (List Str×D)->List (List Str×D)
 |[]=>[z]
 |y::r=>if ltL z.1 y.1 then z::y::r else y::jd z r
noncomputable def hW:List (List Str×D)->List (List Str×D)
 |[]=>[]
 |z::r=>jd z (hW r)
noncomputable def gC(zs:List (List Str×D)):Option D:=if zs.length<64/\(zs.map (·.1)).Nodup then some (.list ((hW zs).map (·.2)))else none
noncomputable def gd:List D->Option (List (List Str×D))
 |[]=>some []
 |.tuple [.str x,d]::r=>(gd r).map (([x],.tuple [.str x,d])::·)
 |_=>none
@[simp] noncomputable def yH:D->Option D
 |.list ds=>(gd ds).bind gC
 |_=>none
@[simp] noncomputable def JD:D->Option D
 |.list ds=>(pairsOf ds).map λps=>.fdc (putAll [] ps)
 |_=>none
noncomputable def biD:Bf->List D->Option D
 |.len,[.list ds]=>some (.int ds.length)
 |.len,[.tuple ds]=>some (.int ds.length)
 |.len,[.scr ns]=>some (.int ns.length)
 |.len,[.str x]=>if x.length<=big then some (.int x.length)else none
 |.int,[.int i]=>some (.int i)
 |.int,[.bool b]=>some (.int (if b then 1 else 0))
 |.list,[.list ds]=>some (.list ds)
 |.list,[.tuple ds]=>some (.list ds)
 |.dict,[.list ds]=>(pairsOf ds).map λps=>.dict (putAll [] ps)
 |.dict,[.fdc kvs]=>some (.dict kvs)
 |.tuple,[.list ds]=>if ds.length<=big then some (.tuple ds)else none
 |.all,[.list ds]=>(boolsOf ds).map λbs=>.bool (bs.all id)
 |.srt,[.list ds]=>(strsOf ds).bind λss=>if ss.length<64 then some (.list ((srtS ss).map .str))else none
 |_,_=>none
noncomputable def meD:Mf->D->List D->Option D
 |.split,.str x,[.str y]=>if (y.length==0)=false/\x.length+2<=big then some (.list ((Txt.split x y).map .str))else none
 |.join,.str x,[.list ds]=>(strsOf ds).bind λys=>if (ys.map (·.length)).sum+ys.length*x.length<=big then some (.str (Txt.join x ys))else none
 |_,_,_=>none
noncomputable def bU:D->Option (List D)
 |.list ds=>some ds
 |.tuple ds=>some ds
 |.fdc kvs=>(bN kvs).map λss=>ss.map .str
 |.str x=>if x.length<=big then some (x.cps.toList.map λc=>.str ⟨#[c]⟩)else none
 |_=>none
@[simp] noncomputable def zip2:List D->List D->List D
 |a::r,b::q=>.tuple [a,b]::zip2 r q
 |_,_=>[]
@[simp] noncomputable def JE:List D->List D->List D->List D
 |a::r,b::q,c::p=>.tuple [a,b,c]::JE r q p
 |_,_,_=>[]
noncomputable def Bc:List D->Option (List D)
 |[.list a,.list b]=>if b.length<=a.length then some (zip2 a b)else none
 |_=>none
noncomputable def dG:List D->Option (List (List D))
 |[]=>some []
 |d::r=>(bU d).bind λa=>(dG r).map (a::·)
noncomputable def bL:D->Bool
 |.list _=>true
 |.dict _=>true
 |.vlt ..=>true
 |_=>false
noncomputable def aJ(m:Md):Sl->Option D
 |.dat d=>some d
 |.lent d=>match m with|.val=>if bL d then none else some d|_=>some d
 |.own d=>match m with|.val=>none|.walk=>none|_=>some d
 |_=>none
noncomputable def ai:Tg->D->List Sl->Option (List Sl)
 |.one i,d,Y=>some (Y.set i (.dat d))
 |.tup is,.tuple ds,Y=>if is.length=ds.length then some ((is.zip ds).foldl (λY p=>Y.set p.1 (.dat p.2)) Y)else none
 |_,_,_=>none
noncomputable def lend:Sl->Sl
 |.own d=>.lent d
 |s=>s
@[simp] noncomputable def blk(nt:Nat)(js:List Nat)(Y:List Sl):List Sl:=List.replicate nt .no++js.map λj=>lend (Y[j]?.getD .no)
noncomputable def aB(f:D->Option (Option D)):List D->Option (List D)
 |[]=>some []
 |d::r=>(f d).bind λo=>(aB f r).map λq=>match o with
  |none=>q
  |some x=>x::q
structure Fn where
 lent:List Bool
 run:List D->Option D
noncomputable abbrev Fs:=Str->Option Fn
noncomputable def aq(m:Str):Str:=("Vault.":Str)++m
noncomputable def hX(c:Nat):D->Bool
 |.vlt c' _ _=>c'==c
 |_=>false
noncomputable def yI:D->List D
 |.vlt _ _ os=>os
 |_=>[]
noncomputable def roM:Md->Option D->Option D
 |.read,o=>o
 |.test,o=>o
 |_,_=>none
noncomputable abbrev E:=Fs->List (Str×D)->Md->List Sl->Option D
inductive Es where
 |nil
 |cons (a:E) (as:Es)
noncomputable abbrev I:=Fs->List (Str×D)->Md->List Sl->Option (List D)
section
variable (Z:Fs)(Γ:List (Str×D))
noncomputable def ev(m:Md)(Y:List Sl)(e:E):Option D:=e Z Γ m Y
noncomputable def evI(m:Md)(Y:List Sl)(e:I):Option (List D):=e Z Γ m Y
@[simp] noncomputable def evs(m:Md)(fl:List Bool)(Y:List Sl):Es->Option (List D)
 |.nil=>some []
 |.cons a as=>(ev Z Γ (if fl.headD false then m else .val) Y a).bind λx=>(evs m fl.tail Y as).map (x::·)
@[simp] noncomputable def evC(Y:List Sl):Es->Option Bool
 |.nil=>some true
 |.cons a as=>(ev Z Γ .test Y a).bind asB
@[simp] noncomputable def evP(Y:List Sl):Es->Option (Option Int)
 |.nil=>some none
 |.cons a as=>(ev Z Γ .val Y a).bind λd=>(asI d).map some
end
abbrev Es.A(x:E):Es:=.cons x .nil
abbrev Es.B(x y:E):Es:=.cons x (.A y)
namespace E
@[simp] noncomputable def k(d:D):E|Z,Γ,m,Y=>fin m (some d)
@[simp] noncomputable def v(i:Nat):E|Z,Γ,m,Y=>fin m (Y[i]?.bind (aJ m))
@[simp] noncomputable def g(x:Str):E|Z,Γ,m,Y=>fin m (Γ.lookup x)
@[simp] noncomputable def op(o:Op2)(a b:E):E|Z,Γ,m,Y=>fin m ((ev Z Γ .read Y a).bind λx=>(ev Z Γ .read Y b).bind λy=>opD o x y)
@[simp] noncomputable def neg(a:E):E|Z,Γ,m,Y=>fin m ((ev Z Γ .val Y a).bind λd=>(asI d).map λi=>.int (-i))
@[simp] noncomputable def cmp(o:Cop)(a b:E):E|Z,Γ,m,Y=>fin m ((ev Z Γ .read Y a).bind λx=>(ev Z Γ .read Y b).bind λy=>(cb o x y).map .bool)
@[simp] noncomputable def chain(o o':Cop)(a b c:E):E|Z,Γ,m,Y=>fin m ((ev Z Γ .read Y a).bind λx=>(ev Z Γ .read Y b).bind λy=>(cb o x y).bind λt=>if t then (ev Z Γ .read Y c).bind λz=>(cb o' y z).map .bool else some (.bool false))
@[simp] noncomputable def and(a b:E):E|Z,Γ,m,Y=>(ev Z Γ (bm m) Y a).bind λd=>(asB d).bind λt=>if t then ev Z Γ (bm m) Y b else some (.bool false)
@[simp] noncomputable def or(a b:E):E|Z,Γ,m,Y=>(ev Z Γ (bm m) Y a).bind λd=>(asB d).bind λt=>if t then some (.bool true)else ev Z Γ (bm m) Y b
@[simp] noncomputable def not(a:E):E|Z,Γ,m,Y=>(ev Z Γ (bm m) Y a).bind λd=>(asB d).map λt=>.bool (!t)
@[simp] noncomputable def ite(c a b:E):E|Z,Γ,m,Y=>noT m ((ev Z Γ .test Y c).bind λd=>(asB d).bind λt=>if t then ev Z Γ .val Y a else ev Z Γ .val Y b)
@[simp] noncomputable def call(f:Str)(as:Es):E|Z,Γ,m,Y=>fin m ((Z f).bind λL=>(evs Z Γ .read L.lent Y as).bind L.run)
@[simp] noncomputable def idx(a i:E):E|Z,Γ,m,Y=>fin m ((ev Z Γ .read Y a).bind λx=>(ev Z Γ .val Y i).bind λy=>oC x y)
@[simp] noncomputable def get(a k:E):E|Z,Γ,m,Y=>fin m ((ev Z Γ .read Y a).bind λx=>(ev Z Γ .val Y k).bind λy=>getD x y)
@[simp] noncomputable def srtn(a:E):E|Z,Γ,m,Y=>fin m ((ev Z Γ .read Y a).bind yH)
@[simp] noncomputable def fdc(a:E):E|Z,Γ,m,Y=>fin m ((ev Z Γ .read Y a).bind JD)
@[simp] noncomputable def sl(a:E)(lo hi:Es):E|Z,Γ,m,Y=>fin m ((ev Z Γ .read Y a).bind λx=>(evP Z Γ Y lo).bind λy=>(evP Z Γ Y hi).bind λz=>slD x y z)
@[simp] noncomputable def lst(as:Es):E|Z,Γ,m,Y=>fin m ((evs Z Γ .val [] Y as).bind λds=>if ds.length<=1000 then some (.list ds)else none)
@[simp] noncomputable def tup(as:Es):E|Z,Γ,m,Y=>fin m ((evs Z Γ .val [] Y as).bind λds=>if ds.length<=1000 then some (.tuple ds)else none)
@[simp] noncomputable def comp(nt:Nat)(js:List Nat)(tg:Tg)(src:I)(ifs:Es)(elt:E):E|Z,Γ,m,Y=>fin m ((evI Z Γ .read Y src).bind λds=>if ds.length<=big then (aB (λd=>(ai tg d (blk nt js Y)).bind λY'=>(evC Z Γ Y' ifs).bind λt=>if t then (ev Z Γ .val Y' elt).map some else some none) ds).map .list else none)
@[simp] noncomputable def bi(f:Bf)(as:Es):E|Z,Γ,m,Y=>fin m ((evs Z Γ .read [true,true,true] Y as).bind λds=>biD f ds)
@[simp] noncomputable def me(f:Mf)(o:E)(as:Es):E|Z,Γ,m,Y=>fin m ((ev Z Γ .read Y o).bind λx=>(evs Z Γ .read [true,true] Y as).bind λds=>meD f x ds)
@[simp] noncomputable def isi(a:E)(T:String):E|Z,Γ,m,Y=>fin m ((ev Z Γ .read Y a).bind λx=>(kC T x).map .bool)
@[simp] noncomputable def vob(c:Nat)(a:E):E|Z,Γ,m,Y=>roM m (fin m ((ev Z Γ .read Y a).bind λx=>if hX c x then some (.list (yI x))else none))
@[simp] noncomputable def vcall(c:Nat)(f:Str)(o:E)(as:Es):E|Z,Γ,m,Y=>fin m ((ev Z Γ .read Y o).bind λx=>if hX c x then (Z (aq f)).bind λL=>(evs Z Γ .read L.lent.tail Y as).bind λds=>if L.lent.headD false then L.run (x::ds)else none else none)
end E
namespace I
@[simp] noncomputable def seq(a:E):I|Z,Γ,m,Y=>(ev Z Γ m Y a).bind bU
@[simp] noncomputable def rng(a:E):I|Z,Γ,m,Y=>(ev Z Γ .val Y a).bind λd=>(asI d).bind λn=>if rOk n then some ((List.range n.toNat).map λ(k:Nat)=>.int k)else none
@[simp] noncomputable def zip(as:Es):I|Z,Γ,m,Y=>(evs Z Γ .read [true,true,true] Y as).bind Bc
end I
section
variable {Z:Fs}{Γ:List (Str×D)}{m:Md}{Y:List Sl}
@[simp] def e_k{d:D}:ev Z Γ m Y (.k d)=E.k d Z Γ m Y:=(rfl)
@[simp] def e_v :ev Z Γ m Y (.v i)=E.v i Z Γ m Y:=(rfl)
@[simp] def e_g :ev Z Γ m Y (.g x)=E.g x Z Γ m Y:=(rfl)
@[simp] def LX{o:Op2}{a b:E}:ev Z Γ m Y (.op o a b)=E.op o a b Z Γ m Y:=(rfl)
@[simp] def Lc{a:E}:ev Z Γ m Y (.neg a)=E.neg a Z Γ m Y:=(rfl)
@[simp] def Ld{o:Cop}{a b:E}:ev Z Γ m Y (.cmp o a b)=E.cmp o a b Z Γ m Y:=(rfl)
@[simp] def Ii{o o':Cop}{a b c:E}:ev Z Γ m Y (.chain o o' a b c)=E.chain o o' a b c Z Γ m Y:=(rfl)
@[simp] def Le{a b:E}:ev Z Γ m Y (.and a b)=E.and a b Z Γ m Y:=(rfl)
@[simp] def LY{a b:E}:ev Z Γ m Y (.or a b)=E.or a b Z Γ m Y:=(rfl)
@[simp] def Lg{a:E}:ev Z Γ m Y (.not a)=E.not a Z Γ m Y:=(rfl)
@[simp] def Lh{c a b:E}:ev Z Γ m Y (.ite c a b)=E.ite c a b Z Γ m Y:=(rfl)
@[simp] def JF{f:Str}{as:Es}:ev Z Γ m Y (.call f as)=E.call f as Z Γ m Y:=(rfl)
@[simp] def Li{a i:E}:ev Z Γ m Y (.idx a i)=E.idx a i Z Γ m Y:=(rfl)
@[simp] def Lj{a k:E}:ev Z Γ m Y (.get a k)=E.get a k Z Γ m Y:=(rfl)
@[simp] def JG{a:E}:ev Z Γ m Y (.srtn a)=E.srtn a Z Γ m Y:=(rfl)
@[simp] def Lk{a:E}:ev Z Γ m Y (.fdc a)=E.fdc a Z Γ m Y:=(rfl)
@[simp] def LZ{a:E}{lo hi:Es}:ev Z Γ m Y (.sl a lo hi)=E.sl a lo hi Z Γ m Y:=(rfl)
@[simp] def Ll{as:Es}:ev Z Γ m Y (.lst as)=E.lst as Z Γ m Y:=(rfl)
@[simp] def Lm{as:Es}:ev Z Γ m Y (.tup as)=E.tup as Z Γ m Y:=(rfl)
@[simp] def JH{nt:Nat}{tg:Tg}{src:I}{ifs:Es}{elt:E}:ev Z Γ m Y (.comp nt js tg src ifs elt)=E.comp nt js tg src ifs elt Z Γ m Y:=(rfl)
@[simp] def Ma{f:Bf}{as:Es}:ev Z Γ m Y (.bi f as)=E.bi f as Z Γ m Y:=(rfl)
@[simp] def Mb{f:Mf}{o:E}{as:Es}:ev Z Γ m Y (.me f o as)=E.me f o as Z Γ m Y:=(rfl)
@[simp] def Ln{a:E}:ev Z Γ m Y (.isi a T)=E.isi a T Z Γ m Y:=(rfl)
@[simp] def Lo{c:Nat}{a:E}:ev Z Γ m Y (.vob c a)=E.vob c a Z Γ m Y:=(rfl)
@[simp] def Ij{c:Nat}{f:Str}{o:E}{as:Es}:ev Z Γ m Y (.vcall c f o as)=E.vcall c f o as Z Γ m Y:=(rfl)
@[simp] def Lp{a:E}:evI Z Γ m Y (.seq a)=I.seq a Z Γ m Y:=(rfl)
@[simp] def Lq{a:E}:evI Z Γ m Y (.rng a)=I.rng a Z Γ m Y:=(rfl)
@[simp] def Lr{as:Es}:evI Z Γ m Y (.zip as)=I.zip as Z Γ m Y:=(rfl)
end
inductive Out where
 |nx (Y:List Sl)
 |rt (d:D)
noncomputable def Out.andThen(o:Out)(f:List Sl->Option Out):Option Out:=match o with
 |.nx Y=>f Y
 |.rt d=>some (.rt d)
noncomputable def freeze:Sl->Sl
 |.own d=>.dat d
 |s=>s
noncomputable def frB:Bf->Bool
 |.list=>true
 |.dict=>true
 |_=>false
noncomputable def frM:Mf->Bool
 |.split=>true
 |_=>false
noncomputable def forL(t:D->List Sl->Option (List Sl))(b:List Sl->Option Out):List D->List Sl->Option Out
 |[],Y=>some (.nx Y)
 |d::r,Y=>(t d Y).bind λY'=>(b Y').bind λo=>o.andThen (forL t b r)
noncomputable abbrev S:=Fs->List (Str×D)->List Sl->Option Out
inductive Ss where
 |nil
 |cons (s:S) (r:Ss)
noncomputable def ex(Z:Fs)(Γ:List (Str×D))(Y:List Sl)(s:S):Option Out:=s Z Γ Y
@[simp] noncomputable def exs(Z:Fs)(Γ:List (Str×D))(Y:List Sl):Ss->Option Out
 |.nil=>some (.nx Y)
 |.cons s r=>(ex Z Γ Y s).bind λo=>o.andThen λY'=>exs Z Γ Y' r
@[simp] noncomputable def Gq(i:Nat)(Y:List Sl)(d:D):Option Out:=match Y[i]? with
 |some (.own (.list ds))=>if ds.length<big then some (.nx (Y.set i (.own (.list (ds++[d])))))else none
 |_=>none
@[simp] noncomputable def Gr(i:Nat)(Y:List Sl)(d x:D):Option Out:=match Y[i]?,x with
 |some (.own (.list ds)),.int n=>(ixN ds.length n).map λj=>.nx (Y.set i (.own (.list (ds.set j d))))
 |_,_=>none
@[simp] noncomputable def Gs(i:Nat)(Y:List Sl)(x:D):Option Out:=match Y[i]?,x with
 |some (.own (.dict kvs)),.fdc es=>if kvs.length+es.length<=1000 then some (.nx (Y.set i (.own (.dict (putAll kvs es)))))else none
 |_,_=>none
@[simp] noncomputable def Gu(i:Nat)(Y:List Sl)(d:D):Option Out:=match Y[i]?,d with
 |some (.own (.list ds)),.list es=>if ds.length+es.length<=big then some (.nx (Y.set i (.own (.list (ds++es)))))else none
 |_,_=>none
namespace S
@[simp] noncomputable def ext(i:Nat)(e:E):S|Z,Γ,Y=>(ev Z Γ .read Y e).bind λx=>Gu i Y x
@[simp] noncomputable def expr(e:E):S|Z,Γ,Y=>(ev Z Γ .val Y e).map λa=>.nx Y
@[simp] noncomputable def upd(i:Nat)(e:E):S|Z,Γ,Y=>(ev Z Γ .val Y e).bind λx=>Gs i Y x
@[simp] noncomputable def unp(t:Tg)(e:E):S|Z,Γ,Y=>(ev Z Γ .val Y e).bind λd=>(ai t d Y).map .nx
@[simp] noncomputable def set(i:Nat)(e:E):S|Z,Γ,Y=>(ev Z Γ .val Y e).map λd=>.nx (Y.set i (.dat d))
@[simp] noncomputable def new(i:Nat)(e:E):S|Z,Γ,Y=>(ev Z Γ .val Y e).bind λd=>if bL d then some (.nx (Y.set i (.own d)))else none
@[simp] noncomputable def app(i:Nat)(e:E):S|Z,Γ,Y=>(ev Z Γ .val Y e).bind λd=>Gq i Y d
@[simp] noncomputable def seti(i:Nat)(k e:E):S|Z,Γ,Y=>(ev Z Γ .val Y e).bind λd=>(ev Z Γ .val Y k).bind λx=>Gr i Y d x
@[simp] noncomputable def ifs(c:E)(a b:Ss):S|Z,Γ,Y=>(ev Z Γ .test Y c).bind λd=>(asB d).bind λt=>if t then exs Z Γ Y a else exs Z Γ Y b
@[simp] noncomputable def fors(tg:Tg)(src:I)(body:Ss):S|Z,Γ,Y=>(evI Z Γ .walk Y src).bind λds=>forL (ai tg) (λY'=>exs Z Γ Y' body) ds Y
@[simp] noncomputable def ret(e:E):S|Z,Γ,Y=>(ev Z Γ .val (Y.map freeze) e).map .rt
@[simp] noncomputable def stuck:S|Z,Γ,Y=>none
end S
section
variable {Z:Fs}{Γ:List (Str×D)}{Y:List Sl}
@[simp] def Ls{e:E}:ex Z Γ Y (.set i e)=S.set i e Z Γ Y:=(rfl)
@[simp] def Lu{e:E}:ex Z Γ Y (.new i e)=S.new i e Z Γ Y:=(rfl)
@[simp] def Lv{e:E}:ex Z Γ Y (.app i e)=S.app i e Z Γ Y:=(rfl)
@[simp] def Lw{e:E}:ex Z Γ Y (.ext i e)=S.ext i e Z Γ Y:=(rfl)
@[simp] def JI{e:E}:ex Z Γ Y (.expr e)=S.expr e Z Γ Y:=(rfl)
@[simp] def Lx{e:E}:ex Z Γ Y (.upd i e)=S.upd i e Z Γ Y:=(rfl)
@[simp] def Ly{t:Tg}{e:E}:ex Z Γ Y (.unp t e)=S.unp t e Z Γ Y:=(rfl)
@[simp] def JJ{k e:E}:ex Z Γ Y (.seti i k e)=S.seti i k e Z Γ Y:=(rfl)
@[simp] def Lz{c:E}{a b:Ss}:ex Z Γ Y (.ifs c a b)=S.ifs c a b Z Γ Y:=(rfl)
@[simp] def JK{tg:Tg}{src:I}{body:Ss}:ex Z Γ Y (.fors tg src body)=S.fors tg src body Z Γ Y:=(rfl)
@[simp] def LA{e:E}:ex Z Γ Y (.ret e)=S.ret e Z Γ Y:=(rfl)
@[simp] def Ik :ex Z Γ Y .stuck=S.stuck  Z Γ Y:=(rfl)
end
abbrev Ss.A(x:S):Ss:=.cons x .nil
abbrev Ss.B(x y:S):Ss:=.cons x (.A y)
structure Def where
 lent:List Bool
 slots:Nat
 body:Ss
@[simp] noncomputable def bV(d:Def)(ds:List D):List Sl:=(d.lent.zip ds).map (λp=>if p.1 then Sl.lent p.2 else .dat p.2)++List.replicate (d.slots-ds.length) .no
noncomputable def Out.val:Out->Option D
 |.nx _=>some .none
 |.rt d=>some d
noncomputable def den(prog:List (Str×Def))(Γ:List (Str×D)):Nat->Fs
 |0,_=>none
 |k+1,f=>(prog.lookup f).map λd=>⟨d.lent,λds=>if ds.length=d.lent.length then (exs (den prog Γ k) Γ (bV d ds) d.body).bind Out.val else none⟩
section
variable {d:D}{i j:Int}{y:Str}{ds es:List D}{kvs:List (Sum Int Str×D)}{ns:List Int}{b t:Bool}{Y:List Sl}
@[simp] def Gv:asB (.bool b)=some b:=rfl
@[simp] def Il:asI (.int i)=some i:=rfl
@[simp] def Im{o:Option D}:fin .val o=o:=rfl
@[simp] def Gw{o:Option D}:fin .read o=o:=rfl
@[simp] def Io:bm .test=.test:=rfl
@[simp] def JL:bm .val=.val:=rfl
@[simp] def Ip:bm .read=.val:=rfl
@[simp] def Iq:bm .walk=.val:=rfl
@[simp] def Gx{o:Option D}:fin .walk o=o:=rfl
@[simp] def Gy{o:Option D}:noT .walk o=o:=rfl
@[simp] def CL:aJ .walk (.lent d)=some d:=rfl
@[simp] def Fz:aJ .walk (.own d)=none:=rfl
@[simp] def Gz{o:Option D}:fin .test o=o.bind λd=>(fF d).map .bool:=rfl
@[simp] def Ir{o:Option D}:noT .val o=o:=rfl
@[simp] def GA{o:Option D}:noT .read o=o:=rfl
@[simp] def FA:fF .none=some false:=rfl
@[simp] def FB:fF (.bool b)=some b:=rfl
@[simp] def GB:fF (.int i)=some (i != 0):=rfl
@[simp] def uF:fF (.str x)=if x.length<=big then some ((x.length:Int) != 0)else none:=rfl
@[simp] def CM:fF (.tuple ds)=some (!ds.isEmpty):=rfl
@[simp] def FC:fF (.list ds)=some (!ds.isEmpty):=rfl
@[simp] def GC:fF (.scr ns)=some (!ns.isEmpty):=rfl
@[simp] def Iu:opD .add (.int i) (.int j)=some (.int (i+j)):=rfl
@[simp] def yJ:opD .add (.str x) (.str y)=if x.length+y.length<=big then some (.str (x++y))else none:=rfl
@[simp] def qo:opD .add (.list ds) (.list es)=if ds.length+es.length<=big then some (.list (ds++es))else none:=rfl
@[simp] def Iv:opD .sub (.int i) (.int j)=some (.int (i-j)):=rfl
@[simp] def qq:opD .mul (.int i) (.int j)=if oB i j then some (.int (i*j))else none:=rfl
@[simp] def yK:opD .mul (.list ds) (.int j)=if uE ds.length j then some (.list (List.replicate j.toNat ds).flatten)else none:=rfl
@[simp] def yL:opD .mul (.str x) (.int j)=if -1000<=j/\j<=1000/\x.length<=1000 then some (.str ⟨((List.replicate j.toNat x.cps.toList).flatten).toArray⟩)else none:=rfl
@[simp] def yM:opD .mod (.int i) (.int j)=if 0<j then some (.int (i % j))else none:=rfl
@[simp] def yN:opD .fdiv (.int i) (.int j)=if 0<j/\j<1073741824 then some (.int (i / j))else none:=rfl
@[simp] def Iw:cb .lt (.int i) (.int j)=some (decide (i<j)):=rfl
@[simp] def Iy:cb .le (.int i) (.int j)=some (decide (i<=j)):=rfl
@[simp] def Iz:cb .gt (.int i) (.int j)=some (decide (j<i)):=rfl
@[simp] def IA:cb .lt (.str x) (.str y)=some (decide (x.cps.toList<y.cps.toList)):=rfl
@[simp] def IB:cb .le (.str x) (.str y)=some (!decide (y.cps.toList<x.cps.toList)):=rfl
@[simp] def CN{a b:D}:cb .eq a b=eqD a b:=by cases a<;>rfl
@[simp] def CO{a b:D}:cb .ne a b=(eqD a b).map (!·):=by cases a<;>rfl
@[simp] def CP{a b:D}:cb .isin a b=inD a b:=by cases a<;>rfl
@[simp] def rY{a b:D}:cb .notin a b=(inD a b).map (!·):=by cases a<;>rfl
@[simp] def IC{a:D}:cb .isN a .none=some (decide (a=.none)):=by cases a<;>exact if_pos rfl
@[simp] def GD{a:D}:cb .notN a .none=some (!decide (a=.none)):=by cases a<;>exact if_pos rfl
@[simp] def eq_int:eqD (.int i) (.int j)=some (decide (i=j)):=by
 show (if true then some (decide (D.int i=D.int j))else _)=_;rw[if_pos rfl]
 congr 1
 by_cases h:i=j
 .subst h;simp
 .rw[df0 h,df0 λq=>h (D.int.inj q)]
@[simp] def eq_str:eqD (.str x) (.str y)=some (decide (x=y)):=by
 show (if true then some (decide (D.str x=D.str y))else _)=_;rw[if_pos rfl]
 congr 1
 by_cases h:x=y
 .subst h;simp
 .rw[df0 h,df0 λq=>h (D.str.inj q)]
def lX{a b:D}(h1:okS 20 a=true)(h2:okS 20 b=true):eqD a b=some (decide (a=b)):=by
 unfold eqD;rw[h1,h2];rfl
@[simp] def GE:oC (.list ds) (.int i)=atI ds i:=rfl
@[simp] def FD:oC (.tuple ds) (.int i)=atI ds i:=rfl
@[simp] def ID:oC (.scr ns) (.int i)=(atI ns i).map .int:=rfl
@[simp] def IE{kvs:List (Sum Int Str×D)}{d:D}:oC (.fdc kvs) d=(kB d).bind (look kvs):=rfl
@[simp] def yO:oC (.str x) (.int i)=if x.length<=big then (atI x.cps.toList i).map λc=>.str ⟨#[c]⟩ else none:=rfl
@[simp] def IF:kB (.int i)=some (.inl i):=rfl
@[simp] def IG:kB (.str x)=some (.inr x):=rfl
@[simp] def qg{l h:Option Int}:slD (.list ds) l h=some (.list (cut ds l h)):=rfl
@[simp] def CQ{l h:Option Int}:slD (.str x) l h=if x.length<=big then some (.str (Txt.slice x l h))else none:=rfl
@[simp] def len_list:biD .len [.list ds]=some (.int ds.length):=rfl
@[simp] def len_tuple:biD .len [.tuple ds]=some (.int ds.length):=rfl
@[simp] def IH:biD .len [.scr ns]=some (.int ns.length):=rfl
@[simp] def len_str:biD .len [.str x]=if x.length<=big then some (.int x.length)else none:=rfl
@[simp] def int_int:biD .int [.int i]=some (.int i):=rfl
@[simp] def int_bool:biD .int [.bool b]=some (.int (if b then 1 else 0)):=rfl
@[simp] def list_list:biD .list [.list ds]=some (.list ds):=rfl
@[simp] def list_tuple:biD .list [.tuple ds]=some (.list ds):=rfl
@[simp] def dict_list:biD .dict [.list ds]=(pairsOf ds).map λps=>.dict (putAll [] ps):=rfl
@[simp] def GF:biD .dict [.fdc kvs]=some (.dict kvs):=rfl
@[simp] def tuple_list:biD .tuple [.list ds]=if ds.length<=big then some (.tuple ds)else none:=rfl
@[simp] def GG:biD .all [.list ds]=(boolsOf ds).map λbs=>.bool (bs.all id):=rfl
@[simp] def FE{l:List Bool}:boolsOf (l.map .bool)=some l:=by
 induction l with
 |nil=>rfl
 |cons a r ih=>show (boolsOf (r.map .bool)).map (a::·)=_;rw[ih];rfl
@[simp] def lY:meD .split (.str x) [.str y]=if (y.length==0)=false/\x.length+2<=big then some (.list ((Txt.split x y).map .str))else none:=rfl
@[simp] def II:meD .join (.str x) [.list ds]=(strsOf ds).bind λys=>if (ys.map (·.length)).sum+ys.length*x.length<=big then some (.str (Txt.join x ys))else none:=rfl
@[simp] def CS:bU (.list ds)=some ds:=rfl
@[simp] def Be:bU (.tuple ds)=some ds:=rfl
@[simp] def FG:bU (.fdc kvs)=(bN kvs).map λss=>ss.map .str:=rfl
@[simp] def items_str:bU (.str x)=if x.length<=big then some (x.cps.toList.map λc=>.str ⟨#[c]⟩)else none:=rfl
@[simp] def yg:dG []=some []:=rfl
@[simp] def uG{r:List D}:dG (d::r)=(bU d).bind λa=>(dG r).map (a::·):=rfl
@[simp] def yP{a b:List D}:Bc [.list a,.list b]=if b.length<=a.length then some (zip2 a b)else none:=rfl
@[simp] def eU:bL (.list ds)=true:=rfl
@[simp] def lZ:bL (.dict kvs)=true:=rfl
@[simp] def IJ:bL (.int i)=false:=rfl
@[simp] def IK:bL (.str x)=false:=rfl
@[simp] def GH:bL (.bool b)=false:=rfl
@[simp] def GI:bL .none=false:=rfl
@[simp] def FH:bL (.tuple ds)=false:=rfl
@[simp] def IL:bL (.scr ns)=false:=rfl
@[simp] def GJ{m:Md}:aJ m (.dat d)=some d:=rfl
@[simp] def oE:aJ .val (.lent d)=if bL d then none else some d:=rfl
@[simp] def CT:aJ .read (.lent d)=some d:=rfl
@[simp] def CU:aJ .test (.lent d)=some d:=rfl
@[simp] def FI:aJ .val (.own d)=none:=rfl
@[simp] def FJ:aJ .read (.own d)=some d:=rfl
@[simp] def FK:aJ .test (.own d)=some d:=rfl
@[simp] def GK{i:Nat}:ai (.one i) d Y=some (Y.set i (.dat d)):=rfl
@[simp] def fG{is:List Nat}:ai (.tup is) (.tuple ds) Y=if is.length=ds.length then some ((is.zip ds).foldl (λY p=>Y.set p.1 (.dat p.2)) Y)else none:=rfl
@[simp] def ma:lend (.own d)=.lent d:=rfl
@[simp] def GL:lend (.dat d)=.dat d:=rfl
@[simp] def FL:lend (.lent d)=.lent d:=rfl
@[simp] def IM:lend .no=.no:=rfl
@[simp] def IP{f:List Sl->Option Out}:(Out.nx Y).andThen f=f Y:=rfl
@[simp] def IQ{f:List Sl->Option Out}:(Out.rt d).andThen f=some (.rt d):=rfl
@[simp] def JM:(Out.nx Y).val=some .none:=rfl
@[simp] def JN:(Out.rt d).val=some d:=rfl
@[simp] def CV:freeze (.own d)=.dat d:=rfl
@[simp] def CW:freeze (.dat d)=.dat d:=rfl
@[simp] def Bg:freeze (.lent d)=.lent d:=rfl
@[simp] def FM:freeze .no=.no:=rfl
@[simp] def GM :kC T (.list ds)=some (T=="list"):=rfl
@[simp] def FN :kC T (.tuple ds)=some (T=="tuple"):=rfl
@[simp] def IR :kC T (.int i)=some (T=="int"):=rfl
@[simp] def IS :kC T (.str x)=some (T=="str"):=rfl
@[simp] def GN :kC T (.bool b)=some (T=="bool"||T=="int"):=rfl
@[simp] def GO :kC T .none=some false:=rfl
end
def oF{d:D}{i:Int}(h:asI d=some i):d=.int i:=by
 cases d with
 |int=>cases h;rfl
 |_=>cases h
def oG{d:D}{b:Bool}(h:asB d=some b):d=.bool b:=by
 cases d with
 |bool=>cases h;rfl
 |_=>cases h
def md{c:Nat}{d:D}(h:hX c d=true):∃n os,d=.vlt c n os:=by
 cases d with
 |vlt=>cases eq_of_beq h;exact⟨_,_,rfl⟩
 |_=>cases h
theorem aK:∀ys:List Str,strsOf (ys.map .str)=some ys
 |[]=>rfl
 |y::r=>by show (strsOf (r.map .str)).map _=_;rw[aK r];rfl
end SI
end
section
variable {α β:Type}{K:fg0}{G' G0 G1 H H' H0 Hb:L2.Hp}{d d1 d2 d3:SI.D}{ds ds' ls ms out:List SI.D}{vs:List L2.V}{ep i j n t' tk:Nat}{σ:L2.St}{Y Y' Y1:List SI.Sl}{fl lent:List Bool}{X:L2.Cx}{a b c elt iter o tg:PySem.Expr}{apos cpos kp p1 p2 pos pos' px spos tpos:PySem.Pos}{m qual x y:PySem.Str}{as elts es r ts:List PySem.Expr}{na nb t:Bool}{pins pins':List (PySem.Addr×PySem.Obj)}{s:PySem.Shared}{P prog:PySem.Program}{w:PySem.World}{items xs:Array PySem.Value}{base h h':PySem.Heap}{ea f it l l1 l2:PySem.Addr}{E' Q:PySem.Value->PySem.Shared->Prop}{ws:List (L2.Key×L2.V)}{fp ps:List PySem.Addr}{ks us:List PySem.Value}{env:PySem.Env}{T:String}{ob:PySem.Obj}{N cst fns q ss tn vms:List PySem.Str}{js:List Nat}{Z:SI.Fs}{Γ:List (PySem.Str×SI.D)}{sc scope:PySem.Scope}{st:PySem.Stmt}{body body2:List PySem.Stmt}{mg:PySem.Str->Option PySem.Value}{fd:PySem.FuncData}{params:PySem.Arguments}
namespace SI
open PySem
structure Cs where
 N:List Str
 sc:Scope
 fns:List Str
 cst:List Str
 mts:List Nat
 dp:List Nat
 vc:Option Nat:=none
 vms:List Str:=[]
noncomputable def bW(C:Cs)(x:Str)(k:NameKind):Bool:=C.sc.names.lookup x==some k
noncomputable def cf(x:Str):Bool:=!(x==("__debug__":Str))&&!(x==("__classdict__":Str))&&!(x==("__name__":Str))
noncomputable def gi(C:Cs)(x:Str):Option Nat:=
 match C.N.idxOf? x with
 |some i=>if (bW C x .local||bW C x .cell||bW C x .free)&&cf x then some i else none
 |none=>none
noncomputable def hZ(C:Cs)(x:Str):Option Nat:=
 match C.N.idxOf? x with
 |some i=>if (bW C x .local||bW C x .cell)&&cf x then some i else none
 |none=>none
noncomputable def ao(C:Cs)(x:Str):Bool:=bW C x .globalImplicit&&cf x
noncomputable def cOp:Operator->Option Op2
 |.Add=>some .add
 |.Sub=>some .sub
 |.Mult=>some .mul
 |.Mod=>some .mod
 |.FloorDiv=>some .fdiv
 |_=>none
noncomputable def kF:CmpOp->Option Cop
 |.Lt=>some .lt
 |.LtE=>some .le
 |.Gt=>some .gt
 |.GtE=>none
 |.Eq=>some .eq
 |.NotEq=>some .ne
 |.In=>some .isin
 |.NotIn=>some .notin
 |.Is=>some .isN
 |.IsNot=>some .notN
noncomputable def isSet:Expr->Bool
 |.Set ..=>true
 |_=>false
noncomputable def isSlice:Expr->Bool
 |.Slice ..=>true
 |_=>false
noncomputable def isStar:Expr->Bool
 |.Starred ..=>true
 |_=>false
noncomputable def isTup:Expr->Bool
 |.Tuple ..=>true
 |_=>false
noncomputable def jz(x:Str):Option Bf:=
 if x=("len":Str)then some .len else if x=("int":Str)then some .int
 else if x=("list":Str)then some .list else if x=("tuple":Str)then some .tuple else if x=("all":Str)then some .all else none
noncomputable def qr(x:Str):Option Mf:=
 if x=("split":Str)then some .split else if x=("join":Str)then some .join else none
noncomputable def oH(x:Str):Option String:=
 if x=("int":Str)then some "int" else if x=("str":Str)then some "str" else if x=("list":Str)then some "list" else if x=("tuple":Str)then some "tuple" else if x=("bool":Str)then some "bool" else none
noncomputable def aL:Expr->Bool
 |.Call (.Name id _) [] [] _=>id==("super":Str)
 |_=>false
noncomputable def slots(C:Cs):List Expr->Option (List Nat)
 |[]=>some []
 |.Name x _::r=>(hZ C x).bind λi=>(slots C r).map (i::·)
 |_::_=>none
noncomputable def cTg(C:Cs):Expr->Option Tg
 |.Name x _=>(hZ C x).map .one
 |.Tuple es _ _=>(slots C es).map .tup
 |_=>none
noncomputable def aQ:Expr->List Str
 |.Name x _=>[x]
 |.Tuple es _ _=>es.filterMap fun|.Name x _=>some x|_=>none
 |_=>[]
noncomputable def mf:Tg->Nat->Bool
 |.one i,n=>decide (i<n)
 |.tup is,n=>is.all λi=>decide (i<n)
noncomputable def freeOf(sc:Scope):List Str:=sc.names.filterMap λ(x,k)=>if k==.free then some x else none
noncomputable def oI(N:List Str):List Str->Option (List Nat)
 |[]=>some []
 |x::r=>(N.idxOf? x).bind λi=>(oI N r).map (i::·)
noncomputable def uH(C:Cs)(sc:Scope)(tn:List Str):Bool:=
 sc.kind==.function&&
 sc.names.all (λy=>(y.2 != .free||bW C y.1 .cell)&&y.2 != .cell&&(y.2 != .local||sc.names.lookup y.1==some .local))&&
 tn.all (λx=>sc.names.lookup x==some .local)&&
 (freeOf sc).all (λx=>sc.names.lookup x==some .free)&&
 decide ((tn++freeOf sc).Nodup)
noncomputable def mh(C:Cs)(sc:Scope)(tg:Expr):Option (Cs×Nat×List Nat):=
 if uH C sc (aQ tg)then (oI C.N (freeOf sc)).map λjs=>({C with N:=aQ tg++freeOf sc,sc:=sc,mts:=[],dp:=[]},(aQ tg).length,js)else none
def nn{p:Prop}{z:α}(h:none=some z):p:=nomatch h
noncomputable def cK:Expr->Bool
 |.ListComp ..=>true
 |.SetComp ..=>true
 |.DictComp ..=>true
 |_=>false
noncomputable def chk{α:Type}:(b:Bool)->(b=true->Option α)->Option α
 |true,f=>f rfl
 |false,_=>none
noncomputable def got{α β:Type}:(o:Option α)->((a:α)->o=some a->Option β)->Option β
 |some a,f=>f a rfl
 |none,_=>none
noncomputable def eqS{α:Type}(x y:Str)(f:x=y->Option α):Option α:=if h:x=y then f h else none
noncomputable def Bh(m:Str):Bool:=m=("append":Str)||m=("extend":Str)||m=("update":Str)
mutual
noncomputable def JO:Nat->Stmt->List (Str×Bool)
 |0,_=>[]
 |n+1,s=>match s with
  |.Assign [.Name _ _] (.Call (.Attribute (.Name x _) m _) [] [] _) _=>if Bh m then [(x,false)] else []
  |.Assign [.Subscript (.Name x _) _ _] _ _=>[(x,false)]
  |.Assign [.Subscript (.Subscript (.Name x _) _ _) _ _] _ _=>[(x,true)]
  |.Expr (.Call (.Attribute (.Name x _) m _) _ [] _) _=>if Bh m then [(x,false)] else []
  |.If _ a b _=>jA n a++jA n b
  |.For _ _ b _ _=>jA n b
  |.While _ b _ _=>jA n b
  |_=>[]
noncomputable def jA:Nat->List Stmt->List (Str×Bool)
 |0,_=>[]
 |n+1,[]=>[]
 |n+1,s::r=>JO n s++jA n r
end
noncomputable def ar(sc:Scope)(ps:List Str):List Str:=sc.names.filterMap λ(x,k)=>if (k==.local||k==.cell)&&!ps.contains x then some x else none
noncomputable def br:Stmt->Option (List Str×List Stmt×Scope)
 |.FunctionDef _ args body _ _ _ sc _ _ _=>some (args.args.map (·.arg),body,sc)
 |_=>none
noncomputable def uI(fns cst:List Str)(ps:List Str)(body:List Stmt)(sc:Scope)(vc:Option Nat:=none)(vms:List Str:=[]):Cs:=
 let N:=ps++ar sc ps
 let ms:=jA 60 body
 {N,sc,fns,cst,vc,vms,mts:=ms.filterMap λ(x,d)=>if d then none else N.idxOf? x,dp:=ms.filterMap λ(x,d)=>if d then N.idxOf? x else none}
end SI
namespace L2.Z
open PySem PySem.Spec PyProof.Rows L2 L2.C SI
noncomputable abbrev Fg:=fg0
noncomputable def vfs(l n:Addr)(h:Nat):List (Str×V):=[("objects",.ref l),("numbers",.ref n),("objects",.int h)]
noncomputable def ExcAt(a C:Addr):Heap->Prop:=λh=>∃o,h.get? a=some o/\o.cls=.ref C
mutual
inductive Dp (K:Fg)(H:Hp):D->V->Prop
 |none:Dp K H .none .non
 |bool (b:Bool):Dp K H (.bool b) (.bl b)
 |int (i:Int):Dp K H (.int i) (.int i)
 |str (x:Str):PyData.strOk x=true->Dp K H (.str x) (.str x)
 |tuple {a:Addr}{vs:List V}{ds:List D}:H a=some (.tup vs)->Dps K H ds vs->Dp K H (.tuple ds) (.ref a)
 |list {a:Addr}{vs:List V}{ds:List D}:H a=some (.lst vs)->Dps K H ds vs->Dp K H (.list ds) (.ref a)
 |dict {a:Addr}{kvs:List (Key×D)}{ws:List (Key×V)}:H a=some (.dK ws)->Dks K H kvs ws->Dp K H (.dict kvs) (.ref a)
 |scr {a:Addr}{ns:List Int}:SqL K H a (ns.map V.int)->Dp K H (.scr ns) (.ref a)
 |hdl {a C dx l n:Addr}{h:Nat}:H a=some (.ins C dx (vfs l n h))->Dp K H (.hdl h) (.ref a)
 |exc {a:Addr}{C:Nat}:H a=some (.ext (ExcAt a C))->Dp K H (.exc C) (.ref a)
 |fn (a:Addr):Dp K H (.fn a) (.ref a)
 |fdc {a:Addr}{ob:Obj}{kvs:List (Key×D)}{ws:List (Key×V)}:H a=some (.frz ob (.dK ws))->Dks K H kvs ws->Dp K H (.fdc kvs) (.ref a)
inductive Dps (K:Fg)(H:Hp):List D->List V->Prop
 |nil:Dps K H [] []
 |cons {d:D}{v:V}{ds:List D}{vs:List V}:Dp K H d v->Dps K H ds vs->Dps K H (d::ds) (v::vs)
inductive Dks (K:Fg)(H:Hp):List (Key×D)->List (Key×V)->Prop
 |nil:Dks K H [] []
 |cons {k:Key}{d:D}{v:V}{ds:List (Key×D)}{vs:List (Key×V)}:Dp K H d v->Dks K H ds vs->Dks K H ((k,d)::ds) ((k,v)::vs)
end
section
variable {G:Hp}
def Dp.mono(e:Same G G'){v:V}(x:Dp K G d v):Dp K G' d v:=Dp.rec (motive_1:=λd v a=>Dp K G' d v) (motive_2:=λds vs a=>Dps K G' ds vs) (motive_3:=λds vs a=>Dks K G' ds vs) .none .bool .int .str (λh a r=>.tuple (e _ _ h) r) (λh a r=>.list (e _ _ h) r) (λh a r=>.dict (e _ _ h) r) (λh=>.scr (e.seq h)) (λh=>.hdl (e _ _ h)) (λh=>.exc (e _ _ h)) .fn (λh a r=>.fdc (e _ _ h) r) .nil (λa a=>.cons) .nil (λa a=>.cons) x
def Dps.mono(e:Same G G')(x:Dps K G ds vs):Dps K G' ds vs:=Dps.rec (motive_1:=λd v a=>Dp K G' d v) (motive_2:=λds vs a=>Dps K G' ds vs) (motive_3:=λds vs a=>Dks K G' ds vs) .none .bool .int .str (λh a r=>.tuple (e _ _ h) r) (λh a r=>.list (e _ _ h) r) (λh a r=>.dict (e _ _ h) r) (λh=>.scr (e.seq h)) (λh=>.hdl (e _ _ h)) (λh=>.exc (e _ _ h)) .fn (λh a r=>.fdc (e _ _ h) r) .nil (λa a=>.cons) .nil (λa a=>.cons) x
def Dks.mono(e:Same G G'){ds:List (Key×D)}{vs:List (Key×V)}(x:Dks K G ds vs):Dks K G' ds vs:=Dks.rec (motive_1:=λd v a=>Dp K G' d v) (motive_2:=λds vs a=>Dps K G' ds vs) (motive_3:=λds vs a=>Dks K G' ds vs) .none .bool .int .str (λh a r=>.tuple (e _ _ h) r) (λh a r=>.list (e _ _ h) r) (λh a r=>.dict (e _ _ h) r) (λh=>.scr (e.seq h)) (λh=>.hdl (e _ _ h)) (λh=>.exc (e _ _ h)) .fn (λh a r=>.fdc (e _ _ h) r) .nil (λa a=>.cons) .nil (λa a=>.cons) x
theorem Dps.length(h:Dps K G ds vs):ds.length=vs.length:=by
 induction vs generalizing ds with
 |nil=>cases h;rfl
 |cons v vs ih=>cases h with|cons _ r=>rw[lc0,lc0,ih r]
theorem Dks.length{ds:List (Key×D)}{vs:List (Key×V)}(h:Dks K G ds vs):ds.length=vs.length:=by
 induction vs generalizing ds with
 |nil=>cases h;rfl
 |cons v vs ih=>cases h with|cons _ r=>rw[lc0,lc0,ih r]
def Dps.get{k:Nat}(h:Dps K G ds vs)(e:ds[k]?=some d):∃v,vs[k]?=some v/\Dp K G d v:=by
 induction vs generalizing ds k with
 |nil=>cases h;simp at e
 |cons v vs ih=>
  cases h with
  |cons h r=>
   cases k with
   |zero=>simp at e;subst e;exact⟨v,rfl,h⟩
   |succ k=>simpa using ih r (by simpa using e)
def Dps.append{ds es}{vs us}(h:Dps K G ds vs)(q:Dps K G es us):Dps K G (ds++es) (vs++us):=by
 induction vs generalizing ds with
 |nil=>cases h;exact q
 |cons v vs ih=>cases h with|cons h r=>exact .cons h (ih r)
def Dps.one{v:V}(h:Dp K G d v):Dps K G [d] [v]:=.cons h .nil
theorem Dps.take(n:Nat)(h:Dps K G ds vs):Dps K G (ds.take n) (vs.take n):=by
 induction vs generalizing ds n with
 |nil=>cases h;simpa using Dps.nil
 |cons v vs ih=>
  cases h with
  |cons h r=>
   cases n with
   |zero=>simpa using Dps.nil
   |succ n=>simpa using Dps.cons h (ih n r)
theorem Dps.drop(n:Nat)(h:Dps K G ds vs):Dps K G (ds.drop n) (vs.drop n):=by
 induction vs generalizing ds n with
 |nil=>cases h;simpa using Dps.nil
 |cons v vs ih=>
  cases h with
  |cons h r=>
   cases n with
   |zero=>simpa using Dps.cons h r
   |succ n=>simpa using ih n r
theorem Dps.set{v:V}(hd:Dp K G d v)(n:Nat)(h:Dps K G ds vs):Dps K G (ds.set n d) (vs.set n v):=by
 induction vs generalizing ds n with
 |nil=>cases h;simpa using Dps.nil
 |cons u vs ih=>
  cases h with
  |cons h r=>
   cases n with
   |zero=>simpa using Dps.cons hd r
   |succ n=>simpa using Dps.cons h (ih n r)
theorem Dps.rep(h:Dps K G ds vs):∀k:Nat,Dps K G (List.replicate k ds).flatten (List.replicate k vs).flatten
 |0=>.nil
 |k+1=>by
  rw[List.replicate_succ,List.replicate_succ,List.flatten_cons,List.flatten_cons];exact h.append (Dps.rep h k)
def uJ{α}(xs:List α)(i:Int):SI.atI xs i=L2.atI xs i:=rfl
def uK(n d:Nat)(o:Option Int):SI.sIx n d o=HT.sIx n d o:=by cases o<;>rfl
theorem Dps.atI{i:Int}(h:Dps K G ds vs)(e:SI.atI ds i=some d):∃v,L2.atI vs i=some v/\Dp K G d v:=by
 rw[uJ]at e;unfold L2.atI at e ⊢;rw[<-h.length];cases q:L2.ixN ds.length i with
 |none=>rw[q]at e;cases e
 |some j=>
  rw[q]at e;exact h.get (show ds[j]?=some d from e)
theorem Dps.cut(h:Dps K G ds vs)(lo hi:Option Int):Dps K G (SI.cut ds lo hi) (L2.rS vs lo hi):=by
 unfold SI.cut L2.rS;rw[uK,uK,h.length];exact (h.drop _).take _
end
structure Ext(G H G' H':Hp):Prop where
 hh:Same H H'
 gg:Same G G'
 gh:Same G' H'
 nw:∀b o,G b=Option.none->H b=some o->G' b=Option.none
 ni:∀b C dx fs,H' b=some (.ins C dx fs)->H b=some (.ins C dx fs)
theorem Ext.refl{G H}(h:Same G H):Ext G H G H:=⟨Same.refl _,Same.refl _,h,λa a h a=>h,λa a a a h=>h⟩
noncomputable def notIns:HO->Bool
 |.ins ..=>false
 |_=>true
def bH{p:Addr}{o:HO}(h:notIns o=true):∀b C dx fs,upd H p o b=some (.ins C dx fs)->H b=some (.ins C dx fs):=λb C dx fs e=>by
 by_cases z:b=p
 .subst z;rw[ae]at e;cases e;cases h
 .rw[aa z]at e;exact e
theorem Ext.trans{G H G1 H1 G2 H2}(a:Ext G H G1 H1)(b:Ext G1 H1 G2 H2):Ext G H G2 H2:=
 ⟨a.hh.trans b.hh,a.gg.trans b.gg,b.gh,λc o h1 h2=>b.nw c o (a.nw c o h1 h2) (a.hh c o h2),λc C dx fs h=>a.ni c C dx fs (b.ni c C dx fs h)⟩
def av{p:Addr}{o:HO}(h:H p=.none):Same H (upd H p o):=λb u e=>by
 rw[aa (ag e h)];exact e
def Ext.laid{G:Hp}{p:Addr}{o:HO}(h:Same G H)(hp:H p=.none)(hi:notIns o=true:=by rfl):Ext G H (upd G p o) (upd H p o):=
 ⟨av hp,av (h.free hp),λb u e=>by
  by_cases q:b=p
  .subst q;rw[ae]at e ⊢;exact e
  .rw[aa q]at e ⊢;exact h b u e,λb u e1 e2=>by
  rw[aa (ag e2 hp)];exact e1,bH hi⟩
def Ext.hid{G H}{p:Addr}{o:HO}(h:Same G H)(hp:H p=.none)(hi:notIns o=true:=by rfl):Ext G H G (upd H p o):=
 ⟨av hp,Same.refl _,h.trans (av hp),λa a e a=>e,bH hi⟩
def Ext.show{G:Hp}{p:Addr}{o:HO}(e:Ext G H G' H')(hp:H p=.none)(hp':H' p=some o)(hg:G' p=.none):Ext G H (upd G' p o) H':=
 ⟨e.hh,e.gg.trans (av hg),λb u q=>by
  by_cases z:b=p
  .subst z;rw[ae]at q;cases q;exact hp'
  .rw[aa z]at q;exact e.gh b u q,λb u e1 e2=>by
  rw[aa (ag e2 hp)];exact e.nw b u e1 e2,e.ni⟩
inductive Dr (K:Fg)(G H:Hp):D->V->Prop
 |of {d:D}{v:V}:Dp K G d v->Dr K G H d v
 |list {a:Addr}{vs:List V}{ds:List D}:H a=some (.lst vs)->Dps K G ds vs->Dr K G H (.list ds) (.ref a)
 |dict {a:Addr}{kvs:List (Key×D)}{ws:List (Key×V)}:H a=some (.dK ws)->Dks K G kvs ws->Dr K G H (.dict kvs) (.ref a)
 |vlt {C a dx l n:Addr}{h:Nat}{as:List Addr}{objs:List D}:H a=some (.ins C dx (vfs l n h))->H l=some (.lst (as.map .ref))->Dps K G objs (as.map .ref)->Dr K G H (.vlt C h objs) (.ref a)
section
variable {G:Hp}{v:V}
def Dr.ext(e:Ext G H G' H'):Dr K G H d v->Dr K G' H' d v
 |.of h=>.of (h.mono e.gg)
 |.list h r=>.list (e.hh _ _ h) (r.mono e.gg)
 |.dict h r=>.dict (e.hh _ _ h) (r.mono e.gg)
 |.vlt h1 h2 r=>.vlt (e.hh _ _ h1) (e.hh _ _ h2) (r.mono e.gg)
theorem Dr.none(h:Dr K G H .none v):v=.non:=by cases h with|of h=>cases h;rfl
theorem Dr.bool{b}(h:Dr K G H (.bool b) v):v=.bl b:=by cases h with|of h=>cases h;rfl
theorem Dr.int{i}(h:Dr K G H (.int i) v):v=.int i:=by cases h with|of h=>cases h;rfl
theorem Dr.str{x}(h:Dr K G H (.str x) v):v=.str x/\PyData.strOk x=true:=by cases h with|of h=>cases h with|str _ o=>exact⟨rfl,o⟩
theorem Dr.lst(s:Same G H)(h:Dr K G H (.list ds) v):∃a vs,v=.ref a/\H a=some (.lst vs)/\Dps K G ds vs:=by
 cases h with
 |of h=>cases h with|list h r=>exact⟨_,_,rfl,s _ _ h,r⟩
 |list h r=>exact⟨_,_,rfl,h,r⟩
def Dr.dct{ds:List (Key×D)}(s:Same G H)(h:Dr K G H (.dict ds) v):∃a vs,v=.ref a/\H a=some (.dK vs)/\Dks K G ds vs:=by
 cases h with
 |of h=>cases h with|dict h r=>exact⟨_,_,rfl,s _ _ h,r⟩
 |dict h r=>exact⟨_,_,rfl,h,r⟩
theorem Dr.fdc{ds:List (Key×D)}(s:Same G H)(h:Dr K G H (.fdc ds) v):∃a ob vs,v=.ref a/\H a=some (.frz ob (.dK vs))/\Dks K G ds vs:=by
 cases h with|of h=>cases h with|fdc h r=>exact⟨_,_,_,rfl,s _ _ h,r⟩
theorem Dr.tup(s:Same G H)(h:Dr K G H (.tuple ds) v):∃a vs,v=.ref a/\H a=some (.tup vs)/\Dps K G ds vs:=by
 cases h with|of h=>cases h with|tuple h r=>exact⟨_,_,rfl,s _ _ h,r⟩
theorem Dr.scr{ns}(s:Same G H)(h:Dr K G H (.scr ns) v):∃a,v=.ref a/\SqL K H a (ns.map V.int):=by
 cases h with|of h=>cases h with|scr h=>exact⟨_,rfl,s.seq h⟩
def Dr.dp(h:Dr K G H d v)(o:bL d=false):Dp K G d v:=by
 cases h with
 |of h=>exact h
 |list=>cases o
 |dict=>cases o
 |vlt=>cases o
end
def OwnAt(K:Fg)(G H:Hp)(d:D)(p:Addr):Prop:=(∃ds vs,d=.list ds/\H p=some (.lst vs)/\Dps K G ds vs)\/∃kvs ws,d=.dict kvs/\H p=some (.dK ws)/\Dks K G kvs ws
structure EnvD(K:Fg)(G0 H0 G H:Hp)(σ:St)(Y:List Sl):Prop where
 ext:Ext G0 H0 G H
 len:σ.length=Y.length
 dat:∀(i:Nat) d,Y[i]?=some (.dat d)->∃v,σ[i]?=some (some v)/\Dp K G d v
 lent:∀(i:Nat) d,Y[i]?=some (.lent d)->∃v,σ[i]?=some (some v)/\Dr K G0 H0 d v
 own:∀(i:Nat) d,Y[i]?=some (.own d)->∃p,σ[i]?=some (some (.ref p))/\G p=Option.none/\H0 p=Option.none/\OwnAt K G H d p
 apart:∀(i j:Nat) d e p,Y[i]?=some (.own d)->Y[j]?=some (.own e)->σ[i]?=some (some (.ref p))->σ[j]?=some (some (.ref p))->i=j
section
variable {G:Hp}
def OwnAt.ext{p:Addr}(e:Ext G H G' H'):OwnAt K G H d p->OwnAt K G' H' d p
 |.inl ⟨ds,vs,h1,h2,h3⟩=>.inl ⟨ds,vs,h1,e.hh _ _ h2,h3.mono e.gg⟩
 |.inr ⟨ds,vs,h1,h2,h3⟩=>.inr ⟨ds,vs,h1,e.hh _ _ h2,h3.mono e.gg⟩
def OwnAt.dr{p:Addr}:OwnAt K G H d p->Dr K G H d (.ref p)
 |.inl ⟨ds,vs,h1,h2,h3⟩=>by rw[h1];exact .list h2 h3
 |.inr ⟨ds,vs,h1,h2,h3⟩=>by rw[h1];exact .dict h2 h3
theorem OwnAt.some{p:Addr}:OwnAt K G H d p->∃o,H p=.some o
 |.inl ⟨ds,vs,h1,h2,h3⟩=>⟨_,h2⟩
 |.inr ⟨ds,vs,h1,h2,h3⟩=>⟨_,h2⟩
theorem OwnAt.notIns{p:Addr}{o:HO}:OwnAt K G (upd H p o) d p->notIns o=true
 |.inl ⟨ds,vs,h1,h2,h3⟩=>by rw[ae]at h2;cases h2;rfl
 |.inr ⟨ds,vs,h1,h2,h3⟩=>by rw[ae]at h2;cases h2;rfl
def EnvD.sub(E:EnvD K G0 H0 G H σ Y):Same G H:=E.ext.gh
def EnvD.step(E:EnvD K G0 H0 G H σ Y)(e:Ext G H G' H'):EnvD K G0 H0 G' H' σ Y:=
 ⟨E.ext.trans e,E.len,λi d h=>let ⟨v,a,b⟩:=E.dat i d h;⟨v,a,b.mono e.gg⟩,E.lent,
  λi ds h=>let ⟨p,a,c,f,g⟩:=E.own i ds h;let ⟨o,ho⟩:=g.some;⟨p,a,e.nw _ _ c ho,f,g.ext e⟩,E.apart⟩
theorem EnvD.read(E:EnvD K G0 H0 G H σ Y){sl:Sl}(h:Y[i]?=some sl)(hd:aJ .read sl=some d):∃v,σ[i]?=some (some v)/\Dr K G H d v:=by
 cases sl with
 |no=>cases hd
 |dat d'=>cases hd;obtain⟨v,a,b⟩:=E.dat i d h;exact⟨v,a,.of b⟩
 |lent d'=>cases hd;obtain⟨v,a,b⟩:=E.lent i d h;exact⟨v,a,b.ext E.ext⟩
 |own d'=>cases hd;obtain⟨p,a,_,_,b⟩:=E.own i d h;exact⟨_,a,b.dr⟩
set_option tactic.hygienic true in
theorem EnvD.val(E:EnvD K G0 H0 G H σ Y){sl:Sl}(h:Y[i]?=some sl)(hd:aJ .val sl=some d):∃v,σ[i]?=some (some v)/\Dp K G d v:=by
 cases sl with
 |no=>cases hd
 |dat d'=>cases hd;exact E.dat i d h
 |lent d'=>
  rw[oE]at hd;split at hd
  .cases hd
  .rename_i c
   cases hd;obtain⟨v,a,b⟩:=E.lent i d h;exact⟨v,a,(b.ext E.ext).dp (by simpa using c)⟩
 |own d'=>cases hd
def getE_set{l:List α}{x y:α}(h:(l.set i x)[j]?=some y):(j=i/\y=x)\/(j≠i/\l[j]?=some y):=by
 by_cases e:j=i
 .subst e
  by_cases q:j<l.length
  .rw[gs0 q]at h;exact .inl ⟨rfl,(Option.some.inj h).symm⟩
  .have:(l.set j x)[j]?=.none:=List.getElem?_eq_none_iff.mpr (by simp;omega)
   rw[this]at h;cases h
 .rw[gn0 (Ne.symm e)]at h;exact .inr ⟨e,h⟩
theorem EnvD.set{v:V}(E:EnvD K G0 H0 G H σ Y)(hi:i<σ.length)(h:Dp K G d v):EnvD K G0 H0 G H (σ.set i (some v)) (Y.set i (.dat d)):=by
 refine⟨E.ext,by simp[E.len],λj e hj=>?_,λj e hj=>?_,λj ds hj=>?_,λj k ds es p hj hk aj ak=>?_⟩
 .rcases getE_set hj with⟨rfl,q⟩|⟨ne,q⟩
  .cases q;exact⟨v,gs0 hi,h⟩
  .rw[gn0 (Ne.symm ne)];exact E.dat j e q
 .rcases getE_set hj with⟨rfl,q⟩|⟨ne,q⟩
  .cases q
  .rw[gn0 (Ne.symm ne)];exact E.lent j e q
 .rcases getE_set hj with⟨rfl,q⟩|⟨ne,q⟩
  .cases q
  .rw[gn0 (Ne.symm ne)];exact E.own j ds q
 .rcases getE_set hj with⟨rfl,q⟩|⟨nj,q⟩
  .cases q
  rcases getE_set hk with⟨rfl,r⟩|⟨nk,r⟩
  .cases r
  rw[gn0 (Ne.symm nj)]at aj;rw[gn0 (Ne.symm nk)]at ak;exact E.apart j k ds es p q r aj ak
def EnvD.setOwn{p:Addr}(E:EnvD K G0 H0 G H σ Y)(hi:i<σ.length)(hO:OwnAt K G H d p)(hG:G p=.none)(h0:H0 p=.none)
  (new:∀(j:Nat) e,Y[j]?=some (.own e)->σ[j]?≠some (some (.ref p))):EnvD K G0 H0 G H (σ.set i (some (.ref p))) (Y.set i (.own d)):=by
 refine⟨E.ext,by simp[E.len],λj e hj=>?_,λj e hj=>?_,λj es hj=>?_,λj k es fs q hj hk aj ak=>?_⟩
 .rcases getE_set hj with⟨rfl,z⟩|⟨ne,z⟩
  .cases z
  .rw[gn0 (Ne.symm ne)];exact E.dat j e z
 .rcases getE_set hj with⟨rfl,z⟩|⟨ne,z⟩
  .cases z
  .rw[gn0 (Ne.symm ne)];exact E.lent j e z
 .rcases getE_set hj with⟨rfl,z⟩|⟨ne,z⟩
  .cases z;exact⟨p,gs0 hi,hG,h0,hO⟩
  .rw[gn0 (Ne.symm ne)];exact E.own j es z
 .rcases getE_set hj with⟨ej,_⟩|⟨nj,hj'⟩
  .rcases getE_set hk with⟨ek,_⟩|⟨nk,hk'⟩
   .rw[ej,ek]
   .rw[ej,gs0 hi]at aj
    rw[gn0 (Ne.symm nk)]at ak;cases aj;exact absurd ak (new k fs hk')
  .rw[gn0 (Ne.symm nj)]at aj
   rcases getE_set hk with⟨ek,_⟩|⟨nk,hk'⟩
   .rw[ek,gs0 hi]at ak
    cases ak;exact absurd aj (new j es hj')
   .rw[gn0 (Ne.symm nk)]at ak
    exact E.apart j k es fs q hj' hk' aj ak
def EnvD.fresh{p:Addr}(E:EnvD K G0 H0 G H σ Y)(hp:H p=.none):∀(j:Nat) e,Y[j]?=some (.own e)->σ[j]?≠some (some (.ref p)):=λj es hj hσ=>by
 obtain⟨q,a,_,_,b⟩:=E.own j es hj;obtain⟨o,ho⟩:=b.some;rw[hσ]at a;cases a;rw[hp]at ho;cases ho
def EnvD.change{e:D}{p:Addr}{o:HO}(E:EnvD K G0 H0 G H σ Y)(hi:Y[i]?=some (.own d))(hp:σ[i]?=some (some (.ref p)))(h:OwnAt K G (upd H p o) e p):
  EnvD K G0 H0 G (upd H p o) σ (Y.set i (.own e)):=by
 obtain⟨p',a,c,f,g⟩:=E.own i d hi;rw[hp]at a;cases a;have il:i<Y.length:=(gi0 hi).1;refine⟨⟨λx o e=>?_,E.ext.gg,λx o e=>?_,E.ext.nw,λx C dx fs q=>E.ext.ni x C dx fs (bH h.notIns x C dx fs q)⟩,by simp[E.len],λj e hj=>?_,λj e hj=>?_,λj fs hj=>?_,λj k fs gs q hj hk aj ak=>?_⟩
 .rw[aa (ag e f)];exact E.ext.hh x o e
 .rw[aa (ag e c)];exact E.ext.gh x o e
 .rcases getE_set hj with⟨rfl,z⟩|⟨ne,z⟩
  .cases z
  .exact E.dat j e z
 .rcases getE_set hj with⟨rfl,z⟩|⟨ne,z⟩
  .cases z
  .exact E.lent j e z
 .rcases getE_set hj with⟨rfl,z⟩|⟨ne,z⟩
  .cases z;exact⟨p,hp,c,f,h⟩
  .obtain⟨q,a',c',f',g'⟩:=E.own j fs z
   have qp:q≠p:=by
    rintro rfl
    exact ne (E.apart j i fs d q z hi a' hp)
   refine⟨q,a',c',f',?_⟩;rcases g' with⟨ds,vs,h1,h2,h3⟩|⟨ds,vs,h1,h2,h3⟩
   .exact .inl ⟨ds,vs,h1,by rw[aa qp];exact h2,h3⟩
   .exact .inr ⟨ds,vs,h1,by rw[aa qp];exact h2,h3⟩
 .have hj':∃fs',Y[j]?=some (.own fs'):=by
   rcases getE_set hj with⟨rfl,_⟩|⟨_,z⟩
   .exact⟨d,hi⟩
   .exact⟨fs,z⟩
  have hk':∃fs',Y[k]?=some (.own fs'):=by
   rcases getE_set hk with⟨rfl,_⟩|⟨_,z⟩
   .exact⟨d,hi⟩
   .exact⟨gs,z⟩
  obtain⟨_,hj'⟩:=hj';obtain⟨_,hk'⟩:=hk';exact E.apart j k _ _ q hj' hk' aj ak
def EnvD.frz(E:EnvD K G0 H0 G H σ Y)(hl:Y'.length=Y.length)(h:∀(i:Nat) s,Y'[i]?=some s->Y[i]?=some s\/∃d,Y[i]?=some (.own d)/\s=.dat d):∃G',EnvD K G0 H0 G' H σ Y'/\Same G G':=by
 classical
 let P:Addr->Prop:=λb=>∃(i:Nat)(d:D),Y[i]?=some (.own d)/\Y'[i]?=some (.dat d)/\σ[i]?=some (some (.ref b))
 have hp:∀b,P b->G b=.none/\H0 b=.none:=λb ⟨i,d,h1,_,h3⟩=>by
  obtain⟨p,a,c,f,_⟩:=E.own i d h1;rw[h3]at a;cases a;exact⟨c,f⟩
 let G':Hp:=λb=>if P b then H b else G b
 have gin:∀b,P b->G' b=H b:=λb h=>if_pos h
 have gout:∀b,¬P b->G' b=G b:=λb h=>if_neg h
 have gs:Same G G':=λb o e=>by rw[gout b λh=>by rw[(hp b h).1]at e;cases e];exact e
 refine⟨G',⟨⟨E.ext.hh,E.ext.gg.trans gs,λb o e=>?_,λb o e1 e2=>?_,E.ext.ni⟩,by rw[hl];exact E.len,λi d hi=>?_,λi d hi=>?_,λi d hi=>?_,λi j d e p hi hj=>?_⟩,gs⟩
 .by_cases c:P b
  .rw[gin b c]at e;exact e
  .rw[gout b c]at e;exact E.ext.gh b o e
 .rw[gout b λh=>by rw[(hp b h).2]at e2;cases e2];exact E.ext.nw b o e1 e2
 .rcases h i _ hi with z|⟨d',z,e⟩
  .obtain⟨v,a,b⟩:=E.dat i d z
   exact⟨v,a,b.mono gs⟩
  .cases e
   obtain⟨p,a,c,f,g⟩:=E.own i d z;have q:G' p=H p:=gin p ⟨i,d,z,hi,a⟩;rcases g with⟨ds,vs,rfl,h2,h3⟩|⟨ds,vs,rfl,h2,h3⟩
   .exact⟨_,a,.list (q.trans h2) (h3.mono gs)⟩
   .exact⟨_,a,.dict (q.trans h2) (h3.mono gs)⟩
 .rcases h i _ hi with z|⟨d',z,e⟩
  .exact E.lent i d z
  .cases e
 .rcases h i _ hi with z|⟨d',z,e⟩
  .obtain⟨p,a,c,f,g⟩:=E.own i d z
   refine⟨p,a,?_,f,?_⟩
   .rw[gout p λ⟨j,d',y1,y2,y3⟩=>by cases E.apart i j d d' p z y1 a y3;rw[hi]at y2;cases y2];exact c
   .rcases g with⟨ds,vs,h1,h2,h3⟩|⟨ds,vs,h1,h2,h3⟩
    .exact .inl ⟨ds,vs,h1,h2,h3.mono gs⟩
    .exact .inr ⟨ds,vs,h1,h2,h3.mono gs⟩
  .cases e
 .rcases h i _ hi with z|⟨d',z,y⟩
  .rcases h j _ hj with z'|⟨d',z',y⟩
   .exact E.apart i j d e p z z'
   .cases y
  .cases y
def EnvD.freeze1(E:EnvD K G0 H0 G H σ Y)(hi:Y[i]?=some (.own d)):∃G',EnvD K G0 H0 G' H σ (Y.set i (.dat d))/\Same G G':=
 E.frz (by simp) λj s hj=>(getE_set hj).elim (λ⟨e,q⟩=>.inr ⟨d,e▸hi,q⟩) λ⟨_,q⟩=>.inl q
theorem EnvD.freeze(E:EnvD K G0 H0 G H σ Y):∃G',EnvD K G0 H0 G' H σ (Y.map freeze)/\Same G G':=
 E.frz (by simp) λj s hj=>by
  rw[gm0]at hj;obtain⟨s',q,rfl⟩:=mx0 hj;cases s' with
  |own d=>exact .inr ⟨d,q,rfl⟩
  |_=>exact .inl q
end
inductive Das (K:Fg)(G H:Hp):List Bool->List D->List V->Prop
 |nil {fl:List Bool}:Das K G H fl [] []
 |cons {fl:List Bool}{d:D}{v:V}{ds:List D}{vs:List V}:(fl.headD false=false->Dp K G d v)->Dr K G H d v->Das K G H fl.tail ds vs->Das K G H fl (d::ds) (v::vs)
theorem Das.dps{G H}:∀{ds:List D}{vs},Das K G H [] ds vs->Dps K G ds vs
 |_,_,.nil=>.nil
 |_,_,.cons h1 _ r=>.cons (h1 rfl) (Das.dps r)
theorem Das.length{G:Hp}(h:Das K G H fl ds vs):ds.length=vs.length:=by
 induction h with
 |nil=>rfl
 |cons _ _ _ ih=>rw[lc0,lc0,ih]
noncomputable def tEv(K:Fg)(Y:List Sl)(d:D):TE:=λσ H Q=>∃G0 H0 G,EnvD K G0 H0 G H σ Y/\∀v G' H',Ext G H G' H'->Dp K G' d v->Q v H'
noncomputable def tEr(K:Fg)(Y:List Sl)(d:D):TE:=λσ H Q=>∃G0 H0 G,EnvD K G0 H0 G H σ Y/\∀v G' H',Ext G H G' H'->Dr K G' H' d v->Q v H'
noncomputable def tEt(K:Fg)(Y:List Sl)(b:Bool):TT:=λσ H Q=>∃G0 H0 G,EnvD K G0 H0 G H σ Y/\∀G' H',Ext G H G' H'->Q b H'
noncomputable def tEa(K:Fg)(Y:List Sl)(fl:List Bool)(ds:List D):TA:=λσ H Q=>∃G0 H0 G,EnvD K G0 H0 G H σ Y/\∀vs G' H',Ext G H G' H'->Das K G' H' fl ds vs->Q vs H'
noncomputable def tEn(K:Fg)(Y:List Sl)(d:D):TE:=λσ H Q=>∃G0 H0 G,EnvD K G0 H0 G H σ Y/\∀p G' H',Ext G H G' H'->G' p=.none->H p=.none->OwnAt K G' H' d p->Q (.ref p) H'
def Ev(X:Cx)(Y:List Sl)(e:Expr)(d:D):Prop:=PE X e (tEv X.K Y d)
def Er(X:Cx)(Y:List Sl)(e:Expr)(d:D):Prop:=PE X e (tEr X.K Y d)
def Et(X:Cx)(Y:List Sl)(e:Expr)(b:Bool):Prop:=PT X e (tEt X.K Y b)
def Ew(X:Cx)(Y:List Sl)(e:Expr)(b:Bool):Prop:=PW X e (tEt X.K Y b)
def Ea(X:Cx)(Y:List Sl)(fl:List Bool)(es:List Expr)(ds:List D):Prop:=PA X es (tEa X.K Y fl ds)
def En(X:Cx)(Y:List Sl)(e:Expr)(d:D):Prop:=PE X e (tEn X.K Y d)
theorem OwnAt.show{G:Hp}{p:Addr}(e:Ext G H G' H')(g:G' p=.none)(h0:H p=.none)(o:OwnAt K G' H' d p):∃G2,Ext G H G2 H'/\Dp K G2 d (.ref p):=by
 obtain⟨ob,ho⟩:=o.some;refine⟨upd G' p ob,e.show h0 ho g,?_⟩;rcases o with⟨ds,vs,h1,h2,h3⟩|⟨ds,vs,h1,h2,h3⟩
 .rw[h2]at ho;cases ho;rw[h1];exact .list ae (h3.mono (av g))
 .rw[h2]at ho;cases ho;rw[h1];exact .dict ae (h3.mono (av g))
def En.ev{e:Expr}(h:En X Y e d):Ev X Y e d:=λpins s σ H Q I ⟨G0,H0,G,E,k⟩=>
 h pins s σ H Q I ⟨G0,H0,G,E,λp G' H' e g h0 o=>let ⟨G2,e2,r⟩:=o.show e g h0;k _ G2 H' e2 r⟩
def Ev.er{e:Expr}(h:Ev X Y e d):Er X Y e d:=by rintro pins s σ H Q I ⟨G0,H0,G,E,k⟩;exact h pins s σ H Q I ⟨G0,H0,G,E,λv G' H' e r=>k v G' H' e (.of r)⟩
def Ew.et{e:Expr}{b:Bool}(h:Ew X Y e b):Et X Y e b:=PW.pt h
def CY{i j pos}:Ev X Y (.Constant (.int i) j pos) (.int i):=by rintro pins s σ H Q I ⟨G0,H0,G,E,k⟩;exact BR pins s σ H Q I (k _ G H (.refl E.sub) (.int i))
def GP{b j pos}:Ev X Y (.Constant (.bool b) j pos) (.bool b):=by rintro pins s σ H Q I ⟨G0,H0,G,E,k⟩;exact FQ pins s σ H Q I (k _ G H (.refl E.sub) (.bool b))
def CZ{j pos}:Ev X Y (.Constant .none j pos) .none:=by rintro pins s σ H Q I ⟨G0,H0,G,E,k⟩;exact BS pins s σ H Q I (k _ G H (.refl E.sub) .none)
def Da{x j pos}(h:PyData.strOk x=true):Ev X Y (.Constant (.str x) j pos) (.str x):=by rintro pins s σ H Q I ⟨G0,H0,G,E,k⟩;exact BU pins s σ H Q I (k _ G H (.refl E.sub) (.str x h))
def Dc(i:Nat)(h:(Y[i]?).bind (aJ .val)=some d)(hN:X.N[i]?=some x)(hv:Vis X.env.scope x)(hd:(x==("__debug__":Str))=false)(hcd:(x==("__classdict__":Str))=false):Ev X Y (.Name x pos) d:=by
 rintro pins s σ H Q I ⟨G0,H0,G,E,k⟩
 obtain⟨sl,h1,h2⟩:=bx0 h;obtain⟨v,e,r⟩:=E.val h1 h2;exact cF hN hv hd hcd pins s σ H Q I ⟨v,e,k v G H (.refl E.sub) r⟩
def uL(i:Nat)(h:(Y[i]?).bind (aJ .read)=some d)(hN:X.N[i]?=some x)(hv:Vis X.env.scope x)(hd:(x==("__debug__":Str))=false)(hcd:(x==("__classdict__":Str))=false):Er X Y (.Name x pos) d:=by
 rintro pins s σ H Q I ⟨G0,H0,G,E,k⟩
 obtain⟨sl,h1,h2⟩:=bx0 h;obtain⟨v,e,r⟩:=E.read h1 h2;exact cF hN hv hd hcd pins s σ H Q I ⟨v,e,k v G H (.refl E.sub) r⟩
def af{e:Expr}{es}{env}(h:isStar e=false):starEach (e::es) env=(false,eval e env)::starEach es env:=by cases e<;>first|rfl|cases h
def ia :Ea X Y fl [] []:=by rintro pos pins s σ H Q I ⟨G0,H0,G,E,k⟩;exact aT pos pins s σ H Q I (k [] G H (.refl E.sub) .nil)
def ib{e:Expr}(he:Ev X Y e d)(hr:Ea X Y fl.tail es ds)(hs:isStar e=false):Ea X Y fl (e::es) (d::ds):=
 λpos pins s σ H Q I ⟨G0,H0,G,E,k⟩=>ay he hr (af hs) pos pins s σ H Q I ⟨G0,H0,G,E,λv G1 H1 e1 r1=>
  ⟨G0,H0,G1,E.step e1,λvs G2 H2 e2 r2=>k _ G2 H2 (e1.trans e2) (.cons (λa=>r1.mono e2.gg) (.of (r1.mono e2.gg)) r2)⟩⟩
def ic{e:Expr}(he:Er X Y e d)(hf:fl.headD false=true)(hr:Ea X Y fl.tail es ds)(hs:isStar e=false):Ea X Y fl (e::es) (d::ds):=
 λpos pins s σ H Q I ⟨G0,H0,G,E,k⟩=>ay he hr (af hs) pos pins s σ H Q I ⟨G0,H0,G,E,λv G1 H1 e1 r1=>
  ⟨G0,H0,G1,E.step e1,λvs G2 H2 e2 r2=>k _ G2 H2 (e1.trans e2) (.cons (λc=>by rw[hf]at c;cases c) (r1.ext e2) r2)⟩⟩
abbrev R2r(K:Fg)(r:R2)(d1 d2 d:D):Prop:=∀(x y:V)(G H:Hp)(Q:VK),Same G H->Dr K G H d1 x->Dr K G H d2 y->(∀v G' H',Ext G H G' H'->Dp K G' d v->Q v H')->r x y H Q
abbrev R2n(K:Fg)(r:R2)(d1 d2 d:D):Prop:=∀(x y:V)(G H:Hp)(Q:VK),Same G H->Dr K G H d1 x->Dr K G H d2 y->(∀p G' H',Ext G H G' H'->G' p=.none->H p=.none->OwnAt K G' H' d p->Q (.ref p) H')->r x y H Q
def ev_op{op:Operator}{r:R2}(ho:OpR X (binaryOp op) r)(ha:Er X Y a d1)(hb:Er X Y b d2)(h:R2r X.K r d1 d2 d):Ev X Y (.BinOp a op b pos) d:=
 λpins s σ H Q I ⟨G0,H0,G,E,k⟩=>AR ho ha hb pins s σ H Q I ⟨G0,H0,G,E,λx G1 H1 e1 r1=>⟨G0,H0,G1,E.step e1,λy G2 H2 e2 r2=>
  h x y G2 H2 Q e2.gh (r1.ext e2) r2 λv G' H' e3 r3=>k v G' H' (e1.trans (e2.trans e3)) r3⟩⟩
def en_op{op:Operator}{r:R2}(ho:OpR X (binaryOp op) r)(ha:Er X Y a d1)(hb:Er X Y b d2)(h:R2n X.K r d1 d2 d):En X Y (.BinOp a op b pos) d:=
 λpins s σ H Q I ⟨G0,H0,G,E,k⟩=>AR ho ha hb pins s σ H Q I ⟨G0,H0,G,E,λx G1 H1 e1 r1=>⟨G0,H0,G1,E.step e1,λy G2 H2 e2 r2=>
  h x y G2 H2 Q e2.gh (r1.ext e2) r2 λp G' H' e3 g3 h3 r3=>k p G' H' (e1.trans (e2.trans e3)) g3 (e1.hh.free (e2.hh.free h3)) r3⟩⟩
def Dd{op:CmpOp}{r:R2}(ho:OpR X (compareOp op) r)(ha:Er X Y a d1)(hb:Er X Y b d2)(h:R2r X.K r d1 d2 d)(hm:behindInMarks op b=false):Ev X Y (.Compare a [op] [b] pos) d:=
 λpins s σ H Q I ⟨G0,H0,G,E,k⟩=>ko ho ha hb hm pins s σ H Q I ⟨G0,H0,G,E,λx G1 H1 e1 r1=>⟨G0,H0,G1,E.step e1,λy G2 H2 e2 r2=>
  h x y G2 H2 Q e2.gh (r1.ext e2) r2 λv G' H' e3 r3=>k v G' H' (e1.trans (e2.trans e3)) r3⟩⟩
def De{op:CmpOp}{r:R2}(ho:OpR X (compareOp op) r)(ha:Er X Y a d1)(hb:Er X Y b d2)(h:R2r X.K r d1 d2 (.bool t))(hm:behindInMarks op b=false):Et X Y (.Compare a [op] [b] pos) t:=
 λpins s σ H Q I ⟨G0,H0,G,E,k⟩=>qd ho ha hb hm pins s σ H Q I ⟨G0,H0,G,E,λx G1 H1 e1 r1=>⟨G0,H0,G1,E.step e1,λy G2 H2 e2 r2=>
  h x y G2 H2 _ e2.gh (r1.ext e2) r2 λv G' H' e3 r3=>by
   cases r3;exact⟨t,rfl,k G' H' (e1.trans (e2.trans e3))⟩⟩⟩
def mi{r:R2}(hr:IxR X r)(ha:Er X Y a d1)(hb:Ev X Y b d2)(h:R2r X.K r d1 d2 d)(hs:isSlice b=false):Ev X Y (.Subscript a b pos) d:=
 λpins s σ H Q I ⟨G0,H0,G,E,k⟩=>AY hr ha hb (by cases b<;>first|exact λc c=>rfl|cases hs) pins s σ H Q I ⟨G0,H0,G,E,λx G1 H1 e1 r1=>⟨G0,H0,G1,E.step e1,λy G2 H2 e2 r2=>
  h x y G2 H2 Q e2.gh (r1.ext e2) (.of r2) λv G' H' e3 r3=>k v G' H' (e1.trans (e2.trans e3)) r3⟩⟩
def mj{g}{i j}(hg:∀G,Dp K G d (g i j)):R2r K (rI0 g) (.int i) (.int j) d:=λx y G H Q s hx hy k=>⟨i,j,hx.int,hy.int,k _ G H (.refl s) (hg G)⟩
def r2_I{C}{g}{i j}(hC:C i j)(hg:∀G,Dp K G d (g i j)):R2r K (rI C g) (.int i) (.int j) d:=λx y G H Q s hx hy k=>⟨i,j,hx.int,hy.int,hC,k _ G H (.refl s) (hg G)⟩
def big_eq:SI.big=sizeLine:=by rw[sizeLine_eq];rfl
def kG{x y}(hx:PyData.strOk x=true)(hy:PyData.strOk y=true):PyData.strOk (x++y)=true:=by
 have e:(x++y).cps=x.cps++y.cps:=rfl;unfold PyData.strOk at hx hy ⊢;rw[e,Array.all_append,hx,hy];rfl
def strOk_iff{x}:PyData.strOk x=true↔∀c∈x.cps.toList,c<0x110000:=by
 unfold PyData.strOk;rw[<-Array.all_toList,List.all_eq_true];simp
set_option tactic.hygienic true in
def mul_eq(x:Str)(j:Int):Txt.mul x j=⟨((List.replicate j.toNat x.cps.toList).flatten).toArray⟩:=by
 have key:∀(n:Nat)(acc:List Nat),(List.replicate n x.cps).foldl (·++·) acc.toArray=(acc++(List.replicate n x.cps.toList).flatten).toArray:=by
  intro n
  induction n with
  |zero=>intro acc;simp
  |succ n ih=>
   intro acc;rw[List.replicate_succ,List.foldl_cons,List.replicate_succ,List.flatten_cons];have e:acc.toArray++x.cps=(acc++x.cps.toList).toArray:=by simp
   rw[e,ih,List.append_assoc]
 unfold Txt.mul;split
 .rename_i h
  have:j.toNat=0:=by omega
  rw[this];rfl
 .rename_i h
  split
  .rename_i h2
   rw[Bool.or_eq_true]at h2;rcases h2 with h2|h2
   .have:j.toNat=1:=by have:=eq_of_beq h2;omega
    rw[this];simp
   .have e:x.cps.toList=[]:=by
     have:x.cps.size=0:=eq_of_beq h2;exact ez0 (by simpa using this)
    have e2:(List.replicate j.toNat x.cps.toList).flatten=[]:=by rw[e];simp
    rw[e2];cases x with|mk c=>congr 1;exact Array.toList_inj.mp (by rw[e])
  .have:=key j.toNat []
   rw[List.nil_append]at this;rw[<-this]
mutual
noncomputable def toW:D->PySem.W.Dat
 |.none=>.none
 |.bool b=>.bool b
 |.int i=>.int i
 |.str x=>.str x
 |.tuple ds=>.tuple (eu ds)
 |.list ds=>.list (eu ds)
 |.dict _=>.none
 |.scr _=>.none
 |.vlt ..=>.none
 |.hdl _=>.none
 |.exc _=>.none
 |.fn _=>.none
 |.fdc _=>.none
noncomputable def eu:List D->List PySem.W.Dat
 |[]=>[]
 |d::r=>toW d::eu r
end
theorem eV{p:PySem.W.Dat->Bool}{q:D->Bool}:∀{ds:List D},(∀d∈ds,q d=true->p (toW d)=true)->ds.all q=true->(eu ds).all p=true
 |[],_,_=>rfl
 |d::r,h,a=>by
  rw[List.all_cons,be0]at a;show (p (toW d)&&(eu r).all p)=true;rw[h d ms0 a.1,eV (λe he=>h e (mc0 _ he)) a.2];rfl
def kH:∀(n m:Nat)(a b:D),okS n a=true->okS m b=true->toW a=toW b->a=b:=by
 intro n
 induction n with
 |zero=>
  intro m a b ha hb e;cases a with
  |none=>cases b<;>first|rfl|(cases e;done)|(cases m<;>cases hb)
  |int i=>cases b<;>first|(cases e;rfl)|(cases e;done)
  |str x=>cases b<;>first|(cases e;rfl)|(cases e;done)
  |_=>cases ha
 |succ n ih=>
  intro m a b ha hb e;have all:∀(m:Nat)(ds es:List D),ds.all (okS n)=true->es.all (okS m)=true->eu ds=eu es->ds=es:=by
   intro m ds
   induction ds with
   |nil=>intro es _ _ e;cases es with
    |nil=>rfl
    |cons=>cases e
   |cons d r ih2=>
    intro es h1 h2 e;cases es with
    |nil=>cases e
    |cons f q=>
     rw[List.all_cons,be0]at h1 h2;have e':=e;injection e' with e1 e2
     rw[ih m d f h1.1 h2.1 e1,ih2 q h1.2 h2.2 e2]
  cases a with
  |none=>cases b<;>first|rfl|(cases e;done)|(cases m<;>cases hb)
  |int i=>cases b<;>first|(cases e;rfl)|(cases e;done)
  |str x=>cases b<;>first|(cases e;rfl)|(cases e;done)
  |tuple ds=>
   cases b with
   |tuple es=>
    cases m with
    |zero=>cases hb
    |succ m=>rw[all m ds es ha hb (PySem.W.Dat.tuple.inj e)]
   |_=>cases e
  |list ds=>
   cases b with
   |list es=>
    cases m with
    |zero=>cases hb
    |succ m=>rw[all m ds es ha hb (PySem.W.Dat.list.inj e)]
   |_=>cases e
  |_=>cases ha
section
variable {G:Hp}
def Dps.mem(h:Dps K G ds vs)(hd:d∈ds):∃v,Dp K G d v:=by
 obtain⟨k,e⟩:=List.getElem?_of_mem hd;obtain⟨v,_,r⟩:=h.get e;exact⟨v,r⟩
def qt:∀(n:Nat)(d:D)(v:V),Dp K G d v->okS n d=true->PySem.W.kqdOk n (toW d)=true:=by
 intro n
 induction n with
 |zero=>
  intro d v h o;cases h with
  |none=>rfl
  |int i=>rfl
  |str x hx=>exact hx
  |_=>cases o
 |succ n ih=>
  intro d v h o;have all:∀{ds:List D}{vs:List V},Dps K G ds vs->ds.all (okS n)=true->(eu ds).all (PySem.W.kqdOk n)=true:=λ{ds vs} r z=>
   eV (λe he oe=>let ⟨u,q⟩:=r.mem he;ih e u q oe) z
  cases h with
  |none=>rfl
  |int i=>rfl
  |str x hx=>exact hx
  |tuple _ r=>exact all r o
  |list _ r=>exact all r o
  |_=>cases o
def kI(s:Same G H){v:V}(h:Dr K G H d v)(o:okS 20 d=true):PySem.W.kqdOk 20 (toW d)=true:=by
 cases h with
 |of h=>exact qt 20 d v h o
 |list _ r=>exact eV (λe he oe=>let ⟨u,q⟩:=r.mem he;qt 19 e u q oe) o
 |dict=>cases o
 |vlt=>cases o
def fH(I:Inv X pins σ H s)(sm:Same G H){n}(ih:∀(d:D)(v:V)(u:Value),Dp X.K G d v->RelV v u->okS n d=true->∃as,Reads s.heap u (PySem.W.kqdP (toW d)) as):
  ∀{vs:List V}{us:List Value}{ds:List D},Vals vs us->Dps X.K G ds vs->ds.all (okS n)=true->∃as,ReadsAll s.heap us (PySem.W.kqdPs (eu ds)) as:=by
 intro vs us ds r
 induction r generalizing ds with
 |nil=>intro q _;cases q;exact⟨_,ReadsAll.nil⟩
 |cons r1 _ ih2=>
  intro q z;cases q with
  |cons q1 q2=>
   rw[List.all_cons,be0]at z;obtain⟨as,p1⟩:=ih _ _ _ q1 r1 z.1;obtain⟨bs,p2⟩:=ih2 q2 z.2;exact⟨_,ReadsAll.cons p1 p2⟩
def mq(I:Inv X pins σ H s)(sm:Same G H):∀(n:Nat)(d:D)(v:V)(u:Value),Dp X.K G d v->RelV v u->okS n d=true->∃as,Reads s.heap u (PySem.W.kqdP (toW d)) as:=by
 intro n
 induction n with
 |zero=>
  intro d v u h r o;cases h with
  |none=>cases r;exact⟨_,Reads.none⟩
  |int i=>obtain⟨t,rfl⟩:=r;exact⟨_,Reads.int i t⟩
  |str x hx=>obtain⟨t,rfl⟩:=r;exact⟨_,Reads.str x t⟩
  |_=>cases o
 |succ n ih=>
  intro d v u h r o;cases h with
  |none=>cases r;exact⟨_,Reads.none⟩
  |int i=>obtain⟨t,rfl⟩:=r;exact⟨_,Reads.int i t⟩
  |str x hx=>obtain⟨t,rfl⟩:=r;exact⟨_,Reads.str x t⟩
  |tuple q p=>
   cases r;obtain⟨its,rv,⟨ob,e1,e2,m,e3⟩,_⟩:=I.tuple (SqT.of (sm _ _ q));obtain⟨as,w⟩:=fH I sm ih rv p o;exact⟨_,Reads.tuple e1 e2 e3 (by simpa using w)⟩
  |list q p=>
   cases r;obtain⟨its,rv,⟨ob,m,e1,e2,_,e3⟩,_⟩:=I.list (SqL.of (sm _ _ q));obtain⟨as,w⟩:=fH I sm ih rv p o;exact⟨_,Reads.list e1 e2 e3 (by simpa using w)⟩
  |_=>cases o
def bj(I:Inv X pins σ H s)(sm:Same G H){v:V}{u:Value}(h:Dr X.K G H d v)(r:RelV v u)(o:okS 20 d=true):∃as,Reads s.heap u (PySem.W.kqdP (toW d)) as:=by
 cases h with
 |of h=>exact mq I sm 20 d v u h r o
 |list q p=>
  cases r;obtain⟨its,rv,⟨ob,m,e1,e2,_,e3⟩,_⟩:=I.list (SqL.of q);obtain⟨as,w⟩:=fH (n:=19) I sm (mq I sm 19) rv p o;exact⟨_,Reads.list e1 e2 e3 (by simpa using w)⟩
 |dict=>cases o
 |vlt=>cases o
end
def bD{d:PySem.W.Dat}(o:PySem.W.kqdOk n d=true)(hn:n<=64:=by decide):SeqAt.shaped (PySem.W.kqdP d)=true:=by
 have l:=PySem.W.kqd_lay n d o;unfold SeqAt.shaped;rw[l.1,Bool.true_and];exact dt0 (nt0 l.2 hn)
noncomputable def GQ(K:Fg)(neg:Bool):R2:=λx y H Q=>∃G d1 d2,Same G H/\Dr K G H d1 x/\Dr K G H d2 y/\okS 20 d1=true/\okS 20 d2=true/\Q (.bl (if neg then !decide (d1=d2)else decide (d1=d2))) H
def uM{G:Hp}{x y:V}(s:Same G H)(h1:Dr K G H d1 x)(h2:Dr K G H d2 y)(o1:okS 20 d1=true)(o2:okS 20 d2=true):PyData.eqv (PySem.W.kqdP (toW d1)) (PySem.W.kqdP (toW d2))=decide (d1=d2):=by
 have q:=PySem.W.kqd_eqv 20 (toW d1) (toW d2) 20 (kI s h1 o1) (kI s h2 o2)
 by_cases e:d1=d2
 .rw[dt0 e];exact q.mpr (by rw[e])
 .rw[df0 e]
  exact bf0 λz=>e (kH 20 20 d1 d2 o1 o2 (q.mp z))
def Df(hu:X.A.units+64<cLine):OpR X (compareOp .Eq) (GQ X.K false):=by
 intro pins s σ H x y v u Q I rx ry h;obtain⟨G,d1,d2,sm,h1,h2,o1,o2,q⟩:=h;obtain⟨as,ra⟩:=bj I sm h1 rx o1;obtain⟨bs,rb⟩:=bj I sm h2 ry o2;exact eq_dataH ra rb (bD (kI sm h1 o1)) (bD (kI sm h2 o2)) hu (bF I q (uM sm h1 h2 o1 o2).symm)
def Dg(hu:X.A.units+64<cLine):OpR X (compareOp .NotEq) (GQ X.K true):=by
 intro pins s σ H x y v u Q I rx ry h;obtain⟨G,d1,d2,sm,h1,h2,o1,o2,q⟩:=h;obtain⟨as,ra⟩:=bj I sm h1 rx o1;obtain⟨bs,rb⟩:=bj I sm h2 ry o2;exact ne_dataH ra rb (bD (kI sm h1 o1)) (bD (kI sm h2 o2)) hu (bF I q (by rw[uM sm h1 h2 o1 o2];rfl))
def Dr.dpsL{G:Hp}{v:V}(h:Dr K G H (.list ds) v):∃vs,Dps K G ds vs:=by
 cases h with
 |of h=>cases h with|list _ r=>exact⟨_,r⟩
 |list _ r=>exact⟨_,r⟩
def Dr.dpsT{G:Hp}{v:V}(h:Dr K G H (.tuple ds) v):∃vs,Dps K G ds vs:=by
 cases h with
 |of h=>cases h with|tuple _ r=>exact⟨_,r⟩
theorem uN{G:Hp}{x:V}(s:Same G H)(h1:Dr K G H d1 x)(o1:okS 20 d1=true):∀{ds:List D}{vs:List V},Dps K G ds vs->ds.all (okS 19)=true->((PySem.W.kqdPs (eu ds)).any λy=>PyData.eqv y (PySem.W.kqdP (toW d1)))=ds.any λd=>decide (d=d1)
 |[],_,_,_=>rfl
 |d::r,_,.cons q q',o=>by
  rw[List.all_cons,be0]at o;have e:=PySem.W.kqd_eqv 19 (toW d) (toW d1) 20 (qt 19 d _ q o.1) (kI s h1 o1);have e':PyData.eqv (PySem.W.kqdP (toW d)) (PySem.W.kqdP (toW d1))=decide (d=d1):=by
   by_cases z:d=d1
   .rw[dt0 z];exact e.mpr (by rw[z])
   .rw[df0 z];exact bf0 λy=>z (kH 19 20 d d1 o.1 o1 (e.mp y))
  show (PyData.eqv _ _||_)=(decide (d=d1)||_);rw[e',<-uN s h1 o1 q' o.2]
def qu{G:Hp}(r:Dps K G ds vs)(o:ds.all (okS 19)=true):PyData.canLayAll0 (PySem.W.kqdPs (eu ds))=true/\PyData.depthAll (PySem.W.kqdPs (eu ds))<=20:=by
 have l:=PySem.W.kqd_lay 20 (.list (eu ds)) (eV (λe he oe=>let ⟨u,q⟩:=r.mem he;qt 19 e u q oe) o);rw[PySem.W.kqdP]at l;simp only[PyData.canLay0,PyData.depth]at l;have l2:=l.2;exact⟨l.1,by omega⟩
noncomputable def GR(K:Fg)(neg:Bool):R2:=λx y H Q=>∃G d ds vs,Same G H/\Dr K G H d x/\Dps K G ds vs/\((Dr K G H (.list ds) y)\/Dr K G H (.tuple ds) y)/\okS 20 d=true/\ds.all (okS 19)=true/\Q (.bl (if neg then !ds.any (λe=>decide (e=d))else ds.any λe=>decide (e=d))) H
def uO(hu:X.A.units+64<cLine):OpR X (compareOp .In) (GR X.K false):=by
 intro pins s σ H x y v u Q I rx ry h;obtain⟨G,d,ds,vs,sm,h1,r,h2,o1,o2,q⟩:=h;obtain⟨as,ra⟩:=bj I sm h1 rx o1;have l:=qu r o2;have l1:=PySem.W.kqd_lay 20 _ (kI sm h1 o1);have q:=q;rcases h2 with h2|h2
 .obtain⟨bs,rb⟩:=bj I sm h2 ry o2
  exact SeqAt.in_list_reads rb ra l.1 l1.1 (by omega) (bF I q (uN sm h1 o1 r o2).symm)
 .obtain⟨bs,rb⟩:=bj I sm h2 ry o2
  exact SeqAt.in_tuple_reads rb ra l.1 l1.1 (by omega) (bF I q (uN sm h1 o1 r o2).symm)
def jB(hu:X.A.units+64<cLine):OpR X (compareOp .NotIn) (GR X.K true):=by
 intro pins s σ H x y v u Q I rx ry h;obtain⟨G,d,ds,vs,sm,h1,r,h2,o1,o2,q⟩:=h;obtain⟨as,ra⟩:=bj I sm h1 rx o1;have l:=qu r o2;have l1:=PySem.W.kqd_lay 20 _ (kI sm h1 o1);rcases h2 with h2|h2
 .obtain⟨bs,rb⟩:=bj I sm h2 ry o2
  exact SeqAt.notIn_list_reads rb ra l.1 l1.1 (by omega) (bF I q (by rw[uN sm h1 o1 r o2];rfl))
 .obtain⟨bs,rb⟩:=bj I sm h2 ry o2
  exact SeqAt.notIn_tuple_reads rb ra l.1 l1.1 (by omega) (bF I q (by rw[uN sm h1 o1 r o2];rfl))
def Dh(hu:X.A.units+1<cLine):OpR X (compareOp .In) (λx y H Q=>∃a kvs k,y=.ref a/\x=kV k/\Rd H a (.dK kvs)/\Q (.bl (dj kvs k).isSome) H):=by
 intro pins s σ H x y v u Q I rx ry h;obtain⟨a,kvs,k,rfl,rfl,ha,q⟩:=h;cases ry;exact JC hu I (.inl ⟨kvs,k,ha,rfl,rfl⟩) rx λs' I'=>⟨.bl _,H,I',rfl,q⟩
def rZ(hu:X.A.units+1<cLine):OpR X (compareOp .NotIn) (λx y H Q=>∃a kvs k,y=.ref a/\x=kV k/\Rd H a (.dK kvs)/\Q (.bl (!(dj kvs k).isSome)) H):=by
 intro pins s σ H x y v u Q I rx ry h;obtain⟨a,kvs,k,rfl,rfl,ha,q⟩:=h;cases ry;exact yD hu I (.inl ⟨kvs,k,ha,rfl,rfl⟩) rx λs' I'=>⟨.bl _,H,I',rfl,q⟩
theorem Dks.look{G}{k:Key}:∀{ds:List (Key×D)}{vs:List (Key×V)},Dks K G ds vs->(SI.look ds k=.none/\dj vs k=.none)\/∃d v,SI.look ds k=some d/\dj vs k=some v/\Dp K G d v
 |_,_,.nil=>.inl ⟨rfl,rfl⟩
 |_,_,.cons (k:=l) h r=>by
  by_cases c:l=k
  .right
   refine⟨_,_,?_,gZ c,h⟩;show (if l=k then _ else _)=_;rw[if_pos c]
  .rw[hV c]
   show ((if l=k then _ else _)=_/\_)\/∃d v,(if l=k then _ else _)=_/\_;rw[if_neg c];exact Dks.look r
def bQ{G:Hp}{v:V}{k:Key}(h:Dr K G H d v)(e:kB d=some k):v=kV k:=by
 cases d with
 |int i=>cases e;exact h.int
 |str x=>cases e;exact h.str.1
 |_=>cases e
def sd:OpR X (compareOp .LtE) (λx y H Q=>∃i j,x=.str i/\y=.str j/\Q (.bl (!decide (j.cps.toList<i.cps.toList))) H):=by
 intro pins s σ H x y v u Q I rx ry h;obtain⟨i,j,rfl,rfl,q⟩:=h;obtain⟨t,rfl⟩:=rx;obtain⟨t',rfl⟩:=ry;exact PySem.P.le_str (bF I q rfl)
set_option tactic.hygienic true in
def kJ{op:CmpOp}{o:Cop}(hu:X.A.units+64<cLine)(ho:kF op=some o)(h:cb o d1 d2=some t):∃r,OpR X (compareOp op) r/\R2r X.K r d1 d2 (.bool t):=by
 have hu1:X.A.units+1<cLine:=by omega
 have eqc:∀t,eqD d1 d2=some t->(∃r,OpR X (compareOp .Eq) r/\R2r X.K r d1 d2 (.bool t))/\∃r,OpR X (compareOp .NotEq) r/\R2r X.K r d1 d2 (.bool (!t)):=by
  clear h;intro t h;unfold eqD at h;split at h
  .rename_i c
   rw[be0]at c;cases h;exact⟨⟨_,Df hu,λx y G H Q s hx hy k=>⟨G,d1,d2,s,hx,hy,c.1,c.2,k _ G H (.refl s) (.bool _)⟩⟩,⟨_,Dg hu,λx y G H Q s hx hy k=>⟨G,d1,d2,s,hx,hy,c.1,c.2,k _ G H (.refl s) (.bool _)⟩⟩⟩
  .cases h
 have inc:∀t,inD d1 d2=some t->(∃r,OpR X (compareOp .In) r/\R2r X.K r d1 d2 (.bool t))/\∃r,OpR X (compareOp .NotIn) r/\R2r X.K r d1 d2 (.bool (!t)):=by
  clear h eqc;intro t h;unfold inD at h;cases d2 with
  |str y=>
   cases d1 with
   |str x=>
    cases h;refine⟨⟨_,rN,λu v G H Q s hx hy k=>⟨x,y,hx.str.1,hy.str.1,k _ G H (.refl s) (.bool _)⟩⟩,⟨_,kx,λu v G H Q s hx hy k=>⟨x,y,hx.str.1,hy.str.1,k _ G H (.refl s) (.bool _)⟩⟩⟩
   |_=>cases h
  |list ds=>
   dsimp only at h;split at h
   .rename_i c
    rw[be0]at c;cases h;exact⟨⟨_,uO hu,λu v G H Q s hx hy k=>let ⟨vs,r⟩:=hy.dpsL;⟨G,d1,ds,vs,s,hx,r,.inl hy,c.1,c.2,k _ G H (.refl s) (.bool _)⟩⟩,⟨_,jB hu,λu v G H Q s hx hy k=>let ⟨vs,r⟩:=hy.dpsL;⟨G,d1,ds,vs,s,hx,r,.inl hy,c.1,c.2,k _ G H (.refl s) (.bool _)⟩⟩⟩
   .cases h
  |tuple ds=>
   dsimp only at h;split at h
   .rename_i c
    rw[be0]at c;cases h;exact⟨⟨_,uO hu,λu v G H Q s hx hy k=>let ⟨vs,r⟩:=hy.dpsT;⟨G,d1,ds,vs,s,hx,r,.inr hy,c.1,c.2,k _ G H (.refl s) (.bool _)⟩⟩,⟨_,jB hu,λu v G H Q s hx hy k=>let ⟨vs,r⟩:=hy.dpsT;⟨G,d1,ds,vs,s,hx,r,.inr hy,c.1,c.2,k _ G H (.refl s) (.bool _)⟩⟩⟩
   .cases h
  |fdc kvs=>
   obtain⟨key,e1,e2⟩:=mx0 h;subst e2;refine⟨⟨_,Dh hu1,λu v G H Q s hx hy k=>?_⟩,⟨_,rZ hu1,λu v G H Q s hx hy k=>?_⟩⟩
   .obtain⟨a,ob,vs,rfl,h1,r1⟩:=hy.fdc s
    refine⟨a,vs,key,rfl,bQ hx e1,.inr ⟨_,h1⟩,?_⟩;have e:(dj vs key).isSome=(look kvs key).isSome:=by
     rcases r1.look (k:=key)with⟨q1,q2⟩|⟨d,v,q1,q2,_⟩<;>rw[q1,q2]<;>rfl
    rw[e];exact k _ G H (.refl s) (.bool _)
   .obtain⟨a,ob,vs,rfl,h1,r1⟩:=hy.fdc s
    refine⟨a,vs,key,rfl,bQ hx e1,.inr ⟨_,h1⟩,?_⟩;have e:(dj vs key).isSome=(look kvs key).isSome:=by
     rcases r1.look (k:=key)with⟨q1,q2⟩|⟨d,v,q1,q2,_⟩<;>rw[q1,q2]<;>rfl
    rw[e];exact k _ G H (.refl s) (.bool _)
  |_=>cases h
 cases op with
 |Lt=>
  cases ho;clear eqc inc;cases d1 with
  |int i=>cases d2 with
   |int j=>cases h;exact⟨_,Gd,mj λb=>.bool _⟩
   |_=>cases h
  |str x=>cases d2 with
   |str y=>cases h;exact⟨_,rM,λu v G H Q s hx hy k=>⟨x,y,hx.str.1,hy.str.1,k _ G H (.refl s) (.bool _)⟩⟩
   |_=>cases h
  |_=>cases h
 |LtE=>
  cases ho;clear eqc inc;cases d1 with
  |int i=>cases d2 with
   |int j=>cases h;exact⟨_,Ge,mj λb=>.bool _⟩
   |_=>cases h
  |str x=>cases d2 with
   |str y=>cases h;exact⟨_,sd,λu v G H Q s hx hy k=>⟨x,y,hx.str.1,hy.str.1,k _ G H (.refl s) (.bool _)⟩⟩
   |_=>cases h
  |_=>cases h
 |Gt=>
  cases ho;clear eqc inc;cases d1 with
  |int i=>cases d2 with
   |int j=>cases h;exact⟨_,Gf,mj λb=>.bool _⟩
   |_=>cases h
  |_=>cases h
 |GtE=>cases ho
 |Eq=>cases ho;rw[CN]at h;exact (eqc t h).1
 |NotEq=>
  cases ho;rw[CO]at h;obtain⟨t',h1,rfl⟩:=mx0 h;exact (eqc t' h1).2
 |In=>cases ho;rw[CP]at h;exact (inc t h).1
 |NotIn=>
  cases ho;rw[rY]at h;obtain⟨t',h1,rfl⟩:=mx0 h;exact (inc t' h1).2
 |Is=>
  cases ho;have h':(if d2=.none then some (decide (d1=.none))else .none)=some t:=by clear eqc inc;cases d1<;>exact h
  split at h'
  .rename_i c
   subst c;cases h';refine⟨_,Cp,λx y G H Q s hx hy k=>⟨hy.none,?_⟩⟩;have e:decide (x=V.non)=decide (d1=D.none):=by
    by_cases c:d1=.none
    .subst c;rw[hx.none];simp
    .rw[df0 c]
     refine df0 λz=>?_
     subst z;cases hx with|of hx=>cases hx;exact c rfl
   rw[e];exact k _ G H (.refl s) (.bool _)
  .cases h'
 |IsNot=>
  cases ho;have h':(if d2=.none then some (!decide (d1=.none))else .none)=some t:=by clear eqc inc;cases d1<;>exact h
  split at h'
  .rename_i c
   subst c;cases h';refine⟨_,yn,λx y G H Q s hx hy k=>⟨hy.none,?_⟩⟩;have e:decide (x=V.non)=decide (d1=D.none):=by
    by_cases c:d1=.none
    .subst c;rw[hx.none];simp
    .rw[df0 c]
     refine df0 λz=>?_
     subst z;cases hx with|of hx=>cases hx;exact c rfl
   rw[e];exact k _ G H (.refl s) (.bool _)
  .cases h'
def eW{op}{b}(h:isSet b=false):behindInMarks op b=false:=by cases b<;>first|rfl|cases h
section
def uP:OpR X (binaryOp .Mult) (λx y H Q=>∃z n,x=.str z/\y=.int n/\MulOk z n/\Q (.str (Txt.mul z n)) H):=by
 intro pins s σ H x y v u Q I rx ry h;obtain⟨z,n,rfl,rfl,ok,q⟩:=h;obtain⟨t,rfl⟩:=rx;obtain⟨t',rfl⟩:=ry;exact SB.mul ok λt' k=>⟨.str _,H,I.tok k,⟨_,rfl⟩,q⟩
set_option tactic.hygienic true
def uQ{op}{o}(ho:cOp op=some o)(h:opD o d1 d2=some d)(ha:Er X Y a d1)(hb:Er X Y b d2):Ev X Y (.BinOp a op b pos) d/\(bL d=true->En X Y (.BinOp a op b pos) d):=by
 have new:En X Y (.BinOp a op b pos) d->Ev X Y (.BinOp a op b pos) d/\(bL d=true->En X Y (.BinOp a op b pos) d):=λq=>⟨q.ev,λe=>q⟩
 have old:bL d=false->Ev X Y (.BinOp a op b pos) d->Ev X Y (.BinOp a op b pos) d/\(bL d=true->En X Y (.BinOp a op b pos) d):=λz q=>⟨q,λc=>by rw[z]at c;cases c⟩
 cases op with
 |Add=>
  cases ho;cases d1 with
  |int i=>cases d2 with
   |int j=>cases h;exact old rfl (ev_op Cj ha hb (mj λe=>.int _))
   |_=>cases h
  |str x=>cases d2 with
   |str y=>
    rw[yJ]at h;split at h
    .rename_i c;cases h;rw[big_eq]at c;exact old rfl (ev_op op_add_str ha hb ((have h:=c;λu v G H Q s hx hy k=>by
      obtain⟨rfl,o1⟩:=hx.str;obtain⟨rfl,o2⟩:=hy.str;exact⟨x,y,rfl,rfl,h,k _ G H (.refl s) (.str _ (kG o1 o2))⟩)))
    .cases h
   |_=>cases h
  |list ds=>cases d2 with
   |list es=>
    rw[qo]at h;split at h
    .rename_i c;cases h;rw[big_eq]at c;exact new (en_op op_cat ha hb ((have h:=c;λx y G H Q s hx hy k=>by
      obtain⟨a,vs,rfl,h1,r1⟩:=hx.lst s;obtain⟨b,ws,rfl,h2,r2⟩:=hy.lst s;exact⟨a,b,vs,ws,rfl,rfl,h1,h2,by rwa [<-r1.length,<-r2.length],λp hp=>k p G _ (.hid s hp) (s.free hp) hp (.inl ⟨_,_,rfl,ae,r1.append r2⟩)⟩)))
    .cases h
   |_=>cases h
  |_=>cases h
 |Sub=>
  cases ho;cases d1 with
  |int i=>cases d2 with
   |int j=>cases h;exact old rfl (ev_op Ck ha hb (mj λe=>.int _))
   |_=>cases h
  |_=>cases h
 |Mult=>
  cases ho;cases d1 with
  |int i=>cases d2 with
   |int j=>
    rw[qq]at h;split at h
    .rename_i c;cases h;exact old rfl (ev_op op_mul ha hb (r2_I ((by
      have h:=c;unfold SI.oB at h;rw[Bool.or_eq_true,be0,be0]at h;rcases h with⟨h1,h2⟩|⟨h1,h2⟩
      .exact .inl ⟨od0 h1,od0 h2⟩
      .exact .inr ⟨od0 h1,od0 h2⟩)) λe=>.int _))
    .cases h
   |_=>cases h
  |str x=>cases d2 with
   |int j=>
    rw[yL]at h;split at h
    .rename_i c
     cases h;refine old rfl (ev_op uP ha hb λu v G H Q s hx hy k=>?_);obtain⟨rfl,o1⟩:=hx.str;refine⟨x,j,rfl,hy.int,(by
       have h1:=c.2.1;have h2:=c.2.2;have h0:=c.1;refine⟨?_,λh3 e=>?_,λh3 e=>?_⟩
       .rw[df0 (by grind),df0 (by grind)];rfl
       .intro h4
        have:(1000:Int)<=(2 ^ 63-1) / j:=by
         rw[Int.le_ediv_iff_mul_le (by grind)]
         grind
        grind
       .have h5:x.length*j.toNat<=1000*1000:=Nat.mul_le_mul h2 (by simp_all)
        exact df0 (by rw[sizeLine_eq];grind)),?_⟩
     rw[mul_eq];exact k _ G H (.refl s) (.str _ ((by
       have h:=o1;rw[strOk_iff]at h ⊢
       simp_all)))
    .cases h
   |_=>cases h
  |list ds=>cases d2 with
   |int j=>
    rw[yK]at h;split at h
    .rename_i c
     cases h;unfold uE at c;rw[be0,be0]at c;exact new (en_op CA ha hb ((have h1:=(od0 c.1.1);have h2:=(od0 c.1.2);have h:ds.length*j.toNat<=sizeLine:=(by rw[<-big_eq];exact od0 c.2);λx y G H Q s hx hy k=>by
       obtain⟨a,vs,rfl,h3,r1⟩:=hx.lst s;exact⟨a,j,vs,rfl,hy.int,h3,h1,h2,by rwa [<-r1.length],λp hp=>k p G _ (.hid s hp) (s.free hp) hp (.inl ⟨_,_,rfl,ae,r1.rep _⟩)⟩)))
    .cases h
   |_=>cases h
  |_=>cases h
 |Mod=>
  cases ho;cases d1 with
  |int i=>cases d2 with
   |int j=>
    rw[yM]at h;split at h
    .rename_i c;cases h;exact old rfl (ev_op op_mod ha hb (r2_I c λe=>.int _))
    .cases h
   |_=>cases h
  |_=>cases h
 |FloorDiv=>
  cases ho;cases d1 with
  |int i=>cases d2 with
   |int j=>
    rw[yN]at h;split at h
    .rename_i c;cases h;exact old rfl (ev_op op_fdiv ha hb (r2_I c λe=>.int _))
    .cases h
   |_=>cases h
  |_=>cases h
 |_=>cases ho
def Di{i:Int}(ha:Ev X Y a (.int i)):Ev X Y (.UnaryOp .USub a pos) (.int (-i)):=λpins s σ H Q I ⟨G0,H0,G,E,k⟩=>
 Ga Cn ha pins s σ H Q I ⟨G0,H0,G,E,λv G1 H1 e1 r1=>by
  cases r1;exact⟨i,rfl,k _ G1 H1 e1 (.int _)⟩⟩
def yQ(hu:X.A.units+1<cLine):IxR X (λx y H Q=>∃p kvs k v,x=.ref p/\y=kV k/\Rd H p (.dK kvs)/\dj kvs k=some v/\Q v H):=by
 intro value slice pins s σ H x y v u Q I rx ry h hs;obtain⟨p,kvs,k,z,rfl,rfl,hp,he,q⟩:=h;cases rx;have g:oz H p (kV k) (some z):=by rw[<-he];exact .inl ⟨kvs,k,hp,rfl,rfl⟩
 exact tail_any (lV I g) PySem.F.slot_dict_getitem.lookup (rX hu I g ry λw' s' I' rw'=>⟨z,H,I',rw',q⟩) hs
def jC{c}(h:c<0x110000):PyData.strOk ⟨#[c]⟩=true:=by
 unfold PyData.strOk;simp;exact h
def se(hu:X.A.units+1<cLine)(h:oC d1 d2=some d)(ha:Er X Y a d1)(hb:Ev X Y b d2)(hs:isSlice b=false):Ev X Y (.Subscript a b pos) d:=by
 cases d1 with
 |list ds=>
  cases d2 with
  |int i=>
   refine mi qf ha hb (λu v G H Q s hx hy q=>?_) hs;obtain⟨p,vs,rfl,h1,r⟩:=hx.lst s;obtain⟨w,e,dw⟩:=r.atI h;exact⟨p,vs,i,w,rfl,hy.int,SqL.of h1,e,q _ G H (.refl s) dw⟩
  |_=>cases h
 |tuple ds=>
  cases d2 with
  |int i=>
   refine mi Cw ha hb (λu v G H Q s hx hy q=>?_) hs;obtain⟨p,vs,rfl,h1,r⟩:=hx.tup s;obtain⟨w,e,dw⟩:=r.atI h;exact⟨p,vs,i,w,rfl,hy.int,SqT.of h1,e,q _ G H (.refl s) dw⟩
  |_=>cases h
 |scr ns=>
  cases d2 with
  |int i=>
   refine mi qf ha hb (λu v G H Q s hx hy q=>?_) hs;obtain⟨p,rfl,h1⟩:=hx.scr s;obtain⟨n,e,rfl⟩:=mx0 h;have e':L2.atI (ns.map V.int) i=some (.int n):=by
    rw[uJ]at e;unfold L2.atI at e ⊢;rw[lm0];cases q:L2.ixN ns.length i with
    |none=>rw[q]at e;cases e
    |some j=>
     rw[q]at e;show (ns.map V.int)[j]?=_;rw[gm0,show ns[j]?=some n from e];rfl
   exact⟨p,_,i,_,rfl,hy.int,h1,e',q _ G H (.refl s) (.int n)⟩
  |_=>cases h
 |str x=>
  cases d2 with
  |int i=>
   rw[yO]at h;split at h
   .rename_i hz
    rw[big_eq]at hz;obtain⟨k,e,rfl⟩:=mx0 h;refine mi Cy ha hb (λu v G H Q s hx hy q=>?_) hs;obtain⟨rfl,o⟩:=hx.str;refine⟨x,i,k,rfl,hy.int,hz,e,q _ G H (.refl s) (.str _ (jC ?_))⟩;obtain⟨j,_,e2,_⟩:=gJ e;exact strOk_iff.mp o k (mg0 e2)
   .cases h
  |_=>cases h
 |fdc kvs=>
  obtain⟨key,e1,e2⟩:=bx0 h;refine mi (yQ hu) ha hb (λu v G H Q s hx hy q=>?_) hs;obtain⟨p,ob,vs,rfl,h1,r⟩:=hx.fdc s;rcases r.look (k:=key)with⟨q1,_⟩|⟨d',w,q1,q2,dw⟩
  .rw[e2]at q1;cases q1
  .rw[e2]at q1;cases q1
   exact⟨p,vs,key,w,rfl,bQ hy e1,.inr ⟨_,h1⟩,q2,q _ G H (.refl s) dw⟩
 |_=>cases h
set_option tactic.hygienic false
noncomputable def tPt(K:Fg)(Y:List Sl)(o:Option Int):TO:=λσ H Q=>∃G0 H0 G,EnvD K G0 H0 G H σ Y/\∀G' H',Ext G H G' H'->Q o H'
def uR:PO X .none (tPt X.K Y .none):=by rintro pins s σ H Q I ⟨G0,H0,G,E,k⟩;exact yy pins s σ H Q I (k G H (.refl E.sub))
def uS{i:Int}(h:Ev X Y a (.int i)):PO X (some a) (tPt X.K Y (some i)):=λpins s σ H Q I ⟨G0,H0,G,E,k⟩=>
 yz h pins s σ H Q I ⟨G0,H0,G,E,λv G1 H1 e1 r1=>by
  cases r1;exact⟨i,rfl,k G1 H1 e1⟩⟩
def sf{lo hi:Option Expr}{l h:Option Int}(ha:Er X Y a (.list ds))(hl:PO X lo (tPt X.K Y l))(hh:PO X hi (tPt X.K Y h)):En X Y (.Subscript a (.Slice lo hi .none p2) pos) (.list (SI.cut ds l h)):=
 λpins s σ H Q I ⟨G0,H0,G,E,k⟩=>ux qg ha hl hh pins s σ H Q I ⟨G0,H0,G,E,λv G1 H1 e1 r1=>⟨G0,H0,G1,E.step e1,λG2 H2 e2=>⟨G0,H0,G2,(E.step e1).step e2,λG3 H3 e3=>by
  obtain⟨p,vs,rfl,h1,r⟩:=((r1.ext e2).ext e3).lst e3.gh;have e:=e1.trans (e2.trans e3);exact⟨p,vs,rfl,SqL.of h1,λq hq=>k q G3 _ (e.trans (.hid e3.gh hq)) (e3.gh.free hq) (e.hh.free hq) (.inl ⟨_,_,rfl,ae,r.cut l h⟩)⟩⟩⟩⟩
def Dj(h:Ea X Y [] es ds)(hz:ds.length<=1000):En X Y (.List es pos) (.list ds):=λpins s σ H Q I ⟨G0,H0,G,E,k⟩=>
 ur h pins s σ H Q I ⟨G0,H0,G,E,λvs G1 H1 e1 r=>⟨by rw[<-r.length];exact Nat.le_of_lt (dF hz),λp hp=>
  k p G1 _ (e1.trans (.hid e1.gh hp)) (e1.gh.free hp) (e1.hh.free hp) (.inl ⟨_,_,rfl,ae,r.dps⟩)⟩⟩
def Dk{x1}(h:Ea X Y [] es ds)(hz:ds.length<=1000):Ev X Y (.Tuple es x1 pos) (.tuple ds):=λpins s σ H Q I ⟨G0,H0,G,E,k⟩=>
 uq h pins s σ H Q I ⟨G0,H0,G,E,λvs G1 H1 e1 r=>⟨by rw[<-r.length];exact Nat.le_of_lt (dF hz),λp hp=>
  k _ _ _ (e1.trans (.laid e1.gh hp)) (.tuple ae (r.dps.mono (av (e1.gh.free hp))))⟩⟩
def gj{K}{G}{ds}{vs}(r:Dps K G ds vs):(!ds.isEmpty)=!vs.isEmpty:=by cases r<;>rfl
set_option tactic.hygienic true in
def Dl{G:Hp}{v:V}(s:Same G H)(h:Dr K G H d v)(ht:fF d=some t):Cq K v H t:=by
 cases d with
 |none=>rw[h.none];cases ht;rfl
 |bool b=>rw[h.bool];cases ht;rfl
 |int i=>rw[h.int];cases ht;rfl
 |str x=>
  rw[h.str.1];rw[uF]at ht;split at ht
  .rename_i c;cases ht;rw[big_eq]at c;exact⟨c,rfl⟩
  .cases ht
 |tuple ds=>obtain⟨a,vs,rfl,h1,r⟩:=h.tup s;cases ht;exact .inr (.inl ⟨vs,SqT.of h1,gj r⟩)
 |list ds=>obtain⟨a,vs,rfl,h1,r⟩:=h.lst s;cases ht;exact .inl ⟨vs,SqL.of h1,gj r⟩
 |scr ns=>obtain⟨a,rfl,h1⟩:=h.scr s;cases ht;exact .inl ⟨_,h1,by cases ns<;>rfl⟩
 |_=>cases ht
def ie(h:Er X Y a d)(ht:fF d=some t)(he:∀whole,isTrue a X.env whole=(do let v ←whole;standAt a.pos;holding [v] (truthy v))):Et X Y a t:=
 λpins s σ H Q I ⟨G0,H0,G,E,k⟩=>uj h he pins s σ H Q I ⟨G0,H0,G,E,λv G1 H1 e1 r=>⟨t,Dl e1.gh r ht,k G1 H1 e1⟩⟩
variable {u:Bool}
def Dm(h:Et X Y a t):Et X Y (.UnaryOp .Not a pos) (!t):=λpins s σ H Q I h0=>BW h pins s σ H Q I (let ⟨G0,H0,G,E,k⟩:=h0;⟨G0,H0,G,E,k⟩)
def yR(h:Et X Y a t):Ew X Y (.BoolOp .And [a] pos) t:=ym h
def Do(h:Et X Y a t):Ew X Y (.BoolOp .Or [a] pos) t:=BV h
def yS(h:Et X Y a true)(q:Ew X Y (.BoolOp .And (b::r) pos) u):Ew X Y (.BoolOp .And (a::b::r) pos) u:=by
 intro whole pins s σ H Q I h0;obtain⟨G0,H0,G,E,k⟩:=h0;exact tZ h q whole pins s σ H Q I ⟨G0,H0,G,E,λG1 H1 e1=>iteT ⟨G0,H0,G1,E.step e1,λG2 H2 e2=>k G2 H2 (e1.trans e2)⟩⟩
def yT(h:Et X Y a false):Ew X Y (.BoolOp .And (a::b::r) pos) false:=by
 intro whole pins s σ H Q I h0;obtain⟨G0,H0,G,E,k⟩:=h0;exact tZ (tB':=λc c c=>False) h (λc c c c c c c z=>z.elim) whole pins s σ H Q I ⟨G0,H0,G,E,λG1 H1 e1=>kz (k G1 H1 e1)⟩
def Dq(h:Et X Y a false)(q:Ew X Y (.BoolOp .Or (b::r) pos) u):Ew X Y (.BoolOp .Or (a::b::r) pos) u:=by
 intro whole pins s σ H Q I h0;obtain⟨G0,H0,G,E,k⟩:=h0;exact AN h q whole pins s σ H Q I ⟨G0,H0,G,E,λG1 H1 e1=>kz ⟨G0,H0,G1,E.step e1,λG2 H2 e2=>k G2 H2 (e1.trans e2)⟩⟩
def Ds(h:Et X Y a true):Ew X Y (.BoolOp .Or (a::b::r) pos) true:=by
 intro whole pins s σ H Q I h0;obtain⟨G0,H0,G,E,k⟩:=h0;exact AN (tB':=λc c c=>False) h (λc c c c c c c z=>z.elim) whole pins s σ H Q I ⟨G0,H0,G,E,λG1 H1 e1=>iteT (k G1 H1 e1)⟩
def Dt{op}(h:Ev X Y a d):Ev X Y (.BoolOp op [a] pos) d:=BX h
def yU(h:Ev X Y a (.bool true))(q:Ev X Y (.BoolOp .And (b::r) pos) d):Ev X Y (.BoolOp .And (a::b::r) pos) d:=by
 intro pins s σ H Q I h0;obtain⟨G0,H0,G,E,k⟩:=h0;exact ua h q pins s σ H Q I ⟨G0,H0,G,E,λv G1 H1 e1 r1=>by
  cases r1;exact⟨true,rfl,iteT ⟨G0,H0,G1,E.step e1,λv G2 H2 e2 r2=>k v G2 H2 (e1.trans e2) r2⟩⟩⟩
def yV(h:Ev X Y a (.bool false)):Ev X Y (.BoolOp .And (a::b::r) pos) (.bool false):=by
 intro pins s σ H Q I h0;obtain⟨G0,H0,G,E,k⟩:=h0;exact ua (tb:=λc c c=>False) h (λc c c c c c z=>z.elim) pins s σ H Q I ⟨G0,H0,G,E,λv G1 H1 e1 r1=>by
  cases r1;exact⟨false,rfl,kz (k _ G1 H1 e1 (.bool _))⟩⟩
def Du(h:Ev X Y a (.bool false))(q:Ev X Y (.BoolOp .Or (b::r) pos) d):Ev X Y (.BoolOp .Or (a::b::r) pos) d:=by
 intro pins s σ H Q I h0;obtain⟨G0,H0,G,E,k⟩:=h0;exact AO h q pins s σ H Q I ⟨G0,H0,G,E,λv G1 H1 e1 r1=>by
  cases r1;exact⟨false,rfl,kz ⟨G0,H0,G1,E.step e1,λv G2 H2 e2 r2=>k v G2 H2 (e1.trans e2) r2⟩⟩⟩
def Dv(h:Ev X Y a (.bool true)):Ev X Y (.BoolOp .Or (a::b::r) pos) (.bool true):=by
 intro pins s σ H Q I h0;obtain⟨G0,H0,G,E,k⟩:=h0;exact AO (tb:=λc c c=>False) h (λc c c c c c z=>z.elim) pins s σ H Q I ⟨G0,H0,G,E,λv G1 H1 e1 r1=>by
  cases r1;exact⟨true,rfl,iteT (k _ G1 H1 e1 (.bool _))⟩⟩
def Dw(h:Ev X Y a (.bool t)):Ev X Y (.UnaryOp .Not a pos) (.bool (!t)):=λpins s σ H Q I ⟨G0,H0,G,E,k⟩=>
 BY h pins s σ H Q I ⟨G0,H0,G,E,λv G1 H1 e1 r1=>by
  cases r1;exact⟨t,rfl,k _ G1 H1 e1 (.bool _)⟩⟩
def Dx(h:Et X Y c true)(ha:Ev X Y a d):Ev X Y (.IfExp c a b pos) d:=by
 intro pins s σ H Q I h0;obtain⟨G0,H0,G,E,k⟩:=h0;exact lL (tb:=λe e e=>False) h ha (λe e e e e e z=>z.elim) pins s σ H Q I ⟨G0,H0,G,E,λG1 H1 e1=>iteT ⟨G0,H0,G1,E.step e1,λv G2 H2 e2 r=>k v G2 H2 (e1.trans e2) r⟩⟩
def Dy(h:Et X Y c false)(hb:Ev X Y b d):Ev X Y (.IfExp c a b pos) d:=by
 intro pins s σ H Q I h0;obtain⟨G0,H0,G,E,k⟩:=h0;exact lL (ta:=λe e e=>False) h (λe e e e e e z=>z.elim) hb pins s σ H Q I ⟨G0,H0,G,E,λG1 H1 e1=>kz ⟨G0,H0,G1,E.step e1,λv G2 H2 e2 r=>k v G2 H2 (e1.trans e2) r⟩⟩
end
end L2.Z
namespace PySem
def sg:typeLookup (.type "list") ("keys":Str)=pure none:=by kernel_rfl
def kK:typeLookup (.type "list") ("__getattr__":Str)=pure none:=by kernel_rfl
def onH:onTheHeap (.type "list")=false:=by kernel_rfl
def yW:[Str.ofString "__module__",Str.ofString "__name__",Str.ofString "__qualname__",Str.ofString "__doc__",Str.ofString "__annotations__"].contains ("keys":Str)=false:=by decide +kernel
def yX:Str.length ("keys":Str)+100<=sizeLine:=by decide +kernel
def jD:entryFor table "dict.update.loop"=some Builtin.«dict.update.loop»:=by kernel_rfl
def dH:plainId "dict.update.loop"=true:=by decide +kernel
section
variable {A:Around}{E:Value->Shared->Prop}
def sh{a:Addr}{Q:Option Value->Shared->Prop}{sl:Array (Option Value)}(hh:A.handled=none)(ho:s.heap.get? a=some {cls:=.type "list",data:=.seq xs n,slots:=sl})
  (h:∀h' tk,(∀b u,s.heap.get? b=some u->h'.get? b=some u)->Q none {s with heap:=h',toks:=tk}):
  wpAny (model prog w) A (getAttr? (.ref a) ("keys":Str)) Q E s:=by
 have hT:∀{s':Shared},s'.heap=s.heap->s'.TypeIs (.ref a) "list":=λe=>⟨_,by rw[e];exact ho,rfl⟩
 unfold getAttr? getAttrBy?;refine wb0 (m:=mkText _) (wb0 (wpAny_fresh' (wq0 ?_)));refine wb0 (wpAny_attempt ?_);unfold getAttrBy;refine wh0 ?_;refine wb0 (wpAny_typeOf (T:="list") (hT rfl) ?_);refine wb0 (wpAny_of_eq F.slot_list_getattribute.lookup ?_);dsimp only;rw[onH,Bool.false_and,if_neg fx0];unfold getAttrByItsOwn;refine wb0 (wpAny_of_eq (a:=none) (by unfold hookBefore;rw[onH];rfl) ?_);refine wb0 (wpAny_attempt (wh0 ?_));unfold callGetattribute boundAndCalled;rw[Bool.false_and,if_neg fx0];refine wb0 (wpAny_of_eq (F.slot_list_getattribute.bind _) ?_)
 dsimp only;have M:=meets_getattribute_miss_list a xs n sl ("keys":Str) s.toks sg yW yX;show wpAny _ _ (call (.builtin "list.__getattribute__") [.ref a,.str ("keys":Str) s.toks]) _ _ _;refine call_meets F.slot_list_getattribute (hT rfl) am_entry_list_getattribute (F.args_list_getattribute_2 _ _) M ?_;refine And.intro ho (And.intro hh ?_);intro h' tk e ne;obtain⟨t,u,he⟩:=ne.there;show wpAny _ _ (getattributeRaised _ _ _ _ _ _ _) _ _ _;unfold getattributeRaised;refine wb0 (wpAny_isInstance (T:="AttributeError") ⟨_,he,rfl⟩ sub_AttributeError ?_);rw[if_pos rfl];refine wb0 (wpAny_of_eq (a:=none) (by unfold hookBehind;rw[onH];exact kK) ?_)
 show wpAny _ _ (do let __r ←throw _;_) _ _ _;refine wb0 (wpAny_throw ?_);refine wb0 (wpAny_isInstance (T:="AttributeError") ⟨_,he,rfl⟩ sub_AttributeError ?_);rw[if_pos rfl];exact wq0 (h h' tk ne.keeps)
end
section
variable {A:Around}{E:Value->Shared->Prop}
def aX{a b}{o u}(ha:h.get? a=some o)(hb:h.get? b=some u)(hc:o.cls≠u.cls):a≠b:=λe=>by subst e;rw[ha]at hb;cases hb;exact hc rfl
abbrev oJ(h:Heap)(v key val:Value):Prop:=∃t o n,v=.ref t/\h.get? t=some o/\o.cls=.type "tuple"/\o.data=.seq #[key,val] n
def ig{K:Type}[DecidableEq K]{knd:KeyKind prog w K}{d:Addr}{kvs:List (K×Value)}(hd:Heap.DictOf knd h d kvs):∃o,h.get? d=some o/\o.cls=.type "dict":=by
 obtain⟨o,es,ep,ho,hx,_⟩:=hd;exact⟨o,ho,hx.1⟩
def fI{K:Type}[DecidableEq K]{knd:KeyKind prog w K}{d:Addr}{kvs:List (K×Value)}(hd:Heap.DictOf knd h d kvs)(k:∀o,h.get? d=some o->h'.get? d=some o):Heap.DictOf knd h' d kvs:=by
 obtain⟨o,es,ep,ho,r⟩:=hd;exact⟨o,es,ep,k o ho,r⟩
def oK{K:Type}[DecidableEq K](kvs:List (K×Value))(k:K)(v:Value):(stored kvs k v).length<=kvs.length+1:=by
 unfold stored;split<;>simp
def si{K:Type}[DecidableEq K]{knd:KeyKind prog w K}{d:Addr}{ps:List (K×Value)}{R:Result->Shared->Prop}(hh:A.handled=none)(hz:items.size=ps.length):
  ∀(m i:Nat)(kvs:List (K×Value))(s:Shared),i+m=ps.length->s.heap.IsListIter it l i->s.heap.IsList l items->(∀(j:Nat)(k:K)(v:Value),ps[j]?=some (k,v)->∃u key,items[j]?=some u/\oJ s.heap u key v/\knd.is k key=true)->
   Heap.DictOf knd s.heap d kvs->kvs.length+m<=sizeLine->
   (∀h' tk,Heap.DictOf knd h' d ((ps.drop i).foldl (λa p=>stored a p.1 p.2) kvs)->(∀b o,b≠it->b≠d->s.heap.get? b=some o->h'.get? b=some o)->R (.ok (.ret .none)) {s with heap:=h',toks:=tk})->
   codeAny (model prog w) A (.builtin "dict.update.loop" ⟨[.ref d,.ref it,rawInt i,.none],[]⟩) R s:=by
 intro m
 induction m with
 |zero=>
  intro i kvs s hm hi hl hp hd hb h;obtain⟨oi,ei,ci,_⟩:=id hi;obtain⟨od,ed,cd⟩:=ig hd;have nid:d≠it:=aX ed ei (by rw[cd,ci];decide);refine codeAny_builtin jD ?_;rw[ui0 dH];unfold Builtin.«dict.update.loop»;dsimp only;refine wb0 (wpAny_pyNext_list_end (show A.in1.handled=none from hh) hi hl (by rw[Array.getElem?_eq_none];omega) λh' eb=>?_);dsimp only;refine wb0 (m:=Builtin.Dict.addKeywords d []) (wb0 (wpAny_of_eq (a:=PUnit.unit) rfl (wq0 ?_)));refine wq0 (h h' s.toks ?_ λb o n1 n2 e=>eb b o n1 e);rw[List.drop_eq_nil_of_le (by omega)]
  exact fI hd λo e=>eb d o nid e
 |succ m ih=>
  intro i kvs s hm hi hl hp hd hb h;obtain⟨oi,ei,ci,_⟩:=id hi;obtain⟨od,ed,cd⟩:=ig hd;obtain⟨ol,el,cl,_⟩:=id hl;have nid:d≠it:=aX ed ei (by rw[cd,ci];decide);have nil':l≠it:=aX el ei (by rw[cl,ci];decide);have nld:l≠d:=aX el ed (by rw[cl,cd];decide);refine codeAny_builtin jD ?_;rw[ui0 dH];unfold Builtin.«dict.update.loop»;dsimp only;have hlt:i<ps.length:=by omega
  have hg:ps[i]?=some (ps[i].1,ps[i].2):=ge0 hlt;obtain⟨u,key,hu,⟨t,o,n,rfl,ht,htc,htd⟩,hk⟩:=hp i _ _ hg;have nti:t≠it:=aX ht ei (by rw[htc,ci];decide);refine wb0 (wpAny_pyNext_list_item hi hl hu λh1 hi' sb=>?_);have k1:∀{b:Addr},b≠it->∀o,s.heap.get? b=some o->h1.get? b=some o:=λhb o e=>(sb.2 _ hb).trans e
  have ht1:=k1 nti _ ht;dsimp only;refine wb0 (wh0 (wb0 (wpAny_tryCatch ?_)));unfold Builtin.Dict.pairItems;refine wb0 (wpAny_typeOf (T:="tuple") ⟨_,ht1,htc⟩ ?_);rw[if_pos (by rfl)];refine wb0 (wpAny_seqItems ht1 htd (wq0 ?_));show wpAny _ _ (holding [key,_] (dictSet d key _)) _ _ _;refine wh0 (wpAny_dictSet_pairs hk (fI hd (k1 nid)) (λh2 hd2 sb2=>?_) (by omega));have k2:∀{b:Addr},b≠d->∀o,h1.get? b=some o->h2.get? b=some o:=λhb o e=>(sb2.2 _ hb).trans e
  refine wq0 ⟨plainId_quiet dH _,?_⟩;have key2:=ih (i+1) (stored kvs ps[i].1 ps[i].2) {s with heap:=h2,toks:=s.toks+1} (by omega) (hi'.at (k2 nid.symm)) ((hl.at (k1 nil')).at (k2 nld)) (λj k v hj=>?_) hd2 ?_ λh' tk a1 a2=>?_
  .exact key2
  .obtain⟨u',key',hu',⟨t',o',n',rfl,ht',htc',htd'⟩,hk'⟩:=hp j k v hj
   exact⟨_,key',hu',⟨t',o',n',rfl,k2 (aX ht' ed (by rw[htc',cd];decide)) _ (k1 (aX ht' ei (by rw[htc',ci];decide)) _ ht'),htc',htd'⟩,hk'⟩
  .have:=oK kvs ps[i].1 ps[i].2
   omega
  .refine h h' tk ?_ λb o n1 n2 e=>a2 b o n1 n2 (k2 n2 _ (k1 n1 _ e))
   rw[List.drop_eq_getElem_cons hlt];exact a1
def uT{n:Addr}{Q:Addr×List Value->Shared->Prop}(hD:s.heap.get? n=some {cls:=.type "dict",data:=.dict #[]})(h:Q (n,[.ref l]) s):wpAny (model prog w) A (Builtin.Dict.selfAndRest "__init__" ⟨[.ref n,.ref l],[]⟩) Q E s:=by
 unfold Builtin.Dict.selfAndRest
 wp_walk
 exact h
def gE{K:Type}[DecidableEq K]{knd:KeyKind prog w K}{ps:List (K×Value)}{sl:Array (Option Value)}(hh:A.handled=none)(hz:items.size=ps.length)(hb:ps.length<=sizeLine)
  (hl:s.heap.get? l=some {cls:=.type "list",data:=.seq items n,slots:=sl}) (hp:∀(j:Nat)(k:K)(v:Value),ps[j]?=some (k,v)->∃u key,items[j]?=some u/\oJ s.heap u key v/\knd.is k key=true)
  (h:∀h' tk,Heap.DictOf knd h' s.heap.objs.size (ps.foldl (λa p=>stored a p.1 p.2) [])->(∀b o,s.heap.get? b=some o->h'.get? b=some o)->Q (.ref s.heap.objs.size) {s with heap:=h',toks:=tk}):
  wpAny (model prog w) A (call (.type "dict") [.ref l]) Q E s:=by
 refine callType_codes (Q₁:=λobj s₁=>obj=.ref s.heap.objs.size/\s₁={s with heap:=s.heap.push {cls:=.type "dict",data:=.dict #[]}}) F.kt_called_dict (F.kt_typeCall_dict_1 _) F.entry_dict_init (kt_code_dict_new _ ⟨rfl,rfl⟩) ?_
 rintro obj s₁ ⟨rfl,rfl⟩
 have hD:(s.heap.push {cls:=.type "dict",data:=.dict #[]}).get? s.heap.objs.size=some {cls:=.type "dict",data:=.dict #[]}:=pz0 _ rfl;refine⟨⟨_,hD,rfl⟩,F.args_dict_init_2 _ _,?_⟩;have hl1:(s.heap.push {cls:=.type "dict",data:=.dict #[]}).get? l=some {cls:=.type "list",data:=.seq items n,slots:=sl}:=ps0 _ hl;unfold Builtin.«dict.__init__»;refine wb0 (uT hD ?_);show wpAny _ _ (Builtin.Dict.updateFrom "dict.__init__" s.heap.objs.size (.ref l) [] .none) _ _ _;unfold Builtin.Dict.updateFrom;refine wb0 (wpAny_typeOf (T:="list") ⟨_,hl1,rfl⟩ ?_);rw[if_pos (by rfl)];refine wb0 (sh (show A.in1.in1.handled=none from hh) hl1 λh1 tk k1=>?_)
 rw[if_pos (show (none:Option Value).isNone=true from rfl)];refine wb0 (wpAny_rule ?_);have hL:h1.IsList l items:=⟨_,k1 _ _ hl1,rfl,n,rfl⟩;refine wb0 (wpAny_pyIter_list hL ?_);refine wq0 ⟨plainId_quiet dH _,?_⟩;have kk:∀b o,s.heap.get? b=some o->(h1.push {cls:=.type "list_iterator",data:=.fields #[.ref l,.int 0 0]}).get? b=some o:=λb o e=>ps0 _ (k1 _ _ (ps0 _ e))
 refine si (knd:=knd) (l:=l) (items:=items) (ps:=ps) (show A.in1.handled=none from hh) hz ps.length 0 [] _ (by omega) ⟨_,pz0 _ rfl,rfl,rfl⟩ (hL.push _) (λj k v hj=>?_) (fI (Heap.DictOf.new s.heap) λo e=>ps0 _ (k1 _ _ e)) (by simpa using hb) λh' tk' a1 a2=>?_
 .obtain⟨u,key,hu,⟨t,o,m,rfl,ht,htc,htd⟩,hk⟩:=hp j k v hj
  exact⟨_,key,hu,⟨t,o,m,rfl,kk _ _ ht,htc,htd⟩,hk⟩
 .refine⟨rfl,h h' tk' a1 λb o e=>a2 b o (λz=>?_) (λz=>?_) (kk b o e)⟩
  .have:=hs0 (k1 _ _ (ps0 (h:=s.heap) {cls:=.type "dict",data:=.dict #[]} e))
   rw[z]at this;exact absurd this (li0 _)
  .have:=hs0 e
   rw[z]at this;exact absurd this (li0 _)
end
end PySem
namespace L2.Z
open PySem PySem.Spec PyProof.Rows L2 L2.C SI
inductive PrV (H:Hp):List V->List (Key×V)->Prop
 |nil:PrV H [] []
 |cons {t:Addr}{k:Key}{v:V}{ws:List V}{ps:List (Key×V)}:H t=some (.tup [kV k,v])->PrV H ws ps->PrV H (.ref t::ws) ((k,v)::ps)
theorem PrV.length{ws:List V}{ps:List (Key×V)}(h:PrV H ws ps):ws.length=ps.length:=by
 induction h with
 |nil=>rfl
 |cons _ _ ih=>rw[lc0,lc0,ih]
def sj{ws:List V}{ps:List (Key×V)}(h:PrV H ws ps):∀{us:List Value},Vals ws us->HOk X.prog X.w H s.heap->∃qs:List (Key×Value),KV ps qs/\us.length=qs.length/\
  ∀(j:Nat)(k:Key)(v:Value),qs[j]?=some (k,v)->∃u key,us[j]?=some u/\oJ s.heap u key v/\(mixKind X.prog X.w).is k key=true:=by
 induction h with
 |nil=>intro us r _;cases r;exact⟨[],.nil,rfl,λj k v e=>by simp at e⟩
 |@cons t k v ws ps ht _ ih=>
  intro us r ok;cases r with
  |@cons _ u' _ us' r rr=>
   cases r;obtain⟨qs,q1,q2,q3⟩:=ih rr ok;obtain⟨_,its,rv,o,e,c,n,d⟩:=(show ObjOk X.prog X.w H s.heap t (.tup [kV k,v])from ok t _ ht);cases rv with
   |@cons _ x1 _ _ r1 rr1=>cases rr1 with
    |@cons _ x2 _ _ r2 rr2=>
     cases rr2;refine⟨(k,x2)::qs,.cons ⟨rfl,r2⟩ q1,by rw[lc0,lc0,q2],λj k' v' hj=>?_⟩;cases j with
     |zero=>
      cases hj;exact⟨_,x1,rfl,⟨t,o,n,rfl,e,c,d⟩,jv r1⟩
     |succ j=>exact q3 j k' v' hj
def ij(hcalm:X.calm=true):aW X (.type "dict") (λvs H Q=>∃a ws ps,vs=[.ref a]/\H a=some (.lst ws)/\PrV H ws ps/\∀p,H p=none->Q (.ref p) (upd H p (.dK (bG [] ps)))):=by
 intro pins s σ H vs us Q I r h;obtain⟨a,ws,ps,rfl,ha,hp,q⟩:=h;cases r with
 |cons r rr=>
  cases rr;cases r;obtain⟨hz,its,n,rv,hl,hg⟩:=I.lstM ha;obtain⟨qs,k1,k2,k3⟩:=sj hp rv I.hok;refine gE (knd:=mixKind X.prog X.w) (ps:=qs) (I.ok.hd hcalm) (by simpa using k2) (by rw[<-k2,<-hl];exact hz) hg (λj k v hj=>?_) λh' tk dd kk=>?_
  .obtain⟨u,key,a1,a2⟩:=k3 j k v hj
   exact⟨u,key,by simpa using a1,a2⟩
  .refine⟨.ref s.heap.objs.size,_,I.laid (a:=s.heap.objs.size) (o:=.dK (bG [] ps)) (t':=tk) kk (nr0 _) (oA ?_ (bn0 (Ne.symm (nn0 I.big))) (KV.merge k1 .nil) dd),rfl,q _ I.fresh⟩
   have:=bR ps [];rw[<-hp.length]at this;simp only[List.length_nil,Nat.zero_add]at this;exact nt0 this hz
section
variable {G:Hp}
set_option tactic.hygienic true in
def oM{kvs:List (Key×V)}{k:Key}{v:V}(h:(kvs.map (·.1)).Nodup):((putK kvs k v).map (·.1)).Nodup:=by
 unfold putK;split
 .have e:(kvs.map λkv=>if kv.1=k then (kv.1,v)else kv).map (·.1)=kvs.map (·.1):=by
   rw[List.map_map]
   apply List.map_congr_left
   intro kv _;show (if kv.1=k then (kv.1,v)else kv).1=kv.1;split<;>rfl
  rw[e];exact h
 .rename_i c
  rw[List.map_append,mk0,List.map_nil,List.nodup_append];refine⟨h,by simp,λx hx y hy=>?_⟩;rw[List.mem_singleton]at hy;subst hy;intro e;subst e;obtain⟨kv,hkv,rfl⟩:=mm0 hx;exact c (List.any_eq_true.mpr ⟨kv,hkv,by simp⟩)
theorem Dks.put{d}{v}{key:Key}(hv:Dp K G d v):∀{kvs:List (Key×D)}{vs:List (Key×V)},Dks K G kvs vs->(vs.map (·.1)).Nodup->Dks K G (SI.put kvs key d) (putK vs key v)
 |_,_,.nil,_=>.cons hv .nil
 |_,_,.cons (k:=l) (v:=w) (ds:=ks) (vs:=ws) h r,nd=>by
  have nd':=nd;obtain⟨n1,n2⟩:=List.nodup_cons.mp nd';show Dks K G (if l=key then _ else _) _
  by_cases c:l=key
  .subst c
   rw[if_pos rfl];have e:putK ((l,w)::ws) l v=(l,v)::ws:=by
    unfold putK;rw[if_pos (by simp),mk0,if_pos rfl]
    congr 1
    conv=>rhs;rw[<-List.map_id ws]
    apply List.map_congr_left
    intro kv hkv;rw[if_neg]
    .rfl
    .intro z
     exact n1 (z▸List.mem_map.mpr ⟨kv,hkv,rfl⟩)
   rw[e];exact .cons hv r
  .rw[if_neg c]
   have e:putK ((l,w)::ws) key v=(l,w)::putK ws key v:=by
    unfold putK;rw[List.any_cons,df0 c,Bool.false_or];split
    .rw[mk0,if_neg c]
    .rfl
   rw[e];exact .cons h (Dks.put hv r n2)
theorem Dks.merge:∀{ps:List (Key×D)}{qs:List (Key×V)},Dks K G ps qs->∀{kvs:List (Key×D)}{vs:List (Key×V)},Dks K G kvs vs->(vs.map (·.1)).Nodup->Dks K G (putAll kvs ps) (bG vs qs)
 |_,_,.nil,_,_,r,_=>r
 |_,_,.cons (k:=l) h q,_,_,r,nd=>Dks.merge q (Dks.put h r nd) (oM nd)
def gm(s:Same G H):∀{ds:List D}{vs:List V}{ps:List (Key×D)},Dps K G ds vs->pairsOf ds=some ps->∃qs,PrV H vs qs/\Dks K G ps qs:=by
 intro ds
 induction ds with
 |nil=>intro vs ps r h;cases r;cases h;exact⟨[],.nil,.nil⟩
 |cons d r ih=>
  intro vs ps hr h;cases hr with
  |cons h1 h2=>
   match d,h,h1 with
   |.tuple [.int i,d'],h,h1=>
    obtain⟨qs,e,rfl⟩:=mx0 (show (pairsOf r).map _=some ps from h);obtain⟨us,p1,p2⟩:=ih h2 e;cases h1 with
    |tuple ht hd=>cases hd with
     |cons x1 hd=>cases hd with
      |cons x2 hd=>
       cases hd;cases x1;exact⟨_,.cons (k:=.inl i) (s _ _ ht) p1,.cons x2 p2⟩
   |.tuple [.str x,d'],h,h1=>
    obtain⟨qs,e,rfl⟩:=mx0 (show (pairsOf r).map _=some ps from h);obtain⟨us,p1,p2⟩:=ih h2 e;cases h1 with
    |tuple ht hd=>cases hd with
     |cons x1 hd=>cases hd with
      |cons x2 hd=>
       cases hd;cases x1;exact⟨_,.cons (k:=.inr x) (s _ _ ht) p1,.cons x2 p2⟩
end
section
variable {e:Expr}{te:TE}{lo hi:Option Expr}{tl th:TO}
def sk(he:PE X e te)(hl:PO X lo tl)(hu:PO X hi th):PE X (.Subscript e (.Slice lo hi none p2) pos) (λσ H Q=>te σ H λx H1=>tl σ H1 λl H2=>th σ H2 λu H3=>∃t,x=.str t/\t.length<=sizeLine/\Q (.str (Txt.slice t l u)) H3):=by
 intro pins s σ H Q I h;refine Subscript_ (thn (he pins s σ H _ I h) λv s1 ⟨x,H1,I1,r1,q1⟩=>?_);refine wpAny_Slice (thn (hl pins s1 σ H1 _ I1 q1) λvl s2 ⟨l,H2,I2,pl,q2⟩=>thn (hu pins s2 σ H2 _ I2 q2) λvu s3 ⟨u,H3,I3,pu,q3⟩=>?_);rw[evalPart_none];refine wq0 ?_;obtain⟨t,rfl,hz,q⟩:=q3;obtain⟨tk,rfl⟩:=r1;have kp:KeptH (λh=>∀b o,s3.heap.get? b=some o->h.get? b=some o):=λh ob p b o e=>ps0 _ (p b o e)
 have k0:∀b o,s3.heap.get? b=some o->s3.heap.get? b=some o:=λb o e=>e
 have fin:∀(h':Heap)(t':Tok)(k:Nat),(∀b o,s3.heap.get? b=some o->h'.get? b=some o)->EP X pins σ Q (.str (Txt.slice t l u) t') {s3 with heap:=h',toks:=k}:=λh' t' k p=>⟨.str _,H3,I3.kept p,⟨t',rfl⟩,q⟩
 have hr:ItemOn (model X.prog X.w) X.A X.xe (.str t tk) (.ref s3.heap.objs.size) (EP X pins σ Q) {s3 with heap:=s3.heap.push {cls:=.type "slice",data:=.fields #[vl,vu,.none]}}:=by
  cases pl with
  |none=>cases pu with
   |none=>exact SBH.sliceItem_nn kp k0 fin hz
   |int j tj=>exact SBH.sliceItem_ns kp k0 fin hz
  |int i ti=>cases pu with
   |none=>exact SBH.sliceItem_sn kp k0 fin hz
   |int j tj=>exact SBH.sliceItem_ss kp k0 fin hz
 obtain⟨T,id,hT,ht,hg⟩:=hr;show wpAny (model X.prog X.w) X.A (subscriptTail e (.Slice lo hi none p2) (.str t tk) (.ref s3.heap.objs.size)) (EP X pins σ Q) X.xe {s3 with heap:=s3.heap.push {cls:=.type "slice",data:=.fields #[vl,vu,.none]}};exact tail_any (ops:=[.ref s3.heap.objs.size,.str t tk]) ht hT hg (by with_unfolding_all rfl)
def mr{l u:Option Int}(h:PyData.strOk x=true):PyData.strOk (Txt.slice x l u)=true:=by
 unfold Txt.slice;split
 .exact h
 .rw[strOk_iff]at h ⊢
  intro c hc;have hc:c∈List.filterMap (λx_1=>x.cps[x_1]?) (Builtin.Str.strSliceIndices l u 1 x.length):=by simpa using hc
  obtain⟨i,_,hi⟩:=List.mem_filterMap.mp hc;refine h c ?_;rw[<-Array.getElem?_toList]at hi;exact mg0 hi
def sq{l h:Option Int}(ha:Er X Y a (.str x))(hl:PO X lo (tPt X.K Y l))(hh:PO X hi (tPt X.K Y h))(hz:x.length<=big):Ev X Y (.Subscript a (.Slice lo hi .none p2) pos) (.str (Txt.slice x l h)):=
 λpins s σ H Q I ⟨G0,H0,G,E,k⟩=>sk ha hl hh pins s σ H Q I ⟨G0,H0,G,E,λv G1 H1 e1 r1=>⟨G0,H0,G1,E.step e1,λG2 H2 e2=>⟨G0,H0,G2,(E.step e1).step e2,λG3 H3 e3=>by
  obtain⟨rfl,ok⟩:=r1.str;exact⟨x,rfl,by rw[big_eq]at hz;exact hz,k _ G3 H3 (e1.trans (e2.trans e3)) (.str _ (mr ok))⟩⟩⟩⟩
end
def uU{bs:List Bool}(r:Vals vs us)(e:vs=bs.map V.bl):LSm.BoolsAre us bs:=by
 induction r generalizing bs with
 |nil=>
  cases bs with
  |nil=>exact .nil
  |cons b q=>cases e
 |cons r1 _ ih=>
  cases bs with
  |nil=>cases e
  |cons b q=>
   rw[mk0]at e;injection e with e1 e2
   subst e1;cases r1;exact .cons b (ih e2)
def uV(hc:X.calm=true):aW X (.builtin "all") (λxs H Q=>∃(p:Addr)(bs:List Bool),xs=[.ref p]/\SqL X.K H p (bs.map V.bl)/\Q (.bl (bs.all id)) H):=by
 intro pins s σ H xs us Q I r h;obtain⟨p,bs,rfl,hq,q⟩:=h;obtain⟨u,rfl,rx⟩:=vals1 r;cases rx;obtain⟨its,r',pl,hz⟩:=I.list hq;have hl:=pl.isList;have hb:=uU r' rfl;have hlt:p<s.heap.objs.size:=by obtain⟨_,e,_⟩:=hl;exact hs0 e
 refine call_all_walk (wpAny_pyIter_list hl ?_);refine⟨s.heap.objs.size,[s.heap.objs.size,p],[s.heap.objs.size],its.toArray.size,_,_,λi=>(bs[i]?).getD true,rfl,Walks.list (A:=X.A.in1) (I.ok.hd hc) _ p (nn0 hlt) its.toArray,
  ⟨⟨_,pz0 _ rfl,rfl,rfl⟩,hl.push _⟩,λi v s' Q' E' hP hQ=>?_,λh' tk hk=>?_⟩
 .obtain⟨b,e,rfl⟩:=hb.get i v (by simpa using hP)
  simp only[e,Option.getD_some]at hQ;exact wpAny_truthy_bool hQ
 .have e:((List.range its.toArray.size).all λi=>(bs[i]?).getD true)=bs.all id:=by
   rw[ls0,hb.length];exact LSm.range_all bs
  rw[e];exact⟨.bl _,H,I.kept (LSm.kept_iter hk),rfl,q⟩
def eB:aW X (.type "tuple") (λxs H Q=>∃p ys,xs=[.ref p]/\SqL X.K H p ys/\ys.length<=sizeLine/\∀l,H l=.none->Q (.ref l) (upd H l (.tup ys))):=by
 intro pins s σ H xs us Q I r h;obtain⟨p,ys,rfl,hq,hz,q⟩:=h;obtain⟨u,rfl,rx⟩:=vals1 r;cases rx;obtain⟨its,r',pl,_⟩:=I.list hq;refine PySem.call_tuple_list pl.isList (λh' kp=>?_) (by rw[ls0,<-r'.length];exact hz);have I1:=I.kept (t':=s.toks) kp;exact⟨.ref h'.objs.size,_,I1.laid (t':=s.toks) (λb o e=>ps0 _ e) (nr0 _) (show ObjOk X.prog X.w _ _ _ (.tup ys)from⟨hz,its,r',IsTup.new _ _⟩),rfl,q _ (I1.hok.fresh (nr0 _))⟩
def mv{G:Hp}:∀{ds:List D}{vs:List V}{bs:List Bool},boolsOf ds=some bs->Dps K G ds vs->vs=bs.map V.bl:=by
 intro ds
 induction ds with
 |nil=>intro vs bs h q;cases q;cases h;rfl
 |cons d r ih=>
  intro vs bs h q;cases d with
  |bool b=>
   obtain⟨bs,e,rfl⟩:=mx0 (show (boolsOf r).map (b::·)=some _ from h);cases q with
   |cons d q=>cases d;rw[ih e q];rfl
  |_=>cases h
section
variable {e:Expr}{p:Pos}
def aG(es:List Expr):Prop:=∀e∈es,isStar e=false
theorem aD :∀{es:List Expr},aG es->(backTo pos (starEach es env)).any (·.1)=false
 |[],_=>rfl
 |e::r,h=>by
  rw[af (h e ms0)];show (false||(backTo pos (starEach r env)).any (·.1))=false;rw[aD λx hx=>h x (mc0 _ hx)];rfl
theorem jE :∀{es:List Expr},aG es->(backTo pos (starEach es env)).all (λx=>!x.1)=true
 |[],_=>rfl
 |e::r,h=>by
  rw[af (h e ms0)];show (true&&(backTo pos (starEach r env)).all (λx=>!x.1))=true;rw[jE λx hx=>h x (mc0 _ hx)];rfl
noncomputable abbrev fl3:List Bool:=[true,true,true]
abbrev CRr(K:Fg)(r:List V->Hp->VK->Prop)(fl:List Bool)(ds:List D)(d:D):Prop:=∀(vs:List V)(G H:Hp)(Q:VK),Same G H->Das K G H fl ds vs->(∀v G' H',Ext G H G' H'->Dp K G' d v->Q v H')->r vs H Q
abbrev CRn(K:Fg)(r:List V->Hp->VK->Prop)(fl:List Bool)(ds:List D)(d:D):Prop:=∀(vs:List V)(G H:Hp)(Q:VK),Same G H->Das K G H fl ds vs->(∀p G' H',Ext G H G' H'->G' p=.none->H p=.none->OwnAt K G' H' d p->Q (.ref p) H')->r vs H Q
structure Blt(X:Cx)(x:Str):Prop where
 g:Gl X x
 m:X.mg x=Option.none
 n:x≠"__name__"
 d:(x==("__debug__":Str))=false
def dq{id:String}{r:List V->Hp->VK->Prop}(B:Blt X x)(hc:aW X (.builtin id) r)(hv:bootBuiltins x=some (.builtin id))(ha:Ea X Y fl (e::es) ds)(hs:aG (e::es))(h:CRr X.K r fl ds d):Ev X Y (.Call (.Name x p) (e::es) [] pos) d:=
 λpins s σ H Q I ⟨G0,H0,G,E,k⟩=>di hc B.g B.m hv ha B.n B.d (af (hs e ms0)) (aD λy hy=>hs y (mc0 _ hy)) pins s σ H Q I
  ⟨G0,H0,G,E,λvs G1 H1 e1 r1=>h vs G1 H1 Q e1.gh r1 λv G' H' e2 r2=>k v G' H' (e1.trans e2) r2⟩
def ik{r:List V->Hp->VK->Prop}(B:Blt X x)(hc:aW X (.type T) r)(hv:bootBuiltins x=some (.type T))(ha:Ea X Y fl (e::es) ds)(hs:aG (e::es))(h:CRr X.K r fl ds d):Ev X Y (.Call (.Name x p) (e::es) [] pos) d:=
 λpins s σ H Q I ⟨G0,H0,G,E,k⟩=>dE hc B.g B.m hv ha B.n B.d (af (hs e ms0)) (aD λy hy=>hs y (mc0 _ hy)) pins s σ H Q I
  ⟨G0,H0,G,E,λvs G1 H1 e1 r1=>h vs G1 H1 Q e1.gh r1 λv G' H' e2 r2=>k v G' H' (e1.trans e2) r2⟩
def eX{T}{r}(B:Blt X x)(hc:aW X (.type T) r)(hv:bootBuiltins x=some (.type T))(ha:Ea X Y fl (e::es) ds)(hs:aG (e::es))(h:CRn X.K r fl ds d):En X Y (.Call (.Name x p) (e::es) [] pos) d:=
 λpins s σ H Q I ⟨G0,H0,G,E,k⟩=>dE hc B.g B.m hv ha B.n B.d (af (hs e ms0)) (aD λy hy=>hs y (mc0 _ hy)) pins s σ H Q I
  ⟨G0,H0,G,E,λvs G1 H1 e1 r1=>h vs G1 H1 Q e1.gh r1 λp G' H' e2 g2 h2 r2=>k p G' H' (e1.trans e2) g2 (e1.hh.free h2) r2⟩
def Das.one{K}{G H}{vs}(h:Das K G H fl [d] vs):∃v,vs=[v]/\Dr K G H d v:=by
 cases h with|cons _ h r=>cases r;exact⟨_,rfl,h⟩
def Das.two{K}{G H}{vs}(h:Das K G H fl [d1,d2] vs):∃v w,vs=[v,w]/\Dr K G H d1 v/\Dr K G H d2 w:=by
 cases h with|cons _ h r=>cases r with|cons _ h2 r=>cases r;exact⟨_,_,rfl,h,h2⟩
def eH:bootBuiltins ("dict":Str)=some (.type "dict"):=by decide +kernel
def su:bootBuiltins ("all":Str)=some (.builtin "all"):=by decide +kernel
def mw:bootBuiltins ("tuple":Str)=some (.type "tuple"):=by decide +kernel
set_option tactic.hygienic true in
def uW{f:Bf}(hcalm:X.calm=true)(B:Blt X x)(hf:jz x=some f)(h:biD f ds=some d)(ha:Ea X Y fl3 (e::es) ds)(hs:aG (e::es)):
  Ev X Y (.Call (.Name x p) (e::es) [] pos) d/\(frB f=true->bL d=true->En X Y (.Call (.Name x p) (e::es) [] pos) d):=by
 have old:frB f=false->Ev X Y (.Call (.Name x p) (e::es) [] pos) d->Ev X Y (.Call (.Name x p) (e::es) [] pos) d/\(frB f=true->bL d=true->En X Y (.Call (.Name x p) (e::es) [] pos) d):=
  λz q=>⟨q,λc=>by rw[z]at c;cases c⟩
 have new:En X Y (.Call (.Name x p) (e::es) [] pos) d->Ev X Y (.Call (.Name x p) (e::es) [] pos) d/\(frB f=true->bL d=true->En X Y (.Call (.Name x p) (e::es) [] pos) d):=λq=>⟨q.ev,λa a=>q⟩
 unfold jz at hf;split at hf
 .rename_i c
  subst c;cases hf;refine old rfl ?_
  match ds,h with
  |[.list ls],h=>
   cases h;refine dq B eP PySem.boot_len ha hs λvs G H Q s r k=>?_
   obtain⟨v,rfl,hv⟩:=r.one;obtain⟨q,ws,rfl,h1,r1⟩:=hv.lst s;exact⟨_,ws.length,rfl,.inl ⟨ws,SqL.of h1,rfl⟩,by rw[<-r1.length];exact k _ G H (.refl s) (.int _)⟩
  |[.tuple ls],h=>
   cases h;refine dq B eP PySem.boot_len ha hs λvs G H Q s r k=>?_
   obtain⟨v,rfl,hv⟩:=r.one;obtain⟨q,ws,rfl,h1,r1⟩:=hv.tup s;exact⟨_,ws.length,rfl,.inr ⟨ws,SqT.of h1,rfl⟩,by rw[<-r1.length];exact k _ G H (.refl s) (.int _)⟩
  |[.scr ns],h=>
   cases h;refine dq B eP PySem.boot_len ha hs λvs G H Q s r k=>?_
   obtain⟨v,rfl,hv⟩:=r.one;obtain⟨q,rfl,h1⟩:=hv.scr s;exact⟨_,(ns.map V.int).length,rfl,.inl ⟨_,h1,rfl⟩,by rw[lm0];exact k _ G H (.refl s) (.int _)⟩
  |[.str y],h=>
   rw[SI.len_str]at h;split at h
   .rename_i c
    cases h;rw[big_eq]at c;refine dq B eP PySem.boot_len ha hs λvs G H Q s r k=>?_
    obtain⟨v,rfl,hv⟩:=r.one;exact⟨_,y.length,rfl,by rw[hv.str.1];exact⟨c,rfl⟩,k _ G H (.refl s) (.int _)⟩
   .cases h
 split at hf
 .rename_i c
  subst c;cases hf;refine old rfl ?_
  match ds,h with
  |[.int i],h=>
   cases h;refine ik B jj PyProof.Rows.boot_int ha hs λvs G H Q s r k=>?_
   obtain⟨v,rfl,hv⟩:=r.one;exact .inl ⟨i,by rw[hv.int],k _ G H (.refl s) (.int _)⟩
  |[.bool t],h=>
   cases h;refine ik B jj PyProof.Rows.boot_int ha hs λvs G H Q s r k=>?_
   obtain⟨v,rfl,hv⟩:=r.one;exact .inr ⟨t,by rw[hv.bool],k _ G H (.refl s) (.int _)⟩
 split at hf
 .rename_i c
  subst c;cases hf;refine new ?_
  match ds,h with
  |[.list ls],h=>
   cases h;refine eX B eR PyProof.Rows.boot_list ha hs λvs G H Q s r k=>?_
   obtain⟨v,rfl,hv⟩:=r.one;obtain⟨q,ws,rfl,h1,r1⟩:=hv.lst s;exact⟨q,ws,rfl,.inl (SqL.of h1),λl hl=>k l G _ (.hid s hl) (s.free hl) hl (.inl ⟨_,_,rfl,ae,r1⟩)⟩
  |[.tuple ls],h=>
   cases h;refine eX B eR PyProof.Rows.boot_list ha hs λvs G H Q s r k=>?_
   obtain⟨v,rfl,hv⟩:=r.one;obtain⟨q,ws,rfl,h1,r1⟩:=hv.tup s;exact⟨q,ws,rfl,.inr (SqT.of h1),λl hl=>k l G _ (.hid s hl) (s.free hl) hl (.inl ⟨_,_,rfl,ae,r1⟩)⟩
 split at hf
 .rename_i c
  subst c;cases hf;refine old rfl ?_
  match ds,h with
  |[.list ls],h=>
   rw[tuple_list]at h;split at h
   .rename_i c
    cases h;rw[big_eq]at c;refine ik B eB mw ha hs λvs G H Q s r k=>?_
    obtain⟨v,rfl,hv⟩:=r.one;obtain⟨q,ws,rfl,h1,r1⟩:=hv.lst s;exact⟨q,ws,rfl,SqL.of h1,by rw[<-r1.length];exact c,λl hl=>k _ _ _ (.laid s hl) (.tuple ae (r1.mono (av (s.free hl))))⟩
   .cases h
 split at hf
 .rename_i c
  subst c;cases hf;refine old rfl ?_
  match ds,h with
  |[.list ls],h=>
   obtain⟨bs,e1,rfl⟩:=mx0 (show (boolsOf ls).map _=some d from h);refine dq B (uV hcalm) su ha hs λvs G H Q s r k=>?_
   obtain⟨v,rfl,hv⟩:=r.one;obtain⟨q,ws,rfl,h1,r1⟩:=hv.lst s;exact⟨q,bs,rfl,by rw[<-mv e1 r1];exact SqL.of h1,k _ G H (.refl s) (.bool _)⟩
 .cases hf
end
section
variable {e:Expr}{p:Pos}
def GS{G:Hp}{v:V}(s:Same G H)(h:Dr K G H d v)(hd:∃b,kC "int" d=some b):∃T,eQ K H v (.type T)/\(d=.none/\T="NoneType"\/(∃b,d=.bool b)/\T="bool"\/(∃i,d=.int i)/\T="int"\/(∃x,d=.str x)/\T="str"\/(∃l,d=.tuple l)/\T="tuple"\/(∃l,d=.list l)/\T="list"):=by
 cases d with
 |none=>rw[h.none];exact⟨_,.non,.inl ⟨rfl,rfl⟩⟩
 |bool b=>rw[h.bool];exact⟨_,.bl b,.inr (.inl ⟨⟨b,rfl⟩,rfl⟩)⟩
 |int i=>rw[h.int];exact⟨_,.int i,.inr (.inr (.inl ⟨⟨i,rfl⟩,rfl⟩))⟩
 |str x=>rw[h.str.1];exact⟨_,.str x,.inr (.inr (.inr (.inl ⟨⟨x,rfl⟩,rfl⟩)))⟩
 |tuple l=>obtain⟨a,vs,rfl,h1,_⟩:=h.tup s;exact⟨_,.tup h1,.inr (.inr (.inr (.inr (.inl ⟨⟨l,rfl⟩,rfl⟩))))⟩
 |list l=>obtain⟨a,vs,rfl,h1,_⟩:=h.lst s;exact⟨_,.lst h1,.inr (.inr (.inr (.inr (.inr ⟨⟨l,rfl⟩,rfl⟩))))⟩
 |_=>obtain⟨_,z⟩:=hd;cases z
def uX :aW X (.builtin "isinstance") (λvs H Q=>∃v t r,vs=[v,.ty T]/\eQ X.K H v t/\PySem.W.kitOne X.K t (.type T)=some r/\Q (.bl r) H):=by
 intro pins s σ H xs us Q I r h;obtain⟨v,t,b,rfl,ty,hk,q⟩:=h;obtain⟨u,w',rfl,r1,r2⟩:=vals2 r;cases r2;exact rQ I r1 ty hk λtk=>⟨.bl b,H,I.tok tk,rfl,q⟩
def yY :∀T,T="NoneType"\/T="bool"\/T="int"\/T="str"\/T="tuple"\/T="list"\/T="dict"->∀U,U="int"\/U="str"\/U="list"\/U="tuple"\/U="bool"->
  PySem.W.kitOne K (.type T) (.type U)=some ((T==U)||(T=="bool"&&U=="int")):=by
 rintro T (rfl|rfl|rfl|rfl|rfl|rfl|rfl) U (rfl|rfl|rfl|rfl|rfl)<;>rfl
def uY:bootBuiltins ("isinstance":Str)=some (.builtin "isinstance"):=by decide +kernel
set_option tactic.hygienic true in
def sv{x}{T}(h:oH x=some T):bootBuiltins x=some (.type T)/\(T="int"\/T="str"\/T="list"\/T="tuple"\/T="bool"):=by
 unfold oH at h;split at h
 .rename_i c;subst c;cases h;exact⟨PyProof.Rows.boot_int,.inl rfl⟩
 split at h
 .rename_i c;subst c;cases h;exact⟨PyProof.Rows.boot_str,.inr (.inl rfl)⟩
 split at h
 .rename_i c;subst c;cases h;exact⟨PyProof.Rows.boot_list,.inr (.inr (.inl rfl))⟩
 split at h
 .rename_i c;subst c;cases h;exact⟨PyProof.Rows.boot_tuple,.inr (.inr (.inr (.inl rfl)))⟩
 split at h
 .rename_i c;subst c;cases h;exact⟨PyProof.Rows.boot_bool,.inr (.inr (.inr (.inr rfl)))⟩
 .cases h
def sy(B:Blt X "isinstance")(Bx:Blt X x)(hT:oH x=some T)(ha:Er X Y a d)(hs:isStar a=false)(h:kC T d=some t):Ev X Y (.Call (.Name "isinstance" p) [a,.Name x px] [] pos) (.bool t):=by
 obtain⟨hb,hU⟩:=sv hT;have pn:PE X (.Name x px) (tC (.ty T)):=yk Bx.g Bx.m hb rfl Bx.n Bx.d;intro pins s σ H Q I h0;obtain⟨G0,H0,G,E,k⟩:=h0;refine di (uX (T:=T)) B.g B.m uY (ay ha (ay pn aT rfl) (af hs)) (by decide) (by decide) (af hs) rfl pins s σ H Q I ⟨G0,H0,G,E,λv G1 H1 e1 r1=>?_⟩;obtain⟨U,ty,alt⟩:=GS e1.gh r1 (by cases d<;>first|exact⟨_,rfl⟩|cases h);refine⟨v,.type U,t,rfl,ty,?_,k _ G1 H1 e1 (.bool _)⟩;rcases alt with⟨rfl,rfl⟩|⟨⟨b,rfl⟩,rfl⟩|⟨⟨b,rfl⟩,rfl⟩|⟨⟨b,rfl⟩,rfl⟩|⟨⟨b,rfl⟩,rfl⟩|⟨⟨b,rfl⟩,rfl⟩<;>(cases h;rw[yY _ (by simp) _ hU];rcases hU with rfl|rfl|rfl|rfl|rfl<;>rfl)
theorem iq{G:Hp}:∀{ds:List D}{ys:List Str}{vs:List V},strsOf ds=some ys->Dps K G ds vs->vs=ys.map V.str/\∀y∈ys,PyData.strOk y=true
 |[],ys,vs,e,h=>by cases e;cases h;exact⟨rfl,λa z=>by cases z⟩
 |.str x::r,ys,vs,e,h=>by
  obtain⟨q,e1,rfl⟩:=mx0 (show (strsOf r).map (x::·)=some ys from e);cases h with
  |cons h t=>
   obtain⟨e2,o⟩:=iq e1 t;cases h with
   |str _ hy=>exact⟨by rw[e2];rfl,λz hz=>(mq0 hz).elim (λq=>q▸hy) (o z)⟩
 |.none::r,ys,vs,e,h=>by cases e
 |.bool _::r,ys,vs,e,h=>by cases e
 |.int _::r,ys,vs,e,h=>by cases e
 |.tuple _::r,ys,vs,e,h=>by cases e
 |.list _::r,ys,vs,e,h=>by cases e
 |.dict _::r,ys,vs,e,h=>by cases e
 |.scr _::r,ys,vs,e,h=>by cases e
 |.vlt ..::r,ys,vs,e,h=>by cases e
 |.hdl _::r,ys,vs,e,h=>by cases e
 |.exc _::r,ys,vs,e,h=>by cases e
theorem ir{G}:∀{ys:List Str},(∀y∈ys,PyData.strOk y=true)->Dps K G (ys.map .str) (ys.map V.str)
 |[],_=>.nil
 |y::ys,h=>.cons (.str y (h y ms0)) (ir λz hz=>h z (mc0 _ hz))
theorem cL:∀{ys:List Str}{us:List Value},Vals (ys.map V.str) us->StrsAre us ys
 |[],_,.nil=>.nil
 |y::ys,_,.cons r t=>by
  obtain⟨tk,rfl⟩:=r;exact .cons y tk (cL t)
theorem cN:∀{us:List Value}{ys:List Str},StrsAre us ys->Vals (ys.map V.str) us
 |_,_,.nil=>.nil
 |_,_,.cons y t r=>.cons ⟨t,rfl⟩ (cN r)
theorem join_codes(sep:Str):∀(ys:List Str)(c:Nat),c∈(Str.join sep ys).cps.toList->c∈sep.cps.toList\/∃y∈ys,c∈y.cps.toList
 |[],c,h=>by cases h
 |[y],c,h=>.inr ⟨y,ms0,h⟩
 |y::z::r,c,h=>by
  have e:(Str.join sep (y::z::r)).cps.toList=y.cps.toList++sep.cps.toList++(Str.join sep (z::r)).cps.toList:=by
   show (y.cps++sep.cps++(Str.join sep (z::r)).cps).toList=_;simp
  rw[e,List.mem_append,List.mem_append]at h;rcases h with (h|h)|h
  .exact .inr ⟨y,ms0,h⟩
  .exact .inl h
  .rcases join_codes sep (z::r) c h with q|⟨x,hx,q⟩
   .exact .inl q
   .exact .inr ⟨x,mc0 _ hx,q⟩
noncomputable def rJoin(K:Fg):V->List V->Hp->VK->Prop:=λx vs H Q=>∃sep a ys,x=.str sep/\vs=[.ref a]/\SqL K H a (ys.map V.str)/\(ys.map (·.length)).sum+ys.length*sep.length<=16777216/\Q (.str (Txt.join sep ys)) H
def yZ:MtR X "str.join" (rJoin X.K):=by
 intro pins s σ H x xs v us Q I rx rs h;obtain⟨sep,p,ys,rfl,rfl,hq,hz,q⟩:=h;obtain⟨t,rfl⟩:=rx;obtain⟨u,rfl,ru⟩:=Vals.one rs;cases ru;obtain⟨its,rv,pl,_⟩:=I.list hq;exact join_list pl.isList (by simpa using cL rv) hz λt' k=>⟨.str _,H,I.tok k,⟨_,rfl⟩,q⟩
noncomputable def Dz:V->List V->Hp->VK->Prop:=λx vs H Q=>∃t sep,x=.str t/\vs=[.str sep]/\(sep.length==0)=false/\t.length+2<=sizeLine/\∀p,H p=none->Q (.ref p) (upd H p (.lst ((Txt.split t sep).map V.str)))
def oO{A:Around}{E:Value->Shared->Prop}{s:Shared}{t u:Tok}(hy:(y.length==0)=false)(hsz:x.length+2<=sizeLine)
  (h:∀l k,l.map (·.1)=Txt.split x y->Q (.ref s.heap.objs.size) {s with heap:=s.heap.push {cls:=.type "list",data:=.seq (strValues l).toArray},toks:=k}):
  wpAny (model prog w) A (call (.builtin "str.split") [.str x t,.str y u]) Q E s:=by
 have hn:(Builtin.Str.partsBetween x (Builtin.Str.occurrences x y 0 x.length (x.length+1)) y.length).length<=sizeLine:=by
  have e1:=StrLaws.occ_length_le x y 0 x.length (x.length+1);rw[length_partsBetween];omega
 cases h1:(decide (x.length<y.length)||decide (Builtin.Str.strKind x<Builtin.Str.strKind y))with
 |true=>
  refine call_meets PySem.F.slot_str_split (typeIs_str _ _ _) PySem.F.entry_str_split (PySem.F.args_str_split_2 _ _) (meets_str_split_cannot_occur x y t u h1) ?_;exact h [(x,t)] s.toks (by unfold Txt.split;rw[if_pos h1];rfl)
 |false=>
  cases hf:(Builtin.Str.occurrences x y 0 x.length (x.length+1)).isEmpty with
  |true=>
   refine call_meets PySem.F.slot_str_split (typeIs_str _ _ _) PySem.F.entry_str_split (PySem.F.args_str_split_2 _ _) (meets_str_split_not_found x y t u h1 hy hf) ?_;exact h [(x,t)] s.toks (by unfold Txt.split;rw[if_neg (by rw[h1];decide),if_pos hf];rfl)
  |false=>
   refine call_meets PySem.F.slot_str_split (typeIs_str _ _ _) PySem.F.entry_str_split (PySem.F.args_str_split_2 _ _) (meets_str_split_sep x y t u h1 hy hf (by omega) hn) ?_;show wants Q E _ {s with toks:=_,heap:=s.heap.push {cls:=.type "list",data:=.seq (strsFrom s.toks (Builtin.Str.partsBetween x (Builtin.Str.occurrences x y 0 x.length (x.length+1)) y.length)).toArray}};rw[strsFrom_eq];refine h (numbered s.toks _) _ ?_;rw[numbered_texts];unfold Txt.split;rw[if_neg (by rw[h1];decide),if_neg (by rw[hf];decide)]
def split_len(x y:Str):(Txt.split x y).length<=x.length+2:=by
 unfold Txt.split;split
 .simp
 .split
  .simp
  .have e1:=StrLaws.occ_length_le x y 0 x.length (x.length+1)
   rw[length_partsBetween];omega
def my(x y:Str):∀p∈Txt.split x y,∀c∈p.cps.toList,c∈x.cps.toList:=by
 have sub:∀i j c,c∈(Builtin.Str.strSub x i j).cps.toList->c∈x.cps.toList:=λi j c h=>by
  rw[StrLaws.strSub_toList]at h;exact List.mem_of_mem_drop (List.mem_of_mem_take h)
 have parts:∀(w:Nat)(cuts:List Nat)(a:Nat),∀p∈StrLaws.partsFrom x w a cuts,∀c∈p.cps.toList,c∈x.cps.toList:=by
  intro w cuts
  induction cuts with
  |nil=>intro a p hp c hc;rw[List.mem_singleton.mp hp]at hc;exact sub _ _ c hc
  |cons d r ih=>
   intro a p hp c hc;rcases mq0 hp with e|hp
   .rw[e]at hc;exact sub _ _ c hc
   .exact ih _ p hp c hc
 intro p hp c hc;unfold Txt.split at hp;split at hp
 .rw[List.mem_singleton.mp hp]at hc;exact hc
 .split at hp
  .rw[List.mem_singleton.mp hp]at hc;exact hc
  .rw[StrLaws.partsBetween_eq]at hp
   exact parts _ _ _ p hp c hc
def uZ:MtR X "str.split" Dz:=by
 intro pins s σ H x xs v us Q I rx rs h;obtain⟨t,sep,rfl,rfl,hy,hz,q⟩:=h;obtain⟨tk,rfl⟩:=rx;obtain⟨u,rfl,ru⟩:=Vals.one rs;obtain⟨tk',rfl⟩:=ru;refine oO hy hz λl k e=>?_
 have rv:Vals ((Txt.split t sep).map V.str) (strValues l):=by rw[<-e];exact cN (strsAre_of_values l)
 have hl:((Txt.split t sep).map V.str).length<=sizeLine:=by
  rw[lm0];exact nt0 (split_len t sep) hz
 exact⟨.ref _,_,I.lnew (t':=k) rv hl,rfl,q _ I.fresh⟩
set_option tactic.hygienic true
def base_of{name:Str}(h:aL o=false):attributeBase o name env (eval o env)=eval o env:=by
 have other:∀e:Expr,(∀id p pos,e≠.Call (.Name id p) [] [] pos)->attributeBase e name env (eval e env)=eval e env:=by
  intro e he;unfold attributeBase;split
  .rename_i id p pos
   exact absurd rfl (he id p pos)
  .rfl
 by_cases c:∃id p pos,o=.Call (.Name id p) [] [] pos
 .obtain⟨id,p,pos,rfl⟩:=c
  have hid:(id==("super":Str))=false:=h;unfold attributeBase;show (if id != "super"||_||_||_ then _ else _)=_;have:(id != ("super":Str))=true:=by unfold bne;rw[hid];rfl
  simp only[this,Bool.true_or,if_true]
 .exact other o λid p pos z=>c ⟨id,p,pos,z⟩
def vd{m}{f}(hf:qr m=some f)(h:meD f d1 [d2]=some d)(ho:Er X Y o d1)(ha:Er X Y a d2)(hs:isStar a=false)(hsup:aL o=false)(hline:(apos.endLine==pos.line)=true):
  Ev X Y (.Call (.Attribute o m apos) [a] [] pos) d/\(f=.split->En X Y (.Call (.Attribute o m apos) [a] [] pos) d):=by
 have hS:=af (es:=[]) (env:=X.env) hs;have few:∀pos:Pos,((backTo pos (starEach [a] X.env)).all (λx=>!x.1)&&(backToKw pos (keywordEach [] X.env)).all (λx=>x.1.isSome)
   &&decide ([a].length+([]:List Keyword).length+(if ([]:List Keyword).isEmpty then 0 else 1)<30))=true:=λpos=>by rw[hS];rfl
 unfold qr at hf;split at hf
 .rename_i c
  subst c;cases hf;have key:En X Y (.Call (.Attribute o "split" apos) [a] [] pos) d:=by
   cases d1 with
   |str x=>cases d2 with
    |str sep=>
     rw[lY]at h;split at h
     .rename_i c
      cases h;rw[big_eq]at c;intro pins s σ H Q I h0;obtain⟨G0,H0,G,E,k⟩:=h0;refine ju PySem.F.plainAttrs_str PySem.F.slot_str_split PySem.F.type_str_split uZ ho (ay ha aT hS) (base_of hsup) (few pos) hline hS rfl pins s σ H Q I ⟨G0,H0,G,E,λv G1 H1 e1 r1=>?_⟩;obtain⟨rfl,os⟩:=r1.str;refine⟨rfl,G0,H0,G1,E.step e1,λw G2 H2 e2 r2=>?_⟩;obtain⟨rfl,oy⟩:=r2.str;have e3:=e1.trans e2;exact⟨x,sep,rfl,rfl,c.1,c.2,λp hp=>k p G2 _ (e3.trans (.hid e3.gh hp)) (e3.gh.free hp) (e3.hh.free hp) (.inl ⟨_,_,rfl,ae,ir ((λp hp=>by
        rw[strOk_iff]at os ⊢;exact λc hc=>os c (my x sep p hp c hc)))⟩)⟩
     .cases h
    |_=>cases h
   |_=>cases h
  exact⟨key.ev,λb=>key⟩
 split at hf
 .rename_i c
  subst c;cases hf;refine⟨?_,λz=>by cases z⟩;cases d1 with
  |str sep=>cases d2 with
   |list ls=>
    obtain⟨ys,e1,h⟩:=bx0 (h:(strsOf ls).bind _=some d);split at h
    .rename_i c
     cases h;intro pins s σ H Q I h0;obtain⟨G0,H0,G,E,k⟩:=h0;refine ju PySem.F.plainAttrs_str PySem.F.slot_str_join PySem.F.type_str_join yZ ho (ay ha aT hS) (base_of hsup) (few pos) hline hS rfl pins s σ H Q I ⟨G0,H0,G,E,λv G1 H1 e1 r1=>?_⟩;obtain⟨rfl,os⟩:=r1.str;refine⟨rfl,G0,H0,G1,E.step e1,λw G2 H2 e2 r2=>?_⟩;obtain⟨p,vs,rfl,h1,r⟩:=r2.lst e2.gh;obtain⟨rfl,oy⟩:=iq (by assumption) r;exact⟨sep,p,ys,rfl,rfl,SqL.of h1,c,k _ G2 H2 (e1.trans e2) (.str _ ((by
       have hs:=os;have hy:=oy;rw[strOk_iff]at hs ⊢;intro c hc;have e:Txt.join _ ys=Str.join _ ys:=StrLaws.glued_eq_join sep ys;rw[e]at hc;rcases join_codes _ ys c hc with q|⟨y,h1,h2⟩
       .exact hs c q
       .exact strOk_iff.mp (hy y h1) c h2)))⟩
    .cases h
   |_=>cases h
  |_=>cases h
 .cases hf
set_option tactic.hygienic false
noncomputable def Pur(K:Fg)(L:Fn):Sp:=λvs H Q a=>∃ds d G,L.run ds=some d/\Same G H/\Das K G H L.lent ds vs/\∀v G' H',Ext G H G' H'->Dp K G' d v->Q v H'
structure FnZ(P:Program)(w:World)(K:Fg)(mg:Str->Option Value)(base:Heap)(k:Nat)(x:Str)(L:Fn):Prop where
 ex:∃f fd ps,mg x=some (.ref f)/\PySem.W.keepIn K (.ref f)=true/\Binds K fd ps []/\FnOk P w K mg base CX0 k f fd ps (Pur K L)
def oP{k:Nat}{L:Fn}(F:FnZ X.prog X.w X.K X.mg X.base k x L)(hr:Room k X.A)(hg:Gl X x)(hd:(x==("__debug__":Str))=false)(ha:Ea X Y L.lent (e::es) ds)(h:L.run ds=some d)(hs:aG (e::es)):
  Ev X Y (.Call (.Name x p) (e::es) [] pos) d:=by
 obtain⟨f,fd,ps,hm,hk,hb,F⟩:=F.ex;intro pins s σ H Q I h0;obtain⟨G0,H0,G,E,k⟩:=h0;exact yu F hr hg hm hk hb .nil qi ha hd (af (hs e ms0)) (aD λy hy=>hs y (mc0 _ hy)) pins s σ H Q I
  ⟨G0,H0,G,E,λvs G1 H1 e1 r1=>⟨ds,d,G1,h,e1.gh,by rw[List.append_nil];exact r1,λv G' H' e2 r2=>k v G' H' (e1.trans e2) r2⟩⟩
end
noncomputable def Its(x:Str):It:=⟨λi a=>i<x.cps.size,λi H v H'=>H'=H/\∃c,x.cps[i]?=some c/\v=.str ⟨#[c]⟩,λi a=>i=x.cps.size⟩
def ve(it:Addr)(x:Str)(t:Tok)(hn:["enumerate","zip","dict_itemiterator","dict_reverseitemiterator","odict_iterator","itertools.zip_longest","itertools.pairwise"].contains T=false)
  (W:∀A:Around,A.handled=none->Walks P w A it [it] [it] x.cps.size (SignAt x) (λi h=>h.IsStrIter it T x t i))
  (S:∀(A:Around)(i:Nat)(s:Shared)(Q:Value->Shared->Prop)(E:Value->Shared->Prop),s.heap.IsStrIter it T x t i->Q (.ref it) s->wpAny (model P w) A (pyIter (.ref it)) Q E s):Turn P w K tg (Its x) [it] it (λi h=>h.IsStrIter it T x t i) where
 mem:=by simp
 obj:=λi h st b hb=>by
  have e:b=it:=by simpa using hb
  subst e;obtain⟨o,e,c,d⟩:=st;exact⟨o,e,λv z=>by rw[d]at z;cases z⟩
 keep:=λi h h' st k=>by
  obtain⟨o,e,r⟩:=st;exact⟨o,k it (by simp) o e,r⟩
 item:=by
  intro X hP hw hK hc i pins s σ H E I hf st hg;subst hP hw hK;obtain⟨f0,f1,f2,f3,f4,f5⟩:=hf it (by simp);refine (W X.A (I.ok.hd hc)).item i s _ _ hg st λv h' tk hv st' kk=>?_
  obtain⟨c,u,hc',rfl⟩:=hv;have I1:Inv X pins σ H {s with heap:=h',toks:=tk}:=I.turned (λb o hb e=>kk b o (by simpa using hb) e) f0 f1 f3 f4 f5;obtain⟨o,e,c1,d1⟩:=id st';exact⟨_,rfl,lO (s:={s with heap:=h',toks:=tk}) e c1 d1 hn ⟨.str ⟨#[c]⟩,H,I1,⟨u,rfl⟩,⟨rfl,c,hc',rfl⟩,st',λb hb=>(hf b hb).1⟩⟩
 done:=by
  intro X hP hw hK hc i pins s σ H E I hf st hg;subst hP hw hK;have hg:i=x.cps.size:=hg;subst hg;obtain⟨f0,f1,f2,f3,f4,f5⟩:=hf it (by simp);exact (W X.A (I.ok.hd hc)).done s _ _ st λh' tk kk=>⟨rfl,I.turned (λb o hb e=>kk b o (by simpa using hb) e) f0 f1 f3 f4 f5⟩
 self:=S
def DA{l:Expr}{tl:TE}(hl:PE X l tl):PI X tg l (λσ H R=>tl σ H λx H1=>∃t,x=.str t/\R (Its t) H1):=by
 intro pins s σ H R I h;refine thn (hl pins s σ H _ I h) λv s1 ⟨x,H1,I1,r1,q1⟩=>?_
 obtain⟨a,e,q⟩:=q1;subst e;obtain⟨t,rfl⟩:=r1;have fin:∀(T:String)(o:Obj),["enumerate","zip","dict_itemiterator","dict_reverseitemiterator","odict_iterator","itertools.zip_longest","itertools.pairwise"].contains T=false->o={cls:=.type T,data:=.fields #[.str a t,.int 0 0]}->
   (∀A:Around,A.handled=none->Walks X.prog X.w A s1.heap.objs.size [s1.heap.objs.size] [s1.heap.objs.size] a.cps.size (SignAt a) (λi h=>h.IsStrIter s1.heap.objs.size T a t i))->
   (∀(A:Around)(i:Nat)(s:Shared)(Q:Value->Shared->Prop)(E:Value->Shared->Prop),s.heap.IsStrIter s1.heap.objs.size T a t i->Q (.ref s1.heap.objs.size) s->wpAny (model X.prog X.w) A (pyIter (.ref s1.heap.objs.size)) Q E s)->PIE X pins σ tg R (.ref s1.heap.objs.size) {s1 with heap:=s1.heap.push o}:=λT o hn ho W S=>by
  subst ho;refine⟨s1.heap.objs.size,[s1.heap.objs.size],_,_,H1,rfl,I1.kept (t':=s1.toks) λb o e=>ps0 _ e,ve _ a t hn W S,⟨_,pz0 _ rfl,rfl,rfl⟩,λb hb=>?_,q⟩;have e:b=s1.heap.objs.size:=by simpa using hb
  subst e;exact I1.fpOk (nr0 _) (I1.hok.fresh (nr0 _))
 cases ha:a.cps.all (·<128)
 .exact wpAny_pyIter_wide ha (fin _ _ (by decide) rfl (λA hA=>Walks.strWide hA _ a t) λc c c c c st h=>wpAny_pyIter_striter_wide st h)
 .exact wpAny_pyIter_ascii ha (fin _ _ (by decide) rfl (λA hA=>Walks.strAscii hA _ a t) λc c c c c st h=>wpAny_pyIter_striter_ascii st h)
def KV.keys{Z:Type}{ws:List (Z×V)}{vs:List (Z×Value)}(h:KV ws vs):ws.map (·.1)=vs.map (·.1):=by
 unfold KV at h
 induction h with
 |nil=>rfl
 |cons a _ ih=>rw[mk0,mk0,a.1,ih]
theorem Dks.keys{G:Hp}:∀{ds:List (Key×D)}{vs:List (Key×V)},Dks K G ds vs->ds.map (·.1)=vs.map (·.1)
 |_,_,.nil=>rfl
 |_,_,.cons _ r=>by rw[mk0,mk0,Dks.keys r]
def mz(h:cc x=true):PyData.strOk x=true:=by
 rw[strOk_iff];exact λc hc=>od0 (List.all_eq_true.mp h c hc)
def jF{v:Value}(h:fY (.inr x) v=true):∃t,v=.str x t:=by
 cases v<;>simp[fY,Value.isStrOf]at h<;>simp_all
theorem qv:∀{vs:List Value}{ns:List Str},vs.length=ns.length->(∀(j:Nat)(v:Value)(i:Str),vs[j]?=some v->ns[j]?=some i->∃t,v=.str i t)->StrsAre vs ns
 |[],[],_,_=>.nil
 |v::vs,i::ns,hl,h=>by
  obtain⟨t,rfl⟩:=h 0 v i rfl rfl;exact .cons _ _ (qv (by simpa using hl) λj v i a b=>h (j+1) v i (by simpa using a) (by simpa using b))
 |[],_::_,hl,_=>by cases hl
 |_::_,[],hl,_=>by cases hl
theorem dt:∀{kvs:List (Key×D)}{ss:List Str},bN kvs=some ss->kvs.map (·.1)=ss.map .inr/\∀x∈ss,PyData.strOk x=true
 |[],_,h=>by cases h;exact⟨rfl,nofun⟩
 |(.inr x,_)::r,_,h=>by
  have h:(if cc x then (bN r).map (x::·)else .none)=some _:=h;split at h
  .obtain⟨ns,h1,rfl⟩:=mx0 h
   obtain⟨a,b⟩:=dt h1;exact⟨by rw[mk0,mk0,a],λy hy=>(mq0 hy).elim (λe=>by subst e;exact mz ‹_›) (b y)⟩
  .cases h
 |(.inl _,_)::_,_,h=>by cases h
noncomputable def Itf(d:Addr)(ob:Obj)(ws:List (Key×V))(ss:List Str):It:=⟨λi H=>i<ss.length/\H d=some (.frz ob (.dK ws)),λi H v H'=>H'=H/\∃x,ss[i]?=some x/\v=.str x,λi H=>i=ss.length/\H d=some (.frz ob (.dK ws))⟩
def vg{d:Addr}{kvs:List (Key×Value)}(hne:d≠it)(hob:∀h:Heap,h.get? d=some ob->h.DictAt (mixKind P w) d kvs ep)(hk:kvs.map (·.1)=ss.map .inr):
  Turn P w K tg (Itf d ob ws ss) [it] it (λi h=>h.IsKeyIter it d i kvs.length ep) where
 mem:=by simp
 obj:=λi h st b hb=>by
  have e:b=it:=by simpa using hb
  subst e;obtain⟨o,e,c,d⟩:=st;exact⟨o,e,λv z=>by rw[d]at z;cases z⟩
 keep:=λi h h' st k=>st.at (k it (by simp))
 item:=by
  intro X hP hw hK hc i pins s σ H E I hf st hg;subst hP hw hK;obtain⟨f0,f1,f2,f3,f4,f5⟩:=hf it (by simp);have kl:kvs.length=ss.length:=by simpa using congrArg List.length hk
  refine (Walks.dictKeys (knd:=mixKind X.prog X.w) (I.ok.hd hc) it d hne kvs ep).item i s _ _ (by rw[kl];exact hg.1) ⟨st,hob _ (I.hok d _ hg.2).1⟩ λv h' tk hv st' kk=>?_
  obtain⟨k,x,hx,hi⟩:=hv;have e3:=congrArg (·[i]?) hk;simp[hx,hg.1]at e3;subst e3;obtain⟨t,rfl⟩:=jF hi;have I1:Inv X pins σ H {s with heap:=h',toks:=tk}:=I.turned (λb o hb e=>kk b o (by simpa using hb) e) f0 f1 f3 f4 f5;obtain⟨o,e,c1,d1⟩:=id st'.1;exact⟨_,rfl,lO (s:={s with heap:=h',toks:=tk}) e c1 d1 (by decide) ⟨.str _,H,I1,⟨t,rfl⟩,⟨rfl,_,ge0 hg.1,rfl⟩,st'.1,λb hb=>(hf b hb).1⟩⟩
 done:=by
  intro X hP hw hK hc i pins s σ H E I hf st hg;subst hP hw hK;have kl:kvs.length=ss.length:=by simpa using congrArg List.length hk
  obtain⟨rfl,hg⟩:=hg;obtain⟨f0,f1,f2,f3,f4,f5⟩:=hf it (by simp);rw[<-kl]at st;exact (Walks.dictKeys (knd:=mixKind X.prog X.w) (I.ok.hd hc) it d hne kvs ep).done s _ _ ⟨st,hob _ (I.hok d _ hg).1⟩ λh' tk kk=>⟨rfl,I.turned (λb o hb e=>kk b o (by simpa using hb) e) f0 f1 f3 f4 f5⟩
 self:=λa a a a a st h=>wpAny_pyIter_keyiter st h
def DB{l:Expr}{tl:TE}(hl:PE X l tl):PI X tg l (λσ H R=>tl σ H λx H1=>∃a ob ws ss,x=.ref a/\H1 a=some (.frz ob (.dK ws))/\ws.map (·.1)=ss.map .inr/\R (Itf a ob ws ss) H1):=by
 intro pins s σ H R I h;refine thn (hl pins s σ H _ I h) λv s1 ⟨x,H1,I1,r1,q1⟩=>?_
 obtain⟨a,ob,ws,ss,rfl,ha,hk,q⟩:=q1;cases r1;obtain⟨g,_,lo,vs,kv,hD⟩:=I1.hok a _ ha;obtain⟨ep,hat⟩:=hD.dictAt;refine wpAny_pyIter_dict lo hat ⟨s1.heap.objs.size,[s1.heap.objs.size],_,_,H1,rfl,I1.kept (t':=s1.toks) λb o e=>ps0 _ e,vg (ws:=ws) (kvs:=vs) (ep:=ep) (nn0 (hs0 g)) (λh e=>?_) (kv.keys.symm.trans hk),⟨_,pz0 _ rfl,rfl,rfl⟩,λb hb=>?_,q⟩
 .obtain⟨o,es,e1,r⟩:=hat
  rw[g]at e1;cases e1;exact⟨_,es,e,r⟩
 .have e:b=s1.heap.objs.size:=by simpa using hb
  subst e;exact I1.fpOk (nr0 _) (I1.hok.fresh (nr0 _))
noncomputable def tEk(K:Fg)(Y:List Sl)(d:D):TE:=λσ H Q=>∃G0 H0 G,EnvD K G0 H0 G H σ Y/\∀v G' H',Ext G H G' H'->Dr K G' H0 d v->Q v H'
def Ek(X:Cx)(Y:List Sl)(e:Expr)(d:D):Prop:=PE X e (tEk X.K Y d)
section
variable {e:Expr}{p:Pos}
def Ev.ek{e:Expr}(h:Ev X Y e d):Ek X Y e d:=by rintro pins s σ H Q I ⟨G0,H0,G,E,k⟩;exact h pins s σ H Q I ⟨G0,H0,G,E,λv G' H' e r=>k v G' H' e (.of r)⟩
def Dr.monoG{G G' H}{v}(s:Same G G'):Dr K G H d v->Dr K G' H d v
 |.of h=>.of (h.mono s)
 |.list h r=>.list h (r.mono s)
 |.dict h r=>.dict h (r.mono s)
 |.vlt h1 h2 r=>.vlt h1 h2 (r.mono s)
def DC(i:Nat)(h:(Y[i]?).bind (aJ .walk)=some d)(hN:X.N[i]?=some x)(hv:Vis X.env.scope x)(hd:(x==("__debug__":Str))=false)(hcd:(x==("__classdict__":Str))=false):Ek X Y (.Name x pos) d:=by
 rintro pins s σ H Q I ⟨G0,H0,G,E,k⟩
 obtain⟨sl,h1,h2⟩:=bx0 h;have:∃v,σ[i]?=some (some v)/\Dr X.K G H0 d v:=by
  cases sl with
  |no=>cases h2
  |dat d'=>cases h2;obtain⟨v,a,b⟩:=E.dat i d h1;exact⟨v,a,.of b⟩
  |lent d'=>cases h2;obtain⟨v,a,b⟩:=E.lent i d h1;exact⟨v,a,b.monoG E.ext.gg⟩
  |own d'=>cases h2
 obtain⟨v,e,r⟩:=this;exact cF hN hv hd hcd pins s σ H Q I ⟨v,e,k v G H (.refl E.sub) r⟩
structure eC(K:Fg)(G1 Hb:Hp)(J:It)(ds:List D):Prop where
 go:∀i H',i<ds.length->Same G1 H'->Same Hb H'->J.go i H'
 yld:∀i G' H' x H2 d,ds[i]?=some d->Same G1 G'->Same G' H'->Same Hb H'->J.yld i H' x H2->∃G2,Ext G' H' G2 H2/\Dp K G2 d x
 stop:∀H',Same G1 H'->Same Hb H'->J.stop ds.length H'
def src_list{a:Addr}(hq:∀H',Same G1 H'->Same Hb H'->SqL K H' a vs)(r:Dps K G1 ds vs):eC K G1 Hb (Itl K a) ds where
 go:=λi H' hi hs hb=>by
  have hl:i<vs.length:=by rw[<-r.length];exact hi
  exact⟨vs,vs[i],hq H' hs hb,ge0 hl⟩
 yld:=λi G' H' x H2 b hb g1 g2 g3 y=>by
  obtain⟨e,y⟩:=y;subst e;have:=y vs (hq _ (g1.trans g2) g3);obtain⟨v,e,d⟩:=r.get hb;rw[this]at e;cases e;exact⟨G',.refl g2,d.mono g1⟩
 stop:=λH' hs hb=>⟨vs,hq H' hs hb,by rw[<-r.length];exact nr0 _⟩
def za{a:Addr}(hq:∀H',Same G1 H'->Same Hb H'->SqT K H' a vs)(r:Dps K G1 ds vs):eC K G1 Hb (Itt K a) ds where
 go:=λi H' hi hs hb=>by
  have hl:i<vs.length:=by rw[<-r.length];exact hi
  exact⟨vs,vs[i],hq H' hs hb,ge0 hl⟩
 yld:=λi G' H' x H2 b hb g1 g2 g3 y=>by
  obtain⟨e,y⟩:=y;subst e;have:=y vs (hq _ (g1.trans g2) g3);obtain⟨v,e,d⟩:=r.get hb;rw[this]at e;cases e;exact⟨G',.refl g2,d.mono g1⟩
 stop:=λH' hs hb=>⟨vs,hq H' hs hb,by rw[<-r.length];exact nr0 _⟩
def zb{a:Addr}(hq:G1 a=some (.frz ob (.dK ws)))(ok:∀x∈ss,PyData.strOk x=true):eC K G1 Hb (Itf a ob ws ss) (ss.map .str) where
 go:=λi H' hi hs c=>⟨by simpa using hi,hs _ _ hq⟩
 yld:=λi G' H' x H2 b hb g1 g2 g3 y=>by
  obtain⟨rfl,x,e,rfl⟩:=y;rw[gm0,e]at hb;cases hb;exact⟨G',.refl g2,.str _ (ok x (mg0 e))⟩
 stop:=λH' hs c=>⟨by simp,hs _ _ hq⟩
def src_range(lo:Int)(n:Nat):eC K G1 Hb (Itr lo n) ((List.range n).map λ(k:Nat)=>.int (lo+k)) where
 go:=λi H' hi a a=>by rw[lm0,lr0]at hi;exact hi
 yld:=λi G' H' x H2 b hb g1 g2 a y=>by
  obtain⟨e,y⟩:=y;subst e y;have hi:i<n:=by have:=(gi0 hb).1;rwa [lm0,lr0]at this
  rw[gm0,List.getElem?_range hi]at hb;cases hb;exact⟨G',.refl g2,.int _⟩
 stop:=λH' a a=>by show n<=_;rw[lm0,lr0];exact nr0 _
def zc(ok:PyData.strOk x=true):eC K G1 Hb (Its x) (x.cps.toList.map λc=>.str ⟨#[c]⟩) where
 go:=λi H' hi a a=>by rw[lm0,al0]at hi;exact hi
 yld:=λi G' H' v H2 b hb g1 g2 a y=>by
  obtain⟨e,c,hc,y⟩:=y;subst e y;rw[gm0,Array.getElem?_toList,hc]at hb;cases hb;refine⟨G',.refl g2,.str _ (jC ?_)⟩;rw[<-Array.getElem?_toList]at hc;exact strOk_iff.mp ok c (mg0 hc)
 stop:=λH' a a=>by show _=x.cps.size;rw[lm0,al0]
noncomputable def tSi(K:Fg)(Y:List Sl)(wk:Bool)(ds:List D):TI:=λσ H R=>∃G0 H0 G,EnvD K G0 H0 G H σ Y/\∀J G' H',Ext G H G' H'->eC K G' (if wk then H0 else H') J ds->R J H'
def Si(X:Cx)(Y:List Sl)(wk:Bool)(iter:Expr)(ds:List D):Prop:=∀tg,PI X tg iter (tSi X.K Y wk ds)
def vh{wk:Bool}(h:bU d=some ds')(hk:PE X iter (λσ H Q=>∃G0 H0 G,EnvD X.K G0 H0 G H σ Y/\∀v G' H',Ext G H G' H'->Dr X.K G' (if wk then H0 else H') d v->Q v H')):Si X Y wk iter ds':=by
 intro tg pins s σ H R I h0;obtain⟨G0,H0,G,E,k⟩:=h0;cases d with
 |list ls=>
  cases h;refine qc hk pins s σ H R I ⟨G0,H0,G,E,λv G1 H1 e1 r1=>?_⟩;have now:Same (if wk then H0 else H1) H1:=by
   cases wk with
   |true=>exact (E.step e1).ext.hh
   |false=>exact Same.refl _
  cases r1 with
  |of r1=>cases r1 with
   |list hq r=>exact⟨_,rfl,⟨_,SqL.of (e1.gh _ _ hq)⟩,k _ G1 H1 e1 (src_list (λH' g a=>SqL.of (g _ _ hq)) r)⟩
  |list hq r=>exact⟨_,rfl,⟨_,SqL.of (now _ _ hq)⟩,k _ G1 H1 e1 (src_list (λH' a g=>SqL.of (g _ _ hq)) r)⟩
 |tuple ls=>
  cases h;refine Cf hk pins s σ H R I ⟨G0,H0,G,E,λv G1 H1 e1 r1=>?_⟩;cases r1 with
  |of r1=>cases r1 with
   |tuple hq r=>exact⟨_,rfl,⟨_,SqT.of (e1.gh _ _ hq)⟩,k _ G1 H1 e1 (za (λH' g a=>SqT.of (g _ _ hq)) r)⟩
 |fdc kvs=>
  obtain⟨ss,h1,rfl⟩:=mx0 (show (bN kvs).map _=some ds' from h);refine DB hk pins s σ H R I ⟨G0,H0,G,E,λv G1 H1 e1 r1=>?_⟩;cases r1 with
  |of r1=>cases r1 with
   |fdc hq r=>exact⟨_,_,_,ss,rfl,e1.gh _ _ hq,r.keys.symm.trans (dt h1).1,k _ G1 H1 e1 (zb hq (dt h1).2)⟩
 |str x=>
  rw[items_str]at h;split at h
  .cases h
   refine DA hk pins s σ H R I ⟨G0,H0,G,E,λv G1 H1 e1 r1=>?_⟩;obtain⟨rfl,ok⟩:=r1.str;exact⟨_,rfl,k _ G1 H1 e1 (zc ok)⟩
  .cases h
 |_=>cases h
def vi(h:bU d=some ds')(hk:Ek X Y iter d):Si X Y true iter ds':=vh h hk
def sA(h:bU d=some ds')(hk:Er X Y iter d):Si X Y false iter ds':=vh h hk
def vj{n:Int}(h:rOk n=true):-(2 ^ 62)<=n/\n<2 ^ 62:=by
 unfold rOk at h;rw[be0]at h;exact⟨od0 h.1,od0 h.2⟩
def sC{wk:Bool}{n:Int}{p:Pos}(B:Blt X "range")(ha:Ev X Y a (.int n))(h:rOk n=true)(hs:isStar a=false):Si X Y wk (.Call (.Name "range" p) [a] [] pos) ((List.range n.toNat).map λ(k:Nat)=>.int k):=by
 have e:((List.range n.toNat).map λ(k:Nat)=>D.int k)=(List.range n.toNat).map λ(k:Nat)=>.int (0+k):=by simp
 rw[e];intro tg pins s σ H R I h0;obtain⟨G0,H0,G,E,k⟩:=h0;refine rK B.g B.m (ib (fl:=[]) ha ia hs) (by rw[af hs];rfl) pins s σ H R I ⟨G0,H0,G,E,λvs G1 H1 e1 r1=>?_⟩;obtain⟨v,rfl,hv⟩:=r1.one;exact⟨n,by rw[hv.int],(vj h).1,(vj h).2,k _ G1 H1 e1 (src_range 0 n.toNat)⟩
end
end L2.Z
namespace PySem
section
variable {A:Around}{E:Value->Shared->Prop}
def fJ{a b}{h h'}{o}(sb:Heap.SameBut a h h')(hn:b≠a)(e:h.get? b=o):h'.get? b=o:=(sb.2 b hn).trans e
namespace F
end F
end
end PySem
namespace L2.Z
open PySem PySem.Spec PyProof.Rows L2 L2.C SI
def zd(I:Inv X pins σ H s)(hf:∀b∈fp,eO X pins H b)(k:∀b o,b∉fp->s.heap.get? b=some o->h'.get? b=some o):Inv X pins σ H {s with heap:=h',toks:=t'}:=by
 have nit:∀b u,H b=some u->b∉fp:=λb u e z=>by rw[(hf b z).1]at e;cases e
 refine I.step (g':=s.gens) (d':=s.drawn) (ch:=fp) (λb hb=>?_) (λb o a a hc e a=>k b o hc e) (λb o a a hc e a=>⟨o.slots,k b o hc e⟩) (λa a a a n=>n)
  (λb o hc e=>⟨o,k b o hc e⟩) (λa a e=>e) (λa a a e=>e) (λb a ps e=>⟨#[],by rw[e];simp⟩) (λm hm=>?_) (λb u e=>?_) I.bare
 .obtain⟨_,f1,f2,f3,f4,f5⟩:=hf b hb
  exact⟨f3,f1,f4,f5⟩
 .obtain⟨o,es,ep,ho,r⟩:=hm
  exact⟨o,es,ep,k _ o (λz=>(hf _ z).2.1 rfl) ho,r⟩
 .refine (I.hok b u e).stay (λc v hc q=>k c v ?_ q) (λa q=>q) λa a a q=>q
  rcases hc with z|z
  .rw[z];exact nit b u e
  .exact nit c _ z
def vk{T:Addr}{o:HO}(I:Inv X pins σ H s)(hf:∀b∈fp,eO X pins H b)(k:∀b o,b∉fp->s.heap.get? b=some o->h'.get? b=some o)(hT:s.heap.objs.size<=T)
  (new:ObjOk X.prog X.w (upd H T o) h' T o):Inv X pins σ (upd H T o) {s with heap:=h',toks:=t'}:=by
 have nit:∀b u,H b=some u->b∉fp:=λb u e z=>by rw[(hf b z).1]at e;cases e
 have nT:∀b u,s.heap.get? b=some u->b≠T:=λb u e z=>by subst z;exact absurd (nl0 (hs0 e) hT) (li0 _)
 have nH:∀b u,H b=some u->b≠T:=λb u e z=>by subst z;exact absurd (nl0 (I.hok b u e).lt hT) (li0 _)
 refine I.step (g':=s.gens) (d':=s.drawn) (ch:=fp) (λb hb=>?_) (λb o a a hc e a=>k b o hc e) (λb o a a hc e a=>⟨o.slots,k b o hc e⟩) (λb o a e n=>by rw[aa (nT b o e)];exact n)
  (λb o hc e=>⟨o,k b o hc e⟩) (λb a e=>by rw[aa (nH b _ e)];exact e) (λb a a e=>by rw[aa (nH b _ e)];exact e) (λb a ps e=>⟨#[],by rw[aa (nH b _ e),e];simp⟩) (λm hm=>?_) (λb u e=>?_) I.bare
 .obtain⟨_,f1,f2,f3,f4,f5⟩:=hf b hb
  exact⟨f3,f1,f4,f5⟩
 .obtain⟨o,es,ep,ho,r⟩:=hm
  exact⟨o,es,ep,k _ o (λz=>(hf _ z).2.1 rfl) ho,r⟩
 .by_cases hb:b=T
  .subst hb
   rw[ae]at e;cases e;exact new
  .rw[aa hb]at e
   refine (I.hok b u e).stay (λc v hc q=>k c v ?_ q) (λc q=>by rw[aa (nH c _ q)];exact q) λc a a q=>by rw[aa (nH c _ q)];exact q
   rcases hc with z|z
   .rw[z];exact nit b u e
   .exact nit c _ z
def eI{a b:Addr}{o u:Obj}(ha:h.get? a=some o)(hb:h.get? b=some u)(hc:o.cls≠u.cls):a≠b:=λe=>by subst e;rw[ha]at hb;cases hb;exact hc rfl
section
variable {p:Pos}
def boot_zip:bootBuiltins ("zip":Str)=some (.type "zip"):=by decide +kernel
end
noncomputable def Itp(K:Fg)(l1 l2:Addr)(n:Nat):It:=
 ⟨λi H=>i<n/\∃xs ys,SqL K H l1 xs/\SqL K H l2 ys/\n<=xs.length/\ys.length=n,
  λi H x H'=>∃T,x=.ref T/\H T=none/\∀xs ys,SqL K H l1 xs->SqL K H l2 ys->∃a b,xs[i]?=some a/\ys[i]?=some b/\H'=upd H T (.tup [a,b]),
  λi H=>i=n/\∃xs ys,SqL K H l1 xs/\SqL K H l2 ys/\ys.length=n⟩
def Pst(z TI TO i1 i2 l1 l2:Addr)(i:Nat)(h:Heap):Prop:=
 IsZip h z TI TO .none/\IsPair h TI (.ref i1) (.ref i2)/\(∃a b,IsPair h TO a b)/\h.IsListIter i1 l1 i/\h.IsListIter i2 l2 i
def iu{z TI TO i1 i2:Addr}{a b:Value}{k1 k2:Nat}{ys:Array Value}(hTT:TI≠TO)(h12:i1≠i2)(hz:IsZip h z TI TO .none)(ht:IsPair h TI (.ref i1) (.ref i2))(ho:IsPair h TO a b)
  (q1:h.IsListIter i1 l1 k1) (q2:h.IsListIter i2 l2 k2) (p1:h.IsList l1 xs) (p2:h.IsList l2 ys):ZipApart z TI TO i1 i2 l1 l2:=by
 obtain⟨o1,e1,c1,_⟩:=q1;obtain⟨o2,e2,c2,_⟩:=q2;obtain⟨o3,e3,c3,_⟩:=p1;obtain⟨o4,e4,c4,_⟩:=p2;have cz:∀{x:Addr}{o:Obj},h.get? x=some o->o.cls≠.type "zip"->x≠z:=λe hn=>eI e hz hn
 have ct:∀{x:Addr}{o:Obj},h.get? x=some o->o.cls≠.type "tuple"->x≠TO:=λe hn=>eI e ho hn
 have cI:∀{x:Addr}{o:Obj},h.get? x=some o->o.cls≠.type "tuple"->x≠TI:=λe hn=>eI e ht hn
 exact⟨cz ht (show Value.type "tuple"≠Value.type "zip" by decide),cz ho (show Value.type "tuple"≠Value.type "zip" by decide),cz e1 (by rw[c1];decide),cz e2 (by rw[c2];decide),hTT,(cI e1 (by rw[c1];decide)).symm,(cI e2 (by rw[c2];decide)).symm,
  (ct e1 (by rw[c1];decide)).symm,(ct e2 (by rw[c2];decide)).symm,h12,cz e3 (by rw[c3];decide),ct e3 (by rw[c3];decide),eI e3 e1 (by rw[c3,c1];decide),eI e3 e2 (by rw[c3,c2];decide),
  cz e4 (by rw[c4];decide),ct e4 (by rw[c4];decide),eI e4 e1 (by rw[c4,c1];decide),eI e4 e2 (by rw[c4,c2];decide)⟩
def sD{z TI TO i1 i2:Addr}(n:Nat)(hTT:TI≠TO)(h12:i1≠i2):
  Turn P w K (.Tuple elts tk tpos) (Itp K l1 l2 n) [z,TI,TO,i1,i2] z (Pst z TI TO i1 i2 l1 l2) where
 mem:=by simp
 obj:=λi h st b hb=>by
  obtain⟨hz,ht,⟨a,c,ho⟩,⟨o1,e1,c1,d1⟩,⟨o2,e2,c2,d2⟩⟩:=st;simp only[List.mem_cons,List.not_mem_nil,or_false]at hb;rcases hb with rfl|rfl|rfl|rfl|rfl
  .exact⟨_,hz,λv q=>by cases q⟩
  .exact⟨_,ht,λv q=>by cases q⟩
  .exact⟨_,ho,λv q=>by cases q⟩
  .exact⟨_,e1,λv q=>by rw[d1]at q;cases q⟩
  .exact⟨_,e2,λv q=>by rw[d2]at q;cases q⟩
 keep:=λi h h' st k=>by
  obtain⟨hz,ht,⟨a,c,ho⟩,q1,q2⟩:=st;exact⟨k _ (by simp) _ hz,k _ (by simp) _ ht,⟨a,c,k _ (by simp) _ ho⟩,q1.at (k _ (by simp)),q2.at (k _ (by simp))⟩
 item:=by
  intro X hP hw hK hc i pins s σ H E I hf st hg;subst hP hw hK;obtain⟨hi,xs,ys,s1,s2,n1,n2⟩:=hg;obtain⟨it1,rv1,p1,z1⟩:=I.list s1;obtain⟨it2,rv2,p2,z2⟩:=I.list s2;have g1:xs[i]?=some (xs[i]'(by omega)):=ge0 _;have g2:ys[i]?=some (ys[i]'(by omega)):=ge0 _;generalize xs[i]'(by omega)=va at g1;generalize ys[i]'(by omega)=vb at g2;obtain⟨u1,hu1,ru1⟩:=rv1.get g1;obtain⟨u2,hu2,ru2⟩:=rv2.get g2;obtain⟨hz,ht,⟨a,b,ho⟩,q1,q2⟩:=st;have ap:=iu hTT h12 hz ht ho q1 q2 p1.isList p2.isList;refine wpAny_pyNext_zip_item ap hz ht ho q1 q2 p1.isList p2.isList (x:=u1) (y:=u2) (by simpa using hu1) (by simpa using hu2) λh1 a1 a3 a4 a5 a7 a8 a9=>⟨_,rfl,?_⟩
  refine wpAny_letOwnedTupleGo_zip a1 λh2 b1 sb=>?_
  have nz:s.heap.objs.size≠z:=λe=>by have:=hs0 hz;rw[<-e]at this;exact absurd this (li0 _)
  have kk:∀b o,b∉[z,TI,TO,i1,i2]->s.heap.get? b=some o->h2.get? b=some o:=λb o hb e=>by
   simp only[List.mem_cons,List.not_mem_nil,or_false,not_or]at hb;exact fJ sb hb.1 (a9 b o hb.1 hb.2.2.1 hb.2.2.2.1 hb.2.2.2.2 e)
  have I2:=vk (h':=h2) (t':=s.toks) (o:=.tup [va,vb]) I hf kk (nr0 _) ⟨(show 2<=sizeLine by decide),[u1,u2],.cons ru1 (.cons ru2 .nil),⟨_,fJ sb nz a7,rfl,_,rfl⟩⟩;refine⟨.ref s.heap.objs.size,_,I2,rfl,⟨_,rfl,I.fresh,λxs' ys' t1 t2=>⟨va,vb,by rw[I.list_inj t1 s1];exact g1,by rw[I.list_inj t2 s2];exact g2,rfl⟩⟩,?_,λb hb=>?_⟩
  .exact⟨b1,fJ sb ap.TIz (a9 TI _ ap.TIz ap.TITO ap.TIi1 ap.TIi2 ht),⟨_,_,fJ sb ap.TOz a3⟩,a4.at λo e=>fJ sb ap.i1z e,a5.at λo e=>fJ sb ap.i2z e⟩
  .have hb0:=(hf b hb).1
   rw[aa]
   .exact hb0
   .intro e
    have hlt:∃o,s.heap.get? b=some o:=by
     simp only[List.mem_cons,List.not_mem_nil,or_false]at hb;obtain⟨o1,e1,_⟩:=q1;obtain⟨o2,e2,_⟩:=q2;rcases hb with rfl|rfl|rfl|rfl|rfl
     .exact⟨_,hz⟩
     .exact⟨_,ht⟩
     .exact⟨_,ho⟩
     .exact⟨_,e1⟩
     .exact⟨_,e2⟩
    obtain⟨o,eo⟩:=hlt;have:=hs0 eo;rw[e]at this;exact absurd this (li0 _)
 done:=by
  intro X hP hw hK hc i pins s σ H E I hf st hg;subst hP hw hK;obtain⟨rfl,xs,ys,s1,s2,n2⟩:=hg;obtain⟨it1,rv1,p1,z1⟩:=I.list s1;obtain⟨it2,rv2,p2,z2⟩:=I.list s2;obtain⟨hz,ht,⟨a,b,ho⟩,q1,q2⟩:=st;have ap:=iu hTT h12 hz ht ho q1 q2 p1.isList p2.isList;have hx:it2.toArray[i]?=none:=by
   have:=rv2.length;simp;omega
  exact wpAny_pyNext_zip_end (I.ok.hd hc) ap hz ht ho q1 q2 p1.isList p2.isList (.inr hx) λh' a1=>⟨rfl,zd (t':=s.toks) (fp:=[z,TI,TO,i1,i2]) I hf λb o hb eb=>a1 b o (λq=>hb (by simp[q])) (λq=>hb (by simp[q])) (λq=>hb (by simp[q])) (λq=>hb (by simp[q])) eb⟩
 self:=λd d d d d st h=>PySem.wpAny_pyIter_zip st.1 h
section
variable {p:Pos}
def vo :∀{i:Nat}{d:D},(zip2 ls ms)[i]?=some d->∃x y,ls[i]?=some x/\ms[i]?=some y/\d=.tuple [x,y]:=by
 induction ls generalizing ms with
 |nil=>intro i d h;simp[zip2]at h
 |cons x r ih=>
  intro i d h;cases ms with
  |nil=>simp[zip2]at h
  |cons y q=>cases i with
   |zero=>simp only[zip2,List.getElem?_cons_zero,Option.some.injEq]at h;exact⟨x,y,rfl,rfl,h.symm⟩
   |succ i=>simp only[zip2,List.getElem?_cons_succ]at h ⊢;exact ih h
def mB(h1:ms.length<=ls.length):(zip2 ls ms).length=ms.length:=by
 induction ls generalizing ms with
 |nil=>cases ms with
  |nil=>rfl
  |cons y q=>cases h1
 |cons x r ih=>
  cases ms with
  |nil=>rfl
  |cons y q=>simp only[zip2,lc0];rw[ih (by simpa using h1)]
def vq{us:List V}(h1:Hb l1=some (.lst vs))(h2:Hb l2=some (.lst us))(r1:Dps K G1 ls vs)(r2:Dps K G1 ms us)
  (e1:ms.length<=ls.length):eC K G1 Hb (Itp K l1 l2 ms.length) (zip2 ls ms) where
 go:=λi H' hi hs hb=>⟨by rw[mB e1]at hi;exact hi,vs,us,SqL.of (hb _ _ h1),SqL.of (hb _ _ h2),by rw[<-r1.length];exact e1,r2.length.symm⟩
 yld:=λi G' H' x H2 d hd g1 g2 g3 y=>by
  obtain⟨T,rfl,hT,y⟩:=y;obtain⟨a,b,y1,y2,rfl⟩:=y vs us (SqL.of (g3 _ _ h1)) (SqL.of (g3 _ _ h2));obtain⟨x1,x2,k1,k2,rfl⟩:=vo hd;obtain⟨v1,w1,d1⟩:=r1.get k1;obtain⟨v2,w2,d2⟩:=r2.get k2;rw[y1]at w1;cases w1;rw[y2]at w2;cases w2;have ex:Ext G' H' (upd G' T (.tup [a,b])) (upd H' T (.tup [a,b])):=.laid g2 hT;exact⟨_,ex,.tuple ae (.cons ((d1.mono g1).mono ex.gg) (.cons ((d2.mono g1).mono ex.gg) .nil))⟩
 stop:=λH' hs hb=>⟨mB e1,vs,us,SqL.of (hb _ _ h1),SqL.of (hb _ _ h2),r2.length.symm⟩
def zf(B:Blt X "zip")(hA:Ea X Y [true,true,true] [a,b] [.list ls,.list ms])(hst:aG [a,b])(e1:ms.length<=ls.length):
  PI X (.Tuple elts tk tpos) (.Call (.Name "zip" p) [a,b] [] pos) (tSi X.K Y false (zip2 ls ms)):=by
 intro pins s σ H R I h0;obtain⟨G0,H0,G,E,k⟩:=h0;refine Call_ (ld_blt I B.g B.m boot_zip (PyProof.Rows.callWith_type1 (thn (hA pos pins s σ H _ I ⟨G0,H0,G,E,λvs G1 H1 e1 r1=>(⟨G1,e1,r1⟩:∃G1,Ext G H G1 H1/\Das X.K G1 H1 [true,true,true] [.list ls,.list ms] vs)⟩) λus s1 ⟨vs,H1,I1,r1,q1⟩=>?_) (af (hst a (by simp))) (aD (es:=[b]) λx hx=>hst x (mc0 _ hx))));obtain⟨G1,x1,q1⟩:=q1;obtain⟨v,w,rfl,d1,d2⟩:=q1.two;obtain⟨l1,vs1,rfl,hq1,rr1⟩:=d1.lst x1.gh;obtain⟨l2,vs2,rfl,hq2,rr2⟩:=d2.lst x1.gh;cases r1 with
 |cons r rr=>cases rr with
  |cons r' rr=>
   cases rr;cases r;cases r';obtain⟨it1,_,p1,_⟩:=I1.list (SqL.of hq1);obtain⟨it2,_,p2,_⟩:=I1.list (SqL.of hq2);refine PySem.call_zip_2 p1.isList p2.isList λh' a1 a2 a3 a4 a5 a7 a8=>?_
   refine PySem.wpAny_pyIter_zip a1 ⟨_,[_,_,_,_,_],_,_,H1,rfl,I1.kept (t':=s1.toks) a8,sD ms.length (nn0 (by omega)) (nn0 (by omega)),⟨a1,a2,⟨_,_,a3⟩,a4,a5⟩,λb hb=>?_,k _ G1 H1 x1 (vq hq1 hq2 rr1 rr2 e1)⟩;have hle:s1.heap.objs.size<=b:=by
    simp only[List.mem_cons,List.not_mem_nil,or_false]at hb;rcases hb with rfl|rfl|rfl|rfl|rfl<;>first|exact Nat.le_add_right _ _|exact nr0 _
   exact I1.fpOk hle (I1.hok.fresh hle)
end
def Tgj(X:Cx)(tg:Expr)(t:Tg):Prop:=∀d,PG X tg (λv σ H Q=>∃G0 H0 G Y Y',EnvD X.K G0 H0 G H σ Y/\Dp X.K G d v/\ai t d Y=some Y'/\∀σ',EnvD X.K G0 H0 G H σ' Y'->Q σ' H)
section
variable {e:Expr}{ifs:List Expr}{p:Pos}
def mC(hN:X.N.Nodup)(hi:X.N[i]?=some x)(hx:Loc X.env.scope x)(hf:X.fn x=true\/X.env.scope.names.lookup x=some .local):Tgj X (.Name x px) (.one i):=
 λd pins s σ H v u Q I r ⟨G0,H0,G,Y,Y',env,dv,hb,k⟩=>by
  cases hb;exact pZ hN hi hx hf pins s σ H v u Q I r (k _ (env.set (by rw[I.len];exact (gi0 hi).1) dv))
structure DD(X:Cx)(x:Str)(i:Nat):Prop where
 at':X.N[i]?=some x
 loc:Loc X.env.scope x
 fn:X.fn x=true\/X.env.scope.names.lookup x=some .local
inductive Nms (X:Cx):List Expr->List Nat->Prop
 |nil:Nms X [] []
 |cons {x:Str}{px:Pos}{i:Nat}{es:List Expr}{is:List Nat}:DD X x i->Nms X es is->Nms X (.Name x px::es) (i::is)
theorem Nms.each :∀{es:List Expr}{is:List Nat},Nms X es is->(assignEach es env).length=is.length/\(assignEach es env).findIdx? (·.1)=.none
 |_,_,.nil=>⟨rfl,rfl⟩
 |_,_,.cons (es:=es) _ r=>by
  obtain⟨h1,h2⟩:=Nms.each r;refine⟨?_,?_⟩
  .show (assignEach es env).length+1=_
   rw[h1];rfl
  .show List.findIdx? (·.1) ((false,_)::assignEach es env)=_
   rw[List.findIdx?_cons];simp[h2]
def JP(X:Cx)(ts:List Expr)(is:List Nat):Prop:=∀ds,ds.length=is.length->PGs X ts (λvs σ H Q=>∃G0 H0 G Y,EnvD X.K G0 H0 G H σ Y/\Dps X.K G ds vs/\∀σ',EnvD X.K G0 H0 G H σ' ((is.zip ds).foldl (λY p=>Y.set p.1 (.dat p.2)) Y)->Q σ' H)
def JQ{is:List Nat}(hN:X.N.Nodup)(h:Nms X ts is):JP X ts is:=by
 induction h with
 |nil=>
  intro ds hl pins s σ H vs us Q I r h0;obtain⟨G0,H0,G,Y,env,dv,k⟩:=h0;have:ds=[]:=ez0 hl;subst this;cases dv;exact qa pins s σ H [] us Q I r ⟨rfl,k σ env⟩
 |@cons x px i es is h1 h2 ih=>
  intro ds hl pins s σ H vs us Q I r h0;obtain⟨G0,H0,G,Y,env,dv,k⟩:=h0;cases ds with
  |nil=>cases hl
  |cons d ds=>
   cases dv with
   |cons d1 d2=>
    exact lN (mC (px:=px) hN h1.at' h1.loc h1.fn d) (ih ds (by simpa using hl)) rfl pins s σ H _ us Q I r
     ⟨_,_,rfl,G0,H0,G,Y,_,env,d1,rfl,λσ' env'=>⟨G0,H0,G,_,env',d2,λσ2 env2=>k σ2 env2⟩⟩
set_option tactic.hygienic true in
def zg{is:List Nat}(hc:X.calm=true)(hN:X.N.Nodup)(h:Nms X ts is):Tgj X (.Tuple ts n pos) (.tup is):=by
 intro d pins s σ H v u Q I r h0;obtain⟨G0,H0,G,Y,Y',env,dv,hb,k⟩:=h0;cases d with
 |tuple ds=>
  rw[fG]at hb;split at hb
  .rename_i hl
   cases hb;cases dv with
   |tuple hq dr=>
    obtain⟨e1,e2⟩:=h.each (env:=X.env);exact uc (n:=is.length) hc (JQ hN h ds hl.symm) e1 e2 pins s σ H _ u Q I r ⟨_,_,rfl,SqT.of (env.sub _ _ hq),by rw[<-dr.length];exact hl.symm,G0,H0,G,Y,env,dr,k⟩
  .cases hb
 |_=>cases hb
section
variable {G:Hp}
def blk_at{sl:Sl}(h:(SI.blk tn.length js Y)[i]?=some sl):sl=.no\/∃j,js[i-tn.length]?=some j/\tn.length<=i/\sl=lend (Y[j]?.getD .no):=by
 unfold SI.blk at h
 by_cases hi:i<tn.length
 .rw[gl0 (by simpa using hi),List.getElem?_replicate,if_pos hi]at h
  cases h;exact .inl rfl
 .rw[List.getElem?_append_right (by simp;omega),gm0,List.length_replicate]at h
  cases q:js[i-tn.length]? with
  |none=>rw[q]at h;cases h
  |some j=>rw[q]at h;cases h;exact .inr ⟨j,rfl,by omega,rfl⟩
def kL{i j}(h:tn.length<=i)(e:js[i-tn.length]?=some j):(dg tn js σ)[i]?=some (σ[j]?).join:=by
 unfold dg;rw[List.getElem?_append_right (by simpa using h),gm0,lm0,e];rfl
def du(Y:List Sl):Prop:=∀(i:Nat) d,Y[i]?≠some (.own d)
def ma{sl:Sl}:lend sl≠.own d:=by cases sl<;>(intro h;cases h)
def dI:du (SI.blk tn.length js Y):=λi d h=>by
 rcases blk_at h with h|⟨j,_,_,h⟩
 .cases h
 .exact ma h.symm
theorem EnvD.blk(E:EnvD K G0 H0 G H σ Y):EnvD K G H G H (dg tn js σ) (SI.blk tn.length js Y):=by
 have slot:∀{j:Nat}{sl:Sl},lend (Y[j]?.getD .no)=sl->sl≠.no->∃s,Y[j]?=some s/\lend s=sl:=λ{j sl} h hn=>by
  cases r:Y[j]? with
  |none=>rw[r]at h;exact absurd h.symm hn
  |some s=>rw[r]at h;exact⟨s,rfl,h⟩
 refine⟨.refl E.sub,by simp[dg,SI.blk],λi d h=>?_,λi d h=>?_,λi ds h=>(dI i ds h).elim,λi a ds a a h=>(dI i ds h).elim⟩
 .rcases blk_at h with h|⟨j,e1,hi,h⟩
  .cases h
  obtain⟨s,e2,h⟩:=slot h.symm (by simp);cases s with
  |dat d'=>
   cases h;obtain⟨v,e3,r⟩:=E.dat j d e2;exact⟨v,by rw[kL hi e1,e3];rfl,r⟩
  |_=>cases h
 .rcases blk_at h with h|⟨j,e1,hi,h⟩
  .cases h
  obtain⟨s,e2,h⟩:=slot h.symm (by simp);cases s with
  |lent d'=>
   cases h;obtain⟨v,e3,r⟩:=E.lent j d e2;exact⟨v,by rw[kL hi e1,e3];rfl,r.ext E.ext⟩
  |own d'=>
   cases h;obtain⟨q,e3,_,_,r⟩:=E.own j d e2;exact⟨_,by rw[kL hi e1,e3];rfl,r.dr⟩
  |_=>cases h
def EnvD.touch{p:Addr}{o:HO}(E:EnvD K G0 H0 G H σ Y)(hn:du Y)(hg:G p=none)(h0:H0 p=none)(hi:notIns o=true:=by rfl):EnvD K G0 H0 G (upd H p o) σ Y:=
 ⟨⟨λb u e=>by rw[aa (ag e h0)];exact E.ext.hh b u e,E.ext.gg,λb u e=>by rw[aa (ag e hg)];exact E.ext.gh b u e,E.ext.nw,λx C dx fs e=>E.ext.ni x C dx fs (bH hi x C dx fs e)⟩,E.len,E.dat,E.lent,λi ds h=>(hn i ds h).elim,λi a ds a a h=>(hn i ds h).elim⟩
def EnvD.forget(E:EnvD K G0 H0 G H σ Y)(hl:Y'.length=Y.length)(h:∀(i:Nat) sl,Y'[i]?=some sl->sl=.no\/Y[i]?=some sl):EnvD K G0 H0 G H σ Y':=
 ⟨E.ext,by rw[hl];exact E.len,λi d e=>(h i _ e).elim (λz=>by cases z) (E.dat i d),λi d e=>(h i _ e).elim (λz=>by cases z) (E.lent i d),λi d e=>(h i _ e).elim (λz=>by cases z) (E.own i d),
  λi j d e p h1 h2 h3 h4=>(h i _ h1).elim (λz=>by cases z) λh1=>(h j _ h2).elim (λz=>by cases z) λh2=>E.apart i j d e p h1 h2 h3 h4⟩
end
def jG{t:Tg}(ht:mf t n=true)(hb:ai t d Y=some Y'):Y'.length=Y.length/\(∀i,n<=i->Y'[i]?=Y[i]?)/\(du Y->du Y'):=by
 have one:∀{i:Nat}{Y:List Sl}{d:D},i<n->(Y.set i (.dat d)).length=Y.length/\(∀j,n<=j->(Y.set i (.dat d))[j]?=Y[j]?)/\(du Y->du (Y.set i (.dat d))):=λ{i Y d} hi=>
  ⟨by simp,λj hj=>gn0 (by omega),λh j e hj=>by
   rcases getE_set hj with⟨_,q⟩|⟨_,q⟩
   .cases q
   .exact h j e q⟩
 have fold:∀(ps:List (Nat×D))(Y:List Sl),(∀p∈ps,p.1<n)->(ps.foldl (λY p=>Y.set p.1 (.dat p.2)) Y).length=Y.length/\(∀j,n<=j->(ps.foldl (λY p=>Y.set p.1 (Sl.dat p.2)) Y)[j]?=Y[j]?)/\(du Y->du (ps.foldl (λY p=>Y.set p.1 (Sl.dat p.2)) Y)):=by
  intro ps
  induction ps with
  |nil=>intro Y _;exact⟨rfl,λc c=>rfl,λh=>h⟩
  |cons q r ih=>
   intro Y hp;obtain⟨a1,a2,a3⟩:=one (Y:=Y) (d:=q.2) (hp q ms0);obtain⟨b1,b2,b3⟩:=ih (Y.set q.1 (.dat q.2)) λx hx=>hp x (mc0 _ hx)
   exact⟨b1.trans a1,λj hj=>(b2 j hj).trans (a2 j hj),λh=>b3 (a3 h)⟩
 have mem:∀{is:List Nat}{ds:List D},(is.all λi=>decide (i<n))=true->∀p∈is.zip ds,p.1<n:=λh p hp=>od0 (List.all_eq_true.mp h p.1 (List.of_mem_zip (a:=p.1) (b:=p.2) hp).1)
 cases t with
 |one i=>cases hb;exact one (od0 ht)
 |tup is=>
  cases d with
  |tuple ds=>
   rw[fG]at hb;split at hb
   .cases hb;exact fold _ _ (mem ht)
   .cases hb
  |_=>cases hb
def Ecs(X:Cx)(Y:List Sl)(ifs:List Expr)(t:Bool):Prop:=PCs X ifs (tEt X.K Y t)
def zh:Ecs X Y [] true:=by rintro pins s σ H Q I ⟨G0,H0,G,E,k⟩;exact pcs_nil pins s σ H Q I (k G H (.refl E.sub))
def zi(h:Et X Y c t):Ecs X Y [c] t:=(λpins s σ H Q I q=>wpAny_tests_one (h _ s σ H Q I q))
theorem iw(f:D->Option (Option D)):∀(xs:List D)(d:D),aB f (xs++[d])=(aB f xs).bind λa=>(f d).map λo=>a++o.toList
 |[],d=>by
  show (f d).bind _=_;cases f d with
  |none=>rfl
  |some o=>cases o<;>rfl
 |x::r,d=>by
  show (f x).bind _=((f x).bind _).bind _;cases f x with
  |none=>rfl
  |some o=>
   show (aB f (r++[d])).map _=((aB f r).map _).bind _;rw[iw f r d];cases aB f r with
   |none=>rfl
   |some q=>cases f d with
    |none=>rfl
    |some u=>cases o<;>rfl
def oQ{f:D->Option (Option D)}(h:aB f ds=some out):∀i≤ds.length,∃q,aB f (ds.take i)=some q:=by
 have key:∀(xs ys:List D)(out:List D),aB f (xs++ys)=some out->∃q,aB f xs=some q:=by
  intro xs
  induction xs with
  |nil=>intro ys out _;exact⟨_,rfl⟩
  |cons x r ih=>
   intro ys out h;obtain⟨o,h1,h2⟩:=bx0 (show (f x).bind _=some out from h);obtain⟨q,h3,h4⟩:=mx0 h2;obtain⟨q',h5⟩:=ih ys q h3;exact⟨_,by show (f x).bind _=_;rw[h1];show (aB f r).map _=_;rw[h5];rfl⟩
 intro i hi;exact key (ds.take i) (ds.drop i) out (by rw[List.take_append_drop];exact h)
theorem jH{f:D->Option (Option D)}:∀{ds out:List D},aB f ds=some out->out.length<=ds.length
 |[],out,h=>by cases h;exact nr0 _
 |x::r,out,h=>by
  obtain⟨o,h1,h2⟩:=bx0 (show (f x).bind _=some out from h);obtain⟨q,h3,h4⟩:=mx0 h2;have:=jH h3;subst h4;cases o<;>simp<;>omega
noncomputable def teC(X:Cx)(scope:Scope)(N:List Str)(e:Expr):TE:=λσ H Q=>∀C s0 H0 fp pins s,Inv (L2.C.blk X scope N C s0 H0 fp) pins σ H s->wpAny (model X.prog X.w) X.A (eval e (L2.C.blk X scope N C s0 H0 fp).env) (EP (L2.C.blk X scope N C s0 H0 fp) pins σ Q) (λa a=>False) s
noncomputable def tcC(X:Cx)(scope:Scope)(N:List Str)(ifs:List Expr):TT:=λσ H Q=>∀C s0 H0 fp pins s,Inv (L2.C.blk X scope N C s0 H0 fp) pins σ H s->wpAny (model X.prog X.w) X.A (kA ifs (L2.C.blk X scope N C s0 H0 fp).env) (TP (L2.C.blk X scope N C s0 H0 fp) pins σ Q) (λa a=>False) s
noncomputable def tgC(X:Cx)(scope:Scope)(N:List Str)(tg:Expr):TG:=λv σ H Q=>∀C s0 H0 fp pins s u,Inv (L2.C.blk X scope N C s0 H0 fp) pins σ H s->RelV v u->wpAny (model X.prog X.w) X.A (assign tg (L2.C.blk X scope N C s0 H0 fp).env u) (λa s'=>∃σ' H',Inv (L2.C.blk X scope N C s0 H0 fp) pins σ' H' s'/\Q σ' H') (λa a=>False) s
structure qw(X:Cx)(Z:Fs)(Γ:List (Str×D))(scope:Scope)(N:List Str)(tg:Expr)(t:Tg)(ifs:List Expr)(ifs':Es)(elt:Expr)(elt':E):Prop where
 tgt:∀(C:Addr)(s:Shared)(H:Hp)(fp:List Addr),Tgj (L2.C.blk X scope N C s H fp) tg t
 test:∀(C:Addr)(s:Shared)(H:Hp)(fp:List Addr) Y b,evC Z Γ Y ifs'=some b->Ecs (L2.C.blk X scope N C s H fp) Y ifs b
 elt:∀(C:Addr)(s:Shared)(H:Hp)(fp:List Addr) Y d,ev Z Γ .val Y elt'=some d->Ev (L2.C.blk X scope N C s H fp) Y elt d
variable {t:Tg}{ifs':Es}{elt':E}
noncomputable abbrev jI(Z:Fs)(Γ:List (Str×D))(n:Nat)(js:List Nat)(t:Tg)(ifs':Es)(elt':E)(Y:List Sl):D->Option (Option D):=
 λd=>(ai t d (SI.blk n js Y)).bind λY'=>(evC Z Γ Y' ifs').bind λb=>if b then (ev Z Γ .val Y' elt').map some else some none
def jJ{H1:Hp}{J:It}{Q:VK}(hi:eC X.K G1 H1 J ds)(T:qw X Z Γ scope (au X tn js) tg t ifs ifs' elt elt')(ht:mf t tn.length=true)(hz:ds.length<=sizeLine)(E:EnvD X.K G0 H0 G1 H1 σ Y)
  (hrun:aB (jI Z Γ tn.length js t ifs' elt' Y) ds=some out)
  (k:∀q vs G' H',Ext G1 H1 G' H'->G' q=none->H1 q=none->H' q=some (.lst vs)->Dps X.K G' out vs->Q (.ref q) H'):
  ∀q,H1 q=none->∃W:Nat->Nat->St->Hp->Prop,(∃m,W 0 m (dg tn js σ) (upd H1 q (.lst [])))/\∀i m σ' H',W i m σ' H'->
   (J.stop i H'/\Q (.ref q) H')\/(J.go i H'/\∀v H2,J.yld i H' v H2->tgC X scope (au X tn js) tg v σ' H2 λσ2 H3=>tcC X scope (au X tn js) ifs σ2 H3 λb H4=>
    if b=true then teC X scope (au X tn js) elt σ2 H4 λy H5=>∃ys,H5 q=some (.lst ys)/\ys.length<sizeLine/\∃m',m'<m/\W (i+1) m' σ2 (upd H5 q (.lst (ys++[y])))else ∃m',m'<m/\W (i+1) m' σ2 H4):=by
 intro q hq0;have noB:du (SI.blk tn.length js Y):=dI;refine⟨λi m σ' H'=>m=ds.length-i/\i<=ds.length/\∃G' ys outs,EnvD X.K G1 H1 G' H' σ' (SI.blk tn.length js Y)/\H' q=some (.lst ys)/\G' q=none/\Dps X.K G' outs ys/\aB (jI Z Γ tn.length js t ifs' elt' Y) (ds.take i)=some outs,
  ⟨ds.length,by simp,Nat.zero_le _,G1,[],[],?_,ae,E.sub.free hq0,.nil,rfl⟩,?_⟩
 .exact (E.blk (tn:=tn) (js:=js)).touch noB (E.sub.free hq0) hq0
 .rintro i m σ' H' ⟨rfl,hil,G',ys,outs,E',hq',hg',r',hc'⟩
  have sm:Same G1 H':=E'.ext.gg.trans E'.sub
  by_cases hlt:i<ds.length
  .refine .inr ⟨hi.go i H' hlt sm E'.ext.hh,λv H2 y=>?_⟩
   have hb:ds[i]?=some ds[i]:=ge0 hlt;have tk:ds.take (i+1)=ds.take i++[ds[i]]:=by rw[List.take_add_one,hb];rfl
   generalize ds[i]=dd at hb tk;obtain⟨outs1,hc1⟩:=oQ hrun (i+1) hlt;have hc2:=hc1;rw[tk,iw,hc']at hc2;obtain⟨o,ho,e1⟩:=mx0 (show (jI Z Γ tn.length js t ifs' elt' Y dd).map _=some outs1 from hc2);obtain⟨Y1,hb1,ho⟩:=bx0 ho;obtain⟨tb,hb2,ho⟩:=bx0 ho;obtain⟨l1,l2,l3⟩:=jG ht hb1;obtain⟨G2,e2,d2⟩:=hi.yld i G' H' v H2 dd hb E'.ext.gg E'.sub E'.ext.hh y;have hq2:H2 q=some (.lst ys):=e2.hh _ _ hq';have hg2:G2 q=none:=e2.nw _ _ hg' hq';have r2:=r'.mono e2.gg;have hlen:ys.length<=i:=by
    rw[<-r'.length];exact nt0 (jH hc') (by rw[List.length_take];omega)
   have no1:=l3 noB;have back:∀{G3 H3:Hp}{σ3:St},EnvD X.K G1 H1 G3 H3 σ3 Y1->EnvD X.K G1 H1 G3 H3 σ3 (SI.blk tn.length js Y):=λE3=>E3.forget l1.symm λj sl hj=>by
    by_cases hjn:j<tn.length
    .left
     rcases blk_at hj with z|⟨_,_,z,_⟩
     .exact z
     .omega
    .right;rw[l2 j (by omega)];exact hj
   intro C s0 H0' fp pins s u I rv;refine T.tgt C s0 H0' fp dd pins s σ' H2 v u _ I rv ⟨G1,H1,G2,_,Y1,E'.step e2,d2,hb1,λσ2 E2=>?_⟩;intro C s0 H0' fp pins s I;refine T.test C s0 H0' fp Y1 tb hb2 pins s _ H2 _ I ⟨G1,H1,G2,E2,λG3 H3 e3=>?_⟩;have hq3:H3 q=some (.lst ys):=e3.hh _ _ hq2;have hg3:G3 q=none:=e3.nw _ _ hg2 hq2;cases tb with
   |false=>
    rw[if_neg fx0]at ho;cases ho;subst e1;refine kz ⟨ds.length-(i+1),by omega,rfl,hlt,G3,ys,_,back (E2.step e3),hq3,hg3,?_,hc1⟩;rw[Option.toList_none,List.append_nil];exact r2.mono e3.gg
   |true=>
    rw[if_pos rfl]at ho;obtain⟨w0,hw,e4⟩:=mx0 ho;subst e4 e1;refine iteT ?_;intro C s0 H0' fp pins s I;refine T.elt C s0 H0' fp Y1 w0 hw pins s _ H3 _ I ⟨G1,H1,G3,E2.step e3,λw G4 H4 e4 r4=>?_⟩;refine⟨ys,e4.hh _ _ hq3,by omega,ds.length-(i+1),by omega,rfl,hlt,G4,ys++[w],_,(back ((E2.step e3).step e4)).touch noB (e4.nw _ _ hg3 hq3) hq0,ae,e4.nw _ _ hg3 hq3,?_,hc1⟩;exact ((r2.mono e3.gg).mono e4.gg).append (.one r4)
  .have e:i=ds.length:=by omega
   subst e;rw[List.take_length,hrun]at hc';cases hc';exact .inl ⟨hi.stop H' sm E'.ext.hh,k q ys G' H' E'.ext hg' hq0 hq' r'⟩
def qy(B:BlkOk X scope js)(hcalm:X.calm=true)(hi:PI X tg iter (tSi X.K Y false ds))(T:qw X Z Γ scope (au X tn js) tg t ifs ifs' elt elt')(ht:mf t tn.length=true)(hz:ds.length<=sizeLine)
  (hrun:aB (jI Z Γ tn.length js t ifs' elt' Y) ds=some out) (hs:∀x,foldedSetIterable iter X.env x=pure x):En X Y (.ListComp elt [⟨tg,iter,ifs,0⟩] scope pos) (.list out):=by
 intro pins s σ H Q I h;obtain⟨G0,H0,G,E,k⟩:=h;refine ql (tn:=tn) (js:=js) (g:=tgC X scope (au X tn js) tg) (tc:=tcC X scope (au X tn js) ifs) (te:=teC X scope (au X tn js) elt) B hcalm hi
  (λC s H fp pins s' σ' H' v u Q' I' r h=>h C s H fp pins s' u I' r) (λC s H fp pins s' σ' H' Q' I' h=>h C s H fp pins s' I') (λC s H fp pins s' σ' H' Q' I' h=>h C s H fp pins s' I') hs pins s σ H Q I ?_
 refine⟨G0,H0,G,E,λJ G1 H1 e1 hJ=>jJ hJ T ht hz (E.step e1) hrun λq vs G' H' e2 g1 h1 h2 r=>k q G' H' (e1.trans e2) g1 (e1.hh.free h1) (.inl ⟨_,_,rfl,h2,r⟩)⟩
end
def Goes(K:Fg)(G0 H0 G:Hp)(o:Out)(F:Ends):Prop:=match o with
 |.nx Y'=>∀G' H' σ',EnvD K G0 H0 G' H' σ' Y'->Same G G'->F.nx σ' H'
 |.rt d=>∀v G' H',Dp K G' d v->Ext G0 H0 G' H'->F.rt v H'
def Goes.go{G:Hp}{o:Out}{F:Ends}(h:Goes K G0 H0 G o F)(s:Same G G1):Goes K G0 H0 G1 o F:=by
 cases o with
 |nx Y'=>exact λG' H' σ' e g=>h G' H' σ' e (s.trans g)
 |rt d=>exact h
noncomputable def tEp(K:Fg)(Y:List Sl)(o:Out):TS:=λF σ H=>∃G0 H0 G,EnvD K G0 H0 G H σ Y/\Goes K G0 H0 G o F
def E1(X:Cx)(Y:List Sl)(st:Stmt)(o:Out):Prop:=PS X st (tEp X.K Y o)
def Ep(X:Cx)(Y:List Sl)(sts:List Stmt)(o:Out):Prop:=PSs X sts (tEp X.K Y o)
section
variable {rest:List Stmt}{o:Out}{e:Expr}{p:Pos}{es:List D}
def DE:Ep X Y [] (.nx Y):=by rintro pins s σ H F I ⟨G0,H0,G,env,R⟩;exact dD pins s σ H F I (R G H σ env (Same.refl _))
def vx(h1:E1 X Y st (.nx Y1))(h2:Ep X Y1 rest o):Ep X Y (st::rest) o:=λpins s σ H F I ⟨G0,H0,G,env,R⟩=>
 aI h1 h2 pins s σ H F I ⟨G0,H0,G,env,λG' H' σ' env' g=>⟨G0,H0,G',env',R.go g⟩⟩
def vy(h1:E1 X Y st (.rt d)):Ep X Y (st::rest) (.rt d):=λpins s σ H F I ⟨G0,H0,G,env,R⟩=>
 aI (u:=λa a a=>False) h1 (λa a a a a a z=>z.elim) pins s σ H F I ⟨G0,H0,G,env,R⟩
def DF(h:Ev X (Y.map freeze) e d):E1 X Y (.Return (some e) pos) (.rt d):=by
 rintro pins s σ H F I ⟨G0,H0,G,env,R⟩
 obtain⟨G1,env1,s1⟩:=env.freeze;exact km h pins s σ H F I ⟨G0,H0,G1,env1,λv G' H' e1 r=>R v G' H' r (env1.ext.trans e1)⟩
structure Sto(X:Cx)(x:Str)(i:Nat):Prop where
 nd:X.N.Nodup
 nm:DD X x i
def Sto.lt(S:Sto X x i){pins}{H}{s}(I:Inv X pins σ H s):i<σ.length:=by rw[I.len];exact (gi0 S.nm.at').1
def DG(S:Sto X x i)(h:Ev X Y e d)(hs:swapsWith e (some (.Name x pos')) pos.line X.env=pure false):E1 X Y (.Assign [.Name x pos'] e pos) (.nx (Y.set i (.dat d))):=
 λpins s σ H F I ⟨G0,H0,G,env,R⟩=>kn S.nd S.nm.at' S.nm.loc h hs S.nm.fn pins s σ H F I ⟨G0,H0,G,env,λv G' H' e1 r=>
  R G' H' _ ((env.step e1).set (S.lt I) r) e1.gg⟩
def vz(S:Sto X x i)(h:En X Y e d)(hs:swapsWith e (some (.Name x pos')) pos.line X.env=pure false):E1 X Y (.Assign [.Name x pos'] e pos) (.nx (Y.set i (.own d))):=
 λpins s σ H F I ⟨G0,H0,G,env,R⟩=>kn S.nd S.nm.at' S.nm.loc h hs S.nm.fn pins s σ H F I ⟨G0,H0,G,env,λp G' H' e1 g1 h1 r=>
  R G' H' _ ((env.step e1).setOwn (S.lt I) r g1 (env.ext.hh.free h1) (env.fresh h1)) e1.gg⟩
def zj{ifs:List Expr}{t:Tg}{ifs':Es}{elt':E}(S:Sto X x i)(B:BlkOk X scope js)(hcalm:X.calm=true)(hi:PI X tg iter (tSi X.K Y false ds))
  (T:qw X Z Γ scope (au X tn js) tg t ifs ifs' elt elt') (ht:mf t tn.length=true) (hz:ds.length<=sizeLine) (hrun:aB (jI Z Γ tn.length js t ifs' elt' Y) ds=some out) (hs:∀x,foldedSetIterable iter X.env x=pure x)
  (hy:X.env.scope.names.lookup x=some .local) (hsw:swapsWith (.ListComp elt [⟨tg,iter,ifs,0⟩] scope p) (some (.Name x pos')) pos.line X.env=pure true):
  E1 X Y (.Assign [.Name x pos'] (.ListComp elt [⟨tg,iter,ifs,0⟩] scope p) pos) (.nx (Y.set i (.own (.list out)))):=by
 intro pins s σ H F I h;obtain⟨G0,H0,G,env,R⟩:=h;refine yG (tn:=tn) (js:=js) (g:=tgC X scope (au X tn js) tg) (tc:=tcC X scope (au X tn js) ifs) (te:=teC X scope (au X tn js) elt) B hcalm hi
  (λC s H fp pins s' σ' H' v u Q' I' r h=>h C s H fp pins s' u I' r) (λC s H fp pins s' σ' H' Q' I' h=>h C s H fp pins s' I') (λC s H fp pins s' σ' H' Q' I' h=>h C s H fp pins s' I') S.nd S.nm.at' hy hsw hs pins s σ H F I ?_
 refine⟨G0,H0,G,env,λJ G1 H1 e1 hJ=>jJ (Q:=λv H'=>F.nx (σ.set i (some v)) H') hJ T ht hz (env.step e1) hrun λq vs G' H' e2 g1 h1 h2 r=>?_⟩;have en:=(env.step e1).step e2;exact R G' H' _ (en.setOwn (S.lt I) (.inl ⟨_,_,rfl,h2,r⟩) g1 (env.ext.hh.free (e1.hh.free h1)) ((env.step e1).fresh h1)) (e1.gg.trans e2.gg)
def vA(S:Sto X x i)(h:E1 X Y st (.nx (Y.set i (.own d)))):E1 X Y st (.nx (Y.set i (.dat d))):=λpins s σ H F I ⟨G0,H0,G,env,R⟩=>
 h pins s σ H F I ⟨G0,H0,G,env,λG' H' σ' env' g=>by
  have hi:i<Y.length:=by rw[<-env.len];exact S.lt I
  obtain⟨G2,env2,s2⟩:=env'.freeze1 (i:=i) (d:=d) (gs0 hi);rw[List.set_set]at env2;exact R G2 H' σ' env2 (g.trans s2)⟩
def GT{a b:List Stmt}(h:Et X Y c t)(ha:t=true->Ep X Y a o)(hb:t=false->Ep X Y b o):E1 X Y (.If c a b pos) o:=by
 cases t with
 |true=>
  intro pins s σ H F I h0;obtain⟨G0,H0,G,env,R⟩:=h0;exact lM (u:=λd d d=>False) h (ha rfl) (λd d d d d d z=>z.elim) pins s σ H F I ⟨G0,H0,G,env,λG1 H1 e1=>iteT ⟨G0,H0,G1,env.step e1,R.go e1.gg⟩⟩
 |false=>
  intro pins s σ H F I h0;obtain⟨G0,H0,G,env,R⟩:=h0;exact lM (t:=λd d d=>False) h (λd d d d d d z=>z.elim) (hb rfl) pins s σ H F I ⟨G0,H0,G,env,λG1 H1 e1=>kz ⟨G0,H0,G1,env.step e1,R.go e1.gg⟩⟩
noncomputable def tXs(X:Cx)(body:List Stmt):TS:=λF σ H=>∀pins s,Inv X pins σ H s->wpAny (model X.prog X.w) X.A (execs body X.env) (SP X pins F) X.xe s
def Bi:PSs X body (tXs X body):=λpins s σ H F I h=>h pins s I
noncomputable def tXg(X:Cx)(tg:Expr):TG:=λv σ H Q=>∀pins s u,Inv X pins σ H s->RelV v u->wpAny (model X.prog X.w) X.A (assign tg X.env u) (λa s'=>∃σ' H',Inv X pins σ' H' s'/\Q σ' H') X.xe s
def GU:PG X tg (tXg X tg):=λpins s σ H v u Q I r h=>h pins s u I r
def DH{t:Tg}{run:List Sl->Option Out}(hi:Si X Y true iter ds)(ht:Tgj X tg t)(hb:∀Y' o',run Y'=some o'->Ep X Y' body o')(h:forL (ai t) run ds Y=some o)
  (hc:X.calm=true) (hp:PassesOwn (model X.prog X.w) X.A X.env X.xe) (hf:∀x,foldedSetIterable iter X.env x=pure x):E1 X Y (.For tg iter body [] pos) o:=by
 intro pins s σ H F I h0;obtain⟨G0,H0,G,env,R⟩:=h0;refine ug hp hc (hi _) (GU (tg:=tg)) (Bi (body:=body)) hf pins s σ H F I ?_;refine⟨G0,H0,G,env,λJ G1 H1 e1 hJ=>⟨λk m σ' H'=>m=ds.length-k/\k<=ds.length/\∃Y' G',forL (ai t) run (ds.drop k) Y'=some o/\EnvD X.K G0 H0 G' H' σ' Y'/\Same G1 G',⟨ds.length,by simp,Nat.zero_le _,Y,G1,h,env.step e1,Same.refl _⟩,?_⟩⟩
 rintro k m σ' H' ⟨rfl,hk,Y',G',pv,env',g1⟩
 have g0:Same G G':=e1.gg.trans g1
 by_cases hlt:k<ds.length
 .refine .inr ⟨hJ.go k H' hlt (g1.trans env'.sub) env'.ext.hh,λσ2 H2=>k+1<=ds.length/\∃Y2 G2,forL (ai t) run (ds.drop (k+1)) Y2=some o/\EnvD X.K G0 H0 G2 H2 σ2 Y2/\Same G1 G2,λσ2 H2 ⟨h1,Y2,G2,p2,en2,s2⟩=>⟨ds.length-(k+1),by omega,rfl,h1,Y2,G2,p2,en2,s2⟩,λv H2 y=>?_⟩
  have hd:ds[k]?=some ds[k]:=ge0 hlt;rw[List.drop_eq_getElem_cons hlt]at pv;generalize ds[k]=dd at hd pv;obtain⟨Y1,b1,pv⟩:=bx0 (show (ai t dd Y').bind _=some o from pv);obtain⟨o1,b2,pv⟩:=bx0 pv;obtain⟨G2,e2,d2⟩:=hJ.yld k G' H' v H2 dd hd g1 env'.sub env'.ext.hh y;intro pins' s' u' I' r';refine ht dd pins' s' σ' H2 v u' _ I' r' ⟨G0,H0,G2,Y',Y1,env'.step e2,d2,b1,λσ2 en2=>?_⟩;intro pins2 s2 I2;refine hb Y1 o1 b2 pins2 s2 σ2 H2 _ I2 ⟨G0,H0,G2,en2,?_⟩;cases o1 with
  |nx Y3=>exact λG3 H3 σ3 en3 g3=>⟨hlt,Y3,G3,pv,en3,g1.trans (e2.gg.trans g3)⟩
  |rt dr=>
   cases pv;exact R
 .have e:k=ds.length:=by omega
  subst e;rw[List.drop_length]at pv;cases pv;exact .inl ⟨hJ.stop H' (g1.trans env'.sub) env'.ext.hh,R G' H' σ' env' g0⟩
end
structure VarOk(X:Cx)(x:Str)(i:Nat):Prop where
 at':X.N[i]?=some x
 vis:Vis X.env.scope x
 d:(x==("__debug__":Str))=false
 cd:(x==("__classdict__":Str))=false
section
variable {rest:List Stmt}{o:Out}{e k:Expr}{p:Pos}{es:List D}
def VarOk.pe(V:VarOk X x i):PE X (.Name x p) (tY i):=cF V.at' V.vis V.d V.cd
def fK{name}:attributeBase (.Name x p1) name env (eval (.Name x p1) env)=eval (.Name x p1) env:=rfl
def eU{G:Hp}(env:EnvD K G0 H0 G H σ Y)(h:Y[i]?=some (.own (.list ds))):∃q vs,σ[i]?=some (some (.ref q))/\H q=some (.lst vs)/\Dps K G ds vs:=by
 obtain⟨q,a,_,_,g⟩:=env.own i _ h;rcases g with⟨ds',vs,h1,h2,h3⟩|⟨kvs,ws,h1,_⟩
 .cases h1;exact⟨q,vs,a,h2,h3⟩
 .cases h1
def lZ{G:Hp}{kvs:List (Key×D)}(env:EnvD K G0 H0 G H σ Y)(h:Y[i]?=some (.own (.dict kvs))):∃q vs,σ[i]?=some (some (.ref q))/\H q=some (.dK vs)/\Dks K G kvs vs:=by
 obtain⟨q,a,_,_,g⟩:=env.own i _ h;rcases g with⟨ds',vs,h1,h2,h3⟩|⟨kvs,ws,h1,h2,h3⟩
 .cases h1
 .cases h1;exact⟨q,ws,a,h2,h3⟩
def DI(V:VarOk X x i)(h:Ev X Y e d)(hs:isStar e=false)(ho:Y[i]?=some (.own (.list ds)))(hz:ds.length<sizeLine)(hline:(apos.endLine==cpos.line)=true):
  E1 X Y (.Expr (.Call (.Attribute (.Name x p1) "append" apos) [e] [] cpos) pos) (.nx (Y.set i (.own (.list (ds++[d]))))):=by
 have hS:=af (es:=[]) (env:=X.env) hs;intro pins s σ H F I h0;obtain⟨G0,H0,G,env,R⟩:=h0;obtain⟨q,vs,a,b,g⟩:=eU env ho;refine cG (ju PySem.F.plainAttrs_list PySem.F.slot_list_append PySem.F.type_list_append fC V.pe (ay h aT hS) fK (by rw[hS];rfl) hline hS rfl) rfl pins s σ H F I ?_;refine⟨.ref q,a,.inl ⟨rfl,vs,SqL.of b⟩,G0,H0,G,env,λw G1 H1 e1 r=>?_⟩;exact⟨q,vs,w,rfl,rfl,e1.hh _ _ b,by rw[<-g.length];exact hz,R G1 _ _ ((env.step e1).change ho a (.inl ⟨_,_,rfl,ae,(g.mono e1.gg).append (.one r)⟩)) e1.gg⟩
def DJ(V:VarOk X x i)(h:Er X Y e (.list es))(hs:isStar e=false)(ho:Y[i]?=some (.own (.list ds)))(hz:ds.length+es.length<=sizeLine)(hline:(apos.endLine==cpos.line)=true):
  E1 X Y (.Expr (.Call (.Attribute (.Name x p1) "extend" apos) [e] [] cpos) pos) (.nx (Y.set i (.own (.list (ds++es))))):=by
 have hS:=af (es:=[]) (env:=X.env) hs;intro pins s σ H F I h0;obtain⟨G0,H0,G,env,R⟩:=h0;obtain⟨q,vs,a,b,g⟩:=eU env ho;refine cG (ju PySem.F.plainAttrs_list PySem.F.slot_list_extend PySem.F.type_list_extend rT V.pe (ay h aT hS) fK (by rw[hS];rfl) hline hS rfl) rfl pins s σ H F I ?_;refine⟨.ref q,a,.inl ⟨rfl,vs,SqL.of b⟩,G0,H0,G,env,λw G1 H1 e1 r=>?_⟩;obtain⟨q2,ws,rfl,h2,r2⟩:=r.lst e1.gh;exact⟨q,q2,vs,ws,rfl,rfl,e1.hh _ _ b,h2,by rw[<-g.length,<-r2.length];exact hz,R G1 _ _ ((env.step e1).change ho a (.inl ⟨_,_,rfl,ae,(g.mono e1.gg).append r2⟩)) e1.gg⟩
def oR(hk:isSlice k=false):∀v,assign (.Subscript (.Name x p1) k spos) env v=(do
   let ov ←holding [v] (eval (.Name x p1) env)
   let iv ←holding [v,ov] (eval k env)
   standAt spos
   holding [v,ov,iv] (setItem ov iv v)
   release [v,ov,iv] []):=by
 intro v;cases k<;>first|rfl|cases hk
def sE :swapsWithSole [.Subscript (.Name x p1) k spos] e pos.line env=pure false:=by
 unfold swapsWithSole swapsWith;cases e<;>rfl
def mD :swappedStores [.Subscript (.Name x p1) k spos] e env=pure .none:=by
 unfold swappedStores;cases e<;>rfl
def zk{n:Int}{m:Nat}(V:VarOk X x i)(h:Ev X Y e d)(hk:Ev X Y k (.int n))(hks:isSlice k=false)(ho:Y[i]?=some (.own (.list ds)))(hm:SI.ixN ds.length n=some m):
  E1 X Y (.Assign [.Subscript (.Name x p1) k spos] e pos) (.nx (Y.set i (.own (.list (ds.set m d))))):=by
 intro pins s σ H F I h0;obtain⟨G0,H0,G,env,R⟩:=h0;obtain⟨q,vs,a,b,g⟩:=eU env ho;refine nX h (ud V.pe hk set_list (oR hks)) sE mD rfl pins s σ H F I ?_;refine⟨G0,H0,G,env,λv G1 H1 e1 r1=>⟨.ref q,a,G0,H0,G1,env.step e1,λw G2 H2 e2 r2=>?_⟩⟩;cases r2;have e3:=e1.trans e2;exact⟨q,vs,n,m,rfl,rfl,e3.hh _ _ b,by rw[<-g.length];exact hm,R G2 _ _ ((env.step e3).change ho a (.inl ⟨_,_,rfl,ae,(g.mono e3.gg).set (r1.mono e2.gg) m⟩)) e3.gg⟩
end
def fL(h:N.idxOf? x=some i):N[i]?=some x:=by
 unfold List.idxOf? at h;obtain⟨h1,h2,_⟩:=List.findIdx?_eq_some_iff_getElem.mp h;rw[ge0 h1];exact congrArg some (eq_of_beq h2)
structure CxC(X:Cx)(C:Cs):Prop where
 N:X.N=C.N
 nd:C.N.Nodup
 vis:∀x k,C.sc.names.lookup x=some k->(k=.local\/k=.cell\/k=.free)->Vis X.env.scope x
 loc:∀x k,C.sc.names.lookup x=some k->(k=.local\/k=.cell)->Loc X.env.scope x/\(X.fn x=true\/X.env.scope.names.lookup x=some .local)
 cell:∀x,C.sc.names.lookup x=some .cell->X.env.kindOf x=some .cell
 glob:∀x,C.sc.names.lookup x=some .globalImplicit->Gl X x
 calm:X.calm=true
 kind:X.env.scope.kind=.function
noncomputable def bltNames:List Str:=["len","max","min","int","list","str","isinstance","range","tuple","bool","reversed","dict","zip","all","ord","sorted","set"]
structure FnZv(P:Program)(w:World)(K:Fg)(mg:Str->Option Value)(base:Heap)(k:Nat)(c:Addr)(m:Str)(L:Fn):Prop where
 nm:m≠"objects"/\m≠"numbers"
 ex:∃f fd ps,kr K c m f/\Binds K fd ps []/\FnOk P w K mg base CX0 k f fd ps (Pur K L)
structure Wz(X:Cx)(Z:Fs)(Γ:List (Str×D))(C:Cs)(k:Nat):Prop where
 blt:∀x∈bltNames,X.mg x=Option.none
 fns:∀x,C.fns.contains x=true->∀L,Z x=some L->FnZ X.prog X.w X.K X.mg X.base k x L
 gl:∀x d,Γ.lookup x=some d->∃u v,X.mg x=some u/\RelV v u/\∀G,Dp X.K G d v
 room:Room k X.A
 vc:∀c,C.vc=some c->Cls X.K c/\NoAttr X.K c "objects"
 vf:∀c m,C.vc=some c->C.vms.contains m=true->∀L,Z (aq m)=some L->FnZv X.prog X.w X.K X.mg X.base k c m L
structure SdE(X:Cx)(Z:Fs)(Γ:List (Str×D))(e:Expr)(E':E)(n:Bool):Prop where
 v:∀{Y d},ev Z Γ .val Y E'=some d->Ev X Y e d
 r:∀{Y d},ev Z Γ .read Y E'=some d->Er X Y e d
 w:∀{Y d},ev Z Γ .walk Y E'=some d->Ek X Y e d
 t:∀{Y d},ev Z Γ .test Y E'=some d->∃b,d=.bool b/\Et X Y e b
 n:n=true->∀{Y d},ev Z Γ .val Y E'=some d->bL d=true->En X Y e d
def jK(hsup:aL o=false)(hs:aG es)(hn:es.length<=20)(hline:(apos.endLine==pos.line)=true):
  eval (.Call (.Attribute o m apos) es [] pos) env=(do
   let ov ←eval o env
   standAt apos.atName
   let (f,first) ←holding [ov] (getMethod ov m (do return (<-importBound o env).getD true))
   callWith pos f first (backTo pos (starEach es env)) (backToKw pos (keywordEach [] env))):=by
 have hform:methodCallForm (es.length+([]:List Keyword).length) (backTo pos (starEach es env)) (backToKw pos (keywordEach [] env))=true:=by
  unfold methodCallForm;rw[jE hs];show (true&&true&&decide (es.length+0+0<30))=true;rw[dt0 (by omega)];rfl
 rw[arm_eval_Call,base_of hsup];unfold methodCall;rw[hform];have hpos:methodCallPos true o env apos pos=pure pos:=by unfold methodCallPos;simp[hline]
 rw[hpos];rfl
section
variable {e:Expr}{c h k:Nat}{os:List D}{p:Pos}
def DK(hc:Cls X.K c)(hn:NoAttr X.K c "objects")(ho:Er X Y o (.vlt c h os))(hsup:aL o=false):Er X Y (.Attribute o "objects" pos) (.list os):=
 λpins s σ H Q I ⟨G0,H0,G,E,k⟩=>om ho (base_of hsup) pins s σ H Q I ⟨G0,H0,G,E,λv G1 H1 e1 r1=>by
  cases r1 with
  |of r1=>cases r1
  |vlt h1 h2 r=>exact⟨_,_,_,_,_,rfl,h1,hc,hn,rfl,k _ G1 H1 e1 (.list h2 r)⟩⟩
def vB{G:Hp}{v:V}(hm:m≠"objects"/\m≠"numbers")(r:Dr K G H (.vlt c h os) v):∃a dx fs,v=.ref a/\H a=some (.ins c dx fs)/\fs.lookup m=.none:=by
 cases r with
 |of r1=>cases r1
 |vlt h1 h2 r=>
  refine⟨_,_,_,rfl,h1,?_⟩;have n1:(m==("objects":Str))=false:=bn0 hm.1;have n2:(m==("numbers":Str))=false:=bn0 hm.2;simp[vfs,lk0,n1,n2]
def vC{L:Fn}(F:FnZv X.prog X.w X.K X.mg X.base k c m L)(hc:Cls X.K c)(hr:Room k X.A)(ho:Er X Y o (.vlt c h os))(ha:Ea X Y L.lent.tail es ds)(hl:L.lent.headD false=true)(hrun:L.run (.vlt c h os::ds)=some d)(hs:aG es)(hnil:es=[]->ds=[])
  {pl:Sem Bool} (ht:eval (.Call (.Attribute o m apos) es [] pos) X.env=(do
   let ov ←eval o X.env
   standAt apos.atName
   let (f,first) ←holding [ov] (getMethod ov m pl)
   callWith pos f first (backTo pos (starEach es X.env)) (backToKw pos (keywordEach [] X.env)))):Ev X Y (.Call (.Attribute o m apos) es [] pos) d:=by
 obtain⟨f,fd,ps,hm,hb,Ff⟩:=F.ex;intro pins s σ H Q I h0;obtain⟨G0,H0,G,E,kq⟩:=h0;cases es with
 |nil=>
  refine uu (pl:=pl) ho hc hm Ff hr hb .nil qi ht pins s σ H Q I ⟨G0,H0,G,E,λv G1 H1 e1 r1=>?_⟩;obtain⟨a,dx,fs,rfl,h1,h2⟩:=vB F.nm r1;refine⟨a,dx,fs,rfl,h1,h2,?_⟩;have hds:ds=[]:=hnil rfl;subst hds;exact⟨[.vlt c h os],d,G1,hrun,e1.gh,.cons (λz=>by rw[hl]at z;cases z) r1 .nil,λv G' H' e2 r2=>kq v G' H' (e1.trans e2) r2⟩
 |cons e es=>
  refine yv (pl:=pl) ho hc hm Ff hr hb .nil qi ha (af (hs e ms0)) (aD λy hy=>hs y (mc0 _ hy)) ht pins s σ H Q I ⟨G0,H0,G,E,λv G1 H1 e1 r1=>?_⟩;obtain⟨a,dx,fs,rfl,h1,h2⟩:=vB F.nm r1;refine⟨a,dx,fs,rfl,h1,h2,G0,H0,G1,E.step e1,λvs G2 H2 e2 r2=>?_⟩;exact⟨.vlt c h os::ds,d,G2,hrun,e2.gh,by rw[List.append_nil];exact .cons (λz=>by rw[hl]at z;cases z) (r1.ext e2) r2,λv G' H' e3 r3=>kq v G' H' (e1.trans (e2.trans e3)) r3⟩
end
section
variable {C:Cs}{k:Nat}{e:Expr}{E':E}
def vD{n:Bool}{core:List Sl->Option D}(h:∀m Y,ev Z Γ m Y E'=fin m (core Y))(hv:∀Y d,core Y=some d->Ev X Y e d/\(n=true->bL d=true->En X Y e d))(ht:∀Y d t,core Y=some d->fF d=some t->Et X Y e t):SdE X Z Γ e E' n:=by
 refine⟨λq=>?_,λq=>?_,λq=>?_,λq=>?_,λf a a q=>?_⟩
 .rw[h]at q;exact (hv _ _ q).1
 .rw[h]at q;exact (hv _ _ q).1.er
 .rw[h]at q;exact (hv _ _ q).1.ek
 .rw[h]at q
  obtain⟨d',q1,q2⟩:=bx0 q;obtain⟨t,q3,q4⟩:=mx0 q2;exact⟨t,q4.symm,ht _ d' t q1 q3⟩
 .rw[h]at q;exact (hv _ _ q).2 f
def cg{n:Bool}{core:List Sl->Option D}(h:∀m Y,ev Z Γ m Y E'=fin m (core Y))(hv:∀Y d,core Y=some d->Ev X Y e d/\(n=true->bL d=true->En X Y e d))(he:∀whole,isTrue e X.env whole=(do let v ←whole;standAt e.pos;holding [v] (truthy v)):=by exact λa=>rfl):SdE X Z Γ e E' n:=
 vD h hv λY d t q1 q2=>ie (hv Y d q1).1.er q2 he
def bu{core:List Sl->Option D}(h:∀m Y,ev Z Γ m Y E'=fin m (core Y))(hv:∀Y d,core Y=some d->Ev X Y e d)(he:∀whole,isTrue e X.env whole=(do let v ←whole;standAt e.pos;holding [v] (truthy v)):=by exact λa=>rfl):SdE X Z Γ e E' false:=
 cg h (λY d q=>⟨hv Y d q,λz=>by cases z⟩) he
def oU{core:List Sl->Option D}(h:∀m Y,ev Z Γ m Y E'=fin m (core Y))(hv:∀Y d,core Y=some d->En X Y e d)(he:∀whole,isTrue e X.env whole=(do let v ←whole;standAt e.pos;holding [v] (truthy v)):=by exact λa=>rfl):SdE X Z Γ e E' true:=
 cg h (λY d q=>⟨(hv Y d q).ev,λa a=>hv Y d q⟩) he
set_option tactic.hygienic true
def cU(c:CxC X C)(h:gi C x=some i):VarOk X x i:=by
 unfold gi at h;split at h
 .rename_i j hj
  split at h
  .rename_i q
   cases h;rw[be0,Bool.or_eq_true,Bool.or_eq_true]at q;obtain⟨q1,q2⟩:=q;unfold cf at q2;rw[be0,be0]at q2;refine⟨by rw[c.N];exact fL hj,?_,by simpa using q2.1.1,by simpa using q2.1.2⟩;unfold bW at q1;rcases q1 with (q1|q1)|q1
   .exact c.vis x _ (eq_of_beq q1) (.inl rfl)
   .exact c.vis x _ (eq_of_beq q1) (.inr (.inl rfl))
   .exact c.vis x _ (eq_of_beq q1) (.inr (.inr rfl))
  .cases h
 .cases h
def iy(c:CxC X C)(h:hZ C x=some i):DD X x i:=by
 unfold hZ at h;split at h
 .rename_i j hj
  split at h
  .rename_i q
   cases h;rw[be0,Bool.or_eq_true]at q;obtain⟨q1,q2⟩:=q;unfold bW at q1;have l:Loc X.env.scope x/\(X.fn x=true\/X.env.scope.names.lookup x=some .local):=by
    rcases q1 with q1|q1
    .exact c.loc x _ (eq_of_beq q1) (.inl rfl)
    .exact c.loc x _ (eq_of_beq q1) (.inr rfl)
   exact⟨by rw[c.N];exact fL hj,l.1,l.2⟩
  .cases h
 .cases h
set_option tactic.hygienic false
def eJ(c:CxC X C)(h:hZ C x=some i):Sto X x i:=⟨by rw[c.N];exact c.nd,iy c h⟩
def aR(c:CxC X C)(h:ao C x=true):Gl X x/\x≠"__name__"/\(x==("__debug__":Str))=false:=by
 unfold ao at h;rw[be0]at h;unfold cf bW at h;rw[be0,be0]at h;exact⟨c.glob x (eq_of_beq h.1),by simpa using h.2.2,by simpa using h.2.1.1⟩
def bf(c:CxC X C)(w:Wz X Z Γ C k)(h:ao C x=true)(hb:x∈bltNames):Blt X x:=⟨(aR c h).1,w.blt x hb,(aR c h).2.1,(aR c h).2.2⟩
def vF(c:CxC X C){t:Tg}(h:cTg C tg=some t):Tgj X tg t:=by
 have nms:∀{es:List Expr}{is:List Nat},slots C es=some is->Nms X es is:=by
  intro es
  induction es with
  |nil=>intro is h;cases h;exact .nil
  |cons e r ih=>
   intro is h;cases e with
   |Name x px=>
    obtain⟨i,h1,h2⟩:=bx0 (show (hZ C x).bind _=some is from h);obtain⟨is',h3,rfl⟩:=mx0 h2;exact .cons (iy c h1) (ih h3)
   |_=>cases h
 cases tg with
 |Name x px=>
  obtain⟨i,h1,rfl⟩:=mx0 (show (hZ C x).map _=some t from h);have n:=iy c h1;exact mC (by rw[c.N];exact c.nd) n.at' n.loc n.fn
 |Tuple es n pos=>
  obtain⟨is,h1,rfl⟩:=mx0 (show (slots C es).map _=some t from h);exact zg c.calm (by rw[c.N];exact c.nd) (nms h1)
 |_=>cases h
theorem jL :∀{xs:List Str}{js:List Nat},oI N xs=some js->(js.map λj=>N.getD j Str.empty)=xs/\∀j∈js,∃x∈xs,N[j]?=some x
 |[],js,h=>by cases h;exact⟨rfl,λa z=>by cases z⟩
 |x::r,js,h=>by
  obtain⟨i,h1,h2⟩:=bx0 (show (N.idxOf? x).bind _=some js from h);obtain⟨js',h3,rfl⟩:=mx0 h2;obtain⟨q1,q2⟩:=jL h3;have e:=fL h1;refine⟨?_,λj hj=>?_⟩
  .rw[mk0,q1,List.getD_eq_getElem?_getD,e];rfl
  .rcases mq0 hj with rfl|hj
   .exact⟨x,ms0,e⟩
   .obtain⟨y,hy,ey⟩:=q2 j hj
    exact⟨y,mc0 _ hy,ey⟩
theorem bt{env:Env}{nk:NameKind}(hne:nk≠.free):∀{names:List (Str×NameKind)}{x:Str},names.lookup x=some nk->
  (names.map λ(n,k)=>if (k==NameKind.free&&env.scope.kind==.function&&env.kindOf n==some .cell)then (n,NameKind.cell)else (n,k)).lookup x=some nk
 |[],_,h=>by simp at h
 |(n,k)::r,x,h=>by
  have ih:=@bt env nk hne r x;show List.lookup x ((if (k==NameKind.free&&env.scope.kind==.function&&env.kindOf n==some .cell)=true then (n,NameKind.cell)else (n,k))::_)=_;cases hy:x==n with
  |true=>
   simp only[lk0,hy]at h;cases h;rw[if_neg (by simp[hne])];simp[lk0,hy]
  |false=>
   simp only[lk0,hy]at h
   by_cases hc:(k==NameKind.free&&env.scope.kind==.function&&env.kindOf n==some .cell)=true
   .rw[if_pos hc];simp only[lk0,hy];exact ih h
   .rw[if_neg hc];simp only[lk0,hy];exact ih h
structure JR(X:Cx)(C B:Cs)(sc:Scope)(tg:Expr)(nt:Nat)(js:List Nat):Prop where
 ok:BlkOk X sc js
 nt:nt=(aQ tg).length
 n:B.N=au X (aQ tg) js
 cx:∀(A:Addr)(s:Shared)(H:Hp)(fp:List Addr),CxC (L2.C.blk X sc (au X (aQ tg) js) A s H fp) B
 same:B.fns=C.fns/\B.cst=C.cst/\B.vc=C.vc/\B.vms=C.vms
set_option tactic.hygienic true in
def gK(c:CxC X C){B:Cs}{nt:Nat}(h:mh C sc tg=some (B,nt,js)):JR X C B sc tg nt js:=by
 unfold mh at h;split at h
 .rename_i q
  obtain⟨js',h1,h2⟩:=mx0 h;injection h2 with h2 h3
  injection h3 with h3 h4
  subst h2 h3 h4;unfold uH at q;simp only[be0]at q;obtain⟨⟨⟨⟨q1,q2⟩,q3⟩,q4⟩,q5⟩:=q;have q2':=λy hy=>List.all_eq_true.mp q2 y hy
  obtain⟨i1,i2⟩:=jL h1;have hN:aQ tg++freeOf sc=au X (aQ tg) js':=by
   unfold au;rw[c.N,i1]
  have hfree:∀y∈sc.names,y.2=.free->X.env.kindOf y.1=some .cell:=λy hy hf=>by
   have z:=q2' y hy;simp only[be0,Bool.or_eq_true]at z;rcases z.1.1 with z|z
   .rw[hf]at z;simp at z
   .exact c.cell y.1 (eq_of_beq z)
  have hcell:∀y∈sc.names,y.2≠.cell:=λy hy=>by
   have z:=q2' y hy;simp only[be0]at z
   simpa using z.1.2
  refine⟨⟨eq_of_beq q1,hfree,hcell,λy hy hl=>?_,λj hj=>?_⟩,rfl,hN,λA s H fp=>⟨hN.symm,od0 q5,λx kd e ek=>?_,λx kd e ek=>?_,λx e=>?_,λx e=>?_,c.calm,eq_of_beq q1⟩,rfl,rfl,rfl,rfl⟩
  .have z:=q2' y hy
   simp only[be0,Bool.or_eq_true]at z;rcases z.2 with z|z
   .rw[hl]at z;simp at z
   .exact eq_of_beq z
  .obtain⟨x,hx,e⟩:=i2 j hj
   refine⟨x,by rw[c.N];exact e,eq_of_beq (List.all_eq_true.mp q4 x hx)⟩
  .have e:sc.names.lookup x=some kd:=e
   rcases ek with rfl|rfl|rfl
   .exact .inl (lookup_relabel_local e)
   .exact absurd rfl (hcell _ (ml0 e))
   .exact .inr (.inl (aM c.kind e (hfree _ (ml0 e) rfl)))
  .have e:sc.names.lookup x=some kd:=e
   rcases ek with rfl|rfl
   .exact⟨.inl (lookup_relabel_local e),.inr (lookup_relabel_local e)⟩
   .exact absurd rfl (hcell _ (ml0 e))
  .have e:sc.names.lookup x=some .cell:=e
   exact absurd rfl (hcell _ (ml0 e))
  .have e:sc.names.lookup x=some .globalImplicit:=e
   exact bt (env:=X.env) (by decide) e
 .cases h
end
def bS{o:Option α}{f:α->Option β}{c:β}(h:o.bind f=some c):∃x,o=some x/\f x=some c:=bx0 h
def mS{o:Option α}{f:α->β}{c:β}(h:o.map f=some c):∃x,o=some x/\f x=c:=mx0 h
def iS{p:Prop}[Decidable p]{x:α}{c:α}(h:(if p then some x else .none)=some c):p/\x=c:=by
 split at h
 .exact⟨‹_›,Option.some.inj h⟩
 .cases h
def iB{p:Prop}[Decidable p]{x:Option α}{c:α}(h:(if p then x else .none)=some c):p/\x=some c:=by
 split at h
 .exact⟨‹_›,h⟩
 .cases h
def nt{b:Bool}(h:(!b)=true):b=false:=by simpa using h
def a2{a b:Bool}(h:(a&&b)=true):a=true/\b=true:=by simpa using h
end L2.Z
namespace PySem
def Ris(p:Array Nat):Prop:=p.toList.Pairwise (·<·)
def Ris.lt{p:Array Nat}(r:Ris p)(hj:j<p.size)(h:i<j):p[i]'(Nat.lt_trans h hj)<p[j]:=by
 have:=List.pairwise_iff_getElem.mp r i j (by simpa using Nat.lt_trans h hj) (by simpa using hj) h
 simpa using this
def Ris.le{p:Array Nat}(r:Ris p)(hj:j<p.size)(h:i<=j):p[i]'(Nat.lt_of_le_of_lt h hj)<=p[j]:=by
 rcases Nat.lt_or_eq_of_le h with h|rfl
 .exact Nat.le_of_lt (r.lt hj h)
 .exact nr0 _
set_option tactic.hygienic true in
theorem iz{p:Array Nat}(r:Ris p)(x:Nat):∀n lo hi,hi<=p.size->lo<=hi->hi-lo<=n->(∀i (h:i<p.size),i<lo->p[i]<x)->(∀i (h:i<p.size),hi<=i->x<=p[i])->
  SetTable.below.go p x n lo hi<=p.size/\∀i (h:i<p.size),p[i]<x↔i<SetTable.below.go p x n lo hi
 |0,lo,hi,h1,h2,h3,a,b=>by
  obtain rfl:lo=hi:=by omega
  exact⟨h1,λi h=>⟨λq=>Nat.lt_of_not_le λz=>absurd (b i h z) (by omega),a i h⟩⟩
 |n+1,lo,hi,h1,h2,h3,a,b=>by
  unfold SetTable.below.go;split
  .rename_i c
   have hm:(lo+hi) / 2<p.size:=by omega
   simp only;rw[show p.getD ((lo+hi) / 2) x=p[(lo+hi) / 2] from by simp[Array.getD,hm]];split
   .rename_i d
    exact iz r x n _ hi h1 (by omega) (by omega) (λi h q=>Nat.lt_of_le_of_lt (r.le hm (by omega)) d) b
   .rename_i d
    exact iz r x n lo _ (by omega) (by omega) (by omega) a λi h q=>nt0 (by omega) (r.le h q)
  .obtain rfl:lo=hi:=by omega
   exact⟨h1,λi h=>⟨λq=>Nat.lt_of_not_le λz=>absurd (b i h z) (by omega),a i h⟩⟩
def iA{p:Array Nat}(r:Ris p)(x:Nat):SetTable.below p x<=p.size/\∀i (h:i<p.size),p[i]<x↔i<SetTable.below p x:=
 iz r x _ 0 _ (nr0 _) (Nat.zero_le _) (by omega) (λa a q=>absurd q (Nat.not_lt_zero _)) λi h q=>absurd h (by omega)
def Ris.zero{p:Array Nat}(r:Ris p):SetTable.below p 0=0:=by
 obtain⟨a,b⟩:=iA r 0;rcases Nat.eq_zero_or_pos (SetTable.below p 0)with z|z
 .exact z
 .exact absurd ((b 0 (by omega)).mpr z) (Nat.not_lt_zero _)
def Ris.next{p:Array Nat}(r:Ris p)(e:p[i]?=some j):SetTable.below p (j+1)=i+1:=by
 obtain⟨h,rfl⟩:=Array.getElem?_eq_some_iff.mp e;obtain⟨a,b⟩:=iA r (p[i]+1);have:=(b i h).mp (Nat.lt_succ_self _);rcases Nat.lt_or_ge (i+1) (SetTable.below p (p[i]+1))with z|z
 .have:=(b (i+1) (by omega)).mpr z
  have:=r.lt (i:=i) (j:=i+1) (by omega) (by omega);omega
 .omega
def Ris.put{p:Array Nat}(r:Ris p)(ne:p[SetTable.below p j]?≠some j):Ris (SetTable.insertAt p (SetTable.below p j) j):=by
 obtain⟨a,b⟩:=iA r j;generalize SetTable.below p j=k at a b ne;unfold SetTable.insertAt Ris;have e:((p.extract 0 k).push j++p.extract k p.size).toList=p.toList.take k++j::p.toList.drop k:=by
  simp[Array.toList_extract,List.extract_eq_take_drop];exact List.take_of_length_le (by simp)
 rw[e];have r:p.toList.Pairwise (·<·):=r;have ge:∀i (h:i<p.size),k<=i->j<p[i]:=λi h z=>by
  have h1:¬ p[i]<j:=λq=>absurd ((b i h).mp q) (by omega)
  have hk:k<p.size:=by omega
  have h2:p[k]≠j:=λq=>ne (by rw[Array.getElem?_eq_getElem hk,q])
  have h3:¬ p[k]<j:=λq=>absurd ((b k hk).mp q) (by omega)
  have:=Ris.le (p:=p) r h z;omega
 refine List.pairwise_append.mpr ⟨r.take,List.pairwise_cons.mpr ⟨λy hy=>?_,r.drop⟩,λx hx y hy=>?_⟩
 .obtain⟨i,hi,rfl⟩:=List.mem_drop_iff_getElem.mp hy
  exact ge (k+i) (by simp at hi;omega) (by omega)
 .obtain⟨i,hi,rfl⟩:=List.mem_take_iff_getElem.mp hx
  have hi':i<p.size:=by simp at hi;omega
  have lt:=(b i hi').mpr (by omega);have lt:p.toList[i]<j:=by simpa using lt
  rcases mq0 hy with rfl|hy
  .exact lt
  .obtain⟨l,hl,rfl⟩:=List.mem_drop_iff_getElem.mp hy
   have:=ge (k+l) (by simp at hl;omega) (by omega);have:j<p.toList[k+l]:=by simpa using this
   omega
def vG{mask finger moves}{led plain}{hs}{q}(h:SetTable.laid mask finger moves led plain hs=some q):q.1.dummies=#[]/\Ris q.1.place:=by
 unfold SetTable.laid at h;obtain⟨ow,_,h⟩:=bx0 h;cases h;refine⟨rfl,?_⟩;show List.Pairwise _ _;rw[List.pairwise_map,List.pairwise_filterMap];refine List.pairwise_lt_range.imp λ{a b} lt x hx y hy=>?_
 obtain⟨_,_,rfl⟩:=mx0 hx;obtain⟨_,_,rfl⟩:=mx0 hy;exact lt
end PySem
namespace PySem
open PyProof.Rows
def dy{f:α->β}:∀{l m:List β},l.Perm m->∀xs:List α,m=xs.map f->∃ys:List α,ys.Perm xs/\l=ys.map f:=by
 intro l m h
 induction h with
 |nil=>intro xs e;cases xs with|nil=>exact⟨[],.nil,rfl⟩|cons _ _=>cases e
 |cons a _ ih=>
  intro xs e;cases xs with
  |nil=>cases e
  |cons x r=>
   rw[mk0]at e;injection e with e1 e2
   obtain⟨ys,p,rfl⟩:=ih r e2;exact⟨x::ys,p.cons x,by rw[mk0,e1]⟩
 |swap a b l=>
  intro xs e
  match xs,e with
  |[],e=>cases e
  |[_],e=>injection e with _ e;cases e
  |x::y::r,e=>
   injection e with e1 e
   injection e with e2 e3
   exact⟨y::x::r,.swap ..,by rw[mk0,mk0,e1,e2,e3]⟩
 |trans _ _ ih1 ih2=>
  intro xs e;obtain⟨ys,p,e2⟩:=ih2 xs e;obtain⟨zs,p2,e3⟩:=ih1 ys e2;exact⟨zs,p2.trans p,e3⟩
def zm(t)(es)(h:Int)(x):(layNew t es h x).2.1.led=t.led:=by
 unfold layNew;split
 .simp only[SetTable.orStandIn];split<;>rfl
 .rfl
set_option tactic.hygienic true in
def vH(t)(es)(n:Nat):(relayAll t es n).2.1.led=t.led/\((relayAll t es n).2.1.plain=true->t.plain=true/\Ris (relayAll t es n).2.1.place):=by
 unfold relayAll;split
 .rename_i t' order e
  dsimp only;split
  .have r:=vG e
   unfold SetTable.relaid SetTable.laid at e;obtain⟨ow,_,e⟩:=bx0 e;cases e;exact⟨rfl,λz=>⟨z,r.2⟩⟩
  .exact⟨rfl,λz=>by cases z⟩
 .exact⟨rfl,λz=>by cases z⟩
noncomputable abbrev byTx(w:World):Bool:=w.params.followText "set-order"
structure KD(prog:Program)(w:World)(Z:Type)[DecidableEq Z] where
 knd:KeyKind prog w Z
 vl:Z->Tok->Value
 pl:Bool
 is:∀k t,knd.is k (vl k t)=true
 sc:∀k t,(vl k t).scannable=true
 pk:∀k t,plainKind (vl k t)=pl
noncomputable abbrev KD.e{prog:Program}{w:World}{Z:Type}[DecidableEq Z](kd:KD prog w Z)(p:Z×Tok):Int×Value:=(kd.knd.hash p.1,kd.vl p.1 p.2)
def vI(pl:Bool)(t:SetTable)(n:Nat):Prop:=t.plain=true->(n≠0->pl=true)/\Ris t.place
def StrSet{prog:Program}{w:World}{Z:Type}[DecidableEq Z](kd:KD prog w Z)(h:Heap)(a:Addr)(xs:List (Z×Tok))(ep:Nat):Prop:=
 ∃o es t,h.get? a=some o/\o.ExactSet/\o.data=.set es ep t/\t.fits es.size=true/\es.toList=xs.map kd.e/\t.led=!byTx w/\vI kd.pl t xs.length
section
variable {A:Around}{E:Value->Shared->Prop}{Z:Type}[DecidableEq Z][Inhabited Z]{kd:KD prog w Z}
def StrSet.keep{h h'}{a:Addr}{xs:List (Z×Tok)}(x:StrSet kd h a xs ep)(k:∀o,h.get? a=some o->h'.get? a=some o):StrSet kd h' a xs ep:=
 let ⟨o,es,t,h1,r⟩:=x;⟨o,es,t,k o h1,r⟩
def StrSet.isA{a:Addr}{xs:List (Z×Tok)}(x:StrSet kd s.heap a xs ep):s.TypeIs (.ref a) "set":=
 let ⟨o,_,_,h1,h2,_⟩:=x;⟨o,h1,h2.1⟩
def sF(kd:KD prog w Z)(xs:List (Z×Tok)):ElemsOf kd.knd (xs.map kd.e):=λe he=>by
 obtain⟨p,_,rfl⟩:=mm0 he;exact⟨⟨p.1,kd.is _ _,rfl⟩,kd.sc _ _⟩
def vJ(kd:KD prog w Z)(xs:List (Z×Tok))(x:Z):((xs.map kd.e).findIdx? λe=>kd.knd.is x e.2).isSome=decide (x∈xs.map (·.1)):=by
 induction xs with
 |nil=>rfl
 |cons p r ih=>
  have e:(kd.knd.is x (kd.e p).2)=decide (x=p.1):=KeyKind.is_eq_decide (kd.is p.1 p.2) x;rw[mk0,List.findIdx?_cons,e]
  by_cases q:x=p.1
  .simp[q]
  .rw[df0 q]
   simp only[Bool.false_eq_true,if_false,Option.isSome_map,ih,mk0,List.mem_cons,q,false_or]
set_option tactic.hygienic true
theorem kM{t:SetTable}{f:Nat->Int}{h:Int}:∀(n:Nat)(p:SetTable.Probe)(j:Nat)(d:Option Nat),(∀e,p.dummy=some e->t.slot e=.dummy)->SetTable.probe.go t f h n p=some (.empty j d)->t.slot j=.empty/\∀e,d=some e->t.slot e=.dummy
 |0,p,j,d,_,q=>by cases q
 |n+1,p,j,d,hp,q=>by
  unfold SetTable.probe.go at q;have adv:∀p:SetTable.Probe,(t.advance p).dummy=p.dummy:=λp=>by
   unfold SetTable.advance;split<;>rfl
  split at q
  .rename_i e;cases q;exact⟨e,hp⟩
  .rename_i e
   exact kM n _ j d (λz hz=>by rw[adv]at hz;cases hz;exact e) q
  .split at q
   .cases q
   .exact kM n _ j d (λz hz=>hp z (by rw[adv]at hz;exact hz)) q
def DL{pl}{t}{es}{h}{x}(p:vI pl t es.size)(hx:pl=true):vI pl (layNew t es h x).2.1 (es.size+1):=by
 unfold layNew;split
 .rename_i slot wd e
  simp only[SetTable.orStandIn];split
  .intro tp
   exact⟨λa=>hx,(p tp).2.put ((by
     have q:=e;have nl:∀i,t.place[SetTable.below t.place i]?=some i->∃l,t.slot i=.live l:=λi z=>⟨_,by unfold SetTable.slot;simp only;rw[if_pos (by rw[z];simp)]⟩
     unfold SetTable.freeSlot at q;split at q
     .rename_i j' d e
      obtain⟨e1,e2⟩:=kM _ _ _ _ (λa z=>by cases z) e;cases q;intro z;obtain⟨l,z⟩:=nl _ z;cases d with
      |none=>rw[show (.none:Option Nat).getD j'=j' from rfl,e1]at z;cases z
      |some y=>rw[show (some y).getD j'=y from rfl,e2 y rfl]at z;cases z
     .cases q))⟩
  .intro tp;cases tp
 .intro tp;cases tp
def qz{a:Addr}{o:Obj}{es es':Array (Int×Value)}{t t':SetTable}(ho:h.get? a=some o)(hd:o.data=.set es ep t):
  (h.update a (Obj.putSet es' t')).get? a=some {o with data:=.set es' (ep+1) t'}:=by
 have:=hu0 (Obj.putSet es' t') ho (by rw[putSet_of es' t' hd];rfl)
 rwa [putSet_of es' t' hd]at this
def JS{a:Addr}{xs:List (Z×Tok)}{x:Z}{tk:Tok}{Q:Bool->Shared->Prop}(hS:StrSet kd s.heap a xs ep)(hr:xs.length+1<4096)
  (h:∀h' ys ep' b,Heap.SameBut a s.heap h'->StrSet kd h' a ys ep'->ys.Perm (if x∈xs.map (·.1)then xs else xs++[(x,tk)])->Q b {s with heap:=h'}):
  wpAny (model prog w) A (setAddHashed a (kd.vl x tk) (kd.knd.hash x)) Q E s:=by
 obtain⟨o,es,t,ho,hex,hd,hf,he,hl,hp⟩:=hS;have hsz:es.size=xs.length:=by rw[<-al0,he,lm0]
 have hb:es.size<scanBound:=by rw[hsz];unfold scanBound;omega
 have hel:ElemsOf kd.knd es.toList:=by rw[he];exact sF kd xs
 have hk:kd.knd.is x (kd.vl x tk)=true:=kd.is x tk;have fnd:=vJ kd xs x;unfold setAddHashed setAddHashedIn;refine wh0 (wb0 (wpAny_setState_of ho hd hf ?_));dsimp only;rw[byScan_of (knd:=kd.knd) (x:=kd.vl x tk) (kd.sc x tk) hb hel];simp only[if_true];unfold setAddByScan;refine wb0 (wb0 (wpAny_rule (wb0 (wpAny_setScan_of (knd:=kd.knd) hk ho hd hf hel ?_))));rw[<-he]at fnd;cases q:List.findIdx? (λe=>kd.knd.is x e.2) es.toList with
 |some j=>
  rw[q]at fnd;dsimp only;refine wq0 (wq0 (h s.heap xs ep false (Heap.SameBut.refl a _) ⟨o,es,t,ho,hex,hd,hf,he,hl,hp⟩ ?_));rw[if_pos (od0 fnd.symm)]
 |none=>
  rw[q]at fnd;dsimp only;have nin:x∉xs.map (·.1):=of_decide_eq_false fnd.symm;rw[if_neg nin]at h;have gw:∀(b:Bool)(s₁:Shared)(Q':Unit->Shared->Prop),Q' () s₁->wpAny (model prog w) A (match b with|true=>rule "set.scan.the-table-gave-way"|false=>pure ()) Q' E s₁:=
   λb s₁ Q' z=>by cases b<;>first|exact wq0 z|exact wpAny_rule z
  have p1:=layNew_perm t es (kd.knd.hash x) (kd.vl x tk);have f1:=layNew_fits t es (kd.knd.hash x) (kd.vl x tk);have l1:=zm t es (kd.knd.hash x) (kd.vl x tk);have y1:=λz=>DL (h:=kd.knd.hash x) (x:=kd.vl x tk) (by rw[hsz];exact hp) z
  generalize layNew t es (kd.knd.hash x) (kd.vl x tk)=L at p1 f1 l1 y1 ⊢;obtain⟨es1,t1,wd,gv⟩:=L;dsimp only at p1 f1 l1 y1 ⊢;have e0:(es.push (kd.knd.hash x,kd.vl x tk)).toList=(xs++[(x,tk)]).map kd.e:=by
   rw[Array.toList_push,he,List.map_append];rfl
  obtain⟨ys,py,ey⟩:=dy p1 _ e0;have hz1:es1.size=xs.length+1:=by rw[<-al0,ey,lm0,py.length_eq,la0];rfl
  have hfit:es1.size<=sizeLine:=by rw[hz1,sizeLine_eq];omega
  refine wb0 (gw _ _ _ ?_);have fin:∀t2:SetTable,t2.fits es1.size=true->t2.led=t.led->vI kd.pl t2 es1.size->wpAny (model prog w) A (do
    storeSet a es1 t2
    if (!wd&&t2.tooFull)=true then do
     (match (relayAll t2 es1 (SetTable.grown es1.size)).2.2 with|true=>rule "set.scan.the-table-gave-way"|false=>pure ())
     storeSet a (relayAll t2 es1 (SetTable.grown es1.size)).1 (relayAll t2 es1 (SetTable.grown es1.size)).2.1
     pure (some true)
    else pure (some true)) (λr s'=>r=some true/\Q true s') E s:=by
   intro t2 g1 g2 g3;refine wb0 (wpAny_storeSet_of (prog:=prog) (w:=w) ho hd ?_ hfit);have ho1:=qz (es':=es1) (t':=t2) ho hd;have sb1:=Heap.SameBut.update s.heap a (Obj.putSet es1 t2);split
   .rename_i full
    have p2:=relayAll_perm t2 es1 (SetTable.grown es1.size);have f2:=relayAll_fits t2 es1 (SetTable.grown es1.size);have k2:=vH t2 es1 (SetTable.grown es1.size);generalize relayAll t2 es1 (SetTable.grown es1.size)=L2 at p2 f2 k2 ⊢;obtain⟨es2,t3,gv2⟩:=L2;dsimp only at p2 f2 k2 ⊢;obtain⟨zs,pz,ez⟩:=dy p2 _ ey;refine wb0 (gw _ _ _ (wb0 (wpAny_storeSet_of (prog:=prog) (w:=w) ho1 rfl ?_ ?_)))
    .refine wq0 ⟨rfl,h _ zs _ true (sb1.trans (Heap.SameBut.update _ a _)) ⟨_,es2,t3,qz ho1 rfl,hex,rfl,f2,ez,k2.1.trans (g2.trans hl),λtp=>?_⟩ (pz.trans py)⟩
     obtain⟨tp2,k3⟩:=k2.2 tp;have ez2:zs.length=es1.size:=by rw[hz1,pz.length_eq,py.length_eq,la0];rfl
     rw[ez2];exact⟨(g3 tp2).1,k3⟩
    .rw[<-al0,ez,lm0,pz.length_eq,py.length_eq,la0,sizeLine_eq];simp only[List.length_singleton];omega
   .exact wq0 ⟨rfl,h _ ys _ true sb1 ⟨_,es1,t2,ho1,hex,rfl,g1,ey,g2.trans hl,by rw[show ys.length=es1.size by rw[hz1,py.length_eq,la0];rfl];exact g3⟩ py⟩
  split
  .refine wb0 ?_
   rw[hashByValue_scannable 8 (x:=kd.vl x tk) (kd.sc x tk),kd.pk];refine wq0 ?_;cases hpl:kd.pl with
   |false=>
    refine wpAny_mono (fin {t1 with plain:=false} (SetTable.fits_plain_off f1) l1 (λz=>by cases z)) (λr s' z=>?_) λc c z=>z
    obtain⟨rfl,z⟩:=z;exact wq0 z
   |true=>
    refine wpAny_mono (fin t1 f1 l1 (by rw[show es1.size=es.size+1 by omega];exact y1 hpl)) (λr s' z=>?_) λc c z=>z
    obtain⟨rfl,z⟩:=z;exact wq0 z
  .rename_i np
   refine wb0 (wq0 ?_);refine wpAny_mono (fin t1 f1 l1 (λz=>absurd z np)) (λr s' z=>?_) λc c z=>z
   obtain⟨rfl,z⟩:=z;exact wq0 z
set_option tactic.hygienic false
def add_str{a:Addr}{xs:List (Z×Tok)}{x:Z}{tk:Tok}{Q:Bool->Shared->Prop}(hS:StrSet kd s.heap a xs ep)(hr:xs.length+1<4096)
  (h:∀h' ys ep' b,Heap.SameBut a s.heap h'->StrSet kd h' a ys ep'->ys.Perm (if x∈xs.map (·.1)then xs else xs++[(x,tk)])->Q b {s with heap:=h',toks:=s.toks+1}):
  wpAny (model prog w) A (setAdd a (kd.vl x tk)) Q E s:=by
 unfold setAdd;refine wh0 (wb0 (kd.knd.pyHash (kd.is x tk) ?_));exact JS (s:={s with toks:=s.toks+1}) hS hr h
end
def eY(h:Heap):h.get? h.objs.size=none:=by
 cases q:h.get? h.objs.size with
 |none=>rfl
 |some o=>exact absurd (hs0 q) (li0 _)
noncomputable abbrev bO(w:World):Obj:={cls:=.type "set",dict:=none,data:=.set #[] 0 (.fresh 0 0 (!byTx w))}
section
variable {A:Around}{E:Value->Shared->Prop}{Z:Type}[DecidableEq Z][Inhabited Z]{kd:KD prog w Z}
theorem StrSet.cls{h}{a}{xs}{ep}(x:StrSet kd h a xs ep):∃o,h.get? a=some o/\o.cls=.type "set":=
 let ⟨o,_,_,h1,h2,_⟩:=x;⟨o,h1,h2.1⟩
omit [Inhabited Z] in
def sG{xs ys:List (Z×Tok)}{x:Z}{tk:Tok}(n:(xs.map (·.1)).Nodup)(p:ys.Perm (if x∈xs.map (·.1)then xs else xs++[(x,tk)])):
  (ys.map (·.1)).Nodup/\(∀y,y∈ys.map (·.1)↔y∈xs.map (·.1)\/y=x)/\ys.length<=xs.length+1:=by
 have pm:=p.map (·.1);have pl:=p.length_eq
 by_cases q:x∈xs.map (·.1)
 .rw[if_pos q]at pm pl
  exact⟨pm.nodup_iff.mpr n,λy=>pm.mem_iff.trans ⟨.inl,λz=>z.elim id λe=>e▸q⟩,by omega⟩
 .rw[if_neg q]at pm pl
  rw[List.map_append]at pm;refine⟨pm.nodup_iff.mpr (List.nodup_append.mpr ⟨n,by simp,λa ha b hb=>?_⟩),λy=>pm.mem_iff.trans ?_,by rw[pl,la0];exact nr0 _⟩
  .have:b=x:=by simpa using hb
   subst this;exact λe=>q (e▸ha)
  .rw[List.mem_append]
   exact or_congr Iff.rfl (by simp)
def vK{S:Addr}{ss:List Z}{R:Result->Shared->Prop}(hh:A.handled=none)(hz:items.size=ss.length)(hz2:items.size<4000)(hv:∀(j:Nat)(x:Z),ss[j]?=some x->∃tk,items[j]?=some (kd.vl x tk)):
  ∀(m i:Nat)(xs:List (Z×Tok))(ep:Nat)(s:Shared),i+m=ss.length->xs.length<=i->(xs.map (·.1)).Nodup->s.heap.IsListIter it l i->s.heap.IsList l items->StrSet kd s.heap S xs ep->
   (∀h' tk ys ep',StrSet kd h' S ys ep'->(ys.map (·.1)).Nodup->(∀y,y∈ys.map (·.1)↔y∈xs.map (·.1)\/y∈ss.drop i)->ys.length<=ss.length->(∀b o,b≠it->b≠S->s.heap.get? b=some o->h'.get? b=some o)->R (.ok (.ret .none)) {s with heap:=h',toks:=tk})->
   codeAny (model prog w) A (.builtin "set.update.loop" ⟨[.ref S,.ref it],[]⟩) R s:=by
 intro m
 induction m with
 |zero=>
  intro i xs ep s hm hx nd hi hl hS h;obtain⟨oi,ei,ci,_⟩:=id hi;obtain⟨oS,eS,cS⟩:=hS.cls;have nSi:S≠it:=aX eS ei (by rw[cS,ci];decide);refine codeAny_builtin PyProof.Rows.F.entry_set_update_loop ?_;rw[ui0 PyProof.Rows.F.plain_set_update_loop];unfold Builtin.«set.update.loop»;dsimp only;refine wb0 (wpAny_pyNext_list_end (show A.in1.handled=none from hh) hi hl (by rw[Array.getElem?_eq_none];omega) λh' eb=>?_);refine wq0 (h h' s.toks xs ep (hS.keep λo e=>eb S o nSi e) nd (λy=>?_) (by omega) λb o n1 n2 e=>eb b o n1 e);rw[List.drop_eq_nil_of_le (by omega)]
  simp
 |succ m ih=>
  intro i xs ep s hm hx nd hi hl hS h;obtain⟨oi,ei,ci,_⟩:=id hi;obtain⟨oS,eS,cS⟩:=hS.cls;obtain⟨ol,el,cl,_⟩:=id hl;have nSi:S≠it:=aX eS ei (by rw[cS,ci];decide);have nli:l≠it:=aX el ei (by rw[cl,ci];decide);have nlS:l≠S:=aX el eS (by rw[cl,cS];decide);have hlt:i<ss.length:=by omega
  obtain⟨tk,hu⟩:=hv i _ (ge0 hlt);refine codeAny_builtin PyProof.Rows.F.entry_set_update_loop ?_;rw[ui0 PyProof.Rows.F.plain_set_update_loop];unfold Builtin.«set.update.loop»;dsimp only;refine wb0 (wpAny_pyNext_list_item hi hl hu λh1 hi' sb=>?_);have k1:∀{b:Addr},b≠it->∀o,s.heap.get? b=some o->h1.get? b=some o:=λhb o e=>(sb.2 _ hb).trans e
  dsimp only;refine wb0 (wh0 (add_str (hS.keep (k1 nSi)) (by omega) λh2 ys ep2 b sb2 hS2 py=>?_));have k2:∀{b:Addr},b≠S->∀o,h1.get? b=some o->h2.get? b=some o:=λhb o e=>(sb2.2 _ hb).trans e
  obtain⟨n2,m2,z2⟩:=sG nd py;refine wq0 ⟨plainId_quiet PyProof.Rows.F.plain_set_update_loop _,?_⟩;refine ih (i+1) ys ep2 {s with heap:=h2,toks:=s.toks+1} (by omega) (by omega) n2 (hi'.at (k2 nSi.symm)) ((hl.at (k1 nli)).at (k2 nlS)) hS2 λh' tk' zs ep3 a1 a2 a3 a4 a5=>?_
  refine h h' tk' zs ep3 a1 a2 (λy=>(a3 y).trans ?_) a4 λb o n1 n2 e=>a5 b o n1 n2 (k2 n2 _ (k1 n1 _ e))
  rw[List.drop_eq_getElem_cons hlt,m2 y,List.mem_cons,or_assoc]
def vL(v:Value){Q₁:Value->Shared->Prop}(h:Q₁ (.ref s.heap.objs.size) {s with heap:=s.heap.push (bO w)}):
  codeAny (model prog w) A (.call (.builtin "set.__new__") ⟨[.type "set",v],[]⟩) (wants Q₁ E) s:=by
 refine codeAny_of_tree ?_;show wpAny _ A.in1 (checkBuiltinCall "set.__new__" ⟨[.type "set",v],[]⟩ >>= λa=>again (.builtin "set.__new__" ⟨[.type "set",v],[]⟩)) _ _ s;refine wb0 (wpAny_of_eq (F.newCall_set_1 v) (wq0 ⟨plainId_quiet F.plain_set_new _,codeAny_builtin F.entry_set_new ?_⟩));rw[ui0 F.plain_set_new _];unfold Builtin.«set.__new__» Builtin.Frozenset.newClass;have hs:=sub_set_self;obtain⟨hp,g,d,tk,os⟩:=s;dsimp only
 wp_walk
 refine wpAny_askSetting (wq0 ?_);dsimp only;simp only[newObj];refine wb0 (wpAny_alloc (wq0 (wq0 ?_)));exact h
def vN{l S}{items}{ss:List Z}{R}(hh:A.handled=none)(hS:s.heap.get? S=some (bO w))(hl:s.heap.IsList l items)(hz:items.size=ss.length)(hz2:items.size<4000)(hv:∀(j:Nat)(x:Z),ss[j]?=some x->∃tk,items[j]?=some (kd.vl x tk))
  (h:∀h' tk ys ep,StrSet kd h' S ys ep->(ys.map (·.1)).Nodup->(∀y,y∈ys.map (·.1)↔y∈ss)->ys.length<=ss.length->(∀b o,b≠S->s.heap.get? b=some o->h'.get? b=some o)->R (.ok (.ret .none)) {s with heap:=h',toks:=tk}):
  codeAny (model prog w) A (.call (.builtin "set.__init__") ⟨[.ref S,.ref l],[]⟩) R s:=by
 have hT:s.TypeIs (.ref S) "set":=⟨_,hS,rfl⟩;refine codeAny_call_builtin F.called_set.init.plain F.entry_set_init (check_set_init_1 hT ?_);obtain⟨ol,hol,hcl,nl,hdl⟩:=id hl;obtain⟨oc,od,odt,osl⟩:=ol;simp only at hcl hdl;subst hcl;subst hdl;have q1:=F.sub_list_set;have q2:=F.sub_list_frozenset;have q3:(Value.type "list"==Value.type "dict")=false:=by decide
 unfold Builtin.«set.__init__» noKeywords Builtin.Frozenset.updateFrom;generalize hPI:pyIter=PI
 wp_walk
 subst hPI;refine wpAny_pyIter_list hl (wb0 (wpAny_runValue ?_));have lt1:=hs0 hol;have lt2:=hs0 hS;have hS':=ps0 {cls:=.type "list_iterator",data:=.fields #[.ref l,.int 0 0]} hS;have S0:StrSet kd (s.heap.push {cls:=.type "list_iterator",data:=.fields #[.ref l,.int 0 0]}) S [] 0:=⟨bO w,#[],.fresh 0 0 (!byTx w),hS',⟨rfl,rfl,rfl⟩,rfl,rfl,rfl,rfl,λa=>⟨λz=>absurd rfl z,.nil⟩⟩;refine vK (kd:=kd) (prog:=prog) (w:=w) (items:=items) (ss:=ss) (by exact hh) hz hz2 hv ss.length 0 [] 0 {s with heap:=s.heap.push {cls:=.type "list_iterator",data:=.fields #[.ref l,.int 0 0]}} (by omega) (nr0 _) List.nodup_nil ⟨_,pz0 _ rfl,rfl,rfl⟩ (hl.push _) S0 λh' tk ys ep a1 a2 a3 a4 a5=>?_
 refine wq0 ?_;refine wq0 (h h' tk ys ep a1 a2 (λy=>(a3 y).trans (by simp)) a4 λb o nb e=>a5 b o (nn0 (hs0 e)) nb (ps0 _ e))
set_option maxHeartbeats 3200000 in
def je{ss:List Z}(hh:A.handled=none)(hl:s.heap.IsList l items)(hz:items.size=ss.length)(hz2:items.size<4000)(hv:∀(j:Nat)(x:Z),ss[j]?=some x->∃tk,items[j]?=some (kd.vl x tk))
  (h:∀h' tk S ys ep,s.heap.objs.size<=S->StrSet kd h' S ys ep->(ys.map (·.1)).Nodup->(∀y,y∈ys.map (·.1)↔y∈ss)->ys.length<=ss.length->(∀b o,s.heap.get? b=some o->h'.get? b=some o)->Q (.ref S) {s with heap:=h',toks:=tk}):
  wpAny (model prog w) A (call (.type "set") [.ref l]) Q E s:=by
 obtain⟨c,tl,hm⟩:=F.called_set.mro;have hmade:=F.called_set.made;have hsub:=F.called_set.sub;refine wpAny_call (codeAny_of_tree ?_);show wpAny _ _ (callAny (.type "set") ⟨[.ref l],[]⟩) _ _ _;refine wq0 ⟨Code.quiet_builtin _ (by decide +kernel),codeAny_builtin F.entry_type_call ?_⟩;rw[Around.under_plain (weight_type_call_type "set" [.ref l] []) rfl];have h1:=F.called_set.notType;have h2:=F.called_set.canCreate;have h3:=F.typeCall_set_1 (.ref l)
 repeat (any_goals (first|assumption|wp_step))
 refine codeAny_mono (vL (w:=w) (.ref l) (E:=E) (Q₁:=λv s₁=>v=.ref s.heap.objs.size/\s₁={s with heap:=s.heap.push (bO w)}) ⟨rfl,rfl⟩) λr s₁ hr=>?_
 cases r with
 |error e=>exact hr
 |ok fl=>
  cases fl with
  |ret v=>
   obtain⟨rfl,rfl⟩:=hr;have g0:(s.heap.push (bO w)).get? s.heap.objs.size=some (bO w):=pz0 _ rfl;have hT:Shared.TypeIs {s with heap:=s.heap.push (bO w)} (.ref s.heap.objs.size) "set":=⟨_,g0,rfl⟩;have hli:=F.called_set.init.lookup;have hbi:=F.called_set.init.bind (.ref s.heap.objs.size)
   repeat (any_goals (first|assumption|wp_step))
   refine codeAny_mono (vN (s:={s with heap:=s.heap.push (bO w)}) (R:=wants (λr s₂=>r=.none/\∃h' tk ys ep,s₂={s with heap:=h',toks:=tk}/\StrSet kd h' s.heap.objs.size ys ep/\(ys.map (·.1)).Nodup/\(∀y,y∈ys.map (·.1)↔y∈ss)/\ys.length<=ss.length/\(∀b o,s.heap.get? b=some o->h'.get? b=some o)) E) hh g0 (hl.push _) hz hz2 hv λh' tk ys ep a1 a2 a3 a4 a5=>⟨rfl,h',tk,ys,ep,rfl,a1,a2,a3,a4,λb o e=>a5 b o (nn0 (hs0 e)) (ps0 _ e)⟩) λr2 s₂ hr2=>?_
   cases r2 with
   |error e=>exact hr2
   |ok f2=>
    cases f2 with
    |ret r=>
     obtain⟨rfl,h',tk,ys,ep,rfl,a1,a2,a3,a4,a5⟩:=hr2
     repeat (any_goals (first|assumption|wp_step))
     exact h h' tk _ ys ep (nr0 _) a1 a2 a3 a4 a5
    |_=>exact hr2.elim
  |_=>exact hr.elim
end
def slot_sit_next:Slot "set_iterator" "__next__" "set_iterator.__next__":=
 .of (owner:="set_iterator") (n:="__next__") (by rw[typeLookup_type];rw[builtinLookup_eq_fast];kernel_rfl) (by decide +kernel) (by decide +kernel) (by decide +kernel) (by first|exact .inl (by decide +kernel)|exact .inr (by decide +kernel)) (by rw[isSubtype_type];kernel_rfl)
def eD:Slot "set_iterator" "__iter__" "set_iterator.__iter__":=
 .of (owner:="set_iterator") (n:="__iter__") (by rw[typeLookup_type];rw[builtinLookup_eq_fast];kernel_rfl) (by decide +kernel) (by decide +kernel) (by decide +kernel) (by first|exact .inl (by decide +kernel)|exact .inr (by decide +kernel)) (by rw[isSubtype_type];kernel_rfl)
def aY:entryFor table "set_iterator.__next__"=some Builtin.«set_iterator.__next__»:=entryFor_of_fast (by kernel_rfl)
def iC:entryFor table "set.__iter__"=some Builtin.«frozenset.__iter__»:=by refine entryFor_alias (id':="frozenset.__iter__") ?_ rfl ?_ ?_<;>first|kernel_rfl|decide +kernel
def bp(a:Value):argsOk "set_iterator.__next__" ⟨[a],[]⟩:=by unfold argsOk;kernel_rfl
def qA{l:List α}(h:i<l.length):(l[i]::l.eraseIdx i).Perm l:=by
 rw[List.eraseIdx_eq_take_drop_succ];refine (List.perm_middle.symm).trans (List.Perm.of_eq ?_);rw[List.getElem_cons_drop,List.take_append_drop]
theorem qB(f:Nat->Nat):∀(n k:Nat)(l:List α)(o:Array α),n=l.length->(pickOrder.go f n k l o).toList.Perm (o.toList++l)
 |0,k,l,o,e=>by
  have:l=[]:=ez0 e.symm;subst this;show o.toList.Perm _;rw[List.append_nil]
 |n+1,k,l,o,e=>by
  have hl:0<l.length:=by omega
  have lt:=Nat.mod_lt (f k) hl;show ((match l[f k % l.length]? with|some x=>pickOrder.go f n (k+1) (l.eraseIdx (f k % l.length)) (o.push x)|none=>o):Array α).toList.Perm _;rw[ge0 lt];dsimp only;refine (qB f n (k+1) _ _ (by rw[List.length_eraseIdx_of_lt lt];omega)).trans ?_;rw[Array.toList_push,List.append_assoc];exact (List.Perm.refl _).append (qA lt)
def sH(f:Nat->Nat)(xs:Array α):(pickOrder f xs).toList.Perm xs.toList:=by
 have:=qB f xs.size 0 xs.toList #[] (by simp)
 simpa [pickOrder]using this
section
variable {A:Around}{E:Value->Shared->Prop}
def vO{Q:Nat->Shared->Prop}(hn:n≠0)(h:∀i d,i<n->Q i {s with drawn:=d}):wpAny (model prog w) A (choose .order n) Q E s:=λΓ p a=>by
 show n≠0/\_;exact⟨hn,h _ _ (Nat.mod_lt _ (Nat.pos_of_ne_zero hn))⟩
def sI(n:Nat):∀(xs:List α)(s:Shared)(Q:List α->Shared->Prop),n=xs.length->(∀ys d,ys.Perm xs->Q ys {s with drawn:=d})->wpAny (model prog w) A (drawOrder n xs) Q E s:=by
 induction n with
 |zero=>
  intro xs s Q e h;cases xs with
  |nil=>exact wq0 (h [] s.drawn (.refl _))
  |cons x r=>cases e
 |succ n ih=>
  intro xs s Q e h;cases xs with
  |nil=>cases e
  |cons x r=>
   unfold drawOrder;refine wb0 (vO (by simp) λi d hi=>?_);rw[ge0 hi];dsimp only;refine wb0 (ih _ _ _ (by rw[List.length_eraseIdx_of_lt hi];simp at e ⊢;omega) λys d' p=>wq0 (h _ d' ?_));exact (p.cons _).trans (qA hi)
def asks{Q:Bool->Shared->Prop}(h:Q (byTx w) s):wpAny (model prog w) A setsByText Q E s:=by
 unfold setsByText;exact wb0 (wpAny_askSetting (wq0 h))
def sJ{S:Addr}{o:Obj}{es:Array (Int×Value)}{t:SetTable}{sl:Nat}{Q:Option (Value×Nat)->Shared->Prop}(ho:s.heap.get? S=some o)(hd:o.data=.set es ep t)(hf:t.fits es.size=true)(hb:byTx w=true)
  (h:Q (((pickOrder (w.params.setOrder S ep) es)[i]?).map λe=>(e.2,sl)) s):wpAny (model prog w) A (setNext S sl i ep) Q E s:=by
 unfold setNext;refine wb0 (wpAny_setState_of ho hd hf (wb0 (asks ?_)));dsimp only;rw[hb];simp only[if_true,bne_self_eq_false,Bool.false_eq_true,if_false];refine wb0 ?_;unfold setWalk;refine wb0 (wpAny_setState_of ho hd hf (wb0 (asks ?_)));rw[hb];simp only[if_true];exact wb0 (wpAny_askSetting (wq0 (wq0 h)))
def mE{S:Addr}{o:Obj}{es:Array (Int×Value)}{t:SetTable}{sl:Nat}{Q:Option (Value×Nat)->Shared->Prop}(ho:s.heap.get? S=some o)(hd:o.data=.set es ep t)(hf:t.fits es.size=true)(hb:byTx w=false)(hl:t.led=true)(h1:t.plain=false->es.size<=1)
  (h:Q (match es[SetTable.below t.place sl]?,t.place[SetTable.below t.place sl]? with|some (_,x),some j=>some (x,j+1)|_,_=>none) s):wpAny (model prog w) A (setNext S sl i ep) Q E s:=by
 unfold setNext;refine wb0 (wpAny_setState_of ho hd hf (wb0 (asks ?_)));dsimp only;rw[hb];simp only[Bool.false_eq_true,if_false];have e1:(!t.plain&&decide (es.size>1))=false:=by
  cases c:t.plain with
  |true=>rfl
  |false=>rw[df0 (by have:=h1 c;omega),Bool.and_false]
 have e2:(!t.led&&!es.isEmpty)=false:=by rw[hl];rfl
 show wpAny (model prog w) A (if (!t.plain&&decide (es.size>1))=true then _ else _) Q E s;rw[if_neg (by rw[e1];exact fx0)];show wpAny (model prog w) A ((if (!t.led&&!es.isEmpty)=true then _ else _) >>= _) Q E s;rw[if_neg (by rw[e2];exact fx0)];exact wb0 (wq0 (wq0 h))
end
def SetIt(h:Heap)(I S:Addr)(f0:Value)(i n ep:Nat):Prop:=∃o,h.get? I=some o/\o.cls=.type "set_iterator"/\o.data=.fields #[f0,.int i 0,.ref S,.int n 0,.int ep 0]
def SetIt.is{I S}{f0}{i n ep}(x:SetIt s.heap I S f0 i n ep):s.TypeIs (.ref I) "set_iterator":=let ⟨o,a,b,_⟩:=x;⟨o,a,b⟩
def SetIt.keep{h h'}{I S}{f0}{i n ep}(x:SetIt h I S f0 i n ep)(k:∀o,h.get? I=some o->h'.get? I=some o):SetIt h' I S f0 i n ep:=let ⟨o,a,b⟩:=x;⟨o,k o a,b⟩
def SetIt.upd{h}{I S}{f0}{i n ep}(x:SetIt h I S f0 i n ep)(k:Nat)(v):
  ∃o,(h.update I (Obj.mapFields (·.setIfInBounds k v))).get? I=some o/\o.cls=.type "set_iterator"/\o.data=.fields ((#[f0,.int i 0,.ref S,.int n 0,.int ep 0]:Array Value).setIfInBounds k v):=by
 obtain⟨o,ho,hc,hd⟩:=x;exact⟨_,hu0 _ ho (Obj.isFreed_of_fields (Obj.data_mapFields hd _)),(Obj.cls_mapFields ..).trans hc,Obj.data_mapFields hd _⟩
section
variable {A:Around}{E:Value->Shared->Prop}{Z:Type}[DecidableEq Z][Inhabited Z]{kd:KD prog w Z}{I S T:Addr}{xs:List (Z×Tok)}{sl:Nat}{x f0:Value}{nx:Nat}{Q:Option Value->Shared->Prop}
def eZ{P:Fin->Shared->Prop}(hit:SetIt s.heap I S f0 i n ep)(hS:StrSet kd s.heap S xs ep)(hn:n=xs.length)
  (h:wpAny (model prog w) A (if let .int slot _:=f0 then do
    match ←setNext S slot.toNat (i:Int).toNat (ep:Int).toNat with
    |some (x,next)=>
     setField (.ref I) 0 (rawInt next)
     setField (.ref I) 1 (rawInt ((i:Int)+1))
     ret x
    |none=>setField (.ref I) 2 .none;raiseNew (<-newExc (.type "StopIteration") [])
   else do
    let some places ←seqItems? f0|unsupported "internal:set_iterator"
    match places[(i:Int).toNat]? with
    |some (.int place _)=>
     let x ←setNextDrawn S place.toNat (ep:Int).toNat
     setField (.ref I) 1 (rawInt ((i:Int)+1))
     ret x
    |some _=>unsupported "internal:set_iterator"
    |none=>setField (.ref I) 0 (rawInt 0);setField (.ref I) 2 .none;raiseNew (<-newExc (.type "StopIteration") [])) P E s):
  wpAny (model prog w) A (Builtin.«set_iterator.__next__» ⟨[.ref I],[]⟩) P E s:=by
 obtain⟨o,ho,hc,hd⟩:=hit;obtain⟨oS,es,t,eS,_,dS,fS,le,_⟩:=hS;have hz:es.size=n:=by rw[hn,<-al0,le,lm0]
 unfold Builtin.«set_iterator.__next__»;refine wb0 (m:=slotArgs "__next__" 0 _) (wq0 ?_);refine wb0 (wpAny_fieldsOf ho hd ?_);show wpAny _ _ (setEntries S >>= _) _ _ _;unfold setEntries;refine wb0 (wb0 (wpAny_setState_of eS dS fS (wq0 ?_)));dsimp only;rw[if_neg (by rw[hz];simp)];exact h
def mF(hit:SetIt s.heap I S (.int sl 0) i n ep)(hS:StrSet kd s.heap S xs ep)(hn:n=xs.length)(hx:∀(A:Around)(E:Value->Shared->Prop)(Q:Option (Value×Nat)->Shared->Prop),Q (some (x,nx)) s->wpAny (model prog w) A (setNext S sl i ep) Q E s)
  (hQ:∀h',SetIt h' I S (.int nx 0) (i+1) n ep->Heap.SameBut I s.heap h'->Q (some x) {s with heap:=h'}):wpAny (model prog w) A (pyNext (.ref I)) Q E s:=by
 unfold pyNext;refine wb0 (wpAny_attempt (wpAny_callSpecial?_slot (name:=Str.ofString "__next__") hit.is slot_sit_next (wpAny_call_entry slot_sit_next hit.is aY (eZ hit hS hn ?_) (bp _))));dsimp only;simp only[Int.toNat_natCast];refine wb0 (hx _ _ _ ?_);dsimp only;obtain⟨o,ho,hc,hd⟩:=id hit;obtain⟨o1,e1,c1,d1⟩:=hit.upd 0 (rawInt nx);refine wb0 (wpAny_setField ho hd (by simp) (wb0 (wpAny_setField e1 d1 (by simp) (wq0 ⟨x,rfl,wq0 (hQ _ ⟨_,hu0 _ e1 (Obj.isFreed_of_fields (Obj.data_mapFields d1 _)),(Obj.cls_mapFields ..).trans c1,?_⟩ ((Heap.SameBut.update ..).trans (Heap.SameBut.update ..)))⟩))))
 rw[Obj.data_mapFields d1];simp[rawInt]
def mG{P:Fin->Shared->Prop}{o:Obj}{vs:Array Value}(hh:A.handled=none)(ho:s.heap.get? I=some o)(hd:o.data=.fields vs)(hz:2<vs.size)(hE:∀e h',Shared.TypeIs {s with heap:=h'} e "StopIteration"->Heap.ExtBut I s.heap h'->E' e {s with heap:=h'}):
  wpAny (model prog w) A (do setField (.ref I) 2 .none;raiseNew (<-newExc (.type "StopIteration") [])) P E' s:=by
 refine wb0 (wpAny_setField ho hd hz (wb0 ?_));simp only[newExc,newTuple];refine wb0 (wpAny_newObj_type ?_ (by size_fits));refine wb0 (m:=firstArgMember _ _) (wpAny_of_eq (a:=Value.none) (by first|rfl|(simp only[firstArgMember];rfl)) (wpAny_newObj_type ?_ (by size_fits)));simp only[raiseNew];refine wb0 (wpAny_handled ?_);rw[hh];refine wb0 (wq0 (wpAny_throw ?_));refine hE _ _ ?_ (((Heap.SameBut.update ..).extBut.push _).push _);exact⟨_,pz0 _ rfl,rfl⟩
def qC(hh:A.handled=none)(hit:SetIt s.heap I S (.int sl 0) i n ep)(hS:StrSet kd s.heap S xs ep)(hn:n=xs.length)(hx:∀(A:Around)(E:Value->Shared->Prop)(Q:Option (Value×Nat)->Shared->Prop),Q none s->wpAny (model prog w) A (setNext S sl i ep) Q E s)
  (hQ:∀h',Heap.ExtBut I s.heap h'->Q none {s with heap:=h'}):wpAny (model prog w) A (pyNext (.ref I)) Q E s:=by
 unfold pyNext;refine wb0 (wpAny_attempt (wpAny_callSpecial?_slot (name:=Str.ofString "__next__") hit.is slot_sit_next (wpAny_call_entry slot_sit_next hit.is aY (eZ hit hS hn ?_) (bp _))));dsimp only;simp only[Int.toNat_natCast];refine wb0 (hx _ _ _ ?_);obtain⟨o,ho,hc,hd⟩:=id hit;refine mG (show A.in1.handled=none from hh) ho hd (by simp) λe h' ht eb=>?_
 exact wb0 (wpAny_isInstance (T:="StopIteration") (b:=true) ht isSubtype_stop (wq0 (hQ _ eb)))
def sL{ps:List Nat}{p}{oT}{m}{y}(hit:SetIt s.heap I S (.ref T) i n ep)(hS:StrSet kd s.heap S xs ep)(hn:n=xs.length)(hT:s.heap.get? T=some oT)(dT:oT.data=.seq (ps.map λ(k:Nat)=>rawInt (k:Int)).toArray m)(hp:ps[i]?=some p)(hy:xs[p]?=some y)
  (hQ:∀h',SetIt h' I S (.ref T) (i+1) n ep->Heap.SameBut I s.heap h'->Q (some (kd.vl y.1 y.2)) {s with heap:=h'}):wpAny (model prog w) A (pyNext (.ref I)) Q E s:=by
 unfold pyNext;refine wb0 (wpAny_attempt (wpAny_callSpecial?_slot (name:=Str.ofString "__next__") hit.is slot_sit_next (wpAny_call_entry slot_sit_next hit.is aY (eZ hit hS hn ?_) (bp _))));dsimp only;simp only[Int.toNat_natCast];unfold seqItems?;refine wb0 (wb0 (wpAny_load hT ?_));rw[dT];refine wq0 ?_;dsimp only;have e:(ps.map λ(k:Nat)=>rawInt (k:Int)).toArray[i]?=some (rawInt (p:Int)):=by simp[hp]
 rw[e];obtain⟨oS,es,t,eS,_,dS,fS,le,_⟩:=id hS;show wpAny _ _ (setNextDrawn S (p:Int).toNat ep >>= _) _ _ _;unfold setNextDrawn;refine wb0 (wb0 (wpAny_setState_of eS dS fS ?_));dsimp only;simp only[bne_self_eq_false,Bool.false_eq_true,if_false,Int.toNat_natCast];have ee:es[p]?=some (kd.e y):=by rw[<-Array.getElem?_toList,le,gm0,hy];rfl
 rw[ee];refine wq0 ?_;obtain⟨o,ho,hc,hd⟩:=id hit;obtain⟨o1,e1,c1,d1⟩:=hit.upd 1 (rawInt ((i:Int)+1));refine wb0 (wpAny_setField ho hd (by simp) (wq0 ⟨_,rfl,wq0 (hQ _ ⟨o1,e1,c1,?_⟩ (Heap.SameBut.update ..))⟩));rw[d1];simp[rawInt]
def vP{ps:List Nat}{oT:Obj}{m:Nat}(hh:A.handled=none)(hit:SetIt s.heap I S (.ref T) i n ep)(hS:StrSet kd s.heap S xs ep)(hn:n=xs.length)(hT:s.heap.get? T=some oT)(dT:oT.data=.seq (ps.map λ(k:Nat)=>rawInt (k:Int)).toArray m)(hp:ps[i]?=none)
  (hQ:∀h',Heap.ExtBut I s.heap h'->Q none {s with heap:=h'}):wpAny (model prog w) A (pyNext (.ref I)) Q E s:=by
 unfold pyNext;refine wb0 (wpAny_attempt (wpAny_callSpecial?_slot (name:=Str.ofString "__next__") hit.is slot_sit_next (wpAny_call_entry slot_sit_next hit.is aY (eZ hit hS hn ?_) (bp _))));dsimp only;simp only[Int.toNat_natCast];unfold seqItems?;refine wb0 (wb0 (wpAny_load hT ?_));rw[dT];refine wq0 ?_;dsimp only;have e:(ps.map λ(k:Nat)=>rawInt (k:Int)).toArray[i]?=none:=by simpa using hp
 rw[e];obtain⟨o,ho,hc,hd⟩:=id hit;obtain⟨o1,e1,c1,d1⟩:=hit.upd 0 (rawInt 0);refine wb0 (wpAny_setField ho hd (by simp) ?_);refine mG (s:={s with heap:=s.heap.update I (Obj.mapFields (·.setIfInBounds 0 (rawInt 0)))}) (show A.in1.handled=none from hh) e1 d1 (by simp) λe h' ht eb=>?_
 exact wb0 (wpAny_isInstance (T:="StopIteration") (b:=true) ht isSubtype_stop (wq0 (hQ _ ((Heap.SameBut.update ..).extBut.trans eb))))
end
def iD:entryFor table "set_iterator.__iter__"=some Builtin.«dict_keyiterator.__iter__»:=by
 refine entryFor_alias (id':="dict_keyiterator.__iter__") ?_ rfl ?_ ?_<;>first|kernel_rfl|decide +kernel
def jf(a:Value):argsOk "set_iterator.__iter__" ⟨[a],[]⟩:=by unfold argsOk;kernel_rfl
def GV{es:Array (Int×Value)}{xs:List (Int×Value)}(h:es.toList=xs):es=xs.toArray:=by
 rw[<-h]
section
variable {A:Around}{E:Value->Shared->Prop}{Z:Type}[DecidableEq Z][Inhabited Z]{kd:KD prog w Z}{I S T:Addr}{xs:List (Z×Tok)}
noncomputable abbrev eqG:Array GenState->Array GenState->Prop:=λa b=>b=a
abbrev zo{prog:Program}{w:World}{Z:Type}[DecidableEq Z](kd:KD prog w Z)(order:List (Z×Tok))(i:Nat)(v:Value):Prop:=∃p,order[i]?=some p/\v=kd.vl p.1 p.2
def iE{f0:Value}(hit:SetIt s.heap I S f0 i n ep)(hQ:Q (.ref I) s):wpAny (model prog w) A (pyIter (.ref I)) Q E s:=by
 refine wpAny_pyIter_slot hit.is eD (wpAny_call_entry eD hit.is iD ?_ (jf _));show wpAny (model prog w) _ (ret (.ref I)) _ _ s;exact wq0 ⟨_,rfl,_,_,hit.is,slot_sit_next.lookup,hQ⟩
def sM(hb:byTx w=true)(hIS:S≠I)(hh:A.handled=none):∃order:List (Z×Tok),order.Perm xs/\
  WalksS prog w A I [I,S] [I] eqG xs.length (zo kd order) (λi s=>SetIt s.heap I S (.int 0 0) i xs.length ep/\StrSet kd s.heap S xs ep):=by
 obtain⟨order,po,eo⟩:=dy (sH (w.params.setOrder S ep) (xs.map kd.e).toArray) xs rfl;have nxt:∀(s:Shared)(i:Nat),StrSet kd s.heap S xs ep->∀(A:Around)(E:Value->Shared->Prop)(Q:Option (Value×Nat)->Shared->Prop),Q ((order[i]?).map λp=>(kd.vl p.1 p.2,0)) s->wpAny (model prog w) A (setNext S 0 i ep) Q E s:=λs i hS A E Q q=>by
  obtain⟨o,es,t,h1,_,h2,h3,h4,_⟩:=hS;refine sJ h1 h2 h3 hb ?_;rw[GV h4,<-Array.getElem?_toList,eo,gm0];cases z:order[i]? with
  |none=>rw[z]at q;exact q
  |some p=>rw[z]at q;exact q
 refine⟨order,po,⟨λb hb=>by simp at hb;simp[hb],λa=>rfl,λa a a h1 h2=>h2.trans h1,λi s h' tk st a hk=>⟨st.1.keep λo e=>hk I (by simp) o e,st.2.keep λo e=>hk S (by simp) o e⟩,λi s Q E hi st hQ=>?_,λs Q E st hQ=>?_,λi s Q E st hQ=>iE st.1 hQ⟩⟩
 .have hi':i<order.length:=by rw[po.length_eq];exact hi
  have e:order[i]?=some order[i]:=ge0 hi';refine mF st.1 st.2 rfl (x:=kd.vl order[i].1 order[i].2) (nx:=0) (λA E Q q=>nxt s i st.2 A E Q (by rw[e];exact q)) λh' hit' sb=>?_
  exact hQ _ _ ⟨_,e,rfl⟩ ⟨hit',st.2.keep λo e=>(sb.2 _ hIS).trans e⟩ ⟨λb o hb e=>(sb.2 b (λz=>hb (by simp[z]))).trans e,rfl,rfl,rfl,nr0 _⟩
 .have e:order[xs.length]?=none:=List.getElem?_eq_none (by rw[po.length_eq];exact nr0 _)
  refine qC hh st.1 st.2 rfl (λA E Q q=>nxt s _ st.2 A E Q (by rw[e];exact q)) λh' eb=>?_
  exact hQ _ ⟨λb o hb e=>eb b o (λz=>hb (by simp[z])) e,rfl,rfl,rfl,nr0 _⟩
def mH{t}{pl}(p:vI pl t n)(hf:t.fits n=true)(h1:t.plain=false->n<=1):Ris t.place:=by
 cases q:t.plain with
 |true=>exact (p q).2
 |false=>
  have:=h1 q;simp only[SetTable.fits,be0,beq_iff_eq]at hf;have hs:t.place.toList.length<=1:=by rw[al0];omega
  unfold Ris
  match t.place.toList,hs with
  |[],_=>exact .nil
  |[x],_=>exact List.pairwise_singleton _ _
def vQ(hb:byTx w=false)(hIS:S≠I)(hh:A.handled=none):
  WalksS prog w A I [I,S] [I] eqG xs.length (zo kd xs) (λi s=>∃sl,SetIt s.heap I S (.int (sl:Nat) 0) i xs.length ep/\StrSet kd s.heap S xs ep/\∀o es t,s.heap.get? S=some o->o.data=.set es ep t->(t.plain=false->xs.length<=1)/\SetTable.below t.place sl=i):=by
 refine⟨λb hb=>by simp at hb;simp[hb],λc=>rfl,λc c c h1 h2=>h2.trans h1,λi s h' tk st c hk=>?_,λi s Q E hi st hQ=>?_,λs Q E st hQ=>?_,λi s Q E st hQ=>?_⟩
 .obtain⟨sl,a,b,d⟩:=st
  obtain⟨o0,es0,t0,e0,r0⟩:=id b;refine⟨sl,a.keep λo e=>hk I (by simp) o e,b.keep λo e=>hk S (by simp) o e,λo es t h1 h2=>d o es t ?_ h2⟩;have:=hk S (by simp) _ e0;have h1:h'.get? S=some o:=h1;rw[this]at h1;cases h1;exact e0
 .obtain⟨sl,a,b,d⟩:=st
  obtain⟨o,es,t,h1,h1x,h2,h3,h4,h5,h6⟩:=id b;have hes:es.size=xs.length:=by rw[<-al0,h4,lm0]
  obtain⟨d1,d2⟩:=d o es t h1 h2;have P2:=mH h6 (by rw[<-hes];exact h3) d1;have hf:=h3;simp only[SetTable.fits,be0,beq_iff_eq]at hf;have hj:t.place[i]?=some t.place[i]:=Array.getElem?_eq_getElem (by omega);have hy:es[i]?=some (kd.e xs[i]):=by rw[<-Array.getElem?_toList,h4,gm0,ge0 hi];rfl
  refine mF (nx:=t.place[i]+1) a b rfl (x:=kd.vl xs[i].1 xs[i].2) (λA E Q q=>mE h1 h2 h3 hb (by rw[h5,hb];rfl) (by rw[hes];exact d1) ?_) λh' hit' sb=>?_
  .rw[d2,hj,hy]
   exact q
  .refine hQ _ _ ⟨xs[i],ge0 hi,rfl⟩ ⟨t.place[i]+1,hit',b.keep λo e=>(sb.2 _ hIS).trans e,λo' es' t' z1 z2=>?_⟩ ⟨λb o hb e=>(sb.2 b (λz=>hb (by simp[z]))).trans e,rfl,rfl,rfl,nr0 _⟩
   have z1:h'.get? S=some o':=z1;rw[(sb.2 _ hIS).trans h1]at z1;cases z1;rw[h2]at z2;injection z2 with _ _ z2
   subst z2;exact⟨d1,P2.next hj⟩
 .obtain⟨sl,a,b,d⟩:=st
  obtain⟨o,es,t,h1,h1x,h2,h3,h4,h5,h6⟩:=id b;have hes:es.size=xs.length:=by rw[<-al0,h4,lm0]
  obtain⟨d1,d2⟩:=d o es t h1 h2;refine qC hh a b rfl (λA E Q q=>mE h1 h2 h3 hb (by rw[h5,hb];rfl) (by rw[hes];exact d1) ?_) λh' eb=>hQ _ ⟨λb o hb e=>eb b o (λz=>hb (by simp[z])) e,rfl,rfl,rfl,nr0 _⟩
  rw[d2,show es[xs.length]?=none from Array.getElem?_eq_none (by omega)];exact q
 .obtain⟨sl,a,_⟩:=st
  exact iE a hQ
def oV{ps:List Nat}(hp:ps.Perm (List.range xs.length))(hIS:S≠I)(hIT:T≠I)(hh:A.handled=none):
  WalksS prog w A I [I,S,T] [I] eqG xs.length (zo kd (ps.map λk=>xs.getD k default)) (λi s=>SetIt s.heap I S (.ref T) i xs.length ep/\StrSet kd s.heap S xs ep/\∃o,s.heap.get? T=some o/\o.data=.seq (ps.map λ(k:Nat)=>rawInt (k:Int)).toArray):=by
 have hl:ps.length=xs.length:=by rw[hp.length_eq,lr0]
 refine⟨λb hb=>by simp at hb;simp[hb],λf=>rfl,λf f f h1 h2=>h2.trans h1,λi s h' tk st f hk=>?_,λi s Q E hi st hQ=>?_,λs Q E st hQ=>?_,λi s Q E st hQ=>iE st.1 hQ⟩
 .obtain⟨a,b,o,c,d⟩:=st
  exact⟨a.keep λo e=>hk I (by simp) o e,b.keep λo e=>hk S (by simp) o e,o,hk T (by simp) o c,d⟩
 .obtain⟨a,b,o,c,d⟩:=st
  have hi':i<ps.length:=by omega
  have e:ps[i]?=some ps[i]:=ge0 hi';have hm:ps[i]<xs.length:=List.mem_range.mp (hp.mem_iff.mp (List.getElem_mem hi'));refine sL a b rfl c d e (ge0 hm) λh' hit' sb=>?_
  exact hQ _ _ ⟨xs[ps[i]],by simp[e,List.getD,ge0 hm],rfl⟩ ⟨hit',b.keep λo e=>(sb.2 _ hIS).trans e,o,(sb.2 _ hIT).trans c,d⟩ ⟨λb o hb e=>(sb.2 b (λz=>hb (by simp[z]))).trans e,rfl,rfl,rfl,nr0 _⟩
 .obtain⟨a,b,o,c,d⟩:=st
  exact vP hh a b rfl c d (List.getElem?_eq_none (by omega)) λh' eb=>hQ _ ⟨λb o hb e=>eb b o (λz=>hb (by simp[z])) e,rfl,rfl,rfl,nr0 _⟩
end
section
variable {A:Around}{E:Value->Shared->Prop}{S:Addr}{Z:Type}[DecidableEq Z][Inhabited Z]{kd:KD prog w Z}{xs:List (Z×Tok)}
structure GW{prog:Program}{w:World}{Z:Type}[DecidableEq Z](kd:KD prog w Z)(A:Around)(S:Addr)(xs:List (Z×Tok))(s s':Shared)(I:Addr):Prop where
 ex:∃(fp:List Addr)(order:List (Z×Tok))(St:Nat->Shared->Prop),order.Perm xs/\WalksS prog w A I fp [I] eqG xs.length (zo kd order) St/\St 0 s'/\(∀b∈fp,b=S\/s.heap.get? b=none)/\s.heap.get? I=none
def vR(hh:A.handled=none)(hS:StrSet kd s.heap S xs ep)(hz:xs.length<4000)
  (h:∀h' d I,(∀b o,s.heap.get? b=some o->h'.get? b=some o)->GW kd A S xs s {s with heap:=h',drawn:=d} I->Q (.ref I) {s with heap:=h',drawn:=d}):
  wpAny (model prog w) A (pyIter (.ref S)) Q E s:=by
 obtain⟨o,es,t,h1,h1x,h2,h3,h4,h5,h6⟩:=id hS;have ltS:=hs0 h1;have hes:es.size=xs.length:=by rw[<-al0,h4,lm0]
 refine wpAny_pyIter_slot hS.isA F.slot_set_iter (wpAny_call_entry F.slot_set_iter hS.isA iC ?_ (F.args_set_iter_1 _));unfold Builtin.«frozenset.__iter__» Builtin.Frozenset.slot0;refine wb0 (wb0 (m:=slotArgs "__iter__" 0 _) (wq0 (wq0 ?_)));unfold Builtin.Frozenset.sizeOf setEntries;refine wb0 (wb0 (wb0 (wpAny_setState_of h1 h2 h3 (wq0 (wq0 ?_)))));unfold setDrawn;refine wb0 (wb0 (wpAny_setState_of h1 h2 h3 (wb0 (asks (wq0 ?_)))));show wpAny (model prog w) A.in1 (do
  let first ←if (!byTx w&&(!t.plain&&decide (es.size>1)))=true then do newTuple ((<-drawOrder es.size (List.range es.size)).map λ(i:Nat)=>rawInt i)else pure (rawInt 0)
  ret (<-newFields "set_iterator" [first,rawInt 0,.ref S,rawInt es.size,rawInt (<-setEpoch S)])) _ _ s
 have fin:∀(f0:Value)(s1:Shared),s1.heap.get? S=some o->(∀Q':Value->Shared->Prop,Q' (.ref s1.heap.objs.size) {s1 with heap:=s1.heap.push {cls:=.type "set_iterator",data:=.fields #[f0,.int 0 0,.ref S,.int xs.length 0,.int ep 0]}}->
   wpAny (model prog w) A.in1 (do ret (<-newFields "set_iterator" [f0,rawInt 0,.ref S,rawInt es.size,rawInt (<-setEpoch S)])) (λf s'=>∃v,f=.done (.ret v)/\Q' v s') E s1):=λf0 s1 g Q' q=>by
  refine wb0 (wpAny_setEpoch_of g h2 h3 ?_);unfold newFields;refine wb0 (wpAny_newObj_type (wq0 ⟨_,rfl,?_⟩));rw[hes];exact q
 cases hb:byTx w with
 |true=>
  rw[if_neg (by simp)];refine wb0 (wq0 (fin _ s h1 _ ?_));have hne:S≠s.heap.objs.size:=nn0 ltS;obtain⟨order,po,W⟩:=sM (kd:=kd) (prog:=prog) (A:=A) (I:=s.heap.objs.size) (S:=S) (xs:=xs) (ep:=ep) hb hne hh;refine⟨_,_,⟨_,pz0 _ rfl,rfl⟩,slot_sit_next.lookup,?_⟩;refine h _ s.drawn _ (λb o e=>ps0 _ e) ⟨_,order,_,po,W,⟨⟨_,pz0 _ rfl,rfl,rfl⟩,hS.keep λo e=>ps0 _ e⟩,λb hb=>?_,eY _⟩;rcases mq0 hb with e|hb
  .rw[e];exact .inr (eY _)
  .exact .inl (by simpa using hb)
 |false=>
  by_cases n1:t.plain=true\/xs.length<=1
  .rw[if_neg (by
    rcases n1 with z|z
    .rw[z];simp
    .rw[df0 (by omega)];simp)]
   refine wb0 (wq0 (fin _ s h1 _ ?_));have hne:S≠s.heap.objs.size:=nn0 ltS;have n1':t.plain=false->xs.length<=1:=λz=>n1.resolve_left (by rw[z];exact fx0)
   have W:=vQ (kd:=kd) (A:=A) (I:=s.heap.objs.size) (S:=S) (xs:=xs) (ep:=ep) hb hne hh;refine⟨_,_,⟨_,pz0 _ rfl,rfl⟩,slot_sit_next.lookup,?_⟩;refine h _ s.drawn _ (λb o e=>ps0 _ e) ⟨_,xs,_,.refl _,W,⟨0,⟨_,pz0 _ rfl,rfl,rfl⟩,hS.keep λo e=>ps0 _ e,λo' es' t' z1 z2=>?_⟩,λb hb=>?_,eY _⟩
   .have z1:=z1
    rw[ps0 _ h1]at z1;cases z1;rw[h2]at z2;injection z2 with _ _ z2
    subst z2;exact⟨n1',(mH h6 (by rw[<-hes];exact h3) n1').zero⟩
   rcases mq0 hb with e|hb
   .rw[e];exact .inr (eY _)
   .exact .inl (by simpa using hb)
  .have np:=bf0 λz=>n1 (.inl z)
   rw[if_pos (by rw[np,dt0 (by have:¬ xs.length<=1:=λz=>n1 (.inr z);omega)];rfl)];refine wb0 (sI _ _ _ _ List.length_range.symm λps d hp=>wb0 ?_);rw[hes]at hp;have hl:ps.length=xs.length:=by rw[hp.length_eq,lr0]
   refine wpAny_newTuple ?_ (by rw[lm0,hl,sizeLine_eq];omega);refine fin _ {s with heap:=s.heap.push _,drawn:=d} (ps0 _ h1) _ ?_;have hne:S≠(s.heap.push {cls:=.type "tuple",data:=.seq (ps.map λ(k:Nat)=>rawInt (k:Int)).toArray}).objs.size:=by rw[Heap.size_push];exact nn0 (Nat.lt_succ_of_lt ltS)
   have hne2:s.heap.objs.size≠(s.heap.push {cls:=.type "tuple",data:=.seq (ps.map λ(k:Nat)=>rawInt (k:Int)).toArray}).objs.size:=by rw[Heap.size_push];omega
   have W:=oV (kd:=kd) (prog:=prog) (w:=w) (A:=A) (I:=(s.heap.push {cls:=.type "tuple",data:=.seq (ps.map λ(k:Nat)=>rawInt (k:Int)).toArray}).objs.size) (S:=S) (T:=s.heap.objs.size) (xs:=xs) (ep:=ep) hp hne hne2 hh;have kk:∀b o,s.heap.get? b=some o->((s.heap.push {cls:=.type "tuple",data:=.seq (ps.map λ(k:Nat)=>rawInt (k:Int)).toArray}).push {cls:=.type "set_iterator",data:=.fields #[.ref s.heap.objs.size,.int 0 0,.ref S,.int xs.length 0,.int ep 0]}).get? b=some o:=λb o e=>ps0 _ (ps0 _ e)
   have no:∀b,s.heap.objs.size<=b->s.heap.get? b=none:=λb hb=>by
    cases q:s.heap.get? b with
    |none=>rfl
    |some o=>exact absurd (hs0 q) (Nat.not_lt.mpr hb)
   refine⟨_,_,⟨_,pz0 _ rfl,rfl⟩,slot_sit_next.lookup,?_⟩;refine h _ d _ kk ⟨_,_,_,(hp.map _).trans (.of_eq ((by
     apply List.ext_getElem
     .simp
     .intro i h1 h2
      simp[h2]))),W,⟨⟨_,pz0 _ rfl,rfl,rfl⟩,hS.keep λo e=>kk _ _ e,_,ps0 _ (pz0 _ rfl),rfl⟩,λb hb=>?_,no _ (by rw[Heap.size_push];omega)⟩
   rcases mq0 hb with e|hb
   .rw[e];exact .inr (no _ (by rw[Heap.size_push];omega))
   .rcases mq0 hb with e|hb
    .exact .inl e
    .have:b=s.heap.objs.size:=by simpa using hb
     rw[this];exact .inr (eY _)
def vS{Q}(hT:s.TypeIs (.ref S) "set")(h:Q false s):wpAny (model prog w) A (Builtin.List.listLengthHint (.ref S)) Q E s:=by
 unfold Builtin.List.listLengthHint;refine wb0 (wpAny_specialOf hT F.slot_set_len.lookup ?_);generalize hid:("set.__len__":String)=id0
 wp_delta
 rw[show splitId id0=some ("set","__len__")from by subst hid;decide +kernel];subst hid;refine wb0 (wpAny_isInstance (T:="set") (b:=true) hT (by rw[isSubtype_type];kernel_rfl) ?_);refine wpAny_ite_split (λz=>absurd z (by decide)) λa=>wpAny_ite_split (λa=>wb0 (wpAny_typeOf hT (wq0 h))) λz=>absurd (by decide +kernel) z
def oW{R}{L}(hh:A.handled=none)(hS:StrSet kd s.heap S xs ep)(hz:xs.length<4000)(res)(hL:s.heap.get? L=some {cls:=.type "list",data:=.seq #[]})(hLS:L≠S)
  (h:∀h' tk d (order:List (Z×Tok)) (acc:Array Value) c,order.Perm xs->(∀b o,b≠L->s.heap.get? b=some o->h'.get? b=some o)->h'.get? L=some {cls:=.type "list",dict:=none,data:=.seq acc c,slots:=#[]}->acc.toList=order.map (λp=>kd.vl p.1 p.2)->R (.ok (.ret res)) {s with heap:=h',toks:=tk,drawn:=d}):
  wpAny (model prog w) A.in1 (Builtin.List.listExtendWith (.ref L) (.ref S) res)
   (λfin s'=>match fin with|.done f=>R (.ok f) s'|.again c'=>c'.quiet=true/\codeAny (model prog w) A c' R s') (λe s'=>R (.error e) s') s:=by
 unfold Builtin.List.listExtendWith;refine wb0 (wpAny_typeOf (T:="set") hS.isA ?_);have q1:Builtin.List.listSameRef (.ref L) (.ref S)=false:=by simp[Builtin.List.listSameRef,hLS]
 have q2:(Value.type "set"==Value.type "list")=false:=by decide
 have q3:(Value.type "set"==Value.type "tuple")=false:=by decide
 simp only[q1,q2,q3,Bool.or_false,Bool.false_eq_true,if_false];refine wb0 (vR (A:=A.in1) hh hS hz λh' d I kk W=>?_);obtain⟨fp,order,St,po,W,st,hfp,hI⟩:=W.ex;have nIL:I≠L:=λe=>by rw[e,hL]at hI;cases hI
 have nf:L∉fp:=λhb=>(hfp L hb).elim hLS λz=>by rw[hL]at z;cases z
 refine wb0 (wh0 (vS (s:={s with heap:=h',drawn:=d}) (hS.keep λo e=>kk _ _ e).isA ?_));have key:∀(h2:Heap)(tk c:Nat),St 0 {s with heap:=h2,drawn:=d,toks:=tk}->(∀b o,b≠L->s.heap.get? b=some o->h2.get? b=some o)->h2.get? L=some {cls:=.type "list",data:=.seq #[] c}->codeAny (model prog w) A (.builtin "list.extend.loop" ⟨[.ref L,.ref I,res],[]⟩) R {s with heap:=h2,drawn:=d,toks:=tk}:=λh2 tk c st2 k2 l2=>by
  refine codeAny_extend_loopS W (by rw[sizeLine_eq];omega) L nf res xs.length 0 _ #[] c rfl (Nat.zero_le _) st2 l2 (ItemsOf.nil _) λs' acc c' hm hL' hacc=>?_
  have es:s'={s with heap:=s'.heap,toks:=s'.toks,drawn:=d}:=by
   obtain⟨_,a1,a2,a3,_⟩:=hm;obtain⟨hp,g,dd,tk,os⟩:=s';simp only at a1 a2 a3;subst a1 a2 a3;rfl
  rw[es];refine h s'.heap s'.toks d order acc c' po (λb o hb e=>hm.heap b o (λz=>?_) (k2 b o hb e)) hL' ?_
  .rcases mq0 z with z|z
   .exact hb z
   .have:b=I:=by simpa using z
    rw[this,hI]at e;cases e
  .apply List.ext_getElem?
   intro i;rw[Array.getElem?_toList,gm0];cases q:acc[i]? with
   |none=>
    have hi:acc.size<=i:=by simpa using q
    rw[List.getElem?_eq_none (by rw[po.length_eq];rw[hacc.1]at hi;exact hi)];rfl
   |some v=>
    obtain⟨p,e1,rfl⟩:=hacc.2 i v q;rw[e1];rfl
 have oth:∀(f:Array Value->Array Value)(hh:Heap)(b:Addr)(o:Obj),b≠L->hh.get? b=some o->(hh.update L (Obj.mapSeq f)).get? b=some o:=λf hh b o nb e=>(Heap.get?_update_other _ _ (Ne.symm nb)).trans e
 have hL1:=kk _ _ hL;refine wpAny_ite_split (λa=>?_) (λa=>wq0 ⟨plainId_quiet F.plain_extend_loop _,key h' s.toks 0 st (λb o a e=>kk b o e) hL1⟩);refine wb0 (wpAny_rule (wb0 ?_));show wpAny (model prog w) _ (updateSeq L (·.push .none) >>= λa=>updateSeq L (·.pop)) _ _ _;refine wb0 (wpAny_updateSeq hL1 rfl ?_);have hL2:=hu0 (Obj.mapSeq (·.push Value.none)) hL1 rfl;refine wpAny_updateSeq (hz:=by seq_fits) hL2 rfl ?_;have hL3:=hu0 (Obj.mapSeq (·.pop)) hL2 rfl;refine wq0 ⟨plainId_quiet F.plain_extend_loop _,key _ s.toks _ (W.frame 0 _ _ _ st (nr0 _) λb hb o e=>?_) (λb o nb e=>oth _ _ _ _ nb (oth _ _ _ _ nb (kk b o e))) hL3⟩
 exact oth _ _ _ _ (λz=>nf (z▸hb)) (oth _ _ _ _ (λz=>nf (z▸hb)) e)
def mI{R}(hh:A.handled=none)(hS:StrSet kd s.heap S xs ep)(hz:xs.length<4000)
  (h:∀h' tk d (order:List (Z×Tok)),order.Perm xs->s.heap.objs.size<=h'.objs.size->(∀b o,s.heap.get? b=some o->h'.get? b=some o)->R (order.map λp=>kd.vl p.1 p.2) {s with heap:=h',toks:=tk,drawn:=d}):
  wpAny (model prog w) A (collect (.ref S)) R E s:=by
 have ltS:=let ⟨_,_,_,e,_⟩:=hS;hs0 e
 unfold collect;refine wb0 (wpAny_runValue (codeAny_builtin entry_proto_collect' ?_));rw[ui0 PySem.F.plain_proto_collect];show wpAny _ A.in1 (newList [] >>= λl=>again (.builtin "list.__iadd__" ⟨[l,.ref S],[]⟩)) _ _ s;refine wb0 (wpAny_newObj_type (wq0 ⟨plainId_quiet PySem.F.plain_list_iadd _,codeAny_builtin entry_list_iadd' ?_⟩));rw[ui0 PySem.F.plain_list_iadd];have hL:(s.heap.push {cls:=.type "list",data:=.seq ([]:List Value).toArray}).get? s.heap.objs.size=some {cls:=.type "list",data:=.seq #[]}:=pz0 _ rfl;show wpAny _ A.in1 (Builtin.List.listExtendWith (.ref s.heap.objs.size) (.ref S) (.ref s.heap.objs.size)) _ _ _
 refine wpAny_mono (oW (kd:=kd) (A:=A) (s:={s with heap:=s.heap.push {cls:=.type "list",data:=.seq ([]:List Value).toArray}})
  (R:=λq s'=>∃h' tk d,∃order:List (Z×Tok),∃(acc:Array Value)(c:Nat),q=.ok (.ret (.ref s.heap.objs.size))/\s'={s with heap:=h',toks:=tk,drawn:=d}/\order.Perm xs/\(∀b o,s.heap.get? b=some o->h'.get? b=some o)/\h'.get? s.heap.objs.size=some {cls:=.type "list",dict:=none,data:=.seq acc c,slots:=#[]}/\acc.toList=order.map (λp=>kd.vl p.1 p.2))
  hh (hS.keep λo e=>ps0 _ e) hz (.ref s.heap.objs.size) hL (Nat.ne_of_gt ltS) λh' tk d order acc c a1 a2 a3 a4=>⟨h',tk,d,order,acc,c,rfl,rfl,a1,λb o e=>a2 b o (nn0 (hs0 e)) (ps0 _ e),a3,a4⟩) (λfin s' x=>?_) λe s' x=>?_
 .cases fin with
  |done f=>
   obtain⟨h',tk,d,order,acc,c,e,rfl,a1,a2,a3,a4⟩:=x;cases e;show wpAny (model prog w) A (load s.heap.objs.size >>= _) _ _ _;refine wb0 (wpAny_load a3 (wq0 ?_));rw[a4];exact h h' tk d order a1 (Nat.le_of_lt (hs0 a3)) a2
  |again c1=>
   refine⟨x.1,codeAny_mono x.2 λq s2 y=>?_⟩;obtain⟨h',tk,d,order,acc,c,rfl,rfl,a1,a2,a3,a4⟩:=y;show wpAny (model prog w) A (load s.heap.objs.size >>= _) _ _ _;refine wb0 (wpAny_load a3 (wq0 ?_));rw[a4];exact h h' tk d order a1 (Nat.le_of_lt (hs0 a3)) a2
 .obtain⟨_,_,_,_,_,_,z,_⟩:=x
  cases z
noncomputable def kdS(prog:Program)(w:World):KD prog w Str:=⟨strKind prog w,.str,false,λk t=>by simp[strKind,Value.isStrOf],λa a=>rfl,λa a=>rfl⟩
def eK(order:List (Str×Tok)):StrsAre (order.map λp=>Value.str p.1 p.2) (order.map (·.1)):=by
 induction order with
 |nil=>exact .nil
 |cons p r ih=>exact .cons p.1 p.2 ih
def oX{P:List Value->Array Value->Prop}(hh:A.handled=none)(hS:StrSet kd s.heap S xs ep)(hz:xs.length<64)
  (srt:∀(A':Around)(E':Value->Shared->Prop)(s':Shared)(a:Addr)(order:List (Z×Tok))(Q':Fin->Shared->Prop),order.length<64->s'.heap.get? a=some (seqObj "list" (order.map λp=>kd.vl p.1 p.2).toArray 0)->(∀out,P (order.map λp=>kd.vl p.1 p.2) out->Q' (.done (.ret .none)) {s' with heap:=sortedHeap s'.heap a (order.map λp=>kd.vl p.1 p.2) out})->wpAny (model prog w) A' (Builtin.«list.sort» ⟨[.ref a],[]⟩) Q' E' s')
  (h:∀h' tk d D (out:Array Value) n (order:List (Z×Tok)),(∀b o,s.heap.get? b=some o->h'.get? b=some o)->h'.get? D=some (seqObj "list" out n)->s.heap.objs.size<=D->order.Perm xs->P (order.map λp=>kd.vl p.1 p.2) out->Q (.ref D) {s with heap:=h',toks:=tk,drawn:=d}):
  wpAny (model prog w) A (call (.builtin "sorted") [.ref S]) Q E s:=by
 refine Calls.call_function_entry kind_sorted plain_sorted entry_sorted (args_sorted1 _) ?_;unfold Builtin.«sorted»;refine wb0 (m:=checkCount "sorted" 1 1 _) (wq0 (wb0 (mI (A:=A.in1) hh hS (by omega) λh1 tk d order po sz k1=>?_)));have hl:order.length=xs.length:=po.length_eq;refine wb0 (wpAny_newList ?_ (by rw[lm0,hl,sizeLine_eq];omega));have gD:(h1.push {cls:=.type "list",data:=.seq (order.map λp=>kd.vl p.1 p.2).toArray}).get? h1.objs.size=some (seqObj "list" (order.map λp=>kd.vl p.1 p.2).toArray 0):=pz0 _ rfl;have kD:∀b o,s.heap.get? b=some o->b<h1.objs.size:=λb o e=>hs0 (k1 b o e)
 refine wb0 (wh0 (wpAny_call_entry slot_list_sort ⟨_,gD,rfl⟩ entry_list_sort (srt _ _ _ _ order _ (by omega) gD λout a1=>⟨_,rfl,?_⟩) (args_list_sort _)));refine wq0 ⟨_,rfl,?_⟩;obtain⟨n,fin⟩:=sortedHeap_at (out:=out) gD;refine h _ tk d h1.objs.size _ n order (λb o e=>?_) fin sz po a1;have lt:b<h1.objs.size:=kD b o e;exact (sortedHeap_old (nn0 lt) (by rw[size_push'];exact Nat.lt_succ_of_lt lt)).trans (ps0 _ (k1 b o e))
def gF{xs:List (Str×Tok)}(hh:A.handled=none)(hS:StrSet (kdS prog w) s.heap S xs ep)(hz:xs.length<64)
  (h:∀h' tk d D (out:Array Value) n (ss:List Str),(∀b o,s.heap.get? b=some o->h'.get? b=some o)->h'.get? D=some (seqObj "list" out n)->s.heap.objs.size<=D->StrsAre out.toList ss->ss.Perm (xs.map (·.1))->sortedS ss=true->Q (.ref D) {s with heap:=h',toks:=tk,drawn:=d}):
  wpAny (model prog w) A (call (.builtin "sorted") [.ref S]) Q E s:=by
 refine oX (P:=λvs out=>∀ss,StrsAre vs ss->∃ss',StrsAre out.toList ss'/\ss'.Perm ss/\sortedS ss'=true) hh hS hz (λA' E' s' a order Q' l gD k=>?_) λh' tk d D out n order kk gD sz po a1=>?_
 .refine list_sort_treeK strKind_oneLt gD (eK order).keysOf (λv1 v2 rest e=>keyKind_strs (by rw[<-e];exact eK order)) (by rw[lm0];exact l) λst' a1 a2=>k _ λss hs=>?_
  exact sorted_out_str hs a1 a2
 .obtain⟨ss,b1,b2,b3⟩:=a1 _ (eK order)
  exact h h' tk d D out n ss kk gD sz b1 (b2.trans (po.map _)) b3
end
end PySem
namespace SI
open PySem
def bg(x:Str):ltS x x=false:=by
 unfold ltS;exact df0 (List.lt_irrefl _)
def kN(h:x.cps.toList=y.cps.toList):x=y:=by
 cases x;cases y;simp only[Str.mk.injEq];exact Array.toList_inj.mp h
def fM{z:Str}(h1:ltS x y=true)(h2:ltS y z=true):ltS x z=true:=by
 unfold ltS at *;exact dt0 (List.lt_trans (od0 h1) (od0 h2))
def fN(h:x≠y)(h1:ltS x y=false):ltS y x=true:=by
 unfold ltS at *;have h1:=of_decide_eq_false h1;refine dt0 (Classical.byContradiction λh2=>h (kN ?_));exact List.le_antisymm (List.not_lt.mp h2) (List.not_lt.mp h1)
abbrev cj(l:List Str):Prop:=l.Pairwise λa b=>ltS a b=true
set_option tactic.hygienic true
theorem mem_insS(x:Str):∀(l:List Str)(y:Str),y∈jc x l↔y=x\/y∈l
 |[],y=>by simp[jc]
 |z::r,y=>by
  unfold jc;split
  .rename_i e;subst e;simp
  .split
   .simp
   .rw[List.mem_cons,mem_insS x r y,List.mem_cons]
    exact⟨λh=>h.elim (λa=>.inr (.inl a)) λh=>h.elim .inl λa=>.inr (.inr a),λh=>h.elim (λa=>.inr (.inl a)) λh=>h.elim .inl λa=>.inr (.inr a)⟩
theorem jM(x:Str):∀l:List Str,cj l->cj (jc x l)
 |[],_=>by simp[jc]
 |z::r,h=>by
  obtain⟨h1,h2⟩:=List.pairwise_cons.mp h;unfold jc;split
  .exact h
  .rename_i ne
   split
   .rename_i lt
    refine List.pairwise_cons.mpr ⟨λb hb=>?_,h⟩;rcases mq0 hb with e|hb
    .rw[e];exact lt
    .exact fM lt (h1 b hb)
   .rename_i nlt
    refine List.pairwise_cons.mpr ⟨λb hb=>?_,jM x r h2⟩;rcases (mem_insS x r b).mp hb with e|hb
    .rw[e];exact fN ne (bf0 nlt)
    .exact h1 b hb
set_option tactic.hygienic false
theorem dz:∀(l:List Str)(y:Str),y∈srtS l↔y∈l
 |[],y=>by simp[srtS]
 |x::r,y=>by rw[srtS,mem_insS,dz r,List.mem_cons]
theorem fO:∀l:List Str,cj (srtS l)
 |[]=>List.Pairwise.nil
 |x::r=>jM x _ (fO r)
theorem qD:∀{l m:List Str},cj l->cj m->(∀y,y∈l↔y∈m)->l=m
 |[],[],_,_,_=>rfl
 |[],y::r,_,_,h=>absurd ((h y).mpr ms0) (by simp)
 |x::r,[],_,_,h=>absurd ((h x).mp ms0) (by simp)
 |x::r,y::q,h1,h2,h=>by
  obtain⟨a1,a2⟩:=List.pairwise_cons.mp h1;obtain⟨b1,b2⟩:=List.pairwise_cons.mp h2;have e:x=y:=by
   rcases mq0 ((h x).mp ms0)with e|m1
   .exact e
   .rcases mq0 ((h y).mpr ms0)with e|m2
    .exact e.symm
    .exact absurd (fM (b1 x m1) (a1 y m2)) (by rw[bg];exact fx0)
  subst e;rw[qD a2 b2 λz=>⟨λm=>?_,λm=>?_⟩]
  .rcases mq0 ((h z).mp (mc0 _ m))with e|m'
   .subst e;exact absurd (a1 z m) (by rw[bg];exact fx0)
   .exact m'
  .rcases mq0 ((h z).mpr (mc0 _ m))with e|m'
   .subst e;exact absurd (b1 z m) (by rw[bg];exact fx0)
   .exact m'
def mJ(l:List Str):(srtS l).length<=l.length:=by
 induction l with
 |nil=>exact nr0 _
 |cons x r ih=>
  have:∀q:List Str,(jc x q).length<=q.length+1:=by
   intro q
   induction q with
   |nil=>exact nr0 _
   |cons y q ihq=>
    unfold jc;split
    .exact Nat.le_succ _
    .split
     .exact nr0 _
     .simp only[lc0];omega
  have:=this (srtS r);rw[srtS,lc0];omega
end SI
namespace L2.Z
open PySem PySem.Spec PyProof.Rows L2 L2.C SI
def zq(h:sortedS ss=true)(n:ss.Nodup):cj ss:=by
 have go:∀(l:List Str)(p:Str),risingS p l=true->(p::l).Nodup->cj (p::l):=by
  intro l
  induction l with
  |nil=>intro p _ _;simp
  |cons x r ih=>
   intro p h n;have h:(!ltCps x.cps.toList p.cps.toList&&risingS x r)=true:=h;rw[be0,Bool.not_eq_true',ltCps_eq]at h;obtain⟨n1,n2⟩:=List.nodup_cons.mp n;have rr:=ih x h.2 n2;have lt:ltS p x=true:=fN (λe=>n1 (by rw[e];exact ms0)) h.1;refine List.pairwise_cons.mpr ⟨λb hb=>?_,rr⟩;rcases mq0 hb with e|hb
   .rw[e];exact lt
   .exact fM lt ((List.pairwise_cons.mp rr).1 b hb)
 cases ss with
 |nil=>exact List.Pairwise.nil
 |cons p l=>exact go l p h n
section
variable {e:Expr}{p q:Pos}
noncomputable def DM{prog:Program}{w:World}{Z:Type}[DecidableEq Z](kd:KD prog w Z)(l:Addr)(ks:List Z):Heap->Prop:=λh=>∃xs ep,xs.map (·.1)=ks/\StrSet kd h l xs ep
def mK{Z:Type}{f:Z->V}{g:Z->Tok->Value}(fg:∀y u,RelV (f y) u->∃tk,u=g y tk):∀{ss:List Z}{us:List Value},Vals (ss.map f) us->us.length=ss.length/\∀(j:Nat)(x:Z),ss[j]?=some x->∃tk,us[j]?=some (g x tk):=by
 intro ss
 induction ss with
 |nil=>intro us h;cases h;exact⟨rfl,λj x h=>by simp at h⟩
 |cons y r ih=>
  intro us h;cases h with
  |cons h1 h2=>
   obtain⟨a,b⟩:=ih h2;refine⟨by simp[a],λj x h=>?_⟩;cases j with
   |zero=>
    simp at h;subst h;obtain⟨tk,rfl⟩:=fg _ _ h1;exact⟨tk,rfl⟩
   |succ j=>exact b j x (by simpa using h)
def sN(h:Vals (ss.map V.str) us):us.length=ss.length/\∀(j:Nat)(x:Str),ss[j]?=some x->∃tk,us[j]?=some (.str x tk):=mK (f:=V.str) (g:=λy t=>.str y t) (λa a h=>h) h
def fD{ss:List Int}(h:Vals (ss.map V.int) us):us.length=ss.length/\∀(j:Nat)(x:Int),ss[j]?=some x->∃tk,us[j]?=some (.int x tk):=mK (f:=V.int) (g:=λy t=>.int y t) (λa a h=>h) h
theorem fb:∀{us:List Value}{ss:List Str},StrsAre us ss->Vals (ss.map V.str) us
 |_,_,.nil=>.nil
 |_,_,.cons x t r=>.cons ⟨t,rfl⟩ (fb r)
def sO{Z:Type}[DecidableEq Z][Inhabited Z](kd:KD X.prog X.w Z)(vv:Z->V)(hv:∀(ss:List Z)(us:List Value),Vals (ss.map vv) us->us.length=ss.length/\∀(j:Nat)(x:Z),ss[j]?=some x->∃tk,us[j]?=some (kd.vl x tk))(hc:X.calm=true):aW X (.type "set") (λxs H Q=>∃(r:Addr)(ss:List Z),xs=[.ref r]/\SqL X.K H r (ss.map vv)/\ss.length<64/\∀l (ks:List Z),H l=none->ks.Nodup->(∀y,y∈ks↔y∈ss)->ks.length<=ss.length->Q (.ref l) (upd H l (.ext (DM kd l ks)))):=by
 intro pins s σ H xs us Q I r h;obtain⟨rr,ss,rfl,hq,hz,k⟩:=h;obtain⟨u,rfl,rx⟩:=vals1 r;cases rx;obtain⟨its,r',pl,_⟩:=I.list hq;obtain⟨v1,v2⟩:=hv _ _ r';refine je (kd:=kd) (I.ok.hd hc) pl.isList (by rw[ls0,v1]) (by rw[ls0,v1];omega) (λj x e=>by obtain⟨tk,e⟩:=v2 j x e;exact⟨tk,by simpa using e⟩) λh' tk S ys ep fr hS nd mem len kk=>?_
 have gS:∃o,h'.get? S=some o:=let ⟨o,_,_,e,_⟩:=hS;⟨o,e⟩
 have hn:H S=none:=I.hok.fresh fr;refine⟨.ref S,_,I.laid (t':=tk) kk fr (show ObjOk X.prog X.w _ _ _ (.ext _)from⟨⟨ys,ep,rfl,hS⟩,gS,λh1 h2 ⟨a,b,c,d⟩ k2=>⟨a,b,c,d.keep k2⟩⟩),rfl,k S (ys.map (·.1)) hn nd mem (by rw[lm0];exact len)⟩
def sP{pins}{H}{s}(I:Inv X pins σ H s)(d):Inv X pins σ H {s with drawn:=d}:=
 ⟨I.ok,I.os,I.bare,I.base,I.loc,I.cell,I.free,I.freeC,I.pin,I.hok,I.len⟩
def kP(hc:X.calm=true):aW X (.builtin "sorted") (λxs H Q=>∃(l:Addr)(ks:List Str),xs=[.ref l]/\H l=some (.ext (DM (kdS X.prog X.w) l ks))/\ks.length<64/\∀r (ss:List Str),H r=none->ss.Perm ks->sortedS ss=true->Q (.ref r) (upd H r (.lst (ss.map V.str)))):=by
 intro pins s σ H xs us Q I r h;obtain⟨l,ks,rfl,hl,hz,k⟩:=h;obtain⟨u,rfl,rx⟩:=vals1 r;cases rx;obtain⟨⟨xs,ep,rfl,hS⟩,_⟩:=(show ObjOk X.prog X.w H s.heap l (.ext _)from I.hok l _ hl);refine gF (I.ok.hd hc) hS (by rw[lm0]at hz;exact hz) λh' tk d D out n ss kk gD fr sa pe so=>?_
 have hlen:(ss.map V.str).length<=sizeLine:=by
  rw[lm0,pe.length_eq,lm0,sizeLine_eq];rw[lm0]at hz;omega
 refine⟨.ref D,_,((sP I d).laid (s:={s with drawn:=d}) (t':=tk) kk fr (show ObjOk X.prog X.w _ _ _ (.lst _)from⟨hlen,out.toList,n,fb sa,by simpa using gD⟩)),rfl,k D ss (I.hok.fresh fr) pe so⟩
def fe:bootBuiltins ("sorted":Str)=some (.builtin "sorted"):=by decide +kernel
def sQ:bootBuiltins ("set":Str)=some (.type "set"):=by decide +kernel
def DN{G:Hp}:∀{ds:List D}{vs:List V}{ss:List Str},strsOf ds=some ss->Dps K G ds vs->vs=ss.map V.str/\∀x∈ss,PyData.strOk x=true:=by
 intro ds
 induction ds with
 |nil=>intro vs ss h q;cases q;cases h;exact⟨rfl,λa z=>by cases z⟩
 |cons d r ih=>
  intro vs ss h q;cases d with
  |str x=>
   obtain⟨ss,e,rfl⟩:=mx0 (show (strsOf r).map (x::·)=some _ from h);cases q with
   |cons dd q=>
    obtain⟨e1,e2⟩:=ih e q;cases dd with
    |str _ ok=>
     refine⟨by rw[e1];rfl,λy hy=>?_⟩;rcases mq0 hy with z|z
     .rw[z];exact ok
     .exact e2 y z
  |_=>cases h
theorem vT{G:Hp}:∀{ss:List Str},(∀x∈ss,PyData.strOk x=true)->Dps K G (ss.map .str) (ss.map V.str)
 |[],_=>.nil
 |x::r,h=>.cons (.str _ (h x ms0)) (vT λy hy=>h y (mc0 _ hy))
set_option tactic.hygienic true in
def sR(hcalm:X.calm=true)(B1:Blt X "sorted")(B2:Blt X "set")(h:biD .srt ds=some d)(ha:Ea X Y fl3 [a] ds)(hs:isStar a=false):Ev X Y (.Call (.Name "sorted" p) [.Call (.Name "set" p2) [a] [] q] [] pos) d:=by
 match ds,h with
 |[.list ls],h=>
  have st:=af (env:=X.env) (es:=[]) hs;obtain⟨ss,h1,h2⟩:=bx0 (show (strsOf ls).bind _=some d from h)
  .have h2:(if ss.length<64 then some (D.list ((srtS ss).map .str))else .none)=some d:=h2
   split at h2
   .rename_i hz
    cases h2;intro pins s σ H Q I h0;obtain⟨G0,H0,G,E,k⟩:=h0;refine di (kP hcalm) B1.g B1.m fe (ay (dE (sO (kdS X.prog X.w) V.str (λb b=>sN) hcalm) B2.g B2.m sQ ha B2.n B2.d st rfl) aT rfl) B1.n B1.d rfl rfl pins s σ H Q I ?_;refine⟨G0,H0,G,E,λvs G1 H1 e1 r1=>?_⟩;obtain⟨v,rfl,hv⟩:=r1.one;obtain⟨r,ws,rfl,h3,h4⟩:=hv.lst e1.gh;obtain⟨rfl,oks⟩:=DN h1 h4;refine⟨r,ss,rfl,SqL.of h3,hz,λl ks hl nd mem len=>?_⟩;refine⟨l,ks,rfl,ae,by omega,λr2 ss2 hr2 pe so=>?_⟩;have e:ss2=srtS ss:=qD (zq so (pe.nodup_iff.mpr nd)) (fO ss) λy=>pe.mem_iff.trans ((mem y).trans (dz ss y).symm)
    subst e;have e2:Ext G1 H1 G1 (upd H1 l (.ext (DM (kdS X.prog X.w) l ks))):=.hid e1.gh hl;exact k _ _ _ (e1.trans (e2.trans (.laid e2.gh hr2))) (.list ae ((vT λx hx=>oks x ((dz ss x).mp hx)).mono (Same.refl _)))
   .cases h2
end
section
variable {e:Expr}{p:Pos}{dk:D}{key:Key}{kvs:List (Key×D)}
def GX(hb:attributeBase o m X.env (eval o X.env)=eval o X.env)(hs:isStar a=false)(hl:(apos.endLine==pos.line)=true):M1 X o m apos a pos:=by
 have hS:=af (es:=[]) (env:=X.env) hs;exact⟨hb,by rw[hS];rfl,hl,by rw[hS];rfl⟩
def sS(hu:X.A.units+1<cLine)(ho:Er X Y o (.fdc kvs))(ha:Ev X Y a dk)(hk:kB dk=some key)(hs:isStar a=false)(hsup:aL o=false)(hl:(apos.endLine==pos.line)=true):Ev X Y (.Call (.Attribute o "get" apos) [a] [] pos) ((look kvs key).getD .none):=by
 intro pins s σ H Q I h0;obtain⟨G0,H0,G,E,k⟩:=h0;refine uC hu ho ha (GX (base_of hsup) hs hl) pins s σ H Q I ⟨G0,H0,G,E,λv G1 H1 e1 r1=>?_⟩;obtain⟨q,ob,ws,rfl,h1,d1⟩:=r1.fdc e1.gh;refine⟨q,rfl,.inl ⟨ws,.inr ⟨_,h1⟩⟩,G0,H0,G1,E.step e1,λw G2 H2 e2 r2=>⟨dj ws key,by rw[bQ (.of (H:=H2) r2) hk];exact .inl ⟨_,_,.inr ⟨_,e2.hh _ _ h1⟩,rfl,rfl⟩,k _ G2 H2 (e1.trans e2) ?_⟩⟩;rcases (d1.mono e2.gg).look (k:=key)with⟨z1,z2⟩|⟨d,v,z1,z2,z3⟩
 .rw[z1,z2];exact .none
 .rw[z1,z2];exact z3
end
section
variable {ipos p:Pos}{kvs es:List (Key×D)}
def oY{ps:List (Key×D)}(hcalm:X.calm=true)(B:Blt X "dict")(h:pairsOf ls=some ps)(ha:Er X Y a (.list ls))(hs:isStar a=false):En X Y (.Call (.Name "dict" p) [a] [] pos) (.dict (putAll [] ps)):=by
 refine eX (fl:=[true]) B (ij hcalm) eH (ic ha rfl ia hs) (λx hx=>by cases hx with|head=>exact hs|tail _ z=>cases z) λvs G H Q s r k=>?_
 obtain⟨v,rfl,hv⟩:=r.one;obtain⟨q,ws,rfl,h1,r1⟩:=hv.lst s;obtain⟨qs,p1,p2⟩:=gm s r1 h;exact⟨q,ws,qs,rfl,h1,p1,λl hl=>k l G _ (.hid s hl) (s.free hl) hl (.inr ⟨_,_,rfl,ae,Dks.merge p2 .nil List.nodup_nil⟩)⟩
def oZ(hcalm:X.calm=true):aW X (.type "dict") (λvs H Q=>∃a ws ps,vs=[.ref a]/\H a=some (.lst ws)/\PrV H ws ps/\∀p ob,H p=.none->Q (.ref p) (upd H p (.frz ob (.dK (bG [] ps))))):=by
 intro pins s σ H vs us Q I r h;obtain⟨a,ws,ps,rfl,ha,hp,q⟩:=h;refine thn (ij hcalm pins s σ H _ us (λv H'=>∃p,v=.ref p/\H p=.none/\H'=upd H p (.dK (bG [] ps))) I r ⟨a,ws,ps,rfl,ha,hp,λp hp=>⟨p,rfl,hp,rfl⟩⟩) λu s' h=>?_
 obtain⟨v,H',I',r',p,rfl,hp,rfl⟩:=h;obtain⟨o1,o2,vs,o3,o4⟩:=(show ObjOk X.prog X.w _ s'.heap p (.dK _)from I'.hok p _ ae);obtain⟨ob,es,ep,g,rest⟩:=id o4;have:=I'.write (x:=p) (e:=p) (o:=.frz ob (.dK (bG [] ps))) (h':=s'.heap) (t':=s'.toks) (by rw[ae];trivial) (.inl rfl) (λb b b e=>e) ⟨_,g⟩ ⟨g,o1,o2,vs,o3,o4⟩;rw[yh]at this;exact⟨.ref p,_,this,r',q p ob hp⟩
def sU{ps:List (Key×D)}(hcalm:X.calm=true)(B:Blt X "dict")(h:pairsOf ls=some ps)(ha:Er X Y a (.list ls))(hs:isStar a=false):Ev X Y (.Call (.Name "dict" p) [a] [] pos) (.fdc (putAll [] ps)):=by
 intro pins s σ H Q I h0;obtain⟨G0,H0,G,E,k⟩:=h0;refine dE (oZ hcalm) B.g B.m eH (ay ha aT (af hs)) B.n B.d (af hs) rfl pins s σ H Q I ⟨G0,H0,G,E,λv G1 H1 e1 r1=>?_⟩;obtain⟨q,ws,rfl,h1,r1⟩:=r1.lst e1.gh;obtain⟨qs,p1,p2⟩:=gm e1.gh r1 h;exact⟨q,ws,qs,rfl,h1,p1,λl ob hl=>k _ _ _ (e1.trans (.laid e1.gh hl)) (.fdc ae ((Dks.merge p2 .nil List.nodup_nil).mono (av (e1.gh.free hl))))⟩
def pf:aW X (.type "dict") (λvs H Q=>∃a ws,vs=[.ref a]/\Rd H a (.dK ws)/\∀p,H p=.none->Q (.ref p) (upd H p (.dK ws))):=by
 intro pins s σ H vs us Q I r h;obtain⟨a,ws,rfl,ha,q⟩:=h;obtain⟨u,rfl,ru⟩:=vals1 r;cases ru;obtain⟨z,lo,vs,kv,hD⟩:=eT I.hok ha;refine kt_call_dict lo hD (by rw[<-KV.length kv];exact z) λh' dd sb=>⟨.ref s.heap.objs.size,_,I.laid (a:=s.heap.objs.size) (t':=s.toks) (λb o e=>?_) (nr0 _) (oA z (bn0 (Ne.symm (nn0 I.big))) kv dd),rfl,q _ I.fresh⟩
 exact sb.extBut b o (nn0 (hs0 e)) (ps0 _ e)
def mL(B:Blt X "dict")(ha:Er X Y a (.fdc kvs))(hs:isStar a=false):En X Y (.Call (.Name "dict" p) [a] [] pos) (.dict kvs):=by
 refine eX (fl:=[true]) B pf eH (ic ha rfl ia hs) (λx hx=>by cases hx with|head=>exact hs|tail _ z=>cases z) λvs G H Q s r k=>?_
 obtain⟨v,rfl,hv⟩:=r.one;obtain⟨q,ob,ws,rfl,h1,r1⟩:=hv.fdc s;exact⟨q,ws,rfl,.inr ⟨_,h1⟩,λl hl=>k l G _ (.hid s hl) (s.free hl) hl (.inr ⟨_,_,rfl,ae,r1⟩)⟩
def DO:MtM X "dict.update" (λx vs H Q=>∃l b ob ws zs,x=.ref l/\vs=[.ref b]/\H l=some (.dK ws)/\H b=some (.frz ob (.dK zs))/\ws.length+zs.length<=sizeLine/\Q .non (upd H l (.dK (bG ws zs)))):=by
 intro pins s σ H x vs v us Q I rx rv h;obtain⟨l,b,ob,ws,zs,rfl,rfl,hl,hb,hz,q⟩:=h;cases rx;obtain⟨u,rfl,ru⟩:=rv.one;cases ru;obtain⟨z1,lo1,vs1,kv1,hD1⟩:=Ba I.hok hl;obtain⟨z2,lo2,vs2,kv2,hD2⟩:=eT I.hok (.inr ⟨_,hb⟩);have ne:l≠b:=FP hl hb (by intro z;cases z);refine call_meetsIn PySem.F.slot_dict_update hD1.typeIs PySem.F.entry_dict_update (PySem.F.args_dict_update_2 _ _) (meets_dict_update (mixKind X.prog X.w) l b ne lo2) ⟨vs1,vs2,hD1,hD2,by rw[<-KV.length kv1,<-KV.length kv2];exact hz,λh' dd a sb=>?_⟩;have hz':(bG ws zs).length<=sizeLine:=nt0 (bR zs ws) hz;obtain⟨ob',es,ep,g,rest⟩:=id dd
 exact⟨.non,_,I.write (x:=l) (e:=l) (t':=s.toks) (by rw[hl];trivial) (.inl rfl) (λc o e1 e2=>sb.extBut c o e1 e2) ⟨_,g⟩ (oA hz' lo1 (KV.merge kv2 kv1) dd),rfl,q⟩
def DP(V:VarOk X x i)(h:Ev X Y a (.fdc es))(hs:isStar a=false)(ho:Y[i]?=some (.own (.dict kvs)))(hz:kvs.length+es.length<=1000)(hl:(apos.endLine==cpos.line)=true):
  E1 X Y (.Expr (.Call (.Attribute (.Name x p1) "update" apos) [a] [] cpos) pos) (.nx (Y.set i (.own (.dict (putAll kvs es))))):=by
 have hS:=af (es:=[]) (env:=X.env) hs;intro pins s σ H F I h0;obtain⟨G0,H0,G,env,R⟩:=h0;obtain⟨q,vs,b,c,g⟩:=lZ env ho;have nd:(vs.map (·.1)).Nodup:=by
  obtain⟨_,_,us,kv,_,_,_,_,_,_,_,_,nd⟩:=Ba I.hok c;rw[kv.keys];exact nd
 refine cG (ju PySem.F.plainAttrs_dict PySem.F.slot_dict_update PySem.F.type_dict_update DO V.pe (ay h aT hS) fK (by rw[hS];rfl) hl hS rfl) rfl pins s σ H F I ?_;refine⟨.ref q,b,.inr (.inr (.inl ⟨rfl,.inl ⟨_,c⟩⟩)),G0,H0,G,env,λw G1 H1 e1 r=>?_⟩;cases r with
 |@fdc a ob _ ws hq rq=>
  exact⟨q,a,ob,vs,ws,rfl,rfl,e1.hh _ _ c,e1.gh _ _ hq,by rw[<-g.length,<-rq.length];exact Nat.le_of_lt (dF hz),R G1 _ _ ((env.step e1).change ho b (.inr ⟨_,_,rfl,ae,Dks.merge rq (g.mono e1.gg) nd⟩)) e1.gg⟩
end
end L2.Z
namespace L2.Z
open PySem PySem.W PyProof.Rows
noncomputable def Wt{α:Type}(lt:Nat->Nat->Bool)(n:Nat):KasT α->(α->Prop)->Prop
 |.ret a,Q=>Q a
 |.ask i j k,Q=>i<n/\j<n/\Wt lt n (k (lt i j)) Q
theorem Wt.bind{lt:Nat->Nat->Bool}{f:α->KasT β}{Q:β->Prop}:∀{t:KasT α},Wt lt n t (λa=>Wt lt n (f a) Q)->Wt lt n (t.bind f) Q
 |.ret _,h=>h
 |.ask _ _ _,⟨h1,h2,h⟩=>⟨h1,h2,Wt.bind h⟩
theorem Wt.mono{lt:Nat->Nat->Bool}{P Q:α->Prop}(hq:∀a,P a->Q a):∀{t:KasT α},Wt lt n t P->Wt lt n t Q
 |.ret _,h=>hq _ h
 |.ask _ _ _,⟨h1,h2,h⟩=>⟨h1,h2,Wt.mono hq h⟩
structure LtO(lt:Nat->Nat->Bool):Prop where
 as:∀a b,lt a b=true->lt b a=false
 tr:∀a b c,lt b a=false->lt c b=false->lt c a=false
noncomputable abbrev gk(p:Array Nat)(i:Nat):Nat:=p.getD i 0
def Up(lt:Nat->Nat->Bool)(p:Array Nat)(m:Nat):Prop:=∀i j,i<=j->j<m->lt (gk p j) (gk p i)=false
def Dn(lt:Nat->Nat->Bool)(p:Array Nat)(m:Nat):Prop:=∀i j,i<=j->j<m->lt (gk p i) (gk p j)=false
def Eqv(lt:Nat->Nat->Bool)(p:Array Nat)(a b:Nat):Prop:=∀i j,a<=i->i<b->a<=j->j<b->lt (gk p i) (gk p j)=false
def InP(n:Nat)(p:Array Nat):Prop:=∀i,gk p i<n
def gk_q{p:Array Nat}:gk p i=(p[i]?).getD 0:=Array.getD_eq_getD_getElem? ..
def bI{p:Array Nat}(hj:j<=p.size)(k:Nat):gk (kas_rev p i j) k=if i<=k/\k<j then gk p (i+j-1-k)else gk p k:=by
 rw[gk_q,kas_rev,getElem?_mirror_all hj];split<;>exact gk_q.symm
def DQ{p:Array Nat}{k l:Nat}(hs:k<p.size)(hl:l<=k)(i:Nat):gk (bubble p k (k-l)) i=if i=l then gk p k else if l<i/\i<=k then gk p (i-1)else gk p i:=by
 rw[gk_q,getElem?_bubble hs _ (by omega),show k-(k-l)=l by omega,gk_q (i:=k),gk_q (i:=i-1),gk_q (i:=i)];split
 .rfl
 .split<;>rfl
section
variable {lt:Nat->Nat->Bool}(O:LtO lt){p:Array Nat}
include O
theorem LtO.irr(a:Nat):lt a a=false:=by
 cases h:lt a a with
 |false=>rfl
 |true=>have:=O.as a a h;rw[h]at this;cases this
theorem Up.succ{m:Nat}(h:Up lt p m)(hm:1<=m)(k:lt (gk p m) (gk p (m-1))=false):Up lt p (m+1):=λi j h1 h2=>by
 by_cases e:j<m
 .exact h i j h1 e
 .obtain rfl:j=m:=by omega
  by_cases e2:i=j
  .subst e2;exact O.irr _
  .exact O.tr _ _ _ (h i (j-1) (by omega) (by omega)) k
theorem Dn.succ{m:Nat}(h:Dn lt p m)(hm:1<=m)(k:lt (gk p (m-1)) (gk p m)=false):Dn lt p (m+1):=λi j h1 h2=>by
 by_cases e:j<m
 .exact h i j h1 e
 .obtain rfl:j=m:=by omega
  by_cases e2:i=j
  .subst e2;exact O.irr _
  .exact O.tr _ _ _ k (h i (j-1) (by omega) (by omega))
theorem ph(I:InP n p):∀(f m:Nat),1<=m->Up lt p m->Wt lt n (kas_asc p f m) λr=>m<=r/\r<=m+f/\Up lt p r/\(r=m+f\/lt (gk p r) (gk p (r-1))=true)
 |0,m,_,h=>⟨by omega,by omega,h,.inl rfl⟩
 |f+1,m,hm,h=>by
  refine⟨I _,I _,?_⟩;cases c:lt (gk p m) (gk p (m-1))with
  |true=>exact⟨by omega,by omega,h,.inr c⟩
  |false=>exact (ph I f (m+1) (by omega) (h.succ O hm c)).mono λr ⟨a,b,c,d⟩=>⟨by omega,by omega,c,d.imp (by omega) id⟩
theorem Dn.rev{m:Nat}(h:Dn lt p m)(hs:m<=p.size)(e:Eqv lt p i m):Dn lt (kas_rev p i m) m:=λa b h1 h2=>by
 rw[bI hs,bI hs]
 by_cases ha:i<=a
 .rw[if_pos ⟨ha,by omega⟩,if_pos ⟨by omega,h2⟩]
  exact e _ _ (by omega) (by omega) (by omega) (by omega)
 .rw[if_neg (by omega)]
  by_cases hb:i<=b
  .rw[if_pos ⟨hb,h2⟩];exact h _ _ (by omega) (by omega)
  .rw[if_neg (by omega)];exact h _ _ h1 h2
omit O in
theorem InP.rev{m:Nat}(h:InP n p)(hs:m<=p.size):InP n (kas_rev p i m):=λk=>by
 rw[bI hs];split<;>exact h _
theorem gL:∀(f:Nat)(p:Array Nat)(m q:Nat),InP n p->q+1<=m->m+f<=p.size->Dn lt p m->Eqv lt p (m-(q+1)) m->
  Wt lt n (kas_desc f p m q) λr=>r.1.size=p.size/\r.1.Perm p/\InP n r.1/\m<=r.2.1/\r.2.1<=m+f/\r.2.2+1<=r.2.1/\Dn lt r.1 r.2.1/\Eqv lt r.1 (r.2.1-(r.2.2+1)) r.2.1
 |0,p,m,q,I,h1,_,h,e=>⟨rfl,Array.Perm.refl _,I,nr0 _,nr0 _,h1,h,e⟩
 |f+1,p,m,q,I,h1,hs,h,e=>by
  refine⟨I _,I _,?_⟩;cases c:lt (gk p m) (gk p (m-1))with
  |true=>
   have c2:=O.as _ _ c;have one:∀p':Array Nat,Eqv lt p' (m+1-(0+1)) (m+1):=λp' i j a1 a2 b1 b2=>by
    obtain rfl:i=j:=by omega
    exact O.irr _
   show Wt lt n (if q>0 then _ else _) _
   by_cases hq:q>0
   .rw[if_pos hq]
    have hz:(kas_rev p (m-(q+1)) m).size=p.size:=kas_rev_size _ _;refine (gL f (kas_rev p (m-(q+1)) m) (m+1) 0 (I.rev (by omega)) (by omega) (by omega) ((h.rev O (by omega) e).succ O (by omega) ?_) (one _)).mono λr ⟨a,b,c,d,x,y⟩=>⟨a.trans hz,b.trans (mirror_perm ..),c,by omega,by omega,y⟩
    rw[bI (by omega),bI (by omega),if_pos (by omega),if_neg (by omega)];exact O.tr _ _ _ c2 (h _ _ (by omega) (by omega))
   .rw[if_neg hq]
    exact (gL f p (m+1) 0 I (by omega) (by omega) (h.succ O (by omega) c2) (one _)).mono λr ⟨a,b,c,d,x,y⟩=>⟨a,b,c,by omega,by omega,y⟩
  |false=>
   refine⟨I _,I _,?_⟩;cases d:lt (gk p (m-1)) (gk p m)with
   |true=>exact⟨rfl,Array.Perm.refl _,I,nr0 _,Nat.le_add_right ..,h1,h,e⟩
   |false=>
    refine (gL f p (m+1) (q+1) I (by omega) (by omega) (h.succ O (by omega) d) ?_).mono λr ⟨a,b,c,d,x,y⟩=>⟨a,b,c,by omega,by omega,y⟩
    intro i j a1 a2 b1 b2
    by_cases ei:i=m
    .by_cases ej:j=m
     .subst ei ej;exact O.irr _
     .subst ei;exact O.tr _ _ _ (e _ _ (by omega) (by omega) (by omega) (by omega)) c
    .by_cases ej:j=m
     .subst ej;exact O.tr _ _ _ d (e _ _ (by omega) (by omega) (by omega) (by omega))
     .exact e _ _ (by omega) (by omega) (by omega) (by omega)
def qE(lt:Nat->Nat->Bool)(n:Nat)(p:Array Nat)(N:Nat)(r:Nat×Array Nat):Prop:=r.2.size=p.size/\r.2.Perm p/\InP n r.2/\1<=r.1/\r.1<=N/\Up lt r.2 r.1
theorem vU{m N:Nat}(I:InP n p)(h1:1<=m)(hm:m<=N)(hN:N<=p.size)(h:Dn lt p m):Wt lt n (kas_tail3 m N p) (qE lt n p N):=by
 have u:Up lt (kas_rev p 0 m) m:=λi j a b=>by
  rw[bI (by omega),bI (by omega),if_pos (by omega),if_pos (by omega)];exact h _ _ (by omega) (by omega)
 have I':InP n (kas_rev p 0 m):=I.rev (by omega);exact Wt.bind ((ph O I' (N-m) m h1 u).mono λr ⟨a,b,c,_⟩=>⟨kas_rev_size _ _,mirror_perm ..,I',by show 1<=r;omega,by show r<=N;omega,c⟩)
theorem gp{m N:Nat}(I:InP n p)(hm:m+1<=N)(hN:N<=p.size)(h:Dn lt p (m+1)):Wt lt n (kas_descPart m N p) (qE lt n p N):=by
 refine Wt.bind ((gL O (N-(m+1)) p (m+1) 0 I (by omega) (by omega) h λi j a1 a2 b1 b2=>(show i=j by omega)▸O.irr _).mono λr ⟨a,b,c,d,x,y,z,t⟩=>?_);have go:∀p',p'.size=p.size->p'.Perm p->InP n p'->Dn lt p' r.2.1->Wt lt n (kas_tail3 r.2.1 N p') (qE lt n p N):=λp' e1 e2 e3 e4=>(vU O e3 (by omega) (by omega) (by omega) e4).mono λq ⟨u1,u2,u3⟩=>⟨u1.trans e1,u2.trans e2,u3⟩
 split
 .exact go _ ((kas_rev_size _ _).trans a) ((mirror_perm ..).trans b) (c.rev (by omega)) (z.rev O (by omega) t)
 .exact go _ a b c z
theorem vV{N:Nat}(I:InP n p)(h1:1<=N)(hN:N<=p.size):Wt lt n (kas_count N p) (qE lt n p N):=by
 refine Wt.bind ((ph O I (N-1) 1 (nr0 _) λi j a b=>(show i=j by omega)▸O.irr _).mono λm ⟨a,b,c,d⟩=>?_)
 by_cases e:(m==N)=true
 .rw[if_pos e];exact⟨rfl,Array.Perm.refl _,I,a,by show m<=N;omega,c⟩
 .rw[if_neg e]
  have ne:m≠N:=λz=>e (by simp[z])
  have dd:lt (gk p m) (gk p (m-1))=true:=d.resolve_left (by omega);have d2:=O.as _ _ dd
  by_cases hm:m>1
  .rw[if_pos hm]
   refine⟨I _,I _,?_⟩;cases q:lt (gk p 0) (gk p (m-1))with
   |true=>exact⟨rfl,Array.Perm.refl _,I,a,by show m<=N;omega,c⟩
   |false=>
    have eq:∀i j,i<m->j<m->lt (gk p i) (gk p j)=false:=λi j hi hj=>O.tr _ _ _ (O.tr _ _ _ (c j (m-1) (by omega) (by omega)) q) (c 0 i (by omega) (by omega))
    have I':InP n (kas_rev p 0 m):=I.rev (by omega);have hz:(kas_rev p 0 m).size=p.size:=kas_rev_size _ _;have dn:Dn lt (kas_rev p 0 m) m:=λi j x y=>by
     rw[bI (by omega),bI (by omega),if_pos (by omega),if_pos (by omega)];exact eq _ _ (by omega) (by omega)
    refine (gp O I' (by omega) (by omega) (dn.succ O (by omega) ?_)).mono λr ⟨u1,u2,u3⟩=>⟨u1.trans hz,u2.trans (mirror_perm ..),u3⟩
    rw[bI (by omega),bI (by omega),if_pos (by omega),if_neg (by omega)];exact O.tr _ _ _ d2 (eq _ _ (by omega) (by omega))
  .rw[if_neg hm]
   obtain rfl:m=1:=by omega
   exact gp O I (by omega) (by omega) (Dn.succ O (λi j x y=>(show i=j by omega)▸O.irr _) (nr0 _) d2)
theorem iF{k:Nat}(I:InP n p)(u:Up lt p k):∀(f l r:Nat),r-l<=f->l<=r->r<=k->(∀i,i<l->lt (gk p k) (gk p i)=false)->(∀i,r<=i->i<k->lt (gk p k) (gk p i)=true)->
  Wt lt n (kas_place p k f l r) λm=>m<=k/\(∀i,i<m->lt (gk p k) (gk p i)=false)/\∀i,m<=i->i<k->lt (gk p k) (gk p i)=true
 |0,l,r,h,h1,h2,a,b=>⟨by omega,a,λi x y=>b i (by omega) y⟩
 |f+1,l,r,h,h1,h2,a,b=>by
  rw[kas_place]
  by_cases e:l≥r
  .rw[if_pos e];exact⟨by omega,a,λi x y=>b i (by omega) y⟩
  .rw[if_neg e]
   refine⟨I _,I _,?_⟩;cases c:lt (gk p k) (gk p ((l+r) / 2))with
   |true=>
    refine iF I u f l ((l+r) / 2) (by omega) (by omega) (by omega) a λi x y=>?_
    cases z:lt (gk p k) (gk p i)with
    |true=>rfl
    |false=>rw[O.tr _ _ _ (u _ i x y) z]at c;cases c
   |false=>
    exact iF I u f ((l+r) / 2+1) r (by omega) (by omega) h2 (λi x=>O.tr _ _ _ (u i ((l+r) / 2) (by omega) (by omega)) c) b
theorem vW:∀(f:Nat)(p:Array Nat)(k:Nat),InP n p->k+f<=p.size->Up lt p k->Wt lt n (kas_bin f p k) λr=>r.size=p.size/\r.Perm p/\Up lt r (k+f)
 |0,p,k,I,_,u=>⟨rfl,Array.Perm.refl _,u⟩
 |f+1,p,k,I,hs,u=>by
  refine Wt.bind ((iF O I u k 0 k (by omega) (by omega) (by omega) nofun λi x y=>by omega).mono λl ⟨hl,a,b⟩=>?_);have hz:=bubble_size p k (k-l);have G:=λi=>DQ (p:=p) (k:=k) (by omega) hl i
  refine (vW f _ (k+1) (λi=>by
                      rw[G];split;·exact I _
                      split<;>exact I _) (by omega) λi j x y=>?_).mono λr ⟨u1,u2,u3⟩=>⟨u1.trans hz,u2.trans (bubble_perm ..),by rw[show k+(f+1)=k+1+f by omega];exact u3⟩
  rw[G,G]
  by_cases i1:i=l
  .rw[if_pos i1]
   by_cases j1:j=l
   .rw[if_pos j1];exact O.irr _
   .rw[if_neg j1,if_pos (by omega)];exact O.as _ _ (b _ (by omega) (by omega))
  .rw[if_neg i1]
   by_cases j1:j=l
   .rw[if_pos j1,if_neg (by omega)];exact a _ (by omega)
   .rw[if_neg j1]
    by_cases i2:l<i/\i<=k
    .rw[if_pos i2,if_pos (by omega)];exact u _ _ (by omega) (by omega)
    .rw[if_neg i2]
     by_cases j2:l<j/\j<=k
     .rw[if_pos j2];exact u _ _ (by omega) (by omega)
     .rw[if_neg j2];exact u _ _ (by omega) (by omega)
theorem qF(hn:1<=n):Wt lt n (kas_sort n) λp=>p.size=n/\p.toList.Perm (List.range n)/\Up lt p n:=by
 have hz:(List.toArray (List.range n)).size=n:=by simp
 have I:InP n (List.toArray (List.range n)):=λi=>by
  rw[gk_q]
  by_cases h:i<n
  .simp[h]
  .simp[h];omega
 refine Wt.bind ((vV O I hn (by omega)).mono λr ⟨a,b,c,d,e,f⟩=>?_);have pm:∀q:Array Nat,q.Perm (List.toArray (List.range n))->q.toList.Perm (List.range n):=λq h=>by simpa using h.toList
 split
 .refine (vW O (n-max r.1 1) r.2 (max r.1 1) c (by omega) (by rw[show max r.1 1=r.1 by omega];exact f)).mono λq ⟨x,y,z⟩=>⟨by omega,pm _ (y.trans b),by rw[show max r.1 1+(n-max r.1 1)=n by omega]at z;exact z⟩
 .exact⟨by omega,pm _ b,by rw[show n=r.1 by omega];exact f⟩
end
end L2.Z
namespace L2.Z
open PySem PySem.W PySem.Calls PyProof.Rows
theorem Wt.kas{lt:Nat->Nat->Bool}{cmp:Nat->Nat->(Bool->Shared->Prop)->Shared->Prop}(hc:∀i j,i<n->j<n->∀C:Bool->Shared->Prop,C (lt i j) s->cmp i j C s){Q:α->Shared->Prop}:∀{t:KasT α},Wt lt n t (λa=>Q a s)->t.kasWp cmp Q s
 |.ret _,h=>h
 |.ask i j _,⟨h1,h2,h⟩=>hc i j h1 h2 _ (Wt.kas hc h)
section
variable {A:Around}{E:Value->Shared->Prop}
noncomputable abbrev byP(vs:List Value)(p:List Nat):List Value:=p.map λi=>vs.getD i .none
def jN(vs:List Value):byP vs (List.range vs.length)=vs:=by
 apply List.ext_getElem (by simp)
 intro i h1 h2;simp[h2]
def aS(lt:Nat->Nat->Bool)(n:Nat)(p:List Nat):Prop:=p.Perm (List.range n)/\∀i j,i<=j->j<n->lt (p.getD j 0) (p.getD i 0)=false
def jg{lt:Nat->Nat->Bool}(O:LtO lt){Z:SortKind}{a:Addr}{vs:List Value}{P:PySem.Fin->Shared->Prop}(ho:s.heap.get? a=some (seqObj "list" vs.toArray n))(h64:vs.length<64)
  (hk:2<=vs.length->∀h',(∀b o,b≠a->s.heap.get? b=some o->h'.get? b=some o)->∀R:SortKind->Shared->Prop,R Z {s with heap:=h'}->wpAny (model prog w) A (keyKind' vs.toArray) R E {s with heap:=h'})
  (hc:∀h',(∀b o,b≠a->s.heap.get? b=some o->h'.get? b=some o)->∀i j,i<vs.length->j<vs.length->∀R:Bool->Shared->Prop,R (lt i j) {s with heap:=h'}->wpAny (model prog w) A (keyLt' Z (vs.getD i .none) (vs.getD j .none)) R (λc c=>False) {s with heap:=h'})
  (h:∀p,aS lt vs.length p->P (.done (.ret .none)) {s with heap:=sortedHeap s.heap a vs (byP vs p).toArray}):
  wpAny (model prog w) A (Builtin.«list.sort» ⟨[.ref a],[]⟩) P E s:=by
 rw[list_sort_plain];have ha:a<s.heap.objs.size:=hs0 ho;refine wb0 (listItems_at ho rfl ?_);refine wb0 (listUpdate_at ho rfl ?_ (by rw[ls0,sizeLine_eq];omega) (Nat.zero_le _));obtain⟨e1,ho1⟩:∃e1,(s.heap.update a (Obj.mapSeq λc=>#[])).get? a=some (seqObj "list" #[] e1):=⟨_,get?_update_seq ho (λc=>#[])⟩;refine wb0 (seqEpoch_at ho1 rfl ?_);refine wb0 (wpAny_newTuple ?_ (by show vs.length<=_;rw[sizeLine_eq];omega));refine wb0 (wpAny_newList ?_ (Nat.zero_le _));refine wh0 ?_;have ho6:(((s.heap.update a (Obj.mapSeq λc=>#[])).push (seqObj "tuple" vs.toArray 0)).push (seqObj "list" #[] 0)).get? a=some (seqObj "list" #[] e1):=by
  rw[Heap.get?_push_ne _ _ _ (by rw[size_push',Heap.size_update];exact nn0 (Nat.lt_succ_of_lt ha)),Heap.get?_push_ne _ _ _ (by rw[Heap.size_update];exact nn0 ha)];exact ho1
 have kp:∀b o,b≠a->s.heap.get? b=some o->(((s.heap.update a (Obj.mapSeq λc=>#[])).push (seqObj "tuple" vs.toArray 0)).push (seqObj "list" #[] 0)).get? b=some o:=λb o hb e=>by
  refine ps0 _ (ps0 _ ?_);rw[Heap.get?_update_ne _ _ _ _ hb];exact e
 show wpAny (model prog w) A _ P E {s with heap:=((s.heap.update a (Obj.mapSeq λc=>#[])).push (seqObj "tuple" vs.toArray 0)).push (seqObj "list" #[] 0)};dsimp only;have hsz:vs.toArray.size=vs.length:=by simp
 by_cases h2:vs.toArray.size<2
 .rw[if_pos h2,if_pos h2]
  refine wb0 (wq0 ?_);rw[StateT.run_pure];refine wb0 (wq0 ?_);dsimp only;refine wb0 (seqEpoch_at ho6 rfl ?_);refine wb0 (listUpdate_at ho6 rfl ?_ (hsz2:=by rw[Array.size_map];show (pairsOf vs).size<=_;rw[pairsOf_size,sizeLine_eq];omega));simp only[bne_self_eq_false,Bool.false_eq_true,if_false];have q:=h (List.range vs.length) ⟨.refl _,λi j a b=>by
   have:i=0:=by omega
   have:j=0:=by omega
   subst i j;exact O.irr _⟩
  rw[jN]at q;refine wq0 ?_;have e:(arrOf (SortSt.mk' general' (vs.toArray.zip vs.toArray) #[] 7 none)).map (·.2)=vs.toArray:=by
   show (vs.toArray.zip vs.toArray).map (·.2)=_
   apply Array.toList_inj.mp;simp;exact List.map_snd_zip (nr0 _)
  show P _ {s with heap:=sortedHeap s.heap a vs ((arrOf (SortSt.mk' general' (vs.toArray.zip vs.toArray) #[] 7 none)).map (·.2))};rw[e];exact q
 .rw[if_neg h2,if_neg h2]
  have h2':2<=vs.length:=by omega
  refine wb0 (hk h2' _ kp _ ?_);have ok:=(qF O (n:=vs.length) (by omega));refine wb0 (wpAny_mono (kat_run (Q:=λst' s'=>s'={s with heap:=((s.heap.update a (Obj.mapSeq λc=>#[])).push (seqObj "tuple" vs.toArray 0)).push (seqObj "list" #[] 0)}/\∃p:Array Nat,arrOf st'=p.map (kas_item (vs.toArray.zip vs.toArray))/\failedOf st'=none/\aS lt vs.length p.toList/\p.size=vs.length)
   (G:=λp s'=>s'={s with heap:=((s.heap.update a (Obj.mapSeq λc=>#[])).push (seqObj "tuple" vs.toArray 0)).push (seqObj "list" #[] 0)}/\aS lt vs.length p.toList) rfl h2' h64 (λp' st' s' a1 a2 a3 a4=>⟨a4.1,p',a2,a3,a4.2,a1⟩)
   (Wt.kas (λi j hi hj C q=>hc _ kp i j hi hj C q) (ok.mono λp q=>⟨rfl,q.2.1,λi j x y=>by have:=q.2.2 i j x y;simpa [gk]using this⟩))) ?_ λc c e=>e)
  rintro ⟨⟨⟩,st'⟩ s' ⟨rfl,p,har,hf,hp,hz⟩
  dsimp only;have hout:=kat_snds (vs:=vs) rfl har;refine wb0 (seqEpoch_at ho6 rfl ?_);rw[hout];refine wb0 (listUpdate_at ho6 rfl ?_ (hsz2:=by rw[ls0,lm0,al0,hz,sizeLine_eq];omega));rw[hf];simp only[bne_self_eq_false,Bool.false_eq_true,if_false];exact wq0 (h p.toList hp)
def pj{lt:Nat->Nat->Bool}(O:LtO lt){Z:SortKind}{vs:List Value}(hl:s.heap.IsList l vs.toArray)(h64:vs.length<64)
  (hk:2<=vs.length->∀h',(∀b o,s.heap.get? b=some o->h'.get? b=some o)->∀R:SortKind->Shared->Prop,R Z {s with heap:=h'}->wpAny (model prog w) A.in1.in1 (keyKind' vs.toArray) R (λa a=>False) {s with heap:=h'})
  (hc:∀h',(∀b o,s.heap.get? b=some o->h'.get? b=some o)->∀i j,i<vs.length->j<vs.length->∀R:Bool->Shared->Prop,R (lt i j) {s with heap:=h'}->wpAny (model prog w) A.in1.in1 (keyLt' Z (vs.getD i .none) (vs.getD j .none)) R (λa a=>False) {s with heap:=h'})
  (h:∀h' D n p,(∀b o,s.heap.get? b=some o->h'.get? b=some o)->h'.get? D=some (seqObj "list" (byP vs p).toArray n)->s.heap.objs.size<=D->aS lt vs.length p->Q (.ref D) {s with heap:=h'}):
  wpAny (model prog w) A (call (.builtin "sorted") [.ref l]) Q E s:=by
 refine Calls.call_function_entry kind_sorted plain_sorted entry_sorted (args_sorted1 _) ?_;unfold Builtin.«sorted»;refine wb0 (m:=checkCount "sorted" 1 1 _) (wq0 ?_);refine wb0 (collect_list hl ?_ (by rw[sizeLine_eq];omega));refine wb0 (wpAny_newList ?_ (by rw[sizeLine_eq];omega));have hsz:((s.heap.push (seqObj "list" #[] 0)).update s.heap.objs.size (Obj.mapSeq (·++vs.toArray))).objs.size=s.heap.objs.size+1:=by
  rw[Heap.size_update,size_push']
 have hoL:(((s.heap.push (seqObj "list" #[] 0)).update s.heap.objs.size (Obj.mapSeq (·++vs.toArray))).push (seqObj "list" vs.toArray 0)).get? (s.heap.objs.size+1)=some (seqObj "list" vs.toArray 0):=by
  rw[<-hsz];exact pz0 _ rfl
 have keep:∀b o,s.heap.get? b=some o->(((s.heap.push (seqObj "list" #[] 0)).update s.heap.objs.size (Obj.mapSeq (·++vs.toArray))).push (seqObj "list" vs.toArray 0)).get? b=some o:=λb o q=>by
  have hlt:b<s.heap.objs.size:=hs0 q;rw[Heap.get?_push_ne _ _ _ (by rw[hsz];exact nn0 (Nat.lt_succ_of_lt hlt)),Heap.get?_update_ne _ _ _ _ (nn0 hlt),Heap.get?_push_ne _ _ _ (nn0 hlt)];exact q
 show wpAny _ _ _ _ _ {s with heap:=((s.heap.push (seqObj "list" #[] 0)).update s.heap.objs.size (Obj.mapSeq (·++vs.toArray))).push (seqObj "list" vs.toArray 0)};rw[hsz];have k2:∀{h':Heap},(∀b o,b≠s.heap.objs.size+1->(((s.heap.push (seqObj "list" #[] 0)).update s.heap.objs.size (Obj.mapSeq (·++vs.toArray))).push (seqObj "list" vs.toArray 0)).get? b=some o->h'.get? b=some o)->∀b o,s.heap.get? b=some o->h'.get? b=some o:=λkk b o q=>kk b o (nn0 (Nat.lt_succ_of_lt (hs0 q))) (keep b o q)
 refine wb0 (wh0 (wpAny_call_entry slot_list_sort ⟨_,hoL,rfl⟩ entry_list_sort (jg (Z:=Z) O (s:={s with heap:=((s.heap.push (seqObj "list" #[] 0)).update s.heap.objs.size (Obj.mapSeq (·++vs.toArray))).push (seqObj "list" vs.toArray 0)}) (A:=A.in1.in1) hoL h64 (λa2 h' kk R r=>wpAny_mono (hk a2 h' (k2 kk) R r) (λa a x=>x) λa a x=>x.elim) (λh' kk i j hi hj R r=>hc h' (k2 kk) i j hi hj R r) λp hp=>⟨_,rfl,?_⟩) (args_list_sort _)));refine wq0 ⟨_,rfl,?_⟩;obtain⟨n,fin⟩:=sortedHeap_at (out:=(byP vs p).toArray) hoL;refine h _ (s.heap.objs.size+1) n p (λb o e=>?_) fin (Nat.le_succ _) hp
 have lt:b<s.heap.objs.size:=hs0 e;exact (sortedHeap_old (nn0 (Nat.lt_succ_of_lt lt)) (by rw[size_push',hsz];exact Nat.lt_succ_of_lt (Nat.lt_succ_of_lt lt))).trans (keep b o e)
end
section
variable {A:Around}{E:Value->Shared->Prop}
structure Keyed(prog:Program)(w:World)(A:Around)(a:Addr)(vs:List Value)(f:Value)(Z:SortKind)(lt:Nat->Nat->Bool)(b:Bool)(kS:Addr)(J:List Value->Shared->Prop):Prop where
 put:∀{ks s' h'},J ks s'->(∀c o,c≠kS->c≠a->s'.heap.get? c=some o->h'.get? c=some o)->s'.heap.objs.size<=h'.objs.size->J ks {s' with heap:=h'}
 call:∀{ks s' v},vs[ks.length]?=some v->J ks s'->(∃o,s'.heap.get? kS=some o)->(∃o,s'.heap.get? a=some o)->wpAny (model prog w) A (call f [v]) (λk s''=>J (ks++[k]) s''/\(∀o,s'.heap.get? kS=some o->s''.heap.get? kS=some o)/\∀o,s'.heap.get? a=some o->s''.heap.get? a=some o) (λd d=>False) s'
 kind:∀{ks s'},2<=vs.length->ks.length=vs.length->J ks s'->∀R:SortKind->Shared->Prop,R Z s'->wpAny (model prog w) A (keyKind' ks.toArray) R (λd d=>False) s'
 cmp:∀{ks s'},ks.length=vs.length->J ks s'->∀i j,i<vs.length->j<vs.length->∀R:Bool->Shared->Prop,R (lt i j) s'->wpAny (model prog w) A (keyLt' Z ((katRev b ks).getD i .none) ((katRev b ks).getD j .none)) R (λd d=>False) s'
def aE(b:Bool)(l:List α):(katRev b l).length=l.length:=by unfold katRev;split<;>simp
def zt{b:Bool}{vs:List Value}(hl:ks.length=vs.length):(if b=true then (ks.toArray.zip vs.toArray).reverse else ks.toArray.zip vs.toArray)=(katRev b ks).toArray.zip (katRev b vs).toArray:=by
 cases b with
 |false=>rfl
 |true=>
  apply Array.toList_inj.mp
  simp[katRev,List.zip_eq_zipWith,List.reverse_zipWith hl]
def pq{a kS:Addr}{b:Bool}{st:SortSt}{out:List Value}{e1 m:Nat}{ks:Array Value}{P:PySem.Fin->Shared->Prop}(hne:kS≠a)(h1:s.heap.get? a=some (seqObj "list" #[] e1))(h2:s.heap.get? kS=some (seqObj "list" ks m))(hz:ks.size<=64)(hf:failedOf st=none)(hs:(arrOf st).map (·.2)=out.toArray)(ho:out.length<=64)
  (h:∀h' m,(∀c o,c≠kS->c≠a->s.heap.get? c=some o->h'.get? c=some o)->s.heap.objs.size<=h'.objs.size->h'.get? a=some (seqObj "list" (katRev b out).toArray m)->P (.done (.ret .none)) {s with heap:=h'}):
  wpAny (model prog w) A (ksk_tail a b e1 (.ref kS) st) P E s:=by
 unfold ksk_tail;dsimp only;refine wb0 (listUpdate_at h2 rfl ?_ (by rw[sizeLine_eq];omega) (Nat.zero_le _));refine wb0 (wpAny_letGo ?_);have g1:(s.heap.update kS (Obj.mapSeq λd=>#[])).get? a=some (seqObj "list" #[] e1):=by rw[Heap.get?_update_ne _ _ _ _ (Ne.symm hne)];exact h1
 refine wb0 (seqEpoch_at g1 rfl ?_);have hsz:∀(b:Bool),(if b=true then ((arrOf st).map (·.2)).reverse else (arrOf st).map (·.2)).size<=sizeLine+1:=λb=>by
  rw[hs,sizeLine_eq];cases b<;>simp<;>omega
 refine wb0 (listUpdate_at g1 rfl ?_ (Nat.zero_le _) (hsz b));rw[hf];simp only[bne_self_eq_false,Bool.false_eq_true,if_false];refine wq0 ?_;obtain⟨m',g2⟩:∃m',((s.heap.update kS (Obj.mapSeq λd=>#[])).update a (Obj.mapSeq λd=>if b=true then ((arrOf st).map (·.2)).reverse else (arrOf st).map (·.2))).get? a=some (seqObj "list" (if b=true then ((arrOf st).map (·.2)).reverse else (arrOf st).map (·.2)) m'):=⟨_,get?_update_seq g1 _⟩;refine h _ m' (λc o n1 n2 e=>?_) (by rw[Heap.size_update,Heap.size_update];exact nr0 _) ?_
 .rw[Heap.get?_update_ne _ _ _ _ n2,Heap.get?_update_ne _ _ _ _ n1];exact e
 .rw[g2,hs]
  cases b<;>simp[katRev]
def pw{lt:Nat->Nat->Bool}(O:LtO lt){Z:SortKind}{a:Addr}{vs:List Value}{f:Value}{b:Bool}{P:PySem.Fin->Shared->Prop}(ho:s.heap.get? a=some (seqObj "list" vs.toArray n))(h64:vs.length<64)
  (J:Addr->List Value->Shared->Prop) (hJ:∀kS,s.heap.objs.size<=kS->Keyed prog w A a vs f Z lt b kS (J kS))
  (h0:∀kS h',s.heap.objs.size<=kS->(∀c o,c≠a->s.heap.get? c=some o->h'.get? c=some o)->s.heap.objs.size<=h'.objs.size->J kS [] {s with heap:=h'})
  (h:∀kS ks s' m p,s.heap.objs.size<=kS->ks.length=vs.length->J kS ks s'->s'.heap.get? a=some (seqObj "list" (katRev b (byP (katRev b vs) p)).toArray m)->aS lt vs.length p->P (.done (.ret .none)) s'):
  wpAny (model prog w) A (ksk_tree a f b) P E s:=by
 unfold ksk_tree;have ha:a<s.heap.objs.size:=hs0 ho;refine wb0 (listItems_at ho rfl ?_);refine wb0 (listUpdate_at ho rfl ?_ (by rw[ls0,sizeLine_eq];omega) (Nat.zero_le _));obtain⟨e1,ho1⟩:∃e1,(s.heap.update a (Obj.mapSeq λd=>#[])).get? a=some (seqObj "list" #[] e1):=⟨_,get?_update_seq ho (λd=>#[])⟩;refine wb0 (seqEpoch_at ho1 rfl ?_);refine wb0 (wpAny_newTuple ?_ (by show vs.length<=_;rw[sizeLine_eq];omega));refine wb0 (wpAny_newList ?_ (Nat.zero_le _));refine wh0 ?_;have hsz:((s.heap.update a (Obj.mapSeq λd=>#[])).push (seqObj "tuple" vs.toArray 0)).objs.size=s.heap.objs.size+1:=by rw[size_push',Heap.size_update]
 have ho6:(((s.heap.update a (Obj.mapSeq λd=>#[])).push (seqObj "tuple" vs.toArray 0)).push (seqObj "list" #[] 0)).get? a=some (seqObj "list" #[] e1):=by
  rw[Heap.get?_push_ne _ _ _ (by rw[hsz];exact nn0 (Nat.lt_succ_of_lt ha)),Heap.get?_push_ne _ _ _ (by rw[Heap.size_update];exact nn0 ha)];exact ho1
 have hk6:(((s.heap.update a (Obj.mapSeq λd=>#[])).push (seqObj "tuple" vs.toArray 0)).push (seqObj "list" #[] 0)).get? (s.heap.objs.size+1)=some (seqObj "list" #[] 0):=by
  rw[<-hsz];exact pz0 _ rfl
 have kp:∀c o,c≠a->s.heap.get? c=some o->(((s.heap.update a (Obj.mapSeq λd=>#[])).push (seqObj "tuple" vs.toArray 0)).push (seqObj "list" #[] 0)).get? c=some o:=λc o hb e=>by
  refine ps0 _ (ps0 _ ?_);rw[Heap.get?_update_ne _ _ _ _ hb];exact e
 show wpAny (model prog w) A (ksk_rest a f b vs.toArray e1 (.ref ((s.heap.update a (Obj.mapSeq λd=>#[])).push (seqObj "tuple" vs.toArray 0)).objs.size)) P E {s with heap:=((s.heap.update a (Obj.mapSeq λd=>#[])).push (seqObj "tuple" vs.toArray 0)).push (seqObj "list" #[] 0)};rw[hsz];have j0:=h0 (s.heap.objs.size+1) _ (Nat.le_succ _) kp (by rw[size_push',hsz];omega);have KJ:=hJ (s.heap.objs.size+1) (Nat.le_succ _);have hne:s.heap.objs.size+1≠a:=(nn0 (Nat.lt_succ_of_lt ha)).symm;have hle:s.heap.objs.size<=s.heap.objs.size+1:=Nat.le_succ _;generalize ((s.heap.update a (Obj.mapSeq λd=>#[])).push (seqObj "tuple" vs.toArray 0)).push (seqObj "list" #[] 0)=h6 at ho6 hk6 kp j0 ⊢
 generalize s.heap.objs.size+1=kS at hk6 j0 KJ hne hle ⊢;unfold ksk_rest;refine wb0 (wpAny_rule ?_);rw[List.forIn_toArray];refine wb0 (ksk_fold (λi s'=>∃ks m,ks.length=i/\i<=vs.length/\J kS ks s'/\s'.heap.get? kS=some (seqObj "list" ks.toArray m)/\s'.heap.get? a=some (seqObj "list" #[] e1)) vs 0 _ ⟨[],0,rfl,Nat.zero_le _,j0,hk6,ho6⟩ (λj x s' hx ⟨ks,m,e,hle',j',k1,k2⟩=>?_) λs' ⟨ks,m,e,hle',j',k1,k2⟩=>?_)
 .obtain rfl:ks.length=j:=by omega
  have hj:ks.length<vs.length:=(gi0 hx).1;refine wb0 (wpAny_attempt (wpAny_mono (KJ.call hx j' ⟨_,k1⟩ ⟨_,k2⟩) (λk s'' ⟨q1,q2,q3⟩=>?_) λd d z=>z.elim));dsimp only;refine wb0 (listUpdate_at (q2 _ k1) rfl ?_ (by rw[ls0,sizeLine_eq];omega) (by rw[Array.size_push,ls0,sizeLine_eq];omega));obtain⟨m',g⟩:∃m',(s''.heap.update kS (Obj.mapSeq λx=>x.push k)).get? kS=some (seqObj "list" (ks.toArray.push k) m'):=⟨_,get?_update_seq (q2 _ k1) _⟩;refine wq0 ⟨rfl,ks++[k],m',by simp,by omega,KJ.put q1 (λc o n1 n2 e=>by rw[Heap.get?_update_ne _ _ _ _ n1];exact e) (by rw[Heap.size_update];exact nr0 _),by rw[g];simp,?_⟩
  rw[Heap.get?_update_ne _ _ _ _ (Ne.symm hne)];exact q3 _ k2
 .have e:ks.length=vs.length:=by omega
  refine wb0 (listItems_at k1 rfl ?_);have fin:∀(st:SortSt)(p:List Nat),arrOf st=arrOf st->failedOf st=none->(arrOf st).map (·.2)=(byP (katRev b vs) p).toArray->aS lt vs.length p->wpAny (model prog w) A (ksk_tail a b e1 (.ref kS) st) P E s':=λst p d hf hs io=>by
   have pl:=io.1.length_eq;rw[lr0]at pl;refine pq hne k2 k1 (by rw[ls0];omega) hf hs (by simp[pl];omega) λh' m' a1 a2 a3=>?_
   exact h kS ks _ m' p hle e (KJ.put j' a1 a2) a3 io
  unfold ksk_end;dsimp only;rw[zt e];have rest:wpAny (model prog w) A (if vs.toArray.size<2 then do
     let kind ←pure general'
     let __x ←(if vs.toArray.size<2 then pure ()else sortRuns').run (SortSt.mk' kind ((katRev b ks).toArray.zip (katRev b vs).toArray) #[] 7 none)
     match __x with
      |(PUnit.unit,s)=>ksk_tail a b e1 (.ref kS) s
    else do
     let kind ←keyKind' ks.toArray
     let __x ←(if vs.toArray.size<2 then pure ()else sortRuns').run (SortSt.mk' kind ((katRev b ks).toArray.zip (katRev b vs).toArray) #[] 7 none)
     match __x with
      |(PUnit.unit,s)=>ksk_tail a b e1 (.ref kS) s) P E s':=by
   have hsz:vs.toArray.size=vs.length:=by simp
   by_cases h2:vs.toArray.size<2
   .rw[if_pos h2,if_pos h2]
    refine wb0 (wq0 ?_);rw[StateT.run_pure];refine wb0 (wq0 ?_);refine fin _ (List.range vs.length) rfl rfl ?_ ⟨.refl _,λi j a b=>by
     have:i=0:=by omega
     have:j=0:=by omega
     subst i j;exact O.irr _⟩
    have e2:byP (katRev b vs) (List.range vs.length)=katRev b vs:=by
     have:=jN (katRev b vs);rwa [aE]at this
    rw[e2];show ((katRev b ks).toArray.zip (katRev b vs).toArray).map (·.2)=_
    apply Array.toList_inj.mp;simp;exact List.map_snd_zip (by rw[aE,aE];omega)
   .rw[if_neg h2,if_neg h2]
    have h2':2<=vs.length:=by omega
    refine wb0 (wpAny_mono (KJ.kind h2' e j' _ ?_) (λd d z=>z) λd d z=>z.elim);have ok:=(qF O (n:=vs.length) (by omega));have lr:(katRev b vs).length=vs.length:=aE _ _;refine wb0 (wpAny_mono (kat_run (vs:=katRev b vs) (ks:=katRev b ks) (Q:=λst' s''=>s''=s'/\∃p:Array Nat,arrOf st'=p.map (kas_item ((katRev b ks).toArray.zip (katRev b vs).toArray))/\failedOf st'=none/\aS lt vs.length p.toList)
     (G:=λp s''=>s''=s'/\aS lt vs.length p.toList) (by rw[aE,lr];exact e) (by omega) (by omega) (λp' st' s' a1 a2 a3 a4=>⟨a4.1,p',a2,a3,a4.2⟩)
     (by
      rw[lr];exact Wt.kas (λi j hi hj C q=>KJ.cmp e j' i j hi hj C q) (ok.mono λp q=>⟨rfl,q.2.1,λi j x y=>by have:=q.2.2 i j x y;simpa [gk]using this⟩))) ?_ λd d e=>e)
    rintro ⟨⟨⟩,st'⟩ s'' ⟨rfl,p,har,hf,hp⟩
    exact fin st' p.toList rfl hf (kat_snds (by rw[aE,lr];exact e) har) hp
  cases b with
  |false=>exact rest
  |true=>exact wb0 (wpAny_rule rest)
end
end L2.Z
namespace L2.Z
open PySem PySem.W PySem.Calls PyProof.Rows SI PySem.MeetsSeq3
open AutoSeq1 (wpAny_loadPart')
def str_inj(h:x.cps.toList=y.cps.toList):x=y:=by cases x;cases y;congr 1;exact Array.toList_inj.mp h
def mM{p:List Str}:ltL (x::p) (y::q)=if x=y then ltL p q else decide (x.cps.toList<y.cps.toList):=by
 unfold ltL
 by_cases e:x=y
 .subst e;rw[if_pos rfl];simp[List.cons_lt_cons_iff]
 .rw[if_neg e]
  have:x.cps.toList≠y.cps.toList:=λz=>e (str_inj z)
  simp[List.cons_lt_cons_iff,this]
def zu(l b:Addr)(xs ys:List Value)(n n2:Nat):∀(p q:List Str)(i:Nat),i+p.length=xs.length->i+q.length=ys.length->StrsAre (xs.drop i) p->StrsAre (ys.drop i) q->Meets (Builtin.«list.__eq__.loop» ⟨[.ref l,.ref b,rawInt i,rawInt 0],[]⟩)
   (λc R s=>s.heap.get? l=some {cls:=.type "list",dict:=none,data:=.seq xs.toArray n,slots:=#[]}/\s.heap.get? b=some {cls:=.type "list",dict:=none,data:=.seq ys.toArray n2,slots:=#[]}/\
    R (.ok (.ret (.bool (ltL p q)))) s):=by
 have end':∀(p q:List Str)(i:Nat),i+p.length=xs.length->i+q.length=ys.length->(p=[]\/q=[])->Meets (Builtin.«list.__eq__.loop» ⟨[.ref l,.ref b,rawInt i,rawInt 0],[]⟩)
   (λc R s=>s.heap.get? l=some {cls:=.type "list",dict:=none,data:=.seq xs.toArray n,slots:=#[]}/\s.heap.get? b=some {cls:=.type "list",dict:=none,data:=.seq ys.toArray n2,slots:=#[]}/\
    R (.ok (.ret (.bool (ltL p q)))) s):=by
  intro p q i h1 h2 he prog w A R s h;obtain⟨hp',g,d,tk,os⟩:=s;obtain⟨hl,hb,h⟩:=h
  wp_walk using wpAny_loadPart' hl,wpAny_loadPart' hb
  have e:ltL p q=decide (xs.toArray.size<ys.toArray.size):=by
   have a:xs.toArray.size<ys.toArray.size↔p.length<q.length:=by simp;omega
   rw[show decide (xs.toArray.size<ys.toArray.size)=decide (p.length<q.length)from decide_eq_decide.mpr a];unfold ltL;rcases he with rfl|rfl
   .cases q<;>simp
   .simp
  have:xs.toArray[((i:Nat):Int).toNat]?=none\/ys.toArray[((i:Nat):Int).toNat]?=none:=by
   rcases he with rfl|rfl
   .left;simp at h1 ⊢;omega
   .right;simp at h2 ⊢;omega
  rw[e]at h;rcases this with z|z
  .rw[z]
   wp_walk using wpAny_loadPart' hl,wpAny_loadPart' hb
   exact h
  .rw[z]
   cases xs.toArray[((i:Nat):Int).toNat]?<;>
   .wp_walk using wpAny_loadPart' hl,wpAny_loadPart' hb
    exact h
 intro p
 induction p with
 |nil=>exact λq i h1 h2 c c=>end' [] q i h1 h2 (.inl rfl)
 |cons x p ih=>
  intro q i h1 h2 hp hq;cases q with
  |nil=>exact end' _ _ i h1 h2 (.inr rfl)
  |cons y q=>
   intro prog w A R s h;obtain⟨hp',g,d,tk,os⟩:=s;obtain⟨hl,hb,h⟩:=h;cases e1:xs.drop i with
   |nil=>rw[e1]at hp;cases hp
   |cons u xr=>cases e2:ys.drop i with
    |nil=>rw[e2]at hq;cases hq
    |cons v yr=>
     rw[e1]at hp;rw[e2]at hq;cases hp with
     |cons _ t hp=>cases hq with
      |cons _ t' hq=>
       have hi1:xs.toArray[((i:Nat):Int).toNat]?=some (.str x t):=by
        have:=congrArg (·[0]?) e1
        simpa using this
       have hi2:ys.toArray[((i:Nat):Int).toNat]?=some (.str y t'):=by
        have:=congrArg (·[0]?) e2
        simpa using this
       have d1:xr=xs.drop (i+1):=by rw[<-List.drop_drop,e1];rfl
       have d2:yr=ys.drop (i+1):=by rw[<-List.drop_drop,e2];rfl
       rw[d1]at hp;rw[d2]at hq;have hc:((i:Int)+1)=((i+1:Nat):Int):=by push_cast;rfl
       wp_walk using wpAny_loadPart' hl,wpAny_loadPart' hb
       rw[hi1,hi2];refine wb0 (wpAny_eqBool_str ?_);rw[mM]at h
       by_cases e:x=y
       .rw[dt0 e]
        rw[if_pos e]at h
        wp_walk
        rw[hc];exact⟨plainId_quiet plain_eq_loop _,codeAny_builtin entry_eq_loop (by
         rw[ui0 plain_eq_loop _];exact ih q (i+1) (by simp at h1;omega) (by simp at h2;omega) hp hq prog w A R _ ⟨hl,hb,h⟩)⟩
       .rw[df0 e]
        rw[if_neg e]at h
        wp_walk using wpAny_loadPart' hl,wpAny_loadPart' hb
        rw[hi1,hi2];refine wb0 (PySem.P.lt_str ?_);exact wq0 h
section
variable {A:Around}{E:Value->Shared->Prop}
def vX(h:Heap)(q:List Str)(v:Value):Prop:=∃a n its,v=.ref a/\h.get? a=some {cls:=.type "list",dict:=none,data:=.seq its.toArray n,slots:=#[]}/\StrsAre its q
theorem iG:∀{vs:List Value}{ss:List Str},StrsAre vs ss->ss.length=vs.length
 |_,_,.nil=>rfl
 |_,_,.cons _ _ r=>congrArg (·+1) (iG r)
def GY{p:List Str}{x y:Value}{Q:Bool->Shared->Prop}(hu:A.units<cLine)(hx:vX s.heap p x)(hy:vX s.heap q y)(h:Q (ltL p q) s):wpAny (model prog w) A (keyLt' oneType' x y) Q E s:=by
 obtain⟨a,n,xs,rfl,a1,a2⟩:=hx;obtain⟨b,n',ys,rfl,b1,b2⟩:=hy;rw[keyLt'_oneType,oneLt'_eq];simp only[if_true];refine wb0 (wpAny_cRoomFor hu ?_);refine wb0 (wpAny_callSpecialIfBound?_slot ⟨_,a1,rfl⟩ PySem.F.slot_list_lt (call_meets PySem.F.slot_list_lt ⟨_,a1,rfl⟩ PySem.F.entry_list_lt (PySem.F.args_list_lt_2 _ _)
  (S:=λc R s=>s.heap.get? a=some {cls:=.type "list",dict:=none,data:=.seq xs.toArray n,slots:=#[]}/\s.heap.get? b=some {cls:=.type "list",dict:=none,data:=.seq ys.toArray n',slots:=#[]}/\R (.ok (.ret (.bool (ltL p q)))) s) ?_ ⟨a1,b1,wpAny_truthy_bool h⟩))
 intro prog w A R s h;obtain⟨hp,g,d,tk,os⟩:=s;obtain⟨hl,hb,h⟩:=h;have f3:=AutoSeq1.sub_list_list
 wp_walk using wpAny_loadPart' hl,wpAny_loadPart' hb
 exact⟨plainId_quiet plain_eq_loop _,codeAny_builtin entry_eq_loop (by
  rw[ui0 plain_eq_loop _];exact zu a b xs ys n n' p q 0 (by rw[iG a2];simp) (by rw[iG b2];simp) a2 b2 prog w A R _ ⟨hl,hb,h⟩)⟩
def zv{R:SortKind->Shared->Prop}(h2:2<=ks.length)(hp:∀k∈ks,∃q,vX s.heap q k)(h:R oneType' s):wpAny (model prog w) A (keyKind' ks.toArray) R E s:=by
 refine kas_kind (T:=.type "list") h2 (λv hv=>?_) rfl rfl h;obtain⟨q,a,n,its,rfl,e,_⟩:=hp v hv;exact (Looks.ld e).andThen .now
def gM(f:Nat->List Str):LtO λi j=>ltL (f i) (f j):=by
 constructor
 .intro a b h
  simp only[ltL,decide_eq_true_eq,decide_eq_false_iff_not]at h ⊢;exact Std.Asymm.asymm _ _ h
 .intro a b c h1 h2
  simp only[ltL,decide_eq_false_iff_not]at h1 h2 ⊢;exact List.le_trans (show _<=_ from h1) h2
def iH{p:List Str}(h1:ltL p q=false)(h2:ltL q p=false):p=q:=by
 unfold ltL at h1 h2;have:=List.le_antisymm (show q.map (·.cps.toList)<=p.map _ from of_decide_eq_false h1) (of_decide_eq_false h2);exact ((List.map_inj_right λa a z=>str_inj z).mp this).symm
end
end L2.Z
namespace L2.Z
open PySem PySem.W PySem.Spec PySem.Calls PyProof.Rows L2 L2.C SI
theorem insB_perm{z:List Str×D}:∀l,(jd z l).Perm (z::l)
 |[]=>.refl _
 |q::r=>by
  show (if ltL z.1 q.1 then z::q::r else q::jd z r).Perm _;split
  .exact .refl _
  .exact ((insB_perm r).cons q).trans (.swap z q r)
theorem dJ:∀l:List (List Str×D),(hW l).Perm l
 |[]=>.refl _
 |p::r=>(insB_perm _).trans ((dJ r).cons p)
theorem jO{z:List Str×D}:∀{l:List (List Str×D)},l.Pairwise (λa b=>ltL b.1 a.1=false)->(jd z l).Pairwise (λa b=>ltL b.1 a.1=false)
 |[],_=>List.pairwise_singleton _ _
 |q::r,h=>by
  obtain⟨h1,h2⟩:=List.pairwise_cons.mp h;have O:=gM λi=>match i with|0=>z.1|_=>q.1
  show (if ltL z.1 q.1 then z::q::r else q::jd z r).Pairwise _;split
  .refine List.pairwise_cons.mpr ⟨λy hy=>?_,h⟩
   have h0:ltL q.1 z.1=false:=O.as 0 1 ‹_›;rcases mq0 hy with rfl|hy
   .exact h0
   .exact (gM λi=>match i with|0=>z.1|1=>q.1|_=>y.1).tr 0 1 2 h0 (h1 y hy)
  .refine List.pairwise_cons.mpr ⟨λy hy=>?_,jO h2⟩
   rcases mq0 ((insB_perm r).mem_iff.mp hy)with rfl|hy
   .exact bf0 ‹_›
   .exact h1 y hy
theorem dM:∀l:List (List Str×D),(hW l).Pairwise (λa b=>ltL b.1 a.1=false)
 |[]=>.nil
 |p::r=>jO (dM r)
def map_getD(d:α)(l:List α):(List.range l.length).map (λi=>l.getD i d)=l:=List.ext_getElem (by simp) λi h1 h2=>by simp[List.getD,h2]
def zw{zs:List (List Str×D)}(nd:(zs.map (·.1)).Nodup){a b:List Str×D}(ha:a∈zs)(hb:b∈zs)(h:a.1=b.1):a=b:=by
 induction zs with
 |nil=>cases ha
 |cons z r ih=>
  obtain⟨n1,n2⟩:=List.nodup_cons.mp nd;rcases mq0 ha with e|ha'<;>rcases mq0 hb with e'|hb'
  .rw[e,e']
  .exact (n1 (List.mem_map.mpr ⟨b,hb',by rw[<-h,e]⟩)).elim
  .exact (n1 (List.mem_map.mpr ⟨a,ha',by rw[h,e']⟩)).elim
  .exact ih n2 ha' hb'
noncomputable abbrev atZ(zs:List (List Str×D))(i:Nat):List Str×D:=zs.getD i ([],.none)
def mN{zs l:List (List Str×D)}(nd:(zs.map (·.1)).Nodup)(pe:l.Perm zs)(so:l.Pairwise (λa b=>ltL b.1 a.1=false)):l=hW zs:=
 (pe.trans (dJ zs).symm).eq_of_pairwise (le:=λa b=>ltL b.1 a.1=false) (λa b ha hb h1 h2=>zw nd (pe.mem_iff.mp ha) ((dJ zs).mem_iff.mp hb) (iH h2 h1)) so (dM zs)
def iI{zs:List (List Str×D)}{pm:List Nat}(nd:(zs.map (·.1)).Nodup)(h:aS (λi j=>ltL (atZ zs i).1 (atZ zs j).1) zs.length pm):pm.map (atZ zs)=hW zs:=by
 have pl:=h.1.length_eq;rw[lr0]at pl;have pe:(pm.map (atZ zs)).Perm zs:=by
  have:=h.1.map (atZ zs)
  rwa [map_getD]at this
 refine mN nd pe (List.pairwise_iff_getElem.mpr λi j hi hj hij=>?_);rw[lm0]at hi hj;have:=h.2 i j (Nat.le_of_lt hij) (by omega)
 simpa [List.getD,hi,hj]using this
def qG{zs:List (List Str×D)}(h:gC zs=some d):zs.length<64/\(zs.map (·.1)).Nodup/\d=.list ((hW zs).map (·.2)):=by
 unfold gC at h;split at h
 .cases h;exact⟨‹_/\_›.1,‹_/\_›.2,rfl⟩
 .cases h
theorem pA{G:Hp}:∀{ds:List D}{vs:List V},Dps K G ds vs->∀pm:List Nat,(∀i∈pm,i<ds.length)->Dps K G (pm.map λi=>ds.getD i .none) (pm.map λi=>vs.getD i .non)
 |_,_,_,[],_=>.nil
 |ds,vs,r,i::pm,h=>by
  have hi:=h i ms0;refine .cons ?_ (pA r pm λj hj=>h j (mc0 _ hj));obtain⟨v,e,d⟩:=r.get (ge0 hi)
  simpa [List.getD,hi,e]using d
theorem kQ:∀{xs:List V}{us:List Value},Vals xs us->∀pm:List Nat,(∀i∈pm,i<xs.length)->Vals (pm.map λi=>xs.getD i .non) (byP us pm)
 |_,_,_,[],_=>.nil
 |xs,us,r,i::pm,h=>by
  have hi:=h i ms0;refine .cons ?_ (kQ r pm λj hj=>h j (mc0 _ hj));obtain⟨u,e,d⟩:=r.get (ge0 hi)
  simpa [List.getD,hi,e]using d
section
variable {A:Around}{E:Value->Shared->Prop}
def IsPn(h:Heap)(q:Str)(v:Value):Prop:=∃a o xs n t u,v=.ref a/\h.get? a=some o/\o.cls=.type "tuple"/\o.data=.seq xs n/\xs=#[.str q t,u]
def vY{v:Value}{Q:Bool->Shared->Prop}(h:Q true s):wpAny (model prog w) A (eqBool v v) Q E s:=by
 unfold eqBool;refine wh0 ?_;refine wpAny_ite_split (λa=>wb0 (wpAny_rule (wq0 h))) λhab=>?_
 exact absurd (beq_self_eq_true v) hab
def qH :ltL [x] [y]=decide (x.cps.toList<y.cps.toList):=by
 rw[mM];split
 .subst_vars;exact (df0 (List.lt_irrefl _)).symm
 .rfl
def IsPn.keep{q:Str}{v:Value}(k:∀b o,h.get? b=some o->h'.get? b=some o):IsPn h q v->IsPn h' q v
 |⟨a,o,xs,n,t,u,e1,e2,e3⟩=>⟨a,o,xs,n,t,u,e1,k a o e2,e3⟩
def GZ{p q:Str}{x y:Value}{Q:Bool->Shared->Prop}(hx:IsPn s.heap p x)(hy:IsPn s.heap q y)(hd:p=q->x=y)(h:Q (ltL [p] [q]) s):wpAny (model prog w) A (keyLt' (tuples' true) x y) Q E s:=by
 rw[qH]at h;obtain⟨a,o,xs,n,t,u,rfl,a1,a2,a3,rfl⟩:=hx;obtain⟨b,o',ys,n',t',u',rfl,b1,b2,b3,rfl⟩:=hy;refine kat_lt a1 a3 b1 b3 ?_;show KatLex prog w A true _ Q [(.str p t,.str q t'),(u,u')] 0 s;refine kat_cons (wpAny_eqBool_str ?_)
 by_cases e:p=q
 .rw[dt0 e]
  have e2:=hd e;subst e;cases e2;rw[a1]at b1;cases b1;rw[a3]at b3;cases b3;refine kat_yes (kat_cons (vY (kat_yes (kat_nil ?_))));rw[df0 (List.lt_irrefl _)]at h;exact h
 .rw[df0 e]
  exact kat_no (oneLt_str h)
end
def zx{A:Around}{E:Value->Shared->Prop}{R:SortKind->Shared->Prop}:∀{vs:List Value},0<vs.length->(∀v∈vs,∃q,IsPn s.heap q v)->R (tuples' true) s->wpAny (model prog w) A (keyKind' vs.toArray) R E s:=by
 intro vs h0 hp h;have:∀vs:List Value,(∀v∈vs,∃q,IsPn s.heap q v)->∃fs,KatTups s.heap vs fs/\fs.length=vs.length/\∀v∈fs,∃x t,v=.str x t:=by
  intro vs
  induction vs with
  |nil=>exact λb=>⟨[],trivial,rfl,nofun⟩
  |cons v r ih=>
   intro hp;obtain⟨fs,k1,k2,k3⟩:=ih λv hv=>hp v (mc0 _ hv)
   obtain⟨q,a,o,xs,n,t,u,rfl,a1,a2,a3,rfl⟩:=hp v ms0;exact⟨_::fs,.cons a1 a2 a3 rfl k1,by simp[k2],λv hv=>(mq0 hv).elim (λe=>⟨q,t,e⟩) (k3 v)⟩
 obtain⟨fs,k1,k2,k3⟩:=this vs hp;refine kat_kind (T:=.type "str") k1 (by omega) (λv hv=>?_) rfl h;obtain⟨x,t,rfl⟩:=k3 v hv;exact .now
inductive PnV (H:Hp):List V->List Str->Prop
 |nil:PnV H [] []
 |cons {a:Addr}{x:Str}{y:V}{vs:List V}{ss:List Str}:H a=some (.tup [.str x,y])->PnV H vs ss->PnV H (.ref a::vs) (x::ss)
theorem vZ(ok:HOk X.prog X.w H h):∀{ws:List V}{ss:List Str}{us:List Value},PnV H ws ss->Vals ws us->us.length=ss.length/\∀(i:Nat) u,us[i]?=some u->IsPn h (ss.getD i Str.empty) u
 |_,_,_,.nil,.nil=>⟨rfl,λi u e=>by simp at e⟩
 |_,_,_,.cons (a:=a) e r,.cons z rv=>by
  obtain⟨l,k⟩:=vZ ok r rv;refine⟨by simp[l],λi u q=>?_⟩;cases i with
  |succ i=>simpa using k i u (by simpa using q)
  |zero=>
   cases q;cases z;obtain⟨z,its,rv,ob,e,c1,n,c2⟩:=ok a _ e;cases rv with
   |cons x1 rv=>cases rv with
    |cons x2 rv=>
     cases rv;obtain⟨t,rfl⟩:=x1;exact⟨a,ob,_,n,t,_,rfl,e,c1,c2,rfl⟩
section
variable {p:Pos}
def kR:aW X (.builtin "sorted") (λxs H Q=>∃(l:Addr)(ws:List V)(ss:List Str),xs=[.ref l]/\H l=some (.lst ws)/\PnV H ws ss/\ss.Nodup/\ss.length<64/\∀r pm,H r=.none->aS (λi j=>ltL [ss.getD i Str.empty] [ss.getD j Str.empty]) ss.length pm->Q (.ref r) (upd H r (.lst (pm.map λi=>ws.getD i .non)))):=by
 intro pins s σ H xs us Q I r h;obtain⟨l,ws,ss,rfl,hl,hp,nd,hz,k⟩:=h;obtain⟨u,rfl,rx⟩:=vals1 r;cases rx;obtain⟨us,rv,pl,_⟩:=I.list (SqL.of hl);obtain⟨ul,at'⟩:=vZ I.hok hp rv;have get:∀i,i<us.length->us[i]?=some (us.getD i .none):=λi hi=>by simp[List.getD,hi]
 refine pj (gM λi=>[ss.getD i Str.empty]) (Z:=tuples' true) pl.isList (by omega) (λh2 h' kk R r=>zx (s:={s with heap:=h'}) (by omega) (λv hv=>?_) r) (λh' kk i j hi hj R r=>GZ (s:={s with heap:=h'}) ((at' i _ (get i hi)).keep kk) ((at' j _ (get j hj)).keep kk) (λe=>?_) r) λh' D n pm kk gD fr io=>?_
 .obtain⟨i,hi⟩:=List.getElem?_of_mem hv
  exact⟨_,(at' i v hi).keep kk⟩
 .rw[ul]at hi hj
  have:i=j:=(List.getElem_inj nd).mp (by simpa [List.getD,hi,hj]using e);rw[this]
 .rw[ul]at io
  have pl:=io.1.length_eq;rw[lr0]at pl;have wl:ws.length=ss.length:=by rw[rv.length,ul]
  exact⟨.ref D,_,I.laid (t':=s.toks) kk fr (show ObjOk X.prog X.w _ _ _ (.lst _)from⟨by rw[lm0,pl,sizeLine_eq];omega,_,n,kQ rv pm (λi hi=>by rw[wl];exact List.mem_range.mp (io.1.mem_iff.mp hi)),gD⟩),rfl,k D pm (I.hok.fresh fr) io⟩
theorem qI{G:Hp}(s:Same G H):∀{ls:List D}{ws:List V}{zs:List (List Str×D)},gd ls=some zs->Dps K G ls ws->∃ss:List Str,PnV H ws ss/\zs.map (·.1)=ss.map (λx=>[x])/\zs.map (·.2)=ls
 |[],_,_,h,.nil=>by cases h;exact⟨[],.nil,rfl,rfl⟩
 |.tuple [.str x,d]::r,_,_,h,.cons a b=>by
  obtain⟨zs,h1,rfl⟩:=mS (show (gd r).map _=some _ from h);obtain⟨ss,k1,k2,k3⟩:=qI s h1 b;cases a with
  |tuple hq rq=>cases rq with
   |cons c1 rq=>cases rq with
    |cons c2 rq=>
     cases rq;cases c1;exact⟨x::ss,.cons (s _ _ hq) k1,by simp[k2],by simp[k3]⟩
def pB(B1:Blt X "sorted")(ha:Er X Y a (.list ls))(hd:yH (.list ls)=some d)(hs:isStar a=false):Ev X Y (.Call (.Name "sorted" p) [a] [] pos) d:=by
 obtain⟨zs,h1,h⟩:=bS (show (gd ls).bind _=some d from hd);obtain⟨hz,nd,rfl⟩:=qG h;intro pins s σ H Q I h0;obtain⟨G0,H0,G,E,k⟩:=h0;refine di kR B1.g B1.m fe (ay ha aT (af hs)) B1.n B1.d (af hs) rfl pins s σ H Q I ⟨G0,H0,G,E,λv G1 H1 e1 r1=>?_⟩;obtain⟨q,ws,rfl,h2,d1⟩:=r1.lst e1.gh;obtain⟨ss,p1,p2,p3⟩:=qI e1.gh h1 d1;have sl:zs.length=ss.length:=by simpa using congrArg List.length p2
 have at1:∀i,i<ss.length->(atZ zs i).1=[ss.getD i Str.empty]:=λi hi=>by
  have:=congrArg (·[i]?) p2;simp[hi,show i<zs.length by omega]at this
  simpa [atZ,List.getD,hi,show i<zs.length by omega]using this
 refine⟨q,ws,ss,rfl,h2,p1,?_,by omega,λr2 pm hr2 io=>?_⟩
 .rw[p2]at nd
  exact (List.pairwise_map.mp nd).imp λh e=>h (by rw[e])
 .have lt:∀i∈pm,i<ss.length:=λi hi=>List.mem_range.mp (io.1.mem_iff.mp hi)
  have io2:aS (λi j=>ltL (atZ zs i).1 (atZ zs j).1) zs.length pm:=by
   rw[sl];refine⟨io.1,λi j hij hj=>?_⟩;have pl:=io.1.length_eq;rw[lr0]at pl;have m:∀i,i<ss.length->pm.getD i 0<ss.length:=λi hi=>lt _ (by simp[List.getD,show i<pm.length by omega])
   dsimp only;rw[at1 _ (m j hj),at1 _ (m i (by omega))];exact io.2 i j hij hj
  have e:=iI nd io2;rw[<-e,List.map_map]at k;refine k _ _ _ (e1.trans (.laid e1.gh hr2)) (.list ae ((?_:Dps X.K G1 _ _).mono (av (e1.gh.free hr2))));have:=pA d1 pm λi hi=>by rw[<-p3,lm0,sl];exact lt i hi
  rw[<-p3]at this;have e2:pm.map ((λx=>x.2) ∘ atZ zs)=pm.map λi=>(zs.map (·.2)).getD i .none:=List.map_congr_left λi hi=>by
   have:=lt i hi;simp[atZ,List.getD,show i<zs.length by omega]
  rw[e2];exact this
end
end L2.Z
namespace L2.Z
open PySem PySem.Spec PyProof.Rows L2 L2.C SI
def gP{e:Expr}{env}(h:isSet e=false):∀x,foldedSetIterable e env x=pure x:=by
 intro x;cases e<;>first|rfl|cases h
section
variable {k:Nat}{C:Cs}{e:Expr}{a' b' c':E}{as':Es}{p:Pos}{f:Str}{nc:Bool}
theorem Wz.blk(w:Wz X Z Γ C k){B:Cs}(h:B.fns=C.fns/\B.cst=C.cst/\B.vc=C.vc/\B.vms=C.vms)(A:Addr)(s:Shared)(H:Hp)(fp:List Addr):Wz (L2.C.blk X sc N A s H fp) Z Γ B k:=
 ⟨w.blt,λx hx L hφ=>w.fns x (by rwa [<-h.1]) L hφ,w.gl,w.room,λc hc=>w.vc c (by rwa [<-h.2.2.1]),λc m hc hm L hφ=>w.vf c m (by rwa [<-h.2.2.1]) (by rwa [<-h.2.2.2]) L hφ⟩
def Wz.u1(w:Wz X Z Γ C k):X.A.units+1<cLine:=by have:=w.room.units;omega
def zy(h:∀Y,Ev X Y e d)(he:∀whole,isTrue e X.env whole=(do let v ←whole;standAt e.pos;holding [v] (truthy v))):SdE X Z Γ e (.k d) false:=bu (core:=λa=>some d) (λa a=>rfl) (λY d' q=>by cases q;exact h Y) he
def DR(V:VarOk X x i):SdE X Z Γ (.Name x p) (.v i) false:=by
 refine⟨λq=>Dc i q V.at' V.vis V.d V.cd,λq=>uL i q V.at' V.vis V.d V.cd,λq=>DC i q V.at' V.vis V.d V.cd,λq=>?_,λz=>by cases z⟩;obtain⟨d',q1,q2⟩:=bS q;obtain⟨t,q3,q4⟩:=mS q2;refine⟨t,q4.symm,ie (uL i ?_ V.at' V.vis V.d V.cd) q3 λa=>rfl⟩;obtain⟨sl,z1,z2⟩:=bS q1;rw[z1];cases sl<;>exact z2
def JT(c:CxC X C)(w:Wz X Z Γ C k)(h:ao C x=true):SdE X Z Γ (.Name x p) (.g x) false:=bu (λa a=>rfl) λY d hd=>by
 obtain⟨u,v,h1,h2,h3⟩:=w.gl x d hd;exact λpins s σ H Q I ⟨G0,H0,G,E,k⟩=>pY (aR c h).1 h1 h2 (aR c h).2.2 pins s σ H Q I (k _ G H (.refl E.sub) (h3 G))
def Ha{op:Operator}{o:Op2}(h:cOp op=some o)(A:SdE X Z Γ a a' na)(B:SdE X Z Γ b b' nb):SdE X Z Γ (.BinOp a op b pos) (.op o a' b') true:=cg (λc c=>rfl) λY d q=>by
 obtain⟨x,q1,q⟩:=bS q;obtain⟨y,q2,q⟩:=bS q;have:=uQ (pos:=pos) h q (A.r q1) (B.r q2);exact⟨this.1,λc=>this.2⟩
def DS(A:SdE X Z Γ a a' na):SdE X Z Γ (.UnaryOp .USub a pos) (.neg a') false:=bu (λb b=>rfl) λY d q=>by
 obtain⟨x,q1,q⟩:=bS q;obtain⟨i,q2,rfl⟩:=mS q;obtain rfl:=oF q2;exact Di (A.v q1)
def DT(A:SdE X Z Γ a a' na):SdE X Z Γ (.UnaryOp .Not a pos) (.not a') false:=by
 have val:∀{Y d},ev Z Γ .val Y (.not a')=some d->Ev X Y (.UnaryOp .Not a pos) d:=λq=>by
  obtain⟨x,q1,q⟩:=bS q;obtain⟨t,q2,rfl⟩:=mS q;obtain rfl:=oG q2;exact Dw (A.v q1)
 refine⟨val,λq=>(val q).er,λq=>(val q).ek,λq=>?_,λz=>by cases z⟩;obtain⟨x,q1,q⟩:=bS q;obtain⟨t,q2,rfl⟩:=mS q;obtain⟨b,rfl,hb⟩:=A.t q1;cases q2;exact⟨_,rfl,Dm hb⟩
def DU{op:CmpOp}{o:Cop}(w:Wz X Z Γ C k)(h:kF op=some o)(hs:(!isSet b)=true)(A:SdE X Z Γ a a' na)(B:SdE X Z Γ b b' nb):SdE X Z Γ (.Compare a [op] [b] pos) (.cmp o a' b') false:=by
 have both:∀{Y d},((ev Z Γ .read Y a').bind λx=>(ev Z Γ .read Y b').bind λy=>(cb o x y).map D.bool)=some d->∃t,d=.bool t/\Ev X Y (.Compare a [op] [b] pos) (.bool t)/\Et X Y (.Compare a [op] [b] pos) t:=λq=>by
  obtain⟨x,q1,q⟩:=bS q;obtain⟨y,q2,q⟩:=bS q;obtain⟨t,q3,rfl⟩:=mS q;obtain⟨r,hr,hR⟩:=kJ (X:=X) w.room.units h q3;exact⟨t,rfl,Dd hr (A.r q1) (B.r q2) hR (eW (nt hs)),De hr (A.r q1) (B.r q2) hR (eW (nt hs))⟩
 refine vD (λc c=>rfl) (λY d q=>?_) λY d t q ht=>?_
 .obtain⟨t,rfl,z,_⟩:=both q;exact⟨z,λz=>by cases z⟩
 .obtain⟨t,rfl,_,z⟩:=both q;cases ht;exact z
def mO{op op':CmpOp}{r r':R2}{u:Bool}(ho:OpR X (compareOp op) r)(ho':OpR X (compareOp op') r')(ha:Er X Y a d1)(hb:Er X Y b d2)(hc:t=true->Er X Y c d3)
  (h1:R2r X.K r d1 d2 (.bool t)) (h2:t=true->R2r X.K r' d2 d3 (.bool u)) (hm:lastMarks [op,op'] [b,c]=false) (hu:t=false->u=false):
  Ev X Y (.Compare a [op,op'] [b,c] pos) (.bool u)/\Et X Y (.Compare a [op,op'] [b,c] pos) u:=by
 have key:∀(tc:TE),(t=true->tc=tEr X.K Y d3)->∀(σ:St)(H:Hp)(Q:VK),(∃G0 H0 G,EnvD X.K G0 H0 G H σ Y/\∀v G' H',Ext G H G' H'->Dp X.K G' (.bool u) v->Q v H')->oa r r' (tEr X.K Y d1) (tEr X.K Y d2) tc σ H Q:=by
  intro tc htc σ H Q h0;obtain⟨G0,H0,G,E,kk⟩:=h0;refine⟨G0,H0,G,E,λx G1 H1 e1 r1=>⟨G0,H0,G1,E.step e1,λy G2 H2 e2 r2=>h1 x y G2 H2 _ e2.gh (r1.ext e2) r2 λv G3 H3 e3 r3=>?_⟩⟩;cases r3;refine⟨t,rfl,?_⟩;cases t with
  |true=>
   rw[if_pos rfl,htc rfl];refine⟨G0,H0,G3,((E.step e1).step e2).step e3,λz G4 H4 e4 r4=>h2 rfl y z G4 H4 Q e4.gh ((r2.ext e3).ext e4) r4 λv G5 H5 e5 r5=>kk v G5 H5 (e1.trans (e2.trans (e3.trans (e4.trans e5)))) r5⟩
  |false=>
   exact kk _ G3 H3 (e1.trans (e2.trans e3)) (by rw[hu rfl];exact .bool _)
 have fin:∀tc,PE X c tc->(t=true->tc=tEr X.K Y d3)->Ev X Y (.Compare a [op,op'] [b,c] pos) (.bool u)/\Et X Y (.Compare a [op,op'] [b,c] pos) u:=λtc hp ht=>
  ⟨λpins s σ H Q I h0=>uh ho ho' ha hb hp hm pins s σ H Q I (key _ ht σ H Q h0),λpins s σ H Q I h0=>ui ho ho' ha hb hp hm pins s σ H Q I (key _ ht σ H _ (by
   obtain⟨G0,H0,G,E,kk⟩:=h0;exact⟨G0,H0,G,E,λv G' H' e r=>by cases r;exact⟨u,rfl,kk G' H' e⟩⟩))⟩
 cases t with
 |true=>exact fin _ (hc rfl) λd=>rfl
 |false=>exact fin (λd d d=>False) (λd d d d d d z=>z.elim) λz=>by cases z
def wa{op op':CmpOp}{o o':Cop}(w:Wz X Z Γ C k)(h:kF op=some o)(h':kF op'=some o')(hs:(!isSet c)=true)(A:SdE X Z Γ a a' na)(B:SdE X Z Γ b b' nb)(Cc:SdE X Z Γ c c' nc):SdE X Z Γ (.Compare a [op,op'] [b,c] pos) (.chain o o' a' b' c') false:=by
 have both:∀{Y d},((ev Z Γ .read Y a').bind λx=>(ev Z Γ .read Y b').bind λy=>(cb o x y).bind λt=>if t then (ev Z Γ .read Y c').bind λz=>(cb o' y z).map D.bool else some (.bool false))=some d->
   ∃u,d=.bool u/\Ev X Y (.Compare a [op,op'] [b,c] pos) (.bool u)/\Et X Y (.Compare a [op,op'] [b,c] pos) u:=λq=>by
  obtain⟨x,q1,q⟩:=bS q;obtain⟨y,q2,q⟩:=bS q;obtain⟨t,q3,q⟩:=bS q;obtain⟨r,hr,hR⟩:=kJ (X:=X) w.room.units h q3;have hm:lastMarks [op,op'] [b,c]=false:=eW (nt hs);cases t with
  |true=>
   obtain⟨z,q4,q⟩:=bS q;obtain⟨u,q5,rfl⟩:=mS q;obtain⟨r',hr',hR'⟩:=kJ (X:=X) w.room.units h' q5;exact⟨u,rfl,mO hr hr' (A.r q1) (B.r q2) (λe=>Cc.r q4) hR (λe=>hR') hm (λz=>by cases z)⟩
  |false=>
   cases q;exact⟨false,rfl,mO (d3:=.none) (r':=λe e e e=>False) hr (λpins s σ H x y v u Q I rx ry h=>h.elim) (A.r q1) (B.r q2) (λz=>by cases z) hR (λz=>by cases z) hm (λe=>rfl)⟩
 refine vD (λe e=>rfl) (λY d q=>?_) λY d t q ht=>?_
 .obtain⟨t,rfl,z,_⟩:=both q;exact⟨z,λz=>by cases z⟩
 .obtain⟨t,rfl,_,z⟩:=both q;cases ht;exact z
structure SdB(X:Cx)(Z:Fs)(Γ:List (Str×D))(op:BoolOp)(es:List Expr)(f:E):Prop where
 v:∀{pos Y d},ev Z Γ .val Y f=some d->Ev X Y (.BoolOp op es pos) d
 t:∀{pos Y d},ev Z Γ .test Y f=some d->∃b,d=.bool b/\Ew X Y (.BoolOp op es pos) b
def qJ{op:BoolOp}(B:SdB X Z Γ op as a')(h:(∀Y,ev Z Γ .read Y a'=ev Z Γ .val Y a')/\∀Y,ev Z Γ .walk Y a'=ev Z Γ .val Y a'):SdE X Z Γ (.BoolOp op as pos) a' false:=
 ⟨B.v,λq=>(B.v (by rw[<-h.1];exact q)).er,λq=>(B.v (by rw[<-h.2];exact q)).ek,λq=>let ⟨b,e,z⟩:=B.t q;⟨b,e,z.et⟩,λz=>by cases z⟩
def DV{op:BoolOp}(A:SdE X Z Γ a a' na):SdB X Z Γ op [a] a':=⟨λq=>Dt (A.v q),λq=>by
 obtain⟨b,rfl,t⟩:=A.t q;cases op with
 |And=>exact⟨b,rfl,yR t⟩
 |Or=>exact⟨b,rfl,Do t⟩⟩
def wb(A:SdE X Z Γ a a' na)(B:SdB X Z Γ .And (b::as) b'):SdB X Z Γ .And (a::b::as) (.and a' b'):=⟨λq=>by
 obtain⟨x,q1,q⟩:=bS q;obtain⟨t,q2,q⟩:=bS q;obtain rfl:=oG q2;cases t with
 |true=>exact yU (A.v q1) (B.v q)
 |false=>cases q;exact yV (A.v q1),λq=>by
 obtain⟨x,q1,q⟩:=bS q;obtain⟨t,rfl,ht⟩:=A.t q1;cases t with
 |true=>
  obtain⟨b,rfl,hb⟩:=B.t q;exact⟨b,rfl,yS ht hb⟩
 |false=>cases q;exact⟨false,rfl,yT ht⟩⟩
def Bj(A:SdE X Z Γ a a' na)(B:SdB X Z Γ .Or (b::as) b'):SdB X Z Γ .Or (a::b::as) (.or a' b'):=⟨λq=>by
 obtain⟨x,q1,q⟩:=bS q;obtain⟨t,q2,q⟩:=bS q;obtain rfl:=oG q2;cases t with
 |true=>cases q;exact Dv (A.v q1)
 |false=>exact Du (A.v q1) (B.v q),λq=>by
 obtain⟨x,q1,q⟩:=bS q;obtain⟨t,rfl,ht⟩:=A.t q1;cases t with
 |true=>cases q;exact⟨true,rfl,Ds ht⟩
 |false=>
  obtain⟨b,rfl,hb⟩:=B.t q;exact⟨b,rfl,Dq ht hb⟩⟩
def DW(Cc:SdE X Z Γ c c' nc)(A:SdE X Z Γ a a' na)(B:SdE X Z Γ b b' nb):SdE X Z Γ (.IfExp c a b pos) (.ite c' a' b') false:=by
 have val:∀{Y d},ev Z Γ .val Y (.ite c' a' b')=some d->Ev X Y (.IfExp c a b pos) d:=λq=>by
  obtain⟨x,q1,q⟩:=bS q;obtain⟨t,rfl,ht⟩:=Cc.t q1;cases t with
  |true=>exact Dx ht (A.v q)
  |false=>exact Dy ht (B.v q)
 exact⟨val,λq=>(val q).er,λq=>(val q).ek,λq=>(by cases (show .none=some _ from q)),λz=>by cases z⟩
def DX{vc:Nat}(w:Wz X Z Γ C k)(h:C.vc=some vc)(hs:(!aL a)=true)(hx:x="objects")(A:SdE X Z Γ a a' na):SdE X Z Γ (.Attribute a x pos) (.vob vc a') false:=by
 subst hx;have key:∀{Y d},((ev Z Γ .read Y a').bind λx=>if hX vc x then some (D.list (yI x))else .none)=some d->Er X Y (.Attribute a "objects" pos) d:=λq=>by
  obtain⟨x,q1,q⟩:=bS q;obtain⟨hv,rfl⟩:=iS q;obtain⟨hh,os,rfl⟩:=md hv;exact DK (w.vc vc h).1 (w.vc vc h).2 (A.r q1) (nt hs)
 refine⟨λq=>nn q,λq=>key q,λq=>nn q,λq=>?_,λz=>by cases z⟩;obtain⟨d',q1,q2⟩:=bS (o:=(ev Z Γ .read _ a').bind λx=>if hX vc x then some (D.list (yI x))else .none) (f:=λd=>(fF d).map D.bool) q;obtain⟨t,q3,q4⟩:=mS q2;exact⟨t,q4.symm,ie (key q1) q3 λb=>rfl⟩
def DY(w:Wz X Z Γ C k)(hs:(!isSlice b)=true)(A:SdE X Z Γ a a' na)(B:SdE X Z Γ b b' nb):SdE X Z Γ (.Subscript a b pos) (.idx a' b') false:=bu (λc c=>rfl) λY d q=>by
 obtain⟨x,q1,q⟩:=bS q;obtain⟨y,q2,q⟩:=bS q;exact se w.u1 q (A.r q1) (B.v q2) (nt hs)
structure SdO(X:Cx)(Z:Fs)(Γ:List (Str×D))(eo:Option Expr)(as:Es):Prop where
 o:∀{Y o},evP Z Γ Y as=some o->PO X eo (tPt X.K Y o)
def zz:SdO X Z Γ .none .nil:=⟨λq=>by cases q;exact uR⟩
def zA(A:SdE X Z Γ a a' na):SdO X Z Γ (some a) (.cons a' .nil):=⟨λq=>by
 obtain⟨d,q1,q2⟩:=bS q;obtain⟨i,q3,rfl⟩:=mS q2;obtain rfl:=oF q3;exact uS (A.v q1)⟩
def Hc{lo hi:Option Expr}{lo' hi':Es}(A:SdE X Z Γ a a' na)(L:SdO X Z Γ lo lo')(H:SdO X Z Γ hi hi'):SdE X Z Γ (.Subscript a (.Slice lo hi .none p) pos) (.sl a' lo' hi') true:=cg (λb b=>rfl) λY d q=>by
 obtain⟨x,q1,q⟩:=bS q;obtain⟨y,q2,q⟩:=bS q;obtain⟨z,q3,q⟩:=bS q;cases x with
 |list ds=>cases q;have:=sf (pos:=pos) (p2:=p) (A.r q1) (L.o q2) (H.o q3);exact⟨this.ev,λb b=>this⟩
 |str x=>
  rw[CQ]at q;obtain⟨hz,rfl⟩:=iS q;exact⟨sq (A.r q1) (L.o q2) (H.o q3) hz,λb z=>by cases z⟩
 |_=>cases q
structure SdA(X:Cx)(Z:Fs)(Γ:List (Str×D))(es:List Expr)(as:Es):Prop where
 s:aG es
 r:∀{fl Y ds},evs Z Γ .read fl Y as=some ds->Ea X Y fl es ds
 v:∀{Y ds},evs Z Γ .val [] Y as=some ds->Ea X Y [] es ds
 l:∀{m fl Y ds},evs Z Γ m fl Y as=some ds->ds.length=es.length
def DZ:SdA X Z Γ [] .nil:=⟨λa z=>(by cases z),λq=>(by cases q;exact ia),λq=>(by cases q;exact ia),λq=>by cases q;rfl⟩
def zB(hs:(!isStar a)=true)(A:SdE X Z Γ a a' na)(R:SdA X Z Γ as as'):SdA X Z Γ (a::as) (.cons a' as'):=by
 refine⟨λx hx=>(mq0 hx).elim (λz=>z▸nt hs) (R.s x),λ{fl _ _} q=>?_,λq=>?_,λq=>?_⟩
 .obtain⟨x,q1,q⟩:=bS q
  obtain⟨rs,q2,rfl⟩:=mS q;cases hf:fl.headD false with
  |true=>rw[hf]at q1;exact ic (A.r q1) hf (R.r q2) (nt hs)
  |false=>rw[hf]at q1;exact ib (A.v q1) (R.r q2) (nt hs)
 .obtain⟨x,q1,q⟩:=bS q
  obtain⟨rs,q2,rfl⟩:=mS q;exact ib (A.v q1) (R.v q2) (nt hs)
 .obtain⟨x,q1,q⟩:=bS q
  obtain⟨rs,q2,rfl⟩:=mS q;rw[lc0,lc0,R.l q2]
def Eb(A:SdA X Z Γ as as'):SdE X Z Γ (.List as pos) (.lst as') true:=oU (λa a=>rfl) λY d q=>by
 obtain⟨ds,q1,q⟩:=bS q;obtain⟨hz,rfl⟩:=iS q;exact Dj (A.v q1) hz
def Ec(A:SdA X Z Γ as as'):SdE X Z Γ (.Tuple as j pos) (.tup as') false:=bu (λa a=>rfl) λY d q=>by
 obtain⟨ds,q1,q⟩:=bS q;obtain⟨hz,rfl⟩:=iS q;exact Dk (A.v q1) hz
def zC{f:Bf}(h:jz x=some f):x∈bltNames:=by
 unfold jz at h
 repeat' split at h
 all_goals first|cases h;done|(subst_vars;simp[bltNames])
def Ed(h:oH x=some T):x∈bltNames:=by
 unfold oH at h
 repeat' split at h
 all_goals first|cases h;done|(subst_vars;simp[bltNames])
def zD(c:CxC X C)(w:Wz X Z Γ C k)(hf:C.fns.contains f=true)(hg:ao C f=true)(A:SdA X Z Γ (a::as) as'):SdE X Z Γ (.Call (.Name f p) (a::as) [] pos) (.call f as') false:=bu (λb b=>rfl) λY d q=>by
 obtain⟨L,q1,q⟩:=bS q;obtain⟨ds,q2,q⟩:=bS q;exact oP (w.fns f hf L q1) w.room (aR c hg).1 (aR c hg).2.2 (A.r q2) q A.s
def Ee{tn:Str}(c:CxC X C)(w:Wz X Z Γ C k)(hf:f="isinstance")(hg:ao C f=true)(h:oH tn=some T)(hq:(ao C tn&&!isStar a)=true)(A:SdE X Z Γ a a' na):SdE X Z Γ (.Call (.Name f p) [a,.Name tn px] [] pos) (.isi a' T) false:=bu (λb b=>rfl) λY d q=>by
 subst hf;obtain⟨x,q1,q⟩:=bS q;obtain⟨t,q2,rfl⟩:=mS q;exact sy (bf c w hg (by simp[bltNames])) (bf c w (a2 hq).1 (Ed h)) h (A.r q1) (nt (a2 hq).2) q2
def Ef{g:Str}{sp qp:Pos}(c:CxC X C)(w:Wz X Z Γ C k)(hf:f="sorted")(hg:ao C f=true)(h:g="set")(hg':ao C g=true)(A:SdA X Z Γ [a] as'):SdE X Z Γ (.Call (.Name f p) [.Call (.Name g sp) [a] [] qp] [] pos) (.bi .srt as') false:=bu (λb b=>rfl) λY d q=>by
 subst hf h;obtain⟨ds,q1,q⟩:=bS q;exact sR c.calm (bf c w hg (by simp[bltNames])) (bf c w hg' (by simp[bltNames])) q (A.r q1) (A.s a ms0)
def zE(c:CxC X C)(w:Wz X Z Γ C k)(hf:f="sorted")(hg:ao C f=true)(hs:(!isStar a)=true)(A:SdE X Z Γ a a' na):SdE X Z Γ (.Call (.Name f p) [a] [] pos) (.srtn a') false:=bu (λb b=>rfl) λY d q=>by
 subst hf;obtain⟨x,q1,q⟩:=bS q;cases x with
 |list ls=>exact pB (bf c w hg (by simp[bltNames])) (A.r q1) q (nt hs)
 |_=>cases q
def Eg(c:CxC X C)(w:Wz X Z Γ C k)(hf:f="dict")(hg:ao C f=true)(hs:(!isStar a)=true)(A:SdE X Z Γ a a' na):SdE X Z Γ (.Call (.Name f p) [a] [] pos) (.fdc a') false:=bu (λb b=>rfl) λY d q=>by
 subst hf;obtain⟨x,q1,q⟩:=bS q;cases x with
 |list ls=>
  obtain⟨ps,h,rfl⟩:=mS (show (pairsOf ls).map _=some d from q);exact sU c.calm (bf c w hg (by simp[bltNames])) h (A.r q1) (nt hs)
 |_=>cases q
def wc(c:CxC X C)(w:Wz X Z Γ C k)(hf:f="dict")(hg:ao C f=true)(hs:(!isStar a)=true)(A:SdE X Z Γ a a' na):SdE X Z Γ (.Call (.Name f p) [a] [] pos) (.bi .dict (.cons a' .nil)) true:=oU (λb b=>rfl) λY d q=>by
 subst hf;obtain⟨ds,q1,q⟩:=bS q;obtain⟨x,q2,q1⟩:=bS (show (ev Z Γ .read Y a').bind _=some ds from q1);cases q1;cases x with
 |list ls=>
  obtain⟨ps,h,rfl⟩:=mS (show (pairsOf ls).map _=some d from q);exact oY c.calm (bf c w hg (by simp[bltNames])) h (A.r q2) (nt hs)
 |fdc kvs=>cases q;exact mL (bf c w hg (by simp[bltNames])) (A.r q2) (nt hs)
 |_=>cases q
def Hd{b:Bf}(c:CxC X C)(w:Wz X Z Γ C k)(hg:ao C f=true)(h:jz f=some b)(A:SdA X Z Γ (a::as) as'):SdE X Z Γ (.Call (.Name f p) (a::as) [] pos) (.bi b as') (frB b):=cg (λe e=>rfl) λY d q=>by
 obtain⟨ds,q1,q⟩:=bS q;exact uW c.calm (bf c w hg (zC h)) h q (A.r q1) A.s
def we{vc:Nat}(w:Wz X Z Γ C k)(h:C.vc=some vc)(hm:C.vms.contains m=true)(hq:(!aL a&&decide (as.length<=20)&&(apos.endLine==pos.line))=true)(O:SdE X Z Γ a a' na)(A:SdA X Z Γ as as'):SdE X Z Γ (.Call (.Attribute a m apos) as [] pos) (.vcall vc m a' as') false:=bu (λb b=>rfl) λY d q=>by
 obtain⟨x,q1,q⟩:=bS q;obtain⟨hv,q⟩:=iB q;obtain⟨L,q2,q⟩:=bS q;obtain⟨ds,q3,q⟩:=bS q;obtain⟨hl,q⟩:=iB q;obtain⟨hh,os,rfl⟩:=md hv;exact vC (w.vf vc m h hm L q2) (w.vc vc h).1 w.room (O.r q1) (A.r q3) hl q A.s (λe=>ez0 (by rw[A.l q3,e];rfl)) (jK (nt (a2 (a2 hq).1).1) A.s (od0 (a2 (a2 hq).1).2) (a2 hq).2)
def He{g:Mf}(h:qr m=some g)(hq:(!aL a&&!isStar b&&(apos.endLine==pos.line))=true)(O:SdE X Z Γ a a' na)(A:SdE X Z Γ b b' nb):SdE X Z Γ (.Call (.Attribute a m apos) [b] [] pos) (.me g a' (.cons b' .nil)) (frM g):=cg (λc c=>rfl) λY d q=>by
 obtain⟨x,q1,q⟩:=bS q;obtain⟨ds,q2,q⟩:=bS q;obtain⟨y,q3,q4⟩:=bS (show (ev Z Γ .read Y b').bind _=some ds from q2);cases q4;have:=vd (pos:=pos) h q (O.r q1) (A.r q3) (nt (a2 (a2 hq).1).2) (nt (a2 (a2 hq).1).1) (a2 hq).2;exact⟨this.1,λz c=>this.2 (by cases g<;>first|rfl|cases z)⟩
def Eh(w:Wz X Z Γ C k)(hm:m="get")(hq:(!aL a&&!isStar b&&(apos.endLine==pos.line))=true)(O:SdE X Z Γ a a' na)(A:SdE X Z Γ b b' nb):SdE X Z Γ (.Call (.Attribute a m apos) [b] [] pos) (.get a' b') false:=bu (λc c=>rfl) λY d q=>by
 subst hm;obtain⟨x,q1,q⟩:=bS q;obtain⟨y,q2,q⟩:=bS q;cases x with
 |fdc kvs=>
  obtain⟨key,q3,rfl⟩:=mS (show (kB y).map _=some d from q);exact sS w.u1 (O.r q1) (A.v q2) q3 (nt (a2 (a2 hq).1).2) (nt (a2 (a2 hq).1).1) (a2 hq).2
 |_=>cases q
structure SdI(X:Cx)(Z:Fs)(Γ:List (Str×D))(e:Expr)(src:I):Prop where
 w:∀{Y ds},evI Z Γ .walk Y src=some ds->Si X Y true e ds
 r:∀{Y ds},evI Z Γ .read Y src=some ds->Si X Y false e ds
 s:isSet e=false
def Ei(hs:(!isSet e)=true)(A:SdE X Z Γ e a' na):SdI X Z Γ e (.seq a'):=⟨λq=>by
 obtain⟨d,q1,q⟩:=bS q;exact vi q (A.w q1),λq=>by
 obtain⟨d,q1,q⟩:=bS q;exact sA q (A.r q1),nt hs⟩
def Ej(c:CxC X C)(w:Wz X Z Γ C k)(hf:f="range")(hg:ao C f=true)(hs:(!isStar a)=true)(A:SdE X Z Γ a a' na):SdI X Z Γ (.Call (.Name f p) [a] [] pos) (.rng a'):=by
 subst hf;have key:∀wk {Y ds},((ev Z Γ .val Y a').bind λd=>(asI d).bind λn=>if rOk n then some ((List.range n.toNat).map λ(k:Nat)=>D.int k)else .none)=some ds->Si X Y wk (.Call (.Name "range" p) [a] [] pos) ds:=λwk b b q=>by
  obtain⟨d,q1,q⟩:=bS q;obtain⟨i,q2,q⟩:=bS q;obtain⟨hr,rfl⟩:=iS q;obtain rfl:=oF q2;exact sC (bf c w hg (by simp[bltNames])) (A.v q1) hr (nt hs)
 exact⟨key true,key false,rfl⟩
structure SdR(X:Cx)(Z:Fs)(Γ:List (Str×D))(tg e:Expr)(src:I):Prop where
 r:∀{Y ds},evI Z Γ .read Y src=some ds->PI X tg e (tSi X.K Y false ds)
 s:isSet e=false
def SdI.sr{src:I}(h:SdI X Z Γ e src):SdR X Z Γ tg e src:=⟨λq=>h.r q tg,h.s⟩
def El(c:CxC X C)(w:Wz X Z Γ C k)(hf:f="zip")(hg:ao C f=true)(A:SdA X Z Γ [a,b] as'):SdR X Z Γ (.Tuple elts tk tpos) (.Call (.Name f p) [a,b] [] pos) (.zip as'):=⟨λq=>by
 subst hf;obtain⟨ls,q1,q⟩:=bS q
 match ls,q,q1 with
 |[.list x,.list y],q,q1=>
  rw[yP]at q;obtain⟨hl,rfl⟩:=iS q;exact zf (bf c w hg (by simp[bltNames])) (A.r q1) A.s hl
 |[.list x,.list y,.list z],q,q1=>(cases A.l q1),rfl⟩
end
section
structure Ce(C:Cs)(e:Expr) where
 f:E
 n:Bool
 ok:∀{Z Γ k X},CxC X C->Wz X Z Γ C k->SdE X Z Γ e f n
structure Ca(C:Cs)(es:List Expr) where
 f:Es
 ok:∀{Z Γ k X},CxC X C->Wz X Z Γ C k->SdA X Z Γ es f
structure Ci(C:Cs)(e:Expr) where
 f:I
 ok:∀{Z Γ k X},CxC X C->Wz X Z Γ C k->SdI X Z Γ e f
structure Cr(C:Cs)(tg e:Expr) where
 f:I
 ok:∀{Z Γ k X},CxC X C->Wz X Z Γ C k->SdR X Z Γ tg e f
structure Cb(C:Cs)(op:BoolOp)(es:List Expr) where
 f:E
 ok:∀{Z Γ k X},CxC X C->Wz X Z Γ C k->SdB X Z Γ op es f
structure Co(C:Cs)(e:Option Expr) where
 f:Es
 ok:∀{Z Γ k X},CxC X C->Wz X Z Γ C k->SdO X Z Γ e f
structure Ct(C:Cs)(ifs:List Expr) where
 f:Es
 ok:∀{Z Γ k X},CxC X C->Wz X Z Γ C k->∀{Y b},evC Z Γ Y f=some b->Ecs X Y ifs b
structure Cc(C:Cs)(elt tg iter:Expr)(ifs:List Expr)(sc:Scope) where
 f:E
 ok:∀{Z Γ k X},CxC X C->Wz X Z Γ C k->∀{Y d},ev Z Γ .val Y f=some d->∃ds out js,∃(t:Tg)(ifs':Es)(elt':E),d=.list out/\BlkOk X sc js/\PI X tg iter (tSi X.K Y false ds)/\qw X Z Γ sc (au X (aQ tg) js) tg t ifs ifs' elt elt'/\mf t (aQ tg).length=true/\ds.length<=sizeLine/\aB (jI Z Γ (aQ tg).length js t ifs' elt' Y) ds=some out/\∀x,foldedSetIterable iter X.env x=pure x
 fin:∀Z Γ m Y,ev Z Γ m Y f=SI.fin m (ev Z Γ .val Y f)
variable (r:∀C e,Option (Ce C e))(C:Cs)
noncomputable def cEs:(es:List Expr)->Option (Ca C es)
 |[]=>some ⟨.nil,λa a=>DZ⟩
 |e::es=>chk (!isStar e) λh=>(r C e).bind λA=>(cEs es).map λR=>⟨.cons A.f R.f,λc w=>zB h (A.ok c w) (R.ok c w)⟩
noncomputable def cB(op:BoolOp):(es:List Expr)->Option (Cb C op es)
 |[]=>none
 |[a]=>(r C a).map λA=>⟨A.f,λc w=>DV (A.ok c w)⟩
 |a::b::es=>(r C a).bind λA=>(cB op (b::es)).map λB=>match op,B with
  |.And,B=>⟨.and A.f B.f,λc w=>wb (A.ok c w) (B.ok c w)⟩
  |.Or,B=>⟨.or A.f B.f,λc w=>Bj (A.ok c w) (B.ok c w)⟩
noncomputable def cBo(op:BoolOp)(a b:Expr)(es:List Expr)(pos:Pos):Option (Ce C (.BoolOp op (a::b::es) pos)):=(r C a).bind λA=>(cB r C op (b::es)).map λB=>match op,B with
 |.And,B=>⟨.and A.f B.f,false,λc w=>qJ (wb (A.ok c w) (B.ok c w)) ⟨λd=>rfl,λd=>rfl⟩⟩
 |.Or,B=>⟨.or A.f B.f,false,λc w=>qJ (Bj (A.ok c w) (B.ok c w)) ⟨λd=>rfl,λd=>rfl⟩⟩
noncomputable def cO:(e:Option Expr)->Option (Co C e)
 |none=>some ⟨.nil,λa a=>zz⟩
 |some e=>(r C e).map λA=>⟨.cons A.f .nil,λc w=>zA (A.ok c w)⟩
noncomputable def cT:(es:List Expr)->Option (Ct C es)
 |[]=>some ⟨.nil,λa a a a q=>by cases q;exact zh⟩
 |[e]=>(r C e).map λA=>⟨.cons A.f .nil,λc w a a q=>by
  obtain⟨x,q1,q2⟩:=bS q;obtain⟨t,rfl,ht⟩:=(A.ok c w).t q1;cases q2;exact zi ht⟩
 |_=>none
noncomputable def cQ(e:Expr):Option (Ci C e):=chk (!isSet e) λh=>(r C e).map λA=>⟨.seq A.f,λc w=>Ei h (A.ok c w)⟩
noncomputable def cI:(e:Expr)->Option (Ci C e)
 |.Call (.Name f p) [a] [] pos=>if hf:f="range" then chk (ao C f) λhg=>chk (!isStar a) λhs=>(r C a).map λA=>⟨.rng A.f,λc w=>Ej c w hf hg hs (A.ok c w)⟩
  else cQ r C (.Call (.Name f p) [a] [] pos)
 |e=>cQ r C e
noncomputable def cRI(tg e:Expr):Option (Cr C tg e):=(cI r C e).map λA=>⟨A.f,λc w=>(A.ok c w).sr⟩
noncomputable def cR:(tg e:Expr)->Option (Cr C tg e)
 |.Tuple ts j q,.Call (.Name f p) [a,b] [] pos=>if hf:f="zip" then chk (ao C f) λhg=>(cEs r C [a,b]).map λA=>⟨.zip A.f,λc w=>El c w hf hg (A.ok c w)⟩ else cRI r C (.Tuple ts j q) (.Call (.Name f p) [a,b] [] pos)
 |tg,e=>cRI r C tg e
noncomputable def cCo(elt tg iter:Expr)(ifs:List Expr)(sc:Scope):Option (Cc C elt tg iter ifs sc):=(cR r C tg iter).bind λS=>got (mh C sc tg) λq h=>got (cTg q.1 tg) λt ht=>chk (mf t q.2.1) λhl=>(cT r q.1 ifs).bind λT=>(r q.1 elt).map λA=>⟨.comp q.2.1 q.2.2 t S.f T.f A.f,λc w Y d z=>by
 obtain⟨B,nt,js⟩:=q;obtain⟨ds,q1,z⟩:=bS z;obtain⟨hz,z⟩:=iB z;obtain⟨out,q2,rfl⟩:=mS z;have R:=gK c h;have e:=R.nt;subst e;exact⟨ds,out,js,t,T.f,A.f,rfl,R.ok,(S.ok c w).r q1,⟨λA s H fp=>vF (R.cx A s H fp) ht,λA' s H fp Y b z=>T.ok (R.cx A' s H fp) (w.blk R.same A' s H fp) z,λA' s H fp Y d z=>(A.ok (R.cx A' s H fp) (w.blk R.same A' s H fp)).v z⟩,hl,by rw[<-big_eq];exact hz,q2,gP (S.ok c w).s⟩,λa a m Y=>by cases m<;>rfl⟩
def Em{ifs:List Expr}(A:Cc C elt tg iter ifs sc){k:Nat}(c:CxC X C)(w:Wz X Z Γ C k):SdE X Z Γ (.ListComp elt [⟨tg,iter,ifs,0⟩] sc pos) A.f true:=oU (A.fin _ _) λY d q=>by
 obtain⟨ds,out,js,t,ifs',elt',rfl,h1,h2,h3,h4,h5,h6,h7⟩:=A.ok c w q;exact qy h1 c.calm h2 h3 h4 h5 h6 h7
noncomputable def cBi(f:Str)(p:Pos)(a:Expr)(as:List Expr)(pos:Pos)(hg:ao C f=true):Option (Ce C (.Call (.Name f p) (a::as) [] pos)):=got (jz f) λb h=>(cEs r C (a::as)).map λA=>⟨.bi b A.f,frB b,λc w=>Hd c w hg h (A.ok c w)⟩
noncomputable def cSd(f:Str)(p:Pos)(a:Expr)(pos:Pos)(hg:ao C f=true)(hf:f="sorted"):Option (Ce C (.Call (.Name f p) [a] [] pos)):=chk (!isStar a) λhs=>(r C a).map λA=>⟨.srtn A.f,false,λc w=>zE c w hf hg hs (A.ok c w)⟩
noncomputable def Hf(f:Str)(p:Pos)(as:List Expr)(pos:Pos):Option (Ce C (.Call (.Name f p) as [] pos)):=chk (ao C f) λhg=>
 if hf:C.fns.contains f=true then (match as with
  |[]=>none
  |a::as=>(cEs r C (a::as)).map λA=>⟨.call f A.f,false,λc w=>zD c w hf hg (A.ok c w)⟩)
 else if hf:f="isinstance" then (match as with
  |[a,.Name t _]=>chk (ao C t&&!isStar a) λhq=>(r C a).bind λA=>got (oH t) λT h=>some ⟨.isi A.f T,false,λc w=>Ee c w hf hg h hq (A.ok c w)⟩
  |_=>none)
 else match as with
  |[]=>none
  |a::as=>if hf:f="sorted" then (match a,as with
    |.Call (.Name g sp) [b] [] qp,[]=>if h:g="set" then chk (ao C g) λhg'=>(cEs r C [b]).map λA=>⟨.bi .srt A.f,false,λc w=>Ef c w hf hg h hg' (A.ok c w)⟩ else cSd r C f p _ pos hg hf
    |a,[]=>cSd r C f p a pos hg hf
    |_,_=>none)
   else if hf:f="dict" then (match as with
    |[]=>chk (!isStar a) λhs=>(r C a).map λA=>⟨.fdc A.f,false,λc w=>Eg c w hf hg hs (A.ok c w)⟩
    |_=>none)
   else cBi r C f p a as pos hg
noncomputable def cMe(o:Expr)(m:Str)(apos:Pos)(as:List Expr)(pos:Pos):Option (Ce C (.Call (.Attribute o m apos) as [] pos)):=(r C o).bind λO=>
 if hm:C.vms.contains m=true then got C.vc λvc h=>chk (!aL o&&decide (as.length<=20)&&(apos.endLine==pos.line)) λhq=>(cEs r C as).map λA=>⟨.vcall vc m O.f A.f,false,λc w=>we w h hm hq (O.ok c w) (A.ok c w)⟩
 else match as with
  |[a]=>if hm:m="get" then chk (!aL o&&!isStar a&&(apos.endLine==pos.line)) λhq=>(r C a).map λA=>⟨.get O.f A.f,false,λc w=>Eh w hm hq (O.ok c w) (A.ok c w)⟩ else got (qr m) λg h=>chk (!aL o&&!isStar a&&(apos.endLine==pos.line)) λhq=>(r C a).map λA=>⟨.me g O.f (.cons A.f .nil),frM g,λc w=>He h hq (O.ok c w) (A.ok c w)⟩
  |_=>none
noncomputable def JU(a:Expr)(pos:Pos):(i:Expr)->Option (Ce C (.Subscript a i pos))
 |.Slice lo hi none _=>(r C a).bind λA=>(cO r C lo).bind λL=>(cO r C hi).map λH=>⟨.sl A.f L.f H.f,true,λc w=>Hc (A.ok c w) (L.ok c w) (H.ok c w)⟩
 |i=>chk (!isSlice i) λh=>(r C a).bind λA=>(r C i).map λI=>⟨.idx A.f I.f,false,λc w=>DY w h (A.ok c w) (I.ok c w)⟩
noncomputable def Hg:(e:Expr)->Option (Ce C e)
 |.Constant (.int i) _ _=>some ⟨.k (.int i),false,λd d=>zy (λd=>CY) λd=>rfl⟩
 |.Constant (.str x) _ _=>chk (cc x) λh=>some ⟨.k (.str x),false,λd d=>zy (λd=>Da (mz h)) λd=>rfl⟩
 |.Constant (.bool b) _ _=>some ⟨.k (.bool b),false,λd d=>zy (λd=>GP) λd=>rfl⟩
 |.Constant .none _ _=>some ⟨.k .none,false,λd d=>zy (λd=>CZ) λd=>rfl⟩
 |.Name x _=>match h:gi C x with
  |some i=>some ⟨.v i,false,λc d=>DR (cU c h)⟩
  |none=>chk (ao C x) λh=>chk (C.cst.contains x) λd=>some ⟨.g x,false,λc w=>JT c w h⟩
 |.BinOp a op b _=>got (cOp op) λo h=>(r C a).bind λA=>(r C b).map λB=>⟨.op o A.f B.f,true,λc w=>Ha h (A.ok c w) (B.ok c w)⟩
 |.UnaryOp .USub a _=>(r C a).map λA=>⟨.neg A.f,false,λc w=>DS (A.ok c w)⟩
 |.UnaryOp .Not a _=>(r C a).map λA=>⟨.not A.f,false,λc w=>DT (A.ok c w)⟩
 |.Compare a [op] [b] _=>got (kF op) λo h=>chk (!isSet b) λhs=>(r C a).bind λA=>(r C b).map λB=>⟨.cmp o A.f B.f,false,λc w=>DU w h hs (A.ok c w) (B.ok c w)⟩
 |.Compare a [op,op'] [b,e] _=>got (kF op) λo h=>got (kF op') λo' h'=>chk (!isSet e) λhs=>(r C a).bind λA=>(r C b).bind λB=>(r C e).map λE=>⟨.chain o o' A.f B.f E.f,false,λc w=>wa w h h' hs (A.ok c w) (B.ok c w) (E.ok c w)⟩
 |.BoolOp op (a::b::es) pos=>cBo r C op a b es pos
 |.IfExp t a b _=>(r C t).bind λT=>(r C a).bind λA=>(r C b).map λB=>⟨.ite T.f A.f B.f,false,λc w=>DW (T.ok c w) (A.ok c w) (B.ok c w)⟩
 |.Call g as [] pos=>match g with
  |.Name f p=>Hf r C f p as pos
  |.Attribute o m apos=>cMe r C o m apos as pos
  |_=>none
 |.Attribute o x _=>eqS x "objects" λhx=>got C.vc λvc h=>chk (!aL o) λhs=>(r C o).map λO=>⟨.vob vc O.f,false,λc w=>DX w h hs hx (O.ok c w)⟩
 |.Subscript a i pos=>JU r C a pos i
 |.List es _=>(cEs r C es).map λA=>⟨.lst A.f,true,λc w=>Eb (A.ok c w)⟩
 |.Tuple es _ _=>(cEs r C es).map λA=>⟨.tup A.f,false,λc w=>Ec (A.ok c w)⟩
 |.ListComp elt [⟨tg,iter,ifs,0⟩] sc _=>(cCo r C elt tg iter ifs sc).map λA=>⟨A.f,true,λc w=>Em C A c w⟩
 |_=>none
end
noncomputable def cE:Nat->(C:Cs)->(e:Expr)->Option (Ce C e)
 |0=>λa a=>none
 |n+1=>Hg (cE n)
section
variable {k:Nat}{C:Cs}{e t:Expr}{a' b' t':E}{p:Pos}{nt':Bool}{o:Out}
def ck{v}{t}{line}{env}(h:cK v=false):swapsWith v t line env=pure false:=by cases v<;>first|rfl|cases h
def jP{ifs:List Expr}(A:Cc C elt tg iter ifs sc)(S:Sto X x i)(c:CxC X C)(w:Wz X Z Γ C k)(hd:ev Z Γ .val Y A.f=some d):
  E1 X Y (.Assign [.Name x px] (.ListComp elt [⟨tg,iter,ifs,0⟩] sc p) pos) (.nx (Y.set i (.own d))):=by
 obtain⟨ds,out,js,t,ifs',elt',rfl,h1,h2,h3,h4,h5,h6,h7⟩:=A.ok c w hd;cases hsw:(X.env.blockKind==.function&&X.env.kindOf x==some .local&&px.line==p.line&&!(sc.names.any λ(n,k)=>n==x&&(k==.local||k==.cell)))with
 |false=>exact vz S (qy h1 c.calm h2 h3 h4 h5 h6 h7) (congrArg (pure (f:=Sem)) hsw)
 |true=>
  refine zj S h1 c.calm h2 h3 h4 h5 h6 h7 ?_ (congrArg (pure (f:=Sem)) hsw);simp only[be0]at hsw;exact eq_of_beq hsw.1.1.2
def wg(S:Sto X x i)(hc:(!cK a)=true)(A:SdE X Z Γ a a' true)(q:ex Z Γ Y (.new i a')=some o):E1 X Y (.Assign [.Name x px] a pos) o:=by
 obtain⟨d,q1,q⟩:=bS q;obtain⟨ho,rfl⟩:=iS q;exact vz S (A.n rfl q1 ho) (ck (nt hc))
def wj(S:Sto X x i)(hc:(!cK a)=true)(A:SdE X Z Γ a a' na)(q:ex Z Γ Y (.set i a')=some o):E1 X Y (.Assign [.Name x px] a pos) o:=by
 obtain⟨d,q1,rfl⟩:=mS q;exact DG S (A.v q1) (ck (nt hc))
def zF{ifs:List Expr}(c:CxC X C)(w:Wz X Z Γ C k)(S:Sto X x i)(A:Cc C elt tg iter ifs sc)(q:ex Z Γ Y (.new i A.f)=some o):E1 X Y (.Assign [.Name x px] (.ListComp elt [⟨tg,iter,ifs,0⟩] sc p) pos) o:=by
 obtain⟨d,q1,q⟩:=bS q;obtain⟨ho,rfl⟩:=iS q;exact jP A S c w q1
def zG{ifs:List Expr}(c:CxC X C)(w:Wz X Z Γ C k)(S:Sto X x i)(A:Cc C elt tg iter ifs sc)(q:ex Z Γ Y (.set i A.f)=some o):E1 X Y (.Assign [.Name x px] (.ListComp elt [⟨tg,iter,ifs,0⟩] sc p) pos) o:=by
 obtain⟨d,q1,rfl⟩:=mS q;exact vA S (jP A S c w q1)
def zH(w:Wz X Z Γ C k)(V:VarOk X x i)(hs:(!isSlice b)=true)(A:SdE X Z Γ a a' na)(B:SdE X Z Γ b b' nb)(q:ex Z Γ Y (.seti i b' a')=some o):E1 X Y (.Assign [.Subscript (.Name x p) b spos] a pos) o:=by
 obtain⟨d,q1,q⟩:=bS q;obtain⟨y,q2,q⟩:=bS q;unfold Gr at q;split at q
 .obtain⟨j,q3,rfl⟩:=mS q
  exact zk V (A.v q1) (B.v q2) (nt hs) ‹_› q3
 .cases q
def Eo(V:VarOk X x i)(hm:m="append")(hq:((apos.endLine==cpos.line)&&!isStar a)=true)(A:SdE X Z Γ a a' na)(q:ex Z Γ Y (.app i a')=some o):E1 X Y (.Expr (.Call (.Attribute (.Name x p) m apos) [a] [] cpos) pos) o:=by
 subst hm;obtain⟨d,q1,q⟩:=bS q;unfold Gq at q;split at q
 .obtain⟨hz,rfl⟩:=iS q
  exact DI V (A.v q1) (nt (a2 hq).2) ‹_› (by rw[<-big_eq];exact hz) (a2 hq).1
 .cases q
def Eu(V:VarOk X x i)(hm:m="extend")(hq:((apos.endLine==cpos.line)&&!isStar a)=true)(A:SdE X Z Γ a a' na)(q:ex Z Γ Y (.ext i a')=some o):E1 X Y (.Expr (.Call (.Attribute (.Name x p) m apos) [a] [] cpos) pos) o:=by
 subst hm;obtain⟨d,q1,q⟩:=bS q;unfold Gu at q;split at q
 .obtain⟨hz,rfl⟩:=iS q
  exact DJ V (A.r q1) (nt (a2 hq).2) ‹_› (by rw[<-big_eq];exact hz) (a2 hq).1
 .cases q
def zI{p':Pos}(A:SdE X Z Γ (.Call (.Name x p) as [] p') a' na)(q:ex Z Γ Y (.expr a')=some o):E1 X Y (.Expr (.Call (.Name x p) as [] p') pos) o:=by
 obtain⟨d,q1,rfl⟩:=mS q;exact λpins s σ H F I ⟨G0,H0,G,env,R⟩=>cG (A.v q1) rfl pins s σ H F I ⟨G0,H0,G,env,λv G' H' e1 r=>R G' H' _ (env.step e1) e1.gg⟩
def Ey(V:VarOk X x i)(hm:m="update")(hq:((apos.endLine==cpos.line)&&!isStar a)=true)(A:SdE X Z Γ a a' na)(q:ex Z Γ Y (.upd i a')=some o):E1 X Y (.Expr (.Call (.Attribute (.Name x p) m apos) [a] [] cpos) pos) o:=by
 subst hm;obtain⟨d,q1,q⟩:=bS q;unfold Gs at q;split at q
 .obtain⟨hz,rfl⟩:=iS q
  exact DP V (A.v q1) (nt (a2 hq).2) ‹_› hz (a2 hq).1
 .cases q
def Ez{t:Tg}{vp:Pos}(T:Tgj X tg t)(ht:isTup tg=true)(A:SdE X Z Γ (.Subscript a b vp) a' na)(q:ex Z Γ Y (.unp t a')=some o):E1 X Y (.Assign [tg] (.Subscript a b vp) pos) o:=by
 obtain⟨d,q1,q⟩:=bS q;obtain⟨Y',q2,rfl⟩:=mS q;intro pins s σ H F I h0;obtain⟨G0,H0,G,env,R⟩:=h0;have hs:swapsWithSole [tg] (.Subscript a b vp) pos.line X.env=pure false/\swappedStores [tg] (.Subscript a b vp) X.env=pure .none/\(assignEach [tg] X.env).map (·.2)=[assign tg X.env]:=by cases tg<;>first|exact⟨rfl,rfl,rfl⟩|cases ht
 exact nX (A.v q1) (T d) hs.1 hs.2.1 hs.2.2 pins s σ H F I ⟨G0,H0,G,env,λv G' H' e1 r=>⟨G0,H0,G',Y,Y',env.step e1,r,q2,λσ' en=>R G' H' σ' en e1.gg⟩⟩
end
section
structure Cst(C:Cs)(st:Stmt) where
 f:S
 ok:∀{Z Γ k X},CxC X C->Wz X Z Γ C k->PassesOwn (model X.prog X.w) X.A X.env X.xe->∀{Y o},ex Z Γ Y f=some o->E1 X Y st o
structure Css(C:Cs)(sts:List Stmt) where
 f:Ss
 ok:∀{Z Γ k X},CxC X C->Wz X Z Γ C k->PassesOwn (model X.prog X.w) X.A X.env X.xe->∀{Y o},exs Z Γ Y f=some o->Ep X Y sts o
variable (r:∀C e,Option (Ce C e))(C:Cs)
noncomputable def cAs(y:Str)(py:Pos)(pos:Pos):(v:Expr)->Option (Cst C (.Assign [.Name y py] v pos)):=λv=>got (hZ C y) λj h=>match v with
 |.ListComp elt [⟨tg,iter,ifs,0⟩] sc _=>(cCo r C elt tg iter ifs sc).map λA=>if C.mts.contains j then⟨.new j A.f,λc w b b b q=>zF c w (eJ c h) A q⟩ else⟨.set j A.f,λc w b b b q=>zG c w (eJ c h) A q⟩
 |.Call (.Name f p) [a] [] cpos=>if C.mts.contains j then eqS f "dict" λhf=>chk (ao C f) λhg=>chk (!isStar a) λhs=>(r C a).map λA=>⟨.new j (.bi .dict (.cons A.f .nil)),λc w b b b q=>wg (eJ c h) rfl (wc c w hf hg hs (A.ok c w)) q⟩ else (r C (.Call (.Name f p) [a] [] cpos)).map λA=>⟨.set j A.f,λc w b b b q=>wj (eJ c h) rfl (A.ok c w) q⟩
 |v=>chk (!cK v) λhc=>(r C v).bind λA=>if C.mts.contains j then (match A with
   |⟨f,true,ok⟩=>some ⟨.new j f,λc w b b b q=>wg (eJ c h) hc (ok c w) q⟩
   |_=>none)else some ⟨.set j A.f,λc w b b b q=>wj (eJ c h) hc (A.ok c w) q⟩
noncomputable def Bl(rs:∀C sts,Option (Css C sts)):(st:Stmt)->Option (Cst C st)
 |.Assign [.Name y py] v pos=>cAs r C y py pos v
 |.Assign [.Tuple es n p] (.Subscript a b vp) _=>got (cTg C (.Tuple es n p)) λt h=>(r C (.Subscript a b vp)).map λA=>⟨.unp t A.f,λc w g g g q=>Ez (vF c h) rfl (A.ok c w) q⟩
 |.Assign [.Subscript (.Name x _) b _] a _=>chk (!isSlice b) λhs=>got (gi C x) λi h=>(r C a).bind λA=>(r C b).map λB=>⟨.seti i B.f A.f,λc w g g g q=>zH w (cU c h) hs (A.ok c w) (B.ok c w) q⟩
 |.Expr (.Call (.Attribute (.Name x _) m apos) [a] [] cpos) _=>chk ((apos.endLine==cpos.line)&&!isStar a) λhq=>got (gi C x) λi h=>(r C a).bind λA=>if hm:m="extend" then some ⟨.ext i A.f,λc w g g g q=>Eu (cU c h) hm hq (A.ok c w) q⟩ else if hm:m="append" then some ⟨.app i A.f,λc w g g g q=>Eo (cU c h) hm hq (A.ok c w) q⟩ else if hm:m="update" then some ⟨.upd i A.f,λc w g g g q=>Ey (cU c h) hm hq (A.ok c w) q⟩ else none
 |.Expr (.Call (.Name f p) as [] p') _=>(r C (.Call (.Name f p) as [] p')).map λA=>⟨.expr A.f,λc w g g g q=>zI (A.ok c w) q⟩
 |.If t a b _=>(r C t).bind λT=>(rs C a).bind λA=>(rs C b).map λB=>⟨.ifs T.f A.f B.f,λc w po Y o q=>by
  obtain⟨d,q1,q⟩:=bS q;obtain⟨t,rfl,ht⟩:=(T.ok c w).t q1;exact GT ht (λz=>by subst z;exact A.ok c w po q) λz=>by subst z;exact B.ok c w po q⟩
 |.For tg iter body [] _=>got (cTg C tg) λt h=>(cI r C iter).bind λS=>(rs C body).map λB=>⟨.fors t S.f B.f,λc w po Y o q=>by
  obtain⟨ds,q1,q⟩:=bS q;exact DH ((S.ok c w).w q1) (vF c h) (λY' o' q'=>B.ok c w po q') q c.calm po (gP (S.ok c w).s)⟩
 |.Return (some e) _=>(r C e).map λA=>⟨.ret A.f,λc w g g g q=>by
  obtain⟨d,q1,rfl⟩:=mS q;exact DF ((A.ok c w).v q1)⟩
 |.Raise ..=>some ⟨.stuck,λg g g g g q=>nn q⟩
 |_=>none
noncomputable def Hh(s:∀C st,Option (Cst C st)):(sts:List Stmt)->Option (Css C sts)
 |[]=>some ⟨.nil,λa a a a a q=>by cases q;exact DE⟩
 |st::sts=>(s C st).bind λA=>(Hh s sts).map λB=>⟨.cons A.f B.f,λc w po Y o q=>by
  obtain⟨o1,q1,q⟩:=bS q;cases o1 with
  |nx Y1=>exact vx (A.ok c w po q1) (B.ok c w po q)
  |rt d=>cases q;exact vy (A.ok c w po q1)⟩
end
noncomputable def cSs:Nat->(C:Cs)->(sts:List Stmt)->Option (Css C sts)
 |0=>λa a=>none
 |n+1=>λC=>Hh C (λC=>Bl (cE 60) C (cSs n))
section
variable {k:Nat}
def jQ{G:Hp}{dfn:Def}:∀{ds:List D}{vs:List V},Same G H->Das K G H dfn.lent ds vs->ds.length=dfn.lent.length->dfn.slots=N.length->vs.length<=N.length->EnvD K G H G H (start N vs) (bV dfn ds):=by
 intro ds vs s r hl hs hn;have len:=r.length;have rep:∀(i n:Nat) sl,(List.replicate n Sl.no)[i]?=some sl->sl=.no:=λi n sl h=>by
  rw[List.getElem?_replicate]at h;split at h
  .cases h;rfl
  .cases h
 have at':∀(fl:List Bool)(ds:List D)(vs:List V),Das K G H fl ds vs->ds.length=fl.length->∀(i:Nat) sl,((fl.zip ds).map (λp=>if p.1 then Sl.lent p.2 else .dat p.2))[i]?=some sl->
   ∃d v,vs[i]?=some v/\((sl=.lent d/\Dr K G H d v)\/(sl=.dat d/\Dp K G d v)):=by
  intro fl ds vs r
  induction r with
  |nil=>intro hl i sl h;simp at h
  |@cons fl d v ds vs h1 h2 _ ih=>
   intro hl i sl h;cases fl with
   |nil=>simp at hl
   |cons b fl=>
    cases i with
    |zero=>
     simp at h;refine⟨d,v,rfl,?_⟩;cases b with
     |true=>exact .inl ⟨by simpa using h.symm,h2⟩
     |false=>exact .inr ⟨by simpa using h.symm,h1 rfl⟩
    |succ i=>simpa using ih (by simpa using hl) i sl (by simpa using h)
 have zl:((dfn.lent.zip ds).map (λp=>if p.1 then Sl.lent p.2 else Sl.dat p.2)).length=vs.length:=by simp[len,<-hl]
 have slot:∀(i:Nat) sl,(bV dfn ds)[i]?=some sl->sl=.no\/∃d v,(start N vs)[i]?=some (some v)/\((sl=.lent d/\Dr K G H d v)\/(sl=.dat d/\Dp K G d v)):=λi sl h=>by
  unfold bV at h
  by_cases hi:i<vs.length
  .rw[gl0 (by rw[zl];exact hi)]at h
   obtain⟨d,v,e,q⟩:=at' dfn.lent ds vs r hl i sl h;refine .inr ⟨d,v,?_,q⟩;unfold start;rw[gl0 (by simpa using hi),gm0,e];rfl
  .rw[List.getElem?_append_right (by rw[zl];omega)]at h
   exact .inl (rep _ _ _ h)
 refine⟨.refl s,?_,λi d h=>?_,λi d h=>?_,λi d h=>?_,λi j d e p h=>?_⟩
 .unfold start bV
  simp[hs,len,<-hl]
 .rcases slot i _ h with z|⟨d',v,e,z|z⟩
  .cases z
  .cases z.1
  .cases z.1;exact⟨v,e,z.2⟩
 .rcases slot i _ h with z|⟨d',v,e,z|z⟩
  .cases z
  .cases z.1;exact⟨v,e,z.2⟩
  .cases z.1
 .rcases slot i _ h with z|⟨d',v,e,z|z⟩
  .cases z
  .cases z.1
  .cases z.1
 .rcases slot i _ h with z|⟨d',v,e,z|z⟩
  .cases z
  .cases z.1
  .cases z.1
noncomputable def sV(fns cst:List Str)(lent:List Bool)(st:Stmt)(vc:Option Nat:=none)(vms:List Str:=[]):Option Def:=
 (br st).bind λ(ps,body,sc)=>(cSs 60 (uI fns cst ps body sc vc vms) body).map λb=>{lent,slots:=(ps++ar sc ps).length,body:=b.f}
structure EA(P:Program)(w:World)(K:Fg)(mg:Str->Option Value)(base:Heap)(Z:Fs)(Γ:List (Str×D))(fns:List Str)(vc:Option Nat)(vms:List Str)(k:Nat):Prop where
 blt:∀x∈bltNames,mg x=Option.none
 fns:∀x,fns.contains x=true->∀L,Z x=some L->FnZ P w K mg base k x L
 gl:∀x d,Γ.lookup x=some d->∃u v,mg x=some u/\RelV v u/\∀G,Dp K G d v
 vcl:∀c,vc=some c->Cls K c/\NoAttr K c "objects"
 vf:∀c m,vc=some c->vms.contains m=true->∀L,Z (aq m)=some L->FnZv P w K mg base k c m L
noncomputable def EB(Z:Fs)(Γ:List (Str×D))(d:Def):Fn:=⟨d.lent,λds=>if ds.length=d.lent.length then (exs Z Γ (bV d ds) d.body).bind Out.val else .none⟩
set_option tactic.hygienic true in
def Bm{ps:List Str}{dfn:Def}{vc:Option Nat}(F:Fun K x qual st f fd)(S:aP (ps++ar (defScope st) ps) ps (defScope st))(hp:br st=some (ps,defBody st,defScope st))(hd:sV fns cst lent st vc vms=some dfn)(hlen:lent.length=ps.length)
  (M:EA P w K mg base Z Γ fns vc vms k):FnOk P w K mg base CX0 (k+1) f fd ps (Pur K (EB Z Γ dfn)):=by
 unfold sV at hd;rw[hp,bs0]at hd;obtain⟨b,hb,rfl⟩:=mx0 (show (cSs 60 (uI fns cst ps (defBody st) (defScope st) vc vms) (defBody st)).map _=some dfn from hd);refine F.ok S (λvs H Q E h=>?_) (λcdv A outer s H vs Q E hr h=>?_)
 .obtain⟨ds,d,G,h1,_,r,_⟩:=h
  have h1:(if ds.length=lent.length then _ else .none)=some d:=h1;split at h1
  .rename_i hl;rw[<-r.length,hl,hlen]
  .cases h1
 .obtain⟨ds,d,G,h1,sm,r,kq⟩:=h
  have h1:(if ds.length=lent.length then (exs Z Γ (bV ⟨lent,(ps++ar (defScope st) ps).length,b.f⟩ ds) b.f).bind Out.val else .none)=some d:=h1;split at h1
  .rename_i hl
   obtain⟨o,h2,h3⟩:=bx0 h1;have hpre:=congrArg List.length S.pre;rw[List.length_take]at hpre;have C:CxC (df CX0 P w K mg base (ps++ar (defScope st) ps) qual (defScope st) f cdv A outer s H E).nox (uI fns cst ps (defBody st) (defScope st) vc vms):=by
    refine⟨rfl,S.nd,λy kd e ek=>?_,λy kd e ek=>⟨?_,.inl rfl⟩,λy e=>e,λy e=>e,rfl,S.kind⟩
    .rcases ek with rfl|rfl|rfl
     .exact .inl e
     .exact .inr (.inl e)
     .exact .inr (.inr e)
    .rcases ek with rfl|rfl
     .exact .inl e
     .exact .inr e
   have W:Wz (df CX0 P w K mg base (ps++ar (defScope st) ps) qual (defScope st) f cdv A outer s H E).nox Z Γ (uI fns cst ps (defBody st) (defScope st) vc vms) k:=⟨M.blt,M.fns,M.gl,hr,M.vcl,M.vf⟩;have body:=b.ok C W PassesOwn.never h2;refine⟨_,body,G,H,G,jQ sm r hl rfl (by rw[<-r.length,hl,hlen];omega),?_⟩;cases o with
   |nx Y'=>
    cases h3;exact λG' H' σ' env a=>kq .non G' H' env.ext .none
   |rt d'=>
    cases h3;exact λv G' H' dv e=>kq v G' H' e dv
  .cases h1
structure sW(K:Fg)(mg:Str->Option Value)(fns cst:List Str)(vc:Option Nat)(vms:List Str)(x:Str)(d:Def):Prop where
 ex:∃st f fd ps,Fun K x x st f fd/\mg x=some (.ref f)/\Binds K fd ps []/\aP (ps++ar (defScope st) ps) ps (defScope st)/\br st=some (ps,defBody st,defScope st)/\sV fns cst d.lent st vc vms=some d/\d.lent.length=ps.length
structure sX(K:Fg)(fns cst:List Str)(c:Nat)(vms:List Str)(m:Str)(d:Def):Prop where
 nm:m≠"objects"/\m≠"numbers"
 ex:∃st f fd ps,Fun K m (aq m) st f fd/\kr K c m f/\Binds K fd ps []/\aP (ps++ar (defScope st) ps) ps (defScope st)/\br st=some (ps,defBody st,defScope st)/\sV fns cst d.lent st (some c) vms=some d/\d.lent.length=ps.length
structure Base(K:Fg)(mg:Str->Option Value)(Γ:List (Str×D))(vc:Option Nat):Prop where
 blt:∀x∈bltNames,mg x=Option.none
 gl:∀x d,Γ.lookup x=some d->∃u v,mg x=some u/\RelV v u/\∀G,Dp K G d v
 vcl:∀c,vc=some c->Cls K c/\NoAttr K c "objects"
theorem dN{prog:List (Str×Def)}{vc:Option Nat}(B:Base K mg Γ vc)(defs:∀x d,fns.contains x=true->prog.lookup x=some d->sW K mg fns cst vc vms x d)
  (mets:∀c m d,vc=some c->vms.contains m=true->prog.lookup (aq m)=some d->sX K fns cst c vms m d):
  ∀k x L,den prog Γ k x=some L->(fns.contains x=true->FnZ P w K mg base k x L)/\∀c m,x=aq m->vc=some c->vms.contains m=true->FnZv P w K mg base k c m L
 |0,x,L,h=>by cases h
 |k+1,x,L,h=>by
  obtain⟨d,h1,rfl⟩:=mx0 (show (prog.lookup x).map _=some L from h);have M:EA P w K mg base (den prog Γ k) Γ fns vc vms k:=⟨B.blt,λy hy L' q=>(dN B defs mets k y L' q).1 hy,B.gl,B.vcl,λc m hc hm L' q=>(dN B defs mets k _ L' q).2 c m rfl hc hm⟩;refine⟨λhx=>?_,λc m e hc hm=>?_⟩
  .obtain⟨st,f,fd,ps,F,hm,hb,S,hp,hd,hl⟩:=(defs x d hx h1).ex
   exact⟨⟨f,fd,ps,hm,F.kp,hb,Bm F S hp hd hl M⟩⟩
  .subst e
   have Z:=mets c m d hc hm h1;obtain⟨st,f,fd,ps,F,hm,hb,S,hp,hd,hl⟩:=Z.ex;exact⟨Z.nm,⟨f,fd,ps,hm,hb,Bm F S hp (by rw[hc];exact hd) hl M⟩⟩
end
noncomputable def wm(K:Fg):Sp:=λvs H Q b=>∃(a:Addr)(ns:List Int),vs=[.ref a]/\SqL K H a (ns.map V.int)/\ns.length<=63/\∀H',Q (.bl true) H'
mutual
inductive IsK (h:Heap):Nat->D->Value->Prop
 |int {n:Nat} (i:Int) (t:Tok):IsK h n (.int i) (.int i t)
 |str {n:Nat} (x:Str) (t:Tok):PyData.strOk x=true->IsK h n (.str x) (.str x t)
 |tup {n:Nat}{a:Addr}{o:Obj}{items:List Value}{m:Nat}{ds:List D}:h.get? a=some o->o.cls=.type "tuple"->o.data=.seq items.toArray m->IsKs h n ds items->IsK h (n+1) (.tuple ds) (.ref a)
inductive IsKs (h:Heap):Nat->List D->List Value->Prop
 |nil {n:Nat}:IsKs h n [] []
 |cons {n:Nat}{d:D}{v:Value}{ds:List D}{vs:List Value}:IsK h n d v->IsKs h n ds vs->IsKs h n (d::ds) (v::vs)
end
def isk{P:Nat->D->Value->Prop}{R:Nat->List D->List Value->Prop}(hi:∀n i t,P n (.int i) (.int i t))(hs:∀n x t,PyData.strOk x=true->P n (.str x) (.str x t))
  (ht:∀{n a o items m ds},h.get? a=some o->o.cls=.type "tuple"->o.data=.seq (List.toArray items) m->R n ds items->P (n+1) (.tuple ds) (.ref a)) (h0:∀n,R n [] []) (hc:∀{n d v ds vs},P n d v->R n ds vs->R n (d::ds) (v::vs)):
  (∀{n d v},IsK h n d v->P n d v)/\∀{n ds vs},IsKs h n ds vs->R n ds vs:=
 ⟨λx=>IsK.rec (motive_1:=λn d v e=>P n d v) (motive_2:=λn ds vs e=>R n ds vs) (λi t=>hi _ i t) (λx t o=>hs _ x t o) (λa b c e r=>ht a b c r) (h0 _) (λe e a b=>hc a b) x,
  λx=>IsKs.rec (motive_1:=λn d v e=>P n d v) (motive_2:=λn ds vs e=>R n ds vs) (λi t=>hi _ i t) (λx t o=>hs _ x t o) (λa b c e r=>ht a b c r) (h0 _) (λe e a b=>hc a b) x⟩
def IsK.inj{n m}{d e}{v:Value}(a:IsK h n d v)(b:IsK h m e v):d=e:=(isk (P:=λf d v=>∀{m e},IsK h m e v->d=e) (R:=λf ds vs=>∀{m es},IsKs h m es vs->ds=es) (λn i t m e b=>by cases b;rfl) (λn x t f m e b=>by cases b;rfl) (λh1 f h3 r m e b=>by
   cases b with
   |tup k1 _ k3 k4=>
    rw[h1]at k1;cases k1;rw[h3]at k3;have e:=k3;simp only[Data.seq.injEq]at e;have e:=congrArg Array.toList e.1;simp only[List.toList_toArray]at e;subst e;rw[r k4]) (λn m es b=>by cases b;rfl) λa r m es b=>by
   cases b with
   |cons c d=>rw[a c,r d]).1 a b
def IsK.keeps{h h'}(k:∀a o items m,h.get? a=some o->o.data=.seq items m->h'.get? a=some o){v:Value}(x:IsK h n d v):IsK h' n d v:=((isk (λb i t=>.int i t) (λb x t o=>.str x t o) (λh1 h2 h3 r=>.tup (k _ _ _ _ h1 h3) h2 h3 r) (λb=>.nil) λa r=>.cons a r)).1 x
def IsK.reads{v:Value}(x:IsK h n d v):∃as,Reads h v (PySem.W.kqdP (toW d)) as:=
 (isk (P:=λa d v=>∃as,Reads h v (PySem.W.kqdP (toW d)) as) (R:=λa ds vs=>∃as,ReadsAll h vs (PySem.W.kqdPs (eu ds)) as) (λa i t=>⟨_,Reads.int i t⟩) (λa x t a=>⟨_,Reads.str x t⟩) (λh1 h2 h3 ⟨as,w⟩=>⟨_,Reads.tuple h1 h2 h3 (by simpa using w)⟩) (λa=>⟨_,.nil⟩) λ⟨_,w⟩ ⟨_,u⟩=>⟨_,.cons w u⟩).1 x
def IsK.ok{v:Value}(x:IsK h n d v):okS n d=true:=
 (isk (P:=λn d b=>okS n d=true) (R:=λn ds b=>ds.all (okS n)=true) (λn i t=>by cases n<;>rfl) (λn x t b=>by cases n<;>rfl) (λb b b r=>r) (λb=>rfl) λa r=>by rw[List.all_cons,a,r];rfl).1 x
mutual
noncomputable def mP(w:World):D->Int
 |.int i=>hashInt i
 |.str x=>hashStr w x
 |.tuple ds=>reduceHash (Builtin.Tuple.tupleHashOf (bX w ds))
 |_=>0
noncomputable def bX(w:World):List D->List Int
 |[]=>[]
 |d::r=>mP w d::bX w r
end
mutual
noncomputable def mQ:D->Nat
 |.tuple ds=>kU ds+1
 |_=>1
noncomputable def kU:List D->Nat
 |[]=>0
 |d::r=>mQ d+kU r
end
def IsK.kok{v:Value}(x:IsK h n d v):PySem.W.kqdOk n (toW d)=true:=
 (isk (P:=λn d b=>PySem.W.kqdOk n (toW d)=true) (R:=λn ds b=>(eu ds).all (PySem.W.kqdOk n)=true) (λn i t=>by cases n<;>rfl) (λn x t o=>by cases n<;>exact o) (λb b b r=>r) (λb=>rfl) λ{n d _ ds _} a r=>by
  show (PySem.W.kqdOk _ (toW _)&&(eu _).all (PySem.W.kqdOk _))=true;rw[a,r];rfl).1 x
section
variable {E:Value->Shared->Prop}
def sY{A:Around}(one:∀{d:D}{v:Value}{s:Shared}{Q:Int->Shared->Prop},s.heap=h->IsK h n d v->Q (mP w d) {s with toks:=s.toks+mQ d}->wpAny (model prog w) A (pyHash v) Q E s):
  ∀(vs:List Value)(ds:List D)(acc:Array Int)(s:Shared)(Q:Array Int->Shared->Prop),s.heap=h->IsKs h n ds vs->Q (acc++(bX w ds).toArray) {s with toks:=s.toks+kU ds}->
   wpAny (model prog w) A (forIn vs acc λx acc=>do let i ←pyHash x;pure (ForInStep.yield (acc.push i))) Q E s:=by
 intro vs
 induction vs with
 |nil=>
  intro ds acc s Q e r q;cases r;rw[List.forIn_nil];refine wq0 ?_;have:acc++(bX w []).toArray=acc:=by simp[bX]
  rw[this]at q;exact q
 |cons v vs ih=>
  intro ds acc s Q e r q;cases r with
  |@cons _ d _ ds _ a b=>
   rw[List.forIn_cons];refine wb0 (wb0 (one e a (wq0 ?_)));refine ih ds _ _ Q e b ?_;have e1:acc.push (mP w d)++(bX w ds).toArray=acc++(bX w (d::ds)).toArray:=by simp[bX]
   rw[e1];show Q _ {s with toks:=s.toks+mQ d+kU ds};rw[Nat.add_assoc];exact q
def wo:∀{n:Nat}{A:Around}{d:D}{v:Value}{s:Shared}{Q:Int->Shared->Prop},A.units+n<cLine+1->IsK s.heap n d v->Q (mP w d) {s with toks:=s.toks+mQ d}->wpAny (model prog w) A (pyHash v) Q E s:=by
 intro n
 induction n with
 |zero=>
  intro A d v s Q hu hk q;cases hk with
  |int i t=>exact wpAny_pyHash_int q
  |str x t _=>exact wpAny_pyHash_str q
 |succ n ih=>
  intro A d v s Q hu hk q;cases hk with
  |int i t=>exact wpAny_pyHash_int q
  |str x t _=>exact wpAny_pyHash_str q
  |@tup _ a o items m ds h1 h2 h3 h4=>
   have hT:s.TypeIs (.ref a) "tuple":=⟨o,h1,h2⟩;show wpAny (model prog w) A (pyHashByItsType (.ref a)) Q E s;refine PySem.W.pyHash_slot hT F.slot_tuple_hash F.entry_tuple_hash (F.args_tuple_hash_1 _) (by decide) (.inr (by omega)) ?_;unfold Builtin.«tuple.__hash__»;refine wb0 (wpAny_of_eq (a:=(.ref a,[])) rfl ?_);dsimp only;unfold Builtin.Tuple.tupleItemsOf;refine wb0 (wb0 (wpAny_seqItems h1 h3 (wq0 ?_)));refine wb0 ?_;rw[<-Array.forIn_toList];refine sY (A:=A.in1) (n:=n) (h:=s.heap) (λe a q=>ih (by show A.units+1+n<cLine+1;omega) (by rw[e];exact a) q) items ds #[] s _ rfl h4 ?_
   unfold retInt
   wp_walk
   refine⟨_,_,rfl,?_⟩;have e:(#[]++(bX w ds).toArray:Array Int).toList=bX w ds:=by simp
   rw[e];exact q
def wq{A:Around}{e:D}{a b:Addr}{Q:Bool->Shared->Prop}(hu:A.units+64<cLine)(h1:IsK s.heap 8 d (.ref a))(h2:IsK s.heap 8 e (.ref b))(q:Q (decide (d=e)) s):wpAny (model prog w) A (eqBool (.ref a) (.ref b)) Q E s:=by
 unfold eqBool;refine wh0 ?_
 by_cases c:a=b
 .subst c
  rw[if_pos (by simp)];refine wb0 (wpAny_rule (wq0 ?_));rw[IsK.inj h1 h2]at q
  simpa using q
 .rw[if_neg (by simpa using c)]
  obtain⟨as,ra⟩:=h1.reads;obtain⟨bs,rb⟩:=h2.reads;have ev:PyData.eqv (PySem.W.kqdP (toW d)) (PySem.W.kqdP (toW e))=decide (d=e):=by
   have z:=PySem.W.kqd_eqv 8 (toW d) (toW e) 8 h1.kok h2.kok
   by_cases c':d=e
   .rw[dt0 c'];exact z.mpr (by rw[c'])
   .rw[df0 c']
    exact bf0 λy=>c' (kH 8 8 d e h1.ok h2.ok (z.mp y))
  have key:=eq_dataH (prog:=prog) (w:=w) (A:=A) (E:=E) (Q:=λv s'=>wpAny (model prog w) A (truthOfDropped v) Q E s') ra rb (bD h1.kok) (bD h2.kok) hu (by
   rw[ev];exact wpAny_truthy_bool q)
  exact wb0 key
def zJ:∀{n m:Nat}{A:Around}{d:D}{v:Value}{s:Shared}{Q:Bool->Shared->Prop},n<=m->IsK s.heap n d v->Q true s->wpAny (model prog w) A (eqIsQuiet m v) Q E s:=by
 intro n
 induction n with
 |zero=>
  intro m A d v s Q _ hk q;cases hk with
  |int i t=>cases m<;>exact wq0 q
  |str x t _=>cases m<;>exact wq0 q
 |succ n ih=>
  intro m A d v s Q hm hk q;cases hk with
  |int i t=>cases m<;>exact wq0 q
  |str x t _=>cases m<;>exact wq0 q
  |@tup _ a o items k ds h1 h2 h3 h4=>
   obtain⟨m,rfl⟩:∃m',m=m'+1:=⟨m-1,by omega⟩;have hT:s.TypeIs (.ref a) "tuple":=⟨o,h1,h2⟩;unfold eqIsQuiet;refine wb0 (wpAny_specialOf hT F.slot_tuple_eq.lookup ?_);refine wb0 (wpAny_isInstance hT PySem.isSubtype_tuple_tuple ?_);rw[if_neg (by decide)];show wpAny (model prog w) A (seqItems? (.ref a) >>= _) Q E s;refine wb0 (wpAny_seqItems h1 h3 ?_);show wpAny (model prog w) A (forIn items.toArray ((none:Option Bool),()) _ >>= _) Q E s;rw[<-Array.forIn_toList];have all:∀(vs:List Value)(es:List D)(Q':Option Bool×Unit->Shared->Prop),IsKs s.heap n es vs->Q' (none,()) s->
     wpAny (model prog w) A (forIn vs ((none:Option Bool),()) λy __s=>do
      let __do_lift ←eqIsQuiet m y
      if (!__do_lift)=true then pure (ForInStep.done (some false,()))else pure (ForInStep.yield (none,()))) Q' E s:=by
    intro vs
    induction vs with
    |nil=>intro es Q' _ q';rw[List.forIn_nil];exact wq0 q'
    |cons v vs ih2=>
     intro es Q' hk q';cases hk with
     |cons a b=>
      rw[List.forIn_cons];refine wb0 (wb0 (ih (by omega) a ?_));rw[if_neg (by decide)];exact wq0 (ih2 _ Q' b q')
   exact wb0 (all items ds _ h4 (wq0 q))
noncomputable def mR(prog:Program)(w:World):HeapKind prog w D where
 is:=λh d a=>IsK h 8 d (.ref a)
 hash:=mP w
 draws:=mQ
 room:=λA=>A.units+64<cLine
 inj:=λh1 h2=>IsK.inj h1 h2
 keeps:=λ{h h' k a d o es ep} hk ho hd sb=>hk.keeps λb u items m e c=>(sb.2 b (λz=>by
  subst z;rw[ho]at e;cases e;rw[hd]at c;cases c)).trans e
 pyHash:=λ{A E s k a Q} hu hk q=>wo (by omega) hk q
 eqBool:=λ{A E s x y a b Q} hu h1 h2 q=>wq hu h1 h2 q
 quiet:=λ{A E s k a Q} hk q=>zJ (nr0 _) hk q
end
noncomputable abbrev Vd:=List (Addr×Addr×Addr)
noncomputable def parts(d:Vd):List Addr:=lamTs.map (·.1)++d.flatMap λp=>[p.2.1,p.2.2]
noncomputable def er(H:Hp)(ps:List Addr):Hp:=λb=>if b∈ps then .none else H b
def iJ{b:Addr}(h:b∈ps):er H ps b=.none:=if_pos h
def ax{b:Addr}(h:b∉ps):er H ps b=H b:=if_neg h
def aH{b:Addr}{o}(h:er H ps b=some o):b∉ps/\H b=some o:=by
 by_cases q:b∈ps
 .rw[iJ q]at h;cases h
 .rw[ax q]at h;exact⟨q,h⟩
def az :Same (er H ps) H:=λb o h=>(aH h).2
def fP{d:Vd}{h:Nat}{a n:Addr}(e:d[h]?=some (a,l,n)):l∈parts d/\n∈parts d:=
 ⟨mr0 _ (List.mem_flatMap.mpr ⟨_,mg0 e,by simp⟩),mr0 _ (List.mem_flatMap.mpr ⟨_,mg0 e,by simp⟩)⟩
def of_parts{d:Vd}{b:Addr}(e:b∈parts d):(∃p∈lamTs,b=p.1)\/∃(h:Nat)(a l n:Addr),d[h]?=some (a,l,n)/\(b=l\/b=n):=by
 rcases ma0 e with e|e
 .obtain⟨p,h1,h2⟩:=mm0 e
  exact .inl ⟨p,h1,h2.symm⟩
 obtain⟨⟨a,l,n⟩,h1,h2⟩:=List.mem_flatMap.mp e;obtain⟨h,hh⟩:=List.getElem?_of_mem h1;exact .inr ⟨h,a,l,n,hh,by simpa using h2⟩
inductive eE:Nat->List (D×Addr×Value)->List Addr->List D->Prop
 |nil {k:Nat}:eE k [] [] []
 |cons {k:Nat}{t:Tok}{d:D}{a:Addr}{xs:List (D×Addr×Value)}{as:List Addr}{ds:List D}:eE (k+1) xs as ds->eE k ((d,a,.int k t)::xs) (a::as) (d::ds)
noncomputable def bx(P:Program)(w:World)(n:Addr)(as:List Addr)(objs:List D):Heap->Prop:=λh=>
 (n==sysModules)=false/\∃xs:List (D×Addr×Value),eE 0 xs as objs/\objs.length<=1000000/\
  ∃o es ep,h.get? n=some o/\o.ExactDict/\o.data=.dict es ep/\es.toList=xs.map (entryOfKey (mR P w))/\(xs.map (·.1)).Nodup
noncomputable def okK:Nat->D->Bool
 |_,.int _=>true
 |_,.str _=>true
 |n+1,.tuple ds=>ds.all (okK n)
 |_,_=>false
noncomputable def gG:D->Bool
 |.tuple _=>true
 |_=>false
structure VS(P:Program)(w:World)(K:Fg)(C:Addr)(G H:Hp)(d:Vd)(U:List (List D)):Prop where
 len:d.length=U.length
 nd:(parts d).Nodup
 at':∀(h:Nat) a l n,d[h]?=some (a,l,n)->∃dx objs,U[h]?=some objs/\G a=some (.ins C dx (vfs l n h))/\H dx=some (.own a)/\
  ∃as:List Addr,H l=some (.lst (as.map .ref))/\Dps K G objs (as.map .ref)/\H n=some (.ext (bx P w n as objs))/\∀d∈objs,okK 8 d=true/\gG d=true
 uni:∀a C' dx fs,H a=some (.ins C' dx fs)->∃(h:Nat)(l n:Addr),d[h]?=some (a,l,n)
 out:∀b∈parts d,G b=Option.none
 tb:∀p∈lamTs,∃ps,H p.1=some (.tbl p.2 ps)
def VS.part{C:Addr}{G:Hp}{d:Vd}{U:List (List D)}(v:VS P w K C G H d U){b:Addr}(h:b∈parts d):∃o,H b=some o:=by
 rcases of_parts h with⟨p,hp,rfl⟩|⟨i,a,l,n,e,q⟩
 .obtain⟨ps,e⟩:=v.tb p hp
  exact⟨_,e⟩
 obtain⟨dx,objs,_,_,_,as,h1,_,h2,_⟩:=v.at' i a l n e;rcases q with rfl|rfl
 .exact⟨_,h1⟩
 .exact⟨_,h2⟩
def VS.step{C:Addr}{G:Hp}{d:Vd}{U:List (List D)}(v:VS P w K C G H d U)(e:Ext G H G' H'):VS P w K C G' H' d U:=
 ⟨v.len,v.nd,λh a l n q=>by
  obtain⟨dx,objs,h1,h2,h3,as,h4,h5,h6,h7⟩:=v.at' h a l n q;exact⟨dx,objs,h1,e.gg _ _ h2,e.hh _ _ h3,as,e.hh _ _ h4,h5.mono e.gg,e.hh _ _ h6,h7⟩,
  λa C' dx fs q=>v.uni a C' dx fs (e.ni a C' dx fs q),λb hb=>let ⟨o,ho⟩:=v.part hb;e.nw b o (v.out b hb) ho,λp hp=>let ⟨ps,q⟩:=v.tb p hp;⟨ps,e.hh _ _ q⟩⟩
theorem Ext.er{G H G' H'}(e:Ext G H G' H')(hp:∀b∈ps,G b=.none/\∃o,H b=some o)(s:Same G (er H ps)):Ext G (er H ps) G' (er H' ps):=
 ⟨(have s:=e.hh;λb o h=>by
   obtain⟨h1,h2⟩:=aH h;rw[ax h1];exact s b o h2),e.gg,λb o q=>by
  have nb:b∉ps:=λhb=>by
   obtain⟨h1,o',h2⟩:=hp b hb;rw[e.nw b o' h1 h2]at q;cases q
  rw[ax nb];exact e.gh b o q,λb o h1 h2=>e.nw b o h1 (aH h2).2,λb C dx fs q=>by
  obtain⟨h1,h2⟩:=aH q;rw[ax h1];exact e.ni b C dx fs h2⟩
def Dr.monoH{G H H'}{d}{v}(s:Same H H'):Dr K G H d v->Dr K G H' d v
 |.of h=>.of h
 |.list h r=>.list (s _ _ h) r
 |.dict h r=>.dict (s _ _ h) r
 |.vlt h1 h2 r=>.vlt (s _ _ h1) (s _ _ h2) r
def zK{n l' n':Addr}{h h':Nat}(e:vfs l n h=vfs l' n' h'):l=l'/\n=n'/\h=h':=by
 unfold vfs at e;injection e with e1 e2
 injection e2 with e2 e3
 injection e3 with e3 _
 injection e1 with _ e1
 injection e2 with _ e2
 injection e3 with _ e3
 injection e1 with e1
 injection e2 with e2
 injection e3 with e3
 exact⟨e1,e2,by exact Int.ofNat.inj e3⟩
theorem VS.hdl{P:Program}{w:World}{K:Fg}{C:Addr}{G H:Hp}{d:Vd}{U:List (List D)}(v:VS P w K C G H d U)(s:Same G H){h:Nat}{u:V}(q:Dp K G (.hdl h) u):
  ∃a l n dx objs,u=.ref a/\d[h]?=some (a,l,n)/\U[h]?=some objs/\G a=some (.ins C dx (vfs l n h))/\H dx=some (.own a)/\
   ∃as:List Addr,H l=some (.lst (as.map .ref))/\Dps K G objs (as.map .ref)/\H n=some (.ext (bx P w n as objs))/\∀d∈objs,okK 8 d=true/\gG d=true:=by
 cases q with
 |@hdl a C' dx' l' n' _ q=>
  obtain⟨h2,l,n,e⟩:=v.uni a C' dx' _ (s _ _ q);obtain⟨dx,objs,h1,h3,r⟩:=v.at' h2 a l n e;rw[q]at h3;injection h3 with h3
  injection h3 with e1 e2 e3
  obtain⟨rfl,rfl,rfl⟩:=zK e3;subst e1 e2;exact⟨a,l',n',dx',objs,rfl,e,h1,q,r⟩
structure EnvM(P:Program)(w:World)(K:Fg)(C:Addr)(G0 H0:Hp)(d0:Vd)(G H:Hp)(d:Vd)(σ:St)(Y:List Sl)(U:List (List D)):Prop where
 bas:∃Gb Hb,Same G0 Gb/\(Same (er H0 (parts d0)) Hb/\∀b o,Hb b=some o->notIns o=true->er H0 (parts d0) b=some o)/\EnvD K Gb Hb G (er H (parts d)) σ Y
 nw:∀b o,G0 b=Option.none->H0 b=some o->G b=Option.none
 pre:d0 <+: d
 vs:VS P w K C G H d U
noncomputable def vE(C:Addr)(U:List (List D)):Sl->Sl
 |.own d=>.lent d
 |.dat (.hdl h)=>match U[h]? with|some objs=>.lent (.vlt C h objs)|.none=>.no
 |s=>s
section
variable {C:Addr}{G:Hp}{d0 d:Vd}{U:List (List D)}
theorem EnvM.sub(E:EnvM P w K C G0 H0 d0 G H d σ Y U):Same G H:=by
 obtain⟨_,_,_,_,e⟩:=E.bas;exact e.sub.trans az
def EnvM.sub'(E:EnvM P w K C G0 H0 d0 G H d σ Y U):Same G (er H (parts d)):=by
 obtain⟨_,_,_,_,e⟩:=E.bas;exact e.sub
theorem EnvM.gg(E:EnvM P w K C G0 H0 d0 G H d σ Y U):Same G0 G:=by
 obtain⟨_,_,s,_,e⟩:=E.bas;exact s.trans e.ext.gg
theorem EnvM.hh(E:EnvM P w K C G0 H0 d0 G H d σ Y U):Same (er H0 (parts d0)) (er H (parts d)):=by
 obtain⟨_,_,_,s,e⟩:=E.bas;exact s.1.trans e.ext.hh
set_option tactic.hygienic true in
def EnvM.view(E:EnvM P w K C G0 H0 d0 G H d σ Y U):EnvD K G H G H σ (Y.map (vE C U)):=by
 obtain⟨Gb,Hb,s1,s2,e⟩:=E.bas;have at':∀(i:Nat) sl,(Y.map (vE C U))[i]?=some sl->∃s0,Y[i]?=some s0/\vE C U s0=sl:=λi sl h=>by
  rw[gm0]at h;cases q:Y[i]? with
  |none=>rw[q]at h;cases h
  |some s0=>rw[q]at h;cases h;exact⟨s0,rfl,rfl⟩
 have no:∀(i:Nat) d',(Y.map (vE C U))[i]?≠some (.own d'):=λi d' h=>by
  obtain⟨s0,_,h2⟩:=at' i _ h;cases s0 with
  |dat d2=>cases d2<;>first|(cases h2;done)|(rename_i hh;simp only[vE]at h2;split at h2<;>cases h2)
  |_=>cases h2
 refine⟨.refl E.sub,by simp[e.len],λi d' h=>?_,λi d' h=>?_,λi d' h=>absurd h (no i d'),λi j d' c c h=>absurd h (no i d')⟩
 .obtain⟨s0,h1,h2⟩:=at' i _ h
  cases s0 with
  |dat d2=>
   have:d2=d':=by
    cases d2<;>first|(cases h2;rfl)|(rename_i hh;simp only[vE]at h2;split at h2<;>cases h2)
   subst this;exact e.dat i d2 h1
  |_=>cases h2
 .obtain⟨s0,h1,h2⟩:=at' i _ h
  cases s0 with
  |no=>cases h2
  |lent d2=>
   cases h2;obtain⟨v,a,b⟩:=e.lent i d' h1;exact⟨v,a,(b.ext e.ext).monoH az⟩
  |own d2=>
   cases h2;obtain⟨p,a,_,_,b⟩:=e.own i d' h1;exact⟨_,a,b.dr.monoH az⟩
  |dat d2=>
   cases d2 with
   |hdl hh=>
    simp only[vE]at h2;split at h2
    .rename_i objs ho
     cases h2;obtain⟨v,a,b⟩:=e.dat i _ h1;obtain⟨a',l,n,dx,objs',rfl,_,q1,q2,_,as,q3,q4,_⟩:=E.vs.hdl E.sub b;rw[ho]at q1;cases q1;exact⟨_,a,.vlt (E.sub _ _ q2) q3 q4⟩
    .cases h2
   |_=>cases h2
def EnvD.wide{Gb H2:Hp}(e:EnvD K Gb Hb G H σ Y)(s:Same H H2)(ni:∀b C dx fs,H2 b=some (.ins C dx fs)->H b=some (.ins C dx fs)):EnvD K Gb Hb G H2 σ Y:=
 ⟨⟨e.ext.hh.trans s,e.ext.gg,e.ext.gh.trans s,e.ext.nw,λb C dx fs q=>e.ext.ni b C dx fs (ni b C dx fs q)⟩,e.len,e.dat,e.lent,λi d h=>by
  obtain⟨p,a,b,c,g⟩:=e.own i d h;refine⟨p,a,b,c,?_⟩;rcases g with⟨ds,vs,h1,h2,h3⟩|⟨ds,vs,h1,h2,h3⟩
  .exact .inl ⟨ds,vs,h1,s _ _ h2,h3⟩
  .exact .inr ⟨ds,vs,h1,s _ _ h2,h3⟩,e.apart⟩
def VS.notPart(v:VS P w K C G H d U){b C' dx:Addr}{fs:List (Str×V)}(h:H b=some (.ins C' dx fs)):b∉parts d:=λhb=>by
 rcases of_parts hb with⟨p,hp,rfl⟩|⟨i,a,l,n,e,q⟩
 .obtain⟨ps,e⟩:=v.tb p hp
  rw[h]at e;cases e
 obtain⟨dx',objs,_,_,_,as,h1,_,h2,_⟩:=v.at' i a l n e;rcases q with rfl|rfl
 .rw[h]at h1;cases h1
 .rw[h]at h2;cases h2
def EnvM.full(E:EnvM P w K C G0 H0 d0 G H d σ Y U):∃Gb Hb,EnvD K Gb Hb G H σ Y/\∀G' H' d' σ' Y' U',EnvM P w K C G0 H0 d0 G' H' d' σ' Y' U'->Same G G'->Same Hb H':=by
 obtain⟨Gb,Hb,s1,s2,e⟩:=E.bas;refine⟨Gb,Hb,e.wide az λb C' dx fs h=>by rw[ax (E.vs.notPart h)];exact h,λG' H' d' σ' Y' U' E' g b o h=>?_⟩;cases q:notIns o with
 |true=>exact az b o (E'.hh b o (s2.2 b o h q))
 |false=>
  cases o with
  |ins C' dx fs=>
   have hH:=az b _ (e.ext.hh b _ h);obtain⟨i,l,n,hd⟩:=E.vs.uni b C' dx fs hH;obtain⟨dx',objs,_,hG,_⟩:=E.vs.at' i b l n hd;rw[E.sub _ _ hG]at hH;cases hH;exact E'.sub _ _ (g _ _ hG)
  |_=>cases q
end
def Fl(X:Cx)(ea C:Addr)(H:Hp)(s:Shared):Prop:=
 ∃B:Heap,HOk X.prog X.w H B/\(∀b o,X.s₀.heap.get? b=some o->X.H₀ b=none->b∉X.fs->b∉X.ex->B.get? b=some o)/\(∀b o,X.s₀.heap.get? b=some o->b∉frs X.stack->b∉X.ex->∃o',B.get? b=some o')/\(∀p∈X.pn,B.get? p.1=some p.2)/\
  ((∃vs,Heap.MadeExcOf B s.heap ea (.ref C) vs/\B.FunFrames X.base X.stack)\/∃a0,Heap.FlyingW B X.stack ea (.ref C) a0 s.heap)
noncomputable def CX1(P:Program)(w:World):CXT:=λouter H s E e s'=>∃(ea C:Addr)(B:Heap)(a0:Value)(H':Hp),e=.ref ea/\s'.os=s.os/\AllBare s'.gens/\Heap.FlyingW B outer ea (.ref C) a0 s'.heap/\HOk P w H' B/\
 (∀b o,s.heap.get? b=some o->H b=none->b∉frs outer->B.get? b=some o)/\(∀b o,s.heap.get? b=some o->b∉frs outer->∃o',B.get? b=some o')/\Un (frs outer) [] H H' s.heap s'.heap/\E (.ref C) none H'
def pC{s':Shared}{E:XK}{e:Value}(I:Inv X pins σ H s)(h:CX1 X.prog X.w X.stack H s E e s'):
  ∃ea C H',e=.ref ea/\Inv X pins σ H' s'/\Fl X ea C H' s'/\E (.ref C) none H':=by
 obtain⟨ea,C,B,a0,H',rfl,os,bare,fl,ok,kb,th,un,q⟩:=h;have nst:∀b o,X.s₀.heap.get? b=some o->b∉X.fs->b∉frs X.stack:=λb o e nf z=>by
  rcases mq0 (I.stkSub b z)with r|r
  .subst r
   exact absurd (nl0 (hs0 e) I.ok.above) (li0 _)
  .exact nf r
 refine⟨ea,C,H',rfl,I.call' os un (ok.kept fl.1) bare (λa z=>nomatch z),⟨B,ok,λb o e n nf nx=>?_,λb o e nf nx=>?_,λp hp=>?_,.inr ⟨a0,fl⟩⟩,q⟩
 .exact kb b o (I.base.keep b o e n nf nx) (I.base.free b o e n nx) (nst b o e nf)
 .obtain⟨o',h1⟩:=I.base.there b o e nx
  exact th b o' h1 nf
 .obtain⟨h1,h2,h3,h4,_⟩:=I.pin p (List.mem_append_left _ hp)
  refine kb p.1 p.2 h1 h2 λz=>?_
  rcases mq0 (I.stkSub p.1 z)with r|r
  .exact h3 r
  .exact h4 r
def sZ{K:fg0}{cd:Value}{A:Around}{outer:List Env}{E:XK}
     {s':Shared}{C:Addr} (I:Inv (df (CX1 P w) P w K mg base N qual scope f cd A outer s H E) pins σ H' s') (fl:Fl (df (CX1 P w) P w K mg base N qual scope f cd A outer s H E) ea C H' s')
  (h:E (.ref C) none H'):(df (CX1 P w) P w K mg base N qual scope f cd A outer s H E).xe (.ref ea) s':=by
 obtain⟨B,ok,kb,th,pn,r⟩:=fl;have nL:∀b o,s.heap.get? b=some o->b≠s.heap.objs.size:=λb o e z=>by subst z;exact absurd (hs0 e) (li0 _)
 have stk:∀b,b∈frs (envOfC qual scope s.heap.objs.size f cd::outer)->b=s.heap.objs.size\/b∈frs outer:=λb hb=>by
  obtain⟨env,he,hf⟩:=List.mem_filterMap.mp hb;rcases mq0 he with rfl|he
  .exact .inl (Option.some.inj hf).symm
  .exact .inr (List.mem_filterMap.mpr ⟨env,he,hf⟩)
 have fin:∀(B':Heap)(a0:Value)(h':Heap),Heap.FlyingW B' outer ea (.ref C) a0 h'->s'.heap.UpToSlots h'->HOk P w H' B'->(∀b o,B.get? b=some o->b∉frs (envOfC qual scope s.heap.objs.size f cd::outer)->B'.get? b=some o)->
   CX1 P w outer H s E (.ref ea) {s' with heap:=h'}:=by
  intro B' a0 h' fl' up ok' bb;have out:∀b o,s.heap.get? b=some o->b∉frs outer->b∉frs (envOfC qual scope s.heap.objs.size f cd::outer):=λb o e nf z=>(stk b z).elim (nL b o e) nf
  have k1:∀b o,s.heap.get? b=some o->H b=none->b∉frs outer->B'.get? b=some o:=λb o e n nf=>bb b o (kb b o e n nf (λz=>nomatch z)) (out b o e nf)
  have k2:∀b o,s.heap.get? b=some o->b∉frs outer->∃o',B'.get? b=some o':=λb o e nf=>by
   obtain⟨o',h1⟩:=th b o e (out b o e nf) (λz=>nomatch z);exact⟨o',bb b o' h1 (out b o e nf)⟩
  have sl:∀b o,s.heap.get? b=some o->H b=none->b∈frs outer->∃sl,h'.get? b=some {o with slots:=sl}:=λb o e n hb=>by
   obtain⟨sl,h1⟩:=I.base.slot b o e n hb (λz=>nomatch z);obtain⟨_,o2,h2,h3⟩:=I.ok.funs.mem hb;have h2:s.heap.get? b=some o2:=h2;rw[e]at h2;cases h2;obtain⟨sl',h4⟩:=up b _ h1 h3;exact⟨sl',h4⟩
  refine⟨ea,C,B',a0,H',rfl,I.os,I.bare,fl',ok',k1,k2,⟨λb o e n nf a=>fl'.1 b o (k1 b o e n nf),λb o e n hb a=>sl b o e n hb,λb o e n a=>I.base.free b o e n (λz=>nomatch z),λb o e a=>?_,I.base.tups,I.base.frzs,I.base.tbls⟩,h⟩
  by_cases hb:b∈frs outer
  .have n:H b=none:=I.ok.frf b hb
   obtain⟨sl',q⟩:=sl b o e n hb;exact⟨_,q⟩
  .obtain⟨o',q⟩:=k2 b o e hb
   exact⟨o',fl'.1 b o' q⟩
 have hfr:(A.deeper (envOfC qual scope s.heap.objs.size f cd)).frames=some (envOfC qual scope s.heap.objs.size f cd::outer):=I.ok.frames;show wpAny _ _ (leaving _ (.ref ea)) _ _ s';rcases r with⟨vs,m,ff⟩|⟨a0,fl⟩
 .have hin:∀env∈(envOfC qual scope s.heap.objs.size f cd::outer),∀b,env.frame=some b->b∈frs (envOfC qual scope s.heap.objs.size f cd::outer):=λenv he b hb=>List.mem_filterMap.mpr ⟨env,he,hb⟩
  refine wpAny_leaves_madeW (base:=PySem.W.hideAll B (frs (envOfC qual scope s.heap.objs.size f cd::outer))) hfr rfl (λb o q=>PySem.W.of_hideAll _ q) (PySem.W.funFrames_hide ff hin) m λh' t x1 x2 x3 x4=>?_
  refine fin _ _ h' x1 x4 (λb o e=>?_) λb o e n=>PySem.W.hideAll_get _ e n
  have nf:∀c u,H' c=some u->c∉frs (envOfC qual scope s.heap.objs.size f cd::outer):=λc u e z=>by
   have:=I.stkFree c z;rw[e]at this;cases this
  refine (ok b o e).stay (λc u hc q=>PySem.W.hideAll_get _ q ?_) (λa q=>q) λa a a q=>q
  rcases hc with rfl|hc
  .exact nf _ _ e
  .exact nf _ _ hc
 .refine wpAny_leaves_onW hfr rfl fl λh' x1 x2=>?_
  exact fin B a0 h' x1 x2 ok λb o e a=>e
structure MExt(G H:Hp)(d:Vd)(G' H':Hp)(d':Vd):Prop where
 gg:Same G G'
 hh:Same (er H (parts d)) (er H' (parts d'))
 gh:Same G' (er H' (parts d'))
 nw:∀b o,G b=Option.none->H b=some o->G' b=Option.none
 pre:d <+: d'
 st:∀b o,H b=some o->∃o',H' b=some o'
def fQ{d d':Vd}(h:d <+: d'){b:Addr}(hb:b∈parts d):b∈parts d':=by
 obtain⟨t,ht⟩:=h;subst ht;unfold parts at hb ⊢;rw[List.flatMap_append,<-List.append_assoc];exact List.mem_append_left _ hb
section
variable {C:Addr}{G H1 G2 H2:Hp}{d0 d d' d1 d2:Vd}{U U':List (List D)}
theorem MExt.refl(s:Same G (er H (parts d))):MExt G H d G H d:=⟨Same.refl _,Same.refl _,s,λa a h a=>h,List.prefix_refl _,λa o h=>⟨o,h⟩⟩
theorem MExt.trans(a:MExt G H d G1 H1 d1)(b:MExt G1 H1 d1 G2 H2 d2):MExt G H d G2 H2 d2:=
 ⟨a.gg.trans b.gg,a.hh.trans b.hh,b.gh,λc o h1 h2=>let ⟨o',h3⟩:=a.st c o h2;b.nw c o' (a.nw c o h1 h2) h3,a.pre.trans b.pre,λc o h=>let ⟨o',h3⟩:=a.st c o h;b.st c o' h3⟩
def VS.mext(v:VS P w K C G H d U)(s:Same G (er H (parts d)))(e:Ext G H G' H'):MExt G H d G' H' d:=by
 have x:=e.er (λb hb=>⟨v.out b hb,v.part hb⟩) s;exact⟨e.gg,x.hh,x.gh,e.nw,List.prefix_refl _,λb o h=>⟨o,e.hh b o h⟩⟩
noncomputable def cW:Option HO->Bool
 |some (.ins ..)=>true
 |_=>false
def EnvM.start(E:EnvM P w K C G0 H0 d0 G H d σ Y U):MExt G0 H0 d0 G H d:=by
 refine⟨E.gg,E.hh,E.sub',E.nw,E.pre,λb o h=>?_⟩
 by_cases hb:b∈parts d0
 .exact E.vs.part (fQ E.pre hb)
 .exact⟨o,az b o (E.hh b o (by rw[ax hb];exact h))⟩
set_option tactic.hygienic true in
def EnvM.go(E:EnvM P w K C G0 H0 d0 G H d σ Y U)(m:MExt G H d G' H' d')(v:VS P w K C G' H' d' U'):EnvM P w K C G0 H0 d0 G' H' d' σ Y U':=by
 have st0:=E.start;obtain⟨Gb,Hb,s1,s2,e⟩:=E.bas
 let Hb':Hp:=λb=>match Hb b with
  |some o=>some o
  |.none=>if cW (er H' (parts d') b)then er H' (parts d') b else .none
 let Gb':Hp:=λb=>match Gb b with
  |some o=>some o
  |.none=>match Hb b with
   |some _=>.none
   |.none=>if cW (er H' (parts d') b)then G' b else .none
 have hb1:Same Hb Hb':=λb o h=>by show (match Hb b with|some o=>some o|.none=>_)=_;rw[h]
 have gb1:Same Gb Gb':=λb o h=>by show (match Gb b with|some o=>some o|.none=>_)=_;rw[h]
 have hbn:∀b o,Hb b=.none->er H (parts d) b=some o->notIns o=true->Hb' b=.none:=λb o h1 h2 h3=>by
  show (match Hb b with|some o=>some o|.none=>_)=_;rw[h1];have:=m.hh b o h2;show (if cW (er H' (parts d') b)then _ else _)=_;rw[this];cases o<;>first|rfl|cases h3
 have hS:Same Hb' (er H' (parts d')):=λb o h=>by
  have h:(match Hb b with|some o=>some o|.none=>if cW (er H' (parts d') b)then er H' (parts d') b else .none)=some o:=h;cases q:Hb b with
  |some o'=>rw[q]at h;cases h;exact m.hh b _ (e.ext.hh b _ q)
  |none=>
   rw[q]at h;dsimp only at h;split at h
   .exact h
   .cases h
 have ow:∀p,G p=.none->(∃o,er H (parts d) p=some o)->G' p=.none:=λp h1 ⟨o,h2⟩=>m.nw p o h1 (aH h2).2
 refine⟨⟨Gb',Hb',s1.trans gb1,⟨s2.1.trans hb1,λb o h n=>?_⟩,⟨⟨hS,λb o h=>?_,m.gh,λb o h1 h2=>?_,λb C' dx fs h=>?_⟩,e.len,λi d h=>?_,λi d h=>?_,λi d h=>?_,e.apart⟩⟩,λb o h1 h2=>?_,E.pre.trans m.pre,v⟩
 .have h:(match Hb b with|some o=>some o|.none=>if cW (er H' (parts d') b)then er H' (parts d') b else .none)=some o:=h
  cases q:Hb b with
  |some o'=>rw[q]at h;cases h;exact s2.2 b _ q n
  |none=>
   rw[q]at h;dsimp only at h;split at h
   .rename_i c;rw[h]at c;cases o<;>first|(cases c;done)|(cases n;done)
   .cases h
 .have h:(match Gb b with|some o=>some o|.none=>match Hb b with|some _=>.none|.none=>if cW (er H' (parts d') b)then G' b else .none)=some o:=h
  cases q:Gb b with
  |some o'=>rw[q]at h;cases h;exact m.gg b _ (e.ext.gg b _ q)
  |none=>
   rw[q]at h;cases q2:Hb b with
   |some _=>rw[q2]at h;cases h
   |none=>
    rw[q2]at h;dsimp only at h;split at h
    .exact h
    .cases h
 .have h1:(match Gb b with|some o=>some o|.none=>match Hb b with|some _=>.none|.none=>if cW (er H' (parts d') b)then G' b else .none)=.none:=h1
  have h2:(match Hb b with|some o=>some o|.none=>if cW (er H' (parts d') b)then er H' (parts d') b else .none)=some o:=h2;cases q:Gb b with
  |some o'=>rw[q]at h1;cases h1
  |none=>
   rw[q]at h1;cases q2:Hb b with
   |some o'=>
    have:=e.ext.hh b o' q2;exact ow b (e.ext.nw b o' q q2) ⟨_,this⟩
   |none=>
    rw[q2]at h1 h2;dsimp only at h1 h2;split at h1
    .exact h1
    .rename_i c;rw[if_neg c]at h2;cases h2
 .show (match Hb b with|some o=>some o|.none=>if cW (er H' (parts d') b)then er H' (parts d') b else .none)=_
  cases q:Hb b with
  |some o'=>
   have:=m.hh b o' (e.ext.hh b o' q);rw[h]at this;exact this.symm
  |none=>
   dsimp only;rw[h];rfl
 .obtain⟨u,a,b⟩:=e.dat i d h
  exact⟨u,a,b.mono m.gg⟩
 .obtain⟨u,a,b⟩:=e.lent i d h
  exact⟨u,a,(b.monoH hb1).monoG gb1⟩
 .obtain⟨p,a,c,f,g⟩:=e.own i d h
  obtain⟨o,ho⟩:=g.some;have ni:notIns o=true:=by
   rcases g with⟨_,_,_,z,_⟩|⟨_,_,_,z,_⟩<;>(rw[ho]at z;cases z;rfl)
  refine⟨p,a,ow p c ⟨o,ho⟩,hbn p o f ho ni,?_⟩;rcases g with⟨ds,vs,z1,z2,z3⟩|⟨ds,vs,z1,z2,z3⟩
  .exact .inl ⟨ds,vs,z1,m.hh _ _ z2,z3.mono m.gg⟩
  .exact .inr ⟨ds,vs,z1,m.hh _ _ z2,z3.mono m.gg⟩
 .obtain⟨o',h3⟩:=st0.st b o h2
  exact m.nw b o' (E.nw b o h1 h2) h3
theorem EnvM.set{i}{e}{v}(E:EnvM P w K C G0 H0 d0 G H d σ Y U)(hi:i<σ.length)(h:Dp K G e v):EnvM P w K C G0 H0 d0 G H d (σ.set i (some v)) (Y.set i (.dat e)) U:=by
 obtain⟨Gb,Hb,s1,s2,en⟩:=E.bas;exact⟨⟨Gb,Hb,s1,s2,en.set hi h⟩,E.nw,E.pre,E.vs⟩
theorem EnvM.freeze(E:EnvM P w K C G0 H0 d0 G H d σ Y U):∃G',EnvM P w K C G0 H0 d0 G' H d σ (Y.map SI.freeze) U/\Same G G':=by
 obtain⟨Gb,Hb,s1,s2,en⟩:=E.bas;obtain⟨G1,en1,s⟩:=en.freeze;have out:∀b∈parts d,G1 b=.none:=λb hb=>by
  cases q:G1 b with
  |none=>rfl
  |some o=>have:=en1.sub b o q;rw[iJ hb]at this;cases this
 have nw:∀b o,G0 b=.none->H0 b=some o->G1 b=.none:=λb o h1 h2=>by
  by_cases hb:b∈parts d0
  .exact out b (fQ E.pre hb)
  .have hbb:Hb b=some o:=s2.1 b o (by rw[ax hb];exact h2)
   refine en1.ext.nw b o ?_ hbb;cases q:Gb b with
   |none=>rfl
   |some o'=>have:=en.ext.gg b o' q;rw[E.nw b o h1 h2]at this;cases this
 refine⟨G1,⟨⟨Gb,Hb,s1,s2,en1⟩,nw,E.pre,⟨E.vs.len,E.vs.nd,λh a l n q=>?_,E.vs.uni,out,E.vs.tb⟩⟩,s⟩
 .obtain⟨dx,objs,h1,h2,h3,as,h4,h5,h6,h7⟩:=E.vs.at' h a l n q
  exact⟨dx,objs,h1,s _ _ h2,h3,as,h4,h5.mono s,h6,h7⟩
end
inductive R where
 |ok (d:D)
 |exc (C:Nat)
inductive Rs where
 |ok (ds:List D)
 |exc (C:Nat)
def kW(X:Cx)(c:Addr)(σ:St)(H:Hp):Prop:=∀pins ea s,Inv X pins σ H s->Fl X ea c H s->X.xe (.ref ea) s
noncomputable def PostM(X:Cx)(C:Addr)(G H:Hp)(d:Vd)(U:List (List D))(σ:St)(Q:VK):R->Prop
 |.ok e=>∀v G' H' d',MExt G H d G' H' d'->VS X.prog X.w X.K C G' H' d' U->Dp X.K G' e v->Q v H'
 |.exc c=>∀G' H' d',MExt G H d G' H' d'->VS X.prog X.w X.K C G' H' d' U->kW X c σ H'
noncomputable def Hi(X:Cx)(C:Addr)(G H:Hp)(d:Vd)(U:List (List D))(σ:St)(fl:List Bool)(Q:List V->Hp->Prop):Rs->Prop
 |.ok es=>∀vs G' H' d',MExt G H d G' H' d'->VS X.prog X.w X.K C G' H' d' U->Das X.K G' (er H' (parts d')) fl es vs->Q vs H'
 |.exc c=>∀G' H' d',MExt G H d G' H' d'->VS X.prog X.w X.K C G' H' d' U->kW X c σ H'
noncomputable def tM(X:Cx)(C:Addr)(Y:List Sl)(U:List (List D))(r:R)(U':List (List D)):TE:=λσ H Q=>∃G0 H0 d0 G d,EnvM X.prog X.w X.K C G0 H0 d0 G H d σ Y U/\PostM X C G H d U' σ Q r
noncomputable def tMa(X:Cx)(C:Addr)(Y:List Sl)(U:List (List D))(fl:List Bool)(r:Rs)(U':List (List D)):TA:=λσ H Q=>∃G0 H0 d0 G d,EnvM X.prog X.w X.K C G0 H0 d0 G H d σ Y U/\Hi X C G H d U' σ fl Q r
def EvM(X:Cx)(C:Addr)(Y:List Sl)(U:List (List D))(e:Expr)(r:R)(U':List (List D)):Prop:=PE X e (tM X C Y U r U')
def EaM(X:Cx)(C:Addr)(Y:List Sl)(U:List (List D))(fl:List Bool)(es:List Expr)(r:Rs)(U':List (List D)):Prop:=PA X es (tMa X C Y U fl r U')
structure FnM where
 lent:List Bool
 run:List (List D)->List D->Option (List (List D)×R)
noncomputable def Mur(P:Program)(w:World)(K:Fg)(C:Addr)(L:FnM):Sp:=λvs H Q E=>∃ds U U' r G d,L.run U ds=some (U',r)/\Same G (er H (parts d))/\Das K G (er H (parts d)) L.lent ds vs/\VS P w K C G H d U/\
 match r with
 |.ok e=>∀v G' H' d',MExt G H d G' H' d'->VS P w K C G' H' d' U'->Dp K G' e v->Q v H'
 |.exc c=>∀G' H' d',MExt G H d G' H' d'->VS P w K C G' H' d' U'->E (.ref c) none H'
section
variable {C:Addr}{U U1 U2 U':List (List D)}{e:Expr}{c k:Nat}{r:R}{rs:Rs}{p:Pos}
def PostM.go{G H G' H'}{d d'}{σ}{Q}(h:PostM X C G H d U σ Q r)(m:MExt G H d G' H' d'):PostM X C G' H' d' U σ Q r:=by
 cases r with
 |ok e=>exact λv G2 H2 d2 m2 v2 q=>h v G2 H2 d2 (m.trans m2) v2 q
 |exc c=>exact λG2 H2 d2 m2 v2=>h G2 H2 d2 (m.trans m2) v2
def wu(h:Ev X (Y.map (vE C U)) e d):EvM X C Y U e (.ok d) U:=λpins s σ H Q I ⟨G0,H0,d0,G,dd,E,k⟩=>
 h pins s σ H Q I ⟨G,H,G,E.view,λv G' H' e1 r=>k v G' H' dd (E.vs.mext E.sub' e1) (E.vs.step e1) r⟩
def qK(i:Nat)(h:Y[i]?=some (.dat d))(hN:X.N[i]?=some x)(hv:Vis X.env.scope x)(hd:(x==("__debug__":Str))=false)(hcd:(x==("__classdict__":Str))=false):EvM X C Y U (.Name x pos) (.ok d) U:=
 λpins s σ H Q I ⟨G0,H0,d0,G,dd,E,k⟩=>by
  obtain⟨Gb,Hb,_,_,en⟩:=E.bas;obtain⟨v,a,b⟩:=en.dat i d h;exact cF hN hv hd hcd pins s σ H Q I ⟨v,a,k v G H dd (.refl E.sub') E.vs b⟩
def zL:EaM X C Y U fl [] (.ok []) U:=by rintro pos pins s σ H Q I ⟨G0,H0,d0,G,dd,E,k⟩;exact aT pos pins s σ H Q I (k [] G H dd (.refl E.sub') E.vs .nil)
def wx(he:EvM X C Y U e (.ok d) U1)(hr:EaM X C Y U1 fl.tail es rs U2)(hs:isStar e=false):EaM X C Y U fl (e::es) (match rs with|.ok ds=>.ok (d::ds)|.exc c=>.exc c) U2:=
 λpos pins s σ H Q I ⟨G0,H0,d0,G,dd,E,k⟩=>ay he hr (af hs) pos pins s σ H Q I ⟨G0,H0,d0,G,dd,E,λv G1 H1 d1 m1 v1 r1=>by
  refine⟨G0,H0,d0,G1,d1,E.go m1 v1,?_⟩;cases rs with
  |ok ds=>exact λvs G2 H2 d2 m2 v2 r2=>k _ G2 H2 d2 (m1.trans m2) v2 (.cons (λa=>r1.mono m2.gg) (.of (r1.mono m2.gg)) r2)
  |exc c=>exact λG2 H2 d2 m2 v2=>k G2 H2 d2 (m1.trans m2) v2⟩
def tf(he:EvM X C Y U e (.exc c) U1)(hs:isStar e=false):EaM X C Y U fl (e::es) (.exc c) U1:=
 λpos pins s σ H Q I ⟨G0,H0,d0,G,dd,E,k⟩=>ay (t:=λa a a=>False) he (λa a a a a a a z=>z.elim) (af hs) pos pins s σ H Q I ⟨G0,H0,d0,G,dd,E,k⟩
def tm{sl:Sl}(i:Nat)(h:Y[i]?=some sl)(hd':aJ .read sl=some d)(hf:fl.headD false=true)(hN:X.N[i]?=some x)(hv:Vis X.env.scope x)(hd:(x==("__debug__":Str))=false)(hcd:(x==("__classdict__":Str))=false)
  (hr:EaM X C Y U fl.tail es rs U2):EaM X C Y U fl (.Name x p::es) (match rs with|.ok ds=>.ok (d::ds)|.exc c=>.exc c) U2:=
 λpos pins s σ H Q I ⟨G0,H0,d0,G,dd,E,k⟩=>by
  obtain⟨Gb,Hb,_,_,en⟩:=E.bas;obtain⟨v,a,b⟩:=en.read h hd';refine ay (cF hN hv hd hcd) hr rfl pos pins s σ H Q I ⟨v,a,G0,H0,d0,G,dd,E,?_⟩;cases rs with
  |ok ds=>exact λvs G2 H2 d2 m2 v2 r2=>k _ G2 H2 d2 m2 v2 (.cons (λc=>by rw[hf]at c;cases c) ((b.monoH m2.hh).monoG m2.gg) r2)
  |exc c=>exact λG2 H2 d2 m2 v2=>k G2 H2 d2 m2 v2
def qL{Q:VK}{ps:List Str}{sp:Sp}(F:FnOk X.prog X.w X.K X.mg X.base (CX1 X.prog X.w) k f fd ps sp)(hr:Room k X.A)(hb:Binds X.K fd ps [])
  (I:Inv X pins σ H s) (r:Vals vs us) (h:sp vs H Q (λc a H'=>∃c',c=.ref c'/\kW X c' σ H')):wpAny (model X.prog X.w) X.A (call (.ref f) us) (EP X pins σ Q) X.xe s:=by
 have hl:us.length=ps.length:=by rw[<-r.length];exact F.len _ _ _ _ h
 refine wpAny_call (codeAny_mono (F.run X.A X.stack s H ⟨us,[]⟩ us vs Q _ hr I.env0 (by have:=hb s us I.kIn (by simpa using hl);simpa using this) r h) λr s' hq=>?_);cases r with
 |error e=>
  have hq:CX1 X.prog X.w X.stack H s (λc a H'=>∃c',c=.ref c'/\kW X c' σ H') e s':=hq;obtain⟨ea,c,H',rfl,I',fl,c',ec,ac⟩:=pC I hq;cases ec;exact ac pins ea s' I' fl
 |ok fl=>
  cases fl with
  |ret u=>exact I.after hq
  |next=>exact False.elim hq
  |brk=>exact False.elim hq
  |cont=>exact False.elim hq
noncomputable def EC(run:List (List D)->List D->Option (List (List D)×R)):Rs->List (List D)->Option (List (List D)×R)
 |.ok ds,U=>run U ds
 |.exc c,U=>some (U,.exc c)
def Bn{L}{G H}{d}{σ}{Q}{vs}(h:L.run U1 ds=some (U2,r))(s:Same G (er H (parts d)))(das:Das X.K G (er H (parts d)) L.lent ds vs)(v:VS X.prog X.w X.K C G H d U1)(q:PostM X C G H d U2 σ Q r):
  Mur X.prog X.w X.K C L vs H Q (λc a H'=>∃c',c=.ref c'/\kW X c' σ H'):=by
 refine⟨ds,U1,U2,r,G,d,h,s,das,v,?_⟩;cases r with
 |ok e=>exact q
 |exc c=>exact λG' H' d' m v'=>⟨c,rfl,q G' H' d' m v'⟩
structure zM(P:Program)(w:World)(K:Fg)(mg:Str->Option Value)(base:Heap)(C:Addr)(k:Nat)(x:Str)(L:FnM):Prop where
 ex:∃f fd ps,mg x=some (.ref f)/\PySem.W.keepIn K (.ref f)=true/\Binds K fd ps []/\FnOk P w K mg base (CX1 P w) k f fd ps (Mur P w K C L)
def wy{L:FnM}(F:zM X.prog X.w X.K X.mg X.base C k x L)(hr:Room k X.A)(hg:Gl X x)(hd:(x==("__debug__":Str))=false)(ha:EaM X C Y U L.lent (e::es) rs U1)(h:EC L.run rs U1=some (U2,r))(hs:aG (e::es)):
  EvM X C Y U (.Call (.Name x p) (e::es) [] pos) r U2:=by
 obtain⟨f,fd,ps,hm,hk,hb,F⟩:=F.ex;intro pins s σ H Q I h0;obtain⟨G0,H0,d0,G,dd,E,kq⟩:=h0;refine wpAny_Call_Name_kw (ld_glob I hg hm ?_ hd);cases rs with
 |exc c=>
  cases h;refine PySem.W.callWith_K (h₀:=X.base) I.ok.mod.kin hk (thn (ha pos pins s σ H (λa a=>False) I ⟨G0,H0,d0,G,dd,E,kq⟩) λus s1 ⟨vs,H1,I1,r1,q⟩=>q.elim) (af (hs e ms0)) (aD λy hy=>hs y (mc0 _ hy))
 |ok ds=>
  refine PySem.W.callWith_K (h₀:=X.base) I.ok.mod.kin hk (thn (ha pos pins s σ H (λvs H1=>Mur X.prog X.w X.K C L vs H1 Q (λc a H'=>∃c',c=.ref c'/\kW X c' σ H')) I ⟨G0,H0,d0,G,dd,E,λvs G1 H1 d1 m1 v1 r1=>?_⟩) λus s1 ⟨vs,H1,I1,r1,q⟩=>⟨I1.kIn,qL F hr hb I1 r1 q⟩) (af (hs e ms0)) (aD λy hy=>hs y (mc0 _ hy));exact Bn h m1.gh r1 v1 (kq.go m1)
structure FnVm(P:Program)(w:World)(K:Fg)(mg:Str->Option Value)(base:Heap)(C:Addr)(k:Nat)(m:Str)(L:FnM):Prop where
 ex:∃f fd ps,Cls K C/\kr K C m f/\Binds K fd ps []/\FnOk P w K mg base (CX1 P w) k f fd ps (Mur P w K C L)
def wz{L:FnM}{h:Nat}(F:FnVm X.prog X.w X.K X.mg X.base C k m L)(hl:L.lent.headD false=false)(hm2:m≠"objects"/\m≠"numbers")(hr:Room k X.A)(ho:EvM X C Y U o (.ok (.hdl h)) U1)(ha:EaM X C Y U1 L.lent.tail (e::es) (.ok ds) U2)(hrun:L.run U2 (.hdl h::ds)=some (U',r))(hs:aG (e::es))
  {pl:Sem Bool} (ht:eval (.Call (.Attribute o m apos) (e::es) [] pos) X.env=(do
   let ov ←eval o X.env
   standAt apos.atName
   let (f,first) ←holding [ov] (getMethod ov m pl)
   callWith pos f first (backTo pos (starEach (e::es) X.env)) (backToKw pos (keywordEach [] X.env)))):
  EvM X C Y U (.Call (.Attribute o m apos) (e::es) [] pos) r U':=by
 obtain⟨f,fd,ps,hc,hm,hb,F⟩:=F.ex;intro pins s σ H Q I h0;obtain⟨G0,H0,d0,G,dd,E,kq⟩:=h0;refine PySem.W.methodCall_KW (pl:=pl) (thn (ho pins s σ H (λx H1=>∃a dx fs,x=.ref a/\H1 a=some (.ins C dx fs)/\fs.lookup m=none/\∃G1 d1,MExt G H dd G1 H1 d1/\VS X.prog X.w X.K C G1 H1 d1 U1/\Dp X.K G1 (.hdl h) (.ref a)) I ⟨G0,H0,d0,G,dd,E,λv G1 H1 d1 m1 v1 r1=>?_⟩) λu s1 ⟨x,H1,I1,rx,a,dx,fs,ex,ea,l,G1,d1,m1,v1,r1⟩=>?_) ht
 .obtain⟨a,l,n,dx,objs,rfl,_,_,q,_⟩:=v1.hdl (m1.gh.trans az) r1
  refine⟨a,dx,_,rfl,(m1.gh.trans az) _ _ q,?_,G1,d1,m1,v1,r1⟩;have n1:(m==("objects":Str))=false:=bn0 hm2.1;have n2:(m==("numbers":Str))=false:=bn0 hm2.2;simp[vfs,lk0,n1,n2]
 .subst ex
  obtain rfl:u=Value.ref a:=rx;refine cJ I1 ea hc hm l ?_;refine PySem.W.callWith_K (first:=[.ref a]) (h₀:=X.base) I.ok.mod.kin hm.kp (thn (ha pos pins s1 σ H1 (λvs H2=>Mur X.prog X.w X.K C L (.ref a::vs) H2 Q (λc b H'=>∃c',c=.ref c'/\kW X c' σ H')) I1 ⟨G0,H0,d0,G1,d1,E.go m1 v1,λvs G2 H2 d2 m2 v2 r2=>?_⟩) λus s2 ⟨vs,H2,I2,r2,q⟩=>⟨I2.kIn,qL (us:=.ref a::us) (vs:=.ref a::vs) F hr hb I2 (.cons rfl r2) q⟩) (af (hs e ms0)) (aD λy hy=>hs y (mc0 _ hy));exact Bn hrun m2.gh (.cons (λb=>r1.mono m2.gg) (.of (r1.mono m2.gg)) r2) v2 (kq.go (m1.trans m2))
end
inductive OM where
 |nx (Y:List Sl)
 |rt (d:D)
 |exc (c:Nat) (Y:List Sl)
noncomputable def GoesM(X:Cx)(C:Addr)(G0 H0:Hp)(d0:Vd)(G:Hp)(U:List (List D))(F:Ends):OM->Prop
 |.nx Y'=>∀G' H' d' σ',EnvM X.prog X.w X.K C G0 H0 d0 G' H' d' σ' Y' U->Same G G'->F.nx σ' H'
 |.rt e=>∀v G' H' d',MExt G0 H0 d0 G' H' d'->VS X.prog X.w X.K C G' H' d' U->Dp X.K G' e v->F.rt v H'
 |.exc c Y'=>∀G' H' d' σ',EnvM X.prog X.w X.K C G0 H0 d0 G' H' d' σ' Y' U->Same G G'->kW X c σ' H'
noncomputable def tSM(X:Cx)(C:Addr)(Y:List Sl)(U:List (List D))(o:OM)(U':List (List D)):TS:=λF σ H=>∃G0 H0 d0 G d,EnvM X.prog X.w X.K C G0 H0 d0 G H d σ Y U/\GoesM X C G0 H0 d0 G U' F o
def S1M(X:Cx)(C:Addr)(Y:List Sl)(U:List (List D))(st:Stmt)(o:OM)(U':List (List D)):Prop:=PS X st (tSM X C Y U o U')
def SsM(X:Cx)(C:Addr)(Y:List Sl)(U:List (List D))(sts:List Stmt)(o:OM)(U':List (List D)):Prop:=PSs X sts (tSM X C Y U o U')
inductive Rt where
 |ok (b:Bool)
 |exc (C:Nat)
noncomputable def tTM(X:Cx)(C:Addr)(Y:List Sl)(U:List (List D))(r:Rt)(U':List (List D)):TT:=λσ H Q=>∃G0 H0 d0 G d,EnvM X.prog X.w X.K C G0 H0 d0 G H d σ Y U/\match r with
 |.ok b=>∀G' H' d',MExt G H d G' H' d'->VS X.prog X.w X.K C G' H' d' U'->Q b H'
 |.exc c=>∀G' H' d',MExt G H d G' H' d'->VS X.prog X.w X.K C G' H' d' U'->kW X c σ H'
def EtM(X:Cx)(C:Addr)(Y:List Sl)(U:List (List D))(e:Expr)(r:Rt)(U':List (List D)):Prop:=PT X e (tTM X C Y U r U')
section
variable {C:Addr}{U U1 U2 U':List (List D)}{rest:List Stmt}{o:OM}{e:Expr}{p:Pos}{c k:Nat}
def GoesM.go{G:Hp}{d0:Vd}{F:Ends}(h:GoesM X C G0 H0 d0 G U F o)(s:Same G G1):GoesM X C G0 H0 d0 G1 U F o:=by
 cases o with
 |nx Y'=>exact λG' H' d' σ' e g=>h G' H' d' σ' e (s.trans g)
 |rt d=>exact h
 |exc c Y'=>exact λG' H' d' σ' e g=>h G' H' d' σ' e (s.trans g)
def zN:SsM X C Y U [] (.nx Y) U:=by rintro pins s σ H F I ⟨G0,H0,d0,G,d,E,R⟩;exact dD pins s σ H F I (R G H d σ E (Same.refl _))
def tq(h1:S1M X C Y U st (.nx Y1) U1)(h2:SsM X C Y1 U1 rest o U2):SsM X C Y U (st::rest) o U2:=λpins s σ H F I ⟨G0,H0,d0,G,d,E,R⟩=>
 aI h1 h2 pins s σ H F I ⟨G0,H0,d0,G,d,E,λG' H' d' σ' E' g=>⟨G0,H0,d0,G',d',E',R.go g⟩⟩
def tu(h1:S1M X C Y U st (.rt d) U1):SsM X C Y U (st::rest) (.rt d) U1:=λpins s σ H F I ⟨G0,H0,d0,G,dd,E,R⟩=>
 aI (u:=λa a a=>False) h1 (λa a a a a a z=>z.elim) pins s σ H F I ⟨G0,H0,d0,G,dd,E,R⟩
def tw(h1:S1M X C Y U st (.exc c Y1) U1):SsM X C Y U (st::rest) (.exc c Y1) U1:=λpins s σ H F I ⟨G0,H0,d0,G,dd,E,R⟩=>
 aI (u:=λa a a=>False) h1 (λa a a a a a z=>z.elim) pins s σ H F I ⟨G0,H0,d0,G,dd,E,R⟩
def pE{G0 H0 G H}{d0 d}{σ}{Q}{F}(E:EnvM X.prog X.w X.K C G0 H0 d0 G H d σ Y U)(R:GoesM X C G0 H0 d0 G U1 F (.exc c Y)):PostM X C G H d U1 σ Q (.exc c):=
 λG' H' d' m v=>R G' H' d' σ (E.go m v) m.gg
def zO(S:Sto X x i)(h:EvM X C Y U e (.ok d) U1)(hs:swapsWith e (some (.Name x pos')) pos.line X.env=pure false):S1M X C Y U (.Assign [.Name x pos'] e pos) (.nx (Y.set i (.dat d))) U1:=
 λpins s σ H F I ⟨G0,H0,d0,G,dd,E,R⟩=>kn S.nd S.nm.at' S.nm.loc h hs S.nm.fn pins s σ H F I ⟨G0,H0,d0,G,dd,E,λv G' H' d' m v1 r=>R G' H' d' _ ((E.go m v1).set (S.lt I) r) m.gg⟩
def wA(S:Sto X x i)(h:EvM X C Y U e (.exc c) U1)(hs:swapsWith e (some (.Name x pos')) pos.line X.env=pure false):S1M X C Y U (.Assign [.Name x pos'] e pos) (.exc c Y) U1:=
 λpins s σ H F I ⟨G0,H0,d0,G,dd,E,R⟩=>kn S.nd S.nm.at' S.nm.loc h hs S.nm.fn pins s σ H F I ⟨G0,H0,d0,G,dd,E,pE (Q:=λa a=>True) E R⟩
def wB(h:EvM X C Y U e (.ok d) U1)(hs:swapsWith e none pos.line X.env=pure false):S1M X C Y U (.Expr e pos) (.nx Y) U1:=
 λpins s σ H F I ⟨G0,H0,d0,G,dd,E,R⟩=>cG h hs pins s σ H F I ⟨G0,H0,d0,G,dd,E,λv G' H' d' m v1 r=>R G' H' d' _ (E.go m v1) m.gg⟩
def tB(h:EvM X C Y U e (.exc c) U1)(hs:swapsWith e none pos.line X.env=pure false):S1M X C Y U (.Expr e pos) (.exc c Y) U1:=
 λpins s σ H F I ⟨G0,H0,d0,G,dd,E,R⟩=>cG h hs pins s σ H F I ⟨G0,H0,d0,G,dd,E,pE (Q:=λa a=>True) E R⟩
def zP(h:EvM X C (Y.map SI.freeze) U e (.ok d) U1):S1M X C Y U (.Return (some e) pos) (.rt d) U1:=by
 rintro pins s σ H F I ⟨G0,H0,d0,G,dd,E,R⟩
 obtain⟨G1,E1,s1⟩:=E.freeze;exact km h pins s σ H F I ⟨G0,H0,d0,G1,dd,E1,λv G' H' d' m v1 r=>R v G' H' d' (E1.go m v1).start v1 r⟩
def wC(h:EvM X C (Y.map SI.freeze) U e (.exc c) U1):S1M X C Y U (.Return (some e) pos) (.exc c (Y.map SI.freeze)) U1:=by
 rintro pins s σ H F I ⟨G0,H0,d0,G,dd,E,R⟩
 obtain⟨G1,E1,s1⟩:=E.freeze;exact km h pins s σ H F I ⟨G0,H0,d0,G1,dd,E1,pE (Q:=λa a=>True) E1 (R.go s1)⟩
def mU(h:Et X (Y.map (vE C U)) e t):EtM X C Y U e (.ok t) U:=λpins s σ H Q I ⟨G0,H0,d0,G,dd,E,k⟩=>
 h pins s σ H Q I ⟨G,H,G,E.view,λG' H' e1=>k G' H' dd (E.vs.mext E.sub' e1) (E.vs.step e1)⟩
def zQ(hc:EtM X C Y U e (.ok true) U1)(h:SsM X C Y U1 body o U2):S1M X C Y U (.If e body body2 pos) o U2:=λpins s σ H F I ⟨G0,H0,d0,G,dd,E,R⟩=>
 lM (u:=λa a a=>False) hc h (λa a a a a a z=>z.elim) pins s σ H F I ⟨G0,H0,d0,G,dd,E,λG' H' d' m v=>iteT ⟨G0,H0,d0,G',d',E.go m v,R.go m.gg⟩⟩
def zR(hc:EtM X C Y U e (.ok false) U1)(h:SsM X C Y U1 body2 o U2):S1M X C Y U (.If e body body2 pos) o U2:=λpins s σ H F I ⟨G0,H0,d0,G,dd,E,R⟩=>
 lM (t:=λa a a=>False) hc (λa a a a a a z=>z.elim) h pins s σ H F I ⟨G0,H0,d0,G,dd,E,λG' H' d' m v=>kz ⟨G0,H0,d0,G',d',E.go m v,R.go m.gg⟩⟩
def TgM(X:Cx)(tg:Expr)(t:Tg):Prop:=∀d,PG X tg (λv σ H Q=>∃(W:St->List Sl->Prop)(G:Hp)(Y Y':List Sl),W σ Y/\(∀σ Y i e u,W σ Y->i<σ.length->Dp X.K G e u->W (σ.set i (some u)) (Y.set i (.dat e)))/\Same G H/\Dp X.K G d v/\ai t d Y=some Y'/\∀σ',W σ' Y'->Q σ' H)
def mV(hN:X.N.Nodup)(hi:X.N[i]?=some x)(hx:Loc X.env.scope x)(hf:X.fn x=true\/X.env.scope.names.lookup x=some .local):TgM X (.Name x p) (.one i):=
 λd pins s σ H v u Q I r ⟨W,G,Y,Y',w,cl,sm,dv,hb,k⟩=>by
  cases hb;exact pZ hN hi hx hf pins s σ H v u Q I r (k _ (cl σ Y i d v w (by rw[I.len];exact (gi0 hi).1) dv))
def JV(X:Cx)(ts:List Expr)(is:List Nat):Prop:=∀ds,ds.length=is.length->PGs X ts (λvs σ H Q=>∃(W:St->List Sl->Prop)(G:Hp)(Y:List Sl),W σ Y/\(∀σ Y i e u,W σ Y->i<σ.length->Dp X.K G e u->W (σ.set i (some u)) (Y.set i (.dat e)))/\Same G H/\Dps X.K G ds vs/\
 ∀σ',W σ' ((is.zip ds).foldl (λY p=>Y.set p.1 (.dat p.2)) Y)->Q σ' H)
def JW{is:List Nat}(hN:X.N.Nodup)(h:Nms X ts is):JV X ts is:=by
 induction h with
 |nil=>
  intro ds hl pins s σ H vs us Q I r h0;obtain⟨W,G,Y,w,cl,sm,dv,k⟩:=h0;have:ds=[]:=ez0 hl;subst this;cases dv;exact qa pins s σ H [] us Q I r ⟨rfl,k σ w⟩
 |@cons x px i es is h1 h2 ih=>
  intro ds hl pins s σ H vs us Q I r h0;obtain⟨W,G,Y,w,cl,sm,dv,k⟩:=h0;cases ds with
  |nil=>cases hl
  |cons d ds=>
   cases dv with
   |cons d1 d2=>
    exact lN (mV (p:=px) hN h1.at' h1.loc h1.fn d) (ih ds (by simpa using hl)) rfl pins s σ H _ us Q I r
     ⟨_,_,rfl,W,G,Y,_,w,cl,sm,d1,rfl,λσ' w'=>⟨W,G,_,w',cl,sm,d2,λσ2 w2=>k σ2 w2⟩⟩
set_option tactic.hygienic true in
def zS{is:List Nat}(hc:X.calm=true)(hN:X.N.Nodup)(h:Nms X ts is):TgM X (.Tuple ts n pos) (.tup is):=by
 intro d pins s σ H v u Q I r h0;obtain⟨W,G,Y,Y',w,cl,sm,dv,hb,k⟩:=h0;cases d with
 |tuple ds=>
  rw[fG]at hb;split at hb
  .rename_i hl
   cases hb;cases dv with
   |tuple hq dr=>
    obtain⟨e1,e2⟩:=h.each (env:=X.env);exact uc (n:=is.length) hc (JW hN h ds hl.symm) e1 e2 pins s σ H _ u Q I r ⟨_,_,rfl,SqT.of (sm _ _ hq),by rw[<-dr.length];exact hl.symm,W,G,Y,w,cl,sm,dr,k⟩
  .cases hb
 |_=>cases hb
def wD{Cc:Cs}(c:CxC X Cc){t:Tg}(h:cTg Cc tg=some t):TgM X tg t:=by
 have nms:∀{es:List Expr}{is:List Nat},slots Cc es=some is->Nms X es is:=by
  intro es
  induction es with
  |nil=>intro is h;cases h;exact .nil
  |cons e r ih=>
   intro is h;cases e with
   |Name x px=>
    obtain⟨i,h1,h2⟩:=bx0 (show (hZ Cc x).bind _=some is from h);obtain⟨is',h3,rfl⟩:=mx0 h2;exact .cons (iy c h1) (ih h3)
   |_=>cases h
 cases tg with
 |Name x px=>
  obtain⟨i,h1,rfl⟩:=mx0 (show (hZ Cc x).map _=some t from h);have n:=iy c h1;exact mV (by rw[c.N];exact c.nd) n.at' n.loc n.fn
 |Tuple es n pos=>
  obtain⟨is,h1,rfl⟩:=mx0 (show (slots Cc es).map _=some t from h);exact zS c.calm (by rw[c.N];exact c.nd) (nms h1)
 |_=>cases h
noncomputable def OM.andThen:OM->(List Sl->Option (OM×List (List D)))->List (List D)->Option (OM×List (List D))
 |.nx Y,f,_=>f Y
 |.rt d,_,U=>some (.rt d,U)
 |.exc c Y,_,U=>some (.exc c Y,U)
noncomputable def forM(t:D->List Sl->Option (List Sl))(b:List Sl->List (List D)->Option (OM×List (List D))):List D->List Sl->List (List D)->Option (OM×List (List D))
 |[],Y,U=>some (.nx Y,U)
 |d::r,Y,U=>(t d Y).bind λY'=>(b Y' U).bind λq=>q.1.andThen (λY2=>forM t b r Y2 q.2) q.2
noncomputable def tIM(X:Cx)(C:Addr)(Y:List Sl)(U:List (List D))(ds:List D)(U':List (List D)):TI:=λσ H R=>∃G0 H0 d0 G d,EnvM X.prog X.w X.K C G0 H0 d0 G H d σ Y U/\∀J G' H' d',MExt G H d G' H' d'->VS X.prog X.w X.K C G' H' d' U'->
 (∃Hs,eC X.K G' Hs J ds/\∀G2 H2 d2 σ2 Y2 U2,EnvM X.prog X.w X.K C G0 H0 d0 G2 H2 d2 σ2 Y2 U2->Same G' G2->Same Hs H2)->R J H'
def SiM(X:Cx)(C:Addr)(Y:List Sl)(U:List (List D))(iter:Expr)(ds:List D)(U':List (List D)):Prop:=∀tg,PI X tg iter (tIM X C Y U ds U')
def wF(h:Si X Y true iter ds):SiM X C Y U iter ds U:=by
 rintro tg pins s σ H R I ⟨G0,H0,d0,G,d,E,k⟩
 obtain⟨Gb,Hb,en,st⟩:=E.full;exact h tg pins s σ H R I ⟨Gb,Hb,G,en,λJ G' H' e1 sr=>k J G' H' d (E.vs.mext E.sub' e1) (E.vs.step e1) ⟨Hb,sr,λG2 H2 d2 σ2 Y2 U2 E2 g=>st G2 H2 d2 σ2 Y2 U2 E2 (e1.gg.trans g)⟩⟩
def zT{t:Tg}{run:List Sl->List (List D)->Option (OM×List (List D))}(hi:SiM X C Y U iter ds U1)(ht:TgM X tg t)(hb:∀Y' U' o' U2,run Y' U'=some (o',U2)->SsM X C Y' U' body o' U2)(h:forM (ai t) run ds Y U1=some (o,U2))
  (hc:X.calm=true) (hp:PassesOwn (model X.prog X.w) X.A X.env X.xe) (hf:∀x,foldedSetIterable iter X.env x=pure x):S1M X C Y U (.For tg iter body [] pos) o U2:=by
 intro pins s σ H F I h0;obtain⟨G0,H0,d0,G,d,E,R⟩:=h0;refine ug hp hc (hi _) (GU (tg:=tg)) (Bi (body:=body)) hf pins s σ H F I ?_;refine⟨G0,H0,d0,G,d,E,λJ G1 H1 d1 m1 v1 ⟨Hs,hJ,hst⟩=>⟨λk m σ' H'=>m=ds.length-k/\k<=ds.length/\∃Y' U' G' d',forM (ai t) run (ds.drop k) Y' U'=some (o,U2)/\EnvM X.prog X.w X.K C G0 H0 d0 G' H' d' σ' Y' U'/\Same G1 G',⟨ds.length,by simp,Nat.zero_le _,Y,U1,G1,d1,h,E.go m1 v1,Same.refl _⟩,?_⟩⟩
 rintro k m σ' H' ⟨rfl,hk,Y',U',G',d',pv,E',g1⟩
 have g0:Same G G':=m1.gg.trans g1;have hs:=hst G' H' d' σ' Y' U' E' g1
 by_cases hlt:k<ds.length
 .refine .inr ⟨hJ.go k H' hlt (g1.trans E'.sub) hs,λσ2 H2=>k+1<=ds.length/\∃Y2 U3 G2 d2,forM (ai t) run (ds.drop (k+1)) Y2 U3=some (o,U2)/\EnvM X.prog X.w X.K C G0 H0 d0 G2 H2 d2 σ2 Y2 U3/\Same G1 G2,λσ2 H2 ⟨h1,Y2,U3,G2,d2,p2,en2,s2⟩=>⟨ds.length-(k+1),by omega,rfl,h1,Y2,U3,G2,d2,p2,en2,s2⟩,λv H2 y=>?_⟩
  have hd:ds[k]?=some ds[k]:=ge0 hlt;rw[List.drop_eq_getElem_cons hlt]at pv;generalize ds[k]=dd at hd pv;obtain⟨Y1,b1,pv⟩:=bx0 (show (ai t dd Y').bind _=some (o,U2)from pv);obtain⟨⟨o1,U3⟩,b2,pv⟩:=bx0 pv;obtain⟨G2,e2,d2⟩:=hJ.yld k G' H' v H2 dd hd g1 E'.sub hs y;have E2:=E'.go (E'.vs.mext E'.sub' e2) (E'.vs.step e2);intro pins' s' u' I' r';refine ht dd pins' s' σ' H2 v u' _ I' r' ⟨λσ3 Y3=>EnvM X.prog X.w X.K C G0 H0 d0 G2 H2 d' σ3 Y3 U',G2,Y',Y1,E2,λσ3 Y3 i e u E3 hi de=>E3.set hi de,E2.sub,d2,b1,λσ2 en2=>?_⟩;intro pins2 s2 I2;refine hb Y1 U' o1 U3 b2 pins2 s2 σ2 H2 _ I2 ⟨G0,H0,d0,G2,d',en2,?_⟩
  cases o1 with
  |nx Y3=>exact λG3 H3 d3 σ3 en3 g3=>⟨hlt,Y3,U3,G3,d3,pv,en3,g1.trans (e2.gg.trans g3)⟩
  |rt dr=>cases pv;exact R
  |exc c Y3=>cases pv;exact R.go (g0.trans e2.gg)
 .have e:k=ds.length:=by omega
  subst e;rw[List.drop_length]at pv;cases pv;exact .inl ⟨hJ.stop H' (g1.trans E'.sub) hs,R G' H' d' σ' E' g0⟩
end
section
variable {C:Addr}{U U1:List (List D)}{e:Expr}{c:Nat}{np:Pos}{r:R}
end
section
variable {E:Value->Shared->Prop}{c:Addr}
end
section
variable {M:Model}{A:Around}{E:Value->Shared->Prop}
variable {nm q nmT qT:Str}{C N T NT:Addr}{bs bm bsT bmT:List Value}{hdct hdctT:Bool}{sn snT:List Str}{sub subT:List Value}{ab abT:Bool}{col colT:Option Bool}{dd ddT:Option Addr}{k0 k1 k2 k3 k5 l0 l1 l2 l3 l5:Option Value}{newId newIdT:String}
end
section
variable {E:Value->Shared->Prop}{c:Addr}
end
section
variable {C:Addr}{U U1:List (List D)}{n k:Str}{c t:Nat}{tp np ap hp:Pos}
end
def ED{H}{ps}{q}{o}(h:q∉ps):er (upd H q o) ps=upd (er H ps) q o:=by
 funext b
 by_cases e:b=q
 .subst e;rw[ae,ax h,ae]
 .rw[aa e]
  by_cases z:b∈ps
  .rw[iJ z,iJ z]
  .rw[ax z,ax z,aa e]
section
variable {C:Addr}{G:Hp}{d0 d:Vd}{U:List (List D)}
def VS.touch(v:VS P w K C G H d U){q:Addr}{o:HO}(hq:q∉parts d)(no:∀a,H q≠some (.own a))(ni:notIns o=true):VS P w K C G (upd H q o) d U:=
 ⟨v.len,v.nd,λh a l n e=>by
  obtain⟨dx,objs,h1,h2,h3,as,h4,h5,h6,h7⟩:=v.at' h a l n e;have m:=fP e;refine⟨dx,objs,h1,h2,?_,as,?_,h5,?_,h7⟩
  .rw[aa λz=>no a (by rw[<-z];exact h3)];exact h3
  .rw[aa λz=>hq (by rw[<-z];exact m.1)];exact h4
  .rw[aa λz=>hq (by rw[<-z];exact m.2)];exact h6,
  λa C' dx fs e=>v.uni a C' dx fs (bH ni a C' dx fs e),v.out,λp hp=>let ⟨ps,e⟩:=v.tb p hp;⟨ps,by rw[aa λz=>hq (by rw[<-z];exact List.mem_append_left _ (List.mem_map.mpr ⟨p,hp,rfl⟩))];exact e⟩⟩
end
section
variable {C:Addr}{U U1 U2 U':List (List D)}{rest:List Stmt}{o:OM}{e:Expr}{p:Pos}{c k:Nat}{r:R}{rs:Rs}
def zU{x1}(h:EaM X C Y U [] es (.ok ds) U1)(hz:ds.length<=1000):EvM X C Y U (.Tuple es x1 pos) (.ok (.tuple ds)) U1:=λpins s σ H Q I ⟨G0,H0,d0,G,dd,E,k⟩=>
 uq h pins s σ H Q I ⟨G0,H0,d0,G,dd,E,λvs G1 H1 d1 m1 v1 r=>⟨by rw[<-r.length];exact Nat.le_of_lt (dF hz),λq hq=>by
  have e:Ext G1 H1 (upd G1 q (.tup vs)) (upd H1 q (.tup vs)):=.laid (m1.gh.trans az) hq;exact k _ _ _ d1 (m1.trans (v1.mext m1.gh e)) (v1.step e) (.tuple ae (r.dps.mono e.gg))⟩⟩
noncomputable def eL:Sl->Bool
 |.lent (.scr _)=>true
 |.lent _=>false
 |_=>true
noncomputable def wG:Option HO->Bool
 |some (.own _)=>true
 |_=>false
def tD(h:E1 X Y st (.nx Y1))(hl:∀sl∈Y1,eL sl=true):S1M X C Y U st (.nx Y1) U:=by
 intro pins s σ H F I h0;obtain⟨G0,H0,d0,G,dd,E,R⟩:=h0;obtain⟨Gb,Hb,s1,s2,e⟩:=E.bas
 let sp:Addr->Prop:=λb=>b∈parts dd\/wG (H b)=true
 have spH:∀b,sp b->∃o,H b=some o:=λb z=>by
  rcases z with z|z
  .exact E.vs.part z
  .cases q:H b with
   |none=>rw[q]at z;cases z
   |some o=>exact⟨o,rfl⟩
 have spG:∀b,sp b->∀C' dx fs,H b≠some (.ins C' dx fs):=λb z C' dx fs q=>by
  rcases z with z|z
  .exact E.vs.notPart q z
  .rw[q]at z;cases z
 open Classical in
 let Hp':Hp:=λb=>if sp b then H b else Hb b
 open Classical in
 let Gp':Hp:=λb=>if sp b then G b else Gb b
 have hI:∀b,sp b->Hp' b=H b:=λb z=>if_pos z
 have hO:∀b,¬ sp b->Hp' b=Hb b:=λb z=>if_neg z
 have gI:∀b,sp b->Gp' b=G b:=λb z=>if_pos z
 have gO:∀b,¬ sp b->Gp' b=Gb b:=λb z=>if_neg z
 have sub:Same G H:=E.sub;have hbH:Same Hb H:=λb o z=>az b o (e.ext.hh b o z)
 have hbHp:Same Hb Hp':=λb o z=>by
  by_cases q:sp b
  .rw[hI b q];exact hbH b o z
  .rw[hO b q];exact z
 have gbGp:Same Gb Gp':=λb o z=>by
  by_cases q:sp b
  .rw[gI b q];exact e.ext.gg b o z
  .rw[gO b q];exact z
 have E0:EnvD X.K Gp' Hp' G H σ Y:=by
  refine⟨⟨λb o z=>?_,λb o z=>?_,sub,λb o z1 z2=>?_,λb C' dx fs z=>?_⟩,e.len,e.dat,λi d z=>?_,λi d z=>?_,e.apart⟩
  .by_cases q:sp b
   .rw[hI b q]at z;exact z
   .rw[hO b q]at z;exact hbH b o z
  .by_cases q:sp b
   .rw[gI b q]at z;exact z
   .rw[gO b q]at z;exact e.ext.gg b o z
  .by_cases q:sp b
   .rw[gI b q]at z1;exact z1
   .rw[gO b q]at z1;rw[hO b q]at z2;exact e.ext.nw b o z1 z2
  .have q:¬ sp b:=λq=>spG b q C' dx fs z
   rw[hO b q];exact e.ext.ni b C' dx fs (by rw[ax λm=>q (.inl m)];exact z)
  .obtain⟨v,a1,a2⟩:=e.lent i d z
   exact⟨v,a1,(a2.monoH hbHp).monoG gbGp⟩
  .obtain⟨q,a1,a2,a3,a4⟩:=e.own i d z
   obtain⟨oo,ho⟩:=a4.some;have nq:¬ sp q:=λz=>by
    rcases z with z|z
    .exact (aH ho).1 z
    .rcases a4 with⟨_,_,_,y,_⟩|⟨_,_,_,y,_⟩<;>(rw[(aH y).2]at z;cases z)
   refine⟨q,a1,a2,by rw[hO q nq];exact a3,?_⟩;rcases a4 with⟨ds,vs,y1,y2,y3⟩|⟨ds,vs,y1,y2,y3⟩
   .exact .inl ⟨ds,vs,y1,az _ _ y2,y3⟩
   .exact .inr ⟨ds,vs,y1,az _ _ y2,y3⟩
 refine h pins s σ H F I ⟨Gp',Hp',G,E0,λG' H' σ' e' g=>R G' H' dd σ' ?_ g⟩;have ns:∀b,sp b->H' b=H b:=λb z=>by
  obtain⟨o,ho⟩:=spH b z;rw[ho];exact e'.ext.hh b o (by rw[hI b z];exact ho)
 have pG:∀b∈parts dd,G' b=none:=λb hb=>by
  obtain⟨o,ho⟩:=E.vs.part hb;exact e'.ext.nw b o (by rw[gI b (.inl hb)];exact E.vs.out b hb) (by rw[hI b (.inl hb)];exact ho)
 have lst_nsp:∀{q:Addr}{o:HO},H' q=some o->Hp' q=none->¬ sp q:=λ{q o} y z m=>by
  obtain⟨o',ho⟩:=spH q m;rw[hI q m,ho]at z;cases z
 refine⟨⟨Gb,Hb,s1,s2,⟨⟨λb o z=>?_,gbGp.trans e'.ext.gg,λb o z=>?_,λb o z1 z2=>?_,λb C' dx fs z=>?_⟩,e'.len,e'.dat,λi d z=>?_,λi d z=>?_,e'.apart⟩⟩,λb o z1 z2=>?_,E.pre,?_⟩
 .have np:b∉parts dd:=(aH (e.ext.hh b o z)).1
  rw[ax np];exact e'.ext.hh b o (hbHp b o z)
 .have np:b∉parts dd:=λm=>by rw[pG b m]at z;cases z
  rw[ax np];exact e'.ext.gh b o z
 .by_cases q:sp b
  .exact e'.ext.nw b o (by rw[gI b q];exact e.ext.nw b o z1 z2) (hbHp b o z2)
  .exact e'.ext.nw b o (by rw[gO b q];exact z1) (hbHp b o z2)
 .obtain⟨n1,n2⟩:=aH z
  have:=e'.ext.ni b C' dx fs n2;have q:¬ sp b:=λq=>by rw[hI b q]at this;exact spG b q C' dx fs this
  rw[hO b q]at this;exact this
 .obtain⟨v,a1,a2⟩:=e'.lent i d z
  have lo:=hl _ (mg0 z);have gB:∀{q:Addr}{o:HO},Gp' q=some o->wG (some o)=false->Gb q=some o:=λ{q o} y z=>by
   have nq:¬ sp q:=λm=>by
    rw[gI q m]at y;rcases m with m|m
    .rw[E.vs.out q m]at y;cases y
    .rw[sub q o y,z]at m;cases m
   rw[gO q nq]at y;exact y
  refine⟨v,a1,?_⟩;cases d with
  |scr ns=>
   cases a2 with
   |of y=>
    cases y with
    |scr y=>
     refine .of (.scr ?_);rcases y with y|y
     .left
      rcases y with y|⟨o,y⟩
      .exact .inl (gB y rfl)
      .exact .inr ⟨o,gB y rfl⟩
     .exact .inr y
  |_=>cases lo
 .obtain⟨q,a1,a2,a3,a4⟩:=e'.own i d z
  obtain⟨oo,ho⟩:=a4.some;have nq:=lst_nsp ho a3;refine⟨q,a1,a2,by rw[hO q nq]at a3;exact a3,?_⟩;rcases a4 with⟨ds,vs,y1,y2,y3⟩|⟨ds,vs,y1,y2,y3⟩
  .exact .inl ⟨ds,vs,y1,by rw[ax λm=>nq (.inl m)];exact y2,y3⟩
  .exact .inr ⟨ds,vs,y1,by rw[ax λm=>nq (.inl m)];exact y2,y3⟩
 .have gn:=E.nw b o z1 z2
  obtain⟨o',ho⟩:=E.start.st b o z2
  by_cases q:sp b
  .exact e'.ext.nw b o' (by rw[gI b q];exact gn) (by rw[hI b q];exact ho)
  .have np:b∉parts d0:=λm=>q (.inl (fQ E.pre m))
   have hb:Hb b=some o:=s2.1 b o (by rw[ax np];exact z2);refine e'.ext.nw b o ?_ (by rw[hO b q];exact hb);rw[gO b q];cases y:Gb b with
   |none=>rfl
   |some o''=>have:=e.ext.gg b o'' y;rw[gn]at this;cases this
 .refine⟨E.vs.len,E.vs.nd,λh a l n q=>?_,λa C' dx fs z=>?_,pG,λp hp=>let ⟨ps,e⟩:=E.vs.tb p hp;⟨ps,by rw[ns p.1 (.inl (List.mem_append_left _ (List.mem_map.mpr ⟨p,hp,rfl⟩)))];exact e⟩⟩
  .obtain⟨dx,objs,h1,h2,h3,as,h4,h5,h6,h7⟩:=E.vs.at' h a l n q
   have m:=fP q;exact⟨dx,objs,h1,g _ _ h2,by rw[ns dx (.inr (by rw[h3];rfl))];exact h3,as,by rw[ns l (.inl m.1)];exact h4,h5.mono g,by rw[ns n (.inl m.2)];exact h6,h7⟩
  .have:=e'.ext.ni a C' dx fs z
   have q:¬ sp a:=λq=>by rw[hI a q]at this;exact spG a q C' dx fs this
   rw[hO a q]at this;exact E.vs.uni a C' dx fs (hbH _ _ this)
end
section
variable {C:Addr}{G H1:Hp}{d0 d d1:Vd}{U:List (List D)}{q:Addr}
theorem EnvM.blk(E:EnvM P w K C G0 H0 d0 G H d σ Y U):EnvM P w K C G H d G H d (dg tn js σ) (SI.blk tn.length js Y) U:=by
 obtain⟨Gb,Hb,s1,s2,e⟩:=E.bas;exact⟨⟨G,er H (parts d),Same.refl _,⟨Same.refl _,λa a h a=>h⟩,e.blk⟩,λa a h a=>h,List.prefix_refl _,E.vs⟩
theorem EnvM.touch{o:HO}(E:EnvM P w K C G0 H0 d0 G H d σ Y U)(hn:du Y)(hg:G q=none)(h0:H0 q=none)(hH:H q=none\/∃ys,H q=some (.lst ys))(hp:q∉parts d)(ho:notIns o=true):EnvM P w K C G0 H0 d0 G (upd H q o) d σ Y U:=by
 obtain⟨Gb,Hb,s1,s2,e⟩:=E.bas;have hb:Hb q=none:=by
  cases z:Hb q with
  |none=>rfl
  |some o'=>
   cases y:notIns o' with
   |true=>have:=(aH (s2.2 q o' z y)).2;rw[h0]at this;cases this
   |false=>
    have:=(aH (e.ext.hh q o' z)).2;rcases hH with x|⟨ys,x⟩<;>rw[x]at this
    .cases this
    .cases this;cases y
 refine⟨⟨Gb,Hb,s1,s2,?_⟩,E.nw,E.pre,E.vs.touch hp (λa z=>?_) ho⟩
 .rw[ED hp];exact e.touch hn hg hb ho
 .rcases hH with x|⟨ys,x⟩<;>(rw[x]at z;cases z)
theorem EnvM.forget(E:EnvM P w K C G0 H0 d0 G H d σ Y U)(hl:Y'.length=Y.length)(h:∀(i:Nat) sl,Y'[i]?=some sl->sl=.no\/Y[i]?=some sl):EnvM P w K C G0 H0 d0 G H d σ Y' U:=by
 obtain⟨Gb,Hb,s1,s2,e⟩:=E.bas;exact⟨⟨Gb,Hb,s1,s2,e.forget hl h⟩,E.nw,E.pre,E.vs⟩
def MExt.show{ys:List V}(m:MExt G H d G1 H1 d1)(hq:H q=none)(hg:G1 q=none)(h1:H1 q=some (.lst ys))(hp:q∉parts d1):MExt G H d (upd G1 q (.lst ys)) H1 d1:=
 ⟨m.gg.trans (av hg),m.hh,λb o e=>by
  by_cases z:b=q
  .subst z;rw[ae]at e;cases e;rw[ax hp];exact h1
  .rw[aa z]at e;exact m.gh b o e,λb o e1 e2=>by
  have z:b≠q:=λz=>by rw[z,hq]at e2;cases e2
  rw[aa z];exact m.nw b o e1 e2,m.pre,m.st⟩
def VS.show{ys:List V}(v:VS P w K C G H d U)(hg:G q=none)(hp:q∉parts d):VS P w K C (upd G q (.lst ys)) H d U:=
 ⟨v.len,v.nd,λh a l n e=>by
  obtain⟨dx,objs,h1,h2,h3,as,h4,h5,h6,h7⟩:=v.at' h a l n e;exact⟨dx,objs,h1,av hg _ _ h2,h3,as,h4,h5.mono (av hg),h6,h7⟩,v.uni,λb hb=>by
  have nb:b≠q:=λz=>hp (by rw[<-z];exact hb)
  rw[aa nb];exact v.out b hb,v.tb⟩
end
noncomputable def iK(f:D->List (List D)->Option (D×List (List D))):List D->List (List D)->Option (List D×List (List D))
 |[],U=>some ([],U)
 |d::r,U=>(f d U).bind λz=>(iK f r z.2).map λq=>(z.1::q.1,q.2)
section
variable {C:Addr}{U U1 U2:List (List D)}{t:Tg}
def wH{f:List Sl->List (List D)->Option (D×List (List D))}(B:BlkOk X scope js)(hcalm:X.calm=true)(hi:EvM X C Y U iter (.ok (.list ds)) U1)
  (ht:∀(A:Addr)(s:Shared)(H:Hp)(fp:List Addr),TgM (L2.C.blk X scope (au X tn js) A s H fp) tg t) (hlt:mf t tn.length=true)
  (he:∀(A:Addr)(s:Shared)(H:Hp)(fp:List Addr) Y' U' e U3,f Y' U'=some (e,U3)->EvM (L2.C.blk X scope (au X tn js) A s H fp) C Y' U' elt (.ok e) U3) (hz:ds.length<sizeLine)
  (hrun:iK (λd U'=>(ai t d (SI.blk tn.length js Y)).bind λY'=>f Y' U') ds U1=some (out,U2)) (hs:∀x,foldedSetIterable iter X.env x=pure x):EvM X C Y U (.ListComp elt [⟨tg,iter,[],0⟩] scope pos) (.ok (.list out)) U2:=by
 intro pins s σ H Q I h0;obtain⟨G0,H0,d0,G,dd,E,k⟩:=h0;refine ql (tn:=tn) (js:=js) (g:=tgC X scope (au X tn js) tg) (tc:=tcC X scope (au X tn js) []) (te:=teC X scope (au X tn js) elt) B hcalm (qc hi)
  (λC s H fp pins s' σ' H' v u Q' I' r h=>h C s H fp pins s' u I' r) (λC s H fp pins s' σ' H' Q' I' h=>h C s H fp pins s' I') (λC s H fp pins s' σ' H' Q' I' h=>h C s H fp pins s' I') hs pins s σ H Q I ?_
 refine⟨G0,H0,d0,G,dd,E,λv G1 H1 d1 m1 v1 r1=>?_⟩;cases r1 with
 |@list src vs _ hq r=>
 refine⟨src,rfl,⟨_,SqL.of ((m1.gh.trans az) _ _ hq)⟩,λq hq0=>?_⟩;have E1:=E.go m1 v1;have noB:du (SI.blk tn.length js Y):=dI;have gq0:G1 q=none:=(m1.gh.trans az).free hq0;have np0:q∉parts d1:=λm=>by obtain⟨o,ho⟩:=v1.part m;rw[hq0]at ho;cases ho
 have src_ok:eC X.K G1 (λa=>none) (Itl X.K src) ds:=src_list (λH' g a=>SqL.of (g _ _ hq)) r;have nn:∀{H':Hp},Same (λa=>(none:Option HO)) H':=λ{H'} b o z=>by cases z
 refine⟨λi m σ' H'=>m=ds.length-i/\i<=ds.length/\∃G' d' U' ys outs rest,EnvM X.prog X.w X.K C G1 H1 d1 G' H' d' σ' (SI.blk tn.length js Y) U'/\H' q=some (.lst ys)/\G' q=none/\q∉parts d'/\Dps X.K G' outs ys/\outs.length=i/\
   iK (λd U'=>(ai t d (SI.blk tn.length js Y)).bind λY'=>f Y' U') (ds.drop i) U'=some (rest,U2)/\outs++rest=out,
  ⟨ds.length,by simp,Nat.zero_le _,G1,d1,U1,[],[],out,E1.blk.touch noB gq0 hq0 (.inl hq0) np0 rfl,ae,gq0,np0,.nil,rfl,hrun,rfl⟩,?_⟩
 rintro i m σ' H' ⟨rfl,hil,G',d',U',ys,outs,rest,E',hq',hg',np',r',ol,hc',oe⟩
 have gg:Same G1 G':=E'.gg;have sm:Same G1 H':=gg.trans E'.sub
 by_cases hlt':i<ds.length
 .refine .inr ⟨src_ok.go i H' hlt' sm nn,λv H2 y=>?_⟩
  have hb:ds[i]?=some ds[i]:=ge0 hlt';rw[List.drop_eq_getElem_cons hlt']at hc';generalize ds[i]=dd' at hb hc';obtain⟨z,hz1,hz2⟩:=bx0 (show ((ai t dd' (SI.blk tn.length js Y)).bind λY'=>f Y' U').bind _=some (rest,U2)from hc');obtain⟨Y1,hb1,hf⟩:=bx0 hz1;obtain⟨rest',hc2,hr⟩:=mx0 hz2;obtain⟨ev',U3⟩:=z;cases hr;obtain⟨l1,l2,l3⟩:=jG hlt hb1;obtain⟨G2,e2,d2⟩:=src_ok.yld i G' H' v H2 dd' hb gg E'.sub nn y;have m2:=E'.vs.mext E'.sub' e2;have E2:=E'.go m2 (E'.vs.step e2);have hq2:H2 q=some (.lst ys):=e2.hh _ _ hq';have hg2:G2 q=none:=e2.nw _ _ hg' hq';have back:∀{G3 H3:Hp}{d3:Vd}{σ3:St}{U4:List (List D)},EnvM X.prog X.w X.K C G1 H1 d1 G3 H3 d3 σ3 Y1 U4->EnvM X.prog X.w X.K C G1 H1 d1 G3 H3 d3 σ3 (SI.blk tn.length js Y) U4:=λE3=>E3.forget l1.symm λj sl hj=>by
   by_cases hjn:j<tn.length
   .left
    rcases blk_at hj with z|⟨_,_,z,_⟩
    .exact z
    .omega
   .right;rw[l2 j (by omega)];exact hj
  intro A s0 H0' fp pins s u I rv;refine ht A s0 H0' fp dd' pins s σ' H2 v u _ I rv ⟨λσ3 Y3=>EnvM X.prog X.w X.K C G1 H1 d1 G2 H2 d' σ3 Y3 U',G2,_,Y1,E2,λσ3 Y3 i e u E3 hi de=>E3.set hi de,E2.sub,d2,hb1,λσ2 en2=>?_⟩;intro A s0 H0' fp pins s I;refine pcs_nil pins s _ H2 _ I (iteT ?_);intro A s0 H0' fp pins s I;refine he A s0 H0' fp Y1 U' ev' U3 hf pins s _ H2 _ I ⟨G1,H1,d1,G2,d',en2,λx G4 H4 d4 m4 v4 r4=>?_⟩;have E4:=back (en2.go m4 v4);have hq4:er H4 (parts d4) q=some (.lst ys):=m4.hh q _ (by rw[ax np'];exact hq2);obtain⟨np4,hq4⟩:=aH hq4;have hg4:G4 q=none:=m4.nw q _ hg2 hq2
  refine⟨ys,hq4,by rw[<-r'.length,ol];omega,ds.length-(i+1),by omega,rfl,hlt',G4,d4,U3,ys++[x],outs++[ev'],rest'.1,E4.touch noB hg4 hq0 (.inr ⟨_,hq4⟩) np4 rfl,ae,hg4,np4,((r'.mono (e2.gg.trans m4.gg)).append (.one r4)),by rw[la0,ol];rfl,hc2,by rw[<-oe,List.append_assoc];rfl⟩
 .have e:i=ds.length:=by omega
  subst e;rw[List.drop_length]at hc';cases hc';rw[List.append_nil]at oe;subst oe;have mm:=m1.trans E'.start;have hqH:H q=none:=by
   cases z:H q with
   |none=>rfl
   |some o=>obtain⟨o',z'⟩:=m1.st q o z;rw[hq0]at z';cases z'
  exact .inl ⟨src_ok.stop H' sm nn,k _ _ H' d' (mm.show hqH hg' hq' np') (E'.vs.show hg' np') (.list ae (r'.mono (av hg')))⟩
end
section
variable {C:Addr}{U U1 U2 U':List (List D)}{o:OM}{e:Expr}{p:Pos}{k:Nat}{r:R}{rs:Rs}
end
section
variable {C:Addr}{U U1 U2:List (List D)}{e:Expr}{p:Pos}{k:Nat}{r:R}{rs:Rs}
def zV{op:CmpOp}{r2:R2}(ho:OpR X (compareOp op) r2)(ha:EvM X C Y U a (.ok d1) U1)(hb:Er X (Y.map (vE C U1)) b d2)(h:R2r X.K r2 d1 d2 (.bool t))(hm:behindInMarks op b=false):EvM X C Y U (.Compare a [op] [b] pos) (.ok (.bool t)) U1:=
 λpins s σ H Q I ⟨G0,H0,d0,G,dd,E,k⟩=>ko ho ha hb hm pins s σ H Q I ⟨G0,H0,d0,G,dd,E,λx G1 H1 d1' m1 v1 r1=>⟨G1,H1,G1,(E.go m1 v1).view,λy G2 H2 e2 r2=>
  h x y G2 H2 Q e2.gh (.of (r1.mono e2.gg)) r2 λv G' H' e3 r3=>k v G' H' d1' (m1.trans (v1.mext (E.go m1 v1).sub' (e2.trans e3))) (v1.step (e2.trans e3)) r3⟩⟩
def opF{op:CmpOp}:OpR X (compareOp op) (λa a a a=>False):=by
 intro pins s σ H x y v u Q I rx ry h;exact h.elim
def wI{op:CmpOp}{c:Nat}(ha:EvM X C Y U a (.exc c) U1)(hm:behindInMarks op b=false):EvM X C Y U (.Compare a [op] [b] pos) (.exc c) U1:=
 λpins s σ H Q I ⟨G0,H0,d0,G,dd,E,k⟩=>ko (tb:=λd d d=>False) opF ha (λd d d d d d z=>z.elim) hm pins s σ H Q I ⟨G0,H0,d0,G,dd,E,k⟩
end
end L2.Z
namespace L2.Z
open PySem PySem.W PySem.Spec PySem.Calls PyProof.Rows L2 L2.C
set_option tactic.hygienic true in
theorem codeAmong_snocE{a b:Int}{c cv:Value}:∀{l:List Value},TriplesOk l->codeAmong pos (l++[rawInt a,rawInt b,c])=some cv->codeAmong pos l=some cv\/cv=c
 |[],_,h=>by
  right
  rw[List.nil_append,codeAmong.eq_def]at h;dsimp only[rawInt]at h;split at h
  .exact (Option.some.inj h).symm
  .cases h
 |x::l,t,h=>by
  match x,l,t with
  |.int i t1,.int j t2::d::r,t=>
   rw[List.cons_append,List.cons_append,List.cons_append,codeAmong.eq_def]at h;rw[codeAmong.eq_def];dsimp only at h ⊢;split at h
   .rename_i e;rw[if_pos e];exact .inl h
   .rename_i e
    rw[if_neg e];exact codeAmong_snocE (l:=r) t h
structure Hj(H H':Hp)(P:Addr)(q:Str):Prop where
 keep:∀b o,b≠P->H b=some o->H' b=some o
 new:∀b o,H' b=some o->H b=some o\/b=P\/(H b=none/\∃ob u,o=.frz ob u)
 tab:(∃ps,H P=some (.tbl q ps))/\∃ps,H' P=some (.tbl q ps)
structure wJ(H:Hp)(f:Addr)(q:Str)(params:Arguments)(body:Expr)(scope:Scope)(cl:List (Str×Addr)):Prop where
 ex:∃pm ctv c u co vs t cu,H f=some (.frz (kla_obj "<lambda>" q params body scope cl pm c ctv) u)/\H c=some (.frz co cu)/\co.data=.fields vs/\vs[1]?=some (.str q t)
def gq{c P:Addr}(k:∀b o,h.get? b=some o->h'.get? b=some o)(x:CodeHd h c P):CodeHd h' c P:=by
 obtain⟨o,vs,a1,a2,a3,a4,a5,a6,a7,a8,a9⟩:=x;exact⟨o,vs,a1,a2,a3,a4,a5,a6,a7,k _ _ a8,a9⟩
def cZ{P:Addr}(k:∀b o,h.get? b=some o->h'.get? b=some o)(x:h.BuiltinsAt mg P):h'.BuiltinsAt mg P:=by
 obtain⟨bm,o,a1,a2,a3,a4,a5,a6⟩:=x;exact⟨bm,o,a1,a2,a3,a4,k _ _ a5,a6⟩
section
variable {body:Expr}{c P:Addr}{q:Str}
def zW{a:Addr}(I:Inv X pins σ H s)(k:∀b u,s.heap.get? b=some u->h'.get? b=some u)(hp:s.heap.objs.size<=a)(e:h'.get? a=some ob)(y:Addr):Inv X pins σ (upd H a (.frz ob (.own y))) {s with heap:=h',toks:=t'}:=
 I.laid k hp ⟨e,ob,e⟩
def zX{ps:Array Value}{c':Addr}{co fo:Obj}{vs:Array Value}{t:Tok}(I:Inv X pins σ H s)(hP:H P=some (.tbl q ps))(hc:s.heap.objs.size<=c')(hf:s.heap.objs.size<=f)(ne:c'≠f)(gc:h'.get? c'=some co)(gf:h'.get? f=some fo)(h1:co.data=.fields vs)(h2:vs[1]?=some (.str q t))
  (k:∀b o,b≠P->s.heap.get? b=some o->h'.get? b=some o) {i1 i2:Int} (e:h'.get? P=some (tabObj (ps++#[rawInt i1,rawInt i2,.ref c']))):Inv X pins σ (upd (upd (upd H c' (.frz co (.own P))) f (.frz fo (.own P))) P (.tbl q (ps++#[rawInt i1,rawInt i2,.ref c']))) {s with heap:=h',toks:=t'}:=by
 have fc:=I.hok.fresh hc;have ff:=I.hok.fresh hf;have np:∀b o,H b=some o->(∀n ps,o≠.tbl n ps)->b≠P:=λb o e n z=>by rw[z,hP]at e;exact n _ _ (Option.some.inj e).symm
 have nn:∀b,H b=none->b≠P:=λb e z=>by rw[z,hP]at e;cases e
 have old:∀b o,H b=some o->b≠P->upd (upd (upd H c' (.frz co (.own P))) f (.frz fo (.own P))) P (.tbl q (ps++#[rawInt i1,rawInt i2,.ref c'])) b=some o:=λb o e z=>by rw[aa z,aa (ag e ff),aa (ag e fc)];exact e
 have hcP:c'≠P:=nn _ fc;have hfP:f≠P:=nn _ ff;obtain⟨g1,g2,g3⟩:=I.hok P _ hP;refine I.un (h':=h') ⟨λb o g n a a=>k b o (nn b n) g,λb o g n a a=>⟨o.slots,k b o (nn b n) g⟩,λb o g n a=>?_,λb o g a=>?_,λb xs g=>old b _ g (np b _ g λa a=>nofun),λb o u g=>old b _ g (np b _ g λa a=>nofun),λb n ps' g=>?_⟩ λb o g=>?_
 .have lt:=hs0 g
  rw[aa (nn b n),aa (nn0 (nl0 lt hf)),aa (nn0 (nl0 lt hc))];exact n
 .by_cases z:b=P
  .subst z;exact⟨_,e⟩
  .exact⟨o,k b o z g⟩
 .by_cases z:b=P
  .subst z;rw[hP]at g;cases g;exact⟨_,ae⟩
  .exact⟨#[],by rw[old b _ g z];simp⟩
 .by_cases z:b=P
  .subst z
   rw[ae]at g;cases g;refine⟨e,by rw[Array.toList_append];exact TriplesOk_snoc _ _ _ _ g2,λpos cv hcv=>?_⟩;rw[Array.toList_append]at hcv;rcases codeAmong_snocE g2 hcv with y|rfl
   .obtain⟨c2,o,vs,t,u,rfl,y1,y2⟩:=g3 pos cv y
    exact⟨c2,o,vs,t,u,rfl,old c2 _ y1 (np c2 _ y1 λa a=>nofun),y2⟩
   .exact⟨c',co,vs,t,_,rfl,by rw[aa hcP,aa ne,ae],h1,h2⟩
  .rw[aa z]at g
   by_cases y:b=f
   .subst y;rw[ae]at g;cases g;exact⟨gf,_,gf⟩
   rw[aa y]at g
   by_cases y:b=c'
   .subst y;rw[ae]at g;cases g;exact⟨gc,_,gc⟩
   rw[aa y]at g;refine (I.hok b o g).stay (λd v hd y=>k d v (λw=>?_) y) (λd y=>old d _ y (np d _ y λa a=>nofun)) λd o f y=>old d _ y (np d _ y λa a w=>by rcases f with⟨_,rfl⟩|⟨_,_,rfl⟩<;>cases w)
   rcases hd with rfl|hd
   .exact z w
   .rw[w,hP]at hd;cases hd
def wK(I:Inv X pins σ H s)(hp:(P,q)∈lamTs)(hd:defaultsOf params X.env=([],[]))(hcl:∀x∈scope.names,x.2=.free->(X.env.cells.lookup x.1).isSome=true)(hc:X.env.code=.ref c)(hC:CodeHd X.base c P)(hB:X.base.BuiltinsAt X.mg P)(hq:X.env.qual++"<lambda>"=q)
  (h:∀f H' s',Inv X pins σ H' s'->Hj H H' P q->wJ H' f q params body scope (bK X.env scope.names [])->Q (.ref f) s'):wpAny (model X.prog X.w) X.A (eval (.Lambda params body scope pos) X.env) Q X.xe s:=by
 obtain⟨ps,hP⟩:=I.tb _ hp;have hP:H P=some (.tbl q ps):=hP;obtain⟨g1,g2,g3⟩:=I.hok P _ hP;have hn:=I.ok.mod.glob;have hns:s.heap.Ns mainGlobals X.mg:=by
  obtain⟨o,es,ep,e,r⟩:=hn;exact⟨o,es,ep,I.bk _ _ e,r⟩
 have hmP:mainGlobals≠P:=λz=>by
  obtain⟨o,es,ep,e,r⟩:=hns;rw[z,g1]at e;cases e;exact absurd r.1 (by simp)
 have clo:=bT hcl;refine kla_eval hd ?_;rw[hq];cases hco:codeAmong pos ps.toList with
 |some cv=>
  obtain⟨c2,o,vs,t,u,rfl,y1,y2,y3⟩:=g3 pos cv hco;refine kla_makeFunctionHit clo I.ok.glob hns hc (gq I.bk hC) g1 g2 hco (cZ I.bk hB) λctv h' tk k1 k2=>?_
  have kk:∀b u,s.heap.get? b=some u->(h'.push (kla_obj "<lambda>" q params body scope (bK X.env scope.names []) ((X.mg "__name__").getD .none) c2 ctv)).get? b=some u:=λb u e=>ps0 _ (k1 b u e)
  have fr:=I.hok.fresh k2;refine h _ _ _ (zW I (t':=tk) kk k2 (pz0 _ rfl) P) ⟨λb o a e=>by rw[aa (ag e fr)];exact e,λb o e=>?_,⟨_,hP⟩,_,by rw[aa (ag hP fr)];exact hP⟩ ⟨_,ctv,c2,_,o,vs,t,u,ae,by rw[aa (ag y1 fr)];exact y1,y2,y3⟩
  by_cases z:b=h'.objs.size
  .subst z;rw[ae]at e;cases e;exact .inr (.inr ⟨fr,_,_,rfl⟩)
  .rw[aa z]at e;exact .inl e
 |none=>
  refine kla_makeFunction clo I.ok.glob hns hc (gq I.bk hC) g1 g2 hco hmP (cZ I.bk hB) λc' ctv h' tk k1 k2 k3 ⟨c2,co,vs,t,z,k4,k5,k6⟩ k7=>?_
  cases z;have hf:s.heap.objs.size<=h'.objs.size:=nt0 k2 (Nat.le_of_lt k3);have ne:c'≠h'.objs.size:=nn0 k3;have fc:=I.hok.fresh k2;have ff:=I.hok.fresh hf;have hcP:c'≠P:=λz=>by rw[z,hP]at fc;cases fc
  have hfP:h'.objs.size≠P:=λz=>by rw[z,hP]at ff;cases ff
  refine h _ _ _ (zX I (t':=tk) (fo:=kla_obj "<lambda>" q params body scope (bK X.env scope.names []) ((X.mg "__name__").getD .none) c' ctv) hP k2 hf ne (ps0 _ k4) (pz0 _ rfl) k5 k6 (λb o z e=>ps0 _ (k1 b o z e)) (ps0 _ k7)) ⟨λb o z e=>by rw[aa z,aa (ag e ff),aa (ag e fc)];exact e,λb o e=>?_,⟨_,hP⟩,_,ae⟩ ⟨_,ctv,c',_,co,vs,t,_,by rw[aa hfP,ae],by rw[aa hcP,aa ne,ae],k5,k6⟩
  by_cases z:b=P
  .exact .inr (.inl z)
  rw[aa z]at e
  by_cases z:b=h'.objs.size
  .subst z;rw[ae]at e;cases e;exact .inr (.inr ⟨ff,_,_,rfl⟩)
  rw[aa z]at e
  by_cases z:b=c'
  .subst z;rw[ae]at e;cases e;exact .inr (.inr ⟨fc,_,_,rfl⟩)
  rw[aa z]at e;exact .inl e
end
noncomputable def mW(X:Cx)(A:Around)(q:Str)(scope:Scope)(N:List Str)(f c:Addr)(s:Shared)(H:Hp):Cx where
 prog:=X.prog
 w:=X.w
 K:=X.K
 mg:=X.mg
 base:=X.base
 A:=A.deeper (envX q scope s.heap.objs.size f (.ref c) (bK X.env scope.names []))
 N:=N
 s₀:=s
 H₀:=H
 env:=envX q scope s.heap.objs.size f (.ref c) (bK X.env scope.names [])
 outer:=X.stack
 stack:=envX q scope s.heap.objs.size f (.ref c) (bK X.env scope.names [])::X.stack
 ex:=[]
 fn:=λa=>false
 calm:=true
 pn:=[]
 xe:=λa a=>False
section
variable {body:Expr}{c:Addr}{q:Str}{A:Around}
def EE(B:BlkOk X scope js)(I:Inv X pins σ H s)(hd:A.handled=none)(hA:A.frames=some X.stack):(mW X A q scope N f c s H).Ok where
 mod:=I.ok.mod
 kind:=B.kind
 glob:=rfl
 blt:=rfl
 above:=nr0 _
 inj:=λx y c h1 h2=>I.ok.inj x y c (B.from I h1) (B.from I h2)
 has:=λy hy=>by
  have hy:scope.names.lookup y=some .cell\/scope.names.lookup y=some .free:=hy;rcases hy with hy|hy
  .exact absurd rfl (B.cell _ (ml0 hy))
  .exact bZ scope.names [] y (.inl (ml0 hy))
 cab:=λx c h a=>by cases h
 hd:=λa=>hd
 frames:=Around.frames_deeper hA
 stk:=.inr ⟨rfl,rfl⟩
 exf:=λb hb=>by cases hb
 bs:=I.bs
 tb:=I.tb
 bsz:=nt0 I.ok.bsz I.sz
 noex:=λb o e hb=>by cases hb
 exfs:=λb hb=>by cases hb
 funs:=I.stack
 frf:=I.stkFree
def zY(B:BlkOk X scope js)(I:Inv X pins σ H s)(hd:A.handled=none)(hA:A.frames=some X.stack){v:V}{u:Value}(r:RelV v u)(hx:scope.names.lookup x=some .local){h1:Heap}(k:∀b o,s.heap.get? b=some o->h1.get? b=some o)(hns:h1.Ns s.heap.objs.size λy=>List.lookup y [(x,u)]):
  Inv (mW X A q scope (au X [x] js) f c s H) [] ((dg [x] js σ).set 0 (some v)) H {s with heap:=h1,toks:=tk}:=by
 refine⟨EE B I hd hA,rfl,I.bare,Un.kept k,⟨_,hns,λi y w e1 e2 e3=>?_⟩,λy c e=>?_,I.hok.fresh (nr0 _),λy c e=>I.freeC y c (B.from I e),λp hp=>absurd (show p∈([]:List (Addr×Obj))from hp) (by simp),I.hok.kept k,?_⟩
 .have e1:(au X [x] js)[i]?=some y:=e1
  cases i with
  |zero=>
   cases e1;cases e2;exact⟨u,r,.inl ⟨hx,by simp⟩⟩
  |succ i=>
   have e1:(js.map λj=>X.N.getD j Str.empty)[i]?=some y:=e1;have e2:(js.map λj=>(σ[j]?).join)[i]?=some (some w):=e2;rw[gm0]at e1 e2;cases z:js[i]? with
   |none=>rw[z]at e2;cases e2
   |some j=>
    rw[z]at e1 e2;have e2:(σ[j]?).join=some w:=Option.some.inj e2;obtain⟨y',hy,hyf⟩:=B.js j (mg0 z);have e1:X.N.getD j Str.empty=y:=Option.some.inj e1;have ey:y'=y:=by rw[<-e1,List.getD_eq_getElem?_getD,hy];rfl
    subst ey;have e2':σ[j]?=some (some w):=by
     cases r:σ[j]? with
     |none=>rw[r]at e2;cases e2
     |some o=>rw[r]at e2;cases o with
      |none=>cases e2
      |some v'=>cases e2;rfl
    have hk:=B.free _ (ml0 hyf) rfl;obtain⟨m0,_,hl0⟩:=I.loc;obtain⟨u,r,lk⟩:=hl0 j y' w hy e2' (.inr (.inl hk));refine⟨u,r,?_⟩;rcases lk with⟨z,_⟩|⟨_,c,hc,z⟩
    .rw[hk]at z;cases z
    .obtain⟨c',hc'⟩:=bZ (env:=X.env) scope.names [] y' (.inl (ml0 hyf))
     have:c'=c:=by have:=B.from I hc';rw[hc]at this;exact (Option.some.inj this).symm
     subst this;refine .inr ⟨.inr hyf,c',hc',?_⟩;obtain⟨o,h2,h3⟩:=z;exact⟨o,k _ _ h2,h3⟩
 .obtain⟨v,o,h2,h3⟩:=I.cell y c (B.from I e)
  exact⟨v,o,k _ _ h2,h3⟩
 .show ((dg [x] js σ).set 0 (some v)).length=(au X [x] js).length
  unfold dg au;simp
def wL{Q:VK}(B:BlkOk X scope js)(I:Inv X pins σ H s)(hd:A.handled=none)(hA:A.frames=some X.stack)(hdep:A.depth<recursionLimit)(L:wJ H f q params body scope (bK X.env scope.names []))
  (hb:∀(pm cdv ct u:Value),bindArgs (kla_fn "<lambda>" q params body scope (bK X.env scope.names []) pm cdv ct) ⟨[u],[]⟩=pure [(x,u)]) (hx:scope.names.lookup x=some .local) (hco:scope.isCoroutine=false) (hgen:scope.isGenerator=false) {v:V}{u:Value} (r:RelV v u)
  (h:∀c s1,Inv (mW X A q scope (au X [x] js) f c s H) [] ((dg [x] js σ).set 0 (some v)) H s1->wpAny (model X.prog X.w) (mW X A q scope (au X [x] js) f c s H).A (eval body (mW X A q scope (au X [x] js) f c s H).env) (EP (mW X A q scope (au X [x] js) f c s H) [] ((dg [x] js σ).set 0 (some v)) Q) (λa a=>False) s1):
  wpAny (model X.prog X.w) A (call (.ref f) [u]) (λu' s'=>∃w H',Inv X pins σ H' s'/\Un (frs X.stack) [] H H' s.heap s'.heap/\RelV w u'/\Q w H') (λa a=>False) s:=by
 obtain⟨pm,ctv,c,u',co,vs,t,cu,h1,h2,h3,h4⟩:=L.ex;obtain⟨gf,_⟩:=I.hok f _ h1;obtain⟨gc,_⟩:=I.hok c _ h2;refine wpAny_call (kla_callFunE hdep gf rfl hco hgen rfl ⟨c,co,vs,t,rfl,gc,h3,h4⟩ ?_);rw[hb];refine wq0 ?_;refine wpAny_newFunctionEnv B.cell (λy hy=>?_) (λh' ns same=>?_) B.kind
 .obtain rfl:y=(x,u):=List.mem_singleton.mp hy
  exact hx
 .have keep:∀b o,s.heap.get? b=some o->h'.get? b=some o:=λb o e=>by
   have hne:b≠s.heap.objs.size:=nn0 (hs0 e);exact (same.2 b hne).trans (ps0 _ e)
  refine⟨I.nolimit.keeps keep,kla_codeExpr ?_⟩;refine wpAny_mono (h c _ (zY B I hd hA r hx keep (by simpa using ns))) (λv' s' hq=>?_) λa a z=>z.elim
  obtain⟨w,H',J,rw',hq⟩:=hq;exact⟨w,H',I.call' J.os J.base J.hok J.bare (λb hb=>by cases hb),J.base,rw',hq⟩
end
end L2.Z
namespace L2.Z
open PySem PySem.Spec PyProof.Rows L2 L2.C SI
def kX{prog}{w}{A}{E}{s}{d}{kvs}{ep}{R}(hh:A.handled=none)(lo:(d==sysModules)=false)(hat:s.heap.DictAt (mixKind prog w) d kvs ep)(hn:kvs.length<=sizeLine)
  (h:∀h' tk (acc:Array Value),s.heap.objs.size<=h'.objs.size->(∀b o,s.heap.get? b=some o->h'.get? b=some o)->ItemsOf (λi v=>∃k x,kvs[i]?=some (k,x)/\(mixKind prog w).is k v=true) acc kvs.length->R acc.toList {s with heap:=h',toks:=tk}):
  wpAny (model prog w) A (collect (.ref d)) R E s:=by
 have ltS:=hat.lt_size;have K:=PySem.W.kdl_dict (prog:=prog) (w:=w) (knd:=mixKind prog w) (kvs:=kvs) (ep:=ep) lo;unfold collect;refine wb0 (wpAny_runValue (codeAny_builtin entry_proto_collect' ?_));rw[ui0 PySem.F.plain_proto_collect];show wpAny _ A.in1 (newList [] >>= λl=>again (.builtin "list.__iadd__" ⟨[l,.ref d],[]⟩)) _ _ s;refine wb0 (wpAny_newObj_type (wq0 ⟨plainId_quiet PySem.F.plain_list_iadd _,codeAny_builtin entry_list_iadd' ?_⟩));rw[ui0 PySem.F.plain_list_iadd];have hL:(s.heap.push {cls:=.type "list",data:=.seq ([]:List Value).toArray}).get? s.heap.objs.size=some {cls:=.type "list",data:=.seq #[]}:=pz0 _ rfl
 show wpAny _ A.in1 (Builtin.List.listExtendWith (.ref s.heap.objs.size) (.ref d) (.ref s.heap.objs.size)) _ _ _;refine wpAny_mono (PySem.W.kdl_extend (A:=A) (s:={s with heap:=s.heap.push {cls:=.type "list",data:=.seq ([]:List Value).toArray}})
  (R:=λ(q:Result) (s':Shared)=>∃(h':Heap)(tk:Nat)(acc:Array Value)(c:Nat),q=.ok (.ret (.ref s.heap.objs.size))/\s'={s with heap:=h',toks:=tk}/\(∀b o,s.heap.get? b=some o->h'.get? b=some o)/\h'.get? s.heap.objs.size=some {cls:=.type "list",dict:=none,data:=.seq acc c,slots:=#[]}/\ItemsOf (λi v=>∃k x,kvs[i]?=some (k,x)/\(mixKind prog w).is k v=true) acc kvs.length)
  K hh (K.keep _ _ hat λb a o e=>ps0 _ e) s.heap.objs.size (Nat.ne_of_gt ltS) (Nat.ne_of_gt ltS) (.ref s.heap.objs.size) 0 hL (λh' tk acc c a2 a3 a4=>⟨h',tk,acc,c,rfl,rfl,λb o e=>a2 b o (nn0 (hs0 e)) (ps0 _ e),a3,a4⟩) hn) (λfin s' x=>?_) λe s' x=>?_
 .cases fin with
  |done f=>
   obtain⟨h',tk,acc,c,e,rfl,a2,a3,a4⟩:=x;cases e;show wpAny (model prog w) A (load s.heap.objs.size >>= _) _ _ _;refine wb0 (wpAny_load a3 (wq0 ?_));exact h h' tk acc (Nat.le_of_lt (hs0 a3)) a2 a4
  |again c1=>
   refine⟨x.1,codeAny_mono x.2 λq s2 y=>?_⟩;obtain⟨h',tk,acc,c,rfl,rfl,a2,a3,a4⟩:=y;show wpAny (model prog w) A (load s.heap.objs.size >>= _) _ _ _;refine wb0 (wpAny_load a3 (wq0 ?_));exact h h' tk acc (Nat.le_of_lt (hs0 a3)) a2 a4
 .obtain⟨_,_,_,_,z,_⟩:=x
  cases z
end L2.Z
namespace L2.Z
open PySem PySem.W PySem.Calls PyProof.Rows L2 L2.C SI
section
variable {A:Around}{E:Value->Shared->Prop}
def qM(prog:Program)(w:World)(A:Around)(s:Shared)(l:Addr)(xs:List V):Prop:=∀(E:Value->Shared->Prop)(Q:List Value->Shared->Prop),(∀h' tk vs,Vals xs vs->s.heap.objs.size<=h'.objs.size->(∀b o,s.heap.get? b=some o->h'.get? b=some o)->Q vs {s with heap:=h',toks:=tk})->wpAny (model prog w) A (collect (.ref l)) Q E s
def jh{lt:Nat->Nat->Bool}(O:LtO lt){Z:SortKind}{xs:List V}{f:Value}{b:Bool}{kw:List (Str×Value)}(hl:qM prog w A.in1 s l xs)(h64:xs.length<64)
  (hw1:argsOk "sorted" ⟨[.ref l],kw⟩) (hw2:∀x:Addr,argsOk "list.sort" ⟨[.ref x],kw⟩) (hw3:∀x:Addr,Builtin.«list.sort» ⟨[.ref x],kw⟩=ksk_tree x f b)
  (J:Addr->Addr->List Value->Shared->Prop) (hJ:∀vs D kS,Vals xs vs->s.heap.objs.size<=D->D<kS->Keyed prog w A.in1.in1 D vs f Z lt b kS (J D kS))
  (h0:∀D kS h' tk,s.heap.objs.size<=D->D<kS->(∀c o,s.heap.get? c=some o->h'.get? c=some o)->s.heap.objs.size<=h'.objs.size->J D kS [] {s with heap:=h',toks:=tk})
  (h:∀vs D kS ks s' m p,Vals xs vs->s.heap.objs.size<=D->D<kS->ks.length=vs.length->J D kS ks s'->s'.heap.get? D=some (seqObj "list" (katRev b (byP (katRev b vs) p)).toArray m)->aS lt vs.length p->Q (.ref D) s'):
  wpAny (model prog w) A (call (.builtin "sorted") [.ref l] kw) Q E s:=by
 refine call_function_entry_kw kind_sorted plain_sorted entry_sorted hw1 ?_;unfold Builtin.«sorted»;refine wb0 (m:=checkCount "sorted" 1 1 _) (wq0 ?_);refine wb0 (hl _ _ λh1 tk vs rv z1 k1=>?_);have h64:vs.length<64:=by rw[<-rv.length];exact h64
 refine wb0 (wpAny_newList ?_ (by rw[sizeLine_eq];omega));have hoL:(h1.push (seqObj "list" vs.toArray 0)).get? h1.objs.size=some (seqObj "list" vs.toArray 0):=pz0 _ rfl;have hz2:(h1.push (seqObj "list" vs.toArray 0)).objs.size=h1.objs.size+1:=size_push' _ _;have keep:∀b o,s.heap.get? b=some o->(h1.push (seqObj "list" vs.toArray 0)).get? b=some o:=λb o q=>ps0 _ (k1 b o q)
 have kk:∀c o,s.heap.get? c=some o->c≠h1.objs.size:=λc o q=>nn0 (hs0 (k1 c o q))
 show wpAny _ _ _ _ _ {s with heap:=h1.push (seqObj "list" vs.toArray 0),toks:=tk};generalize h1.push (seqObj "list" vs.toArray 0)=h2 at hoL hz2 keep ⊢;have hDk:∀kS,h2.objs.size<=kS->h1.objs.size<kS:=λkS q=>by rw[hz2]at q;exact q
 refine wb0 (wh0 (wpAny_call_entry_kw slot_list_sort ⟨_,hoL,rfl⟩ entry_list_sort (by
  rw[hw3];refine pw (s:={s with heap:=h2,toks:=tk}) O hoL h64 (J h1.objs.size) (λkS q=>hJ _ _ kS rv z1 (hDk kS q)) (λkS h' q k1 k2=>h0 _ kS h' tk z1 (hDk kS q) (λc o e=>k1 c o (kk c o e) (keep c o e)) (nt0 z1 (nt0 (by rw[hz2];exact Nat.le_succ _) k2))) λkS ks s' m p q e j g io=>⟨_,rfl,?_⟩
  exact wq0 ⟨_,rfl,h _ _ kS ks s' m p rv z1 (hDk kS q) e j g io⟩) (hw2 _)))
end
section
variable {A:Around}
def pF{xs:List V}(I:Inv X pins σ H s)(hl:SqL X.K H l xs)(h64:xs.length<64):qM X.prog X.w A s l xs:=λE Q h=>by
 obtain⟨vs,rv,hl,_⟩:=I.list hl;refine collect_list hl.isList ?_ (by rw[<-rv.length,sizeLine_eq];omega);exact h _ s.toks vs rv (by rw[Heap.size_update,size_push'];exact Nat.le_succ _) λb o q=>by
  have hlt:b<s.heap.objs.size:=hs0 q;rw[Heap.get?_update_ne _ _ _ _ (nn0 hlt),Heap.get?_push_ne _ _ _ (nn0 hlt)];exact q
def pH(I:Inv X pins σ H s)(hA:A.handled=none)(hl:H l=some (.dK ws))(hk:ws.map (·.1)=ss.map .inr)(h64:ss.length<64):qM X.prog X.w A s l (ss.map V.str):=λE Q h=>by
 obtain⟨_,lo,vs,kv,hD⟩:=(show ObjOk X.prog X.w H s.heap l (.dK ws)from I.hok l _ hl);obtain⟨ep,hat⟩:=hD.dictAt;have hk:=kv.keys.symm.trans hk;have kl:vs.length=ss.length:=by simpa using congrArg List.length hk
 refine kX hA lo hat (by rw[kl,sizeLine_eq];omega) λh1 tk acc sz k1 hacc=>h h1 tk _ (cN (qv ?_ λj v i a b=>?_)) sz k1
 .rw[al0,hacc.1,kl]
 .obtain⟨k,x,e1,e2⟩:=hacc.2 j v (by simpa using a)
  have e3:=congrArg (·[j]?) hk;simp[e1,b]at e3;subst e3;exact jF e2
end
end L2.Z
namespace L2.Z
open PySem PySem.W PySem.Spec PySem.Calls PyProof.Rows L2 L2.C SI
def wM(X:Cx)(pins:List (Addr×Obj))(b:Addr):Prop:=X.s₀.heap.objs.size<=b/\b≠X.env.locals/\(∀x c,X.env.cells.lookup x=some c->c≠b)/\(∀p∈X.pn++pins,p.1≠b)/\b∉X.fs
def zZ(I:Inv X pins σ H s){b:Addr}(hb:s.heap.objs.size<=b):wM X pins b:=by
 refine⟨nt0 I.sz hb,Nat.ne_of_gt (nl0 I.lt hb),λx c e z=>?_,λp hp z=>?_,I.nofs hb⟩
 .obtain⟨v,o,h2,h3⟩:=I.cell x c e
  exact absurd (nl0 (hs0 h2) hb) (by rw[z];exact li0 _)
 .obtain⟨e,_⟩:=I.pin p hp
  exact absurd (nl0 (hs0 e) hb) (by rw[z];exact li0 _)
def mX(I:Inv X pins σ H s){ch:List Addr}(hc:∀b∈ch,wM X pins b/\H b=none)(k:∀b o,b∉ch->s.heap.get? b=some o->h'.get? b=some o)(hH:∀b,b∉ch->H' b=H b)(new:∀b∈ch,∀o,H' b=some o->ObjOk X.prog X.w H' h' b o):
  Inv X pins σ H' {s with heap:=h',toks:=t'}:=by
 have nc:∀b o,H b=some o->b∉ch:=λb o e hb=>by rw[(hc b hb).2]at e;cases e
 have same:∀b o,H b=some o->H' b=some o:=λb o e=>(hH b (nc b o e)).trans e
 refine I.step (g':=s.gens) (d':=s.drawn) (ch:=ch) (λb hb=>?_) (λb o a a hb e a=>k b o hb e) (λb o a a hb e a=>⟨o.slots,k b o hb e⟩) (λb o hb e n=>(hH b hb).trans n) (λb o hb e=>⟨o,k b o hb e⟩) (λb xs e=>same _ _ e) (λb o u e=>same _ _ e) (λb n ps e=>⟨#[],by rw[same _ _ e];simp⟩) (λm hm=>?_) (λb o e=>?_) I.bare
 .obtain⟨⟨h1,h2,h3,h4,_⟩,_⟩:=hc b hb
  exact⟨.inr h1,h2,h3,h4⟩
 .obtain⟨o,es,ep,e,r⟩:=hm
  exact⟨o,es,ep,k _ _ (λhb=>(hc _ hb).1.2.1 rfl) e,r⟩
 .by_cases hb:b∈ch
  .exact new b hb o e
  .rw[hH b hb]at e
   refine (I.hok b o e).stay (λd v hd q=>k d v (λz=>?_) q) (λd q=>same _ _ q) λd o a q=>same _ _ q
   rcases hd with rfl|hd
   .exact hb z
   .exact nc _ _ hd z
def Hk(X:Cx)(C:Addr)(U:List (List D))(H H':Hp):Prop:=(∀b o,H b=some o->(∀n ps,o≠.tbl n ps)->H' b=some o)/\∀G d,Same G (er H (parts d))->VS X.prog X.w X.K C G H d U->VS X.prog X.w X.K C G H' d U/\MExt G H d G H' d
structure wN(X:Cx)(C:Addr)(U:List (List D))(kv:Expr)(Kf:Addr->Hp->Prop)(zs:List (List Str×D)):Prop where
 made:PE X kv (λa H Q=>∀f H',Hk X C U H H'->Kf f H'->Q (.ref f) H')
 stay:∀{f H H' fs h h'},Un fs [] H H' h h'->Kf f H->Kf f H'
 call:∀z∈zs,∀{f pins s σ H G v u},Inv X pins σ H s->Same G H->Kf f H->Dp X.K G z.2 v->RelV v u->wpAny (model X.prog X.w) X.A.in1.in1 (call (.ref f) [u]) (λu' s'=>∃w G' H',Inv X pins σ H' s'/\Un (frs X.stack) [] H H' s.heap s'.heap/\RelV w u'/\Ext G H G' H'/\Dp X.K G' (.list (z.1.map .str)) w) (λa a=>False) s
noncomputable def dA:D->Option (List D)
 |.list ds=>some ds
 |.dict kvs=>(bN kvs).map λss=>ss.map .str
 |_=>none
section
variable {kv:Expr}{C:Addr}{U:List (List D)}{p:Pos}{e:D}{zs:List (List Str×D)}{Kf:Addr->Hp->Prop}
def wO{G H2:Hp}{v:V}{A:Around}(I:Inv X pins σ H2 s)(hA:A.handled=none)(sm:Same G H)(r:Dr X.K G H d v)(k:∀b o,H b=some o->(∀n ps,o≠.tbl n ps)->H2 b=some o)(hi:dA d=some ds)(hz:ds.length<64):∃l xs,v=.ref l/\Dps X.K G ds xs/\qM X.prog X.w A s l xs:=by
 cases d with
 |list ls=>
  cases hi;obtain⟨l,xs,rfl,h1,h2⟩:=r.lst sm;exact⟨l,xs,rfl,h2,pF I (SqL.of (k _ _ h1 λa a=>nofun)) (by rw[<-h2.length];exact hz)⟩
 |dict kvs=>
  obtain⟨ss,h3,rfl⟩:=mS (show (bN kvs).map _=some ds from hi);obtain⟨l,ws,rfl,h1,h2⟩:=r.dct sm;exact⟨l,_,rfl,ir (dt h3).2,pH I hA (k _ _ h1 λa a=>nofun) (h2.keys.symm.trans (dt h3).1) (by simpa using hz)⟩
 |_=>cases hi
def qN(hcalm:X.calm=true)(hu:X.A.in1.in1.units<cLine)(B:Blt X "sorted")(ha:Er X (Y.map (vE C U)) a d)(hs:isStar a=false)(hi:dA d=some (zs.map (·.2)))(hz:gC zs=some e)(K:wN X C U kv Kf zs):EvM X C Y U (.Call (.Name "sorted" p) [a] [⟨some "key",kv,kp⟩] pos) (.ok e) U:=by
 obtain⟨hz64,nd,rfl⟩:=qG hz;clear hz;intro pins s σ H Q I h0;obtain⟨G0,H0,d0,G,dd,E,k⟩:=h0;refine wpAny_Call_Name_kw (ld_blt I B.g B.m rfl ?_ (by decide) (by decide));refine callWith_kw (thn (ay ha aT (af hs) pos pins s σ H (λvs H1=>∃v G1,vs=[v]/\Ext G H G1 H1/\Dr X.K G1 H1 d v) I ⟨G,H,G,E.view,λv G1 H1 e1 r1=>⟨v,G1,rfl,e1,r1⟩⟩) λus s1 h1=>?_) (by rw[af hs];rfl) (by rw[af hs];rfl) rfl rfl;obtain⟨vs1,H1,I1,r1,v,G1,rfl,e1,dr⟩:=h1;refine thn (yw K.made Cv pos pins s1 σ H1 (λzs H2=>∃f,zs=[.ref f]/\Hk X C U H1 H2/\Kf f H2) I1 λf H' l la=>⟨f,rfl,l,la⟩) λws s2 h2=>?_
 obtain⟨zs',H2,I2,r2,f,rfl,kh,kf⟩:=h2;obtain⟨u,rfl,ru⟩:=vals1 r1;obtain⟨u2,rfl,ru2⟩:=vals1 r2;cases ru2;obtain⟨v2,m2⟩:=kh.2 G1 dd (E.vs.mext E.sub' e1).gh (E.vs.step e1);have m1:=(E.vs.mext E.sub' e1).trans m2;have sm2:Same G1 H2:=m2.gh.trans az;have hh:=I2.ok.hd hcalm;obtain⟨l,xs,rfl,dx,cl⟩:=wO (A:=X.A.in1) I2 hh e1.gh dr kh.1 hi (by simpa using hz64);cases ru;have xl:xs.length=zs.length:=by rw[<-dx.length];simp
 have oD:∀{b:Addr},s2.heap.objs.size<=b->wM X pins b:=λhb=>zZ I2 hb
 let J:Addr->Addr->List Value->Shared->Prop:=λD kS ks s'=>∃G' H',Inv X pins σ H' s'/\Ext G1 H2 G' H'/\H' D=none/\H' kS=none/\Kf f H'/\∀(i:Nat) k,ks[i]?=some k->∃b,k=.ref b/\H' b=some (.lst ((atZ zs i).1.map .str))
 have isl:∀{D kS:Addr}{ks:List Value}{s':Shared},J D kS ks s'->∀(i:Nat) k,ks[i]?=some k->vX s'.heap (atZ zs i).1 k:=λ{D kS ks s'} hJ i k e1=>by
  obtain⟨G',H',I',_,_,_,_,hks⟩:=hJ;obtain⟨b,rfl,e⟩:=hks i k e1;obtain⟨_,its,n,rv,ho⟩:=(show ObjOk X.prog X.w H' s'.heap b (.lst _)from I'.hok b _ e);exact⟨b,n,its,rfl,ho,cL rv⟩
 refine jh (Z:=oneType') (lt:=λi j=>ltL (atZ zs i).1 (atZ zs j).1) (b:=false) (f:=.ref f) (gM _) cl (by omega) rfl (λc=>rfl) (λc=>rfl) J (λvs D kS rv hD hDk=>⟨λ{ks s' h'} hJ kk sz=>?_,λ{ks s' v} hv hJ hS hDD=>?_,λ{ks s'} h2 hl hJ R r=>?_,λ{ks s'} hl hJ i j hi hj R r=>?_⟩) (λD kS h' tk hD hDk kk sz=>?_) λvs D kS ks s' m p rv hD hDk hl hJ g io=>?_
 .obtain⟨G',H',I',a1,a3,a4,a5,a6⟩:=hJ
  refine⟨G',H',mX I' (ch:=[D,kS]) (λb hb=>?_) (λb o hb e=>kk b o (λz=>hb (by simp[z])) (λz=>hb (by simp[z])) e) (λc c=>rfl) (λb hb o e=>?_),a1,a3,a4,a5,a6⟩
  .simp at hb
   rcases hb with rfl|rfl
   .exact⟨oD hD,a3⟩
   .exact⟨oD (Nat.le_of_lt (Nat.lt_of_le_of_lt hD hDk)),a4⟩
  .simp at hb
   rcases hb with rfl|rfl
   .rw[a3]at e;cases e
   .rw[a4]at e;cases e
 .obtain⟨G',H',I',a1,a3,a4,a5,a6⟩:=hJ
  have hlt:ks.length<zs.length:=by have:=(gi0 hv).1;rw[<-rv.length,xl]at this;exact this
  obtain⟨x,hx,hd⟩:=Dps.get (k:=ks.length) dx (show (zs.map (·.2))[ks.length]?=some (atZ zs ks.length).2 by simp[atZ,List.getD,hlt]);obtain⟨u,hu1,hu2⟩:=rv.get hx;rw[hv]at hu1;cases hu1;refine wpAny_mono (K.call (atZ zs ks.length) (by simp[atZ,List.getD,hlt]) I' a1.gh a5 (hd.mono a1.gg) hu2) (λk s'' hq=>?_) λc c z=>z
  obtain⟨w,G'',H'',I'',un,rw',x2,dp⟩:=hq;obtain⟨oS,gS⟩:=hS;obtain⟨oD',gD⟩:=hDD;have nf:∀b,wM X pins b->b∉frs X.stack:=λb o z=>(mq0 (I'.stkSub b z)).elim o.2.1 o.2.2.2.2
  have oS':wM X pins kS:=oD (Nat.le_of_lt (Nat.lt_of_le_of_lt hD hDk));refine⟨⟨G'',H'',I'',a1.trans x2,un.free D _ gD a3 (by simp),un.free kS _ gS a4 (by simp),K.stay un a5,λi k' e1'=>?_⟩,λo e=>un.keep kS o e a4 (nf _ oS') (by simp),λo e=>un.keep D o e a3 (nf _ (oD hD)) (by simp)⟩
  by_cases hi:i<ks.length
  .rw[gl0 hi]at e1'
   obtain⟨b',rfl,e⟩:=a6 i k' e1';exact⟨b',rfl,x2.hh _ _ e⟩
  .have:i=ks.length:=by
    have:=(gi0 e1').1;simp at this;omega
   subst this;simp at e1';subst e1';cases dp with
   |@list b ws _ q1 q2=>
    cases rw';obtain⟨rfl,_⟩:=iq (ys:=(atZ zs ks.length).1) (aK _) q2;exact⟨b,rfl,x2.gh _ _ q1⟩
 .refine wpAny_mono (zv (by rw[hl];exact h2) (λk hk=>?_) r) (λc c z=>z) λc c z=>z
  obtain⟨i,hi⟩:=List.getElem?_of_mem hk;exact⟨_,isl hJ i k hi⟩
 .have key:∀i,i<vs.length->vX s'.heap (atZ zs i).1 (ks.getD i .none):=λi hi=>isl hJ i _ (by simp[List.getD,show i<ks.length by omega])
  exact GY hu (key i hi) (key j hj) r
 .exact⟨G1,H2,I2.kept (t':=tk) kk,.refl sm2,I2.hok.fresh hD,I2.hok.fresh (Nat.le_of_lt (Nat.lt_of_le_of_lt hD hDk)),kf,λi k e=>by simp at e⟩
 .obtain⟨G',H',I',a1,a3,a4,a5,a6⟩:=hJ
  rw[<-rv.length,xl]at io;have e:=iI nd io;have lt:∀i∈p,i<zs.length:=λi hi=>List.mem_range.mp (io.1.mem_iff.mp hi)
  have pl:p.length=zs.length:=by simpa using io.1.length_eq
  rw[<-e,List.map_map]at k;have dp:=pA (dx.mono a1.gg) p λi hi=>by simpa using lt i hi
  have e2:(p.map λi=>(zs.map (·.2)).getD i .none)=p.map ((λx=>x.2) ∘ atZ zs):=List.map_congr_left λi hi=>by
   have:=lt i hi;simp[atZ,List.getD,this]
  rw[e2]at dp;have v3:=v2.step a1;have e3:Ext G' H' (upd G' D (.lst (p.map λi=>xs.getD i .non))) (upd H' D (.lst (p.map λi=>xs.getD i .non))):=.laid a1.gh a3;refine⟨.ref D,_,mX (t':=s'.toks) I' (ch:=[D]) (H':=upd H' D (.lst (p.map λi=>xs.getD i .non))) (λb hb=>?_) (λb o c e=>e) (λb hb=>aa λz=>hb (by simp[z])) (λb hb o e=>?_),rfl,k _ _ _ dd ((m1.trans (v2.mext m2.gh a1)).trans (v3.mext (v2.mext m2.gh a1).gh e3)) (v3.step e3) (.list ae (dp.mono (av (a1.gh.free a3))))⟩
  .obtain rfl:b=D:=by simpa using hb
   exact⟨oD hD,a3⟩
  .obtain rfl:b=D:=by simpa using hb
   rw[ae]at e;cases e;exact⟨by simp[pl,sizeLine_eq];omega,_,m,kQ rv p (λi hi=>by rw[xl];exact lt i hi),by simpa [katRev]using g⟩
end
end L2.Z
namespace L2.Z
open PySem PySem.Spec PyProof.Rows L2 L2.C SI
noncomputable abbrev Ust:=List (List D)
noncomputable abbrev FsM:=Str->Option FnM
noncomputable def qO:Option Sl->Option Nat
 |some (.dat (.hdl h))=>some h
 |_=>none
noncomputable def EF:Bool->Option Sl->Option D
 |true,some sl=>aJ .read sl
 |false,some (.dat d)=>some d
 |_,_=>none
@[simp] noncomputable def qP(d:D):Rs->Rs
 |.ok ds=>.ok (d::ds)
 |.exc c=>.exc c
noncomputable def Hl:D->Option (List D)
 |.list ds=>some ds
 |.tuple ds=>some ds
 |_=>none
noncomputable def okR:R×Ust->Option (D×Ust)
 |(.ok d,U)=>some (d,U)
 |_=>none
noncomputable def goR(z:R×Ust)(f:D->Ust->Option (R×Ust)):Option (R×Ust):=match z.1 with
 |.ok d=>f d z.2
 |.exc x=>some (.exc x,z.2)
noncomputable def okL:R×Ust->Option (List D×Ust)
 |(.ok (.list ds),U)=>some (ds,U)
 |_=>none
noncomputable def Hm(q:Rs×Ust):Option (R×Ust):=match q.1 with
 |.ok ds=>if ds.length<=1000 then some (.ok (.tuple ds),q.2)else none
 |.exc _=>none
noncomputable def Bo:D->Option (List Str)
 |.list ds=>strsOf ds
 |_=>none
noncomputable def gr(f:D->Option D):List D->Option (List (List Str×D))
 |[]=>some []
 |x::r=>(f x).bind λd=>(Bo d).bind λk=>(gr f r).map ((k,x)::·)
noncomputable abbrev M:=Fs->FsM->List (Str×D)->Nat->List Sl->Ust->Option (R×Ust)
inductive Ms where
 |nil
 |va (i:Nat) (r:Ms)
 |ex (a:M) (r:Ms)
noncomputable def evM(Z:Fs)(J:FsM)(Γ:List (Str×D))(c:Nat)(Y:List Sl)(U:Ust)(e:M):Option (R×Ust):=e Z J Γ c Y U
noncomputable def exR(z:R×Ust)(f:D->Ust->Option (Rs×Ust)):Option (Rs×Ust):=match z.1 with
 |.ok d=>f d z.2
 |.exc x=>some (.exc x,z.2)
noncomputable def Hn(L:FnM)(h:Nat)(q:Rs×Ust):Option (R×Ust):=match q.1 with
 |.ok ds=>(L.run q.2 (.hdl h::ds)).map λz=>(z.2,z.1)
 |.exc _=>none
@[simp] noncomputable def tE(Z:Fs)(J:FsM)(Γ:List (Str×D))(c:Nat)(fl:List Bool)(Y:List Sl)(U:Ust):Ms->Option (Rs×Ust)
 |.nil=>some (.ok [],U)
 |.va i r=>(EF (fl.headD false) Y[i]?).bind λd=>(tE Z J Γ c fl.tail Y U r).map λq=>(qP d q.1,q.2)
 |.ex a r=>(evM Z J Γ c Y U a).bind λz=>exR z λd U'=>(tE Z J Γ c fl.tail Y U' r).map λq=>(qP d q.1,q.2)
namespace M
@[simp] noncomputable def p(e:E):M|Z,J,Γ,c,Y,U=>(ev Z Γ .val (Y.map (vE c U)) e).map λd=>(.ok d,U)
@[simp] noncomputable def call(f:Str)(as:Ms):M|Z,J,Γ,c,Y,U=>(J f).bind λL=>(tE Z J Γ c L.lent Y U as).bind λq=>(EC L.run q.1 q.2).map λz=>(z.2,z.1)
@[simp] noncomputable def meth(m:Str)(i:Nat)(as:Ms):M|Z,J,Γ,c,Y,U=>(J (aq m)).bind λL=>(qO Y[i]?).bind λh=>(tE Z J Γ c L.lent.tail Y U as).bind λq=>Hn L h q
@[simp] noncomputable def new:M|Z,J,Γ,c,Y,U=>some (.ok (.hdl U.length),U++[[]])
@[simp] noncomputable def tup(as:Ms):M|Z,J,Γ,c,Y,U=>(tE Z J Γ c [] Y U as).bind Hm
@[simp] noncomputable def cmp(o:Cop)(a:M)(b:E):M|Z,J,Γ,c,Y,U=>(evM Z J Γ c Y U a).bind λz=>goR z λd U'=>(ev Z Γ .read (Y.map (vE c U')) b).bind λe=>(cb o d e).map λt=>(.ok (.bool t),U')
@[simp] noncomputable def srtl(a b:E):M|Z,J,Γ,c,Y,U=>(ev Z Γ .read (Y.map (vE c U)) a).bind λd=>(dA d).bind λds=>(gr (λx=>ev Z Γ .val [.dat x] b) ds).bind λzs=>(gC zs).map λe=>(.ok e,U)
@[simp] noncomputable def srtf(a:E)(f:Str):M|Z,J,Γ,c,Y,U=>(ev Z Γ .read (Y.map (vE c U)) a).bind λd=>(dA d).bind λds=>(Z f).bind λL=>if L.lent.length=1 then (gr (λx=>L.run [x]) ds).bind λzs=>(gC zs).map λe=>(.ok e,U)else none
@[simp] noncomputable def comp(nt:Nat)(js:List Nat)(tg:Tg)(src elt:M):M|Z,J,Γ,c,Y,U=>(evM Z J Γ c Y U src).bind λz=>(okL z).bind λz=>if z.1.length<big then (iK (λd U'=>(ai tg d (blk nt js Y)).bind λY'=>(evM Z J Γ c Y' U' elt).bind okR) z.1 z.2).map λq=>(.ok (.list q.1),q.2)else none
end M
section
variable {J:FsM}{c:Nat}{U:Ust}
@[simp] def m_p{e:E}: evM Z J Γ c Y U (.p e)=M.p e Z J Γ c Y U:=(rfl)
@[simp] def JX{f:Str}{as:Ms}: evM Z J Γ c Y U (.call f as)=M.call f as Z J Γ c Y U:=(rfl)
@[simp] def JY{as:Ms}: evM Z J Γ c Y U (.meth m i as)=M.meth m i as Z J Γ c Y U:=(rfl)
@[simp] def LB:evM Z J Γ c Y U .new=M.new  Z J Γ c Y U:=(rfl)
@[simp] def LC{as:Ms}: evM Z J Γ c Y U (.tup as)=M.tup as Z J Γ c Y U:=(rfl)
@[simp] def LD{o:Cop}{a:M}{b:E}:evM Z J Γ c Y U (.cmp o a b)=M.cmp o a b Z J Γ c Y U:=(rfl)
@[simp] def JZ{a b:E}:evM Z J Γ c Y U (.srtl a b)=M.srtl a b Z J Γ c Y U:=(rfl)
@[simp] def Ka{a:E}{f:Str}:evM Z J Γ c Y U (.srtf a f)=M.srtf a f Z J Γ c Y U:=(rfl)
@[simp] def Kb{nt:Nat}{tg:Tg}{src elt:M}: evM Z J Γ c Y U (.comp nt js tg src elt)=M.comp nt js tg src elt Z J Γ c Y U:=(rfl)
end
abbrev Ms.G(x:M):Ms:=.ex x .nil
abbrev Ms.W(i:Nat):Ms:=.va i .nil
noncomputable def tF(f:D->OM)(Y:List Sl):R->OM
 |.ok d=>f d
 |.exc x=>.exc x Y
noncomputable def Bp(o:Out)(U:Ust):Option (OM×Ust):=match o with
 |.nx Y=>if Y.all eL then some (.nx Y,U)else none
 |.rt _=>none
noncomputable abbrev SM:=Fs->FsM->List (Str×D)->Nat->List Sl->Ust->Option (OM×Ust)
inductive SMs where
 |nil
 |cons (s:SM) (r:SMs)
noncomputable def exM(Z:Fs)(J:FsM)(Γ:List (Str×D))(c:Nat)(Y:List Sl)(U:Ust)(s:SM):Option (OM×Ust):=s Z J Γ c Y U
@[simp] noncomputable def bM(Z:Fs)(J:FsM)(Γ:List (Str×D))(c:Nat)(Y:List Sl)(U:Ust):SMs->Option (OM×Ust)
 |.nil=>some (.nx Y,U)
 |.cons s r=>(exM Z J Γ c Y U s).bind λq=>q.1.andThen (λY'=>bM Z J Γ c Y' q.2 r) q.2
namespace SM
@[simp] noncomputable def set(i:Nat)(e:M):SM|Z,J,Γ,c,Y,U=>(evM Z J Γ c Y U e).map λz=>(tF (λd=>.nx (Y.set i (.dat d))) Y z.1,z.2)
@[simp] noncomputable def expr(e:M):SM|Z,J,Γ,c,Y,U=>(evM Z J Γ c Y U e).map λz=>(tF (λa=>.nx Y) Y z.1,z.2)
@[simp] noncomputable def ret(e:M):SM|Z,J,Γ,c,Y,U=>(evM Z J Γ c (Y.map freeze) U e).map λz=>(tF .rt (Y.map freeze) z.1,z.2)
@[simp] noncomputable def ifs(t:E)(a b:SMs):SM|Z,J,Γ,c,Y,U=>(ev Z Γ .test (Y.map (vE c U)) t).bind λd=>(asB d).bind λt=>if t then bM Z J Γ c Y U a else bM Z J Γ c Y U b
@[simp] noncomputable def fors(tg:Tg)(src:I)(body:SMs):SM|Z,J,Γ,c,Y,U=>(evI Z Γ .walk Y src).bind λds=>forM (ai tg) (λY' U'=>bM Z J Γ c Y' U' body) ds Y U
@[simp] noncomputable def pass:SM|Z,J,Γ,c,Y,U=>some (.nx Y,U)
@[simp] noncomputable def pure(s:S):SM|Z,J,Γ,c,Y,U=>(ex Z Γ Y s).bind λo=>Bp o U
end SM
section
variable {J:FsM}{c:Nat}{U:Ust}{x:Nat}{q:Ust}
@[simp] def Kc{e:M}: exM Z J Γ c Y U (.set i e)=SM.set i e Z J Γ c Y U:=(rfl)
@[simp] def IT{e:M}: exM Z J Γ c Y U (.expr e)=SM.expr e Z J Γ c Y U:=(rfl)
@[simp] def Kd{e:M}: exM Z J Γ c Y U (.ret e)=SM.ret e Z J Γ c Y U:=(rfl)
@[simp] def Ke{t:E}{a b:SMs}: exM Z J Γ c Y U (.ifs t a b)=SM.ifs t a b Z J Γ c Y U:=(rfl)
@[simp] def IU{tg:Tg}{src:I}{body:SMs}: exM Z J Γ c Y U (.fors tg src body)=SM.fors tg src body Z J Γ c Y U:=(rfl)
@[simp] def IV:exM Z J Γ c Y U .pass=SM.pass  Z J Γ c Y U:=(rfl)
@[simp] def IW{s:S}: exM Z J Γ c Y U (.pure s)=SM.pure s Z J Γ c Y U:=(rfl)
@[simp] def LF{f:D->Ust->Option (Rs×Ust)}:exR (.ok d,U) f=f d U:=(rfl)
@[simp] def LG{f:D->Ust->Option (Rs×Ust)}:exR (.exc x,U) f=some (.exc x,U):=(rfl)
@[simp] def Kg{L:FnM}{h:Nat}:Hn L h (.ok ds,U)=(L.run U (.hdl h::ds)).map λz=>(z.2,z.1):=(rfl)
end
abbrev SMs.A(x:SM):SMs:=.cons x .nil
abbrev SMs.B(x y:SM):SMs:=.cons x (.A y)
structure cq where
 lent:List Bool
 slots:Nat
 body:SMs
noncomputable def mY:OM->R
 |.nx _=>.ok .none
 |.rt d=>.ok d
 |.exc c _=>.exc c
@[simp] noncomputable def startM(d:cq)(ds:List D):List Sl:=bV ⟨d.lent,d.slots,.nil⟩ ds
noncomputable def runM(Z:Fs)(J:FsM)(Γ:List (Str×D))(c:Nat)(d:cq):FnM:=⟨d.lent,λU ds=>if ds.length=d.lent.length then (bM Z J Γ c (startM d ds) U d.body).map λq=>(q.2,mY q.1)else none⟩
noncomputable def iL(J0:FsM)(prog:List (Str×Def))(progM:List (Str×cq))(Γ:List (Str×D))(c:Nat):Nat->FsM
 |0,f=>J0 f
 |k+1,f=>match J0 f with
  |some L=>some L
  |none=>(progM.lookup f).map (runM (den prog Γ k) (iL J0 prog progM Γ c k) Γ c)
structure Cm where
 cs:Cs
 c:Nat
 mfs:List Str
 mms:List Str
 vn:Str
 lam:Option (Nat×Str):=none
noncomputable def Aa(C:Cm):Expr->Bool
 |.Call (.Name f _) _ _ _=>C.mfs.contains f||f==C.vn
 |.Call (.Attribute (.Name _ _) m _) _ _ _=>C.mms.contains m
 |_=>false
noncomputable def Kh(C:Cm):Expr->Bool
 |.Tuple es _ _=>es.any (Aa C)
 |e=>Aa C e
structure pI where
 fns:List Str
 cst:List Str
 c:Nat
 vms:List Str
 mfs:List Str
 mms:List Str
 vn:Str
noncomputable def Ab(V:pI)(lm:Option (Nat×Str))(ps:List Str)(body:List Stmt)(sc:Scope):Cm:=⟨uI V.fns V.cst ps body sc (some V.c) V.vms,V.c,V.mfs,V.mms,V.vn,lm⟩
end L2.Z
namespace L2.Z
open PySem PySem.W PySem.Spec PySem.Calls PyProof.Rows L2 L2.C SI
def VS.lam{C:Addr}{G:Hp}{d:Vd}{U:List (List D)}{t:Addr}{q:Str}(v:VS P w K C G H d U)(s:Same G (er H (parts d)))(hp:(t,q)∈lamTs)(l:Hj H H' t q):VS P w K C G H' d U/\MExt G H d G H' d:=by
 have tp:t∈parts d:=List.mem_append_left _ (List.mem_map.mpr ⟨_,hp,rfl⟩);obtain⟨⟨ps,hP⟩,ps',hP'⟩:=l.tab;have np:∀b o,H b=some o->(∀n ps,o≠.tbl n ps)->H' b=some o:=λb o e n=>l.keep b o (λz=>by rw[z,hP]at e;exact n _ _ (Option.some.inj e).symm) e
 have hh:Same (er H (parts d)) (er H' (parts d)):=λb o e=>by
  obtain⟨e1,e2⟩:=aH e;rw[ax e1];exact l.keep b o (λz=>e1 (by rw[z];exact tp)) e2
 refine⟨⟨v.len,v.nd,λh a b n e=>?_,λa C' dx fs e=>?_,v.out,λp hp'=>?_⟩,⟨Same.refl _,hh,s.trans hh,λc c h c=>h,List.prefix_refl _,λb o e=>?_⟩⟩
 .obtain⟨dx,objs,h1,h2,h3,as,h4,h5,h6,h7⟩:=v.at' h a b n e
  exact⟨dx,objs,h1,h2,np _ _ h3 λc c=>nofun,as,np _ _ h4 λc c=>nofun,h5,np _ _ h6 λc c=>nofun,h7⟩
 .rcases l.new a _ e with z|z|⟨_,_,_,z⟩
  .exact v.uni a C' dx fs z
  .rw[z,hP']at e;cases e
  .cases z
 .obtain⟨ps2,z⟩:=v.tb p hp'
  by_cases y:p.1=t
  .rw[y,hP]at z;cases z
   exact⟨ps',by rw[y,hP']⟩
  .exact⟨ps2,l.keep _ _ y z⟩
 .by_cases y:b=t
  .rw[y];exact⟨_,hP'⟩
  .exact⟨o,l.keep b o y e⟩
structure Ho(X:Cx)(params:Arguments)(body:Expr)(scope:Scope)(js:List Nat)(x:Str)(P:Addr)(q:Str):Prop where
 tab:(P,q)∈lamTs
 dfl:defaultsOf params X.env=([],[])
 blk:BlkOk X scope js
 code:∃c,X.env.code=.ref c/\CodeHd X.base c P
 bi:X.base.BuiltinsAt X.mg P
 qual:X.env.qual++"<lambda>"=q
 bind:∀(cl:List (Str×Addr))(pm cdv ct u:Value),bindArgs (kla_fn "<lambda>" q params body scope cl pm cdv ct) ⟨[u],[]⟩=pure [(x,u)]
 par:scope.names.lookup x=some .local
 co:scope.isCoroutine=false
 gen:scope.isGenerator=false
section
variable {C P:Addr}{U:List (List D)}{zs:List (List Str×D)}{body:Expr}{q:Str}{lpos:Pos}
def Ac(L:Ho X params body scope [] x P q)(hcalm:X.calm=true)(hdep:X.A.in1.in1.depth<recursionLimit)
  (hk:∀z∈zs,∀s H f c,Ev (mW X X.A.in1.in1 q scope (au X [x] []) f c s H) [.dat z.2] body (.list (z.1.map .str))):wN X C U (.Lambda params body scope lpos) (λf H=>wJ H f q params body scope (bK X.env scope.names [])) zs where
 made:=λpins s σ H Q I h=>by
  obtain⟨c,h1,h2⟩:=L.code;refine wK I L.tab L.dfl (L.blk.cells I) h1 h2 L.bi L.qual λf H' s' I' l a=>⟨.ref f,H',I',rfl,h f H' ⟨λb o e n=>l.keep b o (λz=>?_) e,λG d s v=>v.lam s L.tab l⟩ a⟩
  obtain⟨⟨ps,hP⟩,_⟩:=l.tab;rw[z,hP]at e;exact n _ _ (Option.some.inj e).symm
 stay:=λun a=>by
  obtain⟨pm,ctv,c,u',co,vs,t,cu,h1,h2,h3⟩:=a.ex;exact⟨pm,ctv,c,u',co,vs,t,cu,un.frzs _ _ _ h1,un.frzs _ _ _ h2,h3⟩
 call:=λz hz {f pins s σ H G v u} I sm la dp r=>by
  refine wpAny_mono (wL (A:=X.A.in1.in1) L.blk I (I.ok.hd hcalm) I.ok.frames hdep la (L.bind _) L.par L.co L.gen r (Q:=λw H'=>∃G',Ext G H G' H'/\Dp X.K G' (.list (z.1.map .str)) w) λc s1 J1=>?_) (λk s'' hq=>?_) λg g z=>z
  .refine hk z hz s H f c [] s1 _ H _ J1 ⟨G,H,G,⟨.refl sm,rfl,λi d e=>?_,λi d e=>?_,λi d e=>?_,λi j d g g e=>?_⟩,λw G' H' e d=>⟨G',e,d⟩⟩
   .cases i with
    |zero=>cases e;exact⟨v,rfl,dp⟩
    |succ i=>cases e
   all_goals (cases i<;>cases e)
  .obtain⟨w,H',I',un,rw',G',e,d⟩:=hq
   exact⟨w,G',H',I',un,rw',e,d⟩
def Ad{k:Nat}{L:Fn}(F:FnZ X.prog X.w X.K X.mg X.base k x L)(hr:Room k X.A.in1.in1)(hg:Gl X x)(hd:(x==("__debug__":Str))=false)(hl:L.lent.length=1)(hk:∀z∈zs,L.run [z.2]=some (.list (z.1.map .str))):∃Kf,wN X C U (.Name x px) Kf zs:=by
 obtain⟨f,fd,ps,hm,kp,hb,F⟩:=F.ex;refine⟨λa c=>a=f,⟨λpins s σ H Q I h=>pY (v:=.ref f) hg hm rfl hd pins s σ H Q I (h f H ⟨λc c e c=>e,λG d s v=>⟨v,.refl s⟩⟩ rfl),λc e=>e,λz hz {f' pins s σ H G v u} I sm e dp r=>?_⟩⟩;subst e;have sp:Pur X.K L [v] H (λw H'=>∃G',Ext G H G' H'/\Dp X.K G' (.list (z.1.map .str)) w) E0:=⟨[z.2],_,G,hk z hz,sm,by obtain⟨b,hl⟩:=List.length_eq_one_iff.mp hl;rw[hl];exact .cons (λc=>dp) (.of dp) .nil,λw G' H' e d=>⟨G',e,d⟩⟩;refine wpAny_call (codeAny_mono (F.run X.A.in1.in1 X.stack s H ⟨[u],[]⟩ [u] [v] _ E0 hr I.env0.in1.in1 (hb s [u] I.kIn (by simpa using F.len _ _ _ _ sp)) (.cons r .nil) sp) λr s' hq=>?_)
 cases r with
 |error e=>exact hq
 |ok fl=>
  cases fl with
  |ret u=>
   obtain⟨w,H',os,bare,un,hok,rw',G',e,d⟩:=hq;exact⟨w,G',H',I.call' os un hok bare (λb hb=>by cases hb),un,rw',e,d⟩
  |next=>exact False.elim hq
  |brk=>exact False.elim hq
  |cont=>exact False.elim hq
end
end L2.Z
namespace L2.Z
open PySem PySem.Spec PyProof.Rows L2 L2.C SI
structure WzM(X:Cx)(Z:Fs)(J:FsM)(Γ:List (Str×D))(C:Cm)(k:Nat):Prop where
 w:Wz X Z Γ C.cs k
 fm:∀x,C.mfs.contains x=true->∀L,J x=some L->zM X.prog X.w X.K X.mg X.base C.c k x L
 vm:∀m,C.mms.contains m=true->∀L,J (aq m)=some L->FnVm X.prog X.w X.K X.mg X.base C.c k m L/\L.lent.headD false=false/\m≠"objects"/\m≠"numbers"
 nw:∀X':Cx,X'.prog=X.prog->X'.w=X.w->X'.K=X.K->X'.mg=X.mg->X'.base=X.base->Room k X'.A->Gl X' C.vn->∀Y U p pos,EvM X' C.c Y U (.Call (.Name C.vn p) [] [] pos) (.ok (.hdl U.length)) (U++[[]])
 rm:X.A.depth+3*k+7<=recursionLimit/\X.A.units+16*k+212<cLine
 lam:∀P q,C.lam=some (P,q)->(P,q)∈lamTs/\(∃c,X.env.code=.ref c/\PySem.W.CodeHd X.base c P)/\X.base.BuiltinsAt X.mg P/\X.env.qual++"<lambda>"=q
section
variable {C:Addr}{U U1 U2:Ust}{e:Expr}{p:Pos}{rs:Rs}{c:Nat}
def jR(he:EvM X C Y U e (.ok d) U1)(hr:EaM X C Y U1 fl.tail es rs U2)(hs:isStar e=false):EaM X C Y U fl (e::es) (qP d rs) U2:=by
 have:=wx (fl:=fl) he hr hs;cases rs<;>exact this
def EG(V:VarOk X x i)(h:EF (fl.headD false) Y[i]?=some d)(hr:EaM X C Y U fl.tail es rs U2):EaM X C Y U fl (.Name x p::es) (qP d rs) U2:=by
 cases hf:fl.headD false with
 |true=>
  rw[hf]at h;cases q:Y[i]? with
  |none=>rw[q]at h;cases h
  |some sl=>
   rw[q]at h;have:=tm (p:=p) i q h hf V.at' V.vis V.d V.cd hr;cases rs<;>exact this
 |false=>
  rw[hf]at h;cases q:Y[i]? with
  |none=>rw[q]at h;cases h
  |some sl=>
   rw[q]at h;cases sl with
   |dat d'=>cases h;exact jR (qK i q V.at' V.vis V.d V.cd) hr rfl
   |_=>cases h
end
def wQ{s:Option Sl}{h:Nat}(q:qO s=some h):s=some (.dat (.hdl h)):=by
 unfold qO at q;split at q
 .cases q;rfl
 .cases q
section
variable {J:FsM}{k:Nat}{C:Cm}{U U':Ust}{e t:Expr}{as':Ms}{p:Pos}{f:Str}{c:Nat}{r:R}{o:OM}{a' b' t':E}
def SdM(X:Cx)(Z:Fs)(J:FsM)(Γ:List (Str×D))(c:Nat)(e:Expr)(f:M):Prop:=∀⦃Y U r U'⦄,evM Z J Γ c Y U f=some (r,U')->EvM X c Y U e r U'
structure SaM(X:Cx)(Z:Fs)(J:FsM)(Γ:List (Str×D))(c:Nat)(es:List Expr)(f:Ms):Prop where
 s:aG es
 a:∀{fl Y U rs U'},tE Z J Γ c fl Y U f=some (rs,U')->EaM X c Y U fl es rs U'
def EH:SaM X Z J Γ c [] .nil:=⟨λa z=>(by cases z),λq=>by cases q;exact zL⟩
def Hq(V:VarOk X x i)(R:SaM X Z J Γ c as as'):SaM X Z J Γ c (.Name x p::as) (.va i as'):=⟨λx hx=>(mq0 hx).elim (λz=>z▸rfl) (R.s x),λq=>by
 obtain⟨d,q1,q⟩:=bS q;obtain⟨⟨rs,U1⟩,q2,q⟩:=mS q;cases q;exact EG V q1 (R.a q2)⟩
def Bq{a':M}(hs:(!isStar a)=true)(A:SdM X Z J Γ c a a')(R:SaM X Z J Γ c as as'):SaM X Z J Γ c (a::as) (.ex a' as'):=⟨λx hx=>(mq0 hx).elim (λz=>z▸nt hs) (R.s x),λq=>by
 obtain⟨⟨r,U1⟩,q1,q⟩:=bS q;have A:=A q1;cases r with
 |ok d=>
  obtain⟨⟨rs,U2⟩,q2,q⟩:=mS q;cases q;exact jR A (R.a q2) (nt hs)
 |exc x=>cases q;exact tf A (nt hs)⟩
def Ki(A:SdE X Z Γ e a' na):SdM X Z J Γ c e (.p a'):=λa a a a q=>by
 obtain⟨d,q1,q⟩:=mS q;cases q;exact wu (A.v q1)
def Ae(c:CxC X C.cs)(w:WzM X Z J Γ C k)(hg:ao C.cs f=true)(hm:C.mfs.contains f=true)(A:SaM X Z J Γ C.c (a::as) as'):SdM X Z J Γ C.c (.Call (.Name f p) (a::as) [] pos) (.call f as'):=λb b b b q=>by
 obtain⟨L,q1,q⟩:=bS q;obtain⟨⟨rs,U1⟩,q2,q⟩:=bS q;obtain⟨⟨U2,r2⟩,q3,q⟩:=mS q;cases q;exact wy (w.fm f hm L q1) w.w.room (aR c hg).1 (aR c hg).2.2 (A.a q2) q3 A.s
def EI(c:CxC X C.cs)(w:WzM X Z J Γ C k)(hf:f=C.vn)(hg:ao C.cs f=true):SdM X Z J Γ C.c (.Call (.Name f p) [] [] pos) .new:=λY U a a q=>by
 cases q;subst hf;exact w.nw X rfl rfl rfl rfl rfl w.w.room (aR c hg).1 Y U p pos
def Af(c:CxC X C.cs)(w:WzM X Z J Γ C k)(h:gi C.cs x=some i)(hm:C.mms.contains m=true)(hq:((apos.endLine==pos.line)&&decide ((a::as).length<=20))=true)(A:SaM X Z J Γ C.c (a::as) as'):SdM X Z J Γ C.c (.Call (.Attribute (.Name x p) m apos) (a::as) [] pos) (.meth m i as'):=λb b b b q=>by
 have V:=cU c h;obtain⟨L,q1,q⟩:=bS q;obtain⟨hh,q3,q⟩:=bS q;obtain⟨⟨rs,U1⟩,q5,q⟩:=bS q;cases rs with
 |exc _=>cases q
 |ok ds=>
  obtain⟨⟨U2,r2⟩,q7,q⟩:=mS (show (L.run U1 (.hdl hh::ds)).map _=_ from q);cases q;obtain⟨F,f1,f2⟩:=w.vm m hm L q1;exact wz F f1 f2 w.w.room (qK i (wQ q3) V.at' V.vis V.d V.cd) (A.a q5) q7 A.s (jK rfl A.s (od0 (a2 hq).2) (a2 hq).1)
def EJ(A:SaM X Z J Γ c as as'):SdM X Z J Γ c (.Tuple as j pos) (.tup as'):=λb b b b q=>by
 obtain⟨⟨rs,U1⟩,q1,q⟩:=bS q;cases rs with
 |exc _=>cases q
 |ok ds=>
  obtain⟨hz,q⟩:=iS (show (if ds.length<=1000 then some (R.ok (.tuple ds),U1)else .none)=_ from q);cases q;exact zU (A.a q1) hz
theorem WzM.blk(w:WzM X Z J Γ C k){B:Cs}(h:B.fns=C.cs.fns/\B.cst=C.cs.cst/\B.vc=C.cs.vc/\B.vms=C.cs.vms)(A:Addr)(s:Shared)(H:Hp)(fp:List Addr):WzM (L2.C.blk X sc N A s H fp) Z J Γ {C with cs:=B,lam:=.none} k:=⟨w.w.blk h A s H fp,w.fm,w.vm,w.nw,w.rm,λa a z=>by cases z⟩
def EK{a':M}{op:CmpOp}{o:Cop}(w:WzM X Z J Γ C k)(h:kF op=some o)(hs:(!isSet b)=true)(A:SdM X Z J Γ C.c a a')(B:SdE X Z Γ b b' na):SdM X Z J Γ C.c (.Compare a [op] [b] pos) (.cmp o a' b'):=λe e e e q=>by
 obtain⟨⟨r1,U1⟩,q1,q⟩:=bS q;have A:=A q1;have mk:=eW (op:=op) (nt hs);cases r1 with
 |exc x=>cases q;exact wI A mk
 |ok d=>
  obtain⟨e',q3,q⟩:=bS (show Option.bind _ _=_ from q);obtain⟨t,q5,q⟩:=mS q;cases q;obtain⟨r2,o1,o2⟩:=kJ w.w.room.units h q5;exact zV o1 A (B.r q3) o2 mk
theorem iM:∀{ds:List D}{ks:List Str},strsOf ds=some ks->ds=ks.map .str
 |[],_,h=>by cases h;rfl
 |d::r,_,h=>by
  cases d with
  |str x=>
   obtain⟨ks,h1,rfl⟩:=mS (show (strsOf r).map _=some _ from h);rw[iM h1];rfl
  |_=>cases h
theorem iN{f:D->Option D}:∀{ds:List D}{zs:List (List Str×D)},gr f ds=some zs->zs.map (·.2)=ds/\∀z∈zs,f z.2=some (.list (z.1.map .str))
 |[],_,h=>by cases h;exact⟨rfl,nofun⟩
 |x::r,_,h=>by
  obtain⟨d,h1,h⟩:=bS (show (f x).bind _=some _ from h);obtain⟨ks,h2,h⟩:=bS h;obtain⟨zs,h3,rfl⟩:=mS h;obtain⟨z1,z2⟩:=iN h3;refine⟨by rw[mk0,z1],λz hz=>(mq0 hz).elim (λe=>?_) (z2 z)⟩;subst e;cases d with
  |list ls=>rw[h1,<-iM (show strsOf ls=some ks from h2)]
  |_=>cases h2
def Ag{fp:Pos}{g:Str}(c:CxC X C.cs)(w:WzM X Z J Γ C k)(hf:f="sorted")(hg:ao C.cs f=true)(hn:x="key")(hm:C.cs.fns.contains g=true)(hg':ao C.cs g=true)(hs:(!isStar a)=true)(A:SdE X Z Γ a a' na):SdM X Z J Γ C.c (.Call (.Name f p) [a] [⟨some x,.Name g fp,kp⟩] pos) (.srtf a' g):=λY U b b q=>by
 subst hf hn;obtain⟨d,q1,q⟩:=bS q;obtain⟨ds,q2,q⟩:=bS q;obtain⟨L,q3,q⟩:=bS q;obtain⟨hl,q⟩:=iB q;obtain⟨zs,q4,q⟩:=bS q;obtain⟨e,q5,q⟩:=mS q;cases q;obtain⟨z1,z2⟩:=iN q4;obtain⟨Kf,K⟩:=Ad (px:=fp) (U:=U) (C:=C.c) (w.w.fns g hm L q3) ⟨w.w.room.hd,w.w.room.dp,by have:=w.rm.2;show X.A.units+1+1+16*k+200<_;omega⟩ (aR c hg').1 (aR c hg').2.2 hl z2;exact qN c.calm (by have:=w.rm.2;show X.A.units+1+1<_;omega) (bf c w.w hg (by simp[bltNames])) (A.r q1) (nt hs) (by rw[z1];exact q2) q5 K
def bind1(x q:Str)(an:Option Expr)(pp:Pos)(body:Expr)(scope:Scope)(cl:List (Str×Addr))(pm cdv ct u:Value):bindArgs (PySem.W.kla_fn "<lambda>" q ⟨[],[⟨x,an,pp⟩],.none,[],[],.none,[]⟩ body scope cl pm cdv ct) ⟨[u],[]⟩=pure [(x,u)]:=by
 have e:seqItems? Value.none=pure .none:=rfl;simp[bindArgs,e]
set_option tactic.hygienic true in
def wR{C B:Cs}(c:CxC X C){nt:Nat}(h:mh C sc (.Name x px)=some (B,nt,js))(s:Shared)(H:Hp):sc.names.lookup x=some .local/\(∀(A:Around)(q:Str)(f c':Addr),CxC (mW X A q sc (au X [x] js) f c' s H) B):=by
 have R:=gK c h;have N:=R.n;have bc:=(R.cx 0 s H []).nd;unfold mh at h;split at h
 .rename_i qb
  obtain⟨js',h1,h2⟩:=mx0 h;injection h2 with h2 h3
  subst h2;unfold uH at qb;simp only[be0]at qb;obtain⟨⟨⟨⟨q1,q2⟩,q3⟩,q4⟩,q5⟩:=qb;refine⟨eq_of_beq (List.all_eq_true.mp q3 x (by simp[aQ])),λA q f c'=>⟨N.symm,bc,λy kd e ek=>?_,λy kd e ek=>?_,λy e=>?_,λy e=>e,rfl,eq_of_beq q1⟩⟩
  .have e:sc.names.lookup y=some kd:=e
   rcases ek with rfl|rfl|rfl
   .exact .inl e
   .exact absurd rfl (R.ok.cell _ (ml0 e))
   .exact .inr (.inr e)
  .have e:sc.names.lookup y=some kd:=e
   rcases ek with rfl|rfl
   .exact⟨.inl e,.inr e⟩
   .exact absurd rfl (R.ok.cell _ (ml0 e))
  .have e:sc.names.lookup y=some .cell:=e
   exact absurd rfl (R.ok.cell _ (ml0 e))
 .cases h
def Ah{an:Option Expr}{pp lp:Pos}{bd:Expr}{B:Cs}{nt' P:Nat}{qn:Str}(c:CxC X C.cs)(w:WzM X Z J Γ C k)(hf:f="sorted")(hg:ao C.cs f=true)(hn:x="key")(hs:(!isStar a)=true)(hsc:(!sc.isCoroutine&&!sc.isGenerator)=true)(hl:C.lam=some (P,qn))(hb:mh C.cs sc (.Name y pp)=some (B,nt',[]))(A:SdE X Z Γ a a' na)
  (Bd:∀{X},CxC X B->Wz X Z Γ B k->SdE X Z Γ bd b' nb):SdM X Z J Γ C.c (.Call (.Name f p) [a] [⟨some x,.Lambda ⟨[],[⟨y,an,pp⟩],.none,[],[],.none,[]⟩ bd sc lp,kp⟩] pos) (.srtl a' b'):=λb b b b q=>by
 subst hf hn;obtain⟨d,q1,q⟩:=bS q;obtain⟨ds,q2,q⟩:=bS q;obtain⟨zs,q4,q⟩:=bS q;obtain⟨e,q5,q⟩:=mS q;cases q;obtain⟨z1,z2⟩:=iN q4;obtain⟨l1,l2,l3,l4⟩:=w.lam P qn hl;have Bk:=gK c hb;obtain⟨r1,r2⟩:=w.rm;refine qN c.calm (by show X.A.units+1+1<_;omega) (bf c w.w hg (by simp[bltNames])) (A.r q1) (nt hs) (by rw[z1];exact q2) q5 (Ac ⟨l1,rfl,Bk.ok,l2,l3,l4,λb b b b b=>bind1 _ _ _ _ _ _ _ _ _ _ _,(wR c hb X.s₀ X.H₀).1,nt (a2 hsc).1,nt (a2 hsc).2⟩ c.calm (by show X.A.depth<_;omega) λz hz s H f' c'=>?_);exact (Bd ((wR c hb s H).2 X.A.in1.in1 _ _ _) ⟨w.w.blt,λy hy=>w.w.fns y (by rw[<-Bk.same.1];exact hy),w.w.gl,⟨w.w.room.hd,by show X.A.depth+1+3*k+5<_;omega,by show X.A.units+1+1+3+16*k+200<_;omega⟩,λc hc=>w.w.vc c (by rw[<-Bk.same.2.2.1];exact hc),λc m hc hm=>w.w.vf c m (by rw[<-Bk.same.2.2.1];exact hc) (by rw[<-Bk.same.2.2.2];exact hm)⟩).v (z2 z hz)
def EL{a':M}(S:Sto X x i)(hc:(!cK a)=true)(A:SdM X Z J Γ c a a')(q:exM Z J Γ c Y U (.set i a')=some (o,U')):S1M X c Y U (.Assign [.Name x px] a pos) o U':=by
 obtain⟨⟨r,U1⟩,q1,q⟩:=mS q;have A:=A q1;cases q;cases r with
 |ok d=>exact zO S A (ck (nt hc))
 |exc x=>exact wA S A (ck (nt hc))
def Ai{a':M}(hc:(!cK a)=true)(A:SdM X Z J Γ c a a')(q:exM Z J Γ c Y U (.expr a')=some (o,U')):S1M X c Y U (.Expr a pos) o U':=by
 obtain⟨⟨r,U1⟩,q1,q⟩:=mS q;have A:=A q1;cases q;cases r with
 |ok d=>exact wB A (ck (nt hc))
 |exc x=>exact tB A (ck (nt hc))
def EM{a':M}(A:SdM X Z J Γ c a a')(q:exM Z J Γ c Y U (.ret a')=some (o,U')):S1M X c Y U (.Return (some a) pos) o U':=by
 obtain⟨⟨r,U1⟩,q1,q⟩:=mS q;have A:=A q1;cases q;cases r with
 |ok d=>exact zP A
 |exc x=>exact wC A
def Aj{s:S}(A:∀{Y o},ex Z Γ Y s=some o->E1 X Y st o)(q:exM Z J Γ c Y U (.pure s)=some (o,U')):S1M X c Y U st o U':=by
 obtain⟨o1,q1,q⟩:=bS q;have A:=A q1;cases o1 with
 |rt d=>exact nn q
 |nx Y1=>
  obtain⟨hl,q⟩:=iS q;cases q;exact tD A λsl hs=>List.all_eq_true.mp hl sl hs
def SsZ(X:Cx)(Z:Fs)(J:FsM)(Γ:List (Str×D))(c:Nat)(sts:List Stmt)(f:SMs):Prop:=∀⦃Y U o U'⦄,bM Z J Γ c Y U f=some (o,U')->SsM X c Y U sts o U'
variable {s s2:SMs}
def Hr(T:SdE X Z Γ t t' na)(A:SsZ X Z J Γ c body s)(B:SsZ X Z J Γ c body2 s2)(q:exM Z J Γ c Y U (.ifs t' s s2)=some (o,U')):S1M X c Y U (.If t body body2 pos) o U':=by
 obtain⟨d,q1,q⟩:=bS q;obtain⟨t,rfl,ht⟩:=T.t q1;cases t with
 |true=>exact zQ (mU ht) (A q)
 |false=>exact zR (mU ht) (B q)
def EN{src:I}{t:Tg}(c:CxC X C.cs)(h:cTg C.cs tg=some t)(po:PassesOwn (model X.prog X.w) X.A X.env X.xe)(A:SdI X Z Γ iter src)(B:SsZ X Z J Γ C.c body s)(q:exM Z J Γ C.c Y U (.fors t src s)=some (o,U')):S1M X C.c Y U (.For tg iter body [] pos) o U':=by
 obtain⟨ds,q1,q⟩:=bS q;exact zT (wF (A.w q1)) (wD c h) (λY' U1 o' U2 q'=>B q') q c.calm po (gP A.s)
end
section
structure Cme(C:Cm)(e:Expr) where
 f:M
 ok:∀{Z J Γ k X},CxC X C.cs->WzM X Z J Γ C k->SdM X Z J Γ C.c e f
structure Cma(C:Cm)(es:List Expr) where
 f:Ms
 ok:∀{Z J Γ k X},CxC X C.cs->WzM X Z J Γ C k->SaM X Z J Γ C.c es f
structure Cmt(C:Cm)(st:Stmt) where
 f:SM
 ok:∀{Z J Γ k X},CxC X C.cs->WzM X Z J Γ C k->PassesOwn (model X.prog X.w) X.A X.env X.xe->∀{Y U o U'},exM Z J Γ C.c Y U f=some (o,U')->S1M X C.c Y U st o U'
structure Cms(C:Cm)(sts:List Stmt) where
 f:SMs
 ok:∀{Z J Γ k X},CxC X C.cs->WzM X Z J Γ C k->PassesOwn (model X.prog X.w) X.A X.env X.xe->SsZ X Z J Γ C.c sts f
variable (C:Cm)
noncomputable def cP(e:Expr):Option (Cme C e):=(cE 60 C.cs e).map λA=>⟨.p A.f,λc w=>Ki (A.ok c w.w)⟩
variable (r:∀C e,Option (Cme C e))
noncomputable def cMs:(es:List Expr)->Option (Cma C es)
 |[]=>some ⟨.nil,λa a=>EH⟩
 |e::es=>(cMs es).bind λR=>match e with
  |.Name x p=>match h:gi C.cs x with
   |some i=>some ⟨.va i R.f,λc w=>Hq (cU c h) (R.ok c w)⟩
   |none=>(r C (.Name x p)).map λA=>⟨.ex A.f R.f,λc w=>Bq rfl (A.ok c w) (R.ok c w)⟩
  |e=>chk (!isStar e) λhs=>(r C e).map λA=>⟨.ex A.f R.f,λc w=>Bq hs (A.ok c w) (R.ok c w)⟩
noncomputable def cSt(f:Str)(p:Pos)(a:Expr)(x:Str)(kp pos:Pos):(kv:Expr)->Option (Cme C (.Call (.Name f p) [a] [⟨some x,kv,kp⟩] pos)):=λkv=>eqS f "sorted" λhf=>chk (ao C.cs f) λhg=>eqS x "key" λhn=>chk (!isStar a) λhs=>(cE 60 C.cs a).bind λA=>match kv with
 |.Name g _=>chk (C.cs.fns.contains g) λhm=>chk (ao C.cs g) λhg'=>some ⟨.srtf A.f g,λc w=>Ag c w hf hg hn hm hg' hs (A.ok c w.w)⟩
 |.Lambda ⟨[],[⟨y,_,pp⟩],none,[],[],none,[]⟩ bd sc _=>chk (!sc.isCoroutine&&!sc.isGenerator) λhsc=>got C.lam λl hl=>got (mh C.cs sc (.Name y pp)) λq h=>match q,h with
  |(B,_,[]),h=>(cE 60 B bd).map λD=>⟨.srtl A.f D.f,λc w=>Ah (P:=l.1) (qn:=l.2) c w hf hg hn hs hsc hl h (A.ok c w.w) λc w=>D.ok c w⟩
  |_,_=>none
 |_=>none
noncomputable def cCm(elt tg iter:Expr)(sc:Scope)(pos:Pos):Option (Cme C (.ListComp elt [⟨tg,iter,[],0⟩] sc pos)):=chk (!isSet iter) λhs=>(r C iter).bind λS=>got (mh C.cs sc tg) λq h=>got (cTg q.1 tg) λt ht=>chk (mf t q.2.1) λhl=>(r {C with cs:=q.1,lam:=none} elt).map λA=>⟨.comp q.2.1 q.2.2 t S.f A.f,λc w Y U rr U' z=>by
 obtain⟨B,nt,js⟩:=q;obtain⟨⟨r1,U1⟩,q1,z⟩:=bS z;obtain⟨⟨ds,U2⟩,q2,z⟩:=bS z;have:r1=.ok (.list ds)/\U1=U2:=by
  unfold okL at q2;split at q2
  .injection ‹_=(_,_)› with e1 e2;cases q2;exact⟨e1,e2⟩
  .cases q2
 obtain⟨rfl,rfl⟩:=this;obtain⟨hz,z⟩:=iB z;obtain⟨⟨out,U3⟩,q3,z⟩:=mS z;cases z;have R:=gK c h;have e:=R.nt;subst e;refine wH (f:=λY' U'=>(evM _ _ _ C.c Y' U' A.f).bind okR) R.ok c.calm (S.ok c w q1) (λA s H fp=>wD (R.cx A s H fp) ht) hl (λA' s H fp Y' U' e U3 hf=>?_) (by rw[<-big_eq];exact hz) q3 (gP (L2.Z.nt hs));obtain⟨⟨r4,U4⟩,g1,g2⟩:=bS hf;cases r4 with
 |exc _=>cases g2
 |ok d=>cases g2;exact A.ok (C:={C with cs:=B,lam:=none}) (R.cx A' s H fp) (w.blk R.same A' s H fp) g1⟩
noncomputable def Ht:(e:Expr)->Option (Cme C e)
 |.Call (.Name f p) (a::as) [] pos=>if hm:C.mfs.contains f=true then chk (ao C.cs f) λhg=>(cMs C r (a::as)).map λA=>⟨.call f A.f,λc w=>Ae c w hg hm (A.ok c w)⟩ else cP C (.Call (.Name f p) (a::as) [] pos)
 |.Call (.Name f p) [a] [⟨some x,kv,kp⟩] pos=>cSt C f p a x kp pos kv
 |.Call (.Name f p) [] [] pos=>if h:f=C.vn then chk (ao C.cs f) λhg=>some ⟨.new,λc w=>EI c w h hg⟩ else cP C (.Call (.Name f p) [] [] pos)
 |.Call (.Attribute (.Name x p) m apos) (a::as) [] pos=>if hm:C.mms.contains m=true then got (gi C.cs x) λi h=>chk ((apos.endLine==pos.line)&&decide ((a::as).length<=20)) λhq=>(cMs C r (a::as)).map λA=>⟨.meth m i A.f,λc w=>Af c w h hm hq (A.ok c w)⟩
  else cP C (.Call (.Attribute (.Name x p) m apos) (a::as) [] pos)
 |.Compare a [op] [b] pos=>if Aa C a then got (kF op) λo h=>chk (!isSet b) λhs=>(r C a).bind λA=>(cE 60 C.cs b).map λB=>⟨.cmp o A.f B.f,λc w=>EK w h hs (A.ok c w) (B.ok c w.w)⟩ else cP C (.Compare a [op] [b] pos)
 |.Tuple es j pos=>if es.any (Aa C)then (cMs C r es).map λA=>⟨.tup A.f,λc w=>EJ (A.ok c w)⟩ else cP C (.Tuple es j pos)
 |.ListComp elt [⟨tg,iter,[],0⟩] sc pos=>if Kh C elt then cCm C r elt tg iter sc pos else cP C (.ListComp elt [⟨tg,iter,[],0⟩] sc pos)
 |e=>cP C e
end
noncomputable def cM:Nat->(C:Cm)->(e:Expr)->Option (Cme C e)
 |0=>λa a=>none
 |n+1=>λC=>Ht C (cM n)
section
variable (C:Cm)
noncomputable def cPs(st:Stmt):Option (Cmt C st):=(Bl (cE 60) C.cs (cSs 60) st).map λA=>⟨.pure A.f,λc w po a a a a q=>Aj (A.ok c w.w po) q⟩
noncomputable def cXs(v:Expr)(pos:Pos):Option (Cmt C (.Expr v pos)):=chk (!cK v) λhc=>(cM 60 C v).map λA=>⟨.expr A.f,λc w a a a a a q=>Ai hc (A.ok c w) q⟩
noncomputable def EO(rs:∀sts,Option (Cms C sts)):(st:Stmt)->Option (Cmt C st)
 |.Assign [.Name y py] v pos=>got (hZ C.cs y) λj h=>if C.cs.mts.contains j||cK v then cPs C (.Assign [.Name y py] v pos)else chk (!cK v) λhc=>(cM 60 C v).map λA=>⟨.set j A.f,λc w b b b b b q=>EL (eJ c h) hc (A.ok c w) q⟩
 |.Assign ts v pos=>cPs C (.Assign ts v pos)
 |.Expr (.Call (.Attribute (.Name x p) m apos) [a] [] cpos) pos=>cPs C (.Expr (.Call (.Attribute (.Name x p) m apos) [a] [] cpos) pos)
 |.Expr v pos=>cXs C v pos
 |.Return (some e) _=>(cM 60 C e).map λA=>⟨.ret A.f,λc w b b b b b q=>EM (A.ok c w) q⟩
 |.If t s s2 pos=>(rs s).bind λT=>(rs s2).bind λT2=>(cE 60 C.cs t).map λA=>⟨.ifs A.f T.f T2.f,λc w po b b b b q=>Hr (A.ok c w.w) (T.ok c w po) (T2.ok c w po) q⟩
 |.For tg iter body [] _=>got (cTg C.cs tg) λt h=>(rs body).bind λB=>(cI (cE 60) C.cs iter).map λA=>⟨.fors t A.f B.f,λc w po b b b b q=>EN c h po (A.ok c w.w) (B.ok c w po) q⟩
 |_=>none
noncomputable def Hu(s:∀st,Option (Cmt C st)):(sts:List Stmt)->Option (Cms C sts)
 |[]=>some ⟨.nil,λa a a a a a a q=>by cases q;exact zN⟩
 |st::sts=>(Hu s sts).map λB=>
  let A:Cmt C st:=(s st).getD ⟨.pure .stuck,λa a a a a a a q=>nn q⟩
  ⟨.cons A.f B.f,λc w po Y U o U' q=>by
  obtain⟨⟨o1,U1⟩,q1,q⟩:=bS q;have A:=A.ok c w po q1;cases o1 with
  |nx Y1=>exact tq A (B.ok c w po q)
  |rt d=>cases q;exact tu A
  |exc x Y1=>cases q;exact tw A⟩
noncomputable def ER:Nat->(sts:List Stmt)->Option (Cms C sts)
 |0=>λa=>none
 |n+1=>Hu C (EO C (ER n))
end
section
variable {J:FsM}{k:Nat}{V:pI}
structure ES(P:Program)(w:World)(K:Fg)(mg:Str->Option Value)(base:Heap)(Z:Fs)(J:FsM)(Γ:List (Str×D))(V:pI)(k:Nat):Prop where
 m:EA P w K mg base Z Γ V.fns (some V.c) V.vms k
 fm:∀x,V.mfs.contains x=true->∀L,J x=some L->zM P w K mg base V.c k x L
 vm:∀m,V.mms.contains m=true->∀L,J (aq m)=some L->FnVm P w K mg base V.c k m L/\L.lent.headD false=false/\m≠"objects"/\m≠"numbers"
 nw:∀X:Cx,X.prog=P->X.w=w->X.K=K->X.mg=mg->X.base=base->Room k X.A->Gl X V.vn->∀Y U p pos,EvM X V.c Y U (.Call (.Name V.vn p) [] [] pos) (.ok (.hdl U.length)) (U++[[]])
noncomputable def mZ(V:pI)(lent:List Bool)(st:Stmt)(lm:Option (Nat×Str)):Option cq:=
 (br st).bind λ(ps,body,sc)=>(ER (Ab V lm ps body sc) 60 body).map λb=>{lent,slots:=(ps++ar sc ps).length,body:=b.f}
def pJ{G:Hp}{d:Vd}{U:Ust}{dfn:cq}{vs:List L2.V}{C:Addr}(s:Same G (er H (parts d)))(r:Das K G (er H (parts d)) dfn.lent ds vs)(hl:ds.length=dfn.lent.length)(hs:dfn.slots=N.length)(hn:vs.length<=N.length)(v:VS P w K C G H d U):
  EnvM P w K C G H d G H d (start N vs) (startM dfn ds) U:=
 ⟨⟨G,er H (parts d),Same.refl _,⟨Same.refl _,λa a h a=>h⟩,jQ (dfn:=⟨dfn.lent,dfn.slots,.nil⟩) s r hl hs hn⟩,λa a h a=>h,List.prefix_refl _,v⟩
set_option tactic.hygienic true in
def wU{ps:List Str}{dfn:cq}(F:Fun K x qual st f fd)(S:aP (ps++ar (defScope st) ps) ps (defScope st))(hp:br st=some (ps,defBody st,defScope st)){lm:Option (Nat×Str)}(hd:mZ V lent st lm=some dfn)(hlen:lent.length=ps.length)
  (M:ES P w K mg base Z J Γ V k) (hlm:∀Pt q,lm=some (Pt,q)->(Pt,q)∈lamTs/\(∃c,fd.code=.ref c/\PySem.W.CodeHd base c Pt)/\base.BuiltinsAt mg Pt/\(qual++".<locals>.")++"<lambda>"=q):FnOk P w K mg base (CX1 P w) (k+1) f fd ps (Mur P w K V.c (runM Z J Γ V.c dfn)):=by
 unfold mZ at hd;rw[hp,bs0]at hd;obtain⟨b,hb,rfl⟩:=mx0 (show (ER (Ab V lm ps (defBody st) (defScope st)) 60 (defBody st)).map _=some dfn from hd);obtain⟨oc,od,kV,doc,pm,an,cdv,ct,osl,rfl,lk,hcd⟩:=F.ex;refine uw (CX:=CX1 P w) lk hcd S (λvs H Q E h=>?_) (λA outer s H vs Q E hr h=>?_)
 .obtain⟨ds,U,U',r,G,d,h1,_,das,_⟩:=h
  have h1:(if ds.length=lent.length then _ else .none)=some (U',r):=h1;split at h1
  .rename_i hl;rw[<-das.length,hl,hlen]
  .cases h1
 .obtain⟨ds,U,U',r,G,d,h1,sm,das,vs',kq⟩:=h
  have h1:(if ds.length=lent.length then (bM Z J Γ V.c (startM ⟨lent,(ps++ar (defScope st) ps).length,b.f⟩ ds) U b.f).map λq=>(q.2,mY q.1)else .none)=some (U',r):=h1;split at h1
  .rename_i hl
   obtain⟨⟨o,U1⟩,h2,h3⟩:=mx0 h1;have hpre:=congrArg List.length S.pre;rw[List.length_take]at hpre;have C:CxC (df (CX1 P w) P w K mg base (ps++ar (defScope st) ps) qual (defScope st) f cdv A outer s H E) (Ab V lm ps (defBody st) (defScope st)).cs:=by
    refine⟨rfl,S.nd,λy kd e ek=>?_,λy kd e ek=>⟨?_,.inl rfl⟩,λy e=>e,λy e=>e,rfl,S.kind⟩
    .rcases ek with rfl|rfl|rfl
     .exact .inl e
     .exact .inr (.inl e)
     .exact .inr (.inr e)
    .rcases ek with rfl|rfl
     .exact .inl e
     .exact .inr e
   have W:WzM (df (CX1 P w) P w K mg base (ps++ar (defScope st) ps) qual (defScope st) f cdv A outer s H E) Z J Γ (Ab V lm ps (defBody st) (defScope st)) k:=
    ⟨⟨M.m.blt,M.m.fns,M.m.gl,hr.r,M.m.vcl,M.m.vf⟩,M.fm,M.vm,M.nw,⟨hr.dp,hr.un⟩,λPt q e=>hlm Pt q e⟩
   have body:=b.ok C W PassesOwn.leaving h2;refine⟨_,body,G,H,d,G,d,pJ (N:=ps++ar (defScope st) ps) (dfn:=⟨lent,(ps++ar (defScope st) ps).length,b.f⟩) sm das hl rfl (by rw[<-das.length,hl,hlen];omega) vs',?_⟩;cases h3;cases o with
   |nx Y'=>exact λG' H' d' σ' env a=>kq .non G' H' d' env.start env.vs .none
   |rt e=>exact λv G' H' d' m v' dv=>kq v G' H' d' m v' dv
   |exc x Y'=>exact λG' H' d' σ' env a pins ea s' I fl=>sZ I fl (kq G' H' d' env.start env.vs)
  .cases h1
structure jS(K:Fg)(mg:Str->Option Value)(V:pI)(x:Str)(d:cq):Prop where
 ex:∃st f fd ps lm,Fun K x x st f fd/\mg x=some (.ref f)/\Binds K fd ps []/\aP (ps++ar (defScope st) ps) ps (defScope st)/\br st=some (ps,defBody st,defScope st)/\mZ V d.lent st lm=some d/\d.lent.length=ps.length/\
  ∀Pt q,lm=some (Pt,q)->(Pt,q)∈lamTs/\(x++".<locals>.")++"<lambda>"=q/\∀base:Heap,K.In base->base.Ns mainGlobals mg->(∃c,fd.code=.ref c/\PySem.W.CodeHd base c Pt)/\base.BuiltinsAt mg Pt
theorem FnZ.mono{x}{L}{j}(F:FnZ P w K mg base j x L)(h:j<=k):FnZ P w K mg base k x L:=by
 obtain⟨f,fd,ps,h1,h2,h3,h4⟩:=F.ex;exact⟨⟨f,fd,ps,h1,h2,h3,h4.mono h⟩⟩
theorem FnZv.mono{c}{m}{L}{j}(F:FnZv P w K mg base j c m L)(h:j<=k):FnZv P w K mg base k c m L:=by
 obtain⟨f,fd,ps,h1,h2,h3⟩:=F.ex;exact⟨F.nm,⟨f,fd,ps,h1,h2,h3.mono h⟩⟩
theorem FnVm.mono{c}{m}{L}{j}(F:FnVm P w K mg base c j m L)(h:j<=k):FnVm P w K mg base c k m L:=by
 obtain⟨f,fd,ps,h1,h2,h3,h4⟩:=F.ex;exact⟨⟨f,fd,ps,h1,h2,h3,h4.mono h⟩⟩
structure wV(P:Program)(w:World)(K:Fg)(mg:Str->Option Value)(base:Heap)(J0:FsM)(V:pI):Prop where
 nw:∀X:Cx,X.prog=P->X.w=w->X.K=K->X.mg=mg->X.base=base->Room 2 X.A->Gl X V.vn->∀Y U p pos,EvM X V.c Y U (.Call (.Name V.vn p) [] [] pos) (.ok (.hdl U.length)) (U++[[]])
 vm:∀m L,J0 (aq m)=some L->FnVm P w K mg base V.c 2 m L/\L.lent.headD false=false/\m≠"objects"/\m≠"numbers"
 nf:∀x,V.mfs.contains x=true->J0 x=Option.none
 ms:∀m,V.mms.contains m=true->J0 (aq m)≠Option.none
theorem fh{prog:List (Str×Def)}{progM:List (Str×cq)}{J0:FsM}(B:Base K mg Γ (some V.c))(BM:wV P w K mg base J0 V)(kb:K.In base/\base.Ns mainGlobals mg)
  (defs:∀x d,V.fns.contains x=true->prog.lookup x=some d->sW K mg V.fns V.cst (some V.c) V.vms x d)
  (mets:∀c m d,some V.c=some c->V.vms.contains m=true->prog.lookup (aq m)=some d->sX K V.fns V.cst c V.vms m d)
  (defm:∀x d,V.mfs.contains x=true->progM.lookup x=some d->jS K mg V x d):
  ∀k x L,iL J0 prog progM Γ V.c k x=some L->(V.mfs.contains x=true->zM P w K mg base V.c (k+2) x L)/\∀m,x=aq m->V.mms.contains m=true->FnVm P w K mg base V.c (k+2) m L/\L.lent.headD false=false/\m≠"objects"/\m≠"numbers"
 |0,x,L,h=>by
  have h:J0 x=some L:=h;refine⟨λhx=>(by rw[BM.nf x hx]at h;cases h),λm e hm=>?_⟩;subst e;exact BM.vm m L h
 |k+1,x,L,h=>by
  have h:(match J0 x with|some L=>some L|.none=>(progM.lookup x).map (runM (den prog Γ k) (iL J0 prog progM Γ V.c k) Γ V.c))=some L:=h;cases q:J0 x with
  |some L'=>
   rw[q]at h;cases h;refine⟨λhx=>(by rw[BM.nf x hx]at q;cases q),λm e hm=>?_⟩;subst e;obtain⟨h1,h2⟩:=BM.vm m L q;exact⟨h1.mono (by omega),h2⟩
  |none=>
   rw[q]at h;obtain⟨d,h1,rfl⟩:=mx0 h;have M:ES P w K mg base (den prog Γ k) (iL J0 prog progM Γ V.c k) Γ V (k+2):=
    ⟨⟨B.blt,λy hy L' q=>((dN B defs mets k y L' q).1 hy).mono (by omega),B.gl,B.vcl,λc m hc hm L' q=>((dN B defs mets k _ L' q).2 c m rfl hc hm).mono (by omega)⟩,
  λy hy L' q=>(fh B BM kb defs mets defm k y L' q).1 hy,λm hm L' q=>(fh B BM kb defs mets defm k _ L' q).2 m rfl hm,λX e1 e2 e3 e4 e5 r g=>BM.nw X e1 e2 e3 e4 e5 (r.mono (by omega)) g⟩
   refine⟨λhx=>?_,λm e hm=>?_⟩
   .obtain⟨st,f,fd,ps,lm,F,hm,hb,S,hp,hd,hl,hlm⟩:=(defm x d hx h1).ex
    exact⟨⟨f,fd,ps,hm,F.kp,hb,wU F S hp hd hl M λPt q e=>let ⟨a1,a2,a3⟩:=hlm Pt q e;⟨a1,(a3 base kb.1 kb.2).1,(a3 base kb.1 kb.2).2,a2⟩⟩⟩
   .subst e
    exact (BM.ms m hm q).elim
def Ak{prog:List (Str×Def)}{progM:List (Str×cq)}{J0:FsM}(B:Base K mg Γ (some V.c))(BM:wV P w K mg base J0 V)(kb:K.In base/\base.Ns mainGlobals mg)
  (defs:∀x d,V.fns.contains x=true->prog.lookup x=some d->sW K mg V.fns V.cst (some V.c) V.vms x d)
  (mets:∀c m d,some V.c=some c->V.vms.contains m=true->prog.lookup (aq m)=some d->sX K V.fns V.cst c V.vms m d)
  (defm:∀x d,V.mfs.contains x=true->progM.lookup x=some d->jS K mg V x d) (k:Nat):ES P w K mg base (den prog Γ k) (iL J0 prog progM Γ V.c k) Γ V (k+2):=
 ⟨⟨B.blt,λy hy L' q=>((dN B defs mets k y L' q).1 hy).mono (by omega),B.gl,B.vcl,λc m hc hm L' q=>((dN B defs mets k _ L' q).2 c m rfl hc hm).mono (by omega)⟩,
  λy hy L' q=>(fh B BM kb defs mets defm k y L' q).1 hy,λm hm L' q=>(fh B BM kb defs mets defm k _ L' q).2 m rfl hm,λX e1 e2 e3 e4 e5 r g=>BM.nw X e1 e2 e3 e4 e5 (r.mono (by omega)) g⟩
end
noncomputable def iO(K:Fg):Sp:=λvs H Q E=>wm K vs H Q E/\(∀a C dx fs,H a≠some (.ins C dx fs))/\∀p∈lamTs,∃ps,H p.1=some (.tbl p.2 ps)
def Al{k:Nat}{C:Addr}{ps:List Str}{L:FnM}(F:FnOk P w K mg base (CX1 P w) k f fd ps (Mur P w K C L))(hfl:L.lent=[true])
  (h:∀ns:List Int,ns.length<=63->∃U,L.run [] [.scr ns]=some (U,.ok (.bool true))):FnOk P w K mg base CX0 k f fd ps (iO K):=by
 have key:∀vs H Q (E:XK),iO K vs H Q E->Mur P w K C L vs H Q E0:=λvs H Q E q=>by
  obtain⟨⟨a,ns,rfl,hS,hl,q⟩,ni,tb⟩:=q;obtain⟨U,hU⟩:=h ns hl;have ho:∀b∈parts [],∃p∈lamTs,b=p.1:=λb hb=>(of_parts hb).elim id λ⟨_,_,_,_,z,_⟩=>by simp at z
  have hS':SqL K (er H (parts [])) a (ns.map V.int):=by
   have nb:∀u,H a=some u->(∀n ps,u≠.tbl n ps)->a∉parts []:=λu e ne hb=>by
    obtain⟨p,hp,rfl⟩:=ho a hb;obtain⟨ps,z⟩:=tb p hp;rw[e]at z;exact ne _ _ (Option.some.inj z)
   rcases hS with (z|⟨o,z⟩)|z
   .exact .inl (.inl (by rw[ax (nb _ z λc c=>nofun)];exact z))
   .exact .inl (.inr ⟨o,by rw[ax (nb _ z λc c=>nofun)];exact z⟩)
   .exact .inr z
  refine⟨[.scr ns],[],U,_,er H (parts []),[],hU,Same.refl _,by rw[hfl];exact .cons (λz=>by cases z) (.of (.scr hS')) .nil,⟨rfl,by simpa [parts]using FO,λh a l n z=>by simp at z,λa C' dx fs z=>(ni a C' dx fs z).elim,λb hb=>iJ hb,tb⟩,?_⟩;exact λv G' H' d' c c r=>by cases r;exact q H'
 refine⟨λvs H Q E q=>F.len vs H Q E0 (key vs H Q E q),λA outer s H args us vs Q E hr e0 hb r q=>?_⟩;refine codeAny_mono (F.run A outer s H args us vs Q E0 hr e0 hb r (key vs H Q E q)) λr s' z=>?_
 cases r with
 |ok fl=>cases fl<;>exact z
 |error e=>
  obtain⟨_,_,_,_,_,_,_,_,_,_,_,_,_,z⟩:=(show CX1 P w outer H s E0 e s' from z);exact z
section
variable {G:Hp}
def Am(I:Inv X pins σ H s){n}(ih:∀(d:D)(v:V)(u:Value),Dp X.K G d v->RelV v u->okK n d=true->IsK s.heap n d u):
  ∀{vs:List V}{us:List Value}{ds:List D},Vals vs us->Dps X.K G ds vs->ds.all (okK n)=true->IsKs s.heap n ds us:=by
 intro vs us ds r
 induction r generalizing ds with
 |nil=>intro q _;cases q;exact .nil
 |cons r1 _ ih2=>
  intro q z;cases q with
  |cons q1 q2=>
   rw[List.all_cons,be0]at z;exact .cons (ih _ _ _ q1 r1 z.1) (ih2 q2 z.2)
def kY(I:Inv X pins σ H s)(sm:Same G H):∀(n:Nat)(d:D)(v:V)(u:Value),Dp X.K G d v->RelV v u->okK n d=true->IsK s.heap n d u:=by
 intro n
 induction n with
 |zero=>
  intro d v u h r o;cases h with
  |int i=>obtain⟨t,rfl⟩:=r;exact .int i t
  |str x hx=>obtain⟨t,rfl⟩:=r;exact .str x t hx
  |_=>cases o
 |succ n ih=>
  intro d v u h r o;cases h with
  |int i=>obtain⟨t,rfl⟩:=r;exact .int i t
  |str x hx=>obtain⟨t,rfl⟩:=r;exact .str x t hx
  |tuple q p=>
   cases r;obtain⟨its,rv,⟨ob,e1,e2,m,e3⟩,_⟩:=I.tuple (SqT.of (sm _ _ q));exact .tup e1 e2 e3 (Am I ih rv p o)
  |_=>cases o
theorem fR:∀{k:Nat}{xs:List (D×Addr×Value)}{as:List Addr}{ds:List D},eE k xs as ds->xs.length=ds.length/\as.length=ds.length
 |_,_,_,_,.nil=>⟨rfl,rfl⟩
 |_,_,_,_,.cons r=>⟨by rw[lc0,lc0,(fR r).1],by rw[lc0,lc0,(fR r).2]⟩
def wW{h}{G}{K}(one:∀(d:D)(a:Addr),Dp K G d (.ref a)->okK 8 d=true->IsK h 8 d (.ref a)):∀{k:Nat}{xs:List (D×Addr×Value)}{as:List Addr}{ds:List D},eE k xs as ds->Dps K G ds (as.map .ref)->(∀d∈ds,okK 8 d=true/\gG d=true)->∀x∈xs,IsK h 8 x.1 (.ref x.2.1):=by
 intro k xs as ds n
 induction n with
 |nil=>exact λb b b z=>by cases z
 |cons r ih=>
  intro q hk x hx;cases q with
  |cons d1 d2=>
   rcases mq0 hx with rfl|hx
   .exact one _ _ d1 (hk _ ms0).1
   .exact ih d2 (λd hd=>hk d (mc0 _ hd)) x hx
theorem numXs_at{d:D}:∀{k:Nat}{xs:List (D×Addr×Value)}{as:List Addr}{ds:List D},eE k xs as ds->(ds.idxOf? d=.none/\atKey xs d=.none)\/∃j a t,ds.idxOf? d=some j/\atKey xs d=some (a,.int ((k+j:Nat):Int) t)
 |_,_,_,_,.nil=>.inl ⟨rfl,rfl⟩
 |k,_,_,_,.cons (d:=e) (a:=a) (t:=t) (xs:=xs) (ds:=ds) r=>by
  unfold atKey;rw[List.find?_cons,List.idxOf?_cons]
  by_cases c:e=d
  .subst c
   simp only[decide_true,beq_self_eq_true,if_true,mo0];exact .inr ⟨0,a,t,rfl,by simp⟩
  .rw[df0 c,bn0 c]
   simp only[Bool.false_eq_true,if_false];rcases numXs_at (d:=d) r with⟨q1,q2⟩|⟨j,a',t',q1,q2⟩
   .exact .inl ⟨by rw[q1];rfl,q2⟩
   .refine .inr ⟨j+1,a',t',by rw[q1];rfl,?_⟩
    rw[show k+(j+1)=k+1+j by omega];exact q2
theorem jT{d:D}{a:Addr}{t:Tok}:∀{k:Nat}{xs:List (D×Addr×Value)}{as:List Addr}{ds:List D},eE k xs as ds->eE k (xs++[(d,a,.int ((k+ds.length:Nat):Int) t)]) (as++[a]) (ds++[d])
 |k,_,_,_,.nil=>.cons .nil
 |k,_,_,_,.cons (ds:=ds) r=>by
  have:=jT (d:=d) (a:=a) (t:=t) r;rw[show k+1+ds.length=k+(ds.length+1) by omega]at this;exact .cons this
def iP{n:Addr}{as:List Addr}{objs:List D}(I:Inv X pins σ H s)(sm:Same G H)(hn:H n=some (.ext (bx X.prog X.w n as objs)))(dp:Dps X.K G objs (as.map .ref))(hk:∀d∈objs,okK 8 d=true/\gG d=true):
  (n==sysModules)=false/\objs.length<=1000000/\∃xs,eE 0 xs as objs/\s.heap.DictOfH (mR X.prog X.w) n xs:=by
 obtain⟨⟨h1,xs,nx,hl,o,es,ep,ho,hx,hd,he,nd⟩,_⟩:=(show ObjOk X.prog X.w H s.heap n (.ext (bx X.prog X.w n as objs))from I.hok n _ hn);exact⟨h1,hl,xs,nx,o,es,ep,ho,hx,hd,he,wW (λd a q o=>kY I sm 8 d _ _ q rfl o) nx dp hk,nd⟩
def Vat(X:Cx)(G H:Hp)(x y:V)(d:D)(n:Addr)(as:List Addr)(objs:List D):Prop:=
 y=.ref n/\Same G H/\Dp X.K G d x/\okK 8 d=true/\gG d=true/\H n=some (.ext (bx X.prog X.w n as objs))/\Dps X.K G objs (as.map .ref)/\∀d∈objs,okK 8 d=true/\gG d=true
def iQ{K}{d}{x}(h:Dp K G d x)(t:gG d=true):∃a,x=.ref a:=by
 cases h<;>first|exact⟨_,rfl⟩|cases t
def tG(hu:X.A.units+100<cLine):OpR X (compareOp .NotIn) (λx y H Q=>∃G d n as objs,Vat X G H x y d n as objs/\Q (.bl (objs.idxOf? d).isNone) H):=by
 intro pins s σ H x y v u Q I rx ry h;obtain⟨G,d,n,as,objs,⟨rfl,sm,dx,ok,tp,hn,dp,hk⟩,q⟩:=h;obtain⟨a,rfl⟩:=iQ dx tp;cases ry;cases rx;obtain⟨h1,hl,xs,nx,dd⟩:=iP I sm hn dp hk;refine wpAny_notIn_heap (show X.A.units+1+64<cLine by omega) (kY I sm 8 d _ _ dx rfl ok) h1 dd ⟨.bl (!(atKey xs d).isSome),H,I.tok _,rfl,?_⟩;rcases numXs_at (d:=d) nx with⟨q1,q2⟩|⟨j,a',t,q1,q2⟩
 .rw[q1]at q;rw[q2];exact q
 .rw[q1]at q;rw[q2];exact q
def Kj(hu:X.A.units+100<cLine):IxR X (λx y H Q=>∃G d n as objs j,Vat X G H y x d n as objs/\objs.idxOf? d=some j/\Q (.int (j:Nat)) H):=by
 intro value slice pins s σ H x y v u Q I rx ry h hs;obtain⟨G,d,n,as,objs,j,⟨rfl,sm,dx,ok,tp,hn,dp,hk⟩,hj,q⟩:=h;obtain⟨a,rfl⟩:=iQ dx tp;cases ry;cases rx;obtain⟨h1,hl,xs,nx,dd⟩:=iP I sm hn dp hk;rcases numXs_at (d:=d) nx with⟨q1,q2⟩|⟨j',a',t,q1,q2⟩
 .rw[hj]at q1;cases q1
 .rw[hj]at q1
  cases q1;refine tail_any dd.typeIs PySem.F.slot_dict_getitem.lookup (wpAny_getItem_heap (show X.A.units+1+64<cLine by omega) (kY I sm 8 d _ _ dx rfl ok) dd q2 ⟨.int (j:Nat),H,I.tok _,⟨t,?_⟩,q⟩) hs;rw[Nat.zero_add]
def Hv(hu:X.A.units+100<cLine):Cd X (λo i v H Q=>∃G d n as objs a,Vat X G H i o d n as objs/\i=.ref a/\objs.idxOf? d=.none/\objs.length<1000000/\v=.int (objs.length:Nat)/\Q (upd H n (.ext (bx X.prog X.w n (as++[a]) (objs++[d]))))):=by
 intro pins s σ H o i v ov iv u Q I ro ri rv h;obtain⟨G,d,n,as,objs,a,⟨rfl,sm,dx,ok,tp,hn,dp,hk⟩,rfl,hj,hlt,rfl,q⟩:=h;cases ro;cases ri;obtain⟨t,rfl⟩:=rv;obtain⟨h1,hl,xs,nx,dd⟩:=iP I sm hn dp hk;have hz:xs.length<=sizeLine:=by rw[(fR nx).1,sizeLine_eq];omega
 rcases numXs_at (d:=d) nx with⟨q1,q2⟩|⟨j',a',t',q1,q2⟩
 .refine wpAny_setItem_heap (hsz:=hz) (show X.A.units+1+64<cLine by omega) (kY I sm 8 d _ _ dx rfl ok) dd λh' dd' hs=>⟨_,?_,q⟩
  obtain⟨ob,es,ep,hq,h2,h3,h4,_,h5⟩:=dd';rw[storedH_new q2]at h4 h5;have nx':=jT (d:=d) (a:=a) (t:=t) nx;rw[Nat.zero_add]at nx';exact I.write (t':=_) (by rw[hn];exact True.intro) (.inl rfl) (λb w hb e=>(hs.2 b hb).trans e) ⟨ob,hq⟩ ⟨⟨h1,_,nx',by simp;omega,ob,es,ep,hq,h2,h3,h4,h5⟩,⟨ob,hq⟩,λh1' h2' ⟨y1,ys,y2,y3,yo,yes,yep,y4,y5⟩ k=>⟨y1,ys,y2,y3,yo,yes,yep,k yo y4,y5⟩⟩
 .rw[hj]at q1;cases q1
end
noncomputable def jU(U:Ust):List D->Option (Ust×R)
 |[.hdl h,d]=>(U[h]?).bind λobjs=>if okK 8 d&&gG d&&decide (objs.length<1000000)then (match objs.idxOf? d with
  |some j=>some (U,.ok (.int (j:Nat)))
  |none=>some (U.set h (objs++[d]),.ok (.int (objs.length:Nat))))else none
 |_=>none
noncomputable def iR:FnM:=⟨[false,false],jU⟩
set_option tactic.hygienic true in
theorem jV :∀{os:List D},os.idxOf? d=.none->(os++[d]).idxOf? d=some os.length
 |[],_=>by simp[List.idxOf?_cons]
 |o::r,h=>by
  rw[List.idxOf?_cons]at h;rw[List.cons_append,List.idxOf?_cons];split at h
  .cases h
  .rename_i c
   rw[if_neg c];cases q:r.idxOf? d with
   |some j=>rw[q]at h;cases h
   |none=>rw[jV q];rfl
def VS.put{C:Addr}{G:Hp}{dd:Vd}{U:Ust}(v:VS P w K C G H dd U)(sm:Same G (er H (parts dd))){h:Nat}{a n dx b:Addr}{objs:List D}{as:List Addr}(e:dd[h]?=some (a,l,n))(hU:U[h]?=some objs)(hl:H l=some (.lst (as.map .ref)))
  (hn:H n=some (.ext (bx P w n as objs))) (dp:Dps K G objs (as.map .ref)) (hk:∀d∈objs,okK 8 d=true/\gG d=true) (dv:Dp K G d (.ref b)) (ok:okK 8 d=true) (tp:gG d=true):
  MExt G H dd G (upd (upd H n (.ext (bx P w n (as++[b]) (objs++[d])))) l (.lst ((as++[b]).map .ref))) dd/\VS P w K C G (upd (upd H n (.ext (bx P w n (as++[b]) (objs++[d])))) l (.lst ((as++[b]).map .ref))) dd (U.set h (objs++[d])):=by
 obtain⟨ml,mn⟩:=fP e;have nln:n≠l:=λz=>by subst z;rw[hl]at hn;cases hn
 have out:∀c,c∉parts dd->upd (upd H n (.ext (bx P w n (as++[b]) (objs++[d])))) l (.lst ((as++[b]).map .ref)) c=H c:=λc hc=>by
  have c1:c≠l:=λz=>hc (by rw[z];exact ml)
  have c2:c≠n:=λz=>hc (by rw[z];exact mn)
  rw[aa c1,aa c2]
 have ere:er (upd (upd H n (.ext (bx P w n (as++[b]) (objs++[d])))) l (.lst ((as++[b]).map .ref))) (parts dd)=er H (parts dd):=by
  funext c
  by_cases hc:c∈parts dd
  .rw[iJ hc,iJ hc]
  .rw[ax hc,ax hc,out c hc]
 have hlen:=(gi0 hU).1;refine⟨⟨Same.refl _,by rw[ere];exact Same.refl _,by rw[ere];exact sm,λf f h f=>h,List.prefix_refl _,λc o hc=>?_⟩,⟨by rw[v.len];simp,v.nd,λh' a' l' n' e'=>?_,λc C' dx' fs q=>?_,v.out,λp hp=>?_⟩⟩
 .by_cases c1:c=l
  .subst c1;exact⟨_,ae⟩
  .rw[aa c1]
   by_cases c2:c=n
   .subst c2;exact⟨_,ae⟩
   .rw[aa c2];exact⟨o,hc⟩
 .obtain⟨dx',objs',q1,q2,q3,as',q4,q5,q6,q7⟩:=v.at' h' a' l' n' e'
  have hdx:upd (upd H n (.ext (bx P w n (as++[b]) (objs++[d])))) l (.lst ((as++[b]).map .ref)) dx'=some (.own a'):=by
   have c1:dx'≠l:=λz=>by rw[z,hl]at q3;cases q3
   have c2:dx'≠n:=λz=>by rw[z,hn]at q3;cases q3
   rw[aa c1,aa c2];exact q3
  by_cases hh:h'=h
  .subst hh
   rw[e]at e';cases e';rw[hU]at q1;cases q1;rw[hl]at q4;have eas:as'=as:=by
    have z:as.map V.ref=as'.map V.ref:=HO.lst.inj (Option.some.inj q4);exact (List.map_inj_right (λf f z=>V.ref.inj z)).mp z.symm
   subst eas;refine⟨dx',objs++[d],by rw[gs0 hlen],q2,hdx,as'++[b],ae,by rw[List.map_append];exact q5.append (.one dv),by rw[aa nln];exact ae,λy hy=>?_⟩;rcases ma0 hy with hy|hy
   .exact hk y hy
   .obtain rfl:y=d:=by simpa using hy
    exact⟨ok,tp⟩
  .have ap:l'≠l/\l'≠n/\n'≠l/\n'≠n:=by
    have key:∀(dd:Vd)(i j:Nat)(p q:Addr×Addr×Addr),(dd.flatMap λp=>[p.2.1,p.2.2]).Nodup->i<j->dd[i]?=some p->dd[j]?=some q->∀x∈[p.2.1,p.2.2],∀y∈[q.2.1,q.2.2],x≠y:=by
     intro dd
     induction dd with
     |nil=>intro i j p q _ _ h1;simp at h1
     |cons r rs ih=>
      intro i j p q nd hij h1 h2 x hx y hy;have nd2:([r.2.1,r.2.2]++rs.flatMap λp=>[p.2.1,p.2.2]).Nodup:=nd;obtain⟨n1,n2,n3⟩:=List.nodup_append.mp nd2;cases i with
      |zero=>
       cases j with
       |zero=>exact absurd hij (li0 _)
       |succ j=>
        simp at h1;subst h1;exact n3 x hx y (List.mem_flatMap.mpr ⟨q,mg0 (by simpa using h2),hy⟩)
      |succ i=>
       cases j with
       |zero=>exact absurd hij (Nat.not_lt_zero _)
       |succ j=>exact ih i j p q n2 (by omega) (by simpa using h1) (by simpa using h2) x hx y hy
    rcases Nat.lt_or_gt_of_ne hh with c|c
    .have k2:=key dd h' h _ _ (List.nodup_append.mp v.nd).2.1 c e' e
     exact⟨k2 _ (by simp) _ (by simp),k2 _ (by simp) _ (by simp),k2 _ (by simp) _ (by simp),k2 _ (by simp) _ (by simp)⟩
    .have k2:=key dd h h' _ _ (List.nodup_append.mp v.nd).2.1 c e e'
     exact⟨(k2 _ (by simp) _ (by simp)).symm,(k2 _ (by simp) _ (by simp)).symm,(k2 _ (by simp) _ (by simp)).symm,(k2 _ (by simp) _ (by simp)).symm⟩
   obtain⟨a1,a2,a3,a4⟩:=ap;exact⟨dx',objs',by rw[gn0 (Ne.symm hh)];exact q1,q2,hdx,as',by rw[aa a1,aa a2];exact q4,q5,by rw[aa a3,aa a4];exact q6,q7⟩
 .have:H c=some (.ins C' dx' fs):=by
   by_cases c1:c=l
   .subst c1;rw[ae]at q;cases q
   .rw[aa c1]at q
    by_cases c2:c=n
    .subst c2;rw[ae]at q;cases q
    .rw[aa c2]at q;exact q
  exact v.uni c C' dx' fs this
 .obtain⟨ps,z⟩:=v.tb p hp
  exact⟨ps,by rw[aa (λy=>by rw[y,hl]at z;cases z),aa (λy=>by rw[y,hn]at z;cases z)];exact z⟩
structure wX(st:Stmt):Prop where
 ex:∃p1 p2 p3 p4 p5 p6 p7 p8 p9 p10 p11 p12 p13 p14 p15 p16 p17 p18 p19 p20 p21 p22 p23 p24 p25:Pos,(p16.endLine==p18.line)=true/\defBody st =
  [.If (.Compare (.Name "made" p1) [.NotIn] [.Attribute (.Name "self" p2) "numbers" p3] p4)
   [.Assign [.Subscript (.Attribute (.Name "self" p5) "numbers" p6) (.Name "made" p7) p8] (.Call (.Name "len" p9) [.Attribute (.Name "self" p10) "objects" p11] [] p12) p13,
    .Expr (.Call (.Attribute (.Attribute (.Name "self" p14) "objects" p15) "append" p16) [.Name "made" p17] [] p18) p19] [] p20,
   .Return (some (.Subscript (.Attribute (.Name "self" p21) "numbers" p22) (.Name "made" p23) p24)) p25]
 gl:(defScope st).names.lookup ("len":Str)=some NameKind.globalImplicit
set_option tactic.hygienic true in
def ET{P}{w}{mg}{base}{C}{x qual}{st}{f}{fd}(F:Fun K x qual st f fd)(S:aP ["self","made"] ["self","made"] (defScope st))(T:wX st)(hlen:mg "len"=none)(hc:Cls K C)(h1:NoAttr K C "objects")(h2:NoAttr K C "numbers"):
  FnOk P w K mg base (CX1 P w) 2 f fd ["self","made"] (Mur P w K C iR):=by
 obtain⟨oc,od,kV,doc,pm,an,cdv,ct,osl,rfl,lk,hcd⟩:=F.ex;obtain⟨p1,p2,p3,p4,p5,p6,p7,p8,p9,p10,p11,p12,p13,p14,p15,p16,p17,p18,p19,p20,p21,p22,p23,p24,p25,hline,hbody⟩:=T.ex;refine AX (CX:=CX1 P w) lk hcd S (λvs H Q E h=>?_) (λA outer s H vs Q E hr h=>?_)
 .obtain⟨ds,U,U',r,G,d,h1,_,das,_⟩:=h
  have:ds.length=2:=by
   match ds,h1 with
   |[.hdl h,d],_=>rfl
  rw[<-das.length,this];rfl
 .obtain⟨ds,U,U',r,G,dd,hrun,sm,das,v,kq⟩:=h
  have sm':=sm.trans az;have hu:(df (CX1 P w) P w K mg base ["self","made"] qual (defScope st) f cdv A outer s H E).A.units+100<cLine:=by have:=hr.un;show (A.deeper _).units+100<_;omega
  have vself:∀p:Pos,PE (df (CX1 P w) P w K mg base ["self","made"] qual (defScope st) f cdv A outer s H E) (.Name "self" p) (tY 0):=λp=>cF rfl ((S.par "self" (by simp)).elim .inl λz=>.inr (.inl z))
  have vmade:∀p:Pos,PE (df (CX1 P w) P w K mg base ["self","made"] qual (defScope st) f cdv A outer s H E) (.Name "made" p) (tY 1):=λp=>cF rfl ((S.par "made" (by simp)).elim .inl λz=>.inr (.inl z))
  have num:=λ(p q:Pos)=>om (pos:=q) (f:="numbers") (vself p) rfl
  have obs:=λ(p q:Pos)=>om (pos:=q) (f:="objects") (vself p) rfl
  rw[hbody];refine⟨_,aI (lM (pos:=p20) (qd (pos:=p4) (tG hu) (vmade p1) (num p2 p3) rfl)
   (aI (nX (pos:=p13) (di (p:=p9) (pos:=p12) ky T.gl hlen PySem.boot_len (ay (obs p10 p11) aT)) (ud (pos:=p8) (num p5 p6) (vmade p7) (Hv hu)))
    (aI (cG (pos:=p19) (ju (apos:=p16) (cpos:=p18) PySem.F.plainAttrs_list PySem.F.slot_list_append PySem.F.type_list_append fC (obs p14 p15) (ay (vmade p17) aT) rfl rfl hline)) dD)) dD)
   (aI (km (pos:=p25) (AY (pos:=p24) (Kj hu) (num p21 p22) (vmade p23) λc c=>rfl)) dD),?_⟩
  match ds,hrun,das with
  |[.hdl h,d],hrun,das=>
   obtain⟨va,vb,rfl,da,db⟩:=das.two;have da:=da.dp rfl;obtain⟨objs,hU,hrun⟩:=bx0 (hrun:(U[h]?).bind _=some (U',r));split at hrun
   .rename_i hq
    simp only[be0,decide_eq_true_eq]at hq;obtain⟨⟨ok,tp⟩,hlt⟩:=hq;have db:=db.dp (by cases d<;>first|rfl|cases tp);obtain⟨b,rfl⟩:=iQ db tp;obtain⟨a,l,n,dx,objs',rfl,e,hU',hG,hdx,as,hl,dp,hn,hk⟩:=v.hdl sm' da;rw[hU]at hU';cases hU';have hlo:(vfs l n h).lookup ("objects":Str)=some (V.ref l):=rfl;have hln:(vfs l n h).lookup ("numbers":Str)=some (V.ref n):=rfl;have fself:(start ["self","made"] [V.ref a,V.ref b])[0]?=some (some (.ref a)):=rfl;have fmade:(start ["self","made"] [V.ref a,V.ref b])[1]?=some (some (.ref b)):=rfl;have aslen:as.length=objs.length:=by have:=dp.length;simpa using this.symm
    refine⟨.ref b,fmade,.ref a,fself,a,C,dx,_,_,rfl,sm' _ _ hG,hc,h2,hln,G,d,n,as,objs,⟨rfl,sm',db,ok,tp,hn,dp,hk⟩,?_⟩;cases hj:objs.idxOf? d with
    |some j=>
     rw[hj]at hrun;cases hrun;refine⟨false,rfl,kz ⟨.ref a,fself,a,C,dx,_,_,rfl,sm' _ _ hG,hc,h2,hln,.ref b,fmade,G,d,n,as,objs,j,⟨rfl,sm',db,ok,tp,hn,dp,hk⟩,hj,?_⟩⟩;exact kq _ G H dd (.refl sm) v (.int _)
    |none=>
     rw[hj]at hrun;cases hrun;have nln:n≠l:=λz=>by subst z;rw[hl]at hn;cases hn
     have anl:a≠l:=λz=>by rw[z]at hG;rw[sm' _ _ hG]at hl;cases hl
     have ann:a≠n:=λz=>by rw[z]at hG;rw[sm' _ _ hG]at hn;cases hn
     refine⟨true,rfl,iteT ?_⟩;refine⟨.ref a,fself,a,C,dx,_,_,rfl,sm' _ _ hG,hc,h1,hlo,l,as.map .ref,rfl,.inl (SqL.of hl),.ref a,fself,a,C,dx,_,_,rfl,sm' _ _ hG,hc,h2,hln,.ref b,fmade,G,d,n,as,objs,b,⟨rfl,sm',db,ok,tp,hn,dp,hk⟩,rfl,hj,hlt,by rw[lm0,aslen],?_⟩;obtain⟨mx,v2⟩:=v.put sm (dx:=dx) e hU hl hn dp hk db ok tp;refine⟨.ref a,fself,a,C,dx,_,_,rfl,by rw[aa ann];exact sm' _ _ hG,hc,h1,hlo,.inl ⟨rfl,as.map .ref,SqL.of (by rw[aa (Ne.symm nln)];exact hl)⟩,.ref b,fmade,l,as.map .ref,.ref b,rfl,rfl,by rw[aa (Ne.symm nln)];exact hl,by rw[lm0,aslen,sizeLine_eq];omega,?_⟩;have eas:(as.map V.ref++[V.ref b])=(as++[b]).map V.ref:=by simp
     rw[eas];have sm2:=mx.gh.trans az;refine⟨.ref a,fself,a,C,dx,_,_,rfl,sm2 _ _ hG,hc,h2,hln,.ref b,fmade,G,d,n,as++[b],objs++[d],objs.length,⟨rfl,sm2,db,ok,tp,by rw[aa nln];exact ae,by rw[List.map_append];exact dp.append (.one db),λy hy=>?_⟩,jV hj,kq _ G _ dd mx v2 (.int _)⟩;rcases ma0 hy with hy|hy
     .exact hk y hy
     .obtain rfl:y=d:=by simpa using hy
      exact⟨ok,tp⟩
   .cases hrun
noncomputable def An(C dx l n:Addr):HO:=.ins C dx [("objects",.ref l),("numbers",.ref n)]
noncomputable def iT(C x dx l n:Addr)(H:Hp):Hp:=upd (upd (upd (upd H l (.lst [])) x (.ins C dx [("objects",.ref l)])) n (.dK [])) x (An C dx l n)
noncomputable def wY(C:Addr):Sp:=λvs H Q a=>∃x dx,vs=[.ref x]/\H x=some (.ins C dx [])/\∀l n,H l=none->H n=none->l≠n->Q .non (iT C x dx l n H)
structure qQ(st:Stmt):Prop where
 ex:∃p1 p2 p3 p4 p5 p6 p7 p8:Pos,defBody st=[.Assign [.Attribute (.Name "self" p1) "objects" p2] (.List [] p3) p4,.Assign [.Attribute (.Name "self" p5) "numbers" p6] (.Dict [] [] p7) p8]
def Ao{P}{w}{mg}{base}{C}{x qual}{st}{f}{fd}(F:Fun K x qual st f fd)(S:aP ["self"] ["self"] (defScope st))(T:qQ st)(hc:Cls K C)(h1:NoAttr K C "objects")(h2:NoAttr K C "numbers"):
  FnOk P w K mg base CX0 1 f fd ["self"] (wY C):=by
 obtain⟨p1,p2,p3,p4,p5,p6,p7,p8,hbody⟩:=T.ex;refine F.ok S (λvs H Q E h=>?_) (λcdv A outer s H vs Q E hr h=>?_)
 .obtain⟨x,dx,rfl,_⟩:=h;rfl
 .obtain⟨x,dx,rfl,hx,q⟩:=h
  have vself:∀p:Pos,PE (df CX0 P w K mg base ["self"] qual (defScope st) f cdv A outer s H E).nox (.Name "self" p) (tY 0):=λp=>cF rfl ((S.par "self" (by simp)).elim .inl λz=>.inr (.inl z))
  rw[hbody];refine⟨_,aI (uo (pos:=p4) (pos':=p2) (f:="objects") (vself p1) (ur (pos:=p3) aT) rfl) (aI (uo (pos:=p8) (pos':=p6) (f:="numbers") (vself p5) (uB (pos:=p7)) rfl) dD),?_⟩;refine⟨Nat.zero_le _,λl hl=>⟨.ref x,rfl,x,C,dx,[],rfl,?_,hc,h1,by decide,λn hn=>⟨.ref x,rfl,x,C,dx,[("objects",.ref l)],rfl,?_,hc,h2,(by decide:1<1000),?_⟩⟩⟩
  .rw[aa (ag hx hl)];exact hx
  .have nx:n≠x:=λz=>by subst z;rw[ae]at hn;cases hn
   rw[aa (Ne.symm nx)];exact ae
  .have nx:n≠x:=λz=>by subst z;rw[ae]at hn;cases hn
   rw[aa nx]at hn;have nl:n≠l:=λz=>by subst z;rw[ae]at hn;cases hn
   rw[aa nl]at hn;exact q l n hl hn (Ne.symm nl)
def wZ(l n:Addr)(h:Nat)(f:Str):(vfs l n h).lookup f=([("objects",.ref l),("numbers",.ref n)]:List (Str×V)).lookup f:=by
 unfold vfs;simp only[lk0];cases c:f==("objects":Str)with
 |true=>rfl
 |false=>
  cases c2:f==("numbers":Str)with
  |true=>rfl
  |false=>rfl
structure xa(P:Program)(w:World)(K:Fg)(mg:Str->Option Value)(base:Heap)(C:Addr)(vn:Str):Prop where
 ex:∃f fd,Mk K C f/\mg vn=some (.ref C)/\(vn==("__debug__":Str))=false/\Binds K fd ["self"] []/\FnOk P w K mg base CX0 1 f fd ["self"] (wY C)
def Ap{C:Addr}{vn:Str}{U:Ust}{p:Pos}(Z:xa X.prog X.w X.K X.mg X.base C vn)(hr:Room 2 X.A)(hg:Gl X vn):EvM X C Y U (.Call (.Name vn p) [] [] pos) (.ok (.hdl U.length)) (U++[[]]):=by
 obtain⟨f,fd,hM,hm,hdb,hb,F⟩:=Z.ex;intro pins s σ H Q I h0;obtain⟨G0,H0,d0,G,d,E,kq⟩:=h0;refine thn (uv (p:=p) (pos:=pos) hM F hr hg hm hb .nil qi hdb pins s σ H (λv H2=>∃x dx l n,v=.ref x/\H x=none/\H dx=none/\dx≠x/\l≠x/\n≠x/\l≠dx/\n≠dx/\l≠n/\H l=none/\H n=none/\H2=iT C x dx l n (upd (upd H dx (.own x)) x (.ins C dx []))) I ?_) λu s2 hq=>?_
 .intro x dx hx hdx hne
  refine⟨x,dx,rfl,ae,λl n hl hn hln=>⟨rfl,x,dx,l,n,rfl,hx,hdx,hne,?_⟩⟩;have l1:l≠x:=λz=>by subst z;rw[ae]at hl;cases hl
  rw[aa l1]at hl;have l2:l≠dx:=λz=>by subst z;rw[ae]at hl;cases hl
  rw[aa l2]at hl;have n1:n≠x:=λz=>by subst z;rw[ae]at hn;cases hn
  rw[aa n1]at hn;have n2:n≠dx:=λz=>by subst z;rw[ae]at hn;cases hn
  rw[aa n2]at hn;exact⟨l1,n1,l2,n2,hln,hl,hn,rfl⟩
 .obtain⟨v,H2,I2,rv,x,dx,l,n,rfl,hx,hdx,hne,l1,n1,l2,n2,hln,hl,hn,rfl⟩:=hq
  generalize hH2:iT C x dx l n (upd (upd H dx (.own x)) x (.ins C dx []))=H2 at I2;have at_x:H2 x=some (An C dx l n):=by rw[<-hH2];exact ae
  have at_n:H2 n=some (.dK []):=by rw[<-hH2];unfold iT;rw[aa n1];exact ae
  have at_l:H2 l=some (.lst []):=by rw[<-hH2];unfold iT;rw[aa l1,aa hln,aa l1];exact ae
  have at_dx:H2 dx=some (.own x):=by rw[<-hH2];unfold iT;rw[aa hne,aa (Ne.symm n2),aa hne,aa (Ne.symm l2),aa hne];exact ae
  have other:∀b,b≠x->b≠dx->b≠l->b≠n->H2 b=H b:=λb b1 b2 b3 b4=>by rw[<-hH2];unfold iT;rw[aa b1,aa b4,aa b1,aa b3,aa b1,aa b2]
  obtain⟨_,hsm,vs,kv,⟨o,es,ep,ho,hex,hdt,_,hpr,_⟩⟩:=(show ObjOk X.prog X.w H2 s2.heap n (.dK [])from I2.hok n _ at_n);have hvs:vs=[]:=by cases kv;rfl
  subst hvs;have hes:es.toList=[]:=by cases q:es.toList with|nil=>rfl|cons a r=>rw[q]at hpr;cases hpr
  have num:bx X.prog X.w n [] [] s2.heap:=⟨hsm,[],.nil,by decide,o,es,ep,ho,hex,hdt,hes,List.nodup_nil⟩;have I3:Inv X pins σ (upd H2 n (.ext (bx X.prog X.w n [] []))) {s2 with heap:=s2.heap,toks:=s2.toks}:=I2.write (x:=n) (e:=n) (by rw[at_n];exact True.intro) (.inl rfl) (λb w g e=>e) ⟨o,ho⟩
   ⟨num,⟨o,ho⟩,λh1' h2' ⟨y1,ys,y2,y3,yo,yes,yep,y4,y5⟩ k=>⟨y1,ys,y2,y3,yo,yes,yep,k yo y4,y5⟩⟩
  generalize hH3:upd H2 n (.ext (bx X.prog X.w n [] []))=H3 at I3;have b_x:H3 x=some (An C dx l n):=by rw[<-hH3,aa (Ne.symm n1)];exact at_x
  have b_dx:H3 dx=some (.own x):=by rw[<-hH3,aa (Ne.symm n2)];exact at_dx
  obtain⟨z1,z2,z3,z4,mA,z5,z6,z7⟩:=(show ObjOk X.prog X.w H3 s2.heap x (An C dx l n)from I3.hok x _ b_x);have I4:Inv X pins σ (upd H3 x (.ins C dx (vfs l n U.length))) {s2 with heap:=s2.heap,toks:=s2.toks}:=I3.write (x:=x) (e:=x) (by rw[b_x];exact True.intro) (.inl rfl) (λb w g e=>e) ⟨_,z4⟩
   ⟨by rw[aa hne];exact b_dx,(show 3<=1000 by decide),z3,z4,mA,z5,λf=>by rw[wZ];exact z6 f,λf hf=>by
    have:=z7 f hf;simp only[mk0,List.map_nil,List.mem_cons,List.not_mem_nil,or_false]at this;unfold vfs;rcases this with z|z
    .exact List.mem_cons.mpr (.inl z)
    .exact mc0 _ (List.mem_cons.mpr (.inl z))⟩
  generalize hH4:upd H3 x (.ins C dx (vfs l n U.length))=H4 at I4;have c_x:H4 x=some (.ins C dx (vfs l n U.length)):=by rw[<-hH4];exact ae
  have c_dx:H4 dx=some (.own x):=by rw[<-hH4,aa hne];exact b_dx
  have c_n:H4 n=some (.ext (bx X.prog X.w n [] [])):=by rw[<-hH4,aa n1,<-hH3];exact ae
  have c_l:H4 l=some (.lst []):=by rw[<-hH4,aa l1,<-hH3,aa hln];exact at_l
  have c_o:∀b,b≠x->b≠dx->b≠l->b≠n->H4 b=H b:=λb b1 b2 b3 b4=>by rw[<-hH4,aa b1,<-hH3,aa b4];exact other b b1 b2 b3 b4
  have keep:∀b o,H b=some o->H4 b=some o:=λb o e=>by
   rw[c_o b (ag e hx) (ag e hdx) (ag e hl) (ag e hn)];exact e
  have hlen:=E.vs.len
  let G':Hp:=upd G x (.ins C dx (vfs l n U.length))
  have gx:∀b,H b=none->G b=none:=λb hb=>E.sub.free hb
  have gg:Same G G':=av (gx x hx);have pd:parts (d++[(x,l,n)])=parts d++[l,n]:=by unfold parts;rw[List.flatMap_append,<-List.append_assoc];rfl
  have nl:∀b,H b=none->b∉parts d:=λb hb z=>by
   obtain⟨o,ho⟩:=E.vs.part z;rw[hb]at ho;cases ho
  have hh:Same (er H (parts d)) (er H4 (parts (d++[(x,l,n)]))):=λb o e=>by
   obtain⟨e1,e2⟩:=aH e;rw[ax (by
           rw[pd];intro z;rcases ma0 z with z|z
           .exact e1 z
           .simp only[List.mem_cons,List.not_mem_nil,or_false]at z
            rcases z with rfl|rfl
            .rw[hl]at e2;cases e2
            .rw[hn]at e2;cases e2)]
   exact keep b o e2
  have mx:MExt G H d G' H4 (d++[(x,l,n)]):=by
   refine⟨gg,hh,λb o e=>?_,λb o e1 e2=>?_,List.prefix_append _ _,λb o e=>⟨o,keep b o e⟩⟩
   .by_cases c:b=x
    .subst c
     have e:upd G b (.ins C dx (vfs l n U.length)) b=some o:=e;rw[ae]at e;cases e;rw[ax (by
             rw[pd];intro z;rcases ma0 z with z|z
             .exact nl b hx z
             .simp only[List.mem_cons,List.not_mem_nil,or_false]at z
              rcases z with z|z
              .exact l1 z.symm
              .exact n1 z.symm)]
     exact c_x
    .have e:upd G x (.ins C dx (vfs l n U.length)) b=some o:=e
     rw[aa c]at e;exact hh b o (E.sub' b o e)
   .show upd G x (.ins C dx (vfs l n U.length)) b=none
    rw[aa (ag e2 hx)];exact e1
  have v':VS X.prog X.w X.K C G' H4 (d++[(x,l,n)]) (U++[[]]):=by
   refine⟨by simp[hlen],?_,λh a l' n' e=>?_,λa C' dx' fs q=>?_,λb hb=>?_,λp hp=>let ⟨ps,e⟩:=E.vs.tb p hp;⟨ps,keep _ _ e⟩⟩
   .rw[pd]
    refine List.nodup_append.mpr ⟨E.vs.nd,by simp[hln],λa ha b hb z=>?_⟩;subst z;simp only[List.mem_cons,List.not_mem_nil,or_false]at hb;rcases hb with rfl|rfl
    .exact nl _ hl ha
    .exact nl _ hn ha
   .by_cases hlt:h<d.length
    .rw[gl0 hlt]at e
     obtain⟨dx',objs,q1,q2,q3,as,q4,q5,q6,q7⟩:=E.vs.at' h a l' n' e;exact⟨dx',objs,by rw[gl0 (by rw[<-hlen];exact hlt)];exact q1,gg _ _ q2,keep _ _ q3,as,keep _ _ q4,q5.mono gg,keep _ _ q6,q7⟩
    .rw[List.getElem?_append_right (by omega)]at e
     have h0:h-d.length=0:=by
      have:=(gi0 e).1;simp at this;omega
     rw[h0]at e;cases e;have eh:h=U.length:=by omega
     subst eh;refine⟨dx,[],by simp,ae,c_dx,[],c_l,.nil,c_n,λg z=>by cases z⟩
   .by_cases c:a=x
    .subst c
     exact⟨d.length,l,n,by simp⟩
    .have q':H a=some (.ins C' dx' fs):=by
      by_cases c1:a=dx
      .subst c1;rw[c_dx]at q;cases q
      by_cases c2:a=l
      .subst c2;rw[c_l]at q;cases q
      by_cases c3:a=n
      .subst c3;rw[c_n]at q;cases q
      rw[c_o a c c1 c2 c3]at q;exact q
     obtain⟨h,l',n',e⟩:=E.vs.uni a C' dx' fs q';exact⟨h,l',n',by rw[gl0 (gi0 e).1];exact e⟩
   .show upd G x (.ins C dx (vfs l n U.length)) b=none
    rw[pd]at hb;rcases ma0 hb with hb|hb
    .rw[aa (λz=>by subst z;exact nl _ hx hb)];exact E.vs.out b hb
    .simp only[List.mem_cons,List.not_mem_nil,or_false]at hb
     rcases hb with rfl|rfl
     .rw[aa l1];exact gx _ hl
     .rw[aa n1];exact gx _ hn
  exact⟨.ref x,H4,I4,rv,kq (.ref x) G' H4 _ mx v' (.hdl (show upd G x (.ins C dx (vfs l n U.length)) x=_ from ae))⟩
end L2.Z
set_option maxRecDepth 10000
end
section
variable {Z:SI.Fs}{Γ:List (PySem.Str×SI.D)}{loose ns vms:List PySem.Str}{α β:Type}{i:Int}{c j m n:Nat}{q:PySem.Program}{t x:PySem.Str}{Y:List SI.Sl}{mg:PySem.Str->Option PySem.Value}{h:PySem.Heap}
namespace TX
open PySem SI
noncomputable def dB:Def:=⟨[true,true],2,(.B (.ifs (.v 0) (.A (.ret (.idx (.v 0) (.op .mod (.v 1) (.bi .len (.A (.v 0))))))) .nil) (.ret (.k (.int 0))))⟩
noncomputable def gQ:Def:=⟨[true,true],3,(.cons (.set 2 (.op .mod (.op .add (.call "_law_cell" (.B (.v 0) (.v 1))) (.op .mul (.k (.int 104729)) (.op .add (.v 1) (.k (.int 1))))) (.k (.int 4294967291)))) (.B (.set 2 (.op .mod (.op .mul (.v 2) (.k (.int 48271))) (.k (.int 4294967279)))) (.ret (.op .mod (.op .add (.op .mul (.op .fdiv (.v 2) (.k (.int 64))) (.k (.int 69621))) (.v 2)) (.k (.int 4294967231))))))⟩
noncomputable def fi:Def:=⟨[true],3,(.cons (.set 1 (.k (.str ⟨#[32,33,34,35,36,38,39,40,41,42,43,44,45,46,47,48,49,50,51,52,53,54,55,56,57,58,59,60,61,62,63,64,65,66,67,68,69,70,71,72,73,74,75,76,77,78,79]⟩))) (.B (.set 2 (.k (.str ⟨#[80,81,82,83,84,85,86,87,88,89,90,91,92,93,94,95,96,97,98,99,100,101,102,103,104,105,106,107,108,109,110,111,112,113,114,115,116,117,118,119,120,121,122,123,124,125,126]⟩))) (.ret (.idx (.op .add (.v 1) (.v 2)) (.op .mod (.v 0) (.k (.int 94)))))))⟩
noncomputable def fj:Def:=⟨[true,true],3,(.cons (.set 2 (.call "_law_mix" (.B (.v 0) (.v 1)))) (.B (.ifs (.cmp .eq (.op .mod (.v 2) (.k (.int 4))) (.k (.int 3))) (.A (.ret (.op .add (.call "_law_sign" (.A (.op .fdiv (.v 2) (.k (.int 4))))) (.call "_law_sign" (.A (.op .fdiv (.v 2) (.k (.int 376)))))))) .nil) (.ret (.idx (.lst (.cons (.k (.str ⟨#[97]⟩)) (.cons (.k (.str ⟨#[98]⟩)) (.cons (.k (.str ⟨#[]⟩)) (.cons (.k (.str ⟨#[97,32,98]⟩)) (.B (.k (.str ⟨#[124]⟩)) (.k (.str ⟨#[99]⟩)))))))) (.op .mod (.op .fdiv (.v 2) (.k (.int 4))) (.k (.int 6)))))))⟩
noncomputable def fk:Def:=⟨[true,true],3,(.cons (.new 2 (.comp 1 [] (.one 0) (.seq (.v 0)) .nil (.op .add (.v 0) (.k (.str ⟨#[10]⟩))))) (.B (.ifs (.and (.v 1) (.and (.v 0) (.cmp .ne (.idx (.v 0) (.neg (.k (.int 1)))) (.k (.str ⟨#[]⟩))))) (.A (.seti 2 (.neg (.k (.int 1))) (.idx (.v 0) (.neg (.k (.int 1)))))) .nil) (.ret (.v 2))))⟩
noncomputable def gR:Def:=⟨[true,true,true],3,(.A (.ret (.comp 1 [1,0] (.one 0) (.rng (.v 2)) .nil (.call "_law_line" (.B (.v 2) (.op .add (.v 1) (.v 0)))))))⟩
noncomputable def ans(Z:Fs)(Γ:List (Str×D))(d:Def)(ds:List D):Option D:=(exs Z Γ (bV d ds) d.body).bind Out.val
def Has(Z:Fs)(f:Str)(fl:List Bool)(P:(List D->Option D)->Prop):Prop:=∃run,Z f=some ⟨fl,run⟩/\P run
noncomputable def jW(ns:List Int)(k:Int):Int:=if ns=[] then 0 else (ns[(k % ns.length).toNat]?).getD 0
def Aq{ns:List Int}(h:ns≠[])(k:Int):0<=k % (ns.length:Int)/\k % (ns.length:Int)<ns.length:=by
 have:0<ns.length:=lp0 h;exact⟨en0 _ (by omega),el0 _ (by omega)⟩
def bz{xs:List α}(h0:0<=i)(h1:i<xs.length):atI xs i=xs[i.toNat]?:=by
 unfold atI ixN;rw[if_pos h0,if_pos h1];rfl
def jX{xs:List α}{i:Nat}(d:α)(h:i<xs.length):xs[i]?=some (xs[i]?.getD d):=by
 rw[ge0 h];rfl
def xc(ns:List Int)(k:Int):ans Z Γ dB [.scr ns,.int k]=some (.int (jW ns k)):=by
 by_cases h:ns=[]
 .subst h;simp[ans,dB,jW]
 .have hl:0<ns.length:=lp0 h
  have hm:=Aq h k;have e:atI ns (k % (ns.length:Int))=some (jW ns k):=by
   rw[bz hm.1 hm.2,jX 0 (by omega)];simp[jW,h]
  simp[ans,dB,h,hl,e]
end TX
namespace M1
open PySem PySem.Builtin PySem.Builtin.Str
def ext{a b:Str}(h:a.cps.toList=b.cps.toList):a=b:=by
 cases a;cases b
 congr 1
 exact Array.toList_inj.mp h
def toL_append(a b:Str):(a++b).cps.toList=a.cps.toList++b.cps.toList:=by
 show (a.cps++b.cps).toList=_;simp
def ng(x:Str)(c:Nat):Txt.split x ⟨#[c]⟩≠[]:=by
 unfold Txt.split;split
 .simp
 .split
  .simp
  .rw[StrLaws.partsBetween_eq]
   obtain⟨p,r,e⟩:=StrLaws.partsFrom_ne x (⟨#[c]⟩:Str).length 0 (occurrences x ⟨#[c]⟩ 0 x.length (x.length+1));rw[e];simp
noncomputable def nl:Str:=⟨#[10]⟩
def pK:∀ls:List Str,(Txt.join Str.empty ls).cps.toList=(ls.map λp=>p.cps.toList).flatten:=by
 intro ls;show (glued Str.empty ls).cps.toList=_;rw[StrLaws.glued_eq_join]
 induction ls with
 |nil=>rfl
 |cons x r ih=>
  cases r with
  |nil=>show x.cps.toList=_;simp
  |cons y r=>
   show (x++Str.empty++Str.join Str.empty (y::r)).cps.toList=_;rw[toL_append,toL_append,ih];show x.cps.toList++[]++_=_;simp
end M1
namespace TX
open PySem SI M1
noncomputable def mixF(ns:List Int)(k:Int):Int:=
 let a:=(jW ns k+104729*(k+1)) % 4294967291
 let b:=a*48271 % 4294967279
 (b / 64*69621+b) % 4294967231
abbrev Br(Z:Fs):Prop:=Has Z "_law_cell" [true,true] λrun=>∀ns k,run [.scr ns,.int k]=some (.int (jW ns k))
abbrev fq(Z:Fs):Prop:=Has Z "_law_mix" [true,true] λrun=>∀ns k,run [.scr ns,.int k]=some (.int (mixF ns k))
def xf(i:Int)(j:Int)(h1:-(2 ^ 64)<j)(h2:j<2 ^ 64):oB i j=true:=by
 unfold oB;rw[dt0 h1,dt0 h2];simp
def xg(i:Int)(j:Int)(h1:-(2 ^ 64)<i)(h2:i<2 ^ 64):oB i j=true:=by
 unfold oB;rw[dt0 h1,dt0 h2];simp
def Ar(hc:Br Z)(ns)(k:Int):ans Z Γ gQ [.scr ns,.int k]=some (.int (mixF ns k)):=by
 obtain⟨run,h,hs⟩:=hc;simp[ans,gQ,h,hs,xg 104729,xf _ 48271,xf _ 69621,mixF]
def kZ(ns)(k:Int)(m:Int)(h:0<m):0<=mixF ns k % m/\mixF ns k % m<m:=⟨en0 _ (by omega),el0 _ h⟩
theorem aw{f}{inj g}:∀{xs:List β},(∀x∈xs,f (inj x)=some (some (g x)))->aB f (xs.map inj)=some (xs.map g)
 |[],_=>rfl
 |x::r,h=>by
  show (f (inj x)).bind _=_;rw[h x ms0];show (aB f (r.map inj)).map _=_;rw[aw λy hy=>h y (mc0 _ hy)];rfl
theorem bA{f}{inj g}{p:β->Bool}:∀{xs:List β},(∀x∈xs,f (inj x)=some (if p x then some (g x)else none))->aB f (xs.map inj)=some ((xs.filter p).map g)
 |[],_=>rfl
 |x::r,h=>by
  show (f (inj x)).bind _=_;rw[h x ms0];show (aB f (r.map inj)).map _=_;rw[bA λy hy=>h y (mc0 _ hy),List.filter_cons];cases p x<;>rfl
def nh{xs:List α}(d:α)(h0:0<=i)(h1:i<xs.length):atI xs i=some (xs[i.toNat]?.getD d):=by
 rw[bz h0 h1,<-jX d (by omega)]
def lR{xs:List α}(h:xs≠[])(d:α):atI xs (-1)=some (xs.getLastD d):=by
 have hl:0<xs.length:=lp0 h;have e:ixN xs.length (-1)=some (xs.length-1):=by
  unfold ixN;rw[if_neg (by decide),if_pos (by omega)]
  congr 1;omega
 unfold atI;rw[e];show xs[xs.length-1]?=_;rw[<-List.getLast?_eq_getElem?,List.getLastD_eq_getLast?];cases q:xs.getLast? with
 |none=>rw[List.getLast?_eq_none_iff]at q;exact absurd q h
 |some v=>rfl
theorem gu{c}:∀{ys:List Str}{p:Str},p∈ys->p.length<=(Str.join ⟨#[c]⟩ ys).length
 |[],_,h=>by cases h
 |[y],p,h=>by rw[List.mem_singleton.mp h];exact nr0 _
 |y::z::r,p,h=>by
  have e:(Str.join ⟨#[c]⟩ (y::z::r)).length=y.length+1+(Str.join ⟨#[c]⟩ (z::r)).length:=by
   show (y++⟨#[c]⟩++Str.join ⟨#[c]⟩ (z::r)).length=_;rw[Str.length_append,Str.length_append];rfl
  rcases mq0 h with rfl|h
  .omega
  .have:=gu (c:=c) h
   omega
def split_le(x:Str):∀p∈Txt.split x nl,p.length<=x.length:=by
 intro p hp;have:=gu (c:=10) hp;rw[show Str.join ⟨#[10]⟩ (Txt.split x nl)=x from StrLaws.join_split x nl]at this;exact this
def nu(x:Str):Txt.split x nl≠[]:=ng x 10
def ny(x:Str):(Txt.split x nl).length<=x.length+1:=by
 have key:∀ys:List Str,ys≠[]->ys.length<=(Str.join nl ys).length+1:=by
  intro ys
  induction ys with
  |nil=>intro h;exact absurd rfl h
  |cons y r ih=>
   intro _;cases r with
   |nil=>simp
   |cons z q=>
    have e:(Str.join nl (y::z::q)).length=y.length+1+(Str.join nl (z::q)).length:=by
     show (y++nl++Str.join nl (z::q)).length=_;rw[Str.length_append,Str.length_append];rfl
    have:=ih (by simp);rw[e];simp only[lc0]at this ⊢;omega
 have:=key _ (nu x)
 rwa [show Str.join nl (Txt.split x nl)=x from StrLaws.join_split x nl]at this
theorem pL{f}{n}:∀{xs:List α},(∀x∈xs,f x<=n)->(xs.map f).sum<=xs.length*n
 |[],_=>by simp
 |x::r,h=>by
  have h1:=h x ms0;have h2:=pL (f:=f) (xs:=r) λy hy=>h y (mc0 _ hy)
  simp only[mk0,List.sum_cons,lc0,Nat.succ_mul];omega
def nA(ys):(Txt.join Str.empty ys).length<=(ys.map (·.length)).sum:=by
 have h:=StrLaws.join_length_le Str.empty ys;have e:Txt.join Str.empty ys=Str.join Str.empty ys:=StrLaws.glued_eq_join _ _;rw[e];have z:Str.empty.length=0:=rfl;rw[z,Nat.mul_zero,Nat.add_zero]at h;exact h
end TX
set_option maxRecDepth 10000
namespace TX
open PySem SI L2.Z
noncomputable def aZ:Def:=⟨[true],1,(.B (.ifs (.or (.chain .le .le (.k (.str ⟨#[97]⟩)) (.v 0) (.k (.str ⟨#[122]⟩))) (.or (.chain .le .le (.k (.str ⟨#[65]⟩)) (.v 0) (.k (.str ⟨#[90]⟩))) (.chain .le .le (.k (.str ⟨#[48]⟩)) (.v 0) (.k (.str ⟨#[57]⟩))))) (.A (.ret (.k (.bool true)))) .nil) (.ret (.cmp .isin (.v 0) (.k (.str ⟨#[46,95,45]⟩)))))⟩
noncomputable def dP:Def:=⟨[true],1,(.cons (.ifs (.not (.chain .le .le (.k (.int 1)) (.bi .len (.A (.v 0))) (.g "LONGEST_NAME"))) (.A (.ret (.k (.bool false)))) .nil) (.B (.ifs (.or (.cmp .eq (.v 0) (.k (.str ⟨#[46]⟩))) (.cmp .eq (.v 0) (.k (.str ⟨#[46,46]⟩)))) (.A (.ret (.k (.bool false)))) .nil) (.ret (.bi .all (.A (.comp 1 [] (.one 0) (.seq (.v 0)) .nil (.call "is_name_sign" (.A (.v 0)))))))))⟩
noncomputable def bB:Def:=⟨[true],1,(.A (.ret (.bi .all (.A (.comp 2 [] (.tup [0,1]) (.zip (.B (.v 0) (.sl (.v 0) (.A (.k (.int 1))) .nil))) .nil (.cmp .lt (.v 0) (.v 1)))))))⟩
noncomputable def bC(cV:Nat):Def:=⟨[true,true],2,(.A (.ret (.bi .list (.A (.vcall cV "content" (.v 0) (.B (.v 1) (.k (.str ⟨#[116,114,101,101]⟩))))))))⟩
noncomputable def ft(cV:Nat):Def:=⟨[true,true],2,(.A (.ret (.idx (.vcall cV "held" (.v 0) (.A (.v 1))) (.k (.int 0)))))⟩
noncomputable def fu(cV:Nat):Def:=⟨[true,true],2,(.B (.ifs (.not (.chain .le .lt (.k (.int 0)) (.v 1) (.bi .len (.A (.vob cV (.v 0)))))) (.A .stuck) .nil) (.ret (.idx (.vob cV (.v 0)) (.v 1))))⟩
noncomputable def bP(cV:Nat):Def:=⟨[true,true,true],4,(.cons (.set 3 (.vcall cV "held" (.v 0) (.A (.v 1)))) (.B (.ifs (.cmp .ne (.idx (.v 3) (.k (.int 0))) (.v 2)) (.A .stuck) .nil) (.ret (.idx (.v 3) (.k (.int 1))))))⟩
noncomputable def lg:cq:=⟨[false,false],2,(.A (.ret (.meth "put" 0 (.G (.p (.tup (.B (.k (.str ⟨#[98,108,111,98]⟩)) (.v 1))))))))⟩
end TX
namespace TX
open PySem SI M1 L2.Z
noncomputable def signs65:List Nat:=[97,98,99,100,101,102,103,104,105,106,107,108,109,110,111,112,113,114,115,116,117,118,119,120,121,122,65,66,67,68,69,70,71,72,73,74,75,76,77,78,79,80,81,82,83,84,85,86,87,88,89,90,48,49,50,51,52,53,54,55,56,57,46,95,45]
noncomputable def bw(c:Nat):Bool:=decide (c∈signs65)
def As(c:Nat)(y:Str):hasSub ⟨#[c]⟩ y=decide (c∈y.cps.toList):=PySem.StrLaws.found_one y c
def EU(a b:Nat):decide ([a]<[b])=decide (a<b):=by
 by_cases h:a<b
 .rw[dt0 h,dt0]
  exact List.Lex.rel h
 .rw[df0 h,df0]
  intro z;cases z with
  |rel h'=>exact h h'
  |cons h'=>cases h'
def tH(c:Nat):bw c=((!decide (c<97)&&!decide (122<c))||((!decide (c<65)&&!decide (90<c))||(!decide (c<48)&&!decide (57<c)))||decide (c∈[46,95,45])):=by
 by_cases h:c<128
 .have key:∀c<128,bw c=((!decide (c<97)&&!decide (122<c))||((!decide (c<65)&&!decide (90<c))||(!decide (c<48)&&!decide (57<c)))||decide (c∈[46,95,45])):=by decide
  exact key c h
 .have h1:bw c=false:=by
   unfold bw;refine df0 λz=>h ?_
   have:∀c∈signs65,c<128:=by decide
   exact this c z
  have h2:decide (c∈[46,95,45])=false:=df0 (by simp;omega);rw[h1,h2,dt0 (by omega:122<c),dt0 (show 90<c by omega),dt0 (by omega:57<c)];simp
abbrev qR(Z:Fs):Prop:=Has Z "is_name_sign" [true] λrun=>∀c,run [.str ⟨#[c]⟩]=some (.bool (bw c))
noncomputable def dot:Str:=⟨#[46]⟩
noncomputable def EV:Str:=⟨#[46,46]⟩
noncomputable def aA(x:Str):Bool:=decide (1<=x.length)&&decide (x.length<=12)&&!decide (x=dot)&&!decide (x=EV)&&x.cps.toList.all bw
abbrev qS(Z:Fs):Prop:=Has Z "is_name" [true] λrun=>∀x:Str,x.length<=1000->run [.str x]=some (.bool (aA x))
noncomputable def tI:List Str->Bool
 |a::b::r=>decide (a.cps.toList<b.cps.toList)&&tI (b::r)
 |_=>true
variable {J:FsM}
def xh(J:FsM)(f:Str)(fl:List Bool)(P:(Ust->List D->Option (Ust×R))->Prop):Prop:=∃run,J f=some ⟨fl,run⟩/\P run
@[simp] def EW{h}{os}:hX c (.vlt c h os)=true:=by simp[hX]
@[simp] def Hw{h}{os}:yI (.vlt c h os)=os:=rfl
@[simp] def Hx{o}:roM .read o=o:=rfl
@[simp] def Hy{o}:roM .test o=o:=rfl
@[simp] def Kk{os}:vE c [os] (.dat (.hdl 0))=.lent (.vlt c 0 os):=rfl
@[simp] def Kl{U:Ust}{x}:vE c U (.dat (.str x))=.dat (.str x):=rfl
@[simp] def Km{U:Ust}{x}:vE c U (.dat (.int x))=.dat (.int x):=rfl
@[simp] def IX{U:Ust}{x}:vE c U (.dat (.bool x))=.dat (.bool x):=rfl
@[simp] def IY{U:Ust}{x}:vE c U (.dat (.list x))=.dat (.list x):=rfl
@[simp] def IZ{U:Ust}:vE c U (.dat .none)=.dat .none:=rfl
@[simp] def Kn{U:Ust}{x}:vE c U (.dat (.exc x))=.dat (.exc x):=rfl
@[simp] def LH{U:Ust}:vE c U .no=.no:=rfl
@[simp] def Ja{U:Ust}{d}:vE c U (.lent d)=.lent d:=rfl
noncomputable abbrev jY:Str:=⟨#[98,108,111,98]⟩
noncomputable abbrev dc:Str:=⟨#[116,114,101,101]⟩
noncomputable abbrev Au:Str:=⟨#[99,111,109,109,105,116]⟩
abbrev xi(Z:Fs)(c:Nat):Prop:=Has Z (aq "held") [true,true] λrun=>∀(h:Nat)(os:List D)(n:Nat)(d:D),os[n]?=some d->run [.vlt c h os,.int n]=some d
abbrev xj(Z:Fs)(c:Nat):Prop:=Has Z (aq "kind") [true,true] λrun=>∀(h:Nat)(os:List D)(n:Nat)(k:Str)(ds:List D),os[n]?=some (.tuple (.str k::ds))->run [.vlt c h os,.int n]=some (.str k)
abbrev iU(Z:Fs)(c:Nat):Prop:=Has Z (aq "content") [true,true,true] λrun=>∀(h:Nat)(os:List D)(n:Nat)(k:Str)(d:D),os[n]?=some (.tuple [.str k,d])->run [.vlt c h os,.int n,.str k]=some d
abbrev nC(Z:Fs)(c:Nat):Prop:=Has Z "entries_of" [true,true] λrun=>∀(h:Nat)(os:List D)(n:Nat)(es:List D),os[n]?=some (.tuple [.str dc,.tuple es])->run [.vlt c h os,.int n]=some (.list es)
def xk(h:Nat)(os:List D)(n:Nat)(d:D)(hd:os[n]?=some d):ans Z Γ (fu c) [.vlt c h os,.int n]=some d:=by
 have hn:=(gi0 hd).1;have e:atI os (n:Int)=some d:=by rw[bz (by omega) (by omega)];simpa using hd
 have l1:(0:Int)<=(n:Int):=by omega
 have l2:(n:Int)<(os.length:Int):=by omega
 simp[ans,fu,e,l1,hn]
def xm(hh:xi Z c)(h:Nat)(os:List D)(n:Nat)(k:Str)(ds)(hd:os[n]?=some (.tuple (.str k::ds))):ans Z Γ (ft c) [.vlt c h os,.int n]=some (.str k):=by
 obtain⟨r1,e1,h1⟩:=hh;have q:=h1 h os n _ hd;have e:atI (D.str k::ds) 0=some (.str k):=by rw[bz (by omega) (by simp)];rfl
 simp[ans,ft,e1,q,e]
def nD(hh:xi Z c)(h:Nat)(os:List D)(n:Nat)(k:Str)(d:D)(hd:os[n]?=some (.tuple [.str k,d])):ans Z Γ (bP c) [.vlt c h os,.int n,.str k]=some d:=by
 obtain⟨r1,e1,h1⟩:=hh;have q:=h1 h os n _ hd;have e:atI [D.str k,d] 0=some (.str k):=rfl;have e':atI [D.str k,d] 1=some d:=rfl;simp[ans,bP,e1,q,e,e']
def nE(hc:iU Z c)(h:Nat)(os:List D)(n:Nat)(es)(hd:os[n]?=some (.tuple [.str dc,.tuple es])):ans Z Γ (bC c) [.vlt c h os,.int n]=some (.list es):=by
 obtain⟨r1,e1,h1⟩:=hc;have q:=h1 h os n dc _ hd;simp[ans,bC,e1,q]
noncomputable def nF(Z:Fs)(J:FsM)(Γ:List (Str×D))(c:Nat)(d:cq)(U:Ust)(ds:List D):Option (Ust×R):=(bM Z J Γ c (startM d ds) U d.body).map λq=>(q.2,mY q.1)
abbrev Av(J:FsM):Prop:=J (aq "put")=some iR
end TX
namespace L2.Z
open PySem PySem.Spec PyProof.Rows L2 L2.C SI
def run_eq{Z}{Γ}{d}{ds}(h:ds.length=d.lent.length):(EB Z Γ d).run ds=TX.ans Z Γ d ds:=if_pos h
def ah{prog}{Γ}{k}{x}{d}{P}(h:prog.lookup x=some d)(hP:P (EB (den prog Γ k) Γ d).run):TX.Has (den prog Γ (k+1)) x d.lent P:=
 ⟨_,by show (prog.lookup x).map _=_;rw[h];rfl,hP⟩
def walk{l:PySem.W.OpenLaw}{XP:(Str->Option Value)->Heap->Prop}{YP:World->Heap->Prop}{d:DefRec}{K:Params->fg0}(hn:l.most=some 63)(hdf:d.params.defaults=[])
  (hY:∀(w:World)(h:Heap),YP w h->(K w.params).In h)
  (F:∀(w:World)(mg:Str->Option Value)(fa:Addr)(h:Heap),(K w.params).In h->h.Ns mainGlobals mg->mg d.name=some (.ref fa)->
   ∃fd:FuncData,(∀(s:Shared)(u:Value),BindsTo s fd ⟨[u],[]⟩ [("_law_script",u)])/\∀base:Heap,(K w.params).In base->base.Ns mainGlobals mg->FnOk l.prog w (K w.params) mg base CX0 40 fa fd ["_law_script"] (wm (K w.params)))
  (hT:∀(w:World)(h:Heap),YP w h->∀p∈lamTs,(K w.params).lookup p.1=.none/\h.get? p.1=some (PySem.W.tabObj #[])/\isCodeTable h p.1/\lamTs.lookup p.1=some p.2):
  PySem.W.WalkO q loose XP YP l.row.toRowW d [] (λf vs=>PySem.call f vs):=
 L2.qh (n:=63) (k:=40) (x:="_law_script") (CX:=λb=>CX0) (sp:=λw=>wm (K w.params)) hn (by decide) hdf ⟨rfl,by decide,by decide⟩ hY F (λb b a ns hl b hS=>⟨a,ns,rfl,hS,hl,λb=>rfl⟩) (λb b b b b z=>z) hT
noncomputable def Hz(Q:Str->Prop):List Str->Prop
 |[]=>True
 |x::r=>Q x/\Hz Q r
theorem qU{Q}:∀{xs:List Str},Hz Q xs->∀x∈xs,Q x
 |[],_,x,h=>by cases h
 |y::r,hq,x,h=>(mq0 h).elim (λe=>e▸hq.1) (qU hq.2 x)
noncomputable def HA(Q:Str->D->Prop):List (Str×D)->Prop
 |[]=>True
 |p::r=>Q p.1 p.2/\HA Q r
theorem qV{Q}:∀{prog:List (Str×D)},HA Q prog->∀x d,prog.lookup x=some d->Q x d
 |[],_,x,d,h=>by cases h
 |(y,e)::r,hq,x,d,h=>by
  rw[lk0]at h;cases hxy:x==y with
  |true=>
   rw[hxy]at h;have:=eq_of_beq hxy;subst this;cases h;exact hq.1
  |false=>rw[hxy]at h;exact qV hq.2 x d h
def HB{P:List Value->Prop}(h:∀a,P [a])(us)(e:us.length=1):P us:=by
 obtain⟨a,rfl⟩:=List.length_eq_one_iff.mp e;exact h a
def HC{P:List Value->Prop}(h:∀a b,P [a,b])(us)(e:us.length=2):P us:=by
 cases us with|nil=>cases e|cons a r=>exact HB (P:=λr=>P (a::r)) (h a) r (Nat.succ.inj e)
def Ko{P:List Value->Prop}(h:∀a b c,P [a,b,c])(us)(e:us.length=3):P us:=by
 cases us with|nil=>cases e|cons a r=>exact HC (P:=λr=>P (a::r)) (h a) r (Nat.succ.inj e)
def Kp{P:List Value->Prop}(h:∀a b c d,P [a,b,c,d]):∀us,us.length=4->P us
 |[a,b,c,d],_=>h a b c d
def walkX{XP:(Str->Option Value)->Heap->Prop}{K:Params->fg0}{ads:List Addr}{t:Nat}{r:PySem.W.RowW}{d:DefRec}{kwd:List (Str×Expr)}{run:Value->List Value->Sem Value}
  (e:∀P:Params,ads=(K P).map (·.1)) (h:PySem.W.WalkO q loose XP (λw h=>(K w.params).In h) r d kwd run):PySem.W.WalkX q loose XP (PySem.W.X.obsZ ads) (PySem.W.X.valZ K n t) r d kwd run:=
 λw s₀ s₁ mg mb G y a o pm cd doc dV kV ho hd hcd hD hmg hg args vals as L hpre hlay hrd hwl hlo=>
  h w s₀ s₁ mg mb G (λb o e'=>L.keeps b o ((PySem.W.X.z_facts e y).2.1 b o e')) a o pm cd doc dV kV ho hd hcd hD hmg hg args vals as hpre hlay hrd hwl hlo
def dQ{Z}{J}{Γ}{c}{d}{U:Ust}{ds}(h:ds.length=d.lent.length):(runM Z J Γ c d).run U ds=TX.nF Z J Γ c d U ds:=if_pos h
def fv{J0:FsM}{prog:List (Str×Def)}{progM:List (Str×cq)}{k:Nat}{d:cq}{P:(Ust->List D->Option (Ust×R))->Prop}(h0:J0 x=.none)(h:progM.lookup x=some d)(hP:P (runM (den prog Γ k) (iL J0 prog progM Γ c k) Γ c d).run):
  TX.xh (iL J0 prog progM Γ c (k+1)) x d.lent P:=
 ⟨_,by show (match J0 x with|some L=>some L|.none=>(progM.lookup x).map (runM (den prog Γ k) (iL J0 prog progM Γ c k) Γ c))=_;rw[h0,h];rfl,hP⟩
noncomputable def tJ:FsM:=λf=>if f=aq "put" then some iR else .none
def nG:tJ (aq "put")=some iR:=if_pos rfl
def qW{prog:List (Str×Def)}{progM:List (Str×cq)}(k:Nat):TX.Av (iL tJ prog progM Γ c k):=by
 unfold TX.Av;cases k with
 |zero=>exact nG
 |succ k=>rw[iL,nG]
set_option tactic.hygienic true in
def Aw{m:Str}{L:FnM}(h:tJ (aq m)=some L):aq m=aq "put"/\L=iR:=by
 unfold tJ at h;split at h
 .rename_i e;cases h;exact⟨e,rfl⟩
 .cases h
def dR{a b:Str}(h:aq a=aq b):a=b:=by
 unfold aq at h;have e:=congrArg (λs:Str=>s.cps.toList) h;simp only[M1.toL_append]at e;exact M1.ext (List.append_cancel_left e)
def walkM{l:PySem.W.OpenLaw}{XP:(Str->Option Value)->Heap->Prop}{YP:World->Heap->Prop}{d:DefRec}{K:Params->fg0}(hn:l.most=some 63)(hdf:d.params.defaults=[])
  (hY:∀(w:World)(h:Heap),YP w h->(K w.params).In h)
  (F:∀(w:World)(mg:Str->Option Value)(fa:Addr)(h:Heap),(K w.params).In h->h.Ns mainGlobals mg->mg d.name=some (.ref fa)->
   ∃fd:FuncData,(∀(s:Shared)(u:Value),BindsTo s fd ⟨[u],[]⟩ [("_law_script",u)])/\∀base:Heap,(K w.params).In base->base.Ns mainGlobals mg->FnOk l.prog w (K w.params) mg base CX0 40 fa fd ["_law_script"] (iO (K w.params)))
  (hT:∀(w:World)(h:Heap),YP w h->∀p∈lamTs,(K w.params).lookup p.1=.none/\h.get? p.1=some (PySem.W.tabObj #[])/\isCodeTable h p.1/\lamTs.lookup p.1=some p.2):
  PySem.W.WalkO q loose XP YP l.row.toRowW d [] (λf vs=>PySem.call f vs):=
 L2.qh (n:=63) (k:=40) (x:="_law_script") (CX:=λc=>CX0) (sp:=λw=>iO (K w.params)) hn (by decide) hdf ⟨rfl,by decide,by decide⟩ hY F (λc c a ns hl hO hS=>⟨⟨a,ns,rfl,hS,hl,λc=>rfl⟩,(λb C dx fs e=>by
  rcases hO.1 b with z|⟨o,xs,z⟩|⟨p,_,_,z⟩
  .rw[z]at e;cases e
  .rw[z]at e;cases e
  .rw[z]at e;cases e),λp hp=>⟨_,hO.2 p hp⟩⟩) (λc c c c c z=>z) hT
noncomputable def HD{α:Type}(Q:Str->α->Prop):List (Str×α)->Prop
 |[]=>True
 |p::r=>Q p.1 p.2/\HD Q r
theorem gU{Q:Str->α->Prop}:∀{prog:List (Str×α)},HD Q prog->∀x d,prog.lookup x=some d->Q x d
 |[],_,x,d,h=>by cases h
 |(y,e)::r,hq,x,d,h=>by
  rw[lk0]at h;cases hxy:x==y with
  |true=>
   rw[hxy]at h;have:=eq_of_beq hxy;subst this;cases h;exact hq.1
  |false=>rw[hxy]at h;exact gU hq.2 x d h
def HE(h:(vms.all λm=>!(x==aq m))=true){m:Str}(e:x=aq m)(hm:vms.contains m=true):False:=by
 have:=List.all_eq_true.mp h m (List.contains_iff_mem.mp hm);rw[e]at this;simp at this
end L2.Z
set_option maxRecDepth 10000
namespace TX
open PySem SI L2.Z
noncomputable def dU(cV:Nat):Def:=⟨[true,true],2,(.A (.ret (.vcall cV "content" (.v 0) (.B (.v 1) (.k (.str ⟨#[98,108,111,98]⟩))))))⟩
noncomputable def ba:Def:=⟨[true,true],5,(.cons (.set 2 (.call "_law_mix" (.B (.v 0) (.v 1)))) (.cons (.ifs (.cmp .gt (.op .mod (.v 2) (.k (.int 3))) (.k (.int 0))) (.A (.ret (.idx (.lst (.cons (.k (.str ⟨#[97]⟩)) (.cons (.k (.str ⟨#[98]⟩)) (.cons (.k (.str ⟨#[97,98]⟩)) (.cons (.k (.str ⟨#[97,46,98]⟩)) (.cons (.k (.str ⟨#[66]⟩)) (.cons (.k (.str ⟨#[48]⟩)) (.B (.k (.str ⟨#[97,45]⟩)) (.k (.str ⟨#[95]⟩)))))))))) (.op .mod (.op .fdiv (.v 2) (.k (.int 3))) (.k (.int 8)))))) .nil) (.cons (.set 3 (.k (.str ⟨#[97,98,99,100,101,102,103,104,105,106,107,108,109,110,111,112,113,114,115,116,117,118,119,120,121,122,65,66,67,68,69,70,71,72,73,74,75,76,77,78,79,80,81,82,83,84,85,86,87,88,89,90,48,49,50,51,52,53,54,55,56,57,46,95,45]⟩))) (.B (.set 4 (.me .join (.k (.str ⟨#[]⟩)) (.A (.comp 1 [1,0,3] (.one 0) (.rng (.op .add (.k (.int 1)) (.op .mod (.op .fdiv (.v 2) (.k (.int 3))) (.k (.int 12))))) .nil (.idx (.v 3) (.op .mod (.op .fdiv (.call "_law_mix" (.B (.v 2) (.op .add (.v 1) (.op .mul (.k (.int 7)) (.v 0))))) (.k (.int 5))) (.k (.int 65)))))))) (.ret (.op .add (.v 4) (.op .mul (.k (.str ⟨#[97]⟩)) (.bi .int (.A (.cmp .isin (.v 4) (.tup (.B (.k (.str ⟨#[46]⟩)) (.k (.str ⟨#[46,46]⟩))))))))))))))⟩
end TX
set_option maxRecDepth 10000
namespace TX
open PySem SI L2.Z
noncomputable def fw:Def:=⟨[true,true],2,(.A (.ret (.ite (.cmp .eq (.v 0) (.k (.str ⟨#[]⟩))) (.v 1) (.op .add (.op .add (.v 0) (.k (.str ⟨#[47]⟩))) (.v 1)))))⟩
noncomputable def aC:Def:=⟨[true],2,(.B (.fors (.one 1) (.seq (.v 0)) (.A (.ifs (.not (.call "is_name" (.A (.v 1)))) (.A .stuck) .nil))) (.ifs (.not (.call "names_rise" (.A (.v 0)))) (.A .stuck) .nil))⟩
noncomputable def gW:Def:=⟨[true,true,true],3,(.B (.expr (.call "names_of" (.A (.v 2)))) (.ret (.call "blobs_below" (.cons (.v 0) (.B (.v 1) (.v 2))))))⟩
noncomputable def cX:Def:=⟨[true],2,(.cons (.ifs (.cmp .eq (.v 0) (.k (.str ⟨#[]⟩))) (.A (.ret (.lst .nil))) .nil) (.cons (.set 1 (.me .split (.v 0) (.A (.k (.str ⟨#[47]⟩))))) (.B (.ifs (.or (.cmp .gt (.bi .len (.A (.v 1))) (.g "MOST_NAMES")) (.not (.bi .all (.A (.comp 1 [] (.one 0) (.seq (.v 1)) .nil (.call "is_name" (.A (.v 0)))))))) (.A .stuck) .nil) (.ret (.v 1)))))⟩
noncomputable def aF(cV:Nat):Def:=⟨[true,true,true],7,(.cons (.new 3 (.lst .nil)) (.B (.fors (.tup [4,5]) (.seq (.call "entries_of" (.B (.v 0) (.v 1)))) (.B (.set 6 (.call "joined" (.B (.v 2) (.v 4)))) (.ifs (.cmp .eq (.vcall cV "kind" (.v 0) (.A (.v 5))) (.k (.str ⟨#[98,108,111,98]⟩))) (.A (.app 3 (.tup (.B (.v 6) (.v 5))))) (.A (.ext 3 (.call "blobs_below" (.cons (.v 0) (.B (.v 5) (.v 6))))))))) (.ret (.v 3))))⟩
noncomputable def cY:Def:=⟨[true,true,true],9,(.cons (.set 3 (.bi .list (.A (.v 2)))) (.B (.fors (.one 4) (.rng (.op .mod (.call "_law_mix" (.B (.v 0) (.v 1))) (.k (.int 4)))) (.cons (.set 5 (.call "_law_mix" (.B (.v 0) (.op .add (.op .add (.v 1) (.k (.int 1))) (.op .mul (.k (.int 2)) (.v 4)))))) (.cons (.set 6 (.op .mod (.op .fdiv (.v 5) (.k (.int 3))) (.op .add (.bi .len (.A (.v 3))) (.k (.int 1))))) (.cons (.set 7 (.call "_law_line" (.B (.v 0) (.op .add (.op .add (.v 1) (.k (.int 2))) (.op .mul (.k (.int 2)) (.v 4)))))) (.B (.set 8 (.idx (.lst (.cons (.lst (.A (.v 7))) (.B (.lst .nil) (.lst (.A (.v 7)))))) (.op .mod (.v 5) (.k (.int 3))))) (.set 3 (.op .add (.op .add (.sl (.v 3) .nil (.A (.v 6))) (.v 8)) (.sl (.v 3) (.A (.op .add (.v 6) (.idx (.lst (.cons (.k (.int 0)) (.B (.k (.int 1)) (.k (.int 1))))) (.op .mod (.v 5) (.k (.int 3)))))) .nil)))))))) (.ret (.v 3))))⟩
noncomputable def dW:Def:=⟨[true],2,(.cons (.set 1 (.comp 1 [] (.one 0) (.seq (.me .split (.v 0) (.A (.k (.str ⟨#[10]⟩))))) .nil (.op .add (.v 0) (.k (.str ⟨#[10]⟩))))) (.B (.ifs (.cmp .eq (.idx (.v 1) (.neg (.k (.int 1)))) (.k (.str ⟨#[10]⟩))) (.A (.ret (.sl (.v 1) .nil (.A (.neg (.k (.int 1))))))) .nil) (.ret (.op .add (.sl (.v 1) .nil (.A (.neg (.k (.int 1))))) (.lst (.A (.sl (.idx (.v 1) (.neg (.k (.int 1)))) .nil (.A (.neg (.k (.int 1)))))))))))⟩
noncomputable def bJ:Def:=⟨[true,true,true],5,(.cons (.set 3 (.call "_law_mix" (.B (.v 0) (.op .add (.v 1) (.k (.int 1)))))) (.cons (.ifs (.and (.cmp .gt (.v 2) (.k (.int 0))) (.cmp .lt (.op .mod (.v 3) (.k (.int 5))) (.k (.int 2)))) (.A (.ret (.call "_law_folder" (.cons (.v 0) (.B (.v 1) (.v 2)))))) .nil) (.B (.set 4 (.call "_law_row" (.cons (.v 0) (.B (.op .add (.v 1) (.k (.int 2))) (.op .mod (.op .fdiv (.v 3) (.k (.int 5))) (.k (.int 4))))))) (.ret (.tup (.B (.k (.str ⟨#[98,108,111,98]⟩)) (.me .join (.k (.str ⟨#[]⟩)) (.A (.call "_law_ends" (.B (.v 4) (.cmp .eq (.op .mod (.v 3) (.k (.int 3))) (.k (.int 0)))))))))))))⟩
noncomputable def bh:Def:=⟨[true,true,true],4,(.B (.set 3 (.bi .srt (.A (.comp 1 [1,0] (.one 0) (.rng (.op .mod (.call "_law_mix" (.B (.v 0) (.v 1))) (.k (.int 4)))) .nil (.call "_law_name" (.B (.v 2) (.op .add (.op .add (.v 1) (.k (.int 3))) (.v 0)))))))) (.ret (.tup (.B (.k (.str ⟨#[116,114,101,101]⟩)) (.comp 1 [2,1,3,0] (.one 0) (.rng (.bi .len (.A (.v 3)))) .nil (.tup (.B (.idx (.v 3) (.v 0)) (.call "_law_node" (.cons (.v 4) (.B (.op .add (.op .add (.op .mul (.k (.int 4)) (.v 2)) (.k (.int 5))) (.v 0)) (.op .sub (.v 1) (.k (.int 1)))))))))))))⟩
noncomputable def aN:Def:=⟨[true,true,true,true],11,(.cons (.ifs (.cmp .eq (.idx (.v 2) (.k (.int 0))) (.k (.str ⟨#[98,108,111,98]⟩))) (.cons (.set 4 (.call "_law_lines" (.A (.idx (.v 2) (.k (.int 1)))))) (.B (.set 5 (.call "_law_edited" (.cons (.v 0) (.B (.v 1) (.comp 1 [] (.one 0) (.seq (.v 4)) .nil (.ite (.cmp .eq (.sl (.v 0) (.A (.neg (.k (.int 1)))) .nil) (.k (.str ⟨#[10]⟩))) (.sl (.v 0) .nil (.A (.neg (.k (.int 1))))) (.v 0))))))) (.ret (.tup (.B (.k (.str ⟨#[98,108,111,98]⟩)) (.me .join (.k (.str ⟨#[]⟩)) (.A (.call "_law_ends" (.B (.v 5) (.cmp .eq (.op .mod (.call "_law_mix" (.B (.v 0) (.op .add (.v 1) (.k (.int 9))))) (.k (.int 3))) (.k (.int 0)))))))))))) .nil) (.cons (.new 6 (.lst .nil)) (.cons (.fors (.one 7) (.rng (.bi .len (.A (.idx (.v 2) (.k (.int 1)))))) (.cons (.unp (.tup [8,9]) (.idx (.idx (.v 2) (.k (.int 1))) (.v 7))) (.cons (.set 10 (.call "_law_mix" (.B (.v 0) (.op .add (.v 1) (.op .mul (.k (.int 5)) (.v 7)))))) (.B (.ifs (.cmp .eq (.op .mod (.v 10) (.k (.int 8))) (.k (.int 1))) (.A (.set 9 (.call "_law_node" (.cons (.v 0) (.B (.op .add (.op .add (.v 1) (.op .mul (.k (.int 5)) (.v 7))) (.k (.int 1))) (.op .sub (.v 3) (.k (.int 1)))))))) (.A (.ifs (.chain .lt .lt (.k (.int 1)) (.op .mod (.v 10) (.k (.int 8))) (.k (.int 5))) (.A (.set 9 (.call "_law_turn" (.cons (.v 0) (.cons (.op .add (.op .add (.op .mul (.k (.int 4)) (.v 1)) (.k (.int 5))) (.v 7)) (.B (.v 9) (.op .sub (.v 3) (.k (.int 1))))))))) .nil))) (.ifs (.cmp .gt (.op .mod (.v 10) (.k (.int 8))) (.k (.int 0))) (.A (.app 6 (.tup (.B (.v 8) (.v 9))))) .nil))))) (.cons (.set 8 (.call "_law_name" (.B (.v 0) (.op .add (.v 1) (.k (.int 3)))))) (.B (.ifs (.and (.cmp .eq (.op .mod (.call "_law_mix" (.B (.v 0) (.op .add (.v 1) (.k (.int 2))))) (.k (.int 3))) (.k (.int 0))) (.cmp .notin (.v 8) (.fdc (.v 6)))) (.A (.app 6 (.tup (.B (.v 8) (.call "_law_node" (.cons (.v 0) (.B (.op .add (.v 1) (.k (.int 4))) (.op .sub (.v 3) (.k (.int 1)))))))))) .nil) (.ret (.tup (.B (.k (.str ⟨#[116,114,101,101]⟩)) (.srtn (.v 6))))))))))⟩
noncomputable def bE:Def:=⟨[true,true],6,(.cons (.new 2 (.lst .nil)) (.B (.fors (.tup [3,4]) (.seq (.idx (.v 1) (.k (.int 1)))) (.B (.set 5 (.ite (.cmp .eq (.v 0) (.k (.str ⟨#[]⟩))) (.v 3) (.op .add (.op .add (.v 0) (.k (.str ⟨#[47]⟩))) (.v 3)))) (.ifs (.cmp .eq (.idx (.v 4) (.k (.int 0))) (.k (.str ⟨#[116,114,101,101]⟩))) (.A (.new 2 (.op .add (.v 2) (.call "_law_texts" (.B (.v 5) (.v 4)))))) (.A (.app 2 (.tup (.B (.v 5) (.idx (.v 4) (.k (.int 1)))))))))) (.ret (.v 2))))⟩
noncomputable def fx:Def:=⟨[true,true],7,(.cons (.new 2 (.lst .nil)) (.B (.fors (.tup [3,4,5]) (.seq (.v 1)) (.B (.set 6 (.comp 1 [0] (.one 0) (.seq (.tup (.B (.v 4) (.v 5)))) .nil (.ite (.cmp .isN (.v 0) (.k .none)) (.k .none) (.call "text_of" (.B (.v 1) (.v 0)))))) (.app 2 (.tup (.cons (.v 3) (.B (.idx (.v 6) (.k (.int 0))) (.idx (.v 6) (.k (.int 1))))))))) (.ret (.v 2))))⟩
noncomputable def dX:Def:=⟨[true],1,(.A (.ret (.me .split (.idx (.v 0) (.k (.int 0))) (.A (.k (.str ⟨#[47]⟩))))))⟩
noncomputable def lh(cV:Nat):cq:=⟨[false,false],4,(.cons (.expr (.p (.call "refuse_wrong_names" (.A (.comp 2 [] (.tup [0,1]) (.seq (.v 1)) .nil (.v 0)))))) (.B (.fors (.tup [2,3]) (.seq (.v 1)) (.A (.ifs (.cmp .eq (.vcall cV "kind" (.v 0) (.A (.v 3))) (.k (.str ⟨#[99,111,109,109,105,116]⟩))) (.A (.pure .stuck)) .nil))) (.ret (.meth "put" 0 (.G (.p (.tup (.B (.k (.str ⟨#[116,114,101,101]⟩)) (.bi .tuple (.A (.comp 2 [] (.tup [0,1]) (.seq (.v 1)) .nil (.tup (.B (.v 0) (.v 1))))))))))))))⟩
noncomputable def aO:cq:=⟨[false,false,false],8,(.cons (.set 3 (.p (.fdc (.call "files" (.cons (.v 0) (.B (.v 1) (.k (.str ⟨#[]⟩)))))))) (.cons (.set 4 (.p (.fdc (.call "files" (.cons (.v 0) (.B (.v 2) (.k (.str ⟨#[]⟩)))))))) (.cons (.pure (.new 5 (.bi .dict (.A (.v 3))))) (.cons (.pure (.upd 5 (.v 4))) (.cons (.set 6 (.srtl (.v 5) (.me .split (.v 0) (.A (.k (.str ⟨#[47]⟩)))))) (.B (.pure (.set 7 (.comp 1 [3,4] (.one 0) (.seq (.v 6)) .nil (.tup (.cons (.v 0) (.B (.get (.v 1) (.v 0)) (.get (.v 2) (.v 0)))))))) (.ret (.p (.comp 1 [] (.one 0) (.seq (.v 7)) (.A (.cmp .ne (.idx (.v 0) (.k (.int 1))) (.idx (.v 0) (.k (.int 2))))) (.v 0))))))))))⟩
noncomputable def cw:cq:=⟨[false,false],2,(.B (.ifs (.cmp .eq (.idx (.v 1) (.k (.int 0))) (.k (.str ⟨#[98,108,111,98]⟩))) (.A (.ret (.call "blob" (.va 0 (.G (.p (.idx (.v 1) (.k (.int 1))))))))) .nil) (.ret (.call "tree" (.va 0 (.G (.comp 2 [0] (.tup [0,1]) (.p (.idx (.v 1) (.k (.int 1)))) (.tup (.va 0 (.G (.call "_law_store" (.va 2 (.W 1))))))))))))⟩
noncomputable def r52:SMs:=(.cons (.set 3 .new) (.cons (.set 4 (.tup (.ex (.call "_law_store" (.va 3 (.va 1 .nil))) (.ex (.call "_law_store" (.va 3 (.va 2 .nil))) .nil)))) (.cons (.set 5 (.p (.fdc (.call "_law_texts" (.cons (.k (.str ⟨#[]⟩)) (.cons (.v 1) .nil)))))) (.cons (.set 6 (.p (.fdc (.call "_law_texts" (.cons (.k (.str ⟨#[]⟩)) (.cons (.v 2) .nil)))))) (.cons (.pure (.set 7 (.comp 1 [5,6] (.one 0) (.seq (.v 5)) (.cons (.cmp .ne (.idx (.v 1) (.v 0)) (.get (.v 2) (.v 0))) .nil) (.tup (.cons (.v 0) (.cons (.idx (.v 1) (.v 0)) (.cons (.get (.v 2) (.v 0)) .nil))))))) (.cons (.set 7 (.srtf (.op .add (.v 7) (.comp 1 [5,6] (.one 0) (.seq (.v 6)) (.cons (.cmp .notin (.v 0) (.v 1)) .nil) (.tup (.cons (.v 0) (.cons (.k .none) (.cons (.idx (.v 2) (.v 0)) .nil)))))) "_law_names")) (.cons (.set 8 (.call "differences" (.va 3 (.ex (.p (.idx (.v 4) (.k (.int 0)))) (.ex (.p (.idx (.v 4) (.k (.int 1)))) .nil))))) (.cons (.ifs (.or (.not (.isi (.v 8) "list")) (.not (.bi .all (.cons (.comp 1 [] (.one 0) (.seq (.v 8)) .nil (.and (.isi (.v 0) "tuple") (.cmp .eq (.bi .len (.cons (.v 0) .nil)) (.k (.int 3))))) .nil)))) (.cons (.ret (.p (.k (.bool false)))) .nil) .nil) (.cons (.ifs (.cmp .ne (.call "_law_told" (.cons (.v 3) (.cons (.v 8) .nil))) (.v 7)) (.cons (.ret (.p (.k (.bool false)))) .nil) .nil) (.cons (.set 9 (.call "differences" (.va 3 (.ex (.p (.idx (.v 4) (.k (.int 1)))) (.ex (.p (.idx (.v 4) (.k (.int 0)))) .nil))))) (.cons (.ifs (.cmp .ne (.v 9) (.comp 3 [] (.tup [0,1,2]) (.seq (.v 8)) .nil (.tup (.cons (.v 0) (.cons (.v 2) (.cons (.v 1) .nil)))))) (.cons (.ret (.p (.k (.bool false)))) .nil) .nil) (.cons (.ret (.cmp .eq (.call "differences" (.va 3 (.ex (.p (.idx (.v 4) (.k (.int 0)))) (.ex (.p (.idx (.v 4) (.k (.int 0)))) .nil)))) (.lst .nil))) .nil))))))))))))
noncomputable def cy:cq:=⟨[true],10,(.cons (.set 1 (.p (.call "_law_folder" (.cons (.v 0) (.B (.k (.int 0)) (.k (.int 3))))))) (.cons (.set 2 (.p (.call "_law_turn" (.cons (.v 0) (.cons (.k (.int 2)) (.B (.v 1) (.k (.int 3)))))))) (.cons (.ifs (.cmp .eq (.op .mod (.call "_law_mix" (.B (.v 0) (.k (.int 60)))) (.k (.int 4))) (.k (.int 0))) (.A (.set 2 (.p (.call "_law_folder" (.cons (.v 0) (.B (.k (.int 4)) (.k (.int 3)))))))) .nil) r52)))⟩
end TX
namespace TX
open PySem SI M1
abbrev Kq(o:Option D):Prop:=∃t:Str,o=some (.str t)/\aA t=true
def cA{t}(h:aA t=true):1<=t.length/\t.length<=12:=by
 unfold aA at h;simp only[be0,decide_eq_true_eq]at h;exact⟨h.1.1.1.1,h.1.1.1.2⟩
noncomputable def sgn7(ns:List Int)(b:Int)(k:Nat):Nat:=(signs65[(mixF ns (b+7*(k:Int)) / 5 % 65).toNat]?).getD 0
def Ax(ns:List Int)(b:Int)(k:Nat):bw (sgn7 ns b k)=true:=by
 have q1:=en0 (mixF ns (b+7*(k:Int)) / 5) (b:=65) (by decide);have q2:=el0 (mixF ns (b+7*(k:Int)) / 5) (b:=65) (by decide);have hl:(mixF ns (b+7*(k:Int)) / 5 % 65).toNat<signs65.length:=by show _<65;omega
 unfold sgn7 bw;rw[ge0 hl];exact dt0 (List.getElem_mem hl)
def join_one(l:List Nat):Txt.join Str.empty (l.map λc=>(⟨#[c]⟩:Str))=⟨l.toArray⟩:=by
 apply kN
 rw[pK,List.map_map];show _=l
 induction l with
 |nil=>rfl
 |cons c r ih=>rw[mk0,List.flatten_cons,ih];rfl
def xn(ts:List Str)(h:ts.length<64):biD .srt [.list (ts.map .str)]=some (.list ((srtS ts).map .str)):=by
 show ((strsOf (ts.map .str)).bind λss=>if ss.length<64 then some (D.list ((srtS ss).map .str))else .none)=_;rw[aK,bs0,if_pos h]
end TX
namespace TX
open PySem SI M1 L2.Z
variable {J:FsM}{cNO cBT:Nat}
variable {J:FsM}{cNO cBT cNP:Nat}
variable {J:FsM}{cNO cBT cNP:Nat}
def ji(x y:Str):(x++y).length=x.length+y.length:=by show (x.cps++y.cps).size=_;rw[Array.size_append];rfl
end TX
namespace TX
open PySem SI M1
end TX
namespace SI
open PySem
section
variable {x0 y:α}{l:List α}
@[simp ↓ high] def gt0:(x0::l)[0]?=some x0:=rfl
@[simp ↓ high] def gtS :(x0::l)[n+1]?=l[n]?:=rfl
@[simp ↓ high] def st0:(x0::l).set 0 y=y::l:=rfl
@[simp ↓ high] def stS :(x0::l).set (n+1) y=x0::l.set n y:=rfl
end
noncomputable def fzM(Y:List Sl):List Sl:=Y.map freeze
@[simp ↓ high] def fz_g{Y}{i:Nat}:(fzM Y)[i]?=Y[i]?.map freeze:=gm0
section
variable {s:S}{r a b:Ss}{d:D}{m:Md}{t:Bool}{e:E}
noncomputable def nxS(Z:Fs)(Γ:List (Str×D))(o:Option Out)(r:Ss):Option Out:=o.bind λo=>o.andThen λY'=>exs Z Γ Y' r
noncomputable def ifS(Z:Fs)(Γ:List (Str×D))(o:Option D)(Y:List Sl)(a b:Ss):Option Out:=o.bind λd=>(asB d).bind λt=>if t then exs Z Γ Y a else exs Z Γ Y b
noncomputable def Ay(Z:Fs)(Γ:List (Str×D))(tg:Tg)(body:Ss)(ds:List D)(Y:List Sl):Option Out:=forL (ai tg) (λY'=>exs Z Γ Y' body) ds Y
noncomputable def cpF(Z:Fs)(Γ:List (Str×D))(Y:List Sl)(nt:Nat)(js:List Nat)(tg:Tg)(ifs:Es)(elt:E)(d:D):Option (Option D):=(ai tg d (blk nt js Y)).bind λY'=>(evC Z Γ Y' ifs).bind λt=>if t then (ev Z Γ .val Y' elt).map some else some none
@[simp ↓ high] def exs_c:exs Z Γ Y (.cons s r)=nxS Z Γ (ex Z Γ Y s) r:=(rfl)
@[simp] def Mc:nxS Z Γ (some (.nx Y)) r=exs Z Γ Y r:=(rfl)
@[simp] def Me:nxS Z Γ (some (.rt d)) r=some (.rt d):=(rfl)
@[simp ↓ high] def ex_if{c}:ex Z Γ Y (.ifs c a b)=ifS Z Γ (ev Z Γ .test Y c) Y a b:=(rfl)
@[simp] def Mg:ifS Z Γ (some (.bool t)) Y a b=if t then exs Z Γ Y a else exs Z Γ Y b:=(rfl)
@[simp ↓ high] def ex_ret:ex Z Γ Y (.ret e)=(ev Z Γ .val (fzM Y) e).map .rt:=(rfl)
@[simp ↓ high] def ex_for{tg:Tg}{src}:ex Z Γ Y (.fors tg src r)=(evI Z Γ .walk Y src).bind λds=>Ay Z Γ tg r ds Y:=(rfl)
@[simp ↓ high] def ev_cp{nt}{js}{tg:Tg}{src}{ifs}:ev Z Γ m Y (.comp nt js tg src ifs e)=fin m ((evI Z Γ .read Y src).bind λds=>if ds.length<=big then (aB (cpF Z Γ Y nt js tg ifs e) ds).map .list else none):=(rfl)
noncomputable def tL(o:Option D):Option (List D):=o.bind λd=>(asI d).bind λn=>if rOk n then some ((List.range n.toNat).map λ(k:Nat)=>.int k)else none
@[simp ↓ high] def evI_r:evI Z Γ m Y (.rng e)=tL (ev Z Γ .val Y e):=(rfl)
def tN{n}(h1:-1000000<=n)(h2:n<=1000000):tL (some (.int n))=some ((List.range n.toNat).map λ(k:Nat)=>.int k):=by
 show (if rOk n then _ else _)=_;rw[if_pos (CK h1 h2)]
def Kr(h:n<=1000000):tL (some (.int n))=some ((List.range n).map λ(k:Nat)=>.int k):=tN (by omega) (by omega)
noncomputable def EX(o:Option D):Option (List D):=o.bind λd=>tL (biD .len [d])
@[simp ↓ 20000] def evI_rl:evI Z Γ m Y (.rng (.bi .len (.cons e .nil)))=EX (ev Z Γ .read Y e):=by
 show tL (((ev Z Γ .read Y e).bind λx=>some [x]).bind λds=>biD .len ds)=_;cases h:ev Z Γ .read Y e<;>rfl
def Bs{ds:List D}(h:ds.length<=1000000):EX (some (.list ds))=some ((List.range ds.length).map λ(k:Nat)=>.int k):=by rw[EX,bs0,len_list,(show tL (some (.int ds.length))=some ((List.range ds.length).map λ(k:Nat)=>.int k)from tN (by omega) (by omega))]
theorem Bt{inj}{tg:Tg}{F:α->List Sl}(J:Nat->α->Prop){P:Option Out->Prop}(k:∀s,J 0 s->P (some (.nx (F s)))):∀{xs:List β}{s} (h:∀x∈xs,∀n s,J (n+1) s->∃s',J n s'/\(ai tg (inj x) (F s)).bind (λY=>exs Z Γ Y r)=some (.nx (F s'))),J xs.length s->P (Ay Z Γ tg r (xs.map inj) (F s))
 |[],s,_,j=>k s j
 |x::xs,s,h,j=>by
  obtain⟨s',j',e⟩:=h x ms0 _ s j;obtain⟨Y',e1,e2⟩:=bx0 e;show P ((ai tg (inj x) (F s)).bind λY'=>(exs Z Γ Y' r).bind _);rw[e1,bs0,e2];exact Bt J k (λy hy=>h y (mc0 _ hy)) j'
@[simp] theorem Az{p:α->Bool}:∀{xs:List α},boolsOf (xs.map λx=>.bool (p x))=some (xs.map p)
 |[]=>rfl
 |x::xs=>by rw[mk0,boolsOf,Az];rfl
def aU{nt}{js}{tg:Tg}{ifs}:cpF Z Γ Y nt js tg ifs e d=(ai tg d (blk nt js Y)).bind λY'=>(evC Z Γ Y' ifs).bind λt=>if t then (ev Z Γ .val Y' e).map some else some none:=(rfl)
noncomputable def mulO(o p:Option D):Option D:=o.bind λx=>p.bind λy=>opD .mul x y
@[simp ↓ high] def ev_m{a b}:ev Z Γ m Y (.op .mul a b)=fin m (mulO (ev Z Γ .read Y a) (ev Z Γ .read Y b)):=(rfl)
def mulL{i j}(h1:-(2 ^ 64)<i)(h2:i<2 ^ 64):mulO (some (.int i)) (some (.int j))=some (.int (i*j)):=by
 rw[mulO,bs0,bs0,qq,TX.xg _ _ h1 h2,if_pos rfl]
@[simp] def orP{P}[Decidable P]:(if P then some (D.bool true)else some (D.bool t))=some (.bool (decide P||t)):=by by_cases h:P<;>simp[h]
@[simp] def Mh{P}[Decidable P]:(if P then some (D.bool t)else some (D.bool false))=some (.bool (decide P&&t)):=by by_cases h:P<;>simp[h]
noncomputable def lj(o:Option Out):Option D:=o.bind Out.val
@[simp] def Ks:lj (some (.rt d))=some d:=rfl
@[simp] def Kt:lj (some (.nx Y))=some .none:=rfl
def jZ{xs:List α}{x:α}(h:xs[n]?=some x):atI xs (n:Int)=some x:=by
 have:=(gi0 h).1;rw[TX.bz (by omega) (by omega)];exact h
section
variable {x y z u v:α}{l:List α}
@[simp] def LI:atI (x::l) 0=some x:=jZ (n:=0) rfl
@[simp] def LJ:atI (x::y::l) 1=some y:=jZ (n:=1) rfl
@[simp] def LK:atI (x::y::z::l) 2=some z:=jZ (n:=2) rfl
@[simp] def LL:atI (x::y::z::u::l) 3=some u:=jZ (n:=3) rfl
@[simp] def LM:atI (x::y::z::u::v::l) 4=some v:=jZ (n:=4) rfl
end
end
end SI
namespace TX
open SI L2.Z PySem
def ans_e{fl}{b}{ds:List D}:ans Z Γ ⟨fl,n,b⟩ ds=lj (exs Z Γ (bV ⟨fl,n,b⟩ ds) b):=(rfl)
noncomputable def AA(o:Option (OM×Ust)):Option (Ust×R):=o.map λq=>(q.2,mY q.1)
@[simp] def Ku{o}{U}:AA (some (o,U))=some (U,mY o):=(rfl)
def iV{J}{c n}{fl}{b}{U}{ds:List D}:nF Z J Γ c ⟨fl,n,b⟩ U ds=AA (bM Z J Γ c (startM ⟨fl,n,b⟩ ds) U b):=(rfl)
end TX
namespace L2.Z
open PySem SI
section
variable {J:FsM}{U U':Ust}{s:SM}{r a b:SMs}{d:D}{t:Bool}{x:Nat}{e:M}
noncomputable def nxM(Z:Fs)(J:FsM)(Γ:List (Str×D))(c:Nat)(o:Option (OM×Ust))(r:SMs):Option (OM×Ust):=o.bind λq=>q.1.andThen (λY'=>bM Z J Γ c Y' q.2 r) q.2
noncomputable def ifM(Z:Fs)(J:FsM)(Γ:List (Str×D))(c:Nat)(o:Option D)(Y:List Sl)(U:Ust)(a b:SMs):Option (OM×Ust):=o.bind λd=>(asB d).bind λt=>if t then bM Z J Γ c Y U a else bM Z J Γ c Y U b
noncomputable def nI(Z:Fs)(J:FsM)(Γ:List (Str×D))(c:Nat)(tg:Tg)(body:SMs)(ds:List D)(Y:List Sl)(U:Ust):Option (OM×Ust):=forM (ai tg) (λY' U'=>bM Z J Γ c Y' U' body) ds Y U
noncomputable def vM(c:Nat)(U:Ust)(Y:List Sl):List Sl:=Y.map (vE c U)
@[simp ↓ high] def vM_g{i:Nat}:(vM c U Y)[i]?=Y[i]?.map (vE c U):=gm0
@[simp ↓ high] def evM_p{q}:evM Z J Γ c Y U (.p q)=(ev Z Γ .val (vM c U Y) q).map λd=>(.ok d,U):=(rfl)
@[simp ↓ high] def exM_ret:exM Z J Γ c Y U (.ret e)=(evM Z J Γ c (fzM Y) U e).map λz=>(tF .rt (fzM Y) z.1,z.2):=(rfl)
@[simp ↓ high] def exMs_c:bM Z J Γ c Y U (.cons s r)=nxM Z J Γ c (exM Z J Γ c Y U s) r:=(rfl)
@[simp] def LN:nxM Z J Γ c (some (.nx Y,U)) r=bM Z J Γ c Y U r:=(rfl)
@[simp] def LO:nxM Z J Γ c (some (.rt d,U)) r=some (.rt d,U):=(rfl)
@[simp] def LP:nxM Z J Γ c (some (.exc x Y,U)) r=some (.exc x Y,U):=(rfl)
@[simp ↓ high] def exM_if{q}:exM Z J Γ c Y U (.ifs q a b)=ifM Z J Γ c (ev Z Γ .test (vM c U Y) q) Y U a b:=(rfl)
@[simp] def LQ:ifM Z J Γ c (some (.bool t)) Y U a b=if t then bM Z J Γ c Y U a else bM Z J Γ c Y U b:=(rfl)
@[simp ↓ high] def exM_for{tg:Tg}{src}:exM Z J Γ c Y U (.fors tg src r)=(evI Z Γ .walk Y src).bind λds=>nI Z J Γ c tg r ds Y U:=(rfl)
@[simp] def LR{f}:goR (.ok d,U) f=f d U:=(rfl)
@[simp] def LS{f}:goR (.exc x,U) f=some (.exc x,U):=(rfl)
@[simp] def Kv{f}:tF f Y (.ok d)=f d:=rfl
@[simp] def Kw{f}:tF f Y (.exc x)=.exc x Y:=rfl
@[simp] def Kx:mY (.nx Y)=.ok .none:=rfl
@[simp] def Ky:mY (.rt d)=.ok d:=rfl
@[simp] def Kz:mY (.exc x Y)=.exc x:=rfl
@[simp] def KA{l}:vE c U (.dat (.tuple l))=.dat (.tuple l):=rfl
@[simp] def LU{h}:qO (some (.dat (.hdl h)))=some h:=rfl
@[simp] def KB:EF false (some (.dat d))=some d:=rfl
@[simp] def KC{f:Ust->List D->Option (Ust×R)}{ds:List D}:EC f (.ok ds) U=f U ds:=(rfl)
@[simp] def KF{ds:List D}:Hl (.tuple ds)=some ds:=rfl
@[simp] def KG{ds:List D}:Hl (.list ds)=some ds:=rfl
def Jb{tg:Tg}{ds:List D}:nI Z J Γ c tg r (d::ds) Y U=(ai tg d Y).bind λY'=>(bM Z J Γ c Y' U r).bind λq=>q.1.andThen (λY2=>nI Z J Γ c tg r ds Y2 q.2) q.2:=(rfl)
@[simp] def Mi{f:List Sl->Option (OM×Ust)}:(OM.nx Y).andThen f U=f Y:=(rfl)
noncomputable def tO(Y:List Sl):Option Nat->OM
 |none=>.nx Y
 |some x=>.exc x Y
@[simp] def Mj:tO Y none=.nx Y:=rfl
@[simp] def Ml:tO Y (some x)=.exc x Y:=rfl
theorem Bu{inj}{tg:Tg}{F:α->List Sl}{f}:∀{xs:List β}{s} (h:∀x∈xs,∀s,∃s',(ai tg (inj x) (F s)).bind (λY=>bM Z J Γ c Y U r)=some (tO (F s') (f x),U)),∃s',nI Z J Γ c tg r (xs.map inj) (F s) U=some (tO (F s') (xs.findSome? f),U)
 |[],s,_=>⟨s,rfl⟩
 |x::xs,s,h=>by
  obtain⟨s',e⟩:=h x ms0 s;obtain⟨Y',e1,e2⟩:=bx0 e;show ∃s',((ai tg (inj x) (F s)).bind λY'=>(bM Z J Γ c Y' U r).bind _)=_;rw[e1,bs0,e2,List.findSome?_cons];cases f x with
  |some y=>exact⟨s',rfl⟩
  |none=>exact Bu λy hy=>h y (mc0 _ hy)
def HF{inj:β->D}{tg:Tg}{F:α->List Sl}(f:β->Option Nat){xs:List β}{s:α}{P:Option (OM×Ust)->Prop}(h:∀x∈xs,∀s,∃s',(ai tg (inj x) (F s)).bind (λY=>bM Z J Γ c Y U r)=some (tO (F s') (f x),U))(k:∀s',P (some (tO (F s') (xs.findSome? f),U))):P (nI Z J Γ c tg r (xs.map inj) (F s) U):=by
 obtain⟨s',e⟩:=Bu (s:=s) h;rw[e];exact k s'
@[simp] def KH:eL (.dat d)=true:=rfl
@[simp] def KI{ns}:eL (.lent (.scr ns))=true:=rfl
@[simp] def KL:Bp (.nx Y) U=if Y.all eL then some (.nx Y,U)else none:=(rfl)
end
section
variable {J:FsM}{U U':Ust}{d:D}{x:Nat}{ds:List D}
noncomputable def cmF(Z:Fs)(J:FsM)(Γ:List (Str×D))(c:Nat)(Y:List Sl)(nt:Nat)(js:List Nat)(tg:Tg)(elt:M)(d:D)(U:Ust):Option (D×Ust):=(ai tg d (blk nt js Y)).bind λY'=>(evM Z J Γ c Y' U elt).bind okR
@[simp ↓ high] def evM_cp{nt:Nat}{js:List Nat}{tg:Tg}{src elt:M}:evM Z J Γ c Y U (.comp nt js tg src elt)=(evM Z J Γ c Y U src).bind λz=>(okL z).bind λz=>if z.1.length<big then (iK (cmF Z J Γ c Y nt js tg elt) z.1 z.2).map λq=>(.ok (.list q.1),q.2)else none:=(rfl)
def HG{nt:Nat}{js:List Nat}{tg:Tg}{elt:M}:cmF Z J Γ c Y nt js tg elt d U=(ai tg d (blk nt js Y)).bind λY'=>(evM Z J Γ c Y' U elt).bind okR:=(rfl)
@[simp] def LV:okL (.ok (.list ds),U)=some (ds,U):=(rfl)
@[simp] def LW:okR (.ok d,U)=some (d,U):=(rfl)
@[simp] def KM:Hm (.ok ds,U)=if ds.length<=1000 then some (.ok (.tuple ds),U)else none:=(rfl)
end
end L2.Z
namespace TX
open PySem SI M1 L2.Z
variable {J:FsM}
inductive Th where
 |blob (t:Str)
 |tree (es:List (Str×Int))
deriving DecidableEq
noncomputable def dh(p:Str×Int):D:=.tuple [.str p.1,.int p.2]
noncomputable def Th.o:Th->D
 |.blob t=>.tuple [.str jY,.str t]
 |.tree es=>.tuple [.str dc,.tuple (es.map dh)]
@[simp] def Mm{a b:List (Str×Int)}:a.map dh=b.map dh↔a=b:=List.map_inj_right λx y q=>by simp[dh]at q;exact Prod.ext q.1 q.2
def Th.o_inj{a b:Th}(h:a.o=b.o):a=b:=by cases a<;>cases b<;>simp_all [Th.o]
def Th.o_ok(t:Th):okK 8 t.o=true/\gG t.o=true:=by cases t<;>simp[okK,dh,Th.o,gG]
noncomputable abbrev vt(L:List Th):Ust:=[L.map Th.o]
noncomputable def putL(L:List Th)(t:Th):List Th:=if t∈L then L else L++[t]
def Ex(L L':List Th):Prop:=(∀(i:Nat) t,L[i]?=some t->L'[i]?=some t)/\(L.Nodup->L'.Nodup)
def Ex.refl(L:List Th):Ex L L:=⟨λa a h=>h,id⟩
def Ex.trans{a b d:List Th}(h:Ex a b)(k:Ex b d):Ex a d:=⟨λi x e=>k.1 i x (h.1 i x e),λn=>k.2 (h.2 n)⟩
set_option tactic.hygienic true in
def xo(L:List Th)(t:Th):Ex L (putL L t)/\(putL L t).length<=L.length+1:=by
 unfold putL;split
 .exact⟨.refl _,by omega⟩
 .rename_i h
  exact⟨⟨λi x e=>by rw[gl0 (gi0 e).1];exact e,λn=>List.nodup_append.mpr ⟨n,by simp,λa ha b hb e=>h (by rw[<-List.mem_singleton.mp hb,<-e];exact ha)⟩⟩,by simp⟩
def pM{l:List D}{d:D}(h:l.idxOf? d=some j):l[j]?=some d:=by
 unfold List.idxOf? at h;obtain⟨h1,h2,_⟩:=List.findIdx?_eq_some_iff_getElem.mp h;rw[ge0 h1];exact congrArg some (eq_of_beq h2)
def qX(L:List Th)(t:Th)(hz:L.length<1000000):∃j:Nat,(putL L t)[j]?=some t/\jU (vt L) [.hdl 0,t.o]=some (vt (putL L t),.ok (.int (j:Nat))):=by
 have m:t.o∈L.map Th.o↔t∈L:=⟨λz=>by obtain⟨s,h1,h2⟩:=mm0 z;exact Th.o_inj h2▸h1,List.mem_map_of_mem⟩;have o:=t.o_ok.1;cases h:(L.map Th.o).idxOf? t.o with
 |some j=>
  have h1:t∈L:=m.mp (Classical.byContradiction λz=>by rw[List.idxOf?_eq_none_iff.mpr z]at h;cases h);refine⟨j,?_,by simp[jU,putL,o,h,hz,h1];exact t.o_ok.2⟩;have e:=pM h;rw[gm0]at e;obtain⟨s,e1,e2⟩:=mx0 e;simp[putL,h1,e1,Th.o_inj e2]
 |none=>
  have h1:t∉L:=λz=>List.idxOf?_eq_none_iff.mp h (m.mpr z)
  exact⟨L.length,by simp[putL,h1],by simp[jU,putL,o,h,hz,h1];exact t.o_ok.2⟩
abbrev xp(run:List D->Option D):Prop:=∀xs:List Str,xs.length<=12->run [.list (xs.map .str)]=some (.bool (tI xs))
abbrev xq(Z:Fs):Prop:=Has Z "names_rise" [true] xp
def KN(l:List α):cut l (some 1) none=l.tail:=by
 cases l with
 |nil=>rfl
 |cons x r=>simp[cut,sIx]
theorem nJ:∀(xs:List Str)(y:Str),zip2 ((y::xs).map D.str) (xs.map D.str)=((y::xs).zip xs).map λp=>.tuple [.str p.1,.str p.2]
 |[],_=>rfl
 |x::r,y=>by
  have:=nJ r x;simp only[mk0]at this;simp[this]
theorem qY:∀(xs:List Str)(y:Str),((y::xs).zip xs).all (λp=>decide (p.1.cps.toList<p.2.cps.toList))=tI (y::xs)
 |[],_=>rfl
 |x::r,y=>by
  rw[tI,<-qY r x,List.zip_cons_cons,List.all_cons]
def HH:xp (ans Z Γ bB):=by
 intro xs hl;simp only[ans_e,bB];simp[KN];cases xs with
 |nil=>rfl
 |cons y r=>
  have:=nJ r y;simp only[mk0]at this;simp at hl;have hb:r.length<=big:=nt0 hl (by decide);simp[this,hb];rw[aw (g:=λp:Str×Str=>D.bool (decide (p.1.cps.toList<p.2.cps.toList))) λp a=>by simp[aU]];simp[<-qY,Function.comp_def,hb]
theorem xt:∀{xs:List Str},cj xs->tI xs=true
 |[],_=>rfl
 |[_],_=>rfl
 |a::b::r,h=>by
  obtain⟨h1,h2⟩:=List.pairwise_cons.mp h;have:=h1 b ms0;unfold ltS at this;show (decide (a.cps.toList<b.cps.toList)&&tI (b::r))=true;rw[this,xt h2];rfl
def Good(xs:List Str):Prop:=cj xs/\(∀x∈xs,aA x=true)/\xs.length<=12
abbrev HI(Z:Fs):Prop:=Has Z "refuse_wrong_names" [true] λrun=>∀xs,Good xs->run [.list (xs.map .str)]=some .none
def AB(hn:qS Z)(hr:xq Z)(xs:List Str)(h:Good xs):ans Z Γ aC [.list (xs.map .str)]=some .none:=by
 obtain⟨r1,e1,h1⟩:=hn;obtain⟨r2,e2,h2⟩:=hr;have h2:=h2 xs h.2.2;rw[xt h.1]at h2;simp only[ans_e,aC];simp;refine Bt (inj:=D.str) (F:=λs=>[Sl.lent (.list (xs.map .str)),s]) (J:=λa a=>True) (P:=λo=>lj (nxS Z Γ o _)=_) (λs a=>?_) (λx m n s a=>⟨.dat (.str x),trivial,?_⟩) trivial
 .simp[e2,h2]
 .have:=h.2.1 x m
  simp[e1,h1 x (nt0 (cA this).2 (by omega)),this]
abbrev Bv(J:FsM):Prop:=xh J "tree" [false,false] λrun=>∀(L:List Th)(es:List (Str×Int)),Good (es.map (·.1))->(∀p∈es,∃n:Nat,p.2=n/\n<L.length)->L.length<1000->∃j:Nat,(putL L (.tree es))[j]?=some (.tree es)/\run (vt L) [.hdl 0,.list (es.map dh)]=some (vt (putL L (.tree es)),.ok (.int j))
def xu(hf:HI Z)(hk:xj Z c)(hp:Av J)(L:List Th)(es:List (Str×Int))(hg:Good (es.map (·.1)))(hd:∀p∈es,∃n:Nat,p.2=n/\n<L.length)(hz:L.length<1000):∃j:Nat,(putL L (.tree es))[j]?=some (.tree es)/\nF Z J Γ c (lh c) (vt L) [.hdl 0,.list (es.map dh)]=some (vt (putL L (.tree es)),.ok (.int j)):=by
 obtain⟨r1,e1,h1⟩:=hf;obtain⟨r2,e2,h2⟩:=hk;obtain⟨j,jt,q⟩:=qX L (.tree es) (by omega);refine⟨j,jt,?_⟩;have hr:=h1 _ hg;rw[List.map_map]at hr;have hl:es.length<=12:=by simpa using hg.2.2
 have hb:es.length<=big:=nt0 hl (by decide);simp only[iV,lh];simp[hb,e1];rw[aw (g:=D.str ∘ Prod.fst) (λa a=>rfl)];simp[show (λx:Str×Int=>x.1)=Prod.fst from rfl]at hr ⊢;rw[hr];simp;refine HF (F:=λs:Sl×Sl=>[.dat (.hdl 0),.dat (.list (es.map dh)),s.1,s.2]) (s:=(.no,.no)) (λa=>none) (P:=λo=>AA (nxM Z J Γ c o _)=_) (λx m s=>⟨(.dat (.str x.1),.dat (.int x.2)),?_⟩) λs=>?_
 .obtain⟨n,hn,hl⟩:=hd x m
  obtain⟨k,ds,hk,kc⟩:∃k ds,(L.map Th.o)[n]?=some (.tuple (.str k::ds))/\k≠Au:=by
   rw[gm0,ge0 hl];cases L[n]with
   |blob t=>exact⟨_,_,rfl,by decide⟩
   |tree es=>exact⟨_,_,rfl,by decide⟩
  simp[e2,dh,hn,h2 0 _ n k ds hk,kc]
 .rw[show es.findSome? (λa=>(none:Option Nat))=none from List.findSome?_eq_none_iff.mpr λa a=>rfl]
  simp[hb,hp];rw[aw (g:=dh) (λa a=>rfl)];simp[hb,iR,show jU (vt L) [.hdl 0,.tuple [.str dc,.tuple (es.map dh)]]=_ from q]
abbrev Bw(J:FsM):Prop:=xh J "blob" [false,false] λrun=>∀(L:List Th)(x:Str),L.length<1000->∃j:Nat,(putL L (.blob x))[j]?=some (.blob x)/\run (vt L) [.hdl 0,.str x]=some (vt (putL L (.blob x)),.ok (.int j))
def xw(hp:Av J)(L:List Th)(x:Str)(hz:L.length<1000):∃j:Nat,(putL L (.blob x))[j]?=some (.blob x)/\nF Z J Γ c lg (vt L) [.hdl 0,.str x]=some (vt (putL L (.blob x)),.ok (.int j)):=by
 obtain⟨j,jt,q⟩:=qX L (.blob x) (by omega);exact⟨j,jt,by simp only[iV,lg];simp[hp,iR,show jU (vt L) [.hdl 0,.tuple [.str jY,.str x]]=_ from q]⟩
def KO(c:Nat):ans Z Γ aZ [.str ⟨#[c]⟩]=some (.bool (bw c)):=by
 rw[tH];simp only[ans_e,aZ]
 by_cases h:97<=c/\c<=122\/65<=c/\c<=90\/48<=c/\c<=57<;>simp[EU,h,inD,As]
def KP(hs:qR Z)(hg:Γ.lookup ("LONGEST_NAME":Str)=some (D.int 12))(x:Str)(hx:x.length<=1000):ans Z Γ dP [.str x]=some (.bool (aA x)):=by
 obtain⟨r1,e1,h1⟩:=hs;have hz:x.length<=big:=nt0 hx (by decide);have hy:x.cps.size<=big:=hz;simp only[ans_e,dP,aA,dot,EV]
 by_cases c1:1<=x.length/\x.length<=12
 .by_cases c2:x=⟨#[46]⟩\/x=⟨#[46,46]⟩
  .simp[hz,hg,c1,c2,show ¬ ((x.length:Int)<1\/12<(x.length:Int)) by omega]
   rcases c2 with rfl|rfl<;>simp
  .simp[hz,hy,hg,c1,c2,show ¬ ((x.length:Int)<1\/12<(x.length:Int)) by omega]
   rw[aw (g:=λc=>D.bool (bw c)) λc a=>by simp[aU,e1,h1]];simp[not_or.mp c2]
 .simp[hz,hg,show (x.length:Int)<1\/12<(x.length:Int) by omega]
  omega
def nmR(hm:fq Z)(ns:List Int)(b:Int):Kq (ans Z Γ ba [.scr ns,.int b]):=by
 obtain⟨r1,e1,h1⟩:=hm;have hx:=h1 ns b;generalize mixF ns b=N at hx;simp only[ans_e,ba];simp[e1,hx]
 by_cases c0:0<N % 3
 .have g1:=en0 (N / 3) (b:=8) (by decide)
  have g2:=el0 (N / 3) (b:=8) (by decide);generalize N / 3 % 8=m at g1 g2;obtain⟨k,rfl⟩:=Int.eq_ofNat_of_zero_le g1;simp[c0]
  match k,(by omega:k<8)with
  |0,_|1,_|2,_|3,_|4,_|5,_|6,_|7,_=>exact⟨_,rfl,by decide⟩
 .have m1:=en0 (N / 3) (b:=12) (by decide)
  have m2:=el0 (N / 3) (b:=12) (by decide);obtain⟨k,ek⟩:=Int.eq_ofNat_of_zero_le m1;rw[ek]at m2;have hb:k+1<=big:=nt0 (m:=13) (by omega) (by decide);have hm:∀c∈List.map (sgn7 ns b) (List.range (k+1)),bw c=true:=λc hc=>by
   obtain⟨j,_,rfl⟩:=mm0 hc;exact Ax ns b j
  simp[c0,ek,tN (n:=1+(k:Int)) (by omega) (by omega),show (1+(k:Int)).toNat=k+1 by omega,hb];rw[aw (g:=D.str ∘ (λc=>(⟨#[c]⟩:Str)) ∘ sgn7 ns b) λj a=>by
   have q3:=nh (xs:=signs65) 0 (en0 (mixF ns (b+7*(j:Int)) / 5) (b:=65) (by decide)) (el0 _ (by decide));simp[aU,e1,h1,mulL (i:=7) (by decide) (by decide)];exact⟨by decide,q3⟩,<-List.map_map,<-List.map_map]
  obtain⟨cs,hc⟩:∃cs,(List.range (k+1)).map (sgn7 ns b)=cs:=⟨_,rfl⟩;have hl:cs.length=k+1:=by rw[<-hc];simp
  rw[hc]at hm ⊢;have S:strsOf (cs.map (D.str ∘ λc=>(⟨#[c]⟩:Str)))=some (cs.map λc=>⟨#[c]⟩):=by rw[<-List.map_map,aK]
  have J:Txt.join ⟨#[]⟩ (cs.map λc=>(⟨#[c]⟩:Str))=⟨cs.toArray⟩:=join_one cs;have L1:((λx:Str=>x.length) ∘ λc:Nat=>(⟨#[c]⟩:Str))=λa=>1:=rfl
  have L2:(⟨#[]⟩:Str).length=0:=rfl;simp[S,J,L1,L2,List.map_const',List.sum_replicate_nat,hl,hb];obtain⟨T,hT⟩:∃T:Str,⟨cs.toArray⟩=T:=⟨_,rfl⟩;have lT:T.length=k+1:=by rw[<-hT];show cs.toArray.size=_;simp[hl]
  have sT:T.cps.toList.all bw=true:=by rw[<-hT];simpa using hm
  rw[hT];have m0:mulO (some (.str ⟨#[97]⟩)) (some (.int 0))=some (.str ⟨#[]⟩):=rfl;have m1:mulO (some (.str ⟨#[97]⟩)) (some (.int 1))=some (.str ⟨#[97]⟩):=rfl;have n:∀Q:Str,opD .add (.str T) (.str Q)=if T.length+Q.length<=big then some (.str (T++Q))else none:=λa=>rfl
  have b2:k+1+1<=big:=nt0 (m:=14) (by omega) (by decide)
  by_cases q:⟨#[46]⟩=T\/⟨#[46,46]⟩=T
  .refine⟨T++⟨#[97]⟩,?_,by rcases q with rfl|rfl<;>decide⟩
   simp[inD,okS,q,m1,n,lT,show (⟨#[97]⟩:Str).length=1 from rfl,b2]
  .refine⟨T,?_,?_⟩
   .simp[inD,okS,q,m0,n,lT,L2,hb]
    exact kN (by show (T.cps++#[]).toList=_;simp)
   .have q':=not_or.mp q
    rw[aA,sT];simp[lT,dot,EV,Ne.symm q'.1,Ne.symm q'.2];omega
def EY{Z':Fs}{Γ':List (Str×D)}(hm:fq Z)(hm':fq Z')(ns:List Int)(b:Int):ans Z Γ ba [.scr ns,.int b]=ans Z' Γ' ba [.scr ns,.int b]:=by
 obtain⟨r1,e1,h1⟩:=hm;obtain⟨r2,e2,h2⟩:=hm';have m1:=en0 (mixF ns b / 3) (b:=12) (by decide);have m2:=el0 (mixF ns b / 3) (b:=12) (by decide);obtain⟨k,ek⟩:=Int.eq_ofNat_of_zero_le m1;rw[ek]at m2;have hb:k+1<=big:=nt0 (m:=13) (by omega) (by decide);simp only[ans_e,ba]
 by_cases c0:0<mixF ns b % 3
 .simp[e1,h1,e2,h2,c0]
  generalize atI _ _=o;cases o
  .rfl
  .simp
 .simp[e1,h1,e2,h2,c0,ek,tN (n:=1+(k:Int)) (by omega) (by omega),show (1+(k:Int)).toNat=k+1 by omega,hb]
  have q3:=λj:Nat=>nh (xs:=signs65) 0 (en0 (mixF ns (b+7*(j:Int)) / 5) (b:=65) (by decide)) (el0 _ (by decide))
  rw[aw (g:=D.str ∘ (λc=>(⟨#[c]⟩:Str)) ∘ sgn7 ns b) λj a=>by
   simp[aU,e1,h1,mulL (i:=7) (by decide) (by decide)];exact⟨by decide,q3 j⟩,aw (g:=D.str ∘ (λc=>(⟨#[c]⟩:Str)) ∘ sgn7 ns b) λj a=>by
   simp[aU,e2,h2,mulL (i:=7) (by decide) (by decide)];exact⟨by decide,q3 j⟩]
  simp;generalize strsOf _=z;cases z with
  |none=>rfl
  |some ys=>
   simp;split
   .simp
    generalize Option.bind (mulO _ _) _=o;rcases o with _|z
    .rfl
    .cases z<;>rfl
   .rfl
noncomputable def HJ:Fs:=λf=>if f="_law_mix" then some ⟨[true,true],λds=>match ds with
 |[.scr ns,.int k]=>some (.int (mixF ns k))
 |_=>none⟩ else none
def qZ:fq HJ:=⟨_,if_pos rfl,λa a=>rfl⟩
noncomputable def nmS(ns:List Int)(k:Int):Str:=match ans HJ [] ba [.scr ns,.int k]with
 |some (.str x)=>x
 |_=>⟨#[]⟩
abbrev HNm(Z:Fs):Prop:=Has Z "_law_name" [true,true] λrun=>∀ns k,run [.scr ns,.int k]=some (.str (nmS ns k))/\aA (nmS ns k)=true
def nmE(hm:fq Z)(ns:List Int)(k:Int):ans Z Γ ba [.scr ns,.int k]=some (.str (nmS ns k))/\aA (nmS ns k)=true:=by
 obtain⟨x,a,b⟩:=nmR (Γ:=[]) qZ ns k;have:nmS ns k=x:=by unfold nmS;rw[a]
 rw[EY (Γ':=[]) hm qZ,this];exact⟨a,b⟩
mutual
inductive Nd where
 |blob (t:Str)
 |tree (es:Nds)
inductive Nds where
 |nil
 |cons (x:Str) (n:Nd) (r:Nds)
end
mutual
noncomputable def Nd.d:Nd->D
 |.blob t=>.tuple [.str jY,.str t]
 |.tree es=>.tuple [.str dc,.list es.ds]
noncomputable def Nds.ds:Nds->List D
 |.nil=>[]
 |.cons x n r=>.tuple [.str x,n.d]::r.ds
end
noncomputable def Nds.names:Nds->List Str
 |.nil=>[]
 |.cons x _ r=>x::r.names
noncomputable def tb(w:Nat):Nat:=if w<=3 then 30 else 3000
mutual
noncomputable def Nd.ok(w:Nat):Nat->Nd->Prop
 |_,.blob t=>t.length<=tb w
 |0,.tree _=>False
 |k+1,.tree es=>cj es.names/\(∀x∈es.names,aA x=true)/\es.names.length<=w/\es.ok w k
noncomputable def Nds.ok(w:Nat):Nat->Nds->Prop
 |_,.nil=>True
 |k,.cons _ n r=>n.ok w k/\r.ok w k
end
theorem Nds.len:∀es:Nds,es.ds.length=es.names.length
 |.nil=>rfl
 |.cons x n r=>by rw[Nds.ds,Nds.names,lc0,lc0,Nds.len r]
noncomputable def pN(ns:List Int)(k:Int)(M:Nat):List Str:=(List.range M).map λj:Nat=>nmS ns (k+3+j)
def xx(hn:HNm Z)(ns:List Int):∃r,Z "_law_name"=some ⟨[true,true],r⟩/\∀k,r [.scr ns,.int k]=some (.str (nmS ns k))/\aA (nmS ns k)=true:=by
 obtain⟨r2,e2,h2⟩:=hn;exact⟨r2,e2,h2 ns⟩
abbrev nK(Z:Fs)(m:Nat):Prop:=Has Z "_law_folder" [true,true,true] λrun=>∀ns k,∃es,(Nd.tree es).ok 3 m/\(∃M,M<=3/\es.names=srtS (pN ns k M))/\run [.scr ns,.int k,.int m]=some (Nd.tree es).d
abbrev ka(Z:Fs)(m:Nat):Prop:=Has Z "_law_node" [true,true,true] λrun=>∀ns k,∃n:Nd,n.ok 3 m/\run [.scr ns,.int k,.int m]=some n.d
theorem dC{f:D->Option (Option D)}{P:Str->Prop}:∀xs:List D,(∀x∈xs,∃t:Str,P t/\f x=some (some (.str t)))->∃ts:List Str,ts.length=xs.length/\(∀t∈ts,P t)/\aB f xs=some (ts.map .str)
 |[],_=>⟨[],rfl,(λa h=>by cases h),rfl⟩
 |x::r,h=>by
  obtain⟨t,p,e⟩:=h x ms0;obtain⟨ts,l,q,e2⟩:=dC r λy hy=>h y (mc0 _ hy)
  refine⟨t::ts,by rw[lc0,l,lc0],λu hu=>?_,?_⟩
  .rcases mq0 hu with z|z
   .rw[z];exact p
   .exact q u z
  .rw[aB,e,bs0,e2];rfl
theorem gy{f:D->Option (Option D)}:∀(zs:List Str)(i:Nat),(∀(j:Nat)(z:Str),zs[j]?=some z->∃n:Nd,n.ok 3 m/\f (.int ((i+j:Nat):Int))=some (some (.tuple [.str z,n.d])))->∃es:Nds,es.names=zs/\es.ok 3 m/\aB f ((List.range' i zs.length).map λk:Nat=>D.int k)=some es.ds
 |[],i,_=>⟨.nil,rfl,trivial,rfl⟩
 |z::r,i,h=>by
  obtain⟨n,p,e⟩:=h 0 z rfl;obtain⟨es,a,b,c⟩:=gy r (i+1) λj y hy=>by
   obtain⟨n,p,e⟩:=h (j+1) y (by simpa using hy);exact⟨n,p,by rw[<-e];congr 2;omega⟩
  refine⟨.cons z n es,by rw[Nds.names,a],⟨p,b⟩,?_⟩;rw[lc0,List.range'_succ,mk0,aB,show f (D.int (i:Int))=some (some (.tuple [.str z,n.d]))from e,bs0,c];rfl
def EZ{ts:List Str}(h0:0<=i)(h1:i<ts.length):∃t∈ts,atI (ts.map D.str) i=some (.str t):=by
 have hl:i.toNat<ts.length:=by omega
 refine⟨ts[i.toNat],List.getElem_mem hl,?_⟩;rw[bz h0 (by rw[lm0];exact h1),gm0,ge0 hl];rfl
abbrev xy(Z:Fs):Prop:=Has Z "_law_sign" [true] λrun=>∀n,∃x:Str,x.length=1/\run [.int n]=some (.str x)
def HK(n:Int):∃x:Str,x.length=1/\ans Z Γ fi [.int n]=some (.str x):=by
 have h1:=en0 n (b:=94) (by decide);have h2:=el0 n (b:=94) (by decide);simp only[ans_e,fi];simp;rw[if_pos (by decide)];simp;rw[if_pos (by decide)];generalize hs:(_++_:Str)=s;have hl:s.cps.toList.length=94:=by rw[<-hs];decide
 have hl':(n % 94).toNat<s.cps.toList.length:=by omega
 rw[bz h1 (by omega),ge0 hl'];exact⟨_,rfl,by simp;rfl⟩
abbrev pO(Z:Fs):Prop:=Has Z "_law_line" [true,true] λrun=>∀ns k,∃x:Str,x.length<=3/\run [.scr ns,.int k]=some (.str x)
def HL(hm:fq Z)(hs:xy Z)(ns:List Int)(k:Int):∃x:Str,x.length<=3/\ans Z Γ fj [.scr ns,.int k]=some (.str x):=by
 obtain⟨r1,e1,h1⟩:=hm;obtain⟨r2,e2,h2⟩:=hs;simp only[ans_e,fj];have hN:=h1 ns k;generalize mixF ns k=N at hN
 by_cases c:N % 4=3
 .obtain⟨x,l1,q1⟩:=h2 (N / 4)
  obtain⟨y,l2,q2⟩:=h2 (N / 376);refine⟨x++y,by rw[ji];omega,?_⟩;simp[e1,hN,e2,q1,q2,c,l1,l2,show 2<=big by decide]
 .obtain⟨t,ht,e⟩:=EZ (ts:=[⟨#[97]⟩,⟨#[98]⟩,⟨#[]⟩,⟨#[97,32,98]⟩,⟨#[124]⟩,⟨#[99]⟩]) (i:=N / 4 % 6) (en0 _ (by decide)) (el0 _ (by decide))
  refine⟨t,(show ∀x∈[(⟨#[97]⟩:Str),⟨#[98]⟩,⟨#[]⟩,⟨#[97,32,98]⟩,⟨#[124]⟩,⟨#[99]⟩],x.length<=3 by decide) t ht,?_⟩;simp only[mk0,List.map_nil]at e;simp[e1,hN,c,e]
abbrev By(Z:Fs):Prop:=Has Z "_law_row" [true,true,true] λrun=>∀ns b (n:Nat),n<=3->∃xs:List Str,xs.length=n/\(∀x∈xs,x.length<=3)/\run [.scr ns,.int b,.int n]=some (.list (xs.map .str))
def KQ(hl:pO Z)(ns:List Int)(b:Int)(n:Nat)(hn:n<=3):∃xs:List Str,xs.length=n/\(∀x∈xs,x.length<=3)/\ans Z Γ gR [.scr ns,.int b,.int n]=some (.list (xs.map .str)):=by
 obtain⟨r1,e1,h1⟩:=hl;simp only[ans_e,gR];simp[Kr (n:=n) (by omega),show n<=big from nt0 hn (by decide)];generalize hf:cpF Z Γ _ _ _ _ _ _=f;obtain⟨ts,a,p,q⟩:=dC (P:=λx=>x.length<=3) (f:=f) ((List.range n).map λk:Nat=>D.int k) λx hx=>by
  obtain⟨k,_,rfl⟩:=mm0 hx;obtain⟨t,l,e⟩:=h1 ns (b+k);exact⟨t,l,by rw[<-hf];simp[aU,e1,e]⟩
 exact⟨ts,by simpa using a,p,by rw[q];simp⟩
abbrev lq(Z:Fs):Prop:=Has Z "_law_ends" [true,true] λrun=>∀(row:List Str)(b:Bool)(k m:Nat),k<=40->m<=40->row.length<=k->(∀x∈row,x.length<=m)->∃xs:List Str,xs.length<=k/\(∀x∈xs,x.length<=m+1)/\run [.list (row.map .str),.bool b]=some (.list (xs.map .str))
def HM(row:List Str)(b:Bool)(k m:Nat)(hk:k<=40)(hm:m<=40)(hl:row.length<=k)(hx:∀x∈row,x.length<=m):∃xs:List Str,xs.length<=k/\(∀x∈xs,x.length<=m+1)/\ans Z Γ fk [.list (row.map .str),.bool b]=some (.list (xs.map .str)):=by
 have nl1:(⟨#[10]⟩:Str).length=1:=rfl;have key:∀x∈row,x.length+(⟨#[10]⟩:Str).length<=big:=λx h=>nt0 (show x.length+1<=41 by have:=hx x h;omega) (by decide)
 have one:∀x∈row.map (·++(⟨#[10]⟩:Str)),x.length<=m+1:=λx h=>by
  obtain⟨y,hy,rfl⟩:=mm0 h;rw[ji,nl1];have:=hx y hy;omega
 simp only[ans_e,fk];simp[show row.length<=big from nt0 (nt0 hl hk) (by decide)];rw[aw (g:=λx:Str=>D.str (x++⟨#[10]⟩)) λx h=>by have:=key x h;simp[aU,this]];have b0:∃xs:List Str,xs.length<=k/\(∀x∈xs,x.length<=m+1)/\(row.map λx=>D.str (x++⟨#[10]⟩))=xs.map .str:=⟨_,by simpa using hl,one,by simp⟩;cases b with
 |false=>simpa using b0
 |true=>
  by_cases he:row=[]
  .simpa [he]using b0
  .obtain⟨r,t,rfl⟩:=List.eq_nil_or_concat row|>.resolve_left he
   rw[List.concat_eq_append]at *;have ix:ixN (r.length+1) (-1)=some r.length:=by
    unfold ixN;rw[if_neg (by decide),if_pos (by omega)]
    congr 1;omega
   have ea:atI (r.map D.str++[.str t]) (-1)=some (.str t):=by unfold atI;simp[ix]
   by_cases ht:t=⟨#[]⟩
   .subst ht;simpa [ea]using b0
   .refine⟨r.map (·++⟨#[10]⟩)++[t],by simpa using hl,λx h=>?_,?_⟩
    .rcases ma0 h with h|h
     .exact one x (by rw[List.map_append];exact List.mem_append_left _ h)
     .rw[List.mem_singleton.mp h];exact Nat.le_succ_of_le (hx t (by simp))
    .simp[ea,ht,ix]
def iW(hm:fq Z)(hr:By Z)(he:lq Z)(m:Nat)(hf:0<m->nK Z m)(ns:List Int)(k:Int):∃n:Nd,n.ok 3 m/\ans Z Γ bJ [.scr ns,.int k,.int m]=some n.d:=by
 obtain⟨r1,e1,h1⟩:=hm;obtain⟨r2,e2,h2⟩:=hr;obtain⟨r3,e3,h3⟩:=he;have hN:=h1 ns (k+1);generalize mixF ns (k+1)=N at hN
 by_cases c0:0<m/\N % 5<2
 .obtain⟨r4,e4,h4⟩:=hf c0.1
  obtain⟨es,p,_,e⟩:=h4 ns k;refine⟨.tree es,p,?_⟩;simp only[ans_e,bJ];simp[e1,hN,c0.1,c0.2,e4,e]
 have g1:=en0 (N / 5) (b:=4) (by decide);have g2:=el0 (N / 5) (b:=4) (by decide);obtain⟨j,ej⟩:∃j:Nat,N / 5 % 4=j:=⟨(N / 5 % 4).toNat,by omega⟩;obtain⟨row,rl,rc,q2⟩:=h2 ns (k+2) j (by omega);obtain⟨E,el,ec,q3⟩:=h3 row (decide (N % 3=0)) 3 3 (by omega) (by omega) (by omega) rc;have ls:=nt0 (pL ec) (Nat.mul_le_mul_right 4 el);refine⟨.blob (Txt.join Str.empty E),nt0 (nA _) (nt0 ls (by decide)),?_⟩;have hj:(E.map λx=>x.length).sum<=big:=nt0 ls (by decide);simp only[ans_e,bJ]
 by_cases z:0<m
 .have y:¬ N % 5<2:=λy=>c0 ⟨z,y⟩
  simp[e1,hN,z,y,ej,e2,q2,e3,q3,aK,hj,show (⟨#[]⟩:Str).length=0 from rfl];rfl
 .simp[e1,hN,z,ej,e2,q2,e3,q3,aK,hj,show (⟨#[]⟩:Str).length=0 from rfl]
  rfl
def eM(hm:fq Z)(hn:HNm Z)(m:Nat)(hd:ka Z m)(ns:List Int)(k:Int):∃es,(Nd.tree es).ok 3 (m+1)/\(∃M,M<=3/\es.names=srtS (pN ns k M))/\ans Z Γ bh [.scr ns,.int k,.int ((m+1:Nat):Int)]=some (Nd.tree es).d:=by
 obtain⟨r1,e1,h1⟩:=hm;obtain⟨r2,e2,hnm⟩:=xx hn ns;obtain⟨r3,e3,h3⟩:=hd;have g:=kZ ns k 4 (by decide);have hM:=h1 ns k;generalize hn:mixF ns k % 4=M at g;have hz:M.toNat<=big:=by unfold big;omega
 simp only[ans_e,bh];simp[e1,hM,hn,tN (n:=M) (by omega) (by omega),hz];rw[aw (g:=λj:Nat=>D.str (nmS ns (k+3+j))) λj c=>by simp[aU,e2,hnm]];have st:=xn ((List.range M.toNat).map λj:Nat=>nmS ns (k+3+j)) (by simp;omega);rw[List.map_map]at st;have ze:srtS ((List.range M.toNat).map λj:Nat=>nmS ns (k+3+j))=srtS (pN ns k M.toNat):=rfl;have zl:=mJ ((List.range M.toNat).map λj:Nat=>nmS ns (k+3+j));have zp:∀t∈srtS ((List.range M.toNat).map λj:Nat=>nmS ns (k+3+j)),aA t=true:=λt ht=>by
  obtain⟨j,_,rfl⟩:=mm0 ((dz _ t).mp ht);exact (hnm _).2
 have zr:=fO ((List.range M.toNat).map λj:Nat=>nmS ns (k+3+j));generalize srtS ((List.range M.toNat).map λj:Nat=>nmS ns (k+3+j))=zs at st zl zp zr ze;rw[lm0,lr0]at zl;simp[show (λj:Nat=>D.str (nmS ns (k+3+j)))=D.str ∘ (λj:Nat=>nmS ns (k+3+j))from rfl,st,Bs (ds:=zs.map .str) (by simp;omega),show zs.length<=big from nt0 zl (by unfold big;omega)];rw[List.range_eq_range'];generalize hf:cpF Z Γ _ _ _ _ _ _=f;obtain⟨es,en,eo,ee⟩:=gy (m:=m) (f:=f) zs 0 λj z hz=>by
  obtain⟨n,a,b⟩:=h3 ns (4*k+5+j);refine⟨n,a,?_⟩;have hj:=(gi0 hz).1;have ea:atI (zs.map D.str) (j:Int)=some (.str z):=by
   rw[bz (by omega) (by rw[lm0];exact_mod_cast hj),Int.toNat_natCast,gm0,hz];rfl
  have em:(m:Int)+1-1=(m:Int):=by omega
  rw[<-hf];simp[aU,e3,b,ea,em,mulL (i:=4) (by decide) (by decide)]
 refine⟨es,⟨by rw[en];exact zr,by rw[en];exact zp,by rw[en];omega,eo⟩,⟨M.toNat,by omega,by rw[en,ze]⟩,?_⟩;rw[ee];rfl
variable {J:FsM}{w:Nat}
mutual
noncomputable def Nd.rep(L:List Th):Nat->Nd->Prop
 |i,.blob t=>L[i]?=some (.blob t)
 |i,.tree es=>∃ps:List (Str×Int),ps.map (·.1)=es.names/\L[i]?=some (.tree ps)/\es.rep L (ps.map (·.2))
noncomputable def Nds.rep(L:List Th):List Int->Nds->Prop
 |[],.nil=>True
 |i::is,.cons _ n r=>(∃k:Nat,i=k/\n.rep L k)/\r.rep L is
 |_,_=>False
end
mutual
theorem Nd.rep_ex{L L':List Th}(h:Ex L L'):∀(n:Nd)(i:Nat),n.rep L i->n.rep L' i
 |.blob t,i,e=>by rw[Nd.rep]at e ⊢;exact h.1 i _ e
 |.tree es,i,e=>by
  rw[Nd.rep]at e ⊢;obtain⟨ps,a,b,c⟩:=e;exact⟨ps,a,h.1 i _ b,Nds.rep_ex h es _ c⟩
theorem Nds.rep_ex{L L':List Th}(h:Ex L L'):∀(es:Nds)(is:List Int),es.rep L is->es.rep L' is
 |.nil,[],e=>by rw[Nds.rep];trivial
 |.nil,_::_,e=>by rw[Nds.rep]at e;exact e.elim;all_goals simp
 |.cons x n r,[],e=>by rw[Nds.rep]at e;exact e.elim;all_goals simp
 |.cons x n r,i::is,e=>by
  rw[Nds.rep]at e ⊢;obtain⟨⟨k,rfl,a⟩,b⟩:=e;exact⟨⟨k,rfl,Nd.rep_ex h n k a⟩,Nds.rep_ex h r is b⟩
end
mutual
noncomputable def Nd.cnt:Nd->Nat
 |.blob _=>1
 |.tree es=>es.cnt+1
noncomputable def Nds.cnt:Nds->Nat
 |.nil=>0
 |.cons _ n r=>n.cnt+r.cnt
end
def Nd.hd{L:List Th}{n:Nd}{i:Nat}(h:n.rep L i):i<L.length:=by
 cases n with
 |blob t=>rw[Nd.rep]at h;exact (gi0 h).1
 |tree es=>rw[Nd.rep]at h;obtain⟨ps,_,b,_⟩:=h;exact (gi0 b).1
theorem Nds.hds{L:List Th}:∀{es:Nds}{is:List Int},es.rep L is->(∀i∈is,∃n:Nat,i=n/\n<L.length)/\is.length=es.names.length
 |.nil,[],_=>⟨nofun,rfl⟩
 |.nil,_::_,h=>by rw[Nds.rep]at h;exact h.elim;all_goals simp
 |.cons x n r,[],h=>by rw[Nds.rep]at h;exact h.elim;all_goals simp
 |.cons x n r,i::is,h=>by
  rw[Nds.rep]at h;obtain⟨⟨k,rfl,a⟩,b⟩:=h;obtain⟨p,q⟩:=Nds.hds b;refine⟨λj hj=>?_,by rw[lc0,q,Nds.names,lc0]⟩;rcases mq0 hj with e|hj
  .exact⟨k,e,Nd.hd a⟩
  .exact p j hj
abbrev xA(m:Nat)(run:Ust->List D->Option (Ust×R)):Prop:=∀(L:List Th)(n:Nd),n.ok 4 m->L.length+n.cnt<=900->∃L' i,run (vt L) [.hdl 0,n.d]=some (vt L',.ok (.int (i:Nat)))/\n.rep L' i/\Ex L L'/\L'.length<=L.length+n.cnt
abbrev lu(J:FsM)(m:Nat):Prop:=xh J "_law_store" [false,false] (xA m)
theorem iX{k:Nat}{f:D->Ust->Option (D×Ust)}(hs:∀(L:List Th)(x:Str)(n:Nd),n.ok 4 k->L.length+n.cnt<=900->∃L' i,f (.tuple [.str x,n.d]) (vt L)=some (dh (x,((i:Nat):Int)),vt L')/\n.rep L' i/\Ex L L'/\L'.length<=L.length+n.cnt):∀(es:Nds)(L:List Th),es.ok 4 k->L.length+es.cnt<=900->
  ∃L' is,iK f es.ds (vt L)=some ((es.names.zip is).map dh,vt L')/\es.rep L' is/\Ex L L'/\L'.length<=L.length+es.cnt
 |.nil,L,_,_=>⟨L,[],rfl,by rw[Nds.rep];trivial,Ex.refl _,nr0 _⟩
 |.cons x n r,L,h,hz=>by
  rw[Nds.ok]at h;rw[Nds.cnt]at hz;obtain⟨L1,i,a1,a2,a3,a4⟩:=hs L x n h.1 (by omega);obtain⟨L2,is,b1,b2,b3,b4⟩:=iX hs r L1 h.2 (by omega);refine⟨L2,i::is,?_,?_,a3.trans b3,by rw[Nds.cnt];omega⟩
  .rw[Nds.ds,iK,a1,bs0,b1];rfl
  .rw[Nds.rep];exact⟨⟨i,rfl,Nd.rep_ex b3 n i a2⟩,b2⟩
def ke(hb:Bw J)(ht:Bv J)(m:Nat)(hs:∀k,m=k+1->lu J k):xA m (nF Z J Γ c cw):=by
 intro L n hn hz;obtain⟨r1,e1,h1⟩:=hb;obtain⟨r2,e2,h2⟩:=ht;simp only[iV,cw];cases n with
 |blob t=>
  rw[Nd.cnt]at hz;obtain⟨j,jt,q⟩:=h1 L t (by omega);obtain⟨p1,p2⟩:=xo L (.blob t);refine⟨putL L (.blob t),j,?_,by rw[Nd.rep];exact jt,p1,p2⟩;simp[Nd.d,bz,e1,q]
 |tree es=>
  cases m with
  |zero=>exact hn.elim
  |succ k=>
   rw[Nd.ok]at hn;obtain⟨n1,n2,n3,n4⟩:=hn;rw[Nd.cnt]at hz;obtain⟨r3,e3,h3⟩:=hs k rfl;have dl:es.ds.length<big:=by rw[Nds.len];exact Nat.lt_of_le_of_lt n3 (by decide)
   simp[Nd.d,dl,e2];generalize hf:cmF Z J Γ c _ _ _ _ _=f;obtain⟨L1,is,a1,a2,a3,a4⟩:=iX (k:=k) (f:=f) (λL x n hn hz=>by
    obtain⟨L',i,p,q⟩:=h3 L n hn hz;exact⟨L',i,by rw[<-hf];simp[HG,e3,p,dh],q⟩) es L n4 (by omega)
   obtain⟨hd,il⟩:=Nds.hds a2;have f1:(es.names.zip is).map (·.1)=es.names:=List.map_fst_zip (by omega);have f2:(es.names.zip is).map (·.2)=is:=List.map_snd_zip (by omega);obtain⟨j,jt,q⟩:=h2 L1 (es.names.zip is) (by rw[f1];exact⟨n1,n2,by omega⟩) (λp hp=>hd _ (by rw[<-f2];exact List.mem_map_of_mem hp)) (by omega);obtain⟨p1,p2⟩:=xo L1 (.tree (es.names.zip is));refine⟨putL L1 (.tree (es.names.zip is)),j,?_,by rw[Nd.rep];exact⟨_,f1,jt,by rw[f2];exact Nds.rep_ex p1 es is a2⟩,a3.trans p1,by rw[Nd.cnt];omega⟩;simp[a1,q]
mutual
theorem Nd.cnt_le:∀(n:Nd)(m:Nat),n.ok 4 m->n.cnt<=5 ^ m
 |.blob t,m,_=>by rw[Nd.cnt];exact Nat.one_le_pow _ _ (by omega)
 |.tree es,0,h=>h.elim
 |.tree es,m+1,h=>by
  rw[Nd.ok]at h;have:=Nds.cnt_le es m h.2.2.2;have h3:=h.2.2.1;have h1:1<=5 ^ m:=Nat.one_le_pow _ _ (by omega);rw[Nd.cnt,Nat.pow_succ];have:es.names.length*5 ^ m<=4*5 ^ m:=Nat.mul_le_mul_right _ h3;omega
theorem Nds.cnt_le:∀(es:Nds)(m:Nat),es.ok 4 m->es.cnt<=es.names.length*5 ^ m
 |.nil,m,_=>Nat.zero_le _
 |.cons x n r,m,h=>by
  rw[Nds.ok]at h;have h1:=Nd.cnt_le n m h.1;have h2:=Nds.cnt_le r m h.2;rw[Nds.cnt,Nds.names,lc0,Nat.succ_mul];omega
end
mutual
theorem Nd.ok34:∀(n:Nd)(m:Nat),n.ok 3 m->n.ok 4 m
 |.blob t,m,h=>nt0 (show t.length<=tb 3 by cases m<;>exact h) (by decide)
 |.tree es,0,h=>h.elim
 |.tree es,m+1,h=>by
  rw[Nd.ok]at h ⊢;exact⟨h.1,h.2.1,Nat.le_succ_of_le h.2.2.1,Nds.ok34 es m h.2.2.2⟩
theorem Nds.ok34:∀(es:Nds)(m:Nat),es.ok 3 m->es.ok 4 m
 |.nil,m,_=>trivial
 |.cons x n r,m,h=>by
  rw[Nds.ok]at h ⊢;exact⟨Nd.ok34 n m h.1,Nds.ok34 r m h.2⟩
end
variable {J:FsM}{w:Nat}
theorem nM{inj:β->D}{tg:Tg}{r:Ss}{F:α->List Sl}(J:List β->α->Prop){P:Option Out->Prop}(k:∀s,J [] s->P (some (.nx (F s))))(h:∀x q s,J (x::q) s->∃s',J q s'/\(ai tg (inj x) (F s)).bind (λY=>exs Z Γ Y r)=some (.nx (F s'))):∀{xs:List β}{s:α},J xs s->P (Ay Z Γ tg r (xs.map inj) (F s))
 |[],s,j=>k s j
 |x::xs,s,j=>by
  obtain⟨s',j',e⟩:=h x xs s j;obtain⟨Y',e1,e2⟩:=bx0 e;show P ((ai tg (inj x) (F s)).bind λY'=>(exs Z Γ Y' r).bind _);rw[e1,bs0,e2];exact nM J k h j'
noncomputable def Nds.l:Nds->List (Str×Nd)
 |.nil=>[]
 |.cons x n r=>(x,n)::r.l
noncomputable abbrev pD(p:Str×Nd):D:=.tuple [.str p.1,p.2.d]
theorem Nds.ds_l:∀es:Nds,es.ds=es.l.map pD
 |.nil=>rfl
 |.cons x n r=>by rw[Nds.ds,Nds.l,mk0,Nds.ds_l r]
theorem Nds.names_l:∀es:Nds,es.names=es.l.map (·.1)
 |.nil=>rfl
 |.cons x n r=>by rw[Nds.names,Nds.l,mk0,Nds.names_l r]
theorem Nds.ok_l :∀{es:Nds},es.ok w m↔∀p∈es.l,p.2.ok w m
 |.nil=>⟨λa a h=>(by cases h),λa=>trivial⟩
 |.cons x n r=>by rw[Nds.ok,Nds.l,Nds.ok_l (es:=r)];simp
noncomputable abbrev px(x:Str)(q:List Str×Str):List Str×Str:=(x::q.1,q.2)
mutual
noncomputable def Nd.lv:Nd->List (List Str×Str)
 |.blob t=>[([],t)]
 |.tree es=>es.lv
noncomputable def Nds.lv:Nds->List (List Str×Str)
 |.nil=>[]
 |.cons x n r=>n.lv.map (px x)++r.lv
end
noncomputable abbrev lvL(l:List (Str×Nd)):List (List Str×Str):=l.flatMap λp=>p.2.lv.map (px p.1)
theorem Nds.lv_l:∀es:Nds,es.lv=lvL es.l
 |.nil=>rfl
 |.cons x n r=>by rw[Nds.lv,Nds.l,Nds.lv_l r];rfl
mutual
theorem Nd.lv_le:∀(n:Nd)(m:Nat),n.ok w m->n.lv.length<=w ^ m\/w=0
 |.blob t,m,_=>by
  rw[Nd.lv];rcases Nat.eq_zero_or_pos w with h|h
  .exact .inr h
  .exact .inl (Nat.one_le_pow _ _ h)
 |.tree es,0,h=>h.elim
 |.tree es,m+1,h=>by
  rw[Nd.ok]at h;rcases Nds.lv_le es m h.2.2.2 with q|q
  .exact .inl (by rw[Nd.lv,Nat.pow_succ,Nat.mul_comm];exact nt0 q (Nat.mul_le_mul_right _ h.2.2.1))
  .exact .inr q
theorem Nds.lv_le:∀(es:Nds)(m:Nat),es.ok w m->es.lv.length<=es.names.length*w ^ m\/w=0
 |.nil,m,_=>.inl (Nat.zero_le _)
 |.cons x n r,m,h=>by
  rw[Nds.ok]at h;rcases Nd.lv_le n m h.1 with a|a
  .rcases Nds.lv_le r m h.2 with b|b
   .exact .inl (by rw[Nds.lv,Nds.names,lc0,Nat.succ_mul,la0,lm0];omega)
   .exact .inr b
  .exact .inr a
end
def Nd.lv4{n:Nd}(h:n.ok 4 m):n.lv.length<=4 ^ m:=(Nd.lv_le n m h).resolve_right (by decide)
def Nd.lv3{n:Nd}(h:n.ok 3 m):n.lv.length<=3 ^ m:=(Nd.lv_le n m h).resolve_right (by decide)
noncomputable def jn(P x:Str):Str:=if P=⟨#[]⟩ then x else P++⟨#[47]⟩++x
noncomputable def exP:Str->List Str->Str
 |P,[]=>P
 |P,x::r=>exP (jn P x) r
def pP{P:Str}(h:aA x=true):(jn P x).length<=P.length+13:=by
 have:=(cA h).2;unfold jn;split
 .omega
 .rw[ji,ji];show P.length+1+x.length<=_;omega
def xB{P:Str}(h:aA x=true):jn P x≠⟨#[]⟩:=λe=>by
 have:=(cA h).1;have e:=congrArg Str.length e;unfold jn at e;split at e
 .rw[e]at this;cases this
 .rw[ji,ji]at e
  have:(⟨#[]⟩:Str).length=0:=rfl;omega
noncomputable abbrev gT(P:Str)(q:List Str×Str):D:=.tuple [.str (exP P q.1),.str q.2]
abbrev xC(m:Nat)(run:List D->Option D):Prop:=∀(P:Str)(es:Nds),(Nd.tree es).ok 4 m->P.length+13*m<=1000->run [.str P,(Nd.tree es).d]=some (.list (es.lv.map (gT P)))
abbrev fT(Z:Fs)(m:Nat):Prop:=Has Z "_law_texts" [true,true] (xC m)
def cC(h:n<=2000):n<=big:=nt0 h (by decide)
def fU(m:Nat)(hm:m<3)(ht:0<m->fT Z m):xC (m+1) (ans Z Γ bE):=by
 intro P es hok hP;have l4:=Nd.lv4 hok;rw[Nd.lv,Nds.lv_l]at l4;rw[Nd.ok]at hok;obtain⟨_,hn,_,hc⟩:=hok;rw[Nds.names_l]at hn;rw[Nds.ok_l]at hc;have h64:(4:Nat) ^ (m+1)<=64:=by
  have:m+1<=3:=hm;exact Nat.pow_le_pow_right (by omega) this
 simp only[ans_e,bE];simp[Nd.d,Nds.ds_l];refine nM (inj:=pD) (F:=λs:List D×Sl×Sl×Sl=>[.lent (.str P),.lent (.tuple [.str dc,.list (es.l.map pD)]),.own (.list s.1),s.2.1,s.2.2.1,s.2.2.2]) (s:=([],.no,.no,.no)) (J:=λr s=>∃q,es.l=q++r/\s.1=(lvL q).map (gT P)) (P:=λo=>lj (nxS Z Γ o _)=_) (λs j=>?_) (λp q s j=>?_) ⟨[],rfl,rfl⟩
 .obtain⟨q,e1,e2⟩:=j
  rw[List.append_nil]at e1;simp[e2,<-e1,Nds.lv_l]
 .obtain⟨q',e1,e2⟩:=j
  obtain⟨x,n⟩:=p;have nx:=hn x (by rw[e1];simp);have nok:=hc (x,n) (by rw[e1];simp);have hl:(lvL q').length+n.lv.length<=64:=by
   rw[e1]at l4;simp only[lvL,List.flatMap_append,List.flatMap_cons,la0,lm0]at l4 ⊢;omega
  have jl:=pP (P:=P) nx;refine⟨(s.1++n.lv.map (gT (jn P x)),.dat (.str x),.dat n.d,.dat (.str (jn P x))),⟨q'++[(x,n)],by rw[e1];simp,?_⟩,?_⟩
  .simp[e2,lvL,Function.comp_def,exP]
  .have l1:s.1.length=(lvL q').length:=by rw[e2,lm0]
   have xl:=(cA nx).2;have o1:P.length+(⟨#[47]⟩:Str).length<=big:=cC (show P.length+1<=_ by omega);have o2:(P++⟨#[47]⟩:Str).length+x.length<=big:=cC (by rw[ji];show P.length+1+_<=_;omega);have sb:s.1.length<big:=Nat.lt_of_le_of_lt (show _<=64 by omega) (by decide);have jq:=xB (P:=P) nx;have j0:jn ⟨#[]⟩ x=x:=if_pos rfl;have j1:¬ P=⟨#[]⟩->jn P x=P++⟨#[47]⟩++x:=λh=>if_neg h
   cases n with
   |blob t=>
    by_cases pe:P=⟨#[]⟩
    .subst pe;simp[pD,Nd.d,j0,Nd.lv,exP,sb]
    .simp[pD,Nd.d,pe,j1 pe,Nd.lv,exP,sb,o1,o2]
   |tree fs=>
    cases m with
    |zero=>exact nok.elim
    |succ m=>
     obtain⟨r1,e3,h3⟩:=ht (by omega);have q:=h3 (jn P x) fs nok (by omega);have lb:s.1.length+fs.lv.length<=big:=cC (by rw[Nd.lv]at hl;omega);have nd:(Nd.tree fs).d=.tuple [.str dc,.list fs.ds]:=rfl
     by_cases pe:P=⟨#[]⟩
     .subst pe
      rw[j0]at q;simp[pD,j0,Nd.lv,nd];rw[<-nd];simp[e3,q,lb]
     .rw[j1 pe]at q
      simp[pD,pe,j1 pe,Nd.lv,nd,o1,o2];rw[<-nd];simp[e3,q,lb]
variable {J:FsM}{w:Nat}
noncomputable def nb(L:List Th)(t:Str):Nat:=L.idxOf (.blob t)
def HN{L:List Th}(h:L.Nodup){k:Nat}(e:L[k]?=some (.blob t)):nb L t=k:=by
 obtain⟨hk,e⟩:=gi0 e;have hm:Th.blob t∈L:=e▸List.getElem_mem hk;have hl:=List.idxOf_lt_length_of_mem hm;exact (List.getElem_inj h).mp ((List.getElem_idxOf hl).trans e.symm)
theorem rf{L:List Th}:∀{es:Nds}{ps:List (Str×Int)},ps.map (·.1)=es.names->es.rep L (ps.map (·.2))->∃zs:List (Str×Nat×Nd),ps=zs.map (λz=>(z.1,(z.2.1:Int)))/\es.l=zs.map (λz=>(z.1,z.2.2))/\∀z∈zs,z.2.2.rep L z.2.1
 |.nil,[],_,_=>⟨[],rfl,rfl,nofun⟩
 |.nil,_::_,h,_=>by cases h
 |.cons x n r,[],h,_=>by cases h
 |.cons x n r,(y,i)::ps,h,q=>by
  rw[Nds.names]at h;injection h with h1 h2
  rw[mk0,Nds.rep]at q;obtain⟨⟨k,e,a⟩,b⟩:=q;obtain⟨zs,z1,z2,z3⟩:=rf h2 b;have h1:y=x:=h1;have e:i=(k:Int):=e;refine⟨(x,k,n)::zs,by rw[mk0,z1,h1,e],by rw[Nds.l,z2];rfl,λz hz=>?_⟩;rcases mq0 hz with rfl|hz
  .exact a
  .exact z3 z hz
abbrev rg(Z:Fs):Prop:=Has Z "joined" [true,true] λrun=>∀P x:Str,P.length<=1000->aA x=true->run [.str P,.str x]=some (.str (jn P x))
def pQ(P x:Str)(h:P.length<=1000)(hx:aA x=true):ans Z Γ fw [.str P,.str x]=some (.str (jn P x)):=by
 have:=(cA hx).2;have o1:P.length+(⟨#[47]⟩:Str).length<=big:=cC (show P.length+1<=_ by omega);have o2:(P++⟨#[47]⟩:Str).length+x.length<=big:=cC (by rw[ji];show P.length+1+_<=_;omega);have j0:jn ⟨#[]⟩ x=x:=if_pos rfl;have j1:¬ P=⟨#[]⟩->jn P x=P++⟨#[47]⟩++x:=λh=>if_neg h
 simp only[ans_e,fw]
 by_cases pe:P=⟨#[]⟩
 .subst pe;simp[j0]
 .simp[pe,j1 pe,o1,o2]
noncomputable abbrev gN(L:List Th)(P:Str)(q:List Str×Str):D:=.tuple [.str (exP P q.1),.int (nb L q.2:Nat)]
abbrev HP(c m:Nat)(run:List D->Option D):Prop:=∀(h:Nat)(L:List Th)(i:Nat)(P:Str)(es:Nds),L.Nodup->(Nd.tree es).ok 4 m->(Nd.tree es).rep L i->P.length+13*m<=1000->run [.vlt c h (L.map Th.o),.int i,.str P]=some (.list (es.lv.map (gN L P)))
abbrev xD(Z:Fs)(c m:Nat):Prop:=Has Z "blobs_below" [true,true,true] (HP c m)
def fV(he:nC Z c)(hk:xj Z c)(hj:rg Z)(m:Nat)(hm:m<3)(ht:0<m->xD Z c m):HP c (m+1) (ans Z Γ (aF c)):=by
 intro h L i P es nd hok hr hP;obtain⟨r1,e1,h1⟩:=he;obtain⟨r2,e2,h2⟩:=hk;obtain⟨r3,e3,h3⟩:=hj;have l4:=Nd.lv4 hok;rw[Nd.lv,Nds.lv_l]at l4;rw[Nd.ok]at hok;obtain⟨_,hn,_,hc⟩:=hok;rw[Nds.names_l]at hn;rw[Nds.ok_l]at hc;rw[Nd.rep]at hr;obtain⟨ps,p1,p2,p3⟩:=hr;obtain⟨zs,z1,z2,z3⟩:=rf p1 p3;have h64:(4:Nat) ^ (m+1)<=64:=Nat.pow_le_pow_right (i:=m+1) (j:=3) (by omega) hm;have q1:=h1 h (L.map Th.o) i (ps.map dh) (by rw[gm0,p2];rfl);rw[z1,List.map_map]at q1;rw[Nds.lv_l];rw[z2]at hn hc l4 ⊢;simp only[ans_e,aF];simp[e1,q1];refine nM (F:=λs:List D×Sl×Sl×Sl=>[.lent (.vlt c h (L.map Th.o)),.lent (.int i),.lent (.str P),.own (.list s.1),s.2.1,s.2.2.1,s.2.2.2]) (s:=([],.no,.no,.no)) (J:=λr s=>∃q,zs=q++r/\s.1=(lvL (q.map λz=>(z.1,z.2.2))).map (gN L P)) (P:=λo=>lj (nxS Z Γ o _)=_) (λs j=>?_) (λp q s j=>?_) ⟨[],rfl,rfl⟩
 .obtain⟨q,e1,e2⟩:=j
  rw[List.append_nil]at e1;simp[e2,<-e1]
 .obtain⟨q',f1,f2⟩:=j
  obtain⟨x,k,n⟩:=p;have nx:=hn x (by rw[f1];simp);have nok:=hc (x,n) (by rw[f1];simp);have nr:n.rep L k:=z3 (x,k,n) (by rw[f1];simp);have hl:(lvL (q'.map λz=>(z.1,z.2.2))).length+n.lv.length<=64:=by
   rw[f1]at l4;simp only[lvL,List.map_append,mk0,List.flatMap_append,List.flatMap_cons,la0,lm0]at l4 ⊢;omega
  have jl:=pP (P:=P) nx;have l1:s.1.length=(lvL (q'.map λz=>(z.1,z.2.2))).length:=by rw[f2,lm0]
  have sb:s.1.length<big:=Nat.lt_of_le_of_lt (show _<=64 by omega) (by decide);have qj:=h3 P x (by omega) nx;refine⟨(s.1++n.lv.map (gN L (jn P x)),.dat (.str x),.dat (.int k),.dat (.str (jn P x))),⟨q'++[(x,k,n)],by rw[f1];simp,?_⟩,?_⟩
  .simp[f2,lvL,Function.comp_def,exP]
  .cases n with
   |blob t=>
    rw[Nd.rep]at nr;have qk:=h2 h (L.map Th.o) k jY [.str t] (by rw[gm0,nr];rfl);simp[dh,e3,qj,e2,qk,sb,Nd.lv,exP,HN nd nr]
   |tree fs=>
    cases m with
    |zero=>exact nok.elim
    |succ m=>
     obtain⟨r4,e4,h4⟩:=ht (by omega);have q:=h4 h L k (jn P x) fs nd nok nr (by omega);rw[Nd.rep]at nr;obtain⟨ps',_,nr,_⟩:=nr;have qk:=h2 h (L.map Th.o) k dc [.tuple (ps'.map dh)] (by rw[gm0,nr];rfl);have lb:s.1.length+fs.lv.length<=big:=cC (by rw[Nd.lv]at hl;omega);simp[dh,e3,qj,e2,qk,Nd.lv,e4,q,lb]
abbrev nN(Z:Fs):Prop:=Has Z "names_of" [true] λrun=>run [.str ⟨#[]⟩]=some (.list [])
def pR:ans Z Γ cX [.str ⟨#[]⟩]=some (.list []):=by
 simp only[ans_e,cX];simp
abbrev xE(c:Nat)(run:List D->Option D):Prop:=∀(h:Nat)(L:List Th)(i:Nat)(es:Nds),L.Nodup->(Nd.tree es).ok 4 3->(Nd.tree es).rep L i->run [.vlt c h (L.map Th.o),.int i,.str ⟨#[]⟩]=some (.list (es.lv.map (gN L ⟨#[]⟩)))
abbrev xF(Z:Fs)(c:Nat):Prop:=Has Z "files" [true,true,true] (xE c)
def tP(hn:nN Z)(hb:xD Z c 3):xE c (ans Z Γ gW):=by
 intro h L i es nd hok hr;obtain⟨r1,e1,h1⟩:=hn;obtain⟨r2,e2,h2⟩:=hb;have q:=h2 h L i ⟨#[]⟩ es nd hok hr (by decide);simp only[ans_e,gW];simp[e1,h1,e2,q]
abbrev Bz(Z:Fs)(c:Nat):Prop:=Has Z "text_of" [true,true] λrun=>∀(h:Nat)(L:List Th)(k:Nat)(t:Str),L[k]?=some (.blob t)->run [.vlt c h (L.map Th.o),.int k]=some (.str t)
def xG(hc:iU Z c)(h:Nat)(L:List Th)(k:Nat)(t:Str)(e:L[k]?=some (.blob t)):ans Z Γ (dU c) [.vlt c h (L.map Th.o),.int k]=some (.str t):=by
 obtain⟨r1,e1,h1⟩:=hc;have q:=h1 h (L.map Th.o) k jY (.str t) (by rw[gm0,e];rfl);simp only[ans_e,dU];simp[e1,q]
theorem rh :∀{a b r s:List Nat},c∉a->c∉b->a++c::r=b++c::s->a=b/\r=s
 |[],[],r,s,_,_,h=>by injection h with _ h;exact⟨rfl,h⟩
 |[],y::b,r,s,_,hb,h=>by injection h with h _;exact absurd (by rw[h];exact ms0) hb
 |x::a,[],r,s,ha,_,h=>by injection h with h _;exact absurd (by rw[h];exact ms0) ha
 |x::a,y::b,r,s,ha,hb,h=>by
  injection h with h1 h2
  obtain⟨e1,e2⟩:=rh (λz=>ha (mc0 _ z)) (λz=>hb (mc0 _ z)) h2;exact⟨by rw[h1,e1],e2⟩
def lx{y:Str}{r:List Str}:(Str.join ⟨#[c]⟩ (x::y::r)).cps.toList=x.cps.toList++c::(Str.join ⟨#[c]⟩ (y::r)).cps.toList:=by
 show (x++⟨#[c]⟩++Str.join ⟨#[c]⟩ (y::r)).cps.toList=_;rw[toL_append,toL_append];show x.cps.toList++[c]++_=_;simp
theorem nO :∀{ps qs:List Str},ps≠[]->qs≠[]->(∀p∈ps,c∉p.cps.toList)->(∀q∈qs,c∉q.cps.toList)->Str.join ⟨#[c]⟩ ps=Str.join ⟨#[c]⟩ qs->ps=qs
 |[],_,h,_,_,_,_=>absurd rfl h
 |_,[],_,h,_,_,_=>absurd rfl h
 |[x],[y],_,_,_,_,h=>by rw[show x=y from h]
 |[x],y::z::r,_,_,hx,_,h=>by
  have h:=congrArg (·.cps.toList) h;simp only[lx]at h;exact absurd (show c∈x.cps.toList by rw[show x.cps.toList=_ from h];simp) (hx x ms0)
 |x::z::r,[y],_,_,_,hy,h=>by
  have h:=congrArg (·.cps.toList) h;simp only[lx]at h;exact absurd (show c∈y.cps.toList by rw[show y.cps.toList=_ from h.symm];simp) (hy y ms0)
 |x::z::r,y::u::s,_,_,hx,hy,h=>by
  have h:=congrArg (·.cps.toList) h;simp only[lx]at h;obtain⟨e1,e2⟩:=rh (hx x ms0) (hy y ms0) h;have:=nO (ps:=z::r) (qs:=u::s) (by simp) (by simp) (λp hp=>hx p (mc0 _ hp)) (λq hq=>hy q (mc0 _ hq)) (M1.ext e2);rw[M1.ext e1,this]
def tQ(h:aA x=true):47∉x.cps.toList:=λz=>by
 unfold aA at h;simp only[be0]at h;have:=od0 (List.all_eq_true.mp h.2 47 z);exact absurd this (by decide)
theorem rj{k:Sum Int Str}{v:α}:∀{l:List (Sum Int Str×α)},k∉l.map (·.1)->put l k v=l++[(k,v)]
 |[],_=>rfl
 |(j,w)::r,h=>by
  have h1:j≠k:=λe=>h (by simp[e])
  rw[put,if_neg h1,rj λz=>h (by simp[z])];rfl
theorem eN :∀{xs acc:List (Sum Int Str×α)},((acc++xs).map (·.1)).Nodup->putAll acc xs=acc++xs
 |[],acc,_=>by rw[putAll,List.append_nil]
 |(k,v)::r,acc,h=>by
  have e:acc++(k,v)::r=(acc++[(k,v)])++r:=by simp
  have hk:k∉acc.map (·.1):=λz=>by
   rw[List.map_append,mk0]at h;exact (List.nodup_append.mp h).2.2 k z k ms0 rfl
  rw[putAll,rj hk,eN (by rw[<-e];exact h),e]
noncomputable abbrev sla:Str:=⟨#[47]⟩
noncomputable def pth(ns:List Str):Str:=exP ⟨#[]⟩ ns
def Pn(ns:List Str):Prop:=ns≠[]/\ns.length<=3/\∀x∈ns,aA x=true
def Fb(x y z:Str):x++y++z=x++(y++z):=M1.ext (by simp[toL_append])
def tR(P x:Str)(r:List Str):Str.join sla ((P++sla++x)::r)=Str.join sla (P::x::r):=by
 cases r with
 |nil=>rfl
 |cons y r=>
  show P++sla++x++sla++Str.join sla (y::r)=P++sla++(x++sla++Str.join sla (y::r));simp only[Fb]
theorem nP:∀{ns:List Str}{P:Str},P≠⟨#[]⟩->(∀x∈ns,aA x=true)->exP P ns=Str.join sla (P::ns)
 |[],P,_,_=>rfl
 |x::r,P,h,hn=>by
  have hx:=hn x ms0;rw[exP,nP (xB hx) λy hy=>hn y (mc0 _ hy),show jn P x=P++sla++x from if_neg h,tR]
def xH(h:Pn ns):pth ns=Str.join sla ns:=by
 obtain⟨h1,_,h3⟩:=h;cases ns with
 |nil=>exact absurd rfl h1
 |cons x r=>
  have hx:=h3 x ms0;rw[pth,exP,nP (xB hx) λy hy=>h3 y (mc0 _ hy),show jn ⟨#[]⟩ x=x from if_pos rfl]
def dY(h:Pn ns):Txt.split (pth ns) sla=ns:=by
 rw[xH h];exact nO (ng _ 47) h.1 (StrLaws.split_free _ 47) (λq hq=>tQ (h.2.2 q hq)) (StrLaws.join_split _ _)
theorem rk:∀{ns:List Str}{P:Str},(∀x∈ns,aA x=true)->(exP P ns).length<=P.length+13*ns.length
 |[],P,_=>by rw[exP];omega
 |x::r,P,h=>by
  have a:=rk (P:=jn P x) λy hy=>h y (mc0 _ hy)
  have b:=pP (P:=P) (h x ms0);rw[exP,lc0];omega
def BA(h:Pn ns):(pth ns).length+2<=big:=cC (by have:=rk (P:=⟨#[]⟩) h.2.2;have:=h.2.1;show (exP _ _).length+2<=_;have:(⟨#[]⟩:Str).length=0:=rfl;omega)
def Fc(h:Pn ns):meD .split (.str (pth ns)) [.str ⟨#[47]⟩]=some (.list (ns.map .str)):=by
 rw[lY,if_pos ⟨rfl,BA h⟩,show Txt.split (pth ns) ⟨#[47]⟩=ns from dY h]
def pS(h:aA x=true):cc x=true:=by
 unfold aA at h;simp only[be0]at h;refine List.all_eq_true.mpr λc hc=>dt0 ?_
 exact (show ∀c∈signs65,c<0x110000 by decide) c (od0 (List.all_eq_true.mp h.2 c hc))
theorem fW:∀{ns:List Str}{P:Str},cc P=true->(∀x∈ns,aA x=true)->cc (exP P ns)=true
 |[],P,h,_=>h
 |x::r,P,h,hn=>by
  have hx:=pS (hn x ms0);rw[exP];refine fW (ns:=r) ?_ λy hy=>hn y (mc0 _ hy)
  unfold jn;split
  .exact hx
  .unfold cc at h hx ⊢
   rw[toL_append,toL_append,List.all_append,List.all_append,h,hx];rfl
def ly{a b:List Str}(ha:Pn a)(hb:Pn b)(h:pth a=pth b):a=b:=by rw[<-dY ha,<-dY hb,h]
def Lf(a:List (List Str×Str)):Prop:=(a.map (·.1)).Nodup/\∀q∈a,Pn q.1
noncomputable def lk(a:List (List Str×Str))(ns:List Str):Option Str:=(a.find? λq=>q.1=ns).map (·.2)
def lk_none{a:List (List Str×Str)}:lk a ns=none↔ns∉a.map (·.1):=by
 unfold lk;rw[Option.map_eq_none_iff,List.find?_eq_none];exact⟨λh m=>by obtain⟨q,hq,e⟩:=mm0 m;exact h q hq (by simpa using e),λh q hq e=>h (List.mem_map.mpr ⟨q,hq,by simpa using e⟩)⟩
def lz{a:List (List Str×Str)}(h:lk a ns=some t):(ns,t)∈a:=by
 unfold lk at h;obtain⟨q,h1,h2⟩:=mx0 h;have e:=List.find?_some h1;have m:=List.mem_of_find?_eq_some h1;simp at e;obtain⟨x,y⟩:=q;cases e;cases h2;exact m
noncomputable abbrev kvF(f:Str->D)(a:List (List Str×Str)):List (Sum Int Str×D):=a.map λq=>(.inr (pth q.1),f q.2)
section
variable {f:Str->D}{a b:List (List Str×Str)}
def fy(a:List (List Str×Str)):pairsOf (a.map λq=>.tuple [.str (pth q.1),f q.2])=some (kvF f a):=by
 induction a with
 |nil=>rfl
 |cons q r ih=>rw[mk0,pairsOf,ih];rfl
def xI(h:Lf a):((kvF f a).map (·.1)).Nodup:=by
 rw[List.map_map];have h1:=List.pairwise_map.mp h.1;refine List.pairwise_map.mpr ?_;refine List.Pairwise.imp_of_mem (λ{x y} hx hy n e=>?_) h1;have e:(Sum.inr (pth x.1):Sum Int Str)=.inr (pth y.1):=e;injection e with e
 exact n (ly (h.2 x hx) (h.2 y hy) e)
def lA(h:Lf a):putAll [] (kvF f a)=kvF f a:=eN (acc:=[]) (by simpa using xI (f:=f) h)
def lB(h:Lf a):bN (kvF f a)=some (a.map λq=>pth q.1):=by
 have h2:=h.2;clear h
 induction a with
 |nil=>rfl
 |cons q r ih=>
  have ok:cc (pth q.1)=true:=fW rfl (h2 q ms0).2.2;show (if cc (pth q.1)then (bN (kvF f r)).map (pth q.1::·)else none)=_;rw[if_pos ok,ih λx hx=>h2 x (mc0 _ hx)];rfl
def dZ(h:Lf a)(hn:Pn ns):look (kvF f a) (.inr (pth ns))=(lk a ns).map f:=by
 have h2:=h.2;clear h
 induction a with
 |nil=>rfl
 |cons q r ih=>
  have ih:=ih λx hx=>h2 x (mc0 _ hx)
  show (if (Sum.inr (pth q.1):Sum Int Str)=.inr (pth ns)then some (f q.2)else look (kvF f r) (.inr (pth ns)))=_
  by_cases e:q.1=ns
  .rw[if_pos (by rw[e])];simp[lk,e]
  .rw[if_neg λz=>e (ly (h2 q ms0) hn (Sum.inr.inj z)),ih]
   simp[lk,e]
noncomputable def Uk(a b:List (List Str×Str)):List (List Str):=a.map (·.1)++(b.map (·.1)).filter λns=>ns∉a.map (·.1)
def Uk_mem :ns∈Uk a b↔ns∈a.map (·.1)\/ns∈b.map (·.1):=by
 unfold Uk;rw[List.mem_append,List.mem_filter]
 by_cases h:ns∈a.map (·.1)<;>simp[h]
def cD(ha:Lf a)(hb:Lf b):(Uk a b).Nodup:=by
 refine List.nodup_append.mpr ⟨ha.1,hb.1.filter _,λx hx y hy e=>?_⟩;rw[List.mem_filter]at hy;simp at hy;exact absurd (e▸hx) (by simpa using hy.2)
def rn(ha:Lf a)(hb:Lf b):∀ns∈Uk a b,Pn ns:=λns h=>by
 rcases Uk_mem.mp h with h|h
 .obtain⟨q,hq,rfl⟩:=mm0 h;exact ha.2 q hq
 .obtain⟨q,hq,rfl⟩:=mm0 h;exact hb.2 q hq
noncomputable abbrev ip(ns:List Str):Sum Int Str:=.inr (pth ns)
theorem nQ{v:D}(hn:Pn ns):∀{acc:List (Sum Int Str×D)}{l:List (List Str)},acc.map (·.1)=l.map ip->(∀x∈l,Pn x)->(put acc (ip ns) v).map (·.1)=(if ns∈l then l else l++[ns]).map ip
 |[],[],_,_=>rfl
 |[],_::_,h,_=>by cases h
 |_::_,[],h,_=>by cases h
 |(k,y)::r,x::l,h,hp=>by
  injection h with h1 h2
  have h1:k=ip x:=h1;subst h1;rw[put]
  by_cases e:x=ns
  .rw[if_pos (by rw[e]),if_pos (by rw[e];exact ms0),mk0,mk0,h2]
  .have e':ns≠x:=λz=>e z.symm
   rw[if_neg λz=>e (ly (hp x ms0) hn (Sum.inr.inj z)),mk0,nQ hn h2 λz hz=>hp z (mc0 _ hz)]
   by_cases m:ns∈l
   .rw[if_pos m,if_pos (mc0 _ m),mk0]
   .rw[if_neg m,if_neg (by simp[e',m]),List.cons_append,mk0]
theorem gz:∀{xs:List (List Str×Str)}{acc:List (Sum Int Str×D)}{l:List (List Str)},acc.map (·.1)=l.map ip->(∀x∈l,Pn x)->Lf xs->(putAll acc (kvF f xs)).map (·.1)=(l++(xs.map (·.1)).filter λns=>ns∉l).map ip
 |[],acc,l,h,_,_=>by simpa [putAll]using h
 |q::r,acc,l,h,hp,hx=>by
  obtain⟨h1,h2⟩:=List.nodup_cons.mp hx.1;have hq:=hx.2 q ms0;have k:=nQ (v:=f q.2) hq h hp;show (putAll (put acc (ip q.1) (f q.2)) (kvF f r)).map (·.1)=_;rw[gz k (λx m=>?_) ⟨h2,λx m=>hx.2 x (mc0 _ m)⟩]
  .by_cases m:q.1∈l
   .simp[m]
   .rw[if_neg m,mk0,List.filter_cons_of_pos (by simpa using m),List.append_assoc]
    congr 2
    show q.1::_=q.1::_
    congr 1
    refine List.filter_congr λx hx=>?_
    have:x≠q.1:=λe=>h1 (show q.1∈_ by rw[<-e];exact hx)
    simp[this]
  .split at m
   .exact hp x m
   .rcases ma0 m with m|m
    .exact hp x m
    .rw[List.mem_singleton.mp m];exact hq
theorem nR:∀{kvs:List (Sum Int Str×D)}{ss:List Str},kvs.map (·.1)=ss.map .inr->(∀x∈ss,cc x=true)->bN kvs=some ss
 |[],[],_,_=>rfl
 |[],_::_,h,_=>by cases h
 |_::_,[],h,_=>by cases h
 |(k,v)::r,x::ss,h,ok=>by
  injection h with h1 h2
  have h1:k=.inr x:=h1;subst h1;show (if cc x then (bN r).map (x::·)else none)=_;rw[if_pos (ok x ms0),nR h2 λy hy=>ok y (mc0 _ hy)];rfl
def xJ(ha:Lf a)(hb:Lf b):bN (putAll (kvF f a) (kvF f b))=some ((Uk a b).map pth):=by
 refine nR ?_ λx hx=>?_
 .rw[gz (l:=a.map (·.1)) (by simp[Function.comp_def]) (λx m=>by obtain⟨q,hq,rfl⟩:=mm0 m;exact ha.2 q hq) hb,List.map_map];rfl
 .obtain⟨ns,hn,rfl⟩:=mm0 hx
  exact fW rfl (rn ha hb ns hn).2.2
end
noncomputable def AC(x:List Str):List (List Str)->List (List Str)
 |[]=>[x]
 |y::r=>if ltL x y then x::y::r else y::AC x r
noncomputable def srtL:List (List Str)->List (List Str)
 |[]=>[]
 |x::r=>AC x (srtL r)
theorem lC{g:List Str->List Str×D}(h:∀x,(g x).1=x):∀l,hW (l.map g)=(srtL l).map g
 |[]=>rfl
 |x::l=>by
  have ins:∀l,jd (g x) (l.map g)=(AC x l).map g:=by
   intro l
   induction l with
   |nil=>rfl
   |cons y r ih=>
    rw[mk0,jd,AC,h,h,ih];split<;>rfl
  rw[mk0,hW,lC h l,ins];rfl
def aV(l:List (List Str)):(srtL l).Perm l:=by
 have:=(dJ (l.map λx=>(x,D.none))).map (·.1);rw[lC (λa=>rfl)]at this
 simpa [Function.comp_def]using this
def ef(l:List (List Str)):(srtL l).Pairwise λa b=>ltL b a=false:=by
 have:=dM (l.map λx=>(x,D.none));rw[lC (λc=>rfl)]at this;exact List.pairwise_map.mp this
def AD{l l':List (List Str)}(h:l.Perm l'):srtL l=srtL l':=
 (((aV l).trans h).trans (aV l').symm).eq_of_pairwise (le:=λa b=>ltL b a=false) (λa b c c h1 h2=>iH h2 h1) (ef l) (ef l')
def nS(p:List Str->Bool)(l:List (List Str)):srtL (l.filter p)=(srtL l).filter p:=
 (((aV _).trans ((aV l).filter p).symm)).eq_of_pairwise (le:=λa b=>ltL b a=false) (λa b c c h1 h2=>iH h2 h1) (ef _) ((ef l).filter p)
theorem fX{f:D->Option D}{x:α->D}{k:α->List Str}:∀l:List α,(∀a∈l,f (x a)=some (.list ((k a).map .str)))->gr f (l.map x)=some (l.map λa=>(k a,x a))
 |[],_=>rfl
 |a::l,h=>by
  rw[mk0,gr,h a ms0,bs0,show Bo (.list ((k a).map .str))=some (k a)from aK _,bs0,fX l λy hy=>h y (mc0 _ hy)];rfl
def xK{g:List Str->D}{l:List (List Str)}(h:l.length<64)(n:l.Nodup):gC (l.map λns=>(ns,g ns))=some (.list ((srtL l).map g)):=by
 unfold gC;rw[if_pos ⟨by simpa using h,by simpa [Function.comp_def]using n⟩,lC (g:=λns=>(ns,g ns)) λa=>rfl];simp[Function.comp_def]
end TX
namespace L2.Z
open PySem SI
section
variable {J:FsM}{U U':Ust}{d:D}{x:Nat}{ds:List D}
@[simp ↓ high] def evM_sl{a b:E}:evM Z J Γ c Y U (.srtl a b)=(ev Z Γ .read (vM c U Y) a).bind λd=>(dA d).bind λds=>(gr (λx=>ev Z Γ .val [.dat x] b) ds).bind λzs=>(gC zs).map λe=>(.ok e,U):=(rfl)
@[simp ↓ high] def evM_sf{a:E}{f:Str}:evM Z J Γ c Y U (.srtf a f)=(ev Z Γ .read (vM c U Y) a).bind λd=>(dA d).bind λds=>(Z f).bind λL=>if L.lent.length=1 then (gr (λx=>L.run [x]) ds).bind λzs=>(gC zs).map λe=>(.ok e,U)else none:=(rfl)
@[simp ↓ high] def evM_cm{o:Cop}{a:M}{b:E}:evM Z J Γ c Y U (.cmp o a b)=(evM Z J Γ c Y U a).bind λz=>goR z λd U'=>(ev Z Γ .read (vM c U' Y) b).bind λe=>(cb o d e).map λt=>(.ok (.bool t),U'):=(rfl)
@[simp] def KR{l:List (Sum Int Str×D)}:vE c U (.dat (.fdc l))=.dat (.fdc l):=rfl
@[simp] def KS:vE c U (.own d)=.lent d:=rfl
@[simp] def HQ:dA (.list ds)=some ds:=rfl
@[simp] def HR{l:List (Sum Int Str×D)}:dA (.dict l)=(bN l).map λss=>ss.map .str:=rfl
@[simp] def KU:eL .no=true:=rfl
@[simp] def KW:eL (.own d)=true:=rfl
end
end L2.Z
namespace TX
open PySem SI M1 L2.Z
variable {J:FsM}{w:Nat}
mutual
theorem Nd.lf:∀(n:Nd)(m:Nat),n.ok w m->(n.lv.map (·.1)).Nodup/\∀q∈n.lv,q.1.length<=m/\∀x∈q.1,aA x=true
 |.blob t,m,_=>by rw[Nd.lv];exact⟨by simp,by simp⟩
 |.tree es,0,h=>h.elim
 |.tree es,m+1,h=>by
  rw[Nd.ok]at h;obtain⟨a,b⟩:=Nds.lf es m h.1 h.2.1 h.2.2.2;exact⟨a,λq hq=>(b q hq).1⟩
theorem Nds.lf:∀(es:Nds)(m:Nat),cj es.names->(∀x∈es.names,aA x=true)->es.ok w m->(es.lv.map (·.1)).Nodup/\∀q∈es.lv,(q.1.length<=m+1/\∀x∈q.1,aA x=true)/\∃x r,q.1=x::r/\x∈es.names
 |.nil,m,_,_,_=>⟨by rw[Nds.lv];simp,λq h=>by rw[Nds.lv]at h;cases h⟩
 |.cons x n r,m,h1,h2,h3=>by
  rw[Nds.ok]at h3;rw[Nds.names]at h1 h2;obtain⟨a1,a2⟩:=List.pairwise_cons.mp h1;obtain⟨b1,b2⟩:=Nd.lf n m h3.1;obtain⟨c1,c2⟩:=Nds.lf r m a2 (λy hy=>h2 y (mc0 _ hy)) h3.2;rw[Nds.lv,Nds.names];refine⟨?_,λq hq=>?_⟩
  .rw[List.map_append,List.map_map]
   refine List.nodup_append.mpr ⟨?_,c1,λu hu v hv e=>?_⟩
   .have:=List.pairwise_map.mp b1
    exact List.pairwise_map.mpr (this.imp λn e=>n (by injection e))
   .obtain⟨q,_,rfl⟩:=mm0 hu
    obtain⟨q',hq',rfl⟩:=mm0 hv;obtain⟨_,y,s,e',hy⟩:=c2 q' hq';have e:x::q.1=q'.1:=e;rw[e']at e;injection e with e _
    have:=a1 y hy;rw[e,bg]at this;cases this
  .rcases ma0 hq with hq|hq
   .obtain⟨p,hp,rfl⟩:=mm0 hq
    obtain⟨d1,d2⟩:=b2 p hp;refine⟨⟨Nat.succ_le_succ d1,λy hy=>?_⟩,x,p.1,rfl,ms0⟩;rcases mq0 hy with rfl|hy
    .exact h2 _ ms0
    .exact d2 y hy
   .obtain⟨d1,y,s,d2,d3⟩:=c2 q hq
    exact⟨d1,y,s,d2,mc0 _ d3⟩
end
def rp{es:Nds}(h:(Nd.tree es).ok w 3):Lf es.lv:=by
 rw[Nd.ok]at h;obtain⟨a,b⟩:=Nds.lf es 2 h.1 h.2.1 h.2.2.2;exact⟨a,λq hq=>⟨λe=>(by obtain⟨_,x,r,e',_⟩:=b q hq;rw[e]at e';cases e'),(b q hq).1⟩⟩
mutual
theorem Nd.st{L:List Th}:∀(n:Nd)(i:Nat),n.rep L i->∀q∈n.lv,Th.blob q.2∈L
 |.blob t,i,h,q,hq=>by
  rw[Nd.lv]at hq;rw[Nd.rep]at h;rw[List.mem_singleton.mp hq];exact mg0 h
 |.tree es,i,h,q,hq=>by
  rw[Nd.rep]at h;obtain⟨ps,_,_,h⟩:=h;exact Nds.st es _ h q hq
theorem Nds.st{L:List Th}:∀(es:Nds)(is:List Int),es.rep L is->∀q∈es.lv,Th.blob q.2∈L
 |.nil,_,_,q,hq=>by rw[Nds.lv]at hq;cases hq
 |.cons x n r,[],h,_,_=>by rw[Nds.rep]at h;exact h.elim;all_goals simp
 |.cons x n r,i::is,h,q,hq=>by
  rw[Nds.rep]at h;obtain⟨⟨k,rfl,a⟩,b⟩:=h;rw[Nds.lv]at hq;rcases ma0 hq with hq|hq
  .obtain⟨p,hp,rfl⟩:=mm0 hq;exact Nd.st n k a p hp
  .exact Nds.st r is b q hq
end
noncomputable def oN(L:List Th):Option Str->D
 |none=>.none
 |some t=>.int (nb L t:Nat)
noncomputable def oS:Option Str->D
 |none=>.none
 |some t=>.str t
noncomputable abbrev eA(f:Option Str->D)(a b:List (List Str×Str))(ns:List Str):D:=.tuple [.str (pth ns),f (lk a ns),f (lk b ns)]
noncomputable abbrev neq(a b:List (List Str×Str))(ns:List Str):Bool:=decide (lk a ns≠lk b ns)
noncomputable def dif(a b:List (List Str×Str)):List (List Str):=(srtL (Uk a b)).filter (neq a b)
def xM{L:List Th}(h:Th.blob t∈L):L[nb L t]?=some (.blob t):=by
 have hl:=List.idxOf_lt_length_of_mem h;rw[nb,ge0 hl,List.getElem_idxOf hl]
def Fd{L:List Th}{a b:List (List Str×Str)}(ha:∀q∈a,Th.blob q.2∈L)(hb:∀q∈b,Th.blob q.2∈L)(ns:List Str):eqD (oN L (lk a ns)) (oN L (lk b ns))=some (decide (lk a ns=lk b ns)):=by
 have ok:∀o,okS 20 (oN L o)=true:=λo=>by cases o<;>rfl
 rw[lX (ok _) (ok _)]
 congr 1
 refine decide_eq_decide.mpr ⟨λe=>?_,λe=>by rw[e]⟩;cases h1:lk a ns with
 |none=>rw[h1]at e;cases h2:lk b ns with
  |none=>rfl
  |some t=>rw[h2]at e;cases e
 |some t=>rw[h1]at e;cases h2:lk b ns with
  |none=>rw[h2]at e;cases e
  |some u=>
   rw[h2]at e;have e:nb L t=nb L u:=Int.ofNat.inj (D.int.inj e);have x:=xM (ha _ (lz h1));rw[e,show L[nb L u]?=some (.blob u)from xM (hb _ (lz h2))]at x;cases x;rfl
def AE{a b:List (List Str×Str)}(ha:Lf a)(hb:Lf b):∀ns∈srtL (Uk a b),Pn ns:=λns h=>rn ha hb ns ((aV _).mem_iff.mp h)
abbrev SDiff(run:Ust->List D->Option (Ust×R)):Prop:=∀(L:List Th)(i j:Nat)(es fs:Nds),L.Nodup->(Nd.tree es).ok 4 3->(Nd.tree fs).ok 4 3->(Nd.tree es).rep L i->(Nd.tree fs).rep L j->(Uk es.lv fs.lv).length<64->run (vt L) [.hdl 0,.int i,.int j]=some (vt L,.ok (.list ((dif es.lv fs.lv).map (eA (oN L) es.lv fs.lv))))
abbrev xN(J:FsM):Prop:=xh J "differences" [false,false,false] SDiff
def xO(hf:xF Z c):SDiff (nF Z J Γ c aO):=by
 intro L i j es fs nd o1 o2 p1 p2 hz;obtain⟨r1,e1,h1⟩:=hf;have q1:=h1 0 L i es nd o1 p1;have q2:=h1 0 L j fs nd o2 p2;have f1:=rp o1;have f2:=rp o2;have s1:=Nd.st (.tree es) i p1;have s2:=Nd.st (.tree fs) j p2;have l1:=Nd.lv4 o1;have l2:=Nd.lv4 o2;rw[Nd.lv]at l1 l2 s1 s2;generalize es.lv=a at *;generalize fs.lv=b at *;have k1:pairsOf (a.map (gN L ⟨#[]⟩))=some (kvF (λt=>.int (nb L t:Nat)) a):=fy (f:=λt=>.int (nb L t:Nat)) a;have k2:pairsOf (b.map (gN L ⟨#[]⟩))=some (kvF (λt=>.int (nb L t:Nat)) b):=fy (f:=λt=>.int (nb L t:Nat)) b;have lb:a.length+b.length<=1000:=by have:(4:Nat) ^ 3=64:=rfl;omega
 have ub:(srtL (Uk a b)).length<=big:=cC (by rw[(aV _).length_eq];omega);simp only[iV,aO];simp[e1,q1,q2,k1,k2,lA f1,lA f2,lb,xJ f1 f2];rw[show List.map (D.str ∘ pth) (Uk a b)=(Uk a b).map λns=>D.str (pth ns)from rfl,fX (k:=id) (Uk a b) λns hn=>by simpa using Fc (rn f1 f2 ns hn)];simp;rw[xK (g:=λns=>D.str (pth ns)) hz (cD f1 f2)];simp[ub];rw[aw (g:=eA (oN L) a b) λns hn=>by
  have hp:=AE f1 f2 ns hn;simp[aU,dZ f1 hp,dZ f2 hp];constructor
  .cases lk a ns<;>rfl
  .cases lk b ns<;>rfl]
 simp[ub];rw[bA (g:=eA (oN L) a b) (p:=neq a b) λns hn=>by
  simp[aU,Fd s1 s2]
  by_cases e:lk a ns=lk b ns<;>simp[e]]
 simp[dif]
variable {J:FsM}{w:Nat}
abbrev Fe(Z:Fs):Prop:=Has Z "_law_names" [true] λrun=>∀ns x y,Pn ns->run [.tuple [.str (pth ns),x,y]]=some (.list (ns.map .str))
def AF(ns:List Str)(x y:D)(h:Pn ns):ans Z Γ dX [.tuple [.str (pth ns),x,y]]=some (.list (ns.map .str)):=by
 simp only[ans_e,dX];simp[BA h,show (⟨#[47]⟩:Str).length=1 from rfl,show Txt.split (pth ns) ⟨#[47]⟩=ns from dY h]
abbrev BB(c:Nat)(run:List D->Option D):Prop:=∀(h:Nat)(L:List Th)(a b:List (List Str×Str)),(∀q∈a,Th.blob q.2∈L)->(∀q∈b,Th.blob q.2∈L)->∀l:List (List Str),l.length<64->run [.vlt c h (L.map Th.o),.list (l.map (eA (oN L) a b))]=some (.list (l.map (eA oS a b)))
abbrev xP(Z:Fs)(c:Nat):Prop:=Has Z "_law_told" [true,true] (BB c)
def xQ(ht:Bz Z c):BB c (ans Z Γ fx):=by
 intro h L a b ha hb l hl;obtain⟨r1,e1,h1⟩:=ht;simp only[ans_e,fx];simp;refine nM (inj:=eA (oN L) a b) (F:=λs:List D×Sl×Sl×Sl×Sl=>[.lent (.vlt c h (L.map Th.o)),.lent (.list (l.map (eA (oN L) a b))),.own (.list s.1),s.2.1,s.2.2.1,s.2.2.2.1,s.2.2.2.2]) (s:=([],.no,.no,.no,.no)) (J:=λr s=>∃q,l=q++r/\s.1=q.map (eA oS a b)) (P:=λo=>lj (nxS Z Γ o _)=_) (λs j=>?_) (λns q s j=>?_) ⟨[],rfl,rfl⟩
 .obtain⟨q,e1,e2⟩:=j
  rw[List.append_nil]at e1;simp[e2,<-e1]
 .obtain⟨q',f1,f2⟩:=j
  have sl:s.1.length<=l.length:=by rw[f2,f1];simp
  have sb:s.1.length<big:=Nat.lt_of_le_of_lt (show _<=64 by omega) (by decide);refine⟨(s.1++[eA oS a b ns],.dat (.str (pth ns)),.dat (oN L (lk a ns)),.dat (oN L (lk b ns)),.dat (.list [oS (lk a ns),oS (lk b ns)])),⟨q'++[ns],by rw[f1];simp,by rw[f2];simp⟩,?_⟩;simp[show 2<=big by decide];generalize hf:cpF Z Γ _ _ _ _ _ _=f;have cp:∀a:List (List Str×Str),(∀q∈a,Th.blob q.2∈L)->f (oN L (lk a ns))=some (some (oS (lk a ns))):=λa ha=>by
   rw[<-hf];cases q:lk a ns with
   |none=>simp[aU,oN,oS]
   |some t=>
    have:=h1 h L _ t (xM (ha _ (lz q)));simp[aU,oN,oS,e1,this]
  rw[show aB f [oN L (lk a ns),oN L (lk b ns)]=some [oS (lk a ns),oS (lk b ns)] by simp[aB,cp a ha,cp b hb]];simp[sb]
def Fh{l:List α}{z:α}:cut (l++[z]) none (some (-1))=l:=by
 unfold cut sIx;simp;rw[show (-1+((l.length:Int)+1)).toNat=l.length by omega];simp
abbrev bY(k m:Nat)(xs:List Str):Prop:=xs.length<=k/\∀x∈xs,x.length<=m
abbrev pT(Z:Fs):Prop:=Has Z "_law_lines" [true] λrun=>∀x:Str,x.length<=30->∃xs,bY 31 31 xs/\run [.str x]=some (.list (xs.map .str))
def tS(x:Str)(h:x.length<=30):∃xs,bY 31 31 xs/\ans Z Γ dW [.str x]=some (.list (xs.map .str)):=by
 have s1:=ny x;have s2:=split_le x;have s3:=nu x;have hb:x.length+2<=big:=cC (by omega);simp only[ans_e,dW];simp[hb,show (⟨#[10]⟩:Str).length=1 from rfl,show (⟨#[10]⟩:Str)=nl from rfl];generalize Txt.split x nl=ps at *;obtain⟨r,t,rfl⟩:=List.eq_nil_or_concat ps|>.resolve_left s3
 rw[List.concat_eq_append]at *;have n1:nl.length=1:=rfl;simp at s1;have pb:(r++[t]).length<=big:=cC (by simp;omega);simp[n1,show r.length+1<=big by simpa using pb];have cm:∀p∈r++[t],p.length+nl.length<=big:=λp hp=>cC (by have:=s2 p hp;rw[n1];omega)
 rw[show List.map D.str r++[D.str t]=(r++[t]).map .str by simp,aw (g:=λp=>D.str (p++nl)) λp hp=>by have:=cm p hp;simp[aU,this]];have rs:bY 30 31 (r.map (·++nl)):=⟨by simpa using (by omega),λy hy=>by
  obtain⟨p,hp,rfl⟩:=mm0 hy;have:=s2 p (by simp[hp]);rw[ji,n1];omega⟩
 have tl:=s2 t (by simp);have ea:atI (r.map (λp=>D.str (p++nl))++[D.str (t++nl)]) (-1)=some (.str (t++nl)):=by rw[lR (by simp) .none];simp
 simp[ea,Fh]
 by_cases e:t++nl=nl
 .exact⟨r.map (·++nl),⟨by have:=rs.1;omega,rs.2⟩,by simp[e,ea,Fh,Function.comp_def]⟩
 .have zl:=Txt.slice_le (t++nl) none (some (-1))
  have tn:(t++nl).length<=31:=by rw[ji,n1];omega
  refine⟨r.map (·++nl)++[Txt.slice (t++nl) none (some (-1))],⟨by have:=rs.1;rw[la0];show _+1<=_;omega,λy hy=>?_⟩,?_⟩
  .rcases ma0 hy with hy|hy
   .exact rs.2 y hy
   .rw[List.mem_singleton.mp hy];omega
  .simp[e,ea,Fh,show (t++nl).length<=big from cC (by omega),show r.length+1<=big by simpa using pb,Function.comp_def]
abbrev xR(Z:Fs):Prop:=Has Z "_law_edited" [true,true,true] λrun=>∀ns k xs,bY 31 31 xs->∃ys,bY 40 31 ys/\run [.scr ns,.int k,.list (xs.map .str)]=some (.list (ys.map .str))
def BC{tg:Tg}{r:Ss}{F:α->List Sl}(J:Nat->α->Prop){P:Option Out->Prop}(k:∀s,J n s->P (some (.nx (F s))))(h:∀j s,j<n->J j s->∃s',J (j+1) s'/\(ai tg (.int (j:Nat)) (F s)).bind (λY=>exs Z Γ Y r)=some (.nx (F s'))){s:α}(j0:J 0 s):P (Ay Z Γ tg r ((List.range n).map λk:Nat=>.int k) (F s)):=by
 refine nM (inj:=λk:Nat=>D.int k) (J:=λq s=>∃j,j<=n/\q=List.range' j (n-j)/\J j s) (λs z=>?_) (λx q s z=>?_) ⟨0,Nat.zero_le _,by rw[List.range_eq_range'];rfl,j0⟩
 .obtain⟨j,h1,h2,h3⟩:=z
  have:n-j=0:=by have:=congrArg List.length h2;simpa using this.symm
  have:j=n:=by omega
  subst this;exact k s h3
 .obtain⟨j,h1,h2,h3⟩:=z
  have hl:n-j=q.length+1:=by have:=congrArg List.length h2;simpa using this.symm
  rw[hl,List.range'_succ]at h2;injection h2 with e1 e2
  subst e1;obtain⟨s',a,b⟩:=h x s (by omega) h3;exact⟨s',⟨x+1,by omega,by rw[e2];congr 1;omega,a⟩,b⟩
def lD{f:α->β}{l:List α}{a b:Option Int}:cut (l.map f) a b=(cut l a b).map f:=by unfold cut;simp
def rz{l:List α}{a b:Option Int}:∀x∈cut l a b,x∈l:=λx h=>List.mem_of_mem_drop (List.mem_of_mem_take h)
def AG{l:List α}{j:Int}(h0:0<=i)(hj:i<=j):(cut l none (some i)).length+(cut l (some j) none).length<=l.length:=by
 unfold cut sIx;simp only[Nat.sub_zero,List.drop_zero,List.length_take,List.length_drop];rw[if_neg (by omega),if_neg (by omega)];omega
def pU(hm:fq Z)(hl:pO Z)(ns:List Int)(k:Int)(xs:List Str)(hx:bY 31 31 xs):∃ys,bY 40 31 ys/\ans Z Γ cY [.scr ns,.int k,.list (xs.map .str)]=some (.list (ys.map .str)):=by
 obtain⟨r1,e1,h1⟩:=hm;obtain⟨r2,e2,h2⟩:=hl;have g:=kZ ns k 4 (by decide);have hM:=h1 ns k;generalize hn:mixF ns k % 4=M at g;simp only[ans_e,cY];simp[e1,hM,hn,tN (n:=M) (by omega) (by omega)];refine BC (F:=λs:List Str×Sl×Sl×Sl×Sl×Sl=>[.lent (.scr ns),.lent (.int k),.lent (.list (xs.map .str)),.dat (.list (s.1.map .str)),s.2.1,s.2.2.1,s.2.2.2.1,s.2.2.2.2.1,s.2.2.2.2.2]) (s:=(xs,.no,.no,.no,.no,.no)) (J:=λj s=>bY (31+j) 31 s.1) (P:=λo=>∃ys,bY 40 31 ys/\lj (nxS Z Γ o (.cons (.ret (.v 3)) .nil))=some (.list (ys.map .str))) (λs j=>?_) (λj s hj z=>?_) hx
 .exact⟨s.1,⟨by have:=j.1;omega,j.2⟩,by simp⟩
 .have hN:=h1 ns (k+1+2*j)
  generalize mixF ns (k+1+2*j)=N at hN;obtain⟨t,tl,q2⟩:=h2 ns (k+2+2*j);have m2:mulO (some (.int 2)) (some (.int (j:Nat)))=some (.int (2*(j:Int))):=mulL (by decide) (by decide);have a0:=en0 (N / 3) (b:=(s.1.length:Int)+1) (by omega);have a1:=el0 (N / 3) (b:=(s.1.length:Int)+1) (by omega);have lp:(0:Int)<(s.1.length:Int)+1:=by omega
  generalize ha:N / 3 % ((s.1.length:Int)+1)=a at a0 a1;have fin:∀(d:Int)(pt:List Str),0<=d->pt.length<=1->(∀x∈pt,x.length<=31)->bY (31+(j+1)) 31 (cut s.1 none (some a)++pt++cut s.1 (some (a+d)) none)/\(cut s.1 none (some a)).length+pt.length<=big/\(cut s.1 none (some a)).length+pt.length+(cut s.1 (some (a+d)) none).length<=big:=λd pt hd hp hq=>by
   have:=AG (l:=s.1) (i:=a) (j:=a+d) a0 (by omega);have:=z.1;refine⟨⟨by simp;omega,λx hx=>?_⟩,cC (by omega),cC (by omega)⟩;rcases ma0 hx with hx|hx
   .rcases ma0 hx with hx|hx
    .exact z.2 x (rz x hx)
    .exact hq x hx
   .exact z.2 x (rz x hx)
  obtain c0|c1|c2:N % 3=0\/N % 3=1\/N % 3=2:=by omega
  .obtain⟨f1,f2,f3⟩:=fin 0 [t] (by omega) (by simp) (by simp;omega)
   refine⟨(_,.dat (.int (j:Nat)),.dat (.int N),.dat (.int a),.dat (.str t),.dat (.list [.str t])),f1,?_⟩;simp at f2 f3;simp[e1,hN,m2,lp,ha,e2,q2,c0,lD,f2,f3]
  .obtain⟨f1,f2,f3⟩:=fin 1 [] (by omega) (by simp) (by simp)
   refine⟨(_,.dat (.int (j:Nat)),.dat (.int N),.dat (.int a),.dat (.str t),.dat (.list [])),f1,?_⟩;simp at f2 f3;simp[e1,hN,m2,lp,ha,e2,q2,c1,lD,f2,f3]
  .obtain⟨f1,f2,f3⟩:=fin 1 [t] (by omega) (by simp) (by simp;omega)
   refine⟨(_,.dat (.int (j:Nat)),.dat (.int N),.dat (.int a),.dat (.str t),.dat (.list [.str t])),f1,?_⟩;simp at f2 f3;simp[e1,hN,m2,lp,ha,e2,q2,c2,lD,f2,f3]
variable {J:FsM}{w:Nat}
noncomputable abbrev LvT:=List (List Str×Str)
noncomputable def nB(a b:LvT):Nat:=((b.map (·.1)).filter λq=>q∉a.map (·.1)).length
def pV(a b:LvT):(Uk a b).length=a.length+nB a b:=by unfold Uk nB;simp
def BD(a b:LvT):nB a b<=b.length:=by unfold nB;exact nt0 (List.length_filter_le _ _) (by simp)
def rA(a:LvT):nB a a=0:=by unfold nB;rw[List.filter_eq_nil_iff.mpr (by simp)];rfl
def Fi(a b d:LvT):nB a (b++d)=nB a b+nB a d:=by unfold nB;simp
noncomputable def atN(l:List (Str×Nd))(x:Str):Option Nd:=(l.find? λp=>p.1=x).map (·.2)
noncomputable def wt(l:List (Str×Nd))(q:Str×Nd):Nat:=match atN l q.1 with
 |some n=>nB n.lv q.2.lv
 |none=>q.2.lv.length
def Fj(l:List (Str×Nd))(q:Str×Nd):nB (lvL l) (q.2.lv.map (px q.1))<=wt l q:=by
 unfold wt;cases e:atN l q.1 with
 |some n=>
  obtain⟨p,e1,rfl⟩:=mx0 e;have m:=List.mem_of_find?_eq_some e1;have e2:p.1=q.1:=by have:=List.find?_some e1;simpa using this
  unfold nB;rw[List.map_map,show List.map ((λx=>x.1) ∘ px q.1) q.2.lv=(q.2.lv.map (·.1)).map (q.1::·) by simp[Function.comp_def],List.filter_map,lm0];dsimp only;rw[<-List.countP_eq_length_filter,<-List.countP_eq_length_filter];refine List.countP_mono_left λy a hy=>?_
  simp only[Function.comp_apply,decide_eq_true_eq]at hy ⊢;intro z;obtain⟨u,hu,rfl⟩:=mm0 z;exact hy (List.mem_map.mpr ⟨px q.1 u,List.mem_flatMap.mpr ⟨p,m,by rw[<-e2];exact List.mem_map_of_mem hu⟩,rfl⟩)
 |none=>exact nt0 (BD _ _) (by simp)
theorem xS(l:List (Str×Nd)):∀z:List (Str×Nd),nB (lvL l) (lvL z)<=(z.map (wt l)).sum
 |[]=>by unfold nB;simp
 |q::z=>by
  have:=xS l z;have:=Fj l q;show nB (lvL l) (q.2.lv.map (px q.1)++lvL z)<=_;rw[Fi,mk0,List.sum_cons];omega
theorem kg(p:α->Bool)(F:α->Nat):∀z:List α,(z.map F).sum=((z.filter p).map F).sum+((z.filter λx=>!p x).map F).sum
 |[]=>rfl
 |x::z=>by
  have:=kg p F z
  by_cases h:p x=true
  .rw[List.filter_cons_of_pos h,List.filter_cons_of_neg (by simp[h]),mk0,mk0,List.sum_cons,List.sum_cons];omega
  .rw[List.filter_cons_of_neg h,List.filter_cons_of_pos (by simpa using h),mk0,mk0,List.sum_cons,List.sum_cons];omega
theorem xT{F:Str×Nd->Nat}{b:Nat}:∀{z:List (Str×Nd)},(z.map (·.1)).Nodup->(∀q∈z,q.1=x->F q<=b)->((z.filter λq=>!decide (q.1≠x)).map F).sum<=b
 |[],_,_=>by simp
 |q::z,nz,h=>by
  obtain⟨n1,n2⟩:=List.nodup_cons.mp nz
  by_cases e:q.1=x
  .have:z.filter (λq=>!decide (q.1≠x))=[]:=List.filter_eq_nil_iff.mpr λp hp=>by
    have:p.1≠x:=λe'=>n1 (List.mem_map.mpr ⟨p,hp,e'.trans e.symm⟩)
    simp[this]
   rw[List.filter_cons_of_pos (by simp[e]),this]
   simpa using h q ms0 e
  .rw[List.filter_cons_of_neg (by simp[e])]
   exact xT n2 λp hp=>h p (mc0 _ hp)
noncomputable abbrev nw(l z:List (Str×Nd)):List (Str×Nd):=z.filter λq=>q.1∉l.map (·.1)
theorem BE(k f:Nat):∀(l z:List (Str×Nd)),(z.map (·.1)).Nodup->(l.map (·.1)).Nodup->(∀p∈l,p.2.lv.length<=k)->(∀p∈l,∀q∈z,p.1=q.1->p.2.lv.length+nB p.2.lv q.2.lv<=k)->(∀q∈z,q.1∉l.map (·.1)->q.2.lv.length<=f)->
  (z.map (wt l)).sum+(lvL l).length<=k*l.length+f*(nw l z).length
 |[],z,_,_,_,_,h=>by
  have e:nw [] z=z:=by unfold nw;simp
  rw[e];simp only[lvL,List.flatMap_nil,List.length_nil,Nat.mul_zero,Nat.zero_add,Nat.add_zero];have:∀z:List (Str×Nd),(∀q∈z,q.2.lv.length<=f)->(z.map (wt [])).sum<=f*z.length:=by
   intro z h
   induction z with
   |nil=>simp
   |cons q z ih=>
    have a:=h q ms0;have b:=ih λq hq=>h q (mc0 _ hq)
    have e:wt [] q=q.2.lv.length:=rfl;rw[mk0,List.sum_cons,e,lc0,Nat.mul_succ];omega
  exact this z λq hq=>h q hq (by simp)
 |(x,n)::l,z,nz,nl',h1,h2,h3=>by
  obtain⟨n1,n2⟩:=List.nodup_cons.mp nl';rw[kg (λq=>decide (q.1≠x)) (wt ((x,n)::l)) z];have e1:∀q∈z.filter (λq=>decide (q.1≠x)),wt ((x,n)::l) q=wt l q:=λq hq=>by
   have:q.1≠x:=by simpa using (List.mem_filter.mp hq).2
   have:¬ x=q.1:=λe=>this e.symm
   unfold wt atN;rw[List.find?_cons_of_neg (by simpa using this)]
  have ih:=BE k f l (z.filter λq=>decide (q.1≠x)) (List.Sublist.nodup (List.Sublist.map _ List.filter_sublist) nz) n2 (λp hp=>h1 p (mc0 _ hp)) (λp hp q hq=>h2 p (mc0 _ hp) q (List.mem_filter.mp hq).1) (λq hq hn=>h3 q (List.mem_filter.mp hq).1 λm=>by
   have:q.1≠x:=by simpa using (List.mem_filter.mp hq).2
   rcases mq0 m with m|m
   .exact this m
   .exact hn m)
  have e2:nw l (z.filter λq=>decide (q.1≠x))=nw ((x,n)::l) z:=by
   unfold nw;rw[List.filter_filter];refine List.filter_congr λq c=>?_
   by_cases a:q.1=x<;>simp[a]
  rw[e2]at ih;rw[List.map_congr_left e1];have hx:n.lv.length<=k:=h1 (x,n) ms0;have e3:=xT (x:=x) (F:=wt ((x,n)::l)) (b:=k-n.lv.length) nz λq hq qx=>by
   have:n.lv.length+nB n.lv q.2.lv<=k:=h2 (x,n) ms0 q hq qx.symm;have e:wt ((x,n)::l) q=nB n.lv q.2.lv:=by
    unfold wt atN;rw[List.find?_cons_of_pos (by simpa using qx.symm)];rfl
   rw[e];omega
  have e4:(lvL ((x,n)::l)).length=n.lv.length+(lvL l).length:=by simp[lvL]
  rw[e4,lc0,Nat.mul_succ];omega
def HS{es fs:Nds}{k f:Nat}(h1:fs.names.Nodup)(h2:es.names.Nodup)(h3:∀p∈es.l,p.2.lv.length<=k)(h4:∀p∈es.l,∀q∈fs.l,p.1=q.1->p.2.lv.length+nB p.2.lv q.2.lv<=k)(h5:∀q∈fs.l,q.1∉es.names->q.2.lv.length<=f):es.lv.length+nB es.lv fs.lv<=k*es.names.length+f*(nw es.l fs.l).length:=by
 rw[Nds.names_l]at h1 h2 h5;have a:=BE k f es.l fs.l h1 h2 h3 h4 h5;have b:=xS es.l fs.l;rw[Nds.lv_l,Nds.lv_l,Nds.names_l,lm0];omega
variable {J:FsM}{w:Nat}
noncomputable def cB:Nat->Nat
 |0=>1
 |1=>6
 |_=>21
noncomputable abbrev cst(a b:Nd):Nat:=a.lv.length+nB a.lv b.lv
def pW(h:m<=2):3 ^ m<=cB m:=by
 obtain rfl|rfl|rfl:m=0\/m=1\/m=2:=by omega
 all_goals decide
def rB{a b:Nd}(hm:m<=2)(ha:a.ok 3 m)(hb:b.ok 3 m):cst a b<=cB m:=by
 have h1:=Nd.lv3 ha;have h2:=Nd.lv3 hb;have h3:=BD a.lv b.lv;obtain rfl|rfl|rfl:m=0\/m=1\/m=2:=by omega
 .cases a with
  |tree=>exact ha.elim
  |blob t=>cases b with
   |tree=>exact hb.elim
   |blob u=>rw[cst,Nd.lv,Nd.lv];simp[nB,cB]
 .show _<=6;have:(3:Nat) ^ 1=3:=rfl;unfold cst;omega
 .show _<=21;have:(3:Nat) ^ 2=9:=rfl;unfold cst;omega
def xU{a:Nd}(hm:m<=2)(ha:a.ok 3 m):cst a a<=cB m:=by
 have:=Nd.lv3 ha;have:=pW hm;rw[cst,rA];omega
def ki(nm:Str)(m:Nat)(es fs:Nds):Prop:=(∀p∈es.l,∀q∈fs.l,p.1=q.1->cst p.2 q.2<=cB m)/\∀q∈fs.l,q.1∉es.names->q.1=nm/\q.2.lv.length<=3 ^ m
abbrev BF(m:Nat)(run:List D->Option D):Prop:=∀ns k (A:Nd),A.ok 3 m->∃B:Nd,B.ok 4 m/\(m<=2->cst A B<=cB m)/\(∀es,A=.tree es->∃fs,B=.tree fs/\∀m',m=m'+1->ki (nmS ns (k+3)) m' es fs)/\run [.scr ns,.int k,A.d,.int m]=some B.d
abbrev iY(Z:Fs)(m:Nat):Prop:=Has Z "_law_turn" [true,true,true,true] (BF m)
def tU(hm:fq Z)(hl:pT Z)(hE:xR Z)(he:lq Z)(ns:List Int)(k:Int)(t:Str)(ht:t.length<=30)(m:Nat):∃u:Str,u.length<=3000/\ans Z Γ aN [.scr ns,.int k,(Nd.blob t).d,.int m]=some (Nd.blob u).d:=by
 obtain⟨r1,e1,h1⟩:=hm;obtain⟨r2,e2,h2⟩:=hl;obtain⟨r3,e3,h3⟩:=hE;obtain⟨r4,e4,h4⟩:=he;obtain⟨xs,sx,q2⟩:=h2 t ht;have hN:=h1 ns (k+9);generalize mixF ns (k+9)=N at hN;simp only[ans_e,aN];simp[Nd.d,e2,q2,show xs.length<=big from cC (by have:=sx.1;omega)];generalize hf:cpF Z Γ _ _ _ _ _ _=f;obtain⟨ys,yl,yp,q⟩:=dC (P:=λx=>x.length<=31) (f:=f) (xs.map .str) λd hd=>by
  obtain⟨x,hx,rfl⟩:=mm0 hd;have xl:=sx.2 x hx;have xb:x.length<=big:=cC (by omega);have zl:=Txt.slice_le x none (some (-1))
  by_cases e:Txt.slice x (some (-1)) none=⟨#[10]⟩
  .exact⟨Txt.slice x none (some (-1)),by omega,by rw[<-hf];simp[aU,xb,e]⟩
  .exact⟨x,xl,by rw[<-hf];simp[aU,xb,e]⟩
 rw[lm0]at yl;obtain⟨zs,sz,q3⟩:=h3 ns k ys ⟨by have:=sx.1;omega,yp⟩;obtain⟨us,u1,u2,q4⟩:=h4 zs (decide (N % 3=0)) 40 31 (by omega) (by omega) sz.1 sz.2;have ls:=nt0 (pL u2) (Nat.mul_le_mul_right 32 u1);have hj:(us.map λx=>x.length).sum<=big:=nt0 ls (by decide);refine⟨Txt.join Str.empty us,nt0 (nA _) (nt0 ls (by decide)),?_⟩;simp[q,e3,q3,e1,hN,e4,q4,aK,hj,show (⟨#[]⟩:Str).length=0 from rfl];rfl
theorem BG:∀l:List (Str×Nd),gd (l.map pD)=some (l.map λp=>([p.1],pD p))
 |[]=>rfl
 |p::l=>by
  show (gd (l.map pD)).map _=_;rw[BG l];rfl
theorem nU(g:α->List Str×D):∀l:List α,∃l':List α,l'.Perm l/\hW (l.map g)=l'.map g
 |[]=>⟨[],.refl _,rfl⟩
 |a::l=>by
  obtain⟨l',p,e⟩:=nU g l;have ins:∀l:List α,∃l':List α,l'.Perm (a::l)/\jd (g a) (l.map g)=l'.map g:=by
   intro l
   induction l with
   |nil=>exact⟨[a],.refl _,rfl⟩
   |cons b r ih=>
    obtain⟨r',p,e⟩:=ih;rw[mk0,jd];split
    .exact⟨a::b::r,.refl _,rfl⟩
    .exact⟨b::r',(p.cons b).trans (.swap a b r),by rw[e];rfl⟩
  obtain⟨l2,p2,e2⟩:=ins l';exact⟨l2,p2.trans (p.cons a),by rw[mk0,hW,e,e2]⟩
noncomputable def Nds.of:List (Str×Nd)->Nds
 |[]=>.nil
 |p::l=>.cons p.1 p.2 (Nds.of l)
theorem Nds.of_l:∀l:List (Str×Nd),(Nds.of l).l=l
 |[]=>rfl
 |p::l=>by rw[Nds.of,Nds.l,Nds.of_l l]
def Fk{l:List (Str×Nd)}(h:l.length<64)(n:(l.map (·.1)).Nodup):∃fs:Nds,yH (.list (l.map pD))=some (.list fs.ds)/\fs.l.Perm l/\cj fs.names:=by
 obtain⟨l',p,e⟩:=nU (λp:Str×Nd=>([p.1],pD p)) l;have nd:((l.map λp=>(([p.1],pD p):List Str×D)).map (·.1)).Nodup:=by
  rw[List.map_map];exact List.pairwise_map.mpr ((List.pairwise_map.mp n).imp λz e=>z (by injection e))
 refine⟨Nds.of l',?_,by rw[Nds.of_l];exact p,?_⟩
 .show (gd (l.map pD)).bind gC=_
  rw[BG,bs0,gC,if_pos ⟨by simpa using h,nd⟩,e,Nds.ds_l,Nds.of_l,List.map_map];rfl
 .rw[Nds.names_l,Nds.of_l]
  have so:=dM (l.map λp=>([p.1],pD p));rw[e]at so;have so:=List.pairwise_map.mp so;have n':(l'.map (·.1)).Nodup:=(p.map _).nodup_iff.mpr n;refine List.pairwise_map.mpr ((List.Pairwise.and so (List.pairwise_map.mp n')).imp λ{a b} z=>?_);have z1:=z.1;dsimp only at z1;rw[qH]at z1;exact fN z.2.symm z1
variable {J:FsM}{w:Nat}
def xV(l:List (Str×Nd)):pairsOf (l.map pD)=some (l.map λp=>((.inr p.1:Sum Int Str),p.2.d)):=by
 induction l with
 |nil=>rfl
 |cons p l ih=>show (pairsOf (l.map pD)).map _=_;rw[ih];rfl
theorem lE :∀l:List (Str×Nd),(look (l.map λp=>((.inr p.1:Sum Int Str),p.2.d)) (.inr x)).isSome=decide (x∈l.map (·.1))
 |[]=>rfl
 |p::l=>by
  show (if (Sum.inr p.1:Sum Int Str)=.inr x then some p.2.d else look (l.map _) (.inr x)).isSome=_
  by_cases e:p.1=x
  .rw[if_pos (by rw[e])];simp[e]
  .have e':¬ x=p.1:=λz=>e z.symm
   rw[if_neg λz=>e (Sum.inr.inj z),lE l];simp[e']
structure Fnd(es:Nds)(m j:Nat)(l:List (Str×Nd)):Prop where
 sub:(l.map (·.1)).Sublist ((es.l.take j).map (·.1))
 ok:∀q∈l,q.2.ok 4 m
 cst:∀p∈es.l,∀q∈l,p.1=q.1->cst p.2 q.2<=cB m
def Fnd.len{es:Nds}{l:List (Str×Nd)}(h:Fnd es m j l):l.length<=es.l.length:=by
 have:=h.sub.length_le;simp at this;omega
def Fnd.drop{es:Nds}{l:List (Str×Nd)}(h:Fnd es m j l):Fnd es m (j+1) l:=
 ⟨h.sub.trans (List.Sublist.map _ (List.take_sublist_take_left (Nat.le_succ _))),h.ok,h.cst⟩
def Fnd.add{es:Nds}{l:List (Str×Nd)}{n b:Nd}(h:Fnd es m j l)(nd:es.names.Nodup)(e:es.l[j]?=some (x,n))(hb:b.ok 4 m)(hc:TX.cst n b<=cB m):Fnd es m (j+1) (l++[(x,b)]):=by
 refine⟨?_,λq hq=>?_,λp hp q hq e'=>?_⟩
 .rw[List.take_add_one,e,List.map_append,List.map_append]
  exact h.sub.append (List.Sublist.refl _)
 .rcases ma0 hq with hq|hq
  .exact h.ok q hq
  .rw[List.mem_singleton.mp hq];exact hb
 .rcases ma0 hq with hq|hq
  .exact h.cst p hp q hq e'
  .rw[List.mem_singleton.mp hq]at e' ⊢
   have e':p.1=x:=e';have:p=(x,n):=by
    rw[Nds.names_l]at nd;obtain⟨i,hi,rfl⟩:=List.getElem_of_mem hp;obtain⟨hj,e⟩:=gi0 e;have:i=j:=(List.getElem_inj (h₀:=by simpa using hi) (h₁:=by simpa using hj) nd).mp (by simp[e,e']);subst this;exact e
   rw[this];exact hc
def tV(hm:fq Z)(hn:HNm Z)(m:Nat)(m2:m<=2)(hd:ka Z m)(ht:iY Z m)(ns:List Int)(k:Int)(es:Nds)(hok:(Nd.tree es).ok 3 (m+1)):
  ∃fs:Nds,(Nd.tree fs).ok 4 (m+1)/\ki (nmS ns (k+3)) m es fs/\ans Z Γ aN [.scr ns,.int k,(Nd.tree es).d,.int ((m+1:Nat):Int)]=some (Nd.tree fs).d:=by
 obtain⟨r1,e1,h1⟩:=hm;obtain⟨r2,e2,h2⟩:=xx hn ns;obtain⟨r3,e3,h3⟩:=hd;obtain⟨r4,e4,h4⟩:=ht;rw[Nd.ok]at hok;obtain⟨o1,o2,o3,o4⟩:=hok;rw[Nds.ok_l]at o4;have nd:es.names.Nodup:=o1.imp λ{a b} z e=>by rw[e,bg]at z;cases z
 have ll:es.l.length=es.names.length:=by rw[Nds.names_l];simp
 have em:(m:Int)+1-1=(m:Int):=by omega
 have dlen:es.ds.length<=3:=by rw[Nds.len];exact o3
 have tl:∀l:List (Str×Nd),l.length<=3->(l.map pD).length<big:=λl h=>by rw[lm0];exact Nat.lt_of_le_of_lt h (by decide)
 simp only[ans_e,aN];simp[Nd.d,show ¬ (dc=jY) by decide];rw[Bs (by omega)];simp;rw[Nds.ds_l,lm0];refine BC (F:=λs:List (Str×Nd)×Sl×Sl×Sl×Sl=>[.lent (.scr ns),.lent (.int k),.lent (.tuple [.str dc,.list (es.l.map pD)]),.lent (.int ((m:Int)+1)),.no,.no,.own (.list (s.1.map pD)),s.2.1,s.2.2.1,s.2.2.2.1,s.2.2.2.2]) (s:=([],.no,.no,.no,.no)) (J:=λj s=>Fnd es m j s.1) (P:=λo=>∃fs:Nds,(Nd.tree fs).ok 4 (m+1)/\ki (nmS ns (k+3)) m es fs/\lj (nxS Z Γ o _)=some (.tuple [.str dc,.list fs.ds])) (λs j=>?_) (λj s hj z=>?_) ⟨by simp,nofun,λc c c h=>by cases h⟩
 .obtain⟨l,s7,s8,s9,s10⟩:=s
  have j:Fnd es m es.l.length l:=j;have sub:=j.sub;rw[List.take_length,<-Nds.names_l]at sub;have ln:(l.map (·.1)).Nodup:=sub.nodup nd;have l3:l.length<=3:=by have:=j.len;omega
  have hM:=h1 ns (k+2);generalize mixF ns (k+2)=M at hM;obtain⟨q5,nn⟩:=h2 (k+3);generalize nmS ns (k+3)=nm at q5 nn ⊢;have fin:∀l':List (Str×Nd),(l'.map (·.1)).Nodup->l'.length<=4->(∀q∈l',q.2.ok 4 m/\aA q.1=true/\(∀p∈es.l,p.1=q.1->TX.cst p.2 q.2<=cB m)/\(q.1∉es.names->q.1=nm/\q.2.lv.length<=3 ^ m))->∃fs:Nds,(Nd.tree fs).ok 4 (m+1)/\ki nm m es fs/\yH (.list (l'.map pD))=some (.list fs.ds):=λl' n1 n2 n3=>by
   obtain⟨fs,f1,f2,f3⟩:=Fk (by omega) n1;have hq:∀q∈fs.l,q∈l':=λq h=>f2.mem_iff.mp h
   refine⟨fs,?_,⟨λp hp q h e=>(n3 q (hq q h)).2.2.1 p hp e,λq h=>(n3 q (hq q h)).2.2.2⟩,f1⟩;rw[Nd.ok];refine⟨f3,λx hx=>?_,?_,Nds.ok_l.mpr λq h=>(n3 q (hq q h)).1⟩
   .rw[Nds.names_l]at hx
    obtain⟨q,h,rfl⟩:=mm0 hx;exact (n3 q (hq q h)).2.1
   .rw[Nds.names_l,lm0,f2.length_eq];exact n2
  have old:∀q∈l,q.2.ok 4 m/\aA q.1=true/\(∀p∈es.l,p.1=q.1->TX.cst p.2 q.2<=cB m)/\(q.1∉es.names->q.1=nm/\q.2.lv.length<=3 ^ m):=λq hq=>by
   have qm:q.1∈es.names:=sub.subset (List.mem_map_of_mem hq);exact⟨j.ok q hq,o2 _ qm,λp hp e=>j.cst p hp q hq e,λh=>absurd qm h⟩
  have lb:=tl l l3;rw[lm0]at lb;have pn:=xV l;have pa:putAll [] (l.map λp=>((.inr p.1:Sum Int Str),p.2.d))=l.map λp=>(.inr p.1,p.2.d):=eN (acc:=[]) (by
   simp only[List.nil_append,List.map_map,Function.comp_def];exact List.pairwise_map.mpr ((List.pairwise_map.mp ln).imp λz e=>z (Sum.inr.inj e)))
  by_cases cM:M % 3=0
  .by_cases cn:nm∈l.map (·.1)
   .obtain⟨fs,a,b,q⟩:=fin l ln (by omega) old
    refine⟨fs,a,b,?_⟩;simp at q;simp[e2,q5,e1,hM,cM,pn,pa,inD,lE,cn,q]
   .obtain⟨b,bo,bq⟩:=h3 ns (k+4)
    obtain⟨fs,a,b',q⟩:=fin (l++[(nm,b)]) (by
     rw[List.map_append];exact List.nodup_append.mpr ⟨ln,by simp,λx hx y hy e=>cn (by rw[show nm=x from (e.trans (List.mem_singleton.mp hy)).symm];exact hx)⟩) (by simp;omega) (λq hq=>by
     rcases ma0 hq with hq|hq
     .exact old q hq
     .rw[List.mem_singleton.mp hq]
      exact⟨Nd.ok34 b m bo,nn,λp hp c=>rB m2 (o4 p hp) bo,λc=>⟨rfl,Nd.lv3 bo⟩⟩)
    refine⟨fs,a,b',?_⟩;simp at q;simp[e2,q5,e1,hM,cM,pn,pa,inD,lE,cn,e3,em,bq,lb,q]
  .obtain⟨fs,a,b,q⟩:=fin l ln (by omega) old
   refine⟨fs,a,b,?_⟩;simp at q;simp[e2,q5,e1,hM,cM,q]
 .have hN:=h1 ns (k+5*j)
  have gN:=kZ ns (k+5*j) 8 (by decide);generalize mixF ns (k+5*j)=N at hN gN;obtain⟨⟨x,n⟩,hx⟩:∃p,es.l[j]?=some p:=⟨_,ge0 hj⟩;have nok:=o4 (x,n) (mg0 hx);have m5:mulO (some (.int 5)) (some (.int (j:Nat)))=some (.int (5*(j:Int))):=mulL (by decide) (by decide);have m4:mulO (some (.int 4)) (some (.int k))=some (.int (4*k)):=mulL (by decide) (by decide);have ea:atI (es.l.map pD) (j:Int)=some (.tuple [.str x,n.d]):=jZ (by rw[gm0,hx];rfl);have sl:=tl s.1 (by have:=z.len;omega);rw[lm0]at sl
  by_cases c0:N % 8=0
  .refine⟨(s.1,.dat (.int (j:Nat)),.dat (.str x),.dat n.d,.dat (.int N)),z.drop,?_⟩
   simp[ea,m5,e1,hN,c0]
  have c0':0<N % 8:=by omega
  by_cases c1:N % 8=1
  .obtain⟨b,bo,bq⟩:=h3 ns (k+5*j+1)
   refine⟨(s.1++[(x,b)],.dat (.int (j:Nat)),.dat (.str x),.dat b.d,.dat (.int N)),z.add nd hx (Nd.ok34 b m bo) (rB m2 nok bo),?_⟩;simp[ea,m5,e1,hN,c1,e3,em,bq,sl]
  by_cases c2:N % 8<5
  .have c2':1<N % 8:=by omega
   obtain⟨b,bo,bc,_,bq⟩:=h4 ns (4*k+5+j) n nok;refine⟨(s.1++[(x,b)],.dat (.int (j:Nat)),.dat (.str x),.dat b.d,.dat (.int N)),z.add nd hx bo (bc m2),?_⟩;simp[ea,m5,e1,hN,c1,c2,c2',c0',e4,m4,em,bq,sl]
  .refine⟨(s.1++[(x,n)],.dat (.int (j:Nat)),.dat (.str x),.dat n.d,.dat (.int N)),z.add nd hx (Nd.ok34 n m nok) (xU m2 nok),?_⟩
   simp[ea,m5,e1,hN,c1,c2,c0',sl]
variable {J:FsM}{w:Nat}
def HU{nm:Str}{es fs:Nds}(nd:fs.names.Nodup)(h:∀q∈fs.l,q.1∉es.names->q.1=nm):(nw es.l fs.l).length<=1:=by
 have n1:((nw es.l fs.l).map (·.1)).Nodup:=by
  rw[Nds.names_l]at nd;exact List.Sublist.nodup (List.Sublist.map _ List.filter_sublist) nd
 have all:∀x∈(nw es.l fs.l).map (·.1),x=nm:=λx hx=>by
  obtain⟨q,hq,rfl⟩:=mm0 hx;obtain⟨h1,h2⟩:=List.mem_filter.mp hq;exact h q h1 (by rw[Nds.names_l];simpa using h2)
 rw[<-lm0 (f:=(·.1))];generalize (nw es.l fs.l).map (·.1)=l at n1 all
 match l,n1,all with
 |[],_,_=>simp
 |[_],_,_=>simp
 |a::b::r,n1,all=>
  exact absurd (show a∈b::r by rw[all a (by simp),all b (by simp)];simp) (List.nodup_cons.mp n1).1
def lF{xs:List Str}(h:cj xs):xs.Nodup:=h.imp λ{a b} z e=>by rw[e,bg]at z;cases z
def nV{nm:Str}{es fs:Nds}(m2:m<=2)(o1:(Nd.tree es).ok 3 (m+1))(o2:(Nd.tree fs).ok 4 (m+1))(h:ki nm m es fs):es.lv.length+nB es.lv fs.lv<=cB m*es.names.length+3 ^ m*(nw es.l fs.l).length/\(nw es.l fs.l).length<=1/\es.names.length<=3:=by
 rw[Nd.ok]at o1 o2;have o4:=Nds.ok_l.mp o1.2.2.2;exact⟨HS (lF o2.1) (lF o1.1) (λp hp=>nt0 (Nd.lv3 (o4 p hp)) (pW m2)) h.1 λq hq hn=>(h.2 q hq hn).2,HU (lF o2.1) λq hq hn=>(h.2 q hq hn).1,o1.2.2.1⟩
def fz(hm:fq Z)(hn:HNm Z)(hl:pT Z)(hE:xR Z)(he:lq Z)(m:Nat)(m3:m<=3)(hr:∀m',m=m'+1->ka Z m'/\iY Z m'):BF m (ans Z Γ aN):=by
 intro ns k A hA;cases A with
 |blob t=>
  have ht:t.length<=30:=by cases m<;>exact hA
  obtain⟨u,ul,q⟩:=tU hm hl hE he ns k t ht m;refine⟨.blob u,by cases m<;>exact ul,λh=>?_,nofun,q⟩;rw[cst,Nd.lv,Nd.lv];have:1<=cB m:=nt0 (Nat.one_le_pow _ 3 (by omega)) (pW h)
  simpa [nB]using this
 |tree es=>
  cases m with
  |zero=>exact hA.elim
  |succ m=>
   obtain⟨h1,h2⟩:=hr m rfl;obtain⟨fs,f1,f2,f3⟩:=tV hm hn m (by omega) h1 h2 ns k es hA;refine⟨.tree fs,f1,λh=>?_,λes' e=>⟨fs,rfl,λm' e'=>by cases e;cases e';exact f2⟩,f3⟩;obtain⟨a,b,d⟩:=nV (by omega) hA f1 f2;rw[cst,Nd.lv,Nd.lv];obtain rfl|rfl:m=0\/m=1:=by omega
   .have:cB 0*es.names.length<=1*3:=Nat.mul_le_mul_left 1 d
    have:3 ^ 0*(nw es.l fs.l).length<=1*1:=Nat.mul_le_mul_left 1 b;show _<=6;omega
   .have:cB 1*es.names.length<=6*3:=Nat.mul_le_mul_left 6 d
    have:3 ^ 1*(nw es.l fs.l).length<=3*1:=Nat.mul_le_mul_left 3 b;show _<=21;omega
def Fm{ns:List Int}{es fs:Nds}{M:Nat}(o1:(Nd.tree es).ok 3 3)(o2:(Nd.tree fs).ok 4 3)(hM:M<=3)(hn:es.names=srtS (pN ns 0 M))(h:ki (nmS ns (2+3)) 2 es fs):(Uk es.lv fs.lv).length<64:=by
 obtain⟨a,b,d⟩:=nV (by omega) o1 o2 h;rw[pV];have e:cB 2*es.names.length+3 ^ 2*(nw es.l fs.l).length=21*es.names.length+9*(nw es.l fs.l).length:=rfl;rw[e]at a
 by_cases n3:es.names.length<=2
 .omega
 .have zl:=mJ (pN ns 0 M)
  rw[<-hn]at zl;have:(pN ns 0 M).length=M:=by simp[pN]
  obtain rfl:M=3:=by omega
  have mem:nmS ns (2+3)∈es.names:=by
   rw[hn,dz];exact List.mem_map.mpr ⟨2,by simp,by congr 1⟩
  have:nw es.l fs.l=[]:=List.filter_eq_nil_iff.mpr λq hq hh=>by
   have hn:q.1∉es.names:=by rw[Nds.names_l];simpa using hh
   exact hn (by rw[(h.2 q hq hn).1];exact mem)
  rw[this]at a;simp at a;omega
def xW(a b:LvT):neq a b=neq b a:=funext λns=>decide_eq_decide.mpr ⟨λh e=>h e.symm,λh e=>h e.symm⟩
def xX{a b:LvT}(ha:Lf a)(hb:Lf b):dif b a=dif a b:=by
 unfold dif;rw[xW b a,AD ((List.perm_ext_iff_of_nodup (cD hb ha) (cD ha hb)).mpr λns=>by rw[Uk_mem,Uk_mem,Or.comm])]
def xY(a:LvT):dif a a=[]:=by unfold dif;exact List.filter_eq_nil_iff.mpr λx b=>by simp
def tW(a b:LvT):(Uk a b).filter (neq a b)=(a.map (·.1)).filter (neq a b)++(b.map (·.1)).filter λns=>ns∉a.map (·.1):=by
 unfold Uk;rw[List.filter_append,List.filter_filter]
 congr 1
 refine List.filter_congr λns hn=>?_
 by_cases m:ns∈a.map (·.1)
 .simp[m]
 .have e:lk a ns=none:=lk_none.mpr m
  have:lk b ns≠none:=λz=>lk_none.mp z hn
  simp[m,e,this.symm]
variable {J:FsM}{w:Nat}
def xZ{f:Option Str->D}(hf:∀o,okS 18 (f o)=true)(a b:LvT)(l:List (List Str)):okS 20 (.list (l.map (eA f a b)))=true:=by
 show (l.map (eA f a b)).all (okS 19)=true;rw[List.all_map];refine List.all_eq_true.mpr λns c=>?_
 show (true&&(okS 18 (f (lk a ns))&&(okS 18 (f (lk b ns))&&true)))=true;rw[hf,hf];rfl
def HV(o o':Option Str):eqD (oS o) (oS o')=some (decide (o=o')):=by
 have ok:∀o,okS 20 (oS o)=true:=λo=>by cases o<;>rfl
 rw[lX (ok _) (ok _)]
 congr 1
 refine decide_eq_decide.mpr ⟨λe=>?_,λe=>by rw[e]⟩;cases o<;>cases o'<;>cases e<;>rfl
@[simp] def Mn:oS none=.none:=rfl
@[simp] def KY :oS (some t)=.str t:=rfl
def AH(o:Option Str):(o.map D.str).getD .none=oS o:=by cases o<;>rfl
def rC{a:LvT}(h:ns∈a.map (·.1)):∃t,lk a ns=some t:=by
 cases q:lk a ns with
 |none=>exact absurd h (lk_none.mp q)
 |some t=>exact⟨t,rfl⟩
def BH{a:LvT}(h:Lf a)(m:ns∈a.map (·.1)):Pn ns:=by obtain⟨q,hq,rfl⟩:=mm0 m;exact h.2 q hq
def ya(hs:lu J 3)(hx:fT Z 3)(hd:xN J)(hk:Fe Z)(hT:xP Z c)(ns:List Int)(es fs:Nds)(o1:(Nd.tree es).ok 4 3)(o2:(Nd.tree fs).ok 4 3)(u1:(Uk es.lv fs.lv).length<64):
  ∃U,AA (bM Z J Γ c [.lent (.scr ns),.dat (Nd.tree es).d,.dat (Nd.tree fs).d,.no,.no,.no,.no,.no,.no,.no] [] r52)=some (U,.ok (.bool true)):=by
 obtain⟨r1,e1,h1⟩:=hs;obtain⟨r2,e2,h2⟩:=hx;obtain⟨r3,e3,h3⟩:=hd;obtain⟨r4,e4,h4⟩:=hk;obtain⟨r5,e5,h5⟩:=hT;have c1:=Nd.cnt_le _ _ o1;have c2:=Nd.cnt_le _ _ o2;have p5:(5:Nat) ^ 3=125:=rfl;obtain⟨L1,i,q1,a1,a2,a3⟩:=h1 [] (.tree es) o1 (by simp;omega);obtain⟨L,j,q2,b1,b2,b3⟩:=h1 L1 (.tree fs) o2 (by simp at a3;omega);have nd:L.Nodup:=b2.2 (a2.2 List.nodup_nil);have a1:=Nd.rep_ex b2 _ _ a1;have t1:=h2 ⟨#[]⟩ es o1 (by decide);have t2:=h2 ⟨#[]⟩ fs o2 (by decide);have f1:=rp o1;have f2:=rp o2;have s1:=Nd.st (.tree es) i a1;have s2:=Nd.st (.tree fs) j b1;rw[Nd.lv]at s1 s2;have u2:(Uk fs.lv es.lv).length<64:=by
  rw[((List.perm_ext_iff_of_nodup (cD f2 f1) (cD f1 f2)).mpr λns=>by rw[Uk_mem,Uk_mem,Or.comm]).length_eq];exact u1
 have u3:(Uk es.lv es.lv).length<64:=by
  rw[pV,rA];have:=u1;rw[pV]at this;omega
 have d1:=h3 L i j es fs nd o1 o2 a1 b1 u1;have d2:=h3 L j i fs es nd o2 o1 b1 a1 u2;have d3:=h3 L i i es es nd o1 o1 a1 a1 u3;rw[xX f1 f2]at d2;rw[xY]at d3;have bl:es.lv.length<=big:=cC (by have:=Nd.lv4 o1;rw[Nd.lv]at this;have:(4:Nat) ^ 3=64:=rfl;omega);have bl2:fs.lv.length<=big:=cC (by have:=Nd.lv4 o2;rw[Nd.lv]at this;have:(4:Nat) ^ 3=64:=rfl;omega);have k1:pairsOf (es.lv.map (gT ⟨#[]⟩))=some (kvF .str es.lv):=fy (f:=.str) es.lv;have k2:pairsOf (fs.lv.map (gT ⟨#[]⟩))=some (kvF .str fs.lv):=fy (f:=.str) fs.lv;have tld:=h5 0 L es.lv fs.lv s1 s2 (dif es.lv fs.lv) (Nat.lt_of_le_of_lt (by unfold dif;exact nt0 (List.length_filter_le _ _) (Nat.le_of_eq (aV _).length_eq)) u1)
 have dl:(dif es.lv fs.lv).length<=big:=cC (nt0 (show _<=64 from Nat.le_of_lt (Nat.lt_of_le_of_lt (by unfold dif;exact nt0 (List.length_filter_le _ _) (Nat.le_of_eq (aV _).length_eq)) u1)) (by decide));have q1:r1 [[]] [.hdl 0,(Nd.tree es).d]=some (vt L1,.ok (.int (i:Nat))):=q1;have v1:∀U,vE c U (.dat (Nd.tree es).d)=.dat (Nd.tree es).d:=λU=>by rw[Nd.d];rfl
 have v2:∀U,vE c U (.dat (Nd.tree fs).d)=.dat (Nd.tree fs).d:=λU=>by rw[Nd.d];rfl
 generalize es.lv=a at *;generalize fs.lv=b at *;simp only[r52];simp[e1,q1,q2,v1,v2,e2,t1,t2,k1,k2,lA f1,lA f2,lB f1,lB f2,bl,bl2];rw[show List.map (D.str ∘ λq=>pth q.1) a=(a.map (·.1)).map λns=>D.str (pth ns) by simp[Function.comp_def],bA (g:=eA oS a b) (p:=neq a b) λns hn=>by
  have hp:=BH f1 hn;obtain⟨t,e⟩:=rC hn;have q:=HV (some t) (lk b ns);rw[KY]at q;simp[aU,dZ f1 hp,dZ f2 hp,e,AH,q]
  by_cases z:some t=lk b ns<;>simp[z,e]]
 simp[lB f2,bl2];rw[show List.map (D.str ∘ λq=>pth q.1) b=(b.map (·.1)).map λns=>D.str (pth ns) by simp[Function.comp_def],bA (g:=eA oS a b) (p:=λns=>ns∉a.map (·.1)) λns hn=>by
  have hp:=BH f2 hn;obtain⟨t,e⟩:=rC hn;simp[aU,dZ f1 hp,dZ f2 hp,inD,e];cases z:lk a ns with
  |none=>
   have:=lk_none.mp z;simp at this;simp[this,z,e]
  |some u=>
   have:ns∈a.map (·.1):=List.mem_map.mpr ⟨_,lz z,rfl⟩;simp at this;simp[this]]
 have uf:=tW a b;have ul:((Uk a b).filter (neq a b)).length<64:=Nat.lt_of_le_of_lt (List.length_filter_le _ _) u1;have un:((Uk a b).filter (neq a b)).Nodup:=(cD f1 f2).filter _;have up:∀ns∈(Uk a b).filter (neq a b),Pn ns:=λns h=>rn f1 f2 ns (List.mem_filter.mp h).1
 have us:srtL ((Uk a b).filter (neq a b))=dif a b:=nS _ _;rw[mo0,bs0,qo,if_pos (by
  have:=congrArg List.length uf;rw[la0]at this;rw[lm0,lm0];exact cC (by omega)),<-List.map_append,<-uf]
 generalize (Uk a b).filter (neq a b)=l at *;simp[e4];rw[fX (k:=id) l λns hn=>h4 ns _ _ (up ns hn)];simp;rw[xK ul un,us];simp[e3,d1];rw[if_pos dl,aw (g:=λm=>.bool true) λns hn=>by simp[aU,eA]];simp[e5,tld];have oS18:∀o,okS 18 (oS o)=true:=λo=>by cases o<;>rfl
 have oN18:∀o,okS 18 (oN L o)=true:=λo=>by cases o<;>rfl
 have w1:=xZ oS18 a b (dif a b);have w2:=xZ oN18 b a (dif a b);rw[lX w1 w1];simp[e3,d2];rw[if_pos dl,aw (g:=eA (oN L) b a) λns hn=>by simp[aU,eA]];simp;rw[lX w2 w2];simp[e3,d3];rw[show eqD (.list []) (.list [])=some true from by rw[lX rfl rfl];simp];simp
def HW(hm:fq Z)(hf:nK Z 3)(ht:iY Z 3)(hs:lu J 3)(hx:fT Z 3)(hd:xN J)(hk:Fe Z)(hT:xP Z c)(ns:List Int):∃U,nF Z J Γ c cy [] [.scr ns]=some (U,.ok (.bool true)):=by
 obtain⟨r1,e1,h1⟩:=hm;obtain⟨r2,e2,h2⟩:=hf;obtain⟨r3,e3,h3⟩:=ht;obtain⟨es,o1,⟨M,M3,hn⟩,q1⟩:=h2 ns 0;obtain⟨B,o2,_,hB,q3⟩:=h3 ns 2 (.tree es) o1;obtain⟨fs,rfl,tr⟩:=hB es rfl;have u:=Fm o1 o2 M3 hn (tr 2 rfl);obtain⟨gs,o3,_,q2⟩:=h2 ns 4;have r:=λfs o2 u=>ya (Γ:=Γ) hs hx hd hk hT ns es fs (Nd.ok34 _ _ o1) o2 u
 have b1:=r fs o2 u;have b2:=r gs (Nd.ok34 _ _ o3) (by
  have x:=Nd.lv3 o1;have y:=Nd.lv3 o3;rw[Nd.lv]at x y;have:(3:Nat) ^ 3=27:=rfl;unfold Uk;rw[la0,lm0];have:=List.length_filter_le (λns=>decide (ns∉es.lv.map (·.1))) (gs.lv.map (·.1));rw[lm0]at this;omega)
 have q4:=h1 ns 60;have q1:r2 [.scr ns,.int 0,.int 3]=_:=q1;have q2:r2 [.scr ns,.int 4,.int 3]=_:=q2;have q3:r3 [.scr ns,.int 2,_,.int 3]=_:=q3;have v:∀U fs,vE c U (.dat (Nd.tree fs).d)=.dat (Nd.tree fs).d:=λU fs=>by rw[Nd.d];rfl
 simp only[iV,cy];simp[e1,e2,e3,q1,q3,q4,v]
 by_cases z:mixF ns 60 % 4=0
 .simp[z,e2,q2,v]
  exact b2
 .simp[z,v]
  exact b1
end TX
noncomputable section
namespace K52
open PySem L2 L2.Z SI TX
noncomputable def gam:List (Str×D):=[("LONGEST_NAME",.int 12),("MOST_NAMES",.int 20)]
noncomputable def env:pI:={fns:=["is_name_sign","is_name","names_rise","joined","text_of","entries_of","refuse_wrong_names","files","names_of","blobs_below","_law_cell","_law_mix","_law_sign","_law_line","_law_ends","_law_row","_law_edited","_law_name","_law_lines","_law_node","_law_folder","_law_turn","_law_texts","_law_told","_law_names"],cst:=["LONGEST_NAME","MOST_NAMES"],c:=cV,vms:=["kind","held","content"],mfs:=["blob","tree","differences","_law_store","law"],mms:=["put"],vn:="Vault"}
noncomputable def prog:List (Str×Def):=[("is_name_sign",aZ),("is_name",dP),("names_rise",bB),("joined",fw),("text_of",(dU cV)),("entries_of",(bC cV)),("refuse_wrong_names",aC),("files",gW),("names_of",cX),("blobs_below",(aF cV)),("_law_cell",dB),("_law_mix",gQ),("_law_sign",fi),("_law_line",fj),("_law_ends",fk),("_law_row",gR),("_law_edited",cY),("_law_name",ba),("_law_lines",dW),("_law_node",bJ),("_law_folder",bh),("_law_turn",aN),("_law_texts",bE),("_law_told",fx),("_law_names",dX),(aq "kind",(ft cV)),(aq "held",(fu cV)),(aq "content",(bP cV))]
noncomputable def progM:List (Str×cq):=[("blob",lg),("tree",(lh cV)),("differences",aO),("_law_store",cw),("law",cy)]
theorem ti:qQ (met 0):=⟨⟨_,_,_,_,_,_,_,_,rfl⟩⟩
theorem tp:wX (met 5):=⟨⟨_,_,_,_,_,_,_,_,_,_,_,_,_,_,_,_,_,_,_,_,_,_,_,_,_,rfl,rfl⟩,by decide +kernel⟩
noncomputable def scB(ps:List Str)(st:Stmt):Bool:=decide ((defScope st).kind=.function/\(defScope st).isCoroutine=false/\(defScope st).isGenerator=false/\(ps++ar (defScope st) ps).Nodup/\(ps++ar (defScope st) ps).take ps.length=ps/\(∀x∈ps,(defScope st).names.lookup x=some .local\/(defScope st).names.lookup x=some .cell)/\∀y∈(defScope st).names,y.2≠.free)
theorem pX{ps:List Str}{st:Stmt}(h:scB ps st=true):aP (ps++ar (defScope st) ps) ps (defScope st):=
 have⟨a,b,c,d,e,f,g⟩:=od0 h
 ⟨a,b,c,d,e,f,g⟩
structure FF(x q:Str)(st:Stmt)(f cd:Addr)(pm:Value)(ps:List Str):Prop where
 l:∀P,(kk P).lookup f=some (fo x q st pm cd):=by intro;kernel_rfl
 c:∀P,(PySem.W.codeIn (kk P) (.ref cd) q&&PySem.W.keepIn (kk P) (.ref f))=true:=by intro;kernel_rfl
 s:scB ps st=true:=by kernel_rfl
 d:br st=some (ps,defBody st,defScope st):=by rfl
 b:∀(kV doc pm:Value)(an:Option Addr)(cdv ct:Value)(us:List Value),us.length=ps.length->bindArgs (PySem.W.fnOf x q (defArgs st) (defBody st) (defScope st) .none kV doc pm an cdv ct) ⟨us,[]⟩=pure (ps.zip us):=by first|exact λa a a a a a=>HB λa=>rfl|exact λa a a a a a=>HC λa a=>rfl|exact λa a a a a a=>Ko λa a a=>rfl|exact λa a a a a a=>Kp λa a a a=>rfl
section
variable {q:Str}{st:Stmt}{f cd:Addr}{pm:Value}{ps:List Str}{P:Params}
abbrev FT(x:Str)(i:Nat)(cd:Addr)(pm:Value)(ps:List Str):Prop:=FF x x (top i) (cd+1) cd pm ps
theorem FF.fn(F:FF x q st f cd pm ps)(P:Params):Fun (kk P) x q st f (PySem.W.fnOf x q (defArgs st) (defBody st) (defScope st) .none .none .none pm none (.ref cd) .none):=CC (F.l P) (ax0 (F.c P)).1 (ax0 (F.c P)).2
theorem mkD{d:Def}(F:FF x x st f cd pm ps)(X:(kk P).In h)(G:h.Ns mainGlobals mg)(a:PySem.W.nsIn (kk P) mainGlobals x=some (some (.ref f)):=by kernel_rfl)(c:sV env.fns env.cst d.lent st (some env.c) env.vms=some d:=by kernel_rfl)(e:d.lent.length=ps.length:=by rfl):sW (kk P) mg env.fns env.cst (some env.c) env.vms x d:=
 ⟨⟨st,f,_,ps,F.fn P,PySem.W.mg_of X G a,(F.fn P).binds F.b,pX F.s,F.d,c,e⟩⟩
theorem mkM{d:cq}(F:FF x x st f cd pm ps)(X:(kk P).In h)(G:h.Ns mainGlobals mg)(a:PySem.W.nsIn (kk P) mainGlobals x=some (some (.ref f)):=by kernel_rfl)(c:mZ env d.lent st none=some d:=by kernel_rfl)(e:d.lent.length=ps.length:=by rfl):jS (kk P) mg env x d:=
 ⟨⟨st,f,_,ps,none,F.fn P,PySem.W.mg_of X G a,(F.fn P).binds F.b,pX F.s,F.d,c,e,nofun⟩⟩
theorem nv{α:Prop}{m:Str}(e:x=aq m)(hm:vms.contains m=true)(h:(vms.all λm=>!(x==aq m))=true:=by kernel_rfl):α:=(HE h e hm).elim
theorem mn{n:Str}(X:(kk P).In h)(G:h.Ns mainGlobals mg)(e:PySem.W.nsIn (kk P) mainGlobals n=some none:=by kernel_rfl):mg n=none:=PySem.W.mg_none_of X G e
theorem mo{n:Str}{v:Value}(X:(kk P).In h)(G:h.Ns mainGlobals mg)(e:PySem.W.nsIn (kk P) mainGlobals n=some (some v):=by kernel_rfl):mg n=some v:=PySem.W.mg_of X G e
theorem mkT(F:FF x q st f cd pm ps)(a:PySem.W.findIn (kk P) (.ref cV) x=some (some (.ref f)):=by kernel_rfl)(n:PySem.W.isFn (kk P) (.ref f)=true:=by kernel_rfl):kr (kk P) cV x f:=⟨a,n,(ax0 (F.c P)).2⟩
theorem mkV{d:Def}(F:FF x (aq x) st f cd pm ps)(T:kr (kk P) cV x f)(n:x≠"objects"/\x≠"numbers":=by decide)(c:sV env.fns env.cst d.lent st (some env.c) env.vms=some d:=by kernel_rfl)(e:d.lent.length=ps.length:=by rfl):sX (kk P) env.fns env.cst env.c env.vms x d:=
 ⟨n,⟨st,f,_,ps,F.fn P,T,(F.fn P).binds F.b,pX F.s,F.d,c,e⟩⟩
end
theorem F8:FT "is_name_sign" 8 76 m0 ["sign"]:={}
theorem F9:FT "is_name" 9 81 m0 ["text"]:={}
theorem F10:FT "names_rise" 10 86 m0 ["names"]:={}
theorem F11:FT "joined" 11 93 m0 ["path","name"]:={}
theorem F16:FT "text_of" 16 175 m1 ["vault","number"]:={}
theorem F17:FT "entries_of" 17 182 m1 ["vault","number"]:={}
theorem F18:FT "refuse_wrong_names" 18 189 m1 ["names"]:={}
theorem F21:FT "files" 21 196 m2 ["vault","top","path"]:={}
theorem F23:FT "names_of" 23 206 m2 ["path"]:={}
theorem F24:FT "blobs_below" 24 213 m2 ["vault","top","path"]:={}
theorem F26:FT "_law_cell" 26 220 m3 ["_law_script","_law_k"]:={}
theorem F27:FT "_law_mix" 27 227 m3 ["_law_script","_law_k"]:={}
theorem F29:FT "_law_sign" 29 241 m3 ["_law_number"]:={}
theorem F30:FT "_law_line" 30 248 m3 ["_law_script","_law_k"]:={}
theorem F31:FT "_law_ends" 31 253 m3 ["_law_row_here","_law_cut"]:={}
theorem F32:FT "_law_row" 32 258 m3 ["_law_script","_law_base","_law_many"]:={}
theorem F33:FT "_law_edited" 33 265 m3 ["_law_script","_law_base","_law_row_here"]:={}
theorem F34:FT "_law_name" 34 270 m3 ["_law_script","_law_k"]:={}
theorem F35:FT "_law_lines" 35 275 m3 ["_law_text"]:={}
theorem F36:FT "_law_node" 36 282 m3 ["_law_script","_law_k","_law_deep"]:={}
theorem F37:FT "_law_folder" 37 287 m3 ["_law_script","_law_k","_law_deep"]:={}
theorem F38:FT "_law_turn" 38 292 m3 ["_law_script","_law_k","_law_node_here","_law_deep"]:={}
theorem F40:FT "_law_texts" 40 304 m3 ["_law_path","_law_node_here"]:={}
theorem F41:FT "_law_told" 41 309 m3 ["_law_vault","_law_found"]:={}
theorem F42:FT "_law_names" 42 316 m3 ["_law_row_here"]:={}
theorem F14:FT "blob" 14 163 m1 ["vault","text"]:={}
theorem F15:FT "tree" 15 168 m1 ["vault","entries"]:={}
theorem F22:FT "differences" 22 201 m2 ["vault","one","other"]:={}
theorem F39:FT "_law_store" 39 297 m3 ["_law_vault","_law_node_here"]:={}
theorem F43:FT "law" 43 321 m3 ["_law_script"]:={}
theorem Fm0:FF "__init__" "Vault.__init__" (met 0) 108 107 m1 ["self"]:={}
theorem Fm5:FF "put" "Vault.put" (met 5) 143 142 m1 ["self","made"]:={}
theorem Fm2:FF "kind" "Vault.kind" (met 2) 122 121 m1 ["self","number"]:={}
theorem Fm3:FF "held" "Vault.held" (met 3) 129 128 m1 ["self","number"]:={}
theorem Fm4:FF "content" "Vault.content" (met 4) 136 135 m1 ["self","number","wanted"]:={}
noncomputable abbrev dn(k:Nat):Fs:=den (prog) gam k
noncomputable abbrev dm(k:Nat):FsM:=iL tJ (prog) (progM) gam cV k
theorem HX(k:Nat):Br (dn (k+1)):=ah (d:=dB) rfl λns j=>by rw[run_eq rfl];exact xc ns j
theorem fA(k:Nat):fq (dn (k+2)):=ah (d:=gQ) rfl λns j=>by rw[run_eq rfl];exact Ar (HX k) ns j
theorem HY(k:Nat):xy (dn (k+1)):=ah (d:=fi) rfl λn=>by rw[run_eq rfl];exact HK n
theorem BI(k:Nat):pO (dn (k+3)):=ah (d:=fj) rfl λns j=>by rw[run_eq rfl];exact HL (fA k) (HY (k+1)) ns j
theorem Fo(k:Nat):By (dn (k+4)):=ah (d:=gR) rfl λns b n h1=>by rw[run_eq rfl];exact KQ (BI k) ns b n h1
theorem iZ(k:Nat):lq (dn (k+1)):=ah (d:=fk) rfl λrow b j m h1 h2 h3 h4=>by rw[run_eq rfl];exact HM row b j m h1 h2 h3 h4
theorem hName(k:Nat):HNm (dn (k+3)):=ah (d:=ba) rfl λns j=>by rw[run_eq rfl];exact nmE (fA k) ns j
theorem AI(k:Nat):qR (dn (k+1)):=ah (d:=aZ) rfl λc=>by rw[run_eq rfl];exact KO c
theorem AJ(k:Nat):qS (dn (k+2)):=ah (d:=dP) rfl λx h=>by rw[run_eq rfl];exact KP (AI k) rfl x h
theorem HZ(k:Nat):xq (dn (k+1)):=ah (d:=bB) rfl λxs h1=>by rw[run_eq rfl];exact HH xs h1
theorem KZ(k:Nat):HI (dn (k+3)):=ah (d:=aC) rfl λxs h1=>by rw[run_eq rfl];exact AB (AJ k) (HZ (k+1)) xs h1
theorem BJ(k:Nat):xi (dn (k+1)) cV:=ah (d:=(fu cV)) rfl λh os n d hd=>by rw[run_eq rfl];exact xk h os n d hd
theorem rD(k:Nat):xj (dn (k+2)) cV:=ah (d:=(ft cV)) rfl λh os n kk ds hd=>by rw[run_eq rfl];exact xm (BJ k) h os n kk ds hd
theorem nW(k:Nat):iU (dn (k+2)) cV:=ah (d:=(bP cV)) rfl λh os n kk d hd=>by rw[run_eq rfl];exact nD (BJ k) h os n kk d hd
theorem ja(k:Nat):nC (dn (k+3)) cV:=ah (d:=(bC cV)) rfl λh os n es hd=>by rw[run_eq rfl];exact nE (nW k) h os n es hd
theorem Ia(k:Nat):Bz (dn (k+3)) cV:=ah (d:=(dU cV)) rfl λh L j t e=>by rw[run_eq rfl];exact xG (nW k) h L j t e
theorem lG(k:Nat):rg (dn (k+1)):=ah (d:=fw) rfl λP x h1 h2=>by rw[run_eq rfl];exact pQ P x h1 h2
theorem yb(k:Nat):nN (dn (k+1)):=ah (d:=cX) rfl (by rw[run_eq rfl];exact pR)
theorem yc(k:Nat):ka (dn (k+5)) 0:=ah (d:=bJ) rfl λns j=>by rw[run_eq rfl];exact iW (fA (k+2)) (Fo k) (iZ (k+3)) 0 (λz=>absurd z (by decide)) ns j
theorem Fp(k:Nat):nK (dn (k+6)) 1:=ah (d:=bh) rfl λns j=>by rw[run_eq rfl];exact eM (fA (k+3)) (hName (k+2)) 0 (yc k) ns j
theorem yd(k:Nat):ka (dn (k+7)) 1:=ah (d:=bJ) rfl λns j=>by rw[run_eq rfl];exact iW (fA (k+4)) (Fo (k+2)) (iZ (k+5)) 1 (λa=>(Fp k)) ns j
theorem Fq(k:Nat):nK (dn (k+8)) 2:=ah (d:=bh) rfl λns j=>by rw[run_eq rfl];exact eM (fA (k+5)) (hName (k+4)) 1 (yd k) ns j
theorem ye(k:Nat):ka (dn (k+9)) 2:=ah (d:=bJ) rfl λns j=>by rw[run_eq rfl];exact iW (fA (k+6)) (Fo (k+4)) (iZ (k+7)) 2 (λa=>(Fq k)) ns j
theorem Ft(k:Nat):nK (dn (k+10)) 3:=ah (d:=bh) rfl λns j=>by rw[run_eq rfl];exact eM (fA (k+7)) (hName (k+6)) 2 (ye k) ns j
theorem lH(k:Nat):pT (dn (k+1)):=ah (d:=dW) rfl λx h1=>by rw[run_eq rfl];exact tS x h1
theorem rE(k:Nat):xR (dn (k+4)):=ah (d:=cY) rfl λns j xs h1=>by rw[run_eq rfl];exact pU (fA (k+1)) (BI k) ns j xs h1
theorem Fu(k:Nat):iY (dn (k+5)) 0:=ah (d:=aN) rfl λns j a h1=>by rw[run_eq rfl];exact fz (fA (k+2)) (hName (k+1)) (lH (k+3)) (rE k) (iZ (k+3)) 0 (by decide) nofun ns j a h1
theorem Fv(k:Nat):iY (dn (k+6)) 1:=ah (d:=aN) rfl λns j a h1=>by rw[run_eq rfl];exact fz (fA (k+3)) (hName (k+2)) (lH (k+4)) (rE (k+1)) (iZ (k+4)) 1 (by decide) (λb e=>by cases e;exact⟨(yc k),(Fu k)⟩) ns j a h1
theorem Fw(k:Nat):iY (dn (k+8)) 2:=ah (d:=aN) rfl λns j a h1=>by rw[run_eq rfl];exact fz (fA (k+5)) (hName (k+4)) (lH (k+6)) (rE (k+3)) (iZ (k+6)) 2 (by decide) (λb e=>by cases e;exact⟨(yd k),(Fv (k+1))⟩) ns j a h1
theorem Fx(k:Nat):iY (dn (k+10)) 3:=ah (d:=aN) rfl λns j a h1=>by rw[run_eq rfl];exact fz (fA (k+7)) (hName (k+6)) (lH (k+8)) (rE (k+5)) (iZ (k+8)) 3 (by decide) (λb e=>by cases e;exact⟨(ye k),(Fw (k+1))⟩) ns j a h1
theorem AK(k:Nat):fT (dn (k+1)) 1:=ah (d:=bE) rfl λP es a b=>by rw[run_eq rfl];exact fU 0 (by decide) (λz=>absurd z (by decide)) P es a b
theorem AL(k:Nat):fT (dn (k+2)) 2:=ah (d:=bE) rfl λP es a b=>by rw[run_eq rfl];exact fU 1 (by decide) (λc=>(AK k)) P es a b
theorem AM(k:Nat):fT (dn (k+3)) 3:=ah (d:=bE) rfl λP es a b=>by rw[run_eq rfl];exact fU 2 (by decide) (λc=>(AL k)) P es a b
theorem Ib(k:Nat):xD (dn (k+4)) cV 1:=ah (d:=(aF cV)) rfl λh L i P es a b c d=>by rw[run_eq rfl];exact fV (ja k) (rD (k+1)) (lG (k+2)) 0 (by decide) (λz=>absurd z (by decide)) h L i P es a b c d
theorem Ic(k:Nat):xD (dn (k+5)) cV 2:=ah (d:=(aF cV)) rfl λh L i P es a b c d=>by rw[run_eq rfl];exact fV (ja (k+1)) (rD (k+2)) (lG (k+3)) 1 (by decide) (λe=>(Ib k)) h L i P es a b c d
theorem Ie(k:Nat):xD (dn (k+6)) cV 3:=ah (d:=(aF cV)) rfl λh L i P es a b c d=>by rw[run_eq rfl];exact fV (ja (k+2)) (rD (k+3)) (lG (k+4)) 2 (by decide) (λe=>(Ic k)) h L i P es a b c d
theorem Fy(k:Nat):xF (dn (k+7)) cV:=ah (d:=gW) rfl λh L i es a b c=>by rw[run_eq rfl];exact tP (yb (k+5)) (Ie k) h L i es a b c
theorem La(k:Nat):Fe (dn (k+1)):=ah (d:=dX) rfl λns x y a=>by rw[run_eq rfl];exact AF ns x y a
theorem Ig(k:Nat):xP (dn (k+4)) cV:=ah (d:=fx) rfl λh L a b x y l z=>by rw[run_eq rfl];exact xQ (Ia k) h L a b x y l z
theorem BK(k:Nat):Bw (dm (k+1)):=fv (d:=lg) rfl rfl λL x hz=>by rw[dQ rfl];exact xw (qW _) L x hz
theorem BL(k:Nat):Bv (dm (k+4)):=fv (d:=(lh cV)) rfl rfl λL es h1 h2 h3=>by rw[dQ rfl];exact xu (KZ k) (rD (k+1)) (qW _) L es h1 h2 h3
theorem yf:∀(m k:Nat),lu (dm (k+m+5)) m
 |0,k=>fv (k:=k+4) (d:=cw) rfl rfl λL n a b=>by rw[dQ rfl];exact ke (BK (k+3)) (BL k) 0 (λc z=>by cases z) L n a b
 |m+1,k=>fv (k:=k+m+5) (d:=cw) rfl rfl λL n a b=>by rw[dQ rfl];exact ke (BK (k+m+4)) (BL (k+m+1)) (m+1) (λc z=>by cases z;exact yf m k) L n a b
theorem Ih(k:Nat):xN (dm (k+8)):=fv (d:=aO) rfl rfl λL i j es fs a b c d e f=>by rw[dQ rfl];exact xO (Fy k) L i j es fs a b c d e f
theorem holds(ns:List Int)(hl:ns.length<=63):∃U,nF (dn 37) (dm 37) gam cV cy [] [.scr ns]=some (U,.ok (.bool true)):=HW (fA 35) (Ft 27) (Fx 27) (yf 3 29) (AM 34) (Ih 29) (La 36) (Ig 33) ns
set_option maxHeartbeats 0 in
theorem all_mk{w:World}{fa:Addr}(P:Params)(X:(kk P).In h)(G:h.Ns mainGlobals mg)(hfa:mg "law"=some (.ref fa)):
  ∃fd:FuncData,(∀(s:Shared)(v:Value),BindsTo s fd ⟨[v],[]⟩ [("_law_script",v)])/\∀base:Heap,(kk P).In base->base.Ns mainGlobals mg->FnOk PySem.Challenge.pw_strata_k52_differences w (kk P) mg base CX0 40 fa fd ["_law_script"] (iO (kk P)):=by
 have e:=hfa.symm.trans (PySem.W.mg_of X G (by kernel_rfl:PySem.W.nsIn (kk P) mainGlobals "law"=some (some (.ref 322))));cases e;have cls:Cls (kk P) cV:=⟨(by kernel_rfl),(by kernel_rfl),(by kernel_rfl),(by kernel_rfl)⟩;have v5:PySem.W.findIn (kk P) (.ref cV) "objects"=some none:=by kernel_rfl
 have v6:PySem.W.findIn (kk P) (.ref cV) "numbers"=some none:=by kernel_rfl
 have T0:=mkT (P:=P) Fm0;have T5:=mkT (P:=P) Fm5;have T2:=mkT (P:=P) Fm2;have T3:=mkT (P:=P) Fm3;have T4:=mkT (P:=P) Fm4;have defs:∀x d,env.fns.contains x=true->prog.lookup x=some d->sW (kk P) mg env.fns env.cst (some env.c) env.vms x d:=λx d hx hl=>gU (Q:=λx d=>env.fns.contains x=true->sW (kk P) mg env.fns env.cst (some env.c) env.vms x d) (prog:=prog) ⟨λa=>mkD F8 X G,λa=>mkD F9 X G,λa=>mkD F10 X G,λa=>mkD F11 X G,λa=>mkD F16 X G,λa=>mkD F17 X G,λa=>mkD F18 X G,λa=>mkD F21 X G,λa=>mkD F23 X G,λa=>mkD F24 X G,λa=>mkD F26 X G,λa=>mkD F27 X G,λa=>mkD F29 X G,λa=>mkD F30 X G,λa=>mkD F31 X G,λa=>mkD F32 X G,λa=>mkD F33 X G,λa=>mkD F34 X G,λa=>mkD F35 X G,λa=>mkD F36 X G,λa=>mkD F37 X G,λa=>mkD F38 X G,λa=>mkD F40 X G,λa=>mkD F41 X G,λa=>mkD F42 X G,λz=>absurd (Eq.trans (by kernel_rfl:false=env.fns.contains (aq "kind")) z) fx0,λz=>absurd (Eq.trans (by kernel_rfl:false=env.fns.contains (aq "held")) z) fx0,λz=>absurd (Eq.trans (by kernel_rfl:false=env.fns.contains (aq "content")) z) fx0,trivial⟩ x d hl hx
 have mets:∀c m d,some env.c=some c->env.vms.contains m=true->prog.lookup (aq m)=some d->sX (kk P) env.fns env.cst c env.vms m d:=λc m d hc hm hl=>by
  cases hc;exact gU (Q:=λx d=>∀m,x=aq m->env.vms.contains m=true->sX (kk P) env.fns env.cst env.c env.vms m d) (prog:=prog) ⟨λa z h=>nv z h,λa z h=>nv z h,λa z h=>nv z h,λa z h=>nv z h,λa z h=>nv z h,λa z h=>nv z h,λa z h=>nv z h,λa z h=>nv z h,λa z h=>nv z h,λa z h=>nv z h,λa z h=>nv z h,λa z h=>nv z h,λa z h=>nv z h,λa z h=>nv z h,λa z h=>nv z h,λa z h=>nv z h,λa z h=>nv z h,λa z h=>nv z h,λa z h=>nv z h,λa z h=>nv z h,λa z h=>nv z h,λa z h=>nv z h,λa z h=>nv z h,λa z h=>nv z h,λa z h=>nv z h,λm z a=>dR z▸mkV Fm2 T2,λm z a=>dR z▸mkV Fm3 T3,λm z a=>dR z▸mkV Fm4 T4,trivial⟩ _ d hl m rfl hm
 have L22:jS (kk P) mg env "differences" aO:=⟨⟨_,_,_,_,some (199,"differences.<locals>.<lambda>"),F22.fn P,mo X G,(F22.fn P).binds F22.b,pX F22.s,F22.d,by kernel_rfl,rfl,λPt q z=>by
  cases z;exact⟨by decide,by decide,λbase kb a=>⟨⟨201,rfl,kO "differences" "differences" 423 84 3 4 201 false,_,_,_,_,_,_,_,_,kb _ _ (by kernel_rfl),rfl,rfl,rfl,rfl,rfl,rfl,rfl,rfl,by decide⟩,4,⟨.type "module",some 0,.plain,#[]⟩,mo X G,by decide,by decide,by decide,kb _ _ (by kernel_rfl),rfl,rfl,rfl⟩⟩⟩⟩
 have defm:∀x d,env.mfs.contains x=true->progM.lookup x=some d->jS (kk P) mg env x d:=λx d hx hl=>gU (Q:=λx d=>env.mfs.contains x=true->jS (kk P) mg env x d) (prog:=progM) ⟨λa=>mkM F14 X G,λa=>mkM F15 X G,λa=>L22,λa=>mkM F39 X G,λa=>mkM F43 X G,trivial⟩ x d hl hx
 have blt:∀x∈bltNames,mg x=none:=qU (xs:=bltNames) ⟨mn X G,mn X G,mn X G,mn X G,mn X G,mn X G,mn X G,mn X G,mn X G,mn X G,mn X G,mn X G,mn X G,mn X G,mn X G,mn X G,mn X G,trivial⟩;have gl:∀x d,gam.lookup x=some d->∃u v,mg x=some u/\RelV v u/\∀G,Dp (kk P) G d v:=qV (prog:=gam) ⟨⟨.int 12 264,.int 12,mo X G,⟨_,rfl⟩,λa=>.int _⟩,⟨.int 20 412,.int 20,mo X G,⟨_,rfl⟩,λa=>.int _⟩,trivial⟩;have B:Base (kk P) mg gam (some env.c):=⟨blt,gl,λc hc=>by cases hc;exact⟨cls,v5⟩⟩;refine⟨PySem.W.fnOf "law" "law" (defArgs (top 43)) (defBody (top 43)) (defScope (top 43)) .none .none .none m3 none (.ref 321) .none,λs v=>.of_eq rfl,λbase kb1 kb2=>?_⟩
 have VZ:xa PySem.Challenge.pw_strata_k52_differences w (kk P) mg base cV "Vault":=⟨⟨_,_,⟨(by kernel_rfl),T0.1,T0.2,(by kernel_rfl)⟩,mo X G,by decide,(Fm0.fn P).binds Fm0.b,Ao (Fm0.fn P) (pX Fm0.s) ti cls v5 v6⟩⟩;have BM:wV PySem.Challenge.pw_strata_k52_differences w (kk P) mg base tJ env:=⟨λX e1 e2 e3 e4 e5 r g Y U p pos=>Ap (by rw[e1,e2,e3,e4,e5];exact VZ) r g,λm L h=>by
   obtain⟨h1,rfl⟩:=Aw h;obtain rfl:=dR h1;exact⟨⟨⟨_,_,_,cls,T5,(Fm5.fn P).binds Fm5.b,ET (Fm5.fn P) (pX Fm5.s) tp (mn X G) cls v5 v6⟩⟩,rfl,by decide,by decide⟩,
  λx hx=>if_neg λz=>by
   subst z;exact absurd (Eq.trans (by kernel_rfl:false=env.mfs.contains (aq "put")) hx) fx0,
  λm hm=>by
   obtain rfl:m=("put":Str):=by simpa [env]using hm
   exact nofun⟩
 have M:=Ak (P:=PySem.Challenge.pw_strata_k52_differences) (w:=w) (base:=base) (Γ:=gam) (prog:=prog) (progM:=progM) B BM ⟨kb1,kb2⟩ defs mets defm 37;exact Al (wU (F43.fn P) (pX F43.s) F43.d (by kernel_rfl:mZ env [true] (top 43) none=some cy) rfl M nofun) rfl λns hl=>by
  obtain⟨U,hU⟩:=holds ns hl;exact⟨U,by rw[dQ rfl];exact hU⟩
theorem tK{P:Params}(Y:PySem.W.Frag.In (kT P) h):(kk P).In h:=λa o e=>Y a o (by rw[kT,List.lookup_append,e];rfl)
theorem tT{P:Params}(Y:PySem.W.Frag.In (kT P) h):∀p∈lamTs,(kk P).lookup p.1=none/\h.get? p.1=some (PySem.W.tabObj #[])/\PySem.isCodeTable h p.1/\lamTs.lookup p.1=some p.2:=λp hp=>by
 obtain rfl:=List.mem_singleton.mp hp;exact⟨by kernel_rfl,Y _ _ (by kernel_rfl),⟨201,kO "differences" "differences" 423 84 3 4 201 false,_,Y _ _ (by kernel_rfl),rfl,rfl,rfl⟩,rfl⟩
end K52
open PySem PySem.W PySem.W.X PyProof.Rows K52
set_option maxRecDepth 100000 in
set_option maxHeartbeats 0 in
theorem PySem.Challenge.cw_strata_k52_differences_holds : PySem.Challenge.rw_strata_k52_differences.Holds := by
 w_on
 refine PySem.W.holds_law (by decide +kernel) λsaid=>?_
 refine PySem.W.holds_openX (q:=vw) (loose:=lo) (Xt:=λs=>xlAt vw [] s&&recOk (RowW.records (OpenRow.toRowW PySem.Challenge.rw_strata_k52_differences.row)) s) (XP:=XL vw []) (Yf:=obsZ ads) (Ya:=valZ kT 323 591) (d:=CJ) (kwd:=[]) (N:=4576) hl (λs e=>xl_of s (ax0 e).1) XL.keeps (by kernel_rfl) (by kernel_rfl) (by kernel_rfl) (λs e=>recFacts_of (ax0 e).2) (by rfl) said (by decide +kernel) ⟨rfl,rfl,rfl,rfl,rfl,by decide +kernel⟩ ?hw ?hc
 case hw=>w_witness2
 case hc=>exact L2.Z.walkX (λP=>by kernel_rfl) (L2.Z.walkM (l:=PySem.Challenge.rw_strata_k52_differences) rfl rfl (λw h Y=>tK Y) (λw mg fa h KX G hmg=>K52.all_mk w.params KX G hmg) λw h Y=>tT Y)

end
end

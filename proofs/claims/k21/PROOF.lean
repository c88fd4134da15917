import PyProof.Rows.All
import Wide.All
import OpenK.AllK
import Wide.FinOn
import PySem.Challenge.RW_strata_k21_whole_best_common
set_option tactic.hygienic false
set_option genSizeOf false
set_option compiler.extract_closed false
set_option bootstrap.genMatcherCode false
set_option Elab.async false
set_option linter.all false
set_option maxRecDepth 100000
noncomputable section
def zn0 {α:Type}{P:Prop}{e:α}(h:none=some e):P:=nomatch h
def gi0 {α:Type}{l:List α}{i:Nat}{a:α}:l[i]?=some a->∃h:i<l.length,l[i]=a:=List.getElem?_eq_some_iff.1
def bf0 {a:Bool}:¬a=true->a=false:=Bool.eq_false_iff.2
def is0 {α:Type}{x:Option α}:x.isSome=true->∃a,x=some a:=Option.isSome_iff_exists.1
def lp0 {α:Type}{l:List α}:l≠[]->0<l.length:=List.length_pos_iff.2
def bn0 {α:Type}[BEq α][LawfulBEq α]{a b:α}:a≠b->(a==b)=false:=beq_eq_false_iff_ne.2
abbrev wb0:=@PySem.wpAny_bind
abbrev wq0:=@PySem.wpAny_pure
abbrev wh0:=@PySem.wpAny_holding
abbrev fg0:=@PySem.W.Frag
abbrev ml0:=@PySem.mem_of_lookup
abbrev hu0:=@PySem.Heap.get?_update_self
abbrev ez0:=@List.eq_nil_of_length_eq_zero
abbrev ui0:=@PySem.Around.under_plainId
def bx0 {α β:Type}{f:α->Option β}{b:β}{x:Option α}:x.bind f=some b->∃a,x=some a/\f a=some b:=Option.bind_eq_some_iff.1
def mx0 {α β:Type}{f:α->β}{b:β}{x:Option α}:x.map f=some b->∃a,x=some a/\f a=b:=Option.map_eq_some_iff.1
def ax0 {a b:Bool}:(a&&b)=true->a=true/\b=true:=Bool.and_eq_true_iff.1
def fx0:false≠true:=Bool.false_ne_true
def mm0 {α β:Type}{f:α->β}{l:List α}{b:β}:b∈l.map f->∃a,a∈l/\f a=b:=List.mem_map.1
def ma0 {α:Type}{a:α}{s t:List α}:a∈s++t->a∈s\/a∈t:=List.mem_append.1
def mq0 {α:Type}{a b:α}{l:List α}:a∈b::l->a=b\/a∈l:=List.mem_cons.1
abbrev bs0:=@Option.bind_some
abbrev mc0:=@List.mem_cons_of_mem
abbrev ps0:=@PySem.Heap.get?_push_of_some
abbrev ms0:=@List.mem_cons_self
abbrev lm0:=@List.length_map
abbrev ls0:=@List.size_toArray
abbrev ge0:=@List.getElem?_eq_getElem
abbrev hs0:=@PySem.Heap.lt_size
abbrev nr0:=@Nat.le_refl
abbrev nl0:=@Nat.lt_of_lt_of_le
abbrev pz0:=@PySem.Heap.get?_push_size
abbrev lc0:=@List.length_cons
abbrev nt0:=@Nat.le_trans
abbrev gn0:=@List.getElem?_set_ne
abbrev nn0:=@Nat.ne_of_lt
abbrev be0:=@Bool.and_eq_true
abbrev df0:=@decide_eq_false
abbrev dt0:=@decide_eq_true
abbrev od0:=@of_decide_eq_true
abbrev gm0:=@List.getElem?_map
abbrev lk0:=@List.lookup_cons
abbrev mo0:=@Option.map_some
abbrev mk0:=@List.map_cons
abbrev li0:=@Nat.lt_irrefl
abbrev al0:=@Array.length_toList
abbrev la0:=@List.length_append
abbrev mr0:=@List.mem_append_right
abbrev gs0:=@List.getElem?_set_self
abbrev mg0:=@List.mem_of_getElem?
abbrev gl0:=@List.getElem?_append_left
abbrev el0:=@Int.emod_lt_of_pos
abbrev en0:=@Int.emod_nonneg
abbrev lr0:=@List.length_range
namespace L2
open PySem
noncomputable def lamTs:List (Nat×Str):=[(206,"best_common.<locals>.<lambda>")]
def Fm:(lamTs.map (·.1)).Nodup:=by decide
end L2
namespace L2
open PySem PySem.Spec PyProof.Rows
noncomputable abbrev Key:=Sum Int Str
noncomputable def gd:Key->Value->Bool
 |.inl k,v=>Value.isInt k v
 |.inr x,v=>Value.isStrOf x v
noncomputable def Ip (w:World):Key->Int
 |.inl k=>hashInt k
 |.inr x=>hashStr w x
def keyIs_shape:∀{k:Key} {v:Value},gd k v=true->(∃i t,k=Sum.inl i/\v=Value.int i t)\/(∃x t,k=Sum.inr x/\v=Value.str x t)
 |.inl i,v,h=>by
  obtain⟨t,e⟩:=Value.isInt_shape h;exact .inl ⟨i,t,rfl,e⟩
 |.inr x,v,h=>by
  obtain⟨t,e⟩:=Value.isStrOf_shape h;exact .inr ⟨x,t,rfl,e⟩
def qU (i:Int)(t:Tok):gd (.inl i) (.int i t)=true:=by simp[gd,Value.isInt]
def qV (x:Str)(t:Tok):gd (.inr x) (.str x t)=true:=by simp[gd,Value.isStrOf]
def Cd (a b:Int):decide ((Sum.inl a:Key)=Sum.inl b)=(a==b):=by
 by_cases e:a=b<;>simp_all
def Ce (a b:Str):decide ((Sum.inr a:Key)=Sum.inr b)=decide (a=b):=by
 simp
def Cf (a:Int)(b:Str):decide ((Sum.inl a:Key)=Sum.inr b)=false:=df0 (fun q=>nomatch q)
def Cg (a:Str)(b:Int):decide ((Sum.inr a:Key)=Sum.inl b)=false:=df0 (fun q=>nomatch q)
noncomputable def aD (prog:Program)(w:World):PySem.KeyKind prog w Key where
 is:=gd
 hash:=Ip w
 inj:=fun v a b ha hb=>by
  rcases keyIs_shape ha with⟨i,t,rfl,rfl⟩|⟨x,t,rfl,rfl⟩
  ·rcases keyIs_shape hb with⟨j,u,rfl,e⟩|⟨y,u,rfl,e⟩
   ·injection e with e1 _;rw[e1]
   ·exact nomatch e
  ·rcases keyIs_shape hb with⟨j,u,rfl,e⟩|⟨y,u,rfl,e⟩
   ·exact nomatch e
   ·injection e with e1 _;rw[e1]
 byValue:=fun k v h=>by
  rcases keyIs_shape h with⟨i,t,rfl,rfl⟩|⟨x,t,rfl,rfl⟩<;>rfl
 pyHash:=fun hv h=>by
  rcases keyIs_shape hv with⟨i,t,rfl,rfl⟩|⟨x,t,rfl,rfl⟩
  ·exact wpAny_pyHash_int h
  ·exact wpAny_pyHash_str h
 eqBool:=fun hu hv h=>by
  rcases keyIs_shape hu with⟨i,t,rfl,rfl⟩|⟨x,t,rfl,rfl⟩
  ·rcases keyIs_shape hv with⟨j,u,rfl,rfl⟩|⟨y,u,rfl,rfl⟩
   ·rw[Cd] at h;exact wpAny_eqBool_int h
   ·rw[Cf] at h;exact SeqAt.EqAt.int_str i t y u _ _ _ _ h
  ·rcases keyIs_shape hv with⟨j,u,rfl,rfl⟩|⟨y,u,rfl,rfl⟩
   ·rw[Cg] at h;exact SeqAt.EqAt.str_int x t j u _ _ _ _ h
   ·rw[Ce] at h;exact wpAny_eqBool_str h
 «strs»:=fun k x t v h=>by
  rcases keyIs_shape h with⟨i,u,rfl,e⟩|⟨y,u,rfl,e⟩
  ·exact nomatch e
  ·injection e with e1 _
   subst e1;cases v<;>rfl
def lB (prog:Program)(w:World)(i:Int)(t:Tok):(aD prog w).is (.inl i) (.int i t)=true:=qU i t
def lC (prog:Program)(w:World)(x:Str)(t:Tok):(aD prog w).is (.inr x) (.str x t)=true:=qV x t
inductive V where
 |non|bl (b:Bool)|int (i:Int)|str (x:Str)|byt (b:Array UInt8)|flt (b:UInt64)|ref (a:Addr)|ty (n:String)
 deriving DecidableEq
noncomputable def RelV:V->Value->Prop
 |.non,u=>u=Value.none
 |.bl b,u=>u=Value.bool b
 |.int i,u=>∃t,u=Value.int i t
 |.str x,u=>∃t,u=Value.str x t
 |.byt b,u=>∃t,u=Value.bytes b t
 |.flt b,u=>∃t,u=Value.float b t
 |.ref a,u=>u=Value.ref a
 |.ty n,u=>u=Value.type n
noncomputable abbrev Vals:List V->List Value->Prop:=Paired RelV
theorem Vals.length {xs:List V}{us:List Value}(r:Vals xs us):xs.length=us.length:=Paired.length r
theorem Vals.get:∀{xs:List V} {us:List Value} {i:Nat} {x:V},Vals xs us->xs[i]?=some x->∃u,us[i]?=some u/\RelV x u
 |_,_,_,_,.nil,e=>by simp at e
 |_,_,0,_,.cons r _,e=>by simp at e;subst e;exact⟨_,rfl,r⟩
 |_,_,i+1,x,.cons _ t,e=>by
  obtain⟨u,h1,h2⟩:=Vals.get t (by simpa using e);exact⟨u,by simpa using h1,h2⟩
theorem Vals.set {x:V}{u:Value}(r:RelV x u):∀{xs:List V} {us:List Value} (i:Nat),Vals xs us->Vals (xs.set i x) (us.set i u)
 |_,_,_,.nil=>.nil
 |_,_,0,.cons _ t=>.cons r t
 |_,_,i+1,.cons q t=>.cons q (Vals.set r i t)
theorem Vals.append:∀{xs ys:List V} {us ws:List Value},Vals xs us->Vals ys ws->Vals (xs++ys) (us++ws)
 |_,_,_,_,.nil,s=>s
 |_,_,_,_,.cons r t,s=>.cons r (Vals.append t s)
theorem Vals.take:∀{xs:List V} {us:List Value} (n:Nat),Vals xs us->Vals (xs.take n) (us.take n)
 |_,_,0,_=>.nil
 |_,_,_+1,.nil=>.nil
 |_,_,n+1,.cons r t=>.cons r (Vals.take n t)
theorem Vals.drop:∀{xs:List V} {us:List Value} (n:Nat),Vals xs us->Vals (xs.drop n) (us.drop n)
 |_,_,0,r=>r
 |_,_,_+1,.nil=>.nil
 |_,_,n+1,.cons _ t=>Vals.drop n t
def Vals.none_of:∀{xs:List V} {us:List Value} {i:Nat},Vals xs us->xs[i]?=none->us[i]?=none:=fun {xs us i} r e=>by
 have h1:=r.length;have h2:xs.length≤i:=List.getElem?_eq_none_iff.mp e;exact List.getElem?_eq_none_iff.mpr (by omega)
noncomputable def RelO:Option V->Option Value->Prop
 |some v,some u=>RelV v u
 |none,none=>True
 |_,_=>False
noncomputable def KV {κ:Type}:List (κ×V)->List (κ×Value)->Prop:=Paired fun (p:κ×V) (q:κ×Value)=>p.1=q.1/\RelV p.2 q.2
noncomputable def kV:Key->V
 |.inl i=>.int i
 |.inr x=>.str x
inductive HO where
 |lst (xs:List V)
 |tup (xs:List V)
 |dK (kvs:List (Key×V))|dT (kvs:List (List Key×V))
 |set (S:Int->Bool) (n:Nat)
 |ins (C dx:Addr) (fs:List (Str×V))
 |own (x:Addr)
 |xd (fs:List (Str×V))
 |met (f x:Addr)
 |rng (lo hi:Int)
 |frz (o:Obj) (u:HO)
 |tbl (q:Str) (ps:Array Value)
 |ext (φ:Heap->Prop)
noncomputable abbrev Hp:=Addr->Option HO
noncomputable def upd (H:Hp)(a:Addr)(o:HO):Hp:=fun b=>if b=a then some o else H b
def ae {H:Hp}{a:Addr}{o:HO}:upd H a o a=some o:=by unfold upd;simp
def aa {H:Hp}{a b:Addr}{o:HO}(h:b≠a):upd H a o b=H b:=by unfold upd;rw[if_neg h]
def Fo {H:Hp}{a b:Addr}{o u:HO}(h:H a=some o)(h':H b=some u)(d:o≠u):a≠b:=by
 intro e;subst e;rw[h] at h';exact d (Option.some.inj h')
def ag {H:Hp}{a b:Addr}{o:HO}(h:H a=some o)(h':H b=none):a≠b:=by
 intro e;simp_all
section
variable (P:Program)(w:World)
noncomputable def ObjOk (H:Hp)(h:Heap)(a:Addr):HO->Prop
 |.lst xs=>xs.length≤sizeLine/\∃(its:List Value) (n:Nat),Vals xs its/\h.get? a=some {cls:=.type "list",data:=.seq its.toArray n}
 |.tup xs=>xs.length≤sizeLine/\∃its:List Value,Vals xs its/\IsTup h a its.toArray
 |.dK kvs=>kvs.length≤sizeLine/\(a==sysModules)=false/\∃vs,KV kvs vs/\h.DictOf (aD P w) a vs
 |.dT kvs=>kvs.length≤sizeLine/\(a==sysModules)=false/\∃xs:List (List Key×Addr×Value),
   Paired (fun (p:List Key×V) (q:List Key×Addr×Value)=>p.1=q.1/\H q.2.1=some (.tup (p.1.map kV))/\RelV p.2 q.2.2) kvs xs/\
   ∃o es ep,h.get? a=some o/\o.ExactDict/\o.data=.dict es ep/\es.toList=xs.map (entryOfKey (tupleKind (aD P w)))/\(xs.map (·.1)).Nodup
 |.set S n=>h.SetOf (intKind P w) a S n
 |.ins C dx fs=>H dx=some (.own a)/\fs.length≤1000/\dx≠a/\h.get? a=some (PySem.W.instObj C dx)/\
   ∃mA,h.Ns1 dx mA/\(∀f,RelO (fs.lookup f) (mA f))/\PySem.Within mA (fs.map (·.1))
 |.own _=>∃o,h.get? a=some o
 |.xd fs=>∃mA,h.Ns1 a mA/\∀f,RelO (fs.lookup f) (mA f)
 |.rng lo hi=>∃t u v,h.get? a=some {cls:=.type "range",data:=.fields #[.int lo t,.int hi u,.int 1 v]}
 |.frz o u=>h.get? a=some o/\ObjOk H h a u
 |.tbl q ps=>h.get? a=some {cls:=.none,data:=.fields ps}/\TriplesOk ps.toList/\∀pos cv,codeAmong pos ps.toList=some cv->∃c o vs t u,cv=.ref c/\H c=some (.frz o u)/\o.data=.fields vs/\vs[1]?=some (.str q t)
 |.met f x=>h.get? a=some (PySem.W.methodObj (.ref f) (.ref x))
 |.ext φ=>φ h/\(∃o,h.get? a=some o)/\∀h1 h2:Heap,φ h1->(∀o,h1.get? a=some o->h2.get? a=some o)->φ h2
def HOk (H:Hp)(h:Heap):Prop:=∀a o,H a=some o->ObjOk P w H h a o
end
section
variable {P:Program}{w:World}{H H':Hp}{h h':Heap}{a:Addr}{o:HO}
theorem ObjOk.lt (x:ObjOk P w H h a o):a<h.objs.size:=by
 cases o with
 |lst xs=>obtain⟨_,_,_,_,e⟩:=x;exact hs0 e
 |tup xs=>obtain⟨_,_,_,p⟩:=x;exact p.lt
 |dK kvs=>obtain⟨_,_,_,_,o,_,_,e,_⟩:=x;exact hs0 e
 |dT kvs=>obtain⟨_,_,_,_,o,_,_,e,_⟩:=x;exact hs0 e
 |set S n=>obtain⟨o,_,_,_,e,_⟩:=x;exact hs0 e
 |ins C dx fs=>obtain⟨_,_,_,e,_⟩:=x;exact hs0 e
 |own y=>obtain⟨_,e⟩:=x;exact hs0 e
 |xd fs=>obtain⟨_,⟨_,_,_,e,_⟩,_⟩:=x;exact hs0 e
 |rng lo hi=>obtain⟨_,_,_,e⟩:=x;exact hs0 e
 |frz ob u=>obtain⟨e,_⟩:=x;exact hs0 e
 |tbl q ps=>exact hs0 x.1
 |met f y=>exact hs0 (x)
 |ext φ=>obtain⟨_,⟨_,e⟩,_⟩:=x;exact hs0 e
theorem Paired.mapP {α β:Type}{F G:α->β->Prop}:∀{l₁:List α} {l₂:List β},Paired F l₁ l₂->(∀a b,F a b->G a b)->Paired G l₁ l₂
 |_,_,.nil,_=>.nil
 |_,_,.cons r t,f=>.cons (f _ _ r) (Paired.mapP t f)
def ObjOk.stay (x:ObjOk P w H h a o)(k:∀b u,(b=a\/H b=some (.own a))->h.get? b=some u->h'.get? b=some u)
  (ho:∀b,H b=some (.own a)->H' b=some (.own a)) (ht:∀b o,((∃xs,o=.tup xs)\/∃ob u,o=.frz ob u)->H b=some o->H' b=some o):ObjOk P w H' h' a o:=by
 induction o with
 |lst xs=>obtain⟨z,its,n,r,e⟩:=x;exact⟨z,its,n,r,k _ _ (.inl rfl) e⟩
 |tup xs=>obtain⟨z,its,r,ob,e,c⟩:=x;exact⟨z,its,r,ob,k _ _ (.inl rfl) e,c⟩
 |dK kvs=>obtain⟨z,y,vs,r,ob,es,ep,e,c⟩:=x;exact⟨z,y,vs,r,ob,es,ep,k _ _ (.inl rfl) e,c⟩
 |dT kvs=>
  obtain⟨z,y,xs,r,ob,es,ep,e,c⟩:=x;exact⟨z,y,xs,Paired.mapP r fun p q z=>⟨z.1,ht _ _ (.inl ⟨_,rfl⟩) z.2.1,z.2.2⟩,ob,es,ep,k _ _ (.inl rfl) e,c⟩
 |set S n=>obtain⟨ob,es,ep,t,e,c⟩:=x;exact⟨ob,es,ep,t,k _ _ (.inl rfl) e,c⟩
 |ins C dx fs=>
  obtain⟨d,z,ne,e,mA,⟨od,es,ep,e2,c⟩,r⟩:=x;exact⟨ho _ d,z,ne,k _ _ (.inl rfl) e,mA,⟨od,es,ep,k _ _ (.inr d) e2,c⟩,r⟩
 |own y=>obtain⟨ob,e⟩:=x;exact⟨ob,k _ _ (.inl rfl) e⟩
 |xd fs=>obtain⟨mA,⟨od,es,ep,e,c⟩,r⟩:=x;exact⟨mA,⟨od,es,ep,k _ _ (.inl rfl) e,c⟩,r⟩
 |rng lo hi=>obtain⟨t,u,v,e⟩:=x;exact⟨t,u,v,k _ _ (.inl rfl) e⟩
 |frz ob u ih=>obtain⟨e,q⟩:=x;exact⟨k _ _ (.inl rfl) e,ih q⟩
 |tbl q ps=>
  obtain⟨e,t,c⟩:=x;refine⟨k a _ (.inl rfl) e,t,fun pos cv hc=>?_⟩;obtain⟨c',o,vs,tk,u,rfl,h1,h2⟩:=c pos cv hc;exact⟨c',o,vs,tk,u,rfl,ht _ _ (.inr ⟨_,_,rfl⟩) h1,h2⟩
 |met f y=>
  have e:=x;exact k a _ (.inl rfl) e
 |ext φ=>obtain⟨p,⟨o,e⟩,st⟩:=x;exact⟨st _ _ p fun o q=>k _ _ (.inl rfl) q,⟨o,k _ _ (.inl rfl) e⟩,st⟩
theorem HOk.lt (x:HOk P w H h)(e:H a=some o):a<h.objs.size:=(x a o e).lt
def HOk.fresh (x:HOk P w H h)(e:h.objs.size≤a):H a=none:=by
 cases q:H a with
 |none=>rfl
 |some u=>exact absurd (nl0 (x.lt q) e) (li0 _)
def HOk.kept (x:HOk P w H h)(k:∀b u,h.get? b=some u->h'.get? b=some u):HOk P w H h':=fun a o e=>
 (x a o e).stay (fun b u c q=>k b u q) (fun c q=>q) fun c c c q=>q
def HOk.laid (x:HOk P w H h)(k:∀b u,h.get? b=some u->h'.get? b=some u)(hp:h.objs.size≤a)(new:ObjOk P w (upd H a o) h' a o):HOk P w (upd H a o) h':=fun b u e=>by
 have hn:=x.fresh hp
 by_cases hb:b=a
 ·subst hb;rw[ae] at e;simp_all
 ·rw[aa hb] at e
  exact (x b u e).stay (fun c v d q=>k c v q) (fun c q=>by rwa [aa (ag q hn)]) fun c o d q=>by rwa [aa (ag q hn)]
end
def Rd (H:Hp)(a:Addr)(u:HO):Prop:=H a=some u\/∃o,H a=some (.frz o u)
def Rd.ok {P:Program}{w:World}{H:Hp}{h:Heap}{a:Addr}{u:HO}(r:Rd H a u)(x:HOk P w H h):ObjOk P w H h a u:=by
 rcases r with r|⟨o,r⟩
 ·exact x a u r
 ·obtain⟨_,q⟩:=x a _ r
  exact q
noncomputable def Mut:Option HO->Prop
 |some (.lst _)=>True
 |some (.dK _)=>True
 |some (.dT _)=>True
 |some (.set _ _)=>True
 |some (.ins _ _ _)=>True
 |some (.ext _)=>True
 |_=>False
section
variable {P:Program}{w:World}{H:Hp}{h h':Heap}{x e:Addr}{o':HO}
def HOk.write (ok:HOk P w H h)(mu:Mut (H x))(he:e=x\/H e=some (.own x))(k:∀b u,b≠e->h.get? b=some u->h'.get? b=some u)(heo:∃u,h'.get? e=some u)
  (new:ObjOk P w (upd H x o') h' x o'):HOk P w (upd H x o') h':=fun b u q=>by
 have nown:∀c y,H c=some (.own y)->c≠x:=fun c y r z=>by subst z;rw[r] at mu;exact mu
 have ntup:∀c o,((∃xs,o=HO.tup xs)\/∃ob u,o=HO.frz ob u)->H c=some o->c≠x:=fun c o f r z=>by
  subst z;rw[r] at mu;rcases f with⟨_,rfl⟩|⟨_,_,rfl⟩<;>exact mu
 by_cases hb:b=x
 ·subst hb;rw[ae] at q;simp_all
 ·rw[aa hb] at q
  by_cases hbe:b=e
  ·have q':H b=some (.own x):=by
    rcases he with z|z
    ·exact absurd (hbe.trans z) hb
    ·rw[hbe];exact z
   rw[q] at q';cases q';obtain⟨v,hv⟩:=heo;exact⟨v,by rw[hbe];exact hv⟩
  ·refine (ok b u q).stay (fun c v hc r=>k c v ?_ r) (fun c r=>by rw[aa (nown c b r)];exact r) fun c o f r=>by rw[aa (ntup c o f r)];exact r
   grind
end
structure Un (fs ex:List Addr)(H H':Hp)(h h':Heap):Prop where
 keep:∀b o,h.get? b=some o->H b=none->b∉fs->b∉ex->h'.get? b=some o
 slot:∀b o,h.get? b=some o->H b=none->b∈fs->b∉ex->∃sl,h'.get? b=some {o with slots:=sl}
 free:∀b o,h.get? b=some o->H b=none->b∉ex->H' b=none
 there:∀b o,h.get? b=some o->b∉ex->∃o',h'.get? b=some o'
 tups:∀b xs,H b=some (.tup xs)->H' b=some (.tup xs)
 frzs:∀b o u,H b=some (.frz o u)->H' b=some (.frz o u)
 tbls:∀b n ps,H b=some (.tbl n ps)->∃more,H' b=some (.tbl n (ps++more))
section
variable {fs fs' ex ex':List Addr}{H H1 H2:Hp}{h h1 h2 h':Heap}{a x e:Addr}{o:HO}
def Un.any (u:Un fs ex H H1 h h1){b:Addr}{ob:Obj}(q:h.get? b=some ob)(n:H b=none)(hx:b∉ex):∃sl,h1.get? b=some {ob with slots:=sl}:=by
 by_cases hb:b∈fs
 ·exact u.slot b ob q n hb hx
 ·exact⟨_,u.keep b ob q n hb hx⟩
def Un.kept (k:∀b u,h.get? b=some u->h'.get? b=some u):Un fs ex H H h h':=
 ⟨fun b ob q a a a=>k b ob q,fun b ob q a a a=>⟨_,k b ob q⟩,fun a a a n a=>n,fun b ob q a=>⟨ob,k b ob q⟩,fun a a q=>q,fun a a a q=>q,fun a a ps q=>⟨#[],by simp_all⟩⟩
def Un.refl:Un fs ex H H h h:=Un.kept fun a a q=>q
def Un.laid (k:∀b u,h.get? b=some u->h'.get? b=some u)(hp:h.objs.size≤a)(hn:H a=none):Un fs ex H (upd H a o) h h' where
 keep:=fun b u q c c c=>k b u q
 slot:=fun b u q c c c=>⟨_,k b u q⟩
 free:=fun b u q n c=>by rwa [aa (nn0 (nl0 (hs0 q) hp))]
 there:=fun b u q c=>⟨u,k b u q⟩
 tups:=fun b xs q=>by rwa [aa (ag q hn)]
 frzs:=fun b u xs q=>by rwa [aa (ag q hn)]
 tbls:=fun b c ps q=>⟨#[],by rw[aa (ag q hn),q];simp⟩
def Un.write (mu:Mut (H x))(he:e=x\/H e=some (.own x))(k:∀b u,b≠e->h.get? b=some u->h'.get? b=some u)(heo:∃u,h'.get? e=some u):Un fs ex H (upd H x o) h h':=by
 have hx:∀b,H b=none->b≠x:=fun b n z=>by subst z;rwa [n] at mu
 have hb:∀b,H b=none->b≠e:=fun b n z=>by
  simp_all
 have hm:∀b u,H b=some u->¬ Mut (some u)->b≠x:=fun b u q nm z=>by simp_all
 refine⟨fun b u q n a a=>k b u (hb b n) q,fun b u q n a a=>⟨u.slots,k b u (hb b n) q⟩,fun b u q n a=>by rw[aa (hx b n)];exact n,fun b u q a=>?_,
  fun b xs q=>by rw[aa (hm b _ q fun z=>z)];exact q,fun b u xs q=>by rw[aa (hm b _ q fun z=>z)];exact q,fun b a ps q=>⟨#[],by rw[aa (hm b _ q fun z=>z),q];simp⟩⟩
 by_cases hbe:b=e
 ·simp_all
 ·exact⟨u,k b u hbe q⟩
end
noncomputable def trk (h:Heap)(H:Hp):List Addr:=(List.range h.objs.size).filter fun a=>(H a).isSome
noncomputable def kh (h:Heap)(H:Hp):Heap:=PySem.W.hideAll h (trk h H)
def qW (h:Heap)(H:Hp):(kh h H).objs.size=h.objs.size:=PySem.W.hideAll_size _ _
def tE {h:Heap}{H:Hp}{b:Addr}{o:Obj}(e:h.get? b=some o)(n:H b=none):(kh h H).get? b=some o:=
 PySem.W.hideAll_get _ e fun hm=>by
  have q:=(List.mem_filter.mp hm).2
  simp_all
def yt {h:Heap}{H:Hp}{b:Addr}{o:Obj}(e:(kh h H).get? b=some o):h.get? b=some o/\H b=none:=by
 have e':=PySem.W.of_hideAll _ e;refine⟨e',?_⟩;cases q:H b with
 |none=>rfl
 |some x=>
  have hm:b∈trk h H:=List.mem_filter.mpr ⟨List.mem_range.mpr (hs0 e'),by simp[q]⟩;have z:(kh h H).get? b=none:=PySem.W.hideAll_none _ hm
  simp_all
noncomputable def yu (g h:Heap)(L:Addr):List (Addr×Obj):=(List.range h.objs.size).filterMap fun a=>if a=L\/(g.get? a).isSome=true then none else (h.get? a).map fun o=>(a,o)
noncomputable def rest (g h:Heap)(L d:Addr):List (Addr×Obj):=(yu g h L).filter fun p=>decide (p.1≠d)
structure Mod (K:fg0)(mg:Str->Option Value)(base:Heap):Prop where
 kin:K.In base
 glob:base.Ns mainGlobals mg
 blt:∃mb,base.Ns builtinsNs mb/\∀x:Str,x≠"__name__"->mb x=bootBuiltins x
 nolimit:base.NoLimit
structure Cx where
 prog:Program
 w:World
 K:fg0
 mg:Str->Option Value
 base:Heap
 A:Around
 N:List Str
 s₀:Shared
 H₀:Hp
 env:Env
 outer:List Env
 stack:List Env
 ex:List Addr
 fn:Str->Bool
 calm:Bool
 pn:List (Addr×Obj)
 xe:Value->Shared->Prop
noncomputable def frs (l:List Env):List Addr:=l.filterMap (·.frame)
noncomputable abbrev Cx.fs (X:Cx):List Addr:=frs X.outer
def Vis (sc:Scope)(x:Str):Prop:=sc.names.lookup x=some .local\/sc.names.lookup x=some .cell\/sc.names.lookup x=some .free
def Loc (sc:Scope)(x:Str):Prop:=sc.names.lookup x=some .local\/sc.names.lookup x=some .cell
def Look (env:Env)(h:Heap)(m:Str->Option Value)(x:Str)(u:Value):Prop:=
 (env.kindOf x=some .local/\m x=some u)\/((env.kindOf x=some .cell\/env.kindOf x=some .free)/\∃c,env.cells.lookup x=some c/\h.IsCell c (some u))
structure Cx.Ok (X:Cx):Prop where
 mod:Mod X.K X.mg X.base
 kind:X.env.scope.kind=.function
 glob:X.env.globals=mainGlobals
 blt:X.env.builtins=builtinsNs
 above:X.s₀.heap.objs.size≤X.env.locals
 inj:∀x y c,X.env.cells.lookup x=some c->X.env.cells.lookup y=some c->x=y
 has:∀x,(X.env.kindOf x=some .cell\/X.env.kindOf x=some .free)->∃c,X.env.cells.lookup x=some c
 cab:∀x c,X.fn x=true->X.env.cells.lookup x=some c->X.s₀.heap.objs.size≤c
 hd:X.calm=true->X.A.handled=none
 frames:X.A.frames=some X.stack
 stk:X.stack=X.outer\/(X.stack=X.env::X.outer/\X.env.frame=some X.env.locals)
 exf:∀b∈X.ex,b≠X.env.locals/\∀x c,X.env.cells.lookup x=some c->c≠b
 bs:∀b o,X.base.get? b=some o->X.s₀.heap.get? b=some o/\X.H₀ b=none
 bsz:X.base.objs.size≤X.s₀.heap.objs.size
 noex:∀b o,X.base.get? b=some o->b∉X.ex
 exfs:∀b∈X.ex,b∉X.fs
 funs:X.s₀.heap.FunFrames X.base X.outer
 frf:∀b∈X.fs,X.H₀ b=none
 tb:∀p∈lamTs,∃ps,X.H₀ p.1=some (.tbl p.2 ps)
structure Inv (X:Cx)(pins:List (Addr×Obj))(σ:List (Option V))(H:Hp)(s:Shared):Prop where
 ok:X.Ok
 os:s.os=X.s₀.os
 bare:AllBare s.gens
 base:Un X.fs X.ex X.H₀ H X.s₀.heap s.heap
 loc:∃m,s.heap.Ns X.env.locals m/\∀(i:Nat) (x:Str) (v:V),X.N[i]?=some x->σ[i]?=some (some v)->Vis X.env.scope x->∃u,RelV v u/\Look X.env s.heap m x u
 cell:∀x c,X.env.cells.lookup x=some c->∃v,s.heap.IsCell c v
 free:H X.env.locals=none
 freeC:∀x c,X.env.cells.lookup x=some c->H c=none
 pin:∀p∈X.pn++pins,s.heap.get? p.1=some p.2/\H p.1=none/\p.1≠X.env.locals/\p.1∉X.fs/\∀v,p.2.data≠.cell v
 hok:HOk X.prog X.w H s.heap
 len:σ.length=X.N.length
section
variable {X:Cx}{pins:List (Addr×Obj)}{σ:List (Option V)}{H H':Hp}{s:Shared}{h':Heap}
def Cx.Ok.nofr (ok:X.Ok){b:Addr}{o:Obj}(e:X.base.get? b=some o):b∉X.fs:=fun hb=>by
 have:=(ok.funs.mem hb).1
 grind
theorem Inv.bs (I:Inv X pins σ H s):∀b o,X.base.get? b=some o->s.heap.get? b=some o/\H b=none:=fun b o e=>
 ⟨I.base.keep b o (I.ok.bs b o e).1 (I.ok.bs b o e).2 (I.ok.nofr e) (I.ok.noex b o e),I.base.free b o (I.ok.bs b o e).1 (I.ok.bs b o e).2 (I.ok.noex b o e)⟩
def Inv.bk (I:Inv X pins σ H s):∀b o,X.base.get? b=some o->s.heap.get? b=some o:=fun b o e=>(I.bs b o e).1
theorem Inv.mod (I:Inv X pins σ H s):Mod X.K X.mg X.base:=I.ok.mod
def Inv.kIn (I:Inv X pins σ H s):X.K.In s.heap:=I.ok.mod.kin.keeps I.bk
theorem Inv.nolimit (I:Inv X pins σ H s):s.heap.NoLimit:=I.ok.mod.nolimit.keeps I.bk
theorem Inv.lt (I:Inv X pins σ H s):X.env.locals<s.heap.objs.size:=let ⟨_,hn,_⟩:=I.loc;hn.lt
def Inv.sz (I:Inv X pins σ H s):X.s₀.heap.objs.size≤s.heap.objs.size:=nt0 I.ok.above (Nat.le_of_lt I.lt)
def Inv.nofs (I:Inv X pins σ H s){a:Addr}(h:s.heap.objs.size≤a):a∉X.fs:=fun hb=>by
 obtain⟨_,o,ho,_⟩:=I.ok.funs.mem hb;exact absurd (nl0 (hs0 ho) (nt0 I.sz h)) (li0 _)
def Inv.cne (I:Inv X pins σ H s):∀x c,X.env.cells.lookup x=some c->c≠X.env.locals:=fun x c e z=>by
 obtain⟨v,o,ho,hd⟩:=I.cell x c e;obtain⟨m,⟨o',es,ep,ho',hd',_⟩,_⟩:=I.loc<;>grind
theorem Inv.funs (I:Inv X pins σ H s):s.heap.FunFrames X.base X.outer:=by
 have all:∀(l:List _),(∀b∈frs l,b∈X.fs)->X.s₀.heap.FunFrames X.base l->s.heap.FunFrames X.base l:=by
  intro l
  induction l with
  |nil=>intro _ _;trivial
  |cons env r ih=>
   intro hs hl;obtain⟨hk,⟨L,o,hf,hn,ho,hd⟩,hr⟩:=hl;have hL:=hs L (by unfold frs;rw[List.filterMap_cons,hf];exact ms0);obtain⟨sl,e⟩:=I.base.slot L o ho (I.ok.frf L hL) hL fun z=>I.ok.exfs L z hL
   exact⟨hk,⟨L,_,hf,hn,e,hd⟩,ih (fun b hb=>hs b (by unfold frs;rw[List.filterMap_cons,hf];exact mc0 _ hb)) hr⟩
 exact all _ (fun a hb=>hb) I.ok.funs
theorem Inv.stack (I:Inv X pins σ H s):s.heap.FunFrames X.base X.stack:=by
 rcases I.ok.stk with e|⟨e,hf⟩
 ·rw[e];exact I.funs
 ·rw[e]
  obtain⟨m,hn,_⟩:=I.loc;exact .cons (by rw[I.ok.kind];decide) hf hn (Heap.get?_none_of_le (nt0 I.ok.bsz I.ok.above)) I.funs
def Inv.stkSub (I:Inv X pins σ H s):∀b∈frs X.stack,b∈X.env.locals::X.fs:=fun b hb=>by
 rcases I.ok.stk with e|⟨e,hf⟩
 ·rw[e] at hb;exact mc0 _ hb
 ·rw[e] at hb
  unfold frs at hb
  rwa [List.filterMap_cons,hf] at hb
def Inv.stkFree (I:Inv X pins σ H s):∀b∈frs X.stack,H b=none:=fun b hb=>by
 rcases mq0 (I.stkSub b hb) with e|hb
 ·rw[e];exact I.free
 ·obtain⟨_,o,ho,_⟩:=I.ok.funs.mem hb
  exact I.base.free b o ho (I.ok.frf b hb) fun z=>I.ok.exfs b z hb
def Inv.step {g':Array GenState}{t':Nat}{d':Drawn}{ch:List Addr}(I:Inv X pins σ H s)
  (hch:∀b∈ch,(b∈X.ex\/X.s₀.heap.objs.size≤b)/\b≠X.env.locals/\(∀x c,X.env.cells.lookup x=some c->c≠b)/\∀p∈X.pn++pins,p.1≠b)
  (keep:∀b o,b≠X.env.locals->b∉X.fs->b∉ch->s.heap.get? b=some o->H b=none->h'.get? b=some o)
  (slot:∀b o,b≠X.env.locals->b∈X.fs->b∉ch->s.heap.get? b=some o->H b=none->∃sl,h'.get? b=some {o with slots:=sl}) (free:∀b o,b∉ch->s.heap.get? b=some o->H b=none->H' b=none)
  (there:∀b o,b∉ch->s.heap.get? b=some o->∃o',h'.get? b=some o')
  (tups:∀b xs,H b=some (.tup xs)->H' b=some (.tup xs)) (frzs:∀b o u,H b=some (.frz o u)->H' b=some (.frz o u)) (tbls:∀b n ps,H b=some (.tbl n ps)->∃more,H' b=some (.tbl n (ps++more)))
  (ns:∀m,s.heap.Ns X.env.locals m->h'.Ns X.env.locals m) (hok:HOk X.prog X.w H' h') (hg:AllBare g'):
  Inv X pins σ H' {s with heap:=h',gens:=g',drawn:=d',toks:=t'}:=by
 have neL:∀b o,X.s₀.heap.get? b=some o->b≠X.env.locals:=fun b o e=>nn0 (nl0 (hs0 e) I.ok.above)
 have neC:∀b o,X.s₀.heap.get? b=some o->b∉X.ex->b∉ch:=fun b o e hx hb=>by
  rcases (hch b hb).1 with z|z
  ·exact hx z
  ·exact absurd (nl0 (hs0 e) z) (li0 _)
 have cellK:∀x c,X.env.cells.lookup x=some c->∀v,s.heap.IsCell c v->h'.IsCell c v:=fun x c e v ⟨o,ho,hd⟩=>by
  have nch:c∉ch:=fun z=>(hch c z).2.2.1 x c e rfl
  by_cases hc:c∈X.fs
  ·obtain⟨sl,q⟩:=slot c o (I.cne x c e) hc nch ho (I.freeC x c e)
   exact⟨_,q,hd⟩
  ·exact⟨o,keep c o (I.cne x c e) hc nch ho (I.freeC x c e),hd⟩
 refine⟨I.ok,I.os,hg,⟨fun b o e n hb hx=>?_,fun b o e n hb hx=>?_,fun b o e n hx=>?_,fun b o e hx=>?_,fun b xs e=>tups b xs (I.base.tups b xs e),fun b o xs e=>frzs b o xs (I.base.frzs b o xs e),fun b n ps e=>?_⟩,?_,fun x c e=>?_,?_,fun x c e=>?_,fun p hp=>?_,hok,I.len⟩
 ·exact keep b o (neL b o e) hb (neC b o e hx) (I.base.keep b o e n hb hx) (I.base.free b o e n hx)
 ·obtain⟨sl,e1⟩:=I.base.slot b o e n hb hx
  obtain⟨sl',e2⟩:=slot b _ (neL b o e) hb (neC b o e hx) e1 (I.base.free b o e n hx);exact⟨sl',e2⟩
 ·obtain⟨o',e1⟩:=I.base.there b o e hx
  exact free b o' (neC b o e hx) e1 (I.base.free b o e n hx)
 ·obtain⟨o',e1⟩:=I.base.there b o e hx
  exact there b o' (neC b o e hx) e1
 ·obtain⟨m1,e1⟩:=I.base.tbls b n ps e
  obtain⟨m2,e2⟩:=tbls b n _ e1;exact⟨m1++m2,by rw[e2,Array.append_assoc]⟩
 ·obtain⟨m,hn,hl⟩:=I.loc
  refine⟨m,ns m hn,fun i x v e1 e2 e3=>?_⟩;obtain⟨u,r,l⟩:=hl i x v e1 e2 e3;refine⟨u,r,?_⟩;rcases l with l|⟨k,c,e,z⟩
  ·exact .inl l
  ·exact .inr ⟨k,c,e,cellK x c e _ z⟩
 ·obtain⟨v,z⟩:=I.cell x c e
  exact⟨v,cellK x c e v z⟩
 ·obtain⟨m,⟨o,_,_,ho,_⟩,_⟩:=I.loc
  exact free _ o (fun z=>(hch _ z).2.1 rfl) ho I.free
 ·obtain⟨v,o,ho,hd⟩:=I.cell x c e
  exact free c o (fun z=>(hch c z).2.2.1 x c e rfl) ho (I.freeC x c e)
 ·obtain⟨e,n,ne,nf,d⟩:=I.pin p hp
  have nch:p.1∉ch:=fun z=>(hch p.1 z).2.2.2 p hp rfl
  exact⟨keep p.1 p.2 ne nf nch e n,free p.1 p.2 nch e n,ne,nf,d⟩
def Inv.un {t':Nat}(I:Inv X pins σ H s)(u:Un X.fs [] H H' s.heap h')(hok:HOk X.prog X.w H' h'):Inv X pins σ H' {s with heap:=h',toks:=t'}:=by
 obtain⟨m,⟨o,es,ep,ho,r⟩,_⟩:=id I.loc;obtain⟨sl,hL⟩:=u.any ho I.free (by simp);exact I.step (ch:=[]) (fun a z=>nomatch z) (fun b o a hb a e n=>u.keep b o e n hb (by simp)) (fun b o a hb a e n=>u.slot b o e n hb (by simp)) (fun b o a e n=>u.free b o e n (by simp)) (fun b o a e=>u.there b o e (by simp)) u.tups u.frzs u.tbls (fun m' hm=>by
  obtain⟨o',es',ep',ho',r'⟩:=hm;rw[ho] at ho';cases ho';exact⟨_,_,_,hL,r'⟩) hok I.bare
def Inv.call {g':Array GenState}{t':Nat}{d':Drawn}{ch:List Addr}(I:Inv X pins σ H s)(u:Un (frs X.stack) ch H H' s.heap h')(hok:HOk X.prog X.w H' h')(hg:AllBare g')
  (hch:∀b∈ch,(b∈X.ex\/X.s₀.heap.objs.size≤b)/\b≠X.env.locals/\(∀x c,X.env.cells.lookup x=some c->c≠b)/\∀p∈X.pn++pins,p.1≠b):
  Inv X pins σ H' {s with heap:=h',gens:=g',drawn:=d',toks:=t'}:=by
 obtain⟨m,⟨o,es,ep,ho,r⟩,_⟩:=id I.loc;obtain⟨sl,hL⟩:=u.any ho I.free fun z=>(hch _ z).2.1 rfl
 exact I.step hch (fun b o hL hb hc e n=>u.keep b o e n (fun z=>(mq0 (I.stkSub b z)).elim hL hb) hc) (fun b o a a hc e n=>u.any e n hc) (fun b o hc e n=>u.free b o e n hc) (fun b o hc e=>u.there b o e hc) u.tups u.frzs u.tbls (fun m' hm=>by
  obtain⟨o',es',ep',ho',r'⟩:=hm;rw[ho] at ho';cases ho';exact⟨_,_,_,hL,r'⟩) hok hg
def Inv.turned {t':Nat}{it:Addr}(I:Inv X pins σ H s)(k:∀b o,b≠it->s.heap.get? b=some o->h'.get? b=some o)(hn:H it=none)(hL:it≠X.env.locals)
  (h1:it∈X.ex\/X.s₀.heap.objs.size≤it) (h2:∀x c,X.env.cells.lookup x=some c->c≠it) (h3:∀p∈X.pn++pins,p.1≠it):Inv X pins σ H {s with heap:=h',toks:=t'}:=by
 have nit:∀b u,H b=some u->b≠it:=fun b u e z=>by simp_all
 refine I.step (ch:=[it]) (fun b hb=>?_) (fun b o a a hc e a=>k b o (fun z=>hc (by simp[z])) e) (fun b o a a hc e a=>⟨_,k b o (fun z=>hc (by simp[z])) e⟩) (fun a a a a n=>n)
  (fun b o hc e=>⟨o,k b o (fun z=>hc (by simp[z])) e⟩) (fun a a e=>e) (fun a a a e=>e) (fun b a ps e=>⟨#[],by simp_all⟩) (fun m hm=>?_) (fun b u e=>?_) I.bare
 ·have e:=by simpa using hb
  subst e;exact⟨h1,hL,h2,h3⟩
 ·obtain⟨o,es,ep,ho,r⟩:=hm
  exact⟨o,es,ep,k _ o (Ne.symm hL) ho,r⟩
 ·refine (I.hok b u e).stay (fun c v hc q=>k c v ?_ q) (fun a q=>q) fun a a a q=>q
  rcases hc with z|z
  ·rw[z];exact nit b u e
  ·exact nit c _ z
def Inv.tok (I:Inv X pins σ H s)(t:Nat):Inv X pins σ H {s with toks:=t}:=I.un Un.refl I.hok
theorem Inv.kept {t':Nat}(I:Inv X pins σ H s)(k:∀b u,s.heap.get? b=some u->h'.get? b=some u):Inv X pins σ H {s with heap:=h',toks:=t'}:=I.un (Un.kept k) (I.hok.kept k)
theorem Inv.laid {a:Addr}{o:HO}{t':Nat}(I:Inv X pins σ H s)(k:∀b u,s.heap.get? b=some u->h'.get? b=some u)(hp:s.heap.objs.size≤a)(new:ObjOk X.prog X.w (upd H a o) h' a o):
  Inv X pins σ (upd H a o) {s with heap:=h',toks:=t'}:=I.un (Un.laid k hp (I.hok.fresh hp)) (I.hok.laid k hp new)
theorem Inv.write {x e:Addr}{o:HO}{t':Nat}(I:Inv X pins σ H s)(mu:Mut (H x))(he:e=x\/H e=some (.own x))(k:∀b u,b≠e->s.heap.get? b=some u->h'.get? b=some u)(heo:∃u,h'.get? e=some u)
  (new:ObjOk X.prog X.w (upd H x o) h' x o):Inv X pins σ (upd H x o) {s with heap:=h',toks:=t'}:=I.un (Un.write mu he k heo) (I.hok.write mu he k heo new)
def Inv.pins_of {pins':List (Addr×Obj)}(I:Inv X pins σ H s)(h:∀p∈pins',s.heap.get? p.1=some p.2/\H p.1=none/\p.1≠X.env.locals/\p.1∉X.fs/\∀v,p.2.data≠.cell v):Inv X pins' σ H s:=
 ⟨I.ok,I.os,I.bare,I.base,I.loc,I.cell,I.free,I.freeC,fun p hp=>(ma0 hp).elim (fun z=>I.pin p (List.mem_append_left _ z)) (h p),I.hok,I.len⟩
def ie {N:List Str}(hN:N.Nodup){i j:Nat}{x:Str}(a:N[i]?=some x)(b:N[j]?=some x):i=j:=by
 obtain⟨h1,e1⟩:=gi0 a;obtain⟨h2,e2⟩:=gi0 b;exact (List.getElem_inj hN).mp (e1.trans e2.symm)
def store_ok2 {M:Model}{A:Around}{E:Value->Shared->Prop}{i:Nat}{x:Str}{v:V}{u:Value}{Q:Unit->Shared->Prop}(I:Inv X pins σ H s)(hN:X.N.Nodup)(hi:X.N[i]?=some x)(hx:Loc X.env.scope x)(r:RelV v u)
  (h:∀s',Inv X pins (σ.set i (some v)) H s'->(∃a,Heap.SameBut a s.heap s'.heap/\(a=X.env.locals\/X.env.cells.lookup x=some a))->Q () s') (hf:X.fn x=true\/X.env.scope.names.lookup x=some .local:=by first|exact .inl rfl|exact .inr rfl|assumption):wpAny M A (storeName X.env x u) Q E s:=by
 obtain⟨m,hn,hl⟩:=id I.loc;have hcls:(X.env.scope.kind==.class||(X.env.scope.kind==.module&&X.env.locals != X.env.globals))=false:=by rw[I.ok.kind];rfl
 have hiσ:i<σ.length:=by rw[I.len];exact (gi0 hi).1
 have cne:=I.cne;have tracked:∀{a:Addr} {h':Heap},(∃o,s.heap.get? a=some o/\H a=none)->Heap.SameBut a s.heap h'->HOk X.prog X.w H h':=fun {a h'} ha hs b ob e=>by
  obtain⟨_,_,hfree⟩:=ha;refine (I.hok b ob e).stay (fun c w' hc q=>(hs.2 c ?_).trans q) (fun f q=>q) fun f f f q=>q
  rintro rfl
  rcases hc with rfl|hc
  ·rw[hfree] at e;cases e
  ·rw[hfree] at hc;cases hc
 rcases hx with hk|hk
 ·refine wpAny_storeName_local hk hn (fun h' hn' hs=>?_) hcls
  obtain⟨oL,_,_,hoL,_⟩:=id hn;refine h _ ⟨I.ok,I.os,I.bare,⟨fun b o e n hb hx=>?_,fun b o e n hb hx=>?_,I.base.free,fun b o e hx=>?_,I.base.tups,I.base.frzs,I.base.tbls⟩,⟨_,hn',fun j y v' e1 e2 e3=>?_⟩,fun y c e=>?_,I.free,I.freeC,fun p hp=>?_,tracked ⟨oL,hoL,I.free⟩ hs,by simpa using I.len⟩ ⟨_,hs,.inl rfl⟩
  ·exact (hs.2 b (nn0 (nl0 (hs0 e) I.ok.above))).trans (I.base.keep b o e n hb hx)
  ·obtain⟨sl,e1⟩:=I.base.slot b o e n hb hx
   exact⟨sl,(hs.2 b (nn0 (nl0 (hs0 e) I.ok.above))).trans e1⟩
  ·obtain⟨o',e1⟩:=I.base.there b o e hx
   exact⟨o',(hs.2 b (nn0 (nl0 (hs0 e) I.ok.above))).trans e1⟩
  ·by_cases hj:j=i
   ·subst hj
    rw[hi] at e1;cases e1;rw[gs0 hiσ] at e2;cases e2;exact⟨u,r,.inl ⟨hk,by simp⟩⟩
   ·rw[gn0 (Ne.symm hj)] at e2
    obtain⟨u',r',q⟩:=hl j y v' e1 e2 e3;refine⟨u',r',?_⟩;rcases q with⟨k,e⟩|⟨k,c,e,z⟩
    ·refine .inl ⟨k,?_⟩
     have:y≠x:=fun e=>hj (ie hN e1 (e▸hi))
     simp[this,e]
    ·exact .inr ⟨k,c,e,z.sameBut hs (cne y c e)⟩
  ·obtain⟨w',z⟩:=I.cell y c e
   exact⟨w',z.sameBut hs (cne y c e)⟩
  ·obtain⟨e,n,ne,nf,d⟩:=I.pin p hp
   exact⟨(hs.2 p.1 ne).trans e,n,ne,nf,d⟩
 ·have hfn:X.fn x=true:=by
   rcases hf with z|z
   ·exact z
   ·rw[z] at hk;cases hk
  obtain⟨c,hc⟩:=I.ok.has x (.inl hk);obtain⟨w',z⟩:=I.cell x c hc;refine wpAny_storeName_cell I.ok.kind hk hc z (fun h' hc' hs=>?_);obtain⟨oc,hoc,hocd⟩:=id z;refine h {s with heap:=h'} ⟨I.ok,I.os,I.bare,⟨fun b o e n hb hx=>?_,fun b o e n hb hx=>?_,I.base.free,fun b o e hx=>?_,I.base.tups,I.base.frzs,I.base.tbls⟩,⟨m,hn.sameBut hs (Ne.symm (cne x c hc)),fun j y v' e1 e2 e3=>?_⟩,fun y c' e=>?_,I.free,I.freeC,fun p hp=>?_,tracked ⟨oc,hoc,I.freeC x c hc⟩ hs,by simpa using I.len⟩ ⟨c,hs,.inr hc⟩
  ·exact (hs.2 b (nn0 (nl0 (hs0 e) (I.ok.cab x c hfn hc)))).trans (I.base.keep b o e n hb hx)
  ·obtain⟨sl,e1⟩:=I.base.slot b o e n hb hx
   exact⟨sl,(hs.2 b (nn0 (nl0 (hs0 e) (I.ok.cab x c hfn hc)))).trans e1⟩
  ·obtain⟨o',e1⟩:=I.base.there b o e hx
   exact⟨o',(hs.2 b (nn0 (nl0 (hs0 e) (I.ok.cab x c hfn hc)))).trans e1⟩
  ·by_cases hj:j=i
   ·subst hj
    rw[hi] at e1;cases e1;rw[gs0 hiσ] at e2;cases e2;exact⟨u,r,.inr ⟨.inl hk,c,hc,hc'⟩⟩
   ·rw[gn0 (Ne.symm hj)] at e2
    obtain⟨u',r',q⟩:=hl j y v' e1 e2 e3;refine⟨u',r',?_⟩;rcases q with q|⟨k,c',e,z'⟩
    ·exact .inl q
    ·refine .inr ⟨k,c',e,z'.sameBut hs ?_⟩
     rintro rfl
     exact hj (ie hN e1 (I.ok.inj _ _ _ e hc▸hi))
  ·by_cases hcc:c'=c
   ·subst hcc;exact⟨_,hc'⟩
   ·obtain⟨w2,z2⟩:=I.cell y c' e
    exact⟨w2,z2.sameBut hs hcc⟩
  ·obtain⟨e,n,ne,nf,d⟩:=I.pin p hp
   refine⟨(hs.2 p.1 ?_).trans e,n,ne,nf,d⟩;intro q;rw[q,hoc] at e;have q':oc=p.2:=Option.some.inj e;exact d w' (by rw[←q'];exact hocd)
def ig {M:Model}{A:Around}{E:Value->Shared->Prop}{i:Nat}{x:Str}{v:V}{u:Value}{Q:Unit->Shared->Prop}(I:Inv X pins σ H s)(hN:X.N.Nodup)(hi:X.N[i]?=some x)(hx:Loc X.env.scope x)(r:RelV v u)
  (h:∀s',Inv X pins (σ.set i (some v)) H s'->Q () s') (hf:X.fn x=true\/X.env.scope.names.lookup x=some .local:=by first|exact .inl rfl|exact .inr rfl|assumption):wpAny M A (storeName X.env x u) Q E s:=
 store_ok2 I hN hi hx r (fun s' I' a=>h s' I') hf
def Inv.call' {s':Shared}{ch:List Addr}(I:Inv X pins σ H s)(ho:s'.os=s.os)(u:Un (frs X.stack) ch H H' s.heap s'.heap)(hok:HOk X.prog X.w H' s'.heap)(hg:AllBare s'.gens)
  (hch:∀b∈ch,(b∈X.ex\/X.s₀.heap.objs.size≤b)/\b≠X.env.locals/\(∀x c,X.env.cells.lookup x=some c->c≠b)/\∀p∈X.pn++pins,p.1≠b):Inv X pins σ H' s':=by
 obtain⟨h',g',d',t',o'⟩:=s';subst ho;exact I.call u hok hg hch
end
noncomputable abbrev XK:=Value->Option Addr->Hp->Prop
noncomputable abbrev St:=List (Option V)
noncomputable abbrev VK:=V->Hp->Prop
noncomputable abbrev TE:=St->Hp->VK->Prop
noncomputable abbrev TT:=St->Hp->(Bool->Hp->Prop)->Prop
noncomputable abbrev TA:=St->Hp->(List V->Hp->Prop)->Prop
structure Ends where
 nx:St->Hp->Prop
 rt:VK
 bk:St->Hp->Prop:=fun a a=>False
 ct:St->Hp->Prop:=fun a a=>False
noncomputable abbrev TS:=Ends->St->Hp->Prop
def EP (X:Cx)(pins:List (Addr×Obj))(σ:St)(Q:VK)(u:Value)(s':Shared):Prop:=∃v H',Inv X pins σ H' s'/\RelV v u/\Q v H'
def TP (X:Cx)(pins:List (Addr×Obj))(σ:St)(Q:Bool->Hp->Prop)(b:Bool)(s':Shared):Prop:=∃H',Inv X pins σ H' s'/\Q b H'
def AP (X:Cx)(pins:List (Addr×Obj))(σ:St)(Q:List V->Hp->Prop)(us:List Value)(s':Shared):Prop:=∃vs H',Inv X pins σ H' s'/\Vals vs us/\Q vs H'
def SP (X:Cx)(pins:List (Addr×Obj))(D:Ends)(f:Flow)(s':Shared):Prop:=
 match f with
 |.next=>∃σ' H',Inv X pins σ' H' s'/\D.nx σ' H'
 |.brk=>∃σ' H',Inv X pins σ' H' s'/\D.bk σ' H'
 |.cont=>∃σ' H',Inv X pins σ' H' s'/\D.ct σ' H'
 |.ret u=>∃v σ' H',Inv X pins σ' H' s'/\RelV v u/\D.rt v H'
def PE (X:Cx)(e:Expr)(t:TE):Prop:=
 ∀(pins:List (Addr×Obj)) (s:Shared) (σ:St) (H:Hp) (Q:VK),Inv X pins σ H s->t σ H Q->wpAny (model X.prog X.w) X.A (eval e X.env) (EP X pins σ Q) X.xe s
def PT (X:Cx)(e:Expr)(t:TT):Prop:=
 ∀(pins:List (Addr×Obj)) (s:Shared) (σ:St) (H:Hp) (Q:Bool->Hp->Prop),Inv X pins σ H s->t σ H Q->wpAny (model X.prog X.w) X.A (isTrue e X.env (eval e X.env)) (TP X pins σ Q) X.xe s
def PW (X:Cx)(e:Expr)(t:TT):Prop:=
 ∀(whole:Sem Value) (pins:List (Addr×Obj)) (s:Shared) (σ:St) (H:Hp) (Q:Bool->Hp->Prop),Inv X pins σ H s->t σ H Q->wpAny (model X.prog X.w) X.A (isTrue e X.env whole) (TP X pins σ Q) X.xe s
variable {α β:Type}{C a b dx f:Addr}{vs xs:List V}{us:List Value}{name qual x:Str}{u v:Value}{H H':Hp}{P prog:Program}{w:World}{base h h':Heap}{c e tg:Expr}{o:Option Value}{X:Cx}{pins:List (Addr×Obj)}{s s':Shared}{i k t':Nat}{ch fp:List Addr}{N ps:List Str}{A:Around}{E Q:Value->Shared->Prop}{t:TA}{ta te:TE}{σ:St}{p pos:Pos}{body:List Stmt}{mA mg:Str->Option Value}{es:List Expr}{fd:FuncData}{scope:Scope}{params:Arguments}{an od:Option Addr}
def PW.pt {t:TT}(h:PW X e t):PT X e t:=h _
def PA (X:Cx)(es:List Expr)(t:TA):Prop:=
 ∀(pos:Pos) (pins:List (Addr×Obj)) (s:Shared) (σ:St) (H:Hp) (Q:List V->Hp->Prop),Inv X pins σ H s->t σ H Q->wpAny (model X.prog X.w) X.A (spliced (backTo pos (starEach es X.env))) (AP X pins σ Q) X.xe s
def PS (X:Cx)(st:Stmt)(t:TS):Prop:=
 ∀(pins:List (Addr×Obj)) (s:Shared) (σ:St) (H:Hp) (D:Ends),Inv X pins σ H s->t D σ H->wpAny (model X.prog X.w) X.A (exec st X.env) (SP X pins D) X.xe s
def PSs (X:Cx)(st:List Stmt)(t:TS):Prop:=
 ∀(pins:List (Addr×Obj)) (s:Shared) (σ:St) (H:Hp) (D:Ends),Inv X pins σ H s->t D σ H->wpAny (model X.prog X.w) X.A (execs st X.env) (SP X pins D) X.xe s
def thn {t:Sem α}{Q Q':α->Shared->Prop}{M:Model}(h:wpAny M A t Q E s)(hQ:∀a s,Q a s->Q' a s):wpAny M A t Q' E s:=wpAny_mono h hQ fun b b x=>x
section
def bin {a b:Expr}{tb:TE}(ha:PE X a ta)(hb:PE X b tb){R:V->V->Hp->Prop}(I:Inv X pins σ H s)(h:ta σ H fun x H1=>tb σ H1 fun y H2=>R x y H2)
   {Q:α->Shared->Prop} {f:Value->Value->Sem α}
  (hf:∀v u s2 x y H2,Inv X pins σ H2 s2->RelV x v->RelV y u->R x y H2->wpAny (model X.prog X.w) X.A (f v u) Q X.xe s2):
  wpAny (model X.prog X.w) X.A (eval a X.env) (fun v s₁=>wpAny (model X.prog X.w) X.A (eval b X.env) (fun u s₂=>wpAny (model X.prog X.w) X.A (f v u) Q X.xe s₂) X.xe s₁) X.xe s:=by
 refine thn (ha pins s σ H _ I h) ?_;rintro v s1 ⟨x,H1,I1,r1,q1⟩;refine thn (hb pins s1 σ H1 _ I1 q1) ?_;rintro u s2 ⟨y,H2,I2,r2,q2⟩;exact hf v u s2 x y H2 I2 r1 r2 q2
noncomputable def tF (i:Nat):TE:=fun σ H Q=>∃v,σ[i]?=some (some v)/\Q v H
noncomputable def tC (v:V):TE:=fun a H Q=>Q v H
def bL (hN:X.N[i]?=some x)(hv:Vis X.env.scope x)(hd:(x==("__debug__":Str))=false:=by decide)(hcd:(x==("__classdict__":Str))=false:=by decide):PE X (.Name x pos) (tF i):=by
 intro pins s σ H Q I h;obtain⟨v,e,h⟩:=h;obtain⟨m,hn,hl⟩:=I.loc;obtain⟨u,r,l⟩:=hl i x v hN e hv;have fin:EP X _ σ Q u s:=⟨v,H,I,r,h⟩;rcases l with⟨hk,hm⟩|⟨hk,c,hc,hcell⟩
 ·exact wpAny_Name (wpAny_loadName_local I.ok.kind hk hn hm fin) hd
 ·rcases hk with hk|hk
  ·exact wpAny_Name (wpAny_loadName_cell I.ok.kind hk hc hcell fin) hd
  ·exact wpAny_Name (wpAny_loadName_free I.ok.kind hk hc hcell fin hcd) hd
def nz {i j pos}:PE X (.Constant (.int i) j pos) (tC (.int i)):=fun a a a H a I h=>wpAny_Constant_int ⟨.int i,H,I.tok _,⟨_,rfl⟩,h⟩
def Fp {b j pos}:PE X (.Constant (.bool b) j pos) (tC (.bl b)):=fun a a a H a I h=>Constant_bool ⟨.bl b,H,I,rfl,h⟩
def tG {j pos}:PE X (.Constant .none j pos) (tC .non):=fun a a a H a I h=>Constant_none ⟨.non,H,I,rfl,h⟩
def Ci {x j pos}:PE X (.Constant (.str x) j pos) (tC (.str x)):=fun a a a H a I h=>Calls.Constant_str ⟨.str x,H,I.tok _,⟨_,rfl⟩,h⟩
def Gl (X:Cx)(x:Str):Prop:=X.env.kindOf x=some .globalImplicit
def ld_glob (I:Inv X pins σ H s)(hg:Gl X x)(hm:X.mg x=some u)(h:Q u s)
  (hd:(x==("__debug__":Str))=false:=by decide):wpAny (model X.prog X.w) X.A (eval (.Name x pos) X.env) Q E s:=
 Calls.Name_function_global I.ok.kind hg (Calls.loadGlobal_global (by rw[I.ok.glob];exact I.mod.glob.keeps I.bk) hm h) hd
def ld_blt (I:Inv X pins σ H s)(hg:Gl X x)(hm:X.mg x=none)(hv:bootBuiltins x=some u)(h:Q u s)
  (hn:x≠"__name__":=by decide) (hd:(x==("__debug__":Str))=false:=by decide):wpAny (model X.prog X.w) X.A (eval (.Name x pos) X.env) Q E s:=by
 obtain⟨mb,h1,h2⟩:=I.mod.blt;exact Calls.Name_function_global I.ok.kind hg (Calls.loadGlobal_builtin (by rw[I.ok.glob];exact I.mod.glob.keeps I.bk) hm (by rw[I.ok.blt];exact h1.keeps I.bk) ((h2 x hn).trans hv) h) hd
def pD {v:V}(hg:Gl X x)(hm:X.mg x=some u)(r:RelV v u)(hd:(x==("__debug__":Str))=false:=by decide):PE X (.Name x pos) (tC v):=
 fun a a a H a I h=>ld_glob I hg hm ⟨v,H,I,r,h⟩ hd
def pE {v:V}(hg:Gl X x)(hm:X.mg x=none)(hv:bootBuiltins x=some u)(r:RelV v u)(hn:x≠"__name__":=by decide)(hd:(x==("__debug__":Str))=false:=by decide):PE X (.Name x pos) (tC v):=
 fun a a a H a I h=>ld_blt I hg hm hv ⟨v,H,I,r,h⟩ hn hd
variable {a b:Expr}{tb:TE}
variable {tA tB':TT}{rest:List Expr}
noncomputable def Iq (t u:TT):TT:=fun σ H Q=>t σ H fun c H1=>if c=true then u σ H1 Q else Q false H1
noncomputable def tOr (t u:TT):TT:=fun σ H Q=>t σ H fun c H1=>if c=true then Q true H1 else u σ H1 Q
noncomputable def Ir (t:TT):TT:=fun σ H Q=>t σ H fun c H1=>Q (!c) H1
def yv (ha:PT X a tA):PW X (.BoolOp .And [a] pos) tA:=by
 intro wh pins s σ H Q I h;refine isTrue_and (thn (ha _ s σ H Q I h) fun c s1 e=>?_);cases c with
 |true=>exact isTrue_and_nil e
 |false=>exact e
def Cj (ha:PT X a tA):PW X (.BoolOp .Or [a] pos) tA:=by
 intro wh pins s σ H Q I h;refine isTrue_or (thn (ha _ s σ H Q I h) fun c s1 e=>?_);cases c with
 |false=>exact isTrue_or_nil e
 |true=>exact e
def tH (ha:PT X a tA)(hb:PW X (.BoolOp .And (b::rest) pos) tB'):PW X (.BoolOp .And (a::b::rest) pos) (Iq tA tB'):=by
 intro wh pins s σ H Q I h;refine isTrue_and (thn (ha pins s σ H _ I h) ?_);rintro c s1 ⟨H1,I1,q1⟩;cases c with
 |true=>exact hb wh pins s1 σ H1 Q I1 q1
 |false=>exact⟨H1,I1,q1⟩
def Bb (ha:PT X a tA)(hb:PW X (.BoolOp .Or (b::rest) pos) tB'):PW X (.BoolOp .Or (a::b::rest) pos) (tOr tA tB'):=by
 intro wh pins s σ H Q I h;refine isTrue_or (thn (ha pins s σ H _ I h) ?_);rintro c s1 ⟨H1,I1,q1⟩;cases c with
 |true=>exact⟨H1,I1,q1⟩
 |false=>exact hb wh pins s1 σ H1 Q I1 q1
def Ck (ha:PT X a tA):PT X (.UnaryOp .Not a pos) (Ir tA):=by
 exact fun pins s σ H Q I h=>isTrue_not (ha _ s σ H _ I h)
noncomputable def Fq (ta tb:TE):TE:=fun σ H Q=>ta σ H fun x H1=>∃c,x=.bl c/\if c=true then tb σ H1 Q else Q (.bl false) H1
noncomputable def Iu (ta tb:TE):TE:=fun σ H Q=>ta σ H fun x H1=>∃c,x=.bl c/\if c=true then Q (.bl true) H1 else tb σ H1 Q
noncomputable def Ft (ta:TE):TE:=fun σ H Q=>ta σ H fun x H1=>∃c,x=.bl c/\Q (.bl (!c)) H1
def Cn {op}{t:TE}(h:PE X a t):PE X (.BoolOp op [a] pos) t:=fun pins s σ H Q I hw=>BoolOp_one (h _ s σ H Q I hw)
def nA (ha:PE X a ta)(hb:PE X (.BoolOp .And (b::rest) pos) tb):PE X (.BoolOp .And (a::b::rest) pos) (Fq ta tb):=by
 intro pins s σ H Q I h;refine BoolOp_and (thn (ha pins s σ H _ I h) ?_);rintro v s1 ⟨x,H1,I1,r1,q1⟩;obtain⟨c,rfl,q1⟩:=q1;cases r1;refine wpAny_truthy_bool ?_;cases c with
 |true=>exact hb pins s1 σ H1 Q I1 q1
 |false=>exact⟨.bl false,H1,I1,rfl,q1⟩
def Bc (ha:PE X a ta)(hb:PE X (.BoolOp .Or (b::rest) pos) tb):PE X (.BoolOp .Or (a::b::rest) pos) (Iu ta tb):=by
 intro pins s σ H Q I h;refine BoolOp_or (thn (ha pins s σ H _ I h) ?_);rintro v s1 ⟨x,H1,I1,r1,q1⟩;obtain⟨c,rfl,q1⟩:=q1;cases r1;refine wpAny_truthy_bool ?_;cases c with
 |false=>exact hb pins s1 σ H1 Q I1 q1
 |true=>exact⟨.bl true,H1,I1,rfl,q1⟩
def Co (ha:PE X a ta):PE X (.UnaryOp .Not a pos) (Ft ta):=by
 intro pins s σ H Q I h;refine UnaryOp_ (thn (ha pins s σ H _ I h) ?_);rintro v s1 ⟨x,H1,I1,r1,q1⟩;obtain⟨c,rfl,q1⟩:=q1;cases r1;exact not_of (wpAny_truthy_bool ⟨.bl (!c),H1,I1,rfl,q1⟩)
noncomputable def tIf (t:TT)(ta tb:TE):TE:=fun σ H Q=>t σ H fun c H1=>if c=true then ta σ H1 Q else tb σ H1 Q
def lD (hc:PT X c tA)(ha:PE X a ta)(hb:PE X b tb):PE X (.IfExp c a b pos) (tIf tA ta tb):=by
 intro pins s σ H Q I h;refine wpAny_IfExp (thn (hc pins s σ H _ I h) ?_);rintro d s1 ⟨H1,I1,q1⟩;cases d with
 |true=>exact ha pins s1 σ H1 Q I1 q1
 |false=>exact hb pins s1 σ H1 Q I1 q1
end
def SqL (K:fg0)(H:Hp)(a:Addr)(xs:List V):Prop:=
 Rd H a (.lst xs)\/
  ∃(o:Obj) (its:Array Value) (n:Nat),K.lookup a=some o/\o.cls=.type "list"/\o.dict=none/\o.data=.seq its n/\its.size≤sizeLine/\Vals xs its.toList
def SqT (K:fg0)(H:Hp)(a:Addr)(xs:List V):Prop:=
 Rd H a (.tup xs)\/
  ∃(o:Obj) (its:Array Value) (n:Nat),K.lookup a=some o/\o.cls=.type "tuple"/\o.data=.seq its n/\its.size≤sizeLine/\Vals xs its.toList
noncomputable def Iv:Value->Option V
 |.none=>some .non
 |.bool b=>some (.bl b)
 |.int i _=>some (.int i)
 |.str x _=>some (.str x)
 |.bytes b _=>some (.byt b)
 |.float b _=>some (.flt b)
 |.ref a=>some (.ref a)
 |.type n=>some (.ty n)
 |_=>none
def RelV.abs {x:V}(r:RelV x u):Iv u=some x:=by
 cases x with
 |non=>cases r;rfl
 |bl _=>cases r;rfl
 |int _=>obtain⟨t,rfl⟩:=r;rfl
 |str _=>obtain⟨t,rfl⟩:=r;rfl
 |byt _=>obtain⟨t,rfl⟩:=r;rfl
 |flt _=>obtain⟨t,rfl⟩:=r;rfl
 |ref _=>cases r;rfl
 |ty _=>cases r;rfl
theorem RelV.inj {x y:V}(r:RelV x u)(q:RelV y u):x=y:=Option.some.inj (r.abs.symm.trans q.abs)
theorem Vals.inj:∀{xs ys:List V} {us:List Value},Vals xs us->Vals ys us->xs=ys
 |_,_,_,.nil,.nil=>rfl
 |_,_,_,.cons r t,.cons r' t'=>by rw[r.inj r',Vals.inj t t']
section
variable {ys:List V}
def SqL.of {K:fg0}(h:H a=some (.lst xs)):SqL K H a xs:=.inl (.inl h)
def SqT.of {K:fg0}(h:H a=some (.tup xs)):SqT K H a xs:=.inl (.inl h)
def Inv.list (I:Inv X pins σ H s)(h:SqL X.K H a xs):∃its:List Value,Vals xs its/\PlainL s.heap a its.toArray/\xs.length≤sizeLine:=by
 rcases h with h|⟨o,its,n,hk,hc,hd,hs,hz,r⟩
 ·obtain⟨z,its,n,r,e⟩:=h.ok I.hok
  exact⟨its,r,⟨_,n,e,rfl,rfl,rfl⟩,z⟩
 ·refine⟨its.toList,r,⟨o,n,I.kIn a o hk,hc,hd,by simpa using hs⟩,?_⟩
  have e:=r.length;simp only[al0] at e
  simp_all
def Inv.tuple (I:Inv X pins σ H s)(h:SqT X.K H a xs):∃its:List Value,Vals xs its/\IsTup s.heap a its.toArray/\xs.length≤sizeLine:=by
 rcases h with h|⟨o,its,n,hk,hc,hs,hz,r⟩
 ·obtain⟨z,its,r,p⟩:=h.ok I.hok
  exact⟨_,r,p,z⟩
 ·refine⟨_,r,⟨o,I.kIn a o hk,hc,n,by omega⟩,?_⟩
  have e:=r.length
  simp_all
def Inv.list_inj (I:Inv X pins σ H s)(h:SqL X.K H a xs)(h':SqL X.K H a ys):xs=ys:=by
 obtain⟨its,r,⟨o,n,e,_,_,d⟩,_⟩:=I.list h;obtain⟨its',r',⟨o',n',e',_,_,d'⟩,_⟩:=I.list h';rw[e] at e';cases e';rw[d] at d';injection d' with d1 _
 have:=by simpa using congrArg Array.toList d1
 subst this;exact r.inj r'
def Inv.tuple_inj (I:Inv X pins σ H s)(h:SqT X.K H a xs)(h':SqT X.K H a ys):xs=ys:=by
 obtain⟨its,r,⟨o,e,_,n,d⟩,_⟩:=I.tuple h;obtain⟨its',r',⟨o',e',_,n',d'⟩,_⟩:=I.tuple h';rw[e] at e';cases e';rw[d] at d';injection d' with d1 _
 have:=by simpa using congrArg Array.toList d1
 subst this;exact r.inj r'
end
noncomputable abbrev Cx.wish (X:Cx)(E:Value->Shared->Prop):Cx:={X with xe:=E}
noncomputable abbrev Cx.nox (X:Cx):Cx:=X.wish fun a a=>False
theorem Cx.Ok.wish (ok:X.Ok)(E:Value->Shared->Prop):(X.wish E).Ok:=
 ⟨ok.mod,ok.kind,ok.glob,ok.blt,ok.above,ok.inj,ok.has,ok.cab,ok.hd,ok.frames,ok.stk,ok.exf,ok.bs,ok.bsz,ok.noex,ok.exfs,ok.funs,ok.frf,ok.tb⟩
def Cx.Ok.unwish (ok:(X.wish E).Ok):X.Ok:=
 ⟨ok.mod,ok.kind,ok.glob,ok.blt,ok.above,ok.inj,ok.has,ok.cab,ok.hd,ok.frames,ok.stk,ok.exf,ok.bs,ok.bsz,ok.noex,ok.exfs,ok.funs,ok.frf,ok.tb⟩
theorem Inv.wish (I:Inv X pins σ H s)(E:Value->Shared->Prop):Inv (X.wish E) pins σ H s:=⟨I.ok.wish E,I.os,I.bare,I.base,I.loc,I.cell,I.free,I.freeC,I.pin,I.hok,I.len⟩
theorem Inv.unwish (I:Inv (X.wish E) pins σ H s):Inv X pins σ H s:=⟨I.ok.unwish,I.os,I.bare,I.base,I.loc,I.cell,I.free,I.freeC,I.pin,I.hok,I.len⟩
theorem SP.unwish {D:Ends}{f:Flow}(h:SP (X.wish E) pins D f s'):SP X pins D f s':=by
 cases f with
 |next=>obtain⟨σ',H',I,q⟩:=h;exact⟨_,H',I.unwish,q⟩
 |brk=>obtain⟨σ',H',I,q⟩:=h;exact⟨_,H',I.unwish,q⟩
 |cont=>obtain⟨σ',H',I,q⟩:=h;exact⟨_,H',I.unwish,q⟩
 |ret u=>obtain⟨v,σ',H',I,r,q⟩:=h;exact⟨v,_,H',I.unwish,r,q⟩
theorem PSs.nox {st:List Stmt}{t:TS}(h:PSs X.nox st t):PSs X st t:=fun pins s σ H D I hw=>
 wpAny_mono (h _ s σ H D (I.wish _) hw) (fun a a q=>q.unwish) fun a a z=>False.elim z
section
variable {st:Stmt}{rest:List Stmt}{t u:TS}
noncomputable def Fu:TS:=fun D σ H=>D.nx σ H
noncomputable def Iw (t u:TS):TS:=fun D σ H=>t {D with nx:=u D} σ H
def dW:PSs X [] Fu:=fun a a σ H a I h=>wpAny_execs_nil ⟨σ,H,I,h⟩
def aK (h1:PS X st t)(h2:PSs X rest u):PSs X (st::rest) (Iw t u):=by
 intro pins s σ H D I h;refine wpAny_execs_cons (thn (h1 _ s σ H _ I h) fun f s1 q=>?_);cases f with
 |next=>
  obtain⟨σ',H',I',q⟩:=q;exact h2 _ s1 _ H' D I' q
 |ret v=>exact q
 |brk=>exact q
 |cont=>exact q
def Inv.quiet (I:Inv X pins σ H s):interactive X.env=false:=by simp[interactive,I.ok.kind]
noncomputable def Fv (te:TE):TS:=fun D σ H=>te σ H fun a H1=>D.nx σ H1
def dX (he:PE X e te)(hs:swapsWith e none pos.line X.env=pure false:=by rfl):PS X (.Expr e pos) (Fv te):=by
 exact fun pins s σ H D I h=>wpAny_Expr_any (thn (he _ s σ H _ I h) fun v s1 ⟨x,H1,I1,r1,q1⟩=>⟨σ,H1,I1,q1⟩) I.quiet hs
noncomputable def Iy (te:TE):TS:=fun D σ H=>te σ H D.rt
def ij (he:PE X e te):PS X (.Return (some e) pos) (Iy te):=by
 exact fun pins s σ H D I h=>wpAny_Return_some (thn (he _ s σ H _ I h) fun v s1 ⟨x,H1,I1,r1,q1⟩=>⟨x,σ,H1,I1,r1,q1⟩)
noncomputable def Iz (c:TT)(t u:TS):TS:=fun D σ H=>c σ H fun b H1=>if b=true then t D σ H1 else u D σ H1
def jt {a b:List Stmt}{tc:TT}(hc:PT X c tc)(ha:PSs X a t)(hb:PSs X b u):PS X (.If c a b pos) (Iz tc t u):=by
 intro pins s σ H D I h;refine wpAny_If (thn (hc pins s σ H _ I h) ?_);rintro d s1 ⟨H1,I1,q1⟩;cases d with
 |true=>exact ha pins s1 σ H1 D I1 q1
 |false=>exact hb pins s1 σ H1 D I1 q1
end
noncomputable abbrev TG:=V->St->Hp->(St->Hp->Prop)->Prop
def PG (X:Cx)(target:Expr)(t:TG):Prop:=
 ∀(pins:List (Addr×Obj)) (s:Shared) (σ:St) (H:Hp) (v:V) (u:Value) (Q:St->Hp->Prop),Inv X pins σ H s->RelV v u->t v σ H Q->
  wpAny (model X.prog X.w) X.A (assign target X.env u) (fun a s'=>∃σ' H',Inv X pins σ' H' s'/\Q σ' H') X.xe s
noncomputable abbrev Cp:=V->V->V->Hp->(Hp->Prop)->Prop
def yw (X:Cx)(t:Cp):Prop:=
 ∀(pins:List (Addr×Obj)) (s:Shared) (σ:St) (H:Hp) (o i v:V) (ov iv u:Value) (Q:Hp->Prop),Inv X pins σ H s->RelV o ov->RelV i iv->RelV v u->t o i v H Q->
  wpAny (model X.prog X.w) X.A (setItem ov iv u) (fun a s'=>∃H',Inv X pins σ H' s'/\Q H') X.xe s
noncomputable def Bd (i:Nat):TG:=fun v σ H Q=>Q (σ.set i (some v)) H
def pF (hN:X.N.Nodup)(hi:X.N[i]?=some x)(hx:Loc X.env.scope x)(hf:X.fn x=true\/X.env.scope.names.lookup x=some .local:=by first|exact .inl rfl|exact .inr rfl|assumption):PG X (.Name x pos) (Bd i):=by
 exact fun pins s σ H v u Q I r h=>wpAny_assign_Name (ig I hN hi hx r (fun s' I'=>⟨_,H,I',h⟩) hf)
noncomputable def IA (to ti:TE)(t:Cp):TG:=fun v σ H Q=>to σ H fun o H1=>ti σ H1 fun i H2=>t o i v H2 fun H3=>Q σ H3
def nB {o i:Expr}{to ti:TE}{t:Cp}(ho:PE X o to)(hi:PE X i ti)(hs:yw X t)
  (ha:∀v,assign (.Subscript o i pos) X.env v=(do
   let ov ←holding [v] (eval o X.env)
   let iv ←holding [v,ov] (eval i X.env)
   standAt pos
   holding [v,ov,iv] (setItem ov iv v)
   release [v,ov,iv] []):=by intro _;rfl):PG X (.Subscript o i pos) (IA to ti t):=by
 intro pins s σ H v u Q I r h;rw[ha];refine wb0 (wh0 (thn (ho pins s σ H _ I h) ?_));rintro ov s1 ⟨x,H1,I1,r1,q1⟩;refine wb0 (wh0 (thn (hi pins s1 σ H1 _ I1 q1) ?_));rintro iv s2 ⟨y,H2,I2,r2,q2⟩;refine wb0 (wpAny_standAt (wb0 (wh0 (thn (hs pins s2 σ H2 x y v ov iv u _ I2 r1 r2 r q2) ?_))));rintro _ s3 ⟨H3,I3,q3⟩;exact wpAny_release ⟨σ,H3,I3,q3⟩
noncomputable def Fw (te:TE)(g:TG):TS:=fun D σ H=>te σ H fun x H1=>g x σ H1 D.nx
def nC {g:TG}(he:PE X e te)(hg:PG X tg g)(hs:swapsWithSole [tg] e pos.line X.env=pure false:=by rfl)(hw:swappedStores [tg] e X.env=pure none:=by rfl)
  (h1:(assignEach [tg] X.env).map (·.2)=[assign tg X.env]:=by rfl):PS X (.Assign [tg] e pos) (Fw te g):=by
 intro pins s σ H D I h;refine wpAny_Assign_stores (thn (he pins s σ H _ I h) ?_) hs hw;rintro v s1 ⟨x,H1,I1,r1,q1⟩;rw[h1];exact thn (hg pins s1 σ H1 x v _ I1 r1 q1) fun a s2 q=>q
def fG {pos':Pos}(hN:X.N.Nodup)(hi:X.N[i]?=some x)(hx:Loc X.env.scope x)(he:PE X e te)(hs:swapsWith e (some (.Name x pos')) pos.line X.env=pure false:=by rfl)(hf:X.fn x=true\/X.env.scope.names.lookup x=some .local:=by first|exact .inl rfl|exact .inr rfl|assumption):
  PS X (.Assign [.Name x pos'] e pos) (Fw te (Bd i)):=by
 intro pins s σ H D I h;refine wpAny_Assign_Name (thn (he pins s σ H _ I h) ?_) hs;rintro v s1 ⟨y,H1,I1,r1,q1⟩;exact ig I1 hN hi hx r1 (fun s2 I2=>⟨_,H1,I2,q1⟩) hf
noncomputable def Cq (c:TT)(tb:TS):TS:=fun D σ H=>∃W:Nat->St->Hp->Prop,(∃m,W m σ H)/\∀m σ H,W m σ H->
 c σ H fun b H1=>if b=true then ∃N:St->Hp->Prop,(∀σ' H',N σ' H'->∃m',m'<m/\W m' σ' H')/\tb {D with nx:=N,ct:=N,bk:=D.nx} σ H1 else D.nx σ H1
def tI {tc:TT}{tb:TS}(hp:PassesOwn (model X.prog X.w) X.A X.env X.xe)(hc:PT X c tc)(hb:PSs X body tb):PS X (.While c body [] pos) (Cq tc tb):=by
 intro pins s σ H D I h;obtain⟨W,⟨m0,w0⟩,turn⟩:=h;refine wpAny_While (codeAny_whileLoop (fun n s'=>∃σ' H',Inv X pins σ' H' s'/\W n σ' H') ?_ m0 ⟨σ,H,I,w0⟩)
 rintro n s1 ⟨σ1,H1,I1,w1⟩
 refine wpAny_passesOwn hp (thn (hc pins s1 σ1 H1 _ I1 (turn n σ1 H1 w1)) ?_);rintro b s2 ⟨H2,I2,q2⟩;cases b with
 |true=>
  obtain⟨N,hN,q2⟩:=q2;rw[if_pos rfl];refine wpAny_passesOwn hp (thn (hb pins s2 σ1 H2 _ I2 q2) fun f s3 q3=>?_);cases f with
  |next=>
   obtain⟨σ3,H3,I3,n3⟩:=q3;obtain⟨m',hm,w3⟩:=hN σ3 H3 n3;exact⟨m',hm,σ3,H3,I3,w3⟩
  |cont=>
   obtain⟨σ3,H3,I3,n3⟩:=q3;obtain⟨m',hm,w3⟩:=hN σ3 H3 n3;exact⟨m',hm,σ3,H3,I3,w3⟩
  |brk=>exact q3
  |ret v=>exact q3
 |false=>
  rw[if_neg fx0];exact wpAny_execs_nil ⟨σ1,H2,I2,q2⟩
structure It where
 go:Nat->Hp->Prop
 yld:Nat->Hp->V->Hp->Prop
 stop:Nat->Hp->Prop
def fH (X:Cx)(pins:List (Addr×Obj))(H:Hp)(b:Addr):Prop:=
 H b=none/\b≠X.env.locals/\b∉X.fs/\(b∈X.ex\/X.s₀.heap.objs.size≤b)/\(∀x c,X.env.cells.lookup x=some c->c≠b)/\∀p∈X.pn++pins,p.1≠b
def Inv.fpOk (I:Inv X pins σ H s)(hb:s.heap.objs.size≤b)(hn:H' b=none):fH X pins H' b:=by
 refine⟨hn,Nat.ne_of_gt (nl0 I.lt hb),I.nofs hb,.inr (nt0 I.sz hb),fun x c e z=>?_,fun p hp z=>?_⟩
 ·obtain⟨v,q⟩:=I.cell x c e
  exact absurd (nl0 q.lt (by rwa [z])) (li0 _)
 ·exact absurd (nl0 (hs0 (I.pin p hp).1) (by rwa [z])) (li0 _)
structure Turn (P:Program)(w:World)(K:fg0)(tg:Expr)(J:It)(fp:List Addr)(it:Addr)(tn:Nat->Heap->Prop):Prop where
 mem:it∈fp
 obj:∀i h,tn i h->∀b∈fp,∃o,h.get? b=some o/\∀v,o.data≠.cell v
 keep:∀i h h',tn i h->(∀b∈fp,∀o,h.get? b=some o->h'.get? b=some o)->tn i h'
 item:∀(X:Cx),X.prog=P->X.w=w->X.K=K->X.calm=true->∀(i:Nat) (pins:List (Addr×Obj)) (s:Shared) (σ:St) (H:Hp) (E:Value->Shared->Prop),Inv X pins σ H s->(∀b∈fp,fH X pins H b)->tn i s.heap->J.go i H->
  wpAny (model P w) X.A (pyNext (.ref it)) (fun r s1=>∃u,r=some u/\
   wpAny (model P w) X.A (letOwnedTupleGo tg (.ref it) u) (fun a s2=>∃x H',Inv X pins σ H' s2/\RelV x u/\J.yld i H x H'/\tn (i+1) s2.heap/\∀b∈fp,H' b=none) E s1) E s
 done:∀(X:Cx),X.prog=P->X.w=w->X.K=K->X.calm=true->∀(i:Nat) (pins:List (Addr×Obj)) (s:Shared) (σ:St) (H:Hp) (E:Value->Shared->Prop),Inv X pins σ H s->(∀b∈fp,fH X pins H b)->tn i s.heap->J.stop i H->
  wpAny (model P w) X.A (pyNext (.ref it)) (fun r s1=>r=none/\Inv X pins σ H s1) E s
 self:∀(A:Around) (i:Nat) (s:Shared) (Q:Value->Shared->Prop) (E:Value->Shared->Prop),tn i s.heap->Q (.ref it) s->wpAny (model P w) A (pyIter (.ref it)) Q E s
noncomputable abbrev TI:=St->Hp->(It->Hp->Prop)->Prop
def PIE (X:Cx)(pins:List (Addr×Obj))(σ:St)(tg:Expr)(R:It->Hp->Prop)(itv:Value)(s2:Shared):Prop:=
 ∃(it:Addr) (fp:List Addr) (tn:Nat->Heap->Prop) (J:It) (H':Hp),itv=.ref it/\Inv X pins σ H' s2/\Turn X.prog X.w X.K tg J fp it tn/\tn 0 s2.heap/\(∀b∈fp,fH X pins H' b)/\R J H'
def PI (X:Cx)(tg iter:Expr)(wi:TI):Prop:=
 ∀(pins:List (Addr×Obj)) (s:Shared) (σ:St) (H:Hp) (R:It->Hp->Prop),Inv X pins σ H s->wi σ H R->
  wpAny (model X.prog X.w) X.A (eval iter X.env) (fun v s1=>wpAny (model X.prog X.w) X.A (pyIter v) (PIE X pins σ tg R) X.xe s1) X.xe s
def pH {M:Model}{it:Addr}{o:Obj}{n:String}{vs:Array Value}{Q:Unit->Shared->Prop}(ho:s.heap.get? it=some o)(hc:o.cls=.type n)(hd:o.data=.fields vs)
  (hn:["enumerate","zip","dict_itemiterator","dict_reverseitemiterator","odict_iterator","itertools.zip_longest","itertools.pairwise"].contains n=false) (hQ:Q () s):wpAny M A (letOwnedTupleGo tg (.ref it) u) Q E s:=by
 cases tg<;>first
  |exact wq0 hQ
  |(cases u<;>first
    |exact wq0 hQ
    |(refine wb0 (wpAny_load ho ?_)
      rw[hc,hd];show wpAny M A (if (["enumerate","zip","dict_itemiterator",_,"odict_iterator","itertools.zip_longest","itertools.pairwise"].contains n&&vs[0]?==some (rawInt _))=true then _ else _) Q E s;rw[if_neg (by intro h;rw[hn,Bool.false_and] at h;cases h)];exact wq0 hQ))
noncomputable def Itl (K:fg0)(a:Addr):It:=
 ⟨fun i H=>∃xs x,SqL K H a xs/\xs[i]?=some x,fun i H x H'=>H'=H/\∀xs,SqL K H a xs->xs[i]?=some x,fun i H=>∃xs,SqL K H a xs/\xs.length≤i⟩
noncomputable def Itt (K:fg0)(a:Addr):It:=
 ⟨fun i H=>∃xs x,SqT K H a xs/\xs[i]?=some x,fun i H x H'=>H'=H/\∀xs,SqT K H a xs->xs[i]?=some x,fun i H=>∃xs,SqT K H a xs/\xs.length≤i⟩
noncomputable def Itr (lo:Int)(n:Nat):It:=⟨fun i a=>i<n,fun i H x H'=>H'=H/\x=.int (lo+i),fun i a=>n≤i⟩
def qX {K:fg0}(a it:Addr):Turn P w K tg (Itl K a) [it] it (fun i h=>h.IsListIter it a i) where
 mem:=by simp
 obj:=fun i h st b hb=>by
  have e:b=it:=by simpa using hb
  subst e;obtain⟨o,e,c,d⟩:=st;exact⟨o,e,fun v z=>by rw[d] at z;cases z⟩
 keep:=fun i h h' st k=>st.at fun o e=>k it (by simp) o e
 item:=by
  intro X hP hw hK hc i pins s σ H E I hf st hg;subst hP hw hK;obtain⟨xs,x,hq,hx⟩:=hg;obtain⟨its,rv,p,hz⟩:=I.list hq;obtain⟨u,hu,ru⟩:=rv.get hx;obtain⟨f0,f1,f2,f3,f4,f5⟩:=hf it (by simp);refine wpAny_pyNext_list_item st p.isList (x:=u) (by simpa using hu) fun h' st' sb=>?_
  have I1:Inv X pins σ H {s with heap:=h'}:=I.turned (t':=s.toks) (fun b o hb e=>(sb.2 b hb).trans e) f0 f1 f3 f4 f5;obtain⟨o,e,c,d⟩:=id st';exact⟨u,rfl,pH (s:={s with heap:=h'}) e c d (by decide) ⟨x,H,I1,ru,⟨rfl,fun ys hy=>by rw[I.list_inj hy hq];exact hx⟩,st',fun b hb=>(hf b hb).1⟩⟩
 done:=by
  intro X hP hw hK hc i pins s σ H E I hf st hg;subst hP hw hK;obtain⟨xs,hq,hx⟩:=hg;obtain⟨its,rv,p,hz⟩:=I.list hq;obtain⟨f0,f1,f2,f3,f4,f5⟩:=hf it (by simp);have hl:=rv.length;exact wpAny_pyNext_list_end (I.ok.hd hc) st p.isList (by simp;simp_all) fun h' eb=>⟨rfl,I.turned (t':=s.toks) (fun b o hb e=>eb b o hb e) f0 f1 f3 f4 f5⟩
 self:=fun f f f f f st h=>wpAny_pyIter_listiter st h
def nD {K:fg0}(a it:Addr):Turn P w K tg (Itt K a) [it] it (fun i h=>h.IsTupleIter it a i) where
 mem:=by simp
 obj:=fun i h st b hb=>by
  have e:b=it:=by simpa using hb
  subst e;obtain⟨o,e,c,d⟩:=st;exact⟨o,e,fun v z=>by rw[d] at z;cases z⟩
 keep:=fun i h h' st k=>st.at fun o e=>k it (by simp) o e
 item:=by
  intro X hP hw hK hc i pins s σ H E I hf st hg;subst hP hw hK;obtain⟨xs,x,hq,hx⟩:=hg;obtain⟨its,rv,p,hz⟩:=I.tuple hq;obtain⟨u,hu,ru⟩:=rv.get hx;obtain⟨f0,f1,f2,f3,f4,f5⟩:=hf it (by simp);refine wpAny_pyNext_tuple_item st (show s.heap.IsTuple a its.toArray from p) (x:=u) (by simpa using hu) fun h' st' sb=>?_
  have I1:Inv X pins σ H {s with heap:=h'}:=I.turned (t':=s.toks) (fun b o hb e=>(sb.2 b hb).trans e) f0 f1 f3 f4 f5;obtain⟨o,e,c,d⟩:=id st';exact⟨u,rfl,pH (s:={s with heap:=h'}) e c d (by decide) ⟨x,H,I1,ru,⟨rfl,fun ys hy=>by rw[I.tuple_inj hy hq];exact hx⟩,st',fun b hb=>(hf b hb).1⟩⟩
 done:=by
  intro X hP hw hK hc i pins s σ H E I hf st hg;subst hP hw hK;obtain⟨xs,hq,hx⟩:=hg;obtain⟨its,rv,p,hz⟩:=I.tuple hq;obtain⟨f0,f1,f2,f3,f4,f5⟩:=hf it (by simp);have hl:=rv.length;exact wpAny_pyNext_tuple_end (I.ok.hd hc) st (show s.heap.IsTuple a its.toArray from p) (by simp;omega) fun h' eb=>⟨rfl,I.turned (t':=s.toks) (fun b o hb e=>eb b o hb e) f0 f1 f3 f4 f5⟩
 self:=fun f f f f f st h=>wpAny_pyIter_tupleiter st h
def nE {K:fg0}(it:Addr)(lo:Int)(n:Nat):Turn P w K tg (Itr lo n) [it] it (fun i h=>IsRangeIter h it (lo+(i:Nat)*1) ((n:Int)-(i:Nat)) 1) where
 mem:=by simp
 obj:=fun i h st b hb=>by
  have e:b=it:=by simpa using hb
  subst e;exact⟨_,st,fun v z=>by
   have z':Data.fields _=Data.cell v:=z;cases z'⟩
 keep:=fun i h h' st k=>k it (by simp) _ st
 item:=by
  intro X hP hw hK hc i pins s σ H E I hf st hg;subst hP hw hK;obtain⟨f0,f1,f2,f3,f4,f5⟩:=hf it (by simp);have W:=Walks.range (prog:=X.prog) (w:=X.w) (I.ok.hd hc) it lo 1 n;refine W.item i s _ _ hg st fun v h' tk hv st' kk=>?_
  obtain⟨t,rfl⟩:=hv;have I1:Inv X pins σ H {s with heap:=h',toks:=tk}:=I.turned (fun b o hb e=>kk b o (by simpa using hb) e) f0 f1 f3 f4 f5;refine⟨_,rfl,pH (s:={s with heap:=h',toks:=tk}) (n:="range_iterator") st' rfl rfl (by decide) ⟨.int (lo+i),H,I1,⟨t,?_⟩,⟨rfl,rfl⟩,st',fun b hb=>(hf b hb).1⟩⟩;rw[Int.mul_one]
 done:=by
  intro X hP hw hK hc i pins s σ H E I hf st hg;subst hP hw hK;obtain⟨f0,f1,f2,f3,f4,f5⟩:=hf it (by simp);exact wpAny_pyNext_range_end (I.ok.hd hc) st (by have:n≤i:=hg;grind) fun h' eb=>⟨rfl,I.turned (t':=s.toks) (fun b o hb e=>eb b o hb e) f0 f1 f3 f4 f5⟩
 self:=fun a a a a a st h=>wpAny_pyIter_rangeiter st h
noncomputable def Fx (K:fg0)(tl:TE):TI:=fun σ H R=>tl σ H fun x H1=>∃a,x=.ref a/\(∃xs,SqL K H1 a xs)/\R (Itl K a) H1
noncomputable def IB (K:fg0)(tl:TE):TI:=fun σ H R=>tl σ H fun x H1=>∃a,x=.ref a/\(∃xs,SqT K H1 a xs)/\R (Itt K a) H1
def dY {l:Expr}{tl:TE}(hl:PE X l tl):PI X tg l (Fx X.K tl):=by
 intro pins s σ H R I h;refine thn (hl pins s σ H _ I h) ?_;rintro v s1 ⟨x,H1,I1,r1,q1⟩;obtain⟨a,e,⟨xs,hq⟩,q⟩:=q1;subst e;cases r1;obtain⟨its,rv,p,hz⟩:=I1.list hq;refine wpAny_pyIter_list p.isList ?_;refine⟨s1.heap.objs.size,[s1.heap.objs.size],_,_,H1,rfl,I1.kept (t':=s1.toks) fun b o e=>ps0 _ e,qX a _,⟨_,pz0 _ rfl,rfl,rfl⟩,fun b hb=>?_,q⟩;have e:b=s1.heap.objs.size:=by simpa using hb
 subst e;exact I1.fpOk (nr0 _) (I1.hok.fresh (nr0 _))
def tJ {l:Expr}{tl:TE}(hl:PE X l tl):PI X tg l (IB X.K tl):=by
 intro pins s σ H R I h;refine thn (hl pins s σ H _ I h) ?_;rintro v s1 ⟨x,H1,I1,r1,q1⟩;obtain⟨a,e,⟨xs,hq⟩,q⟩:=q1;subst e;cases r1;obtain⟨its,rv,p,hz⟩:=I1.tuple hq;refine wpAny_pyIter_tuple (show s1.heap.IsTuple a its.toArray from p) ?_;refine⟨s1.heap.objs.size,[s1.heap.objs.size],_,_,H1,rfl,I1.kept (t':=s1.toks) fun b o e=>ps0 _ e,nD a _,⟨_,pz0 _ rfl,rfl,rfl⟩,fun b hb=>?_,q⟩;have e:b=s1.heap.objs.size:=by simpa using hb
 subst e;exact I1.fpOk (nr0 _) (I1.hok.fresh (nr0 _))
def tL {R:It->Hp->Prop}{lo hi:Int}{t u v:Tok}{tk:Nat}(I:Inv X pins σ H s)(h1:-(2 ^ 62)≤lo)(h2:lo<2 ^ 62)(h3:-(2 ^ 62)≤hi)(h4:hi<2 ^ 62)
  (q:R (Itr lo (hi-lo).toNat) H):wpAny (model X.prog X.w) X.A (pyIter (.ref s.heap.objs.size)) (PIE X pins σ tg R) E {s with heap:=s.heap.push {cls:=.type "range",data:=.fields #[.int lo t,.int hi u,.int 1 v]},toks:=tk}:=by
 refine wpAny_pyIter_range (IsRange.new ..) (small_one h1 h2 h3 h4) ?_;have I1:Inv X pins σ H {s with heap:=s.heap.push {cls:=.type "range",data:=.fields #[.int lo t,.int hi u,.int 1 v]},toks:=tk}:=I.kept fun b o e=>ps0 _ e
 refine⟨_,_,_,_,H,rfl,
  I1.kept fun b o e=>ps0 _ e,nE _ lo _,?_,fun b hb=>?_,q⟩
 ·have e1:lo+((0:Nat):Int)*1=lo:=by simp
  have e2:((hi-lo).toNat:Nat)-((0:Nat):Int)=Builtin.Range.rangeSize lo hi 1:=by rw[rangeSize_one];grind
  rw[e1,e2];exact pz0 _ rfl
 ·have e:b=(s.heap.push {cls:=.type "range",data:=.fields #[.int lo t,.int hi u,.int 1 v]}).objs.size:=by simpa using hb
  subst e;exact I1.fpOk (nr0 _) (I1.hok.fresh (nr0 _))
noncomputable def Fy (ta:TA):TI:=fun σ H R=>ta σ H fun vs H1=>∃j:Int,vs=[.int j]/\ -(2 ^ 62)≤j/\j<2 ^ 62/\R (Itr 0 j.toNat) H1
def qY {a:Expr}{ta:TA}(hg:Gl X "range")(hm:X.mg "range"=none)(ha:PA X [a] ta)(hs:starEach [a] X.env=[(false,eval a X.env)]:=by rfl):PI X tg (.Call (.Name "range" p) [a] [] pos) (Fy ta):=by
 intro pins s σ H R I h;refine Call_ (ld_blt I hg hm boot_range (PyProof.Rows.callWith_type1 (thn (ha pos pins s σ H _ I h) ?_) hs rfl));rintro us s1 ⟨vs,H1,I1,r1,q1⟩;obtain⟨j,e,q1,q2,q⟩:=q1;subst e;cases r1 with
 |cons r rr=>
  cases rr;obtain⟨t,rfl⟩:=r;exact call_range_1 (tL I1 (by simp_all) (by simp_all) q1 q2 (by simpa using q))
noncomputable def IC (wi:TI)(g:TG)(tb:TS):TS:=fun D σ H=>wi σ H fun J H1=>∃W:Nat->Nat->St->Hp->Prop,(∃m,W 0 m σ H1)/\∀i m σ H,W i m σ H->
 (J.stop i H/\D.nx σ H)\/(J.go i H/\∃N:St->Hp->Prop,(∀σ' H',N σ' H'->∃m',m'<m/\W (i+1) m' σ' H')/\∀x H',J.yld i H x H'->g x σ H' fun σ2 H2=>tb {D with nx:=N,ct:=N,bk:=D.nx} σ2 H2)
noncomputable def ik (fp:List Addr)(h:Heap):List (Addr×Obj):=fp.filterMap fun b=>(h.get? b).map fun o=>(b,o)
def cZ {o:Obj}(hb:b∈fp)(e:h.get? b=some o):(b,o)∈ik fp h:=List.mem_filterMap.mpr ⟨b,hb,by rw[e];rfl⟩
def qZ {p:Addr×Obj}(hp:p∈ik fp h):p.1∈fp/\h.get? p.1=some p.2:=by
 obtain⟨b,hb,e⟩:=List.mem_filterMap.mp hp;cases q:h.get? b with
 |none=>simp_all
 |some o=>
  rw[q] at e;have e':=Option.some.inj e;subst e';exact⟨hb,q⟩
def Inv.pinned (I:Inv X pins σ H s)(hf:∀b∈fp,fH X pins H b)(ho:∀b∈fp,∃o,s.heap.get? b=some o/\∀v,o.data≠.cell v):Inv X (pins++ik fp s.heap) σ H s:=
 I.pins_of fun p hp=>(ma0 hp).elim (fun z=>I.pin p (mr0 _ z)) fun z=>by
  obtain⟨hb,e⟩:=qZ z;obtain⟨f0,f1,f2,_⟩:=hf _ hb;obtain⟨o,e',d⟩:=ho _ hb<;>simp_all
def Inv.unpinned {pl:List (Addr×Obj)}(I:Inv X (pins++pl) σ H s):Inv X pins σ H s:=I.pins_of fun p hp=>I.pin p (mr0 _ (List.mem_append_left _ hp))
def nF {iter:Expr}{wi:TI}{g:TG}{tb:TS}(hp:PassesOwn (model X.prog X.w) X.A X.env X.xe)(hc:X.calm=true)(hi:PI X tg iter wi)(hg:PG X tg g)(hb:PSs X body tb)
  (hs:∀x,foldedSetIterable iter X.env x=pure x:=by intro _;rfl):PS X (.For tg iter body [] pos) (IC wi g tb):=by
 intro pins s σ H D I h;refine wpAny_For (thn (hi pins s σ H _ I h) fun v s1 h1=>thn h1 fun itv s2 h2=>?_) hs;obtain⟨it,fp,tn,J,H2,e,I2,T,st2,f2,W,⟨m0,w0⟩,turn⟩:=h2;subst e;have stat:∀{H':Hp},(∀b∈fp,H' b=none)->∀b∈fp,fH X pins H' b:=fun hn b hb=>⟨hn b hb,(f2 b hb).2⟩
 refine codeAny_forLoop_any (fun n s'=>∃i σ' H',Inv X pins σ' H' s'/\tn i s'.heap/\(∀b∈fp,H' b=none)/\W i n σ' H') ?_ m0 ⟨0,σ,H2,I2,st2,fun b hb=>(f2 b hb).1,w0⟩
 rintro n s3 ⟨i,σ3,H3,I3,st3,fr3,w3⟩
 rcases turn i n σ3 H3 w3 with⟨stop,qn⟩|⟨go,N,hN,step⟩
 ·refine wpAny_passesOwn hp (thn (T.done X rfl rfl rfl hc i pins s3 σ3 H3 X.xe I3 (stat fr3) st3 stop) ?_);rintro r s4 ⟨hr,I4⟩
  subst hr;exact wpAny_execs_nil ⟨σ3,H3,I4,qn⟩
 ·refine wpAny_passesOwn hp (thn (T.item X rfl rfl rfl hc i pins s3 σ3 H3 X.xe I3 (stat fr3) st3 go) ?_);rintro r s4 ⟨u,hr,h4⟩
  subst hr;refine wpAny_passesOwn hp (thn h4 ?_);rintro _ s5 ⟨x,H5,I5,r5,y5,st5,fr5⟩;have I5':=I5.pinned (stat fr5) (T.obj _ _ st5);refine wpAny_passesOwn hp (thn (hg _ s5 σ3 H5 x u _ I5' r5 (step x H5 y5)) ?_);rintro _ s6 ⟨σ6,H6,I6,q6⟩;refine wpAny_passesOwn hp (thn (hb _ s6 σ6 H6 _ I6 q6) fun f s7 q7=>?_);have again:∀{σ7:St} {H7:Hp},Inv X (pins++ik fp s5.heap) σ7 H7 s7->N σ7 H7->∃m,m<n/\∃i σ' H',Inv X pins σ' H' s7/\tn i s7.heap/\(∀b∈fp,H' b=none)/\W i m σ' H':=fun {σ7 H7} I7 n7=>by
   obtain⟨m',hm,w7⟩:=hN σ7 H7 n7;refine⟨m',hm,i+1,σ7,H7,I7.unpinned,T.keep _ _ _ st5 fun b hb o e=>(I7.pin (b,o) (mr0 _ (mr0 _ (cZ hb e)))).1,fun b hb=>?_,w7⟩;obtain⟨o,e,d⟩:=T.obj _ _ st5 b hb;exact (I7.pin (b,o) (mr0 _ (mr0 _ (cZ hb e)))).2.1
  cases f with
  |next=>obtain⟨σ7,H7,I7,n7⟩:=q7;exact again I7 n7
  |cont=>obtain⟨σ7,H7,I7,n7⟩:=q7;exact again I7 n7
  |brk=>obtain⟨σ7,H7,I7,q7⟩:=q7;exact⟨σ7,H7,I7.unpinned,q7⟩
  |ret v=>obtain⟨x7,σ7,H7,I7,r7,q7⟩:=q7;exact⟨x7,σ7,H7,I7.unpinned,r7,q7⟩
noncomputable abbrev R2:=V->V->Hp->VK->Prop
def OpR (X:Cx)(f:Value->Value->Sem Value)(r:R2):Prop:=
 ∀(pins:List (Addr×Obj)) (s:Shared) (σ:St) (H:Hp) (x y:V) (v u:Value) (Q:VK),Inv X pins σ H s->RelV x v->RelV y u->r x y H Q->
  wpAny (model X.prog X.w) X.A (f v u) (EP X pins σ Q) X.xe s
def UnR (X:Cx)(f:Value->Sem Value)(r:V->Hp->VK->Prop):Prop:=
 ∀(pins:List (Addr×Obj)) (s:Shared) (σ:St) (H:Hp) (x:V) (v:Value) (Q:VK),Inv X pins σ H s->RelV x v->r x H Q->
  wpAny (model X.prog X.w) X.A (f v) (EP X pins σ Q) X.xe s
def aZ (X:Cx)(f:Value)(r:List V->Hp->VK->Prop):Prop:=
 ∀(pins:List (Addr×Obj)) (s:Shared) (σ:St) (H:Hp) (xs:List V) (us:List Value) (Q:VK),Inv X pins σ H s->Vals xs us->r xs H Q->
  wpAny (model X.prog X.w) X.A (call f us) (EP X pins σ Q) X.xe s
def ID (X:Cx)(r:V->Hp->(Bool->Hp->Prop)->Prop):Prop:=
 ∀(pins:List (Addr×Obj)) (s:Shared) (σ:St) (H:Hp) (x:V) (v:Value) (Q:Bool->Hp->Prop),Inv X pins σ H s->RelV x v->r x H Q->
  wpAny (model X.prog X.w) X.A (truthy v) (TP X pins σ Q) X.xe s
noncomputable def tOp (r:R2)(ta tb:TE):TE:=fun σ H Q=>ta σ H fun x H1=>tb σ H1 fun y H2=>r x y H2 Q
noncomputable def tUn (r:V->Hp->VK->Prop)(ta:TE):TE:=fun σ H Q=>ta σ H fun x H1=>r x H1 Q
noncomputable def rI (C:Int->Int->Prop)(g:Int->Int->V):R2:=fun x y H Q=>∃i j,x=.int i/\y=.int j/\C i j/\Q (g i j) H
noncomputable def rI0 (g:Int->Int->V):R2:=fun x y H Q=>∃i j,x=.int i/\y=.int j/\Q (g i j) H
noncomputable def rU (g:Int->V):V->Hp->VK->Prop:=fun x H Q=>∃i,x=.int i/\Q (g i) H
section
variable {a b:Expr}{tb tc:TE}
def binT (ha:PE X a ta)(hb:PE X b tb){R:V->V->Hp->Prop}(I:Inv X pins σ H s)
  (h:ta σ H fun x H1=>tb σ H1 fun y H2=>R x y H2)  {f:Value->Value->Sem Value}
  (hf:∀v u s2 x y H2,Inv X pins σ H2 s2->RelV x v->RelV y u->R x y H2->wpAny (model X.prog X.w) X.A (f v u) Q X.xe s2):
  wpAny (model X.prog X.w) X.A (eval a X.env) (fun v s₁=>wpAny (model X.prog X.w) X.A (eval b X.env) (fun u s₂=>wpAny (model X.prog X.w) X.A (f v u) Q X.xe s₂) X.xe s₁) X.xe s:=by
 exact thn (ha _ s σ H _ I h) fun v s1 ⟨x,H1,I1,r1,q1⟩=>thn (hb _ s1 σ H1 _ I1 q1) fun u s2 ⟨y,H2,I2,r2,q2⟩=>hf v u s2 x y H2 I2 r1 r2 q2
def lE {op:Operator}{r:R2}(ho:OpR X (binaryOp op) r)(ha:PE X a ta)(hb:PE X b tb):PE X (.BinOp a op b pos) (tOp r ta tb):=by
 exact fun pins s σ H Q I h=>wpAny_BinOp (binT ha hb I h fun v u s2 x y H2 I2 rx ry q=>ho _ s2 σ H2 x y v u Q I2 rx ry q)
def Fz {op:UnaryOp}{r:V->Hp->VK->Prop}(ho:UnR X (unaryOp op) r)(ha:PE X a ta):PE X (.UnaryOp op a pos) (tUn r ta):=by
 exact fun pins s σ H Q I h=>UnaryOp_ (thn (ha _ s σ H _ I h) fun v s1 ⟨x,H1,I1,r1,q1⟩=>ho _ s1 σ H1 x v Q I1 r1 q1)
def opI {f:Value->Value->Sem Value}{C:Int->Int->Prop}{g:Int->Int->Int}
  (rule:∀(i j:Int) (t u:Tok) (s:Shared) (Q:Value->Shared->Prop) (E:Value->Shared->Prop),C i j->Q (.int (g i j) s.toks) {s with toks:=s.toks+1}->wpAny (model X.prog X.w) X.A (f (.int i t) (.int j u)) Q E s):
  OpR X f (rI C fun i j=>.int (g i j)):=by
 intro pins s σ H x y v u Q I rx ry h;obtain⟨i,j,rfl,rfl,hc,q⟩:=h;obtain⟨t,rfl⟩:=rx;obtain⟨t',rfl⟩:=ry;exact rule i j t t' s _ _ hc ⟨.int _,H,I.tok _,⟨_,rfl⟩,q⟩
def FA {f:Value->Value->Sem Value}{g:Int->Int->Int}
  (rule:∀(i j:Int) (t u:Tok) (s:Shared) (Q:Value->Shared->Prop) (E:Value->Shared->Prop),Q (.int (g i j) s.toks) {s with toks:=s.toks+1}->wpAny (model X.prog X.w) X.A (f (.int i t) (.int j u)) Q E s):
  OpR X f (rI0 fun i j=>.int (g i j)):=by
 intro pins s σ H x y v u Q I rx ry h;obtain⟨i,j,rfl,rfl,q⟩:=h;obtain⟨t,rfl⟩:=rx;obtain⟨t',rfl⟩:=ry;exact rule i j t t' s _ _ ⟨.int _,H,I.tok _,⟨_,rfl⟩,q⟩
def Cr {f:Value->Value->Sem Value}{g:Int->Int->Bool}
  (rule:∀(i j:Int) (t u:Tok) (s:Shared) (Q:Value->Shared->Prop) (E:Value->Shared->Prop),Q (.bool (g i j)) s->wpAny (model X.prog X.w) X.A (f (.int i t) (.int j u)) Q E s):
  OpR X f (rI0 fun i j=>.bl (g i j)):=by
 intro pins s σ H x y v u Q I rx ry h;obtain⟨i,j,rfl,rfl,q⟩:=h;obtain⟨t,rfl⟩:=rx;obtain⟨t',rfl⟩:=ry;exact rule i j t t' s _ _ ⟨.bl _,H,I,rfl,q⟩
def IE (i j:Int):Prop:=0<j/\j<1073741824
def CMul (i j:Int):Prop:=(-(2 ^ 64)<i/\i<2 ^ 64)\/(-(2 ^ 64)<j/\j<2 ^ 64)
def CMul.ok {i j:Int}(h:CMul i j):IntMulOk i j:=by
 rcases h with⟨h1,h2⟩|⟨h1,h2⟩
 ·exact .of_left (intBits_le_64 h1 h2)
 ·exact .of_right (intBits_le_64 h1 h2)
def Ct:OpR X (binaryOp .Add) (rI0 fun i j=>.int (i+j)):=FA fun a a a a a a a q=>add_int q
def Cu:OpR X (binaryOp .Sub) (rI0 fun i j=>.int (i-j)):=FA fun a a a a a a a q=>sub_int q
def op_mul:OpR X (binaryOp .Mult) (rI CMul fun i j=>.int (i*j)):=opI fun a a a a a a a hc q=>mul_int q hc.ok
def op_fdiv:OpR X (binaryOp .FloorDiv) (rI IE fun i j=>.int (i / j)):=opI fun i j a a a a a hc q=>by
 have h1:(0:Int)<j:=hc.1;have h2:j<1073741824:=hc.2;exact floordiv_int (by grind) (by rw[Int.fdiv_eq_ediv_of_nonneg i (by grind)];exact q) (.inl (PyProof.noPylong_small (by omega)))
def op_mod:OpR X (binaryOp .Mod) (rI (fun a j=>0<j) fun i j=>.int (i % j)):=opI fun i j a a a a a hc q=>by
 have h1:(0:Int)<j:=hc;exact mod_int' (by grind) (by rw[Int.fmod_eq_emod_of_nonneg i (by grind)];exact q)
def unI {f:Value->Sem Value}{g:Int->Int}
  (rule:∀(i:Int) (t:Tok) (s:Shared) (Q:Value->Shared->Prop) (E:Value->Shared->Prop),Q (.int (g i) s.toks) {s with toks:=s.toks+1}->wpAny (model X.prog X.w) X.A (f (.int i t)) Q E s):
  UnR X f (rU fun i=>.int (g i)):=by
 intro pins s σ H x v Q I rx h;obtain⟨i,rfl,q⟩:=h;obtain⟨t,rfl⟩:=rx;exact rule i t s _ _ ⟨.int _,H,I.tok _,⟨_,rfl⟩,q⟩
def Cv:UnR X (unaryOp .USub) (rU fun i=>.int (-i)):=unI fun a a a a a q=>neg_int q
end
section
variable {a b:Expr}{tb tc:TE}
def dc {Q:VK}{k k':Bool}(I:Inv X pins σ H s)(q:Q (.bl k) H)(e:k=k'):EP X pins σ Q (.bool k') s:=by
 subst e;exact⟨.bl k,H,I,rfl,q⟩
def FC:OpR X (compareOp .Lt) (rI0 fun i j=>.bl (decide (i<j))):=Cr fun a a a a a a a q=>lt_int q
def FD:OpR X (compareOp .LtE) (rI0 fun i j=>.bl (decide (i≤j))):=Cr fun a a a a a a a q=>le_int q
def FE:OpR X (compareOp .Gt) (rI0 fun i j=>.bl (decide (j<i))):=Cr fun a a a a a a a q=>gt_int q
def rd:OpR X (compareOp .In) (fun x y H Q=>∃i j,x=.str i/\y=.str j/\Q (.bl (!(Builtin.Str.occurrences j i 0 j.length 1).isEmpty)) H):=by
 intro pins s σ H x y v u Q I rx ry h;obtain⟨i,j,rfl,rfl,q⟩:=h;obtain⟨t,rfl⟩:=rx;obtain⟨t',rfl⟩:=ry;exact in_str (dc I q rfl)
def Cw:OpR X (compareOp .Is) (fun x y H Q=>y=.non/\Q (.bl (decide (x=.non))) H):=by
 intro pins s σ H x y v u Q I rx ry h;obtain⟨rfl,q⟩:=h;cases ry;refine is_none_gen (dc I q ?_);cases x<;>first
  |rfl
  |(obtain⟨t,rfl⟩:=rx;rfl)
def yx:OpR X (compareOp .IsNot) (fun x y H Q=>y=.non/\Q (.bl (!decide (x=.non))) H):=by
 intro pins s σ H x y v u Q I rx ry h;obtain⟨rfl,q⟩:=h;cases ry;refine isnot_none_gen (dc I q ?_);cases x<;>first
  |rfl
  |(obtain⟨t,rfl⟩:=rx;rfl)
def yy {op:CmpOp}{r:R2}(ho:OpR X (compareOp op) r)(ha:PE X a ta)(hb:PE X b tb)(hm:behindInMarks op b=false):PE X (.Compare a [op] [b] pos) (tOp r ta tb):=by
 exact fun pins s σ H Q I h=>wpAny_Compare1 (binT ha hb I h fun v u s2 x y H2 I2 rx ry q=>ho _ s2 σ H2 x y v u Q I2 rx ry q) hm
noncomputable def Be (t:TE):TT:=fun σ H Q=>t σ H fun x H'=>∃k,x=.bl k/\Q k H'
def gR {op:CmpOp}{r:R2}(ho:OpR X (compareOp op) r)(ha:PE X a ta)(hb:PE X b tb)(hm:behindInMarks op b=false):PT X (.Compare a [op] [b] pos) (Be (tOp r ta tb)):=by
 intro pins s σ H Q I h;refine wpAny_isTrue_Compare1 (thn (ha pins s σ H _ I h) fun v s1 ⟨x,H1,I1,r1,q1⟩=>thn (hb pins s1 σ H1 _ I1 q1) fun u s2 ⟨y,H2,I2,r2,q2⟩=>
  thn (ho pins s2 σ H2 x y v u _ I2 r1 r2 q2) ?_) hm;rintro c s3 ⟨z,H3,I3,r3,k,e,q3⟩
 subst e;cases r3;exact wpAny_truthy_bool ⟨H3,I3,q3⟩
noncomputable def nG (r r':R2)(ta tb tc:TE):TE:=fun σ H Q=>ta σ H fun x H1=>tb σ H1 fun y H2=>r x y H2 fun z H3=>∃k,z=.bl k/\
 (if k=true then tc σ H3 fun w' H4=>r' y w' H4 Q else Q (.bl false) H3)
def lF {op op':CmpOp}{r r':R2}(ho:OpR X (compareOp op) r)(ho':OpR X (compareOp op') r')(ha:PE X a ta)(hb:PE X b tb)(hc:PE X c tc)
  (hm:lastMarks [op,op'] [b,c]=false:=by with_unfolding_all rfl):PE X (.Compare a [op,op'] [b,c] pos) (nG r r' ta tb tc):=by
 intro pins s σ H Q I h;refine Compare_chain (thn (ha pins s σ H _ I h) fun v s1 ⟨x,H1,I1,r1,q1⟩=>chain_link (thn (hb pins s1 σ H1 _ I1 q1) fun u s2 ⟨y,H2,I2,r2,q2⟩=>
  thn (ho pins s2 σ H2 x y v u _ I2 r1 r2 q2) ?_)) hm;rintro d s3 ⟨z,H3,I3,r3,k,e,q3⟩
 subst e;cases r3;refine wpAny_truthy_bool ?_;cases k with
 |false=>exact ite_ff ⟨.bl false,H3,I3,rfl,q3⟩
 |true=>exact ite_tt (chain_last (thn (hc pins s3 σ H3 _ I3 q3) fun w' s4 ⟨z',H4,I4,r4,q4⟩=>ho' pins s4 σ H4 y z' u w' Q I4 r2 r4 q4))
def lG {op op':CmpOp}{r r':R2}(ho:OpR X (compareOp op) r)(ho':OpR X (compareOp op') r')(ha:PE X a ta)(hb:PE X b tb)(hc:PE X c tc)
  (hm:lastMarks [op,op'] [b,c]=false:=by with_unfolding_all rfl):PT X (.Compare a [op,op'] [b,c] pos) (Be (nG r r' ta tb tc)):=by
 intro pins s σ H Q I h;refine isTrue_chain (thn (ha pins s σ H _ I h) fun v s1 ⟨x,H1,I1,r1,q1⟩=>test_link (thn (hb pins s1 σ H1 _ I1 q1) fun u s2 ⟨y,H2,I2,r2,q2⟩=>
  thn (ho pins s2 σ H2 x y v u _ I2 r1 r2 q2) ?_)) hm;rintro d s3 ⟨z,H3,I3,r3,k,e,q3⟩
 subst e;cases r3;refine wpAny_truthy_bool ?_;cases k with
 |false=>
  obtain⟨k',e',q'⟩:=q3;cases e';exact ite_ff ⟨H3,I3,q'⟩
 |true=>
  refine ite_tt (test_last (thn (hc pins s3 σ H3 _ I3 q3) fun w' s4 ⟨z',H4,I4,r4,q4⟩=>thn (ho' pins s4 σ H4 y z' u w' _ I4 r2 r4 q4) fun d' s5 ⟨z2,H5,I5,r5,k2,e2,q5⟩=>?_));subst e2;cases r5;exact wpAny_truthy_bool ⟨H5,I5,q5⟩
def Cy (K:fg0)(x:V)(H:Hp)(k:Bool):Prop:=
 match x with
 |.non=>k=false
 |.bl b=>k=b
 |.int i=>k=(i != 0)
 |.str y=>y.length≤sizeLine/\k=((y.length:Int) != 0)
 |.byt y=>y.size≤sizeLine/\k=((y.size:Int) != 0)
 |.ref p=>(∃xs,SqL K H p xs/\k=!xs.isEmpty)\/(∃xs,SqT K H p xs/\k=!xs.isEmpty)\/∃kvs,H p=some (.dK kvs)/\k=!kvs.isEmpty
 |_=>False
def nH {κ:Type}{kvs:List (κ×V)}{vs:List (κ×Value)}(r:KV kvs vs):(!vs.isEmpty)=!kvs.isEmpty:=by
 cases r<;>rfl
def ip {its:List Value}(r:Vals xs its):(!its.toArray.isEmpty)=!xs.isEmpty:=by
 cases r<;>simp
def fI:(sizeLine:Nat)<2 ^ 63:=by decide
def Cz:ID X (fun x H Q=>∃k,Cy X.K x H k/\Q k H):=by
 intro pins s σ H x v Q I rx h;obtain⟨k,e,q⟩:=h;have hl:=fI;have hs:sizeLine=16777216:=sizeLine_eq;cases x with
 |non=>
  cases rx;have e':k=false:=e;subst e';exact truthy_none ⟨H,I,q⟩
 |bl b=>
  cases rx;have e':k=b:=e;subst e';exact wpAny_truthy_bool ⟨H,I,q⟩
 |int i=>
  obtain⟨t,rfl⟩:=rx;have e':k=(i != 0):=e;subst e';exact PySem.P.truthy_int ⟨H,I,q⟩
 |str y=>
  obtain⟨t,rfl⟩:=rx;obtain⟨hy,e'⟩:y.length≤sizeLine/\k=((y.length:Int) != 0):=e;subst e';exact PySem.P.truthy_str (by grind) ⟨H,I.tok _,q⟩
 |byt y=>
  obtain⟨t,rfl⟩:=rx;obtain⟨hy,e'⟩:y.size≤sizeLine/\k=((y.size:Int) != 0):=e;subst e';exact PySem.W.truthy_bytes (by omega) ⟨H,I.tok _,q⟩
 |ref p=>
  cases rx;have e':(∃xs,SqL X.K H p xs/\k=!xs.isEmpty)\/(∃xs,SqT X.K H p xs/\k=!xs.isEmpty)\/∃kvs,H p=some (.dK kvs)/\k=!kvs.isEmpty:=e;rcases e' with⟨xs,hx,e'⟩|⟨xs,hx,e'⟩|⟨kvs,hx,e'⟩
  ·subst e'
   obtain⟨its,r,pl,hz⟩:=I.list hx;have hlen:=r.length;exact wpAny_truthy_list pl.isList (by simp only[ls0];omega) ⟨H,I.tok _,by rw[ip r];exact q⟩
  ·subst e'
   obtain⟨its,r,pl,hz⟩:=I.tuple hx;have hlen:=r.length;exact truthy_tuple pl (by simp only[ls0];omega) ⟨H,I.tok _,by rw[ip r];exact q⟩
  ·subst e'
   obtain⟨hz,hS,vs,r,m⟩:kvs.length≤sizeLine/\(p==sysModules)=false/\∃vs,KV kvs vs/\s.heap.DictOf (aD X.prog X.w) p vs:=I.hok p _ hx;have hlen:kvs.length=vs.length:=Paired.length r;exact wpAny_truthy_dict hS m (by omega) ⟨H,I.tok _,by rw[nH r];exact q⟩
 |_=>exact (show False from e).elim
def tN (ha:PE X a ta)(he:∀whole,isTrue a X.env whole=(do let v ←whole;standAt a.pos;holding [v] (truthy v))):
  PT X a (fun σ H Q=>ta σ H fun x H'=>∃k,Cy X.K x H' k/\Q k H'):=by
 exact fun pins s σ H Q I h=>isTrue_plain (thn (ha _ s σ H _ I h) fun v s1 ⟨x,H1,I1,r1,q1⟩=>Cz _ s1 σ H1 x v Q I1 r1 q1) (he _)
def op_add_str:OpR X (binaryOp .Add) (fun x y H Q=>∃i j,x=.str i/\y=.str j/\i.length+j.length≤sizeLine/\Q (.str (i++j)) H):=by
 intro pins s σ H x y v u Q I rx ry h;obtain⟨i,j,rfl,rfl,hz,q⟩:=h;obtain⟨t,rfl⟩:=rx;obtain⟨t',rfl⟩:=ry;exact add_str (fun t' tk=>⟨.str _,H,I.tok _,⟨_,rfl⟩,q⟩) hz
def vals1 {x:V}(r:Vals [x] us):∃u,us=[u]/\RelV x u:=by
 cases r with
 |cons r1 r2=>cases r2;exact⟨_,rfl,r1⟩
def vals2 {x y:V}(r:Vals [x,y] us):∃u w',us=[u,w']/\RelV x u/\RelV y w':=by
 cases r with
 |cons r1 r2=>
  cases r2 with
  |cons r3 r4=>cases r4;exact⟨_,_,rfl,r1,r3⟩
def rf (hc:X.calm=true):aZ X (.builtin "max") (fun xs H Q=>∃i j,xs=[.int i,.int j]/\Q (.int (if j>i then j else i)) H):=by
 intro pins s σ H xs us Q I r h;obtain⟨i,j,rfl,q⟩:=h;obtain⟨u,w',rfl,⟨t,rfl⟩,⟨t',rfl⟩⟩:=vals2 r;refine max_two_ints (I.ok.hd hc) fun h' tk k=>⟨_,H,I.kept k,?_,q⟩
 by_cases hj:j>i
 ·rw[if_pos hj,if_pos hj];exact⟨_,rfl⟩
 ·rw[if_neg hj,if_neg hj];exact⟨_,rfl⟩
def rg (hc:X.calm=true):aZ X (.builtin "min") (fun xs H Q=>∃i j,xs=[.int i,.int j]/\Q (.int (if j<i then j else i)) H):=by
 intro pins s σ H xs us Q I r h;obtain⟨i,j,rfl,q⟩:=h;obtain⟨u,w',rfl,⟨t,rfl⟩,⟨t',rfl⟩⟩:=vals2 r;refine min_two_ints (I.ok.hd hc) fun h' tk k=>⟨_,H,I.kept k,?_,q⟩
 by_cases hj:j<i
 ·rw[if_pos hj,if_pos hj];exact⟨_,rfl⟩
 ·rw[if_neg hj,if_neg hj];exact⟨_,rfl⟩
def ki:aZ X (.type "str") (fun xs H Q=>∃i,xs=[.int i]/\i.natAbs.log2<1920/\Q (.str (toString i)) H):=by
 intro pins s σ H xs us Q I r h;obtain⟨i,rfl,hz,q⟩:=h;obtain⟨u,rfl,t,rfl⟩:=vals1 r;exact PySem.P.str_of_int hz ⟨.str _,H,I.tok _,⟨_,rfl⟩,q⟩
def IF (K:fg0)(x:V)(H:Hp)(n:Nat):Prop:=
 match x with
 |.str y=>y.length≤sizeLine/\n=y.length
 |.byt y=>y.size≤sizeLine/\n=y.size
 |.ref p=>(∃xs,SqL K H p xs/\n=xs.length)\/∃xs,SqT K H p xs/\n=xs.length
 |_=>False
def eT:aZ X (.builtin "len") (fun xs H Q=>∃x n,xs=[x]/\IF X.K x H n/\Q (.int n) H):=by
 intro pins s σ H xs us Q I r h;obtain⟨x,n,rfl,e,q⟩:=h;obtain⟨u,rfl,rx⟩:=vals1 r;have hs:=sizeLine_eq;cases x with
 |str y=>
  obtain⟨t,rfl⟩:=rx;obtain⟨hy,e'⟩:y.length≤sizeLine/\n=y.length:=e;subst e';exact len_str (by omega) ⟨.int _,H,I.tok _,⟨_,rfl⟩,q⟩
 |byt y=>
  obtain⟨t,rfl⟩:=rx;obtain⟨hy,e'⟩:y.size≤sizeLine/\n=y.size:=e;subst e';exact PySem.W.len_bytes (by omega) ⟨.int _,H,I.tok _,⟨_,rfl⟩,q⟩
 |ref p=>
  cases rx;have e':=e;rcases e' with⟨xs,hx,e'⟩|⟨xs,hx,e'⟩
  ·subst e'
   obtain⟨its,r',pl,hz⟩:=I.list hx;have hlen:=r'.length;exact Calls.call_len_list pl.isList (by simp only[ls0];omega) ⟨.int xs.length,H,I.tok _,⟨_,by simp only[ls0];rw[hlen]⟩,q⟩
  ·subst e'
   obtain⟨its,r',pl,hz⟩:=I.tuple hx;have hlen:=r'.length;exact len_tuple pl (by simp only[ls0];omega) ⟨.int xs.length,H,I.tok _,⟨_,by simp only[ls0];rw[hlen]⟩,q⟩
 |_=>exact (e).elim
end
structure ObjM (h:Heap)(x dx C:Addr)(mA:Str->Option Value):Prop where
 obj:h.get? x=some (PySem.W.instObj C dx)
 ns:h.Ns1 dx mA
 ne:dx≠x
set_option tactic.hygienic true in
def rh (n:h.Ns1 dx mA):∃od,h.get? dx=some od/\∀name,PySem.W.lookIn name od=some (mA name):=by
 obtain⟨o,es,ep,ho,hd,hk,_,hm⟩:=n;refine⟨o,ho,fun name=>?_⟩;have e:=hm name;unfold nsFind findBy at e;rw[←Array.find?_toList] at e;unfold PySem.W.lookIn;rw[hd];dsimp only;split
 ·simp_all
 ·rename_i q
  rw[q] at e;have a:es.toList.any (·.refKey)=false:=by
   rw[List.any_eq_false];intro y hy;obtain⟨z,t,hkey⟩:=hk y (Array.mem_toList_iff.mp hy);simp[DictEntry.refKey,hkey]
  have a':¬ es.toList.any (·.refKey)=true:=by rw[a];simp
  rw[if_neg a'];exact congrArg _ e
def ObjM.look {x:Addr}(I:ObjM h x dx C mA):∃od,PySem.W.InstAt h x (PySem.W.instObj C dx) C (some od)/\∀name,PySem.W.lookIn name od=some (mA name):=
 let ⟨od,ho,hl⟩:=rh I.ns
 ⟨od,⟨I.obj,rfl,rfl,ho⟩,hl⟩
section
variable {K:fg0}{x:Addr}
def get_map {expr:Bool}(X:K.In s.heap)(I:ObjM s.heap x dx C mA)(hg:PySem.W.plainGet K C name=true)(hh:PySem.W.hasDictIn K C=true)
  (ha:PySem.W.findIn K (.ref C) name=some none) (hv:mA name=some v) (hv':PySem.W.handedIn v=true) (h:Q v {s with toks:=s.toks+1}):
  wpAny (model prog w) A (getAttr (.ref x) name expr) Q E s:=by
 obtain⟨od,J,hl⟩:=I.look;exact PySem.W.get_value X J (PySem.W.plainGet_of hg).1 (PySem.W.findObj_own hh ha rfl (by rw[hl,hv])) hv' h
def tO {pl:Sem Bool}{Q:Value×List Value->Shared->Prop}(X:K.In s.heap)(I:ObjM s.heap x dx C mA)(hg:PySem.W.plainGet K C name=true)
  (hf:PySem.W.findIn K (.ref C) name=some (some (.ref f))) (ht:PySem.W.isFn K (.ref f)=true) (hv:mA name=none) (h:Q (.ref f,[.ref x]) s):
  wpAny (model prog w) A (getMethod (.ref x) name pl) Q E s:=by
 obtain⟨od,J,hl⟩:=I.look;exact PySem.W.method_fn X J (PySem.W.plainGet_of hg).1 (PySem.W.plainGet_of hg).2 hf (beq_iff_eq.mp ht) (by show (PySem.W.lookIn _ od).map _=some _;simp_all) h
def yz {ns:List Str}{Q:Unit->Shared->Prop}(X:K.In s.heap)(I:ObjM s.heap x dx C mA)
  (hs:PySem.W.findIn K (.ref C) "__setattr__"=some (some (.builtin "object.__setattr__"))) (hp:PySem.W.plainOver K C=true) (ht:PySem.W.takerIn K C name=some none) (hh:PySem.W.hasDictIn K C=true)
  (hw:PySem.Within mA ns) (hsz:ns.length≤sizeLine)
  (h:∀h',ObjM h' x dx C (fun y=>if y=name then some v else mA y)->Heap.SameBut dx s.heap h'->Q () {s with heap:=h',toks:=s.toks+2}):
  wpAny (model prog w) A (setAttr (.ref x) name v) Q E s:=by
 obtain⟨od,J,hl⟩:=I.look;refine PySem.W.set_plain X J hs (PySem.W.osa_open (s:={s with toks:=s.toks+1}) (r:=none) X J hp ht fun b=>?_);obtain⟨cd,hc,hd'⟩:=PySem.W.any_some hh;have hx:s.heap.get? x=some ⟨.ref C,some dx,.plain,#[]⟩:=I.obj;refine wb0 (wq0 (wb0 (wb0 (wpAny_loadPart hx (wb0 (PySem.W.Looks.here (s:={s with toks:=s.toks+1}) (PySem.W.looks_clsIn X hc) ?_))))));rw[hd'];refine wq0 (a:=some dx) (wb0 (wq0 (wb0 ?_)));refine wpAny_nsSet1 (s:={s with toks:=s.toks+1}) I.ns fun h' hn2 hs2=>?_
 obtain⟨oD,esD,epD,hoD,hdD,hcD⟩:=hn2.count (PySem.Within.cons name v hw);refine wb0 (wpAny_lookBehind hoD (by rw[hdD];exact pastItsLine_dict (nt0 hcD (by rw[lc0];simp_all))) ?_);exact wq0 (h _ ⟨(hs2.2 _ (Ne.symm I.ne)).trans I.obj,hn2,I.ne⟩ hs2)
def tP {R:Result->Shared->Prop}{vs:List Value}{kw:List (Str×Value)}(X:K.In s.heap)(hm:PySem.W.makesIn K C=true)
  (hi:PySem.W.findIn K (.ref C) "__init__"=some (some (.ref f))) (hf:PySem.W.typeIn K (.ref f)=some (.type "function"))
  (h:codeAny (model prog w) (A.under (.builtin "type.__call__" ⟨.ref C::vs,kw⟩)) (.call (.ref f) ⟨.ref (s.heap.objs.size+1)::vs,kw⟩) (PySem.W.InitBack (s.heap.objs.size+1) R)
   {s with heap:=(s.heap.push PySem.W.emptyDict).push (PySem.W.instObj C s.heap.objs.size)}):
  codeAny (model prog w) A (.call (.ref C) ⟨vs,kw⟩) R s:=by
 exact PySem.W.make_core (PySem.W.makes_of X hm) (PySem.W.looks_findIn X hi) (fun self=>PySem.W.bind_fn X _ hf) (.inl rfl) h
end
noncomputable def eG (f:Str)(v:V):List (Str×V)->List (Str×V)
 |[]=>[(f,v)]
 |(g,x)::r=>if g=f then (g,v)::r else (g,x)::eG f v r
theorem gk (f g:Str)(v:V):∀fs:List (Str×V),(eG f v fs).lookup g=if g=f then some v else fs.lookup g
 |[]=>by
  show List.lookup g [(f,v)]=_
  by_cases h:g=f
  ·simp_all
  ·have hb:=bn0 h
   simp only[List.lookup,hb,if_neg h]
 |(k,x)::r=>by
  have ih:=gk f g v r;rw[show eG f v ((k,x)::r)=(if k=f then (k,v)::r else (k,x)::eG f v r) from rfl]
  by_cases hk:k=f
  ·rw[if_pos hk]
   by_cases h:g=k
   ·simp_all
   ·have hb:=bn0 h
    simp only[List.lookup,hb,if_neg (fun e:g=f=>h (e.trans hk.symm))]
  ·rw[if_neg hk]
   by_cases h:g=k
   ·simp_all
   ·have hb:=bn0 h
    simp only[List.lookup,hb];exact ih
theorem fJ (f:Str)(v:V):∀fs:List (Str×V),f∈(eG f v fs).map (·.1)/\∀g,g∈fs.map (·.1)->g∈(eG f v fs).map (·.1)
 |[]=>⟨by simp[eG],fun g h=>by simp at h⟩
 |(k,x)::r=>by
  obtain⟨i1,i2⟩:=fJ f v r;rw[show eG f v ((k,x)::r)=(if k=f then (k,v)::r else (k,x)::eG f v r) from rfl]
  by_cases hk:k=f
  ·rw[if_pos hk]
   subst hk;exact⟨by simp,fun g h=>by simpa using h⟩
  ·rw[if_neg hk]
   refine⟨?_,fun g h=>?_⟩
   ·rw[mk0]
    exact mc0 _ i1
   ·rw[mk0] at h ⊢
    rcases mq0 h with e|e
    ·exact List.mem_cons.mpr (.inl e)
    ·exact mc0 _ (i2 g e)
theorem gm (f:Str)(v:V):∀fs:List (Str×V),(eG f v fs).length≤fs.length+1
 |[]=>by simp[eG]
 |(k,x)::r=>by
  have ih:=gm f v r;rw[show eG f v ((k,x)::r)=(if k=f then (k,v)::r else (k,x)::eG f v r) from rfl]
  by_cases hk:k=f
  ·rw[if_pos hk,lc0,lc0];simp_all
  ·rw[if_neg hk,lc0,lc0];simp_all
def RelO.some_of {v:V}(r:RelO (some v) o):∃u,o=some u/\RelV v u:=by
 cases o with
 |none=>exact (r).elim
 |some u=>exact⟨u,rfl,r⟩
def RelO.none_of (r:RelO none o):o=none:=by
 cases o with
 |none=>rfl
 |some u=>exact (r).elim
def rj {v:V}(r:RelV v u):PySem.W.handedIn u=true:=by
 cases v with
 |non=>cases (r);rfl
 |bl b=>cases (r);rfl
 |int i=>obtain⟨t,e⟩:=(r);cases e;rfl
 |str x=>obtain⟨t,e⟩:=(r);cases e;rfl
 |byt b=>obtain⟨t,e⟩:=(r);cases e;rfl
 |flt b=>obtain⟨t,e⟩:=(r);cases e;rfl
 |ref a=>cases (r);rfl
 |ty n=>cases (r);rfl
section
variable {fs fs':List (Str×V)}
def gU (hok:HOk P w H h)(e:H a=some (.ins C dx fs)):∃mA,ObjM h a dx C mA/\(∀f,RelO (fs.lookup f) (mA f))/\PySem.Within mA (fs.map (·.1))/\fs.length≤1000/\H dx=some (.own a):=by
 obtain⟨d,z,ne,ob,mA,n,r,q⟩:=(hok a _ e);exact⟨mA,⟨ob,n,ne⟩,r,q,z,d⟩
end
structure Cls (K:fg0)(C:Addr):Prop where
 pg:PySem.W.plainGet K C Str.empty=true
 hd:PySem.W.hasDictIn K C=true
 po:PySem.W.plainOver K C=true
 sa:PySem.W.findIn K (.ref C) "__setattr__"=some (some (.builtin "object.__setattr__"))
def Cls.get {K:fg0}(c:Cls K C)(f:Str):PySem.W.plainGet K C f=true:=c.pg
def NoAttr (K:fg0)(C:Addr)(f:Str):Prop:=PySem.W.findIn K (.ref C) f=some none
def NoAttr.taker {K:fg0}{f:Str}(n:NoAttr K C f):PySem.W.takerIn K C f=some none:=by
 unfold PySem.W.takerIn;rw[n];rfl
structure tQ (K:fg0)(C:Addr)(m:Str)(f:Addr):Prop where
 at_:PySem.W.findIn K (.ref C) m=some (some (.ref f))
 fn:PySem.W.isFn K (.ref f)=true
 kp:PySem.W.keepIn K (.ref f)=true
section
variable {fs:List (Str×V)}{f:Str}{v:V}
def nI {b:Bool}(I:Inv X pins σ H s)(e:H a=some (.ins C dx fs))(c:Cls X.K C)(n:NoAttr X.K C f)(l:fs.lookup f=some v)
  (h:∀u s',Inv X pins σ H s'->RelV v u->Q u s'):wpAny (model X.prog X.w) A (getAttr (.ref a) f b) Q E s:=by
 obtain⟨mA,O,r,_,_,_⟩:=gU I.hok e;obtain⟨u,hu,ru⟩:=RelO.some_of (by rw[←l];exact r f);exact get_map I.kIn O (c.get f) c.hd n hu (rj ru) (h u _ (I.tok _) ru)
def nJ {m:Str}{g:Addr}{pl:Sem Bool}{Q:Value×List Value->Shared->Prop}(I:Inv X pins σ H s)(e:H a=some (.ins C dx fs))(c:Cls X.K C)(k:tQ X.K C m g)(l:fs.lookup m=none)
  (h:Q (.ref g,[.ref a]) s):wpAny (model X.prog X.w) A (getMethod (.ref a) m pl) Q E s:=by
 obtain⟨mA,O,r,_,_,_⟩:=gU I.hok e;exact tO I.kIn O (c.get m) k.at_ k.fn (RelO.none_of (by rw[←l];exact r m)) h
def nM {y:V}{Q:Unit->Shared->Prop}(I:Inv X pins σ H s)(e:H a=some (.ins C dx fs))(c:Cls X.K C)(n:NoAttr X.K C f)(hl:fs.length<1000)(ry:RelV y u)
  (h:∀s',Inv X pins σ (upd H a (.ins C dx (eG f y fs))) s'->Q () s'):wpAny (model X.prog X.w) A (setAttr (.ref a) f u) Q E s:=by
 obtain⟨mA,O,r,wi,_,ho⟩:=gU I.hok e;have hz:(fs.map (·.1)).length≤sizeLine:=by rw[lm0,sizeLine_eq];grind
 refine yz I.kIn O c.sa c.po n.taker c.hd wi hz fun h' O' sb=>h _ ?_
 have hd:∃o,h'.get? dx=some o:=let ⟨o,_,_,e',_⟩:=O'.ns;⟨o,e'⟩
 refine I.write (x:=a) (e:=dx) (by rw[e];exact True.intro) (.inr ho) (fun b q hb z=>(sb.2 b hb).trans z) hd ?_;refine⟨by rw[aa O.ne];exact ho,?_,O.ne,O'.obj,_,O'.ns,fun g=>?_,fun g hg=>?_⟩
 ·have:=gm f y fs;exact nt0 ‹_› ‹_›
 ·show RelO ((eG f y fs).lookup g) (if g=f then some u else mA g)
  rw[gk]
  by_cases q:g=f
  ·rw[if_pos q,if_pos q];exact ry
  ·rw[if_neg q,if_neg q];exact r g
 ·by_cases q:g=f
  ·rw[q];exact (fJ f y fs).1
  ·refine (fJ f y fs).2 g (wi g fun z=>hg ?_)
   show (if g=f then some u else mA g)=none;rw[if_neg q];exact z
def Inv.made (I:Inv X pins σ H s):Inv X pins σ (upd (upd H s.heap.objs.size (.own (s.heap.objs.size+1))) (s.heap.objs.size+1) (.ins C s.heap.objs.size []))
  {s with heap:=(s.heap.push PySem.W.emptyDict).push (PySem.W.instObj C s.heap.objs.size)}:=by
 have e1:(s.heap.push PySem.W.emptyDict).get? _=some _:=pz0 _ rfl;have e2:=by
  have:=pz0 (s.heap.push PySem.W.emptyDict) (o:=PySem.W.instObj C s.heap.objs.size) rfl
  rwa [Heap.size_push] at this
 have e3:(s.heap.push _).Ns _ _:=⟨_,_,_,e1,rfl,(fun e he=>absurd he (by simp)),fun a=>rfl⟩;refine (I.laid (o:=.own _) (t':=s.toks) (fun b u q=>ps0 _ q) (nr0 _) ⟨_,e1⟩).laid (fun b u q=>ps0 _ q) (Nat.le_of_eq (Heap.size_push _ _)) ?_;have ne:s.heap.objs.size≠s.heap.objs.size+1:=nn0 (Nat.lt_succ_self _);refine⟨by rw[aa ne,ae],Nat.zero_le _,ne,e2,_,(Heap.Ns1.of_empty e3).at fun o q=>ps0 _ q,fun a=>True.intro,fun y hy=>absurd rfl hy⟩
def attr_of {env:Env}{f:Str}(hb:attributeBase e f env (eval e env)=eval e env)
  (h:wpAny (model prog w) A (eval e env) (fun o s₁=>wpAny (model prog w) A (getAttr o f true) Q E s₁) E s):wpAny (model prog w) A (eval (.Attribute e f pos) env) Q E s:=
 Attribute_any_ h (by rw[arm_eval_Attribute,hb])
end
noncomputable def IG (K:fg0)(ta:TE)(f:Str):TE:=fun σ H Q=>ta σ H fun x H1=>∃a C dx fs v,x=.ref a/\H1 a=some (.ins C dx fs)/\Cls K C/\NoAttr K C f/\fs.lookup f=some v/\Q v H1
noncomputable def IH (K:fg0)(ta tv:TE)(f:Str):TS:=fun D σ H=>tv σ H fun y H1=>ta σ H1 fun x H2=>∃a C dx fs,x=.ref a/\H2 a=some (.ins C dx fs)/\Cls K C/\NoAttr K C f/\fs.length<1000/\
 D.nx σ (upd H2 a (.ins C dx (eG f y fs)))
section
variable {o value:Expr}{f:Str}{pos' tpos:Pos}{tv:TE}
def nN (he:PE X e ta)(hb:attributeBase e f X.env (eval e X.env)=eval e X.env):PE X (.Attribute e f pos) (IG X.K ta f):=by
 intro pins s σ H Q I h;refine attr_of hb (thn (he pins s σ H _ I h) ?_);rintro u s1 ⟨x,H1,I1,rx,a,C,dx,fs,v,ex,ea,c,n,l,q⟩;subst ex;obtain rfl:u=Value.ref a:=rx;exact nI I1 ea c n l fun u' s2 I2 ru=>⟨v,H1,I2,ru,q⟩
def tS (ha:PE X o ta)(hv:PE X value tv)(hs:swapsWith value (some (.Attribute o f pos')) pos.line X.env=pure false):PS X (.Assign [.Attribute o f pos'] value pos) (IH X.K ta tv f):=by
 intro pins s σ H D I h;refine plainObj_wpAny_Assign_Attribute (thn (hv pins s σ H _ I h) fun u s1 ⟨y,H1,I1,ry,q⟩=>thn (ha pins s1 σ H1 _ I1 q) ?_) hs;rintro ov s2 ⟨x,H2,I2,rx,a,C,dx,fs,ex,ea,c,n,l,q2⟩;subst ex;obtain rfl:ov=Value.ref a:=rx;exact nM I2 ea c n l ry fun s3 I3=>⟨σ,_,I3,q2⟩
end
section
variable {c:Value}{b:Bool}
inductive eU (K:fg0)(H:Hp):V->Value->Prop where
 |non:eU K H .non (.type "NoneType")
 |bl (x:Bool):eU K H (.bl x) (.type "bool")
 |int (i:Int):eU K H (.int i) (.type "int")
 |str (x:Str):eU K H (.str x) (.type "str")
 |flt (x:UInt64):eU K H (.flt x) (.type "float")
 |lst {a:Addr} {xs:List V} (e:H a=some (.lst xs)):eU K H (.ref a) (.type "list")
 |frz {a:Addr} {o:Obj} {xs:List V} (e:H a=some (.frz o (.lst xs))):eU K H (.ref a) (.type "list")
 |tup {a:Addr} {xs:List V} (e:H a=some (.tup xs)):eU K H (.ref a) (.type "tuple")
 |dK {a:Addr} {kvs:List (Key×V)} (e:H a=some (.dK kvs)):eU K H (.ref a) (.type "dict")
 |dT {a:Addr} {kvs:List (List Key×V)} (e:H a=some (.dT kvs)):eU K H (.ref a) (.type "dict")
 |ins {a C dx:Addr} {fs:List (Str×V)} (e:H a=some (.ins C dx fs)) (cl:Cls K C) (ha:PySem.W.findIn K (.ref C) "__class__"=some (some (.builtin "object.__class__")))
   (hn:PySem.W.specialIn K (.builtin "object.__class__") "__get__"=some (some (.builtin "getset_descriptor.__get__"))) (htk:PySem.W.takesIn K (.builtin "object.__class__")=some true)
   (hm:PySem.W.mroIn K C (.type "object")=some true):eU K H (.ref a) (.ref C)
def rk {x:V}{t:Value}(I:Inv X pins σ H s)(rx:RelV x u)(ty:eU X.K H x t)(e:PySem.W.kitOne X.K t c=some b)(h:∀tk,Q (.bool b) {s with toks:=tk}):
  wpAny (model X.prog X.w) A (call (.builtin "isinstance") [u,c]) Q E s:=by
 cases ty with
 |non=>cases (show u=Value.none from rx);exact PySem.W.kia_one PySem.W.kitx_none I.kIn True.intro e (fun z=>nomatch z) h
 |bl y=>cases (show u=Value.bool y from rx);exact PySem.W.kia_one PySem.W.kitx_bool I.kIn True.intro e (fun z=>nomatch z) h
 |int i=>obtain⟨t,q⟩:=(show ∃t,u=Value.int i t from rx);cases q;exact PySem.W.kia_one PySem.W.kitx_int I.kIn True.intro e (fun z=>nomatch z) h
 |str y=>obtain⟨t,q⟩:=(show ∃t,u=Value.str y t from rx);cases q;exact PySem.W.kia_one PySem.W.kitx_str I.kIn True.intro e (fun z=>nomatch z) h
 |flt y=>obtain⟨t,q⟩:=(show ∃t,u=Value.float y t from rx);cases q;exact PySem.W.kia_one PySem.W.kitx_float I.kIn True.intro e (fun z=>nomatch z) h
 |@lst a xs ea=>
  cases (show u=Value.ref a from rx);obtain⟨_,_,n,_,h1⟩:=(show ObjOk X.prog X.w H s.heap a (.lst xs) from I.hok a _ ea);exact PySem.W.kia_one PySem.W.kitx_list I.kIn ⟨_,h1,rfl⟩ e (fun z=>nomatch z) h
 |@frz a ob xs ea=>
  cases (show u=Value.ref a from rx);obtain⟨_,_,_,n,_,h1⟩:=(show ObjOk X.prog X.w H s.heap a (.frz ob (.lst xs)) from I.hok a _ ea);exact PySem.W.kia_one PySem.W.kitx_list I.kIn ⟨_,h1,rfl⟩ e (fun z=>nomatch z) h
 |@tup a xs ea=>
  cases (show u=Value.ref a from rx);obtain⟨_,_,_,p⟩:=(show ObjOk X.prog X.w H s.heap a (.tup xs) from I.hok a _ ea);obtain⟨o,h1,h2,_⟩:=p;exact PySem.W.kia_one PySem.W.kitx_tuple I.kIn ⟨o,h1,h2⟩ e (fun z=>nomatch z) h
 |@dK a kvs ea=>
  cases (show u=Value.ref a from rx);obtain⟨_,_,vs,_,p⟩:=(show ObjOk X.prog X.w H s.heap a (.dK kvs) from I.hok a _ ea);obtain⟨o,es,ep,h1,h2,_⟩:=p;exact PySem.W.kia_one PySem.W.kitx_dict I.kIn ⟨o,h1,h2.1⟩ e (fun z=>nomatch z) h
 |@dT a kvs ea=>
  cases (show u=Value.ref a from rx);obtain⟨_,_,xs,_,o,es,ep,h1,h2,_⟩:=(show ObjOk X.prog X.w H s.heap a (.dT kvs) from I.hok a _ ea);exact PySem.W.kia_one PySem.W.kitx_dict I.kIn ⟨o,h1,h2.1⟩ e (fun z=>nomatch z) h
 |@ins a C dx fs ea cl ha hn htk hm=>
  cases (show u=Value.ref a from rx);obtain⟨mA,O,_⟩:=gU I.hok ea;obtain⟨od,J,_⟩:=O.look;exact PySem.W.kia_one (PySem.W.kitx_own (cl.get _) cl.hd ha hn htk hm) I.kIn J e (fun z=>nomatch z) h
end
structure Room (k:Nat)(A:Around):Prop where
 hd:A.handled=none
 dp:A.depth+3*k+5<recursionLimit
 un:A.units+16*k+200<cLine
def Room.mono {j:Nat}(r:Room k A)(h:j≤k):Room j A:=⟨r.hd,by have:=r.dp;grind,by have:=r.un;grind⟩
theorem Room.deeper (r:Room (k+1) A)(env:Env):Room k (A.deeper env):=
 ⟨r.hd,by have:=r.dp;show A.depth+1+3*k+5<_;grind,by have:=r.un;show A.units+3+16*k+200<_;grind⟩
def nO {kw:List (Str×Value)}:(A.under (.builtin "type.__call__" ⟨.ref C::us,kw⟩)).depth=A.depth+1:=by
 first|rfl|simp[Around.under,Code.weight,Code.isCreation,Code.isGuard,Code.isCaller,Code.frames,Code.isFrame,guardIds]
def nP {kw:List (Str×Value)}:(A.under (.builtin "type.__call__" ⟨.ref C::us,kw⟩)).units=A.units+1:=rfl
def Room.make (r:Room (k+1) A)(C:Addr)(us:List Value)(kw:List (Str×Value)):Room k (A.under (.builtin "type.__call__" ⟨.ref C::us,kw⟩)):=
 ⟨r.hd,by have:=r.dp;rw[nO];grind,by have:=r.un;rw[nP];grind⟩
theorem Room.depth (r:Room k A):A.depth<recursionLimit:=by have:=r.dp;grind
theorem Room.units (r:Room k A):A.units+64<cLine:=by have:=r.un;grind
noncomputable def CA:TA:=fun a H Q=>Q [] H
noncomputable def Bg (ta:TE)(tr:TA):TA:=fun σ H Q=>ta σ H fun x H1=>tr σ H1 fun xs H2=>Q (x::xs) H2
def aQ:PA X [] CA:=fun a a a a H Q I h=>Calls.spliced_nil ⟨[],H,I,.nil,h⟩
def ax (ha:PE X e te)(hr:PA X es t)(hs:starEach (e::es) X.env=(false,eval e X.env)::starEach es X.env:=by rfl):PA X (e::es) (Bg te t):=by
 intro pos pins s σ H Q I h;rw[hs];show wpAny _ _ (spliced ((false,eval e X.env)::backTo pos (starEach es X.env))) _ _ s;refine Calls.spliced_cons (thn (ha pins s σ H _ I h) ?_);rintro u s1 ⟨x,H1,I1,r1,q1⟩;exact thn (hr pos pins s1 σ H1 _ I1 q1) fun us s2 ⟨xs,H2,I2,r2,q2⟩=>⟨x::xs,H2,I2,.cons r1 r2,q2⟩
noncomputable def II (t:TA):TE:=fun σ H Q=>t σ H fun xs H1=>xs.length≤sizeLine/\∀p,H1 p=none->Q (.ref p) (upd H1 p (.tup xs))
noncomputable def IJ (t:TA):TE:=fun σ H Q=>t σ H fun xs H1=>xs.length≤sizeLine/\∀p,H1 p=none->Q (.ref p) (upd H1 p (.lst xs))
def tU {x1}(h:PA X es t):PE X (.Tuple es x1 pos) (II t):=by
 intro pins s σ H Q I hq;refine wpAny_Tuple_spliced (thn (h _ _ s σ H _ I hq) fun us s1 ⟨xs,H1,I1,r,z,q⟩=>⟨by rwa [←r.length],?_⟩);refine⟨.ref _,_,I1.laid (fun b u e=>ps0 _ e) (nr0 _) ?_,rfl,q _ (I1.hok.fresh (nr0 _))⟩;exact⟨z,us,r,⟨_,pz0 _ rfl,rfl,_,rfl⟩⟩
def tV (h:PA X es t):PE X (.List es pos) (IJ t):=by
 intro pins s σ H Q I hq;refine wpAny_List_spliced (thn (h _ _ s σ H _ I hq) fun us s1 ⟨xs,H1,I1,r,z,q⟩=>⟨by rwa [←r.length],?_⟩);refine⟨.ref _,_,I1.laid (fun b u e=>ps0 _ e) (nr0 _) ?_,rfl,q _ (I1.hok.fresh (nr0 _))⟩;exact⟨z,us,0,r,pz0 _ rfl⟩
noncomputable abbrev Sp:=List V->Hp->VK->XK->Prop
noncomputable abbrev CXT:=List Env->Hp->Shared->XK->Value->Shared->Prop
structure Env0 (P:Program)(w:World)(K:fg0)(mg:Str->Option Value)(base:Heap)(A:Around)(outer:List Env)(s:Shared)(H:Hp):Prop where
 frames:A.frames=some outer
 mod:Mod K mg base
 bs:∀b o,base.get? b=some o->s.heap.get? b=some o/\H b=none
 bsz:base.objs.size≤s.heap.objs.size
 funs:s.heap.FunFrames base outer
 frf:∀b∈frs outer,H b=none
 hok:HOk P w H s.heap
 bare:AllBare s.gens
 tb:∀p∈lamTs,∃ps,H p.1=some (.tbl p.2 ps)
def CE (outer:List Env)(P:Program)(w:World)(H:Hp)(s:Shared)(Q:VK)(u:Value)(s':Shared):Prop:=
 ∃v H',s'.os=s.os/\AllBare s'.gens/\Un (frs outer) [] H H' s.heap s'.heap/\HOk P w H' s'.heap/\RelV v u/\Q v H'
def CR (CX:CXT)(outer:List Env)(P:Program)(w:World)(H:Hp)(s:Shared)(Q:VK)(E:XK)(r:Result)(s':Shared):Prop:=
 match r with
 |.ok (.ret u)=>CE outer P w H s Q u s'
 |.ok _=>False
 |.error e=>CX outer H s E e s'
structure FnOk (P:Program)(w:World)(K:fg0)(mg:Str->Option Value)(base:Heap)(CX:CXT)(k:Nat)(f:Addr)(fd:FuncData)(ps:List Str)(sp:Sp):Prop where
 len:∀vs H Q E,sp vs H Q E->vs.length=ps.length
 run:∀(A:Around) (outer:List Env) (s:Shared) (H:Hp) (args:Args) (us:List Value) (vs:List V) (Q:VK) (E:XK),Room k A->Env0 P w K mg base A outer s H->BindsTo s fd args (ps.zip us)->Vals vs us->sp vs H Q E->
  codeAny (model P w) A (.call (.ref f) args) (CR CX outer P w H s Q E) s
theorem FnOk.mono {K:fg0}{CX:CXT}{j:Nat}{sp:Sp}(F:FnOk P w K mg base CX j f fd ps sp)(h:j≤k):
  FnOk P w K mg base CX k f fd ps sp:=⟨F.len,fun A outer s H args us vs Q E hr=>F.run A _ s H _ us vs Q E (hr.mono h)⟩
def Env0.make {K:fg0}{outer:List Env}(e:Env0 P w K mg base A outer s H)(C:Addr)(us:List Value)(kw:List (Str×Value)):
  Env0 P w K mg base (A.under (.builtin "type.__call__" ⟨.ref C::us,kw⟩)) outer s H:=⟨by first|exact e.frames|rfl,e.mod,e.bs,e.bsz,e.funs,e.frf,e.hok,e.bare,e.tb⟩
theorem Inv.tb (I:Inv X pins σ H s):∀p∈lamTs,∃ps,H p.1=some (.tbl p.2 ps):=fun p hp=>by
 obtain⟨ps,e⟩:=I.ok.tb p hp;obtain⟨m,q⟩:=I.base.tbls _ _ _ e;exact⟨_,q⟩
def Inv.env0 (I:Inv X pins σ H s):Env0 X.prog X.w X.K X.mg X.base X.A X.stack s H:=
 ⟨I.ok.frames,I.ok.mod,I.bs,nt0 I.ok.bsz I.sz,I.stack,I.stkFree,I.hok,I.bare,I.tb⟩
def Inv.after {Q:VK}(I:Inv X pins σ H s)(h:CE X.stack X.prog X.w H s Q u s'):EP X pins σ Q u s':=by
 obtain⟨v,H',os,bare,un,hok,r,q⟩:=h;obtain⟨hh,g,d,t,os'⟩:=s';obtain rfl:os'=s.os:=os;exact⟨v,H',I.call un hok bare (fun b z=>absurd z (by simp)),r,q⟩
noncomputable def FG (sp:Sp)(dvs:List V)(E:XK)(t:TA):TE:=fun σ H Q=>t σ H fun vs H1=>sp (vs++dvs) H1 Q E
noncomputable def FH (C:Addr)(sp:Sp)(dvs:List V)(E:XK)(t:TA):TE:=fun σ H Q=>t σ H fun vs H1=>∀x dx,H1 x=none->H1 dx=none->dx≠x->
 sp (.ref x::(vs++dvs)) (upd (upd H1 dx (.own x)) x (.ins C dx [])) (fun v H2=>v=.non/\Q (.ref x) H2) E
def Binds (K:fg0)(fd:FuncData)(ps:List Str)(ds:List Value):Prop:=
 ∀(s:Shared) (us:List Value),K.In s.heap->(us++ds).length=ps.length->BindsTo s fd ⟨us,[]⟩ (ps.zip (us++ds))
def Binds.all {K:fg0}(h:∀us:List Value,us.length=ps.length->bindArgs fd ⟨us,[]⟩=pure (ps.zip us)):Binds K fd ps []:=fun s us a hl=>by
 rw[List.append_nil] at hl ⊢;exact .of_eq (h us hl)
def iq (CX:CXT)(X:Cx)(E:XK):Prop:=∀(pins:List (Addr×Obj)) (σ:St) (H:Hp) (s:Shared) (e:Value) (s':Shared),Inv X pins σ H s->CX X.stack H s E e s'->X.xe e s'
section
variable {CX:CXT}{sp:Sp}{dvs:List V}{ds:List Value}{E:XK}{m:Str}{apos:Pos}{o:Expr}
def CB {Q:VK}(F:FnOk X.prog X.w X.K X.mg X.base CX k f fd ps sp)(hr:Room k X.A)(hb:Binds X.K fd ps ds)(hd:Vals dvs ds)(hx:iq CX X E)
  (I:Inv X pins σ H s) (r:Vals vs us) (h:sp (vs++dvs) H Q E):wpAny (model X.prog X.w) X.A (call (.ref f) us) (EP X pins σ Q) X.xe s:=by
 have r2:=r.append hd;have hl:(us++ds).length=ps.length:=by rw[←r2.length];exact F.len _ _ _ _ h
 refine wpAny_call (codeAny_mono (F.run _ _ s H _ _ _ Q E hr I.env0 (hb s us I.kIn hl) r2 h) fun r s' hq=>?_);cases r with
 |error e=>exact hx _ σ H s e s' I hq
 |ok fl=>
  cases fl with
  |ret u=>exact I.after hq
  |next=>exact False.elim hq
  |brk=>exact False.elim hq
  |cont=>exact False.elim hq
def pI (F:FnOk X.prog X.w X.K X.mg X.base CX k f fd ps sp)(hr:Room k X.A)(hg:Gl X x)(hm:X.mg x=some (.ref f))(hk:PySem.W.keepIn X.K (.ref f)=true)(hb:Binds X.K fd ps ds)(hd:Vals dvs ds)(hx:iq CX X E)
  (ha:PA X (e::es) t) (hdb:(x==("__debug__":Str))=false:=by decide) (he:starEach (e::es) X.env=(false,eval e X.env)::starEach es X.env:=by rfl) (hpl:(backTo pos (starEach es X.env)).any (·.1)=false:=by rfl):
  PE X (.Call (.Name x p) (e::es) [] pos) (FG sp dvs E t):=by
 exact fun pins s σ H Q I h=>wpAny_Call_Name_kw (ld_glob I hg hm (PySem.W.callWith_K I.ok.mod.kin hk (thn (ha _ _ s σ H _ I h) fun us s1 ⟨vs,H1,I1,r,q⟩=>⟨I1.kIn,CB F hr hb hd hx I1 r q⟩) he hpl) hdb)
structure Mk (K:fg0)(C f:Addr):Prop where
 makes:PySem.W.makesIn K C=true
 init:PySem.W.findIn K (.ref C) "__init__"=some (some (.ref f))
 fn:PySem.W.isFn K (.ref f)=true
 kp:PySem.W.keepIn K (.ref C)=true
def run_make {Q:VK}(M:Mk X.K C f)(F:FnOk X.prog X.w X.K X.mg X.base CX k f fd ps sp)(hr:Room (k+1) X.A)(hb:Binds X.K fd ps ds)(hd:Vals dvs ds)
  (hx:iq CX X E) (I:Inv X pins σ H s) (r:Vals vs us)
  (h:∀x dx,H x=none->H dx=none->dx≠x->sp (.ref x::(vs++dvs)) (upd (upd H dx (.own x)) x (.ins C dx [])) (fun v H2=>v=.non/\Q (.ref x) H2) E):
  wpAny (model X.prog X.w) X.A (call (.ref C) us) (EP X pins σ Q) X.xe s:=by
 have hq:=h (s.heap.objs.size+1) s.heap.objs.size (I.hok.fresh (Nat.le_succ _)) (I.hok.fresh (nr0 _)) (nn0 (Nat.lt_succ_self _));have I2:=Inv.made (C:=C) I;have r2:Vals (V.ref (s.heap.objs.size+1)::(vs++dvs)) (Value.ref (s.heap.objs.size+1)::(us++ds)):=.cons rfl (r.append hd);have hl:(Value.ref (s.heap.objs.size+1)::us++ds).length=ps.length:=by
  have e:=r2.length;rw[F.len _ _ _ _ hq] at e;exact e.symm
 refine wpAny_call (tP (f:=f) I.kIn M.makes M.init (beq_iff_eq.mp M.fn) (codeAny_mono (F.run _ X.stack _ _ ⟨Value.ref (s.heap.objs.size+1)::us,[]⟩ (Value.ref (s.heap.objs.size+1)::(us++ds)) _ _ E (hr.make C us [])
  (I2.env0.make C us []) (hb _ (Value.ref (s.heap.objs.size+1)::us) I2.kIn hl) r2 hq) fun r s' hq'=>?_))
 cases r with
 |error e=>exact hx pins σ _ _ e s' I2 hq'
 |ok fl=>
  cases fl with
  |ret u=>
   obtain⟨v,H',I3,rv,ev,q3⟩:=I2.after hq';subst ev;exact⟨rv,⟨V.ref (s.heap.objs.size+1),H',I3,rfl,q3⟩⟩
  |next=>exact False.elim hq'
  |brk=>exact False.elim hq'
  |cont=>exact False.elim hq'
def tW (M:Mk X.K C f)(F:FnOk X.prog X.w X.K X.mg X.base CX k f fd ps sp)(hr:Room (k+1) X.A)(hg:Gl X x)(hm:X.mg x=some (.ref C))(hb:Binds X.K fd ps ds)(hd:Vals dvs ds)(hx:iq CX X E)
  (hdb:(x==("__debug__":Str))=false:=by decide):PE X (.Call (.Name x p) [] [] pos) (FH C sp dvs E CA):=by
 intro pins s σ H Q I h;refine wpAny_Call_Name_kw (ld_glob I hg hm ?_ hdb);exact PySem.W.callWith_K0 I.kIn M.kp (run_make (us:=[]) M F hr hb hd hx I .nil h)
end
def PK (X:Cx)(kws:List Keyword)(t:TA):Prop:=
 ∀(pos:Pos) (pins:List (Addr×Obj)) (s:Shared) (σ:St) (H:Hp) (Q:List V->Hp->Prop),Inv X pins σ H s->t σ H Q->wpAny (model X.prog X.w) X.A (evalAll ((backToKw pos (keywordEach kws X.env)).map (·.2))) (AP X pins σ Q) X.xe s
section
variable {CX:CXT}{ks:List Str}{sp:Sp}{E:XK}{m:Str}{apos kpos:Pos}{o:Expr}{kws:List Keyword}{tk:TA}{nm:Option Str}
def CC:PK X [] CA:=fun a a a a H Q I h=>wpAny_evalAll_nil ⟨[],H,I,.nil,h⟩
def pJ (ha:PE X e te)(hr:PK X kws t):PK X (⟨nm,e,kpos⟩::kws) (Bg te t):=by
 intro pos pins s σ H Q I h;show wpAny _ _ (evalAll ((do let v ←eval e X.env;standAt pos;pure v)::(backToKw pos (keywordEach kws X.env)).map (·.2))) _ _ s;refine wpAny_evalAll_cons (wb0 (thn (ha pins s σ H _ I h) fun u s1 ⟨x,H1,I1,r1,q1⟩=>wb0 (wpAny_standAt (wq0 ?_))));exact thn (hr pos pins s1 σ H1 _ I1 q1) fun us s2 ⟨xs,H2,I2,r2,q2⟩=>⟨x::xs,H2,I2,.cons r1 r2,q2⟩
variable {g:List Value->List Value->List Value}{gV:List V->List V->List V}
end
structure aX (N P:List Str)(sc:Scope):Prop where
 kind:sc.kind=.function
 co:sc.isCoroutine=false
 gen:sc.isGenerator=false
 nd:N.Nodup
 pre:N.take P.length=P
 par:∀x∈P,sc.names.lookup x=some .local\/sc.names.lookup x=some .cell
 nofree:∀y∈sc.names,y.2≠.free
theorem ju {kindOf:Str->Option NameKind}:∀{binds:List (Str×Value)} {m:Str->Option Value},(∀v,(x,v)∉binds)->bindL kindOf binds m x=m x
 |[],_,_=>rfl
 |(n,v)::r,m,h=>by
  unfold bindL;rw[ju fun w hw=>h w (mc0 _ hw)];split
  ·have:x≠n:=by rintro rfl;exact h v ms0
   simp[this]
  ·rfl
theorem jv {kindOf:Str->Option NameKind}:∀{binds:List (Str×Value)} {m:Str->Option Value},(∀v,(x,v)∉binds)->bindC kindOf binds m x=m x
 |[],_,_=>rfl
 |(n,v)::r,m,h=>by
  unfold bindC;rw[jv fun w hw=>h w (mc0 _ hw)];split
  ·rfl
  ·have:x≠n:=by rintro rfl;exact h v ms0
   simp[this]
theorem jw {kindOf:Str->Option NameKind}:∀{P:List Str} {vs:List Value} {i:Nat} {m:Str->Option Value},P.Nodup->P[i]?=some x->vs[i]?=some v->kindOf x=some .local->
  bindL kindOf (P.zip vs) m x=some v
 |[],_,_,_,_,h,_,_=>by simp at h
 |_::_,[],_,_,_,_,h,_=>by simp at h
 |p::P,w::vs,0,m,nd,h1,h2,hk=>by
  simp at h1 h2;subst h1;subst h2;show bindL kindOf ((p,w)::P.zip vs) m p=_;unfold bindL;rw[ju fun v hv=>(List.nodup_cons.mp nd).1 (List.of_mem_zip hv).1,if_pos hk];simp
 |p::P,w::vs,i+1,m,nd,h1,h2,hk=>by
  show bindL kindOf ((p,w)::P.zip vs) m x=_;unfold bindL;exact jw (i:=i) (List.nodup_cons.mp nd).2 (by simpa using h1) (by simpa using h2) hk
theorem jx {kindOf:Str->Option NameKind}:∀{P:List Str} {vs:List Value} {i:Nat} {m:Str->Option Value},P.Nodup->P[i]?=some x->vs[i]?=some v->kindOf x≠some .local->
  bindC kindOf (P.zip vs) m x=some v
 |[],_,_,_,_,h,_,_=>by simp at h
 |_::_,[],_,_,_,_,h,_=>by simp at h
 |p::P,w::vs,0,m,nd,h1,h2,hk=>by
  simp at h1 h2;subst h1;subst h2;show bindC kindOf ((p,w)::P.zip vs) m p=_;unfold bindC;rw[jv fun v hv=>(List.nodup_cons.mp nd).1 (List.of_mem_zip hv).1,if_neg hk];simp
 |p::P,w::vs,i+1,m,nd,h1,h2,hk=>by
  show bindC kindOf ((p,w)::P.zip vs) m x=_;unfold bindC;exact jx (i:=i) (List.nodup_cons.mp nd).2 (by simpa using h1) (by simpa using h2) hk
noncomputable def start (N:List Str)(vs:List V):St:=vs.map some++List.replicate (N.length-vs.length) none
noncomputable def cN (CX:CXT)(P:Program)(w:World)(K:fg0)(mg:Str->Option Value)(base:Heap)(N:List Str)(qual:Str)(scope:Scope)(f:Addr)(cd:Value)(A:Around)(outer:List Env)(s:Shared)(H:Hp)(E:XK):Cx where
 prog:=P
 w:=w
 K:=K
 mg:=mg
 base:=base
 A:=A.deeper (envOfC qual scope s.heap.objs.size f cd)
 N:=N
 s₀:=s
 H₀:=H
 env:=envOfC qual scope s.heap.objs.size f cd
 outer:=outer
 stack:=envOfC qual scope s.heap.objs.size f cd::outer
 ex:=[]
 calm:=true
 fn:=fun a=>true
 pn:=[]
 xe:=fun e s'=>wpAny (model P w) (A.deeper (envOfC qual scope s.heap.objs.size f cd)) (leaving (envOfC qual scope s.heap.objs.size f cd) e) (fun a s''=>CX outer H s E e s'') (fun e' s''=>CX outer H s E e' s'') s'
def lH {sc:Scope}{n:Nat}(h:sc.names.lookup x=some .cell):∃c,(cellsFrom n sc.names []).lookup x=some c:=by
 have q:=PySem.W.cellsFrom_some sc.names n [] (.inl h);exact is0 q
def rl {CX:CXT}{K:fg0}{cd:Value}{outer:List Env}{s1:Shared}{E:XK}
  (S:aX N ps scope) (hd:A.handled=none) (e0:Env0 P w K mg base A outer s H) (hl:vs.length=ps.length) (r:Vals vs us)
  (x:InCallC s s.heap.objs.size (bindL (envOfC qual scope s.heap.objs.size f cd).kindOf (ps.zip us) fun d=>none) (cellsFrom (s.heap.objs.size+1) scope.names []) (bindC (envOfC qual scope s.heap.objs.size f cd).kindOf (ps.zip us) fun d=>none) s1):
  Inv (cN CX P w K mg base N qual scope f cd A outer s H E) [] (start N vs) H s1:=by
 have hpl:ps.length≤N.length:=by have:=congrArg List.length S.pre;rw[List.length_take] at this;grind
 obtain⟨h1,tk,rfl,hk⟩:=x.done;have noA:∀b:Addr,b∉(cN CX P w K mg base N qual scope f cd A outer s H E).ex:=fun b z=>absurd (show b∈([]:List Addr) from z) (by simp)
 refine⟨⟨e0.mod,S.kind,rfl,rfl,nr0 _,fun y z c h1 h2=>?_,fun y hy=>?_,fun y c d h=>?_,fun d=>hd,Around.frames_deeper e0.frames,.inr ⟨rfl,rfl⟩,fun b z=>absurd z (noA b),e0.bs,e0.bsz,fun b d d=>noA b,fun b z=>absurd z (noA b),e0.funs,e0.frf,e0.tb⟩,
  rfl,e0.bare,Un.kept hk,⟨_,x.toInCall.ns,fun i y v h1 h2 h3=>?_⟩,fun y c h=>⟨_,x.cell y c h⟩,e0.hok.fresh (nr0 _),fun y c h=>?_,fun p hp=>absurd (show p∈([]:List (Addr×Obj)) from hp) (by simp),e0.hok.kept hk,?_⟩
 ·exact name_of_addr x.apart (ml0 h1) (ml0 h2)
 ·have hy:scope.names.lookup y=some .cell\/scope.names.lookup y=some .free:=hy
  rcases hy with hy|hy
  ·exact lH hy
  ·exact absurd rfl (S.nofree _ (ml0 hy))
 ·exact Nat.le_of_lt (x.above y c (ml0 h))
 ·have hi:i<vs.length:=by
   unfold start at h2
   by_cases hi:i<vs.length
   ·exact hi
   ·rw[List.getElem?_append_right (by simpa using hi)] at h2
    rw[List.getElem?_replicate] at h2;split at h2<;>cases h2
  have ha:vs[i]?=some v:=by
   unfold start at h2;rw[gl0 (by simpa using hi),gm0] at h2;cases e:vs[i]? with
   |none=>rw[e] at h2;cases h2
   |some a=>rw[e] at h2;cases h2;rfl
  obtain⟨u,hu,rv⟩:=r.get ha;have hp:ps[i]?=some y:=by
   rw[←S.pre,List.getElem?_take_of_lt (by simp_all)];exact h1
  have ndP:ps.Nodup:=by rw[←S.pre];exact S.nd.sublist (List.take_sublist _ _)
  refine⟨u,rv,?_⟩;rcases S.par y (mg0 hp) with k|k
  ·exact .inl ⟨k,jw ndP hp hu k⟩
  ·obtain⟨c,e⟩:=lH (n:=s.heap.objs.size+1) k
   refine .inr ⟨.inl k,c,e,?_⟩;have q:=x.cell y c e;rw[jx ndP hp hu (by show scope.names.lookup y≠_;rw[k];decide)] at q;exact q
 ·exact e0.hok.fresh (Nat.le_of_lt (x.above y c (ml0 h)))
 ·unfold start
  show _=N.length;rw[la0,lm0,List.length_replicate]
  simp_all
structure FI (k:Nat)(A:Around):Prop where
 r:Room k A
 dp:A.depth+3*k+7≤recursionLimit
 un:A.units+16*k+212<cLine
def tX {CX:CXT}{K:fg0}{dV kV doc pm cdv ct oc:Value}
  {osl:Array (Option Value)}  {sp:Sp} (lk:K.lookup f=some ⟨oc,od,.func (PySem.W.fnOf name qual params body scope dV kV doc pm an cdv ct),osl⟩) (hcd:PySem.W.codeIn K cdv qual=true) (S:aX N ps scope)
  (len:∀vs H Q E,sp vs H Q E->vs.length=ps.length)
  (hbody:∀(A:Around) (outer:List Env) (s:Shared) (H:Hp) (vs:List V) (Q:VK) (E:XK),FI k (A.deeper (envOfC qual scope s.heap.objs.size f cdv))->sp vs H Q E->
   ∃t,PSs (cN CX P w K mg base N qual scope f cdv A outer s H E) body t/\t {nx:=fun a H'=>Q .non H',rt:=Q} (start N vs) H):
  FnOk P w K mg base CX (k+1) f (PySem.W.fnOf name qual params body scope dV kV doc pm an cdv ct) ps sp:=by
 refine⟨len,fun A outer s H args us vs Q E hr e0 hb r hsp=>?_⟩;have hl:=len _ _ _ _ hsp;have KX:K.In s.heap:=e0.mod.kin.keeps fun b o e=>(e0.bs b o e).1
 have lim:s.heap.NoLimit:=e0.mod.nolimit.keeps fun b o e=>(e0.bs b o e).1
 have hkind:∀y∈ps.zip us,scope.names.lookup y.1=some .local\/(scope.names.lookup y.1=some .cell/\((cellsFrom (s.heap.objs.size+1) scope.names []).lookup y.1).isSome=true):=fun⟨n,v⟩ hy=>by
  rcases S.par n (List.of_mem_zip hy).1 with q|q
  ·exact .inl q
  ·exact .inr ⟨q,PySem.W.cellsFrom_some _ _ _ (.inl q)⟩
 refine codeAny_call_function hr.depth (KX _ _ lk) rfl S.co S.gen rfl (PySem.W.codeRec_of KX hcd) (hb _ _ _ _ ?_);refine wpAny_newFunctionEnv_cells S.kind hkind fun env he s1 x=>?_
 subst he;refine⟨lim.keeps x.toInCall.keep,codeAny_func ?_⟩;obtain⟨t,ht,hq⟩:=hbody A outer s H vs Q E ⟨hr.deeper _,by have:=hr.dp;show A.depth+1+3*k+7≤_;grind,by have:=hr.un;show A.units+3+16*k+212<_;grind⟩ hsp;have I:Inv (cN CX P w K mg base N qual scope f cdv A outer s H E) [] (start N vs) H s1:=rl S hr.hd e0 hl r x;refine wpAny_mono (ht [] s1 (start N vs) H _ I hq) (fun fl s' hs=>?_) fun e s' hs=>hs
 have fin:∀{σ':St} {H':Hp} {v:V} {u:Value},Inv (cN CX P w K mg base N qual scope f cdv A outer s H E) [] σ' H' s'->RelV v u->Q v H'->CE outer P w H s Q u s':=
  fun {σ' H' v u} J rv q=>⟨v,H',J.os,J.bare,J.base,J.hok,rv,q⟩
 cases fl with
 |ret u=>
  obtain⟨v,σ',H',J,rv,q⟩:=hs;exact fin J rv q
 |next=>
  obtain⟨σ',H',J,q⟩:=hs;exact fin (v:=V.non) (u:=Value.none) J rfl q
 |brk=>
  obtain⟨_,_,_,q⟩:=hs;exact False.elim q
 |cont=>
  obtain⟨_,_,_,q⟩:=hs;exact False.elim q
def Bh {CX:CXT}{K:fg0}{dV kV doc pm cdv ct oc:Value}
  {osl:Array (Option Value)}  {sp:Sp} (lk:K.lookup f=some ⟨oc,od,.func (PySem.W.fnOf name qual params body scope dV kV doc pm an cdv ct),osl⟩) (hcd:PySem.W.codeIn K cdv qual=true) (S:aX N ps scope)
  (len:∀vs H Q E,sp vs H Q E->vs.length=ps.length)
  (hbody:∀(A:Around) (outer:List Env) (s:Shared) (H:Hp) (vs:List V) (Q:VK) (E:XK),Room k (A.deeper (envOfC qual scope s.heap.objs.size f cdv))->sp vs H Q E->
   ∃t,PSs (cN CX P w K mg base N qual scope f cdv A outer s H E) body t/\t {nx:=fun a H'=>Q .non H',rt:=Q} (start N vs) H):
  FnOk P w K mg base CX (k+1) f (PySem.W.fnOf name qual params body scope dV kV doc pm an cdv ct) ps sp:=tX lk hcd S len fun A outer s H vs Q E hr=>hbody A outer s H vs Q E hr.r
section
variable {id T:String}{r:List V->Hp->VK->Prop}
noncomputable def tCB (r:List V->Hp->VK->Prop)(t:TA):TE:=fun σ H Q=>t σ H fun vs H1=>r vs H1 Q
def bj (hc:aZ X (.builtin id) r)(hg:Gl X x)(hm:X.mg x=none)(hv:bootBuiltins x=some (.builtin id))(ha:PA X (e::es) t)(hn:x≠"__name__":=by decide)(hdb:(x==("__debug__":Str))=false:=by decide)
  (he:starEach (e::es) X.env=(false,eval e X.env)::starEach es X.env:=by rfl) (hpl:(backTo pos (starEach es X.env)).any (·.1)=false:=by rfl):PE X (.Call (.Name x p) (e::es) [] pos) (tCB r t):=by
 intro pins s σ H Q I h;refine wpAny_Call_Name_kw (ld_blt I hg hm hv ?_ hn hdb);exact PyProof.Rows.callWith_builtin1 (thn (ha pos pins s σ H _ I h) fun us s1 ⟨vs,H1,I1,r1,q1⟩=>hc pins s1 σ H1 vs us Q I1 r1 q1) he hpl
def bu (hc:aZ X (.type T) r)(hg:Gl X x)(hm:X.mg x=none)(hv:bootBuiltins x=some (.type T))(ha:PA X (e::es) t)(hn:x≠"__name__":=by decide)(hdb:(x==("__debug__":Str))=false:=by decide)
  (he:starEach (e::es) X.env=(false,eval e X.env)::starEach es X.env:=by rfl) (hpl:(backTo pos (starEach es X.env)).any (·.1)=false:=by rfl):PE X (.Call (.Name x p) (e::es) [] pos) (tCB r t):=by
 intro pins s σ H Q I h;refine wpAny_Call_Name_kw (ld_blt I hg hm hv ?_ hn hdb);exact PyProof.Rows.callWith_type1 (thn (ha pos pins s σ H _ I h) fun us s1 ⟨vs,H1,I1,r1,q1⟩=>hc pins s1 σ H1 vs us Q I1 r1 q1) he hpl
end
end L2
section
variable {P prog:PySem.Program}{w:PySem.World}{s:PySem.Shared}{ns:List Int}{X:L2.Cx}{e o:PySem.Expr}{pos:PySem.Pos}{n t':Nat}{i:Int}{α:Type}{a f:PySem.Addr}{b:Bool}{pins:List (PySem.Addr×PySem.Obj)}{σ:L2.St}{H H':L2.Hp}{xs:List L2.V}{its its':List PySem.Value}{T:String}{qual x:PySem.Str}{h:PySem.Heap}{loose:List PySem.Str}{mg:PySem.Str->Option PySem.Value}{fd:PySem.FuncData}{st:PySem.Stmt}{u:PySem.Value}{kvs:List (L2.Key×L2.V)}{Q:PySem.Value->PySem.Shared->Prop}{env:PySem.Env}{scope:PySem.Scope}{as ifs:List PySem.Expr}
namespace HT
open PySem PyProof.Rows
noncomputable def lexLt:List Int->List Int->Bool
 |[],[]=>false
 |[],_::_=>true
 |_::_,[]=>false
 |x::xs,y::ys=>if x=y then lexLt xs ys else decide (x<y)
def lexLt_cons (x y:Int)(xs ys:List Int):lexLt (x::xs) (y::ys)=if x=y then lexLt xs ys else decide (x<y):=rfl
def lexLt_nil_nil:lexLt [] []=false:=rfl
def ir (y:Int)(ys:List Int):lexLt [] (y::ys)=true:=rfl
def iu (x:Int)(xs:List Int):lexLt (x::xs) []=false:=rfl
def tY (A:Around)(s:Shared)(a:Int)(t:Tok)(c:Int)(u:Tok):∃e,SeqAt.EqAt A s (.int a t) (.int c u) e/\(e=true↔a=c):=
 ⟨(a==c),SeqAt.EqAt.int_int a t c u,by simp⟩
section
open PySem.SeqAt
open PySem.AutoSeq1 (wpAny_loadPart')
open PySem.MeetsSeq PySem.MeetsSeq2 PySem.MeetsSeq3
end
section
variable {A:Around}{E:Value->Shared->Prop}
noncomputable def sIx (n d:Nat):Option Int->Nat
 |none=>d
 |some v=>if v<0 then (v+(n:Int)).toNat else min v.toNat n
end
end HT
namespace L2
open PySem PySem.Spec PyProof.Rows
noncomputable abbrev TO:=St->Hp->(Option Int->Hp->Prop)->Prop
def PO (X:Cx)(e:Option Expr)(t:TO):Prop:=
 ∀(pins:List (Addr×Obj)) (s:Shared) (σ:St) (H:Hp) (Q:Option Int->Hp->Prop),Inv X pins σ H s->t σ H Q->
  wpAny (model X.prog X.w) X.A (evalPart e X.env) (fun u s'=>∃o H',Inv X pins σ H' s'/\IsPart u o/\Q o H') X.xe s
noncomputable def yA:TO:=fun a H Q=>Q none H
noncomputable def FJ (t:TE):TO:=fun σ H Q=>t σ H fun x H1=>∃i,x=.int i/\Q (some i) H1
def intsAre_of :∀{us:List Value},Vals (ns.map V.int) us->IntsAre us ns:=by
 induction ns with
 |nil=>intro us r;rw[List.map_nil] at r;cases r;exact .nil
 |cons n ns ih=>
  intro us r;rw[mk0] at r;cases r with
  |cons r1 r2=>
   obtain⟨t,e⟩:=r1;subst e;exact .cons n t (ih r2)
section
variable {te:TE}{lo hi:Option Expr}{tl th:TO}{p2:Pos}
def yB:PO X none yA:=by
 intro pins s σ H Q I h;rw[evalPart_none];exact wq0 ⟨none,H,I,.none,h⟩
def yC (h:PE X e te):PO X (some e) (FJ te):=by
 intro pins s σ H Q I hw;rw[evalPart_some];refine thn (h pins s σ H _ I hw) ?_;rintro u s1 ⟨x,H1,I1,r1,q1⟩;obtain⟨i,rfl,q⟩:=q1;obtain⟨t,rfl⟩:=r1;exact⟨some i,H1,I1,.int i t,q⟩
def SlR (X:Cx)(r:V->Option Int->Option Int->Hp->VK->Prop):Prop:=
 ∀(pins:List (Addr×Obj)) (s:Shared) (σ:St) (H:Hp) (x:V) (v vl vu:Value) (lo hi:Option Int) (sl:Addr) (Q:VK),Inv X pins σ H s->RelV x v->s.heap.IsSliceOf sl vl vu .none->IsPart vl lo->IsPart vu hi->r x lo hi H Q->
  ∃T id,typeLookup (.type T) "__getitem__"=pure (some (.builtin id))/\s.TypeIs v T/\wpAny (model X.prog X.w) X.A (getItem v (.ref sl)) (EP X pins σ Q) X.xe s
noncomputable def tSl (r:V->Option Int->Option Int->Hp->VK->Prop)(te:TE)(tl th:TO):TE:=fun σ H Q=>te σ H fun x H1=>tl σ H1 fun l H2=>th σ H2 fun u H3=>r x l u H3 Q
def tZ {r:V->Option Int->Option Int->Hp->VK->Prop}(hr:SlR X r)(he:PE X e te)(hl:PO X lo tl)(hu:PO X hi th):PE X (.Subscript e (.Slice lo hi none p2) pos) (tSl r te tl th):=by
 intro pins s σ H Q I h;refine Subscript_ (thn (he pins s σ H _ I h) ?_);rintro v s1 ⟨x,H1,I1,r1,q1⟩;refine wpAny_Slice (thn (hl pins s1 σ H1 _ I1 q1) fun vl s2 ⟨l,H2,I2,pl,q2⟩=>thn (hu pins s2 σ H2 _ I2 q2) ?_);rintro vu s3 ⟨u,H3,I3,pu,q3⟩;rw[evalPart_none];refine wq0 ?_;have I4:Inv X pins σ H3 {s3 with heap:=s3.heap.push {cls:=.type "slice",data:=.fields #[vl,vu,.none]}}:=I3.kept (t':=s3.toks) fun b ob q=>ps0 _ q
 obtain⟨T,id,hT,ht,hg⟩:=hr pins {s3 with heap:=s3.heap.push {cls:=.type "slice",data:=.fields #[vl,vu,.none]}} σ H3 x v vl vu l u s3.heap.objs.size Q I4 r1 (Heap.IsSliceOf.new ..) pl pu q3;show wpAny (model X.prog X.w) X.A (subscriptTail e (.Slice lo hi none p2) v (.ref s3.heap.objs.size)) (EP X pins σ Q) X.xe {s3 with heap:=s3.heap.push {cls:=.type "slice",data:=.fields #[vl,vu,.none]}};exact tail_any (ops:=[.ref s3.heap.objs.size,v]) ht hT hg (by with_unfolding_all rfl)
noncomputable def rm (xs:List V)(lo hi:Option Int):List V:=(xs.drop (HT.sIx xs.length 0 lo)).take (HT.sIx xs.length xs.length hi-HT.sIx xs.length 0 lo)
def lI (xs:List V)(lo hi:Option Int):(rm xs lo hi).length≤xs.length:=by
 unfold rm;rw[List.length_take,List.length_drop]
 grind
end
noncomputable def ixN (n:Nat)(i:Int):Option Nat:=if 0≤i then (if i<n then some i.toNat else none) else if -(n:Int)≤i then some (i+n).toNat else none
noncomputable def atI {α:Type}(xs:List α)(i:Int):Option α:=(ixN xs.length i).bind fun j=>xs[j]?
def pK {j:Nat}(h:ixN n i=some j):seqIndex? i n=some j/\j<n/\ -(n:Int)≤i/\i<n:=by
 unfold ixN at h
 by_cases h0:0≤i
 ·rw[if_pos h0] at h
  by_cases h1:i<n
  ·rw[if_pos h1] at h
   have e:i.toNat=j:=Option.some.inj h;exact⟨by rw[seqIndex_of h0 h1,e],by grind,by grind,h1⟩
  ·rw[if_neg h1] at h;cases h
 ·rw[if_neg h0] at h
  by_cases h1:-(n:Int)≤i
  ·rw[if_pos h1] at h
   have e:(i+n).toNat=j:=Option.some.inj h;exact⟨by rw[seqIndex_neg (by simp_all) h1,e],by grind,h1,by grind⟩
  ·rw[if_neg h1] at h;cases h
def gW {xs:List α}{v:α}(h:atI xs i=some v):∃j,seqIndex? i xs.length=some j/\xs[j]?=some v/\j<xs.length/\ -(xs.length:Int)≤i/\i<xs.length:=by
 unfold atI at h;cases e:ixN xs.length i with
 |none=>rw[e] at h;cases h
 |some j=>
  rw[e] at h;obtain⟨h1,h2,h3,h4⟩:=pK e;exact⟨j,h1,h,h2,h3,h4⟩
def yD (b:Expr):Prop:=∀o i,subscripted b false o i=operate [o,i] (getItem o i)
def IxR (X:Cx)(r:R2):Prop:=
 ∀(value slice:Expr) (pins:List (Addr×Obj)) (s:Shared) (σ:St) (H:Hp) (x y:V) (v u:Value) (Q:VK),Inv X pins σ H s->RelV x v->RelV y u->r x y H Q->
  subscripted slice false v u=operate [v,u] (getItem v u)->wpAny (model X.prog X.w) X.A (subscriptTail value slice v u) (EP X pins σ Q) X.xe s
def MtR (X:Cx)(id:String)(r:V->List V->Hp->VK->Prop):Prop:=
 ∀(pins:List (Addr×Obj)) (s:Shared) (σ:St) (H:Hp) (x:V) (xs:List V) (v:Value) (us:List Value) (Q:VK),Inv X pins σ H s->RelV x v->Vals xs us->r x xs H Q->
  wpAny (model X.prog X.w) X.A (call (.builtin id) (v::us)) (EP X pins σ Q) X.xe s
section
variable {a b:Expr}{ta tb:TE}
def pL {r:R2}(hr:IxR X r)(ha:PE X a ta)(hb:PE X b tb)(hs:yD b):PE X (.Subscript a b pos) (tOp r ta tb):=by
 intro pins s σ H Q I h;exact Subscript_ (binT ha hb I h fun v u s2 x y H2 I2 rx ry q=>hr a b pins s2 σ H2 x y v u Q I2 rx ry q (hs _ _))
noncomputable def IK (K:fg0):R2:=fun x y H Q=>∃p xs i v,x=.ref p/\y=.int i/\SqL K H p xs/\atI xs i=some v/\Q v H
noncomputable def IL (K:fg0):R2:=fun x y H Q=>∃p xs i v,x=.ref p/\y=.int i/\SqT K H p xs/\atI xs i=some v/\Q v H
noncomputable def IM:R2:=fun x y H Q=>∃z i c,x=.str z/\y=.int i/\z.length≤sizeLine/\atI z.cps.toList i=some c/\Q (.str ⟨#[c]⟩) H
def pM:IxR X (IK X.K):=by
 intro value slice pins s σ H x y v u Q I rx ry h hs;obtain⟨p,xs,i,z,rfl,rfl,hq,he,q⟩:=h;cases rx;obtain⟨t,rfl⟩:=ry;obtain⟨its,r,pl,hz⟩:=I.list hq;obtain⟨j,h1,h2,h3,h4,h5⟩:=gW he;obtain⟨w,ew,rw'⟩:=r.get h2;have hl:=r.length;have hn:=fI;have fin:EP X pins σ Q w s:=⟨z,H,I,rw',q⟩
 by_cases h0:0≤i
 ·have hj:i.toNat=j:=by
   rw[seqIndex_of h0 h5] at h1;exact Option.some.inj h1
  exact item_listR pl.isList h0 (by grind) (by rw[hj];simpa using ew) fin hs
 ·have hj:(i+(its.toArray.size:Int)).toNat=j:=by
   rw[seqIndex_neg (by simp_all) h4] at h1;rw[ls0,←hl];exact Option.some.inj h1
  exact subscriptTail_builtinR (x:=w) pl.isList.typeIs slot_list_getitem.lookup
   (wpAny_getItem_list_neg (Q:=fun r s'=>r=w/\EP X pins σ Q r s') pl.isList (by simp_all) (by rw[ls0]<;>simp_all) (by grind) (by rw[hj];simpa using ew) ⟨rfl,fin⟩) hs
def nQ:IxR X (IL X.K):=by
 intro value slice pins s σ H x y v u Q I rx ry h hs;obtain⟨p,xs,i,z,rfl,rfl,hq,he,q⟩:=h;cases rx;obtain⟨t,rfl⟩:=ry;obtain⟨its,r,pl,hz⟩:=I.tuple hq;obtain⟨j,h1,h2,h3,h4,h5⟩:=gW he;obtain⟨w,ew,rw'⟩:=r.get h2;have hl:=r.length;have hn:=fI;have fin:EP X pins σ Q w s:=⟨z,H,I,rw',q⟩;exact subscriptTail_builtinR (x:=w) pl.typeIs slot_tuple_getitem.lookup
  (getItem_tuple (j:=j) (Q:=fun r s'=>r=w/\EP X pins σ Q r s') pl (by grind) (by grind) (by rw[ls0,←hl];exact h1) (by simpa using ew) ⟨rfl,fin⟩) hs
def CD:IxR X IM:=by
 intro value slice pins s σ H x y v u Q I rx ry h hs;obtain⟨z,i,c,rfl,rfl,hz,he,q⟩:=h;obtain⟨t,rfl⟩:=rx;obtain⟨t',rfl⟩:=ry;obtain⟨j,h1,h2,h3,h4,h5⟩:=gW he;have hl:z.cps.toList.length=z.length:=by simp[Str.length]
 rw[hl] at h1 h4 h5;have hn:=fI;exact tail_any (typeIs_str s z t) slot_str_getitem.lookup (getItem_str (c:=c) (by
  have e1:decide (i < -(2 ^ 63:Int))=false:=df0 (by grind);have e2:decide (i≥2 ^ 63)=false:=df0 (by grind);rw[e1,e2,Bool.or_false]) (by rw[h1];simpa using h2) ⟨.str ⟨#[c]⟩,H,I.tok _,⟨_,rfl⟩,q⟩) hs
def nR (its:List Value)(n j:Nat)(u:Value):Obj.mapSeq (·.setIfInBounds j u) {cls:=.type "list",data:=.seq its.toArray n}={cls:=.type "list",data:=.seq (its.set j u).toArray n}:=by
 simp[Obj.mapSeq]
theorem Inv.lst {p:Addr}(I:Inv X pins σ H s)(h:H p=some (.lst xs)):
  ∃(its:List Value) (n:Nat),Vals xs its/\s.heap.get? p=some {cls:=.type "list",data:=.seq its.toArray n}/\xs.length≤sizeLine:=by
 obtain⟨z,its,n,r,e⟩:=I.hok p _ h;exact⟨its,n,r,e,z⟩
def Inv.lstUpd {p:Addr}{ys:List V}{n':Nat}{f:Obj->Obj}(I:Inv X pins σ H s)(h:H p=some (.lst xs))
  (ho:s.heap.get? p=some {cls:=.type "list",data:=.seq its.toArray n}) (hf:f {cls:=.type "list",data:=.seq its.toArray n}={cls:=.type "list",data:=.seq its'.toArray n'}) (r:Vals ys its') (hz:ys.length≤sizeLine) (t:Nat):
  Inv X pins σ (upd H p (.lst ys)) {s with heap:=s.heap.update p f,toks:=t}:=by
 have e:(s.heap.update p f).get? p=some {cls:=.type "list",data:=.seq its'.toArray n'}:=by
  rw[hu0 f ho (by rw[hf]<;>rfl),hf]
 refine I.write (x:=p) (e:=p) (by rw[h];trivial) (.inl rfl) (fun b u hb q=>(Heap.get?_update_other _ _ (Ne.symm hb)).trans q) ⟨_,e⟩ ?_;exact⟨hz,its',n',r,e⟩
noncomputable def FK:V->V->V->Hp->(Hp->Prop)->Prop:=fun o i v H Q=>∃p xs k j,o=.ref p/\i=.int k/\H p=some (.lst xs)/\ixN xs.length k=some j/\Q (upd H p (.lst (xs.set j v)))
def set_list:yw X FK:=by
 intro pins s σ H o i v ov iv u Q I ro ri rv h;obtain⟨p,xs,k,j,rfl,rfl,hp,hj,q⟩:=h;cases ro;obtain⟨t,rfl⟩:=ri;obtain⟨its,n,r,ho,hz⟩:=I.lst hp;obtain⟨h1,h2,h3,h4⟩:=pK hj;have hl:=r.length;have hn:=fI;have I':Inv X pins σ (upd H p (.lst (xs.set j v))) {s with heap:=s.heap.update p (Obj.mapSeq (·.setIfInBounds j u))}:=
  I.lstUpd hp ho (nR its n j u) (r.set rv j) (by rw[List.length_set];exact hz) s.toks
 by_cases h0:0≤k
 ·have hk:k.toNat=j:=by
   rw[seqIndex_of h0 h4] at h1;exact Option.some.inj h1
  exact PySem.W.ki_setAt ho h0 (by grind) (by rw[ls0,←hl];exact h4) (by rw[hk];exact⟨_,I',q⟩)
 ·have hk:(k+(its.toArray.size:Int)).toNat=j:=by
   rw[seqIndex_neg (by simp_all) h3] at h1;rw[ls0,←hl];exact Option.some.inj h1
  exact PySem.W.ki_setBack ho (by simp_all) (by rw[ls0,←hl];exact h3) (by grind) (by rw[hk];exact⟨_,I',q⟩)
def kj (lo hi:Option Int)(n:Nat):(sliceBounds lo hi none n).1=((HT.sIx n 0 lo:Nat):Int)/\(sliceBounds lo hi none n).2.1=((HT.sIx n n hi:Nat):Int)/\(sliceBounds lo hi none n).2.2=1:=by
 refine⟨?_,?_,rfl⟩
 ·cases lo with
  |none=>simp[sliceBounds,HT.sIx]
  |some i=>
   simp only[sliceBounds,HT.sIx,Option.getD_none,show (1:Int)>0 by decide,if_true]
   by_cases h:i<0
   ·simp only[h,if_true]<;>omega
   ·simp only[h,if_false]<;>omega
 ·cases hi with
  |none=>simp[sliceBounds,HT.sIx]
  |some i=>
   simp only[sliceBounds,HT.sIx,Option.getD_none,show (1:Int)>0 by decide,if_true]
   by_cases h:i<0
   ·simp only[h,if_true]<;>omega
   ·simp only[h,if_false]<;>omega
def je (its:List Value)(lo hi:Option Int):slicePick its.toArray lo hi none=((its.drop (HT.sIx its.length 0 lo)).take (HT.sIx its.length its.length hi-HT.sIx its.length 0 lo)).toArray:=by
 obtain⟨h1,h2,h3⟩:=kj lo hi its.toArray.size;unfold slicePick;rw[h1,h2,h3];simp only[sliceRange_one,pick_run,ls0]<;>rfl
noncomputable def IP (K:fg0):V->Option Int->Option Int->Hp->VK->Prop:=fun x lo hi H Q=>∃a xs,x=.ref a/\SqL K H a xs/\∀p,H p=none->Q (.ref p) (upd H p (.lst (rm xs lo hi)))
def pN:SlR X (IP X.K):=by
 intro pins s σ H x v vl vu lo hi sl Q I rx hs pl pu h;obtain⟨a,xs,rfl,hx,q⟩:=h;cases rx;obtain⟨its,r,ht,hz⟩:=I.list hx;have hlen:=r.length;refine⟨"list",_,slot_list_getitem.lookup,ht.isList.typeIs,?_⟩;refine wpAny_getItem_list_slice ht.isList hs pl pu .none (by simp) ?_ (by rw[ls0]<;>simp_all);rw[je,←hlen];refine⟨.ref s.heap.objs.size,_,I.laid (t':=s.toks) (o:=.lst (rm xs lo hi)) (fun b ob q=>ps0 _ q) (nr0 _) ?_,rfl,q _ (I.hok.fresh (nr0 _))⟩;exact⟨nt0 (lI xs lo hi) hz,_,0,(r.drop (HT.sIx xs.length 0 lo)).take (HT.sIx xs.length xs.length hi-HT.sIx xs.length 0 lo),pz0 _ rfl⟩
def ko:OpR X (compareOp .NotIn) (fun x y H Q=>∃i j,x=.str i/\y=.str j/\Q (.bl (!(!(Builtin.Str.occurrences j i 0 j.length 1).isEmpty))) H):=by
 intro pins s σ H x y v u Q I rx ry h;obtain⟨i,j,rfl,rfl,q⟩:=h;obtain⟨t,rfl⟩:=rx;obtain⟨t',rfl⟩:=ry;exact notIn_str ⟨.bl _,H,I,rfl,q⟩
def kr:aZ X (.builtin "len") (fun xs H Q=>∃p ys,xs=[.ref p]/\(SqL X.K H p ys\/SqT X.K H p ys)/\Q (.int ys.length) H):=by
 intro pins s σ H xs us Q I r h;obtain⟨p,ys,rfl,hq,q⟩:=h;obtain⟨u,rfl,rx⟩:=vals1 r;cases rx;have hn:=fI;rcases hq with hq|hq
 ·obtain⟨its,r',pl,hz⟩:=I.list hq
  have hlen:=r'.length;exact Calls.call_len_list pl.isList (by simp only[ls0]<;>omega) ⟨.int ys.length,H,I.tok _,⟨s.toks+1,by rw[ls0,hlen]⟩,q⟩
 ·obtain⟨its,r',pl,hz⟩:=I.tuple hq
  have hlen:=r'.length;exact len_tuple pl (by simp only[ls0]<;>omega) ⟨.int ys.length,H,I.tok _,⟨s.toks+1,by rw[ls0,hlen]⟩,q⟩
def eV:aZ X (.type "list") (fun xs H Q=>∃p ys,xs=[.ref p]/\(SqL X.K H p ys\/SqT X.K H p ys)/\∀l,H l=none->Q (.ref l) (upd H l (.lst ys))):=by
 intro pins s σ H xs us Q I r h;obtain⟨p,ys,rfl,hq,q⟩:=h;obtain⟨u,rfl,rx⟩:=vals1 r;cases rx;have fin:∀(its:List Value),Vals ys its->ys.length≤sizeLine->∀(h':Heap) (c':Nat),(∀b o',s.heap.get? b=some o'->h'.get? b=some o')->
   h'.get? s.heap.objs.size=some {cls:=.type "list",dict:=none,data:=.seq its.toArray c',slots:=#[]}->EP X pins σ Q (.ref s.heap.objs.size) {s with heap:=h'}:=fun its r' hz h' c' kp e=>
  ⟨.ref s.heap.objs.size,_,I.laid (t':=s.toks) kp (nr0 _) (show ObjOk X.prog X.w _ h' _ (.lst ys) from⟨hz,its,c',r',e⟩),rfl,q _ (I.hok.fresh (nr0 _))⟩
 rcases hq with hq|hq
 ·obtain⟨its,r',pl,hz⟩:=I.list hq
  have hlen:=r'.length;obtain⟨o,ho,hc,n,hd⟩:=pl.isList;exact call_list_seq p (.inl rfl) ho hc hd (fun h' c' kp e=>fin its r' hz h' c' kp e) (by simp only[ls0]<;>omega)
 ·obtain⟨its,r',pl,hz⟩:=I.tuple hq
  have hlen:=r'.length;obtain⟨o,ho,hc,n,hd⟩:=pl;exact call_list_seq p (.inr rfl) ho hc hd (fun h' c' kp e=>fin its r' hz h' c' kp e) (by simp only[ls0]<;>omega)
def eK:aZ X (.type "tuple") (fun xs H Q=>∃p ys,xs=[.ref p]/\((SqL X.K H p ys/\∀l,H l=none->Q (.ref l) (upd H l (.tup ys)))\/(SqT X.K H p ys/\Q (.ref p) H))):=by
 intro pins s σ H xs us Q I r h;obtain⟨p,ys,rfl,h⟩:=h;obtain⟨u,rfl,rx⟩:=vals1 r;cases rx;rcases h with⟨hq,q⟩|⟨hq,q⟩
 ·obtain⟨its,r',pl,hz⟩:=I.list hq
  have hlen:=r'.length;refine call_tuple_list pl.isList (fun h' kp=>?_) (by simp only[ls0]<;>omega);have I1:Inv X pins σ H {s with heap:=h'}:=I.kept (t':=s.toks) kp;have I2:Inv X pins σ (upd H h'.objs.size (.tup ys)) {s with heap:=h'.push {cls:=.type "tuple",data:=.seq its.toArray}}:=
   I1.laid (t':=s.toks) (fun b o e=>ps0 _ e) (nr0 _) (show ObjOk X.prog X.w _ _ _ (.tup ys) from⟨hz,its,r',IsTup.new _ _⟩)
  exact⟨.ref h'.objs.size,_,I2,rfl,q _ (I1.hok.fresh (nr0 _))⟩
 ·obtain⟨its,r',pl,hz⟩:=I.tuple hq
  exact call_tuple_same pl ⟨.ref p,H,I,rfl,q⟩
def tyV (K:fg0)(T:String)(x:V)(H:Hp):Prop:=match x with
 |.str _=>T="str"
 |.int _=>T="int"
 |.ref p=>(T="list"/\∃xs,SqL K H p xs)\/(T="tuple"/\∃o,K.lookup p=some o/\o.cls=.type "tuple"/\o.dict=none)\/
   (T="dict"/\((∃kvs,H p=some (.dK kvs))\/∃kvs,H p=some (.dT kvs)))\/(T="set"/\∃S n,H p=some (.set S n))
 |_=>False
def ua {x:V}{v:Value}(I:Inv X pins σ H s)(r:RelV x v)(ty:tyV X.K T x H):
  s.TypeIs v T/\∀a,v=.ref a->∃ob,s.heap.get? a=some ob/\ob.dict=none:=by
 cases x with
 |str z=>
  obtain⟨t,rfl⟩:=r;cases (show T="str" from ty);exact⟨typeIs_str s z t,fun b e=>nomatch e⟩
 |int i=>
  obtain⟨t,rfl⟩:=r;cases (show T="int" from ty);exact⟨typeIs_int s i t,fun b e=>nomatch e⟩
 |ref p=>
  cases r;rcases ty with⟨rfl,xs,hq⟩|⟨rfl,o,hk,hc,hd⟩|⟨rfl,hk⟩|⟨rfl,S,n,hk⟩
  ·obtain⟨its,_,pl,_⟩:=I.list hq
   refine⟨pl.isList.typeIs,fun a e=>?_⟩;cases e;obtain⟨o,n,e,c,hd,_⟩:=pl;exact⟨o,e,hd⟩
  ·refine⟨⟨o,I.kIn p o hk,hc⟩,fun a e=>?_⟩
   cases e;exact⟨o,I.kIn _ o hk,hd⟩
  ·have z:∃o,s.heap.get? p=some o/\o.ExactDict:=by
    rcases hk with⟨kvs,hk⟩|⟨kvs,hk⟩
    ·obtain⟨_,_,_,_,o,_,_,e,ex,_⟩:=I.hok p _ hk
     exact⟨o,e,ex⟩
    ·obtain⟨_,_,_,_,o,_,_,e,ex,_⟩:=I.hok p _ hk
     exact⟨o,e,ex⟩
   obtain⟨o,e,ex⟩:=z;refine⟨⟨o,e,ex.1⟩,fun a e2=>?_⟩;cases e2;exact⟨o,e,ex.2.1⟩
  ·obtain⟨o,_,_,_,e,ex,_⟩:=I.hok p _ hk
   refine⟨⟨o,e,ex.1⟩,fun a e2=>?_⟩;cases e2;exact⟨o,e,ex.2.1⟩
 |_=>exact False.elim ty
noncomputable def IQ (K:fg0)(T:String)(r:V->List V->Hp->VK->Prop)(to:TE):TE:=fun σ H Q=>to σ H fun x H1=>tyV K T x H1/\r x [] H1 Q
noncomputable def tBM (K:fg0)(T:String)(r:V->List V->Hp->VK->Prop)(to:TE)(t:TA):TE:=fun σ H Q=>to σ H fun x H1=>tyV K T x H1/\t σ H1 fun xs H2=>r x xs H2 Q
variable {es:List Expr}{to:TE}{t:TA}{name:Str}{apos cpos:Pos}{id:String}{r:V->List V->Hp->VK->Prop}
def CF (pa:PlainAttrs T)(slot:Slot T name id)(hty:typeOf (.builtin id)=pure (.type "method_descriptor"))(hm:MtR X id r)(ho:PE X o to)
  (hbase:attributeBase o name X.env (eval o X.env)=eval o X.env:=by rfl) (hline:(apos.endLine==cpos.line)=true:=by rfl):PE X (.Call (.Attribute o name apos) [] [] cpos) (IQ X.K T r to):=by
 intro pins s σ H Q I h;refine wpAny_Call_method0_late hbase hline (thn (ho pins s σ H _ I h) ?_);rintro v s1 ⟨x,H1,I1,r1,ty,q1⟩;obtain⟨h1,h2⟩:=ua I1 r1 ty;exact⟨T,id,pa,slot,hty,h1,h2,Calls.callWith_builtin rfl (PySem.evalArgs_none (hm pins s1 σ H1 x [] v [] Q I1 r1 .nil q1))⟩
def pO (pa:PlainAttrs T)(slot:Slot T name id)(hty:typeOf (.builtin id)=pure (.type "method_descriptor"))(hm:MtR X id r)(ho:PE X o to)(ha:PA X (e::es) t)
  (hbase:attributeBase o name X.env (eval o X.env)=eval o X.env:=by rfl)
  (hfew:((backTo cpos (starEach (e::es) X.env)).all (fun x=>!x.1)&&(backToKw cpos (keywordEach [] X.env)).all (fun x=>x.1.isSome)
   &&decide ((e::es).length+([]:List Keyword).length+(if ([]:List Keyword).isEmpty then 0 else 1)<30))=true:=by rfl)
  (hline:(apos.endLine==cpos.line)=true:=by rfl) (hs:starEach (e::es) X.env=(false,eval e X.env)::starEach es X.env:=by rfl) (hplain:(backTo cpos (starEach es X.env)).any (·.1)=false:=by rfl):
  PE X (.Call (.Attribute o name apos) (e::es) [] cpos) (tBM X.K T r to t):=by
 intro pins s σ H Q I h;refine wpAny_Call_method_late hbase hfew hline rfl (thn (ho pins s σ H _ I h) ?_);rintro v s1 ⟨x,H1,I1,r1,ty,q1⟩;obtain⟨h1,h2⟩:=ua I1 r1 ty;refine⟨T,id,pa,slot,hty,h1,h2,?_⟩;have hA:=ha cpos pins s1 σ H1 _ I1 q1;rw[hs] at hA ⊢;refine Calls.callWith_builtin (by show (false||(backTo cpos (starEach es X.env)).any (·.1))=false;rw[hplain]<;>rfl) (Calls.evalArgs_plain ?_);exact thn hA fun us s2 ⟨vs,H2,I2,r2,q2⟩=>hm pins s2 σ H2 x vs v us Q I2 r1 r2 q2
end
def MtM (X:Cx)(id:String)(r:V->List V->Hp->VK->Prop):Prop:=
 ∀(pins:List (Addr×Obj)) (s:Shared) (σ:St) (H:Hp) (x:V) (xs:List V) (v:Value) (us:List Value) (Q:VK),Inv X pins σ H s->RelV x v->Vals xs us->r x xs H Q->
  wpAny (model X.prog X.w) X.A (call (.builtin id) (v::us)) (EP X pins σ Q) X.xe s
def Vals.one:∀{x:V} {us:List Value},Vals [x] us->∃u,us=[u]/\RelV x u
 |_,_,.cons r .nil=>⟨_,rfl,r⟩
def Vals.zero:∀{us:List Value},Vals [] us->us=[]
 |_,.nil=>rfl
theorem Vals.dropLast {us:List Value}(h:Vals xs us):Vals xs.dropLast us.dropLast:=by
 induction h with
 |nil=>exact .nil
 |cons r t ih=>
  cases t with
  |nil=>exact .nil
  |cons q t'=>exact .cons r ih
def nS (l:List α):l.eraseIdx (l.length-1)=l.dropLast:=by
 induction l with
 |nil=>rfl
 |cons a r ih=>
  cases r with
  |nil=>rfl
  |cons b r=>
   have e:(a::b::r).length-1=((b::r).length-1)+1:=by
    have h1:(a::b::r).length=r.length+2:=rfl;have h2:(b::r).length=r.length+1:=rfl
    assumption
   rw[e,List.eraseIdx_cons_succ,ih]
   all_goals rfl
section
variable {l b:Addr}{ys zs:List V}
def Inv.lset {f:Array Value->Array Value}(I:Inv X pins σ H s)(hH:H l=some (.lst xs))
  (e:s.heap.get? l=some {cls:=.type "list",data:=.seq its.toArray n}) (hf:f its.toArray=its'.toArray) (hv:Vals ys its') (hz:ys.length≤sizeLine):
  Inv X pins σ (upd H l (.lst ys)) {s with heap:=s.heap.update l (Obj.mapSeq f),toks:=t'}:=by
 have q:=PySem.IsL.update e f;rw[hf] at q;refine I.write (x:=l) (e:=l) (by rw[hH];exact trivial) (.inl rfl) (fun b' u hb hu=>(Heap.get?_update_other s.heap (Obj.mapSeq f) (Ne.symm hb)).trans hu) ⟨_,q⟩ ?_;exact⟨hz,its',_,hv,q⟩
def Inv.lnew (I:Inv X pins σ H s)(hv:Vals ys its)(hz:ys.length≤sizeLine):
  Inv X pins σ (upd H s.heap.objs.size (.lst ys)) {s with heap:=s.heap.push {cls:=.type "list",data:=.seq its.toArray},toks:=t'}:=
 I.laid (fun a a q=>ps0 _ q) (nr0 _) ⟨hz,its,0,hv,pz0 _ rfl⟩
theorem Inv.fresh (I:Inv X pins σ H s):H s.heap.objs.size=none:=I.hok.fresh (nr0 _)
def Inv.lstM (I:Inv X pins σ H s)(hH:H l=some (.lst xs)):xs.length≤sizeLine/\∃(its:List Value) (n:Nat),Vals xs its/\xs.length=its.length/\s.heap.get? l=some {cls:=.type "list",data:=.seq its.toArray n}:=by
 obtain⟨z,its,n,r,e⟩:=I.hok l _ hH;exact⟨z,its,n,r,r.length,e⟩
def ub (h:n≤sizeLine):Builtin.List.listTooLong n=false:=by
 unfold Builtin.List.listTooLong;exact df0 (by simp_all)
end
noncomputable def yE:V->List V->Hp->VK->Prop:=fun x vs H Q=>∃l xs y,x=.ref l/\vs=[y]/\H l=some (.lst xs)/\xs.length<sizeLine/\Q .non (upd H l (.lst (xs++[y])))
def fK:MtM X "list.append" yE:=by
 intro pins s σ H x vs v us Q I rx rv h;obtain⟨l,xs,y,rfl,rfl,hH,hz,q⟩:=h;cases rx;obtain⟨u,rfl,ru⟩:=rv.one;obtain⟨z,its,n,r,hl,e⟩:=I.lstM hH;refine call_meets F.slot_list_append ⟨_,e,rfl⟩ F.entry_list_append (F.args_list_append_2 _ _) (PySem.list_append l its.toArray n u (by rw[ls0];simp_all)) ⟨e,?_⟩;refine⟨.non,_,I.lset (its':=its++[u]) hH e (by simp) (r.append (.cons ru .nil)) ?_,rfl,q⟩;rw[la0,List.length_singleton]
 assumption
noncomputable def yF:V->List V->Hp->VK->Prop:=fun x vs H Q=>∃l b xs zs,x=.ref l/\vs=[.ref b]/\H l=some (.lst xs)/\H b=some (.lst zs)/\xs.length+zs.length≤sizeLine/\Q .non (upd H l (.lst (xs++zs)))
def jy:MtM X "list.extend" yF:=by
 intro pins s σ H x vs v us Q I rx rv h;obtain⟨l,b,xs,zs,rfl,rfl,hH,hB,hz,q⟩:=h;cases rx;obtain⟨u,rfl,ru⟩:=rv.one;cases ru;obtain⟨z,its,n,r,hl,e⟩:=I.lstM hH;obtain⟨z2,its2,n2,r2,hl2,e2⟩:=I.lstM hB;have hsz:its.toArray.size+its2.toArray.size≤sizeLine:=by rw[ls0,ls0];simp_all
 have hlong:¬ (!its.toArray.isEmpty&&Builtin.List.listTooLong (its.toArray.size+its2.toArray.size))=true:=by
  rw[ub hsz,Bool.and_false];exact fx0
 refine call_meets F.slot_list_extend ⟨_,e,rfl⟩ F.entry_list_extend (F.args_list_extend_2 _ _)
  (AutoSeq1.list_extend_list_list_0 l its.toArray n b its2.toArray n2 hlong (by rw[ls0];simp_all) (by exact Nat.le_succ_of_le ‹_›)) ⟨e,e2,?_⟩
 refine⟨.non,_,I.lset (its':=its++its2) hH e (by simp) (r.append r2) ?_,rfl,q⟩;rw[la0];omega
noncomputable def IR:V->List V->Hp->VK->Prop:=fun x vs H Q=>∃l xs y,x=.ref l/\vs=[]/\H l=some (.lst xs)/\xs[xs.length-1]?=some y/\Q y (upd H l (.lst xs.dropLast))
def CG:MtM X "list.pop" IR:=by
 intro pins s σ H x vs v us Q I rx rv h;obtain⟨l,xs,y,rfl,rfl,hH,hy,q⟩:=h;cases rx;have hus:=rv.zero;subst hus;obtain⟨z,its,n,r,hl,e⟩:=I.lstM hH;obtain⟨u,hu,ru⟩:=r.get hy;have hy':its.toArray[its.toArray.size-1]?=some u:=by
  show its.toArray[its.length-1]?=some u;rw[←Array.getElem?_toList,←hl];exact hu
 refine call_meets F.slot_list_pop ⟨_,e,rfl⟩ F.entry_list_pop (F.args_list_pop_1 _) (MeetsSeq.list_pop_last l its.toArray n u hy' (by rw[ls0];simp_all)) ⟨e,?_⟩;refine⟨y,_,I.lset (its':=its.dropLast) hH e ?_ r.dropLast ?_,ru,q⟩
 ·show its.toArray.eraseIdxIfInBounds (its.toArray.size-1)=its.dropLast.toArray
  rw[ls0,List.eraseIdxIfInBounds_toArray,nS]
 ·rw[List.length_dropLast]
  grind
noncomputable def FL:R2:=fun x y H Q=>∃l b xs zs,x=.ref l/\y=.ref b/\H l=some (.lst xs)/\H b=some (.lst zs)/\xs.length+zs.length≤sizeLine/\∀p,H p=none->Q (.ref p) (upd H p (.lst (xs++zs)))
def op_cat:OpR X (binaryOp .Add) FL:=by
 intro pins s σ H x y v u Q I rx ry h;obtain⟨l,b,xs,zs,rfl,rfl,hH,hB,hz,q⟩:=h;cases rx;cases ry;obtain⟨z,its,n,r,hl,e⟩:=I.lstM hH;obtain⟨z2,its2,n2,r2,hl2,e2⟩:=I.lstM hB;refine PySem.P.add_list e e2 ?_ (by rw[ls0,ls0];omega);have ea:its.toArray++its2.toArray=(its++its2).toArray:=by simp
 rw[ea];exact⟨.ref _,_,I.lnew (t':=s.toks) (r.append r2) (by rw[la0];omega),rfl,q _ I.fresh⟩
section
variable {A:Around}{E:Value->Shared->Prop}
end
end L2
namespace Att
open PySem PySem.W PySem.Calls PyProof.Rows
def gJ {P:Params}:∀(ns:List Int) (vs:List Value),WellAll P h vs (ns.map WData.int)->IntsAre vs ns:=by
 intro ns
 induction ns with
 |nil=>
  intro vs w;rw[List.map_nil] at w;cases w;exact .nil
 |cons n ns ih=>
  intro vs w;rw[mk0] at w;cases w with
  |cons a b=>
   cases a;exact .cons _ _ (ih _ b)
def rn {l:OpenLaw}(hn:l.most=some n){P:Params}{args:List WData}{vals:List Value}
  (hpre:l.row.toRowW.claim.pre args=true) (hwl:WellAll P h vals args):
  ∃a vs ns,vals=[Value.ref a]/\args=[WData.list (ns.map WData.int)]/\h.get? a=some {cls:=.type "list",data:=.seq vs.toArray}/\IntsAre vs ns/\ns.length≤n:=by
 have hsh:WShape.hasAll [] args [.list .int]=true:=(pre_splitW hpre).1;have hc:l.pre.holds [] {args:=args}=true:=(pre_splitW hpre).2;obtain⟨d,r,rfl,h1,h2⟩:=hasAllW_cons hsh;obtain rfl:=hasAllW_nil h2;obtain⟨xs,rfl,h3⟩:=hasW_list h1;obtain⟨ns,rfl⟩:=items_int h3;have hlen:ns.length≤n:=by
  unfold OpenLaw.pre at hc;have h4:(WTm.not (.lt (.lit (.int (n:Int))) (.len (.arg 0)))).holds [] {args:=[.list (ns.map .int)]}=true:=by
   have h4:=(holds_andW hc).1;rw[hn] at h4;exact h4
  have h5:=condW_of h4 (w_not (w_lt w_lit (w_len_list (w_arg rfl))));rw[lm0] at h5;refine Nat.le_of_not_lt fun q=>?_
  have q':(n:Int)<((ns.length:Nat):Int):=by simp_all
  first
   |(rw[dt0 q'] at h5;exact absurd h5 (by decide))
   |(simp at h5;simp)
 cases hwl with
 |cons w1 w2=>
  cases w2;cases w1 with
  |list ho hall=>exact⟨_,_,ns,rfl,rfl,ho,gJ ns _ hall,hlen⟩
def rp (l:OpenLaw)(args:List WData):l.row.toRowW.claim.post args (.bool true) args=true:=
 postW_of (r:=l.row.toRowW) (X:=(true==true))
  (show WShape.has [] (.bool true) .bool=true by first|rfl|decide|simp[WShape.has,WShape.arms,WShape.armsAll])
  (show (WTm.eq .res (.lit (.bool true))).value [] {args:=args,res:=some (.bool true),after:=args}=some (.bool (true==true)) from w_eq_bool (w_res rfl) w_lit) rfl
def attach_call {l:OpenLaw}{q:Program}{XP:(Str->Option Value)->Heap->Prop}{YP:World->Heap->Prop}{d:DefRec}
  (hn:l.most=some n) (hdf:d.params.defaults=[])
  (call:∀(w:World) (s₀ s₁:Shared) (mg mb:Str->Option Value) (fa:Addr) (o:Obj) (pm cd doc:Value) (a:Addr) (vs:List Value) (ns:List Int),
   Ground q loose [] XP w s₀ mg mb s₁.heap->YP w s₁.heap->
   s₁.heap.get? fa=some o->o.data=.func (docDef d.name d.params d.body d.scope pm cd doc)->s₁.heap.CodeRec cd d.name->mg d.name=some (.ref fa)->
   s₁.heap.get? a=some {cls:=.type "list",data:=.seq vs.toArray}->IntsAre vs ns->ns.length≤n->s₁.gens=#[]->
   codeAny (model l.prog w) callerA (.call (.ref fa) ⟨[.ref a],[]⟩) (fun r s'=>r=.ok (.ret (.bool true))/\OldK s₁.heap s'.heap/\s'.os=s₁.os/\AllBare s'.gens) s₁):
  WalkO q loose XP YP l.row.toRowW d [] (fun f vs=>PySem.call f vs):=by
 intro w s₀ s₁ mg mb G Y fa o pm cd doc dV kV ho hd hcd hD hmg hg args vals as hpre hlay hrd hwl hlo;obtain rfl:dV=.none:=Dflts.none hD hdf;obtain rfl:kV=.none:=Dflts.noKw hD;obtain⟨a,vs,ns,rfl,rfl,hobj,hints,hlen⟩:=rn hn hpre hwl;refine enter_call (codeAny_mono (call w s₀ s₁ mg mb fa o pm cd doc a vs ns G Y ho (fd_plain hd) hcd hmg hobj hints hlen hg) fun r s' hq=>?_);obtain⟨rfl,h2,h3,h4⟩:=hq;exact⟨.inl ⟨.bool true,.bool true,[],rfl,fun b=>rfl,.bool true,rp l _,fun b=>⟨List.Pairwise.nil,fun b hm=>(nomatch hm)⟩⟩,h2,h3,h4⟩
section
variable {A:Around}{E:Value->Shared->Prop}{K:Frag}
end
end Att
namespace L2
open PySem PySem.Spec PyProof.Rows
theorem bw:∀{vs:List Value} {ns:List Int},IntsAre vs ns->Vals (ns.map V.int) vs
 |_,_,.nil=>.nil
 |_,_,.cons n t h=>.cons ⟨t,rfl⟩ (bw h)
set_option tactic.hygienic true in
theorem uc {β:Type}[BEq α][LawfulBEq α]{a:α}{b:β}:∀{l:List (α×β)},l.lookup a=some b->(a,b)∈l
 |[],h=>by cases h
 |(x,y)::l,h=>by
  rw[lk0] at h;split at h
  ·rename_i e;cases h;rw[eq_of_beq e];exact ms0
  ·exact mc0 _ (uc h)
def CH (H:Hp):Prop:=(∀b,H b=none\/(∃o xs,H b=some (.frz o (.lst xs)))\/∃p∈lamTs,b=p.1/\H b=some (.tbl p.2 #[]))/\∀p∈lamTs,H p.1=some (.tbl p.2 #[])
def ud {K:fg0}{mb:Str->Option Value}{CX:CXT}{k:Nat}{fa:Addr}{sp:Sp}{s₁:Shared}{vs:List Value}
  (KX:K.In s₁.heap) (hns:s₁.heap.Ns mainGlobals mg) (hb:s₁.heap.Ns builtinsNs mb) (hbb:∀x:Str,x≠"__name__"->mb x=bootBuiltins x) (hlim:s₁.heap.NoLimit) (hg:s₁.gens=#[])
  (ha:s₁.heap.get? a=some {cls:=.type "list",data:=.seq vs.toArray}) (hi:IntsAre vs ns) (hl:ns.length≤sizeLine) (hr:Room k callerA)
  (F:∀base:Heap,K.In base->base.Ns mainGlobals mg->FnOk P w K mg base CX k fa fd [x] sp) (hbind:∀(s:Shared) (u:Value),BindsTo s fd ⟨[u],[]⟩ [(x,u)])
  (hsp:∀H:Hp,CH H->SqL K H a (ns.map V.int)->sp [.ref a] H (fun v c=>v=.bl true) fun c c c=>False)
  (hCX:∀H e s',CX [] H s₁ (fun c c c=>False) e s'->False) (hT:∀p∈lamTs,K.lookup p.1=none/\s₁.heap.get? p.1=some (PySem.W.tabObj #[])/\isCodeTable s₁.heap p.1/\lamTs.lookup p.1=some p.2):
  codeAny (model P w) callerA (.call (.ref fa) ⟨[.ref a],[]⟩) (fun r s'=>r=.ok (.ret (.bool true))/\OldK s₁.heap s'.heap/\s'.os=s₁.os/\AllBare s'.gens) s₁:=by
 have rv:=bw hi;have lenV:=hi.length;have core:∀H:Hp,CH H->SqL K H a (ns.map V.int)->HOk P w H s₁.heap->(∀b,H b≠none->b=a\/∃p∈lamTs,b=p.1)->(H a≠none->K.lookup a=none)->
   codeAny (model P w) callerA (.call (.ref fa) ⟨[.ref a],[]⟩) (fun r s'=>r=.ok (.ret (.bool true))/\OldK s₁.heap s'.heap/\s'.os=s₁.os/\AllBare s'.gens) s₁:=by
  intro H hO hS hok hA hK;have hTb:=hO.2;have base_of:∀{b:Addr} {o:Obj},s₁.heap.get? b=some o->H b=none->(kh s₁.heap H).get? b=some o:=fun e n=>tE e n
  have noA:∀{b:Addr} {o:Obj} {es:Array DictEntry} {ep:Nat},s₁.heap.get? b=some o->o.data=.dict es ep->H b=none:=fun {b o es ep} e d=>by
   cases q:H b with
   |none=>rfl
   |some u=>
    rcases hA b (by rw[q];simp) with e'|⟨p,hp,e'⟩
    ·subst e'
     rw[ha] at e;cases e;have d':Data.seq vs.toArray _=Data.dict es ep:=d;cases d'
    ·subst e'
     rw[(hT p hp).2.1] at e;cases e;cases d
  have nsK:∀{b:Addr} {m:Str->Option Value},s₁.heap.Ns b m->(kh s₁.heap H).Ns b m:=fun {b m} ⟨o,es,ep,e,d,r⟩=>⟨o,es,ep,base_of e (noA e d),d,r⟩
  have hKb:K.In (kh s₁.heap H):=fun b o e=>base_of (KX b o e) (by
   cases q:H b with
   |none=>rfl
   |some u=>
    rcases hA b (by rw[q];simp) with e'|⟨p,hp,e'⟩
    ·subst e'
     rw[hK (by rw[q];simp)] at e;cases e
    ·subst e'
     rw[(hT p hp).1] at e;cases e)
  have hM:Mod K mg (kh s₁.heap H):=⟨hKb,nsK hns,⟨mb,nsK hb,hbb⟩,let ⟨mc,h1,h2⟩:=hlim;⟨mc,nsK h1,h2⟩⟩;have e0:Env0 P w K mg (kh s₁.heap H) callerA [] s₁ H:=⟨rfl,hM,fun b o e=>yt e,Nat.le_of_eq (qW _ _),trivial,fun b hb=>absurd (show b∈([]:List Addr) from hb) (by simp),hok,.of_eq hg,fun p hp=>⟨_,hTb p hp⟩⟩;refine codeAny_mono ((F _ hKb (nsK hns)).run callerA [] s₁ H ⟨[.ref a],[]⟩ [.ref a] [.ref a] _ _ hr e0 (hbind s₁ (.ref a)) (.cons rfl .nil) (hsp H hO hS)) fun r s' h=>?_
  cases r with
  |error e=>exact (hCX H e s' h).elim
  |ok fl=>
   cases fl with
   |next=>exact False.elim h
   |brk=>exact False.elim h
   |cont=>exact False.elim h
   |ret u=>
    obtain⟨v,H',os,bare,un,hok',r',q⟩:=h;have q':v=.bl true:=q;subst q';obtain rfl:u=Value.bool true:=r';refine⟨rfl,⟨fun b o e=>?_,fun b o e=>un.there b o e (by simp)⟩,os,bare⟩;cases q:H b with
    |none=>exact .inl (un.keep b o e q (by intro z;exact absurd (show b∈([]:List Addr) from z) (by simp)) (by simp))
    |some u=>
     rcases hO.1 b with z|⟨ob,xs,z⟩|⟨p,hp,rfl,z⟩
     ·rw[q] at z;cases z
     ·have z2:=un.frzs b ob _ z
      obtain⟨e1,_⟩:=hok b _ z;obtain⟨e2,_⟩:=hok' b _ z2;rw[e] at e1;cases e1;exact .inl e2
     ·obtain⟨more,z2⟩:=un.tbls _ _ _ z
      obtain⟨e2,_⟩:=hok' _ _ z2;obtain⟨_,e1,e3,_⟩:=hT p hp;rw[e] at e1;cases e1;exact .inr (.inl ⟨e3,rfl,#[],more,rfl,e2⟩)
 have nT:∀p∈lamTs,p.1≠a:=fun p hp z=>by
  have:=(hT p hp).2.1;rw[z,ha] at this;cases this
 have tOk:∀{H:Hp} {p:Addr×Str},p∈lamTs->ObjOk P w H s₁.heap p.1 (.tbl p.2 #[]):=fun {H p} hp=>⟨(hT p hp).2.1,trivial,fun pos cv z=>by cases z⟩
 have mT:∀{b:Addr} {q:Str},lamTs.lookup b=some q->(b,q)∈lamTs:=uc;cases hk:K.lookup a with
 |some o=>
  have e:=KX a o hk;rw[ha] at e;cases e;refine core (fun b=>(lamTs.lookup b).map fun q=>.tbl q #[]) ⟨fun b=>?_,fun p hp=>by simp[(hT p hp).2.2.2]⟩ (.inr ⟨_,vs.toArray,_,hk,rfl,rfl,rfl,by rw[ls0,lenV];exact hl,by simpa using rv⟩) (fun b u z=>?_) (fun b z=>?_) fun z=>?_
  ·cases y:lamTs.lookup b with
   |none=>exact .inl (by simp[y])
   |some q=>exact .inr (.inr ⟨_,mT y,rfl,by simp[y]⟩)
  ·obtain⟨q,y,rfl⟩:=mx0 z
   exact tOk (p:=(b,q)) (mT y)
  ·cases y:lamTs.lookup b with
   |none=>exact absurd (by simp[y]) z
   |some q=>exact .inr ⟨_,mT y,rfl⟩
  ·cases y:lamTs.lookup a with
   |none=>exact absurd (by simp[y]) z
   |some q=>exact absurd rfl (nT _ (mT y))
 |none=>
  refine core (fun b=>if b=a then some (.frz {cls:=.type "list",data:=.seq vs.toArray} (.lst (ns.map V.int))) else (lamTs.lookup b).map fun q=>.tbl q #[]) ⟨fun b=>?_,fun p hp=>(if_neg (nT p hp)).trans (by rw[(hT p hp).2.2.2];rfl)⟩ (.inl (.inr ⟨{cls:=.type "list",data:=.seq vs.toArray},if_pos rfl⟩)) (fun b u z=>?_) (fun b z=>?_) fun c=>hk
  ·by_cases hb:b=a
   ·exact .inr (.inl ⟨_,_,if_pos hb⟩)
   ·cases y:lamTs.lookup b with
    |none=>exact .inl (by simp[hb,y])
    |some q=>exact .inr (.inr ⟨_,mT y,rfl,by simp[hb,y]⟩)
  ·by_cases hb:b=a
   ·have z':=(if_pos hb).symm.trans z
    cases z';subst hb;exact⟨ha,by rw[lm0];exact hl,vs,_,rv,ha⟩
   ·have z':=(if_neg hb).symm.trans z
    obtain⟨q,y,rfl⟩:=mx0 z';exact tOk (p:=(b,q)) (mT y)
  ·by_cases hb:b=a
   ·exact .inl hb
   ·cases y:lamTs.lookup b with
    |none=>exact absurd (by simp[hb,y]) z
    |some q=>exact .inr ⟨_,mT y,rfl⟩
def pP {l:PySem.W.OpenLaw}{k:Nat}{q:Program}{XP:(Str->Option Value)->Heap->Prop}{YP:World->Heap->Prop}{d:DefRec}{K:Params->fg0}{CX:World->CXT}{sp:World->Sp}
  (hn:l.most=some n) (hn2:n≤sizeLine) (hdf:d.params.defaults=[]) (hr:Room k callerA)
  (hY:∀(w:World) (h:Heap),YP w h->(K w.params).In h)
  (F:∀(w:World) (mg:Str->Option Value) (fa:Addr) (h:Heap),(K w.params).In h->h.Ns mainGlobals mg->mg d.name=some (.ref fa)->
   ∃fd:FuncData,(∀(s:Shared) (u:Value),BindsTo s fd ⟨[u],[]⟩ [(x,u)])/\
    ∀base:Heap,(K w.params).In base->base.Ns mainGlobals mg->FnOk l.prog w (K w.params) mg base (CX w) k fa fd [x] (sp w))
  (hsp:∀(w:World) (H:Hp) (a:Addr) (ns:List Int),ns.length≤n->CH H->SqL (K w.params) H a (ns.map V.int)->sp w [.ref a] H (fun v c=>v=.bl true) fun c c c=>False)
  (hCX:∀(w:World) (H:Hp) (s:Shared) (e:Value) (s':Shared),CX w [] H s (fun c c c=>False) e s'->False) (hT:∀(w:World) (h:Heap),YP w h->∀p∈lamTs,(K w.params).lookup p.1=none/\h.get? p.1=some (PySem.W.tabObj #[])/\isCodeTable h p.1/\lamTs.lookup p.1=some p.2):
  PySem.W.WalkO q loose XP YP l.row.toRowW d [] (fun f vs=>PySem.call f vs):=by
 refine Att.attach_call hn hdf fun w s₀ s₁ mg mb fa o pm cd doc a vs ns G Y ho hd hcd hmg hobj hints hlen hg=>?_
 have KX:=hY w _ Y;obtain⟨fd,hb,hF⟩:=F w mg fa _ KX G.T.g hmg;exact ud KX G.T.g G.T.b G.T.builtins G.T.nolimit hg hobj hints (nt0 hlen hn2) hr hF hb (fun H hO hS=>hsp w H a ns hlen hO hS) (fun H e s'=>hCX w H s₁ e s') (hT w _ Y)
noncomputable def defArgs (s:Stmt):Arguments:=match s with
 |.FunctionDef _ a _ _ _ _ _ _ _ _=>a
 |_=>{posonlyargs:=[],args:=[],vararg:=none,kwonlyargs:=[],kw_defaults:=[],kwarg:=none,defaults:=[]}
noncomputable def defBody (s:Stmt):List Stmt:=match s with
 |.FunctionDef _ _ b _ _ _ _ _ _ _=>b
 |_=>[]
noncomputable def defScope (s:Stmt):Scope:=match s with
 |.FunctionDef _ _ _ _ _ _ sc _ _ _=>sc
 |_=>{kind:=.function,names:=[],isGenerator:=false,isCoroutine:=false}
noncomputable abbrev CX0:CXT:=fun a a a a a a=>False
noncomputable abbrev E0:XK:=fun a a a=>False
def ue :iq CX0 X E0:=fun a a a a a a a h=>h.elim
structure Fun (K:fg0)(x qual:Str)(st:Stmt)(f:Addr)(fd:FuncData):Prop where
 ex:∃(oc:Value) (od:Option Addr) (kV doc pm:Value) (an:Option Addr) (cdv ct:Value) (osl:Array (Option Value)),
  fd=PySem.W.fnOf x qual (defArgs st) (defBody st) (defScope st) .none kV doc pm an cdv ct/\K.lookup f=some ⟨oc,od,.func fd,osl⟩/\PySem.W.codeIn K cdv qual=true
 kp:PySem.W.keepIn K (.ref f)=true
section
variable {K:fg0}{base:Heap}
def Fun.ok {N ps:List Str}{k:Nat}{sp:Sp}(F:Fun K x qual st f fd)(S:aX N ps (defScope st))(len:∀vs H Q E,sp vs H Q E->vs.length=ps.length)
  (hbody:∀(cdv:Value) (A:Around) (outer:List Env) (s:Shared) (H:Hp) (vs:List V) (Q:VK) (E:XK),Room k (A.deeper (envOfC qual (defScope st) s.heap.objs.size f cdv))->sp vs H Q E->
   ∃t,PSs (cN CX0 P w K mg base N qual (defScope st) f cdv A outer s H E).nox (defBody st) t/\t {nx:=fun a H'=>Q .non H',rt:=Q} (start N vs) H):FnOk P w K mg base CX0 (k+1) f fd ps sp:=by
 obtain⟨oc,od,kV,doc,pm,an,cdv,ct,osl,rfl,lk,hcd⟩:=F.ex;refine Bh lk hcd S len fun A outer s H vs Q E hr hsp=>?_
 obtain⟨t,h,q⟩:=hbody cdv A outer s H vs Q E hr hsp;exact⟨t,h.nox,q⟩
def Fun.binds {ps:List Str}(F:Fun K x qual st f fd)
  (h:∀(kV doc pm:Value) (an:Option Addr) (cdv ct:Value) (us:List Value),us.length=ps.length->bindArgs (PySem.W.fnOf x qual (defArgs st) (defBody st) (defScope st) .none kV doc pm an cdv ct) ⟨us,[]⟩=pure (ps.zip us)):Binds K fd ps []:=by
 obtain⟨oc,od,kV,doc,pm,an,cdv,ct,osl,rfl,lk,hcd⟩:=F.ex;exact .all (h kV doc pm an cdv ct)
def CI {oc:Value}{od an:Option Addr}{osl:Array (Option Value)}{kV doc pm cdv ct:Value}(l:K.lookup f=some ⟨oc,od,.func (PySem.W.fnOf x qual (defArgs st) (defBody st) (defScope st) .none kV doc pm an cdv ct),osl⟩)
  (c:PySem.W.codeIn K cdv qual=true) (k:PySem.W.keepIn K (.ref f)=true):Fun K x qual st f (PySem.W.fnOf x qual (defArgs st) (defBody st) (defScope st) .none kV doc pm an cdv ct):=⟨⟨oc,od,kV,doc,pm,an,cdv,ct,osl,rfl,l,c⟩,k⟩
end
def cP (h:n≤1000):n<sizeLine:=Nat.lt_of_le_of_lt h (by decide)
def jf {A B:Prop}(h:B):if false=true then A else B:=by
 rw[if_neg fx0];exact h
def jg {A B:Prop}(h:A):if true=true then A else B:=by
 rw[if_pos rfl];exact h
def Same (H H':Hp):Prop:=∀b o,H b=some o->H' b=some o
def Same.refl (H:Hp):Same H H:=fun a a h=>h
def Same.trans {H1 H2:Hp}(a:Same H H1)(b:Same H1 H2):Same H H2:=fun c o h=>b c o (a c o h)
def Same.free (e:Same H H'){l:Addr}(h:H' l=Option.none):H l=Option.none:=by
 cases q:H l with
 |none=>rfl
 |some o=>
  rw[e l o q] at h;cases h
def Same.seq {K:fg0}(e:Same H H')(h:SqL K H a xs):SqL K H' a xs:=by
 rcases h with (h|⟨o,h⟩)|h
 ·exact .inl (.inl (e _ _ h))
 ·exact .inl (.inr ⟨o,e _ _ h⟩)
 ·exact .inr h
section
variable {κ:Type}[DecidableEq κ]
noncomputable def dD (kvs:List (κ×V))(k:κ):Option V:=(kvs.find? fun kv=>decide (kv.1=k)).map (·.2)
noncomputable def putK (kvs:List (κ×V))(k:κ)(v:V):List (κ×V):=
 if (kvs.any fun kv=>decide (kv.1=k))=true then kvs.map (fun kv=>if kv.1=k then (kv.1,v) else kv) else kvs++[(k,v)]
def eW {p:κ×V}{r:List (κ×V)}{k:κ}(e:p.1=k):dD (p::r) k=some p.2:=by simp[dD,e]
def eX {p:κ×V}{r:List (κ×V)}{k:κ}(e:¬ p.1=k):dD (p::r) k=dD r k:=by simp[dD,e]
theorem lJ (k:κ):∀kvs:List (κ×V),(kvs.any fun kv=>decide (kv.1=k))=(dD kvs k).isSome
 |[]=>rfl
 |p::r=>by
  rw[List.any_cons]
  by_cases e:p.1=k
  ·simp only[eW e,dt0 e,Bool.true_or,Option.isSome_some]
  ·rw[eX e,df0 e,Bool.false_or];exact lJ k r
def gp (kvs:List (κ×V))(k:κ)(v:V):(putK kvs k v).length≤kvs.length+1:=by
 unfold putK;split
 ·rw[lm0];simp_all
 ·rw[la0,lc0,List.length_nil];simp_all
def RelO.isSome_eq {o:Option V}{u:Option Value}(r:RelO o u):o.isSome=u.isSome:=by
 cases o with
 |none=>cases u with
  |none=>rfl
  |some _=>exact (r).elim
 |some _=>cases u with
  |none=>exact (r).elim
  |some _=>rfl
def KV.val {kvs:List (κ×V)}{vs:List (κ×Value)}(r:KV kvs vs)(k:κ):RelO (dD kvs k) (valueAt vs k):=by
 induction r with
 |nil=>exact True.intro
 |@cons p q ps qs h t ih=>
  obtain⟨h1,h2⟩:=h
  by_cases e:p.1=k
  ·have e':=h1.symm.trans e
   have b:valueAt (q::qs) k=some q.2:=by simp[valueAt,e']
   rwa [eW e,b]
  ·have e':¬ q.1=k:=fun z=>e (h1.trans z)
   have b:valueAt (q::qs) k=valueAt qs k:=by simp[valueAt,e']
   rwa [eX e,b]
theorem KV.any {kvs:List (κ×V)}{vs:List (κ×Value)}(r:KV kvs vs)(k:κ):(kvs.any fun kv=>decide (kv.1=k))=vs.any fun kv=>decide (kv.1=k):=by
 induction r<;>simp_all
def KV.repl {kvs:List (κ×V)}{vs:List (κ×Value)}(r:KV kvs vs)(k:κ){y:V}(ry:RelV y u):
  KV (kvs.map fun kv=>if kv.1=k then (kv.1,y) else kv) (vs.map fun kv=>if kv.1=k then (kv.1,u) else kv):=by
 unfold KV at r ⊢
 induction r with
 |nil=>exact .nil
 |@cons p q ps qs h t ih=>
  rw[mk0,mk0];refine .cons ?_ ih;obtain⟨h1,h2⟩:=h
  by_cases e:p.1=k
  ·rw[if_pos e,if_pos (h1.symm.trans e)];exact⟨h1,ry⟩
  ·rw[if_neg e,if_neg (fun z=>e (h1.trans z))];exact⟨h1,h2⟩
def KV.put {kvs:List (κ×V)}{vs:List (κ×Value)}(r:KV kvs vs)(k:κ){y:V}(ry:RelV y u):KV (putK kvs k y) (stored vs k u):=by
 unfold putK stored;rw[r.any k]
 by_cases e:(vs.any fun kv=>decide (kv.1=k))=true
 ·rw[if_pos e,if_pos e];exact r.repl k ry
 ·rw[if_neg e,if_neg e];exact Paired.snoc r ⟨rfl,ry⟩
def KV.keys {kvs:List (κ×V)}{vs:List (κ×Value)}(r:KV kvs vs):kvs.map (·.1)=vs.map (·.1):=by
 induction r<;>simp_all
theorem KV.length {kvs:List (κ×V)}{vs:List (κ×Value)}(r:KV kvs vs):kvs.length=vs.length:=Paired.length r
end
def pQ {k:Key}(r:RelV (kV k) u):(aD P w).is k u=true:=by
 cases k with
 |inl i=>obtain⟨t,e⟩:=(r);subst e;exact lB P w i t
 |inr x=>obtain⟨t,e⟩:=(r);subst e;exact lC P w x t
theorem jA :∀{ks:List Key} {us:List Value},Vals (ks.map kV) us->ItemsAre (aD P w) ks us
 |[],_,r=>by cases r;exact .nil
 |k::ks,_,r=>by
  cases r with
  |cons h t=>exact .cons (pQ h) (jA t)
noncomputable abbrev KT (H:Hp):List (List Key×V)->List (List Key×Addr×Value)->Prop:=Paired fun p q=>p.1=q.1/\H q.2.1=some (.tup (p.1.map kV))/\RelV p.2 q.2.2
def KT.val {kvs:List (List Key×V)}{xs:List (List Key×Addr×Value)}(r:KT H kvs xs)(k:List Key):RelO (dD kvs k) ((atKey xs k).map (·.2)):=by
 induction r with
 |nil=>exact True.intro
 |@cons p q ps qs h t ih=>
  obtain⟨h1,_,h2⟩:=h
  by_cases e:p.1=k
  ·have e':=h1.symm.trans e
   have b:atKey (q::qs) k=some q.2:=by simp[atKey,e']
   rwa [eW e,b]
  ·have e':¬ q.1=k:=fun z=>e (h1.trans z)
   have b:atKey (q::qs) k=atKey qs k:=by simp[atKey,e']
   rwa [eX e,b]
def KT.repl {kvs:List (List Key×V)}{xs:List (List Key×Addr×Value)}(r:KT H kvs xs)(k:List Key){y:V}(ry:RelV y u):
  KT H (kvs.map fun kv=>if kv.1=k then (kv.1,y) else kv) (xs.map (putAt k u)):=by
 induction r with
 |nil=>exact .nil
 |@cons p q ps qs h t ih=>
  rw[mk0];refine .cons ?_ ih;obtain⟨h1,h2,h3⟩:=h;unfold putAt
  by_cases e:p.1=k
  ·rw[if_pos e,if_pos (h1.symm.trans e)];exact⟨h1,h2,ry⟩
  ·rw[if_neg e,if_neg (fun z=>e (h1.trans z))];exact⟨h1,h2,h3⟩
def KT.put {kvs:List (List Key×V)}{xs:List (List Key×Addr×Value)}(r:KT H kvs xs)(k:List Key){b:Addr}{y:V}(hb:H b=some (.tup (k.map kV)))(ry:RelV y u):
  KT H (putK kvs k y) (storedH xs k b u):=by
 have e:(kvs.any fun kv=>decide (kv.1=k))=(atKey xs k).isSome:=by
  rw[lJ,(r.val k).isSome_eq,Option.isSome_map]
 unfold putK storedH;rw[e]
 by_cases q:(atKey xs k).isSome=true
 ·rw[if_pos q,if_pos q];exact r.repl k ry
 ·rw[if_neg q,if_neg q];exact Paired.snoc r ⟨rfl,hb,ry⟩
def KT.keeps {kvs:List (List Key×V)}{xs:List (List Key×Addr×Value)}(r:KT H kvs xs)(ht:∀b ys,H b=some (.tup ys)->H' b=some (.tup ys)):KT H' kvs xs:=
 Paired.mapP r fun a a z=>⟨z.1,ht _ _ z.2.1,z.2.2⟩
def Bi {u:HO}(ok:HOk P w H h)(e:Rd H a u):ObjOk P w H h a u:=e.ok ok
def uf (ok:HOk P w H h)(e:Rd H a (.dK kvs)):kvs.length≤sizeLine/\(a==sysModules)=false/\∃vs,KV kvs vs/\h.DictOf (aD P w) a vs:=
 Bi ok e
def Bj (ok:HOk P w H h)(e:H a=some (.dK kvs)):kvs.length≤sizeLine/\(a==sysModules)=false/\∃vs,KV kvs vs/\h.DictOf (aD P w) a vs:=uf ok (.inl e)
def dE {ks:List Key}(ok:HOk P w H h)(e:H a=some (.tup (ks.map kV))):(tupleKind (aD P w)).is h ks a:=by
 obtain⟨_,its,r,o,h1,h2,n,h3⟩:=(ok a _ e);exact⟨o,_,n,h1,h2,h3,by simpa using jA r⟩
def ug {kvs:List (List Key×V)}(ok:HOk P w H h)(e:Rd H a (.dT kvs)):kvs.length≤sizeLine/\(a==sysModules)=false/\
  ∃xs,KT H kvs xs/\h.DictOfH (tupleKind (aD P w)) a xs:=by
 obtain⟨z,y,xs,r,o,es,ep,h1,h2,h3,h4,h5⟩:=(Bi ok e);refine⟨z,y,xs,r,o,es,ep,h1,h2,h3,h4,fun x hx=>?_,h5⟩;have all:∀{l:List _} {m:List _},KT H l m->∀x∈m,(tupleKind (aD P w)).is h x.1 x.2.1:=by
  intro l m q
  induction q with
  |nil=>simp
  |@cons p q ps qs hq t ih=>
   intro x hx;rcases mq0 hx with e|hx
   ·exact dE ok (by simp_all)
   ·exact ih x hx
 exact all r x hx
def FM {kvs:List (List Key×V)}(ok:HOk P w H h)(e:H a=some (.dT kvs)):kvs.length≤sizeLine/\(a==sysModules)=false/\
  ∃xs,KT H kvs xs/\h.DictOfH (tupleKind (aD P w)) a xs:=ug ok (.inl e)
def DGet (H:Hp)(a:Addr)(y:V)(r:Option V):Prop:=
 (∃kvs k,Rd H a (.dK kvs)/\y=kV k/\r=dD kvs k)\/∃kvs k b,Rd H a (.dT kvs)/\y=.ref b/\H b=some (.tup (k.map kV))/\r=dD kvs k
def DPut (H:Hp)(a:Addr)(y v:V)(H':Hp):Prop:=
 (∃kvs k,H a=some (.dK kvs)/\y=kV k/\kvs.length<sizeLine/\H'=upd H a (.dK (putK kvs k v)))\/
 ∃kvs k b,H a=some (.dT kvs)/\y=.ref b/\H b=some (.tup (k.map kV))/\kvs.length<sizeLine/\H'=upd H a (.dT (putK kvs k v))
theorem DGet.k {k:Key}(e:H a=some (.dK kvs)):DGet H a (kV k) (dD kvs k):=.inl ⟨_,k,.inl e,rfl,rfl⟩
theorem DPut.k {k:Key}{v:V}(e:H a=some (.dK kvs))(hl:kvs.length<sizeLine):DPut H a (kV k) v (upd H a (.dK (putK kvs k v))):=.inl ⟨_,k,e,rfl,hl,rfl⟩
section
variable {y v:V}{r:Value}{o:Option V}{A:Around}{E:Value->Shared->Prop}
def Inv.big (I:Inv X pins σ H s):sysModules<s.heap.objs.size:=by
 exact Nat.lt_trans (by decide) ((I.mod.glob.keeps I.bk).lt)
def IS (hu:A.units+1<cLine)(I:Inv X pins σ H s)(g:DGet H a y o)(ry:RelV y u)(h:∀s',Inv X pins σ H s'->Q (.bool o.isSome) s'):
  wpAny (model X.prog X.w) A (compareOp .In u (.ref a)) Q E s:=by
 rcases g with⟨kvs,k,e,ey,l⟩|⟨kvs,k,b,e,ey,eb,l⟩
 ·subst ey
  obtain⟨z,hd,vs,rel,dd⟩:=uf I.hok e;refine wpAny_in_of (pQ ry) hd dd.mapOf ?_;rw[←(rel.val k).isSome_eq,←l];exact h _ (I.tok _)
 ·subst ey
  cases (ry);obtain⟨z,hd,xs,rel,dd⟩:=ug I.hok e;refine wpAny_in_heap (tupleKind_room_in1 hu) (dE I.hok eb) hd dd ?_;have q:=(rel.val k).isSome_eq;rw[Option.isSome_map] at q;rw[←q,←l];exact h _ (I.tok _)
def yG (hu:A.units+1<cLine)(I:Inv X pins σ H s)(g:DGet H a y o)(ry:RelV y u)(h:∀s',Inv X pins σ H s'->Q (.bool (!o.isSome)) s'):
  wpAny (model X.prog X.w) A (compareOp .NotIn u (.ref a)) Q E s:=by
 rcases g with⟨kvs,k,e,ey,l⟩|⟨kvs,k,b,e,ey,eb,l⟩
 ·subst ey
  obtain⟨z,hd,vs,rel,dd⟩:=uf I.hok e;refine wpAny_notIn_of (pQ ry) hd dd.mapOf ?_;rw[←(rel.val k).isSome_eq,←l];exact h _ (I.tok _)
 ·subst ey
  cases (ry);obtain⟨z,hd,xs,rel,dd⟩:=ug I.hok e;refine wpAny_notIn_heap (tupleKind_room_in1 hu) (dE I.hok eb) hd dd ?_;have q:=(rel.val k).isSome_eq;rw[Option.isSome_map] at q;rw[←q,←l];exact h _ (I.tok _)
def pR {h':Heap}{ob:HO}(I:Inv X pins σ H s)(mu:Mut (H a))(hs:Heap.SameBut a s.heap h')(he:∃q,h'.get? a=some q)(new:ObjOk X.prog X.w (upd H a ob) h' a ob):
  Inv X pins σ (upd H a ob) {s with heap:=h',toks:=t'}:=
 I.write mu (.inl rfl) (fun b q hb z=>(hs.2 b hb).trans z) he new
def dk_new {h':Heap}{vs:List (Key×Value)}(z:kvs.length≤sizeLine)(hd:(a==sysModules)=false)(rel:KV kvs vs)(dd:h'.DictOf (aD P w) a vs):
  ObjOk P w H' h' a (.dK kvs):=⟨z,hd,vs,rel,dd⟩
def rz {Q:Unit->Shared->Prop}(hu:A.units+1<cLine)(I:Inv X pins σ H s)(g:DPut H a y v H')(ry:RelV y u)(rv:RelV v r)(h:∀s',Inv X pins σ H' s'->Q () s'):
  wpAny (model X.prog X.w) A (setItem (.ref a) u r) Q E s:=by
 rcases g with⟨kvs,k,e,ey,l,eH⟩|⟨kvs,k,b,e,ey,eb,l,eH⟩
 ·subst ey eH
  obtain⟨z,hd,vs,rel,dd⟩:=Bj I.hok e;have hz:vs.length≤sizeLine:=by rw[←rel.length];exact z
  have hl:(putK kvs k v).length≤sizeLine:=by have:=gp kvs k v;exact nt0 ‹_› ‹_›
  refine wpAny_setItem_pairs (hsz:=hz) (pQ ry) dd fun h' dd' hs=>h _ ?_
  have he:∃q,h'.get? a=some q:=let ⟨q,_,_,hq,_⟩:=dd';⟨q,hq⟩
  exact pR I (by rw[e];exact True.intro) hs he (dk_new hl hd (rel.put k rv) dd')
 ·subst ey eH
  cases (show u=Value.ref b from ry);obtain⟨z,hd,xs,rel,dd⟩:=FM I.hok e;have hz:xs.length≤sizeLine:=by rw[←Paired.length rel];exact z
  have hl:(putK kvs k v).length≤sizeLine:=by have:=gp kvs k v;exact nt0 ‹_› ‹_›
  refine wpAny_setItem_heap (hsz:=hz) (tupleKind_room_in1 hu) (dE I.hok eb) dd fun h' dd' hs=>h _ ?_
  obtain⟨q,es,ep,hq,h2,h3,h4,_,h5⟩:=dd';refine pR I (by rw[e];exact True.intro) hs ⟨q,hq⟩ ⟨hl,hd,_,(rel.put k eb rv).keeps fun c ys ec=>?_,q,es,ep,hq,h2,h3,h4,h5⟩;rw[aa (Fo ec e (fun z=>nomatch z))];exact ec
end
section
variable {k:Key}{A:Around}{E:Value->Shared->Prop}
end
section
variable {i value:Expr}{pos' tpos:Pos}{td ty tv:TE}
end
def uh (h:Heap)(hb:sysModules<h.objs.size):ObjOk P w H (h.push {cls:=.type "dict",data:=.dict #[]}) h.objs.size (.dK []):=
 ⟨Nat.zero_le _,bn0 (Ne.symm (nn0 hb)),[],.nil,Heap.DictOf.new h⟩
noncomputable def CJ:TE:=fun a H Q=>∀p,H p=none->Q (.ref p) (upd H p (.dK []))
def lK:PE X (.Dict [] [] pos) CJ:=fun pins s σ H Q I h=>
 wpAny_Dict_empty ⟨.ref _,_,I.laid (fun a a q=>ps0 _ q) (nr0 _) (uh _ I.big),rfl,h _ (I.hok.fresh (nr0 _))⟩
section
variable {y d:V}{r:Value}{o:Option V}{A:Around}{E:Value->Shared->Prop}
end
section
variable {f:Expr}{apos cpos:Pos}{td ty tx:TE}
end
section
variable {A:Around}{E:Value->Shared->Prop}
end
section
variable {y:V}{A:Around}{E:Value->Shared->Prop}
end
section
variable {κ:Type}[DecidableEq κ]
end
end L2
namespace L2.C
open PySem PySem.Spec PyProof.Rows L2
noncomputable def bP (env:Env):List (Str×NameKind)->List (Str×Addr)->List (Str×Addr)
 |[],acc=>acc
 |(n,k)::r,acc=>if k==.free then bP env r ((n,(env.cells.lookup n).getD 0)::acc) else bP env r acc
def cD (h:∀x∈scope.names,x.2=.free->(env.cells.lookup x.1).isSome=true):
  closureFor scope env=pure (bP env scope.names []):=by
 simp only[closureFor];generalize scope.names=l at h ⊢;generalize ([]:List (Str×Addr))=acc
 induction l generalizing acc with
 |nil=>rfl
 |cons x r ih=>
  obtain⟨n,k⟩:=x;rw[List.forIn_cons]
  by_cases hk:k=.free
  ·subst hk
   have hc:=h (n,.free) ms0 rfl;obtain⟨c,hc⟩:=is0 hc;simp only[bP,cellOf,hc];have:=ih (fun y hy=>h y (mc0 _ hy)) ((n,c)::acc);exact this
  ·have hb:(k==NameKind.free)=false:=by simpa using hk
   simp only[bP,hb];exact ih (fun y hy=>h y (mc0 _ hy)) acc
theorem fL :∀(l:List (Str×NameKind)) (acc:List (Str×Addr)),(∀x∈l,x.2=.free->(env.cells.lookup x.1).isSome=true)->(∀x c,acc.lookup x=some c->env.cells.lookup x=some c)->
  ∀x c,(bP env l acc).lookup x=some c->env.cells.lookup x=some c
 |[],acc,_,ha,x,c,e=>ha x c e
 |(n,k)::r,acc,h,ha,x,c,e=>by
  unfold bP at e
  by_cases hk:k=.free
  ·subst hk
   obtain⟨c',hc⟩:=is0 (h _ ms0 rfl);refine fL r _ (fun y hy=>h y (mc0 _ hy)) (fun y d q=>?_) x c e;rw[lk0] at q;cases hy:y==n<;>simp_all
  ·have hb:(k==NameKind.free)=false:=by simpa using hk
   rw[if_neg (by simp_all)] at e;exact fL r acc (fun y hy=>h y (mc0 _ hy)) ha x c e
theorem cQ :∀(l:List (Str×NameKind)) (acc:List (Str×Addr)) (x:Str),((x,NameKind.free)∈l\/∃c,acc.lookup x=some c)->∃c,(bP env l acc).lookup x=some c
 |[],acc,x,h=>by
  rcases h with h|h
  ·cases h
  ·exact h
 |(n,k)::r,acc,x,h=>by
  unfold bP
  by_cases hk:k=.free
  ·subst hk
   refine cQ r _ x ?_;rcases h with h|⟨c,h⟩
   ·rcases mq0 h with h|h<;>simp_all
   ·right
    rw[lk0];cases hy:x==n with
    |true=>exact⟨_,rfl⟩
    |false=>exact⟨c,h⟩
  ·rw[if_neg (by simp_all)]
   refine cQ r _ x ?_
   grind
theorem bh {env:Env}(hk:env.scope.kind=.function):∀{names:List (Str×NameKind)} {x:Str},names.lookup x=some .free->env.kindOf x=some .cell->
  (names.map fun (n,k)=>if (k==NameKind.free&&env.scope.kind==.function&&env.kindOf n==some .cell) then (n,NameKind.cell) else (n,k)).lookup x=some .cell
 |[],_,h,_=>by simp at h
 |(n,k)::r,x,h,hx=>by
  have ih:=@bh _ hk r x;show List.lookup x ((if (k==NameKind.free&&env.scope.kind==.function&&env.kindOf n==some _)=true then (n,NameKind.cell) else (n,k))::_)=_;cases hy:x==n with
  |true=>
   simp_all
  |false=>
   simp only[lk0,hy] at h
   by_cases hc:(k==NameKind.free&&env.scope.kind==.function&&env.kindOf n==some .cell)=true
   ·rw[if_pos hc];simp only[lk0,hy];exact ih h hx
   ·rw[if_neg hc];simp only[lk0,hy];exact ih h hx
section
variable {A:Around}{R:Result->Shared->Prop}
noncomputable abbrev ku (ifs:List Expr)(env:Env):Sem Bool:=
 forIn ifs true fun c r=>if r=true then do let ok ←isTrue c env (eval c env);pure (ForInStep.yield ok) else pure (ForInStep.yield r)
def lL {elt target iter:Expr}{it acc:Value}(I:Nat->Shared->Prop)
  (turn:∀n s,I n s->wpAny (model prog w) A (pyNext it) (fun r s1=>match r with
   |none=>R (.ok .next) s1
   |some v=>wpAny (model prog w) A (letOwnedTupleGo target it v) (fun a s2=>wpAny (model prog w) A (assign target env v) (fun a s3=>wpAny (model prog w) A (ku ifs env) (fun ok s4=>
     if ok=true then wpAny (model prog w) A (eval elt env) (fun x s5=>wpAny (model prog w) A (call (.builtin "list.append") [acc,x]) (fun a s6=>∃m,m<n/\I m s6) (fun a a=>False) s5) (fun a a=>False) s4
     else ∃m,m<n/\I m s4) (fun a a=>False) s3) (fun a a=>False) s2) (fun a a=>False) s1) (fun a a=>False) s)
  (n:Nat) (h:I n s):codeAny (model prog w) A (.compLoop (.ListComp elt [⟨target,iter,ifs,0⟩] scope pos) 0 it acc env) R s:=by
 have no:∀{E:Value->Shared->Prop} (x:Value) (s':Shared),False->E x s':=fun a a z=>z.elim
 refine codeAny_loop rfl I (fun n s hI=>?_) n h;show wpAny _ A _ _ _ s;refine wpAny_noted ?_;rw[compTurn_list];refine wb0 (wpAny_standAt (wb0 (wpAny_mono (turn n s hI) (fun r s1 h1=>?_) no)));cases r with
 |none=>exact wq0 h1
 |some v=>
  refine wb0 (wpAny_mono h1 (fun a s2 h2=>?_) no);refine wb0 (wpAny_mono h2 (fun a s3 h3=>?_) no);refine wb0 (wpAny_mono h3 (fun ok s4 h4=>?_) no);cases ok with
  |false=>exact wq0 ⟨rfl,h4⟩
  |true=>
   refine wb0 (wb0 (wpAny_mono h4 (fun x s5 h5=>?_) no));exact wb0 (wpAny_mono h5 (fun a s6 h6=>wq0 (wq0 ⟨rfl,h6⟩)) no)
end
noncomputable def blk (X:Cx)(scope:Scope)(N:List Str)(C:Addr)(s:Shared)(H:Hp)(fp:List Addr):Cx where
 prog:=X.prog
 w:=X.w
 K:=X.K
 mg:=X.mg
 base:=X.base
 A:=X.A
 N:=N
 s₀:=s
 H₀:=H
 env:=compEnvC scope (bP X.env scope.names []) C X.env
 outer:=X.stack
 stack:=X.stack
 ex:=fp
 fn:=fun a=>false
 calm:=X.calm
 pn:=[]
 xe:=fun a a=>False
noncomputable def aH (X:Cx)(tn:List Str)(js:List Nat):List Str:=tn++js.map fun j=>X.N.getD j Str.empty
noncomputable def df (tn:List Str)(js:List Nat)(σ:St):St:=tn.map (fun a=>Option.none)++js.map fun j=>(σ[j]?).join
structure BlkOk (X:Cx)(scope:Scope)(js:List Nat):Prop where
 kind:scope.kind=.function
 free:∀y∈scope.names,y.2=.free->X.env.kindOf y.1=some .cell
 cell:∀y∈scope.names,y.2≠.cell
 loc:∀y∈scope.names,y.2=.local->scope.names.lookup y.1=some .local
 js:∀j∈js,∃x,X.N[j]?=some x/\scope.names.lookup x=some .free
section
variable {tn:List Str}{js:List Nat}{fp:List Addr}
theorem BlkOk.cells (B:BlkOk X scope js)(I:Inv X pins σ H s):∀x∈scope.names,x.2=.free->(X.env.cells.lookup x.1).isSome=true:=fun x hx hf=>by
 obtain⟨c,e⟩:=I.ok.has _ (.inl (B.free x hx hf));rw[e];rfl
def BlkOk.from (B:BlkOk X scope js)(I:Inv X pins σ H s){c:Addr}(e:(bP X.env scope.names []).lookup x=some c):X.env.cells.lookup x=some c:=
 fL _ [] (B.cells I) (fun a a z=>by cases z) x c e
def ui (B:BlkOk X scope js)(I:Inv X pins σ H s)(hf:∀b∈fp,fH X pins H b)(ho:∀b∈fp,∃o,s.heap.get? b=some o){C:Addr}(hC:s.heap.objs.size≤C):(blk X scope (aH X tn js) C s H fp).Ok where
 mod:=I.ok.mod
 kind:=B.kind
 glob:=I.ok.glob
 blt:=I.ok.blt
 above:=hC
 inj:=fun x y c h1 h2=>I.ok.inj x y c (B.from I h1) (B.from I h2)
 has:=fun x hx=>by
  have hx:(relabel scope X.env).names.lookup x=some .cell\/(relabel scope X.env).names.lookup x=some .free:=hx;refine cQ scope.names [] x (.inl ?_);have hm:(x,NameKind.cell)∈(relabel scope X.env).names\/(x,NameKind.free)∈(relabel scope X.env).names:=hx.imp ml0 ml0;have key:∀k,(x,k)∈(relabel scope X.env).names->k=.cell\/k=.free->(x,NameKind.free)∈scope.names:=fun k hk hkk=>by
   obtain⟨⟨n,k0⟩,hn,e⟩:=mm0 hk
   by_cases hc:(k0==NameKind.free&&X.env.scope.kind==.function&&X.env.kindOf n==some .cell)=true
   ·have e':(n,NameKind.cell)=(x,k):=by rw[←e];exact (if_pos hc).symm
    cases e';have:k0=.free:=by simp at hc;exact hc.1.1
    rw[←this];exact hn
   ·have e':(n,k0)=(x,k):=by rw[←e];exact (if_neg hc).symm
    cases e';rcases hkk with rfl|rfl
    ·exact absurd rfl (B.cell _ hn)
    ·exact hn
  rcases hm with hm|hm
  ·exact key _ hm (.inl rfl)
  ·exact key _ hm (.inr rfl)
 cab:=fun x c h a=>by cases h
 hd:=I.ok.hd
 frames:=I.ok.frames
 stk:=.inl rfl
 exf:=fun b hb=>⟨by
  obtain⟨o,e⟩:=ho b hb;exact nn0 (nl0 (hs0 e) hC),fun x c e=>(hf b hb).2.2.2.2.1 x c (B.from I e)⟩
 bs:=I.bs
 tb:=I.tb
 bsz:=nt0 I.ok.bsz I.sz
 noex:=fun b o e hb=>by
  rcases (hf b hb).2.2.2.1 with z|z
  ·exact I.ok.noex b o e z
  ·exact absurd (nl0 (hs0 e) (nt0 I.ok.bsz z)) (li0 _)
 exfs:=fun b hb z=>by
  obtain⟨_,h1,h2,_⟩:=hf b hb;exact (mq0 (I.stkSub b z)).elim h1 h2
 funs:=I.stack
 frf:=I.stkFree
def CK (B:BlkOk X scope js)(I:Inv X pins σ H s)(hf:∀b∈fp,fH X pins H b)(ho:∀b∈fp,∃o,s.heap.get? b=some o){C:Addr}(hC:s.heap.objs.size≤C)(hn:∀b∈fp,H' b=none):
  ∀b∈fp,fH (blk X scope (aH X tn js) C s H fp) [] H' b:=fun b hb=>by
 have ok:=ui (tn:=tn) B I hf ho hC;exact⟨hn b hb,(ok.exf b hb).1,ok.exfs b hb,.inl hb,(ok.exf b hb).2,fun p hp=>absurd (show p∈[] from hp) (by simp)⟩
def yH (B:BlkOk X scope js)(I:Inv X pins σ H s)(hf:∀b∈fp,fH X pins H b)(ho:∀b∈fp,∃o,s.heap.get? b=some o){C D:Addr}(hD:s.heap.objs.size≤D)(hC:s.heap.objs.size≤C)(hCD:C≠D){h1:Heap}{tk:Nat}
  (k:∀b o,s.heap.get? b=some o->h1.get? b=some o) (hl:h1.get? D=some {cls:=.type "list",data:=.seq (#[]:Array Value) 0}) {m:Str->Option Value} (hns:h1.Ns C m):
  Inv (blk X scope (aH X tn js) C s H fp) [] (df tn js σ) (upd H D (.lst [])) {s with heap:=h1,toks:=tk}:=by
 have hDn:H D=none:=I.hok.fresh hD;refine⟨ui B I hf ho hC,rfl,I.bare,Un.laid k hD hDn,⟨m,hns,fun i x v e1 e2 e3=>?_⟩,fun x c e=>?_,?_,fun x c e=>?_,fun p hp=>absurd (show p∈([]:List (Addr×Obj)) from hp) (by simp),I.hok.laid k hD ⟨by simp,[],0,.nil,by simpa using hl⟩,?_⟩
 ·have e1:(aH X tn js)[i]?=some x:=e1
  by_cases hi:i<tn.length
  ·unfold df at e2
   rw[gl0 (by simpa using hi),gm0] at e2;cases q:tn[i]? with
   |none=>rw[q] at e2;cases e2
   |some y=>rw[q] at e2;cases e2
  ·unfold df at e2
   unfold aH at e1;rw[List.getElem?_append_right (by simp;simp_all),gm0] at e2;rw[List.getElem?_append_right (by simp_all),gm0] at e1;rw[lm0] at e2;cases q:js[i-tn.length]? with
   |none=>rw[q] at e2;cases e2
   |some j=>
    rw[q] at e1 e2;have e2:(σ[j]?).join=some v:=Option.some.inj e2;obtain⟨y,hy,hyf⟩:=B.js j (mg0 q);have e1:X.N.getD j Str.empty=x:=Option.some.inj e1;have ey:y=x:=by rw[←e1,List.getD_eq_getElem?_getD,hy];rfl
    subst ey;have e2':σ[j]?=some (some v):=by
     cases r:σ[j]? with
     |none=>rw[r] at e2;cases e2
     |some o=>rw[r] at e2;cases o with
      |none=>cases e2
      |some v'=>cases e2;rfl
    have hk:=B.free _ (ml0 hyf) rfl;obtain⟨m0,_,hl0⟩:=I.loc;obtain⟨u,r,lk⟩:=hl0 j y v hy e2' (.inr (.inl hk));refine⟨u,r,?_⟩;rcases lk with⟨z,_⟩|⟨_,c,hc,z⟩
    ·rw[hk] at z;cases z
    ·obtain⟨c',hc'⟩:=cQ (env:=X.env) scope.names [] y (.inl (ml0 hyf))
     have:c'=c:=by have:=B.from I hc';rw[hc] at this;exact (Option.some.inj this).symm
     subst this;refine .inr ⟨.inl (bh I.ok.kind hyf hk),c',hc',?_⟩;obtain⟨o,h2,h3⟩:=z;exact⟨o,k _ _ h2,h3⟩
 ·obtain⟨v,o,h2,h3⟩:=I.cell x c (B.from I e)
  exact⟨v,o,k _ _ h2,h3⟩
 ·show upd H D (.lst []) C=none
  rw[aa hCD];exact I.hok.fresh hC
 ·show upd H D (.lst []) c=none
  have e':=B.from I e;obtain⟨v,o,h2,h3⟩:=I.cell x c e';rw[aa (nn0 (nl0 (hs0 h2) hD))];exact I.freeC x c e'
 ·show (df tn js σ).length=(aH X tn js).length
  unfold df aH;simp
def yI {C:Addr}{σ':St}{s':Shared}{N:List Str}{pl:List (Addr×Obj)}(I:Inv X pins σ H s)(hf:∀b∈fp,fH X pins H b)(J:Inv (blk X scope N C s H fp) pl σ' H' s'):Inv X pins σ H' s':=
 I.call' J.os J.base J.hok J.bare fun b hb=>⟨(hf b hb).2.2.2.1,(hf b hb).2.1,(hf b hb).2.2.2.2.1,(hf b hb).2.2.2.2.2⟩
end
def PCs (X:Cx)(ifs:List Expr)(t:TT):Prop:=
 ∀(pins:List (Addr×Obj)) (s:Shared) (σ:St) (H:Hp) (Q:Bool->Hp->Prop),Inv X pins σ H s->t σ H Q->wpAny (model X.prog X.w) X.A (ku ifs X.env) (TP X pins σ Q) X.xe s
def yJ :PCs X [] (fun a H Q=>Q true H):=fun a a a H a I h=>wpAny_tests_nil ⟨H,I,h⟩
def yK {c:Expr}{t:TT}(h:PT X c t):PCs X [c] t:=fun pins s σ H Q I q=>wpAny_tests_one (h _ s σ H Q I q)
noncomputable def Bm (tn:List Str)(js:List Nat)(wi:TI)(g:TG)(tc:TT)(te:TE):TE:=fun σ H Q=>wi σ H fun J H1=>∀p,H1 p=none->∃W:Nat->Nat->St->Hp->Prop,(∃m,W 0 m (df tn js σ) (upd H1 p (.lst [])))/\∀i m σ' H',W i m σ' H'->
 (J.stop i H'/\Q (.ref p) H')\/(J.go i H'/\∀x H2,J.yld i H' x H2->g x σ' H2 fun σ2 H3=>tc σ2 H3 fun b H4=>
  if b=true then te σ2 H4 fun y H5=>∃ys,H5 p=some (.lst ys)/\ys.length<sizeLine/\∃m',m'<m/\W (i+1) m' σ2 (upd H5 p (.lst (ys++[y]))) else ∃m',m'<m/\W (i+1) m' σ2 H4)
section
variable {elt iter tg:Expr}{tn:List Str}{js:List Nat}{wi:TI}{g:TG}{tc:TT}{te:TE}
def jB {s2:Shared}{E:Value->Shared->Prop}{RR:Value->Addr->Result->Shared->Prop}{Q:VK}{itv:Value}(B:BlkOk X scope js)(hcalm:X.calm=true)
  (hg:∀C s H fp,PG (blk X scope (aH X tn js) C s H fp) tg g) (hc:∀C s H fp,PCs (blk X scope (aH X tn js) C s H fp) ifs tc) (he:∀C s H fp,PE (blk X scope (aH X tn js) C s H fp) elt te)
  (h2:PIE X pins σ tg (fun J H1=>∀p,H1 p=none->∃W:Nat->Nat->St->Hp->Prop,(∃m,W 0 m (df tn js σ) (upd H1 p (.lst [])))/\∀i m σ' H',W i m σ' H'->
   (J.stop i H'/\Q (.ref p) H')\/(J.go i H'/\∀x H2,J.yld i H' x H2->g x σ' H2 fun σ2 H3=>tc σ2 H3 fun b H4=>
    if b=true then te σ2 H4 fun y H5=>∃ys,H5 p=some (.lst ys)/\ys.length<sizeLine/\∃m',m'<m/\W (i+1) m' σ2 (upd H5 p (.lst (ys++[y]))) else ∃m',m'<m/\W (i+1) m' σ2 H4)) itv s2)
  (fin:∀(C D:Addr) (s':Shared) (H':Hp) (m:Str->Option Value),Inv X pins σ H' s'->s2.heap.objs.size≤C->C≠X.env.locals->(∀x c,X.env.cells.lookup x=some c->c≠C)->(∀p∈X.pn++pins,p.1≠C)->X.s₀.heap.objs.size≤C->H' C=none->s'.heap.Ns C m->
   Q (.ref D) H'->RR (.ref D) C (.ok .next) s'):
  wpAny (model X.prog X.w) X.A (newList []) (fun acc s3=>wpAny (model X.prog X.w) X.A (newFunctionEnv scope X.env.globals (bP X.env scope.names []) [] X.env.qual none .none (some X.env)) (fun cenv s4=>
   codeAny (model X.prog X.w) X.A (.compStart (.ListComp elt [⟨tg,iter,ifs,0⟩] scope pos) 0 itv acc {cenv with scope:=relabel scope X.env}) (RR acc cenv.locals) s4) E s3) E s2:=by
 obtain⟨it,fp,tnn,J,H2,e,I2,T,st2,f2,R⟩:=h2;subst e;refine wpAny_newObj_type (wpAny_newFunctionEnv B.cell (by intro y hy;simp at hy) (fun h1 hns hsb=>?_) B.kind);dsimp only at hns hsb ⊢;generalize hP:s2.heap.push {cls:=.type "list",dict:=none,data:=.seq ([]:List Value).toArray}=P2 at hns hsb ⊢;have hC:P2.objs.size=s2.heap.objs.size+1:=by rw[←hP,Heap.size_push]
 have hCle:s2.heap.objs.size≤P2.objs.size:=by simp_all
 have hCD:P2.objs.size≠s2.heap.objs.size:=by simp_all
 have old:∀b o,s2.heap.get? b=some o->h1.get? b=some o:=fun b o e=>
  hsb.extBut b o (nn0 (nl0 (hs0 e) hCle)) (ps0 _ (hP▸ps0 _ e))
 have hacc:h1.get? s2.heap.objs.size=some {cls:=.type "list",data:=.seq (#[]:Array Value) 0}:=
  hsb.extBut _ _ (Ne.symm hCD) (ps0 _ (hP▸pz0 _ rfl))
 have ho:∀b∈fp,∃o,s2.heap.get? b=some o:=fun b hb=>let ⟨o,e,_⟩:=T.obj 0 _ st2 b hb;⟨o,e⟩
 have hDn:H2 s2.heap.objs.size=none:=I2.hok.fresh (nr0 _);obtain⟨W,⟨m0,w0⟩,turn⟩:=R _ hDn;have I4:=yH (tn:=tn) (tk:=s2.toks+([]:List (Str×Value)).length) B I2 f2 ho (nr0 _) hCle hCD old hacc hns;have fpo:∀{H':Hp},(∀b∈fp,H' b=none)->∀b∈fp,fH (blk X scope (aH X tn js) P2.objs.size s2 H2 fp) [] H' b:=fun hn=>CK (tn:=tn) B I2 f2 ho hCle hn
 have st4:tnn 0 h1:=T.keep _ _ _ st2 fun b hb o e=>old b o e
 have fr4:∀b∈fp,upd H2 s2.heap.objs.size (.lst []) b=none:=fun b hb=>by
  obtain⟨o,e⟩:=ho b hb;rw[aa (nn0 (hs0 e))];exact (f2 b hb).1
 have loop:∀s3:Shared,s3={s2 with heap:=h1,toks:=s2.toks+([]:List (Str×Value)).length}->
   codeAny (model X.prog X.w) X.A (.compLoop (.ListComp elt [⟨tg,iter,ifs,0⟩] scope pos) 0 (.ref it) (.ref s2.heap.objs.size) (compEnvC scope (bP X.env scope.names []) P2.objs.size X.env)) (RR (.ref s2.heap.objs.size) P2.objs.size) s3:=by
  rintro s3 rfl
  refine lL (fun n s'=>∃i σ' H',Inv (blk X scope (aH X tn js) P2.objs.size s2 H2 fp) [] σ' H' s'/\tnn i s'.heap/\(∀b∈fp,H' b=none)/\W i n σ' H') ?_ m0 ⟨0,_,_,I4,st4,fr4,w0⟩
  rintro n s3 ⟨i,σ3,H3,I3,st3,fr3,w3⟩
  rcases turn i n σ3 H3 w3 with⟨stop,qn⟩|⟨go,step⟩
  ·refine thn (T.done (blk X scope (aH X tn js) P2.objs.size s2 H2 fp) rfl rfl rfl hcalm i [] s3 σ3 H3 _ I3 (fpo fr3) st3 stop) ?_;rintro r s4 ⟨hr,I4'⟩
   subst hr;obtain⟨m,hm,_⟩:=I4'.loc;refine fin _ _ s4 H3 m (yI I2 f2 I4') hCle (Nat.ne_of_gt (nl0 I2.lt hCle)) (fun x c e=>?_) (fun p hp z=>?_) (nt0 I2.sz hCle) I4'.free hm qn
   ·obtain⟨v,q⟩:=I2.cell x c e
    exact nn0 (nl0 q.lt hCle)
   ·exact absurd (nl0 (hs0 (I2.pin p hp).1) (by rw[z];exact hCle)) (li0 _)
  ·refine thn (T.item (blk X scope (aH X tn js) P2.objs.size s2 H2 fp) rfl rfl rfl hcalm i [] s3 σ3 H3 _ I3 (fpo fr3) st3 go) ?_;rintro r s4 ⟨u,hr,h4⟩
   subst hr;refine thn h4 ?_;rintro _ s5 ⟨x,H5,I5,r5,y5,st5,fr5⟩;have I5':=I5.pinned (fpo fr5) (T.obj _ _ st5);refine thn (hg _ _ _ _ _ s5 σ3 H5 x u _ I5' r5 (step x H5 y5)) ?_;rintro _ s6 ⟨σ6,H6,I6,q6⟩;have again:∀{s7:Shared} {σ7:St} {H7:Hp},Inv (blk X scope (aH X tn js) P2.objs.size s2 H2 fp) ([]++ik fp s5.heap) σ7 H7 s7->(∃m',m'<n/\W (i+1) m' σ7 H7)->
     ∃m,m<n/\∃i σ' H',Inv (blk X scope (aH X tn js) P2.objs.size s2 H2 fp) [] σ' H' s7/\tnn i s7.heap/\(∀b∈fp,H' b=none)/\W i m σ' H':=fun {s7 σ7 H7} I7 ⟨m',hm,w7⟩=>by
    refine⟨m',hm,i+1,σ7,H7,I7.unpinned,T.keep _ _ _ st5 fun b hb o e=>(I7.pin (b,o) (mr0 _ (mr0 _ (cZ hb e)))).1,fun b hb=>?_,w7⟩;obtain⟨o,e,d⟩:=T.obj _ _ st5 b hb;exact (I7.pin (b,o) (mr0 _ (mr0 _ (cZ hb e)))).2.1
   refine thn (hc _ _ _ _ _ s6 σ6 H6 _ I6 q6) ?_;rintro ok s7 ⟨H7,I7,q7⟩;cases ok with
   |false=>
    rw[if_neg fx0] at q7 ⊢;exact again I7 q7
   |true=>
    rw[if_pos rfl] at q7 ⊢;refine thn (he _ _ _ _ _ s7 σ6 H7 _ I7 q7) ?_;rintro xv s8 ⟨y,H8,I8,r8,ys,hp,hz,q8⟩;refine thn (fK _ s8 σ6 H8 (.ref s2.heap.objs.size) [y] _ [xv] (fun a H'=>∃m',m'<n/\W (i+1) m' σ6 H') I8 rfl (.cons r8 .nil) ⟨_,ys,y,rfl,rfl,hp,hz,q8⟩) ?_;rintro _ s9 ⟨_,H9,I9,_,q9⟩;exact again I9 q9
 exact codeAny_compStart_list (loop _ rfl) (T.self _ 0 _ _ _ st4 (loop _ rfl))
def yL (B:BlkOk X scope js)(hcalm:X.calm=true)(hi:PI X tg iter wi)(hg:∀C s H fp,PG (blk X scope (aH X tn js) C s H fp) tg g)(hc:∀C s H fp,PCs (blk X scope (aH X tn js) C s H fp) ifs tc)
  (he:∀C s H fp,PE (blk X scope (aH X tn js) C s H fp) elt te) (hs:∀x,foldedSetIterable iter X.env x=pure x:=by intro _;rfl):PE X (.ListComp elt [⟨tg,iter,ifs,0⟩] scope pos) (Bm tn js wi g tc te):=by
 exact fun pins s σ H Q I h=>wpAny_comprehension_free rfl hs (cD (B.cells I)) B.kind B.loc (thn (hi _ s σ H _ I h) fun v s1 h1=>thn h1 fun itv s2 h2=>jB B hcalm hg hc he h2 fun C D s' H' m I' h1 h2 h3 h4 h5 h6 hm q=>⟨m,hm,fun h'' sb=>⟨.ref D,H',I'.turned (fun b o hb e=>(sb.2 b hb).trans e) h6 h2 (.inr h5) h3 h4,rfl,q⟩⟩)
def pS {i:Nat}{y:Str}{py spos:Pos}(B:BlkOk X scope js)(hcalm:X.calm=true)(hi:PI X tg iter wi)(hg:∀C s H fp,PG (blk X scope (aH X tn js) C s H fp) tg g)(hc:∀C s H fp,PCs (blk X scope (aH X tn js) C s H fp) ifs tc)
  (he:∀C s H fp,PE (blk X scope (aH X tn js) C s H fp) elt te) (hN:X.N.Nodup) (hix:X.N[i]?=some y) (hy:X.env.scope.names.lookup y=some .local)
  (hsw:swapsWith (.ListComp elt [⟨tg,iter,ifs,0⟩] scope pos) (some (.Name y py)) spos.line X.env=pure true:=by rfl) (hs:∀x,foldedSetIterable iter X.env x=pure x:=by intro _;rfl):
  PS X (.Assign [.Name y py] (.ListComp elt [⟨tg,iter,ifs,0⟩] scope pos) spos) (fun F σ H=>Bm tn js wi g tc te σ H fun v H'=>F.nx (σ.set i (some v)) H'):=by
 intro pins s σ H F I h;rw[exec_Assign_Name_used _ _ _ _ hsw];refine wb0 (wpAny_standAt (wb0 ?_));refine wb0 (wpAny_mono (wpAny_comprehension_free (use:=some (assign (.Name y py) X.env)) (Q:=fun c s'=>SP X pins F .next s') rfl hs (cD (B.cells I)) B.kind B.loc
  (thn (hi pins s σ H _ I h) fun v s1 h1=>thn h1 fun itv s2 h2=>?_)) (fun c s' hq=>wq0 (wq0 hq)) fun c c e=>e)
 refine jB (Q:=fun v H'=>F.nx (σ.set i (some v)) H') B hcalm hg hc he h2 ?_;intro C D s' H' m I' h1 h2 h3 h4 h5 h6 hm q;refine wpAny_assign_Name (store_ok2 (v:=.ref D) I' hN hix (.inl hy) rfl (fun s'' I'' hb=>?_) (.inr hy));obtain⟨a,sb,ha⟩:=hb;have haC:C≠a:=by
  rcases ha with z|z
  ·rw[z];exact h2
  ·exact (h3 _ _ z).symm
 refine⟨m,hm.sameBut sb haC,fun h'' sb''=>?_⟩;exact⟨_,H',I''.turned (t':=s''.toks) (fun b o hb e=>(sb''.2 b hb).trans e) h6 h2 (.inr h5) h3 h4,q⟩
end
end L2.C
namespace K21
open PySem L2
noncomputable abbrev cV:Nat:=146
noncomputable abbrev cSE:Nat:=31
noncomputable abbrev cNO:Nat:=44
noncomputable abbrev cBT:Nat:=56
noncomputable abbrev cBC:Nat:=68
noncomputable abbrev aP:Nat:=230
noncomputable def top (i:Nat):Stmt:=PySem.Challenge.pw_strata_k21_whole_best_common.main.body.getD i (.Pass ⟨0,0,0,0⟩)
noncomputable def met (j:Nat):Stmt:=match top 13 with|.ClassDef _ _ _ b ..=>b.getD j (.Pass ⟨0,0,0,0⟩)|_=>.Pass ⟨0,0,0,0⟩
noncomputable abbrev m0:Value:=.str "strata.names" 262
noncomputable abbrev m1:Value:=.str "law_strata_k21_whole_best_common" 483
noncomputable abbrev m2:Value:=.str "strata.vaults" 285
noncomputable abbrev m3:Value:=.str "strata.reaching" 428
noncomputable abbrev fo (n q:Str)(st:Stmt)(pm:Value)(cd:Addr):Obj:=⟨.type "function",none,.func (PySem.W.fnOf n q (defArgs st) (defBody st) (defScope st) .none .none .none pm none (.ref cd) .none),#[]⟩
noncomputable def kE (P:Params)(k:Str)(t:Nat)(v:Value):DictEntry:=⟨PyData.keyHash P k,.str k t,v⟩
noncomputable def dO (n:Nat)(es:List DictEntry):Obj:=⟨.type "dict",none,.dict es.toArray n,#[]⟩
noncomputable def cO (n:Str)(bs mro:List Value)(ns:Addr)(subs:List Value)(sl:List (Option Value)):Obj:=⟨.type "type",none,.cls {name:=n,bases:=bs,mro:=mro,ns:=ns,qualname:=n,subclasses:=subs},sl.toArray⟩
noncomputable def kO (n q:Str)(t l p e cd:Nat)(w:Bool):Obj:=⟨.type "code",none,.fields #[.str n t,.str q (t+1),.str "/claim/cut.py" (t+2),.int l 0,.int p 0,.int 0 0,.int 0 0,.int 3 0,.ref (cd-(if w then 5 else 3)),.bool true,.int 181 0,.ref (cd-(if w then 4 else 2)),.none,if w then .ref (cd-3) else .none,if w then .ref (cd-2) else .none,.ref (cd-1),.int (t+e-1:Nat) 0,.int l 0,.str "/claim/cut.py" (t+e)],#[]⟩
noncomputable def kf (x:Str)(i:Nat)(pm:Value)(cd t l p e:Nat)(w:Bool)(r:fg0):fg0:=(cd,kO x x t l p e cd w)::(cd+1,fo x x (top i) pm cd)::r
noncomputable def xD (P:Params)(t l s:Nat):Obj:=dO 2 [kE P "__module__" t (.str "strata.errors" 194),kE P "__firstlineno__" (t+4) (.int l (t+3)),kE P "__static_attributes__" (t+5) (.ref s),kE P "__doc__" (t+6) (.none)]
noncomputable def xC (n:Str)(a b t r:Nat):Obj:=cO n [.ref 31] [.ref a,.ref 31,.type "ValueError",.type "Exception",.type "BaseException",.type "object"] b [] [some (.ref r),none,some (.str n t),some (.str n (t+8)),some (.builtin "ValueError.__new__"),some (.bool true)]
noncomputable def kk (P:Params):fg0:=(3,dO 46 [kE P "__name__" 165 (.str "law_strata_k21_whole_best_common" 483),kE P "__doc__" 166 (.none),kE P "__package__" 167 (.none),kE P "__loader__" 168 (.builtin "__main__.__loader__#opaque"),kE P "__spec__" 169 (.none),kE P "__annotations__" 170 (.ref 6),kE P "__builtins__" 171 (.ref 4),kE P "__file__" 173 (.str "/claim/cut.py" 172),kE P "__cached__" 174 (.none),kE P "_wall" 193 (.ref 21),kE P "StrataError" 213 (.ref 31),kE P "NoObject" 229 (.ref 44),kE P "BadTree" 245 (.ref 56),kE P "BadCommit" 261 (.ref 68),kE P "LONGEST_NAME" 265 (.int 12 264),kE P "is_name_sign" 272 (.ref 77),kE P "is_name" 278 (.ref 82),kE P "names_rise" 284 (.ref 87),kE P "MOST_PARENTS" 288 (.int 2 287),kE P "Vault" 365 (.ref 146),kE P "blob" 373 (.ref 157),kE P "tree" 379 (.ref 162),kE P "commit" 390 (.ref 169),kE P "commit_of" 399 (.ref 176),kE P "refuse_wrong_names" 407 (.ref 183),kE P "refuse_what_is_no_tree" 415 (.ref 190),kE P "refuse_wrong_commit" 427 (.ref 197),kE P "ancestors" 437 (.ref 204),kE P "best_common" 448 (.ref 211),kE P "all_below" 460 (.ref 218),kE P "without_child" 466 (.ref 223),kE P "parents_of" 474 (.ref 230),kE P "time_of" 482 (.ref 237),kE P "_law_cell" 492 (.ref 244),kE P "_law_mix" 501 (.ref 251),kE P "_law_whole" 508 (.ref 258),kE P "_law_put" 516 (.ref 265),kE P "_law_filled" 525 (.ref 272),kE P "_law_wild" 535 (.ref 279),kE P "_law_below" 541 (.ref 284),kE P "_law_reached" 547 (.ref 289),kE P "_law_older" 553 (.ref 294),kE P "_law_grown" 559 (.ref 299),kE P "_law_told" 571 (.ref 306),kE P "_law_good" 577 (.ref 311),kE P "law" 583 (.ref 316)])::
 ((4,⟨.type "module",some 0,.plain,#[]⟩)::
 ((30,dO 3 [kE P "__module__" 203 (.str "strata.errors" 194),kE P "__firstlineno__" 207 (.int 5 206),kE P "__static_attributes__" 208 (.ref 29),kE P "__weakref__" 210 (.ref 32),kE P "__doc__" 211 (.none)])::
 ((31,cO "StrataError" [.type "ValueError"] [.ref 31,.type "ValueError",.type "Exception",.type "BaseException",.type "object"] 30 [.ref 44,.ref 56,.ref 68] [some (.ref 22),none,some (.str "StrataError" 196),some (.str "StrataError" 204),some (.builtin "ValueError.__new__"),some (.bool true)])::
 ((43,xD P 221 7 42)::
 ((44,xC "NoObject" 44 43 214 35)::
 ((55,xD P 237 9 54)::
 ((56,xC "BadTree" 56 55 230 47)::
 ((67,xD P 253 11 66)::
 ((68,xC "BadCommit" 68 67 246 59)::
 (kf "names_rise" 10 m0 86 279 25 1 4 false<|
 (100,kO "__init__" "Vault.__init__" 301 31 1 5 100 true)::
 ((101,fo "__init__" "Vault.__init__" (met 0) m2 100)::
 ((114,kO "kind" "Vault.kind" 315 38 2 6 114 true)::
 ((115,fo "kind" "Vault.kind" (met 2) m2 114)::
 ((121,kO "held" "Vault.held" 323 41 2 6 121 true)::
 ((122,fo "held" "Vault.held" (met 3) m2 121)::
 ((128,kO "content" "Vault.content" 331 46 3 8 128 true)::
 ((129,fo "content" "Vault.content" (met 4) m2 128)::
 ((135,kO "put" "Vault.put" 341 52 2 6 135 true)::
 ((136,fo "put" "Vault.put" (met 5) m2 135)::
 ((145,dO 4 [kE P "__module__" 296 (.str "strata.vaults" 285),kE P "__firstlineno__" 300 (.int 29 299),kE P "__init__" 307 (.ref 101),kE P "size" 314 (.ref 108),kE P "kind" 322 (.ref 115),kE P "held" 330 (.ref 122),kE P "content" 340 (.ref 129),kE P "put" 348 (.ref 136),kE P "copied" 355 (.ref 143),kE P "__static_attributes__" 358 (.ref 144),kE P "__dict__" 360 (.ref 147),kE P "__weakref__" 362 (.ref 148),kE P "__doc__" 363 (.none)])::
 ((146,cO "Vault" [.type "object"] [.ref 146,.type "object"] 145 [] [none,none,some (.str "Vault" 289),some (.str "Vault" 297),some (.builtin "object.__new__"),some (.bool true)])::
 (kf "tree" 15 m2 161 374 62 2 4 false<|
 kf "commit" 16 m2 168 380 68 5 9 true<|
 kf "commit_of" 17 m2 175 391 71 2 7 true<|
 kf "refuse_wrong_names" 18 m2 182 400 74 1 6 true<|
 kf "refuse_what_is_no_tree" 19 m2 189 408 80 2 6 true<|
 kf "refuse_wrong_commit" 20 m2 196 416 82 5 10 true<|
 kf "ancestors" 22 m3 203 430 95 2 6 true<|
 kf "best_common" 23 m3 210 438 97 3 9 true<|
 kf "all_below" 24 m3 217 449 100 3 10 true<|
 kf "without_child" 25 m3 222 461 109 2 4 false<|
 kf "parents_of" 26 m3 229 467 115 2 6 true<|
 kf "time_of" 27 m3 236 475 117 2 6 true<|
 kf "_law_cell" 29 m1 243 485 120 2 6 true<|
 kf "_law_mix" 30 m1 250 493 124 2 7 true<|
 kf "_law_whole" 31 m1 257 502 128 1 5 true<|
 kf "_law_put" 32 m1 264 509 130 2 6 true<|
 kf "_law_filled" 33 m1 271 517 136 1 7 true<|
 kf "_law_wild" 34 m1 278 526 141 3 8 true<|
 kf "_law_below" 35 m1 283 536 146 1 4 false<|
 kf "_law_reached" 36 m1 288 542 152 2 4 false<|
 kf "_law_older" 37 m1 293 548 158 2 4 false<|
 kf "_law_grown" 38 m1 298 554 160 3 4 false<|
 kf "_law_told" 39 m1 305 560 174 3 10 true<|
 kf "_law_good" 40 m1 310 572 184 3 4 false<|
 kf "law" 41 m1 315 578 195 1 4 false<|
 []))))))))))))))))))))))
noncomputable def kT (P:Params):fg0:=kk P++[(206,PySem.W.tabObj #[])]
noncomputable def ads:List Addr:=[3,4,30,31,43,44,55,56,67,68,86,87,100,101,114,115,121,122,128,129,135,136,145,146,161,162,168,169,175,176,182,183,189,190,196,197,203,204,210,211,217,218,222,223,229,230,236,237,243,244,250,251,257,258,264,265,271,272,278,279,283,284,288,289,293,294,298,299,305,306,310,311,315,316,206]
noncomputable def lo:List Str:=(["_wall","StrataError","NoObject","BadTree","BadCommit","LONGEST_NAME","is_name_sign","is_name","names_rise","MOST_PARENTS","Vault","blob","tree","commit","commit_of","refuse_wrong_names","refuse_what_is_no_tree","refuse_wrong_commit","ancestors","best_common"]:List Str)++(["all_below","without_child","parents_of","time_of","_law_cell","_law_mix","_law_whole","_law_put","_law_filled","_law_wild","_law_below","_law_reached","_law_older","_law_grown","_law_told","_law_good"]:List Str)
noncomputable def posOf:Stmt->Pos
 |.FunctionDef _ _ _ _ _ _ _ _ _ p=>p
 |_=>⟨0,0,0,0⟩
noncomputable def CL:DefRec:=⟨"law",defArgs (top 41),defBody (top 41),defScope (top 41),posOf (top 41)⟩
noncomputable def vw:Program:={PySem.Challenge.pw_strata_k21_whole_best_common with main:={PySem.Challenge.pw_strata_k21_whole_best_common.main with body:=[top 41]}}
open PySem.W PySem.W.X in
theorem hl:LeftO PySem.Challenge.pw_strata_k21_whole_best_common vw lo (fun s=>xlAt vw [] s&&recOk (RowW.records (OpenRow.toRowW PySem.Challenge.rw_strata_k21_whole_best_common.row)) s) (obsZ ads) (valZ kT 317 584) 4490:=by intro w;kernel_rfl
end K21
namespace SI
open PySem
inductive D where
 |none
 |bool (b:Bool)
 |int (i:Int)
 |str (x:Str)
 |tuple (ds:List D)
 |list (ds:List D)
 |dict (kvs:List (Sum Int Str×D))
 |scr (ns:List Int)
 |vlt (C h:Nat) (objs:List D)
 |hdl (h:Nat)
 |exc (C:Nat)
 |fn (a:Nat)
noncomputable instance:DecidableEq D:=fun a a=>Classical.propDecidable _
inductive Sl where
 |no
 |dat (d:D)
 |lent (d:D)
 |own (d:D)
 |deep (rows:List (List D))
inductive Op2 where|add|sub|mul|mod|fdiv
inductive Cop where|lt|le|gt|eq|ne|isin|notin|isN|notN
inductive Bf where|len|max|min|list|tuple|dict|str|all|any|fst|nset|srtd
inductive Tg where
 |one (i:Nat)
 |tup (is:List Nat)
inductive Md where|val|read|test|walk
set_option genInjectivity false
set_option genCtorIdx false
mutual
inductive E where
 |k (d:D)
 |v (i:Nat)
 |g (x:Str)
 |op (o:Op2) (a b:E)
 |neg (a:E)
 |cmp (o:Cop) (a b:E)
 |chain (o o':Cop) (a b c:E)
 |and (a b:E)
 |or (a b:E)
 |not (a:E)
 |ite (c a b:E)
 |call (f:Str) (as:Es)
 |idx (a i:E)
 |sl (a:E) (lo hi:Es)
 |lst (as:Es)
 |tup (as:Es)
 |comp (nt:Nat) (js:List Nat) (tg:Tg) (src:I) (ifs:Es) (elt:E)
 |bi (f:Bf) (as:Es)
 |isi (a:E) (T:String)
 |isx (a:E) (c:Nat) (tab:List (Nat×Bool))
 |vob (c:Nat) (a:E)
inductive Es where
 |nil
 |cons (a:E) (as:Es)
inductive I where
 |seq (a:E)
 |rng (a:E)
 |revr (a:E)
 |zip (as:Es)
end
abbrev Es.A (x:E):Es:=.cons x .nil
abbrev Es.B (x y:E):Es:=.cons x (.A y)
mutual
inductive S where
 |set (i:Nat) (e:E)
 |new (i:Nat) (e:E)
 |app (i:Nat) (e:E)
 |frz (j:Nat) (s:S)
 |pop (i j:Nat)
 |seti (i:Nat) (k e:E)
 |ifs (c:E) (a b:Ss)
 |fors (tg:Tg) (src:I) (body:Ss)
 |ret (e:E)
 |stuck
inductive Ss where
 |nil
 |cons (s:S) (r:Ss)
end
set_option genCtorIdx true
abbrev Ss.A (x:S):Ss:=.cons x .nil
abbrev Ss.B (x y:S):Ss:=.cons x (.A y)
noncomputable def big:Nat:=16777216
noncomputable def ixN (n:Nat)(i:Int):Option Nat:=if 0≤i then (if i<n then some i.toNat else none) else if -(n:Int)≤i then some (i+n).toNat else none
noncomputable def atI {α:Type}(xs:List α)(i:Int):Option α:=(ixN xs.length i).bind fun j=>xs[j]?
noncomputable def sIx (n d:Nat):Option Int->Nat
 |none=>d
 |some v=>if v<0 then (v+(n:Int)).toNat else min v.toNat n
noncomputable def cut {α:Type}(xs:List α)(lo hi:Option Int):List α:=(xs.drop (sIx xs.length 0 lo)).take (sIx xs.length xs.length hi-sIx xs.length 0 lo)
noncomputable def okS:Nat->D->Bool
 |_,.none=>true
 |_,.int _=>true
 |_,.str _=>true
 |n+1,.tuple ds=>ds.all (okS n)
 |n+1,.list ds=>ds.all (okS n)
 |_,_=>false
noncomputable def eY:D->Option Bool
 |.none=>some false
 |.bool b=>some b
 |.int i=>some (i != 0)
 |.str x=>if x.length≤big then some ((x.length:Int) != 0) else none
 |.tuple ds=>some (!ds.isEmpty)
 |.list ds=>some (!ds.isEmpty)
 |.dict kvs=>some (!kvs.isEmpty)
 |.scr ns=>some (!ns.isEmpty)
 |_=>none
noncomputable def asB:D->Option Bool
 |.bool b=>some b
 |_=>none
noncomputable def asI:D->Option Int
 |.int i=>some i
 |_=>none
noncomputable def fin:Md->Option D->Option D
 |.test,d=>d.bind fun d=>(eY d).map .bool
 |_,d=>d
noncomputable def bm:Md->Md
 |.test=>.test
 |_=>.val
noncomputable def noT:Md->Option D->Option D
 |.test,_=>none
 |_,d=>d
noncomputable def rOk (n:Int):Bool:=decide (-(2 ^ 62)≤n)&&decide (n<2 ^ 62)
noncomputable def lM (i j:Int):Bool:=(decide (-(2 ^ 64)<i)&&decide (i<2 ^ 64))||(decide (-(2 ^ 64)<j)&&decide (j<2 ^ 64))
def uj {n:Int}(h1:-1000000≤n)(h2:n≤1000000):rOk n=true:=by
 unfold rOk;rw[dt0 (by grind),dt0 (by omega)];rfl
noncomputable def opD:Op2->D->D->Option D
 |.add,.int i,.int j=>some (.int (i+j))
 |.add,.str x,.str y=>if x.length+y.length≤big then some (.str (x++y)) else none
 |.add,.list a,.list b=>if a.length+b.length≤big then some (.list (a++b)) else none
 |.sub,.int i,.int j=>some (.int (i-j))
 |.mul,.int i,.int j=>if lM i j then some (.int (i*j)) else none
 |.mod,.int i,.int j=>if 0<j then some (.int (i % j)) else none
 |.fdiv,.int i,.int j=>if 0<j/\j<1073741824 then some (.int (i / j)) else none
 |_,_,_=>none
noncomputable def lN:D->Option (Sum Int Str)
 |.int i=>some (.inl i)
 |.str x=>some (.inr x)
 |_=>none
noncomputable def look {α:Type}:List (Sum Int Str×α)->Sum Int Str->Option α
 |[],_=>none
 |(l,d)::r,k=>if l=k then some d else look r k
noncomputable def put {α:Type}:List (Sum Int Str×α)->Sum Int Str->α->List (Sum Int Str×α)
 |[],k,v=>[(k,v)]
 |(l,d)::r,k,v=>if l=k then (l,v)::r else (l,d)::put r k v
noncomputable def eqD (a b:D):Option Bool:=
 if okS 8 a&&okS 8 b then some (decide (a=b)) else none
noncomputable def hasSub (x y:Str):Bool:=!(Builtin.Str.occurrences y x 0 y.length 1).isEmpty
noncomputable def inD (a b:D):Option Bool:=
 match b with
 |.str y=>match a with
  |.str x=>some (hasSub x y)
  |_=>none
 |.list ds=>if okS 8 a&&ds.all (okS 7) then some (ds.any fun d=>decide (d=a)) else none
 |.dict kvs=>(lN a).map fun k=>(look kvs k).isSome
 |_=>none
noncomputable def JK:List D->Option (Int×Int)
 |[.int a,.int b]=>some (a,b)
 |_=>none
noncomputable def bM:Cop->D->D->Option Bool
 |.lt,.int i,.int j=>some (decide (i<j))
 |.le,.int i,.int j=>some (decide (i≤j))
 |.gt,.int i,.int j=>some (decide (j<i))
 |.eq,a,b=>eqD a b
 |.ne,a,b=>(eqD a b).map (!·)
 |.isin,a,b=>inD a b
 |.notin,a,b=>(inD a b).map (!·)
 |.isN,a,b=>if b=.none then some (decide (a=.none)) else none
 |.notN,a,b=>if b=.none then some (!decide (a=.none)) else none
 |_,_,_=>none
noncomputable def kx:D->D->Option D
 |.list ds,.int i=>atI ds i
 |.tuple ds,.int i=>atI ds i
 |.scr ns,.int i=>(atI ns i).map .int
 |.str x,.int i=>if x.length≤big then (atI x.cps.toList i).map fun c=>.str ⟨#[c]⟩ else none
 |_,_=>none
noncomputable def slD (d:D)(lo hi:Option Int):Option D:=
 match d with
 |.list ds=>some (.list (cut ds lo hi))
 |_=>none
noncomputable def jh (T:String):D->Option Bool
 |.none=>some false
 |.bool _=>some (T=="bool"||T=="int")
 |.int _=>some (T=="int")
 |.str _=>some (T=="str")
 |.tuple _=>some (T=="tuple")
 |.list _=>some (T=="list")
 |.dict _=>some (T=="dict")
 |_=>none
noncomputable def boolsOf:List D->Option (List Bool)
 |[]=>some []
 |.bool b::r=>(boolsOf r).map (b::·)
 |_::_=>none
noncomputable def intsOf:List D->Option (List Int)
 |[]=>some []
 |.int i::r=>(intsOf r).map (i::·)
 |_=>none
noncomputable def ky (l:List Int)(k:Int):List Int:=if l.any (·==k) then l else l++[k]
noncomputable def dA (ns:List Int):List Int:=ns.foldl ky []
noncomputable def iw:List (Sum Int Str×D)->Option (List Int)
 |[]=>some []
 |(.inl i,_)::r=>(iw r).map (i::·)
 |_=>none
noncomputable def insI (ns:List Int):List Int:=ns.mergeSort (fun a b=>decide (a≤b))
noncomputable def eZ:List D->Option (List Int)
 |[]=>some []
 |.int i::r=>(eZ r).map (i::·)
 |_=>none
noncomputable def biD:Bf->List D->Option D
 |.len,[.list ds]=>some (.int ds.length)
 |.len,[.tuple ds]=>some (.int ds.length)
 |.len,[.scr ns]=>some (.int ns.length)
 |.len,[.str x]=>if x.length≤big then some (.int x.length) else none
 |.max,[.int i,.int j]=>some (.int (if j>i then j else i))
 |.min,[.int i,.int j]=>some (.int (if j<i then j else i))
 |.list,[.list ds]=>some (.list ds)
 |.list,[.tuple ds]=>some (.list ds)
 |.dict,[.list []]=>some (.dict [])
 |.str,[.int i]=>if 0≤i/\i<1000000 then some (.str (toString i)) else none
 |.tuple,[.list ds]=>if ds.length≤big then some (.tuple ds) else none
 |.all,[.list ds]=>(boolsOf ds).map fun bs=>.bool (bs.all id)
 |.any,[.list ds]=>(boolsOf ds).map fun bs=>.bool (bs.any id)
 |.nset,[.list ds]=>(intsOf ds).bind fun ns=>if ns.length<64 then some (.int (dA ns).length) else none
 |.srtd,[.list ds]=>(eZ ds).bind fun ns=>if ns.length<64 then some (.list ((insI ns).map .int)) else none
 |.srtd,[.dict kvs]=>(iw kvs).bind fun ns=>if ns.length<64 then some (.list ((insI ns).map .int)) else none
 |.fst,[.str x,.str y]=>if x.length+y.length≤big then some (.str (x++y)) else none
 |_,_=>none
noncomputable def cF:D->Option (List D)
 |.list ds=>some ds
 |.tuple ds=>some ds
 |.scr ns=>some (ns.map .int)
 |_=>none
@[simp] noncomputable def zip2:List D->List D->List D
 |a::r,b::q=>.tuple [a,b]::zip2 r q
 |_,_=>[]
@[simp] noncomputable def IT:List D->List D->List D->List D
 |a::r,b::q,c::p=>.tuple [a,b,c]::IT r q p
 |_,_,_=>[]
noncomputable def uk:List D->Option (List D)
 |[.list [],.list []]=>some []
 |_=>none
noncomputable def dZ:List D->Option (List (List D))
 |[]=>some []
 |d::r=>(cF d).bind fun a=>(dZ r).map (a::·)
noncomputable def bo:D->Bool
 |.list _=>true
 |.dict _=>true
 |.vlt ..=>true
 |_=>false
noncomputable def az (m:Md):Sl->Option D
 |.dat d=>some d
 |.lent d=>match m with|.val=>if bo d then none else some d|_=>some d
 |.own d=>match m with|.val=>none|.walk=>none|_=>some d
 |_=>none
noncomputable def aw:Tg->D->List Sl->Option (List Sl)
 |.one i,d,ρ=>some (ρ.set i (.dat d))
 |_,_,_=>none
noncomputable def lend:Sl->Sl
 |.own d=>.lent d
 |.deep _=>.no
 |s=>s
@[simp] noncomputable def blk (nt:Nat)(js:List Nat)(ρ:List Sl):List Sl:=List.replicate nt .no++js.map fun j=>lend (ρ[j]?.getD .no)
noncomputable def aO (f:D->Option (Option D)):List D->Option (List D)
 |[]=>some []
 |d::r=>(f d).bind fun o=>(aO f r).map fun q=>match o with
  |none=>q
  |some x=>x::q
structure Fn where
 lent:List Bool
 run:List D->Option D
noncomputable abbrev Fs:=Str->Option Fn
noncomputable def aE (m:Str):Str:=("Vault.":Str)++m
noncomputable def jC (c:Nat):D->Bool
 |.vlt c' _ _=>c'==c
 |_=>false
noncomputable def yM:D->List D
 |.vlt _ _ os=>os
 |_=>[]
noncomputable def yN (tab:List (Nat×Bool)):D->Option Bool
 |.exc C=>tab.lookup C
 |_=>none
noncomputable def roM:Md->Option D->Option D
 |.read,o=>o
 |.test,o=>o
 |_,_=>none
variable (Φ:Fs)(Γ:List (Str×D))
mutual
@[simp] noncomputable def ev (m:Md)(ρ:List Sl):E->Option D
 |.k d=>fin m (some d)
 |.v i=>fin m (ρ[i]?.bind (az m))
 |.g x=>fin m (Γ.lookup x)
 |.op o a b=>fin m ((ev .read ρ a).bind fun x=>(ev .read ρ b).bind fun y=>opD o x y)
 |.neg a=>fin m ((ev .val ρ a).bind fun d=>(asI d).map fun i=>.int (-i))
 |.cmp o a b=>fin m ((ev .read ρ a).bind fun x=>(ev .read ρ b).bind fun y=>(bM o x y).map .bool)
 |.chain o o' a b c=>fin m ((ev .read ρ a).bind fun x=>(ev .read ρ b).bind fun y=>(bM o x y).bind fun t=>if t then (ev .read ρ c).bind fun z=>(bM o' y z).map .bool else some (.bool false))
 |.and a b=>(ev (bm m) ρ a).bind fun d=>(asB d).bind fun t=>if t then ev (bm m) ρ b else some (.bool false)
 |.or a b=>(ev (bm m) ρ a).bind fun d=>(asB d).bind fun t=>if t then some (.bool true) else ev (bm m) ρ b
 |.not a=>(ev (bm m) ρ a).bind fun d=>(asB d).map fun t=>.bool (!t)
 |.ite c a b=>noT m ((ev .test ρ c).bind fun d=>(asB d).bind fun t=>if t then ev .val ρ a else ev .val ρ b)
 |.call f as=>fin m ((Φ f).bind fun φ=>(evs .read φ.lent ρ as).bind φ.run)
 |.idx a i=>fin m ((ev .read ρ a).bind fun x=>(ev .val ρ i).bind fun y=>kx x y)
 |.sl a lo hi=>fin m ((ev .read ρ a).bind fun x=>(evP ρ lo).bind fun y=>(evP ρ hi).bind fun z=>slD x y z)
 |.lst as=>fin m ((evs .val [] ρ as).bind fun ds=>if ds.length≤1000 then some (.list ds) else none)
 |.tup as=>fin m ((evs .val [] ρ as).bind fun ds=>if ds.length≤1000 then some (.tuple ds) else none)
 |.comp nt js tg src ifs elt=>fin m ((evI .read ρ src).bind fun ds=>if ds.length≤big then (aO (fun d=>(aw tg d (blk nt js ρ)).bind fun ρ'=>(evC ρ' ifs).bind fun t=>if t then (ev .val ρ' elt).map some else some none) ds).map .list else none)
 |.bi f as=>fin m ((evs .read [true,true,true] ρ as).bind fun ds=>biD f ds)
 |.isi a T=>fin m ((ev .read ρ a).bind fun x=>(jh T x).map .bool)
 |.isx a c tab=>fin m ((ev .read ρ a).bind fun x=>(yN tab x).map .bool)
 |.vob c a=>roM m (fin m ((ev .read ρ a).bind fun x=>if jC c x then some (.list (yM x)) else none))
@[simp] noncomputable def evs (m:Md)(fl:List Bool)(ρ:List Sl):Es->Option (List D)
 |.nil=>some []
 |.cons a as=>(ev (if fl.headD false then m else .val) ρ a).bind fun x=>(evs m fl.tail ρ as).map (x::·)
@[simp] noncomputable def evC (ρ:List Sl):Es->Option Bool
 |.nil=>some true
 |.cons a as=>(ev .test ρ a).bind asB
@[simp] noncomputable def evP (ρ:List Sl):Es->Option (Option Int)
 |.nil=>some none
 |.cons a as=>(ev .val ρ a).bind fun d=>(asI d).map some
@[simp] noncomputable def evI (m:Md)(ρ:List Sl):I->Option (List D)
 |.seq a=>(ev m ρ a).bind cF
 |.rng a=>(ev .val ρ a).bind fun d=>(asI d).bind fun n=>if rOk n then some ((List.range n.toNat).map fun (k:Nat)=>.int k) else none
 |.revr a=>(ev .val ρ a).bind fun d=>(asI d).bind fun n=>if rOk n then some ((List.range n.toNat).reverse.map fun (k:Nat)=>.int k) else none
 |.zip as=>(evs .read [true,true,true] ρ as).bind uk
end
set_option genInjectivity true in
inductive Out where
 |nx (ρ:List Sl)
 |rt (d:D)
noncomputable def Out.andThen (o:Out)(f:List Sl->Option Out):Option Out:=match o with
 |.nx ρ=>f ρ
 |.rt d=>some (.rt d)
noncomputable def freeze:Sl->Sl
 |.own d=>.dat d
 |.deep rows=>.dat (.list (rows.map .list))
 |s=>s
@[simp] noncomputable def bD:Sl->Bool
 |.no=>true
 |.dat _=>true
 |.lent _=>true
 |.own _=>true
 |.deep _=>false
@[simp] noncomputable def Kc:Sl->Bool
 |.no=>true
 |.dat _=>true
 |.lent _=>true
 |.own _=>false
 |.deep _=>false
noncomputable def fresh:E->Bool
 |.comp ..=>true
 |.lst ..=>true
 |.sl ..=>true
 |.op ..=>true
 |.bi .list _=>true
 |.bi .dict _=>true
 |_=>false
noncomputable def forL (t:D->List Sl->Option (List Sl))(b:List Sl->Option Out):List D->List Sl->Option Out
 |[],ρ=>some (.nx ρ)
 |d::r,ρ=>(t d ρ).bind fun ρ'=>(b ρ').bind fun o=>o.andThen (forL t b r)
mutual
@[simp] noncomputable def ex (ρ:List Sl):S->Option Out
 |.set i e=>(ev Φ Γ .val ρ e).map fun d=>.nx (ρ.set i (.dat d))
 |.new i e=>if fresh e&&ρ.all bD then (ev Φ Γ .val ρ e).bind fun d=>if bo d then some (.nx (ρ.set i (.own d))) else none else none
 |.frz j s=>match ρ[j]? with
  |some (.own d)=>ex (ρ.set j (.dat d)) s
  |_=>none
 |.app i e=>(ev Φ Γ .val ρ e).bind fun d=>match ρ[i]? with
  |some (.own (.list ds))=>if ds.length<big then some (.nx (ρ.set i (.own (.list (ds++[d]))))) else none
  |_=>none
 |.pop i j=>match ρ[i]? with
  |some (.own (.list ds))=>(ds[ds.length-1]?).map fun d=>.nx ((ρ.set i (.own (.list ds.dropLast))).set j (.dat d))
  |_=>none
 |.seti i k e=>(ev Φ Γ .val ρ e).bind fun d=>(ev Φ Γ .val ρ k).bind fun x=>match ρ[i]?,x with
  |some (.own (.list ds)),.int n=>(ixN ds.length n).map fun j=>.nx (ρ.set i (.own (.list (ds.set j d))))
  |some (.own (.dict kvs)),x=>(lN x).bind fun key=>if kvs.length<1000 then some (.nx (ρ.set i (.own (.dict (put kvs key d))))) else none
  |_,_=>none
 |.ifs c a b=>(ev Φ Γ .test ρ c).bind fun d=>(asB d).bind fun t=>if t then exs ρ a else exs ρ b
 |.fors tg src body=>(evI Φ Γ .walk ρ src).bind fun ds=>forL (aw tg) (fun ρ'=>exs ρ' body) ds ρ
 |.ret e=>(ev Φ Γ .val (ρ.map freeze) e).map .rt
 |.stuck=>none
@[simp] noncomputable def exs (ρ:List Sl):Ss->Option Out
 |.nil=>some (.nx ρ)
 |.cons s r=>(ex ρ s).bind fun o=>o.andThen fun ρ'=>exs ρ' r
end
structure Def where
 lent:List Bool
 slots:Nat
 body:Ss
@[simp] noncomputable def bN (d:Def)(ds:List D):List Sl:=(d.lent.zip ds).map (fun p=>if p.1 then Sl.lent p.2 else .dat p.2)++List.replicate (d.slots-ds.length) .no
noncomputable def Out.val:Out->Option D
 |.nx _=>some .none
 |.rt d=>some d
noncomputable def den (prog:List (Str×Def))(Γ:List (Str×D)):Nat->Fs
 |0,_=>none
 |k+1,f=>(prog.lookup f).map fun d=>⟨d.lent,fun ds=>if ds.length=d.lent.length then (exs (den prog Γ k) Γ (bN d ds) d.body).bind Out.val else none⟩
section
variable {d:D}{j:Int}{y:Str}{ds es:List D}{kvs:List (Sum Int Str×D)}{t:Bool}{ρ:List Sl}{rows:List (List D)}
@[simp] def bZ:asB (.bool b)=some b:=rfl
@[simp] def HE:asI (.int i)=some i:=rfl
@[simp] def HF {o:Option D}:fin .val o=o:=rfl
@[simp] def FN {o:Option D}:fin .read o=o:=rfl
@[simp] def HG:bm .test=.test:=rfl
@[simp] def IU:bm .val=.val:=rfl
@[simp] def HH:bm .read=.val:=rfl
@[simp] def HI:bm .walk=.val:=rfl
@[simp] def FO {o:Option D}:fin .walk o=o:=rfl
@[simp] def FP {o:Option D}:noT .walk o=o:=rfl
@[simp] def CM:az .walk (.lent d)=some d:=rfl
@[simp] def ET:az .walk (.own d)=none:=rfl
@[simp] def FQ {o:Option D}:fin .test o=o.bind fun d=>(eY d).map .bool:=rfl
@[simp] def HJ {o:Option D}:noT .val o=o:=rfl
@[simp] def FR {o:Option D}:noT .read o=o:=rfl
@[simp] def EU:eY .none=some false:=rfl
@[simp] def EV:eY (.bool b)=some b:=rfl
@[simp] def FS:eY (.int i)=some (i != 0):=rfl
@[simp] def um:eY (.str x)=if x.length≤big then some ((x.length:Int) != 0) else none:=rfl
@[simp] def CN:eY (.tuple ds)=some (!ds.isEmpty):=rfl
@[simp] def EW:eY (.list ds)=some (!ds.isEmpty):=rfl
@[simp] def EX:eY (.dict kvs)=some (!kvs.isEmpty):=rfl
@[simp] def FU:eY (.scr ns)=some (!ns.isEmpty):=rfl
@[simp] def HK:opD .add (.int i) (.int j)=some (.int (i+j)):=rfl
@[simp] def yO:opD .add (.str x) (.str y)=if x.length+y.length≤big then some (.str (x++y)) else none:=rfl
@[simp] def yP:opD .add (.list ds) (.list es)=if ds.length+es.length≤big then some (.list (ds++es)) else none:=rfl
@[simp] def HL:opD .sub (.int i) (.int j)=some (.int (i-j)):=rfl
@[simp] def gX:opD .mul (.int i) (.int j)=if lM i j then some (.int (i*j)) else none:=rfl
@[simp] def yQ:opD .mod (.int i) (.int j)=if 0<j then some (.int (i % j)) else none:=rfl
@[simp] def yR:opD .fdiv (.int i) (.int j)=if 0<j/\j<1073741824 then some (.int (i / j)) else none:=rfl
@[simp] def HM:bM .lt (.int i) (.int j)=some (decide (i<j)):=rfl
@[simp] def HN:bM .le (.int i) (.int j)=some (decide (i≤j)):=rfl
@[simp] def HP:bM .gt (.int i) (.int j)=some (decide (j<i)):=rfl
@[simp] def CO {a b:D}:bM .eq a b=eqD a b:=rfl
@[simp] def CP {a b:D}:bM .ne a b=(eqD a b).map (!·):=rfl
@[simp] def CQ {a b:D}:bM .isin a b=inD a b:=rfl
@[simp] def rA {a b:D}:bM .notin a b=(inD a b).map (!·):=by cases a<;>rfl
@[simp] def HQ {a:D}:bM .isN a .none=some (decide (a=.none)):=by cases a<;>first|rfl|exact if_pos rfl
@[simp] def FV {a:D}:bM .notN a .none=some (!decide (a=.none)):=by cases a<;>exact if_pos rfl
@[simp] def eq_int:eqD (.int i) (.int j)=some (decide (i=j)):=by
 show (if true then some _ else _)=_;simp
@[simp] def eq_str:eqD (.str x) (.str y)=some (decide (x=y)):=by
 show (if true then some _ else _)=_;simp
def pT {a b:D}(h1:okS 8 a=true)(h2:okS 8 b=true):eqD a b=some (decide (a=b)):=by
 unfold eqD;simp_all
@[simp] def FW:kx (.list ds) (.int i)=atI ds i:=rfl
@[simp] def EY:kx (.tuple ds) (.int i)=atI ds i:=rfl
@[simp] def HR:kx (.scr ns) (.int i)=(atI ns i).map .int:=rfl
@[simp] def yS:kx (.str x) (.int i)=if x.length≤big then (atI x.cps.toList i).map fun c=>.str ⟨#[c]⟩ else none:=rfl
@[simp] def HS:lN (.int i)=some (.inl i):=rfl
@[simp] def HU:lN (.str x)=some (.inr x):=rfl
@[simp] def pN {l h:Option Int}:slD (.list ds) l h=some (.list (cut ds l h)):=rfl
@[simp] def len_list:biD .len [.list ds]=some (.int ds.length):=rfl
@[simp] def len_tuple:biD .len [.tuple ds]=some (.int ds.length):=rfl
@[simp] def HV:biD .len [.scr ns]=some (.int ns.length):=rfl
@[simp] def len_str:biD .len [.str x]=if x.length≤big then some (.int x.length) else none:=rfl
@[simp] def HW:biD .max [.int i,.int j]=some (.int (if j>i then j else i)):=rfl
@[simp] def HX:biD .min [.int i,.int j]=some (.int (if j<i then j else i)):=rfl
@[simp] def list_list:biD .list [.list ds]=some (.list ds):=rfl
@[simp] def list_tuple:biD .list [.tuple ds]=some (.list ds):=rfl
@[simp] def dict_list:biD .dict [.list []]=some (.dict []):=rfl
@[simp] def str_int:biD .str [.int i]=if 0≤i/\i<1000000 then some (.str (toString i)) else none:=rfl
@[simp] def tuple_list:biD .tuple [.list ds]=if ds.length≤big then some (.tuple ds) else none:=rfl
@[simp] def FX:biD .any [.list ds]=(boolsOf ds).map fun bs=>.bool (bs.any id):=rfl
@[simp] def FY:biD .all [.list ds]=(boolsOf ds).map fun bs=>.bool (bs.all id):=rfl
@[simp] def EZ {l:List Bool}:boolsOf (l.map .bool)=some l:=by
 induction l with
 |nil=>rfl
 |cons a r ih=>show (boolsOf _).map _=_;simp_all
@[simp] def CS:cF (.list ds)=some ds:=rfl
@[simp] def Bn:cF (.tuple ds)=some ds:=rfl
@[simp] def Fb:cF (.scr ns)=some (ns.map .int):=rfl
@[simp] def yr:dZ []=some []:=rfl
@[simp] def uo {r:List D}:dZ (d::r)=(cF d).bind fun a=>(dZ r).map (a::·):=rfl
@[simp] def dF:bo (.list ds)=true:=rfl
@[simp] def lO:bo (.dict kvs)=true:=rfl
@[simp] def HY:bo (.int i)=false:=rfl
@[simp] def HZ:bo (.str x)=false:=rfl
@[simp] def FZ:bo (.bool b)=false:=rfl
@[simp] def Gc:bo .none=false:=rfl
@[simp] def Fc:bo (.tuple ds)=false:=rfl
@[simp] def Ia:bo (.scr ns)=false:=rfl
@[simp] def Gd {m:Md}:az m (.dat d)=some d:=rfl
@[simp] def nU:az .val (.lent d)=if bo d then none else some d:=rfl
@[simp] def CT:az .read (.lent d)=some d:=rfl
@[simp] def CU:az .test (.lent d)=some d:=rfl
@[simp] def Fd:az .val (.own d)=none:=rfl
@[simp] def Fe:az .read (.own d)=some d:=rfl
@[simp] def Ff:az .test (.own d)=some d:=rfl
@[simp] def Ge {i:Nat}:aw (.one i) d ρ=some (ρ.set i (.dat d)):=rfl
@[simp] def lP:lend (.own d)=.lent d:=rfl
@[simp] def Gf:lend (.dat d)=.dat d:=rfl
@[simp] def Fh:lend (.lent d)=.lent d:=rfl
@[simp] def Ib:lend .no=.no:=rfl
@[simp] def jD:lend (.deep rows)=.no:=rfl
@[simp] def Ic {f:List Sl->Option Out}:(Out.nx ρ).andThen f=f ρ:=rfl
@[simp] def Ie {f:List Sl->Option Out}:(Out.rt d).andThen f=some (.rt d):=rfl
@[simp] def IV:(Out.nx ρ).val=some .none:=rfl
@[simp] def IW:(Out.rt d).val=some d:=rfl
@[simp] def CV:freeze (.own d)=.dat d:=rfl
@[simp] def CW:freeze (.dat d)=.dat d:=rfl
@[simp] def Bo:freeze (.lent d)=.lent d:=rfl
@[simp] def Fi:freeze .no=.no:=rfl
@[simp] def Bp:freeze (.deep rows)=.dat (.list (rows.map .list)):=rfl
@[simp] def CY {a b c e f g}:fresh (.comp a b c e f g)=true:=rfl
@[simp] def Fj {a}:fresh (.lst a)=true:=rfl
@[simp] def Gg {a b c}:fresh (.sl a b c)=true:=rfl
@[simp] def Gh {a b c}:fresh (.op a b c)=true:=rfl
@[simp] def CZ {a}:fresh (.bi .list a)=true:=rfl
@[simp] def Da {a}:fresh (.bi .dict a)=true:=rfl
@[simp] def Gi :jh T (.list ds)=some (T=="list"):=rfl
@[simp] def Fk :jh T (.tuple ds)=some (T=="tuple"):=rfl
@[simp] def Ig :jh T (.int i)=some (T=="int"):=rfl
@[simp] def Ih :jh T (.str x)=some (T=="str"):=rfl
@[simp] def Gj :jh T (.bool b)=some (T=="bool"||T=="int"):=rfl
@[simp] def Gk :jh T .none=some false:=rfl
end
def kz {d:D}(h:asI d=some i):d=.int i:=by
 cases d with
 |int=>cases h;rfl
 |_=>cases h
def nV {d:D}(h:asB d=some b):d=.bool b:=by
 cases d with
 |bool=>cases h;rfl
 |_=>cases h
def uq {c:Nat}{d:D}(h:jC c d=true):∃n os,d=.vlt c n os:=by
 cases d with
 |vlt=>cases eq_of_beq h;exact⟨_,_,rfl⟩
 |_=>cases h
def yT {tab:List (Nat×Bool)}{d:D}(h:yN tab d=some b):∃e,d=.exc e:=by
 cases d with
 |exc e=>exact⟨e,rfl⟩
 |_=>cases h
structure Cs where
 N:List Str
 sc:Scope
 fns:List Str
 cst:List Str
 mts:List Nat
 dp:List Nat
 vc:Option Nat:=none
 xcs:List (Str×Nat×List (Nat×Bool)):=[]
noncomputable def ai (C:Cs)(x:Str)(k:NameKind):Bool:=C.sc.names.lookup x==some k
noncomputable def bx (x:Str):Bool:=!(x==("__debug__":Str))&&!(x==("__classdict__":Str))&&!(x==("__name__":Str))
noncomputable def aY (C:Cs)(x:Str):Option Nat:=
 match C.N.idxOf? x with
 |some i=>if (ai C x .local||ai C x .cell||ai C x .free)&&bx x then some i else none
 |none=>none
noncomputable def dB (C:Cs)(x:Str):Option Nat:=
 match C.N.idxOf? x with
 |some i=>if (ai C x .local||ai C x .cell)&&bx x then some i else none
 |none=>none
noncomputable def aq (C:Cs)(x:Str):Bool:=ai C x .globalImplicit&&bx x
noncomputable def pU (C:Cs)(x:Str):Option E:=
 match aY C x with
 |some i=>some (.v i)
 |none=>if aq C x&&C.cst.contains x then some (.g x) else none
noncomputable def cOp:Operator->Option Op2
 |.Add=>some .add
 |.Sub=>some .sub
 |.Mult=>some .mul
 |.Mod=>some .mod
 |.FloorDiv=>some .fdiv
 |_=>none
noncomputable def kA:CmpOp->Option Cop
 |.Lt=>some .lt
 |.LtE=>some .le
 |.Gt=>some .gt
 |.GtE=>none
 |.Eq=>some .eq
 |.NotEq=>some .ne
 |.In=>some .isin
 |.NotIn=>some .notin
 |.Is=>some .isN
 |.IsNot=>some .notN
noncomputable def jE (x:Str):Bool:=x.cps.toList.all fun c=>decide (c<0x110000)
noncomputable def isSet:Expr->Bool
 |.Set ..=>true
 |_=>false
noncomputable def isSlice:Expr->Bool
 |.Slice ..=>true
 |_=>false
noncomputable def isStar:Expr->Bool
 |.Starred ..=>true
 |_=>false
noncomputable def isTup:Expr->Bool
 |.Tuple ..=>true
 |_=>false
noncomputable def iy (x:Str):Option Bf:=
 if x=("len":Str) then some .len else if x=("max":Str) then some .max else if x=("min":Str) then some .min else
 if x=("list":Str) then some .list else if x=("str":Str) then some .str else if x=("tuple":Str) then some .tuple else if x=("all":Str) then some .all else if x=("any":Str) then some .any else none
noncomputable def nX (x:Str):Option String:=
 if x=("int":Str) then some "int" else if x=("str":Str) then some "str" else if x=("list":Str) then some "list" else if x=("tuple":Str) then some "tuple" else if x=("bool":Str) then some "bool" else none
noncomputable def fb:Expr->Bool
 |.Call (.Name id _) [] [] _=>id==("super":Str)
 |_=>false
noncomputable def slots (C:Cs):List Expr->Option (List Nat)
 |[]=>some []
 |.Name x _::r=>(dB C x).bind fun i=>(slots C r).map (i::·)
 |_::_=>none
noncomputable def cTg (C:Cs):Expr->Option Tg
 |.Name x _=>(dB C x).map .one
 |.Tuple es _ _=>(slots C es).map .tup
 |_=>none
noncomputable def br:Expr->List Str
 |.Name x _=>[x]
 |.Tuple es _ _=>es.filterMap fun|.Name x _=>some x|_=>none
 |_=>[]
noncomputable def gK:Tg->Nat->Bool
 |.one i,n=>decide (i<n)
 |.tup is,n=>is.all fun i=>decide (i<n)
noncomputable def freeOf (sc:Scope):List Str:=sc.names.filterMap fun (x,k)=>if k==.free then some x else none
noncomputable def nY (N:List Str):List Str->Option (List Nat)
 |[]=>some []
 |x::r=>(N.idxOf? x).bind fun i=>(nY N r).map (i::·)
noncomputable def pV (C:Cs)(sc:Scope)(tn:List Str):Bool:=
 sc.kind==.function&&
 sc.names.all (fun y=>(y.2 != .free||ai C y.1 .cell)&&y.2 != .cell&&(y.2 != .local||sc.names.lookup y.1==some .local))&&
 tn.all (fun x=>sc.names.lookup x==some .local)&&
 (freeOf sc).all (fun x=>sc.names.lookup x==some .free)&&
 decide ((tn++freeOf sc).Nodup)
noncomputable def gL (C:Cs)(sc:Scope)(tg:Expr):Option (Cs×Nat×List Nat):=
 if pV C sc (br tg) then (nY C.N (freeOf sc)).map fun js=>({C with N:=br tg++freeOf sc,sc:=sc,mts:=[],dp:=[]},(br tg).length,js) else none
def nn {p:Prop}{z:α}(h:none=some z):p:=nomatch h
noncomputable def cG {α:Type}:List α->Option α
 |[a]=>some a
 |_=>none
def aS {l:List α}{a:α}(h:cG l=some a):l=[a]:=by
 cases l with
 |nil=>cases h
 |cons x r=>
  cases r with
  |nil=>cases h;rfl
  |_=>cases h
noncomputable def two {α:Type}:List α->Option (α×α)
 |[a,b]=>some (a,b)
 |_=>none
def iz {l:List α}{a b:α}(h:two l=some (a,b)):l=[a,b]:=by
 cases l with
 |nil=>cases h
 |cons x r=>
  cases r with
  |nil=>cases h
  |cons y r=>
   cases r with
   |nil=>cases h;rfl
   |_=>cases h
def yU (h:as.length=2):∃a b,as=[a,b]:=by
 obtain⟨a,r,rfl⟩:=List.exists_cons_of_length_eq_add_one h;obtain⟨b,rfl⟩:=List.length_eq_one_iff.mp (Nat.succ.inj h);exact⟨a,b,rfl⟩
noncomputable def fe:Expr->Option Str
 |.Name x _=>some x
 |_=>none
def cf (h:fe e=some x):∃p,e=.Name x p:=by
 cases e with
 |Name y p=>cases h;exact⟨p,rfl⟩
 |_=>exact nn h
noncomputable def Dc:Expr->Option Str
 |.Constant (.str y) _ _=>some y
 |_=>none
def yV {b:Expr}{y:Str}(h:Dc b=some y):∃j p,b=.Constant (.str y) j p:=by
 cases b with
 |Constant k j p=>
  cases k with
  |str z=>cases h;exact⟨_,_,rfl⟩
  |_=>exact nn h
 |_=>exact nn h
noncomputable def Gm:Expr->Bool
 |.Constant (.int i) _ _=>i==1
 |_=>false
noncomputable def Gn:Expr->Option Expr
 |.FormattedValue a c f _=>if c== -1&&f.isNone then some a else none
 |_=>none
set_option tactic.hygienic true in
def yW {a:Expr}(h:Gn e=some a):∃p,e=.FormattedValue a (.negSucc 0) none p:=by
 cases e with
 |FormattedValue b c f p=>
  have h:(if c== -1&&f.isNone then some b else none)=some a:=h;split at h
  ·rename_i q
   cases h;rw[be0] at q;obtain rfl:=eq_of_beq q.1;cases f with
   |none=>exact⟨_,rfl⟩
   |some _=>cases q.2
  ·cases h
 |_=>exact nn h
noncomputable def cm:Expr->Option (Str×Pos×Str×Pos×List Expr×Pos)
 |.Call (.Attribute (.Name x p) m a) as [] q=>some (x,p,m,a,as,q)
 |_=>none
def ur {m:Str}{p a q:Pos}(h:cm e=some (x,p,m,a,as,q)):e=.Call (.Attribute (.Name x p) m a) as [] q:=by
 cases e with
 |Call g _ ks _=>
  cases g with
  |Attribute o=>
   cases o with
   |Name=>
    cases ks with
    |nil=>cases h;rfl
    |_=>exact nn h
   |_=>exact nn h
  |_=>exact nn h
 |_=>exact nn h
noncomputable def nZ (C:Cs)(as:List Expr):Option (Expr×String):=(two as).bind fun q=>(fe q.2).bind fun t=>if aq C t&&!isStar q.1 then (nX t).map fun T=>(q.1,T) else none
noncomputable def oa (C:Cs)(as:List Expr):Option (Expr×Nat×List (Nat×Bool)):=(two as).bind fun q=>(fe q.2).bind fun t=>if aq C t&&!isStar q.1 then (C.xcs.lookup t).map fun z=>(q.1,z) else none
noncomputable def cn:Expr->Option (Str×Pos×List Expr×Pos)
 |.Call (.Name f p) as [] q=>some (f,p,as,q)
 |_=>none
def pW {f:Str}{p q:Pos}(h:cn e=some (f,p,as,q)):e=.Call (.Name f p) as [] q:=by
 cases e with
 |Call g _ ks _=>
  cases g with
  |Name=>
   cases ks with
   |nil=>cases h;rfl
   |_=>exact nn h
  |_=>exact nn h
 |_=>exact nn h
noncomputable def uu (C:Cs)(e:Expr):Option Expr:=(cn e).bind fun z=>(cG z.2.2.1).bind fun b=>if z.1=("range":Str) then (if aq C z.1&&!C.fns.contains z.1&&!isStar b then some b else none) else none
noncomputable def IX:Expr->Bool
 |.UnaryOp .USub a _=>Gm a
 |_=>false
noncomputable def JL:Expr->Bool
 |.Slice lo hi (some e) _=>lo.isNone&&hi.isNone&&IX e
 |_=>false
noncomputable def kB (C:Cs)(f:Str)(as:List Expr):Option (Bf×List Expr):=(cG as).bind fun e=>(cn e).bind fun z=>if !aq C z.1||z.2.2.1.any isStar then none else if f=("len":Str) then (if z.1=("set":Str)&&z.2.2.1.length==1 then some (.nset,z.2.2.1) else none) else none
noncomputable def uv (vs:List Expr):Option (Str×Expr):=(two vs).bind fun q=>(Dc q.1).bind fun x=>(Gn q.2).bind fun a=>if jE x then some (x,a) else none
mutual
noncomputable def cE:Nat->Cs->Expr->Option E
 |0,_,_=>none
 |n+1,C,e=>match e with
  |.Constant (.int i) _ _=>some (.k (.int i))
  |.Constant (.str x) _ _=>if jE x then some (.k (.str x)) else none
  |.Constant (.bool b) _ _=>some (.k (.bool b))
  |.Constant .none _ _=>some (.k .none)
  |.Name x _=>pU C x
  |.BinOp a op b _=>(cOp op).bind fun o=>(cE n C a).bind fun a'=>(cE n C b).map fun b'=>.op o a' b'
  |.UnaryOp .USub a _=>(cE n C a).map .neg
  |.UnaryOp .Not a _=>(cE n C a).map .not
  |.Compare a [op] [b] _=>(kA op).bind fun o=>if isSet b then none else (cE n C a).bind fun a'=>(cE n C b).map fun b'=>.cmp o a' b'
  |.Compare a [op,op'] [b,c] _=>(kA op).bind fun o=>(kA op').bind fun o'=>if isSet b||isSet c then none else (cE n C a).bind fun a'=>(cE n C b).bind fun b'=>(cE n C c).map fun c'=>.chain o o' a' b' c'
  |.BoolOp op (a::b::r) pos=>cBool n C op (a::b::r)
  |.IfExp c a b _=>(cE n C c).bind fun c'=>(cE n C a).bind fun a'=>(cE n C b).map fun b'=>.ite c' a' b'
  |.Call (.Name f _) as [] _=>if aq C f then lQ n C f as else none
  |.Attribute o x _=>if x=("objects":Str) then C.vc.bind fun c=>(cE n C o).map fun o'=>.vob c o' else none
  |.Subscript a (.Slice lo hi none _) _=>(cE n C a).bind fun a'=>(cO n C lo).bind fun lo'=>(cO n C hi).map fun hi'=>.sl a' lo' hi'
  |.Subscript a i _=>if isSlice i then none else yX n C a i
  |.List es _=>(cEs n C es).map .lst
  |.Dict [] [] _=>some (.bi .dict (.cons (.lst .nil) .nil))
  |.Tuple es _ _=>(cEs n C es).map .tup
  |.JoinedStr vs _=>(uv vs).bind fun q=>(cE n C q.2).map fun a'=>.bi .fst (.cons (.k (.str q.1)) (.cons a' .nil))
  |.ListComp elt [⟨tg,iter,ifs,0⟩] sc _=>(og n C tg iter).bind fun src=>(gL C sc tg).bind fun (B,nt,js)=>(cTg B tg).bind fun t=>if !gK t nt then none else (if ifs.length≤1 then cEs n B ifs else none).bind fun i'=>(cE n B elt).map fun e'=>.comp nt js t src i' e'
  |_=>none
noncomputable def yX:Nat->Cs->Expr->Expr->Option E
 |0,_,_,_=>none
 |n+1,C,a,j=>(cE n C a).bind fun a'=>(cE n C j).map fun j'=>.idx a' j'
noncomputable def cO:Nat->Cs->Option Expr->Option Es
 |0,_,_=>none
 |n+1,C,none=>some .nil
 |n+1,C,some e=>(cE n C e).map fun a=>.cons a .nil
noncomputable def cBool:Nat->Cs->BoolOp->List Expr->Option E
 |0,_,_,_=>none
 |n+1,C,_,[a]=>cE n C a
 |n+1,C,.And,a::b::r=>(cE n C a).bind fun a'=>(cBool n C .And (b::r)).map fun b'=>.and a' b'
 |n+1,C,.Or,a::b::r=>(cE n C a).bind fun a'=>(cBool n C .Or (b::r)).map fun b'=>.or a' b'
 |_,_,_,_=>none
noncomputable def lQ:Nat->Cs->Str->List Expr->Option E
 |0,_,_,_=>none
 |n+1,C,f,as=>if C.fns.contains f then (if as.isEmpty then none else (cEs n C as).map fun as'=>.call f as')
  else if f=("isinstance":Str) then (match oa C as with
   |some q=>(cE n C q.1).map fun a'=>.isx a' q.2.1 q.2.2
   |none=>(nZ C as).bind fun q=>(cE n C q.1).map fun a'=>.isi a' q.2)
   else if f=("sorted":Str) then (if as.length=1 then (cEs n C as).map fun as'=>.bi .srtd as' else none)
   else match kB C f as with
    |some q=>(cEs n C q.2).map fun as'=>.bi q.1 as'
    |none=>(iy f).bind fun b=>if as.isEmpty then none else (cEs n C as).map fun as'=>.bi b as'
noncomputable def cEs:Nat->Cs->List Expr->Option Es
 |0,_,_=>none
 |n+1,C,[]=>some .nil
 |n+1,C,e::r=>if isStar e then none else (cE n C e).bind fun a=>(cEs n C r).map fun as=>.cons a as
noncomputable def og:Nat->Cs->Expr->Expr->Option I
 |0,_,_,_=>none
 |n+1,C,tg,e=>match cn e with
  |some z=>if z.1=("zip":Str)&&z.2.2.1.length==2 then (if aq C z.1&&!C.fns.contains z.1&&isTup tg then (cEs n C z.2.2.1).map .zip else none) else cI n C e
  |none=>cI n C e
noncomputable def cI:Nat->Cs->Expr->Option I
 |0,_,_=>none
 |n+1,C,e=>match cn e with
  |some z=>if z.1=("range":Str) then (if aq C z.1&&!C.fns.contains z.1 then (cG z.2.2.1).bind fun a=>if isStar a then none else (cE n C a).map .rng else none)
   else if z.1=("reversed":Str) then (if aq C z.1&&!C.fns.contains z.1 then (cG z.2.2.1).bind fun a=>(uu C a).bind fun b=>(cE n C b).map .revr else none)
   else (cE n C e).map .seq
  |none=>if isSet e then none else (cE n C e).map .seq
end
noncomputable def dG:Expr->Bool
 |.ListComp ..=>true
 |.SetComp ..=>true
 |.DictComp ..=>true
 |_=>false
noncomputable def ownIn (C:Cs):Expr->Option Nat
 |.Tuple es _ _=>es.findSome? fun|.Name y _=>(aY C y).bind fun j=>if C.mts.contains j then some j else none|_=>none
 |_=>none
noncomputable def ownN (C:Cs):Expr->Option Nat
 |.Name y _=>(aY C y).bind fun j=>if C.mts.contains j then some j else none
 |_=>none
noncomputable def Dd (s:S):Option Nat->S
 |some j=>.frz j s
 |none=>s
noncomputable def uw (v:Expr):Option (Str×Str×Bool):=(cm v).bind fun z=>if z.2.2.2.2.1.isEmpty then some (z.1,z.2.2.1,z.2.2.2.1.endLine==z.2.2.2.2.2.line) else none
def ux {v:Expr}{m:Str}(h:uw v=some (x,m,b)):∃p apos cpos,v=.Call (.Attribute (.Name x p) m apos) [] [] cpos/\b=(apos.endLine==cpos.line):=by
 obtain⟨⟨x,p,m,a,as,q⟩,e,h⟩:=bx0 h;obtain rfl:=ur e;cases as with
 |nil=>cases h;exact⟨_,_,_,rfl,rfl⟩
 |_=>cases h
mutual
noncomputable def cS:Nat->Cs->Stmt->Option S
 |0,_,_=>none
 |n+1,C,s=>match s with
  |.Assign ts v _=>(cG ts).bind fun t=>match t with
   |.Name y _=>(match uw v with
   |some (x,m,b)=>if m=("pop":Str) then (if b then (aY C x).bind fun i=>(dB C y).bind fun j=>if C.mts.contains j||C.dp.contains j then none else some (.pop i j) else none) else none
   |none=>(dB C y).bind fun j=>
    if C.mts.contains j then (cE n C v).bind fun e=>if fresh e then some (.new j e) else none
    else (cE n C v).map fun e=>.set j e)
   |.Subscript o k _=>if isSlice k then none else (fe o).bind fun x=>(aY C x).bind fun i=>(cE n C v).bind fun e=>(cE n C k).map fun k'=>.seti i k' e
   |_=>none
  |.Expr v _=>(cm v).bind fun z=>if z.2.2.2.1.endLine==z.2.2.2.2.2.line then (aY C z.1).bind fun i=>(cG z.2.2.2.2.1).bind fun a=>if isStar a then none else if z.2.2.1=("append":Str) then (cE n C a).map fun e=>Dd (.app i e) (ownIn C a) else none else none
  |.If c a b _=>(cE n C c).bind fun c'=>(cSs n C a).bind fun a'=>(cSs n C b).map fun b'=>.ifs c' a' b'
  |.For tg iter body [] _=>(cTg C tg).bind fun t=>(cI n C iter).bind fun src=>(cSs n C body).map fun b=>Dd (.fors t src b) (ownN C iter)
  |.Return (some e) _=>(cE n C e).map .ret
  |_=>none
noncomputable def cSs:Nat->Cs->List Stmt->Option Ss
 |0,_,_=>none
 |n+1,C,[]=>some .nil
 |n+1,C,s::r=>(cS n C s).bind fun s'=>(cSs n C r).map fun r'=>.cons s' r'
end
noncomputable def Bq (m:Str):Bool:=m=("append":Str)||m=("extend":Str)||m=("reverse":Str)||m=("clear":Str)||m=("pop":Str)
mutual
noncomputable def IY:Nat->Stmt->List (Str×Bool)
 |0,_=>[]
 |n+1,s=>match s with
  |.Assign [.Name _ _] (.Call (.Attribute (.Name x _) m _) [] [] _) _=>if Bq m then [(x,false)] else []
  |.Assign [.Subscript (.Name x _) _ _] _ _=>[(x,false)]
  |.Assign [.Subscript (.Subscript (.Name x _) _ _) _ _] _ _=>[(x,true)]
  |.Expr (.Call (.Attribute (.Name x _) m _) _ [] _) _=>if Bq m then [(x,false)] else []
  |.If _ a b _=>jF n a++jF n b
  |.For _ _ b _ _=>jF n b
  |.While _ b _ _=>jF n b
  |_=>[]
noncomputable def jF:Nat->List Stmt->List (Str×Bool)
 |0,_=>[]
 |n+1,[]=>[]
 |n+1,s::r=>IY n s++jF n r
end
noncomputable def au (sc:Scope)(ps:List Str):List Str:=sc.names.filterMap fun (x,k)=>if (k==.local||k==.cell)&&!ps.contains x then some x else none
noncomputable def bp:Stmt->Option (List Str×List Stmt×Scope)
 |.FunctionDef _ args body _ _ _ sc _ _ _=>some (args.args.map (·.arg),body,sc)
 |_=>none
noncomputable def dH (fns cst:List Str)(ps:List Str)(body:List Stmt)(sc:Scope)(vc:Option Nat:=none)(xcs:List (Str×Nat×List (Nat×Bool)):=[]):Cs:=
 let N:=ps++au sc ps
 let ms:=jF 60 body
 {N,sc,fns,cst,vc,xcs,mts:=ms.filterMap fun (x,d)=>if d then none else N.idxOf? x,dp:=ms.filterMap fun (x,d)=>if d then N.idxOf? x else none}
noncomputable def lR (fns cst:List Str)(lent:List Bool)(st:Stmt)(vc:Option Nat:=none)(xcs:List (Str×Nat×List (Nat×Bool)):=[]):Option Def:=
 (bp st).bind fun (ps,body,sc)=>(cSs 60 (dH fns cst ps body sc vc xcs) body).map fun b=>{lent,slots:=(ps++au sc ps).length,body:=b}
end SI
end
section
variable {K:fg0}{G' G0 G1 H H' H0 H1 Hb:L2.Hp}{d d1 d2 d3:SI.D}{f0 u v:PySem.Value}{ds out:List SI.D}{vs:List L2.V}{ep i j k n nt t':Nat}{as elts es ifs r ts:List PySem.Expr}{bmB us:List PySem.Value}{α β:Type}{apos cpos kp p p1 p2 pos pos' px py spos:PySem.Pos}{a b c elt iter o tg:PySem.Expr}{q qual x y:PySem.Str}{ms ns:List Int}{σ:L2.St}{ρ ρ1:List SI.Sl}{sl:SI.Sl}{fl lent:List Bool}{X:L2.Cx}{env:PySem.Env}{t:Bool}{P prog:PySem.Program}{w:PySem.World}{s s':PySem.Shared}{ea f l l1 l2:PySem.Addr}{items:Array PySem.Value}{E' Q Q₁:PySem.Value->PySem.Shared->Prop}{pins pins' pn:List (PySem.Addr×PySem.Obj)}{base h h':PySem.Heap}{tk:PySem.Tok}{T newId newIdT:String}{ps:List PySem.Addr}{N cst fns tn:List PySem.Str}{js:List Nat}{sc scope:PySem.Scope}{st:PySem.Stmt}{body:List PySem.Stmt}{mg:PySem.Str->Option PySem.Value}{fd:PySem.FuncData}{params:PySem.Arguments}
namespace L2.Z
open PySem PySem.Spec PyProof.Rows L2 L2.C SI
noncomputable abbrev Fg:=fg0
noncomputable def vfs (l n:Addr)(h:Nat):List (Str×V):=[("objects",.ref l),("numbers",.ref n),("objects",.int h)]
noncomputable def ExcAt (a C:Addr):Heap->Prop:=fun h=>∃o,h.get? a=some o/\o.cls=.ref C
mutual
inductive Dp (K:Fg)(H:Hp):D->V->Prop
 |none:Dp K H .none .non
 |bool (b:Bool):Dp K H (.bool b) (.bl b)
 |int (i:Int):Dp K H (.int i) (.int i)
 |str (x:Str):PyData.strOk x=true->Dp K H (.str x) (.str x)
 |tuple {a:Addr} {vs:List V} {ds:List D}:H a=some (.tup vs)->Dps K H ds vs->Dp K H (.tuple ds) (.ref a)
 |list {a:Addr} {vs:List V} {ds:List D}:H a=some (.lst vs)->Dps K H ds vs->Dp K H (.list ds) (.ref a)
 |dict {a:Addr} {kvs:List (Key×D)} {ws:List (Key×V)}:H a=some (.dK ws)->Dks K H kvs ws->Dp K H (.dict kvs) (.ref a)
 |scr {a:Addr} {ns:List Int}:SqL K H a (ns.map V.int)->Dp K H (.scr ns) (.ref a)
 |hdl {a C dx l n:Addr} {h:Nat}:H a=some (.ins C dx (vfs l n h))->Dp K H (.hdl h) (.ref a)
 |exc {a:Addr} {C:Nat}:H a=some (.ext (ExcAt a C))->Dp K H (.exc C) (.ref a)
 |fn (a:Addr):Dp K H (.fn a) (.ref a)
inductive Dps (K:Fg)(H:Hp):List D->List V->Prop
 |nil:Dps K H [] []
 |cons {d:D} {v:V} {ds:List D} {vs:List V}:Dp K H d v->Dps K H ds vs->Dps K H (d::ds) (v::vs)
inductive Dks (K:Fg)(H:Hp):List (Key×D)->List (Key×V)->Prop
 |nil:Dks K H [] []
 |cons {k:Key} {d:D} {v:V} {ds:List (Key×D)} {vs:List (Key×V)}:Dp K H d v->Dks K H ds vs->Dks K H ((k,d)::ds) ((k,v)::vs)
end
section
variable {G:Hp}
def Dp.mono (e:Same G G'){v:V}(x:Dp K G d v):Dp K G' d v:=Dp.rec (motive_1:=fun d v a=>Dp K G' d v) (motive_2:=fun ds vs a=>Dps K G' ds vs) (motive_3:=fun ds vs a=>Dks K G' ds vs) .none .bool .int .str (fun h a r=>.tuple (e _ _ h) r) (fun h a r=>.list (e _ _ h) r) (fun h a r=>.dict (e _ _ h) r) (fun h=>.scr (e.seq h)) (fun h=>.hdl (e _ _ h)) (fun h=>.exc (e _ _ h)) .fn .nil (fun a a=>.cons) .nil (fun a a=>.cons) x
def Dps.mono (e:Same G G')(x:Dps K G ds vs):Dps K G' ds vs:=Dps.rec (motive_1:=fun d v a=>Dp K G' d v) (motive_2:=fun ds vs a=>Dps K G' ds vs) (motive_3:=fun ds vs a=>Dks K G' ds vs) .none .bool .int .str (fun h a r=>.tuple (e _ _ h) r) (fun h a r=>.list (e _ _ h) r) (fun h a r=>.dict (e _ _ h) r) (fun h=>.scr (e.seq h)) (fun h=>.hdl (e _ _ h)) (fun h=>.exc (e _ _ h)) .fn .nil (fun a a=>.cons) .nil (fun a a=>.cons) x
def Dks.mono (e:Same G G'){ds:List (Key×D)}{vs:List (Key×V)}(x:Dks K G ds vs):Dks K G' ds vs:=Dks.rec (motive_1:=fun d v a=>Dp K G' d v) (motive_2:=fun ds vs a=>Dps K G' ds vs) (motive_3:=fun ds vs a=>Dks K G' ds vs) .none .bool .int .str (fun h a r=>.tuple (e _ _ h) r) (fun h a r=>.list (e _ _ h) r) (fun h a r=>.dict (e _ _ h) r) (fun h=>.scr (e.seq h)) (fun h=>.hdl (e _ _ h)) (fun h=>.exc (e _ _ h)) .fn .nil (fun a a=>.cons) .nil (fun a a=>.cons) x
theorem Dps.length (h:Dps K G ds vs):ds.length=vs.length:=by
 induction vs generalizing ds with
 |nil=>cases h;rfl
 |cons v vs ih=>cases h<;>simp_all
theorem Dks.length {ds:List (Key×D)}{vs:List (Key×V)}(h:Dks K G ds vs):ds.length=vs.length:=by
 induction vs generalizing ds with
 |nil=>cases h;rfl
 |cons v vs ih=>cases h with|cons _ r=>rw[lc0,lc0,ih r]
def Dps.get (h:Dps K G ds vs)(e:ds[k]?=some d):∃v,vs[k]?=some v/\Dp K G d v:=by
 induction vs generalizing ds k with
 |nil=>cases h;simp at e
 |cons v vs ih=>
  cases h with
  |cons h r=>
   cases k with
   |zero=>simp_all
   |succ k=>simpa using ih r (by simpa using e)
def Dps.append {es:List D}{us:List V}(h:Dps K G ds vs)(q:Dps K G es us):Dps K G (ds++es) (vs++us):=by
 induction vs generalizing ds with
 |nil=>cases h;exact q
 |cons v vs ih=>cases h with|cons h r=>exact .cons h (ih r)
def Dps.one {v:V}(h:Dp K G d v):Dps K G [d] [v]:=.cons h .nil
theorem Dps.take (n:Nat)(h:Dps K G ds vs):Dps K G (ds.take n) (vs.take n):=by
 induction vs generalizing ds n with
 |nil=>cases h;simpa using Dps.nil
 |cons v vs ih=>
  cases h with
  |cons h r=>
   cases n with
   |zero=>simpa using Dps.nil
   |succ n=>simpa using Dps.cons h (ih n r)
theorem Dps.drop (n:Nat)(h:Dps K G ds vs):Dps K G (ds.drop n) (vs.drop n):=by
 induction vs generalizing ds n with
 |nil=>cases h;simpa using Dps.nil
 |cons v vs ih=>
  cases h with
  |cons h r=>
   cases n with
   |zero=>simpa using Dps.cons h r
   |succ n=>simpa using ih n r
theorem Dps.set {v:V}(hd:Dp K G d v)(n:Nat)(h:Dps K G ds vs):Dps K G (ds.set n d) (vs.set n v):=by
 induction vs generalizing ds n with
 |nil=>cases h;simpa using Dps.nil
 |cons u vs ih=>
  cases h with
  |cons h r=>
   cases n with
   |zero=>simpa using Dps.cons hd r
   |succ n=>simpa using Dps.cons h (ih n r)
theorem Dps.dropLast (h:Dps K G ds vs):Dps K G ds.dropLast vs.dropLast:=by
 rw[List.dropLast_eq_take,List.dropLast_eq_take,h.length];exact h.take _
def uy (xs:List α)(i:Int):SI.atI xs i=L2.atI xs i:=rfl
def IZ (n d:Nat)(o:Option Int):SI.sIx n d o=HT.sIx n d o:=rfl
theorem Dps.atI {i:Int}(h:Dps K G ds vs)(e:SI.atI ds i=some d):∃v,L2.atI vs i=some v/\Dp K G d v:=by
 rw[uy] at e;unfold L2.atI at e ⊢;rw[←h.length];cases q:L2.ixN _ i with
 |none=>simp_all
 |some j=>
  rw[q] at e;exact h.get (e)
theorem Dps.cut (h:Dps K G ds vs)(lo hi:Option Int):Dps K G (SI.cut ds lo hi) (L2.rm vs lo hi):=by
 unfold SI.cut L2.rm;rw[h.length];exact (h.drop _).take _
end
structure Ext (G H G' H':Hp):Prop where
 hh:Same H H'
 gg:Same G G'
 gh:Same G' H'
 nw:∀b o,G b=Option.none->H b=some o->G' b=Option.none
 ni:∀b C dx fs,H' b=some (.ins C dx fs)->H b=some (.ins C dx fs)
theorem Ext.refl {G:Hp}(h:Same G H):Ext G H G H:=⟨Same.refl _,Same.refl _,h,fun a a h a=>h,fun a a a a h=>h⟩
noncomputable def notIns:HO->Bool
 |.ins ..=>false
 |_=>true
def cg {p:Addr}{o:HO}(h:notIns o=true):∀b C dx fs,upd H p o b=some (.ins C dx fs)->H b=some (.ins C dx fs):=fun b C dx fs e=>by
 by_cases z:b=p
 ·subst z;rw[ae] at e;cases e;cases h
 ·rwa [aa z] at e
theorem Ext.trans {G G2 H2:Hp}(a:Ext G H G1 H1)(b:Ext G1 H1 G2 H2):Ext G H G2 H2:=
 ⟨a.hh.trans b.hh,a.gg.trans b.gg,b.gh,fun c o h1 h2=>b.nw c o (a.nw c o h1 h2) (a.hh c o h2),fun c C dx fs h=>a.ni c C dx fs (b.ni c C dx fs h)⟩
def aV {p:Addr}{o:HO}(h:H p=Option.none):Same H (upd H p o):=fun b u e=>by
 rwa [aa (ag e h)]
def Ext.laid {G:Hp}{p:Addr}{o:HO}(h:Same G H)(hp:H p=Option.none)(hi:notIns o=true:=by rfl):Ext G H (upd G p o) (upd H p o):=
 ⟨aV hp,aV (h.free hp),fun b u e=>by
  by_cases q:b=p
  ·subst q;rwa [ae] at e ⊢
  ·rw[aa q] at e ⊢;exact h b u e,fun b u e1 e2=>by
  rwa [aa (ag e2 hp)],cg hi⟩
def Ext.hid {G:Hp}{p:Addr}{o:HO}(h:Same G H)(hp:H p=Option.none)(hi:notIns o=true:=by rfl):Ext G H G (upd H p o):=
 ⟨aV hp,Same.refl _,h.trans (aV hp),fun a a e a=>e,cg hi⟩
def Ext.show {G:Hp}{p:Addr}{o:HO}(e:Ext G H G' H')(hp:H p=Option.none)(hp':H' p=some o)(hg:G' p=Option.none):Ext G H (upd G' p o) H':=
 ⟨e.hh,e.gg.trans (aV hg),fun b u q=>by
  by_cases z:b=p
  ·subst z;rw[ae] at q;grind
  ·rw[aa z] at q;exact e.gh b u q,fun b u e1 e2=>by
  rw[aa (ag e2 hp)];exact e.nw b u e1 e2,e.ni⟩
inductive Dr (K:Fg)(G H:Hp):D->V->Prop
 |of {d:D} {v:V}:Dp K G d v->Dr K G H d v
 |list {a:Addr} {vs:List V} {ds:List D}:H a=some (.lst vs)->Dps K G ds vs->Dr K G H (.list ds) (.ref a)
 |dict {a:Addr} {kvs:List (Key×D)} {ws:List (Key×V)}:H a=some (.dK ws)->Dks K G kvs ws->Dr K G H (.dict kvs) (.ref a)
 |vlt {C a dx l n:Addr} {h:Nat} {as:List Addr} {objs:List D}:H a=some (.ins C dx (vfs l n h))->H l=some (.lst (as.map .ref))->Dps K G objs (as.map .ref)->Dr K G H (.vlt C h objs) (.ref a)
section
variable {G:Hp}{v:V}
def Dr.ext (e:Ext G H G' H'):Dr K G H d v->Dr K G' H' d v
 |.of h=>.of (h.mono e.gg)
 |.list h r=>.list (e.hh _ _ h) (r.mono e.gg)
 |.dict h r=>.dict (e.hh _ _ h) (r.mono e.gg)
 |.vlt h1 h2 r=>.vlt (e.hh _ _ h1) (e.hh _ _ h2) (r.mono e.gg)
theorem Dr.none (h:Dr K G H .none v):v=.non:=by cases h with|of h=>cases h;rfl
theorem Dr.bool {b:Bool}(h:Dr K G H (.bool b) v):v=.bl b:=by cases h with|of h=>cases h;rfl
theorem Dr.int {i:Int}(h:Dr K G H (.int i) v):v=.int i:=by cases h with|of h=>cases h;rfl
theorem Dr.str (h:Dr K G H (.str x) v):v=.str x/\PyData.strOk x=true:=by cases h with|of h=>cases h with|str _ o=>exact⟨rfl,o⟩
theorem Dr.lst (s:Same G H)(h:Dr K G H (.list ds) v):∃a vs,v=.ref a/\H a=some (.lst vs)/\Dps K G ds vs:=by
 cases h with
 |of h=>cases h with|list h r=>exact⟨_,_,rfl,s _ _ h,r⟩
 |list h r=>exact⟨_,_,rfl,h,r⟩
def Dr.dct {ds:List (Key×D)}(s:Same G H)(h:Dr K G H (.dict ds) v):∃a vs,v=.ref a/\H a=some (.dK vs)/\Dks K G ds vs:=by
 cases h with
 |of h=>cases h with|dict h r=>exact⟨_,_,rfl,s _ _ h,r⟩
 |dict h r=>exact⟨_,_,rfl,h,r⟩
theorem Dr.tup (s:Same G H)(h:Dr K G H (.tuple ds) v):∃a vs,v=.ref a/\H a=some (.tup vs)/\Dps K G ds vs:=by
 cases h with|of h=>cases h with|tuple h r=>exact⟨_,_,rfl,s _ _ h,r⟩
theorem Dr.scr (s:Same G H)(h:Dr K G H (.scr ns) v):∃a,v=.ref a/\SqL K H a (ns.map V.int):=by
 cases h with|of h=>cases h with|scr h=>exact⟨_,rfl,s.seq h⟩
def Dr.dp (h:Dr K G H d v)(o:bo d=false):Dp K G d v:=by
 cases h with
 |of h=>exact h
 |list=>cases o
 |dict=>cases o
 |vlt=>cases o
end
def OwnAt (K:Fg)(G H:Hp)(d:D)(p:Addr):Prop:=(∃ds vs,d=.list ds/\H p=some (.lst vs)/\Dps K G ds vs)\/∃kvs ws,d=.dict kvs/\H p=some (.dK ws)/\Dks K G kvs ws
def RowsAt (K:Fg)(G H0 H:Hp)(rows:List (List D))(qs:List Addr):Prop:=qs.length=rows.length/\∀(k:Nat) row q,rows[k]?=some row->qs[k]?=some q->G q=Option.none/\H0 q=Option.none/\∃vs,H q=some (.lst vs)/\Dps K G row vs
def DeepAt (K:Fg)(G H0 H:Hp)(rows:List (List D))(p:Addr):Prop:=∃qs:List Addr,H p=some (.lst (qs.map .ref))/\G p=Option.none/\H0 p=Option.none/\(p::qs).Nodup/\RowsAt K G H0 H rows qs
structure EnvD (K:Fg)(G0 H0 G H:Hp)(σ:St)(ρ:List Sl):Prop where
 ext:Ext G0 H0 G H
 len:σ.length=ρ.length
 dat:∀(i:Nat) d,ρ[i]?=some (.dat d)->∃v,σ[i]?=some (some v)/\Dp K G d v
 lent:∀(i:Nat) d,ρ[i]?=some (.lent d)->∃v,σ[i]?=some (some v)/\Dr K G0 H0 d v
 own:∀(i:Nat) d,ρ[i]?=some (.own d)->∃p,σ[i]?=some (some (.ref p))/\G p=Option.none/\H0 p=Option.none/\OwnAt K G H d p
 apart:∀(i j:Nat) d e p,ρ[i]?=some (.own d)->ρ[j]?=some (.own e)->σ[i]?=some (some (.ref p))->σ[j]?=some (some (.ref p))->i=j
 deep:∀(i:Nat) rows,ρ[i]?=some (.deep rows)->(∃p,σ[i]?=some (some (.ref p))/\DeepAt K G H0 H rows p)/\(∀(j:Nat) d,ρ[j]?≠some (.own d))/\∀(j:Nat) rows',ρ[j]?=some (.deep rows')->j=i
section
variable {G:Hp}
def OwnAt.ext {p:Addr}(e:Ext G H G' H'):OwnAt K G H d p->OwnAt K G' H' d p
 |.inl ⟨ds,vs,h1,h2,h3⟩=>.inl ⟨ds,vs,h1,e.hh _ _ h2,h3.mono e.gg⟩
 |.inr ⟨ds,vs,h1,h2,h3⟩=>.inr ⟨ds,vs,h1,e.hh _ _ h2,h3.mono e.gg⟩
def OwnAt.dr {p:Addr}:OwnAt K G H d p->Dr K G H d (.ref p)
 |.inl ⟨ds,vs,h1,h2,h3⟩=>by rw[h1];exact .list h2 h3
 |.inr ⟨ds,vs,h1,h2,h3⟩=>by rw[h1];exact .dict h2 h3
theorem OwnAt.some {p:Addr}:OwnAt K G H d p->∃o,H p=.some o
 |.inl ⟨ds,vs,h1,h2,h3⟩=>⟨_,h2⟩
 |.inr ⟨ds,vs,h1,h2,h3⟩=>⟨_,h2⟩
theorem OwnAt.notIns {p:Addr}{o:HO}:OwnAt K G (upd H p o) d p->notIns o=true
 |.inl ⟨ds,vs,h1,h2,h3⟩=>by rw[ae] at h2;cases h2;rfl
 |.inr ⟨ds,vs,h1,h2,h3⟩=>by rw[ae] at h2;cases h2;rfl
def RowsAt.ext {rows:List (List D)}{qs:List Addr}(e:Ext G H G' H')(h:RowsAt K G H0 H rows qs):RowsAt K G' H0 H' rows qs:=
 ⟨h.1,fun k row q h1 h2=>let ⟨a,b,vs,c,d⟩:=h.2 k _ q h1 h2;⟨e.nw _ _ a c,b,vs,e.hh _ _ c,d.mono e.gg⟩⟩
theorem DeepAt.ext {rows:List (List D)}{p:Addr}(e:Ext G H G' H'):DeepAt K G H0 H rows p->DeepAt K G' H0 H' rows p
 |⟨qs,a,b,c,d,r⟩=>⟨qs,e.hh _ _ a,e.nw _ _ b a,c,d,r.ext e⟩
def EnvD.sub (E:EnvD K G0 H0 G H σ ρ):Same G H:=E.ext.gh
def EnvD.step (E:EnvD K G0 H0 G H σ ρ)(e:Ext G H G' H'):EnvD K G0 H0 G' H' σ ρ:=
 ⟨E.ext.trans e,E.len,fun i d h=>let ⟨v,a,b⟩:=E.dat i d h;⟨v,a,b.mono e.gg⟩,E.lent,
  fun i ds h=>let ⟨p,a,c,f,g⟩:=E.own i ds h;let ⟨o,ho⟩:=g.some;⟨p,a,e.nw _ _ c ho,f,g.ext e⟩,E.apart,fun i rows h=>let ⟨⟨p,a,b⟩,c⟩:=E.deep i _ h;⟨⟨p,a,b.ext e⟩,c⟩⟩
theorem EnvD.read (E:EnvD K G0 H0 G H σ ρ)(h:ρ[i]?=some sl)(hd:az .read sl=some d):∃v,σ[i]?=some (some v)/\Dr K G H d v:=by
 cases sl with
 |no=>cases hd
 |dat d'=>cases hd;obtain⟨v,a,b⟩:=E.dat i d h;exact⟨v,a,.of b⟩
 |lent d'=>cases hd;obtain⟨v,a,b⟩:=E.lent i d h;exact⟨v,a,b.ext E.ext⟩
 |own d'=>cases hd;obtain⟨p,a,_,_,b⟩:=E.own i d h;exact⟨_,a,b.dr⟩
 |deep rows=>cases hd
set_option tactic.hygienic true in
theorem EnvD.val (E:EnvD K G0 H0 G H σ ρ)(h:ρ[i]?=some sl)(hd:az .val sl=some d):∃v,σ[i]?=some (some v)/\Dp K G d v:=by
 cases sl with
 |no=>cases hd
 |dat d'=>cases hd;exact E.dat i d h
 |lent d'=>
  rw[nU] at hd;split at hd
  ·cases hd
  ·rename_i c
   cases hd;obtain⟨v,a,b⟩:=E.lent i d h;exact⟨v,a,(b.ext E.ext).dp (by simpa using c)⟩
 |own d'=>cases hd
 |deep rows=>cases hd
def getE_set {l:List α}{x y:α}(h:(l.set i x)[j]?=some y):(j=i/\y=x)\/(j≠i/\l[j]?=some y):=by
 by_cases e:j=i
 ·subst e
  by_cases q:j<l.length
  ·rw[gs0 q] at h;exact .inl ⟨rfl,(Option.some.inj h).symm⟩
  ·have:(l.set j x)[j]?=Option.none:=List.getElem?_eq_none_iff.mpr (by simp;simp_all)
   rw[this] at h;cases h
 ·rw[gn0 (Ne.symm e)] at h;exact .inr ⟨e,h⟩
theorem EnvD.set {v:V}(E:EnvD K G0 H0 G H σ ρ)(hi:i<σ.length)(h:Dp K G d v):EnvD K G0 H0 G H (σ.set i (some v)) (ρ.set i (.dat d)):=by
 refine⟨E.ext,by simp[E.len],fun j e hj=>?_,fun j e hj=>?_,fun j ds hj=>?_,fun j k ds es p hj hk aj ak=>?_,fun j rows hj=>?_⟩
 ·rcases getE_set hj with⟨rfl,q⟩|⟨ne,q⟩
  ·cases q;exact⟨v,gs0 hi,h⟩
  ·rw[gn0 (Ne.symm ne)];exact E.dat j e q
 ·rcases getE_set hj with⟨rfl,q⟩|⟨ne,q⟩
  ·cases q
  ·rw[gn0 (Ne.symm ne)];exact E.lent j e q
 ·rcases getE_set hj with⟨rfl,q⟩|⟨ne,q⟩
  ·cases q
  ·rw[gn0 (Ne.symm ne)];exact E.own j ds q
 ·rcases getE_set hj with⟨rfl,q⟩|⟨nj,q⟩
  ·cases q
  rcases getE_set hk with⟨rfl,r⟩|⟨nk,r⟩
  ·cases r
  rw[gn0 (Ne.symm nj)] at aj;rw[gn0 (Ne.symm nk)] at ak;exact E.apart j k ds es p q r aj ak
 ·rcases getE_set hj with⟨rfl,q⟩|⟨ne,q⟩
  ·cases q
  ·obtain⟨⟨p,a,b⟩,c1,c2⟩:=E.deep j rows q
   refine⟨⟨p,by rw[gn0 (Ne.symm ne)];exact a,b⟩,fun k e hk=>?_,fun k r hk=>?_⟩
   ·rcases getE_set hk with⟨_,z⟩|⟨_,z⟩<;>simp_all
   ·rcases getE_set hk with⟨_,z⟩|⟨_,z⟩
    ·cases z
    ·exact c2 k r z
def EnvD.setOwn {p:Addr}(E:EnvD K G0 H0 G H σ ρ)(hi:i<σ.length)(hO:OwnAt K G H d p)(hG:G p=Option.none)(h0:H0 p=Option.none)
  (hD:∀(j:Nat) rows,ρ[j]?≠some (.deep rows)) (new:∀(j:Nat) e,ρ[j]?=some (.own e)->σ[j]?≠some (some (.ref p))):EnvD K G0 H0 G H (σ.set i (some (.ref p))) (ρ.set i (.own d)):=by
 refine⟨E.ext,by simp[E.len],fun j e hj=>?_,fun j e hj=>?_,fun j es hj=>?_,fun j k es fs q hj hk aj ak=>?_,fun j rows hj=>?_⟩
 ·rcases getE_set hj with⟨rfl,z⟩|⟨ne,z⟩
  ·cases z
  ·rw[gn0 (Ne.symm ne)];exact E.dat j e z
 ·rcases getE_set hj with⟨rfl,z⟩|⟨ne,z⟩
  ·cases z
  ·rw[gn0 (Ne.symm ne)];exact E.lent j e z
 ·rcases getE_set hj with⟨rfl,z⟩|⟨ne,z⟩
  ·cases z;exact⟨p,gs0 hi,hG,h0,hO⟩
  ·rw[gn0 (Ne.symm ne)];exact E.own j es z
 ·rcases getE_set hj with⟨ej,_⟩|⟨nj,hj'⟩
  ·rcases getE_set hk with⟨ek,_⟩|⟨nk,hk'⟩
   ·rw[ej,ek]
   ·rw[ej,gs0 hi] at aj
    rw[gn0 (Ne.symm nk)] at ak;cases aj;exact absurd ak (new k fs hk')
  ·rw[gn0 (Ne.symm nj)] at aj
   rcases getE_set hk with⟨ek,_⟩|⟨nk,hk'⟩
   ·rw[ek,gs0 hi] at ak
    cases ak;exact absurd aj (new j es hj')
   ·rw[gn0 (Ne.symm nk)] at ak
    exact E.apart j k es fs q hj' hk' aj ak
 ·rcases getE_set hj with⟨rfl,q⟩|⟨ne,q⟩
  ·cases q
  ·exact (hD j rows q).elim
def EnvD.fresh {p:Addr}(E:EnvD K G0 H0 G H σ ρ)(hp:H p=Option.none):∀(j:Nat) e,ρ[j]?=some (.own e)->σ[j]?≠some (some (.ref p)):=fun j es hj hσ=>by
 obtain⟨q,a,_,_,b⟩:=E.own j es hj;obtain⟨o,ho⟩:=b.some
 grind
def EnvD.change {e:D}{p:Addr}{o:HO}(E:EnvD K G0 H0 G H σ ρ)(hi:ρ[i]?=some (.own d))(hp:σ[i]?=some (some (.ref p)))(h:OwnAt K G (upd H p o) e p):
  EnvD K G0 H0 G (upd H p o) σ (ρ.set i (.own e)):=by
 obtain⟨p',a,c,f,g⟩:=E.own i d hi;rw[hp] at a;cases a;refine⟨⟨fun x o e=>?_,E.ext.gg,fun x o e=>?_,E.ext.nw,fun x C dx fs q=>E.ext.ni x C dx fs (cg h.notIns x C dx fs q)⟩,by simp[E.len],fun j e hj=>?_,fun j e hj=>?_,fun j fs hj=>?_,fun j k fs gs q hj hk aj ak=>?_,fun j rows hj=>?_⟩
 ·rw[aa (ag e f)];exact E.ext.hh x o e
 ·rw[aa (ag e c)];exact E.ext.gh x o e
 ·rcases getE_set hj with⟨rfl,z⟩|⟨ne,z⟩
  ·cases z
  ·exact E.dat j e z
 ·rcases getE_set hj with⟨rfl,z⟩|⟨ne,z⟩
  ·cases z
  ·exact E.lent j e z
 ·rcases getE_set hj with⟨rfl,z⟩|⟨ne,z⟩
  ·cases z;exact⟨p,hp,c,f,h⟩
  ·obtain⟨q,a',c',f',g'⟩:=E.own j fs z
   have qp:q≠p:=by
    rintro rfl
    exact ne (E.apart j i fs d q z hi a' hp)
   refine⟨q,a',c',f',?_⟩;rcases g' with⟨ds,vs,h1,h2,h3⟩|⟨ds,vs,h1,h2,h3⟩
   ·exact .inl ⟨ds,vs,h1,by rw[aa qp];exact h2,h3⟩
   ·exact .inr ⟨ds,vs,h1,by rw[aa qp];exact h2,h3⟩
 ·have hj':∃fs',ρ[j]?=some (.own fs'):=by
   rcases getE_set hj with⟨rfl,_⟩|⟨_,z⟩
   ·exact⟨d,hi⟩
   ·exact⟨fs,z⟩
  have hk':∃fs',ρ[k]?=some (.own fs'):=by
   rcases getE_set hk with⟨rfl,_⟩|⟨_,z⟩
   ·exact⟨d,hi⟩
   ·exact⟨gs,z⟩
  obtain⟨_,hj'⟩:=hj';obtain⟨_,hk'⟩:=hk';exact E.apart j k _ _ q hj' hk' aj ak
 ·rcases getE_set hj with⟨rfl,z⟩|⟨ne,z⟩
  ·cases z
  ·exact ((E.deep j rows z).2.1 i d hi).elim
def EnvD.freeze1 (E:EnvD K G0 H0 G H σ ρ)(hi:ρ[i]?=some (.own d)):∃G',EnvD K G0 H0 G' H σ (ρ.set i (.dat d))/\Same G G':=by
 obtain⟨p,a,c,f,g⟩:=E.own i d hi;obtain⟨o,b⟩:=g.some;have gs:Same G (upd G p o):=aV c;refine⟨upd G p o,⟨E.ext.show f b c,by simp[E.len],fun j e hj=>?_,fun j e hj=>?_,fun j fs hj=>?_,fun j k fs hs q hj hk aj ak=>?_,fun j rows hj=>?_⟩,gs⟩
 ·rcases getE_set hj with⟨rfl,z⟩|⟨ne,z⟩
  ·cases z
   refine⟨_,a,?_⟩;rcases g with⟨ds,vs,h1,h2,h3⟩|⟨ds,vs,h1,h2,h3⟩
   ·rw[h2] at b;cases b
    rw[h1];exact .list ae (h3.mono gs)
   ·rw[h2] at b;cases b
    rw[h1];exact .dict ae (h3.mono gs)
  ·obtain⟨v,x,y⟩:=E.dat j e z;exact⟨v,x,y.mono gs⟩
 ·rcases getE_set hj with⟨rfl,z⟩|⟨ne,z⟩
  ·cases z
  ·exact E.lent j e z
 ·rcases getE_set hj with⟨rfl,z⟩|⟨ne,z⟩
  ·cases z
  ·obtain⟨q,a',c',f',g'⟩:=E.own j fs z
   refine⟨q,a',?_,f',?_⟩
   ·rw[aa]
    ·exact c'
    ·rintro rfl
     exact ne (E.apart j i fs d q z hi a' a)
   ·rcases g' with⟨ds,vs,h1,h2,h3⟩|⟨ds,vs,h1,h2,h3⟩
    ·exact .inl ⟨ds,vs,h1,h2,h3.mono gs⟩
    ·exact .inr ⟨ds,vs,h1,h2,h3.mono gs⟩
 ·rcases getE_set hj with⟨rfl,z⟩|⟨nj,z⟩
  ·cases z
  rcases getE_set hk with⟨rfl,y⟩|⟨nk,y⟩
  ·cases y
  exact E.apart j k fs hs q z y aj ak
 ·rcases getE_set hj with⟨rfl,z⟩|⟨ne,z⟩
  ·cases z
  ·exact ((E.deep j rows z).2.1 i d hi).elim
def EnvD.freezeD {rows:List (List D)}(E:EnvD K G0 H0 G H σ ρ)(hi:ρ[i]?=some (.deep rows)):∃G',EnvD K G0 H0 G' H σ (ρ.set i (.dat (.list (rows.map .list))))/\Same G G':=by
 obtain⟨⟨p,a,qs,b1,b2,b3,b4,b5⟩,c1,c2⟩:=E.deep i rows hi;have hrow:∀q∈qs,G q=Option.none/\H0 q=Option.none:=fun q hq=>by
  obtain⟨k,hk⟩:=List.getElem?_of_mem hq;have hl:k<rows.length:=by rw[←b5.1];exact (gi0 hk).1
  obtain⟨x,y,_⟩:=b5.2 k _ q (ge0 hl) hk;exact⟨x,y⟩
 have hall:∀q∈p::qs,G q=Option.none/\H0 q=Option.none:=fun q hq=>by
  rcases mq0 hq with rfl|hq
  ·exact⟨b2,b3⟩
  ·exact hrow q hq
 let G':Hp:=fun b=>if b∈p::qs then H b else G b
 have gin:∀b,b∈p::qs->G' b=H b:=fun b h=>if_pos h
 have gout:∀b,b∉p::qs->G' b=G b:=fun b h=>if_neg h
 have gs:Same G G':=fun b o e=>by
  rw[gout b fun h=>by rw[(hall b h).1] at e;cases e];exact e
 have gh:Same G' H:=fun b o e=>by
  by_cases h:b∈p::qs
  ·rw[gin b h] at e;exact e
  ·rw[gout b h] at e;exact E.ext.gh b o e
 have il:i<ρ.length:=(gi0 hi).1;refine⟨G',⟨⟨E.ext.hh,E.ext.gg.trans gs,gh,fun b o e1 e2=>?_,E.ext.ni⟩,by simp[E.len],fun j e hj=>?_,fun j e hj=>?_,fun j fs hj=>?_,fun j k fs hs q hj hk aj ak=>?_,fun j r hj=>?_⟩,gs⟩
 ·rw[gout b fun h=>by rw[(hall b h).2] at e2;cases e2];exact E.ext.nw b o e1 e2
 ·rcases getE_set hj with⟨rfl,z⟩|⟨ne,z⟩
  ·cases z
   refine⟨_,a,.list ((gin p ms0).trans b1) ?_⟩;have key:∀(rows:List (List D)) (qs':List Addr),(∀q∈qs',q∈p::qs)->RowsAt K G H0 H rows qs'->Dps K G' (rows.map .list) (qs'.map .ref):=by
    intro rows
    induction rows with
    |nil=>
         intro qs' _ h;have:qs'=[]:=ez0 h.1;subst this;exact .nil
    |cons r rs ih=>
     intro qs' hm h;cases qs' with
     |nil=>exact absurd h.1 (by simp)
     |cons q qs2=>
      obtain⟨_,_,vs,h2,h3⟩:=h.2 0 r q rfl rfl;refine .cons (.list ((gin q (hm q ms0)).trans h2) (h3.mono gs)) (ih qs2 (fun x hx=>hm x (mc0 _ hx)) ⟨by simpa using h.1,fun k row x e1 e2=>h.2 (k+1) row x e1 e2⟩)
   exact key rows qs (fun q hq=>mc0 _ hq) b5
  ·obtain⟨v,x,y⟩:=E.dat j e z;exact⟨v,x,y.mono gs⟩
 ·rcases getE_set hj with⟨rfl,z⟩|⟨ne,z⟩
  ·cases z
  ·exact E.lent j e z
 ·rcases getE_set hj with⟨rfl,z⟩|⟨ne,z⟩
  ·cases z
  ·exact (c1 j fs z).elim
 ·rcases getE_set hj with⟨rfl,z⟩|⟨nj,z⟩
  ·cases z
  ·exact (c1 j fs z).elim
 ·rcases getE_set hj with⟨rfl,z⟩|⟨ne,z⟩
  ·cases z
  ·exact absurd (c2 j r z) ne
def dJ (h:ρ[i]?=some sl)(hf:freeze sl=.dat d):(ρ.set i (.dat d)).map freeze=ρ.map freeze:=by
 apply List.ext_getElem?
 intro j;rw[gm0,gm0]
 by_cases e:j=i
 ·subst e
  rw[gs0 (gi0 h).1]
  simp_all
 ·rw[gn0 (Ne.symm e)]
theorem EnvD.freeze (E:EnvD K G0 H0 G H σ ρ):∃G',EnvD K G0 H0 G' H σ (ρ.map freeze)/\Same G G':=by
 have key:∀(n:Nat) (G:Hp) (ρ:List Sl),(ρ.filter fun|.own _=>true|_=>false).length≤n->EnvD K G0 H0 G H σ ρ->∃G',EnvD K G0 H0 G' H σ (ρ.map SI.freeze)/\Same G G':=by
  intro n
  induction n with
  |zero=>
   intro G ρ hn E;have no:∀sl∈ρ,∀d,sl≠Sl.own d:=fun sl hs d e=>by
    subst e;have:Sl.own d∈ρ.filter fun|.own _=>true|_=>false:=List.mem_filter.mpr ⟨hs,rfl⟩
    rw[ez0 (Nat.le_zero.mp hn)] at this;cases this
   have idm:∀ρ:List Sl,(∀sl∈ρ,∀d,sl≠Sl.own d)->(∀(i:Nat) rows,ρ[i]?≠some (Sl.deep rows))->ρ.map SI.freeze=ρ:=fun ρ no nd=>by
    conv=>rhs;rw[←List.map_id ρ]
    apply List.map_congr_left
    intro sl hs;cases sl with
    |own d=>exact absurd rfl (no _ hs d)
    |deep rows=>
     obtain⟨i,hi⟩:=List.getElem?_of_mem hs;exact absurd hi (nd i rows)
    |no=>rfl
    |dat d=>rfl
    |lent d=>rfl
   by_cases c:∃(i:Nat) (rows:List (List D)),ρ[i]?=some (Sl.deep rows)
   ·obtain⟨i,rows,hi⟩:=c
    obtain⟨G1,E1,s1⟩:=E.freezeD hi;have e:(ρ.set i (.dat (.list (rows.map .list)))).map SI.freeze=ρ.set i (.dat (.list (rows.map .list))):=idm _ (fun sl hs d=>by
     rcases List.mem_or_eq_of_mem_set hs with h|h
     ·exact no sl h d
     ·rw[h];intro z;cases z) fun j r hj=>by
     rcases getE_set hj with⟨_,z⟩|⟨ne,z⟩
     ·cases z
     ·exact ne ((E.deep i rows hi).2.2 j r z)
    rw[←dJ hi rfl,e];exact⟨G1,E1,s1⟩
   ·rw[idm ρ no fun i rows h=>c ⟨i,rows,h⟩]
    exact⟨G,E,Same.refl _⟩
  |succ n ih=>
   intro G ρ hn E
   by_cases c:∃(i:Nat) (d:D),ρ[i]?=some (Sl.own d)
   ·obtain⟨i,d,hi⟩:=c
    obtain⟨G1,E1,s1⟩:=E.freeze1 hi;have il:i<ρ.length:=(gi0 hi).1;have hlt:((ρ.set i (.dat d)).filter fun|.own _=>true|_=>false).length<(ρ.filter fun|.own _=>true|_=>false).length:=by
     have s1:ρ=ρ.take i++Sl.own d::ρ.drop (i+1):=by
      conv=>lhs;rw[←List.take_append_drop i ρ,List.drop_eq_getElem_cons il]
      rw[(gi0 hi).2]
     have s2:ρ.set i (.dat d)=ρ.take i++Sl.dat d::ρ.drop (i+1):=by rw[List.set_eq_take_append_cons_drop,if_pos il]
     rw[s2]
     conv=>rhs;rw[s1]
     simp only[List.filter_append,List.filter_cons,la0];simp
    obtain⟨G2,E2,s2⟩:=ih G1 _ (by grind) E1;rw[dJ hi rfl] at E2;exact⟨G2,E2,s1.trans s2⟩
   ·refine ih G ρ ?_ E
    have:(ρ.filter fun|.own _=>true|_=>false)=[]:=by
     rw[List.filter_eq_nil_iff];intro sl hs;obtain⟨i,hi⟩:=List.getElem?_of_mem hs;cases sl with
     |own d=>exact absurd ⟨i,d,hi⟩ c
     |_=>exact fx0
    rw[this];exact Nat.zero_le _
 exact key _ G ρ (nr0 _) E
end
inductive Das (K:Fg)(G H:Hp):List Bool->List D->List V->Prop
 |nil {fl:List Bool}:Das K G H fl [] []
 |cons {fl:List Bool} {d:D} {v:V} {ds:List D} {vs:List V}:(fl.headD false=false->Dp K G d v)->Dr K G H d v->Das K G H fl.tail ds vs->Das K G H fl (d::ds) (v::vs)
theorem Das.dps {G:Hp}:∀{ds:List D} {vs:List V},Das K G H [] ds vs->Dps K G ds vs
 |_,_,.nil=>.nil
 |_,_,.cons h1 _ r=>.cons (h1 rfl) (Das.dps r)
theorem Das.length {G:Hp}(h:Das K G H fl ds vs):ds.length=vs.length:=by
 induction h<;>simp_all
noncomputable def tEv (K:Fg)(ρ:List Sl)(d:D):TE:=fun σ H Q=>∃G0 H0 G,EnvD K G0 H0 G H σ ρ/\∀v G' H',Ext G H G' H'->Dp K G' d v->Q v H'
noncomputable def tEr (K:Fg)(ρ:List Sl)(d:D):TE:=fun σ H Q=>∃G0 H0 G,EnvD K G0 H0 G H σ ρ/\∀v G' H',Ext G H G' H'->Dr K G' H' d v->Q v H'
noncomputable def tEt (K:Fg)(ρ:List Sl)(b:Bool):TT:=fun σ H Q=>∃G0 H0 G,EnvD K G0 H0 G H σ ρ/\∀G' H',Ext G H G' H'->Q b H'
noncomputable def tEa (K:Fg)(ρ:List Sl)(fl:List Bool)(ds:List D):TA:=fun σ H Q=>∃G0 H0 G,EnvD K G0 H0 G H σ ρ/\∀vs G' H',Ext G H G' H'->Das K G' H' fl ds vs->Q vs H'
noncomputable def tEn (K:Fg)(ρ:List Sl)(d:D):TE:=fun σ H Q=>∃G0 H0 G,EnvD K G0 H0 G H σ ρ/\∀p G' H',Ext G H G' H'->G' p=Option.none->H p=Option.none->OwnAt K G' H' d p->Q (.ref p) H'
def Ev (X:Cx)(ρ:List Sl)(e:Expr)(d:D):Prop:=PE X e (tEv X.K ρ d)
def Er (X:Cx)(ρ:List Sl)(e:Expr)(d:D):Prop:=PE X e (tEr X.K ρ d)
def Et (X:Cx)(ρ:List Sl)(e:Expr)(b:Bool):Prop:=PT X e (tEt X.K ρ b)
def Ew (X:Cx)(ρ:List Sl)(e:Expr)(b:Bool):Prop:=PW X e (tEt X.K ρ b)
def Ea (X:Cx)(ρ:List Sl)(fl:List Bool)(es:List Expr)(ds:List D):Prop:=PA X es (tEa X.K ρ fl ds)
def En (X:Cx)(ρ:List Sl)(e:Expr)(d:D):Prop:=PE X e (tEn X.K ρ d)
theorem OwnAt.show {G:Hp}{p:Addr}(e:Ext G H G' H')(g:G' p=Option.none)(h0:H p=Option.none)(o:OwnAt K G' H' d p):∃G2,Ext G H G2 H'/\Dp K G2 d (.ref p):=by
 obtain⟨ob,ho⟩:=o.some;refine⟨_,e.show h0 ho g,?_⟩;rcases o with⟨ds,vs,h1,h2,h3⟩|⟨ds,vs,h1,h2,h3⟩
 ·rw[h2] at ho;cases ho;rw[h1];exact .list ae (h3.mono (aV g))
 ·rw[h2] at ho;cases ho;rw[h1];exact .dict ae (h3.mono (aV g))
def En.ev {e:Expr}(h:En X ρ e d):Ev X ρ e d:=fun pins s σ H Q I ⟨G0,H0,G,E,k⟩=>
 h _ s σ H Q I ⟨G0,H0,G,E,fun p G' H' e g h0 o=>let ⟨G2,e2,r⟩:=o.show e g h0;k _ G2 H' e2 r⟩
def Ev.er {e:Expr}(h:Ev X ρ e d):Er X ρ e d:=by rintro pins s σ H Q I ⟨G0,H0,G,E,k⟩;exact h pins s σ H Q I ⟨G0,H0,G,E,fun v G' H' e r=>k v G' H' e (.of r)⟩
def Ew.et {e:Expr}{b:Bool}(h:Ew X ρ e b):Et X ρ e b:=PW.pt h
def De {i j pos}:Ev X ρ (.Constant (.int i) j pos) (.int i):=by rintro pins s σ H Q I ⟨G0,H0,G,E,k⟩;exact nz pins s σ H Q I (k _ G H (.refl E.sub) (.int i))
def Gp {b j pos}:Ev X ρ (.Constant (.bool b) j pos) (.bool b):=by rintro pins s σ H Q I ⟨G0,H0,G,E,k⟩;exact Fp pins s σ H Q I (k _ G H (.refl E.sub) (.bool b))
def Df {j pos}:Ev X ρ (.Constant .none j pos) .none:=by rintro pins s σ H Q I ⟨G0,H0,G,E,k⟩;exact tG pins s σ H Q I (k _ G H (.refl E.sub) .none)
def Dg {x j pos}(h:PyData.strOk x=true):Ev X ρ (.Constant (.str x) j pos) (.str x):=by rintro pins s σ H Q I ⟨G0,H0,G,E,k⟩;exact Ci pins s σ H Q I (k _ G H (.refl E.sub) (.str x h))
def Dh (i:Nat)(h:(ρ[i]?).bind (az .val)=some d)(hN:X.N[i]?=some x)(hv:Vis X.env.scope x)(hd:(x==("__debug__":Str))=false)(hcd:(x==("__classdict__":Str))=false):Ev X ρ (.Name x pos) d:=by
 rintro pins s σ H Q I ⟨G0,H0,G,E,k⟩
 obtain⟨sl,h1,h2⟩:=bx0 h;obtain⟨v,e,r⟩:=E.val h1 h2;exact bL hN hv hd hcd _ s σ H Q I ⟨v,e,k v G H (.refl E.sub) r⟩
def uz (i:Nat)(h:(ρ[i]?).bind (az .read)=some d)(hN:X.N[i]?=some x)(hv:Vis X.env.scope x)(hd:(x==("__debug__":Str))=false)(hcd:(x==("__classdict__":Str))=false):Er X ρ (.Name x pos) d:=by
 rintro pins s σ H Q I ⟨G0,H0,G,E,k⟩
 obtain⟨sl,h1,h2⟩:=bx0 h;obtain⟨v,e,r⟩:=E.read h1 h2;exact bL hN hv hd hcd _ s σ H Q I ⟨v,e,k v G H (.refl E.sub) r⟩
def af {e:Expr}(h:isStar e=false):starEach (e::es) env=(false,eval e env)::starEach es env:=by cases e<;>first|rfl|cases h
def kC :Ea X ρ fl [] []:=by rintro pos pins s σ H Q I ⟨G0,H0,G,E,k⟩;exact aQ pos pins s σ H Q I (k [] G H (.refl E.sub) .nil)
def fh {e:Expr}(he:Ev X ρ e d)(hr:Ea X ρ fl.tail es ds)(hs:isStar e=false):Ea X ρ fl (e::es) (d::ds):=
 by rintro pos pins s σ H Q I ⟨G0,H0,G,E,k⟩;exact ax he hr (af hs) pos pins s σ H Q I ⟨G0,H0,G,E,fun v G1 H1 e1 r1=>
  ⟨G0,H0,G1,E.step e1,fun vs G2 H2 e2 r2=>k _ G2 H2 (e1.trans e2) (.cons (fun a=>r1.mono e2.gg) (.of (r1.mono e2.gg)) r2)⟩⟩
def uA {e:Expr}(he:Er X ρ e d)(hf:fl.headD false=true)(hr:Ea X ρ fl.tail es ds)(hs:isStar e=false):Ea X ρ fl (e::es) (d::ds):=
 fun pos pins s σ H Q I ⟨G0,H0,G,E,k⟩=>ax he hr (af hs) _ _ s σ H Q I ⟨G0,H0,G,E,fun v G1 H1 e1 r1=>
  ⟨G0,H0,G1,E.step e1,fun vs G2 H2 e2 r2=>k _ G2 H2 (e1.trans e2) (.cons (fun c=>by simp_all) (r1.ext e2) r2)⟩⟩
abbrev R2r (K:Fg)(r:R2)(d1 d2 d:D):Prop:=∀(x y:V) (G H:Hp) (Q:VK),Same G H->Dr K G H d1 x->Dr K G H d2 y->(∀v G' H',Ext G H G' H'->Dp K G' d v->Q v H')->r x y H Q
abbrev R2n (K:Fg)(r:R2)(d1 d2 d:D):Prop:=∀(x y:V) (G H:Hp) (Q:VK),Same G H->Dr K G H d1 x->Dr K G H d2 y->(∀p G' H',Ext G H G' H'->G' p=Option.none->H p=Option.none->OwnAt K G' H' d p->Q (.ref p) H')->r x y H Q
def ev_op {op:Operator}{r:R2}(ho:OpR X (binaryOp op) r)(ha:Er X ρ a d1)(hb:Er X ρ b d2)(h:R2r X.K r d1 d2 d):Ev X ρ (.BinOp a op b pos) d:=
 fun pins s σ H Q I ⟨G0,H0,G,E,k⟩=>lE ho ha hb _ s σ H Q I ⟨G0,H0,G,E,fun x G1 H1 e1 r1=>⟨G0,H0,G1,E.step e1,fun y G2 H2 e2 r2=>
  h x y G2 H2 Q e2.gh (r1.ext e2) r2 fun v G' H' e3 r3=>k v G' H' (e1.trans (e2.trans e3)) r3⟩⟩
def en_op {op:Operator}{r:R2}(ho:OpR X (binaryOp op) r)(ha:Er X ρ a d1)(hb:Er X ρ b d2)(h:R2n X.K r d1 d2 d):En X ρ (.BinOp a op b pos) d:=
 by rintro pins s σ H Q I ⟨G0,H0,G,E,k⟩;exact lE ho ha hb pins s σ H Q I ⟨G0,H0,G,E,fun x G1 H1 e1 r1=>⟨G0,H0,G1,E.step e1,fun y G2 H2 e2 r2=>
  h x y G2 H2 Q e2.gh (r1.ext e2) r2 fun p G' H' e3 g3 h3 r3=>k p G' H' (e1.trans (e2.trans e3)) g3 (e1.hh.free (e2.hh.free h3)) r3⟩⟩
def Di {op:CmpOp}{r:R2}(ho:OpR X (compareOp op) r)(ha:Er X ρ a d1)(hb:Er X ρ b d2)(h:R2r X.K r d1 d2 d)(hm:behindInMarks op b=false):Ev X ρ (.Compare a [op] [b] pos) d:=
 fun pins s σ H Q I ⟨G0,H0,G,E,k⟩=>yy ho ha hb hm _ s σ H Q I ⟨G0,H0,G,E,fun x G1 H1 e1 r1=>⟨G0,H0,G1,E.step e1,fun y G2 H2 e2 r2=>
  h x y G2 H2 Q e2.gh (r1.ext e2) r2 fun v G' H' e3 r3=>k v G' H' (e1.trans (e2.trans e3)) r3⟩⟩
def Dj {op:CmpOp}{r:R2}(ho:OpR X (compareOp op) r)(ha:Er X ρ a d1)(hb:Er X ρ b d2)(h:R2r X.K r d1 d2 (.bool t))(hm:behindInMarks op b=false):Et X ρ (.Compare a [op] [b] pos) t:=
 by rintro pins s σ H Q I ⟨G0,H0,G,E,k⟩;exact gR ho ha hb hm pins s σ H Q I ⟨G0,H0,G,E,fun x G1 H1 e1 r1=>⟨G0,H0,G1,E.step e1,fun y G2 H2 e2 r2=>
  h x y G2 H2 _ e2.gh (r1.ext e2) r2 fun v G' H' e3 r3=>by
   cases r3;exact⟨t,rfl,k G' H' (e1.trans (e2.trans e3))⟩⟩⟩
def pX {r:R2}(hr:IxR X r)(ha:Er X ρ a d1)(hb:Ev X ρ b d2)(h:R2r X.K r d1 d2 d)(hs:isSlice b=false):Ev X ρ (.Subscript a b pos) d:=
 fun pins s σ H Q I ⟨G0,H0,G,E,k⟩=>pL hr ha hb (by cases b<;>first|exact fun c c=>rfl|cases hs) _ s σ H Q I ⟨G0,H0,G,E,fun x G1 H1 e1 r1=>⟨G0,H0,G1,E.step e1,fun y G2 H2 e2 r2=>
  h x y G2 H2 Q e2.gh (r1.ext e2) (.of r2) fun v G' H' e3 r3=>k v G' H' (e1.trans (e2.trans e3)) r3⟩⟩
def lS {g:Int->Int->V}{i j:Int}(hg:∀G,Dp K G d (g i j)):R2r K (rI0 g) (.int i) (.int j) d:=fun x y G H Q s hx hy k=>⟨i,j,hx.int,hy.int,k _ G H (.refl s) (hg G)⟩
def r2_I {C:Int->Int->Prop}{g:Int->Int->V}{i j:Int}(hC:C i j)(hg:∀G,Dp K G d (g i j)):R2r K (rI C g) (.int i) (.int j) d:=fun x y G H Q s hx hy k=>⟨i,j,hx.int,hy.int,hC,k _ G H (.refl s) (hg G)⟩
def big_eq:SI.big=sizeLine:=rfl
def fj (hx:PyData.strOk x=true)(hy:PyData.strOk y=true):PyData.strOk (x++y)=true:=by
 have e:(x++y).cps=x.cps++y.cps:=rfl;unfold PyData.strOk at hx hy ⊢;rw[e,Array.all_append,hx,hy];rfl
def strOk_iff :PyData.strOk x=true↔∀c∈x.cps.toList,c<0x110000:=by
 unfold PyData.strOk;rw[←Array.all_toList,List.all_eq_true];simp
def cMul_ok {i j:Int}(h:SI.lM i j=true):CMul i j:=by
 unfold SI.lM at h;rw[Bool.or_eq_true,be0,be0] at h;rcases h with⟨h1,h2⟩|⟨h1,h2⟩
 ·exact .inl ⟨od0 h1,od0 h2⟩
 ·exact .inr ⟨od0 h1,od0 h2⟩
def r2_cat {es:List D}(h:ds.length+es.length≤sizeLine):R2n K FL (.list ds) (.list es) (.list (ds++es)):=fun x y G H Q s hx hy k=>by
 obtain⟨a,vs,rfl,h1,r1⟩:=hx.lst s;obtain⟨b,ws,rfl,h2,r2⟩:=hy.lst s;exact⟨a,b,vs,ws,rfl,rfl,h1,h2,by rwa [←r1.length,←r2.length],fun p hp=>k p G _ (.hid s hp) (s.free hp) hp (.inl ⟨_,_,rfl,ae,r1.append r2⟩)⟩
def r2_addS (h:x.length+y.length≤sizeLine):R2r K (fun u v H Q=>∃i j,u=.str i/\v=.str j/\i.length+j.length≤sizeLine/\Q (.str (i++j)) H) (.str x) (.str y) (.str (x++y)):=fun u v G H Q s hx hy k=>by
 obtain⟨rfl,o1⟩:=hx.str;obtain⟨rfl,o2⟩:=hy.str;exact⟨x,y,rfl,rfl,h,k _ G H (.refl s) (.str _ (fj o1 o2))⟩
end L2.Z
set_option maxHeartbeats 4000000
namespace HT
open PySem PyProof.Rows
def uB (A:Around)(s:Shared)(a:Int)(t:Tok)(c:Int)(u:Tok)(prog:Program)(w:World)(E:Value->Shared->Prop)(Q:Value->Shared->Prop)(h:Q (.bool (decide (c<a))) s):
  wpAny (model prog w) A (richCompare .Gt (.int a t) (.int c u)) Q E s:=
 (PyProof.Rows.gt_int h:wpAny (model prog w) A (compareOp .Gt (.int a t) (.int c u)) Q E s)
section
open PySem.SeqAt
open PySem.AutoSeq1 (wpAny_loadPart')
open PySem.MeetsSeq PySem.MeetsSeq2 PySem.MeetsSeq3
def ji (l b:Addr)(items items2:Array Value)(n n2:Nat)(dd dd2:Option Addr)(sl sl2:Array (Option Value))(ns ms:List Int)(hi:IntsAre items.toList ns)(hj:IntsAre items2.toList ms):
  Meets (Builtin.«tuple.__gt__» ⟨[.ref l,.ref b],[]⟩)
   (fun f R s=>s.heap.get? l=some {cls:=.type "tuple",dict:=dd,data:=.seq items n,slots:=sl}/\s.heap.get? b=some {cls:=.type "tuple",dict:=dd2,data:=.seq items2 n2,slots:=sl2}/\
    R (.ok (.ret (.bool (lexLt ms ns)))) s):=
 .of_wp fun prog w A R s h=>by
  obtain⟨hp,g,d,tk,os⟩:=s;obtain⟨hl,hb,h⟩:=h;have f2:=AutoSeq1.sub_tuple_tuple;have z1:items.size=ns.length:=by rw[←hi.length];simp
  have z2:items2.size=ms.length:=by rw[←hj.length];simp
  wp_walk using wpAny_loadPart' hl,wpAny_loadPart' hb,wpAny_forIn_list _ (fun rest b s'=>b.1=none/\s'=⟨hp,g,d,tk,os⟩/\∃(vs ws:List Value) (ns' ms':List Int),rest=vs.zip ws/\
   IntsAre vs ns'/\IntsAre ws ms'/\ns'.length+items2.size=ms'.length+items.size/\R (.ok (.ret (.bool (lexLt ms' ns')))) ⟨hp,g,d,tk,os⟩) _
  case turn=>
   rintro ⟨y,x⟩ rest b s' ⟨hb',rfl,vs,ws,ns',ms',hz,hvi,hwi,hlen,hR⟩
   cases hvi with
   |nil=>rw[List.zip_nil_left] at hz;cases hz
   |cons a t hvi'=>
    cases hwi with
    |nil=>rw[List.zip_nil_right] at hz;cases hz
    |cons c u hwi'=>
     rw[List.zip_cons_cons] at hz;injection hz with hyx hrest
     injection hyx with hy hx
     subst hy hx;rw[lexLt_cons] at hR;simp only[lc0] at hlen;obtain⟨e,he,hiff⟩:=tY A.in1 ⟨hp,g,d,tk,os⟩ a t c u;refine wb0 (he prog w _ _ ?_);cases e with
     |true=>
      rw[if_pos (hiff.mp rfl).symm] at hR
      wp_walk
      exact⟨rfl,rfl,_,_,_,_,hrest,hvi',hwi',by omega,hR⟩
     |false=>
      rw[if_neg (fun q=>absurd (hiff.mpr q.symm) fx0)] at hR;have hri:=uB A.in1 ⟨hp,g,d,tk,os⟩ a t c u prog w
      wp_walk using hri
      exact⟨_,rfl,by simpa using hR⟩
  case fin=>
   rintro ⟨b1,b2⟩ s' ⟨hb',rfl,vs,ws,ns',ms',hz,hvi,hwi,hlen,hR⟩
   simp only at hb';subst hb';have hv:lexLt ms' ns'=decide (items2.size<items.size):=by
    cases hvi with
    |nil=>
     cases hwi with
     |nil=>
      simp only[List.length_nil] at hlen;rw[lexLt_nil_nil];exact (df0 (by omega)).symm
     |cons c u hw=>
      simp only[List.length_nil,lc0] at hlen;rw[iu];exact (df0 (by omega)).symm
    |cons a t hv=>
     cases hwi with
     |nil=>
      simp only[List.length_nil,lc0] at hlen;rw[ir];exact (dt0 (by omega)).symm
     |cons c u hw=>
      rw[List.zip_cons_cons] at hz;cases hz
   rw[hv] at hR
   wp_walk
   exact⟨_,rfl,by simpa [Builtin.Tuple.tupleCompareSizes] using hR⟩
  case h=>
   exact⟨rfl,rfl,items.toList,items2.toList,ns,ms,rfl,hi,hj,by omega,h⟩
end
section
variable {A:Around}{E:Value->Shared->Prop}
def gt_tupInts {b:Addr}{items2:Array Value}(hl:IsTup s.heap l items)(hb:IsTup s.heap b items2)(hi:IntsAre items.toList ns)(hj:IntsAre items2.toList ms)
  (hu:A.units<cLine) (h:Q (.bool (lexLt ms ns)) s):wpAny (model prog w) A (compareOp .Gt (.ref l) (.ref b)) Q E s:=by
 obtain⟨⟨cls,dd,data,sl⟩,ho,hc,n,hd⟩:=id hl;obtain⟨⟨cls2,dd2,data2,sl2⟩,ho2,hc2,n2,hd2⟩:=id hb;simp only at hc hd hc2 hd2;subst hc hd hc2 hd2;exact richCompare_meets_room (op:=.Gt) ⟨_,ho,rfl⟩ ⟨_,ho2,rfl⟩ PySem.F.slot_tuple_gt PySem.F.entry_tuple_gt (PySem.F.args_tuple_gt_2 _ _) (ji l b items items2 n n2 dd dd2 sl sl2 ns ms hi hj)
  ⟨ho,ho2,show Value.bool (lexLt ms ns)≠Value.notImplemented/\Q (.bool (lexLt ms ns)) s from⟨(fun x=>nomatch x),h⟩⟩ hu
end
end HT
namespace L2.Z
open PySem PySem.Spec PyProof.Rows L2 L2.C SI
mutual
noncomputable def toW:D->PySem.W.Dat
 |.none=>.none
 |.bool b=>.bool b
 |.int i=>.int i
 |.str x=>.str x
 |.tuple ds=>.tuple (dC ds)
 |.list ds=>.list (dC ds)
 |.dict _=>.none
 |.scr _=>.none
 |.vlt ..=>.none
 |.hdl _=>.none
 |.exc _=>.none
 |.fn _=>.none
noncomputable def dC:List D->List PySem.W.Dat
 |[]=>[]
 |d::r=>toW d::dC r
end
theorem fk {p:PySem.W.Dat->Bool}{q:D->Bool}:∀{ds:List D},(∀d∈ds,q d=true->p (toW d)=true)->ds.all q=true->(dC ds).all p=true
 |[],_,_=>rfl
 |d::r,h,a=>by
  rw[List.all_cons,be0] at a;show (p _&&(dC r).all p)=true;rw[h d ms0 a.1,fk (fun e he=>h e (mc0 _ he)) a.2];rfl
def kF:∀(n m:Nat) (a b:D),okS n a=true->okS m b=true->toW a=toW b->a=b:=by
 intro n
 induction n with
 |zero=>
  intro m a b ha hb e;cases a with
  |none=>cases b<;>first|rfl|(cases e;done)|(cases m<;>cases hb)
  |int i=>cases b<;>first|(cases e;rfl)|(cases e;done)
  |str x=>cases b<;>first|(cases e;rfl)|(cases e;done)
  |_=>cases ha
 |succ n ih=>
  intro m a b ha hb e;have all:∀(m:Nat) (ds es:List D),ds.all (okS n)=true->es.all (okS m)=true->dC ds=dC es->ds=es:=by
   intro m ds
   induction ds with
   |nil=>intro es _ _ e;cases es with
    |nil=>rfl
    |cons=>cases e
   |cons d r ih2=>
    intro es h1 h2 e;cases es with
    |nil=>cases e
    |cons f q=>
     rw[List.all_cons,be0] at h1 h2;have e':toW d::dC r=toW f::dC q:=e;injection e' with e1 e2
     rw[ih m d f h1.1 h2.1 e1,ih2 q h1.2 h2.2 e2]
  cases a with
  |none=>cases b<;>first|rfl|(cases e;done)|(cases m<;>cases hb)
  |int i=>cases b<;>first|(cases e;rfl)|(cases e;done)
  |str x=>cases b<;>first|(cases e;rfl)|(cases e;done)
  |tuple ds=>
   cases b with
   |tuple es=>
    cases m with
    |zero=>cases hb
    |succ m=>rw[all m ds es ha hb (PySem.W.Dat.tuple.inj e)]
   |_=>cases e
  |list ds=>
   cases b with
   |list es=>
    cases m with
    |zero=>cases hb
    |succ m=>rw[all m ds es ha hb (PySem.W.Dat.list.inj e)]
   |_=>cases e
  |_=>cases ha
section
variable {G:Hp}
def Dps.mem (h:Dps K G ds vs)(hd:d∈ds):∃v,Dp K G d v:=by
 obtain⟨k,e⟩:=List.getElem?_of_mem hd;obtain⟨v,_,r⟩:=h.get e;exact⟨v,r⟩
def pY:∀(n:Nat) (d:D) (v:V),Dp K G d v->okS n d=true->PySem.W.kqdOk n (toW d)=true:=by
 intro n
 induction n with
 |zero=>
  intro d v h o;cases h with
  |none=>rfl
  |int i=>rfl
  |str x hx=>exact hx
  |_=>cases o
 |succ n ih=>
  intro d v h o;have all:∀{ds:List D} {vs:List V},Dps K G ds vs->ds.all _=true->(dC ds).all _=true:=fun {ds vs} r z=>
   fk (fun e he oe=>let ⟨u,q⟩:=r.mem he;ih e u q oe) z
  cases h with
  |none=>rfl
  |int i=>rfl
  |str x hx=>exact hx
  |tuple _ r=>exact all r o
  |list _ r=>exact all r o
  |_=>cases o
def kG (s:Same G H){v:V}(h:Dr K G H d v)(o:okS 8 d=true):PySem.W.kqdOk 8 (toW d)=true:=by
 cases h with
 |of h=>exact pY 8 d v h o
 |list _ r=>exact fk (fun e he oe=>let ⟨u,q⟩:=r.mem he;pY 7 e u q oe) o
 |dict=>rfl
 |vlt=>rfl
def fM (I:Inv X pins σ H s)(sm:Same G H)(ih:∀(d:D) (v:V) (u:Value),Dp X.K G d v->RelV v u->okS n d=true->∃as,Reads s.heap u (PySem.W.kqdP (toW d)) as):
  ∀{vs:List V} {us:List Value} {ds:List D},Vals vs us->Dps X.K G ds vs->ds.all (okS n)=true->∃as,ReadsAll s.heap us (PySem.W.kqdPs (dC ds)) as:=by
 intro vs us ds r
 induction r generalizing ds with
 |nil=>intro q _;cases q;exact⟨_,ReadsAll.nil⟩
 |cons r1 _ ih2=>
  intro q z;cases q with
  |cons q1 q2=>
   rw[List.all_cons,be0] at z;obtain⟨as,p1⟩:=ih _ _ _ q1 r1 z.1;obtain⟨bs,p2⟩:=ih2 q2 z.2;exact⟨_,ReadsAll.cons p1 p2⟩
def lT (I:Inv X pins σ H s)(sm:Same G H):∀(n:Nat) (d:D) (v:V) (u:Value),Dp X.K G d v->RelV v u->okS n d=true->∃as,Reads s.heap u (PySem.W.kqdP (toW d)) as:=by
 intro n
 induction n with
 |zero=>
  intro d v u h r o;cases h with
  |none=>cases r;exact⟨_,Reads.none⟩
  |int i=>obtain⟨t,rfl⟩:=r;exact⟨_,Reads.int i t⟩
  |str x hx=>obtain⟨t,rfl⟩:=r;exact⟨_,Reads.str x t⟩
  |_=>cases o
 |succ n ih=>
  intro d v u h r o;cases h with
  |none=>cases r;exact⟨_,Reads.none⟩
  |int i=>obtain⟨t,rfl⟩:=r;exact⟨_,Reads.int i t⟩
  |str x hx=>obtain⟨t,rfl⟩:=r;exact⟨_,Reads.str x t⟩
  |tuple q p=>
   cases r;obtain⟨its,rv,⟨ob,e1,e2,m,e3⟩,_⟩:=I.tuple (SqT.of (sm _ _ q));obtain⟨as,w⟩:=fM I sm ih rv p o;exact⟨_,Reads.tuple e1 e2 e3 (by omega)⟩
  |list q p=>
   cases r;obtain⟨its,rv,⟨ob,m,e1,e2,_,e3⟩,_⟩:=I.list (SqL.of (sm _ _ q));obtain⟨as,w⟩:=fM I sm ih rv p o;exact⟨_,Reads.list e1 e2 e3 (by omega)⟩
  |_=>cases o
def bE (I:Inv X pins σ H s)(sm:Same G H){v:V}(h:Dr X.K G H d v)(r:RelV v u)(o:okS 8 d=true):∃as,Reads s.heap u (PySem.W.kqdP (toW d)) as:=by
 cases h with
 |of h=>exact lT I sm 8 d v u h r o
 |list q p=>
  cases r;obtain⟨its,rv,⟨ob,m,e1,e2,_,e3⟩,_⟩:=I.list (SqL.of q);obtain⟨as,w⟩:=fM I sm (lT I sm 7) rv p o;exact⟨_,Reads.list e1 e2 e3 (by omega)⟩
 |dict=>cases o
 |vlt=>cases o
end
def bV {d:PySem.W.Dat}(o:PySem.W.kqdOk 8 d=true):SeqAt.shaped (PySem.W.kqdP d)=true:=by
 have l:=PySem.W.kqd_lay 8 d o;unfold SeqAt.shaped;rw[l.1];exact dt0 (nt0 l.2 (by decide))
noncomputable def Gq (K:Fg)(neg:Bool):R2:=fun x y H Q=>∃G d1 d2,Same G H/\Dr K G H d1 x/\Dr K G H d2 y/\okS 8 d1=true/\okS 8 d2=true/\Q (.bl (if neg then !decide (d1=d2) else decide (d1=d2))) H
def uC {G:Hp}{x y:V}(s:Same G H)(h1:Dr K G H d1 x)(h2:Dr K G H d2 y)(o1:okS 8 d1=true)(o2:okS 8 d2=true):PyData.eqv (PySem.W.kqdP (toW d1)) (PySem.W.kqdP (toW d2))=decide (d1=d2):=by
 have q:=PySem.W.kqd_eqv 8 _ _ 8 (kG s h1 o1) (kG s h2 o2)
 by_cases e:d1=d2
 ·rw[dt0 e];exact q.mpr (by rw[e])
 ·rw[df0 e]
  exact bf0 fun z=>e (kF 8 8 d1 d2 o1 o2 (q.mp z))
def Dk (hu:X.A.units+64<cLine):OpR X (compareOp .Eq) (Gq X.K false):=by
 intro pins s σ H x y v u Q I rx ry h;obtain⟨G,d1,d2,sm,h1,h2,o1,o2,q⟩:=h;obtain⟨as,ra⟩:=bE I sm h1 rx o1;obtain⟨bs,rb⟩:=bE I sm h2 ry o2;exact eq_dataH ra rb (bV (kG sm h1 o1)) (bV (kG sm h2 o2)) hu (dc I q (uC sm h1 h2 o1 o2).symm)
def Dl (hu:X.A.units+64<cLine):OpR X (compareOp .NotEq) (Gq X.K true):=by
 intro pins s σ H x y v u Q I rx ry h;obtain⟨G,d1,d2,sm,h1,h2,o1,o2,q⟩:=h;obtain⟨as,ra⟩:=bE I sm h1 rx o1;obtain⟨bs,rb⟩:=bE I sm h2 ry o2;exact ne_dataH ra rb (bV (kG sm h1 o1)) (bV (kG sm h2 o2)) hu (dc I q (by rw[uC sm h1 h2 o1 o2];rfl))
def Dr.dpsL {G:Hp}{v:V}(h:Dr K G H (.list ds) v):∃vs,Dps K G ds vs:=by
 cases h with
 |of h=>cases h with|list _ r=>exact⟨_,r⟩
 |list _ r=>exact⟨_,r⟩
theorem uD {G:Hp}{x:V}(s:Same G H)(h1:Dr K G H d1 x)(o1:okS 8 d1=true):∀{ds:List D} {vs:List V},Dps K G ds vs->ds.all (okS 7)=true->((PySem.W.kqdPs (dC ds)).any fun y=>PyData.eqv y (PySem.W.kqdP (toW d1)))=ds.any fun d=>decide (d=d1)
 |[],_,_,_=>rfl
 |d::r,_,.cons q q',o=>by
  rw[List.all_cons,be0] at o;have e:=PySem.W.kqd_eqv 7 (toW d) (toW d1) 8 (pY 7 d _ q o.1) (kG s h1 o1);have e':PyData.eqv (PySem.W.kqdP (toW d)) (PySem.W.kqdP (toW d1))=decide (d=d1):=by
   by_cases z:d=d1
   ·rw[dt0 z];exact e.mpr (by rw[z])
   ·rw[df0 z];exact bf0 fun y=>z (kF 7 8 d d1 o.1 o1 (e.mp y))
  show (PyData.eqv _ _||_)=(decide (d=d1)||_);rw[e',←uD s h1 o1 q' o.2]
def pZ {G:Hp}(r:Dps K G ds vs)(o:ds.all (okS 7)=true):PyData.canLayAll0 (PySem.W.kqdPs (dC ds))=true/\PyData.depthAll (PySem.W.kqdPs (dC ds))≤8:=by
 have l:=PySem.W.kqd_lay 8 (.list (dC ds)) (fk (fun e he oe=>let ⟨u,q⟩:=r.mem he;pY 7 e u q oe) o);rw[PySem.W.kqdP] at l;simp only[PyData.canLay0,PyData.depth] at l;have l2:=l.2;exact⟨l.1,by omega⟩
noncomputable def Gr (K:Fg)(neg:Bool):R2:=fun x y H Q=>∃G d ds vs,Same G H/\Dr K G H d x/\Dps K G ds vs/\((Dr K G H (.list ds) y)\/Dr K G H (.tuple ds) y)/\okS 8 d=true/\ds.all (okS 7)=true/\Q (.bl (if neg then !ds.any (fun e=>decide (e=d)) else ds.any fun e=>decide (e=d))) H
def Dm (hu:X.A.units+64<cLine):OpR X (compareOp .In) (Gr X.K false):=by
 intro pins s σ H x y v u Q I rx ry h;obtain⟨G,d,ds,vs,sm,h1,r,h2,o1,o2,q⟩:=h;obtain⟨as,ra⟩:=bE I sm h1 rx o1;have l:=pZ r o2;have l1:=PySem.W.kqd_lay 8 _ (kG sm h1 o1);have q:=q;rcases h2 with h2|h2
 ·obtain⟨bs,rb⟩:=bE I sm h2 ry o2
  exact SeqAt.in_list_reads rb ra l.1 l1.1 (by omega) (dc I q (uD sm h1 o1 r o2).symm)
 ·obtain⟨bs,rb⟩:=bE I sm h2 ry o2
  exact SeqAt.in_tuple_reads rb ra l.1 l1.1 (by omega) (dc I q (uD sm h1 o1 r o2).symm)
def rB (hu:X.A.units+64<cLine):OpR X (compareOp .NotIn) (Gr X.K true):=by
 intro pins s σ H x y v u Q I rx ry h;obtain⟨G,d,ds,vs,sm,h1,r,h2,o1,o2,q⟩:=h;obtain⟨as,ra⟩:=bE I sm h1 rx o1;have l:=pZ r o2;have l1:=PySem.W.kqd_lay 8 _ (kG sm h1 o1);rcases h2 with h2|h2
 ·obtain⟨bs,rb⟩:=bE I sm h2 ry o2
  exact SeqAt.notIn_list_reads rb ra l.1 l1.1 (by omega) (dc I q (by rw[uD sm h1 o1 r o2];rfl))
 ·obtain⟨bs,rb⟩:=bE I sm h2 ry o2
  exact SeqAt.notIn_tuple_reads rb ra l.1 l1.1 (by omega) (dc I q (by rw[uD sm h1 o1 r o2];rfl))
def Dn (hu:X.A.units+1<cLine):OpR X (compareOp .In) (fun x y H Q=>∃a kvs k,y=.ref a/\x=kV k/\H a=some (.dK kvs)/\Q (.bl (dD kvs k).isSome) H):=by
 intro pins s σ H x y v u Q I rx ry h;obtain⟨a,kvs,k,rfl,rfl,ha,q⟩:=h;cases ry;exact IS hu I (DGet.k ha) rx fun s' I'=>⟨.bl _,H,I',rfl,q⟩
def rC (hu:X.A.units+1<cLine):OpR X (compareOp .NotIn) (fun x y H Q=>∃a kvs k,y=.ref a/\x=kV k/\H a=some (.dK kvs)/\Q (.bl (!(dD kvs k).isSome)) H):=by
 intro pins s σ H x y v u Q I rx ry h;obtain⟨a,kvs,k,rfl,rfl,ha,q⟩:=h;cases ry;exact yG hu I (DGet.k ha) rx fun s' I'=>⟨.bl _,H,I',rfl,q⟩
theorem Dks.look {G:Hp}{k:Key}:∀{ds:List (Key×D)} {vs:List (Key×V)},Dks K G ds vs->(SI.look ds k=Option.none/\dD vs k=Option.none)\/∃d v,SI.look ds k=some d/\dD vs k=some v/\Dp K G d v
 |_,_,.nil=>.inl ⟨rfl,rfl⟩
 |_,_,.cons (k:=l) h r=>by
  by_cases c:l=k
  ·right
   refine⟨_,_,?_,eW c,h⟩;show (if l=k then _ else _)=_;rw[if_pos c]
  ·rw[eX c]
   show ((if l=k then _ else _)=_/\_)\/∃d v,(if l=k then _ else _)=_/\_;rw[if_neg c];exact Dks.look r
def dE {G:Hp}{v:V}{k:Key}(h:Dr K G H d v)(e:lN d=some k):v=kV k:=by
 cases d with
 |int i=>cases e;exact h.int
 |str x=>cases e;exact h.str.1
 |_=>cases e
set_option tactic.hygienic true in
def iA {op:CmpOp}{o:Cop}(hu:X.A.units+64<cLine)(ho:kA op=some o)(h:bM o d1 d2=some t):∃r,OpR X (compareOp op) r/\R2r X.K r d1 d2 (.bool t):=by
 have hu1:X.A.units+1<cLine:=by omega
 have eqc:∀t,eqD d1 d2=some t->(∃r,OpR X (compareOp .Eq) r/\R2r X.K r d1 d2 (.bool t))/\∃r,OpR X (compareOp .NotEq) r/\R2r X.K r d1 d2 (.bool (!t)):=by
  clear h;intro t h;unfold eqD at h;split at h
  ·rename_i c
   rw[be0] at c;cases h;exact⟨⟨_,Dk hu,fun x y G H Q s hx hy k=>⟨G,d1,d2,s,hx,hy,c.1,c.2,k _ G H (.refl s) (.bool _)⟩⟩,⟨_,Dl hu,fun x y G H Q s hx hy k=>⟨G,d1,d2,s,hx,hy,c.1,c.2,k _ G H (.refl s) (.bool _)⟩⟩⟩
  ·cases h
 have inc:∀t,inD d1 d2=some t->(∃r,OpR X (compareOp .In) r/\R2r X.K r d1 d2 (.bool t))/\∃r,OpR X (compareOp .NotIn) r/\R2r X.K r d1 d2 (.bool (!t)):=by
  clear h eqc;intro t h;unfold inD at h;cases d2 with
  |str y=>
   cases d1 with
   |str x=>
    cases h;refine⟨⟨_,rd,fun u v G H Q s hx hy k=>⟨x,y,hx.str.1,hy.str.1,k _ G H (.refl s) (.bool _)⟩⟩,⟨_,ko,fun u v G H Q s hx hy k=>⟨x,y,hx.str.1,hy.str.1,k _ G H (.refl s) (.bool _)⟩⟩⟩
   |_=>cases h
  |list ds=>
   dsimp only at h;split at h
   ·rename_i c
    rw[be0] at c;cases h;exact⟨⟨_,Dm hu,fun u v G H Q s hx hy k=>let ⟨vs,r⟩:=hy.dpsL;⟨G,d1,ds,vs,s,hx,r,.inl hy,c.1,c.2,k _ G H (.refl s) (.bool _)⟩⟩,⟨_,rB hu,fun u v G H Q s hx hy k=>let ⟨vs,r⟩:=hy.dpsL;⟨G,d1,ds,vs,s,hx,r,.inl hy,c.1,c.2,k _ G H (.refl s) (.bool _)⟩⟩⟩
   ·cases h
  |dict kvs=>
   obtain⟨key,e1,e2⟩:=mx0 h;subst e2;refine⟨⟨_,Dn hu1,fun u v G H Q s hx hy k=>?_⟩,⟨_,rC hu1,fun u v G H Q s hx hy k=>?_⟩⟩
   ·obtain⟨a,vs,rfl,h1,r1⟩:=hy.dct s
    refine⟨a,vs,key,rfl,dE hx e1,h1,?_⟩;have e:(dD vs key).isSome=(look kvs key).isSome:=by
     rcases r1.look (k:=key) with⟨q1,q2⟩|⟨d,v,q1,q2,_⟩<;>rw[q1,q2]<;>rfl
    rw[e];exact k _ G H (.refl s) (.bool _)
   ·obtain⟨a,vs,rfl,h1,r1⟩:=hy.dct s
    refine⟨a,vs,key,rfl,dE hx e1,h1,?_⟩;have e:(dD vs key).isSome=(look kvs key).isSome:=by
     rcases r1.look (k:=key) with⟨q1,q2⟩|⟨d,v,q1,q2,_⟩<;>rw[q1,q2]<;>rfl
    rw[e];exact k _ G H (.refl s) (.bool _)
  |_=>cases h
 cases op with
 |Lt=>
  cases ho;clear eqc inc;cases d1 with
  |int i=>cases d2 with
   |int j=>cases h;exact⟨_,FC,lS fun b=>.bool _⟩
   |_=>cases h
  |_=>cases h
 |LtE=>
  cases ho;clear eqc inc;cases d1 with
  |int i=>cases d2 with
   |int j=>cases h;exact⟨_,FD,lS fun b=>.bool _⟩
   |_=>cases h
  |_=>cases h
 |Gt=>
  cases ho;clear eqc inc;cases d1 with
  |int i=>cases d2 with
   |int j=>cases h;exact⟨_,FE,lS fun b=>.bool _⟩
   |_=>cases h
  |_=>cases h
 |GtE=>cases ho
 |Eq=>cases ho;rw[CO] at h;exact (eqc t h).1
 |NotEq=>
  cases ho;rw[CP] at h;obtain⟨t',h1,rfl⟩:=mx0 h;exact (eqc t' h1).2
 |In=>cases ho;rw[CQ] at h;exact (inc t h).1
 |NotIn=>
  cases ho;rw[rA] at h;obtain⟨t',h1,rfl⟩:=mx0 h;exact (inc t' h1).2
 |Is=>
  cases ho;have h':(if d2=.none then some (decide (d1=.none)) else Option.none)=some t:=by clear eqc inc;cases d1<;>exact h
  split at h'
  ·rename_i c
   subst c;cases h';refine⟨_,Cw,fun x y G H Q s hx hy k=>⟨hy.none,?_⟩⟩;have e:decide (x=V.non)=decide (d1=D.none):=by
    by_cases c:d1=.none
    ·subst c;rw[hx.none];simp
    ·rw[df0 c]
     refine df0 fun z=>?_
     subst z;cases hx with|of hx=>cases hx;exact c rfl
   rw[e];exact k _ G H (.refl s) (.bool _)
  ·cases h'
 |IsNot=>
  cases ho;have h':(if d2=.none then some (!decide (d1=.none)) else Option.none)=some t:=by clear eqc inc;cases d1<;>exact h
  split at h'
  ·rename_i c
   subst c;cases h';refine⟨_,yx,fun x y G H Q s hx hy k=>⟨hy.none,?_⟩⟩;have e:decide (x=V.non)=decide (d1=D.none):=by
    by_cases c:d1=.none
    ·subst c;rw[hx.none];simp
    ·rw[df0 c]
     refine df0 fun z=>?_
     subst z;cases hx with|of hx=>cases hx;exact c rfl
   rw[e];exact k _ G H (.refl s) (.bool _)
  ·cases h'
def fq {op:CmpOp}(h:isSet b=false):behindInMarks op b=false:=by cases b<;>first|rfl|cases h
section
set_option tactic.hygienic true
def lU {op:Operator}{o:Op2}(ho:cOp op=some o)(h:opD o d1 d2=some d)(ha:Er X ρ a d1)(hb:Er X ρ b d2):Ev X ρ (.BinOp a op b pos) d/\(bo d=true->En X ρ (.BinOp a op b pos) d):=by
 have new:En X ρ (.BinOp a op b pos) d->Ev X ρ (.BinOp a op b pos) d/\(bo d=true->En X ρ (.BinOp a op b pos) d):=fun q=>⟨q.ev,fun e=>q⟩
 have old:bo d=false->Ev X ρ (.BinOp a op b pos) d->Ev X ρ (.BinOp a op b pos) d/\(bo d=true->En X ρ (.BinOp a op b pos) d):=fun z q=>⟨q,fun c=>by rw[z] at c;cases c⟩
 cases op with
 |Add=>
  cases ho;cases d1 with
  |int i=>cases d2 with
   |int j=>cases h;exact old rfl (ev_op Ct ha hb (lS fun e=>.int _))
   |_=>cases h
  |str x=>cases d2 with
   |str y=>
    rw[yO] at h;split at h
    ·rename_i c;cases h;rw[big_eq] at c;exact old rfl (ev_op op_add_str ha hb (r2_addS c))
    ·cases h
   |_=>cases h
  |list ds=>cases d2 with
   |list es=>
    rw[yP] at h;split at h
    ·rename_i c;cases h;rw[big_eq] at c;exact new (en_op op_cat ha hb (r2_cat c))
    ·cases h
   |_=>cases h
  |_=>cases h
 |Sub=>
  cases ho;cases d1 with
  |int i=>cases d2 with
   |int j=>cases h;exact old rfl (ev_op Cu ha hb (lS fun e=>.int _))
   |_=>cases h
  |_=>cases h
 |Mult=>
  cases ho;cases d1 with
  |int i=>cases d2 with
   |int j=>
    rw[gX] at h;split at h
    ·rename_i c;cases h;exact old rfl (ev_op op_mul ha hb (r2_I (cMul_ok c) fun e=>.int _))
    ·cases h
   |_=>cases h
  |_=>cases h
 |Mod=>
  cases ho;cases d1 with
  |int i=>cases d2 with
   |int j=>
    rw[yQ] at h;split at h
    ·rename_i c;cases h;exact old rfl (ev_op op_mod ha hb (r2_I c fun e=>.int _))
    ·cases h
   |_=>cases h
  |_=>cases h
 |FloorDiv=>
  cases ho;cases d1 with
  |int i=>cases d2 with
   |int j=>
    rw[yR] at h;split at h
    ·rename_i c;cases h;exact old rfl (ev_op op_fdiv ha hb (r2_I c fun e=>.int _))
    ·cases h
   |_=>cases h
  |_=>cases h
 |_=>cases ho
def Do {i:Int}(ha:Ev X ρ a (.int i)):Ev X ρ (.UnaryOp .USub a pos) (.int (-i)):=fun pins s σ H Q I ⟨G0,H0,G,E,k⟩=>
 Fz Cv ha _ s σ H Q I ⟨G0,H0,G,E,fun v G1 H1 e1 r1=>by
  cases r1;exact⟨i,rfl,k _ G1 H1 e1 (.int _)⟩⟩
def rD {c:Nat}(h:c<0x110000):PyData.strOk ⟨#[c]⟩=true:=by
 unfold PyData.strOk;simp;exact h
def rE (hu:X.A.units+1<cLine)(h:kx d1 d2=some d)(ha:Er X ρ a d1)(hb:Ev X ρ b d2)(hs:isSlice b=false):Ev X ρ (.Subscript a b pos) d:=by
 cases d1 with
 |list ds=>
  cases d2 with
  |int i=>
   refine pX pM ha hb (fun u v G H Q s hx hy q=>?_) hs;obtain⟨p,vs,rfl,h1,r⟩:=hx.lst s;obtain⟨w,e,dw⟩:=r.atI h;exact⟨p,vs,i,w,rfl,hy.int,SqL.of h1,e,q _ G H (.refl s) dw⟩
  |_=>cases h
 |tuple ds=>
  cases d2 with
  |int i=>
   refine pX nQ ha hb (fun u v G H Q s hx hy q=>?_) hs;obtain⟨p,vs,rfl,h1,r⟩:=hx.tup s;obtain⟨w,e,dw⟩:=r.atI h;exact⟨p,vs,i,w,rfl,hy.int,SqT.of h1,e,q _ G H (.refl s) dw⟩
  |_=>cases h
 |scr ns=>
  cases d2 with
  |int i=>
   refine pX pM ha hb (fun u v G H Q s hx hy q=>?_) hs;obtain⟨p,rfl,h1⟩:=hx.scr s;obtain⟨n,e,rfl⟩:=mx0 h;have e':L2.atI (ns.map V.int) i=some (.int n):=by
    rw[uy] at e;unfold L2.atI at e ⊢;rw[lm0];cases q:L2.ixN ns.length i with
    |none=>rw[q] at e;cases e
    |some j=>
     rw[q] at e;show (ns.map V.int)[j]?=_;rw[gm0,show ns[j]?=some n from e];rfl
   exact⟨p,_,i,_,rfl,hy.int,h1,e',q _ G H (.refl s) (.int n)⟩
  |_=>cases h
 |str x=>
  cases d2 with
  |int i=>
   rw[yS] at h;split at h
   ·rename_i hz
    rw[big_eq] at hz;obtain⟨k,e,rfl⟩:=mx0 h;refine pX CD ha hb (fun u v G H Q s hx hy q=>?_) hs;obtain⟨rfl,o⟩:=hx.str;refine⟨x,i,k,rfl,hy.int,hz,e,q _ G H (.refl s) (.str _ (rD ?_))⟩;obtain⟨j,_,e2,_⟩:=gW e;exact strOk_iff.mp o k (mg0 e2)
   ·cases h
  |_=>cases h
 |_=>cases h
set_option tactic.hygienic false
noncomputable def tPt (K:Fg)(ρ:List Sl)(o:Option Int):TO:=fun σ H Q=>∃G0 H0 G,EnvD K G0 H0 G H σ ρ/\∀G' H',Ext G H G' H'->Q o H'
def uE:PO X Option.none (tPt X.K ρ Option.none):=by rintro pins s σ H Q I ⟨G0,H0,G,E,k⟩;exact yB pins s σ H Q I (k G H (.refl E.sub))
def uF {i:Int}(h:Ev X ρ a (.int i)):PO X (some a) (tPt X.K ρ (some i)):=fun pins s σ H Q I ⟨G0,H0,G,E,k⟩=>
 yC h _ s σ H Q I ⟨G0,H0,G,E,fun v G1 H1 e1 r1=>by
  cases r1;exact⟨i,rfl,k G1 H1 e1⟩⟩
def rF {lo hi:Option Expr}{l h:Option Int}(ha:Er X ρ a (.list ds))(hl:PO X lo (tPt X.K ρ l))(hh:PO X hi (tPt X.K ρ h)):En X ρ (.Subscript a (.Slice lo hi Option.none p2) pos) (.list (SI.cut ds l h)):=
 by rintro pins s σ H Q I ⟨G0,H0,G,E,k⟩;exact tZ pN ha hl hh pins s σ H Q I ⟨G0,H0,G,E,fun v G1 H1 e1 r1=>⟨G0,H0,G1,E.step e1,fun G2 H2 e2=>⟨G0,H0,G2,(E.step e1).step e2,fun G3 H3 e3=>by
  obtain⟨p,vs,rfl,h1,r⟩:=((r1.ext e2).ext e3).lst e3.gh;have e:=e1.trans (e2.trans e3);exact⟨p,vs,rfl,SqL.of h1,fun q hq=>k q G3 _ (e.trans (.hid e3.gh hq)) (e3.gh.free hq) (e.hh.free hq) (.inl ⟨_,_,rfl,ae,r.cut l h⟩)⟩⟩⟩⟩
def en_lst (h:Ea X ρ [] es ds)(hz:ds.length≤1000):En X ρ (.List es pos) (.list ds):=fun pins s σ H Q I ⟨G0,H0,G,E,k⟩=>
 tV h _ s σ H Q I ⟨G0,H0,G,E,fun vs G1 H1 e1 r=>⟨by rw[←r.length];exact Nat.le_of_lt (cP hz),fun p hp=>
  k p G1 _ (e1.trans (.hid e1.gh hp)) (e1.gh.free hp) (e1.hh.free hp) (.inl ⟨_,_,rfl,ae,r.dps⟩)⟩⟩
def ev_tup {x1}(h:Ea X ρ [] es ds)(hz:ds.length≤1000):Ev X ρ (.Tuple es x1 pos) (.tuple ds):=fun pins s σ H Q I ⟨G0,H0,G,E,k⟩=>
 tU h _ s σ H Q I ⟨G0,H0,G,E,fun vs G1 H1 e1 r=>⟨by rw[←r.length];exact Nat.le_of_lt (cP hz),fun p hp=>
  k _ _ _ (e1.trans (.laid e1.gh hp)) (.tuple ae (r.dps.mono (aV (e1.gh.free hp))))⟩⟩
def gq {G:Hp}(r:Dps K G ds vs):(!ds.isEmpty)=!vs.isEmpty:=by cases r<;>rfl
def lV {G:Hp}{ds:List (Key×D)}{vs:List (Key×V)}(r:Dks K G ds vs):(!ds.isEmpty)=!vs.isEmpty:=by cases r<;>rfl
set_option tactic.hygienic true in
def Dq {G:Hp}{v:V}(s:Same G H)(h:Dr K G H d v)(ht:eY d=some t):Cy K v H t:=by
 cases d with
 |none=>rw[h.none];cases ht;rfl
 |bool b=>rw[h.bool];cases ht;rfl
 |int i=>rw[h.int];cases ht;rfl
 |str x=>
  rw[h.str.1];rw[um] at ht;split at ht
  ·rename_i c;cases ht;exact⟨c,rfl⟩
  ·cases ht
 |tuple ds=>obtain⟨a,vs,rfl,h1,r⟩:=h.tup s;cases ht;exact .inr (.inl ⟨vs,SqT.of h1,gq r⟩)
 |list ds=>obtain⟨a,vs,rfl,h1,r⟩:=h.lst s;cases ht;exact .inl ⟨vs,SqL.of h1,gq r⟩
 |dict kvs=>obtain⟨a,vs,rfl,h1,r⟩:=h.dct s;cases ht;exact .inr (.inr ⟨vs,h1,lV r⟩)
 |scr ns=>obtain⟨a,rfl,h1⟩:=h.scr s;cases ht;exact .inl ⟨_,h1,by simp⟩
 |vlt=>cases ht
 |hdl=>cases ht
 |exc=>cases ht
 |fn=>cases ht
def iB (h:Er X ρ a d)(ht:eY d=some t)(he:∀whole,isTrue a X.env whole=(do let v ←whole;standAt a.pos;holding [v] (truthy v))):Et X ρ a t:=
 by rintro pins s σ H Q I ⟨G0,H0,G,E,k⟩;exact tN h he pins s σ H Q I ⟨G0,H0,G,E,fun v G1 H1 e1 r=>⟨t,Dq e1.gh r ht,k G1 H1 e1⟩⟩
variable {u:Bool}
def Ds (h:Et X ρ a t):Et X ρ (.UnaryOp .Not a pos) (!t):=fun pins s σ H Q I h0=>Ck h _ s σ H Q I (let ⟨G0,H0,G,E,k⟩:=h0;⟨G0,H0,G,E,k⟩)
def yY (h:Et X ρ a t):Ew X ρ (.BoolOp .And [a] pos) t:=yv h
def Dt (h:Et X ρ a t):Ew X ρ (.BoolOp .Or [a] pos) t:=Cj h
def yZ (h:Et X ρ a true)(q:Ew X ρ (.BoolOp .And (b::r) pos) u):Ew X ρ (.BoolOp .And (a::b::r) pos) u:=by
 intro whole pins s σ H Q I h0;obtain⟨G0,H0,G,E,k⟩:=h0;exact tH h q _ _ s σ H Q I ⟨G0,H0,G,E,fun G1 H1 e1=>jg ⟨G0,H0,G1,E.step e1,fun G2 H2 e2=>k G2 H2 (e1.trans e2)⟩⟩
def za (h:Et X ρ a false):Ew X ρ (.BoolOp .And (a::b::r) pos) false:=by
 intro whole pins s σ H Q I h0;obtain⟨G0,H0,G,E,k⟩:=h0;exact tH (tB':=fun c c c=>False) h (fun c c c c c c c z=>z.elim) _ _ s σ H Q I ⟨G0,H0,G,E,fun G1 H1 e1=>jf (k G1 H1 e1)⟩
def Du (h:Et X ρ a false)(q:Ew X ρ (.BoolOp .Or (b::r) pos) u):Ew X ρ (.BoolOp .Or (a::b::r) pos) u:=by
 intro whole pins s σ H Q I h0;obtain⟨G0,H0,G,E,k⟩:=h0;exact Bb h q _ _ s σ H Q I ⟨G0,H0,G,E,fun G1 H1 e1=>jf ⟨G0,H0,G1,E.step e1,fun G2 H2 e2=>k G2 H2 (e1.trans e2)⟩⟩
def Dv (h:Et X ρ a true):Ew X ρ (.BoolOp .Or (a::b::r) pos) true:=by
 intro whole pins s σ H Q I h0;obtain⟨G0,H0,G,E,k⟩:=h0;exact Bb (tB':=fun c c c=>False) h (fun c c c c c c c z=>z.elim) _ _ s σ H Q I ⟨G0,H0,G,E,fun G1 H1 e1=>jg (k G1 H1 e1)⟩
def Dw {op}(h:Ev X ρ a d):Ev X ρ (.BoolOp op [a] pos) d:=Cn h
def zc (h:Ev X ρ a (.bool true))(q:Ev X ρ (.BoolOp .And (b::r) pos) d):Ev X ρ (.BoolOp .And (a::b::r) pos) d:=by
 intro pins s σ H Q I h0;obtain⟨G0,H0,G,E,k⟩:=h0;exact nA h q _ s σ H Q I ⟨G0,H0,G,E,fun v G1 H1 e1 r1=>by
  cases r1;exact⟨_,rfl,jg ⟨G0,H0,G1,E.step e1,fun v G2 H2 e2 r2=>k v G2 H2 (e1.trans e2) r2⟩⟩⟩
def zd (h:Ev X ρ a (.bool false)):Ev X ρ (.BoolOp .And (a::b::r) pos) (.bool false):=by
 intro pins s σ H Q I h0;obtain⟨G0,H0,G,E,k⟩:=h0;exact nA (tb:=fun c c c=>False) h (fun c c c c c c z=>z.elim) _ s σ H Q I ⟨G0,H0,G,E,fun v G1 H1 e1 r1=>by
  cases r1;exact⟨_,rfl,jf (k _ G1 H1 e1 (.bool _))⟩⟩
def Dx (h:Ev X ρ a (.bool false))(q:Ev X ρ (.BoolOp .Or (b::r) pos) d):Ev X ρ (.BoolOp .Or (a::b::r) pos) d:=by
 intro pins s σ H Q I h0;obtain⟨G0,H0,G,E,k⟩:=h0;exact Bc h q _ s σ H Q I ⟨G0,H0,G,E,fun v G1 H1 e1 r1=>by
  cases r1;exact⟨_,rfl,jf ⟨G0,H0,G1,E.step e1,fun v G2 H2 e2 r2=>k v G2 H2 (e1.trans e2) r2⟩⟩⟩
def Dy (h:Ev X ρ a (.bool true)):Ev X ρ (.BoolOp .Or (a::b::r) pos) (.bool true):=by
 intro pins s σ H Q I h0;obtain⟨G0,H0,G,E,k⟩:=h0;exact Bc (tb:=fun c c c=>False) h (fun c c c c c c z=>z.elim) _ s σ H Q I ⟨G0,H0,G,E,fun v G1 H1 e1 r1=>by
  cases r1;exact⟨_,rfl,jg (k _ G1 H1 e1 (.bool _))⟩⟩
def Dz (h:Ev X ρ a (.bool t)):Ev X ρ (.UnaryOp .Not a pos) (.bool (!t)):=fun pins s σ H Q I ⟨G0,H0,G,E,k⟩=>
 Co h _ s σ H Q I ⟨G0,H0,G,E,fun v G1 H1 e1 r1=>by
  cases r1;exact⟨t,rfl,k _ G1 H1 e1 (.bool _)⟩⟩
def DA (h:Et X ρ c true)(ha:Ev X ρ a d):Ev X ρ (.IfExp c a b pos) d:=by
 intro pins s σ H Q I h0;obtain⟨G0,H0,G,E,k⟩:=h0;exact lD (tb:=fun e e e=>False) h ha (fun e e e e e e z=>z.elim) _ s σ H Q I ⟨G0,H0,G,E,fun G1 H1 e1=>jg ⟨G0,H0,G1,E.step e1,fun v G2 H2 e2 r=>k v G2 H2 (e1.trans e2) r⟩⟩
def DB (h:Et X ρ c false)(hb:Ev X ρ b d):Ev X ρ (.IfExp c a b pos) d:=by
 intro pins s σ H Q I h0;obtain⟨G0,H0,G,E,k⟩:=h0;exact lD (ta:=fun e e e=>False) h (fun e e e e e e z=>z.elim) hb _ s σ H Q I ⟨G0,H0,G,E,fun G1 H1 e1=>jf ⟨G0,H0,G1,E.step e1,fun v G2 H2 e2 r=>k v G2 H2 (e1.trans e2) r⟩⟩
end
def lW {bs:List Bool}(r:Vals vs us)(e:vs=bs.map V.bl):LSm.BoolsAre us bs:=by
 induction r generalizing bs with
 |nil=>
  cases bs with
  |nil=>exact .nil
  |cons b q=>cases e
 |cons r1 _ ih=>
  cases bs with
  |nil=>cases e
  |cons b q=>
   injection e with e1 e2
   subst e1;cases r1;exact .cons b (ih e2)
def uG (hc:X.calm=true):aZ X (.builtin "all") (fun xs H Q=>∃(p:Addr) (bs:List Bool),xs=[.ref p]/\SqL X.K H p (bs.map V.bl)/\Q (.bl (bs.all id)) H):=by
 intro pins s σ H xs us Q I r h;obtain⟨p,bs,rfl,hq,q⟩:=h;obtain⟨u,rfl,rx⟩:=vals1 r;cases rx;obtain⟨its,r',pl,hz⟩:=I.list hq;have hl:=pl.isList;have hb:=lW r' rfl;have hlt:p<s.heap.objs.size:=by obtain⟨_,e,_⟩:=hl;exact hs0 e
 refine call_all_walk (wpAny_pyIter_list hl ?_);refine⟨_,_,_,_,_,_,fun i=>(bs[i]?).getD true,rfl,Walks.list (A:=X.A.in1) (I.ok.hd hc) _ p (nn0 hlt) _,
  ⟨⟨_,pz0 _ rfl,rfl,rfl⟩,hl.push _⟩,fun i v s' Q' E' hP hQ=>?_,fun h' tk hk=>?_⟩
 ·obtain⟨b,e,rfl⟩:=hb.get i v (by simpa using hP)
  simp only[e] at hQ;exact wpAny_truthy_bool hQ
 ·have e:((List.range its.toArray.size).all fun i=>(bs[i]?).getD true)=bs.all id:=by
   rw[ls0,hb.length];exact LSm.range_all bs
  rw[e];exact⟨.bl _,H,I.kept (LSm.kept_iter hk),rfl,q⟩
def uH (hc:X.calm=true):aZ X (.builtin "any") (fun xs H Q=>∃(p:Addr) (bs:List Bool),xs=[.ref p]/\SqL X.K H p (bs.map V.bl)/\Q (.bl (bs.any id)) H):=by
 intro pins s σ H xs us Q I r h;obtain⟨p,bs,rfl,hq,q⟩:=h;obtain⟨u,rfl,rx⟩:=vals1 r;cases rx;obtain⟨its,r',pl,hz⟩:=I.list hq;have hl:=pl.isList;have hb:=lW r' rfl;have hlt:p<s.heap.objs.size:=by obtain⟨_,e,_⟩:=hl;exact hs0 e
 refine call_any_walk (wpAny_pyIter_list hl ?_);refine⟨s.heap.objs.size,[s.heap.objs.size,p],[s.heap.objs.size],its.toArray.size,_,_,fun i=>(bs[i]?).getD false,rfl,Walks.list (A:=X.A.in1) (I.ok.hd hc) _ p (nn0 hlt) its.toArray,
  ⟨⟨_,pz0 _ rfl,rfl,rfl⟩,hl.push _⟩,fun i v s' Q' E' hP hQ=>?_,fun h' tk hk=>?_⟩
 ·obtain⟨b,e,rfl⟩:=hb.get i v (by simpa using hP)
  simp only[e,Option.getD_some] at hQ;exact wpAny_truthy_bool hQ
 ·have e:((List.range its.toArray.size).any fun i=>(bs[i]?).getD false)=bs.any id:=by
   rw[ls0,hb.length];exact LSm.range_any bs
  rw[e];exact⟨.bl _,H,I.kept (LSm.kept_iter hk),rfl,q⟩
def eK:aZ X (.type "tuple") (fun xs H Q=>∃p ys,xs=[.ref p]/\SqL X.K H p ys/\ys.length≤sizeLine/\∀l,H l=Option.none->Q (.ref l) (upd H l (.tup ys))):=by
 intro pins s σ H xs us Q I r h;obtain⟨p,ys,rfl,hq,hz,q⟩:=h;obtain⟨u,rfl,rx⟩:=vals1 r;cases rx;obtain⟨its,r',pl,_⟩:=I.list hq;refine PySem.call_tuple_list pl.isList (fun h' kp=>?_) (by rwa [ls0,←r'.length]);have I1:=I.kept (t':=s.toks) kp;exact⟨.ref _,_,I1.laid (fun b o e=>ps0 _ e) (nr0 _) (show ObjOk _ _ _ _ _ (.tup ys) from⟨hz,_,r',IsTup.new _ _⟩),rfl,q _ (I1.hok.fresh (nr0 _))⟩
def gu {G:Hp}:∀{ds:List D} {vs:List V} {bs:List Bool},boolsOf ds=some bs->Dps K G ds vs->vs=bs.map V.bl:=by
 intro ds
 induction ds with
 |nil=>intro vs bs h q;cases q;cases h;rfl
 |cons d r ih=>
  intro vs bs h q;cases d with
  |bool b=>
   obtain⟨bs,e,rfl⟩:=mx0 (h);cases q with
   |cons d q=>cases d;rw[ih e q];rfl
  |_=>cases h
end L2.Z
namespace PySem
section
variable {A:Around}{E:Value->Shared->Prop}
def gY {a b:Addr}{o u:Obj}(ha:h.get? a=some o)(hb:h.get? b=some u)(hc:o.cls≠u.cls):a≠b:=fun e=>by subst e;rw[ha] at hb;cases hb;exact hc rfl
end
end PySem
namespace L2.Z
open PySem PySem.Spec PyProof.Rows L2 L2.C SI
section
variable {G:Hp}
theorem Dks.put {v:V}{key:Key}(hv:Dp K G d v):∀{kvs:List (Key×D)} {vs:List (Key×V)},Dks K G kvs vs->(vs.map (·.1)).Nodup->Dks K G (SI.put kvs key d) (putK vs key v)
 |_,_,.nil,_=>.cons hv .nil
 |_,_,.cons (k:=l) (v:=w) (ds:=ks) (vs:=ws) h r,nd=>by
  have nd':(l::ws.map (·.1)).Nodup:=nd;obtain⟨n1,n2⟩:=List.nodup_cons.mp nd';show Dks K G (if l=key then _ else _) _
  by_cases c:l=key
  ·subst c
   rw[if_pos rfl];have e:putK ((l,w)::ws) l v=(l,v)::ws:=by
    unfold putK;rw[if_pos (by simp),mk0,if_pos rfl]
    congr 1
    conv=>rhs;rw[←List.map_id ws]
    apply List.map_congr_left
    intro kv hkv;rw[if_neg]
    ·rfl
    ·intro z
     exact n1 (z▸List.mem_map.mpr ⟨kv,hkv,rfl⟩)
   rw[e];exact .cons hv r
  ·rw[if_neg c]
   have e:putK ((l,w)::ws) key v=(l,w)::putK ws key v:=by
    unfold putK;rw[List.any_cons,df0 c,Bool.false_or];split
    ·rw[mk0,if_neg c]
    ·rfl
   rw[e];exact .cons h (Dks.put hv r n2)
end
end L2.Z
namespace PySem
def Ris (p:Array Nat):Prop:=p.toList.Pairwise (·<·)
def Ris.lt {p:Array Nat}(r:Ris p)(hj:j<p.size)(h:i<j):p[i]'(Nat.lt_trans h hj)<p[j]:=by
 have:=List.pairwise_iff_getElem.mp r i j (by simpa using Nat.lt_trans h hj) (by omega) h
 simp_all
def Ris.le {p:Array Nat}(r:Ris p)(hj:j<p.size)(h:i≤j):p[i]'(Nat.lt_of_le_of_lt h hj)≤p[j]:=by
 rcases Nat.lt_or_eq_of_le h with h|rfl
 ·exact Nat.le_of_lt (r.lt hj h)
 simp
set_option tactic.hygienic true in
theorem iC {p:Array Nat}(r:Ris p)(x:Nat):∀n lo hi,hi≤p.size->lo≤hi->hi-lo≤n->(∀i (h:i<p.size),i<lo->p[i]<x)->(∀i (h:i<p.size),hi≤i->x≤p[i])->
  SetTable.below.go p x n lo hi≤p.size/\∀i (h:i<p.size),p[i]<x↔i<SetTable.below.go p x n lo hi
 |0,lo,hi,h1,h2,h3,a,b=>by
  obtain rfl:lo=hi:=by omega
  exact⟨h1,fun i h=>⟨fun q=>Nat.lt_of_not_le fun z=>absurd (b i h z) (by omega),a i h⟩⟩
 |n+1,lo,hi,h1,h2,h3,a,b=>by
  unfold SetTable.below.go;split
  ·rename_i c
   have hm:(lo+hi) / 2<p.size:=by omega
   simp only;rw[show p.getD ((lo+hi) / 2) x=p[(lo+hi) / 2] from by simp[Array.getD,hm]];split
   ·rename_i d
    exact iC r x n _ hi h1 (by omega) (by omega) (fun i h q=>Nat.lt_of_le_of_lt (r.le hm (by omega)) d) b
   ·rename_i d
    exact iC r x n lo _ (by omega) (by omega) (by omega) a fun i h q=>nt0 (by omega) (r.le h q)
  ·obtain rfl:lo=hi:=by omega
   exact⟨h1,fun i h=>⟨fun q=>Nat.lt_of_not_le fun z=>absurd (b i h z) (by omega),a i h⟩⟩
def iD {p:Array Nat}(r:Ris p)(x:Nat):SetTable.below p x≤p.size/\∀i (h:i<p.size),p[i]<x↔i<SetTable.below p x:=
 iC r x _ 0 _ (nr0 _) (Nat.zero_le _) (by simp_all) (fun a a q=>absurd q (Nat.not_lt_zero _)) fun i h q=>absurd h (by exact Nat.not_lt.2 ‹_›)
def Ris.zero {p:Array Nat}(r:Ris p):SetTable.below p 0=0:=by
 obtain⟨a,b⟩:=iD r 0;rcases Nat.eq_zero_or_pos (SetTable.below p 0) with z|z
 ·exact z
 ·exact absurd ((b 0 (by exact nt0 ‹_› ‹_›)).mpr z) (Nat.not_lt_zero _)
def Ris.next {p:Array Nat}(r:Ris p)(e:p[i]?=some j):SetTable.below p (j+1)=i+1:=by
 obtain⟨h,rfl⟩:=Array.getElem?_eq_some_iff.mp e;obtain⟨a,b⟩:=iD r (p[i]+1);have:=(b i h).mp (Nat.lt_succ_self _);rcases Nat.lt_or_ge (i+1) (SetTable.below p (p[i]+1)) with z|z
 ·have:=(b (i+1) (by omega)).mpr z
  have:=r.lt (i:=i) (j:=i+1) (by omega) (by simp_all);omega
 ·grind
def Ris.put {p:Array Nat}(r:Ris p)(ne:p[SetTable.below p j]?≠some j):Ris (SetTable.insertAt p (SetTable.below p j) j):=by
 obtain⟨a,b⟩:=iD r j;generalize SetTable.below p j=k at a b ne;unfold SetTable.insertAt Ris;have e:((p.extract 0 k).push j++p.extract k p.size).toList=p.toList.take k++j::p.toList.drop k:=by
  simp[Array.toList_extract,List.extract_eq_take_drop];exact List.take_of_length_le (by simp)
 rw[e];have r:p.toList.Pairwise (·<·):=r;have ge:∀i (h:i<p.size),k≤i->j<p[i]:=fun i h z=>by
  have h1:¬ p[i]<j:=fun q=>absurd ((b i h).mp q) (by exact Nat.not_lt.2 ‹_›)
  have hk:k<p.size:=by exact Nat.lt_of_le_of_lt ‹_› ‹_›
  have h2:p[k]≠j:=fun q=>ne (by rw[Array.getElem?_eq_getElem hk,q])
  have h3:¬ p[k]<j:=fun q=>absurd ((b k hk).mp q) (by simp_all)
  have:=Ris.le (p:=p) r h z
  grind
 refine List.pairwise_append.mpr ⟨r.take,List.pairwise_cons.mpr ⟨fun y hy=>?_,r.drop⟩,fun x hx y hy=>?_⟩
 ·obtain⟨i,hi,rfl⟩:=List.mem_drop_iff_getElem.mp hy
  exact ge (k+i) (by simp at hi;grind) (by simp_all)
 ·obtain⟨i,hi,rfl⟩:=List.mem_take_iff_getElem.mp hx
  have hi':i<p.size:=by simp at hi;grind
  have lt:=(b i hi').mpr (by grind);have lt:p.toList[i]<j:=by simpa using lt
  rcases mq0 hy with rfl|hy
  ·exact lt
  ·obtain⟨l,hl,rfl⟩:=List.mem_drop_iff_getElem.mp hy
   have:=ge (k+l) (by simp at hl;grind) (by omega);have:j<p.toList[k+l]:=by simpa using this
   omega
def uI {mask finger moves:Nat}{led plain:Bool}{hs:Array Int}{q:SetTable×Array Nat}(h:SetTable.laid mask finger moves led plain hs=some q):q.1.dummies=#[]/\Ris q.1.place:=by
 unfold SetTable.laid at h;obtain⟨ow,_,h⟩:=bx0 h;cases h;refine⟨rfl,?_⟩;show List.Pairwise _ _;rw[List.pairwise_map,List.pairwise_filterMap];refine List.pairwise_lt_range.imp fun {a b} lt x hx y hy=>?_
 obtain⟨_,_,rfl⟩:=mx0 hx;obtain⟨_,_,rfl⟩:=mx0 hy;exact lt
end PySem
namespace PySem
open PyProof.Rows
def bH {f:α->β}:∀{l m:List β},l.Perm m->∀xs:List α,m=xs.map f->∃ys:List α,ys.Perm xs/\l=ys.map f:=by
 intro l m h
 induction h with
 |nil=>simp
 |cons a _ ih=>
  intro xs e;cases xs with
  |nil=>cases e
  |cons x r=>
   injection e with e1 e2
   obtain⟨ys,p,rfl⟩:=ih r e2;exact⟨_,p.cons x,by simp_all⟩
 |swap a b l=>
  intro xs e
  match xs,e with
  |[],e=>cases e
  |[_],e=>injection e with _ e;cases e
  |x::y::r,e=>
   injection e with e1 e
   exact⟨_,.swap ..,by simp_all⟩
 |trans _ _ ih1 ih2=>
  intro xs e;obtain⟨ys,p,e2⟩:=ih2 xs e;obtain⟨zs,p2,e3⟩:=ih1 ys e2;exact⟨zs,p2.trans p,e3⟩
def ze (t:SetTable)(es:Array (Int×Value))(h:Int)(x:Value):(layNew t es h x).2.1.led=t.led:=by
 unfold layNew;split
 ·simp only[SetTable.orStandIn];split<;>rfl
 ·rfl
set_option tactic.hygienic true in
def uJ (t:SetTable)(es:Array (Int×Value))(n:Nat):(relayAll t es n).2.1.led=t.led/\((relayAll t es n).2.1.plain=true->t.plain=true/\(relayAll t es n).2.1.dummies=#[]/\Ris (relayAll t es n).2.1.place):=by
 unfold relayAll;split
 ·rename_i t' order e
  dsimp only;split
  ·obtain⟨ow,_,e⟩:=bx0 e
   cases e;exact⟨rfl,fun z=>⟨z,(uI e)⟩⟩
  ·exact⟨rfl,fun z=>by cases z⟩
 ·exact⟨rfl,fun z=>by cases z⟩
noncomputable abbrev byTx (w:World):Bool:=w.params.followText "set-order"
structure KD (prog:Program)(w:World)(κ:Type)[DecidableEq κ] where
 knd:KeyKind prog w κ
 vl:κ->Tok->Value
 pl:Bool
 is:∀k t,knd.is k (vl k t)=true
 sc:∀k t,(vl k t).scannable=true
 pk:∀k t,plainKind (vl k t)=pl
noncomputable abbrev KD.e {prog:Program}{w:World}{κ:Type}[DecidableEq κ](kd:KD prog w κ)(p:κ×Tok):Int×Value:=(kd.knd.hash p.1,kd.vl p.1 p.2)
def uK (pl:Bool)(t:SetTable)(n:Nat):Prop:=t.plain=true->(n≠0->pl=true)/\t.dummies=#[]/\Ris t.place
def StrSet {prog:Program}{w:World}{κ:Type}[DecidableEq κ](kd:KD prog w κ)(h:Heap)(a:Addr)(xs:List (κ×Tok))(ep:Nat):Prop:=
 ∃o es t,h.get? a=some o/\o.ExactSet/\o.data=.set es ep t/\t.fits es.size=true/\es.toList=xs.map kd.e/\t.led=!byTx w/\uK kd.pl t xs.length
section
variable {A:Around}{E:Value->Shared->Prop}{κ:Type}[DecidableEq κ][Inhabited κ]{kd:KD prog w κ}
def StrSet.keep {a:Addr}{xs:List (κ×Tok)}(x:StrSet kd h a xs ep)(k:∀o,h.get? a=some o->h'.get? a=some o):StrSet kd h' a xs ep:=
 let ⟨o,es,t,h1,r⟩:=x;⟨o,es,t,k o h1,r⟩
def StrSet.isA {a:Addr}{xs:List (κ×Tok)}(x:StrSet kd s.heap a xs ep):s.TypeIs (.ref a) "set":=
 let ⟨o,_,_,h1,h2,_⟩:=x;⟨o,h1,h2.1⟩
def jG (kd:KD prog w κ)(xs:List (κ×Tok)):ElemsOf kd.knd (xs.map kd.e):=fun e he=>by
 obtain⟨p,_,rfl⟩:=mm0 he;exact⟨⟨_,kd.is _ _,rfl⟩,kd.sc _ _⟩
def lX (kd:KD prog w κ)(xs:List (κ×Tok))(x:κ):((xs.map kd.e).findIdx? fun e=>kd.knd.is x e.2).isSome=decide (x∈xs.map (·.1)):=by
 induction xs with
 |nil=>rfl
 |cons p r ih=>
  have e:=KeyKind.is_eq_decide (kd.is p.1 p.2) x
  grind
def has_none (j:Nat):SetTable.has #[] j=false:=rfl
set_option tactic.hygienic true
theorem qa {t:SetTable}{f:Nat->Int}{h:Int}(hd:t.dummies=#[]):∀(n:Nat) (p:SetTable.Probe) (j:Nat) (d:Option Nat),p.dummy=none->SetTable.probe.go t f h n p=some (.empty j d)->d=none/\t.slot j=.empty
 |0,p,j,d,_,q=>by cases q
 |n+1,p,j,d,hp,q=>by
  unfold SetTable.probe.go at q;have adv:(t.advance p).dummy=none:=by
   unfold SetTable.advance;split
   ·exact hp
   ·exact hp
  split at q
  ·rename_i e;cases q;exact⟨hp,e⟩
  ·rename_i e
   unfold SetTable.slot at e;rw[hd,has_none] at e;simp only at e;split at e
   ·cases e
   ·simp at e
  ·split at q
   ·cases q
   ·exact qa hd n _ j d adv q
def zf {t:SetTable}{h:Int}{b:Bool}(hd:t.dummies=#[])(q:t.freeSlot h=some (j,b)):t.place[SetTable.below t.place j]?≠some j:=by
 unfold SetTable.freeSlot at q;split at q
 ·rename_i j' d e
  obtain⟨rfl,e2⟩:=qa hd _ _ _ _ rfl e;cases q;intro z;unfold SetTable.slot at e2
  simp_all
 ·cases q
def DC {pl:Bool}{t:SetTable}{es:Array (Int×Value)}{h:Int}{x:Value}(p:uK pl t es.size)(hx:pl=true):uK pl (layNew t es h x).2.1 (es.size+1):=by
 unfold layNew;split
 ·rename_i slot wd e
  simp only[SetTable.orStandIn];split
  ·intro tp
   obtain⟨_,m2,m3⟩:=p tp;refine⟨fun a=>hx,?_,m3.put (zf m2 e)⟩;show (if SetTable.has _ _ then _ else t.dummies)=#[];rw[m2];rfl
  ·intro tp;cases tp
 ·intro tp;cases tp
def kH {a:Addr}{o:Obj}{es es':Array (Int×Value)}{t t':SetTable}(ho:h.get? a=some o)(hd:o.data=.set es ep t):
  (h.update a (Obj.putSet es' t')).get? a=some {o with data:=.set es' (ep+1) t'}:=by
 have:=hu0 (Obj.putSet _ t') ho (by rw[putSet_of es' t' hd];rfl)
 rwa [putSet_of _ t' hd] at this
def Gs {a:Addr}{xs:List (κ×Tok)}{x:κ}{Q:Bool->Shared->Prop}(hS:StrSet kd s.heap a xs ep)(hr:xs.length+1<4096)
  (h:∀h' ys ep' b,Heap.SameBut a s.heap h'->StrSet kd h' a ys ep'->ys.Perm (if x∈xs.map (·.1) then xs else xs++[(x,tk)])->Q b {s with heap:=h'}):
  wpAny (model prog w) A (setAddHashed a (kd.vl x tk) (kd.knd.hash x)) Q E s:=by
 obtain⟨o,es,t,ho,hex,hd,hf,he,hl,hp⟩:=hS;have hsz:es.size=xs.length:=by rw[←al0,he,lm0]
 have hb:es.size<scanBound:=by rw[hsz];unfold scanBound;exact Nat.le_of_lt ‹_›
 have hel:ElemsOf kd.knd es.toList:=by rw[he];exact jG kd xs
 have hk:kd.knd.is x (kd.vl x tk)=true:=kd.is x tk;have fnd:=lX kd xs x;unfold setAddHashed setAddHashedIn;refine wh0 (wb0 (wpAny_setState_of ho hd hf ?_));dsimp only;rw[byScan_of (knd:=kd.knd) (x:=kd.vl x tk) (kd.sc x tk) hb hel];simp only[if_true];unfold setAddByScan;refine wb0 (wb0 (wpAny_rule (wb0 (wpAny_setScan_of (knd:=kd.knd) hk ho hd hf hel ?_))));rw[←he] at fnd;cases q:List.findIdx? (fun e=>kd.knd.is x e.2) es.toList with
 |some j=>
  rw[q] at fnd;dsimp only;refine wq0 (wq0 (h s.heap xs ep false (Heap.SameBut.refl a _) ⟨o,es,t,ho,hex,hd,hf,he,hl,hp⟩ ?_));rw[if_pos (od0 fnd.symm)]
 |none=>
  rw[q] at fnd;dsimp only;have nin:x∉xs.map (·.1):=of_decide_eq_false fnd.symm;rw[if_neg nin] at h;have gw:∀(b:Bool) (s₁:Shared) (Q':Unit->Shared->Prop),Q' () s₁->wpAny (model prog w) A (match b with|true=>rule "set.scan.the-table-gave-way"|false=>pure ()) Q' E s₁:=
   fun b s₁ Q' z=>by cases b<;>first|exact wq0 z|exact wpAny_rule z
  have p1:=layNew_perm t es (kd.knd.hash x) (kd.vl x tk);have f1:=layNew_fits t es (kd.knd.hash x) (kd.vl x tk);have l1:=ze t es (kd.knd.hash x) (kd.vl x tk);have y1:=fun z=>DC (h:=kd.knd.hash x) (x:=kd.vl x tk) (by rw[hsz];exact hp) z
  generalize layNew t es (kd.knd.hash x) (kd.vl x tk)=L at p1 f1 l1 y1 ⊢;obtain⟨es1,t1,wd,gv⟩:=L;dsimp only at p1 f1 l1 y1 ⊢;have e0:(es.push (kd.knd.hash x,kd.vl x tk)).toList=(xs++[(x,tk)]).map kd.e:=by
   rw[Array.toList_push,he,List.map_append];rfl
  obtain⟨ys,py,ey⟩:=bH p1 _ e0;have hz1:es1.size=xs.length+1:=by rw[←al0,ey,lm0,py.length_eq,la0];rfl
  have hfit:es1.size≤sizeLine:=by rw[hz1,sizeLine_eq];omega
  refine wb0 (gw _ _ _ ?_);have fin:∀t2:SetTable,t2.fits es1.size=true->t2.led=t.led->uK kd.pl t2 es1.size->wpAny (model prog w) A (do
    storeSet a es1 t2
    if (!wd&&t2.tooFull)=true then do
     (match (relayAll t2 es1 (SetTable.grown es1.size)).2.2 with|true=>rule "set.scan.the-table-gave-way"|false=>pure ())
     storeSet a (relayAll t2 es1 (SetTable.grown es1.size)).1 (relayAll t2 es1 (SetTable.grown es1.size)).2.1
     pure (some true)
    else pure (some true)) (fun r s'=>r=some true/\Q true s') E s:=by
   intro t2 g1 g2 g3;refine wb0 (wpAny_storeSet_of (prog:=prog) (w:=w) ho hd ?_ hfit);have ho1:=kH (es':=es1) (t':=t2) ho hd;have sb1:=Heap.SameBut.update s.heap a (Obj.putSet es1 t2);split
   ·rename_i full
    have p2:=relayAll_perm t2 es1 (SetTable.grown es1.size);have f2:=relayAll_fits t2 es1 (SetTable.grown es1.size);have k2:=uJ t2 es1 (SetTable.grown es1.size);generalize relayAll t2 es1 (SetTable.grown es1.size)=L2 at p2 f2 k2 ⊢;obtain⟨es2,t3,gv2⟩:=L2;dsimp only at p2 f2 k2 ⊢;obtain⟨zs,pz,ez⟩:=bH p2 _ ey;refine wb0 (gw _ _ _ (wb0 (wpAny_storeSet_of (prog:=prog) (w:=w) ho1 rfl ?_ ?_)))
    ·refine wq0 ⟨rfl,h _ zs _ true (sb1.trans (Heap.SameBut.update _ a _)) ⟨_,es2,t3,kH ho1 rfl,hex,rfl,f2,ez,k2.1.trans (g2.trans hl),fun tp=>?_⟩ (pz.trans py)⟩
     obtain⟨tp2,k3⟩:=k2.2 tp;have ez2:zs.length=es1.size:=by rw[hz1,pz.length_eq,py.length_eq,la0];rfl
     rw[ez2];exact⟨(g3 tp2).1,k3⟩
    ·rw[←al0,ez,lm0,pz.length_eq,py.length_eq,la0,sizeLine_eq];simp only[List.length_singleton];omega
   ·exact wq0 ⟨rfl,h _ ys _ true sb1 ⟨_,es1,t2,ho1,hex,rfl,g1,ey,g2.trans hl,by rw[show ys.length=es1.size by rw[hz1,py.length_eq,la0];rfl];exact g3⟩ py⟩
  split
  ·refine wb0 ?_
   rw[hashByValue_scannable 8 (x:=kd.vl x tk) (kd.sc x tk),kd.pk];refine wq0 ?_;cases hpl:kd.pl with
   |false=>
    refine wpAny_mono (fin {t1 with plain:=false} (SetTable.fits_plain_off f1) l1 (fun z=>by cases z)) (fun r s' z=>?_) fun c c z=>z
    obtain⟨rfl,z⟩:=z;exact wq0 z
   |true=>
    refine wpAny_mono (fin t1 f1 l1 (by rw[show es1.size=es.size+1 by simp_all];exact y1 hpl)) (fun r s' z=>?_) fun c c z=>z
    obtain⟨rfl,z⟩:=z;exact wq0 z
  ·rename_i np
   refine wb0 (wq0 ?_);refine wpAny_mono (fin t1 f1 l1 (fun z=>absurd z np)) (fun r s' z=>?_) fun c c z=>z
   obtain⟨rfl,z⟩:=z;exact wq0 z
set_option tactic.hygienic false
def add_str {a:Addr}{xs:List (κ×Tok)}{x:κ}{Q:Bool->Shared->Prop}(hS:StrSet kd s.heap a xs ep)(hr:xs.length+1<4096)
  (h:∀h' ys ep' b,Heap.SameBut a s.heap h'->StrSet kd h' a ys ep'->ys.Perm (if x∈xs.map (·.1) then xs else xs++[(x,tk)])->Q b {s with heap:=h',toks:=s.toks+1}):
  wpAny (model prog w) A (setAdd a (kd.vl x tk)) Q E s:=by
 exact wh0 (wb0 (kd.knd.pyHash (kd.is x tk) (Gs hS hr h)))
end
def ft (h:Heap):h.get? h.objs.size=none:=by
 cases q:h.get? _ with
 |none=>rfl
 |some o=>exact absurd (hs0 q) (li0 _)
noncomputable abbrev aT (w:World):Obj:={cls:=.type "set",dict:=none,data:=.set #[] 0 (.fresh 0 0 (!byTx w))}
section
variable {A:Around}{E:Value->Shared->Prop}{κ:Type}[DecidableEq κ][Inhabited κ]{kd:KD prog w κ}
theorem StrSet.cls {a:Addr}{xs:List (κ×Tok)}(x:StrSet kd h a xs ep):∃o,h.get? a=some o/\o.cls=.type "set":=
 let ⟨o,_,_,h1,h2,_⟩:=x;⟨o,h1,h2.1⟩
omit [Inhabited κ] in
def jH {xs ys:List (κ×Tok)}{x:κ}(n:(xs.map (·.1)).Nodup)(p:ys.Perm (if x∈xs.map (·.1) then xs else xs++[(x,tk)])):
  (ys.map (·.1)).Nodup/\(∀y,y∈ys.map (·.1)↔y∈xs.map (·.1)\/y=x)/\ys.length≤xs.length+1:=by
 have pm:=p.map (·.1);have pl:=p.length_eq
 by_cases q:x∈xs.map (·.1)
 ·rw[if_pos q] at pm pl
  exact⟨pm.nodup_iff.mpr n,fun y=>pm.mem_iff.trans ⟨.inl,fun z=>z.elim id fun e=>e▸q⟩,by simp_all⟩
 ·rw[if_neg q] at pm pl
  rw[List.map_append] at pm;refine⟨pm.nodup_iff.mpr (List.nodup_append.mpr ⟨n,by simp,fun a ha b hb=>?_⟩),fun y=>pm.mem_iff.trans ?_,by rw[pl,la0];exact nr0 _⟩
  ·have:b=x:=by simpa using hb
   subst this;exact fun e=>q (e▸ha)
  ·rw[List.mem_append]
   exact or_congr Iff.rfl (by simp)
def uL {it S:Addr}{ss:List κ}{R:Result->Shared->Prop}(hh:A.handled=none)(hz:items.size=ss.length)(hz2:items.size<4000)(hv:∀(j:Nat) (x:κ),ss[j]?=some x->∃tk,items[j]?=some (kd.vl x tk)):
  ∀(m i:Nat) (xs:List (κ×Tok)) (ep:Nat) (s:Shared),i+m=ss.length->xs.length≤i->(xs.map (·.1)).Nodup->s.heap.IsListIter it l i->s.heap.IsList l items->StrSet kd s.heap S xs ep->
   (∀h' tk ys ep',StrSet kd h' S ys ep'->(ys.map (·.1)).Nodup->(∀y,y∈ys.map (·.1)↔y∈xs.map (·.1)\/y∈ss.drop i)->ys.length≤ss.length->(∀b o,b≠it->b≠S->s.heap.get? b=some o->h'.get? b=some o)->R (.ok (.ret .none)) {s with heap:=h',toks:=tk})->
   codeAny (model prog w) A (.builtin "set.update.loop" ⟨[.ref S,.ref it],[]⟩) R s:=by
 intro m
 induction m with
 |zero=>
  intro i xs ep s hm hx nd hi hl hS h;obtain⟨oi,ei,ci,_⟩:=id hi;obtain⟨oS,eS,cS⟩:=hS.cls;have nSi:S≠it:=gY eS ei (by rw[cS,ci];decide);refine codeAny_builtin PyProof.Rows.F.entry_set_update_loop ?_;rw[ui0 PyProof.Rows.F.plain_set_update_loop];unfold Builtin.«set.update.loop»;dsimp only;refine wb0 (wpAny_pyNext_list_end (show A.in1.handled=none from hh) hi hl (by rw[Array.getElem?_eq_none];simp_all) fun h' eb=>?_);refine wq0 (h h' s.toks xs ep (hS.keep fun o e=>eb S o nSi e) nd (fun y=>?_) (by simp_all) fun b o n1 n2 e=>eb b o n1 e);rw[List.drop_eq_nil_of_le (by simp_all)]
  simp
 |succ m ih=>
  intro i xs ep s hm hx nd hi hl hS h;obtain⟨oi,ei,ci,_⟩:=id hi;obtain⟨oS,eS,cS⟩:=hS.cls;obtain⟨ol,el,cl,_⟩:=id hl;have nSi:S≠it:=gY eS ei (by rw[cS,ci];decide);have nli:l≠it:=gY el ei (by rw[cl,ci];decide);have nlS:l≠S:=gY el eS (by rw[cl,cS];decide);have hlt:i<ss.length:=by grind
  obtain⟨tk,hu⟩:=hv i _ (ge0 hlt);refine codeAny_builtin PyProof.Rows.F.entry_set_update_loop ?_;rw[ui0 PyProof.Rows.F.plain_set_update_loop];unfold Builtin.«set.update.loop»;dsimp only;refine wb0 (wpAny_pyNext_list_item hi hl hu fun h1 hi' sb=>?_);have k1:∀{b:Addr},b≠it->∀o,s.heap.get? b=some o->h1.get? b=some o:=fun hb o e=>(sb.2 _ hb).trans e
  dsimp only;refine wb0 (wh0 (add_str (hS.keep (k1 nSi)) (by grind) fun h2 ys ep2 b sb2 hS2 py=>?_));have k2:∀{b:Addr},b≠S->∀o,h1.get? b=some o->h2.get? b=some o:=fun hb o e=>(sb2.2 _ hb).trans e
  obtain⟨n2,m2,z2⟩:=jH nd py;refine wq0 ⟨plainId_quiet PyProof.Rows.F.plain_set_update_loop _,?_⟩;refine ih (i+1) ys ep2 {s with heap:=h2,toks:=s.toks+1} (by omega) (by omega) n2 (hi'.at (k2 nSi.symm)) ((hl.at (k1 nli)).at (k2 nlS)) hS2 fun h' tk' zs ep3 a1 a2 a3 a4 a5=>?_
  refine h h' tk' zs ep3 a1 a2 (fun y=>(a3 y).trans ?_) a4 fun b o n1 n2 e=>a5 b o n1 n2 (k2 n2 _ (k1 n1 _ e))
  rw[List.drop_eq_getElem_cons hlt,m2 y,List.mem_cons,or_assoc]
def uM (v:Value)(h:Q₁ (.ref s.heap.objs.size) {s with heap:=s.heap.push (aT w)}):
  codeAny (model prog w) A (.call (.builtin "set.__new__") ⟨[.type "set",v],[]⟩) (wants Q₁ E) s:=by
 refine codeAny_of_tree ?_;refine wb0 (wpAny_of_eq (F.newCall_set_1 v) (wq0 ⟨plainId_quiet F.plain_set_new _,codeAny_builtin F.entry_set_new ?_⟩));rw[ui0 F.plain_set_new _];unfold Builtin.«set.__new__» Builtin.Frozenset.newClass;have hs:=sub_set_self;obtain⟨hp,g,d,tk,os⟩:=s;dsimp only
 wp_walk
 refine wpAny_askSetting (wq0 ?_);dsimp only;simp only[newObj];refine wb0 (wpAny_alloc (wq0 (wq0 ?_)));exact h
def uN {S:Addr}{ss:List κ}{R:Result->Shared->Prop}(hh:A.handled=none)(hS:s.heap.get? S=some (aT w))(hl:s.heap.IsList l items)(hz:items.size=ss.length)(hz2:items.size<4000)(hv:∀(j:Nat) (x:κ),ss[j]?=some x->∃tk,items[j]?=some (kd.vl x tk))
  (h:∀h' tk ys ep,StrSet kd h' S ys ep->(ys.map (·.1)).Nodup->(∀y,y∈ys.map (·.1)↔y∈ss)->ys.length≤ss.length->(∀b o,b≠S->s.heap.get? b=some o->h'.get? b=some o)->R (.ok (.ret .none)) {s with heap:=h',toks:=tk}):
  codeAny (model prog w) A (.call (.builtin "set.__init__") ⟨[.ref S,.ref l],[]⟩) R s:=by
 have hT:s.TypeIs (.ref S) "set":=⟨_,hS,rfl⟩;refine codeAny_call_builtin F.called_set.init.plain F.entry_set_init (check_set_init_1 hT ?_);obtain⟨ol,hol,hcl,nl,hdl⟩:=id hl;obtain⟨oc,od,odt,osl⟩:=ol;simp only at hcl hdl;subst hcl;subst hdl;have q1:=F.sub_list_set;have q2:=F.sub_list_frozenset;have q3:(Value.type "list"==Value.type "dict")=false:=by decide
 unfold Builtin.«set.__init__» noKeywords Builtin.Frozenset.updateFrom;generalize hPI:pyIter=PI
 wp_walk
 subst hPI;refine wpAny_pyIter_list hl (wb0 (wpAny_runValue ?_));have lt1:l<s.heap.objs.size:=hs0 hol;have lt2:S<s.heap.objs.size:=hs0 hS;have hS':=ps0 {cls:=.type "list_iterator",data:=.fields #[.ref l,.int 0 0]} hS;have S0:StrSet kd (s.heap.push {cls:=.type "list_iterator",data:=.fields #[.ref l,.int 0 0]}) S [] 0:=⟨aT w,#[],.fresh 0 0 (!byTx w),hS',⟨rfl,rfl,rfl⟩,rfl,rfl,rfl,rfl,fun a=>⟨fun z=>absurd rfl z,rfl,.nil⟩⟩;refine uL (kd:=kd) (prog:=prog) (w:=w) (items:=items) (ss:=ss) (by exact hh) hz hz2 hv ss.length 0 [] 0 {s with heap:=s.heap.push {cls:=.type "list_iterator",data:=.fields #[.ref l,.int 0 0]}} (by omega) (nr0 _) List.nodup_nil ⟨_,pz0 _ rfl,rfl,rfl⟩ (hl.push _) S0 fun h' tk ys ep a1 a2 a3 a4 a5=>?_
 refine wq0 ?_;refine wq0 (h h' tk ys ep a1 a2 (fun y=>(a3 y).trans (by simp)) a4 fun b o nb e=>a5 b o (nn0 (hs0 e)) nb (ps0 _ e))
set_option maxHeartbeats 3200000 in
def jj {ss:List κ}(hh:A.handled=none)(hl:s.heap.IsList l items)(hz:items.size=ss.length)(hz2:items.size<4000)(hv:∀(j:Nat) (x:κ),ss[j]?=some x->∃tk,items[j]?=some (kd.vl x tk))
  (h:∀h' tk S ys ep,s.heap.objs.size≤S->StrSet kd h' S ys ep->(ys.map (·.1)).Nodup->(∀y,y∈ys.map (·.1)↔y∈ss)->ys.length≤ss.length->(∀b o,s.heap.get? b=some o->h'.get? b=some o)->Q (.ref S) {s with heap:=h',toks:=tk}):
  wpAny (model prog w) A (call (.type "set") [.ref l]) Q E s:=by
 obtain⟨c,tl,hm⟩:=F.called_set.mro;have hmade:=F.called_set.made;have hsub:=F.called_set.sub;refine wpAny_call (codeAny_of_tree ?_);show wpAny _ _ (callAny (.type "set") ⟨[.ref l],[]⟩) _ _ _;refine wq0 ⟨Code.quiet_builtin _ (by decide +kernel),codeAny_builtin F.entry_type_call ?_⟩;rw[Around.under_plain (weight_type_call_type "set" [.ref l] []) rfl];have h1:=F.called_set.notType;have h2:=F.called_set.canCreate;have h3:=F.typeCall_set_1 (.ref l)
 repeat (any_goals (first|assumption|wp_step))
 refine codeAny_mono (uM (w:=w) (.ref l) (E:=E) (Q₁:=fun v s₁=>v=.ref s.heap.objs.size/\s₁={s with heap:=s.heap.push (aT w)}) ⟨rfl,rfl⟩) fun r s₁ hr=>?_
 cases r with
 |error e=>exact hr
 |ok fl=>
  cases fl with
  |ret v=>
   obtain⟨rfl,rfl⟩:=hr;have g0:(s.heap.push (aT w)).get? s.heap.objs.size=some (aT w):=pz0 _ rfl;have hT:Shared.TypeIs {s with heap:=s.heap.push (aT w)} (.ref s.heap.objs.size) "set":=⟨_,g0,rfl⟩;have hli:=F.called_set.init.lookup;have hbi:=F.called_set.init.bind (.ref s.heap.objs.size)
   repeat (any_goals (first|assumption|wp_step))
   refine codeAny_mono (uN (s:={s with heap:=s.heap.push (aT w)}) (R:=wants (fun r s₂=>r=.none/\∃h' tk ys ep,s₂={s with heap:=h',toks:=tk}/\StrSet kd h' s.heap.objs.size ys ep/\(ys.map (·.1)).Nodup/\(∀y,y∈ys.map (·.1)↔y∈ss)/\ys.length≤ss.length/\(∀b o,s.heap.get? b=some o->h'.get? b=some o)) E) hh g0 (hl.push _) hz hz2 hv fun h' tk ys ep a1 a2 a3 a4 a5=>⟨rfl,h',tk,ys,ep,rfl,a1,a2,a3,a4,fun b o e=>a5 b o (nn0 (hs0 e)) (ps0 _ e)⟩) fun r₂ s₂ hr₂=>?_
   cases r₂ with
   |error e=>exact hr₂
   |ok f₂=>
    cases f₂ with
    |ret r=>
     obtain⟨rfl,h',tk,ys,ep,rfl,a1,a2,a3,a4,a5⟩:=hr₂
     repeat (any_goals (first|assumption|wp_step))
     exact h h' tk _ ys ep (nr0 _) a1 a2 a3 a4 a5
    |_=>exact hr₂.elim
  |_=>exact hr.elim
end
def slot_sit_next:Slot "set_iterator" "__next__" "set_iterator.__next__":=
 .of (owner:="set_iterator") (n:="__next__") (rfl) (by decide +kernel) (by decide +kernel) (by decide +kernel) (by first|exact .inl (by decide +kernel)|rfl) (rfl)
def eL:Slot "set_iterator" "__iter__" "set_iterator.__iter__":=
 .of (owner:="set_iterator") (n:="__iter__") (rfl) (by decide +kernel) (by decide +kernel) (by decide +kernel) (by first|exact .inl (by decide +kernel)|rfl) (rfl)
def bz:entryFor table "set_iterator.__next__"=some Builtin.«set_iterator.__next__»:=entryFor_of_fast (rfl)
def iE:entryFor table "set.__iter__"=some Builtin.«frozenset.__iter__»:=by refine entryFor_alias (id':="frozenset.__iter__") ?_ rfl ?_ ?_<;>first|kernel_rfl|rfl
def bF (a:Value):argsOk "set_iterator.__next__" ⟨[a],[]⟩:=by rfl
def qc {l:List α}(h:i<l.length):(l[i]::l.eraseIdx i).Perm l:=by
 rw[List.eraseIdx_eq_take_drop_succ];refine (List.perm_middle.symm).trans (List.Perm.of_eq ?_);simp
theorem qd (f:Nat->Nat):∀(n k:Nat) (l:List α) (o:Array α),n=l.length->(pickOrder.go f n k l o).toList.Perm (o.toList++l)
 |0,k,l,o,e=>by
  have:l=[]:=ez0 e.symm;subst this;show o.toList.Perm _;rw[List.append_nil]
 |n+1,k,l,o,e=>by
  have hl:0<l.length:=by grind
  have lt:=Nat.mod_lt (f k) hl;show ((match l[f k % l.length]? with|some x=>pickOrder.go f n (k+1) (l.eraseIdx (f k % l.length)) (o.push x)|none=>o):Array α).toList.Perm _;rw[ge0 lt];dsimp only;refine (qd f n (k+1) _ _ (by rw[List.length_eraseIdx_of_lt lt];grind)).trans ?_;rw[Array.toList_push,List.append_assoc];exact (List.Perm.refl _).append (qc lt)
def jI (f:Nat->Nat)(xs:Array α):(pickOrder f xs).toList.Perm xs.toList:=by
 have:=qd f xs.size 0 xs.toList #[] (rfl)
 simpa [pickOrder] using this
section
variable {A:Around}{E:Value->Shared->Prop}
def uO {Q:Nat->Shared->Prop}(hn:n≠0)(h:∀i d,i<n->Q i {s with drawn:=d}):wpAny (model prog w) A (choose .order n) Q E s:=fun Γ p a=>by
 exact⟨hn,h _ _ (Nat.mod_lt _ (Nat.pos_of_ne_zero hn))⟩
def jJ (n:Nat):∀(xs:List α) (s:Shared) (Q:List α->Shared->Prop),n=xs.length->(∀ys d,ys.Perm xs->Q ys {s with drawn:=d})->wpAny (model prog w) A (drawOrder n xs) Q E s:=by
 induction n with
 |zero=>
  intro xs s Q e h;cases xs with
  |nil=>exact wq0 (h [] s.drawn (.refl _))
  |cons x r=>cases e
 |succ n ih=>
  intro xs s Q e h;cases xs with
  |nil=>cases e
  |cons x r=>
   unfold drawOrder;refine wb0 (uO (by simp) fun i d hi=>?_);rw[ge0 hi];dsimp only;refine wb0 (ih _ _ _ (by rw[List.length_eraseIdx_of_lt hi];simp at e ⊢;omega) fun ys d' p=>wq0 (h _ d' ?_));exact (p.cons _).trans (qc hi)
def asks {Q:Bool->Shared->Prop}(h:Q (byTx w) s):wpAny (model prog w) A setsByText Q E s:=by
 exact wb0 (wpAny_askSetting (wq0 h))
def rG {S:Addr}{o:Obj}{es:Array (Int×Value)}{t:SetTable}{sl:Nat}{Q:Option (Value×Nat)->Shared->Prop}(ho:s.heap.get? S=some o)(hd:o.data=.set es ep t)(hf:t.fits es.size=true)(hb:byTx w=true)
  (h:Q (((pickOrder (w.params.setOrder S ep) es)[i]?).map fun e=>(e.2,sl)) s):wpAny (model prog w) A (setNext S sl i ep) Q E s:=by
 refine wb0 (wpAny_setState_of ho hd hf (wb0 (asks ?_)));rw[hb];simp only[bne_self_eq_false];refine wb0 ?_;refine wb0 (wpAny_setState_of ho hd hf (wb0 (asks ?_)));rw[hb];exact wb0 (wpAny_askSetting (wq0 (wq0 h)))
def lY {S:Addr}{o:Obj}{es:Array (Int×Value)}{t:SetTable}{sl:Nat}{Q:Option (Value×Nat)->Shared->Prop}(ho:s.heap.get? S=some o)(hd:o.data=.set es ep t)(hf:t.fits es.size=true)(hb:byTx w=false)(hl:t.led=true)(h1:t.plain=false->es.size≤1)
  (h:Q (match es[SetTable.below t.place sl]?,t.place[SetTable.below t.place sl]? with|some (_,x),some j=>some (x,j+1)|_,_=>none) s):wpAny (model prog w) A (setNext S sl i ep) Q E s:=by
 unfold setNext;refine wb0 (wpAny_setState_of ho hd hf (wb0 (asks ?_)));dsimp only;rw[hb];simp only[Bool.false_eq_true,if_false];have e1:(!t.plain&&decide (es.size>1))=false:=by
  cases c:t.plain with
  |true=>rfl
  |false=>rw[df0 (by have:=h1 c;exact Nat.not_lt.2 ‹_›),Bool.and_false]
 have e2:(!t.led&&!es.isEmpty)=false:=by rw[hl];rfl
 show wpAny (model prog w) A (if (!t.plain&&decide (es.size>1))=true then _ else _) Q E s;rw[if_neg (by rw[e1];exact fx0)];show wpAny (model prog w) A ((if (!t.led&&!es.isEmpty)=true then _ else _) >>= _) Q E s;rw[if_neg (by rw[e2];exact fx0)];exact wb0 (wq0 (wq0 h))
end
def SetIt (h:Heap)(I S:Addr)(f0:Value)(i n ep:Nat):Prop:=∃o,h.get? I=some o/\o.cls=.type "set_iterator"/\o.data=.fields #[f0,.int i 0,.ref S,.int n 0,.int ep 0]
def SetIt.is {I S:Addr}(x:SetIt s.heap I S f0 i n ep):s.TypeIs (.ref I) "set_iterator":=let ⟨o,a,b,_⟩:=x;⟨o,a,b⟩
def SetIt.keep {I S:Addr}(x:SetIt h I S f0 i n ep)(k:∀o,h.get? I=some o->h'.get? I=some o):SetIt h' I S f0 i n ep:=let ⟨o,a,b⟩:=x;⟨o,k o a,b⟩
def SetIt.upd {I S:Addr}(x:SetIt h I S f0 i n ep)(k:Nat)(v:Value):
  ∃o,(h.update I (Obj.mapFields (·.setIfInBounds k v))).get? I=some o/\o.cls=.type "set_iterator"/\o.data=.fields ((#[f0,.int i 0,.ref S,.int n 0,.int ep 0]:Array Value).setIfInBounds k v):=by
 obtain⟨o,ho,hc,hd⟩:=x;exact⟨_,hu0 _ ho (Obj.isFreed_of_fields (Obj.data_mapFields hd _)),(Obj.cls_mapFields ..).trans hc,Obj.data_mapFields hd _⟩
section
variable {A:Around}{E:Value->Shared->Prop}{κ:Type}[DecidableEq κ][Inhabited κ]{kd:KD prog w κ}{I S T:Addr}{xs:List (κ×Tok)}{sl:Nat}{x:Value}{nx:Nat}{Q:Option Value->Shared->Prop}
def fu {P:Fin->Shared->Prop}(hit:SetIt s.heap I S f0 i n ep)(hS:StrSet kd s.heap S xs ep)(hn:n=xs.length)
  (h:wpAny (model prog w) A (if let .int slot _:=f0 then do
    match ←setNext S slot.toNat (i:Int).toNat (ep:Int).toNat with
    |some (x,next)=>
     setField (.ref I) 0 (rawInt next)
     setField (.ref I) 1 (rawInt ((i:Int)+1))
     ret x
    |none=>setField (.ref I) 2 .none;raiseNew (←newExc (.type "StopIteration") [])
   else do
    let some places ←seqItems? f0|unsupported "internal:set_iterator"
    match places[(i:Int).toNat]? with
    |some (.int place _)=>
     let x ←setNextDrawn S place.toNat (ep:Int).toNat
     setField (.ref I) 1 (rawInt ((i:Int)+1))
     ret x
    |some _=>unsupported "internal:set_iterator"
    |none=>setField (.ref I) 0 (rawInt 0);setField (.ref I) 2 .none;raiseNew (←newExc (.type "StopIteration") [])) P E s):
  wpAny (model prog w) A (Builtin.«set_iterator.__next__» ⟨[.ref I],[]⟩) P E s:=by
 obtain⟨o,ho,hc,hd⟩:=hit;obtain⟨oS,es,t,eS,_,dS,fS,le,_⟩:=hS;have hz:es.size=n:=by rw[hn,←al0,le,lm0]
 refine wb0 (wq0 ?_);refine wb0 (wpAny_fieldsOf ho hd ?_);unfold setEntries;refine wb0 (wb0 (wpAny_setState_of eS dS fS (wq0 ?_)));dsimp only;rw[if_neg (by rw[hz];simp)];exact h
def lZ (hit:SetIt s.heap I S (.int sl 0) i n ep)(hS:StrSet kd s.heap S xs ep)(hn:n=xs.length)(hx:∀(A:Around) (E:Value->Shared->Prop) (Q:Option (Value×Nat)->Shared->Prop),Q (some (x,nx)) s->wpAny (model prog w) A (setNext S sl i ep) Q E s)
  (hQ:∀h',SetIt h' I S (.int nx 0) (i+1) n ep->Heap.SameBut I s.heap h'->Q (some x) {s with heap:=h'}):wpAny (model prog w) A (pyNext (.ref I)) Q E s:=by
 refine wb0 (wpAny_attempt (wpAny_callSpecial?_slot hit.is slot_sit_next (wpAny_call_entry slot_sit_next hit.is bz (fu hit hS hn ?_) (bF _))));refine wb0 (hx _ _ _ ?_);obtain⟨o,ho,hc,hd⟩:=id hit;obtain⟨o1,e1,c1,d1⟩:=hit.upd 0 _;refine wb0 (wpAny_setField ho hd (by simp) (wb0 (wpAny_setField e1 d1 (by simp) (wq0 ⟨x,rfl,wq0 (hQ _ ⟨_,hu0 _ e1 (Obj.isFreed_of_fields (Obj.data_mapFields d1 _)),(Obj.cls_mapFields ..).trans c1,?_⟩ ((Heap.SameBut.update ..).trans (Heap.SameBut.update ..)))⟩))));rw[Obj.data_mapFields d1]
 rfl
def ma {P:Fin->Shared->Prop}{o:Obj}{vs:Array Value}(hh:A.handled=none)(ho:s.heap.get? I=some o)(hd:o.data=.fields vs)(hz:2<vs.size)(hE:∀e h',Shared.TypeIs {s with heap:=h'} e "StopIteration"->Heap.ExtBut I s.heap h'->E' e {s with heap:=h'}):
  wpAny (model prog w) A (do setField (.ref I) 2 .none;raiseNew (←newExc (.type "StopIteration") [])) P E' s:=by
 refine wb0 (wpAny_setField ho hd hz (wb0 ?_));simp only[newExc,newTuple];refine wb0 (m:=firstArgMember _ _) (wpAny_of_eq (a:=Value.none) (by first|rfl|(simp only[firstArgMember];rfl)) (wpAny_newObj_type ?_ (by size_fits)));simp only[raiseNew];refine wb0 (wpAny_handled ?_);rw[hh];refine wb0 (wq0 (wpAny_throw ?_));refine hE _ _ ?_ (((Heap.SameBut.update ..).extBut.push _).push _);exact⟨_,pz0 _ rfl,rfl⟩
def qe (hh:A.handled=none)(hit:SetIt s.heap I S (.int sl 0) i n ep)(hS:StrSet kd s.heap S xs ep)(hn:n=xs.length)(hx:∀(A:Around) (E:Value->Shared->Prop) (Q:Option (Value×Nat)->Shared->Prop),Q none s->wpAny (model prog w) A (setNext S sl i ep) Q E s)
  (hQ:∀h',Heap.ExtBut I s.heap h'->Q none {s with heap:=h'}):wpAny (model prog w) A (pyNext (.ref I)) Q E s:=by
 refine wb0 (wpAny_attempt (wpAny_callSpecial?_slot hit.is slot_sit_next (wpAny_call_entry slot_sit_next hit.is bz (fu hit hS hn ?_) (bF _))));refine wb0 (hx _ _ _ ?_);obtain⟨o,ho,hc,hd⟩:=id hit;exact ma (hh) ho hd (by simp) fun e h' ht eb=>wb0 (wpAny_isInstance ht isSubtype_stop (wq0 (hQ _ eb)))
def rH {ps:List Nat}{p:Nat}{oT:Obj}{m:Nat}{y:κ×Tok}(hit:SetIt s.heap I S (.ref T) i n ep)(hS:StrSet kd s.heap S xs ep)(hn:n=xs.length)(hT:s.heap.get? T=some oT)(dT:oT.data=.seq (ps.map fun (k:Nat)=>rawInt (k:Int)).toArray m)(hp:ps[i]?=some p)(hy:xs[p]?=some y)
  (hQ:∀h',SetIt h' I S (.ref T) (i+1) n ep->Heap.SameBut I s.heap h'->Q (some (kd.vl y.1 y.2)) {s with heap:=h'}):wpAny (model prog w) A (pyNext (.ref I)) Q E s:=by
 unfold pyNext;refine wb0 (wpAny_attempt (wpAny_callSpecial?_slot (name:=Str.ofString "__next__") hit.is slot_sit_next (wpAny_call_entry slot_sit_next hit.is bz (fu hit hS hn ?_) (bF _))));dsimp only;simp only[Int.toNat_natCast];unfold seqItems?;refine wb0 (wb0 (wpAny_load hT ?_));rw[dT];refine wq0 ?_;dsimp only;have e:(ps.map fun (k:Nat)=>rawInt (k:Int)).toArray[i]?=some (rawInt (p:Int)):=by simp[hp]
 rw[e];obtain⟨oS,es,t,eS,_,dS,fS,le,_⟩:=id hS;show wpAny _ _ (setNextDrawn S (p:Int).toNat ep >>= _) _ _ _;unfold setNextDrawn;refine wb0 (wb0 (wpAny_setState_of eS dS fS ?_));dsimp only;simp only[bne_self_eq_false,Bool.false_eq_true,if_false,Int.toNat_natCast];have ee:es[p]?=some (kd.e y):=by rw[←Array.getElem?_toList,le,gm0,hy];rfl
 rw[ee];refine wq0 ?_;obtain⟨o,ho,hc,hd⟩:=id hit;obtain⟨o1,e1,c1,d1⟩:=hit.upd 1 (rawInt ((i:Int)+1));refine wb0 (wpAny_setField ho hd (by simp) (wq0 ⟨_,rfl,wq0 (hQ _ ⟨o1,e1,c1,?_⟩ (Heap.SameBut.update ..))⟩));rw[d1];simp[rawInt]
def uP {ps:List Nat}{oT:Obj}{m:Nat}(hh:A.handled=none)(hit:SetIt s.heap I S (.ref T) i n ep)(hS:StrSet kd s.heap S xs ep)(hn:n=xs.length)(hT:s.heap.get? T=some oT)(dT:oT.data=.seq (ps.map fun (k:Nat)=>rawInt (k:Int)).toArray m)(hp:ps[i]?=none)
  (hQ:∀h',Heap.ExtBut I s.heap h'->Q none {s with heap:=h'}):wpAny (model prog w) A (pyNext (.ref I)) Q E s:=by
 unfold pyNext;refine wb0 (wpAny_attempt (wpAny_callSpecial?_slot (name:=Str.ofString "__next__") hit.is slot_sit_next (wpAny_call_entry slot_sit_next hit.is bz (fu hit hS hn ?_) (bF _))));dsimp only;simp only[Int.toNat_natCast];unfold seqItems?;refine wb0 (wb0 (wpAny_load hT ?_));rw[dT];refine wq0 ?_;dsimp only;have e:(ps.map fun (k:Nat)=>rawInt (k:Int)).toArray[i]?=none:=by simpa using hp
 rw[e];obtain⟨o,ho,hc,hd⟩:=id hit;obtain⟨o1,e1,c1,d1⟩:=hit.upd 0 (rawInt 0);refine wb0 (wpAny_setField ho hd (by simp) ?_);refine ma (show A.in1.handled=none from hh) e1 d1 (by simp) fun e h' ht eb=>?_
 exact wb0 (wpAny_isInstance (T:="StopIteration") (b:=true) ht isSubtype_stop (wq0 (hQ _ ((Heap.SameBut.update ..).extBut.trans eb))))
end
def iF:entryFor table "set_iterator.__iter__"=some Builtin.«dict_keyiterator.__iter__»:=by
 refine entryFor_alias (id':="dict_keyiterator.__iter__") ?_ rfl ?_ ?_<;>first|kernel_rfl|rfl
def jk (a:Value):argsOk "set_iterator.__iter__" ⟨[a],[]⟩:=by rfl
def Gu {es:Array (Int×Value)}{xs:List (Int×Value)}(h:es.toList=xs):es=xs.toArray:=by
 rw[←h]
def oh [Inhabited α](xs:List α):(List.range xs.length).map (fun k=>xs.getD k default)=xs:=by
 apply List.ext_getElem
 ·simp
 ·intro i h1 h2
  simp[h2]
section
variable {A:Around}{E:Value->Shared->Prop}{κ:Type}[DecidableEq κ][Inhabited κ]{kd:KD prog w κ}{I S T:Addr}{xs:List (κ×Tok)}
noncomputable abbrev eqG:Array GenState->Array GenState->Prop:=fun a b=>b=a
abbrev zg {prog:Program}{w:World}{κ:Type}[DecidableEq κ](kd:KD prog w κ)(order:List (κ×Tok))(i:Nat)(v:Value):Prop:=∃p,order[i]?=some p/\v=kd.vl p.1 p.2
def iG (hit:SetIt s.heap I S f0 i n ep)(hQ:Q (.ref I) s):wpAny (model prog w) A (pyIter (.ref I)) Q E s:=by
 exact wpAny_pyIter_slot hit.is eL (wpAny_call_entry eL hit.is iF (wq0 ⟨_,rfl,_,_,hit.is,slot_sit_next.lookup,hQ⟩) (jk _))
def rJ (hb:byTx w=true)(hIS:S≠I)(hh:A.handled=none):∃order:List (κ×Tok),order.Perm xs/\
  WalksS prog w A I [I,S] [I] eqG xs.length (zg kd order) (fun i s=>SetIt s.heap I S (.int 0 0) i xs.length ep/\StrSet kd s.heap S xs ep):=by
 obtain⟨order,po,eo⟩:=bH (jI (w.params.setOrder S ep) (xs.map kd.e).toArray) xs rfl;have nxt:∀(s:Shared) (i:Nat),StrSet kd s.heap S xs ep->∀(A:Around) (E:Value->Shared->Prop) (Q:Option (Value×Nat)->Shared->Prop),Q ((order[i]?).map fun p=>(kd.vl p.1 p.2,0)) s->wpAny (model prog w) A (setNext S 0 i ep) Q E s:=fun s i hS A E Q q=>by
  obtain⟨o,es,t,h1,_,h2,h3,h4,_⟩:=hS;refine rG h1 h2 h3 hb ?_;rw[Gu h4,←Array.getElem?_toList,eo,gm0];cases z:order[i]?<;>simp_all
 refine⟨order,po,⟨fun b hb=>by simp at hb;simp[hb],fun a=>rfl,fun a a a h1 h2=>h2.trans h1,fun i s h' tk st a hk=>⟨st.1.keep fun o e=>hk I (by simp) o e,st.2.keep fun o e=>hk S (by simp) o e⟩,fun i s Q E hi st hQ=>?_,fun s Q E st hQ=>?_,fun i s Q E st hQ=>iG st.1 hQ⟩⟩
 ·have hi':i<order.length:=by rw[po.length_eq];exact hi
  have e:order[i]?=some order[i]:=ge0 hi';refine lZ st.1 st.2 rfl (x:=kd.vl order[i].1 order[i].2) (nx:=0) (fun A E Q q=>nxt s i st.2 A E Q (by rw[e];exact q)) fun h' hit' sb=>?_
  exact hQ _ _ ⟨_,e,rfl⟩ ⟨hit',st.2.keep fun o e=>(sb.2 _ hIS).trans e⟩ ⟨fun b o hb e=>(sb.2 b (fun z=>hb (by simp[z]))).trans e,rfl,rfl,rfl,nr0 _⟩
 ·have e:order[xs.length]?=none:=List.getElem?_eq_none (by rw[po.length_eq];exact nr0 _)
  refine qe hh st.1 st.2 rfl (fun A E Q q=>nxt s _ st.2 A E Q (by rw[e];exact q)) fun h' eb=>?_
  exact hQ _ ⟨fun b o hb e=>eb b o (fun z=>hb (by simp[z])) e,rfl,rfl,rfl,nr0 _⟩
def mf {t:SetTable}{pl:Bool}(p:uK pl t n)(hf:t.fits n=true)(h1:t.plain=false->n≤1):Ris t.place:=by
 cases q:t.plain with
 |true=>exact (p q).2.2
 |false=>
  have:=h1 q;simp only[SetTable.fits,be0,beq_iff_eq] at hf;have hs:t.place.toList.length≤1:=by rw[al0];simp_all
  unfold Ris
  match t.place.toList,hs with
  |[],_=>exact .nil
  |[x],_=>exact List.pairwise_singleton _ _
def uQ (hb:byTx w=false)(hIS:S≠I)(hh:A.handled=none):
  WalksS prog w A I [I,S] [I] eqG xs.length (zg kd xs) (fun i s=>∃sl,SetIt s.heap I S (.int (sl:Nat) 0) i xs.length ep/\StrSet kd s.heap S xs ep/\∀o es t,s.heap.get? S=some o->o.data=.set es ep t->(t.plain=false->xs.length≤1)/\SetTable.below t.place sl=i):=by
 refine⟨fun b hb=>by simp at hb;simp[hb],fun c=>rfl,fun c c c h1 h2=>h2.trans h1,fun i s h' tk st c hk=>?_,fun i s Q E hi st hQ=>?_,fun s Q E st hQ=>?_,fun i s Q E st hQ=>?_⟩
 ·obtain⟨sl,a,b,d⟩:=st
  obtain⟨o0,es0,t0,e0,r0⟩:=id b;refine⟨sl,a.keep fun o e=>hk I (by simp) o e,b.keep fun o e=>hk S (by simp) o e,fun o es t h1 h2=>d o es t ?_ h2⟩;have:=hk S (by simp) _ e0;have h1:h'.get? S=some o:=h1;rw[this] at h1;cases h1;exact e0
 ·obtain⟨sl,a,b,d⟩:=st
  obtain⟨o,es,t,h1,h1x,h2,h3,h4,h5,h6⟩:=id b;have hes:es.size=xs.length:=by rw[←al0,h4,lm0]
  obtain⟨d1,d2⟩:=d o es t h1 h2;have P2:=mf h6 (by rw[←hes];exact h3) d1;have hf:=h3;simp only[SetTable.fits,be0,beq_iff_eq] at hf;have hj:t.place[i]?=some t.place[i]:=Array.getElem?_eq_getElem (by omega);have hy:es[i]?=some (kd.e xs[i]):=by rw[←Array.getElem?_toList,h4,gm0,ge0 hi];rfl
  refine lZ (nx:=t.place[i]+1) a b rfl (x:=kd.vl xs[i].1 xs[i].2) (fun A E Q q=>lY h1 h2 h3 hb (by rw[h5,hb];rfl) (by rw[hes];exact d1) ?_) fun h' hit' sb=>?_
  ·rw[d2,hj,hy]
   exact q
  ·refine hQ _ _ ⟨xs[i],ge0 hi,rfl⟩ ⟨t.place[i]+1,hit',b.keep fun o e=>(sb.2 _ hIS).trans e,fun o' es' t' z1 z2=>?_⟩ ⟨fun b o hb e=>(sb.2 b (fun z=>hb (by simp[z]))).trans e,rfl,rfl,rfl,nr0 _⟩
   have z1:h'.get? S=some o':=z1;rw[(sb.2 _ hIS).trans h1] at z1;cases z1;rw[h2] at z2;injection z2 with _ _ z2
   subst z2;exact⟨d1,P2.next hj⟩
 ·obtain⟨sl,a,b,d⟩:=st
  obtain⟨o,es,t,h1,h1x,h2,h3,h4,h5,h6⟩:=id b;have hes:es.size=xs.length:=by rw[←al0,h4,lm0]
  obtain⟨d1,d2⟩:=d o es t h1 h2;refine qe hh a b rfl (fun A E Q q=>lY h1 h2 h3 hb (by rw[h5,hb];rfl) (by rw[hes];exact d1) ?_) fun h' eb=>hQ _ ⟨fun b o hb e=>eb b o (fun z=>hb (by simp[z])) e,rfl,rfl,rfl,nr0 _⟩
  rw[d2,show es[xs.length]?=none from Array.getElem?_eq_none (by simp_all)];exact q
 ·obtain⟨sl,a,_⟩:=st
  exact iG a hQ
def oj {ps:List Nat}(hp:ps.Perm (List.range xs.length))(hIS:S≠I)(hIT:T≠I)(hh:A.handled=none):
  WalksS prog w A I [I,S,T] [I] eqG xs.length (zg kd (ps.map fun k=>xs.getD k default)) (fun i s=>SetIt s.heap I S (.ref T) i xs.length ep/\StrSet kd s.heap S xs ep/\∃o,s.heap.get? T=some o/\o.data=.seq (ps.map fun (k:Nat)=>rawInt (k:Int)).toArray):=by
 have hl:ps.length=xs.length:=by rw[hp.length_eq,lr0]
 refine⟨fun b hb=>by simp at hb;simp[hb],fun f=>rfl,fun f f f h1 h2=>h2.trans h1,fun i s h' tk st f hk=>?_,fun i s Q E hi st hQ=>?_,fun s Q E st hQ=>?_,fun i s Q E st hQ=>iG st.1 hQ⟩
 ·obtain⟨a,b,o,c,d⟩:=st
  exact⟨a.keep fun o e=>hk I (by simp) o e,b.keep fun o e=>hk S (by simp) o e,o,hk T (by simp) o c,d⟩
 ·obtain⟨a,b,o,c,d⟩:=st
  have hi':i<ps.length:=by simp_all
  have e:ps[i]?=some ps[i]:=ge0 hi';have hm:ps[i]<xs.length:=List.mem_range.mp (hp.mem_iff.mp (List.getElem_mem hi'));refine rH a b rfl c d e (ge0 hm) fun h' hit' sb=>?_
  exact hQ _ _ ⟨xs[ps[i]],by simp[e,List.getD,ge0 hm],rfl⟩ ⟨hit',b.keep fun o e=>(sb.2 _ hIS).trans e,o,(sb.2 _ hIT).trans c,d⟩ ⟨fun b o hb e=>(sb.2 b (fun z=>hb (by simp[z]))).trans e,rfl,rfl,rfl,nr0 _⟩
 ·obtain⟨a,b,o,c,d⟩:=st
  exact uP hh a b rfl c d (List.getElem?_eq_none (by simp_all)) fun h' eb=>hQ _ ⟨fun b o hb e=>eb b o (fun z=>hb (by simp[z])) e,rfl,rfl,rfl,nr0 _⟩
end
section
variable {A:Around}{E:Value->Shared->Prop}{S:Addr}{κ:Type}[DecidableEq κ][Inhabited κ]{kd:KD prog w κ}{xs:List (κ×Tok)}
structure Gv {prog:Program}{w:World}{κ:Type}[DecidableEq κ](kd:KD prog w κ)(A:Around)(S:Addr)(xs:List (κ×Tok))(s s':Shared)(I:Addr):Prop where
 ex:∃(fp:List Addr) (order:List (κ×Tok)) (St:Nat->Shared->Prop),order.Perm xs/\WalksS prog w A I fp [I] eqG xs.length (zg kd order) St/\St 0 s'/\(∀b∈fp,b=S\/s.heap.get? b=none)/\s.heap.get? I=none
def uR (hh:A.handled=none)(hS:StrSet kd s.heap S xs ep)(hz:xs.length<4000)
  (h:∀h' d I,(∀b o,s.heap.get? b=some o->h'.get? b=some o)->Gv kd A S xs s {s with heap:=h',drawn:=d} I->Q (.ref I) {s with heap:=h',drawn:=d}):
  wpAny (model prog w) A (pyIter (.ref S)) Q E s:=by
 obtain⟨o,es,t,h1,h1x,h2,h3,h4,h5,h6⟩:=id hS;have ltS:S<s.heap.objs.size:=hs0 h1;have hes:es.size=xs.length:=by rw[←al0,h4,lm0]
 refine wpAny_pyIter_slot hS.isA F.slot_set_iter (wpAny_call_entry F.slot_set_iter hS.isA iE ?_ (F.args_set_iter_1 _));unfold Builtin.«frozenset.__iter__» Builtin.Frozenset.slot0;refine wb0 (wb0 (m:=slotArgs "__iter__" 0 _) (wq0 (wq0 ?_)));unfold Builtin.Frozenset.sizeOf setEntries;refine wb0 (wb0 (wb0 (wpAny_setState_of h1 h2 h3 (wq0 (wq0 ?_)))));unfold setDrawn;refine wb0 (wb0 (wpAny_setState_of h1 h2 h3 (wb0 (asks (wq0 ?_)))));show wpAny (model prog w) A.in1 (do
  let first ←if (!byTx w&&(!t.plain&&decide (es.size>1)))=true then do newTuple ((←drawOrder es.size (List.range es.size)).map fun (i:Nat)=>rawInt i) else pure (rawInt 0)
  ret (←newFields "set_iterator" [first,rawInt 0,.ref S,rawInt es.size,rawInt (←setEpoch S)])) _ _ s
 have fin:∀(f0:Value) (s1:Shared),s1.heap.get? S=some o->(∀Q':Value->Shared->Prop,Q' (.ref s1.heap.objs.size) {s1 with heap:=s1.heap.push {cls:=.type "set_iterator",data:=.fields #[f0,.int 0 0,.ref S,.int xs.length 0,.int ep 0]}}->
   wpAny (model prog w) A.in1 (do ret (←newFields "set_iterator" [f0,rawInt 0,.ref S,rawInt es.size,rawInt (←setEpoch S)])) (fun f s'=>∃v,f=.done (.ret v)/\Q' v s') E s1):=fun f0 s1 g Q' q=>by
  refine wb0 (wpAny_setEpoch_of g h2 h3 ?_);unfold newFields;refine wb0 (wpAny_newObj_type (wq0 ⟨_,rfl,?_⟩));rw[hes];exact q
 cases hb:byTx w with
 |true=>
  rw[if_neg (by simp)];refine wb0 (wq0 (fin _ s h1 _ ?_));have hne:S≠s.heap.objs.size:=nn0 ltS;obtain⟨order,po,W⟩:=rJ (kd:=kd) (prog:=prog) (A:=A) (I:=s.heap.objs.size) (S:=S) (xs:=xs) (ep:=ep) hb hne hh;refine⟨_,_,⟨_,pz0 _ rfl,rfl⟩,slot_sit_next.lookup,?_⟩;refine h _ s.drawn _ (fun b o e=>ps0 _ e) ⟨_,order,_,po,W,⟨⟨_,pz0 _ rfl,rfl,rfl⟩,hS.keep fun o e=>ps0 _ e⟩,fun b hb=>?_,ft _⟩;rcases mq0 hb with e|hb
  ·rw[e];exact .inr (ft _)
  ·exact .inl (by simpa using hb)
 |false=>
  by_cases n1:t.plain=true\/xs.length≤1
  ·rw[if_neg (by
    rcases n1 with z|z
    ·rw[z];simp
    ·rw[df0 (by omega)];simp)]
   refine wb0 (wq0 (fin _ s h1 _ ?_));have hne:S≠s.heap.objs.size:=nn0 ltS;have n1':t.plain=false->xs.length≤1:=fun z=>n1.resolve_left (by rw[z];exact fx0)
   have W:=uQ (kd:=kd) (A:=A) (I:=s.heap.objs.size) (S:=S) (xs:=xs) (ep:=ep) hb hne hh;refine⟨_,_,⟨_,pz0 _ rfl,rfl⟩,slot_sit_next.lookup,?_⟩;refine h _ s.drawn _ (fun b o e=>ps0 _ e) ⟨_,xs,_,.refl _,W,⟨0,⟨_,pz0 _ rfl,rfl,rfl⟩,hS.keep fun o e=>ps0 _ e,fun o' es' t' z1 z2=>?_⟩,fun b hb=>?_,ft _⟩
   ·have z1:(s.heap.push _).get? S=some o':=z1
    rw[ps0 _ h1] at z1;cases z1;rw[h2] at z2;injection z2 with _ _ z2
    subst z2;exact⟨n1',(mf h6 (by rw[←hes];exact h3) n1').zero⟩
   rcases mq0 hb with e|hb
   ·rw[e];exact .inr (ft _)
   ·exact .inl (by simpa using hb)
  ·have np:t.plain=false:=bf0 fun z=>n1 (.inl z)
   rw[if_pos (by rw[np,dt0 (by have:¬ xs.length≤1:=fun z=>n1 (.inr z);omega)];rfl)];refine wb0 (jJ _ _ _ _ List.length_range.symm fun ps d hp=>wb0 ?_);rw[hes] at hp;have hl:ps.length=xs.length:=by rw[hp.length_eq,lr0]
   refine wpAny_newTuple ?_ (by rw[lm0,hl,sizeLine_eq];omega);refine fin _ {s with heap:=s.heap.push _,drawn:=d} (ps0 _ h1) _ ?_;have hne:S≠(s.heap.push {cls:=.type "tuple",data:=.seq (ps.map fun (k:Nat)=>rawInt (k:Int)).toArray}).objs.size:=by rw[Heap.size_push];exact nn0 (Nat.lt_succ_of_lt ltS)
   have hne2:s.heap.objs.size≠(s.heap.push {cls:=.type "tuple",data:=.seq (ps.map fun (k:Nat)=>rawInt (k:Int)).toArray}).objs.size:=by rw[Heap.size_push];omega
   have W:=oj (kd:=kd) (prog:=prog) (w:=w) (A:=A) (I:=(s.heap.push {cls:=.type "tuple",data:=.seq (ps.map fun (k:Nat)=>rawInt (k:Int)).toArray}).objs.size) (S:=S) (T:=s.heap.objs.size) (xs:=xs) (ep:=ep) hp hne hne2 hh;have kk:∀b o,s.heap.get? b=some o->((s.heap.push {cls:=.type "tuple",data:=.seq (ps.map fun (k:Nat)=>rawInt (k:Int)).toArray}).push {cls:=.type "set_iterator",data:=.fields #[.ref s.heap.objs.size,.int 0 0,.ref S,.int xs.length 0,.int ep 0]}).get? b=some o:=fun b o e=>ps0 _ (ps0 _ e)
   have no:∀b,s.heap.objs.size≤b->s.heap.get? b=none:=fun b hb=>by
    cases q:s.heap.get? b with
    |none=>rfl
    |some o=>exact absurd (hs0 q) (Nat.not_lt.mpr hb)
   refine⟨_,_,⟨_,pz0 _ rfl,rfl⟩,slot_sit_next.lookup,?_⟩;refine h _ d _ kk ⟨_,_,_,(hp.map _).trans (.of_eq (oh xs)),W,⟨⟨_,pz0 _ rfl,rfl,rfl⟩,hS.keep fun o e=>kk _ _ e,_,ps0 _ (pz0 _ rfl),rfl⟩,fun b hb=>?_,no _ (by rw[Heap.size_push];omega)⟩;rcases mq0 hb with e|hb
   ·rw[e];exact .inr (no _ (by rw[Heap.size_push];omega))
   ·rcases mq0 hb with e|hb
    ·exact .inl e
    ·have:b=s.heap.objs.size:=by simpa using hb
     rw[this];exact .inr (ft _)
def uS {Q:Bool->Shared->Prop}(hT:s.TypeIs (.ref S) "set")(h:Q false s):wpAny (model prog w) A (Builtin.List.listLengthHint (.ref S)) Q E s:=by
 unfold Builtin.List.listLengthHint;refine wb0 (wpAny_specialOf hT F.slot_set_len.lookup ?_);generalize hid:("set.__len__":String)=id0
 wp_delta
 rw[show splitId id0=some ("set","__len__") from by subst hid;decide +kernel];subst hid;refine wb0 (wpAny_isInstance (T:="set") (b:=true) hT (by rw[isSubtype_type];kernel_rfl) ?_);refine wpAny_ite_split (fun z=>absurd z (by decide)) fun a=>wpAny_ite_split (fun a=>wb0 (wpAny_typeOf hT (wq0 h))) fun z=>absurd (by decide +kernel) z
def om {R:Result->Shared->Prop}{L:Addr}(hh:A.handled=none)(hS:StrSet kd s.heap S xs ep)(hz:xs.length<4000)(res:Value)(hL:s.heap.get? L=some {cls:=.type "list",data:=.seq #[]})(hLS:L≠S)
  (h:∀h' tk d (order:List (κ×Tok)) (acc:Array Value) c,order.Perm xs->(∀b o,b≠L->s.heap.get? b=some o->h'.get? b=some o)->h'.get? L=some {cls:=.type "list",dict:=none,data:=.seq acc c,slots:=#[]}->acc.toList=order.map (fun p=>kd.vl p.1 p.2)->R (.ok (.ret res)) {s with heap:=h',toks:=tk,drawn:=d}):
  wpAny (model prog w) A.in1 (Builtin.List.listExtendWith (.ref L) (.ref S) res)
   (fun fin s'=>match fin with|.done f=>R (.ok f) s'|.again c'=>c'.quiet=true/\codeAny (model prog w) A c' R s') (fun e s'=>R (.error e) s') s:=by
 unfold Builtin.List.listExtendWith;refine wb0 (wpAny_typeOf (T:="set") hS.isA ?_);have q1:Builtin.List.listSameRef (.ref L) (.ref S)=false:=by simp[Builtin.List.listSameRef,hLS]
 have q2:(Value.type "set"==Value.type "list")=false:=by decide
 have q3:(Value.type "set"==Value.type "tuple")=false:=by decide
 simp only[q1,q2,q3,Bool.or_false,Bool.false_eq_true,if_false];refine wb0 (uR (A:=A.in1) hh hS hz fun h' d I kk W=>?_);obtain⟨fp,order,St,po,W,st,hfp,hI⟩:=W.ex;have nIL:I≠L:=fun e=>by rw[e,hL] at hI;cases hI
 have nf:L∉fp:=fun hb=>(hfp L hb).elim hLS fun z=>by rw[hL] at z;cases z
 refine wb0 (wh0 (uS (s:={s with heap:=h',drawn:=d}) (hS.keep fun o e=>kk _ _ e).isA ?_));have key:∀(h2:Heap) (tk c:Nat),St 0 {s with heap:=h2,drawn:=d,toks:=tk}->(∀b o,b≠L->s.heap.get? b=some o->h2.get? b=some o)->h2.get? L=some {cls:=.type "list",data:=.seq #[] c}->codeAny (model prog w) A (.builtin "list.extend.loop" ⟨[.ref L,.ref I,res],[]⟩) R {s with heap:=h2,drawn:=d,toks:=tk}:=fun h2 tk c st2 k2 l2=>by
  refine codeAny_extend_loopS W (by rw[sizeLine_eq];omega) L nf res xs.length 0 _ #[] c rfl (Nat.zero_le _) st2 l2 (ItemsOf.nil _) fun s' acc c' hm hL' hacc=>?_
  have es:s'={s with heap:=s'.heap,toks:=s'.toks,drawn:=d}:=by
   obtain⟨_,a1,a2,a3,_⟩:=hm;obtain⟨hp,g,dd,tk,os⟩:=s';simp only at a1 a2 a3;subst a1 a2 a3;rfl
  rw[es];refine h s'.heap s'.toks d order acc c' po (fun b o hb e=>hm.heap b o (fun z=>?_) (k2 b o hb e)) hL' ?_
  ·rcases mq0 z with z|z
   ·exact hb z
   ·have:b=I:=by simpa using z
    rw[this,hI] at e;cases e
  ·apply List.ext_getElem?
   intro i;rw[Array.getElem?_toList,gm0];cases q:acc[i]? with
   |none=>
    have hi:acc.size≤i:=by simpa using q
    rw[List.getElem?_eq_none (by rw[po.length_eq];rw[hacc.1] at hi;exact hi)];rfl
   |some v=>
    obtain⟨p,e1,rfl⟩:=hacc.2 i v q;rw[e1];rfl
 have oth:∀(f:Array Value->Array Value) (hh:Heap) (b:Addr) (o:Obj),b≠L->hh.get? b=some o->(hh.update L (Obj.mapSeq f)).get? b=some o:=fun f hh b o nb e=>(Heap.get?_update_other _ _ (Ne.symm nb)).trans e
 have hL1:=kk _ _ hL;refine wpAny_ite_split (fun a=>?_) (fun a=>wq0 ⟨plainId_quiet F.plain_extend_loop _,key h' s.toks 0 st (fun b o a e=>kk b o e) hL1⟩);refine wb0 (wpAny_rule (wb0 ?_));show wpAny (model prog w) _ (updateSeq L (·.push .none) >>= fun a=>updateSeq L (·.pop)) _ _ _;refine wb0 (wpAny_updateSeq hL1 rfl ?_);have hL2:=hu0 (Obj.mapSeq (·.push Value.none)) hL1 rfl;refine wpAny_updateSeq (hz:=by seq_fits) hL2 rfl ?_;have hL3:=hu0 (Obj.mapSeq (·.pop)) hL2 rfl;refine wq0 ⟨plainId_quiet F.plain_extend_loop _,key _ s.toks _ (W.frame 0 _ _ _ st (nr0 _) fun b hb o e=>?_) (fun b o nb e=>oth _ _ _ _ nb (oth _ _ _ _ nb (kk b o e))) hL3⟩
 exact oth _ _ _ _ (fun z=>nf (z▸hb)) (oth _ _ _ _ (fun z=>nf (z▸hb)) e)
def mh {R:List Value->Shared->Prop}(hh:A.handled=none)(hS:StrSet kd s.heap S xs ep)(hz:xs.length<4000)
  (h:∀h' tk d (order:List (κ×Tok)),order.Perm xs->s.heap.objs.size≤h'.objs.size->(∀b o,s.heap.get? b=some o->h'.get? b=some o)->R (order.map fun p=>kd.vl p.1 p.2) {s with heap:=h',toks:=tk,drawn:=d}):
  wpAny (model prog w) A (collect (.ref S)) R E s:=by
 have ltS:S<s.heap.objs.size:=let ⟨_,_,_,e,_⟩:=hS;hs0 e
 unfold collect;refine wb0 (wpAny_runValue (codeAny_builtin entry_proto_collect' ?_));rw[ui0 PySem.F.plain_proto_collect];show wpAny _ A.in1 (newList [] >>= fun l=>again (.builtin "list.__iadd__" ⟨[l,.ref S],[]⟩)) _ _ s;refine wb0 (wpAny_newObj_type (wq0 ⟨plainId_quiet PySem.F.plain_list_iadd _,codeAny_builtin entry_list_iadd' ?_⟩));rw[ui0 PySem.F.plain_list_iadd];have hL:(s.heap.push {cls:=.type "list",data:=.seq ([]:List Value).toArray}).get? s.heap.objs.size=some {cls:=.type "list",data:=.seq #[]}:=pz0 _ rfl;show wpAny _ A.in1 (Builtin.List.listExtendWith (.ref s.heap.objs.size) (.ref S) (.ref s.heap.objs.size)) _ _ _
 refine wpAny_mono (om (kd:=kd) (A:=A) (s:={s with heap:=s.heap.push {cls:=.type "list",data:=.seq ([]:List Value).toArray}})
  (R:=fun q s'=>∃h' tk d,∃order:List (κ×Tok),∃(acc:Array Value) (c:Nat),q=.ok (.ret (.ref s.heap.objs.size))/\s'={s with heap:=h',toks:=tk,drawn:=d}/\order.Perm xs/\(∀b o,s.heap.get? b=some o->h'.get? b=some o)/\h'.get? s.heap.objs.size=some {cls:=.type "list",dict:=none,data:=.seq acc c,slots:=#[]}/\acc.toList=order.map (fun p=>kd.vl p.1 p.2))
  hh (hS.keep fun o e=>ps0 _ e) hz (.ref s.heap.objs.size) hL (Nat.ne_of_gt ltS) fun h' tk d order acc c a1 a2 a3 a4=>⟨h',tk,d,order,acc,c,rfl,rfl,a1,fun b o e=>a2 b o (nn0 (hs0 e)) (ps0 _ e),a3,a4⟩) (fun fin s' x=>?_) fun e s' x=>?_
 ·cases fin with
  |done f=>
   obtain⟨h',tk,d,order,acc,c,e,rfl,a1,a2,a3,a4⟩:=x;cases e;show wpAny (model prog w) A (load s.heap.objs.size >>= _) _ _ _;refine wb0 (wpAny_load a3 (wq0 ?_));rw[a4];exact h h' tk d order a1 (Nat.le_of_lt (hs0 a3)) a2
  |again c1=>
   refine⟨x.1,codeAny_mono x.2 fun q s2 y=>?_⟩;obtain⟨h',tk,d,order,acc,c,rfl,rfl,a1,a2,a3,a4⟩:=y;show wpAny (model prog w) A (load s.heap.objs.size >>= _) _ _ _;refine wb0 (wpAny_load a3 (wq0 ?_));rw[a4];exact h h' tk d order a1 (Nat.le_of_lt (hs0 a3)) a2
 ·obtain⟨_,_,_,_,_,_,z,_⟩:=x
  cases z
noncomputable def kdI (prog:Program)(w:World):KD prog w Int:=⟨intKind prog w,.int,true,fun k t=>intKind_is _ _ _ _,fun a a=>rfl,fun a a=>rfl⟩
def dM (order:List (Int×Tok)):IntsAre (order.map fun p=>Value.int p.1 p.2) (order.map (·.1)):=by
 induction order with
 |nil=>exact .nil
 |cons p r ih=>exact .cons _ _ ih
theorem gy:∀{vs:List Value} {a b:List Int},IntsAre vs a->IntsAre vs b->a=b
 |_,_,_,.nil,.nil=>rfl
 |_,_,_,.cons _ _ h1,.cons _ _ h2=>by rw[gy h1 h2]
def oq {P:List Value->Array Value->Prop}(hh:A.handled=none)(hS:StrSet kd s.heap S xs ep)(hz:xs.length<64)
  (srt:∀(A':Around) (E':Value->Shared->Prop) (s':Shared) (a:Addr) (order:List (κ×Tok)) (Q':Fin->Shared->Prop),order.length<64->s'.heap.get? a=some (seqObj "list" (order.map fun p=>kd.vl p.1 p.2).toArray 0)->(∀out,P (order.map fun p=>kd.vl p.1 p.2) out->Q' (.done (.ret .none)) {s' with heap:=sortedHeap s'.heap a (order.map fun p=>kd.vl p.1 p.2) out})->wpAny (model prog w) A' (Builtin.«list.sort» ⟨[.ref a],[]⟩) Q' E' s')
  (h:∀h' tk d D (out:Array Value) n (order:List (κ×Tok)),(∀b o,s.heap.get? b=some o->h'.get? b=some o)->h'.get? D=some (seqObj "list" out n)->s.heap.objs.size≤D->order.Perm xs->P (order.map fun p=>kd.vl p.1 p.2) out->Q (.ref D) {s with heap:=h',toks:=tk,drawn:=d}):
  wpAny (model prog w) A (call (.builtin "sorted") [.ref S]) Q E s:=by
 refine Calls.call_function_entry kind_sorted plain_sorted entry_sorted (args_sorted1 _) ?_;unfold Builtin.«sorted»;refine wb0 (m:=checkCount "sorted" 1 1 _) (wq0 (wb0 (mh (A:=A.in1) hh hS (by omega) fun h1 tk d order po sz k1=>?_)));have hl:order.length=xs.length:=po.length_eq;refine wb0 (wpAny_newList ?_ (by rw[lm0,hl,sizeLine_eq];omega));have gD:(h1.push _).get? h1.objs.size=some (seqObj "list" (order.map fun p=>kd.vl p.1 p.2).toArray 0):=pz0 _ rfl;have kD:=fun b o e=>hs0 (k1 b o e)
 refine wb0 (wh0 (wpAny_call_entry slot_list_sort ⟨_,gD,rfl⟩ entry_list_sort (srt _ _ _ _ order _ (by omega) gD fun out a1=>⟨_,rfl,?_⟩) (args_list_sort _)));refine wq0 ⟨_,rfl,?_⟩;obtain⟨n,fin⟩:=sortedHeap_at (out:=out) gD;refine h _ tk d h1.objs.size _ n order (fun b o e=>?_) fin sz po a1;have lt:b<h1.objs.size:=kD b o e;exact (sortedHeap_old (nn0 lt) (by rw[size_push'];exact Nat.lt_succ_of_lt lt)).trans (ps0 _ (k1 b o e))
def fN {xs:List (Int×Tok)}(hh:A.handled=none)(hS:StrSet (kdI prog w) s.heap S xs ep)(hz:xs.length<64)
  (h:∀h' tk d D (out:Array Value) n (ns:List Int),(∀b o,s.heap.get? b=some o->h'.get? b=some o)->h'.get? D=some (seqObj "list" out n)->s.heap.objs.size≤D->IntsAre out.toList ns->ns.Perm (xs.map (·.1))->ns.Pairwise (·≤·)->Q (.ref D) {s with heap:=h',toks:=tk,drawn:=d}):
  wpAny (model prog w) A (call (.builtin "sorted") [.ref S]) Q E s:=by
 refine oq (P:=fun vs out=>∀ns,IntsAre vs ns->∃ns',IntsAre out.toList ns'/\ns'.Perm ns/\ns'.Pairwise (·≤·)) hh hS hz (fun A' E' s' a order Q' l gD k=>?_) fun h' tk d D out n order kk gD sz po a1=>?_
 ·refine list_sort_tree gD (dM order) (by rw[lm0];exact l) fun out ns' a1 a2 a3=>k _ fun ns hs=>⟨ns',a1,?_,a3⟩
  rw[gy hs (dM order)];exact a2
 ·obtain⟨ss,b1,b2,b3⟩:=a1 _ (dM order)
  exact h h' tk d D out n ss kk gD sz b1 (b2.trans (po.map _)) b3
end
end PySem
namespace L2.Z
open PySem PySem.Spec PyProof.Rows L2 L2.C SI
section
variable {e:Expr}
def aB (es:List Expr):Prop:=∀e∈es,isStar e=false
theorem aG :∀{es:List Expr},aB es->(backTo pos (starEach es env)).any (·.1)=false
 |[],_=>rfl
 |e::r,h=>by
  rw[af (h e ms0)];show (false||(backTo _ _).any _)=false;rw[aG fun x hx=>h x (mc0 _ hx)];rfl
theorem jK :∀{es:List Expr},aB es->(backTo pos (starEach es env)).all (fun x=>!x.1)=true
 |[],_=>rfl
 |e::r,h=>by
  rw[af (h e ms0)];show (true&&(backTo _ _).all _)=true;rw[jK fun x hx=>h x (mc0 _ hx)];rfl
noncomputable abbrev fl3:List Bool:=[true,true,true]
abbrev CRr (K:Fg)(r:List V->Hp->VK->Prop)(fl:List Bool)(ds:List D)(d:D):Prop:=∀(vs:List V) (G H:Hp) (Q:VK),Same G H->Das K G H fl ds vs->(∀v G' H',Ext G H G' H'->Dp K G' d v->Q v H')->r vs H Q
abbrev CRn (K:Fg)(r:List V->Hp->VK->Prop)(fl:List Bool)(ds:List D)(d:D):Prop:=∀(vs:List V) (G H:Hp) (Q:VK),Same G H->Das K G H fl ds vs->(∀p G' H',Ext G H G' H'->G' p=Option.none->H p=Option.none->OwnAt K G' H' d p->Q (.ref p) H')->r vs H Q
structure Blt (X:Cx)(x:Str):Prop where
 g:Gl X x
 m:X.mg x=Option.none
 n:x≠"__name__"
 d:(x==("__debug__":Str))=false
def bI {id:String}{r:List V->Hp->VK->Prop}(B:Blt X x)(hc:aZ X (.builtin id) r)(hv:bootBuiltins x=some (.builtin id))(ha:Ea X ρ fl (e::es) ds)(hs:aB (e::es))(h:CRr X.K r fl ds d):Ev X ρ (.Call (.Name x p) (e::es) [] pos) d:=
 fun pins s σ H Q I ⟨G0,H0,G,E,k⟩=>bj hc B.g B.m hv ha B.n B.d (af (hs e ms0)) (aG fun y hy=>hs y (mc0 _ hy)) _ s σ H Q I
  ⟨G0,H0,G,E,fun vs G1 H1 e1 r1=>h vs G1 H1 Q e1.gh r1 fun v G' H' e2 r2=>k v G' H' (e1.trans e2) r2⟩
def mi {r:List V->Hp->VK->Prop}(B:Blt X x)(hc:aZ X (.type T) r)(hv:bootBuiltins x=some (.type T))(ha:Ea X ρ fl (e::es) ds)(hs:aB (e::es))(h:CRr X.K r fl ds d):Ev X ρ (.Call (.Name x p) (e::es) [] pos) d:=
 fun pins s σ H Q I ⟨G0,H0,G,E,k⟩=>bu hc B.g B.m hv ha B.n B.d (af (hs e ms0)) (aG fun y hy=>hs y (mc0 _ hy)) _ s σ H Q I
  ⟨G0,H0,G,E,fun vs G1 H1 e1 r1=>h vs G1 H1 Q e1.gh r1 fun v G' H' e2 r2=>k v G' H' (e1.trans e2) r2⟩
def mj {r:List V->Hp->VK->Prop}(B:Blt X x)(hc:aZ X (.type T) r)(hv:bootBuiltins x=some (.type T))(ha:Ea X ρ fl (e::es) ds)(hs:aB (e::es))(h:CRn X.K r fl ds d):En X ρ (.Call (.Name x p) (e::es) [] pos) d:=
 fun pins s σ H Q I ⟨G0,H0,G,E,k⟩=>bu hc B.g B.m hv ha B.n B.d (af (hs e ms0)) (aG fun y hy=>hs y (mc0 _ hy)) pins s σ H Q I
  ⟨G0,H0,G,E,fun vs G1 H1 e1 r1=>h vs G1 H1 Q e1.gh r1 fun p G' H' e2 g2 h2 r2=>k p G' H' (e1.trans e2) g2 (e1.hh.free h2) r2⟩
def Das.one {G:Hp}(h:Das K G H fl [d] vs):∃v,vs=[v]/\Dr K G H d v:=by
 cases h with|cons _ h r=>cases r;exact⟨_,rfl,h⟩
def Das.two {G:Hp}(h:Das K G H fl [d1,d2] vs):∃v w,vs=[v,w]/\Dr K G H d1 v/\Dr K G H d2 w:=by
 cases h with|cons _ h r=>cases r with|cons _ h2 r=>cases r;exact⟨_,_,rfl,h,h2⟩
def rK:bootBuiltins ("max":Str)=some (.builtin "max"):=by decide +kernel
def rM:bootBuiltins ("all":Str)=some (.builtin "all"):=rfl
def rN:bootBuiltins ("any":Str)=some (.builtin "any"):=by decide +kernel
def mq:bootBuiltins ("tuple":Str)=some (.type "tuple"):=rfl
def rO:bootBuiltins ("min":Str)=some (.builtin "min"):=by decide +kernel
def rP {i:Int}(h0:0≤i):PyData.strOk ((toString i:String):Str)=true:=by
 obtain⟨m,rfl⟩:=Int.eq_ofNat_of_zero_le h0;rw[strOk_iff];intro c hc;rw[PySem.W.KIN.signs_num] at hc;obtain⟨ch,_,e⟩:=mm0 hc;rw[←e];have:=ch.valid;have h:ch.val.toNat<0x110000:=by
  rcases this with h|⟨_,h⟩
  ·exact Nat.lt_trans h (by decide)
  ·exact h
 exact h
set_option maxHeartbeats 1000000 in
set_option tactic.hygienic true in
def mr {f:Bf}(hcalm:X.calm=true)(B:Blt X x)(hf:iy x=some f)(h:biD f ds=some d)(ha:Ea X ρ fl3 (e::es) ds)(hs:aB (e::es)):
  Ev X ρ (.Call (.Name x p) (e::es) [] pos) d/\(fresh (.bi f .nil)=true->bo d=true->En X ρ (.Call (.Name x p) (e::es) [] pos) d):=by
 have old:fresh (.bi f .nil)=false->Ev X ρ (.Call (.Name x p) (e::es) [] pos) d->Ev X ρ (.Call (.Name x p) (e::es) [] pos) d/\(fresh (.bi f .nil)=true->bo d=true->En X ρ (.Call (.Name x p) (e::es) [] pos) d):=
  fun z q=>⟨q,fun c=>by rw[z] at c;cases c⟩
 have new:En X ρ (.Call (.Name x p) (e::es) [] pos) d->Ev X ρ (.Call (.Name x p) (e::es) [] pos) d/\(fresh (.bi f .nil)=true->bo d=true->En X ρ (.Call (.Name x p) (e::es) [] pos) d):=fun q=>⟨q.ev,fun a a=>q⟩
 unfold iy at hf;split at hf
 ·rename_i c
  subst c;cases hf;refine old rfl ?_
  match ds,h with
  |[.list ls],h=>
   cases h;refine bI B eT PySem.boot_len ha hs fun vs G H Q s r k=>?_
   obtain⟨v,rfl,hv⟩:=r.one;obtain⟨q,ws,rfl,h1,r1⟩:=hv.lst s;exact⟨_,ws.length,rfl,.inl ⟨ws,SqL.of h1,rfl⟩,by rw[←r1.length];exact k _ G H (.refl s) (.int _)⟩
  |[.tuple ls],h=>
   cases h;refine bI B eT PySem.boot_len ha hs fun vs G H Q s r k=>?_
   obtain⟨v,rfl,hv⟩:=r.one;obtain⟨q,ws,rfl,h1,r1⟩:=hv.tup s;exact⟨_,ws.length,rfl,.inr ⟨ws,SqT.of h1,rfl⟩,by rw[←r1.length];exact k _ G H (.refl s) (.int _)⟩
  |[.scr ns],h=>
   cases h;refine bI B eT PySem.boot_len ha hs fun vs G H Q s r k=>?_
   obtain⟨v,rfl,hv⟩:=r.one;obtain⟨q,rfl,h1⟩:=hv.scr s;exact⟨_,(ns.map V.int).length,rfl,.inl ⟨_,h1,rfl⟩,by rw[lm0];exact k _ G H (.refl s) (.int _)⟩
  |[.str y],h=>
   rw[SI.len_str] at h;split at h
   ·rename_i c
    cases h;rw[big_eq] at c;refine bI B eT PySem.boot_len ha hs fun vs G H Q s r k=>?_
    obtain⟨v,rfl,hv⟩:=r.one;exact⟨_,y.length,rfl,by rw[hv.str.1];exact⟨c,rfl⟩,k _ G H (.refl s) (.int _)⟩
   ·cases h
 split at hf
 ·rename_i c
  subst c;cases hf;refine old rfl ?_
  match ds,h with
  |[.int i,.int j],h=>
   cases h;refine bI B (rf hcalm) rK ha hs fun vs G H Q s r k=>?_
   obtain⟨v,w,rfl,hv,hw⟩:=r.two;exact⟨i,j,by rw[hv.int,hw.int],k _ G H (.refl s) (.int _)⟩
 split at hf
 ·rename_i c
  subst c;cases hf;refine old rfl ?_
  match ds,h with
  |[.int i,.int j],h=>
   cases h;refine bI B (rg hcalm) rO ha hs fun vs G H Q s r k=>?_
   obtain⟨v,w,rfl,hv,hw⟩:=r.two;exact⟨i,j,by rw[hv.int,hw.int],k _ G H (.refl s) (.int _)⟩
 split at hf
 ·rename_i c
  subst c;cases hf;refine new ?_
  match ds,h with
  |[.list ls],h=>
   cases h;refine mj B eV PyProof.Rows.boot_list ha hs fun vs G H Q s r k=>?_
   obtain⟨v,rfl,hv⟩:=r.one;obtain⟨q,ws,rfl,h1,r1⟩:=hv.lst s;exact⟨q,ws,rfl,.inl (SqL.of h1),fun l hl=>k l G _ (.hid s hl) (s.free hl) hl (.inl ⟨_,_,rfl,ae,r1⟩)⟩
  |[.tuple ls],h=>
   cases h;refine mj B eV PyProof.Rows.boot_list ha hs fun vs G H Q s r k=>?_
   obtain⟨v,rfl,hv⟩:=r.one;obtain⟨q,ws,rfl,h1,r1⟩:=hv.tup s;exact⟨q,ws,rfl,.inr (SqT.of h1),fun l hl=>k l G _ (.hid s hl) (s.free hl) hl (.inl ⟨_,_,rfl,ae,r1⟩)⟩
 split at hf
 ·rename_i c
  subst c;cases hf;refine old rfl ?_
  match ds,h with
  |[.int i],h=>
   rw[str_int] at h;split at h
   ·rename_i c
    cases h;refine mi B ki PyProof.Rows.boot_str ha hs fun vs G H Q s r k=>?_
    obtain⟨v,rfl,hv⟩:=r.one;refine⟨i,by rw[hv.int],?_,k _ G H (.refl s) (.str _ (rP c.1))⟩;have h1:i.natAbs<2 ^ 20:=by omega
    by_cases z:i.natAbs=0
    ·rw[z];decide
    ·have:=(Nat.log2_lt z).mpr h1
     omega
   ·cases h
 split at hf
 ·rename_i c
  subst c;cases hf;refine old rfl ?_
  match ds,h with
  |[.list ls],h=>
   rw[tuple_list] at h;split at h
   ·rename_i c
    cases h;rw[big_eq] at c;refine mi B eK mq ha hs fun vs G H Q s r k=>?_
    obtain⟨v,rfl,hv⟩:=r.one;obtain⟨q,ws,rfl,h1,r1⟩:=hv.lst s;exact⟨q,ws,rfl,SqL.of h1,by rw[←r1.length];exact c,fun l hl=>k _ _ _ (.laid s hl) (.tuple ae (r1.mono (aV (s.free hl))))⟩
   ·cases h
 split at hf
 ·rename_i c
  subst c;cases hf;refine old rfl ?_
  match ds,h with
  |[.list ls],h=>
   obtain⟨bs,e1,rfl⟩:=mx0 (show (boolsOf ls).map _=some d from h);refine bI B (uG hcalm) rM ha hs fun vs G H Q s r k=>?_
   obtain⟨v,rfl,hv⟩:=r.one;obtain⟨q,ws,rfl,h1,r1⟩:=hv.lst s;exact⟨q,bs,rfl,by rw[←gu e1 r1];exact SqL.of h1,k _ G H (.refl s) (.bool _)⟩
 split at hf
 ·rename_i c
  subst c;cases hf;refine old rfl ?_
  match ds,h with
  |[.list ls],h=>
   obtain⟨bs,e1,rfl⟩:=mx0 (show (boolsOf ls).map _=some d from h);refine bI B (uH hcalm) rN ha hs fun vs G H Q s r k=>?_
   obtain⟨v,rfl,hv⟩:=r.one;obtain⟨q,ws,rfl,h1,r1⟩:=hv.lst s;exact⟨q,bs,rfl,by rw[←gu e1 r1];exact SqL.of h1,k _ G H (.refl s) (.bool _)⟩
 ·cases hf
end
def zh (ns:List Int):firstMet (fun i=>ns.getD i 0) ns.length=dA ns:=by
 unfold firstMet dA;have:(List.range ns.length).map (fun i=>ns.getD i 0)=ns:=by
  apply List.ext_getElem?
  intro i;rcases Nat.lt_or_ge i ns.length with z|z<;>simp_all
 rw[this];rfl
def uT (l:List Int)(k:Int):(ky l k).length≤l.length+1:=by
 unfold ky;split
 ·simp_all
 ·rw[la0];exact nr0 _
def mv (ns:List Int):(dA ns).length≤ns.length:=by
 have:∀(ns l:List Int),(ns.foldl ky l).length≤l.length+ns.length:=by
  intro ns
  induction ns with
  |nil=>intro l;exact nr0 _
  |cons n r ih=>intro l;have h1:=ih (ky l n);have h2:=uT l n;rw[List.foldl_cons,lc0];grind
 have:=this ns [];rw[List.length_nil] at this;unfold dA;simp_all
def rQ:bootBuiltins ("set":Str)=some (.type "set"):=rfl
section
variable {q:Pos}
def rR (hc:X.calm=true):aZ X (.type "set") (fun xs H Q=>∃(r:Addr) (ns:List Int),xs=[.ref r]/\H r=some (.lst (ns.map .int))/\ns.length<64/\∀l,H l=none->Q (.ref l) (upd H l (.set (fun k=>(dA ns).any (·==k)) (dA ns).length))):=by
 intro pins s σ H xs us Q I r h;obtain⟨rr,ns,rfl,hq,hz,k⟩:=h;obtain⟨u,rfl,rx⟩:=vals1 r;cases rx;obtain⟨its,r',pl,_⟩:=I.list (SqL.of hq);have hl:its.toArray.size=ns.length:=by rw[ls0,←r'.length,lm0]
 refine call_set_list (I.ok.hd hc) pl.isList (intsAre_of r') (nl0 (show its.toArray.size+1<4096 by rw[hl];grind) (by decide)) fun h' tk hS kk=>?_
 rw[hl,zh] at hS;exact⟨.ref s.heap.objs.size,_,I.laid (t':=tk) (fun b o e=>kk b o (hs0 e) e) (nr0 _) (show ObjOk X.prog X.w _ _ _ (.set _ _) from hS),rfl,k _ (I.hok.fresh (nr0 _))⟩
def rS:aZ X (.builtin "len") (fun xs H Q=>∃(r:Addr) (S:Int->Bool) (n:Nat),xs=[.ref r]/\H r=some (.set S n)/\n<64/\Q (.int n) H):=by
 intro pins s σ H xs us Q I r h;obtain⟨rr,S,n,rfl,hq,hz,k⟩:=h;obtain⟨u,rfl,rx⟩:=vals1 r;cases rx;obtain⟨o,es,ep,t,h1,h2,h3,_,_,_,h4,rfl⟩:=(show s.heap.SetOf (intKind X.prog X.w) rr S n from I.hok rr _ hq);exact call_len_set h1 h2 h3 h4 (by grind) ⟨.int _,H,(I.tok _),⟨_,rfl⟩,k⟩
def DD {G:Hp}:∀{ds:List D} {vs:List V} {ns:List Int},intsOf ds=some ns->Dps K G ds vs->vs=ns.map V.int:=by
 intro ds
 induction ds with
 |nil=>intro vs ns h r;cases h;cases r;rfl
 |cons d r ih=>
  intro vs ns h q;cases d with
  |int i=>
   obtain⟨ms,h1,rfl⟩:=mx0 (h);cases q with
   |cons q1 q2=>cases q1;rw[ih h1 q2];rfl
  |_=>cases h
set_option tactic.hygienic true in
def ot (hcalm:X.calm=true)(B1:Blt X "len")(B2:Blt X "set")(h:biD .nset ds=some d)(ha:Ea X ρ fl3 [a] ds)(hs:isStar a=false):Ev X ρ (.Call (.Name "len" p) [.Call (.Name "set" p2) [a] [] q] [] pos) d:=by
 match ds,h with
 |[.list ls],h=>
  obtain⟨ns,h1,h2⟩:=bx0 (h);split at h2
  ·rename_i hz
   cases h2;intro pins s σ H Q I h0;obtain⟨G0,H0,G,E,k⟩:=h0;refine bj rS B1.g B1.m PySem.boot_len (ax (bu (rR hcalm) B2.g B2.m rQ ha B2.n B2.d (af hs) rfl) aQ rfl) B1.n B1.d rfl rfl pins s σ H Q I ?_;refine⟨G0,H0,G,E,fun vs G1 H1 e1 r1=>?_⟩;obtain⟨v,rfl,hv⟩:=r1.one;obtain⟨r,ws,rfl,h3,h4⟩:=hv.lst e1.gh;obtain rfl:=DD h1 h4;exact⟨r,ns,rfl,h3,hz,fun l hl=>⟨l,_,_,rfl,ae,Nat.lt_of_le_of_lt (mv ns) hz,k _ _ _ (e1.trans (.hid e1.gh hl)) (.int _)⟩⟩
  ·cases h2
end
end L2.Z
namespace SI
open PySem
def zi (h:x.cps.toList=y.cps.toList):x=y:=by
 cases x;simp_all
end SI
namespace L2.Z
open PySem PySem.Spec PyProof.Rows L2 L2.C SI
section
variable {e:Expr}{q:Pos}
noncomputable def gM {prog:Program}{w:World}{κ:Type}[DecidableEq κ](kd:KD prog w κ)(l:Addr)(ks:List κ):Heap->Prop:=fun h=>∃xs ep,xs.map (·.1)=ks/\StrSet kd h l xs ep
def uU {κ:Type}{f:κ->V}{g:κ->Tok->Value}(fg:∀y u,RelV (f y) u->∃tk,u=g y tk):∀{ss:List κ} {us:List Value},Vals (ss.map f) us->us.length=ss.length/\∀(j:Nat) (x:κ),ss[j]?=some x->∃tk,us[j]?=some (g x tk):=by
 intro ss
 induction ss with
 |nil=>intro us h;cases h;exact⟨rfl,fun j x h=>by simp at h⟩
 |cons y r ih=>
  intro us h;cases h with
  |cons h1 h2=>
   obtain⟨a,b⟩:=ih h2;refine⟨by simp[a],fun j x h=>?_⟩;cases j<;>simp_all
def bw {ss:List Int}(h:Vals (ss.map V.int) us):us.length=ss.length/\∀(j:Nat) (x:Int),ss[j]?=some x->∃tk,us[j]?=some (.int x tk):=uU (f:=V.int) (fun a a h=>h) h
theorem bQ:∀{us:List Value} {ss:List Int},IntsAre us ss->Vals (ss.map V.int) us
 |_,_,.nil=>.nil
 |_,_,.cons x t r=>.cons ⟨t,rfl⟩ (bQ r)
def cR {κ:Type}[DecidableEq κ][Inhabited κ](kd:KD X.prog X.w κ)(vv:κ->V)(hv:∀(ss:List κ) (us:List Value),Vals (ss.map vv) us->us.length=ss.length/\∀(j:Nat) (x:κ),ss[j]?=some x->∃tk,us[j]?=some (kd.vl x tk))(hc:X.calm=true):aZ X (.type "set") (fun xs H Q=>∃(r:Addr) (ss:List κ),xs=[.ref r]/\SqL X.K H r (ss.map vv)/\ss.length<64/\∀l (ks:List κ),H l=none->ks.Nodup->(∀y,y∈ks↔y∈ss)->ks.length≤ss.length->Q (.ref l) (upd H l (.ext (gM kd l ks)))):=by
 intro pins s σ H xs us Q I r h;obtain⟨rr,ss,rfl,hq,hz,k⟩:=h;obtain⟨u,rfl,rx⟩:=vals1 r;cases rx;obtain⟨its,r',pl,_⟩:=I.list hq;obtain⟨v1,v2⟩:=hv _ _ r';refine jj (kd:=kd) (I.ok.hd hc) pl.isList (by rw[ls0,v1]) (by rw[ls0,v1];grind) (fun j x e=>by obtain⟨tk,e⟩:=v2 j x e;exact⟨tk,by simpa using e⟩) fun h' tk S ys ep fr hS nd mem len kk=>?_
 have gS:∃o,h'.get? S=some o:=let ⟨o,_,_,e,_⟩:=hS;⟨o,e⟩
 have hn:H S=none:=I.hok.fresh fr;refine⟨.ref S,_,I.laid (t':=tk) kk fr (show ObjOk X.prog X.w _ _ _ (.ext _) from⟨⟨ys,ep,rfl,hS⟩,gS,fun h1 h2 ⟨a,b,c,d⟩ k2=>⟨a,b,c,d.keep k2⟩⟩),rfl,k S (ys.map (·.1)) hn nd mem (by rw[lm0];exact len)⟩
def jL (I:Inv X pins σ H s)(d:Drawn):Inv X pins σ H {s with drawn:=d}:=
 ⟨I.ok,I.os,I.bare,I.base,I.loc,I.cell,I.free,I.freeC,I.pin,I.hok,I.len⟩
def dg (hc:X.calm=true):aZ X (.builtin "sorted") (fun xs H Q=>∃(l:Addr) (ks:List Int),xs=[.ref l]/\H l=some (.ext (gM (kdI X.prog X.w) l ks))/\ks.length<64/\∀r (ns:List Int),H r=none->ns.Perm ks->ns.Pairwise (·≤·)->Q (.ref r) (upd H r (.lst (ns.map V.int)))):=by
 intro pins s σ H xs us Q I r h;obtain⟨l,ks,rfl,hl,hz,k⟩:=h;obtain⟨u,rfl,rx⟩:=vals1 r;cases rx;obtain⟨⟨xs,ep,rfl,hS⟩,_⟩:=(show ObjOk X.prog X.w H s.heap l (.ext _) from I.hok l _ hl);rw[lm0] at hz;refine fN (I.ok.hd hc) hS hz fun h' tk d D out n ss kk gD fr sa pe so=>?_
 have hlen:(ss.map V.int).length≤sizeLine:=by
  rw[lm0,pe.length_eq,lm0,sizeLine_eq];omega
 refine⟨.ref D,_,((jL I d).laid (s:={s with drawn:=d}) (t':=tk) kk fr (show ObjOk X.prog X.w _ _ _ (.lst _) from⟨hlen,out.toList,n,bQ sa,by simpa using gD⟩)),rfl,k D ss (I.hok.fresh fr) pe so⟩
def bA:bootBuiltins ("sorted":Str)=some (.builtin "sorted"):=rfl
def cT:bootBuiltins ("set":Str)=some (.type "set"):=rfl
theorem ou {G:Hp}:∀(ns:List Int),Dps K G (ns.map .int) (ns.map V.int)
 |[]=>.nil
 |x::r=>.cons (.int _) (ou r)
theorem cU {G:Hp}:∀(ns:List Int) {vs:List V},Dps K G (ns.map .int) vs->vs=ns.map V.int
 |[],_,.nil=>rfl
 |n::r,_,.cons q1 q2=>by cases q1;rw[cU r q2];rfl
def fst_sound (ok:jE x=true)(ha:Er X ρ a (.str y))(hz:x.length+y.length≤big):Ev X ρ (.JoinedStr [.Constant (.str x) j p1,.FormattedValue a (.negSucc 0) Option.none p2] pos) (.str (x++y)):=by
 intro pins s σ H Q I h0;obtain⟨G0,H0,G,E,k⟩:=h0;rw[big_eq] at hz;have emp:(Str.empty++x:Str)=x:=zi (by show (Str.empty.cps++x.cps).toList=_;rw[Array.toList_append];rfl);refine wpAny_JoinedStr ?_;refine wpAny_Constant_str ?_;refine⟨x,_,rfl,by rw[emp];grind,?_⟩;rw[emp];show wpAny (model X.prog X.w) X.A (eval (.FormattedValue a (-1) Option.none p2) X.env) _ _ _;refine wpAny_FormattedValue_plain ?_;refine thn (ha pins _ σ H (fun v H1=>v=.str y/\Q (.str (x++y)) H1) (I.tok _) ⟨G0,H0,G,E,fun v G1 H1 e1 r1=>?_⟩) fun v s1 ⟨vv,H1,I1,rv,e,qq⟩=>?_
 ·obtain⟨e,oky⟩:=r1.str
  exact⟨e,k _ G1 H1 e1 (.str _ (fj (by rw[strOk_iff];exact fun c hc=>od0 (List.all_eq_true.mp ok c hc)) oky))⟩
 ·subst e
  obtain⟨tk,rfl⟩:=rv;have len:(x++y).length≤sizeLine:=by
   have:(x++y).length=x.length+y.length:=by show (x.cps++y.cps).size=_;rw[Array.size_append];rfl
   simp_all
  have fin:∀(t:Tok) (s2:Shared),Inv X pins σ H1 s2->∃y' t',Value.str y t=.str y' t'/\(x++y').length≤sizeLine/\Joins (model X.prog X.w) X.A X.xe [] (x++y') (fun out s₁=>out.length≤sizeLine/\EP X pins σ Q (.str out s₁.toks) {s₁ with toks:=s₁.toks+1}) s2:=
   fun t s2 I2=>⟨y,t,rfl,len,len,.str _,H1,I2.tok _,⟨_,rfl⟩,qq⟩
  exact wpAny_formatField_str (fin _ _ I1) (fin _ _ (I1.tok _)) (by grind)
end
end L2.Z
namespace PySem
open PyProof.Rows
section
variable {A:Around}{E:Value->Shared->Prop}{κ:Type}[DecidableEq κ][Inhabited κ]{kd:KD prog w κ}
def jl:entryFor table "set.__and__"=some Builtin.«frozenset.__and__»:=by refine entryFor_alias (id':="frozenset.__and__") ?_ rfl ?_ ?_<;>first|kernel_rfl|rfl
def qf:isSubtype (.type "set") (.type "set")=pure true:=rfl
def kJ {a:Addr}{Q:Bool->Shared->Prop}(hT:s.TypeIs (.ref a) "set")(h:Q true s):wpAny (model prog w) A (Builtin.Frozenset.isAnySet (.ref a)) Q E s:=by
 exact wb0 (wpAny_isInstance hT qf (wq0 h))
def zm {S:Addr}{xs:List (κ×Tok)}{p:κ×Tok}{Q:Option Nat->Shared->Prop}(hS:StrSet kd s.heap S xs ep)(hz:xs.length<4000)(h:∀r:Option Nat,r.isSome=decide (p.1∈xs.map (·.1))->Q r s):
  wpAny (model prog w) A (setFind S (kd.e p).2 (kd.e p).1) Q E s:=by
 obtain⟨o,es,t,h1,hex,h2,h3,h4,h5,h6⟩:=hS;have hes:es.size=xs.length:=by rw[←al0,h4,lm0]
 refine wpAny_setFind_of (knd:=kd.knd) (kd.is _ _) (kd.sc _ _) (S:=fun k=>decide (k∈xs.map (·.1))) (n:=es.size) ⟨o,es,ep,t,h1,hex,h2,by rw[h4];exact jG kd xs,fun k=>?_,by rw[hes];unfold scanBound;grind,h3,rfl⟩ h;rw[decide_eq_true_iff,h4];have:=lX kd xs k;rw[eq_comm,Bool.eq_iff_iff,decide_eq_true_iff,List.findIdx?_isSome,List.any_eq_true] at this;exact this
def size_of {S:Addr}{xs:List (κ×Tok)}{Q:Nat->Shared->Prop}(hS:StrSet kd s.heap S xs ep)(h:Q xs.length s):wpAny (model prog w) A (Builtin.Frozenset.sizeOf S) Q E s:=by
 obtain⟨o,es,t,h1,hex,h2,h3,h4,h5,h6⟩:=hS;have hes:es.size=xs.length:=by rw[←al0,h4,lm0]
 exact wb0 (wpAny_setEntries_of h1 h2 h3 (wq0 (by rwa [hes])))
def ep_of {S:Addr}{xs:List (κ×Tok)}{Q:Nat->Shared->Prop}(hS:StrSet kd s.heap S xs ep)(h:Q ep s):wpAny (model prog w) A (setEpoch S) Q E s:=by
 obtain⟨o,es,t,h1,hex,h2,h3,_⟩:=hS;exact wpAny_setEpoch_of h1 h2 h3 h
def uV {S:Addr}{xs:List (κ×Tok)}{Q:Array (Int×Value)->Shared->Prop}(hS:StrSet kd s.heap S xs ep)(h:∀(order:List (κ×Tok)) d,order.Perm xs->Q (order.map kd.e).toArray {s with drawn:=d}):
  wpAny (model prog w) A (setWalk S) Q E s:=by
 obtain⟨o,es,t,h1,hex,h2,h3,h4,h5,h6⟩:=hS;unfold setWalk;refine wb0 (wpAny_setState_of h1 h2 h3 (wb0 (asks ?_)));have ea:∀order:List (κ×Tok),∀a:Array (Int×Value),a.toList=order.map kd.e->a=(order.map kd.e).toArray:=fun order a e=>by rw[←e]
 cases hb:byTx w with
 |true=>
  obtain⟨order,po,eo⟩:=bH (jI (w.params.setOrder S ep) es) xs h4;simp only[if_true];refine wb0 (wpAny_askSetting (wq0 ?_));have:=h order s.drawn po;rw[←ea _ _ eo] at this;exact this
 |false=>
  by_cases n1:(!t.plain&&decide (es.size>1))=true
  ·show wpAny _ _ (if (!t.plain&&decide (es.size>1))=true then _ else _) Q E s
   rw[if_pos n1];refine wb0 (jJ _ _ _ _ (rfl) fun ys d hp=>wq0 ?_);obtain⟨order,po,eo⟩:=bH hp xs h4;rw[eo];exact h order d po
  ·show wpAny _ _ (if (!t.plain&&decide (es.size>1))=true then _ else _) Q E s
   rw[if_neg n1];refine wb0 (m:=if (!t.led&&decide (es.size>1))=true then unsupported "set:maker-not-led" else pure ()) ?_;rw[h5,hb];refine wq0 (wq0 ?_);rw[ea _ _ h4];exact h xs s.drawn (.refl _)
theorem iH {b:β}{f:α->β->Sem (ForInStep β)}{Q:β->Shared->Prop}:∀l:List α,(∀a∈l,∀P:ForInStep β->Shared->Prop,P (.yield b) s->wpAny (model prog w) A (f a b) P E s)->Q b s->wpAny (model prog w) A (forIn l b f) Q E s
 |[],_,h=>wq0 h
 |a::l,hf,h=>by
  rw[List.forIn_cons];exact wb0 (hf a ms0 _ (iH l (fun a m=>hf a (mc0 _ m)) h))
set_option tactic.hygienic true in
def uW (hr:∀k t a,kd.vl k t≠.ref a){Q:Bool->Shared->Prop}{l:List Addr}(hl:∀q∈l,∃xs ep,StrSet kd s.heap q xs ep)(h:Q true s):wpAny (model prog w) A (setsQuiet l) Q E s:=by
 refine wb0 (iH l (fun a m P q=>?_) (wq0 h));obtain⟨xs,ep,o,es,t,h1,hex,h2,h3,h4,_⟩:=hl a m;refine wb0 (wpAny_setEntries_of h1 h2 h3 (wb0 ?_));rw[←Array.forIn_toList,h4];refine iH _ (fun p m P q=>?_) (wq0 q);obtain⟨⟨x,tk⟩,_,rfl⟩:=mm0 m;dsimp only;split
 ·rename_i z;exact absurd z (hr _ _ _)
 ·exact wq0 q
def walk_un {S r:Addr}{xs ys:List (κ×Tok)}{er:Nat}{os:List Addr}{Q:Array (Int×Value)->Shared->Prop}(hr:∀k t a,kd.vl k t≠.ref a)(hS:StrSet kd s.heap S xs ep)(hR:StrSet kd s.heap r ys er)(hz:ys.length<4000)(ho:∀q∈os,∃xs ep,StrSet kd s.heap q xs ep)
  (h:∀(order:List (κ×Tok)) h' er' d,order.Perm xs->Heap.SameBut r s.heap h'->StrSet kd h' r ys er'->Q (order.map kd.e).toArray {s with heap:=h',drawn:=d}):
  wpAny (model prog w) A (setWalkUnseen S os (some r)) Q E s:=by
 have wk:wpAny (model prog w) A (setWalk S) Q E s:=uV hS fun order d po=>h order s.heap er d po (Heap.SameBut.refl _ _) hR
 obtain⟨o,es,t,h1,hex,h2,h3,h4,h5,h6⟩:=id hS;unfold setWalkUnseen;refine wb0 (wpAny_setState_of h1 h2 h3 (wb0 (asks ?_)));dsimp only;split
 ·exact wk
 refine wb0 (uW hr (fun q m=>(mq0 m).elim (fun e=>e▸⟨_,_,hS⟩) (ho q)) ?_);rw[if_neg (by simp)];refine wb0 (wpAny_rule ?_);obtain⟨oR,eR,tR,r1,rx,r2,r3,r4,r5,r6⟩:=id hR;refine wb0 (wpAny_setState_of r1 r2 r3 ?_);have eq1:es=(xs.map kd.e).toArray:=by rw[←h4]
 dsimp only;split
 ·have hes:eR.size=ys.length:=by rw[←al0,r4,lm0]
  refine wb0 (wpAny_storeSet_of (prog:=prog) (w:=w) r1 r2 (wq0 ?_) (by rw[hes,sizeLine_eq];grind));rw[eq1];refine h xs _ (er+1) s.drawn (.refl _) (Heap.SameBut.update s.heap r _) ⟨_,eR,_,kH r1 r2,rx,rfl,?_,r4,?_,fun z=>?_⟩
  ·exact r3
  ·show (tR.led&&t.led)=_
   rw[r5,h5,Bool.and_self]
  ·have z:(tR.plain&&t.plain)=true:=z
   rw[be0] at z;exact r6 z.1
 ·refine wq0 ?_
  rw[eq1];exact h xs s.heap er s.drawn (.refl _) (Heap.SameBut.refl _ _) hR
def zo (h:StrSet kd (s.heap.push (aT w)) s.heap.objs.size [] 0->Q (.ref s.heap.objs.size) {s with heap:=s.heap.push (aT w)}):wpAny (model prog w) A (newSet (.type "set")) Q E s:=by
 exact wb0 (asks (wb0 (wpAny_alloc (wq0 (h ⟨_,_,_,pz0 _ rfl,⟨rfl,rfl,rfl⟩,rfl,rfl,rfl,rfl,fun a=>⟨fun z=>absurd rfl z,rfl,.nil⟩⟩)))))
theorem iI {K W r:Addr}{ks xs:List (κ×Tok)}{ek ew:Nat}{id:String}{Q:PUnit->Shared->Prop}(nK:K≠r)(nW:W≠r)(hk:ks.length<4000)(g:Bool->Bool):∀(l ys:List (κ×Tok)) (er:Nat) (s:Shared),ys.length+l.length<4000->(ys.map (·.1)).Nodup->StrSet kd s.heap K ks ek->StrSet kd s.heap W xs ew->StrSet kd s.heap r ys er->
  (∀h' zs er',Heap.SameBut r s.heap h'->StrSet kd h' r zs er'->(zs.map (·.1)).Nodup->(∀y,y∈zs.map (·.1)↔y∈ys.map (·.1)\/(y∈l.map (·.1)/\g (decide (y∈ks.map (·.1)))=true))->zs.length≤ys.length+l.length->Q ⟨⟩ {s with heap:=h'})->
  wpAny (model prog w) A (forIn (l.map kd.e) PUnit.unit fun x a=>match x with
   |(h,x)=>do
    holding [x] (do
     if g (←setFind K x h).isSome=true then do
      let _ ←setAddHashed r x h
      pure ()
     else pure ())
    Builtin.Frozenset.unchanged id W ew
    pure (.yield PUnit.unit)) Q E s
 |[],ys,er,s,hz,nd,hK,hW,hR,h=>wq0 (h s.heap ys er (Heap.SameBut.refl _ _) hR nd (fun y=>by simp) (nr0 _))
 |p::l,ys,er,s,hz,nd,hK,hW,hR,h=>by
  have hz:ys.length+(l.length+1)<4000:=hz;have un:∀(s:Shared) (P:ForInStep PUnit->Shared->Prop),StrSet kd s.heap W xs ew->P (.yield PUnit.unit) s->wpAny (model prog w) A (do Builtin.Frozenset.unchanged id W ew;pure (.yield PUnit.unit)) P E s:=fun s P hW q=>by
   unfold Builtin.Frozenset.unchanged;refine wb0 (wb0 (ep_of hW ?_));rw[if_neg (by simp)];exact wq0 (wq0 q)
  rw[mk0,List.forIn_cons];refine wb0 (wb0 (wh0 (wb0 (zm hK hk fun f hf=>?_))));rw[hf]
  by_cases c:g (decide (p.1∈ks.map (·.1)))=true
  ·rw[if_pos c]
   refine wb0 (Gs (x:=p.1) (tk:=p.2) hR (by grind) fun h1 y1 e1 b sb1 S1 p1=>wq0 (un _ _ (hW.keep fun o e=>(sb1.2 _ nW).trans e) ?_));obtain⟨n1,m1,z1⟩:=jH nd p1;refine iI nK nW hk g l y1 e1 {s with heap:=h1} (by grind) n1 (hK.keep fun o e=>(sb1.2 _ nK).trans e) (hW.keep fun o e=>(sb1.2 _ nW).trans e) S1 fun h2 zs er' sb2 a1 a2 a3 a4=>h h2 zs er' (sb1.trans sb2) a1 a2 (fun y=>(a3 y).trans ?_) (by rw[lc0];grind)
   rw[m1 y,mk0,List.mem_cons];constructor
   ·rintro ((h|rfl)|h)
    ·exact .inl h
    ·exact .inr ⟨.inl rfl,c⟩
    ·exact .inr ⟨.inr h.1,h.2⟩
   ·rintro (h|⟨rfl|h,q⟩)
    ·exact .inl (.inl h)
    ·exact .inl (.inr rfl)
    ·exact .inr ⟨h,q⟩
  ·rw[if_neg c]
   refine wq0 (un _ _ hW ?_);refine iI nK nW hk g l ys er s (by exact Nat.le_of_lt ‹_›) nd hK hW hR fun h2 zs er' sb2 a1 a2 a3 a4=>h h2 zs er' sb2 a1 a2 (fun y=>(a3 y).trans ?_) (by rw[lc0];exact Nat.le_succ_of_le ‹_›)
   rw[mk0,List.mem_cons];constructor
   ·rintro (h|h)
    ·exact .inl h
    ·exact .inr ⟨.inr h.1,h.2⟩
   ·rintro (h|⟨rfl|h,q⟩)
    ·exact .inl h
    ·exact absurd q c
    ·exact .inr ⟨h,q⟩
set_option tactic.hygienic true in
def uX {S T:Addr}{xs ys:List (κ×Tok)}{eq:Nat}(hr:∀k t a,kd.vl k t≠.ref a)(hne:S≠T)(hS:StrSet kd s.heap S xs ep)(hT:StrSet kd s.heap T ys eq)(hz:xs.length<2000)(hz2:ys.length<2000)
  (h:∀h' d r zs er,(∀b o,s.heap.get? b=some o->h'.get? b=some o)->s.heap.objs.size≤r->StrSet kd h' r zs er->(zs.map (·.1)).Nodup->(∀y,y∈zs.map (·.1)↔y∈xs.map (·.1)/\y∈ys.map (·.1))->(zs.length≤xs.length\/zs.length≤ys.length)->Q (.ref r) {s with heap:=h',drawn:=d}):
  wpAny (model prog w) A (binaryOp .BitAnd (.ref S) (.ref T)) Q E s:=by
 refine wpAny_binaryOp_same (T:="set") hS.isA hT.isA F.fills_set_and F.slot_set_and (wpAny_call_entry F.slot_set_and hS.isA jl ?_ (F.args_set_and_2 _ _));unfold Builtin.«frozenset.__and__»;refine wb0 (wb0 (m:=slotArgs "__and__" 1 _) (wq0 (wq0 ?_)));dsimp only;rw[if_neg fx0];refine wb0 (m:=andM (Builtin.Frozenset.isAnySet (.ref S)) (Builtin.Frozenset.isAnySet (.ref T))) ?_;refine wb0 (kJ hS.isA (kJ hT.isA ?_));refine wb0 (m:=Builtin.Frozenset.addrOf (.ref S)) (wq0 (wb0 ?_));unfold Builtin.Frozenset.intersection;rw[if_neg (by simpa using hne.symm)]
 unfold Builtin.Frozenset.baseOf;refine wb0 (wb0 (wpAny_isInstance hS.isA qf (wq0 ?_)));rw[if_pos rfl];refine wb0 (zo (kd:=kd) fun hR=>?_);have kp:∀b o,s.heap.get? b=some o->(s.heap.push (aT w)).get? b=some o:=fun b o e=>ps0 _ e
 have hS0:=hS;have hT0:=hT;have hS:=hS.keep fun o e=>kp S o e
 have hT:=hT.keep fun o e=>kp T o e
 have nb:∀b o,s.heap.get? b=some o->b≠s.heap.objs.size:=fun b o e=>nn0 (hs0 e)
 have ltS:S≠s.heap.objs.size:=by obtain⟨o,e,_⟩:=hS0.cls;exact nb _ _ e
 have ltT:T≠s.heap.objs.size:=by obtain⟨o,e,_⟩:=hT0.cls;exact nb _ _ e
 refine wb0 (m:=Builtin.Frozenset.addrOf (.ref s.heap.objs.size)) (wq0 ?_);refine wb0 (wh0 (wb0 (kJ (s:={s with heap:=s.heap.push (aT w)}) hT.isA ?_)));rw[if_pos rfl];refine wb0 (m:=Builtin.Frozenset.addrOf (.ref T)) (wq0 (wb0 (size_of hT (wb0 (size_of hS ?_)))));have go:∀(K W:Addr) (ks ws:List (κ×Tok)) (ek ew:Nat),K≠s.heap.objs.size->W≠s.heap.objs.size->StrSet kd (s.heap.push (aT w)) K ks ek->StrSet kd (s.heap.push (aT w)) W ws ew->ks.length<2000->ws.length<2000->(∀y,(y∈ws.map (·.1)/\y∈ks.map (·.1))↔y∈xs.map (·.1)/\y∈ys.map (·.1))->(ws.length≤xs.length\/ws.length≤ys.length)->
   wpAny (model prog w) A.in1 (do
    let was ←setEpoch W
    let arr ←setWalkUnseen W [K,s.heap.objs.size] (some s.heap.objs.size)
    forIn arr PUnit.unit fun x f=>match x with
     |(h,x)=>do
      holding [x] (do
       if (←setFind K x h).isSome=true then do
        let _ ←setAddHashed s.heap.objs.size x h
        pure ()
       else pure ())
      Builtin.Frozenset.unchanged (toString "frozenset."++toString "__and__") W was
      pure (.yield PUnit.unit)
    pure ()) (fun f s'=>wpAny (model prog w) A.in1 (pure (.ref s.heap.objs.size)) (fun a s'=>wpAny (model prog w) A.in1 (ret a) (fun fin s'=>∃v,fin=Fin.done (Flow.ret v)/\v≠Value.notImplemented/\Q v s') E s') E s') E {s with heap:=s.heap.push (aT w)}:=by
  intro K W ks ws ek ew nK nW hK hW zk zw mem len;refine wb0 (ep_of hW (wb0 (walk_un hr hW hR (by simp) (fun q m=>?_) fun order h1 er d po sb1 hR1=>?_)))
  ·rcases mq0 m with rfl|m
   ·exact⟨_,_,hK⟩
   ·rw[List.mem_singleton] at m;rw[m];exact⟨_,_,hR⟩
  ·rw[←Array.forIn_toList]
   refine wb0 (iI (kd:=kd) (id:=_) nK nW (by grind) (fun b=>b) order [] er _ (by rw[List.length_nil,po.length_eq];grind) .nil (hK.keep fun o e=>(sb1.2 _ nK).trans e) (hW.keep fun o e=>(sb1.2 _ nW).trans e) hR1 fun h2 zs er' sb2 a1 a2 a3 a4=>?_);refine wq0 (wq0 (wq0 ⟨_,rfl,fun z=>(nomatch z),?_⟩));refine h h2 d _ zs er' (fun b o e=>(sb2.2 _ (nb b o e)).trans ((sb1.2 _ (nb b o e)).trans (kp b o e))) (nr0 _) a1 a2 (fun y=>(a3 y).trans ((Iff.trans ?_ (mem y)))) ?_
   ·rw[(po.map _).mem_iff]
    simp
   ·rw[List.length_nil,po.length_eq] at a4;omega
 split;rename_i a b c;split at c
 ·cases c
  exact go T S ys xs eq ep ltT ltS hT hS hz2 hz (fun y=>Iff.rfl) (by omega)
 ·cases c
  exact go S T xs ys ep eq ltS ltT hS hT hz hz2 (fun y=>And.comm) (by omega)
end
end PySem
namespace L2.Z
open PySem PySem.Spec PyProof.Rows L2 L2.C SI
def kK:OpR X (binaryOp .BitAnd) (fun x y H Q=>∃(l m:Addr) (ks js:List Int),x=.ref l/\y=.ref m/\l≠m/\H l=some (.ext (gM (kdI X.prog X.w) l ks))/\H m=some (.ext (gM (kdI X.prog X.w) m js))/\ks.length<64/\js.length<64/\∀r zs,H r=none->zs.Nodup->(∀y,y∈zs↔y∈ks/\y∈js)->zs.length<64->Q (.ref r) (upd H r (.ext (gM (kdI X.prog X.w) r zs)))):=by
 intro pins s σ H x y v u Q I rx ry h;obtain⟨l,m,ks,js,rfl,rfl,ne,hl,hm,zk,zj,k⟩:=h;cases rx;cases ry;obtain⟨⟨xs,ep,rfl,hS⟩,_⟩:=(show ObjOk X.prog X.w H s.heap l (.ext _) from I.hok l _ hl);obtain⟨⟨ys,eq,rfl,hT⟩,_⟩:=(show ObjOk X.prog X.w H s.heap m (.ext _) from I.hok m _ hm);rw[lm0] at zk zj;refine uX (fun f f f z=>by cases z) ne hS hT (by grind) (by grind) fun h' d r zs er kk fr hR nd mem len=>?_
 have gS:∃o,h'.get? r=some o:=let ⟨o,_,_,e,_⟩:=hR;⟨o,e⟩
 exact⟨.ref r,_,(jL I d).laid (s:={s with drawn:=d}) (t':=s.toks) kk fr (show ObjOk X.prog X.w _ _ _ (.ext _) from⟨⟨zs,er,rfl,hR⟩,gS,by rintro h1 h2 ⟨a,b,c,d⟩ k2;exact⟨a,b,c,d.keep k2⟩⟩),rfl,k r (zs.map (·.1)) (I.hok.fresh fr) nd mem (by rw[lm0];grind)⟩
def rT {i:Int}(h:gd (.inl i) v=true):∃t,v=.int i t:=by
 cases v<;>simp[gd,Value.isInt] at h<;>simp_all
theorem qg:∀{vs:List Value} {ns:List Int},vs.length=ns.length->(∀(j:Nat) (v:Value) (i:Int),vs[j]?=some v->ns[j]?=some i->∃t,v=.int i t)->IntsAre vs ns
 |[],[],_,_=>.nil
 |v::vs,i::ns,hl,h=>by
  obtain⟨t,rfl⟩:=h 0 v i rfl rfl;exact .cons _ _ (qg (by simpa using hl) fun j v i a b=>h (j+1) v i (by simpa using a) (by simpa using b))
 |[],_::_,hl,_=>by cases hl
 |_::_,[],hl,_=>by cases hl
def kL {A:Around}{E:Value->Shared->Prop}{s:Shared}{d:Addr}{kvs:List (Key×Value)}{R:List Value->Shared->Prop}(hh:A.handled=none)(lo:(d==sysModules)=false)(hat:s.heap.DictAt (aD prog w) d kvs ep)(hn:kvs.length≤sizeLine)
  (h:∀h' tk (acc:Array Value),s.heap.objs.size≤h'.objs.size->(∀b o,s.heap.get? b=some o->h'.get? b=some o)->ItemsOf (fun i v=>∃k x,kvs[i]?=some (k,x)/\(aD prog w).is k v=true) acc kvs.length->R acc.toList {s with heap:=h',toks:=tk}):
  wpAny (model prog w) A (collect (.ref d)) R E s:=by
 have ltS:d<s.heap.objs.size:=hat.lt_size;have K:=PySem.W.kdl_dict (prog:=prog) (w:=w) (knd:=aD prog w) (kvs:=kvs) (ep:=ep) lo;unfold collect;refine wb0 (wpAny_runValue (codeAny_builtin entry_proto_collect' ?_));rw[ui0 PySem.F.plain_proto_collect];show wpAny _ A.in1 (newList [] >>= fun l=>again (.builtin "list.__iadd__" ⟨[l,.ref d],[]⟩)) _ _ s;refine wb0 (wpAny_newObj_type (wq0 ⟨plainId_quiet PySem.F.plain_list_iadd _,codeAny_builtin entry_list_iadd' ?_⟩));rw[ui0 PySem.F.plain_list_iadd];have hL:(s.heap.push {cls:=.type "list",data:=.seq ([]:List Value).toArray}).get? s.heap.objs.size=some {cls:=.type "list",data:=.seq #[]}:=pz0 _ rfl
 show wpAny _ A.in1 (Builtin.List.listExtendWith (.ref s.heap.objs.size) (.ref d) (.ref s.heap.objs.size)) _ _ _;refine wpAny_mono (PySem.W.kdl_extend (A:=A) (s:={s with heap:=s.heap.push {cls:=.type "list",data:=.seq ([]:List Value).toArray}})
  (R:=fun (q:Result) (s':Shared)=>∃(h':Heap) (tk:Nat) (acc:Array Value) (c:Nat),q=.ok (.ret (.ref s.heap.objs.size))/\s'={s with heap:=h',toks:=tk}/\(∀b o,s.heap.get? b=some o->h'.get? b=some o)/\h'.get? s.heap.objs.size=some {cls:=.type "list",dict:=none,data:=.seq acc c,slots:=#[]}/\ItemsOf (fun i v=>∃k x,kvs[i]?=some (k,x)/\(aD prog w).is k v=true) acc kvs.length)
  K hh (K.keep _ _ hat fun b a o e=>ps0 _ e) s.heap.objs.size (Nat.ne_of_gt ltS) (Nat.ne_of_gt ltS) (.ref s.heap.objs.size) 0 hL (fun h' tk acc c a2 a3 a4=>⟨h',tk,acc,c,rfl,rfl,fun b o e=>a2 b o (nn0 (hs0 e)) (ps0 _ e),a3,a4⟩) hn) (fun fin s' x=>?_) fun e s' x=>?_
 ·cases fin with
  |done f=>
   obtain⟨h',tk,acc,c,e,rfl,a2,a3,a4⟩:=x;cases e;show wpAny (model prog w) A (load s.heap.objs.size >>= _) _ _ _;refine wb0 (wpAny_load a3 (wq0 ?_));exact h h' tk acc (Nat.le_of_lt (hs0 a3)) a2 a4
  |again c1=>
   refine⟨x.1,codeAny_mono x.2 fun q s2 y=>?_⟩;obtain⟨h',tk,acc,c,rfl,rfl,a2,a3,a4⟩:=y;show wpAny (model prog w) A (load s.heap.objs.size >>= _) _ _ _;refine wb0 (wpAny_load a3 (wq0 ?_));exact h h' tk acc (Nat.le_of_lt (hs0 a3)) a2 a4
 ·obtain⟨_,_,_,_,z,_⟩:=x
  cases z
def fO {A:Around}{E:Value->Shared->Prop}{s:Shared}{d:Addr}{kvs:List (Key×Value)}(hh:A.handled=none)(lo:(d==sysModules)=false)(hD:s.heap.DictOf (aD prog w) d kvs)(hk:kvs.map (·.1)=ns.map .inl)(hz:ns.length<64)
  (h:∀h' tk D (out:Array Value) n (ms:List Int),(∀b o,s.heap.get? b=some o->h'.get? b=some o)->h'.get? D=some (seqObj "list" out n)->s.heap.objs.size≤D->IntsAre out.toList ms->ms.Perm ns->ms.Pairwise (·≤·)->Q (.ref D) {s with heap:=h',toks:=tk}):
  wpAny (model prog w) A (call (.builtin "sorted") [.ref d]) Q E s:=by
 obtain⟨ep,hat⟩:=hD.dictAt;have kl:kvs.length=ns.length:=by simpa using congrArg List.length hk
 refine Calls.call_function_entry kind_sorted plain_sorted entry_sorted (args_sorted1 _) ?_;unfold Builtin.«sorted»;refine wb0 (m:=checkCount "sorted" 1 1 _) (wq0 (wb0 (kL (A:=A.in1) hh lo hat (by rw[kl,sizeLine_eq];grind) fun h1 tk acc sz k1 hacc=>?_)));have hl:acc.toList.length=ns.length:=by rw[al0,hacc.1,kl]
 have ia:IntsAre acc.toList ns:=qg hl fun j v i a b=>by
  obtain⟨k,x,e1,e2⟩:=hacc.2 j v (by simpa using a);have e3:=congrArg (·[j]?) hk;simp[e1,b] at e3;subst e3;exact rT e2
 refine wb0 (wpAny_newList ?_ (by rw[hl,sizeLine_eq];grind));have gD:(h1.push {cls:=.type "list",data:=.seq acc.toList.toArray}).get? h1.objs.size=some (seqObj "list" acc.toList.toArray 0):=pz0 _ rfl;have kD:∀b o,s.heap.get? b=some o->b<h1.objs.size:=fun b o e=>hs0 (k1 b o e)
 refine wb0 (wh0 (wpAny_call_entry slot_list_sort ⟨_,gD,rfl⟩ entry_list_sort (list_sort_tree gD ia (by rw[hl];exact hz) fun out ms a1 a2 a3=>⟨_,rfl,?_⟩) (args_list_sort _)));refine wq0 ⟨_,rfl,?_⟩;obtain⟨n,fin⟩:=sortedHeap_at (out:=out) gD;refine h _ tk h1.objs.size _ n ms (fun b o e=>?_) fin ?_ a1 a2 a3
 ·have lt:b<h1.objs.size:=kD b o e
  exact (sortedHeap_old (nn0 lt) (by rw[size_push'];exact Nat.lt_succ_of_lt lt)).trans (ps0 _ (k1 b o e))
 ·exact sz
def KV.keys {κ:Type}{ws:List (κ×V)}{vs:List (κ×Value)}(h:KV ws vs):ws.map (·.1)=vs.map (·.1):=by
 induction h<;>simp_all
theorem Dks.keys {G:Hp}:∀{ds:List (Key×D)} {vs:List (Key×V)},Dks K G ds vs->ds.map (·.1)=vs.map (·.1)
 |_,_,.nil=>rfl
 |_,_,.cons _ r=>by rw[mk0,mk0,Dks.keys r]
theorem mw:∀{kvs:List (Key×D)} {ns:List Int},iw kvs=some ns->kvs.map (·.1)=ns.map .inl
 |[],_,h=>by cases h;rfl
 |(.inl i,_)::r,_,h=>by
  obtain⟨ns,h1,rfl⟩:=mx0 (h);rw[mk0,mk0,mw h1]
 |(.inr _,_)::_,_,h=>by cases h
def jm (hc:X.calm=true):aZ X (.builtin "sorted") (fun xs H Q=>∃(l:Addr) (ws:List (Key×V)) (ns:List Int),xs=[.ref l]/\H l=some (.dK ws)/\ws.map (·.1)=ns.map .inl/\ns.length<64/\∀r (ms:List Int),H r=none->ms.Perm ns->ms.Pairwise (·≤·)->Q (.ref r) (upd H r (.lst (ms.map V.int)))):=by
 intro pins s σ H xs us Q I r h;obtain⟨l,ws,ns,rfl,hl,hk,hz,k⟩:=h;obtain⟨u,rfl,rx⟩:=vals1 r;cases rx;obtain⟨_,lo,vs,kv,hD⟩:=(I.hok l _ hl);refine fO (I.ok.hd hc) lo hD (kv.keys.symm.trans hk) hz fun h' tk D out n ms kk gD fr sa pe so=>?_
 have hlen:(ms.map V.int).length≤sizeLine:=by
  rw[lm0,pe.length_eq,sizeLine_eq];omega
 exact⟨.ref D,_,(I.laid kk fr (show ObjOk X.prog X.w _ _ _ (.lst _) from⟨hlen,_,n,bQ sa,by omega⟩)),rfl,k D ms (I.hok.fresh fr) pe so⟩
def qh (ns:List Int):(insI ns).Perm ns/\(insI ns).Pairwise (·≤·):=by
 refine⟨List.mergeSort_perm ns _,?_⟩;have:=List.pairwise_mergeSort (le:=fun a b=>decide (a≤b)) (fun a b c h1 h2=>by grind) (fun a b=>by grind) ns
 simpa [insI] using this
theorem iJ:∀{ds:List D} {ns:List Int},eZ ds=some ns->ds=ns.map D.int
 |[],_,h=>by cases h;rfl
 |.int i::r,_,h=>by
  obtain⟨ns,h1,rfl⟩:=mx0 (show (eZ r).map _=some _ from h);rw[iJ h1];rfl
 |.none::_,_,h=>by cases h
 |.bool _::_,_,h=>by cases h
 |.str _::_,_,h=>by cases h
 |.tuple _::_,_,h=>by cases h
 |.list _::_,_,h=>by cases h
 |.dict _::_,_,h=>by cases h
 |.scr _::_,_,h=>by cases h
 |.vlt _ _ _::_,_,h=>by cases h
 |.hdl _::_,_,h=>by cases h
 |.exc _::_,_,h=>by cases h
 |.fn _::_,_,h=>by cases h
def kM:aZ X (.builtin "sorted") (fun xs H Q=>∃(l:Addr) (ns:List Int),xs=[.ref l]/\SqL X.K H l (ns.map V.int)/\ns.length<64/\∀r (ms:List Int),H r=none->ms.Perm ns->ms.Pairwise (·≤·)->Q (.ref r) (upd H r (.lst (ms.map .int)))):=by
 intro pins s σ H xs us Q I r h;obtain⟨l,ns,rfl,hl,hz,k⟩:=h;obtain⟨u,rfl,rx⟩:=vals1 r;cases rx;obtain⟨its,rv,hL,_⟩:=I.list hl;have il:its.length=ns.length:=by rw[←rv.length];simp
 refine PyProof.Rows.sorted_ints hL.isList (intsAre_of rv) (by omega) fun out ms a1 a2 a3=>?_
 obtain⟨e,gD⟩:=PyProof.Rows.sortedAll_at s.heap its out;have kk:∀b o,s.heap.get? b=some o->(PyProof.Rows.sortedAll s.heap its out).get? b=some o:=fun b o q=>PyProof.Rows.sortedAll_old q
 have fr:s.heap.objs.size≤s.heap.objs.size+1:=Nat.le_succ _;have hlen:(ms.map V.int).length≤sizeLine:=by
  rw[lm0,a2.length_eq,sizeLine_eq];omega
 exact⟨.ref _,_,(I.laid (t':=s.toks) kk fr (show ObjOk X.prog X.w _ _ _ (.lst _) from⟨hlen,out.toList,e,bQ a1,by simpa using gD⟩)),rfl,k _ ms (I.hok.fresh fr) a2 a3⟩
set_option tactic.hygienic true in
def ox (hcalm:X.calm=true)(B1:Blt X "sorted")(h:biD .srtd ds=some d)(ha:Ea X ρ fl3 [a] ds)(hs:isStar a=false):Ev X ρ (.Call (.Name "sorted" p) [a] [] pos) d:=by
 match ds,h with
 |[.list ls],h=>
  obtain⟨ns,h1,h2⟩:=bx0 (show (eZ ls).bind _=some d from h);obtain rfl:=iJ h1;split at h2
  ·rename_i hz
   cases h2;intro pins s σ H Q I h0;obtain⟨G0,H0,G,E,k⟩:=h0;refine bj kM B1.g B1.m bA ha B1.n B1.d (af hs) rfl pins s σ H Q I ⟨G0,H0,G,E,fun vs G1 H1 e1 r1=>?_⟩;obtain⟨v,rfl,hv⟩:=r1.one;obtain⟨r,ws,rfl,h3,h4⟩:=hv.lst e1.gh;obtain rfl:=cU ns h4;refine⟨r,ns,rfl,SqL.of h3,hz,fun r2 ms hr2 pe so=>?_⟩;obtain⟨i1,i2⟩:=qh ns;have e:ms=insI ns:=(pe.trans i1.symm).eq_of_pairwise (fun a b c c h1 h2=>Int.le_antisymm h1 h2) so i2;subst e;exact k _ _ _ (e1.trans (.laid e1.gh hr2)) (.list ae (ou _))
  ·cases h2
 |[.dict kvs],h=>
  obtain⟨ns,h1,h⟩:=bx0 (show (iw kvs).bind _=some d from h);split at h
  ·rename_i hz
   cases h;intro pins s σ H Q I h0;obtain⟨G0,H0,G,E,k⟩:=h0;refine bj (jm hcalm) B1.g B1.m bA ha B1.n B1.d (af hs) rfl pins s σ H Q I ⟨G0,H0,G,E,fun vs G1 H1 e1 r1=>?_⟩;obtain⟨v,rfl,hv⟩:=r1.one;obtain⟨r,ws,rfl,h3,h4⟩:=hv.dct e1.gh;refine⟨r,ws,ns,rfl,h3,h4.keys.symm.trans (mw h1),hz,fun r2 ms hr2 pe so=>?_⟩;obtain⟨i1,i2⟩:=qh ns;have e:ms=insI ns:=(pe.trans i1.symm).eq_of_pairwise (fun a b c c h1 h2=>Int.le_antisymm h1 h2) so i2;subst e;exact k _ _ _ (e1.trans (.laid e1.gh hr2)) (.list ae (ou _))
  ·cases h
section
variable {e:Expr}
def Gw {G:Hp}{v:V}(s:Same G H)(h:Dr K G H d v)(hd:∃b,jh "int" d=some b):∃T,eU K H v (.type T)/\(d=.none/\T="NoneType"\/(∃b,d=.bool b)/\T="bool"\/(∃i,d=.int i)/\T="int"\/(∃x,d=.str x)/\T="str"\/(∃l,d=.tuple l)/\T="tuple"\/(∃l,d=.list l)/\T="list"\/(∃l,d=.dict l)/\T="dict"):=by
 cases d with
 |none=>rw[h.none];exact⟨_,.non,.inl ⟨rfl,rfl⟩⟩
 |bool b=>rw[h.bool];exact⟨_,.bl b,.inr (.inl ⟨⟨b,rfl⟩,rfl⟩)⟩
 |int i=>rw[h.int];exact⟨_,.int i,.inr (.inr (.inl ⟨⟨i,rfl⟩,rfl⟩))⟩
 |str x=>rw[h.str.1];exact⟨_,.str x,.inr (.inr (.inr (.inl ⟨⟨x,rfl⟩,rfl⟩)))⟩
 |tuple l=>obtain⟨a,vs,rfl,h1,_⟩:=h.tup s;exact⟨_,.tup h1,.inr (.inr (.inr (.inr (.inl ⟨⟨l,rfl⟩,rfl⟩))))⟩
 |list l=>obtain⟨a,vs,rfl,h1,_⟩:=h.lst s;exact⟨_,.lst h1,.inr (.inr (.inr (.inr (.inr (.inl ⟨⟨l,rfl⟩,rfl⟩)))))⟩
 |dict l=>obtain⟨a,vs,rfl,h1,_⟩:=h.dct s;exact⟨_,.dK h1,.inr (.inr (.inr (.inr (.inr (.inr ⟨⟨l,rfl⟩,rfl⟩)))))⟩
 |scr=>obtain⟨_,z⟩:=hd;cases z
 |vlt=>obtain⟨_,z⟩:=hd;cases z
 |hdl=>obtain⟨_,z⟩:=hd;cases z
 |exc=>obtain⟨_,z⟩:=hd;cases z
 |fn=>obtain⟨_,z⟩:=hd;cases z
def uY :aZ X (.builtin "isinstance") (fun vs H Q=>∃v t r,vs=[v,.ty T]/\eU X.K H v t/\PySem.W.kitOne X.K t (.type T)=some r/\Q (.bl r) H):=by
 intro pins s σ H xs us Q I r h;obtain⟨v,t,b,rfl,ty,hk,q⟩:=h;obtain⟨u,w',rfl,r1,r2⟩:=vals2 r;cases r2;exact rk I r1 ty hk fun tk=>⟨.bl b,H,I.tok tk,rfl,q⟩
def Ii :∀T,T="NoneType"\/T="bool"\/T="int"\/T="str"\/T="tuple"\/T="list"\/T="dict"->∀U,U="int"\/U="str"\/U="list"\/U="tuple"\/U="bool"->
  PySem.W.kitOne K (.type T) (.type U)=some ((T==U)||(T=="bool"&&U=="int")):=by
 rintro T (rfl|rfl|rfl|rfl|rfl|rfl|rfl) U (rfl|rfl|rfl|rfl|rfl)<;>rfl
def my:bootBuiltins ("isinstance":Str)=some (.builtin "isinstance"):=rfl
set_option tactic.hygienic true in
def rV (h:nX x=some T):bootBuiltins x=some (.type T)/\(T="int"\/T="str"\/T="list"\/T="tuple"\/T="bool"):=by
 unfold nX at h;split at h
 ·rename_i c;subst c;cases h;exact⟨PyProof.Rows.boot_int,.inl rfl⟩
 split at h
 ·rename_i c;subst c;cases h;exact⟨PyProof.Rows.boot_str,.inr (.inl rfl)⟩
 split at h
 ·rename_i c;subst c;cases h;exact⟨PyProof.Rows.boot_list,.inr (.inr (.inl rfl))⟩
 split at h
 ·rename_i c;subst c;cases h;exact⟨PyProof.Rows.boot_tuple,.inr (.inr (.inr (.inl rfl)))⟩
 split at h
 ·rename_i c;subst c;cases h;exact⟨PyProof.Rows.boot_bool,.inr (.inr (.inr (.inr rfl)))⟩
 ·cases h
def rW (B:Blt X "isinstance")(Bx:Blt X x)(hT:nX x=some T)(ha:Er X ρ a d)(hs:isStar a=false)(h:jh T d=some t):Ev X ρ (.Call (.Name "isinstance" p) [a,.Name x px] [] pos) (.bool t):=by
 obtain⟨hb,hU⟩:=rV hT;have pn:PE X (.Name x px) (tC (.ty T)):=pE Bx.g Bx.m hb rfl Bx.n Bx.d;intro pins s σ H Q I h0;obtain⟨G0,H0,G,E,k⟩:=h0;refine bj (uY (T:=T)) B.g B.m my (ax ha (ax pn aQ rfl) (af hs)) (by decide) (by decide) (af hs) rfl pins s σ H Q I ⟨G0,H0,G,E,fun v G1 H1 e1 r1=>?_⟩;obtain⟨U,ty,alt⟩:=Gw e1.gh r1 (by cases d<;>first|exact⟨_,rfl⟩|cases h);refine⟨v,_,t,rfl,ty,?_,k _ G1 H1 e1 (.bool _)⟩;rcases alt with⟨rfl,rfl⟩|⟨⟨b,rfl⟩,rfl⟩|⟨⟨b,rfl⟩,rfl⟩|⟨⟨b,rfl⟩,rfl⟩|⟨⟨b,rfl⟩,rfl⟩|⟨⟨b,rfl⟩,rfl⟩|⟨⟨b,rfl⟩,rfl⟩<;>(cases h;rcases hU with rfl|rfl|rfl|rfl|rfl<;>rfl)
def base_of {name:Str}(h:fb o=false):attributeBase o name env (eval o env)=eval o env:=by
 have other:∀e:Expr,(∀id p pos,e≠.Call (.Name id p) [] [] pos)->attributeBase e name env (eval e env)=eval e env:=by
  intro e he;unfold attributeBase;simp
 by_cases c:∃id p pos,o=.Call (.Name id p) [] [] pos
 ·obtain⟨id,p,pos,rfl⟩:=c
  have hid:(id=="super")=false:=h;unfold attributeBase
  simp_all
 ·exact other o fun id p pos z=>c ⟨id,p,pos,z⟩
noncomputable def Pur (K:Fg)(φ:Fn):Sp:=fun vs H Q a=>∃ds d G,φ.run ds=some d/\Same G H/\Das K G H φ.lent ds vs/\∀v G' H',Ext G H G' H'->Dp K G' d v->Q v H'
structure FnZ (P:Program)(w:World)(K:Fg)(mg:Str->Option Value)(base:Heap)(k:Nat)(x:Str)(φ:Fn):Prop where
 ex:∃f fd ps,mg x=some (.ref f)/\PySem.W.keepIn K (.ref f)=true/\Binds K fd ps []/\FnOk P w K mg base CX0 k f fd ps (Pur K φ)
def oy {φ:Fn}(F:FnZ X.prog X.w X.K X.mg X.base k x φ)(hr:Room k X.A)(hg:Gl X x)(hd:(x==("__debug__":Str))=false)(ha:Ea X ρ φ.lent (e::es) ds)(h:φ.run ds=some d)(hs:aB (e::es)):
  Ev X ρ (.Call (.Name x p) (e::es) [] pos) d:=by
 obtain⟨f,fd,ps,hm,hk,hb,F⟩:=F.ex;intro pins s σ H Q I h0;obtain⟨G0,H0,G,E,k⟩:=h0;exact pI F hr hg hm hk hb .nil ue ha hd (af (hs e ms0)) (aG fun y hy=>hs y (mc0 _ hy)) _ s σ H Q I
  ⟨G0,H0,G,E,fun vs G1 H1 e1 r1=>⟨ds,d,G1,h,e1.gh,by simp_all,fun v G' H' e2 r2=>k v G' H' (e1.trans e2) r2⟩⟩
end
noncomputable def tEk (K:Fg)(ρ:List Sl)(d:D):TE:=fun σ H Q=>∃G0 H0 G,EnvD K G0 H0 G H σ ρ/\∀v G' H',Ext G H G' H'->Dr K G' H0 d v->Q v H'
def Ek (X:Cx)(ρ:List Sl)(e:Expr)(d:D):Prop:=PE X e (tEk X.K ρ d)
section
variable {e:Expr}
def Ev.ek {e:Expr}(h:Ev X ρ e d):Ek X ρ e d:=by rintro pins s σ H Q I ⟨G0,H0,G,E,k⟩;exact h pins s σ H Q I ⟨G0,H0,G,E,fun v G' H' e r=>k v G' H' e (.of r)⟩
def Dr.monoG {G:Hp}{v:V}(s:Same G G'):Dr K G H d v->Dr K G' H d v
 |.of h=>.of (h.mono s)
 |.list h r=>.list h (r.mono s)
 |.dict h r=>.dict h (r.mono s)
 |.vlt h1 h2 r=>.vlt h1 h2 (r.mono s)
def DE (i:Nat)(h:(ρ[i]?).bind (az .walk)=some d)(hN:X.N[i]?=some x)(hv:Vis X.env.scope x)(hd:(x==("__debug__":Str))=false)(hcd:(x==("__classdict__":Str))=false):Ek X ρ (.Name x pos) d:=by
 rintro pins s σ H Q I ⟨G0,H0,G,E,k⟩
 obtain⟨sl,h1,h2⟩:=bx0 h;have:∃v,σ[i]?=some (some v)/\Dr X.K G H0 d v:=by
  cases sl with
  |no=>cases h2
  |dat d'=>cases h2;obtain⟨v,a,b⟩:=E.dat i d h1;exact⟨v,a,.of b⟩
  |lent d'=>cases h2;obtain⟨v,a,b⟩:=E.lent i d h1;exact⟨v,a,b.monoG E.ext.gg⟩
  |own d'=>cases h2
  |deep rows=>cases h2
 obtain⟨v,e,r⟩:=this;exact bL hN hv hd hcd _ s σ H Q I ⟨v,e,k v G H (.refl E.sub) r⟩
structure fw (K:Fg)(G1 Hb:Hp)(J:It)(ds:List D):Prop where
 go:∀i H',i<ds.length->Same G1 H'->Same Hb H'->J.go i H'
 yld:∀i G' H' x H2 d,ds[i]?=some d->Same G1 G'->Same G' H'->Same Hb H'->J.yld i H' x H2->∃G2,Ext G' H' G2 H2/\Dp K G2 d x
 stop:∀H',Same G1 H'->Same Hb H'->J.stop ds.length H'
def src_list {a:Addr}(hq:∀H',Same G1 H'->Same Hb H'->SqL K H' a vs)(r:Dps K G1 ds vs):fw K G1 Hb (Itl K a) ds where
 go:=fun i H' hi hs hb=>by
  have hl:i<vs.length:=by rwa [←r.length]
  exact⟨vs,_,hq H' hs hb,ge0 hl⟩
 yld:=fun i G' H' x H2 b hb g1 g2 g3 y=>by
  obtain⟨e,y⟩:=y;subst e;have:=y vs (hq _ (g1.trans g2) g3);obtain⟨v,e,d⟩:=r.get hb;rw[this] at e;cases e;exact⟨G',.refl g2,d.mono g1⟩
 stop:=fun H' hs hb=>⟨vs,hq H' hs hb,by rw[←r.length];simp⟩
def qi {a:Addr}(hq:∀H',Same G1 H'->Same Hb H'->SqT K H' a vs)(r:Dps K G1 ds vs):fw K G1 Hb (Itt K a) ds where
 go:=fun i H' hi hs hb=>by
  have hl:i<vs.length:=by rwa [←r.length]
  exact⟨vs,_,hq H' hs hb,ge0 hl⟩
 yld:=fun i G' H' x H2 b hb g1 g2 g3 y=>by
  obtain⟨e,y⟩:=y;subst e;have:=y vs (hq _ (g1.trans g2) g3);obtain⟨v,e,d⟩:=r.get hb;rw[this] at e;cases e;exact⟨G',.refl g2,d.mono g1⟩
 stop:=fun H' hs hb=>⟨vs,hq H' hs hb,by rw[←r.length];simp⟩
def src_range (lo:Int)(n:Nat):fw K G1 Hb (Itr lo n) ((List.range n).map fun (k:Nat)=>.int (lo+k)) where
 go:=fun i H' hi a a=>by rwa [lm0,lr0] at hi
 yld:=fun i G' H' x H2 b hb g1 g2 a y=>by
  obtain⟨e,y⟩:=y;subst e y;have hi:i<n:=by have:=(gi0 hb).1;simp_all
  rw[gm0,List.getElem?_range hi] at hb;cases hb;exact⟨G',.refl g2,.int _⟩
 stop:=fun H' a a=>by show n≤_;simp
theorem fx {G:Hp}:∀ns:List Int,Dps K G (ns.map .int) (ns.map V.int)
 |[]=>.nil
 |n::r=>.cons (.int n) (fx r)
noncomputable def tSi (K:Fg)(ρ:List Sl)(wk:Bool)(ds:List D):TI:=fun σ H R=>∃G0 H0 G,EnvD K G0 H0 G H σ ρ/\∀J G' H',Ext G H G' H'->fw K G' (if wk then H0 else H') J ds->R J H'
def Si (X:Cx)(ρ:List Sl)(wk:Bool)(iter:Expr)(ds:List D):Prop:=∀tg,PI X tg iter (tSi X.K ρ wk ds)
def uZ {ds':List D}(h:cF d=some ds')(hk:Ek X ρ iter d):Si X ρ true iter ds':=by
 intro tg pins s σ H R I h0;obtain⟨G0,H0,G,E,k⟩:=h0;cases d with
 |list ls=>
  cases h;refine dY hk pins s σ H R I ⟨G0,H0,G,E,fun v G1 H1 e1 r1=>?_⟩;have now:=(E.step e1).ext.hh;cases r1 with
  |of r1=>cases r1 with
   |list hq r=>exact⟨_,rfl,⟨_,SqL.of (e1.gh _ _ hq)⟩,k _ G1 H1 e1 (src_list (fun H' g a=>SqL.of (g _ _ hq)) r)⟩
  |list hq r=>exact⟨_,rfl,⟨_,SqL.of (now _ _ hq)⟩,k _ G1 H1 e1 (src_list (fun H' a g=>SqL.of (g _ _ hq)) r)⟩
 |tuple ls=>
  cases h;refine tJ hk pins s σ H R I ⟨G0,H0,G,E,fun v G1 H1 e1 r1=>?_⟩;cases r1 with
  |of r1=>cases r1 with
   |tuple hq r=>exact⟨_,rfl,⟨_,SqT.of (e1.gh _ _ hq)⟩,k _ G1 H1 e1 (qi (fun H' g a=>SqT.of (g _ _ hq)) r)⟩
 |scr ns=>
  cases h;refine dY hk pins s σ H R I ⟨G0,H0,G,E,fun v G1 H1 e1 r1=>?_⟩;cases r1 with
  |of r1=>cases r1 with
   |scr hq=>exact⟨_,rfl,⟨_,e1.gh.seq hq⟩,k _ G1 H1 e1 (src_list (fun H' g a=>g.seq hq) (fx ns))⟩
 |_=>cases h
def rX {ds':List D}(h:cF d=some ds')(hk:Er X ρ iter d):Si X ρ false iter ds':=by
 intro tg pins s σ H R I h0;obtain⟨G0,H0,G,E,k⟩:=h0;cases d with
 |list ls=>
  cases h;refine dY hk pins s σ H R I ⟨G0,H0,G,E,fun v G1 H1 e1 r1=>?_⟩;obtain⟨p,vs,rfl,hq,r⟩:=r1.lst e1.gh;exact⟨_,rfl,⟨_,SqL.of hq⟩,k _ G1 H1 e1 (src_list (fun H' a g=>SqL.of (g _ _ hq)) r)⟩
 |tuple ls=>
  cases h;refine tJ hk pins s σ H R I ⟨G0,H0,G,E,fun v G1 H1 e1 r1=>?_⟩;obtain⟨p,vs,rfl,hq,r⟩:=r1.tup e1.gh;exact⟨_,rfl,⟨_,SqT.of hq⟩,k _ G1 H1 e1 (qi (fun H' a g=>SqT.of (g _ _ hq)) r)⟩
 |scr ns=>
  cases h;refine dY hk pins s σ H R I ⟨G0,H0,G,E,fun v G1 H1 e1 r1=>?_⟩;obtain⟨p,rfl,hq⟩:=r1.scr e1.gh;exact⟨_,rfl,⟨_,hq⟩,k _ G1 H1 e1 (src_list (fun H' a g=>g.seq hq) (fx ns))⟩
 |_=>cases h
def oz {n:Int}(h:rOk n=true):-(2 ^ 62)≤n/\n<2 ^ 62:=by
 unfold rOk at h
 simp_all
def rY {wk:Bool}{n:Int}(B:Blt X "range")(ha:Ev X ρ a (.int n))(h:rOk n=true)(hs:isStar a=false):Si X ρ wk (.Call (.Name "range" p) [a] [] pos) ((List.range n.toNat).map fun (k:Nat)=>.int k):=by
 have e:((List.range n.toNat).map fun (k:Nat)=>D.int k)=(List.range n.toNat).map fun k=>.int (0+k):=by simp
 rw[e];intro tg pins s σ H R I h0;obtain⟨G0,H0,G,E,k⟩:=h0;refine qY B.g B.m (fh (fl:=[]) ha kC hs) (by rw[af hs];rfl) _ s σ H R I ⟨G0,H0,G,E,fun vs G1 H1 e1 r1=>?_⟩;obtain⟨v,rfl,hv⟩:=r1.one;exact⟨n,by rw[hv.int],(oz h).1,(oz h).2,k _ G1 H1 e1 (src_range 0 _)⟩
end
noncomputable def Itd (lo:Int)(n:Nat):It:=⟨fun i a=>i<n,fun i H x H'=>H'=H/\x=.int (lo-i),fun i a=>n≤i⟩
def rZ (it:Addr)(lo:Int)(n:Nat):Turn P w K tg (Itd lo n) [it] it (fun i h=>IsRangeIter h it (lo+(i:Nat)*(-1)) ((n:Int)-(i:Nat)) (-1)) where
 mem:=by simp
 obj:=fun i h st b hb=>by
  have e:b=it:=by simpa using hb
  subst e;exact⟨_,st,fun v z=>by
   have z':Data.fields _=Data.cell v:=z;cases z'⟩
 keep:=fun i h h' st k=>k it (by simp) _ st
 item:=by
  intro X hP hw hK hc i pins s σ H E I hf st hg;subst hP hw hK;obtain⟨f0,f1,f2,f3,f4,f5⟩:=hf it (by simp);have W:=Walks.range (prog:=X.prog) (w:=X.w) (I.ok.hd hc) it lo (-1) n;refine W.item i s _ _ hg st fun v h' tk hv st' kk=>?_
  obtain⟨t,rfl⟩:=hv;have I1:Inv X pins σ H {s with heap:=h',toks:=tk}:=I.turned (fun b o hb e=>kk b o (by simpa using hb) e) f0 f1 f3 f4 f5;refine⟨_,rfl,pH (s:={s with heap:=h',toks:=tk}) (n:="range_iterator") st' rfl rfl (by decide) ⟨.int (lo-i),H,I1,⟨t,?_⟩,⟨rfl,rfl⟩,st',fun b hb=>(hf b hb).1⟩⟩;rw[show lo+(i:Int)*(-1)=lo-i by omega]
 done:=by
  intro X hP hw hK hc i pins s σ H E I hf st hg;subst hP hw hK;obtain⟨f0,f1,f2,f3,f4,f5⟩:=hf it (by simp);exact wpAny_pyNext_range_end (I.ok.hd hc) st (by have:n≤i:=hg;omega) fun h' eb=>⟨rfl,I.turned (t':=s.toks) (fun b o hb e=>eb b o hb e) f0 f1 f3 f4 f5⟩
 self:=fun a a a a a st h=>wpAny_pyIter_rangeiter st h
section
variable {e:Expr}
def ve (lo:Int)(n:Nat):fw K G1 Hb (Itd lo n) ((List.range n).map fun (k:Nat)=>.int (lo-k)) where
 go:=fun i H' hi a a=>by rw[lm0,lr0] at hi;exact hi
 yld:=fun i G' H' x H2 b hb g1 g2 a y=>by
  obtain⟨e,y⟩:=y;subst e y;have hi:i<n:=by have:=(gi0 hb).1;rwa [lm0,lr0] at this
  rw[gm0,List.getElem?_range hi] at hb;cases hb;exact⟨G',.refl g2,.int _⟩
 stop:=fun H' a a=>by show n≤_;rw[lm0,lr0];exact nr0 _
def vf:bootBuiltins ("reversed":Str)=some (.type "reversed"):=by decide +kernel
end
end L2.Z
namespace PySem
namespace F
def sub_ri_reversed:isSubtype (.type "range_iterator") (.type "reversed")=pure false:=by rw[isSubtype_type];kernel_rfl
end F
def dN (r:Addr)(a b c:Int)(t u v:Tok)(hc0:¬(!(Builtin.Range.rangeFitsLong a&&Builtin.Range.rangeFitsLong b&&Builtin.Range.rangeFitsLong c&&Builtin.Range.rangeFitsLong (-c)&&Builtin.Range.rangeFitsLong (a-c)&&Builtin.Range.rangeFitsLong (Builtin.Range.rangeSize a b c)))=true):
  Meets (Builtin.«range.__reversed__» ⟨[.ref r],[]⟩) (fun e R s=>s.heap.get? r=some {cls:=.type "range",dict:=none,data:=.fields #[.int a t,.int b u,.int c v],slots:=#[]}/\R (.ok (.ret (Value.ref s.heap.objs.size))) {s with heap:=s.heap.push {cls:=Value.type (if (Builtin.Range.rangeFitsLong a&&Builtin.Range.rangeFitsLong b&&Builtin.Range.rangeFitsLong c&&Builtin.Range.rangeFitsLong (-c)&&Builtin.Range.rangeFitsLong (a-c)&&Builtin.Range.rangeFitsLong (Builtin.Range.rangeSize a b c))=true then "range_iterator" else "longrange_iterator"),data:=Data.fields #[rawInt (a+(Builtin.Range.rangeSize a b c-1)*c),rawInt (Builtin.Range.rangeSize a b c),rawInt (-c)]},toks:=s.toks}):=
 .of_wp fun prog w A R s h=>by obtain⟨hp,g,d,tk,os⟩:=s;obtain⟨hl,h⟩:=h;wp_walk;exact⟨_,rfl,h⟩
section
variable {A:Around}{E:Value->Shared->Prop}
def fy (n:Int):Builtin.Range.rangeSize 0 n 1=(n.toNat:Int):=by
 unfold Builtin.Range.rangeSize;rw[if_pos (by decide)];split<;>omega
noncomputable abbrev qj (n:Int):Obj:={cls:=.type "range_iterator",data:=.fields #[rawInt ((n.toNat:Int)-1),rawInt (n.toNat:Int),rawInt (-1)]}
def eI {r:Addr}{n:Int}{t u v:Tok}(hr:IsRange s.heap r 0 n 1 t u v)(h1:-(2 ^ 62)≤n)(h2:n<2 ^ 62)
  (h:Q (.ref s.heap.objs.size) {s with heap:=s.heap.push (qj n)}):wpAny (model prog w) A (call (.builtin "range.__reversed__") [.ref r]) Q E s:=by
 have hT:s.TypeIs (.ref r) "range":=⟨_,hr,rfl⟩;have hs:(Builtin.Range.rangeFitsLong 0&&Builtin.Range.rangeFitsLong n&&Builtin.Range.rangeFitsLong 1&&Builtin.Range.rangeFitsLong (-1)&&Builtin.Range.rangeFitsLong (0-1)&&Builtin.Range.rangeFitsLong (Builtin.Range.rangeSize 0 n 1))=true:=by
  rw[fy];simp only[Builtin.Range.rangeFitsLong,be0,decide_eq_true_eq];omega
 refine call_meets F.slot_range_reversed hT F.entry_range_reversed (F.args_range_reversed_1 _) (dN r 0 n 1 t u v (by rw[hs];decide)) ⟨hr,?_⟩;rw[hs,fy];simp only[if_true];have e:(0:Int)+((n.toNat:Int)-1)*1=(n.toNat:Int)-1:=by omega
 rw[e];exact h
def eO {r:Addr}{n:Int}{t u v:Tok}(hr:IsRange s.heap r 0 n 1 t u v)(h1:-(2 ^ 62)≤n)(h2:n<2 ^ 62)
  (h:Q₁ (.ref s.heap.objs.size) {s with heap:=s.heap.push (qj n)}):
  codeAny (model prog w) A (.call (.builtin "reversed.__new__") ⟨[.type "reversed",.ref r],[]⟩) (wants Q₁ E) s:=by
 have hT:s.TypeIs (.ref r) "range":=⟨_,hr,rfl⟩;refine codeAny_of_tree ?_;show wpAny _ A.in1 (do checkBuiltinCall "reversed.__new__" ⟨[.type "reversed",.ref r],[]⟩;again (.builtin "reversed.__new__" ⟨[.type "reversed",.ref r],[]⟩)) _ _ s;refine wb0 (wpAny_of_eq (F.newCall_reversed_1 _) (wq0 ⟨plainId_quiet F.plain_reversed_new _,codeAny_builtin F.entry_reversed_new ?_⟩));rw[ui0 F.plain_reversed_new _];unfold Builtin.«reversed.__new__»;refine wb0 (wpAny_of_eq (newClass_reversed _) ?_)
 try dsimp only
 refine wb0 (wpAny_of_eq (a:=()) (by first|rfl|kernel_rfl) ?_);refine wb0 (wpAny_of_eq (a:=()) (by first|rfl|kernel_rfl) ?_)
 try dsimp only
 refine wb0 (wpAny_specialOf hT F.slot_range_reversed.lookup ?_)
 try dsimp only
 refine wb0 (wpAny_of_eq (F.slot_range_reversed.bind _) ?_)
 try dsimp only
 first
 |rw[if_neg (show ¬ ((Value.builtin "range.__reversed__"==Value.none)=true) from fx0)]
 |(show wpAny _ _ (if (Value.builtin "range.__reversed__"==Value.none)=true then _ else _) _ _ _;rw[if_neg (show ¬ ((Value.builtin "range.__reversed__"==Value.none)=true) from fx0)])
 refine wb0 (wpAny_rule ?_);refine wb0 (m:=runValue (.call (.builtin "range.__reversed__") ⟨[.ref r],[]⟩)) (show wpAny _ _ (call (.builtin "range.__reversed__") [.ref r]) _ _ _ from eI hr h1 h2 ?_)
 first
 |exact wq0 h
 |exact wb0 (wq0 (wq0 h))
def eJ {r:Addr}{n:Int}{t u v:Tok}(hr:IsRange s.heap r 0 n 1 t u v)(h1:-(2 ^ 62)≤n)(h2:n<2 ^ 62)
  (h:Q (.ref s.heap.objs.size) {s with heap:=s.heap.push (qj n)}):wpAny (model prog w) A (call (.type "reversed") [.ref r]) Q E s:=by
 refine callType_other (U:="range_iterator") (Q₁:=fun obj s₁=>obj=.ref s.heap.objs.size/\s₁={s with heap:=s.heap.push (qj n)}) (by decide +kernel) F.create_reversed ⟨_,_,F.mro_reversed⟩ F.made_reversed F.sub_ri_reversed (F.typeCall_reversed_1 _) (eO hr h1 h2 ⟨rfl,rfl⟩) ?_
 rintro obj s₁ ⟨rfl,rfl⟩
 exact⟨⟨_,pz0 _ rfl,rfl⟩,h⟩
end
end PySem
namespace L2.Z
open PySem PySem.Spec PyProof.Rows L2 L2.C SI
section
variable {e:Expr}
def vg (n:Nat):fw K G1 Hb (Itd ((n:Int)-1) n) ((List.range n).reverse.map fun (k:Nat)=>.int k):=by
 have e:((List.range n).reverse.map fun (k:Nat)=>D.int k)=(List.range n).map fun (k:Nat)=>.int ((n:Int)-1-k):=by
  apply List.ext_getElem?
  intro i;rw[gm0,gm0]
  by_cases h:i<n
  ·rw[List.getElem?_reverse (by simpa using h),lr0,List.getElem?_range (by omega),List.getElem?_range h]
   show some (D.int _)=some (D.int _);rw[show ((n-1-i:Nat):Int)=(n:Int)-1-i by omega]
  ·rw[List.getElem?_eq_none (by simp;omega),List.getElem?_eq_none (by simp;omega)];rfl
 rw[e];exact ve _ _
def zp {wk:Bool}{n:Int}{pos2:Pos}(B:Blt X "range")(B2:Blt X "reversed")(ha:Ev X ρ a (.int n))(h:rOk n=true)(hs:isStar a=false):
  Si X ρ wk (.Call (.Name "reversed" p2) [.Call (.Name "range" p) [a] [] pos] [] pos2) ((List.range n.toNat).reverse.map fun (k:Nat)=>.int k):=by
 intro tg pins s σ H R I h0;obtain⟨G0,H0,G,E,k⟩:=h0;obtain⟨b1,b2⟩:=oz h;have hA:Ea X ρ [] [a] [.int n]:=fh ha kC hs;refine Call_ (ld_blt I B2.g B2.m vf (PyProof.Rows.callWith_type1 (Calls.spliced_cons ?_) rfl rfl));refine Call_ (ld_blt I B.g B.m boot_range (PyProof.Rows.callWith_type1 (thn (hA pos pins s σ H _ I ⟨G0,H0,G,E,fun vs G1 H1 e1 r1=>(⟨G1,e1,r1⟩:∃G1,Ext G H G1 H1/\Das X.K G1 H1 [] [.int n] vs)⟩) fun us s1 ⟨vs,H1,I1,r1,q1⟩=>?_) (af hs) rfl));obtain⟨G1,e1,q1⟩:=q1;obtain rfl:vs=[.int n]:=by
  cases q1 with
  |cons _ h1 r=>cases r;rw[h1.int]
 cases r1 with
 |cons r rr=>
  cases rr;obtain⟨t,rfl⟩:=r;refine call_range_1 (Calls.spliced_nil ?_);have I2:Inv X pins σ H1 {s1 with heap:=s1.heap.push {cls:=.type "range",data:=.fields #[.int 0 s1.toks,.int n t,.int 1 (s1.toks+1)]},toks:=s1.toks+1+1}:=I1.kept fun b o e=>ps0 _ e
  refine PySem.eJ (r:=s1.heap.objs.size) (t:=s1.toks) (u:=t) (v:=s1.toks+1) (pz0 _ rfl) b1 b2 ?_;refine wpAny_pyIter_rangeiter (x:=(n.toNat:Int)-1) (left:=(n.toNat:Int)) (step:=-1) (pz0 _ rfl) ?_;generalize hs2:({s1 with heap:=s1.heap.push {cls:=.type "range",data:=.fields #[.int 0 s1.toks,.int n t,.int 1 (s1.toks+1)]},toks:=s1.toks+1+1}:Shared)=s2 at I2;refine⟨s2.heap.objs.size,[s2.heap.objs.size],_,_,H1,by subst hs2;rfl,?_,rZ _ ((n.toNat:Int)-1) n.toNat,?_,fun b hb=>?_,k _ G1 H1 e1 (vg n.toNat)⟩
  ·subst hs2
   exact I2.kept (t':=s1.toks+1+1) fun b o e=>ps0 _ e
  ·subst hs2
   show IsRangeIter _ _ ((n.toNat:Int)-1+((0:Nat):Int)*(-1)) ((n.toNat:Int)-((0:Nat):Int)) (-1);rw[show (n.toNat:Int)-1+((0:Nat):Int)*(-1)=(n.toNat:Int)-1 by omega,show (n.toNat:Int)-((0:Nat):Int)=(n.toNat:Int) by omega];exact pz0 _ rfl
  ·have e:b=s2.heap.objs.size:=by simpa using hb
   subst e;subst hs2;exact I2.fpOk (nr0 _) (I2.hok.fresh (nr0 _))
end
def zq {fp:List Addr}(I:Inv X pins σ H s)(hf:∀b∈fp,fH X pins H b)(k:∀b o,b∉fp->s.heap.get? b=some o->h'.get? b=some o):Inv X pins σ H {s with heap:=h',toks:=t'}:=by
 have nit:∀b u,H b=some u->b∉fp:=fun b u e z=>by rw[(hf b z).1] at e;cases e
 refine I.step (g':=s.gens) (d':=s.drawn) (ch:=fp) (fun b hb=>?_) (fun b o a a hc e a=>k b o hc e) (fun b o a a hc e a=>⟨o.slots,k b o hc e⟩) (fun a a a a n=>n)
  (fun b o hc e=>⟨o,k b o hc e⟩) (fun a a e=>e) (fun a a a e=>e) (fun b a ps e=>⟨#[],by rw[e];simp⟩) (fun m hm=>?_) (fun b u e=>?_) I.bare
 ·obtain⟨_,f1,f2,f3,f4,f5⟩:=hf b hb
  exact⟨f3,f1,f4,f5⟩
 ·obtain⟨o,es,ep,ho,r⟩:=hm
  exact⟨o,es,ep,k _ o (fun z=>(hf _ z).2.1 rfl) ho,r⟩
 ·refine (I.hok b u e).stay (fun c v hc q=>k c v ?_ q) (fun a q=>q) fun a a a q=>q
  rcases hc with z|z
  ·rw[z];exact nit b u e
  ·exact nit c _ z
def eP {a b:Addr}{o u:Obj}(ha:h.get? a=some o)(hb:h.get? b=some u)(hc:o.cls≠u.cls):a≠b:=fun e=>by grind
def boot_zip:bootBuiltins ("zip":Str)=some (.type "zip"):=rfl
noncomputable def Itp (K:Fg)(l1 l2:Addr):It:=⟨fun a a=>False,fun a a a a=>False,fun i H=>i=0/\SqL K H l1 []/\SqL K H l2 []⟩
def Pst (z TI TO i1 i2 l1 l2:Addr)(i:Nat)(h:Heap):Prop:=
 IsZip h z TI TO .none/\IsPair h TI (.ref i1) (.ref i2)/\(∃a b,IsPair h TO a b)/\h.IsListIter i1 l1 i/\h.IsListIter i2 l2 i
def oA {z TI TO i1 i2:Addr}{a b:Value}{k1 k2:Nat}{xs ys:Array Value}(hTT:TI≠TO)(h12:i1≠i2)(hz:IsZip h z TI TO .none)(ht:IsPair h TI (.ref i1) (.ref i2))(ho:IsPair h TO a b)
  (q1:h.IsListIter i1 l1 k1) (q2:h.IsListIter i2 l2 k2) (p1:h.IsList l1 xs) (p2:h.IsList l2 ys):ZipApart z TI TO i1 i2 l1 l2:=by
 obtain⟨o1,e1,c1,_⟩:=q1;obtain⟨o2,e2,c2,_⟩:=q2;obtain⟨o3,e3,c3,_⟩:=p1;obtain⟨o4,e4,c4,_⟩:=p2;have cz:∀{x:Addr} {o:Obj},h.get? x=some o->o.cls≠.type _->x≠z:=fun e hn=>eP e hz hn
 have ct:∀{x:Addr} {o:Obj},h.get? x=some o->o.cls≠.type "tuple"->x≠TO:=fun e hn=>eP e ho hn
 have cI:∀{x:Addr} {o:Obj},h.get? x=some o->o.cls≠.type "tuple"->x≠TI:=fun e hn=>eP e ht hn
 exact⟨cz ht (show Value.type "tuple"≠Value.type "zip" by decide),cz ho (show Value.type "tuple"≠Value.type "zip" by decide),cz e1 (by rw[c1];decide),cz e2 (by rw[c2];decide),hTT,(cI e1 (by rw[c1];decide)).symm,(cI e2 (by rw[c2];decide)).symm,
  (ct e1 (by rw[c1];decide)).symm,(ct e2 (by rw[c2];decide)).symm,h12,cz e3 (by rw[c3];decide),ct e3 (by rw[c3];decide),eP e3 e1 (by rw[c3,c1];decide),eP e3 e2 (by rw[c3,c2];decide),
  cz e4 (by rw[c4];decide),ct e4 (by rw[c4];decide),eP e4 e1 (by rw[c4,c1];decide),eP e4 e2 (by rw[c4,c2];decide)⟩
def sd {tk:Nat}{tpos:Pos}{z TI TO i1 i2:Addr}(hTT:TI≠TO)(h12:i1≠i2):
  Turn P w K (.Tuple elts tk tpos) (Itp K l1 l2) [z,TI,TO,i1,i2] z (Pst z TI TO i1 i2 l1 l2) where
 mem:=by simp
 obj:=fun i h st b hb=>by
  obtain⟨hz,ht,⟨a,c,ho⟩,⟨o1,e1,c1,d1⟩,⟨o2,e2,c2,d2⟩⟩:=st;simp only[List.mem_cons,List.not_mem_nil,or_false] at hb;rcases hb with rfl|rfl|rfl|rfl|rfl
  ·exact⟨_,hz,fun v q=>by cases q⟩
  ·exact⟨_,ht,fun v q=>by cases q⟩
  ·exact⟨_,ho,fun v q=>by cases q⟩
  ·exact⟨_,e1,fun v q=>by rw[d1] at q;cases q⟩
  ·exact⟨_,e2,fun v q=>by rw[d2] at q;cases q⟩
 keep:=fun i h h' st k=>by
  obtain⟨hz,ht,⟨a,c,ho⟩,q1,q2⟩:=st;exact⟨k _ (by simp) _ hz,k _ (by simp) _ ht,⟨a,c,k _ (by simp) _ ho⟩,q1.at (k _ (by simp)),q2.at (k _ (by simp))⟩
 item:=fun d d d d d d d d d d d d d d hg=>hg.elim
 done:=by
  intro X hP hw hK hc i pins s σ H E I hf st hg;subst hP hw hK;obtain⟨rfl,s1,s2⟩:=hg;obtain⟨it1,rv1,p1,z1⟩:=I.list s1;obtain⟨it2,rv2,p2,z2⟩:=I.list s2;obtain⟨hz,ht,⟨a,b,ho⟩,q1,q2⟩:=st;have ap:=oA hTT h12 hz ht ho q1 q2 p1.isList p2.isList;have hx:it2.toArray[0]?=none:=by cases rv2;rfl
  exact wpAny_pyNext_zip_end (I.ok.hd hc) ap hz ht ho q1 q2 p1.isList p2.isList (.inr hx) fun h' a1=>⟨rfl,zq (t':=s.toks) (fp:=[z,TI,TO,i1,i2]) I hf fun b o hb eb=>a1 b o (fun q=>hb (by simp[q])) (fun q=>hb (by simp[q])) (fun q=>hb (by simp[q])) (fun q=>hb (by simp[q])) eb⟩
 self:=fun d d d d d st h=>PySem.wpAny_pyIter_zip st.1 h
def vh (h1:Hb l1=some (.lst []))(h2:Hb l2=some (.lst [])):fw K G1 Hb (Itp K l1 l2) [] where
 go:=fun i H' hi=>absurd hi (Nat.not_lt_zero _)
 yld:=fun i G' H' x H2 d hd=>by cases hd
 stop:=fun H' hs hb=>⟨rfl,SqL.of (hb _ _ h1),SqL.of (hb _ _ h2)⟩
def zr {tk:Nat}{tpos:Pos}(B:Blt X "zip")(hA:Ea X ρ [true,true,true] [a,b] [.list [],.list []])(hst:aB [a,b]):
  PI X (.Tuple elts tk tpos) (.Call (.Name "zip" p) [a,b] [] pos) (tSi X.K ρ false []):=by
 intro pins s σ H R I h0;obtain⟨G0,H0,G,E,k⟩:=h0;refine Call_ (ld_blt I B.g B.m boot_zip (PyProof.Rows.callWith_type1 (thn (hA pos pins s σ H _ I ⟨G0,H0,G,E,fun vs G1 H1 e1 r1=>(⟨G1,e1,r1⟩:∃G1,Ext G H G1 H1/\Das X.K G1 H1 [true,true,true] [.list [],.list []] vs)⟩) fun us s1 ⟨vs,H1,I1,r1,q1⟩=>?_) (af (hst a (by simp))) (aG (es:=[b]) fun x hx=>hst x (mc0 _ hx))));obtain⟨G1,x1,q1⟩:=q1;obtain⟨v,w,rfl,d1,d2⟩:=q1.two;obtain⟨l1,vs1,rfl,hq1,rr1⟩:=d1.lst x1.gh;obtain⟨l2,vs2,rfl,hq2,rr2⟩:=d2.lst x1.gh;cases rr1;cases rr2;cases r1 with
 |cons r rr=>cases rr with
  |cons r' rr=>
   cases rr;cases r;cases r';obtain⟨it1,_,p1,_⟩:=I1.list (SqL.of hq1);obtain⟨it2,_,p2,_⟩:=I1.list (SqL.of hq2);refine PySem.call_zip_2 p1.isList p2.isList fun h' a1 a2 a3 a4 a5 a7 a8=>?_
   refine PySem.wpAny_pyIter_zip a1 ⟨_,[_,_,_,_,_],_,_,H1,rfl,I1.kept (t':=s1.toks) a8,sd (nn0 (by omega)) (nn0 (by omega)),⟨a1,a2,⟨_,_,a3⟩,a4,a5⟩,fun b hb=>?_,k _ G1 H1 x1 (vh hq1 hq2)⟩;have hle:s1.heap.objs.size≤b:=by
    simp only[List.mem_cons,List.not_mem_nil,or_false] at hb;rcases hb with rfl|rfl|rfl|rfl|rfl<;>first|exact Nat.le_add_right _ _|exact nr0 _
   exact I1.fpOk hle (I1.hok.fresh hle)
def Tgj (X:Cx)(tg:Expr)(t:Tg):Prop:=∀d,PG X tg (fun v σ H Q=>∃G0 H0 G ρ ρ',EnvD X.K G0 H0 G H σ ρ/\Dp X.K G d v/\aw t d ρ=some ρ'/\∀σ',EnvD X.K G0 H0 G H σ' ρ'->Q σ' H)
section
variable {e:Expr}
def vi (hN:X.N.Nodup)(hi:X.N[i]?=some x)(hx:Loc X.env.scope x)(hf:X.fn x=true\/X.env.scope.names.lookup x=some .local):Tgj X (.Name x px) (.one i):=
 fun d pins s σ H v u Q I r ⟨G0,H0,G,ρ,ρ',env,dv,hb,k⟩=>by
  cases hb;exact pF hN hi hx hf _ s σ H v u Q I r (k _ (env.set (by rw[I.len];exact (gi0 hi).1) dv))
structure Gx (X:Cx)(x:Str)(i:Nat):Prop where
 at':X.N[i]?=some x
 loc:Loc X.env.scope x
 fn:X.fn x=true\/X.env.scope.names.lookup x=some .local
def zt {is:List Nat}:Tgj X (.Tuple ts n pos) (.tup is):=by rintro d pins s σ H v u Q I r ⟨_,_,_,_,_,_,_,hb,_⟩;exact nomatch (show (Option.none:Option (List Sl))=some _ from hb)
section
variable {G:Hp}
def blk_at (h:(SI.blk tn.length js ρ)[i]?=some sl):sl=.no\/∃j,js[i-tn.length]?=some j/\tn.length≤i/\sl=lend (ρ[j]?.getD .no):=by
 unfold SI.blk at h
 by_cases hi:i<tn.length
 ·rw[gl0 (by simp_all),List.getElem?_replicate,if_pos hi] at h
  simp_all
 ·rw[List.getElem?_append_right (by simp;omega)] at h
  cases q:js[i-tn.length]?<;>simp_all
def kN (h:tn.length≤i)(e:js[i-tn.length]?=some j):(df tn js σ)[i]?=some (σ[j]?).join:=by
 unfold df;rw[List.getElem?_append_right (by simpa using h),gm0,lm0,e];rfl
def iK (ρ:List Sl):Prop:=(∀(i:Nat) d,ρ[i]?≠some (.own d))/\∀(i:Nat) rows,ρ[i]?≠some (.deep rows)
def jD {rows:List (List D)}:lend sl≠.deep rows:=by cases sl<;>(simp)
def lP :lend sl≠.own d:=by cases sl<;>(simp)
def blk_noOwn:iK (SI.blk tn.length js ρ):=⟨fun i d h=>by
 rcases blk_at h with h|⟨j,_,_,h⟩
 ·cases h
 ·exact lP h.symm,fun i d h=>by
 rcases blk_at h with h|⟨j,_,_,h⟩
 ·cases h
 ·exact jD h.symm⟩
theorem EnvD.blk (E:EnvD K G0 H0 G H σ ρ):EnvD K G H G H (df tn js σ) (SI.blk tn.length js ρ):=by
 have slot:∀{j:Nat} {sl:Sl},lend (ρ[j]?.getD .no)=sl->sl≠.no->∃s,ρ[j]?=some s/\lend s=sl:=fun {j sl} h hn=>by
  cases r:ρ[j]? with
  |none=>rw[r] at h;exact absurd h.symm hn
  |some s=>rw[r] at h;exact⟨s,rfl,h⟩
 refine⟨.refl E.sub,by simp[df,SI.blk],fun i d h=>?_,fun i d h=>?_,fun i ds h=>(blk_noOwn.1 i ds h).elim,fun i a ds a a h=>(blk_noOwn.1 i ds h).elim,fun i rows h=>(blk_noOwn.2 i rows h).elim⟩
 ·rcases blk_at h with h|⟨j,e1,hi,h⟩
  ·cases h
  obtain⟨s,e2,h⟩:=slot h.symm (by simp);cases s with
  |dat d'=>
   cases h;obtain⟨v,e3,r⟩:=E.dat j d e2;exact⟨v,by rw[kN hi e1,e3];rfl,r⟩
  |_=>cases h
 ·rcases blk_at h with h|⟨j,e1,hi,h⟩
  ·cases h
  obtain⟨s,e2,h⟩:=slot h.symm (by simp);cases s with
  |lent d'=>
   cases h;obtain⟨v,e3,r⟩:=E.lent j d e2;exact⟨v,by rw[kN hi e1,e3];rfl,r.ext E.ext⟩
  |own d'=>
   cases h;obtain⟨q,e3,_,_,r⟩:=E.own j d e2;exact⟨_,by rw[kN hi e1,e3];rfl,r.dr⟩
  |_=>cases h
def EnvD.touch {p:Addr}{o:HO}(E:EnvD K G0 H0 G H σ ρ)(hn:iK ρ)(hg:G p=none)(h0:H0 p=none)(hi:notIns o=true:=by rfl):EnvD K G0 H0 G (upd H p o) σ ρ:=
 ⟨⟨fun b u e=>by rw[aa (ag e h0)];exact E.ext.hh b u e,E.ext.gg,fun b u e=>by rw[aa (ag e hg)];exact E.ext.gh b u e,E.ext.nw,fun x C dx fs e=>E.ext.ni x C dx fs (cg hi x C dx fs e)⟩,E.len,E.dat,E.lent,fun i ds h=>(hn.1 i ds h).elim,fun i a ds a a h=>(hn.1 i ds h).elim,fun i rows h=>(hn.2 i _ h).elim⟩
def EnvD.forget {ρ':List Sl}(E:EnvD K G0 H0 G H σ ρ)(hl:ρ'.length=ρ.length)(h:∀(i:Nat) sl,ρ'[i]?=some sl->sl=.no\/ρ[i]?=some sl):EnvD K G0 H0 G H σ ρ':=
 ⟨E.ext,by rw[hl];exact E.len,fun i d e=>(h i _ e).elim (fun z=>by cases z) (E.dat i d),fun i d e=>(h i _ e).elim (fun z=>by cases z) (E.lent i d),fun i d e=>(h i _ e).elim (fun z=>by cases z) (E.own i d),
  fun i j d e p h1 h2 h3 h4=>(h i _ h1).elim (fun z=>by cases z) fun h1=>(h j _ h2).elim (fun z=>by cases z) fun h2=>E.apart i j d e p h1 h2 h3 h4,fun i rows e=>(h i _ e).elim (fun z=>by cases z) fun e=>let ⟨a,b,c⟩:=E.deep i _ e;⟨a,fun j d q=>(h j _ q).elim (fun z=>by cases z) (b j d),fun j r q=>(h j _ q).elim (fun z=>by cases z) (c j r)⟩⟩
end
def se {t:Tg}{ρ':List Sl}(ht:gK t n=true)(hb:aw t d ρ=some ρ'):ρ'.length=ρ.length/\(∀i,n≤i->ρ'[i]?=ρ[i]?)/\(iK ρ->iK ρ'):=by
 have one:∀{i:Nat} {ρ:List Sl} {d:D},i<n->(ρ.set i (.dat d)).length=ρ.length/\(∀j,n≤j->(ρ.set i (.dat d))[j]?=ρ[j]?)/\(iK ρ->iK (ρ.set i (.dat d))):=fun {i ρ d} hi=>
  ⟨by simp,fun j hj=>gn0 (by omega),fun h=>⟨fun j e hj=>by
   rcases getE_set hj with⟨_,q⟩|⟨_,q⟩
   ·cases q
   ·exact h.1 j e q,fun j e hj=>by
   rcases getE_set hj with⟨_,q⟩|⟨_,q⟩
   ·cases q
   ·exact h.2 j e q⟩⟩
 cases t with
 |one i=>cases hb;exact one (od0 ht)
 |tup is=>exact nomatch (show (Option.none:Option (List Sl))=some _ from hb)
def Ecs (X:Cx)(ρ:List Sl)(ifs:List Expr)(t:Bool):Prop:=PCs X ifs (tEt X.K ρ t)
def zu:Ecs X ρ [] true:=by rintro pins s σ H Q I ⟨G0,H0,G,E,k⟩;exact yJ pins s σ H Q I (k G H (.refl E.sub))
def zv (h:Et X ρ c t):Ecs X ρ [c] t:=yK h
theorem iL (f:D->Option (Option D)):∀(xs:List D) (d:D),aO f (xs++[d])=(aO f xs).bind fun a=>(f d).map fun o=>a++o.toList
 |[],d=>by
  show (f d).bind _=_;cases f d with
  |none=>rfl
  |some o=>cases o<;>rfl
 |x::r,d=>by
  show (f x).bind _=((f x).bind _).bind _;cases f x with
  |none=>rfl
  |some o=>
   show (aO f (r++[d])).map _=((aO f r).map _).bind _;rw[iL f r d];cases aO f r with
   |none=>rfl
   |some q=>cases f d with
    |none=>rfl
    |some u=>cases o<;>rfl
def oB {f:D->Option (Option D)}(h:aO f ds=some out):∀i≤ds.length,∃q,aO f (ds.take i)=some q:=by
 have key:∀(xs ys:List D) (out:List D),aO f (xs++ys)=some out->∃q,aO f xs=some q:=by
  intro xs
  induction xs with
  |nil=>intro ys out _;exact⟨_,rfl⟩
  |cons x r ih=>
   intro ys out h;obtain⟨o,h1,h2⟩:=bx0 (h);obtain⟨q,h3,h4⟩:=mx0 h2;obtain⟨q',h5⟩:=ih ys q h3;exact⟨_,by show (f x).bind _=_;rw[h1,h5];rfl⟩
 exact fun i hi=>key _ (ds.drop i) out (by simp_all)
theorem jM {f:D->Option (Option D)}:∀{ds out:List D},aO f ds=some out->out.length≤ds.length
 |[],out,h=>by cases h;exact nr0 _
 |x::r,out,h=>by
  obtain⟨o,h1,h2⟩:=bx0 (h);obtain⟨q,h3,h4⟩:=mx0 h2;have:=jM h3;subst h4;cases o<;>simp<;>omega
noncomputable def teC (X:Cx)(scope:Scope)(N:List Str)(e:Expr):TE:=fun σ H Q=>∀C s0 H0 fp pins s,Inv (L2.C.blk X scope N C s0 H0 fp) pins σ H s->wpAny (model X.prog X.w) X.A (eval e (L2.C.blk X scope N C s0 H0 fp).env) (EP (L2.C.blk X scope N C s0 H0 fp) pins σ Q) (fun a a=>False) s
noncomputable def tcC (X:Cx)(scope:Scope)(N:List Str)(ifs:List Expr):TT:=fun σ H Q=>∀C s0 H0 fp pins s,Inv (L2.C.blk X scope N C s0 H0 fp) pins σ H s->wpAny (model X.prog X.w) X.A (ku ifs (L2.C.blk X scope N C s0 H0 fp).env) (TP (L2.C.blk X scope N C s0 H0 fp) pins σ Q) (fun a a=>False) s
noncomputable def tgC (X:Cx)(scope:Scope)(N:List Str)(tg:Expr):TG:=fun v σ H Q=>∀C s0 H0 fp pins s u,Inv (L2.C.blk X scope N C s0 H0 fp) pins σ H s->RelV v u->wpAny (model X.prog X.w) X.A (assign tg (L2.C.blk X scope N C s0 H0 fp).env u) (fun a s'=>∃σ' H',Inv (L2.C.blk X scope N C s0 H0 fp) pins σ' H' s'/\Q σ' H') (fun a a=>False) s
structure iM (X:Cx)(Φ:Fs)(Γ:List (Str×D))(scope:Scope)(N:List Str)(tg:Expr)(t:Tg)(ifs:List Expr)(ifs':Es)(elt:Expr)(elt':E):Prop where
 tgt:∀(C:Addr) (s:Shared) (H:Hp) (fp:List Addr),Tgj (L2.C.blk X scope N C s H fp) tg t
 test:∀(C:Addr) (s:Shared) (H:Hp) (fp:List Addr) ρ b,evC Φ Γ ρ ifs'=some b->Ecs (L2.C.blk X scope N C s H fp) ρ ifs b
 elt:∀(C:Addr) (s:Shared) (H:Hp) (fp:List Addr) ρ d,ev Φ Γ .val ρ elt'=some d->Ev (L2.C.blk X scope N C s H fp) ρ elt d
variable {Φ:Fs}{Γ:List (Str×D)}{t:Tg}{ifs':Es}{elt':E}
noncomputable abbrev gz (Φ:Fs)(Γ:List (Str×D))(n:Nat)(js:List Nat)(t:Tg)(ifs':Es)(elt':E)(ρ:List Sl):D->Option (Option D):=
 fun d=>(aw t d (SI.blk n js ρ)).bind fun ρ'=>(evC Φ Γ ρ' ifs').bind fun b=>if b then (ev Φ Γ .val ρ' elt').map some else some none
def fP {J:It}{Q:VK}(hi:fw X.K G1 H1 J ds)(T:iM X Φ Γ scope (aH X tn js) tg t ifs ifs' elt elt')(ht:gK t tn.length=true)(hz:ds.length≤sizeLine)(E:EnvD X.K G0 H0 G1 H1 σ ρ)
  (hrun:aO (gz Φ Γ tn.length js t ifs' elt' ρ) ds=some out)
  (k:∀q vs G' H',Ext G1 H1 G' H'->G' q=none->H1 q=none->H' q=some (.lst vs)->Dps X.K G' out vs->Q (.ref q) H'):
  ∀q,H1 q=none->∃W:Nat->Nat->St->Hp->Prop,(∃m,W 0 m (df tn js σ) (upd H1 q (.lst [])))/\∀i m σ' H',W i m σ' H'->
   (J.stop i H'/\Q (.ref q) H')\/(J.go i H'/\∀v H2,J.yld i H' v H2->tgC X scope (aH X tn js) tg v σ' H2 fun σ2 H3=>tcC X scope (aH X tn js) ifs σ2 H3 fun b H4=>
    if b=true then teC X scope (aH X tn js) elt σ2 H4 fun y H5=>∃ys,H5 q=some (.lst ys)/\ys.length<sizeLine/\∃m',m'<m/\W (i+1) m' σ2 (upd H5 q (.lst (ys++[y]))) else ∃m',m'<m/\W (i+1) m' σ2 H4):=by
 intro q hq0;have noB:iK (SI.blk tn.length js ρ):=blk_noOwn;refine⟨fun i m σ' H'=>m=ds.length-i/\i≤ds.length/\∃G' ys outs,EnvD X.K G1 H1 G' H' σ' (SI.blk tn.length js ρ)/\H' q=some (.lst ys)/\G' q=none/\Dps X.K G' outs ys/\aO (gz Φ Γ tn.length js t ifs' elt' ρ) (ds.take i)=some outs,
  ⟨ds.length,by simp,Nat.zero_le _,G1,[],[],?_,ae,E.sub.free hq0,.nil,rfl⟩,?_⟩
 ·exact (E.blk (tn:=tn) (js:=js)).touch noB (E.sub.free hq0) hq0
 ·rintro i m σ' H' ⟨rfl,hil,G',ys,outs,E',hq',hg',r',hc'⟩
  have sm:Same G1 H':=E'.ext.gg.trans E'.sub
  by_cases hlt:i<ds.length
  ·refine .inr ⟨hi.go i H' hlt sm E'.ext.hh,fun v H2 y=>?_⟩
   have hb:ds[i]?=some ds[i]:=ge0 hlt;have tk:ds.take (i+1)=ds.take i++[ds[i]]:=by rw[List.take_add_one,hb];rfl
   generalize ds[i]=dd at hb tk;obtain⟨outs1,hc1⟩:=oB hrun (i+1) hlt;have hc2:=hc1;rw[tk,iL,hc'] at hc2;obtain⟨o,ho,e1⟩:=mx0 (show (gz Φ Γ tn.length js t ifs' elt' ρ dd).map _=some outs1 from hc2);obtain⟨ρ1,hb1,ho⟩:=bx0 ho;obtain⟨tb,hb2,ho⟩:=bx0 ho;obtain⟨l1,l2,l3⟩:=se ht hb1;obtain⟨G2,e2,d2⟩:=hi.yld i G' H' v H2 dd hb E'.ext.gg E'.sub E'.ext.hh y;have hq2:H2 q=some (.lst ys):=e2.hh _ _ hq';have hg2:G2 q=none:=e2.nw _ _ hg' hq';have r2:=r'.mono e2.gg;have hlen:ys.length≤i:=by
    rw[←r'.length];exact nt0 (jM hc') (by rw[List.length_take];simp_all)
   have no1:=l3 noB;have back:∀{G3 H3:Hp} {σ3:St},EnvD X.K G1 H1 G3 H3 σ3 ρ1->EnvD X.K G1 H1 G3 H3 σ3 (SI.blk tn.length js ρ):=fun E3=>E3.forget l1.symm fun j sl hj=>by
    by_cases hjn:j<tn.length
    ·left
     rcases blk_at hj with z|⟨_,_,z,_⟩
     ·exact z
     ·grind
    ·right;rw[l2 j (by simp_all)];exact hj
   intro C s0 H0' fp pins s u I rv;refine T.tgt C s0 H0' fp dd pins s σ' H2 v u _ I rv ⟨G1,H1,G2,_,ρ1,E'.step e2,d2,hb1,fun σ2 E2=>?_⟩;intro C s0 H0' fp pins s I;refine T.test C s0 H0' fp ρ1 tb hb2 pins s _ H2 _ I ⟨G1,H1,G2,E2,fun G3 H3 e3=>?_⟩;have hq3:H3 q=some (.lst ys):=e3.hh _ _ hq2;have hg3:G3 q=none:=e3.nw _ _ hg2 hq2;cases tb with
   |false=>
    rw[if_neg fx0] at ho;cases ho;subst e1;refine jf ⟨ds.length-(i+1),by omega,rfl,hlt,G3,ys,_,back (E2.step e3),hq3,hg3,?_,hc1⟩;rw[Option.toList_none,List.append_nil];exact r2.mono e3.gg
   |true=>
    rw[if_pos rfl] at ho;obtain⟨w0,hw,e4⟩:=mx0 ho;subst e4 e1;refine jg ?_;intro C s0 H0' fp pins s I;refine T.elt C s0 H0' fp ρ1 w0 hw pins s _ H3 _ I ⟨G1,H1,G3,E2.step e3,fun w G4 H4 e4 r4=>?_⟩;refine⟨ys,e4.hh _ _ hq3,by grind,ds.length-(i+1),by omega,rfl,hlt,G4,ys++[w],_,(back ((E2.step e3).step e4)).touch noB (e4.nw _ _ hg3 hq3) hq0,ae,e4.nw _ _ hg3 hq3,?_,hc1⟩;exact ((r2.mono e3.gg).mono e4.gg).append (.one r4)
  ·have e:i=ds.length:=by omega
   subst e;rw[List.take_length,hrun] at hc';cases hc';exact .inl ⟨hi.stop H' sm E'.ext.hh,k q ys G' H' E'.ext hg' hq0 hq' r'⟩
def zx (B:BlkOk X scope js)(hcalm:X.calm=true)(hi:PI X tg iter (tSi X.K ρ false ds))(T:iM X Φ Γ scope (aH X tn js) tg t ifs ifs' elt elt')(ht:gK t tn.length=true)(hz:ds.length≤sizeLine)
  (hrun:aO (gz Φ Γ tn.length js t ifs' elt' ρ) ds=some out) (hs:∀x,foldedSetIterable iter X.env x=pure x):En X ρ (.ListComp elt [⟨tg,iter,ifs,0⟩] scope pos) (.list out):=by
 intro pins s σ H Q I h;obtain⟨G0,H0,G,E,k⟩:=h;refine yL (tn:=tn) (g:=tgC X _ _ tg) (tc:=tcC X _ _ _) (te:=teC X _ _ _) B hcalm hi
  (fun C s H fp pins s' σ' H' v u Q' I' r h=>h C s H fp _ s' u I' r) (fun C s H fp pins s' σ' H' Q' I' h=>h C s H fp _ s' I') (fun C s H fp pins s' σ' H' Q' I' h=>h C s H fp _ s' I') hs _ s σ H Q I ?_
 refine⟨G0,H0,G,E,fun J G1 H1 e1 hJ=>fP hJ T ht hz (E.step e1) hrun fun q vs G' H' e2 g1 h1 h2 r=>k q G' H' (e1.trans e2) g1 (e1.hh.free h1) (.inl ⟨_,_,rfl,h2,r⟩)⟩
end
def Goes (K:Fg)(G0 H0 G:Hp)(o:Out)(F:Ends):Prop:=match o with
 |.nx ρ'=>∀G' H' σ',EnvD K G0 H0 G' H' σ' ρ'->Same G G'->F.nx σ' H'
 |.rt d=>∀v G' H',Dp K G' d v->Ext G0 H0 G' H'->F.rt v H'
def Goes.go {G:Hp}{o:Out}{F:Ends}(h:Goes K G0 H0 G o F)(s:Same G G1):Goes K G0 H0 G1 o F:=by
 cases o with
 |nx ρ'=>exact fun G' H' σ' e g=>h G' H' _ e (s.trans g)
 |rt d=>exact h
noncomputable def tEp (K:Fg)(ρ:List Sl)(o:Out):TS:=fun F σ H=>∃G0 H0 G,EnvD K G0 H0 G H σ ρ/\Goes K G0 H0 G o F
def E1 (X:Cx)(ρ:List Sl)(st:Stmt)(o:Out):Prop:=PS X st (tEp X.K ρ o)
def Ep (X:Cx)(ρ:List Sl)(sts:List Stmt)(o:Out):Prop:=PSs X sts (tEp X.K ρ o)
section
variable {rest:List Stmt}{o:Out}{e:Expr}{es:List D}
def DF:Ep X ρ [] (.nx ρ):=by rintro pins s σ H F I ⟨G0,H0,G,env,R⟩;exact dW pins s σ H F I (R G H σ env (Same.refl _))
def vj (h1:E1 X ρ st (.nx ρ1))(h2:Ep X ρ1 rest o):Ep X ρ (st::rest) o:=fun pins s σ H F I ⟨G0,H0,G,env,R⟩=>
 aK h1 h2 _ s σ H F I ⟨G0,H0,G,env,fun G' H' σ' env' g=>⟨G0,H0,G',env',R.go g⟩⟩
def vk (h1:E1 X ρ st (.rt d)):Ep X ρ (st::rest) (.rt d):=fun pins s σ H F I ⟨G0,H0,G,env,R⟩=>
 aK (u:=fun a a a=>False) h1 (fun a a a a a a z=>z.elim) _ s σ H F I ⟨G0,H0,G,env,R⟩
def DG (h:Ev X (ρ.map freeze) e d):E1 X ρ (.Return (some e) pos) (.rt d):=by
 rintro pins s σ H F I ⟨G0,H0,G,env,R⟩
 obtain⟨G1,env1,s1⟩:=env.freeze;exact ij h _ s σ H F I ⟨G0,H0,G1,env1,fun v G' H' e1 r=>R v G' H' r (env1.ext.trans e1)⟩
structure Sto (X:Cx)(x:Str)(i:Nat):Prop where
 nd:X.N.Nodup
 nm:Gx X x i
def Sto.lt (S:Sto X x i)(I:Inv X pins σ H s):i<σ.length:=by rw[I.len];exact (gi0 S.nm.at').1
def vp (S:Sto X x i)(h:Ev X ρ e d)(hs:swapsWith e (some (.Name x pos')) pos.line X.env=pure false):E1 X ρ (.Assign [.Name x pos'] e pos) (.nx (ρ.set i (.dat d))):=
 by rintro pins s σ H F I ⟨G0,H0,G,env,R⟩;exact fG S.nd S.nm.at' S.nm.loc h hs S.nm.fn pins s σ H F I ⟨G0,H0,G,env,fun v G' H' e1 r=>
  R G' H' _ ((env.step e1).set (S.lt I) r) e1.gg⟩
def oC (S:Sto X x i)(hD:∀(j:Nat) rows,ρ[j]?≠some (.deep rows))(h:En X ρ e d)(hs:swapsWith e (some (.Name x pos')) pos.line X.env=pure false):E1 X ρ (.Assign [.Name x pos'] e pos) (.nx (ρ.set i (.own d))):=
 by rintro pins s σ H F I ⟨G0,H0,G,env,R⟩;exact fG S.nd S.nm.at' S.nm.loc h hs S.nm.fn pins s σ H F I ⟨G0,H0,G,env,fun p G' H' e1 g1 h1 r=>
  R G' H' _ ((env.step e1).setOwn (S.lt I) r g1 (env.ext.hh.free h1) hD (env.fresh h1)) e1.gg⟩
def zy {Φ:Fs}{Γ:List (Str×D)}{t:Tg}{ifs':Es}{elt':E}(S:Sto X x i)(hD:∀(j:Nat) rows,ρ[j]?≠some (.deep rows))(B:BlkOk X scope js)(hcalm:X.calm=true)(hi:PI X tg iter (tSi X.K ρ false ds))
  (T:iM X Φ Γ scope (aH X tn js) tg t ifs ifs' elt elt') (ht:gK t tn.length=true) (hz:ds.length≤sizeLine) (hrun:aO (gz Φ Γ tn.length js t ifs' elt' ρ) ds=some out) (hs:∀x,foldedSetIterable iter X.env x=pure x)
  (hy:X.env.scope.names.lookup x=some .local) (hsw:swapsWith (.ListComp elt [⟨tg,iter,ifs,0⟩] scope p) (some (.Name x pos')) pos.line X.env=pure true):
  E1 X ρ (.Assign [.Name x pos'] (.ListComp elt [⟨tg,iter,ifs,0⟩] scope p) pos) (.nx (ρ.set i (.own (.list out)))):=by
 intro pins s σ H F I h;obtain⟨G0,H0,G,env,R⟩:=h;exact pS B hcalm hi
  (fun C s H fp pins s' σ' H' v u Q' I' r h=>h C s H fp pins s' u I' r) (fun C s H fp pins s' σ' H' Q' I' h=>h C s H fp _ s' I') (fun C s H fp pins s' σ' H' Q' I' h=>h C s H fp _ s' I') S.nd S.nm.at' hy hsw hs _ s σ H F I ⟨G0,H0,G,env,fun J G1 H1 e1 hJ=>fP (Q:=fun v H'=>F.nx (σ.set i (some v)) H') hJ T ht hz (env.step e1) hrun fun q vs G' H' e2 g1 h1 h2 r=>R G' H' _ (((env.step e1).step e2).setOwn (S.lt I) (.inl ⟨_,_,rfl,h2,r⟩) g1 (env.ext.hh.free (e1.hh.free h1)) hD ((env.step e1).fresh h1)) (e1.gg.trans e2.gg)⟩
def vq {Φ:Fs}{Γ:List (Str×D)}{t:Tg}{ifs':Es}{elt':E}(S:Sto X x i)(B:BlkOk X scope js)(hcalm:X.calm=true)(hi:PI X tg iter (tSi X.K ρ false ds))
  (T:iM X Φ Γ scope (aH X tn js) tg t ifs ifs' elt elt') (ht:gK t tn.length=true) (hz:ds.length≤sizeLine) (hrun:aO (gz Φ Γ tn.length js t ifs' elt' ρ) ds=some out) (hs:∀x,foldedSetIterable iter X.env x=pure x)
  (hy:X.env.scope.names.lookup x=some .local) (hsw:swapsWith (.ListComp elt [⟨tg,iter,ifs,0⟩] scope p) (some (.Name x pos')) pos.line X.env=pure true):
  E1 X ρ (.Assign [.Name x pos'] (.ListComp elt [⟨tg,iter,ifs,0⟩] scope p) pos) (.nx (ρ.set i (.dat (.list out)))):=by
 intro pins s σ H F I h;obtain⟨G0,H0,G,env,R⟩:=h;refine pS (tn:=tn) (g:=tgC X _ _ tg) (tc:=tcC X _ _ _) (te:=teC X _ _ _) B hcalm hi
  (fun C s H fp pins s' σ' H' v u Q' I' r h=>h C s H fp _ s' u I' r) (fun C s H fp pins s' σ' H' Q' I' h=>h C s H fp _ s' I') (fun C s H fp pins s' σ' H' Q' I' h=>h C s H fp _ s' I') S.nd S.nm.at' hy hsw hs _ s σ H F I ?_
 refine⟨G0,H0,G,env,fun J G1 H1 e1 hJ=>fP (Q:=fun v H'=>F.nx (σ.set i (some v)) H') hJ T ht hz (env.step e1) hrun fun q vs G' H' e2 g1 h1 h2 r=>?_⟩;have e3:=(e1.trans e2).show (e1.hh.free h1) h2 g1;exact R _ H' _ ((env.step e3).set (S.lt I) (.list ae (r.mono (aV g1)))) e3.gg
def Gy {a b:List Stmt}(h:Et X ρ c t)(ha:t=true->Ep X ρ a o)(hb:t=false->Ep X ρ b o):E1 X ρ (.If c a b pos) o:=by
 cases t with
 |true=>
  intro pins s σ H F I h0;obtain⟨G0,H0,G,env,R⟩:=h0;exact jt (u:=fun d d d=>False) h (ha rfl) (fun d d d d d d z=>z.elim) _ s σ H F I ⟨G0,H0,G,env,fun G1 H1 e1=>jg ⟨G0,H0,G1,env.step e1,R.go e1.gg⟩⟩
 |false=>
  intro pins s σ H F I h0;obtain⟨G0,H0,G,env,R⟩:=h0;exact jt (t:=fun d d d=>False) h (fun d d d d d d z=>z.elim) (hb rfl) _ s σ H F I ⟨G0,H0,G,env,fun G1 H1 e1=>jf ⟨G0,H0,G1,env.step e1,R.go e1.gg⟩⟩
noncomputable def tXs (X:Cx)(body:List Stmt):TS:=fun F σ H=>∀pins s,Inv X pins σ H s->wpAny (model X.prog X.w) X.A (execs body X.env) (SP X pins F) X.xe s
def qk:PSs X body (tXs X body):=fun pins s σ H F I h=>h _ s I
noncomputable def tXt (X:Cx)(c:Expr):TT:=fun σ H Q=>∀pins s,Inv X pins σ H s->wpAny (model X.prog X.w) X.A (isTrue c X.env (eval c X.env)) (TP X pins σ Q) X.xe s
def Ja:PT X c (tXt X c):=fun pins s σ H Q I h=>h pins s I
noncomputable def tXg (X:Cx)(tg:Expr):TG:=fun v σ H Q=>∀pins s u,Inv X pins σ H s->RelV v u->wpAny (model X.prog X.w) X.A (assign tg X.env u) (fun a s'=>∃σ' H',Inv X pins σ' H' s'/\Q σ' H') X.xe s
def DH:PG X tg (tXg X tg):=fun pins s σ H v u Q I r h=>h _ s u I r
def DI {t:Tg}{run:List Sl->Option Out}(hi:Si X ρ true iter ds)(ht:Tgj X tg t)(hb:∀ρ' o',run ρ'=some o'->Ep X ρ' body o')(h:forL (aw t) run ds ρ=some o)
  (hc:X.calm=true) (hp:PassesOwn (model X.prog X.w) X.A X.env X.xe) (hf:∀x,foldedSetIterable iter X.env x=pure x):E1 X ρ (.For tg iter body [] pos) o:=by
 intro pins s σ H F I h0;obtain⟨G0,H0,G,env,R⟩:=h0;refine nF hp hc (hi _) (DH (tg:=tg)) (qk (body:=body)) hf pins s σ H F I ?_;refine⟨G0,H0,G,env,fun J G1 H1 e1 hJ=>⟨fun k m σ' H'=>m=ds.length-k/\k≤ds.length/\∃ρ' G',forL (aw t) run (ds.drop k) ρ'=some o/\EnvD X.K G0 H0 G' H' σ' ρ'/\Same G1 G',⟨ds.length,by simp,Nat.zero_le _,ρ,G1,h,env.step e1,Same.refl _⟩,?_⟩⟩
 rintro k m σ' H' ⟨rfl,hk,ρ',G',pv,env',g1⟩
 have g0:Same G G':=e1.gg.trans g1
 by_cases hlt:k<ds.length
 ·refine .inr ⟨hJ.go k H' hlt (g1.trans env'.sub) env'.ext.hh,fun σ2 H2=>k+1≤ds.length/\∃ρ2 G2,forL (aw t) run (ds.drop (k+1)) ρ2=some o/\EnvD X.K G0 H0 G2 H2 σ2 ρ2/\Same G1 G2,fun σ2 H2 ⟨h1,ρ2,G2,p2,en2,s2⟩=>⟨ds.length-(k+1),by grind,rfl,h1,ρ2,G2,p2,en2,s2⟩,fun v H2 y=>?_⟩
  have hd:ds[k]?=some ds[k]:=ge0 hlt;rw[List.drop_eq_getElem_cons hlt] at pv;generalize ds[k]=dd at hd pv;obtain⟨ρ1,b1,pv⟩:=bx0 (show (aw t dd ρ').bind _=some o from pv);obtain⟨o1,b2,pv⟩:=bx0 pv;obtain⟨G2,e2,d2⟩:=hJ.yld k G' H' v H2 dd hd g1 env'.sub env'.ext.hh y;intro pins' s' u' I' r';refine ht dd pins' s' σ' H2 v u' _ I' r' ⟨G0,H0,G2,ρ',ρ1,env'.step e2,d2,b1,fun σ2 en2=>?_⟩;intro pins2 s2 I2;refine hb ρ1 o1 b2 pins2 s2 σ2 H2 _ I2 ⟨G0,H0,G2,en2,?_⟩;cases o1 with
  |nx ρ3=>exact fun G3 H3 σ3 en3 g3=>⟨hlt,ρ3,G3,pv,en3,g1.trans (e2.gg.trans g3)⟩
  |rt dr=>
   cases pv;exact R
 ·have e:k=ds.length:=by grind
  subst e;rw[List.drop_length] at pv;cases pv;exact .inl ⟨hJ.stop H' (g1.trans env'.sub) env'.ext.hh,R G' H' σ' env' g0⟩
end
structure VarOk (X:Cx)(x:Str)(i:Nat):Prop where
 at':X.N[i]?=some x
 vis:Vis X.env.scope x
 d:(x==("__debug__":Str))=false
 cd:(x==("__classdict__":Str))=false
section
variable {rest:List Stmt}{o:Out}{e k:Expr}{es:List D}
def VarOk.pe (V:VarOk X x i):PE X (.Name x p) (tF i):=bL V.at' V.vis V.d V.cd
def ed {name:Str}:attributeBase (.Name x p1) name env (eval (.Name x p1) env)=eval (.Name x p1) env:=rfl
def dF {G:Hp}(env:EnvD K G0 H0 G H σ ρ)(h:ρ[i]?=some (.own (.list ds))):∃q vs,σ[i]?=some (some (.ref q))/\H q=some (.lst vs)/\Dps K G ds vs:=by
 obtain⟨q,a,_,_,g⟩:=env.own i _ h;rcases g with⟨ds',vs,h1,h2,h3⟩|⟨kvs,ws,h1,_⟩<;>simp_all
def lO {G:Hp}{kvs:List (Key×D)}(env:EnvD K G0 H0 G H σ ρ)(h:ρ[i]?=some (.own (.dict kvs))):∃q vs,σ[i]?=some (some (.ref q))/\H q=some (.dK vs)/\Dks K G kvs vs:=by
 obtain⟨q,a,_,_,g⟩:=env.own i _ h;rcases g with⟨ds',vs,h1,h2,h3⟩|⟨kvs,ws,h1,h2,h3⟩<;>simp_all
def e1_frz {o:Out}(h:ρ[j]?=some (.own d))(k:E1 X (ρ.set j (.dat d)) st o):E1 X ρ st o:=by
 rintro pins s σ H F I ⟨G0,H0,G,env,R⟩
 obtain⟨G',env',g⟩:=env.freeze1 h;exact k pins s σ H F I ⟨G0,H0,G',env',R.go g⟩
def vx (V:VarOk X x i)(h:Ev X ρ e d)(hs:isStar e=false)(ho:ρ[i]?=some (.own (.list ds)))(hz:ds.length<sizeLine)(hline:(apos.endLine==cpos.line)=true):
  E1 X ρ (.Expr (.Call (.Attribute (.Name x p1) "append" apos) [e] [] cpos) pos) (.nx (ρ.set i (.own (.list (ds++[d]))))):=by
 have hS:=af (es:=[]) (env:=X.env) hs;intro pins s σ H F I h0;obtain⟨G0,H0,G,env,R⟩:=h0;obtain⟨q,vs,a,b,g⟩:=dF env ho;refine dX (pO PySem.F.plainAttrs_list PySem.F.slot_list_append PySem.F.type_list_append fK V.pe (ax h aQ hS) ed (by rw[hS];rfl) hline hS rfl) rfl pins s σ H F I ?_;refine⟨.ref q,a,.inl ⟨rfl,vs,SqL.of b⟩,G0,H0,G,env,fun w G1 H1 e1 r=>?_⟩;exact⟨q,vs,w,rfl,rfl,e1.hh _ _ b,by rw[←g.length];exact hz,R G1 _ _ ((env.step e1).change ho a (.inl ⟨_,_,rfl,ae,(g.mono e1.gg).append (.one r)⟩)) e1.gg⟩
def DJ (V:VarOk X x i)(S:Sto X y j)(ho:ρ[i]?=some (.own (.list ds)))(hl:ds[ds.length-1]?=some d)(hline:(apos.endLine==cpos.line)=true):
  E1 X ρ (.Assign [.Name y pos'] (.Call (.Attribute (.Name x p1) "pop" apos) [] [] cpos) pos) (.nx ((ρ.set i (.own (.list ds.dropLast))).set j (.dat d))):=by
 intro pins s σ H F I h0;obtain⟨G0,H0,G,env,R⟩:=h0;obtain⟨q,vs,a,b,g⟩:=dF env ho;refine fG S.nd S.nm.at' S.nm.loc (CF PySem.F.plainAttrs_list PySem.F.slot_list_pop PySem.F.type_list_pop CG V.pe ed hline) rfl S.nm.fn pins s σ H F I ?_;obtain⟨v,ev,dv⟩:=g.get hl;rw[g.length] at ev;exact⟨.ref q,a,.inl ⟨rfl,vs,SqL.of b⟩,q,vs,v,rfl,rfl,b,ev,R G _ _ ((env.change ho a (.inl ⟨_,_,rfl,ae,g.dropLast⟩)).set (S.lt I) dv) (Same.refl _)⟩
def iN (hk:isSlice k=false):∀v,assign (.Subscript (.Name x p1) k spos) env v=(do
   let ov ←holding [v] (eval (.Name x p1) env)
   let iv ←holding [v,ov] (eval k env)
   standAt spos
   holding [v,ov,iv] (setItem ov iv v)
   release [v,ov,iv] []):=by
 intro v;cases k<;>first|rfl|cases hk
def jN :swapsWithSole [.Subscript (.Name x p1) k spos] e pos.line env=pure false:=by
 cases e<;>rfl
def gA :swappedStores [.Subscript (.Name x p1) k spos] e env=pure Option.none:=rfl
def zA {n:Int}{m:Nat}(V:VarOk X x i)(h:Ev X ρ e d)(hk:Ev X ρ k (.int n))(hks:isSlice k=false)(ho:ρ[i]?=some (.own (.list ds)))(hm:SI.ixN ds.length n=some m):
  E1 X ρ (.Assign [.Subscript (.Name x p1) k spos] e pos) (.nx (ρ.set i (.own (.list (ds.set m d))))):=by
 intro pins s σ H F I h0;obtain⟨G0,H0,G,env,R⟩:=h0;obtain⟨q,vs,a,b,g⟩:=dF env ho;refine nC h (nB V.pe hk set_list (iN hks)) jN gA rfl _ s σ H F I ?_;refine⟨G0,H0,G,env,fun v G1 H1 e1 r1=>⟨_,a,G0,H0,G1,env.step e1,fun w G2 H2 e2 r2=>?_⟩⟩;cases r2;have e3:=e1.trans e2;exact⟨q,vs,n,m,rfl,rfl,e3.hh _ _ b,by rwa [←g.length],R G2 _ _ ((env.step e3).change ho a (.inl ⟨_,_,rfl,ae,(g.mono e3.gg).set (r1.mono e2.gg) m⟩)) e3.gg⟩
def zB {key:Key}{dk:D}{kvs:List (Key×D)}(hu:X.A.units+1<cLine)(V:VarOk X x i)(h:Ev X ρ e d)(hk:Ev X ρ k dk)(hkey:lN dk=some key)(hks:isSlice k=false)(ho:ρ[i]?=some (.own (.dict kvs)))(hz:kvs.length<1000):
  E1 X ρ (.Assign [.Subscript (.Name x p1) k spos] e pos) (.nx (ρ.set i (.own (.dict (SI.put kvs key d))))):=by
 intro pins s σ H F I h0;obtain⟨G0,H0,G,env,R⟩:=h0;obtain⟨q,vs,a,b,g⟩:=lO env ho;have set_dict:yw X (fun o i v H Q=>∃p kvs k,o=.ref p/\i=kV k/\H p=some (.dK kvs)/\kvs.length<sizeLine/\((kvs.map (·.1)).Nodup->Q (upd H p (.dK (putK kvs k v))))):=by
  intro pins s σ H o i v ov iv u Q I ro ri rv h;obtain⟨p,kvs,k,rfl,rfl,hp,hl,q⟩:=h;cases ro;have nd:(kvs.map (·.1)).Nodup:=by
   obtain⟨_,_,vs,rel,dd⟩:=Bj I.hok hp;rw[rel.keys];obtain⟨_,_,_,_,_,_,_,_,nd⟩:=dd;exact nd
  exact rz hu I (DPut.k hp hl) ri rv fun s' I'=>⟨_,I',q nd⟩
 refine nC h (nB V.pe hk set_dict (iN hks)) jN gA rfl pins s σ H F I ?_;refine⟨G0,H0,G,env,fun v G1 H1 e1 r1=>⟨.ref q,a,G0,H0,G1,env.step e1,fun w G2 H2 e2 r2=>?_⟩⟩;have e3:=e1.trans e2;exact⟨q,vs,key,rfl,dE (.of (H:=H2) r2) hkey,e3.hh _ _ b,by rw[←g.length];exact cP (Nat.le_of_lt hz),fun nd=>R G2 _ _ ((env.step e3).change ho a (.inr ⟨_,_,rfl,ae,Dks.put (r1.mono e2.gg) (g.mono e3.gg) nd⟩)) e3.gg⟩
end
end L2.Z
namespace PySem.W
open PySem PySem.Spec PySem.Calls PyProof.Rows
structure ExcI (K:Frag)(C:Addr):Prop where
 ga:findIn K (.ref C) "__getattribute__"=some (some (.builtin "BaseException.__getattribute__"))
 gt:findIn K (.ref C) "__getattr__"=some none
 cl:findIn K (.ref C) "__class__"=some (some (.builtin "object.__class__"))
 sb:subIn K (.ref C) (.type "BaseException")=some true
 so:subIn K (.ref C) (.type "object")=some true
 ci:(clsIn K C).isSome=true
section
variable {A:Around}{E:Value->Shared->Prop}{g:Array GenState}{d:Drawn}{t:Nat}{os:OsState}{a C:Addr}{o:Obj}{K:Frag}
def vy {R:Result->Shared->Prop}(Z:ExcI K C)(X:K.In h)(hx:h.get? a=some o)(hc:o.cls=.ref C)(hq:R (.ok (.ret (.ref C))) ⟨h,g,d,t,os⟩):
  codeAny (model prog w) A (.call (.builtin "getset_descriptor.__get__") ⟨[.builtin "object.__class__",.ref a,.ref C],[]⟩) R ⟨h,g,d,t,os⟩:=by
 have hT5:(⟨h,g,d,t,os⟩:Shared).TypeIs (.builtin "object.__class__") "getset_descriptor":=F.typeOf_object_class;have L8:Looks (model prog w) h (isSubtype (.ref C) (.type (".".intercalate ("object.__class__".cutAt '.').dropLast))) true:=by rw[F.owner_object_class];exact looks_subIn X Z.so
 refine codeAny_call_builtin F.slot_gs_get.plain F.entry_gs_get (F.slot_gs_get.check _ _ _ _ _ _ _ _ hT5 (F.args_gs_get _ _ _) ?_)
 repeat (any_goals (first|assumption|(with_reducible refine wpAny_loadPart_at hx ?_;rw[hc])|with_reducible refine Looks.at L8 ?_|wp_step))
 refine⟨Code.quiet_builtin _ (by decide +kernel),codeAny_builtin F.entry_object_class ?_⟩
 repeat (any_goals (first|assumption|(with_reducible refine wpAny_loadPart_at hx ?_;rw[hc])|wp_step))
def oE {Q:Fin->Shared->Prop}(Z:ExcI K C)(X:K.In h)(hx:h.get? a=some o)(hc:o.cls=.ref C)(hq:Q (.done (.ret (.ref C))) ⟨h,g,d,t,os⟩):
  wpAny (model prog w) A (Builtin.«object.__getattribute__» ⟨[.ref a,.str "__class__" tk],[]⟩) Q E ⟨h,g,d,t,os⟩:=by
 have L4:=looks_findIn (M:=model prog w) X Z.cl;have f5:=F.typeOf_object_class;have f6:=F.slot_gs_get.lookup;have f7:=F.slot_gs_set.lookup
 repeat (any_goals (first|assumption|(with_reducible refine wpAny_loadPart_at hx ?_;rw[hc])|with_reducible refine Looks.at L4 ?_|wp_step))
 refine vy Z X hx hc ?_
 repeat (any_goals (first|assumption|wp_step))
def oF {M:Model}{nameV:Value}{Q:Unit->Shared->Prop}(Z:ExcI K C)(X:K.In h)(hx:h.get? a=some o)(hc:o.cls=.ref C)(hq:Q () ⟨h,g,d,t,os⟩):
  wpAny M A (checkBuiltinCall "BaseException.__getattribute__" ⟨[.ref a,nameV],[]⟩) Q E ⟨h,g,d,t,os⟩:=by
 have hk:builtinKind "BaseException.__getattribute__"=some .slot:=by decide +kernel
 have hsplit:splitId "BaseException.__getattribute__"=some ("BaseException","__getattribute__"):=by decide +kernel
 have L:Looks M h (isSubtype (.ref C) (.type "BaseException")) true:=looks_subIn X Z.sb;have ha:=F.args_bexc_ga (.ref a) nameV;simp only[checkBuiltinCall,hk,hsplit];refine wb0 ?_
 ·unfold isInstance
  repeat (first|(with_reducible refine wpAny_loadPart_at hx ?_;rw[hc])|with_reducible refine Looks.at L ?_|wp_step)
  exact hq
def sf {R:Result->Shared->Prop}(Z:ExcI K C)(X:K.In h)(hx:h.get? a=some o)(hc:o.cls=.ref C)(hq:R (.ok (.ret (.ref C))) ⟨h,g,d,t,os⟩):
  codeAny (model prog w) A (.call (.builtin "BaseException.__getattribute__") ⟨[.ref a,.str "__class__" tk],[]⟩) R ⟨h,g,d,t,os⟩:=
 codeAny_call_builtin F.attrBase_ValueError.ga.plain F.entry_bexc_ga (oF Z X hx hc (oE Z X hx hc hq))
def xcls_by {fill expr:Bool}(Z:ExcI K C)(X:K.In h)(hx:h.get? a=some o)(hc:o.cls=.ref C)(hq:Q (.ref C) ⟨h,g,d,t,os⟩):
  wpAny (model prog w) A (getAttrBy (.ref a) (.str "__class__" tk) fill expr) Q E ⟨h,g,d,t,os⟩:=by
 have f3:=F.attrBase_ValueError.ga.bind (.ref a);have hx0:(expr&&onTheHeap (Value.builtin "BaseException.__getattribute__"))=false:=by cases expr<;>rfl
 have hx2:(Value.builtin "BaseException.__getattribute__"==Value.builtin "object.__getattribute__")=false:=by decide +kernel
 have hx1:(onTheHeap (Value.ref C)&&Value.builtin "BaseException.__getattribute__"==Value.builtin "object.__getattribute__")=false:=by rw[hx2];rfl
 have L1:=looks_findIn (M:=model prog w) X Z.ga;have L2:=looks_findIn (M:=model prog w) X Z.gt
 repeat (any_goals (first|assumption|(with_reducible refine wpAny_loadPart_at hx ?_;rw[hc])|with_reducible refine Looks.at L1 ?_|with_reducible refine Looks.at L2 ?_|wp_step))
 refine sf Z X hx hc ?_
 repeat (any_goals (first|assumption|wp_step))
def sh {Q:Option Value->Shared->Prop}(Z:ExcI K C)(X:K.In h)(hx:h.get? a=some o)(hc:o.cls=.ref C)(hq:Q (some (.ref C)) ⟨h,g,d,t+1,os⟩):
  wpAny (model prog w) A (getAttr? (.ref a) "__class__") Q E ⟨h,g,d,t,os⟩:=by
 unfold getAttr? getAttrBy?
 repeat (any_goals (first|assumption|with_reducible apply xcls_by Z X hx hc|wp_step))
set_option tactic.hygienic true in
def kitx_exc (Z:ExcI K C):KitX K (.ref a) (.ref C) (L2.Z.ExcAt a C) where
 ty:=fun M h b p=>by
  obtain⟨o,h1,h2⟩:=p;exact h2▸(Looks.ld h1).andThen .now
 it:=fun b b X b=>by
  have hcD:=Z.ci;unfold clsIn at hcD;split at hcD
  ·rename_i c' d' cd' sl' ho
   intro A' Q' E' s' k q;unfold isType loadHead;exact wb0 (wpAny_loadPart (k _ _ (X _ _ ho)) (wq0 q))
  ·cases hcD
 ne:=fun h tp dd its n sl X htp=>by
  have hcD:=Z.ci;refine bf0 fun q=>?_
  have e:C=tp:=Value.ref.inj (beq_iff_eq.mp q);subst e;unfold clsIn at hcD;split at hcD
  ·rename_i c' d' cd' sl' ho
   have z:=(X _ _ ho).symm.trans htp;cases z
  ·cases hcD
 ca:=fun {_ _ _ _ _ s} X p k=>by
  obtain⟨h,g,d,t,os⟩:=s;obtain⟨o,h1,h2⟩:=p;exact sh Z X h1 h2 k
end
end PySem.W
namespace L2.Z
open PySem PySem.Spec PyProof.Rows L2 L2.C SI
def fQ (h:N.idxOf? x=some i):N[i]?=some x:=by
 obtain⟨h1,h2,_⟩:=List.findIdx?_eq_some_iff_getElem.mp h
 simp_all
structure CxC (X:Cx)(C:Cs):Prop where
 N:X.N=C.N
 nd:C.N.Nodup
 vis:∀x k,C.sc.names.lookup x=some k->(k=.local\/k=.cell\/k=.free)->Vis X.env.scope x
 loc:∀x k,C.sc.names.lookup x=some k->(k=.local\/k=.cell)->Loc X.env.scope x/\(X.fn x=true\/X.env.scope.names.lookup x=some .local)
 cell:∀x,C.sc.names.lookup x=some .cell->X.env.kindOf x=some .cell
 glob:∀x,C.sc.names.lookup x=some .globalImplicit->Gl X x
 calm:X.calm=true
 kind:X.env.scope.kind=.function
noncomputable def bltNames:List Str:=["len","max","min","int","list","str","isinstance","range","tuple","bool","reversed","dict","zip","all","any","ord","sorted","set"]
structure XcZ (K:Fg)(mg:Str->Option Value)(t:Str)(c:Addr)(tab:List (Nat×Bool)):Prop where
 nm:mg t=some (.ref c)\/t="ValueError"/\mg t=Option.none
 one:∀e b,tab.lookup e=some b->PySem.W.ExcI K e/\(mg t=some (.ref c)->PySem.W.kitOne K (.ref e) (.ref c)=some b)/\(mg t=Option.none->PySem.W.kitOne K (.ref e) (.type "ValueError")=some b)
structure Wz (X:Cx)(Φ:Fs)(Γ:List (Str×D))(C:Cs)(k:Nat):Prop where
 blt:∀x∈bltNames,X.mg x=Option.none
 fns:∀x,C.fns.contains x=true->∀φ,Φ x=some φ->FnZ X.prog X.w X.K X.mg X.base k x φ
 gl:∀x d,Γ.lookup x=some d->∃u v,X.mg x=some u/\RelV v u/\∀G,Dp X.K G d v
 room:Room k X.A
 vc:∀c,C.vc=some c->Cls X.K c/\NoAttr X.K c "objects"
 xc:∀t c tab,C.xcs.lookup t=some (c,tab)->XcZ X.K X.mg t c tab
def SdE (X:Cx)(Φ:Fs)(Γ:List (Str×D))(e:Expr)(E':E):Prop:=
 (∀ρ d,ev Φ Γ .val ρ E'=some d->Ev X ρ e d)/\(∀ρ d,ev Φ Γ .read ρ E'=some d->Er X ρ e d)/\(∀ρ d,ev Φ Γ .walk ρ E'=some d->Ek X ρ e d)/\
 (∀ρ d,ev Φ Γ .test ρ E'=some d->∃b,d=.bool b/\Et X ρ e b)/\(fresh E'=true->∀ρ d,ev Φ Γ .val ρ E'=some d->bo d=true->En X ρ e d)
def si {m:Str}(hsup:fb o=false)(hs:aB es)(hn:es.length≤20)(hline:(apos.endLine==pos.line)=true):
  eval (.Call (.Attribute o m apos) es [] pos) env=(do
   let ov ←eval o env
   standAt apos.atName
   let (f,first) ←holding [ov] (getMethod ov m (do return (←importBound o env).getD true))
   callWith pos f first (backTo pos (starEach es env)) (backToKw pos (keywordEach [] env))):=by
 have hform:methodCallForm (es.length+([]:List Keyword).length) (backTo pos (starEach es env)) (backToKw pos (keywordEach [] env))=true:=by
  unfold methodCallForm;rw[jK hs];show (true&&true&&decide (es.length+0+0<30))=true;rw[dt0 (by grind)];rfl
 rw[arm_eval_Call,base_of hsup];unfold methodCall;rw[hform];have hpos:methodCallPos true o env apos pos=pure pos:=by unfold methodCallPos;simp[hline]
 rw[hpos];rfl
section
variable {e:Expr}{c h:Nat}{os:List D}{m:Str}
def DK (hc:Cls X.K c)(hn:NoAttr X.K c "objects")(ho:Er X ρ o (.vlt c h os))(hsup:fb o=false):Er X ρ (.Attribute o "objects" pos) (.list os):=
 by rintro pins s σ H Q I ⟨G0,H0,G,E,k⟩;exact nN ho (base_of hsup) pins s σ H Q I ⟨G0,H0,G,E,fun v G1 H1 e1 r1=>by
  cases r1 with
  |of r1=>cases r1
  |vlt h1 h2 r=>exact⟨_,_,_,_,_,rfl,h1,hc,hn,rfl,k _ G1 H1 e1 (.list h2 r)⟩⟩
def vz {e:Addr}{b:Bool}{x:V}(hx:∀v,RelV x v->v=u)(Z:PySem.W.ExcI X.K e)(h1:PySem.W.kitOne X.K (.ref e) u=some b):aZ X (.builtin "isinstance") (fun xs H Q=>∃a,xs=[.ref a,x]/\H a=some (.ext (ExcAt a e))/\Q (.bl b) H):=by
 intro pins s σ H xs us Q I r h;obtain⟨a,rfl,ha,q⟩:=h;obtain⟨w,v,rfl,ru,rv⟩:=vals2 r;cases ru;obtain rfl:=hx v rv;exact PySem.W.kia_one (PySem.W.kitx_exc Z) I.kIn ((I.hok a _ ha).1) h1 (fun z=>nomatch z) fun tk=>⟨.bl b,H,I.tok tk,rfl,q⟩
def zC:bootBuiltins ("ValueError":Str)=some (.type "ValueError"):=by decide +kernel
def sj {c e:Addr}{b:Bool}{tab:List (Nat×Bool)}(B:Blt X "isinstance")(T:XcZ X.K X.mg x c tab)(hg:Gl X x)(hdb:(x==("__debug__":Str))=false)(ha:Er X ρ a (.exc e))(hs:isStar a=false)(h:tab.lookup e=some b):
  Ev X ρ (.Call (.Name "isinstance" p) [a,.Name x px] [] pos) (.bool b):=by
 obtain⟨Z,h1,h2⟩:=T.one e b h;have key:∀(y:V) (u:Value),(∀v,RelV y v->v=u)->PySem.W.kitOne X.K (.ref e) u=some b->PE X (.Name x px) (fun σ H Q=>Q y H)->Ev X ρ (.Call (.Name "isinstance" p) _ [] pos) (.bool b):=fun y u hy hk pn=>by
  intro pins s σ H Q I h0;obtain⟨G0,H0,G,E,k⟩:=h0;refine bj (vz hy Z hk) B.g B.m my (ax ha (ax pn aQ rfl) (af hs)) (by decide) (by decide) (af hs) rfl pins s σ H Q I ⟨G0,H0,G,E,fun v G1 H1 e1 r1=>?_⟩;cases r1 with
  |of r1=>cases r1 with
   |exc r1=>exact⟨_,rfl,e1.gh _ _ r1,k _ G1 H1 e1 (.bool _)⟩
 rcases T.nm with hm|⟨rfl,hm⟩
 ·exact key (.ref c) (.ref c) (fun v r=>r) (h1 hm) fun pins s σ H Q I q=>pD hg hm (show RelV (.ref c) (.ref c) from rfl) hdb pins s σ H Q I q
 ·exact key (.ty "ValueError") _ (fun v r=>r) (h2 hm) (pE hg hm zC rfl (by decide) hdb)
end
section
variable {Φ:Fs}{Γ:List (Str×D)}{C:Cs}{e:Expr}{E':E}
def vA (core:List Sl->Option D)(h:∀m ρ,ev Φ Γ m ρ E'=fin m (core ρ))(hv:∀ρ d,core ρ=some d->Ev X ρ e d)(ht:∀ρ d t,core ρ=some d->eY d=some t->Et X ρ e t)
  (hn:fresh E'=true->∀ρ d,core ρ=some d->bo d=true->En X ρ e d):SdE X Φ Γ e E':=by
 refine⟨fun ρ d q=>?_,fun ρ d q=>?_,fun ρ d q=>?_,fun ρ d q=>?_,fun f ρ d q=>?_⟩
 ·rw[h] at q;exact hv ρ d q
 ·rw[h] at q;exact (hv ρ d q).er
 ·rw[h] at q;exact (hv ρ d q).ek
 ·rw[h] at q
  obtain⟨d',q1,q2⟩:=bx0 (q);obtain⟨t,q3,q4⟩:=mx0 q2;exact⟨t,q4.symm,ht ρ d' t q1 q3⟩
 ·rw[h] at q;exact hn f ρ d q
def sd_plain (core:List Sl->Option D)(h:∀m ρ,ev Φ Γ m ρ E'=fin m (core ρ))(hv:∀ρ d,core ρ=some d->Ev X ρ e d)(he:∀whole,isTrue e X.env whole=(do let v ←whole;standAt e.pos;holding [v] (truthy v)))
  (hn:fresh E'=true->∀ρ d,core ρ=some d->bo d=true->En X ρ e d):SdE X Φ Γ e E':=vA _ h hv (fun ρ d t q1 q2=>iB (hv ρ d q1).er q2 he) hn
set_option tactic.hygienic true
def bB (c:CxC X C)(h:aY C x=some i):VarOk X x i:=by
 unfold aY at h;split at h
 ·rename_i j hj
  split at h
  ·rename_i q
   cases h;rw[be0,Bool.or_eq_true,Bool.or_eq_true] at q;obtain⟨q1,q2⟩:=q;unfold bx at q2;rw[be0,be0] at q2;refine⟨by rw[c.N];exact fQ hj,?_,by simpa using q2.1.1,by simpa using q2.1.2⟩;rcases q1 with (q1|q1)|q1
   ·exact c.vis x _ (eq_of_beq q1) (.inl rfl)
   ·exact c.vis x _ (eq_of_beq q1) (.inr (.inl rfl))
   ·exact c.vis x _ (eq_of_beq q1) (.inr (.inr rfl))
  ·cases h
 ·cases h
def oG (c:CxC X C)(h:dB C x=some i):Gx X x i:=by
 unfold dB at h;split at h
 ·rename_i j hj
  split at h
  ·rename_i q
   cases h;rw[be0,Bool.or_eq_true] at q;obtain⟨q1,q2⟩:=q;have l:Loc X.env.scope x/\(X.fn x=true\/X.env.scope.names.lookup x=some .local):=by
    rcases q1 with q1|q1
    ·exact c.loc x _ (eq_of_beq q1) (.inl rfl)
    ·exact c.loc x _ (eq_of_beq q1) (.inr rfl)
   exact⟨by rw[c.N];exact fQ hj,l.1,l.2⟩
  ·cases h
 ·cases h
set_option tactic.hygienic false
def fR (c:CxC X C)(h:dB C x=some i):Sto X x i:=⟨by rw[c.N];exact c.nd,oG c h⟩
def aC (c:CxC X C)(h:aq C x=true):Gl X x/\x≠"__name__"/\(x==("__debug__":Str))=false:=by
 unfold aq at h;rw[be0] at h;unfold bx ai at h;rw[be0,be0] at h;exact⟨c.glob x (eq_of_beq h.1),by simpa using h.2.2,by simpa using h.2.1.1⟩
def bC (c:CxC X C)(w:Wz X Φ Γ C k)(h:aq C x=true)(hb:x∈bltNames):Blt X x:=⟨(aC c h).1,w.blt x hb,(aC c h).2.1,(aC c h).2.2⟩
def ql (c:CxC X C){t:Tg}(h:cTg C tg=some t):Tgj X tg t:=by
 cases tg with
 |Name x px=>
  obtain⟨i,h1,rfl⟩:=mx0 (show (dB C x).map _=some t from h);have n:=oG c h1;exact vi (by rw[c.N];exact c.nd) n.at' n.loc n.fn
 |Tuple es n pos=>
  obtain⟨is,h1,rfl⟩:=mx0 (show (slots C es).map _=some t from h);exact zt
 |_=>cases h
theorem jO :∀{xs:List Str} {js:List Nat},nY N xs=some js->(js.map fun j=>N.getD j Str.empty)=xs/\∀j∈js,∃x∈xs,N[j]?=some x
 |[],js,h=>by cases h;simp
 |x::r,js,h=>by
  obtain⟨i,h1,h2⟩:=bx0 (h);obtain⟨js',h3,rfl⟩:=mx0 h2;obtain⟨q1,q2⟩:=jO h3;have e:=fQ h1
  simp_all
theorem bJ {env:Env}{nk:NameKind}(hne:nk≠.free):∀{names:List (Str×NameKind)} {x:Str},names.lookup x=some nk->
  (names.map fun (n,k)=>if (k==NameKind.free&&env.scope.kind==.function&&env.kindOf n==some .cell) then (n,NameKind.cell) else (n,k)).lookup x=some nk
 |[],_,h=>by simp at h
 |(n,k)::r,x,h=>by
  have ih:=@bJ env nk hne r x;show List.lookup x ((if (k==NameKind.free&&env.scope.kind==.function&&env.kindOf n==some _)=true then (n,NameKind.cell) else (n,k))::_)=_;cases hy:x==n with
  |true=>
   simp_all
  |false=>
   simp only[lk0,hy] at h
   by_cases hc:(k==NameKind.free&&env.scope.kind==.function&&env.kindOf n==some .cell)=true
   ·rw[if_pos hc];simp only[lk0,hy];exact ih h
   ·rw[if_neg hc];simp only[lk0,hy];exact ih h
structure Jb (X:Cx)(C B:Cs)(sc:Scope)(tg:Expr)(nt:Nat)(js:List Nat):Prop where
 ok:BlkOk X sc js
 nt:nt=(br tg).length
 n:B.N=aH X (br tg) js
 cx:∀(A:Addr) (s:Shared) (H:Hp) (fp:List Addr),CxC (L2.C.blk X sc (aH X (br tg) js) A s H fp) B
 same:B.fns=C.fns/\B.cst=C.cst/\B.vc=C.vc/\B.xcs=C.xcs
set_option tactic.hygienic true in
def fz (c:CxC X C){B:Cs}(h:gL C sc tg=some (B,nt,js)):Jb X C B sc tg nt js:=by
 unfold gL at h;split at h
 ·rename_i q
  obtain⟨js',h1,h2⟩:=mx0 h;injection h2 with h2 h3
  injection h3 with h3 h4
  subst h2 h3 h4;unfold pV at q;simp only[be0] at q;obtain⟨⟨⟨⟨q1,q2⟩,q3⟩,q4⟩,q5⟩:=q;have q2':=fun y hy=>List.all_eq_true.mp q2 y hy
  obtain⟨i1,i2⟩:=jO h1;have hN:br tg++freeOf sc=aH X (br tg) js':=by
   unfold aH;rw[c.N,i1]
  have hfree:∀y∈sc.names,y.2=.free->X.env.kindOf y.1=some .cell:=fun y hy hf=>by
   have z:=q2' y hy;simp only[be0,Bool.or_eq_true] at z;rcases z.1.1 with z|z
   ·rw[hf] at z;simp at z
   ·exact c.cell y.1 (eq_of_beq z)
  have hcell:∀y∈sc.names,y.2≠.cell:=fun y hy=>by
   have z:=q2' y hy;simp only[be0] at z
   simpa using z.1.2
  refine⟨⟨eq_of_beq q1,hfree,hcell,fun y hy hl=>?_,fun j hj=>?_⟩,rfl,hN,fun A s H fp=>⟨hN.symm,od0 q5,fun x kd e ek=>?_,fun x kd e ek=>?_,fun x e=>?_,fun x e=>?_,c.calm,eq_of_beq q1⟩,rfl,rfl,rfl,rfl⟩
  ·have z:=q2' y hy
   simp only[be0,Bool.or_eq_true] at z;rcases z.2 with z|z
   ·rw[hl] at z;simp at z
   ·exact eq_of_beq z
  ·obtain⟨x,hx,e⟩:=i2 j hj
   refine⟨x,by rw[c.N];exact e,eq_of_beq (List.all_eq_true.mp q4 x hx)⟩
  ·have e:sc.names.lookup x=some kd:=e
   rcases ek with rfl|rfl|rfl
   ·exact .inl (lookup_relabel_local e)
   ·exact absurd rfl (hcell _ (ml0 e))
   ·exact .inr (.inl (bh c.kind e (hfree _ (ml0 e) rfl)))
  ·have e:sc.names.lookup x=some kd:=e
   rcases ek with rfl|rfl
   ·exact⟨.inl (lookup_relabel_local e),.inr (lookup_relabel_local e)⟩
   ·exact absurd rfl (hcell _ (ml0 e))
  ·have e:sc.names.lookup x=some .cell:=e
   exact absurd rfl (hcell _ (ml0 e))
  ·have e:sc.names.lookup x=some .globalImplicit:=e
   exact bJ (env:=X.env) (by decide) e
 ·cases h
end
structure Snd (Φ:Fs)(Γ:List (Str×D))(k n:Nat):Prop where
 E:∀C e E',cE n C e=some E'->∀X,CxC X C->Wz X Φ Γ C k->SdE X Φ Γ e E'
 Sub:∀C a j E',yX n C a j=some E'->isSlice j=false->∀pos X,CxC X C->Wz X Φ Γ C k->SdE X Φ Γ (.Subscript a j pos) E'
 O:∀C eo as,cO n C eo=some as->∀X,CxC X C->Wz X Φ Γ C k->∀ρ o,evP Φ Γ ρ as=some o->PO X eo (tPt X.K ρ o)
 B:∀C op es E',cBool n C op es=some E'->∀pos X,CxC X C->Wz X Φ Γ C k->(∀ρ d,ev Φ Γ .val ρ E'=some d->Ev X ρ (.BoolOp op es pos) d)/\(∀ρ d,ev Φ Γ .test ρ E'=some d->∃b,d=.bool b/\Ew X ρ (.BoolOp op es pos) b)
 Call:∀C f as E',lQ n C f as=some E'->aq C f=true->∀p pos X,CxC X C->Wz X Φ Γ C k->SdE X Φ Γ (.Call (.Name f p) as [] pos) E'
 Es:∀C es as,cEs n C es=some as->∀X,CxC X C->Wz X Φ Γ C k->aB es/\(∀fl ρ ds,evs Φ Γ .read fl ρ as=some ds->Ea X ρ fl es ds)/\(∀ρ ds,evs Φ Γ .val [] ρ as=some ds->Ea X ρ [] es ds)
 T:∀C es as,cEs n C es=some as->es.length≤1->∀X,CxC X C->Wz X Φ Γ C k->∀ρ b,evC Φ Γ ρ as=some b->Ecs X ρ es b
 Src:∀C tg e src,og n C tg e=some src->∀X,CxC X C->Wz X Φ Γ C k->(∀ρ ds,evI Φ Γ .read ρ src=some ds->PI X tg e (tSi X.K ρ false ds))/\isSet e=false
 I:∀C e src,cI n C e=some src->∀X,CxC X C->Wz X Φ Γ C k->(∀ρ ds,evI Φ Γ .walk ρ src=some ds->Si X ρ true e ds)/\(∀ρ ds,evI Φ Γ .read ρ src=some ds->Si X ρ false e ds)/\isSet e=false
section
variable {Φ:Fs}{Γ:List (Str×D)}{C:Cs}
theorem Wz.blk (w:Wz X Φ Γ C k){B:Cs}(h:B.fns=C.fns/\B.cst=C.cst/\B.vc=C.vc/\B.xcs=C.xcs)(A:Addr)(s:Shared)(H:Hp)(fp:List Addr):Wz (L2.C.blk X sc N A s H fp) Φ Γ B k:=
 ⟨w.blt,fun x hx φ hφ=>w.fns x (by rw[←h.1];exact hx) φ hφ,w.gl,w.room,fun c hc=>w.vc c (by rw[←h.2.2.1];exact hc),fun t c tab hc=>w.xc t c tab (by rw[←h.2.2.2];exact hc)⟩
set_option tactic.hygienic true in
def oH (c:CxC X C)(w:Wz X Φ Γ C k){E':E}(h:pU C x=some E'):SdE X Φ Γ (.Name x p) E':=by
 unfold pU at h;split at h
 ·rename_i i hi
  cases h;have V:=bB c hi;refine⟨fun ρ d q=>Dh i q V.at' V.vis V.d V.cd,fun ρ d q=>uz i q V.at' V.vis V.d V.cd,fun ρ d q=>DE i q V.at' V.vis V.d V.cd,fun ρ d q=>?_,fun f=>by cases f⟩;obtain⟨d',q1,q2⟩:=bx0 (show (ρ[i]?.bind (az .test)).bind _=some d from q);obtain⟨t,q3,q4⟩:=mx0 q2;have q1':ρ[i]?.bind (az .read)=some d':=by
   obtain⟨sl,z1,z2⟩:=bx0 q1;rw[z1];cases sl<;>exact z2
  exact⟨t,q4.symm,iB (uz i q1' V.at' V.vis V.d V.cd) q3 fun a=>rfl⟩
 ·split at h
  ·rename_i q
   cases h;rw[be0] at q;refine sd_plain (fun a=>Γ.lookup x) (fun a a=>rfl) (fun ρ d hd=>?_) (fun a=>rfl) (fun f=>by cases f);obtain⟨u,v,h1,h2,h3⟩:=w.gl x d hd
   rintro pins s σ H Q I ⟨G0,H0,G,E,k⟩;exact pD (aC c q.1).1 h1 h2 (aC c q.1).2.2 pins s σ H Q I (k _ G H (.refl E.sub) (h3 G))
  ·cases h
def vB (h:jE x=true):PyData.strOk x=true:=by
 rw[strOk_iff];exact fun c hc=>od0 (List.all_eq_true.mp h c hc)
def dh {e:Expr}(h:isSet e=false):∀x,foldedSetIterable e env x=pure x:=by
 intro x;cases e<;>first|rfl|cases h
def aL {γ:Type}{a:Option α}{b:Option β}{f:α->β->γ}{c:γ}(h:(a.bind fun x=>b.map fun y=>f x y)=some c):∃x y,a=some x/\b=some y/\f x y=c:=by
 obtain⟨x,h1,h2⟩:=bx0 h<;>simp_all
def mz {op op':CmpOp}{r r':R2}{u:Bool}(ho:OpR X (compareOp op) r)(ho':OpR X (compareOp op') r')(ha:Er X ρ a d1)(hb:Er X ρ b d2)(hc:t=true->Er X ρ c d3)
  (h1:R2r X.K r d1 d2 (.bool t)) (h2:t=true->R2r X.K r' d2 d3 (.bool u)) (hm:lastMarks [op,op'] [b,c]=false) (hu:t=false->u=false):
  Ev X ρ (.Compare a [op,op'] [b,c] pos) (.bool u)/\Et X ρ (.Compare a [op,op'] [b,c] pos) u:=by
 have key:∀(tc:TE),(t=true->tc=tEr X.K ρ d3)->∀(σ:St) (H:Hp) (Q:VK),(∃G0 H0 G,EnvD X.K G0 H0 G H σ ρ/\∀v G' H',Ext G H G' H'->Dp X.K G' (.bool u) v->Q v H')->nG r r' (tEr X.K ρ d1) (tEr X.K ρ d2) tc σ H Q:=by
  intro tc htc σ H Q h0;obtain⟨G0,H0,G,E,kk⟩:=h0;refine⟨G0,H0,G,E,fun x G1 H1 e1 r1=>⟨G0,H0,G1,E.step e1,fun y G2 H2 e2 r2=>h1 x y G2 H2 _ e2.gh (r1.ext e2) r2 fun v G3 H3 e3 r3=>?_⟩⟩;cases r3;refine⟨t,rfl,?_⟩;cases t with
  |true=>
   rw[if_pos rfl,htc rfl];refine⟨G0,H0,G3,((E.step e1).step e2).step e3,fun z G4 H4 e4 r4=>h2 rfl y z G4 H4 Q e4.gh ((r2.ext e3).ext e4) r4 fun v G5 H5 e5 r5=>kk v G5 H5 (e1.trans (e2.trans (e3.trans (e4.trans e5)))) r5⟩
  |false=>
   exact kk _ G3 H3 (e1.trans (e2.trans e3)) (by rw[hu rfl];exact .bool _)
 cases t with
 |true=>
  refine⟨fun pins s σ H Q I h0=>lF ho ho' ha hb (hc rfl) hm pins s σ H Q I (key _ (fun d=>rfl) σ H Q h0),fun pins s σ H Q I h0=>lG ho ho' ha hb (hc rfl) hm pins s σ H Q I (key _ (fun d=>rfl) σ H _ ?_)⟩;obtain⟨G0,H0,G,E,kk⟩:=h0;exact⟨G0,H0,G,E,fun v G' H' e r=>by cases r;exact⟨u,rfl,kk G' H' e⟩⟩
 |false=>
  have nv:PE X c (fun d d d=>False):=fun d d d d d d z=>z.elim
  refine⟨fun pins s σ H Q I h0=>lF ho ho' ha hb nv hm pins s σ H Q I (key _ (fun z=>by cases z) σ H Q h0),fun pins s σ H Q I h0=>lG ho ho' ha hb nv hm pins s σ H Q I (key _ (fun z=>by cases z) σ H _ ?_)⟩;obtain⟨G0,H0,G,E,kk⟩:=h0;exact⟨G0,H0,G,E,fun v G' H' e r=>by cases r;exact⟨u,rfl,kk G' H' e⟩⟩
def DL {e:Expr}{E':E}(h:cE n C e=some E'):fb e=false:=by
 cases n with
 |zero=>exact nn h
 |succ n=>
  cases e with
  |Call ef eas eks epos=>
   cases ef with
   |Name f fp=>
    cases eas with
    |cons _ _=>rfl
    |nil=>
     cases eks with
     |cons _ _=>rfl
     |nil=>
      have h:(if aq C f then lQ n C f [] else Option.none)=some E':=h;split at h
      ·cases n with
       |zero=>exact nn h
       |succ n=>
        have h:(if C.fns.contains f then Option.none
         else if f=("isinstance":Str) then (match oa C [] with
          |some q=>(cE n C q.1).map fun a'=>E.isx a' q.2.1 q.2.2
          |Option.none=>(nZ C []).bind fun q=>(cE n C q.1).map fun a'=>E.isi a' q.2)
          else if f=("sorted":Str) then Option.none else (iy f).bind fun b=>Option.none)=some E':=h
        split at h
        ·cases h
        split at h
        ·exact nn h
        split at h
        ·cases h
        ·obtain⟨b,_,h⟩:=bx0 h
         cases h
      ·cases h
   |_=>rfl
  |_=>rfl
set_option tactic.hygienic true
def vC {vs:List Expr}(h:uv vs=some (x,a)):∃j p1 p2,jE x=true/\vs=[.Constant (.str x) j p1,.FormattedValue a (.negSucc 0) Option.none p2]:=by
 obtain⟨⟨u,v⟩,e1,h⟩:=bx0 h;obtain⟨y,e2,h⟩:=bx0 h;obtain⟨b,e3,h3⟩:=bx0 h;obtain rfl:=iz e1;obtain⟨j,p,rfl⟩:=yV e2;obtain⟨p2,rfl⟩:=yW e3;split at h3
 ·rename_i q;cases h3;exact⟨_,_,_,q,rfl⟩
 ·cases h3
def oJ {f:Str}{q:Bf×List Expr}(h:kB C f as=some q):∃g sp as' qp,as=[.Call (.Name g sp) as' [] qp]/\aq C g=true/\aB as'/\q.2=as'/\f="len"/\g="set"/\(∃a,as'=[a])/\q.1=.nset:=by
 obtain⟨e,e1,h⟩:=bx0 h;obtain⟨⟨g,sp,as',qp⟩,e2,h⟩:=bx0 h;obtain rfl:=pW e2;obtain rfl:=aS e1;have h:(if !aq C g||as'.any isStar then none else if f=("len":Str) then (if g=("set":Str)&&as'.length==1 then some (Bf.nset,as') else none) else none)=some q:=h;split at h
 ·cases h
 ·rename_i hq
  have hq:aq C g=true/\as'.any isStar=false:=by simpa using hq
  have hs:aB as':=fun y hy=>by simpa using (List.any_eq_false.mp hq.2) y hy
  split at h
  ·rename_i hf
   split at h
   ·rename_i hg
    rw[be0] at hg;cases h;refine⟨g,sp,as',qp,rfl,hq.1,hs,rfl,hf,by simpa using hg.1,List.length_eq_one_iff.mp (by simpa using hg.2),rfl⟩
   ·cases h
  ·cases h
def vD (ih:Snd Φ Γ k n){e:Expr}{E':E}(h:cE (n+1) C e=some E')(c:CxC X C)(w:Wz X Φ Γ C k):SdE X Φ Γ e E':=by
 have hu:=w.room.units;have hu1:X.A.units+1<cLine:=by omega
 cases e with
 |Constant v ej epos=>
  cases v with
  |int i=>
   have h:some (E.k (.int i))=some E':=h;cases h;exact sd_plain (fun l=>some _) (fun l l=>rfl) (fun ρ d q=>by cases q;exact De) (fun l=>rfl) (fun f=>by cases f)
  |str x=>
   have h:(if jE x then some (E.k (.str x)) else Option.none)=some E':=h;split at h
   ·rename_i q;cases h;exact sd_plain (fun l=>some _) (fun l l=>rfl) (fun ρ d q'=>by cases q';exact Dg (vB q)) (fun l=>rfl) (fun f=>by cases f)
   ·cases h
  |bool bb=>
   have h:some (E.k (.bool bb))=some E':=h;cases h;exact sd_plain (fun l=>some _) (fun l l=>rfl) (fun ρ d q=>by cases q;exact Gp) (fun l=>rfl) (fun f=>by cases f)
  |none=>
   have h:some (E.k .none)=some E':=h;cases h;exact sd_plain (fun l=>some _) (fun l l=>rfl) (fun ρ d q=>by cases q;exact Df) (fun l=>rfl) (fun f=>by cases f)
  |_=>exact nn h
 |Name x epos=>
  have h:pU C x=some E':=h;exact oH c w h
 |BinOp ea eop eb epos=>
  have h:((cOp eop).bind fun o=>(cE n C ea).bind fun a'=>(cE n C eb).map fun b'=>E.op o a' b')=some E':=h;obtain⟨o,h1,h⟩:=bx0 h;obtain⟨a',b',h2,h3,rfl⟩:=aL h;have A:=ih.E _ _ _ h2 X c w;have B:=ih.E _ _ _ h3 X c w;have both:∀ρ d,((ev Φ Γ .read ρ a').bind fun x=>(ev Φ Γ .read ρ b').bind fun y=>opD o x y)=some d->∃x y,ev Φ Γ .read ρ a'=some x/\ev Φ Γ .read ρ b'=some y/\opD o x y=some d:=fun ρ d q=>by
   obtain⟨x,q1,q⟩:=bx0 q;obtain⟨y,q2,q⟩:=bx0 q;exact⟨x,y,q1,q2,q⟩
  refine sd_plain (fun ρ=>(ev Φ Γ .read ρ a').bind fun x=>(ev Φ Γ .read ρ b').bind fun y=>opD o x y) (fun l l=>rfl) (fun ρ d q=>?_) (fun l=>rfl) (fun l ρ d q hd=>?_)
  ·obtain⟨x,y,q1,q2,q⟩:=both ρ d q
   exact (lU h1 q (A.2.1 ρ x q1) (B.2.1 ρ y q2)).1
  ·obtain⟨x,y,q1,q2,q⟩:=both ρ d q
   exact (lU h1 q (A.2.1 ρ x q1) (B.2.1 ρ y q2)).2 hd
 |UnaryOp eop ea epos=>
  cases eop with
  |USub=>
   have h:(cE n C ea).map E.neg=some E':=h;obtain⟨a',h1,rfl⟩:=mx0 h;have A:=ih.E _ _ _ h1 X c w;refine sd_plain (fun ρ=>(ev Φ Γ .val ρ a').bind fun d=>(asI d).map fun i=>.int (-i)) (fun l l=>rfl) (fun ρ d q=>?_) (fun l=>rfl) (fun f=>by cases f);obtain⟨x,q1,q⟩:=bx0 q;obtain⟨i,q2,rfl⟩:=mx0 q;obtain rfl:=kz q2;exact Do (A.1 ρ _ q1)
  |Not=>
   have h:(cE n C ea).map E.not=some E':=h;obtain⟨a',h1,rfl⟩:=mx0 h;have A:=ih.E _ _ _ h1 X c w;have val:∀ρ d,ev Φ Γ .val ρ (.not a')=some d->Ev X ρ (.UnaryOp .Not ea epos) d:=fun ρ d q=>by
    obtain⟨x,q1,q⟩:=bx0 (show (ev Φ Γ .val ρ a').bind _=some d from q);obtain⟨t,q2,rfl⟩:=mx0 q;obtain rfl:=nV q2;exact Dz (A.1 ρ _ q1)
   refine⟨val,fun ρ d q=>(val ρ d q).er,fun ρ d q=>(val ρ d q).ek,fun ρ d q=>?_,fun f=>by cases f⟩;obtain⟨x,q1,q⟩:=bx0 (show (ev Φ Γ .test ρ a').bind _=some d from q);obtain⟨t,q2,rfl⟩:=mx0 q;obtain⟨b,rfl,hb⟩:=A.2.2.2.1 ρ x q1;cases q2;exact⟨_,rfl,Ds hb⟩
  |_=>exact nn h
 |Compare ea eops ecs epos=>
  cases eops with
  |nil=>exact nn h
  |cons eop r1=>
   cases r1 with
   |nil=>
    cases ecs with
    |nil=>exact nn h
    |cons eb r2=>
     cases r2 with
     |cons _ _=>exact nn h
     |nil=>
      have h:((kA eop).bind fun o=>if isSet eb then Option.none else (cE n C ea).bind fun a'=>(cE n C eb).map fun b'=>E.cmp o a' b')=some E':=h;obtain⟨o,h1,h⟩:=bx0 h;split at h
      ·cases h
      ·rename_i hset
       have hset:isSet _=false:=bf0 hset;obtain⟨a',b',h2,h3,rfl⟩:=aL h;have A:=ih.E _ _ _ h2 X c w;have B:=ih.E _ _ _ h3 X c w;have both:∀ρ d,((ev Φ Γ .read ρ a').bind fun x=>(ev Φ Γ .read ρ b').bind fun y=>(bM o x y).map D.bool)=some d->∃x y t,ev Φ Γ .read ρ a'=some x/\ev Φ Γ .read ρ b'=some y/\bM o x y=some t/\d=.bool t:=fun ρ d q=>by
        obtain⟨x,q1,q⟩:=bx0 q;obtain⟨y,q2,q⟩:=bx0 q;obtain⟨t,q3,q4⟩:=mx0 q;exact⟨x,y,t,q1,q2,q3,q4.symm⟩
       refine vA (fun ρ=>(ev Φ Γ .read ρ a').bind fun x=>(ev Φ Γ .read ρ b').bind fun y=>(bM o x y).map D.bool) (fun l l=>rfl) (fun ρ d q=>?_) (fun ρ d t q ht=>?_) (fun f=>by cases f)
       ·obtain⟨x,y,t,q1,q2,q3,rfl⟩:=both ρ d q
        obtain⟨r,hr,hR⟩:=iA (X:=X) hu h1 q3;exact Di hr (A.2.1 ρ x q1) (B.2.1 ρ y q2) hR (fq hset)
       ·obtain⟨x,y,t',q1,q2,q3,rfl⟩:=both ρ d q
        cases ht;obtain⟨r,hr,hR⟩:=iA (X:=X) hu h1 q3;exact Dj hr (A.2.1 ρ x q1) (B.2.1 ρ y q2) hR (fq hset)
   |cons eop' r1=>
    cases r1 with
    |cons _ _=>exact nn h
    |nil=>
     cases ecs with
     |nil=>exact nn h
     |cons eb r2=>
      cases r2 with
      |nil=>exact nn h
      |cons ec r2=>
       cases r2 with
       |cons _ _=>exact nn h
       |nil=>
        have h:((kA eop).bind fun o=>(kA eop').bind fun o'=>if isSet eb||isSet ec then Option.none else (cE n C ea).bind fun a'=>(cE n C eb).bind fun b'=>(cE n C ec).map fun c'=>E.chain o o' a' b' c')=some E':=h;obtain⟨o,h1,h⟩:=bx0 h;obtain⟨o',h1',h⟩:=bx0 h;split at h
        ·cases h
        ·rename_i hset
         have hset:=bf0 hset;rw[Bool.or_eq_false_iff] at hset;obtain⟨a',h2,h⟩:=bx0 h;obtain⟨b',c',h3,h4,rfl⟩:=aL h;have A:=ih.E _ _ _ h2 X c w;have B:=ih.E _ _ _ h3 X c w;have Cc:=ih.E _ _ _ h4 X c w;have both:∀ρ d,((ev Φ Γ .read ρ a').bind fun x=>(ev Φ Γ .read ρ b').bind fun y=>(bM o x y).bind fun t=>if t then (ev Φ Γ .read ρ c').bind fun z=>(bM o' y z).map D.bool else some (.bool false))=some d->
           ∃u,d=.bool u/\∀pos,Ev X ρ (.Compare ea [eop,eop'] [eb,ec] pos) (.bool u)/\Et X ρ (.Compare ea [eop,eop'] [eb,ec] pos) u:=fun ρ d q=>by
          obtain⟨x,q1,q⟩:=bx0 q;obtain⟨y,q2,q⟩:=bx0 q;obtain⟨t,q3,q⟩:=bx0 q;obtain⟨r,hr,hR⟩:=iA (X:=X) hu h1 q3;have hm:lastMarks [eop,eop'] [eb,ec]=false:=fq hset.2;cases t with
          |true=>
           rw[if_pos rfl] at q;obtain⟨z,q4,q⟩:=bx0 q;obtain⟨u,q5,rfl⟩:=mx0 q;obtain⟨r',hr',hR'⟩:=iA (X:=X) hu h1' q5;exact⟨u,rfl,fun pos=>mz hr hr' (A.2.1 ρ x q1) (B.2.1 ρ y q2) (fun l=>Cc.2.1 ρ z q4) hR (fun l=>hR') hm (fun z=>by cases z)⟩
          |false=>
           rw[if_neg fx0] at q;cases q;have any:∃r',OpR X (compareOp eop') r':=⟨fun l l l l=>False,fun pins s σ H x y v u Q I rx ry h=>h.elim⟩;obtain⟨r',hr'⟩:=any;exact⟨false,rfl,fun pos=>mz (d3:=.none) hr hr' (A.2.1 ρ x q1) (B.2.1 ρ y q2) (fun z=>by cases z) hR (fun z=>by cases z) hm (fun l=>rfl)⟩
         refine vA (fun ρ=>(ev Φ Γ .read ρ a').bind fun x=>(ev Φ Γ .read ρ b').bind fun y=>(bM o x y).bind fun t=>if t then (ev Φ Γ .read ρ c').bind fun z=>(bM o' y z).map D.bool else some (.bool false)) (fun l l=>rfl) (fun ρ d q=>?_) (fun ρ d t q ht=>?_) (fun f=>by cases f)
         ·obtain⟨u,rfl,z⟩:=both ρ d q;exact (z _).1
         ·obtain⟨u,rfl,z⟩:=both ρ d q;cases ht;exact (z _).2
 |BoolOp op es pos=>
  cases es with
  |nil=>exact nn h
  |cons a r=>
   cases r with
   |nil=>exact nn h
   |cons b r=>
    have h:cBool n C op (a::b::r)=some E':=h;obtain⟨v,t⟩:=ih.B _ _ _ _ h pos X c w;have form:(∃a' b',E'=.and a' b')\/∃a' b',E'=.or a' b':=by
     cases n with
     |zero=>cases h
     |succ n=>
      cases op with
      |And=>obtain⟨a',b',_,_,rfl⟩:=aL h;exact .inl ⟨_,_,rfl⟩
      |Or=>obtain⟨a',b',_,_,rfl⟩:=aL h;exact .inr ⟨_,_,rfl⟩
    have re:∀ρ,ev Φ Γ .read ρ E'=ev Φ Γ .val ρ E':=fun ρ=>by rcases form with⟨a',b',rfl⟩|⟨a',b',rfl⟩<;>rfl
    have wa:∀ρ,ev Φ Γ .walk ρ E'=ev Φ Γ .val ρ E':=fun ρ=>by rcases form with⟨a',b',rfl⟩|⟨a',b',rfl⟩<;>rfl
    exact⟨v,fun ρ d q=>(v ρ d (by rw[←re];exact q)).er,fun ρ d q=>(v ρ d (by rw[←wa];exact q)).ek,fun ρ d q=>let ⟨b,e,z⟩:=t ρ d q;⟨b,e,z.et⟩,fun f=>by rcases form with⟨a',b',rfl⟩|⟨a',b',rfl⟩<;>cases f⟩
 |IfExp ec ea eb epos=>
  have h:((cE n C ec).bind fun c'=>(cE n C ea).bind fun a'=>(cE n C eb).map fun b'=>E.ite c' a' b')=some E':=h;obtain⟨c',h1,h⟩:=bx0 h;obtain⟨a',b',h2,h3,rfl⟩:=aL h;have Cc:=ih.E _ _ _ h1 X c w;have A:=ih.E _ _ _ h2 X c w;have B:=ih.E _ _ _ h3 X c w;have val:∀ρ d,ev Φ Γ .val ρ (.ite c' a' b')=some d->Ev X ρ (.IfExp ec ea eb epos) d:=fun ρ d q=>by
   obtain⟨x,q1,q⟩:=bx0 (show (ev Φ Γ .test ρ c').bind _=some d from q);obtain⟨t,rfl,ht⟩:=Cc.2.2.2.1 ρ x q1;rw[bZ,bs0] at q;cases t with
   |true=>rw[if_pos rfl] at q;exact DA ht (A.1 ρ d q)
   |false=>rw[if_neg fx0] at q;exact DB ht (B.1 ρ d q)
  refine⟨val,fun ρ d q=>(val ρ d q).er,fun ρ d q=>(val ρ d q).ek,fun ρ d q=>?_,fun f=>by cases f⟩;have q:(Option.none:Option D)=some d:=q;cases q
 |Call ef eas eks epos=>
  cases ef with
  |Name f fp=>
   cases eks with
   |cons _ _=>exact nn h
   |nil=>
    have h:(if aq C f then lQ n C f eas else Option.none)=some E':=h;split at h
    ·rename_i hg;exact ih.Call _ _ _ _ h hg _ _ X c w
    ·cases h
  |_=>exact nn h
 |Attribute eo ex epos=>
  have h:(if ex=("objects":Str) then C.vc.bind fun c=>(cE n C eo).map fun o'=>E.vob c o' else Option.none)=some E':=h;split at h
  ·rename_i hx
   subst hx;obtain⟨vc,h1,h⟩:=bx0 h;obtain⟨o',h2,rfl⟩:=mx0 h;have O:=ih.E _ _ _ h2 X c w;have hsup:fb eo=false:=DL h2;obtain⟨w1,w2⟩:=w.vc vc h1;have key:∀ρ d,((ev Φ Γ .read ρ o').bind fun x=>if jC vc x then some (D.list (yM x)) else Option.none)=some d->Er X ρ (.Attribute eo "objects" epos) d:=fun ρ d q=>by
    obtain⟨x,q1,q⟩:=bx0 q;split at q
    ·rename_i hv
     cases q;obtain⟨hh,os,rfl⟩:=uq hv;exact DK w1 w2 (O.2.1 ρ _ q1) hsup
    ·cases q
   refine⟨fun ρ d q=>nn q,fun ρ d q=>key ρ d q,fun ρ d q=>nn q,fun ρ d q=>?_,fun z=>by cases z⟩;obtain⟨d',q1,q2⟩:=bx0 (show ((ev Φ Γ .read ρ o').bind fun x=>if jC vc x then some (D.list (yM x)) else Option.none).bind (fun d=>(eY d).map .bool)=some d from q);obtain⟨t,q3,q4⟩:=mx0 q2;exact⟨t,q4.symm,iB (key ρ d' q1) q3 fun l=>rfl⟩
  ·cases h
 |Subscript ea ei epos2=>
  cases ei with
  |Slice elo ehi est epos1=>
   cases est with
   |some est=>
    exact nn h
   |none=>
    have h:((cE n C ea).bind fun a'=>(cO n C elo).bind fun lo'=>(cO n C ehi).map fun hi'=>E.sl a' lo' hi')=some E':=h;obtain⟨a',h1,h⟩:=bx0 h;obtain⟨lo',hi',h2,h3,rfl⟩:=aL h;have A:=ih.E _ _ _ h1 X c w;have key:∀ρ d,((ev Φ Γ .read ρ a').bind fun x=>(evP Φ Γ ρ lo').bind fun y=>(evP Φ Γ ρ hi').bind fun z=>slD x y z)=some d->Ev X ρ (.Subscript ea (.Slice elo ehi Option.none epos1) epos2) d/\(bo d=true->En X ρ (.Subscript ea (.Slice elo ehi Option.none epos1) epos2) d):=fun ρ d q=>by
     obtain⟨x,q1,q⟩:=bx0 q;obtain⟨y,q2,q⟩:=bx0 q;obtain⟨z,q3,q⟩:=bx0 q;cases x with
     |list ds=>
      cases q;have:=rF (pos:=epos2) (p2:=epos1) (A.2.1 ρ _ q1) (ih.O _ _ _ h2 X c w ρ y q2) (ih.O _ _ _ h3 X c w ρ z q3);exact⟨this.ev,fun l=>this⟩
     |_=>cases q
    exact sd_plain (fun ρ=>(ev Φ Γ .read ρ a').bind fun x=>(evP Φ Γ ρ lo').bind fun y=>(evP Φ Γ ρ hi').bind fun z=>slD x y z) (fun l l=>rfl) (fun ρ d q=>(key ρ d q).1) (fun l=>rfl) (fun l ρ d q o=>(key ρ d q).2 o)
  |_=>exact ih.Sub _ _ _ _ h rfl _ X c w
 |List ees epos=>
  have h:(cEs n C ees).map E.lst=some E':=h;obtain⟨as,h1,rfl⟩:=mx0 h;obtain⟨s1,s2,s3⟩:=ih.Es _ _ _ h1 X c w;have key:∀ρ d,((evs Φ Γ .val [] ρ as).bind fun ds=>if ds.length≤1000 then some (D.list ds) else Option.none)=some d->En X ρ (.List ees epos) d:=fun ρ d q=>by
   obtain⟨ds,q1,q⟩:=bx0 q;split at q
   ·rename_i hz;cases q;exact en_lst (s3 ρ ds q1) hz
   ·cases q
  exact sd_plain (fun ρ=>(evs Φ Γ .val [] ρ as).bind fun ds=>if ds.length≤1000 then some (D.list ds) else Option.none) (fun l l=>rfl) (fun ρ d q=>(key ρ d q).ev) (fun l=>rfl) (fun l ρ d q l=>key ρ d q)
 |Dict dk dv epos=>
  cases dk with
  |cons _ _=>exact nn h
  |nil=>cases dv with
   |cons _ _=>exact nn h
   |nil=>
    have h:some (E.bi .dict (.cons (.lst .nil) .nil))=some E':=h;cases h;have key:∀ρ,En X ρ (.Dict [] [] epos) (.dict []):=fun ρ pins s σ H Q I ⟨G0,H0,G,E,k⟩=>lK pins s σ H Q I fun p hp=>k p G _ (.hid E.sub hp) (E.sub.free hp) hp (.inr ⟨_,_,rfl,ae,.nil⟩)
    exact sd_plain (fun l=>some (.dict [])) (fun m l=>by cases m<;>rfl) (fun ρ d q=>by cases q;exact (key ρ).ev) (fun l=>rfl) (fun l ρ d q l=>by cases q;exact key ρ)
 |Tuple es ek epos=>
  have h:(cEs n C es).map E.tup=some E':=h;obtain⟨as,h1,rfl⟩:=mx0 h;obtain⟨s1,s2,s3⟩:=ih.Es _ _ _ h1 X c w;refine sd_plain (fun ρ=>(evs Φ Γ .val [] ρ as).bind fun ds=>if ds.length≤1000 then some (D.tuple ds) else Option.none) (fun l l=>rfl) (fun ρ d q=>?_) (fun l=>rfl) (fun f=>by cases f);obtain⟨ds,q1,q⟩:=bx0 q;split at q
  ·rename_i hz;cases q;exact ev_tup (s3 ρ ds q1) hz
  ·cases q
 |JoinedStr vs epos=>
  have h:((uv vs).bind fun q=>(cE n C q.2).map fun a'=>E.bi .fst (.cons (.k (.str q.1)) (.cons a' .nil)))=some E':=h;obtain⟨⟨x,a⟩,h1,h2⟩:=bx0 h;obtain⟨a',h3,rfl⟩:=mx0 h2;obtain⟨j,p1,p2,hx,rfl⟩:=vC h1;have A:=ih.E _ _ _ h3 X c w;refine sd_plain (fun ρ=>(evs Φ Γ .read [true,true,true] ρ (.cons (.k (.str x)) (.cons a' .nil))).bind fun ds=>biD .fst ds) (fun l l=>rfl) (fun ρ d q=>?_) (fun l=>rfl) (fun f=>by cases f);obtain⟨ds,q1,q⟩:=bx0 q;obtain⟨u,q2,q3⟩:=bx0 (show (some (D.str x)).bind _=some ds from q1);cases q2;obtain⟨r,q4,rfl⟩:=mx0 q3;obtain⟨y,q5,q6⟩:=bx0 (show (ev Φ Γ .read ρ a').bind _=some r from q4)
  obtain⟨r',q7,rfl⟩:=mx0 q6;cases q7;cases y with
  |str y=>
   have q:(if x.length+y.length≤big then some (D.str (x++y)) else Option.none)=some d:=q;split at q
   ·rename_i hz;cases q;exact fst_sound hx (A.2.1 ρ _ q5) hz
   ·cases q
  |_=>exact nn q
 |ListComp eelt gens esc epos=>
  cases gens with
  |nil=>exact nn h
  |cons g r=>
   obtain⟨etg,eiter,eifs,asy⟩:=g;cases asy with
   |negSucc _=>cases r<;>exact nn h
   |ofNat m=>
   cases m with
   |succ _=>cases r<;>exact nn h
   |zero=>
    cases r with
    |cons _ _=>exact nn h
    |nil=>
     have h:((og n C etg eiter).bind fun src=>(gL C esc etg).bind fun (B,nt,js)=>(cTg B etg).bind fun t=>if !gK t nt then Option.none else (if eifs.length≤1 then cEs n B eifs else Option.none).bind fun i'=>(cE n B eelt).map fun e'=>E.comp nt js t src i' e')=some E':=h;obtain⟨src,h1,h⟩:=bx0 h;obtain⟨⟨B,nt,js⟩,h2,h⟩:=bx0 h;obtain⟨t,h3,h⟩:=bx0 h;split at h
     ·cases h
     ·rename_i hlt
      have hlt:gK t nt=true:=by simpa using hlt
      obtain⟨i',e',h4,h5,rfl⟩:=aL h;split at h4
      ·rename_i hl
       have R:=fz c h2;obtain⟨S2,S3⟩:=ih.Src _ _ _ _ h1 X c w;have T:iM X Φ Γ esc (aH X (br etg) js) etg t eifs i' eelt e':=⟨fun A s H fp=>ql (R.cx A s H fp) h3,
        fun A s H fp ρ b q=>ih.T _ _ _ h4 hl _ (R.cx A s H fp) (w.blk R.same A s H fp) ρ b q,fun A s H fp ρ d q=>(ih.E _ _ _ h5 _ (R.cx A s H fp) (w.blk R.same A s H fp)).1 ρ d q⟩
       have key:∀ρ d,((evI Φ Γ .read ρ src).bind fun ds=>if ds.length≤big then (aO (gz Φ Γ nt js t i' e' ρ) ds).map D.list else Option.none)=some d->En X ρ (.ListComp eelt [⟨etg,eiter,eifs,0⟩] esc epos) d:=fun ρ d q=>by
        obtain⟨ds,q1,q⟩:=bx0 q;split at q
        ·rename_i hz
         obtain⟨out,q2,rfl⟩:=mx0 q;rw[R.nt] at q2 hlt;exact zx R.ok c.calm (S2 ρ ds q1) T hlt (by rw[←big_eq];exact hz) q2 (dh S3)
        ·cases q
       exact sd_plain (fun ρ=>(evI Φ Γ .read ρ src).bind fun ds=>if ds.length≤big then (aO (gz Φ Γ nt js t i' e' ρ) ds).map D.list else Option.none) (fun l l=>rfl) (fun ρ d q=>(key ρ d q).ev) (fun l=>rfl) (fun l ρ d q l=>key ρ d q)
      ·cases h4
 |_=>exact nn h
set_option tactic.hygienic false
def zD (ih:Snd Φ Γ k n){j:Expr}{E':E}(h:yX (n+1) C a j=some E')(hs:isSlice j=false)(c:CxC X C)(w:Wz X Φ Γ C k):SdE X Φ Γ (.Subscript a j pos) E':=by
 have hu:=w.room.units;have hu1:X.A.units+1<cLine:=by omega
 unfold yX at h;obtain⟨a',j',h1,h2,rfl⟩:=aL h;have A:=ih.E _ _ _ h1 X c w;have J:=ih.E _ _ _ h2 X c w;refine sd_plain (fun ρ=>(ev Φ Γ .read ρ a').bind fun x=>(ev Φ Γ .val ρ j').bind fun y=>kx x y) (fun b b=>rfl) (fun ρ d q=>?_) (fun b=>rfl) (fun f=>by cases f);obtain⟨x,q1,q⟩:=bx0 q;obtain⟨y,q2,q⟩:=bx0 q;exact rE hu1 q (A.2.1 ρ x q1) (J.1 ρ y q2) hs
def Gz (ih:Snd Φ Γ k n){eo:Option Expr}{as:Es}(h:cO (n+1) C eo=some as)(c:CxC X C)(w:Wz X Φ Γ C k)(ρ:List Sl)(o:Option Int)(q:evP Φ Γ ρ as=some o):PO X eo (tPt X.K ρ o):=by
 cases eo with
 |none=>cases h;cases q;exact uE
 |some e=>
  obtain⟨a',h1,rfl⟩:=mx0 (h);obtain⟨d,q1,q2⟩:=bx0 (q);obtain⟨i,q3,rfl⟩:=mx0 q2;obtain rfl:=kz q3;exact uF ((ih.E _ _ _ h1 X c w).1 ρ _ q1)
def GA (ih:Snd Φ Γ k n){op:BoolOp}{E':E}(h:cBool (n+1) C op es=some E')(c:CxC X C)(w:Wz X Φ Γ C k):
  (∀ρ d,ev Φ Γ .val ρ E'=some d->Ev X ρ (.BoolOp op es pos) d)/\(∀ρ d,ev Φ Γ .test ρ E'=some d->∃b,d=.bool b/\Ew X ρ (.BoolOp op es pos) b):=by
 match es,op,h with
 |[a],op,h=>
  have h:cE n C a=some E':=by cases op<;>exact h
  have A:=ih.E _ _ _ h X c w;refine⟨fun ρ d q=>Dw (A.1 ρ d q),fun ρ d q=>?_⟩;obtain⟨b,rfl,t⟩:=A.2.2.2.1 ρ d q;cases op with
  |And=>exact⟨b,rfl,yY t⟩
  |Or=>exact⟨b,rfl,Dt t⟩
 |a::b::r,.And,h=>
  obtain⟨a',b',h1,h2,rfl⟩:=aL h;have A:=ih.E _ _ _ h1 X c w;obtain⟨B1,B2⟩:=ih.B _ _ _ _ h2 pos X c w;refine⟨fun ρ d q=>?_,fun ρ d q=>?_⟩
  ·obtain⟨x,q1,q⟩:=bx0 (show (ev Φ Γ .val ρ a').bind _=some d from q)
   obtain⟨t,q2,q5⟩:=bx0 q;have e:=nV q2;subst e;cases t with
   |true=>rw[if_pos rfl] at q5;exact zc (A.1 ρ _ q1) (B1 ρ d q5)
   |false=>rw[if_neg fx0] at q5;cases q5;exact zd (A.1 ρ _ q1)
  ·obtain⟨x,q1,q⟩:=bx0 (show (ev Φ Γ .test ρ a').bind _=some d from q)
   obtain⟨t,rfl,ht⟩:=A.2.2.2.1 ρ x q1;rw[bZ,bs0] at q;cases t with
   |true=>
    rw[if_pos rfl] at q;obtain⟨b,rfl,hb⟩:=B2 ρ d q;exact⟨b,rfl,yZ ht hb⟩
   |false=>rw[if_neg fx0] at q;cases q;exact⟨false,rfl,za ht⟩
 |a::b::r,.Or,h=>
  obtain⟨a',b',h1,h2,rfl⟩:=aL h;have A:=ih.E _ _ _ h1 X c w;obtain⟨B1,B2⟩:=ih.B _ _ _ _ h2 pos X c w;refine⟨fun ρ d q=>?_,fun ρ d q=>?_⟩
  ·obtain⟨x,q1,q⟩:=bx0 (show (ev Φ Γ .val ρ a').bind _=some d from q)
   obtain⟨t,q2,q5⟩:=bx0 q;have e:=nV q2;subst e;cases t with
   |true=>rw[if_pos rfl] at q5;cases q5;exact Dy (A.1 ρ _ q1)
   |false=>rw[if_neg fx0] at q5;exact Dx (A.1 ρ _ q1) (B1 ρ d q5)
  ·obtain⟨x,q1,q⟩:=bx0 (show (ev Φ Γ .test ρ a').bind _=some d from q)
   obtain⟨t,rfl,ht⟩:=A.2.2.2.1 ρ x q1;rw[bZ,bs0] at q;cases t with
   |true=>rw[if_pos rfl] at q;cases q;exact⟨true,rfl,Dv ht⟩
   |false=>
    rw[if_neg fx0] at q;obtain⟨b,rfl,hb⟩:=B2 ρ d q;exact⟨b,rfl,Du ht hb⟩
 |[],.And,h=>cases h
 |[],.Or,h=>cases h
set_option tactic.hygienic true
def DM (ih:Snd Φ Γ k n){as:Es}(h:cEs (n+1) C es=some as)(c:CxC X C)(w:Wz X Φ Γ C k):
  aB es/\(∀fl ρ ds,evs Φ Γ .read fl ρ as=some ds->Ea X ρ fl es ds)/\(∀ρ ds,evs Φ Γ .val [] ρ as=some ds->Ea X ρ [] es ds):=by
 cases es with
 |nil=>cases h;exact⟨fun a z=>(by cases z),fun fl ρ ds q=>(by cases q;exact kC),fun ρ ds q=>(by cases q;exact kC)⟩
 |cons e r=>
  have h:(if isStar e then Option.none else (cE n C e).bind _)=some as:=h;split at h
  ·cases h
  ·rename_i hs
   have hs:=bf0 hs;obtain⟨a',r',h1,h2,rfl⟩:=aL h;have A:=ih.E _ _ _ h1 X c w;obtain⟨R1,R2,R3⟩:=ih.Es _ _ _ h2 X c w;refine⟨fun x hx=>(mq0 hx).elim (fun z=>z▸hs) (R1 x),fun fl ρ ds q=>?_,fun ρ ds q=>?_⟩
   ·obtain⟨x,q1,q⟩:=bx0 (q)
    obtain⟨rs,q2,rfl⟩:=mx0 q;cases hf:fl.headD false with
    |true=>rw[hf,if_pos rfl] at q1;exact uA (A.2.1 ρ x q1) hf (R2 _ ρ rs q2) hs
    |false=>rw[hf,if_neg fx0] at q1;exact fh (A.1 ρ x q1) (R2 _ ρ rs q2) hs
   ·obtain⟨x,q1,q⟩:=bx0 (q)
    obtain⟨rs,q2,rfl⟩:=mx0 q;exact fh (A.1 ρ x q1) (R3 ρ rs q2) hs
def stepT (ih:Snd Φ Γ k n){as:Es}(h:cEs (n+1) C es=some as)(hl:es.length≤1)(c:CxC X C)(w:Wz X Φ Γ C k)(ρ:List Sl)(b:Bool)(q:evC Φ Γ ρ as=some b):Ecs X ρ es b:=by
 cases es with
 |nil=>cases h;cases q;exact zu
 |cons e r=>
  cases r with
  |cons=>simp at hl
  |nil=>
   have h:(if isStar e then Option.none else (cE n C e).bind _)=some as:=h;split at h
   ·cases h
   ·obtain⟨a',r',h1,h2,rfl⟩:=aL h
    obtain⟨x,q1,q2⟩:=bx0 (q);obtain⟨t,rfl,ht⟩:=(ih.E _ _ _ h1 X c w).2.2.2.1 ρ x q1;cases q2;exact zv ht
def zE {f:Bf}(h:iy x=some f):x∈bltNames:=by
 unfold iy at h
 repeat' split at h
 all_goals first|grind|(rename_i c;subst c;simp[bltNames])
def DN (h:nX x=some T):x∈bltNames:=by
 unfold nX at h
 repeat' split at h
 all_goals first|grind|(rename_i c;subst c;simp[bltNames])
def vF (ih:Snd Φ Γ k n){f:Str}{E':E}(h:lQ (n+1) C f as=some E')(hg:aq C f=true)(c:CxC X C)(w:Wz X Φ Γ C k):SdE X Φ Γ (.Call (.Name f p) as [] pos) E':=by
 have h:(if C.fns.contains f then (if as.isEmpty then Option.none else (cEs n C as).map fun as'=>E.call f as')
  else if f=("isinstance":Str) then (match oa C as with
   |some q=>(cE n C q.1).map fun a'=>E.isx a' q.2.1 q.2.2
   |Option.none=>(nZ C as).bind fun q=>(cE n C q.1).map fun a'=>E.isi a' q.2)
   else if f=("sorted":Str) then (if as.length=1 then (cEs n C as).map fun as'=>E.bi .srtd as' else Option.none)
   else match kB C f as with
    |some q=>(cEs n C q.2).map fun as'=>E.bi q.1 as'
    |Option.none=>(iy f).bind fun b=>if as.isEmpty then Option.none else (cEs n C as).map fun as'=>E.bi b as')=some E':=h
 split at h
 ·rename_i hf
  split at h
  ·cases h
  ·rename_i hne
   obtain⟨as',h1,rfl⟩:=mx0 h;obtain⟨S1,S2,S3⟩:=ih.Es _ _ _ h1 X c w;cases as with
   |nil=>exact absurd rfl hne
   |cons e es=>
    refine sd_plain (fun ρ=>(Φ f).bind fun φ=>(evs Φ Γ .read φ.lent ρ as').bind φ.run) (fun i i=>rfl) (fun ρ d q=>?_) (fun i=>rfl) (fun z=>by cases z);obtain⟨φ,q1,q⟩:=bx0 q;obtain⟨ds,q2,q⟩:=bx0 q;exact oy (w.fns f hf φ q1) w.room (aC c hg).1 (aC c hg).2.2 (S2 φ.lent ρ ds q2) q S1
 split at h
 ·rename_i hi
  split at h
  ·rename_i qx hqx
   obtain⟨ea,xc,tab⟩:=qx;obtain⟨a',h2,rfl⟩:=mx0 h;subst hi;have A:=ih.E _ _ _ h2 X c w;obtain⟨⟨u,v⟩,e1,hqx⟩:=bx0 hqx;obtain⟨tn,e2,hqx⟩:=bx0 hqx;obtain rfl:=iz e1;obtain⟨tp,rfl⟩:=cf e2
   replace hqx:(if aq C tn&&!isStar u then (C.xcs.lookup tn).map fun z=>(u,z) else Option.none)=some (ea,xc,tab):=hqx
   split at hqx
   ·rename_i hgt
    rw[be0] at hgt;obtain⟨⟨xc',tab'⟩,h3,h4⟩:=mx0 hqx;cases h4;refine sd_plain (fun ρ=>(ev Φ Γ .read ρ a').bind fun x=>(yN tab x).map .bool) (fun i i=>rfl) (fun ρ d q=>?_) (fun i=>rfl) (fun z=>by cases z);obtain⟨x,q1,q⟩:=bx0 q;obtain⟨t,q2,rfl⟩:=mx0 q;obtain⟨e,rfl⟩:=yT q2;exact sj (bC c w hg (by simp[bltNames])) (w.xc _ _ _ h3) (aC c hgt.1).1 (aC c hgt.1).2.2 (A.2.1 ρ _ q1) (by simpa using hgt.2) q2
   ·cases hqx
  obtain⟨⟨ea,T⟩,h1,h⟩:=bx0 h;obtain⟨a',h2,rfl⟩:=mx0 h;subst hi;have A:=ih.E _ _ _ h2 X c w;obtain⟨⟨u,v⟩,e1,h1⟩:=bx0 h1;obtain⟨tn,e2,h1⟩:=bx0 h1;obtain rfl:=iz e1;obtain⟨tp,rfl⟩:=cf e2
  replace h1:(if aq C tn&&!isStar u then (nX tn).map fun T=>(u,T) else Option.none)=some (ea,T):=h1
  split at h1
  ·rename_i hgt
   rw[be0] at hgt;obtain⟨T',h3,h4⟩:=mx0 h1;cases h4;refine sd_plain (fun ρ=>(ev Φ Γ .read ρ a').bind fun x=>(jh T x).map .bool) (fun i i=>rfl) (fun ρ d q=>?_) (fun i=>rfl) (fun z=>by cases z);obtain⟨x,q1,q⟩:=bx0 q;obtain⟨t,q2,rfl⟩:=mx0 q;exact rW (bC c w hg (by simp[bltNames])) (bC c w hgt.1 (DN h3)) h3 (A.2.1 ρ x q1) (by simpa using hgt.2) q2
  ·cases h1
 split at h
 ·rename_i hi
  ·split at h
   ·rename_i hl
    obtain⟨as',h2,rfl⟩:=mx0 h;subst hi;obtain⟨S1,S2,S3⟩:=ih.Es _ _ _ h2 X c w;obtain⟨a,rfl⟩:=List.length_eq_one_iff.mp hl;have Bl:=bC c w hg (by simp[bltNames]);refine sd_plain (fun ρ=>(evs Φ Γ .read [true,true,true] ρ as').bind fun ds=>biD .srtd ds) (fun i i=>rfl) (fun ρ d q=>?_) (fun i=>rfl) (fun z=>by cases z);obtain⟨ds,q1,q⟩:=bx0 q;exact ox c.calm Bl q (S2 _ ρ ds q1) (S1 a ms0)
   ·cases h
 split at h
 ·rename_i nq hn
  obtain⟨as',h2,rfl⟩:=mx0 h;obtain⟨g,sp,as1,qp,rfl,hgg,hs,e2,hw⟩:=oJ hn;obtain⟨b,as2⟩:=nq;cases e2;obtain⟨S1,S2,S3⟩:=ih.Es _ _ _ h2 X c w;refine sd_plain (fun ρ=>(evs Φ Γ .read [true,true,true] ρ as').bind fun ds=>biD b ds) (fun i i=>rfl) (fun ρ d q=>?_) (fun i=>rfl) (fun z=>?_)
  ·obtain⟨ds,q1,q⟩:=bx0 q
   have Ea1:=S2 _ ρ ds q1;obtain⟨rfl,rfl,⟨a,rfl⟩,e⟩:=hw
   ·cases e
    exact ot c.calm (bC c w hg (by simp[bltNames])) (bC c w hgg (by simp[bltNames])) q Ea1 (hs a ms0)
  ·obtain⟨_,_,_,e⟩:=hw
   cases e;cases z
 ·obtain⟨b,h1,h⟩:=bx0 h
  split at h
  ·cases h
  ·rename_i hne
   obtain⟨as',h2,rfl⟩:=mx0 h;obtain⟨S1,S2,S3⟩:=ih.Es _ _ _ h2 X c w;cases as with
   |nil=>exact absurd rfl hne
   |cons e es=>
    have Bl:=bC c w hg (zE h1);refine sd_plain (fun ρ=>(evs Φ Γ .read [true,true,true] ρ as').bind fun ds=>biD b ds) (fun i i=>rfl) (fun ρ d q=>?_) (fun i=>rfl) (fun z ρ d q hd=>?_)
    ·obtain⟨ds,q1,q⟩:=bx0 q
     exact (mr c.calm Bl h1 q (S2 _ ρ ds q1) S1).1
    ·obtain⟨ds,q1,q⟩:=bx0 q
     exact (mr c.calm Bl h1 q (S2 _ ρ ds q1) S1).2 (by cases b<;>exact z) hd
def stepI (ih:Snd Φ Γ k n){e:Expr}{src:I}(h:cI (n+1) C e=some src)(c:CxC X C)(w:Wz X Φ Γ C k):
  (∀ρ ds,evI Φ Γ .walk ρ src=some ds->Si X ρ true e ds)/\(∀ρ ds,evI Φ Γ .read ρ src=some ds->Si X ρ false e ds)/\isSet e=false:=by
 have seq:∀src,(cE n C e).map I.seq=some src->(∀ρ ds,evI Φ Γ .walk ρ src=some ds->Si X ρ true e ds)/\(∀ρ ds,evI Φ Γ .read ρ src=some ds->Si X ρ false e ds):=fun src h=>by
  obtain⟨a',h1,rfl⟩:=mx0 h;have A:=ih.E _ _ _ h1 X c w;refine⟨fun ρ ds q=>?_,fun ρ ds q=>?_⟩
  ·obtain⟨d,q1,q⟩:=bx0 (show (ev Φ Γ .walk ρ a').bind cF=some ds from q)
   exact uZ q (A.2.2.1 ρ d q1)
  ·obtain⟨d,q1,q⟩:=bx0 (show (ev Φ Γ .read ρ a').bind cF=some ds from q)
   exact rX q (A.2.1 ρ d q1)
 unfold cI at h;split at h
 ·rename_i z hz
  obtain⟨f,p1,as,p2⟩:=z;obtain rfl:=pW hz;split at h
  ·rename_i hf
   obtain rfl:f=_:=hf;split at h
   ·rename_i hg
    rw[be0] at hg;have Bl:=bC c w hg.1 (by simp[bltNames]);obtain⟨ea,e3,h2⟩:=bx0 h;obtain rfl:as=[ea]:=aS e3;split at h2
    ·cases h2
    ·rename_i hs
     obtain⟨a',h1,rfl⟩:=mx0 h2;have A:=ih.E _ _ _ h1 X c w;have key:∀wk ρ ds,((ev Φ Γ .val ρ a').bind fun d=>(asI d).bind fun n=>if rOk n then some ((List.range n.toNat).map fun (k:Nat)=>D.int k) else Option.none)=some ds->Si X ρ wk (.Call (.Name "range" p1) [ea] [] p2) ds:=fun wk ρ ds q=>by
      obtain⟨d,q1,q⟩:=bx0 q;obtain⟨i,q2,q⟩:=bx0 q;split at q
      ·rename_i hr
       cases q;obtain rfl:=kz q2;exact rY Bl (A.1 ρ _ q1) hr (bf0 hs)
      ·cases q
     exact⟨key true,key false,rfl⟩
   ·cases h
  split at h
  ·rename_i hf
   obtain rfl:f=_:=hf;split at h
   ·rename_i hg
    rw[be0] at hg;have Bl:=bC c w hg.1 (by simp[bltNames]);obtain⟨ea,e3,h2⟩:=bx0 h;obtain rfl:as=[ea]:=aS e3;obtain⟨eb,h3,h2⟩:=bx0 h2;obtain⟨b',h1,rfl⟩:=mx0 h2;have A:=ih.E _ _ _ h1 X c w;obtain⟨⟨r,p3,as,p4⟩,e4,h4⟩:=bx0 h3;obtain⟨b,e5,hr⟩:=bx0 h4;obtain rfl:=pW e4;obtain rfl:as=[b]:=aS e5;have hr:(if r=("range":Str) then (if aq C r&&!C.fns.contains r&&!isStar b then some b else none) else none)=some eb:=hr;split at hr
    ·rename_i hrn
     subst hrn;split at hr
     ·rename_i hgr
      cases hr;simp only[be0,Bool.not_eq_true'] at hgr;have Br:=bC c w hgr.1.1 (by simp[bltNames]);have key:∀wk ρ ds,((ev Φ Γ .val ρ b').bind fun d=>(asI d).bind fun n=>if rOk n then some ((List.range n.toNat).reverse.map fun (k:Nat)=>D.int k) else Option.none)=some ds->Si X ρ wk (.Call (.Name "reversed" p1) [.Call (.Name "range" p3) [eb] [] p4] [] p2) ds:=fun wk ρ ds q=>by
       obtain⟨d,q1,q⟩:=bx0 q;obtain⟨i,q2,q⟩:=bx0 q;split at q
       ·rename_i hr
        cases q;obtain rfl:=kz q2;exact zp Br Bl (A.1 ρ _ q1) hr hgr.2
       ·cases q
      exact⟨key true,key false,rfl⟩
     ·cases hr
    ·cases hr
   ·cases h
  ·exact⟨(seq _ h).1,(seq _ h).2,rfl⟩
 ·split at h
  ·cases h
  ·rename_i hs
   exact⟨(seq _ h).1,(seq _ h).2,bf0 hs⟩
def zF (ih:Snd Φ Γ k n){e:Expr}{src:I}(h:og (n+1) C tg e=some src)(c:CxC X C)(w:Wz X Φ Γ C k):
  (∀ρ ds,evI Φ Γ .read ρ src=some ds->PI X tg e (tSi X.K ρ false ds))/\isSet e=false:=by
 have old:cI n C e=some src->(∀ρ ds,evI Φ Γ .read ρ src=some ds->PI X tg e (tSi X.K ρ false ds))/\isSet e=false:=fun h=>by
  obtain⟨S1,S2,S3⟩:=ih.I _ _ _ h X c w;exact⟨fun ρ ds q=>S2 ρ ds q tg,S3⟩
 unfold og at h;split at h
 ·rename_i z hz
  obtain⟨f,p,as,pos⟩:=z;obtain rfl:=pW hz;split at h
  ·rename_i hf
   rw[be0] at hf;obtain rfl:f="zip":=od0 hf.1;split at h
   ·rename_i hg
    simp only[be0] at hg;have Bl:=bC c w hg.1.1 (by simp[bltNames]);obtain⟨as',h1,rfl⟩:=mx0 h;obtain⟨S1,S2,S3⟩:=ih.Es _ _ _ h1 X c w;refine⟨fun ρ ds q=>?_,rfl⟩;obtain⟨ls,q1,q⟩:=bx0 (show (evs Φ Γ .read [true,true,true] ρ as').bind uk=some ds from q);have A:=S2 _ ρ ls q1;cases tg with
    |Tuple elts tk tpos=>
     obtain⟨x,y,rfl⟩:=yU (eq_of_beq hf.2);unfold uk at q;split at q
     ·cases q;exact zr Bl A S1
     ·cases q
    |_=>cases hg.2
   ·cases h
  ·exact old h
 ·exact old h
set_option tactic.hygienic false
theorem snd (Φ:Fs)(Γ:List (Str×D))(k:Nat):∀n,Snd Φ Γ k n
 |0=>⟨fun d d d h=>nn h,fun d d d d h=>nn h,fun d d d h=>nn h,fun d d d d h=>nn h,fun d d d d h=>nn h,fun d d d h=>nn h,fun d d d h=>nn h,fun d d d d h=>nn h,fun d d d h=>nn h⟩
 |n+1=>by
  have ih:=snd Φ Γ k n;exact⟨fun C e E' h X c w=>vD ih h c w,fun C a j E' h hs pos X c w=>zD ih h hs c w,fun C eo as h X c w ρ o q=>Gz ih h c w ρ o q,fun C op es E' h pos X c w=>GA ih h c w,fun C f as E' h hg p pos X c w=>vF ih h hg c w,
   fun C es as h X c w=>DM ih h c w,fun C es as h hl X c w ρ b q=>stepT ih h hl c w ρ b q,fun C tg e src h X c w=>zF ih h c w,fun C e src h X c w=>stepI ih h c w⟩
end
section
variable {Φ:Fs}{Γ:List (Str×D)}{C:Cs}
def cW {v:Expr}{t:Option Expr}{line:Nat}(h:dG v=false):swapsWith v t line env=pure false:=by cases v<;>first|rfl|cases h
set_option tactic.hygienic true
def sk {E':E}(h:cE (n+1) C (.ListComp elt [⟨tg,iter,ifs,0⟩] sc p)=some E')(S:Sto X x i)(hD:∀(j:Nat) rows,ρ[j]?≠some (.deep rows))(c:CxC X C)(w:Wz X Φ Γ C k)(hd:ev Φ Γ .val ρ E'=some d):
  E1 X ρ (.Assign [.Name x py] (.ListComp elt [⟨tg,iter,ifs,0⟩] sc p) pos) (.nx (ρ.set i (.own d))):=by
 have ih:=snd Φ Γ k n;have whole:=vD ih h c w;have h':((og n C tg iter).bind fun src=>(gL C sc tg).bind fun (B,nt,js)=>(cTg B tg).bind fun t=>if !gK t nt then Option.none else (if ifs.length≤1 then cEs n B ifs else Option.none).bind fun i'=>(cE n B elt).map fun e'=>E.comp nt js t src i' e')=some E':=h;obtain⟨src,h1,h'⟩:=bx0 h';obtain⟨⟨B,nt,js⟩,h2,h'⟩:=bx0 h';obtain⟨t,h3,h'⟩:=bx0 h';split at h'
 ·cases h'
 ·rename_i hlt
  have hlt:gK t nt=true:=by simpa using hlt
  obtain⟨i',e',h4,h5,rfl⟩:=aL h';have own:bo d=true:=by
   obtain⟨ds,_,q⟩:=bx0 (show (evI Φ Γ .read ρ src).bind _=some d from hd);split at q
   ·obtain⟨out,_,rfl⟩:=mx0 q;rfl
   ·cases q
  cases hsw:(X.env.blockKind==.function&&X.env.kindOf x==some .local&&py.line==p.line&&!(sc.names.any fun (n,k)=>n==x&&(k==.local||k==.cell))) with
  |false=>
   refine oC S hD (whole.2.2.2.2 rfl ρ d hd own) ?_;show (pure (X.env.blockKind==.function&&X.env.kindOf x==some .local&&py.line==p.line&&!(sc.names.any fun (n,k)=>n==x&&(k==.local||k==.cell))):Sem Bool)=pure false;rw[hsw]
  |true=>
   split at h4
   ·rename_i hl
    have R:=fz c h2;obtain⟨S2,S3⟩:=ih.Src _ _ _ _ h1 X c w;have T:iM X Φ Γ sc (aH X (br tg) js) tg t ifs i' elt e':=⟨fun A s H fp=>ql (R.cx A s H fp) h3,
     fun A s H fp ρ b q=>ih.T _ _ _ h4 hl _ (R.cx A s H fp) (w.blk R.same A s H fp) ρ b q,fun A s H fp ρ d q=>(ih.E _ _ _ h5 _ (R.cx A s H fp) (w.blk R.same A s H fp)).1 ρ d q⟩
    obtain⟨ds,q1,q⟩:=bx0 (show (evI Φ Γ .read ρ src).bind _=some d from hd);split at q
    ·rename_i hz
     obtain⟨out,q2,rfl⟩:=mx0 q;rw[R.nt] at q2 hlt;have hloc:X.env.kindOf x=some .local:=by
      simp only[be0] at hsw;exact eq_of_beq hsw.1.1.2
     refine zy S hD R.ok c.calm (S2 ρ ds q1) T hlt (by rw[←big_eq];exact hz) q2 (dh S3) hloc ?_;show (pure (X.env.blockKind==.function&&X.env.kindOf x==some .local&&py.line==p.line&&!(sc.names.any fun (n,k)=>n==x&&(k==.local||k==.cell))):Sem Bool)=pure true;rw[hsw]
    ·cases q
   ·cases h4
def oK {E':E}(h:cE (n+1) C (.ListComp elt [⟨tg,iter,ifs,0⟩] sc p)=some E')(S:Sto X x i)(c:CxC X C)(w:Wz X Φ Γ C k)(hd:ev Φ Γ .val ρ E'=some d):
  E1 X ρ (.Assign [.Name x py] (.ListComp elt [⟨tg,iter,ifs,0⟩] sc p) pos) (.nx (ρ.set i (.dat d))):=by
 have ih:=snd Φ Γ k n;have whole:=vD ih h c w;have h':((og n C tg iter).bind fun src=>(gL C sc tg).bind fun (B,nt,js)=>(cTg B tg).bind fun t=>if !gK t nt then Option.none else (if ifs.length≤1 then cEs n B ifs else Option.none).bind fun i'=>(cE n B elt).map fun e'=>E.comp nt js t src i' e')=some E':=h;obtain⟨src,h1,h'⟩:=bx0 h';obtain⟨⟨B,nt,js⟩,h2,h'⟩:=bx0 h';obtain⟨t,h3,h'⟩:=bx0 h';split at h'
 ·cases h'
 ·rename_i hlt
  have hlt:gK t nt=true:=by simpa using hlt
  obtain⟨i',e',h4,h5,rfl⟩:=aL h';have own:bo d=true:=by
   obtain⟨ds,_,q⟩:=bx0 (show (evI Φ Γ .read ρ src).bind _=some d from hd);split at q
   ·obtain⟨out,_,rfl⟩:=mx0 q;rfl
   ·cases q
  cases hsw:(X.env.blockKind==.function&&X.env.kindOf x==some .local&&py.line==p.line&&!(sc.names.any fun (n,k)=>n==x&&(k==.local||k==.cell))) with
  |false=>
   refine vp S (whole.1 ρ d hd) ?_;show (pure (X.env.blockKind==.function&&X.env.kindOf x==some .local&&py.line==p.line&&!(sc.names.any fun (n,k)=>n==x&&(k==.local||k==.cell))):Sem Bool)=pure false;rw[hsw]
  |true=>
   split at h4
   ·rename_i hl
    have R:=fz c h2;obtain⟨S2,S3⟩:=ih.Src _ _ _ _ h1 X c w;have T:iM X Φ Γ sc (aH X (br tg) js) tg t ifs i' elt e':=⟨fun A s H fp=>ql (R.cx A s H fp) h3,
     fun A s H fp ρ b q=>ih.T _ _ _ h4 hl _ (R.cx A s H fp) (w.blk R.same A s H fp) ρ b q,fun A s H fp ρ d q=>(ih.E _ _ _ h5 _ (R.cx A s H fp) (w.blk R.same A s H fp)).1 ρ d q⟩
    obtain⟨ds,q1,q⟩:=bx0 (show (evI Φ Γ .read ρ src).bind _=some d from hd);split at q
    ·rename_i hz
     obtain⟨out,q2,rfl⟩:=mx0 q;rw[R.nt] at q2 hlt;have hloc:X.env.kindOf x=some .local:=by
      simp only[be0] at hsw;exact eq_of_beq hsw.1.1.2
     refine vq S R.ok c.calm (S2 ρ ds q1) T hlt (by rw[←big_eq];exact hz) q2 (dh S3) hloc ?_;show (pure (X.env.blockKind==.function&&X.env.kindOf x==some .local&&py.line==p.line&&!(sc.names.any fun (n,k)=>n==x&&(k==.local||k==.cell))):Sem Bool)=pure true;rw[hsw]
    ·cases q
   ·cases h4
def jP {v:Expr}{E':E}(h:cE (n+1) C v=some E')(hc:dG v=true):∃elt tg iter ifs sc p,v=.ListComp elt [⟨tg,iter,ifs,0⟩] sc p:=by
 cases v with
 |ListComp elt gens sc p=>
  cases gens with
  |nil=>exact nn h
  |cons g r=>
   obtain⟨tg,iter,ifs,asy⟩:=g;cases asy with
   |negSucc _=>cases r<;>exact nn h
   |ofNat m=>
    cases m with
    |succ _=>cases r<;>exact nn h
    |zero=>
     cases r with
     |cons _ _=>exact nn h
     |nil=>exact⟨_,_,_,_,_,_,rfl⟩
 |SetComp elt gens sc p=>exact nn h
 |DictComp a b gens sc p=>exact nn h
 |_=>cases hc
structure GB (Φ:Fs)(Γ:List (Str×D))(k n:Nat):Prop where
 S:∀C st S',cS n C st=some S'->∀X,CxC X C->Wz X Φ Γ C k->PassesOwn (model X.prog X.w) X.A X.env X.xe->∀ρ o,ex Φ Γ ρ S'=some o->E1 X ρ st o
 Ss:∀C sts S',cSs n C sts=some S'->∀X,CxC X C->Wz X Φ Γ C k->PassesOwn (model X.prog X.w) X.A X.env X.xe->∀ρ o,exs Φ Γ ρ S'=some o->Ep X ρ sts o
def GC (ih:GB Φ Γ k n){S':S}{o:Out}(h:cS (n+1) C st=some S')(c:CxC X C)(w:Wz X Φ Γ C k)(po:PassesOwn (model X.prog X.w) X.A X.env X.xe)(q:ex Φ Γ ρ S'=some o):E1 X ρ st o:=by
 have hu:=w.room.units;have hu1:X.A.units+1<cLine:=by omega
 have ee:=snd Φ Γ k n;cases st with
 |Assign ts v epos=>
  obtain⟨t,e0,h'⟩:=bx0 (show (cG ts).bind _=some S' from h);clear h;obtain rfl:=aS e0;cases t with
  |Name ey epy=>
  have h:(match uw v with
   |some (x,m,b)=>if m=("pop":Str) then (if b then (aY C x).bind fun i=>(dB C ey).bind fun j=>if C.mts.contains j||C.dp.contains j then Option.none else some (S.pop i j) else Option.none) else Option.none
   |Option.none=>(dB C ey).bind fun j=>
    if C.mts.contains j then (cE n C v).bind fun e=>if SI.fresh e then some (S.new j e) else Option.none
    else (cE n C v).map fun e=>S.set j e)=some S':=h'
  clear h';split at h
  ·rename_i x m b hp
   obtain⟨pp,apos,cpos,rfl,hb⟩:=ux hp;split at h
   ·rename_i hm
    split at h
    ·rename_i hl
     have hl:=hb.symm.trans hl;obtain⟨i,h1,h⟩:=bx0 h;obtain⟨j,h2,h⟩:=bx0 h;split at h
     ·cases h
     ·cases h
      subst hm;cases e:ρ[i]? with
      |none=>simp[ex,e] at q
      |some sl=>
       cases sl with
       |own d=>
        cases d with
        |list ds=>
         have q:((ds[ds.length-1]?).map fun d=>Out.nx ((ρ.set i (.own (.list ds.dropLast))).set j (.dat d)))=some o:=by simpa [ex,e] using q
         obtain⟨d,q1,rfl⟩:=mx0 q;exact DJ (bB c h1) (fR c h2) e q1 hl
        |_=>simp[ex,e] at q
       |_=>simp[ex,e] at q
    ·cases h
   ·cases h
  ·obtain⟨j,h1,h⟩:=bx0 h
   have St:=fR c h1;split at h
   ·obtain⟨e,h2,h⟩:=bx0 h
    split at h
    ·rename_i hf
     cases h;have q:(if SI.fresh e&&ρ.all bD then (ev Φ Γ .val ρ e).bind fun d=>if bo d then some (Out.nx (ρ.set j (.own d))) else Option.none else Option.none)=some o:=q;rw[hf,Bool.true_and] at q;split at q
     rotate_left
     ·cases q
     rename_i hnd;have hD:∀(j:Nat) rows,ρ[j]?≠some (.deep rows):=fun j d h=>by have:=List.all_eq_true.mp hnd _ (mg0 h);cases this
     obtain⟨d,q1,q⟩:=bx0 q;split at q
     ·rename_i ho
      cases q;cases hc:dG v with
      |false=>exact oC St hD ((ee.E _ _ _ h2 X c w).2.2.2.2 hf ρ d q1 ho) (cW hc)
      |true=>
       cases n with
       |zero=>exact nn h2
       |succ n=>
        obtain⟨elt,tg,iter,ifs,sc,p,rfl⟩:=jP h2 hc;exact sk h2 St hD c w q1
     ·cases q
    ·cases h
   ·obtain⟨e,h2,rfl⟩:=mx0 h
    obtain⟨d,q1,rfl⟩:=mx0 (show (ev Φ Γ .val ρ e).map _=some o from q);cases hc:dG v with
    |false=>exact vp St ((ee.E _ _ _ h2 X c w).1 ρ d q1) (cW hc)
    |true=>
     cases n with
     |zero=>exact nn h2
     |succ n=>
      obtain⟨elt,tg,iter,ifs,sc,p,rfl⟩:=jP h2 hc;exact oK h2 St c w q1
  |Subscript eo ek ep=>
  have h:(if isSlice ek then Option.none else _)=some S':=h';split at h
  ·cases h
  ·rename_i hks
   have hks:=bf0 hks;obtain⟨x,e1,h2⟩:=bx0 (show (fe eo).bind _=some S' from h);clear h h';obtain⟨xp,rfl⟩:=cf e1;have h:=h2;clear h2;obtain⟨i,h1,h⟩:=bx0 h;obtain⟨e,k',h2,h3,rfl⟩:=aL h;have Ee:=ee.E _ _ _ h2 X c w;have Ke:=ee.E _ _ _ h3 X c w;have V:=bB c h1;have q:((ev Φ Γ .val ρ e).bind fun d=>(ev Φ Γ .val ρ k').bind fun x=>match ρ[i]?,x with
    |some (.own (.list ds)),.int n=>(ixN ds.length n).map fun j=>Out.nx (ρ.set i (.own (.list (ds.set j d))))
    |some (.own (.dict kvs)),x=>(lN x).bind fun key=>if kvs.length<1000 then some (Out.nx (ρ.set i (.own (.dict (put kvs key d))))) else Option.none
    |_,_=>Option.none)=some o:=q
   obtain⟨d,q1,q⟩:=bx0 q;obtain⟨x,q2,q⟩:=bx0 q;split at q
   ·rename_i ds m e1
    obtain⟨j,q3,rfl⟩:=mx0 q;exact zA V (Ee.1 ρ d q1) (Ke.1 ρ _ q2) hks e1 q3
   ·rename_i kvs e1
    obtain⟨key,q3,q⟩:=bx0 q;split at q
    ·rename_i hz
     cases q;exact zB hu1 V (Ee.1 ρ d q1) (Ke.1 ρ _ q2) q3 hks e1 hz
    ·cases q
   ·cases q
  |_=>exact nn h'
 |Expr v epos=>
  obtain⟨⟨x,xp,m,apos,as,cpos⟩,e0,h⟩:=bx0 (show (cm v).bind _=some S' from h);obtain rfl:=ur e0
  replace h:(if apos.endLine==cpos.line then _ else Option.none)=some S':=h
  split at h
  ·rename_i hl
   obtain⟨i,h1,h⟩:=bx0 (show (aY C x).bind _=some S' from h);have V:=bB c h1;obtain⟨ea,e1,h⟩:=bx0 (show (cG as).bind _=some S' from h);obtain rfl:=aS e1
   replace h:(if isStar ea then Option.none else if m=("append":Str) then (cE n C ea).map fun e=>Dd (.app i e) (ownIn C ea) else Option.none)=some S':=h
   split at h
   ·cases h
   ·rename_i hs
    have hs:=bf0 hs;split at h
    ·rename_i hm
     obtain⟨e,h2,rfl⟩:=mx0 h;subst hm;have Ee:=ee.E _ _ _ h2 X c w;generalize ownIn C _=ow at q;cases ow with
     |none=>
      obtain⟨d,q1,q⟩:=bx0 (show (ev Φ Γ .val ρ e).bind _=some o from q);split at q
      ·rename_i ds e1
       split at q
       ·rename_i hz
        cases q;exact vx V (Ee.1 ρ d q1) hs e1 (by rw[←big_eq];exact hz) hl
       ·cases q
      ·cases q
     |some jz=>
      have q:(match ρ[jz]? with|some (.own d)=>ex Φ Γ (ρ.set jz (.dat d)) (.app i e)|_=>Option.none)=some o:=q;split at q
      ·rename_i dz hj
       refine e1_frz hj ?_;generalize ρ.set jz (.dat dz)=ρz at q ⊢;obtain⟨d,q1,q⟩:=bx0 (show (ev Φ Γ .val ρz e).bind _=some o from q);split at q
       ·rename_i ds e1
        split at q
        ·rename_i hz
         cases q;exact vx V (Ee.1 ρz d q1) hs e1 (by rw[←big_eq];exact hz) hl
        ·cases q
       ·cases q
      ·cases q
    ·cases h
  ·cases h
 |If ec ea eb ep=>
  obtain⟨c',h1,h⟩:=bx0 (show (cE n C ec).bind _=some S' from h);obtain⟨a',b',h2,h3,rfl⟩:=aL h;obtain⟨d,q1,q⟩:=bx0 (show (ev Φ Γ .test ρ c').bind _=some o from q);obtain⟨t,rfl,ht⟩:=(ee.E _ _ _ h1 X c w).2.2.2.1 ρ d q1;rw[bZ,bs0] at q;refine Gy ht (fun z=>?_) (fun z=>?_)
  ·subst z;rw[if_pos rfl] at q;exact ih.Ss _ _ _ h2 X c w po ρ o q
  ·subst z;rw[if_neg fx0] at q;exact ih.Ss _ _ _ h3 X c w po ρ o q
 |For tg iter body els ep=>
  cases els with
  |cons _ _=>exact nn h
  |nil=>
  obtain⟨t,h1,h⟩:=bx0 (show (cTg C tg).bind _=some S' from h);obtain⟨src,b,h2,h3,rfl⟩:=aL h;obtain⟨S1,S2,S3⟩:=ee.I _ _ _ h2 X c w;have go:∀ρ (ep:Pos),ex Φ Γ ρ (.fors t src b)=some o->E1 X ρ (.For _ _ _ [] ep) o:=fun ρ ep q=>by
   obtain⟨ds,q1,q⟩:=bx0 (show (evI Φ Γ .walk ρ src).bind _=some o from q);exact DI (S1 ρ ds q1) (ql c h1) (fun ρ' o' q'=>ih.Ss _ _ _ h3 X c w po ρ' o' q') q c.calm po (dh S3)
  generalize ownN C _=ow at q;cases ow with
  |none=>exact go ρ _ q
  |some jz=>
   have q:(match ρ[jz]? with|some (.own d)=>ex Φ Γ (ρ.set jz (.dat d)) (.fors t src b)|_=>Option.none)=some o:=q;split at q
   ·rename_i dz hj;exact e1_frz hj (go _ _ q)
   ·cases q
 |Return er ep=>
  cases er with
  |none=>exact nn h
  |some er=>
  obtain⟨e,h1,rfl⟩:=mx0 (show (cE n C er).map _=some S' from h);obtain⟨d,q1,rfl⟩:=mx0 (show (ev Φ Γ .val (ρ.map freeze) e).map _=some o from q);exact DG ((ee.E _ _ _ h1 X c w).1 _ d q1)
 |_=>exact nn h
set_option tactic.hygienic false
theorem vG (Φ:Fs)(Γ:List (Str×D))(k:Nat):∀n,GB Φ Γ k n
 |0=>⟨fun a a a h=>nn h,fun a a a h=>nn h⟩
 |n+1=>by
  have ih:=vG Φ Γ k n;refine⟨fun C st S' h X c w po ρ o q=>GC ih h c w po q,fun C sts S' h X c w po ρ o q=>?_⟩;cases sts with
  |nil=>cases h;cases q;exact DF
  |cons st r=>
   obtain⟨s',r',h1,h2,rfl⟩:=aL (show ((cS n C st).bind fun s'=>(cSs n C r).map fun r'=>Ss.cons s' r')=some S' from h);obtain⟨o1,q1,q⟩:=bx0 (show (ex Φ Γ ρ s').bind _=some o from q);cases o1 with
   |nx ρ1=>exact vj (ih.S _ _ _ h1 X c w po ρ _ q1) (ih.Ss _ _ _ h2 X c w po ρ1 o q)
   |rt d=>cases q;exact vk (ih.S _ _ _ h1 X c w po ρ _ q1)
end
section
variable {Φ:Fs}{Γ:List (Str×D)}
def fT {G:Hp}{dfn:Def}:∀{ds:List D} {vs:List V},Same G H->Das K G H dfn.lent ds vs->ds.length=dfn.lent.length->dfn.slots=N.length->vs.length≤N.length->EnvD K G H G H (start N vs) (bN dfn ds):=by
 intro ds vs s r hl hs hn;have len:=r.length;have rep:∀(i n:Nat) sl,(List.replicate n Sl.no)[i]?=some sl->sl=.no:=fun i n sl h=>by
  rw[List.getElem?_replicate] at h;split at h
  ·cases h;rfl
  ·cases h
 have at':∀(fl:List Bool) (ds:List D) (vs:List V),Das K G H fl ds vs->ds.length=fl.length->∀(i:Nat) sl,((fl.zip ds).map (fun p=>if p.1 then Sl.lent p.2 else .dat p.2))[i]?=some sl->
   ∃d v,vs[i]?=some v/\((sl=.lent d/\Dr K G H d v)\/(sl=.dat d/\Dp K G d v)):=by
  intro fl ds vs r
  induction r with
  |nil=>intro hl i sl h;simp at h
  |@cons fl d v ds vs h1 h2 _ ih=>
   intro hl i sl h;cases fl with
   |nil=>simp at hl
   |cons b fl=>
    cases i with
    |zero=>
     simp at h;refine⟨d,v,rfl,?_⟩;cases b with
     |true=>exact .inl ⟨by simpa using h.symm,h2⟩
     |false=>exact .inr ⟨by simpa using h.symm,h1 rfl⟩
    |succ i=>simpa using ih (by simpa using hl) i sl (by simpa using h)
 have zl:((dfn.lent.zip ds).map (fun p=>if p.1 then Sl.lent p.2 else Sl.dat p.2)).length=vs.length:=by simp[len,←hl]
 have slot:∀(i:Nat) sl,(bN dfn ds)[i]?=some sl->sl=.no\/∃d v,(start N vs)[i]?=some (some v)/\((sl=.lent d/\Dr K G H d v)\/(sl=.dat d/\Dp K G d v)):=fun i sl h=>by
  unfold bN at h
  by_cases hi:i<vs.length
  ·rw[gl0 (by rw[zl];exact hi)] at h
   obtain⟨d,v,e,q⟩:=at' dfn.lent ds vs r hl i sl h;refine .inr ⟨d,v,?_,q⟩;unfold start;rw[gl0 (by simpa using hi),gm0,e];rfl
  ·rw[List.getElem?_append_right (by rw[zl];simp_all)] at h
   exact .inl (rep _ _ _ h)
 refine⟨.refl s,?_,fun i d h=>?_,fun i d h=>?_,fun i d h=>?_,fun i j d e p h=>?_,fun i rows h=>?_⟩
 ·unfold start bN
  simp[hs,len,←hl]
 ·rcases slot i _ h with z|⟨d',v,e,z|z⟩
  ·cases z
  ·cases z.1
  ·cases z.1;exact⟨v,e,z.2⟩
 ·rcases slot i _ h with z|⟨d',v,e,z|z⟩
  ·cases z
  ·cases z.1;exact⟨v,e,z.2⟩
  ·cases z.1
 ·rcases slot i _ h with z|⟨d',v,e,z|z⟩
  ·cases z
  ·cases z.1
  ·cases z.1
 ·rcases slot i _ h with z|⟨d',v,e,z|z⟩
  ·cases z
  ·cases z.1
  ·cases z.1
 ·rcases slot i _ h with z|⟨d',v,e,z|z⟩
  ·cases z
  ·cases z.1
  ·cases z.1
structure zG (P:Program)(w:World)(K:Fg)(mg:Str->Option Value)(base:Heap)(Φ:Fs)(Γ:List (Str×D))(fns:List Str)(vc:Option Nat)(xcs:List (Str×Nat×List (Nat×Bool)))(k:Nat):Prop where
 blt:∀x∈bltNames,mg x=Option.none
 fns:∀x,fns.contains x=true->∀φ,Φ x=some φ->FnZ P w K mg base k x φ
 gl:∀x d,Γ.lookup x=some d->∃u v,mg x=some u/\RelV v u/\∀G,Dp K G d v
 vcl:∀c,vc=some c->Cls K c/\NoAttr K c "objects"
 xc:∀t c tab,xcs.lookup t=some (c,tab)->XcZ K mg t c tab
noncomputable def zH (Φ:Fs)(Γ:List (Str×D))(d:Def):Fn:=⟨d.lent,fun ds=>if ds.length=d.lent.length then (exs Φ Γ (bN d ds) d.body).bind Out.val else Option.none⟩
set_option tactic.hygienic true in
def GD {ps:List Str}{dfn:Def}{vc:Option Nat}{xcs:List (Str×Nat×List (Nat×Bool))}(F:Fun K x qual st f fd)(S:aX (ps++au (defScope st) ps) ps (defScope st))(hp:bp st=some (ps,defBody st,defScope st))(hd:lR fns cst lent st vc xcs=some dfn)(hlen:lent.length=ps.length)
  (M:zG P w K mg base Φ Γ fns vc xcs k):FnOk P w K mg base CX0 (k+1) f fd ps (Pur K (zH Φ Γ dfn)):=by
 unfold lR at hd;rw[hp,bs0] at hd;obtain⟨b,hb,rfl⟩:=mx0 (show (cSs 60 (dH fns cst ps (defBody st) (defScope st) vc xcs) (defBody st)).map _=some dfn from hd);refine F.ok S (fun vs H Q E h=>?_) (fun cdv A outer s H vs Q E hr h=>?_)
 ·obtain⟨ds,d,G,h1,_,r,_⟩:=h
  have h1:(if ds.length=lent.length then _ else Option.none)=some d:=h1;split at h1
  ·rename_i hl;rw[←r.length,hl,hlen]
  ·cases h1
 ·obtain⟨ds,d,G,h1,sm,r,kq⟩:=h
  have h1:(if ds.length=lent.length then (exs Φ Γ (bN ⟨lent,(ps++au (defScope st) ps).length,b⟩ ds) b).bind Out.val else Option.none)=some d:=h1;split at h1
  ·rename_i hl
   obtain⟨o,h2,h3⟩:=bx0 h1;have hpre:=congrArg List.length S.pre;rw[List.length_take] at hpre;have C:CxC (cN CX0 P w K mg base (ps++au (defScope st) ps) qual (defScope st) f cdv A outer s H E).nox (dH fns cst ps (defBody st) (defScope st) vc xcs):=by
    refine⟨rfl,S.nd,fun y kd e ek=>?_,fun y kd e ek=>⟨?_,.inl rfl⟩,fun y e=>e,fun y e=>e,rfl,S.kind⟩
    ·rcases ek with rfl|rfl|rfl
     ·exact .inl e
     ·exact .inr (.inl e)
     ·exact .inr (.inr e)
    ·rcases ek with rfl|rfl
     ·exact .inl e
     ·exact .inr e
   have W:Wz (cN CX0 P w K mg base (ps++au (defScope st) ps) qual (defScope st) f cdv A outer s H E).nox Φ Γ (dH fns cst ps (defBody st) (defScope st) vc xcs) k:=⟨M.blt,M.fns,M.gl,hr,M.vcl,M.xc⟩;have body:=(vG Φ Γ k 60).Ss _ _ _ hb _ C W PassesOwn.never _ o h2;refine⟨_,body,G,H,G,fT sm r hl rfl (by rw[←r.length,hl,hlen];omega),?_⟩;cases o with
   |nx ρ'=>
    cases h3;exact fun G' H' σ' env a=>kq .non G' H' env.ext .none
   |rt d'=>
    cases h3;exact fun v G' H' dv e=>kq v G' H' e dv
  ·cases h1
structure oM (K:Fg)(mg:Str->Option Value)(fns cst:List Str)(vc:Option Nat)(xcs:List (Str×Nat×List (Nat×Bool)))(x:Str)(d:Def):Prop where
 ex:∃st f fd ps,Fun K x x st f fd/\mg x=some (.ref f)/\Binds K fd ps []/\aX (ps++au (defScope st) ps) ps (defScope st)/\bp st=some (ps,defBody st,defScope st)/\lR fns cst d.lent st vc xcs=some d/\d.lent.length=ps.length
structure Base (K:Fg)(mg:Str->Option Value)(Γ:List (Str×D))(vc:Option Nat)(xcs:List (Str×Nat×List (Nat×Bool))):Prop where
 blt:∀x∈bltNames,mg x=Option.none
 gl:∀x d,Γ.lookup x=some d->∃u v,mg x=some u/\RelV v u/\∀G,Dp K G d v
 vcl:∀c,vc=some c->Cls K c/\NoAttr K c "objects"
 xc:∀t c tab,xcs.lookup t=some (c,tab)->XcZ K mg t c tab
theorem gZ {prog:List (Str×Def)}{vc:Option Nat}{xcs:List (Str×Nat×List (Nat×Bool))}(B:Base K mg Γ vc xcs)(defs:∀x d,fns.contains x=true->prog.lookup x=some d->oM K mg fns cst vc xcs x d):
  ∀k x φ,den prog Γ k x=some φ->fns.contains x=true->FnZ P w K mg base k x φ
 |0,x,φ,h=>by cases h
 |k+1,x,φ,h=>by
  obtain⟨d,h1,rfl⟩:=mx0 (show (prog.lookup x).map _=some φ from h);intro hx;obtain⟨st,f,fd,ps,F,hm,hb,S,hp,hd,hl⟩:=(defs x d hx h1).ex;exact⟨⟨f,fd,ps,hm,F.kp,hb,GD F S hp hd hl ⟨B.blt,fun y hy φ' q=>gZ B defs k y φ' q hy,B.gl,B.vcl,B.xc⟩⟩⟩
end
noncomputable def vH (K:Fg):Sp:=fun vs H Q b=>∃(a:Addr) (ns:List Int),vs=[.ref a]/\SqL K H a (ns.map V.int)/\ns.length≤63/\∀H',Q (.bl true) H'
mutual
inductive IsK (h:Heap):Nat->D->Value->Prop
 |int {n:Nat} (i:Int) (t:Tok):IsK h n (.int i) (.int i t)
 |str {n:Nat} (x:Str) (t:Tok):PyData.strOk x=true->IsK h n (.str x) (.str x t)
 |tup {n:Nat} {a:Addr} {o:Obj} {items:List Value} {m:Nat} {ds:List D}:h.get? a=some o->o.cls=.type "tuple"->o.data=.seq items.toArray m->IsKs h n ds items->IsK h (n+1) (.tuple ds) (.ref a)
inductive IsKs (h:Heap):Nat->List D->List Value->Prop
 |nil {n:Nat}:IsKs h n [] []
 |cons {n:Nat} {d:D} {v:Value} {ds:List D} {vs:List Value}:IsK h n d v->IsKs h n ds vs->IsKs h n (d::ds) (v::vs)
end
def isk {P:Nat->D->Value->Prop}{R:Nat->List D->List Value->Prop}(hi:∀n i t,P n (.int i) (.int i t))(hs:∀n x t,PyData.strOk x=true->P n (.str x) (.str x t))
  (ht:∀{n a o items m ds},h.get? a=some o->o.cls=.type "tuple"->o.data=.seq (List.toArray items) m->R n ds items->P (n+1) (.tuple ds) (.ref a)) (h0:∀n,R n [] []) (hc:∀{n d v ds vs},P n d v->R n ds vs->R n (d::ds) (v::vs)):
  (∀{n d v},IsK h n d v->P n d v)/\∀{n ds vs},IsKs h n ds vs->R n ds vs:=
 ⟨fun x=>IsK.rec (motive_1:=fun n d v e=>P n d v) (motive_2:=fun n ds vs e=>R n ds vs) (fun i t=>hi _ i t) (fun x t o=>hs _ x t o) (fun a b c e r=>ht a b c r) (h0 _) (fun e e a b=>hc a b) x,
  fun x=>IsKs.rec (motive_1:=fun n d v e=>P n d v) (motive_2:=fun n ds vs e=>R n ds vs) (fun i t=>hi _ i t) (fun x t o=>hs _ x t o) (fun a b c e r=>ht a b c r) (h0 _) (fun e e a b=>hc a b) x⟩
def isk_inj :(∀{n d v},IsK h n d v->∀{m e},IsK h m e v->d=e)/\∀{n ds vs},IsKs h n ds vs->∀{m es},IsKs h m es vs->ds=es:=
 isk (P:=fun f d v=>∀{m e},IsK h m e v->d=e) (R:=fun f ds vs=>∀{m es},IsKs h m es vs->ds=es) (fun n i t m e b=>by cases b;rfl) (fun n x t f m e b=>by cases b;rfl) (fun h1 f h3 r m e b=>by
  cases b with
  |tup k1 _ k3 k4=>
   rw[h1] at k1;cases k1;rw[h3] at k3;have e:_=_:=k3;simp only[Data.seq.injEq] at e;have e:=congrArg Array.toList e.1;simp only[List.toList_toArray] at e;subst e;rw[r k4]) (fun n m es b=>by cases b;rfl) fun a r m es b=>by
  cases b with
  |cons c d=>rw[a c,r d]
def IsK.inj {m:Nat}{e:D}(a:IsK h n d v)(b:IsK h m e v):d=e:=isk_inj.1 a b
def sq (k:∀a o items m,h.get? a=some o->o.data=.seq items m->h'.get? a=some o):(∀{n d v},IsK h n d v->IsK h' n d v)/\∀{n ds vs},IsKs h n ds vs->IsKs h' n ds vs:=
 isk (fun b i t=>.int i t) (fun b x t o=>.str x t o) (fun h1 h2 h3 r=>.tup (k _ _ _ _ h1 h3) h2 h3 r) (fun b=>.nil) fun a r=>.cons a r
def IsK.keeps (k:∀a o items m,h.get? a=some o->o.data=.seq items m->h'.get? a=some o)(x:IsK h n d v):IsK h' n d v:=(sq k).1 x
def IsK.reads (x:IsK h n d v):∃as,Reads h v (PySem.W.kqdP (toW d)) as:=
 (isk (P:=fun a d v=>∃as,Reads h v (PySem.W.kqdP (toW d)) as) (R:=fun a ds vs=>∃as,ReadsAll h vs (PySem.W.kqdPs (dC ds)) as) (fun a i t=>⟨_,Reads.int i t⟩) (fun a x t a=>⟨_,Reads.str x t⟩) (fun h1 h2 h3 ⟨as,w⟩=>⟨_,Reads.tuple h1 h2 h3 (by simpa using w)⟩) (fun a=>⟨_,.nil⟩) fun⟨_,w⟩ ⟨_,u⟩=>⟨_,.cons w u⟩).1 x
def IsK.ok (x:IsK h n d v):okS n d=true:=
 (isk (P:=fun n d b=>okS n d=true) (R:=fun n ds b=>ds.all (okS n)=true) (fun n i t=>by cases n<;>rfl) (fun n x t b=>by cases n<;>rfl) (fun b b b r=>r) (fun b=>rfl) fun a r=>by rw[List.all_cons,a,r];rfl).1 x
mutual
noncomputable def mB (w:World):D->Int
 |.int i=>hashInt i
 |.str x=>hashStr w x
 |.tuple ds=>reduceHash (Builtin.Tuple.tupleHashOf (cH w ds))
 |_=>0
noncomputable def cH (w:World):List D->List Int
 |[]=>[]
 |d::r=>mB w d::cH w r
end
mutual
noncomputable def mC:D->Nat
 |.tuple ds=>kP ds+1
 |_=>1
noncomputable def kP:List D->Nat
 |[]=>0
 |d::r=>mC d+kP r
end
def IsK.kok (x:IsK h n d v):PySem.W.kqdOk n (toW d)=true:=
 (isk (P:=fun n d b=>PySem.W.kqdOk n (toW d)=true) (R:=fun n ds b=>(dC ds).all (PySem.W.kqdOk n)=true) (fun n i t=>by cases n<;>rfl) (fun n x t o=>by cases n<;>exact o) (fun b b b r=>r) (fun b=>rfl) fun {n d _ ds _} a r=>by
  show (PySem.W.kqdOk _ (toW _)&&(dC _).all (PySem.W.kqdOk _))=true;rw[a,r];rfl).1 x
section
variable {E:Value->Shared->Prop}
def su {A:Around}(one:∀{d:D} {v:Value} {s:Shared} {Q:Int->Shared->Prop},s.heap=h->IsK h n d v->Q (mB w d) {s with toks:=s.toks+mC d}->wpAny (model prog w) A (pyHash v) Q E s):
  ∀(vs:List Value) (ds:List D) (acc:Array Int) (s:Shared) (Q:Array Int->Shared->Prop),s.heap=h->IsKs h n ds vs->Q (acc++(cH w ds).toArray) {s with toks:=s.toks+kP ds}->
   wpAny (model prog w) A (forIn vs acc fun x acc=>do let i ←pyHash x;pure (ForInStep.yield (acc.push i))) Q E s:=by
 intro vs
 induction vs with
 |nil=>
  intro ds acc s Q e r q;cases r;rw[List.forIn_nil];refine wq0 ?_;have:acc++(cH w []).toArray=acc:=by simp[cH]
  rw[this] at q;exact q
 |cons v vs ih=>
  intro ds acc s Q e r q;cases r with
  |@cons _ d _ ds _ a b=>
   rw[List.forIn_cons];refine wb0 (wb0 (one e a (wq0 ?_)));refine ih ds _ _ Q e b ?_;have e1:acc.push (mB w d)++(cH w ds).toArray=acc++(cH w (d::ds)).toArray:=by simp[cH]
   rw[e1];show Q _ {s with toks:=s.toks+mC d+kP ds};rw[Nat.add_assoc];exact q
def vI:∀{n:Nat} {A:Around} {d:D} {v:Value} {s:Shared} {Q:Int->Shared->Prop},A.units+n<cLine+1->IsK s.heap n d v->Q (mB w d) {s with toks:=s.toks+mC d}->wpAny (model prog w) A (pyHash v) Q E s:=by
 intro n
 induction n with
 |zero=>
  intro A d v s Q hu hk q;cases hk with
  |int i t=>exact wpAny_pyHash_int q
  |str x t _=>exact wpAny_pyHash_str q
 |succ n ih=>
  intro A d v s Q hu hk q;cases hk with
  |int i t=>exact wpAny_pyHash_int q
  |str x t _=>exact wpAny_pyHash_str q
  |@tup _ a o items m ds h1 h2 h3 h4=>
   have hT:s.TypeIs (.ref a) "tuple":=⟨o,h1,h2⟩;show wpAny (model prog w) A (pyHashByItsType (.ref a)) Q E s;refine PySem.W.pyHash_slot hT F.slot_tuple_hash F.entry_tuple_hash (F.args_tuple_hash_1 _) (by decide) (.inr (by grind)) ?_;unfold Builtin.«tuple.__hash__»;refine wb0 (wpAny_of_eq (a:=(.ref a,[])) rfl ?_);dsimp only;unfold Builtin.Tuple.tupleItemsOf;refine wb0 (wb0 (wpAny_seqItems h1 h3 (wq0 ?_)));refine wb0 ?_;rw[←Array.forIn_toList];refine su (A:=A.in1) (n:=n) (h:=s.heap) (fun e a q=>ih (by show A.units+1+n<cLine+1;grind) (by rw[e];exact a) q) items ds #[] s _ rfl h4 ?_
   unfold retInt
   wp_walk
   refine⟨_,_,rfl,?_⟩;have e:(#[]++(cH w ds).toArray:Array Int).toList=cH w ds:=by simp
   rw[e];exact q
def vJ {A:Around}{e:D}{a b:Addr}{Q:Bool->Shared->Prop}(hu:A.units+64<cLine)(h1:IsK s.heap 8 d (.ref a))(h2:IsK s.heap 8 e (.ref b))(q:Q (decide (d=e)) s):wpAny (model prog w) A (eqBool (.ref a) (.ref b)) Q E s:=by
 refine wh0 ?_
 by_cases c:a=b
 ·subst c
  rw[if_pos (by simp)];refine wb0 (wpAny_rule (wq0 ?_));rw[IsK.inj h1 h2] at q
  simpa using q
 ·rw[if_neg (by simpa using c)]
  obtain⟨as,ra⟩:=h1.reads;obtain⟨bs,rb⟩:=h2.reads;have ev:PyData.eqv (PySem.W.kqdP (toW d)) (PySem.W.kqdP (toW e))=decide (d=e):=by
   have z:=PySem.W.kqd_eqv 8 (toW d) (toW e) 8 h1.kok h2.kok
   by_cases c':d=e
   ·rw[dt0 c'];exact z.mpr (by rw[c'])
   ·rw[df0 c']
    exact bf0 fun y=>c' (kF 8 8 d e h1.ok h2.ok (z.mp y))
  exact wb0 (eq_dataH (prog:=prog) (w:=w) (A:=A) (E:=E) ra rb (bV h1.kok) (bV h2.kok) hu (by
   rw[ev];exact wpAny_truthy_bool q))
def zI:∀{n m:Nat} {A:Around} {d:D} {v:Value} {s:Shared} {Q:Bool->Shared->Prop},n≤m->IsK s.heap n d v->Q true s->wpAny (model prog w) A (eqIsQuiet m v) Q E s:=by
 intro n
 induction n with
 |zero=>
  intro m A d v s Q _ hk q;cases hk with
  |int i t=>cases m<;>exact wq0 q
  |str x t _=>cases m<;>exact wq0 q
 |succ n ih=>
  intro m A d v s Q hm hk q;cases hk with
  |int i t=>cases m<;>exact wq0 q
  |str x t _=>cases m<;>exact wq0 q
  |@tup _ a o items k ds h1 h2 h3 h4=>
   obtain⟨m,rfl⟩:∃m',m=m'+1:=⟨m-1,by grind⟩;have hT:s.TypeIs (.ref a) "tuple":=⟨o,h1,h2⟩;unfold eqIsQuiet;refine wb0 (wpAny_specialOf hT F.slot_tuple_eq.lookup ?_);refine wb0 (wpAny_isInstance hT PySem.isSubtype_tuple_tuple ?_);rw[if_neg (by decide)];show wpAny (model prog w) A (seqItems? (.ref a) >>= _) Q E s;refine wb0 (wpAny_seqItems h1 h3 ?_);show wpAny (model prog w) A (forIn items.toArray ((none:Option Bool),()) _ >>= _) Q E s;rw[←Array.forIn_toList];have all:∀(vs:List Value) (es:List D) (Q':Option Bool×Unit->Shared->Prop),IsKs s.heap n es vs->Q' (none,()) s->
     wpAny (model prog w) A (forIn vs ((none:Option Bool),()) fun y __s=>do
      let __do_lift ←eqIsQuiet m y
      if (!__do_lift)=true then pure (ForInStep.done (some false,())) else pure (ForInStep.yield (none,()))) Q' E s:=by
    intro vs
    induction vs with
    |nil=>intro es Q' _ q';rw[List.forIn_nil];exact wq0 q'
    |cons v vs ih2=>
     intro es Q' hk q';cases hk with
     |cons a b=>
      rw[List.forIn_cons];refine wb0 (wb0 (ih (by simp_all) a ?_));rw[if_neg (by decide)];exact wq0 (ih2 _ Q' b q')
   exact wb0 (all items ds _ h4 (wq0 q))
noncomputable def mD (prog:Program)(w:World):HeapKind prog w D where
 is:=fun h d a=>IsK h 8 d (.ref a)
 hash:=mB w
 draws:=mC
 room:=fun A=>A.units+64<cLine
 inj:=fun h1 h2=>IsK.inj h1 h2
 keeps:=fun {h h' k a d o es ep} hk ho hd sb=>hk.keeps fun b u items m e c=>(sb.2 b (fun z=>by
  subst z;rw[ho] at e;cases e;rw[hd] at c;cases c)).trans e
 pyHash:=fun {A E s k a Q} hu hk q=>vI (by omega) hk q
 eqBool:=fun {A E s x y a b Q} hu h1 h2 q=>vJ hu h1 h2 q
 quiet:=fun {A E s k a Q} hk q=>zI (nr0 _) hk q
end
noncomputable abbrev Vd:=List (Addr×Addr×Addr)
noncomputable def parts (d:Vd):List Addr:=lamTs.map (·.1)++d.flatMap fun p=>[p.2.1,p.2.2]
noncomputable def er (H:Hp)(ps:List Addr):Hp:=fun b=>if b∈ps then Option.none else H b
def iO {b:Addr}(h:b∈ps):er H ps b=Option.none:=if_pos h
def aA {b:Addr}(h:b∉ps):er H ps b=H b:=if_neg h
def aU {b:Addr}{o:HO}(h:er H ps b=some o):b∉ps/\H b=some o:=by
 by_cases q:b∈ps
 ·rw[iO q] at h;cases h
 ·rw[aA q] at h;exact⟨q,h⟩
def ao :Same (er H ps) H:=fun b o h=>(aU h).2
def zJ (s:Same H H'):Same (er H ps) (er H' ps):=fun b o h=>by
 obtain⟨h1,h2⟩:=aU h;rw[aA h1];exact s b o h2
def fU {d:Vd}{h:Nat}{a n:Addr}(e:d[h]?=some (a,l,n)):l∈parts d/\n∈parts d:=
 ⟨mr0 _ (List.mem_flatMap.mpr ⟨_,mg0 e,by simp⟩),mr0 _ (List.mem_flatMap.mpr ⟨_,mg0 e,by simp⟩)⟩
def of_parts {d:Vd}{b:Addr}(e:b∈parts d):(∃p∈lamTs,b=p.1)\/∃(h:Nat) (a l n:Addr),d[h]?=some (a,l,n)/\(b=l\/b=n):=by
 rcases ma0 e with e|e
 ·obtain⟨p,h1,h2⟩:=mm0 e
  exact .inl ⟨p,h1,h2.symm⟩
 obtain⟨⟨a,l,n⟩,h1,h2⟩:=List.mem_flatMap.mp e;obtain⟨h,hh⟩:=List.getElem?_of_mem h1;exact .inr ⟨h,a,l,n,hh,by simpa using h2⟩
inductive eM:Nat->List (D×Addr×Value)->List Addr->List D->Prop
 |nil {k:Nat}:eM k [] [] []
 |cons {k:Nat} {t:Tok} {d:D} {a:Addr} {xs:List (D×Addr×Value)} {as:List Addr} {ds:List D}:eM (k+1) xs as ds->eM k ((d,a,.int k t)::xs) (a::as) (d::ds)
noncomputable def cj (P:Program)(w:World)(n:Addr)(as:List Addr)(objs:List D):Heap->Prop:=fun h=>
 (n==sysModules)=false/\∃xs:List (D×Addr×Value),eM 0 xs as objs/\objs.length≤1000000/\
  ∃o es ep,h.get? n=some o/\o.ExactDict/\o.data=.dict es ep/\es.toList=xs.map (entryOfKey (mD P w))/\(xs.map (·.1)).Nodup
noncomputable def okK:Nat->D->Bool
 |_,.int _=>true
 |_,.str _=>true
 |n+1,.tuple ds=>ds.all (okK n)
 |_,_=>false
noncomputable def jn:D->Bool
 |.tuple _=>true
 |_=>false
structure VS (P:Program)(w:World)(K:Fg)(C:Addr)(G H:Hp)(d:Vd)(U:List (List D)):Prop where
 len:d.length=U.length
 nd:(parts d).Nodup
 at':∀(h:Nat) a l n,d[h]?=some (a,l,n)->∃dx objs,U[h]?=some objs/\G a=some (.ins C dx (vfs l n h))/\H dx=some (.own a)/\
  ∃as:List Addr,H l=some (.lst (as.map .ref))/\Dps K G objs (as.map .ref)/\H n=some (.ext (cj P w n as objs))/\∀d∈objs,okK 8 d=true/\jn d=true
 uni:∀a C' dx fs,H a=some (.ins C' dx fs)->∃(h:Nat) (l n:Addr),d[h]?=some (a,l,n)
 out:∀b∈parts d,G b=Option.none
 tb:∀p∈lamTs,∃ps,H p.1=some (.tbl p.2 ps)
def VS.part {C:Addr}{G:Hp}{d:Vd}{U:List (List D)}(v:VS P w K C G H d U){b:Addr}(h:b∈parts d):∃o,H b=some o:=by
 rcases of_parts h with⟨p,hp,rfl⟩|⟨i,a,l,n,e,q⟩
 ·obtain⟨ps,e⟩:=v.tb p hp
  exact⟨_,e⟩
 obtain⟨dx,objs,_,_,_,as,h1,_,h2,_⟩:=v.at' i a l n e;rcases q with rfl|rfl
 ·exact⟨_,h1⟩
 ·exact⟨_,h2⟩
def VS.step {C:Addr}{G:Hp}{d:Vd}{U:List (List D)}(v:VS P w K C G H d U)(e:Ext G H G' H'):VS P w K C G' H' d U:=
 ⟨v.len,v.nd,fun h a l n q=>by
  obtain⟨dx,objs,h1,h2,h3,as,h4,h5,h6,h7⟩:=v.at' h a l n q;exact⟨dx,objs,h1,e.gg _ _ h2,e.hh _ _ h3,as,e.hh _ _ h4,h5.mono e.gg,e.hh _ _ h6,h7⟩,
  fun a C' dx fs q=>v.uni a C' dx fs (e.ni a C' dx fs q),fun b hb=>let ⟨o,ho⟩:=v.part hb;e.nw b o (v.out b hb) ho,fun p hp=>let ⟨ps,q⟩:=v.tb p hp;⟨ps,e.hh _ _ q⟩⟩
theorem Ext.er {G:Hp}(e:Ext G H G' H')(hp:∀b∈ps,G b=Option.none/\∃o,H b=some o)(s:Same G (er H ps)):Ext G (er H ps) G' (er H' ps):=
 ⟨zJ e.hh,e.gg,fun b o q=>by
  have nb:b∉ps:=fun hb=>by
   obtain⟨h1,o',h2⟩:=hp b hb;rw[e.nw b o' h1 h2] at q;cases q
  rw[aA nb];exact e.gh b o q,fun b o h1 h2=>e.nw b o h1 (aU h2).2,fun b C dx fs q=>by
  obtain⟨h1,h2⟩:=aU q;rw[aA h1];exact e.ni b C dx fs h2⟩
def Dr.monoH {G:Hp}{v:V}(s:Same H H'):Dr K G H d v->Dr K G H' d v
 |.of h=>.of h
 |.list h r=>.list (s _ _ h) r
 |.dict h r=>.dict (s _ _ h) r
 |.vlt h1 h2 r=>.vlt (s _ _ h1) (s _ _ h2) r
def zK {n l' n':Addr}{h h':Nat}(e:vfs l n h=vfs l' n' h'):l=l'/\n=n'/\h=h':=by
 injection e with e1 e2
 injection e2 with e2 e3
 injection e3 with e3 _
 injection e1 with _ e1
 injection e2 with _ e2
 injection e3 with _ e3
 injection e1 with e1
 injection e2 with e2
 injection e3 with e3
 exact⟨e1,e2,Int.ofNat.inj e3⟩
theorem VS.hdl {P:Program}{w:World}{K:Fg}{C:Addr}{G H:Hp}{d:Vd}{U:List (List D)}(v:VS P w K C G H d U)(s:Same G H){h:Nat}{u:V}(q:Dp K G (.hdl h) u):
  ∃a l n dx objs,u=.ref a/\d[h]?=some (a,l,n)/\U[h]?=some objs/\G a=some (.ins C dx (vfs l n h))/\H dx=some (.own a)/\
   ∃as:List Addr,H l=some (.lst (as.map .ref))/\Dps K G objs (as.map .ref)/\H n=some (.ext (cj P w n as objs))/\∀d∈objs,okK 8 d=true/\jn d=true:=by
 cases q with
 |@hdl a C' dx' l' n' _ q=>
  obtain⟨h2,l,n,e⟩:=v.uni a C' dx' _ (s _ _ q);obtain⟨dx,objs,h1,h3,r⟩:=v.at' h2 a l n e;rw[q] at h3;injection h3 with h3
  injection h3 with e1 e2 e3
  obtain⟨rfl,rfl,rfl⟩:=zK e3;subst e1 e2;exact⟨a,l',n',dx',_,rfl,e,h1,q,r⟩
structure EnvM (P:Program)(w:World)(K:Fg)(C:Addr)(G0 H0:Hp)(d0:Vd)(G H:Hp)(d:Vd)(σ:St)(ρ:List Sl)(U:List (List D)):Prop where
 bas:∃Gb Hb,Same G0 Gb/\(Same (er H0 (parts d0)) Hb/\∀b o,Hb b=some o->notIns o=true->er H0 (parts d0) b=some o)/\EnvD K Gb Hb G (er H (parts d)) σ ρ
 nw:∀b o,G0 b=Option.none->H0 b=some o->G b=Option.none
 pre:d0 <+: d
 vs:VS P w K C G H d U
noncomputable def vE (C:Addr)(U:List (List D)):Sl->Sl
 |.own d=>.lent d
 |.dat (.hdl h)=>match U[h]? with|some objs=>.lent (.vlt C h objs)|Option.none=>.no
 |.deep _=>.no
 |s=>s
section
variable {C:Addr}{G:Hp}{d0 d:Vd}{U:List (List D)}
theorem EnvM.sub (E:EnvM P w K C G0 H0 d0 G H d σ ρ U):Same G H:=by
 obtain⟨_,_,_,_,e⟩:=E.bas;exact e.sub.trans ao
def EnvM.sub' (E:EnvM P w K C G0 H0 d0 G H d σ ρ U):Same G (er H (parts d)):=by
 obtain⟨_,_,_,_,e⟩:=E.bas;exact e.sub
theorem EnvM.gg (E:EnvM P w K C G0 H0 d0 G H d σ ρ U):Same G0 G:=by
 obtain⟨_,_,s,_,e⟩:=E.bas;exact s.trans e.ext.gg
theorem EnvM.hh (E:EnvM P w K C G0 H0 d0 G H d σ ρ U):Same (er H0 (parts d0)) (er H (parts d)):=by
 obtain⟨_,_,_,s,e⟩:=E.bas;exact s.1.trans e.ext.hh
set_option tactic.hygienic true in
def EnvM.view (E:EnvM P w K C G0 H0 d0 G H d σ ρ U):EnvD K G H G H σ (ρ.map (vE C U)):=by
 obtain⟨Gb,Hb,s1,s2,e⟩:=E.bas;have at':∀(i:Nat) sl,(ρ.map (vE C U))[i]?=some sl->∃s0,ρ[i]?=some s0/\vE C U s0=sl:=fun i sl h=>by
  rw[gm0] at h;cases q:ρ[i]? with
  |none=>rw[q] at h;cases h
  |some s0=>rw[q] at h;cases h;exact⟨s0,rfl,rfl⟩
 have no:∀(i:Nat) d',(ρ.map (vE C U))[i]?≠some (.own d'):=fun i d' h=>by
  obtain⟨s0,_,h2⟩:=at' i _ h;cases s0 with
  |dat d2=>cases d2<;>first|(cases h2;done)|(rename_i hh;simp only[vE] at h2;split at h2<;>cases h2)
  |_=>cases h2
 have nd:∀(i:Nat) r,(ρ.map (vE C U))[i]?≠some (.deep r):=fun i d' h=>by
  obtain⟨s0,_,h2⟩:=at' i _ h;cases s0 with
  |dat d2=>cases d2<;>first|(cases h2;done)|(rename_i hh;simp only[vE] at h2;split at h2<;>cases h2)
  |_=>cases h2
 refine⟨.refl E.sub,by simp[e.len],fun i d' h=>?_,fun i d' h=>?_,fun i d' h=>absurd h (no i d'),fun i j d' c c h=>absurd h (no i d'),fun i r h=>absurd h (nd i r)⟩
 ·obtain⟨s0,h1,h2⟩:=at' i _ h
  cases s0 with
  |dat d2=>
   have:d2=d':=by
    cases d2<;>first|(cases h2;rfl)|(rename_i hh;simp only[vE] at h2;split at h2<;>cases h2)
   subst this;exact e.dat i d2 h1
  |_=>cases h2
 ·obtain⟨s0,h1,h2⟩:=at' i _ h
  cases s0 with
  |no=>cases h2
  |lent d2=>
   cases h2;obtain⟨v,a,b⟩:=e.lent i d' h1;exact⟨v,a,(b.ext e.ext).monoH ao⟩
  |own d2=>
   cases h2;obtain⟨p,a,_,_,b⟩:=e.own i d' h1;exact⟨_,a,b.dr.monoH ao⟩
  |deep r=>cases h2
  |dat d2=>
   cases d2 with
   |hdl hh=>
    simp only[vE] at h2;split at h2
    ·rename_i objs ho
     cases h2;obtain⟨v,a,b⟩:=e.dat i _ h1;obtain⟨a',l,n,dx,objs',rfl,_,q1,q2,_,as,q3,q4,_⟩:=E.vs.hdl E.sub b;rw[ho] at q1;cases q1;exact⟨_,a,.vlt (E.sub _ _ q2) q3 q4⟩
    ·cases h2
   |_=>cases h2
def EnvD.wide {Gb H2:Hp}(e:EnvD K Gb Hb G H σ ρ)(s:Same H H2)(ni:∀b C dx fs,H2 b=some (.ins C dx fs)->H b=some (.ins C dx fs)):EnvD K Gb Hb G H2 σ ρ:=
 ⟨⟨e.ext.hh.trans s,e.ext.gg,e.ext.gh.trans s,e.ext.nw,fun b C dx fs q=>e.ext.ni b C dx fs (ni b C dx fs q)⟩,e.len,e.dat,e.lent,fun i d h=>by
  obtain⟨p,a,b,c,g⟩:=e.own i d h;refine⟨p,a,b,c,?_⟩;rcases g with⟨ds,vs,h1,h2,h3⟩|⟨ds,vs,h1,h2,h3⟩
  ·exact .inl ⟨ds,vs,h1,s _ _ h2,h3⟩
  ·exact .inr ⟨ds,vs,h1,s _ _ h2,h3⟩,e.apart,fun i rows h=>by
  obtain⟨⟨p,a,qs,b1,b2,b3,b4,b5,b6⟩,c⟩:=e.deep i _ h;refine⟨⟨p,a,qs,s _ _ b1,b2,b3,b4,b5,fun k row q z1 z2=>?_⟩,c⟩;obtain⟨y1,y2,vs,y3,y4⟩:=b6 k _ q z1 z2;exact⟨y1,y2,vs,s _ _ y3,y4⟩⟩
def VS.notPart (v:VS P w K C G H d U){b C' dx:Addr}{fs:List (Str×V)}(h:H b=some (.ins C' dx fs)):b∉parts d:=fun hb=>by
 rcases of_parts hb with⟨p,hp,rfl⟩|⟨i,a,l,n,e,q⟩
 ·obtain⟨ps,e⟩:=v.tb p hp
  rw[h] at e;cases e
 obtain⟨dx',objs,_,_,_,as,h1,_,h2,_⟩:=v.at' i a l n e;rcases q with rfl|rfl
 ·rw[h] at h1;cases h1
 ·rw[h] at h2;cases h2
def EnvM.full (E:EnvM P w K C G0 H0 d0 G H d σ ρ U):∃Gb Hb,EnvD K Gb Hb G H σ ρ/\∀G' H' d' σ' ρ' U',EnvM P w K C G0 H0 d0 G' H' d' σ' ρ' U'->Same G G'->Same Hb H':=by
 obtain⟨Gb,Hb,s1,s2,e⟩:=E.bas;refine⟨Gb,Hb,e.wide ao fun b C' dx fs h=>by rwa [aA (E.vs.notPart h)],fun G' H' d' σ' ρ' U' E' g b o h=>?_⟩;cases q:notIns o with
 |true=>exact ao b o (E'.hh b o (s2.2 b o h q))
 |false=>
  cases o with
  |ins C' dx fs=>
   have hH:=ao b _ (e.ext.hh b _ h);obtain⟨i,l,n,hd⟩:=E.vs.uni b C' dx fs hH;obtain⟨dx',objs,_,hG,_⟩:=E.vs.at' i b l n hd;rw[E.sub _ _ hG] at hH;cases hH;exact E'.sub _ _ (g _ _ hG)
  |_=>cases q
end
def Fl (X:Cx)(ea C:Addr)(H:Hp)(s:Shared):Prop:=
 ∃B:Heap,HOk X.prog X.w H B/\(∀b o,X.s₀.heap.get? b=some o->X.H₀ b=none->b∉X.fs->b∉X.ex->B.get? b=some o)/\(∀b o,X.s₀.heap.get? b=some o->b∉frs X.stack->b∉X.ex->∃o',B.get? b=some o')/\(∀p∈X.pn,B.get? p.1=some p.2)/\
  ((∃vs,Heap.MadeExcOf B s.heap ea (.ref C) vs/\B.FunFrames X.base X.stack)\/∃a0,Heap.FlyingW B X.stack ea (.ref C) a0 s.heap)
noncomputable def CX1 (P:Program)(w:World):CXT:=fun outer H s E e s'=>∃(ea C:Addr) (B:Heap) (a0:Value) (H':Hp),e=.ref ea/\s'.os=s.os/\AllBare s'.gens/\Heap.FlyingW B outer ea (.ref C) a0 s'.heap/\HOk P w H' B/\
 (∀b o,s.heap.get? b=some o->H b=none->b∉frs outer->B.get? b=some o)/\(∀b o,s.heap.get? b=some o->b∉frs outer->∃o',B.get? b=some o')/\Un (frs outer) [] H H' s.heap s'.heap/\E (.ref C) none H'
def oN {E:XK}{e:Value}(I:Inv X pins σ H s)(h:CX1 X.prog X.w X.stack H s E e s'):
  ∃ea C H',e=.ref ea/\Inv X pins σ H' s'/\Fl X ea C H' s'/\E (.ref C) none H':=by
 obtain⟨ea,C,B,a0,H',rfl,os,bare,fl,ok,kb,th,un,q⟩:=h;have nst:∀b o,X.s₀.heap.get? b=some o->b∉X.fs->b∉frs _:=fun b o e nf z=>by
  rcases mq0 (I.stkSub b z) with r|r
  ·subst r
   exact absurd (nl0 (hs0 e) I.ok.above) (li0 _)
  ·exact nf r
 refine⟨ea,C,H',rfl,I.call' os un (ok.kept fl.1) bare (fun a z=>nomatch z),⟨B,ok,fun b o e n nf nx=>?_,fun b o e nf nx=>?_,fun p hp=>?_,.inr ⟨a0,fl⟩⟩,q⟩
 ·exact kb b o (I.base.keep b o e n nf nx) (I.base.free b o e n nx) (nst b o e nf)
 ·obtain⟨o',h1⟩:=I.base.there b o e nx
  exact th b o' h1 nf
 ·obtain⟨h1,h2,h3,h4,_⟩:=I.pin p (List.mem_append_left _ hp)
  refine kb _ _ h1 h2 fun z=>?_
  rcases mq0 (I.stkSub _ z) with r|r
  ·exact h3 r
  ·exact h4 r
def zL {C:Addr}{vs:List Value}(I:Inv X pins σ H s)(m:Heap.MadeExcOf s.heap h' ea (.ref C) vs):
  Inv X pins σ H {s with heap:=h'}/\Fl X ea C H {s with heap:=h'}:=
 ⟨I.kept m.keeps,_,I.hok,fun b o e n nf nx=>I.base.keep b o e n nf nx,fun b o e nf nx=>I.base.there b o e nx,fun p hp=>(I.pin p (List.mem_append_left _ hp)).1,.inl ⟨vs,m,I.stack⟩⟩
def sv {K:fg0}{cd:Value}{A:Around}{outer:List Env}{E:XK}
      {C:Addr} (I:Inv (cN (CX1 P w) P w K mg base N qual scope f cd A outer s H E) pins σ H' s') (fl:Fl (cN (CX1 P w) P w K mg base N qual scope f cd A outer s H E) ea C H' s')
  (h:E (.ref C) none H'):(cN (CX1 P w) P w K mg base N qual scope f cd A outer s H E).xe (.ref ea) s':=by
 obtain⟨B,ok,kb,th,pn,r⟩:=fl;have nL:∀b o,s.heap.get? b=some o->b≠s.heap.objs.size:=fun b o e z=>by subst z;exact absurd (hs0 e) (li0 _)
 have stk:∀b,b∈frs (envOfC qual scope s.heap.objs.size f cd::outer)->b=s.heap.objs.size\/b∈frs outer:=fun b hb=>by
  obtain⟨env,he,hf⟩:=List.mem_filterMap.mp hb;rcases mq0 he with rfl|he
  ·exact .inl (Option.some.inj hf).symm
  ·exact .inr (List.mem_filterMap.mpr ⟨env,he,hf⟩)
 have fin:∀(B':Heap) (a0:Value) (h':Heap),Heap.FlyingW B' outer ea (.ref C) a0 h'->s'.heap.UpToSlots h'->HOk P w H' B'->(∀b o,B.get? b=some o->b∉frs (envOfC qual scope s.heap.objs.size f cd::outer)->B'.get? b=some o)->
   CX1 P w outer H s E (.ref ea) {s' with heap:=h'}:=by
  intro B' a0 h' fl' up ok' bb;have out:∀b o,s.heap.get? b=some o->b∉frs outer->b∉frs (envOfC qual scope s.heap.objs.size f cd::outer):=fun b o e nf z=>(stk b z).elim (nL b o e) nf
  have k1:∀b o,s.heap.get? b=some o->H b=none->b∉frs outer->B'.get? b=some o:=fun b o e n nf=>bb b o (kb b o e n nf (fun z=>nomatch z)) (out b o e nf)
  have k2:∀b o,s.heap.get? b=some o->b∉frs outer->∃o',B'.get? b=some o':=fun b o e nf=>by
   obtain⟨o',h1⟩:=th b o e (out b o e nf) (fun z=>nomatch z);exact⟨o',bb b o' h1 (out b o e nf)⟩
  have sl:∀b o,s.heap.get? b=some o->H b=none->b∈frs outer->∃sl,h'.get? b=some {o with slots:=sl}:=fun b o e n hb=>by
   obtain⟨sl,h1⟩:=I.base.slot b o e n hb (fun z=>nomatch z);obtain⟨_,o2,h2,h3⟩:=I.ok.funs.mem hb;have h2:s.heap.get? b=some o2:=h2;rw[e] at h2;cases h2;obtain⟨sl',h4⟩:=up b _ h1 h3;exact⟨sl',h4⟩
  refine⟨ea,C,B',a0,H',rfl,I.os,I.bare,fl',ok',k1,k2,⟨fun b o e n nf a=>fl'.1 b o (k1 b o e n nf),fun b o e n hb a=>sl b o e n hb,fun b o e n a=>I.base.free b o e n (fun z=>nomatch z),fun b o e a=>?_,I.base.tups,I.base.frzs,I.base.tbls⟩,h⟩
  by_cases hb:b∈frs outer
  ·have n:H b=none:=I.ok.frf b hb
   obtain⟨sl',q⟩:=sl b o e n hb;exact⟨_,q⟩
  ·obtain⟨o',q⟩:=k2 b o e hb
   exact⟨o',fl'.1 b o' q⟩
 have hfr:(A.deeper (envOfC qual scope s.heap.objs.size f cd)).frames=some (envOfC qual scope s.heap.objs.size f cd::outer):=I.ok.frames;show wpAny _ _ (leaving _ (.ref ea)) _ _ s';rcases r with⟨vs,m,ff⟩|⟨a0,fl⟩
 ·have hin:∀env∈(envOfC qual scope s.heap.objs.size f cd::outer),∀b,env.frame=some b->b∈frs (envOfC qual scope s.heap.objs.size f cd::outer):=fun env he b hb=>List.mem_filterMap.mpr ⟨env,he,hb⟩
  refine wpAny_leaves_madeW (base:=PySem.W.hideAll B (frs (envOfC qual scope s.heap.objs.size f cd::outer))) hfr rfl (fun b o q=>PySem.W.of_hideAll _ q) (PySem.W.funFrames_hide ff hin) m fun h' t x1 x2 x3 x4=>?_
  refine fin _ _ h' x1 x4 (fun b o e=>?_) fun b o e n=>PySem.W.hideAll_get _ e n
  have nf:∀c u,H' c=some u->c∉frs (envOfC qual scope s.heap.objs.size f cd::outer):=fun c u e z=>by
   have:=I.stkFree c z;rw[e] at this;cases this
  refine (ok b o e).stay (fun c u hc q=>PySem.W.hideAll_get _ q ?_) (fun a q=>q) fun a a a q=>q
  rcases hc with rfl|hc
  ·exact nf _ _ e
  ·exact nf _ _ hc
 ·refine wpAny_leaves_onW hfr rfl fl fun h' x1 x2=>?_
  exact fin B a0 h' x1 x2 ok fun b o e a=>e
structure MExt (G H:Hp)(d:Vd)(G' H':Hp)(d':Vd):Prop where
 gg:Same G G'
 hh:Same (er H (parts d)) (er H' (parts d'))
 gh:Same G' (er H' (parts d'))
 nw:∀b o,G b=Option.none->H b=some o->G' b=Option.none
 pre:d <+: d'
 st:∀b o,H b=some o->∃o',H' b=some o'
def fV {d d':Vd}(h:d <+: d'){b:Addr}(hb:b∈parts d):b∈parts d':=by
 obtain⟨t,ht⟩:=h;subst ht;unfold parts at hb ⊢;rw[List.flatMap_append,←List.append_assoc];exact List.mem_append_left _ hb
section
variable {C:Addr}{G G2 H2:Hp}{d0 d d' d1 d2:Vd}{U U':List (List D)}
theorem MExt.refl (s:Same G (er H (parts d))):MExt G H d G H d:=⟨Same.refl _,Same.refl _,s,fun a a h a=>h,List.prefix_refl _,fun a o h=>⟨o,h⟩⟩
theorem MExt.trans (a:MExt G H d G1 H1 d1)(b:MExt G1 H1 d1 G2 H2 d2):MExt G H d G2 H2 d2:=
 ⟨a.gg.trans b.gg,a.hh.trans b.hh,b.gh,fun c o h1 h2=>let ⟨o',h3⟩:=a.st c o h2;b.nw c o' (a.nw c o h1 h2) h3,a.pre.trans b.pre,fun c o h=>let ⟨o',h3⟩:=a.st c o h;b.st c o' h3⟩
def VS.mext (v:VS P w K C G H d U)(s:Same G (er H (parts d)))(e:Ext G H G' H'):MExt G H d G' H' d:=by
 have x:=e.er (fun b hb=>⟨v.out b hb,v.part hb⟩) s;exact⟨e.gg,x.hh,x.gh,e.nw,List.prefix_refl _,fun b o h=>⟨o,e.hh b o h⟩⟩
noncomputable def di:Option HO->Bool
 |some (.ins ..)=>true
 |_=>false
def EnvM.start (E:EnvM P w K C G0 H0 d0 G H d σ ρ U):MExt G0 H0 d0 G H d:=by
 refine⟨E.gg,E.hh,E.sub',E.nw,E.pre,fun b o h=>?_⟩
 by_cases hb:b∈parts d0
 ·exact E.vs.part (fV E.pre hb)
 ·exact⟨o,ao b o (E.hh b o (by rwa [aA hb]))⟩
set_option tactic.hygienic true in
def EnvM.go (E:EnvM P w K C G0 H0 d0 G H d σ ρ U)(m:MExt G H d G' H' d')(v:VS P w K C G' H' d' U'):EnvM P w K C G0 H0 d0 G' H' d' σ ρ U':=by
 have st0:=E.start;obtain⟨Gb,Hb,s1,s2,e⟩:=E.bas
 let Hb':Hp:=fun b=>match Hb b with
  |some o=>some o
  |Option.none=>if di (er H' (parts d') b) then er H' (parts d') b else Option.none
 let Gb':Hp:=fun b=>match Gb b with
  |some o=>some o
  |Option.none=>match Hb b with
   |some _=>Option.none
   |Option.none=>if di (er H' (parts d') b) then G' b else Option.none
 have hb1:Same Hb Hb':=fun b o h=>by show (match Hb b with|some o=>some o|Option.none=>_)=_;rw[h]
 have gb1:Same Gb Gb':=fun b o h=>by show (match Gb b with|some o=>some o|Option.none=>_)=_;rw[h]
 have hbn:∀b o,Hb b=Option.none->er H (parts d) b=some o->notIns o=true->Hb' b=Option.none:=fun b o h1 h2 h3=>by
  show (match Hb b with|some o=>some o|Option.none=>_)=_;rw[h1];have:=m.hh b o h2;show (if di (er H' (parts d') b) then _ else _)=_;rw[this];cases o<;>first|rfl|cases h3
 have hS:Same Hb' (er H' (parts d')):=fun b o h=>by
  have h:(match Hb b with|some o=>some o|Option.none=>if di (er H' (parts d') b) then er H' (parts d') b else Option.none)=some o:=h;cases q:Hb b with
  |some o'=>rw[q] at h;cases h;exact m.hh b _ (e.ext.hh b _ q)
  |none=>
   rw[q] at h;dsimp only at h;split at h
   ·exact h
   ·cases h
 have ow:∀p,G p=Option.none->(∃o,er H (parts d) p=some o)->G' p=Option.none:=by rintro p h1 ⟨o,h2⟩;exact m.nw p o h1 (aU h2).2
 refine⟨⟨Gb',Hb',s1.trans gb1,⟨s2.1.trans hb1,fun b o h n=>?_⟩,⟨⟨hS,fun b o h=>?_,m.gh,fun b o h1 h2=>?_,fun b C' dx fs h=>?_⟩,e.len,fun i d h=>?_,fun i d h=>?_,fun i d h=>?_,e.apart,fun i rows h=>?_⟩⟩,fun b o h1 h2=>?_,E.pre.trans m.pre,v⟩
 ·have h:(match Hb b with|some o=>some o|Option.none=>if di (er H' (parts d') b) then er H' (parts d') b else Option.none)=some o:=h
  cases q:Hb b with
  |some o'=>rw[q] at h;cases h;exact s2.2 b _ q n
  |none=>
   rw[q] at h;dsimp only at h;split at h
   ·rename_i c;rw[h] at c;cases o<;>first|(cases c;done)|(cases n;done)
   ·cases h
 ·have h:(match Gb b with|some o=>some o|Option.none=>match Hb b with|some _=>Option.none|Option.none=>if di (er H' (parts d') b) then G' b else Option.none)=some o:=h
  cases q:Gb b with
  |some o'=>rw[q] at h;cases h;exact m.gg b _ (e.ext.gg b _ q)
  |none=>
   rw[q] at h;cases q2:Hb b with
   |some _=>rw[q2] at h;cases h
   |none=>
    rw[q2] at h;dsimp only at h;split at h
    ·exact h
    ·cases h
 ·have h1:(match Gb b with|some o=>some o|Option.none=>match Hb b with|some _=>Option.none|Option.none=>if di (er H' (parts d') b) then G' b else Option.none)=Option.none:=h1
  have h2:(match Hb b with|some o=>some o|Option.none=>if di (er H' (parts d') b) then er H' (parts d') b else Option.none)=some o:=h2;cases q:Gb b with
  |some o'=>rw[q] at h1;cases h1
  |none=>
   rw[q] at h1;cases q2:Hb b with
   |some o'=>
    have:=e.ext.hh b o' q2;exact ow b (e.ext.nw b o' q q2) ⟨_,this⟩
   |none=>
    rw[q2] at h1 h2;dsimp only at h1 h2;split at h1
    ·exact h1
    ·rename_i c;rw[if_neg c] at h2;cases h2
 ·show (match Hb b with|some o=>some o|Option.none=>if di (er H' (parts d') b) then er H' (parts d') b else Option.none)=_
  cases q:Hb b with
  |some o'=>
   have:=m.hh b o' (e.ext.hh b o' q);rw[h] at this;exact this.symm
  |none=>
   dsimp only;rw[h];rfl
 ·obtain⟨u,a,b⟩:=e.dat i d h
  exact⟨u,a,b.mono m.gg⟩
 ·obtain⟨u,a,b⟩:=e.lent i d h
  exact⟨u,a,(b.monoH hb1).monoG gb1⟩
 ·obtain⟨p,a,c,f,g⟩:=e.own i d h
  obtain⟨o,ho⟩:=g.some;have ni:notIns o=true:=by
   rcases g with⟨_,_,_,z,_⟩|⟨_,_,_,z,_⟩<;>(rw[ho] at z;cases z;rfl)
  refine⟨p,a,ow p c ⟨o,ho⟩,hbn p o f ho ni,?_⟩;rcases g with⟨ds,vs,z1,z2,z3⟩|⟨ds,vs,z1,z2,z3⟩
  ·exact .inl ⟨ds,vs,z1,m.hh _ _ z2,z3.mono m.gg⟩
  ·exact .inr ⟨ds,vs,z1,m.hh _ _ z2,z3.mono m.gg⟩
 ·obtain⟨⟨p,a,qs,b1,b2,b3,b4,b5,b6⟩,c⟩:=e.deep i rows h
  refine⟨⟨p,a,qs,m.hh _ _ b1,ow p b2 ⟨_,b1⟩,hbn p _ b3 b1 rfl,b4,b5,fun k row q z1 z2=>?_⟩,c⟩;obtain⟨y1,y2,vs,y3,y4⟩:=b6 k row q z1 z2;exact⟨ow q y1 ⟨_,y3⟩,hbn q _ y2 y3 rfl,vs,m.hh _ _ y3,y4.mono m.gg⟩
 ·obtain⟨o',h3⟩:=st0.st b o h2
  exact m.nw b o' (E.nw b o h1 h2) h3
theorem EnvM.set {e:D}{v:V}(E:EnvM P w K C G0 H0 d0 G H d σ ρ U)(hi:i<σ.length)(h:Dp K G e v):EnvM P w K C G0 H0 d0 G H d (σ.set i (some v)) (ρ.set i (.dat e)) U:=by
 obtain⟨Gb,Hb,s1,s2,en⟩:=E.bas;exact⟨⟨Gb,Hb,s1,s2,en.set hi h⟩,E.nw,E.pre,E.vs⟩
theorem EnvM.freeze (E:EnvM P w K C G0 H0 d0 G H d σ ρ U):∃G',EnvM P w K C G0 H0 d0 G' H d σ (ρ.map SI.freeze) U/\Same G G':=by
 obtain⟨Gb,Hb,s1,s2,en⟩:=E.bas;obtain⟨G1,en1,s⟩:=en.freeze;have out:∀b∈parts d,G1 b=Option.none:=fun b hb=>by
  cases q:G1 b with
  |none=>rfl
  |some o=>have:=en1.sub b o q;rw[iO hb] at this;cases this
 have nw:∀b o,G0 b=Option.none->H0 b=some o->G1 b=Option.none:=fun b o h1 h2=>by
  by_cases hb:b∈parts d0
  ·exact out b (fV E.pre hb)
  ·have hbb:Hb b=some o:=s2.1 b o (by rw[aA hb];exact h2)
   refine en1.ext.nw b o ?_ hbb;cases q:Gb b with
   |none=>rfl
   |some o'=>have:=en.ext.gg b o' q;rw[E.nw b o h1 h2] at this;cases this
 refine⟨G1,⟨⟨Gb,Hb,s1,s2,en1⟩,nw,E.pre,⟨E.vs.len,E.vs.nd,fun h a l n q=>?_,E.vs.uni,out,E.vs.tb⟩⟩,s⟩
 ·obtain⟨dx,objs,h1,h2,h3,as,h4,h5,h6,h7⟩:=E.vs.at' h a l n q
  exact⟨dx,objs,h1,s _ _ h2,h3,as,h4,h5.mono s,h6,h7⟩
end
inductive R where
 |ok (d:D)
 |exc (C:Nat)
inductive Rs where
 |ok (ds:List D)
 |exc (C:Nat)
def mE (X:Cx)(c:Addr)(σ:St)(H:Hp):Prop:=∀pins ea s,Inv X pins σ H s->Fl X ea c H s->X.xe (.ref ea) s
noncomputable def PostM (X:Cx)(C:Addr)(G H:Hp)(d:Vd)(U:List (List D))(σ:St)(Q:VK):R->Prop
 |.ok e=>∀v G' H' d',MExt G H d G' H' d'->VS X.prog X.w X.K C G' H' d' U->Dp X.K G' e v->Q v H'
 |.exc c=>∀G' H' d',MExt G H d G' H' d'->VS X.prog X.w X.K C G' H' d' U->mE X c σ H'
noncomputable def GE (X:Cx)(C:Addr)(G H:Hp)(d:Vd)(U:List (List D))(σ:St)(fl:List Bool)(Q:List V->Hp->Prop):Rs->Prop
 |.ok es=>∀vs G' H' d',MExt G H d G' H' d'->VS X.prog X.w X.K C G' H' d' U->Das X.K G' (er H' (parts d')) fl es vs->Q vs H'
 |.exc c=>∀G' H' d',MExt G H d G' H' d'->VS X.prog X.w X.K C G' H' d' U->mE X c σ H'
noncomputable def tM (X:Cx)(C:Addr)(ρ:List Sl)(U:List (List D))(r:R)(U':List (List D)):TE:=fun σ H Q=>∃G0 H0 d0 G d,EnvM X.prog X.w X.K C G0 H0 d0 G H d σ ρ U/\PostM X C G H d U' σ Q r
noncomputable def tMa (X:Cx)(C:Addr)(ρ:List Sl)(U:List (List D))(fl:List Bool)(r:Rs)(U':List (List D)):TA:=fun σ H Q=>∃G0 H0 d0 G d,EnvM X.prog X.w X.K C G0 H0 d0 G H d σ ρ U/\GE X C G H d U' σ fl Q r
def EvM (X:Cx)(C:Addr)(ρ:List Sl)(U:List (List D))(e:Expr)(r:R)(U':List (List D)):Prop:=PE X e (tM X C ρ U r U')
def EaM (X:Cx)(C:Addr)(ρ:List Sl)(U:List (List D))(fl:List Bool)(es:List Expr)(r:Rs)(U':List (List D)):Prop:=PA X es (tMa X C ρ U fl r U')
structure FnM where
 lent:List Bool
 run:List (List D)->List D->Option (List (List D)×R)
noncomputable def Mur (P:Program)(w:World)(K:Fg)(C:Addr)(φ:FnM):Sp:=fun vs H Q E=>∃ds U U' r G d,φ.run U ds=some (U',r)/\Same G (er H (parts d))/\Das K G (er H (parts d)) φ.lent ds vs/\VS P w K C G H d U/\
 match r with
 |.ok e=>∀v G' H' d',MExt G H d G' H' d'->VS P w K C G' H' d' U'->Dp K G' e v->Q v H'
 |.exc c=>∀G' H' d',MExt G H d G' H' d'->VS P w K C G' H' d' U'->E (.ref c) none H'
section
variable {C:Addr}{U U1 U2 U':List (List D)}{e:Expr}{c:Nat}{r:R}{rs:Rs}{m:Str}
def PostM.go {G:Hp}{d d':Vd}{Q:VK}(h:PostM X C G H d U σ Q r)(m:MExt G H d G' H' d'):PostM X C G' H' d' U σ Q r:=by
 cases r with
 |ok e=>exact fun v G2 H2 d2 m2 v2 q=>h v G2 H2 d2 (m.trans m2) v2 q
 |exc c=>exact fun G2 H2 d2 m2 v2=>h G2 H2 d2 (m.trans m2) v2
def vK (h:Ev X (ρ.map (vE C U)) e d):EvM X C ρ U e (.ok d) U:=fun pins s σ H Q I ⟨G0,H0,d0,G,dd,E,k⟩=>
 h _ s σ H Q I ⟨G,H,G,E.view,fun v G' H' e1 r=>k v G' H' dd (E.vs.mext E.sub' e1) (E.vs.step e1) r⟩
def kQ (i:Nat)(h:ρ[i]?=some (.dat d))(hN:X.N[i]?=some x)(hv:Vis X.env.scope x)(hd:(x==("__debug__":Str))=false)(hcd:(x==("__classdict__":Str))=false):EvM X C ρ U (.Name x pos) (.ok d) U:=
 fun pins s σ H Q I ⟨G0,H0,d0,G,dd,E,k⟩=>by
  obtain⟨Gb,Hb,_,_,en⟩:=E.bas;obtain⟨v,a,b⟩:=en.dat i d h;exact bL hN hv hd hcd _ s σ H Q I ⟨v,a,k v G H dd (.refl E.sub') E.vs b⟩
def zM:EaM X C ρ U fl [] (.ok []) U:=by rintro pos pins s σ H Q I ⟨G0,H0,d0,G,dd,E,k⟩;exact aQ pos pins s σ H Q I (k [] G H dd (.refl E.sub') E.vs .nil)
def vL (he:EvM X C ρ U e (.ok d) U1)(hr:EaM X C ρ U1 fl.tail es rs U2)(hs:isStar e=false):EaM X C ρ U fl (e::es) (match rs with|.ok ds=>.ok (d::ds)|.exc c=>.exc c) U2:=
 by rintro pos pins s σ H Q I ⟨G0,H0,d0,G,dd,E,k⟩;exact ax he hr (af hs) pos pins s σ H Q I ⟨G0,H0,d0,G,dd,E,fun v G1 H1 d1 m1 v1 r1=>by
  refine⟨G0,H0,d0,G1,d1,E.go m1 v1,?_⟩;cases rs with
  |ok ds=>exact fun vs G2 H2 d2 m2 v2 r2=>k _ G2 H2 d2 (m1.trans m2) v2 (.cons (fun a=>r1.mono m2.gg) (.of (r1.mono m2.gg)) r2)
  |exc c=>exact fun G2 H2 d2 m2 v2=>k G2 H2 d2 (m1.trans m2) v2⟩
def sx (he:EvM X C ρ U e (.exc c) U1)(hs:isStar e=false):EaM X C ρ U fl (e::es) (.exc c) U1:=
 by rintro pos pins s σ H Q I ⟨G0,H0,d0,G,dd,E,k⟩;exact ax (t:=fun a a a=>False) he (fun a a a a a a a z=>z.elim) (af hs) pos pins s σ H Q I ⟨G0,H0,d0,G,dd,E,k⟩
def sy (i:Nat)(h:ρ[i]?=some sl)(hd':az .read sl=some d)(hf:fl.headD false=true)(hN:X.N[i]?=some x)(hv:Vis X.env.scope x)(hd:(x==("__debug__":Str))=false)(hcd:(x==("__classdict__":Str))=false)
  (hr:EaM X C ρ U fl.tail es rs U2):EaM X C ρ U fl (.Name x p::es) (match rs with|.ok ds=>.ok (d::ds)|.exc c=>.exc c) U2:=
 fun pos pins s σ H Q I ⟨G0,H0,d0,G,dd,E,k⟩=>by
  obtain⟨Gb,Hb,_,_,en⟩:=E.bas;obtain⟨v,a,b⟩:=en.read h hd';refine ax (bL hN hv hd hcd) hr rfl _ _ s σ H Q I ⟨v,a,G0,H0,d0,G,dd,E,?_⟩;cases rs with
  |ok ds=>exact fun vs G2 H2 d2 m2 v2 r2=>k _ G2 H2 d2 m2 v2 (.cons (fun c=>by simp_all) ((b.monoH m2.hh).monoG m2.gg) r2)
  |exc c=>exact fun G2 H2 d2 m2 v2=>k G2 H2 d2 m2 v2
def kR {Q:VK}{ps:List Str}{sp:Sp}(F:FnOk X.prog X.w X.K X.mg X.base (CX1 X.prog X.w) k f fd ps sp)(hr:Room k X.A)(hb:Binds X.K fd ps [])
  (I:Inv X pins σ H s) (r:Vals vs us) (h:sp vs H Q (fun c a H'=>∃c',c=.ref c'/\mE X c' σ H')):wpAny (model X.prog X.w) X.A (call (.ref f) us) (EP X pins σ Q) X.xe s:=by
 have hl:us.length=ps.length:=by rw[←r.length];exact F.len _ _ _ _ h
 refine wpAny_call (codeAny_mono (F.run _ _ s H _ us vs Q _ hr I.env0 (by have:=hb s us I.kIn (by simpa using hl);simp_all) r h) fun r s' hq=>?_);cases r with
 |error e=>
  have hq:CX1 _ _ _ H s (fun c a H'=>∃c',c=.ref c'/\mE X c' σ H') e s':=hq;obtain⟨ea,c,H',rfl,I',fl,c',ec,ac⟩:=oN I hq;cases ec;exact ac _ ea s' I' fl
 |ok fl=>
  cases fl with
  |ret u=>exact I.after hq
  |next=>exact False.elim hq
  |brk=>exact False.elim hq
  |cont=>exact False.elim hq
noncomputable def vN (run:List (List D)->List D->Option (List (List D)×R)):Rs->List (List D)->Option (List (List D)×R)
 |.ok ds,U=>run U ds
 |.exc c,U=>some (U,.exc c)
def vO {φ:FnM}{G:Hp}{d:Vd}{Q:VK}(h:φ.run U1 ds=some (U2,r))(s:Same G (er H (parts d)))(das:Das X.K G (er H (parts d)) φ.lent ds vs)(v:VS X.prog X.w X.K C G H d U1)(q:PostM X C G H d U2 σ Q r):
  Mur X.prog X.w X.K C φ vs H Q (fun c a H'=>∃c',c=.ref c'/\mE X c' σ H'):=by
 refine⟨ds,U1,U2,r,G,d,h,s,das,v,?_⟩;cases r with
 |ok e=>exact q
 |exc c=>exact fun G' H' d' m v'=>⟨c,rfl,q G' H' d' m v'⟩
structure vP (P:Program)(w:World)(K:Fg)(mg:Str->Option Value)(base:Heap)(C:Addr)(k:Nat)(x:Str)(φ:FnM):Prop where
 ex:∃f fd ps,mg x=some (.ref f)/\PySem.W.keepIn K (.ref f)=true/\Binds K fd ps []/\FnOk P w K mg base (CX1 P w) k f fd ps (Mur P w K C φ)
def vQ {φ:FnM}(F:vP X.prog X.w X.K X.mg X.base C k x φ)(hr:Room k X.A)(hg:Gl X x)(hd:(x==("__debug__":Str))=false)(ha:EaM X C ρ U φ.lent (e::es) rs U1)(h:vN φ.run rs U1=some (U2,r))(hs:aB (e::es)):
  EvM X C ρ U (.Call (.Name x p) (e::es) [] pos) r U2:=by
 obtain⟨f,fd,ps,hm,hk,hb,F⟩:=F.ex;intro pins s σ H Q I h0;obtain⟨G0,H0,d0,G,dd,E,kq⟩:=h0;refine wpAny_Call_Name_kw (ld_glob I hg hm ?_ hd);cases rs with
 |exc c=>
  cases h;refine PySem.W.callWith_K I.ok.mod.kin hk (thn (ha pos _ s σ H (fun a a=>False) I ⟨G0,H0,d0,G,dd,E,kq⟩) fun us s1 ⟨vs,H1,I1,r1,q⟩=>q.elim) (af (hs e ms0)) (aG fun y hy=>hs y (mc0 _ hy))
 |ok ds=>
  exact PySem.W.callWith_K I.ok.mod.kin hk (thn (ha pos pins s σ H _ I ⟨G0,H0,d0,G,dd,E,fun vs G1 H1 d1 m1 v1 r1=>vO h m1.gh r1 v1 (kq.go m1)⟩) fun us s1 ⟨vs,H1,I1,r1,q⟩=>⟨I1.kIn,kR F hr hb I1 r1 q⟩) (af (hs e ms0)) (aG fun y hy=>hs y (mc0 _ hy))
structure FnVm (P:Program)(w:World)(K:Fg)(mg:Str->Option Value)(base:Heap)(C:Addr)(k:Nat)(m:Str)(φ:FnM):Prop where
 ex:∃f fd ps,Cls K C/\tQ K C m f/\Binds K fd ps []/\FnOk P w K mg base (CX1 P w) k f fd ps (Mur P w K C φ)
def vR {φ:FnM}{h:Nat}(F:FnVm X.prog X.w X.K X.mg X.base C k m φ)(hl:φ.lent.headD false=false)(hm2:m≠"objects"/\m≠"numbers")(hr:Room k X.A)(ho:EvM X C ρ U o (.ok (.hdl h)) U1)(ha:EaM X C ρ U1 φ.lent.tail (e::es) (.ok ds) U2)(hrun:φ.run U2 (.hdl h::ds)=some (U',r))(hs:aB (e::es))
  {pl:Sem Bool} (ht:eval (.Call (.Attribute o m apos) (e::es) [] pos) X.env=(do
   let ov ←eval o X.env
   standAt apos.atName
   let (f,first) ←holding [ov] (getMethod ov m pl)
   callWith pos f first (backTo pos (starEach (e::es) X.env)) (backToKw pos (keywordEach [] X.env)))):
  EvM X C ρ U (.Call (.Attribute o m apos) (e::es) [] pos) r U':=by
 obtain⟨f,fd,ps,hc,hm,hb,F⟩:=F.ex;intro pins s σ H Q I h0;obtain⟨G0,H0,d0,G,dd,E,kq⟩:=h0;refine PySem.W.methodCall_KW (pl:=pl) (thn (ho pins s σ H (fun x H1=>∃a dx fs,x=.ref a/\H1 a=some (.ins C dx fs)/\fs.lookup m=none/\∃G1 d1,MExt G H dd G1 H1 d1/\VS X.prog X.w X.K C G1 H1 d1 U1/\Dp X.K G1 (.hdl h) (.ref a)) I ⟨G0,H0,d0,G,dd,E,fun v G1 H1 d1 m1 v1 r1=>?_⟩) fun u s1 ⟨x,H1,I1,rx,a,dx,fs,ex,ea,l,G1,d1,m1,v1,r1⟩=>?_) ht
 ·obtain⟨a,l,n,dx,objs,rfl,_,_,q,_⟩:=v1.hdl (m1.gh.trans ao) r1
  refine⟨a,dx,_,rfl,(m1.gh.trans ao) _ _ q,?_,G1,d1,m1,v1,r1⟩;have n1:(m==("objects":Str))=false:=bn0 hm2.1;have n2:(m==("numbers":Str))=false:=bn0 hm2.2;simp[vfs,lk0,n1,n2]
 ·subst ex
  obtain rfl:u=Value.ref a:=rx;refine nJ I1 ea hc hm l ?_;refine PySem.W.callWith_K (first:=[.ref a]) (h₀:=X.base) I.ok.mod.kin hm.kp (thn (ha pos pins s1 σ H1 _ I1 ⟨G0,H0,d0,G1,d1,E.go m1 v1,fun vs G2 H2 d2 m2 v2 r2=>?_⟩) fun us s2 ⟨vs,H2,I2,r2,q⟩=>⟨I2.kIn,kR (us:=.ref a::us) (vs:=.ref a::vs) F hr hb I2 (.cons rfl r2) q⟩) (af (hs e ms0)) (aG fun y hy=>hs y (mc0 _ hy));exact vO hrun m2.gh (.cons (fun b=>r1.mono m2.gg) (.of (r1.mono m2.gg)) r2) v2 (kq.go (m1.trans m2))
end
inductive OM where
 |nx (ρ:List Sl)
 |rt (d:D)
 |exc (c:Nat) (ρ:List Sl)
noncomputable def GoesM (X:Cx)(C:Addr)(G0 H0:Hp)(d0:Vd)(G:Hp)(U:List (List D))(F:Ends):OM->Prop
 |.nx ρ'=>∀G' H' d' σ',EnvM X.prog X.w X.K C G0 H0 d0 G' H' d' σ' ρ' U->Same G G'->F.nx σ' H'
 |.rt e=>∀v G' H' d',MExt G0 H0 d0 G' H' d'->VS X.prog X.w X.K C G' H' d' U->Dp X.K G' e v->F.rt v H'
 |.exc c ρ'=>∀G' H' d' σ',EnvM X.prog X.w X.K C G0 H0 d0 G' H' d' σ' ρ' U->Same G G'->mE X c σ' H'
noncomputable def tSM (X:Cx)(C:Addr)(ρ:List Sl)(U:List (List D))(o:OM)(U':List (List D)):TS:=fun F σ H=>∃G0 H0 d0 G d,EnvM X.prog X.w X.K C G0 H0 d0 G H d σ ρ U/\GoesM X C G0 H0 d0 G U' F o
def S1M (X:Cx)(C:Addr)(ρ:List Sl)(U:List (List D))(st:Stmt)(o:OM)(U':List (List D)):Prop:=PS X st (tSM X C ρ U o U')
def SsM (X:Cx)(C:Addr)(ρ:List Sl)(U:List (List D))(sts:List Stmt)(o:OM)(U':List (List D)):Prop:=PSs X sts (tSM X C ρ U o U')
inductive Rt where
 |ok (b:Bool)
 |exc (C:Nat)
noncomputable def tTM (X:Cx)(C:Addr)(ρ:List Sl)(U:List (List D))(r:Rt)(U':List (List D)):TT:=fun σ H Q=>∃G0 H0 d0 G d,EnvM X.prog X.w X.K C G0 H0 d0 G H d σ ρ U/\match r with
 |.ok b=>∀G' H' d',MExt G H d G' H' d'->VS X.prog X.w X.K C G' H' d' U'->Q b H'
 |.exc c=>∀G' H' d',MExt G H d G' H' d'->VS X.prog X.w X.K C G' H' d' U'->mE X c σ H'
def EtM (X:Cx)(C:Addr)(ρ:List Sl)(U:List (List D))(e:Expr)(r:Rt)(U':List (List D)):Prop:=PT X e (tTM X C ρ U r U')
section
variable {C:Addr}{U U1 U2 U':List (List D)}{rest body2:List Stmt}{o:OM}{e:Expr}{c:Nat}
def GoesM.go {G:Hp}{d0:Vd}{F:Ends}(h:GoesM X C G0 H0 d0 G U F o)(s:Same G G1):GoesM X C G0 H0 d0 G1 U F o:=by
 cases o with
 |nx ρ'=>exact fun G' H' d' σ' e g=>h G' H' d' _ e (s.trans g)
 |rt d=>exact h
 |exc c ρ'=>exact fun G' H' d' σ' e g=>h G' H' d' _ e (s.trans g)
def zN:SsM X C ρ U [] (.nx ρ) U:=by rintro pins s σ H F I ⟨G0,H0,d0,G,d,E,R⟩;exact dW pins s σ H F I (R G H d σ E (Same.refl _))
def sA (h1:S1M X C ρ U st (.nx ρ1) U1)(h2:SsM X C ρ1 U1 rest o U2):SsM X C ρ U (st::rest) o U2:=fun pins s σ H F I ⟨G0,H0,d0,G,d,E,R⟩=>
 aK h1 h2 _ s σ H F I ⟨G0,H0,d0,G,d,E,fun G' H' d' σ' E' g=>⟨G0,H0,d0,G',d',E',R.go g⟩⟩
def sC (h1:S1M X C ρ U st (.rt d) U1):SsM X C ρ U (st::rest) (.rt d) U1:=fun pins s σ H F I ⟨G0,H0,d0,G,dd,E,R⟩=>
 aK (u:=fun a a a=>False) h1 (fun a a a a a a z=>z.elim) _ s σ H F I ⟨G0,H0,d0,G,dd,E,R⟩
def sD (h1:S1M X C ρ U st (.exc c ρ1) U1):SsM X C ρ U (st::rest) (.exc c ρ1) U1:=fun pins s σ H F I ⟨G0,H0,d0,G,dd,E,R⟩=>
 aK (u:=fun a a a=>False) h1 (fun a a a a a a z=>z.elim) _ s σ H F I ⟨G0,H0,d0,G,dd,E,R⟩
def iP {G:Hp}{d0 d:Vd}{Q:VK}{F:Ends}(E:EnvM X.prog X.w X.K C G0 H0 d0 G H d σ ρ U)(R:GoesM X C G0 H0 d0 G U1 F (.exc c ρ)):PostM X C G H d U1 σ Q (.exc c):=
 fun G' H' d' m v=>R G' H' d' σ (E.go m v) m.gg
def zO (S:Sto X x i)(h:EvM X C ρ U e (.ok d) U1)(hs:swapsWith e (some (.Name x pos')) pos.line X.env=pure false):S1M X C ρ U (.Assign [.Name x pos'] e pos) (.nx (ρ.set i (.dat d))) U1:=
 by rintro pins s σ H F I ⟨G0,H0,d0,G,dd,E,R⟩;exact fG S.nd S.nm.at' S.nm.loc h hs S.nm.fn pins s σ H F I ⟨G0,H0,d0,G,dd,E,fun v G' H' d' m v1 r=>R G' H' d' _ ((E.go m v1).set (S.lt I) r) m.gg⟩
def vS (S:Sto X x i)(h:EvM X C ρ U e (.exc c) U1)(hs:swapsWith e (some (.Name x pos')) pos.line X.env=pure false):S1M X C ρ U (.Assign [.Name x pos'] e pos) (.exc c ρ) U1:=
 by rintro pins s σ H F I ⟨G0,H0,d0,G,dd,E,R⟩;exact fG S.nd S.nm.at' S.nm.loc h hs S.nm.fn pins s σ H F I ⟨G0,H0,d0,G,dd,E,iP (Q:=fun a a=>True) E R⟩
def vT (h:EvM X C ρ U e (.ok d) U1)(hs:swapsWith e none pos.line X.env=pure false):S1M X C ρ U (.Expr e pos) (.nx ρ) U1:=
 by rintro pins s σ H F I ⟨G0,H0,d0,G,dd,E,R⟩;exact dX h hs pins s σ H F I ⟨G0,H0,d0,G,dd,E,fun v G' H' d' m v1 r=>R G' H' d' _ (E.go m v1) m.gg⟩
def sE (h:EvM X C ρ U e (.exc c) U1)(hs:swapsWith e none pos.line X.env=pure false):S1M X C ρ U (.Expr e pos) (.exc c ρ) U1:=
 fun pins s σ H F I ⟨G0,H0,d0,G,dd,E,R⟩=>dX h hs _ s σ H F I ⟨G0,H0,d0,G,dd,E,iP E R⟩
def zP (h:EvM X C (ρ.map SI.freeze) U e (.ok d) U1):S1M X C ρ U (.Return (some e) pos) (.rt d) U1:=by
 rintro pins s σ H F I ⟨G0,H0,d0,G,dd,E,R⟩
 obtain⟨G1,E1,s1⟩:=E.freeze;exact ij h _ s σ H F I ⟨G0,H0,d0,G1,dd,E1,fun v G' H' d' m v1 r=>R v G' H' d' (E1.go m v1).start v1 r⟩
def vU (h:EvM X C (ρ.map SI.freeze) U e (.exc c) U1):S1M X C ρ U (.Return (some e) pos) (.exc c (ρ.map SI.freeze)) U1:=by
 rintro pins s σ H F I ⟨G0,H0,d0,G,dd,E,R⟩
 obtain⟨G1,E1,s1⟩:=E.freeze;exact ij h _ s σ H F I ⟨G0,H0,d0,G1,dd,E1,iP E1 (R.go s1)⟩
def etM_pure (h:Et X (ρ.map (vE C U)) e t):EtM X C ρ U e (.ok t) U:=fun pins s σ H Q I ⟨G0,H0,d0,G,dd,E,k⟩=>
 h _ s σ H Q I ⟨G,H,G,E.view,fun G' H' e1=>k G' H' dd (E.vs.mext E.sub' e1) (E.vs.step e1)⟩
def qm (hc:EtM X C ρ U e (.ok true) U1)(h:SsM X C ρ U1 body o U2):S1M X C ρ U (.If e body body2 pos) o U2:=fun pins s σ H F I ⟨G0,H0,d0,G,dd,E,R⟩=>
 jt (u:=fun a a a=>False) hc h (fun a a a a a a z=>z.elim) _ s σ H F I ⟨G0,H0,d0,G,dd,E,fun G' H' d' m v=>jg ⟨G0,H0,d0,G',d',E.go m v,R.go m.gg⟩⟩
def qo (hc:EtM X C ρ U e (.ok false) U1)(h:SsM X C ρ U1 body2 o U2):S1M X C ρ U (.If e body body2 pos) o U2:=fun pins s σ H F I ⟨G0,H0,d0,G,dd,E,R⟩=>
 jt (t:=fun a a a=>False) hc (fun a a a a a a z=>z.elim) h _ s σ H F I ⟨G0,H0,d0,G,dd,E,fun G' H' d' m v=>jf ⟨G0,H0,d0,G',d',E.go m v,R.go m.gg⟩⟩
def zQ (hc:EtM X C ρ U e (.exc c) U1):S1M X C ρ U (.If e body body2 pos) (.exc c ρ) U1:=fun pins s σ H F I ⟨G0,H0,d0,G,dd,E,R⟩=>
 jt (t:=fun a a a=>False) (u:=fun a a a=>False) hc (fun a a a a a a z=>z.elim) (fun a a a a a a z=>z.elim) pins s σ H F I ⟨G0,H0,d0,G,dd,E,fun G' H' d' m v=>R G' H' d' σ (E.go m v) m.gg⟩
def TgM (X:Cx)(tg:Expr)(t:Tg):Prop:=∀d,PG X tg (fun v σ H Q=>∃(W:St->List Sl->Prop) (G:Hp) (ρ ρ':List Sl),W σ ρ/\(∀σ ρ i e u,W σ ρ->i<σ.length->Dp X.K G e u->W (σ.set i (some u)) (ρ.set i (.dat e)))/\Same G H/\Dp X.K G d v/\aw t d ρ=some ρ'/\∀σ',W σ' ρ'->Q σ' H)
def vV (hN:X.N.Nodup)(hi:X.N[i]?=some x)(hx:Loc X.env.scope x)(hf:X.fn x=true\/X.env.scope.names.lookup x=some .local):TgM X (.Name x p) (.one i):=
 fun d pins s σ H v u Q I r ⟨W,G,ρ,ρ',w,cl,sm,dv,hb,k⟩=>by
  cases hb;exact pF hN hi hx hf _ s σ H v u Q I r (k _ (cl σ ρ i d v w (by rw[I.len];exact (gi0 hi).1) dv))
def zR {is:List Nat}:TgM X (.Tuple ts n pos) (.tup is):=by rintro d pins s σ H v u Q I r ⟨_,_,_,_,_,_,_,_,hb,_⟩;exact nomatch (show (Option.none:Option (List Sl))=some _ from hb)
def vW {Cc:Cs}(c:CxC X Cc){t:Tg}(h:cTg Cc tg=some t):TgM X tg t:=by
 cases tg with
 |Name x px=>
  obtain⟨i,h1,rfl⟩:=mx0 (show (dB Cc x).map _=some t from h);have n:=oG c h1;exact vV (by rw[c.N];exact c.nd) n.at' n.loc n.fn
 |Tuple es n pos=>
  obtain⟨is,h1,rfl⟩:=mx0 (show (slots Cc es).map _=some t from h);exact zR
 |_=>cases h
noncomputable def OM.andThen:OM->(List Sl->Option (OM×List (List D)))->List (List D)->Option (OM×List (List D))
 |.nx ρ,f,_=>f ρ
 |.rt d,_,U=>some (.rt d,U)
 |.exc c ρ,_,U=>some (.exc c ρ,U)
noncomputable def forM (t:D->List Sl->Option (List Sl))(b:List Sl->List (List D)->Option (OM×List (List D))):List D->List Sl->List (List D)->Option (OM×List (List D))
 |[],ρ,U=>some (.nx ρ,U)
 |d::r,ρ,U=>(t d ρ).bind fun ρ'=>(b ρ' U).bind fun q=>q.1.andThen (fun ρ2=>forM t b r ρ2 q.2) q.2
noncomputable def tIM (X:Cx)(C:Addr)(ρ:List Sl)(U:List (List D))(ds:List D)(U':List (List D)):TI:=fun σ H R=>∃G0 H0 d0 G d,EnvM X.prog X.w X.K C G0 H0 d0 G H d σ ρ U/\∀J G' H' d',MExt G H d G' H' d'->VS X.prog X.w X.K C G' H' d' U'->
 (∃Hs,fw X.K G' Hs J ds/\∀G2 H2 d2 σ2 ρ2 U2,EnvM X.prog X.w X.K C G0 H0 d0 G2 H2 d2 σ2 ρ2 U2->Same G' G2->Same Hs H2)->R J H'
def SiM (X:Cx)(C:Addr)(ρ:List Sl)(U:List (List D))(iter:Expr)(ds:List D)(U':List (List D)):Prop:=∀tg,PI X tg iter (tIM X C ρ U ds U')
def vX (h:Si X ρ true iter ds):SiM X C ρ U iter ds U:=by
 rintro tg pins s σ H R I ⟨G0,H0,d0,G,d,E,k⟩
 obtain⟨Gb,Hb,en,st⟩:=E.full;exact h tg _ s σ H R I ⟨Gb,Hb,G,en,fun J G' H' e1 sr=>k J G' H' d (E.vs.mext E.sub' e1) (E.vs.step e1) ⟨Hb,sr,fun G2 H2 d2 σ2 ρ2 U2 E2 g=>st G2 H2 d2 _ _ U2 E2 (e1.gg.trans g)⟩⟩
def qr {t:Tg}{run:List Sl->List (List D)->Option (OM×List (List D))}(hi:SiM X C ρ U iter ds U1)(ht:TgM X tg t)(hb:∀ρ' U' o' U2,run ρ' U'=some (o',U2)->SsM X C ρ' U' body o' U2)(h:forM (aw t) run ds ρ U1=some (o,U2))
  (hc:X.calm=true) (hp:PassesOwn (model X.prog X.w) X.A X.env X.xe) (hf:∀x,foldedSetIterable iter X.env x=pure x):S1M X C ρ U (.For tg iter body [] pos) o U2:=by
 intro pins s σ H F I h0;obtain⟨G0,H0,d0,G,d,E,R⟩:=h0;refine nF hp hc (hi _) (DH (tg:=tg)) (qk (body:=body)) hf pins s σ H F I ?_;refine⟨G0,H0,d0,G,d,E,fun J G1 H1 d1 m1 v1 ⟨Hs,hJ,hst⟩=>⟨fun k m σ' H'=>m=ds.length-k/\k≤ds.length/\∃ρ' U' G' d',forM (aw t) run (ds.drop k) ρ' U'=some (o,U2)/\EnvM X.prog X.w X.K C G0 H0 d0 G' H' d' σ' ρ' U'/\Same G1 G',⟨ds.length,by simp,Nat.zero_le _,ρ,U1,G1,d1,h,E.go m1 v1,Same.refl _⟩,?_⟩⟩
 rintro k m σ' H' ⟨rfl,hk,ρ',U',G',d',pv,E',g1⟩
 have g0:Same G G':=m1.gg.trans g1;have hs:=hst G' H' d' σ' ρ' U' E' g1
 by_cases hlt:k<ds.length
 ·refine .inr ⟨hJ.go k H' hlt (g1.trans E'.sub) hs,fun σ2 H2=>k+1≤ds.length/\∃ρ2 U3 G2 d2,forM (aw t) run (ds.drop (k+1)) ρ2 U3=some (o,U2)/\EnvM X.prog X.w X.K C G0 H0 d0 G2 H2 d2 σ2 ρ2 U3/\Same G1 G2,fun σ2 H2 ⟨h1,ρ2,U3,G2,d2,p2,en2,s2⟩=>⟨ds.length-(k+1),by grind,rfl,h1,ρ2,U3,G2,d2,p2,en2,s2⟩,fun v H2 y=>?_⟩
  have hd:ds[k]?=some ds[k]:=ge0 hlt;rw[List.drop_eq_getElem_cons hlt] at pv;generalize ds[k]=dd at hd pv;obtain⟨ρ1,b1,pv⟩:=bx0 (show (aw t dd ρ').bind _=some (o,U2) from pv);obtain⟨⟨o1,U3⟩,b2,pv⟩:=bx0 pv;obtain⟨G2,e2,d2⟩:=hJ.yld k G' H' v H2 dd hd g1 E'.sub hs y;have E2:=E'.go (E'.vs.mext E'.sub' e2) (E'.vs.step e2);intro pins' s' u' I' r';refine ht dd pins' s' σ' H2 v u' _ I' r' ⟨fun σ3 ρ3=>EnvM X.prog X.w X.K C G0 H0 d0 G2 H2 d' σ3 ρ3 U',G2,ρ',ρ1,E2,fun σ3 ρ3 i e u E3 hi de=>E3.set hi de,E2.sub,d2,b1,fun σ2 en2=>?_⟩;intro pins2 s2 I2;refine hb ρ1 U' o1 U3 b2 pins2 s2 σ2 H2 _ I2 ⟨G0,H0,d0,G2,d',en2,?_⟩
  cases o1 with
  |nx ρ3=>exact fun G3 H3 d3 σ3 en3 g3=>⟨hlt,ρ3,U3,G3,d3,pv,en3,g1.trans (e2.gg.trans g3)⟩
  |rt dr=>cases pv;exact R
  |exc c ρ3=>cases pv;exact R.go (g0.trans e2.gg)
 ·have e:k=ds.length:=by grind
  subst e;rw[List.drop_length] at pv;cases pv;exact .inl ⟨hJ.stop H' (g1.trans E'.sub) hs,R G' H' d' σ' E' g0⟩
end
noncomputable def bg:List Value:=[.type "ValueError",.type "Exception",.type "BaseException",.type "object"]
set_option tactic.hygienic true in
def qt {C:Addr}(X:K.In h)(q:PySem.W.excIn K C bmB newId=true):
  ∃bm N nm qn bs hdct sn sub ab col dd k0 k1 k2 k3 k5 mN,h.get? C=some (excClassObj nm qn C N bs bm hdct sn sub ab col dd k0 k1 k2 k3 k5 newId)/\h.Ns N mN/\mN "__init__"=none/\OwnTail h bmB bm:=by
 unfold PySem.W.excIn at q;split at q
 ·rename_i dd cd sl ho
  split at q
  ·rename_i C' bm k0 k1 k2 k3 n k5 hm hs
   simp only[be0,beq_iff_eq,Bool.not_eq_true'] at q;obtain⟨⟨⟨⟨⟨rfl,rfl⟩,hdel⟩,ht⟩,hok⟩,hni⟩:=q;obtain⟨nm,bs,mro,ns,qn,hd,sn,sub,ab,col,del⟩:=cd;dsimp only at hm hdel hok hni;subst hm hdel;have hsl:sl=#[k0,k1,k2,k3,some (.builtin n),k5]:=by
    obtain⟨l⟩:=sl;simp only at hs;rw[hs]
   subst hsl;exact⟨bm,ns,nm,qn,bs,hd,sn,sub,ab,col,dd,k0,k1,k2,k3,k5,_,X _ _ ho,.of_isNs (PySem.W.isNs_of_in X hok),PySem.W.nsMap_none_of_in X hok hni,PySem.W.tail_of_in X ht⟩
  ·cases q
 ·cases q
structure GF (X:Cx)(x:Str)(c:Addr):Prop where
 mg:X.mg x=some (.ref c)
 ex:∃newId initId,ExcBaseFacts "ValueError" newId initId bg/\PySem.W.excIn X.K c bg newId=true
section
variable {C:Addr}{U U1:List (List D)}{e:Expr}{c:Nat}{np:Pos}{r:R}
def sF (K:GF X x c)(hg:Gl X x)(hd:(x==("__debug__":Str))=false)(hc:X.calm=true)(h:EaM X C ρ U [] (e::es) (.ok ds) U1)(hl:ds.length≤1000)(hs:aB (e::es)):
  S1M X C ρ U (.Raise (some (.Call (.Name x np) (e::es) [] cpos)) none pos) (.exc c ρ) U1:=by
 intro pins s σ H F I h0;obtain⟨G0,H0,d0,G,d,E,R⟩:=h0;obtain⟨newId,initId,FB,q⟩:=K.ex;obtain⟨bm,N,nm,qn,bs,hdct,sn,sub,ab,col,dd,k0,k1,k2,k3,k5,mN,hC,hN,hni,TL⟩:=qt I.ok.mod.kin q;refine wpAny_Raise_call_subT (C:=c) (nm:=nm) (q:=qn) (N:=N) (bs:=bs) (bm:=bm) (hdct:=hdct) (sn:=sn) (sub:=sub) (ab:=ab) (col:=col) (dd:=dd) (k0:=k0) (k1:=k1) (k2:=k2) (k3:=k3) (k5:=k5)
  FB (mN:=mN) (TL.hasType FB.hasBase) (I.ok.hd hc) (aG hs) hni (ld_glob I hg K.mg ⟨rfl,?_⟩ hd)
 have step:=h cpos pins s σ H (fun vs H1=>vs.length≤1000/\∃G1 d1,MExt G H d G1 H1 d1/\VS X.prog X.w X.K C G1 H1 d1 U1) I ⟨G0,H0,d0,G,d,E,fun vs G1 H1 d1 m1 v1 r1=>⟨by rw[←r1.length];exact hl,G1,d1,m1,v1⟩⟩;rw[(af (env:=X.env) (es:=es) (hs e ms0))] at step ⊢;refine Calls.evalArgs_plain (wpAny_mono step (fun us s1 h1=>?_) fun a a y=>y);obtain⟨vs,H1,I1,rv,hlen,G1,d1,m1,v1⟩:=h1;have kp:=I1.bk;refine⟨rfl,by rw[←rv.length];exact Nat.le_of_lt (cP hlen),kp _ _ hC,hN.keeps kp,TL.keeps kp,fun h' ea hm=>?_⟩;obtain⟨I2,fl⟩:=zL I1 hm;exact R G1 H1 d1 σ (E.go m1 v1) m1.gg pins ea _ I2 fl
end
noncomputable abbrev tri (X:Cx)(E:Value->Shared->Prop)(pn:List (Addr×Obj)):Cx:={X with xe:=E,pn:=pn}
section
variable {E:Value->Shared->Prop}{c:Addr}
def DO (ok:X.Ok):(tri X E pn).Ok:=
 ⟨ok.mod,ok.kind,ok.glob,ok.blt,ok.above,ok.inj,ok.has,ok.cab,ok.hd,ok.frames,ok.stk,ok.exf,ok.bs,ok.bsz,ok.noex,ok.exfs,ok.funs,ok.frf,ok.tb⟩
def vY (ok:(tri X E pn).Ok):X.Ok:=
 ⟨ok.mod,ok.kind,ok.glob,ok.blt,ok.above,ok.inj,ok.has,ok.cab,ok.hd,ok.frames,ok.stk,ok.exf,ok.bs,ok.bsz,ok.noex,ok.exfs,ok.funs,ok.frf,ok.tb⟩
def kU (I:Inv X pins σ H s):Inv (tri X E (X.pn++pins)) [] σ H s:=⟨DO I.ok,I.os,I.bare,I.base,I.loc,I.cell,I.free,I.freeC,fun p hp=>I.pin p (by simp_all),I.hok,I.len⟩
def bW (I:Inv (tri X E (X.pn++pins)) pins' σ H s):Inv X pins σ H s:=⟨vY I.ok,I.os,I.bare,I.base,I.loc,I.cell,I.free,I.freeC,fun p hp=>I.pin p (List.mem_append_left _ hp),I.hok,I.len⟩
def vZ {D:Ends}{f:Flow}(h:SP (tri X E (X.pn++pins)) pins' D f s'):SP X pins D f s':=by
 cases f with
 |next=>obtain⟨σ',H',I,q⟩:=h;exact⟨_,H',bW I,q⟩
 |brk=>obtain⟨σ',H',I,q⟩:=h;exact⟨_,H',bW I,q⟩
 |cont=>obtain⟨σ',H',I,q⟩:=h;exact⟨_,H',bW I,q⟩
 |ret u=>obtain⟨v,σ',H',I,r,q⟩:=h;exact⟨v,_,H',bW I,r,q⟩
def wc {B:Heap}(I:Inv X pins' σ H s)(ok:HOk X.prog X.w H B)(kb:∀b o,X.s₀.heap.get? b=some o->X.H₀ b=none->b∉X.fs->b∉X.ex->B.get? b=some o)
  (th:∀b o,X.s₀.heap.get? b=some o->b∉frs X.stack->b∉X.ex->∃o',B.get? b=some o') (pn:∀p∈X.pn,B.get? p.1=some p.2) (st:B.StaysIn h') (up:s.heap.UpToSlots h'):Inv X [] σ H {s with heap:=h'}:=by
 have cellK:∀cc v,s.heap.IsCell cc v->h'.IsCell cc v:=fun cc v ⟨o,ho,hd⟩=>by
  obtain⟨sl,q⟩:=up cc o ho fun vs z=>by rw[hd] at z;cases z
  exact⟨_,q,hd⟩
 have slot:∀b o,X.s₀.heap.get? b=some o->X.H₀ b=none->b∈X.fs->b∉X.ex->∃sl,h'.get? b=some {o with slots:=sl}:=fun b o e n hb nx=>by
  obtain⟨sl,h1⟩:=I.base.slot b o e n hb nx;obtain⟨_,o2,h2,h3⟩:=I.ok.funs.mem hb;rw[e] at h2;cases h2;obtain⟨sl',h4⟩:=up b _ h1 h3;exact⟨sl',h4⟩
 refine⟨I.ok,I.os,I.bare,⟨fun b o e n nf nx=>st b o (kb b o e n nf nx),slot,I.base.free,fun b o e nx=>?_,I.base.tups,I.base.frzs,I.base.tbls⟩,?_,fun x cc e=>?_,I.free,I.freeC,fun p hp=>?_,ok.kept st,I.len⟩
 ·by_cases hb:b∈frs X.stack
  ·rcases mq0 (I.stkSub b hb) with r|r
   ·subst r
    exact absurd (nl0 (hs0 e) I.ok.above) (li0 _)
   ·obtain⟨sl,q⟩:=slot b o e (I.ok.frf b r) r nx
    exact⟨_,q⟩
  ·obtain⟨o',q⟩:=th b o e hb nx
   exact⟨o',st b o' q⟩
 ·obtain⟨m,hn,hl⟩:=I.loc
  refine⟨m,up.ns hn,fun i x v e1 e2 e3=>?_⟩;obtain⟨u,r,l⟩:=hl i x v e1 e2 e3;refine⟨u,r,?_⟩;rcases l with l|⟨k,cc,e,z⟩
  ·exact .inl l
  ·exact .inr ⟨k,cc,e,cellK cc _ z⟩
 ·obtain⟨v,z⟩:=I.cell x cc e
  exact⟨v,cellK cc v z⟩
 ·have hp:p∈X.pn:=by simpa using hp
  obtain⟨_,b,d,e,f⟩:=I.pin p (List.mem_append_left _ hp);exact⟨st _ _ (pn p hp),b,d,e,f⟩
def sG {o:Obj}(I:Inv X pins σ H s)(hn:H ea=none)(ho:s.heap.get? ea=some o)(hcl:o.cls=.ref c)(h0:X.s₀.heap.get? ea=none)(hL:ea≠X.env.locals)(hc:∀x cc,X.env.cells.lookup x=some cc->cc≠ea)(hp:∀p∈X.pn++pins,p.1≠ea):
  Inv X pins σ (upd H ea (.ext (ExcAt ea c))) s:=by
 have ne:∀b u,H b=some u->b≠ea:=fun b u e=>ag e hn
 refine⟨I.ok,I.os,I.bare,⟨I.base.keep,I.base.slot,fun b u e n nx=>?_,I.base.there,fun b xs e=>?_,fun b u xs e=>?_,fun b n' ps e=>?_⟩,I.loc,I.cell,?_,fun x cc e=>?_,fun p q=>?_,fun b u e=>?_,I.len⟩
 ·rw[aa fun z=>by subst z;rw[h0] at e;cases e];exact I.base.free b u e n nx
 ·rw[aa (ne _ _ (I.base.tups b xs e))];exact I.base.tups b xs e
 ·rw[aa (ne _ _ (I.base.frzs b u xs e))];exact I.base.frzs b u xs e
 ·obtain⟨more,q⟩:=I.base.tbls b n' ps e
  exact⟨more,by rw[aa (ne _ _ q)];exact q⟩
 ·rw[aa (Ne.symm hL)];exact I.free
 ·rw[aa (hc x cc e)];exact I.freeC x cc e
 ·obtain⟨a,b,r⟩:=I.pin p q
  exact⟨a,by rw[aa (hp p q)];exact b,r⟩
 ·by_cases z:b=ea
  ·subst z
   rw[ae] at e;cases e;exact⟨⟨o,ho,hcl⟩,⟨o,ho⟩,fun h1 h2 ⟨o1,a1,b1⟩ k=>⟨o1,k o1 a1,b1⟩⟩
  ·rw[aa z] at e
   exact (I.hok b u e).stay (fun d d d q=>q) (fun cc q=>by rw[aa (ne _ _ q)];exact q) fun cc o d q=>by rw[aa (ne _ _ q)];exact q
def wg {m:Str->Option Value}{n:Str}{v:Option Value}(I:Inv X pins σ H s)(hN:X.N.Nodup)(hj:X.N[j]?=some n)(hm:∀(i:Nat) (x:Str) (v:V),X.N[i]?=some x->σ[i]?=some (some v)->Vis X.env.scope x->∃u,RelV v u/\Look X.env s.heap m x u)
  (hn:h'.Ns X.env.locals (fun x=>if x=n then v else m x)) (sb:Heap.SameBut X.env.locals s.heap h'):Inv X pins (σ.set j Option.none) H {s with heap:=h',toks:=t'}:=by
 have k:∀b o,b≠X.env.locals->s.heap.get? b=some o->h'.get? b=some o:=fun b o hb e=>(sb.2 b hb).trans e
 have nL:∀b o,X.s₀.heap.get? b=some o->b≠X.env.locals:=fun b o e=>nn0 (nl0 (hs0 e) I.ok.above)
 have cellK:∀x cc,X.env.cells.lookup x=some cc->∀v,s.heap.IsCell cc v->h'.IsCell cc v:=fun x cc e v ⟨o,ho,hd⟩=>⟨o,k cc o (I.cne x cc e) ho,hd⟩
 refine⟨I.ok,I.os,I.bare,⟨fun b o e n nf nx=>k b o (nL b o e) (I.base.keep b o e n nf nx),fun b o e n hb nx=>?_,I.base.free,fun b o e nx=>?_,I.base.tups,I.base.frzs,I.base.tbls⟩,⟨_,hn,fun i x w e1 e2 e3=>?_⟩,fun x cc e=>?_,I.free,I.freeC,fun p hp=>?_,fun b u e=>?_,by simp[I.len]⟩
 ·obtain⟨sl,q⟩:=I.base.slot b o e n hb nx
  exact⟨sl,k b _ (nL b o e) q⟩
 ·obtain⟨o',q⟩:=I.base.there b o e nx
  exact⟨o',k b o' (nL b o e) q⟩
 ·rcases getE_set e2 with⟨rfl,z⟩|⟨ne,z⟩
  ·cases z
  ·obtain⟨u,r,l⟩:=hm i x w e1 z e3
   refine⟨u,r,?_⟩;rcases l with⟨l1,l2⟩|⟨l1,cc,e,q⟩
   ·have xn:x≠n:=fun z=>ne (ie hN (z▸e1) hj)
    exact .inl ⟨l1,by show (if x=n then v else m x)=_;rw[if_neg xn];exact l2⟩
   ·exact .inr ⟨l1,cc,e,cellK x cc e _ q⟩
 ·obtain⟨v,z⟩:=I.cell x cc e
  exact⟨v,cellK x cc e v z⟩
 ·obtain⟨a,b,d,f⟩:=I.pin p hp
  exact⟨k _ _ d a,b,d,f⟩
 ·have nb:b≠X.env.locals:=fun z=>by subst z;rw[I.free] at e;cases e
  exact (I.hok b u e).stay (fun cc w hc q=>k cc w (by
   rcases hc with rfl|hc
   ·exact nb
   ·intro z;subst z;rw[I.free] at hc;cases hc) q) (fun c q=>q) fun c c c q=>q
def mF {a:Addr}{o:HO}(x:ObjOk P w H h a o):∃ob,h.get? a=some ob:=by
 induction o with
 |lst xs=>obtain⟨_,_,n,_,e⟩:=x;exact⟨_,e⟩
 |tup xs=>obtain⟨_,_,_,ob,e,_⟩:=x;exact⟨_,e⟩
 |dK kvs=>obtain⟨_,_,_,_,ob,es,ep,e,_⟩:=x;exact⟨_,e⟩
 |dT kvs=>obtain⟨_,_,_,_,ob,es,ep,e,_⟩:=x;exact⟨_,e⟩
 |set S n=>obtain⟨ob,es,ep,t,e,_⟩:=x;exact⟨_,e⟩
 |ins C dx fs=>obtain⟨_,_,_,e,_⟩:=x;exact⟨_,e⟩
 |own y=>exact x
 |xd fs=>obtain⟨mA,⟨od,es,ep,e,c⟩,r⟩:=x;exact⟨_,e⟩
 |rng lo hi=>obtain⟨t,u,v,e⟩:=x;exact⟨_,e⟩
 |frz ob u ih=>exact ih x.2
 |tbl q ps=>exact⟨_,x.1⟩
 |met f y=>exact⟨_,x⟩
 |ext φ=>exact x.2.1
end
structure zS (X:Cx):Prop where
 stk:X.stack=X.env::X.outer
 fr:X.env.frame=some X.env.locals
 ex:X.ex=[]
section
variable {M:Model}{A:Around}{E:Value->Shared->Prop}
variable {nm nmT qT:Str}{C N T NT:Addr}{bs bm bsT bmT:List Value}{hdct hdctT:Bool}{sn snT:List Str}{sub subT:List Value}{ab abT:Bool}{col colT:Option Bool}{dd ddT:Option Addr}{k0 k1 k2 k3 k5 l0 l1 l2 l3 l5:Option Value}
def iQ {g:Array GenState}{d:Drawn}{t:Nat}{os:OsState}{e:Addr}{oe:Obj}{Q:Bool->Shared->Prop}
  (hC:h.get? C=some (excClassObj nm q C N bs bm hdct sn sub ab col dd k0 k1 k2 k3 k5 newId)) (hT:h.get? T=some (excClassObj nmT qT T NT bsT bmT hdctT snT subT abT colT ddT l0 l1 l2 l3 l5 newIdT)) (he:h.get? e=some oe) (hcls:oe.cls=.ref C) (hbase:bmT.contains (.type "BaseException")=true)
  (hq:Q ((Value.ref C::bm).contains (.ref T)) ⟨h,g,d,t,os⟩):wpAny M A (excMatches (.ref e) (.ref T)) Q E ⟨h,g,d,t,os⟩:=by
 have hcB:(Value.ref T::bmT).contains (.type "BaseException")=true:=by rw[List.contains_cons,hbase,Bool.or_true]
 have f:=tc_notTuple;unfold excMatches
 repeat (first|(with_reducible refine wpAny_loadPart_at he ?_;rw[hcls])|with_reducible refine wpAny_loadPart_at hT ?_|with_reducible refine wpAny_loadPart_at hC ?_|(with_reducible refine wpAny_isSubtype_exc hT ?_;rw[hcB])|(with_reducible refine wpAny_isSubtype_exc hC ?_)|wp_step)
 cases hb:(Value.ref C::bm).contains (.ref T)<;>(rw[hb] at hq;wp_walk;exact hq)
end
def Lnd (X:Cx)(pins:List (Addr×Obj))(σ:St)(H:Hp)(ea c:Addr)(s:Shared):Prop:=
 Inv X pins σ H s/\∃B a0,HOk X.prog X.w H B/\(∀b o,X.s₀.heap.get? b=some o->X.H₀ b=none->b∉X.fs->b∉X.ex->B.get? b=some o)/\(∀b o,X.s₀.heap.get? b=some o->b∉frs X.stack->b∉X.ex->∃o',B.get? b=some o')/\
  (∀p∈X.pn++pins,B.get? p.1=some p.2)/\Heap.FlyingW B X.stack ea (.ref c) a0 s.heap
section
variable {E:Value->Shared->Prop}{c:Addr}
def oO {B:Heap}{a0:Value}(I:Inv X pins σ H s)(ok:HOk X.prog X.w H B)(kb:∀b o,X.s₀.heap.get? b=some o->X.H₀ b=none->b∉X.fs->b∉X.ex->B.get? b=some o)
  (th:∀b o,X.s₀.heap.get? b=some o->b∉frs X.stack->b∉X.ex->∃o',B.get? b=some o') (pn:∀p∈X.pn++pins,B.get? p.1=some p.2) (fl:Heap.FlyingW B X.stack ea (.ref c) a0 h') (up:s.heap.UpToSlots h'):Lnd X pins σ H ea c {s with heap:=h'}:=
 ⟨bW (E:=fun a a=>False) (wc (kU I) ok kb th pn fl.1 up),B,a0,ok,kb,th,pn,fl⟩
def lands (f:zS X)(I:Inv (tri X E' (X.pn++pins)) pins' σ H s)(fl:Fl (tri X E' (X.pn++pins)) ea c H s){Q:Shared->Prop}(k:∀h',Lnd X pins σ H ea c {s with heap:=h'}->Q {s with heap:=h'}):
  wpAny (model X.prog X.w) X.A (noteFrame (.ref ea) X.env) (fun a s₂=>wpAny (model X.prog X.w) X.A (setFlight (.ref ea) none) (fun a s₃=>Q s₃) E s₂) E s:=by
 obtain⟨B,ok,kb,th,pn,r⟩:=fl;have hfr:X.A.frames=some (X.env::X.outer):=by rw[←f.stk];exact I.ok.frames
 have I0:=bW I;rcases r with⟨vs,m,ff⟩|⟨a0,fl⟩
 ·have hin:∀env∈X.stack,∀b,env.frame=some b->b∈frs X.stack:=fun env he b hb=>List.mem_filterMap.mpr ⟨env,he,hb⟩
  let B':=PySem.W.hideAll B (frs X.stack)
  have nfr:∀b,b∈frs X.stack->H b=none:=I0.stkFree;have ok':HOk X.prog X.w H B':=fun b o e=>by
   have nf:∀cc u,H cc=some u->cc∉frs X.stack:=fun cc u e z=>by rw[nfr cc z] at e;cases e
   refine (ok b o e).stay (fun cc u hc q=>PySem.W.hideAll_get _ q ?_) (fun a q=>q) fun a a a q=>q
   rcases hc with rfl|hc
   ·exact nf _ _ e
   ·exact nf _ _ hc
  have nst:∀b o,X.s₀.heap.get? b=some o->b∉X.fs->b∉frs X.stack:=fun b o e nf z=>by
   rcases mq0 (I0.stkSub b z) with r|r
   ·subst r
    exact absurd (nl0 (hs0 e) I0.ok.above) (li0 _)
   ·exact nf r
  have kb':∀b o,X.s₀.heap.get? b=some o->X.H₀ b=none->b∉X.fs->b∉X.ex->B'.get? b=some o:=fun b o e n nf nx=>PySem.W.hideAll_get _ (kb b o e n nf nx) (nst b o e nf)
  have th':∀b o,X.s₀.heap.get? b=some o->b∉frs X.stack->b∉X.ex->∃o',B'.get? b=some o':=fun b o e nf nx=>let ⟨o',q⟩:=th b o e nf nx;⟨o',PySem.W.hideAll_get _ q nf⟩
  have pn':∀p∈X.pn++pins,B'.get? p.1=some p.2:=fun p hp=>PySem.W.hideAll_get _ (pn p hp) fun z=>by
   obtain⟨_,_,d,e,_⟩:=I0.pin p hp;rcases mq0 (I0.stkSub p.1 z) with r|r
   ·exact d r
   ·exact e r
  obtain⟨t,he,htn,ht⟩:=m.there;have ff':s.heap.FunFrames B' X.stack:=(PySem.W.funFrames_hide ff hin).of_keeps fun b o hb a=>⟨o,m.keeps b o hb,rfl⟩
  have hen:B'.get? ea=none:=by
   cases q:B'.get? ea with
   |none=>rfl
   |some o=>have:=PySem.W.of_hideAll _ q;rw[m.new] at this;cases this
  rw[f.stk] at ff';unfold noteFrame;simp only[f.fr];refine wb0 (wpAny_field he rfl (x:=.none) rfl ?_);rw[if_neg (by decide)];refine wpAny_entryW (a0:=.ref t) hfr ff' f.fr he (fun b o q=>m.keeps b o (PySem.W.of_hideAll _ q)) hen rfl (by show 1<6;decide) rfl fun h4 hN=>?_
  obtain⟨n1,n2,n3,n4⟩:=hN;refine wpAny_landsW (base:=B') (l:=X.env::X.outer) (a0:=.ref t) (cls:=.ref c) (L:=X.env.locals) ⟨n1,hen,n2,n3⟩ fun h5 fl5 up5=>?_
  exact k h5 (oO I0 ok' kb' th' pn' (by rw[f.stk];exact fl5) (Heap.UpToSlots.trans n4 up5))
 ·have fl:Heap.FlyingW B (X.env::X.outer) ea (.ref c) a0 s.heap:=by rw[←f.stk];exact fl
  refine wpAny_looks_onW hfr f.fr fl fun h4 held up4=>?_
  refine wpAny_landsW held fun h5 fl5 up5=>?_
  exact k h5 (oO I0 ok kb th pn (by rw[f.stk];exact fl5) (up4.trans up5))
def sH {M:Model}{A:Around}{Q:Shared->Prop}(L:Lnd X pins σ H ea c s)(k:∀h',Lnd X pins σ H ea c {s with heap:=h'}->Q {s with heap:=h'}):wpAny M A (setFlight (.ref ea) none) (fun a s'=>Q s') E s:=by
 obtain⟨I,B,a0,ok,kb,th,pn,fl⟩:=L;exact lands_againW fl fun h' fl' up=>k h' (oO I ok kb th pn fl' up)
def sI (f:zS X)(L:Lnd X pins σ H ea c s):Inv X pins σ (upd H ea (.ext (ExcAt ea c))) s/\H ea=none:=by
 obtain⟨I,B,a0,ok,kb,th,pn,fl⟩:=L;obtain⟨oe,vs,ho,hcl,hd,_⟩:=fl.first;have hn:H ea=none:=by
  cases q:H ea with
  |none=>rfl
  |some o=>obtain⟨ob,e⟩:=mF (ok ea o q);rw[fl.2.1] at e;cases e
 have nfr:ea∉frs X.stack:=fun z=>by
  obtain⟨_,o,h1,h2⟩:=fl.2.2.1.mem z<;>simp_all
 refine⟨sG I hn ho hcl ?_ (fun z=>?_) (fun x cc e z=>?_) fun p hp z=>?_,hn⟩
 ·cases q:X.s₀.heap.get? ea with
  |none=>rfl
  |some o=>obtain⟨o',e⟩:=th ea o q nfr (by rw[f.ex];simp);rw[fl.2.1] at e;cases e
 ·refine nfr ?_
  rw[z,f.stk];exact List.mem_filterMap.mpr ⟨X.env,ms0,f.fr⟩
 ·obtain⟨v,o,h1,h2⟩:=I.cell x cc e<;>grind
 ·have:=pn p hp
  rw[z,fl.2.1] at this;cases this
end
def EnvD.unset {G:Hp}(E:EnvD K G0 H0 G H σ ρ)(j:Nat):EnvD K G0 H0 G H (σ.set j Option.none) (ρ.set j .no):=by
 have at':∀{i:Nat} {sl:Sl},(ρ.set j .no)[i]?=some sl->sl≠.no->i≠j/\ρ[i]?=some sl:=fun {i sl} h hn=>by
  rcases getE_set h with⟨rfl,z⟩|⟨ne,z⟩
  ·exact absurd z hn
  ·exact⟨ne,z⟩
 have sg:∀{i:Nat},i≠j->(σ.set j Option.none)[i]?=σ[i]?:=fun {i} ne=>gn0 (Ne.symm ne)
 refine⟨E.ext,by simp[E.len],fun i d h=>?_,fun i d h=>?_,fun i d h=>?_,fun i k d e p h1 h2 h3 h4=>?_,fun i rows h=>?_⟩
 ·obtain⟨ne,z⟩:=at' h (by simp)
  rw[sg ne];exact E.dat i d z
 ·obtain⟨ne,z⟩:=at' h (by intro q;cases q)
  rw[sg ne];exact E.lent i d z
 ·obtain⟨ne,z⟩:=at' h (by intro q;cases q)
  rw[sg ne];exact E.own i d z
 ·obtain⟨n1,z1⟩:=at' h1 (by intro q;cases q)
  obtain⟨n2,z2⟩:=at' h2 (by intro q;cases q);rw[sg n1] at h3;rw[sg n2] at h4;exact E.apart i k d e p z1 z2 h3 h4
 ·obtain⟨ne,z⟩:=at' h (by intro q;cases q)
  obtain⟨a,b,cc⟩:=E.deep i rows z;rw[sg ne];exact⟨a,fun k d q=>b k d (at' q (by intro q;cases q)).2,fun k r q=>cc k r (at' q (by intro q;cases q)).2⟩
theorem EnvM.unset {C:Addr}{G:Hp}{d0 d:Vd}{U:List (List D)}(E:EnvM P w K C G0 H0 d0 G H d σ ρ U)(j:Nat):EnvM P w K C G0 H0 d0 G H d (σ.set j Option.none) (ρ.set j .no) U:=by
 obtain⟨Gb,Hb,s1,s2,en⟩:=E.bas;exact⟨⟨Gb,Hb,s1,s2,en.unset j⟩,E.nw,E.pre,E.vs⟩
noncomputable abbrev mrk (X:Cx)(ea:Addr):Cx:={X with A:=X.A.mark (some (.ref ea)),calm:=false,xe:=fun a a=>False}
def qu (I:Inv X pins σ H s):Inv (mrk X ea) pins σ H s:=
 ⟨⟨I.ok.mod,I.ok.kind,I.ok.glob,I.ok.blt,I.ok.above,I.ok.inj,I.ok.has,I.ok.cab,(fun z=>nomatch z),I.ok.frames,I.ok.stk,I.ok.exf,I.ok.bs,I.ok.bsz,I.ok.noex,I.ok.exfs,I.ok.funs,I.ok.frf,I.ok.tb⟩,I.os,I.bare,I.base,I.loc,I.cell,I.free,I.freeC,I.pin,I.hok,I.len⟩
def sJ (ok:X.Ok)(I:Inv (mrk X ea) pins σ H s):Inv X pins σ H s:=
 ⟨ok,I.os,I.bare,I.base,I.loc,I.cell,I.free,I.freeC,I.pin,I.hok,I.len⟩
noncomputable def dP (K:Fg)(c t:Addr):Bool:=match K.lookup c with
 |some ⟨_,_,.cls cd,_⟩=>cd.mro.contains (.ref t)
 |_=>false
set_option tactic.hygienic true in
def wj {c t:Addr}{b:Bool}(X:K.In h)(q:PySem.W.excIn K c bmB newId=true)(hb:dP K c t=b):
  ∃bm N nm qn bs hdct sn sub ab col dd k0 k1 k2 k3 k5,h.get? c=some (excClassObj nm qn c N bs bm hdct sn sub ab col dd k0 k1 k2 k3 k5 newId)/\(Value.ref c::bm).contains (.ref t)=b:=by
 unfold PySem.W.excIn at q;split at q
 ·rename_i dd cd sl ho
  split at q
  ·rename_i C' bm k0 k1 k2 k3 n k5 hm hs
   simp only[be0,beq_iff_eq,Bool.not_eq_true'] at q;obtain⟨⟨⟨⟨⟨rfl,rfl⟩,hdel⟩,ht⟩,hok⟩,hni⟩:=q;obtain⟨nm,bs,mro,ns,qn,hd,sn,sub,ab,col,del⟩:=cd;dsimp only at hm hdel hok hni;subst hm hdel;have hsl:sl=#[k0,k1,k2,k3,some (.builtin n),k5]:=by
    obtain⟨l⟩:=sl;simp only at hs;rw[hs]
   subst hsl;refine⟨bm,ns,nm,qn,bs,hd,sn,sub,ab,col,dd,k0,k1,k2,k3,k5,X _ _ ho,?_⟩;unfold dP at hb;rw[ho] at hb;exact hb
  ·cases q
 ·cases q
section
variable {C:Addr}{U U1:List (List D)}{n k:Str}{c t:Nat}{tp np ap hp:Pos}
def mG {hs:ExceptHandler}{rs:List ExceptHandler}{o:OM}(hb:∀E pn,PassesOwn (model X.prog X.w) X.A X.env E->SsM (tri X E pn) C ρ U body o U1)(ho:∀c ρ',o≠.exc c ρ'):S1M X C ρ U (.Try body (hs::rs) [] [] pos) o U1:=by
 intro pins s σ H F I h0;obtain⟨G0,H0,d0,G,d,E,R⟩:=h0;refine wpAny_Try_except ?_;refine wpAny_mono (hb _ _ PassesOwn.looking [] s σ H F (kU I) ⟨G0,H0,d0,G,d,E,?_⟩) (fun f s1 h1=>?_) fun e s1 h1=>h1
 ·cases o with
  |nx ρ'=>exact R
  |rt dd=>exact R
  |exc c ρ'=>exact absurd rfl (ho c _)
 ·have h2:=vZ h1
  cases f with
  |next=>exact wpAny_execs_nil h2
  |brk=>exact h2
  |cont=>exact h2
  |ret u=>exact h2
def wm (f:zS X)(hb:∀E pn,PassesOwn (model X.prog X.w) X.A X.env E->SsM (tri X E pn) C ρ U body (.exc c ρ1) U1)
  (hg:Gl X x) (hd:(x==("__debug__":Str))=false) (hm:X.mg x=some (.ref t))   (hq:PySem.W.excIn X.K c bmB newId=true) (hqT:PySem.W.excIn X.K t bmB newIdT=true) (hbB:bmB.contains (.type "BaseException")=true) (hbel:dP X.K c t=true)
  (Sn:Sto X n j) (hln:X.env.kindOf n=some .local) (hdn:(n==("__debug__":Str))=false) (hcn:(n==("__classdict__":Str))=false) (Sk:Sto X k i) (hij:i≠j) (hsw:swapsWith (.Name n np) (some (.Name k kp)) ap.line X.env=pure false):
  S1M X C ρ U (.Try body [.ExceptHandler (some (.Name x tp)) (some n) [.Assign [.Name k kp] (.Name n np) ap] hp] [] [] pos) (.nx ((ρ1.set i (.dat (.exc c))).set j .no)) U1:=by
 intro pins s σ H F I h0;obtain⟨G0,H0,d0,G,d,E,R⟩:=h0;refine wpAny_Try_except ?_;refine wpAny_mono (hb _ (X.pn++pins) PassesOwn.looking [] s σ H {F with nx:=fun a a=>False,rt:=fun a a=>False,bk:=fun a a=>False,ct:=fun a a=>False} (kU I) ⟨G0,H0,d0,G,d,E,?_⟩) (fun f s1 h1=>?_) fun e s1 h1=>h1
 ·intro G1 H1 d1 σ1 E1 g1 pins' ea s1 I1 fl
  refine lands f I1 fl fun h5 L5=>?_
  refine wpAny_handleBy_cons (codeAny_handlers_test (ld_glob (X:=mrk X ea) (qu L5.1) hg hm ?_ hd)) (by intro q;cases q);have kin:X.K.In h5:=L5.1.kIn;obtain⟨bm,N,nm,qn,bs,hdct,sn,sub,ab,col,dd,k0,k1,k2,k3,k5,hC,hcon⟩:=wj kin hq hbel;obtain⟨bmT,NT,nmT,qT,bsT,hdT,snT,subT,abT,colT,ddT,l0,l1,l2,l3,l5,mT,hT,_,_,TLT⟩:=qt kin hqT;have L5':=L5;obtain⟨_,B,a0,_,_,_,_,fl5⟩:=L5';obtain⟨ob,hob,hobc⟩:=fl5.there;refine iQ (T:=t) hC hT hob hobc (TLT.hasType hbB) ?_;rw[hcon];refine codeAny_handlers_suite_as ?_;refine sH L5 fun h6 L6=>?_
  obtain⟨I6,hn6⟩:=sI f L6;have e6:Ext G1 H1 (upd G1 ea (.ext (ExcAt ea c))) (upd H1 ea (.ext (ExcAt ea c))):=.laid E1.sub hn6;have E6:=E1.go (E1.vs.mext E1.sub' e6) (E1.vs.step e6);have lj:j<σ1.length:=Sn.lt I6;have li:i<σ1.length:=Sk.lt I6;refine ig I6 Sn.nd Sn.nm.at' Sn.nm.loc (v:=.ref ea) rfl (fun s7 I7=>?_) Sn.nm.fn;have I7':Inv (mrk X ea) pins (σ1.set j (some (.ref ea))) (upd H1 ea (.ext (ExcAt ea c))) s7:=qu I7;have asg:=fG (X:=mrk X ea) (i:=i) (x:=k) (pos:=ap) (pos':=kp) Sk.nd Sk.nm.at' Sk.nm.loc (bL (X:=mrk X ea) (i:=j) (x:=n) (pos:=np) Sn.nm.at' (Or.inl hln) hdn hcn) hsw Sk.nm.fn pins s7 _ _ {nx:=fun σ8 H8=>σ8=(σ1.set j (some (.ref ea))).set i (some (.ref ea))/\H8=upd H1 ea (.ext (ExcAt ea c)),rt:=fun a a=>False} I7' ⟨.ref ea,gs0 lj,rfl,rfl⟩
  refine wpAny_execs_cons (wpAny_mono asg (fun f s8 h8=>?_) fun e s8 h8=>h8.elim);cases f with
  |next=>
   obtain⟨σ8,H8,I8,rfl,rfl⟩:=h8;refine wpAny_execs_nil ?_;have I8:=sJ I.ok I8;obtain⟨m,hn,hl⟩:=I8.loc;refine wpAny_nameGoes_keeps hln hn (by rw[I.ok.kind];rfl) fun h9 v hn9 sb9=>?_
   have I9:=wg (t':=s8.toks+1) I8 Sn.nd Sn.nm.at' hl hn9 sb9;refine⟨_,_,I9,R _ _ d1 _ ?_ (g1.trans e6.gg)⟩;have E9:=(E6.set li (.exc ae:Dp X.K _ (.exc c) (.ref ea))).unset j;have e:((σ1.set j (some (.ref ea))).set i (some (.ref ea))).set j Option.none=(σ1.set i (some (.ref ea))).set j Option.none:=by
    rw[List.set_comm _ _ hij.symm,List.set_set]
   rw[e];exact E9
  |brk=>obtain⟨_,_,_,z⟩:=h8;exact z.elim
  |cont=>obtain⟨_,_,_,z⟩:=h8;exact z.elim
  |ret u=>obtain⟨_,_,_,_,_,z⟩:=h8;exact z.elim
 ·cases f with
  |next=>obtain⟨_,_,_,z⟩:=h1;exact z.elim
  |brk=>obtain⟨_,_,_,z⟩:=h1;exact z.elim
  |cont=>obtain⟨_,_,_,z⟩:=h1;exact z.elim
  |ret u=>obtain⟨_,_,_,_,_,z⟩:=h1;exact z.elim
end
def DP {q:Addr}{o:HO}(h:q∉ps):er (upd H q o) ps=upd (er H ps) q o:=by
 funext b
 by_cases e:b=q
 ·subst e;rw[ae,aA h,ae]
 ·rw[aa e]
  by_cases z:b∈ps
  ·rw[iO z,iO z]
  ·rw[aA z,aA z,aa e]
section
variable {C:Addr}{G:Hp}{d0 d:Vd}{U:List (List D)}
def VS.touch (v:VS P w K C G H d U){q:Addr}{o:HO}(hq:q∉parts d)(no:∀a,H q≠some (.own a))(ni:notIns o=true):VS P w K C G (upd H q o) d U:=
 ⟨v.len,v.nd,fun h a l n e=>by
  obtain⟨dx,objs,h1,h2,h3,as,h4,h5,h6,h7⟩:=v.at' h a l n e;have m:=fU e;refine⟨dx,objs,h1,h2,?_,as,?_,h5,?_,h7⟩
  ·rw[aa fun z=>no a (by rw[←z];exact h3)];exact h3
  ·rw[aa fun z=>hq (by rw[←z];exact m.1)];exact h4
  ·rw[aa fun z=>hq (by rw[←z];exact m.2)];exact h6,
  fun a C' dx fs e=>v.uni a C' dx fs (cg ni a C' dx fs e),v.out,fun p hp=>let ⟨ps,e⟩:=v.tb p hp;⟨ps,by rw[aa fun z=>hq (by rw[←z];exact List.mem_append_left _ (List.mem_map.mpr ⟨p,hp,rfl⟩))];exact e⟩⟩
theorem EnvM.own (E:EnvM P w K C G0 H0 d0 G H d σ ρ U)(h:ρ[i]?=some (.own (.list ds))):∃q vs,σ[i]?=some (some (.ref q))/\H q=some (.lst vs)/\Dps K G ds vs/\q∉parts d:=by
 obtain⟨Gb,Hb,_,_,e⟩:=E.bas;obtain⟨q,vs,a,b,c⟩:=dF e h;exact⟨q,vs,a,(aU b).2,c,(aU b).1⟩
theorem EnvM.change (E:EnvM P w K C G0 H0 d0 G H d σ ρ U){es:List D}{q:Addr}{ws:List V}(h:ρ[i]?=some (.own (.list ds)))(a:σ[i]?=some (some (.ref q)))(b:H q=some (.lst vs))(hp:q∉parts d)(r:Dps K G es ws):
  EnvM P w K C G0 H0 d0 G (upd H q (.lst ws)) d σ (ρ.set i (.own (.list es))) U:=by
 obtain⟨Gb,Hb,s1,s2,e⟩:=E.bas;refine⟨⟨Gb,Hb,s1,s2,?_⟩,E.nw,E.pre,E.vs.touch hp (fun a z=>by grind) rfl⟩;rw[DP hp];exact e.change h a (.inl ⟨_,_,rfl,ae,r⟩)
end
section
variable {C:Addr}{U U1 U2 U':List (List D)}{rest:List Stmt}{o:OM}{e:Expr}{c:Nat}{r:R}{rs:Rs}
def GG (ha:EvM X C ρ U a (.exc c) U1):EvM X C ρ U (.BoolOp .And [a,b] pos) (.exc c) U1:=fun pins s σ H Q I ⟨G0,H0,d0,G,dd,E,k⟩=>
 nA (tb:=fun d d d=>False) ha (fun d d d d d d z=>z.elim) _ s σ H Q I ⟨G0,H0,d0,G,dd,E,k⟩
def evM_tup {x1}(h:EaM X C ρ U [] es (.ok ds) U1)(hz:ds.length≤1000):EvM X C ρ U (.Tuple es x1 pos) (.ok (.tuple ds)) U1:=fun pins s σ H Q I ⟨G0,H0,d0,G,dd,E,k⟩=>
 tU h _ s σ H Q I ⟨G0,H0,d0,G,dd,E,fun vs G1 H1 d1 m1 v1 r=>⟨by rw[←r.length];exact Nat.le_of_lt (cP hz),fun q hq=>by
  have e:Ext G1 H1 _ (upd H1 q (.tup vs)):=.laid (m1.gh.trans ao) hq;exact k _ _ _ d1 (m1.trans (v1.mext m1.gh e)) (v1.step e) (.tuple ae (r.dps.mono e.gg))⟩⟩
def DQ (ha:EvM X C ρ U a (.ok (.tuple ds)) U1)(hk:ds[k]?=some d):EvM X C ρ U (.Subscript a (.Constant (.int k) j p) pos) (.ok d) U1:=fun pins s σ H Q I ⟨G0,H0,d0,G,dd,E,kq⟩=>
 pL nQ ha nz (fun b b=>rfl) pins s σ H Q I ⟨G0,H0,d0,G,dd,E,fun v G1 H1 d1 m1 v1 r1=>by
  cases r1 with
  |tuple hq r=>
   obtain⟨w,e,q⟩:=r.get hk;have hl:=(gi0 e).1;exact⟨_,_,k,_,rfl,rfl,SqT.of ((m1.gh.trans ao) _ _ hq),by unfold L2.atI L2.ixN;simp[hl,(gi0 e).2],kq _ G1 H1 d1 m1 v1 q⟩⟩
def zT (ha:EvM X C ρ U a (.exc c) U1):EvM X C ρ U (.Subscript a (.Constant (.int k) j p) pos) (.exc c) U1:=fun pins s σ H Q I ⟨G0,H0,d0,G,dd,E,k⟩=>
 pL nQ ha nz (fun b b=>rfl) pins s σ H Q I ⟨G0,H0,d0,G,dd,E,k⟩
def wq (h:EvM X C ρ U iter (.ok (.list ds)) U1):SiM X C ρ U iter ds U1:=by
 intro tg pins s σ H R I h0;obtain⟨G0,H0,d0,G,dd,E,k⟩:=h0;refine dY h _ s σ H R I ⟨G0,H0,d0,G,dd,E,fun v G1 H1 d1 m1 v1 r1=>?_⟩;cases r1 with
 |list hq r=>exact⟨_,rfl,⟨_,SqL.of ((m1.gh.trans ao) _ _ hq)⟩,k _ G1 H1 d1 m1 v1 ⟨fun a=>none,src_list (fun H' g a=>SqL.of (g _ _ hq)) r,fun a a a a a a a a b o z=>by cases z⟩⟩
def wu (h:EvM X C ρ U iter (.exc c) U1)(hc:X.calm=true)(hp:PassesOwn (model X.prog X.w) X.A X.env X.xe)(hf:∀x,foldedSetIterable iter X.env x=pure x):S1M X C ρ U (.For tg iter body [] pos) (.exc c ρ) U1:=by
 intro pins s σ H F I h0;obtain⟨G0,H0,d0,G,dd,E,R⟩:=h0;exact nF hp hc (dY h) (DH) (qk) hf _ s σ H F I ⟨G0,H0,d0,G,dd,E,iP E R⟩
def zU (V:VarOk X x i)(h:EvM X C ρ U e (.ok (.list ds)) U1)(hs:isStar e=false){es:List D}(ho:ρ[i]?=some (.own (.list es)))(hz:es.length+ds.length≤sizeLine)(hline:(apos.endLine==cpos.line)=true):
  S1M X C ρ U (.Expr (.Call (.Attribute (.Name x p1) "extend" apos) [e] [] cpos) pos) (.nx (ρ.set i (.own (.list (es++ds))))) U1:=by
 have hS:=af (es:=[]) (env:=X.env) hs;intro pins s σ H F I h0;obtain⟨G0,H0,d0,G,dd,E,R⟩:=h0;obtain⟨q,vs,a,b,g,np⟩:=E.own ho;refine dX (pO PySem.F.plainAttrs_list PySem.F.slot_list_extend PySem.F.type_list_extend jy V.pe (ax h aQ hS) ed (by rw[hS];rfl) hline hS rfl) rfl _ s σ H F I ?_;refine⟨_,a,.inl ⟨rfl,vs,SqL.of b⟩,G0,H0,d0,G,dd,E,fun v G1 H1 d1 m1 v1 r1=>?_⟩;have E1:=E.go m1 v1;obtain⟨q',vs',a',b',g',np'⟩:=E1.own ho;rw[a] at a';cases a';cases r1 with
 |@list q2 ws _ hq r=>
  exact⟨q,q2,_,ws,rfl,rfl,b',(m1.gh.trans ao) _ _ hq,by rwa [←g'.length,←r.length],R G1 _ _ _ (E1.change ho a b' np' (g'.append r)) m1.gg⟩
noncomputable def ar:Sl->Bool
 |.lent (.scr _)=>true
 |.lent _=>false
 |_=>true
noncomputable def wx:Option HO->Bool
 |some (.own _)=>true
 |_=>false
def s1M_pureS (h:E1 X ρ st (.nx ρ1))(hl:∀sl∈ρ1,ar sl=true):S1M X C ρ U st (.nx ρ1) U:=by
 intro pins s σ H F I h0;obtain⟨G0,H0,d0,G,dd,E,R⟩:=h0;obtain⟨Gb,Hb,s1,s2,e⟩:=E.bas
 let sp:Addr->Prop:=fun b=>b∈parts dd\/wx (H b)=true
 have spH:∀b,sp b->∃o,H b=some o:=fun b z=>by
  rcases z with z|z
  ·exact E.vs.part z
  ·cases q:H b with
   |none=>rw[q] at z;cases z
   |some o=>exact⟨o,rfl⟩
 have spG:∀b,sp b->∀C' dx fs,H b≠some (.ins C' dx fs):=fun b z C' dx fs q=>by
  rcases z with z|z
  ·exact E.vs.notPart q z
  ·rw[q] at z;cases z
 open Classical in
 let Hp':Hp:=fun b=>if sp b then H b else Hb b
 open Classical in
 let Gp':Hp:=fun b=>if sp b then G b else Gb b
 have hI:∀b,sp b->Hp' b=H b:=fun b z=>if_pos z
 have hO:∀b,¬ sp b->Hp' b=Hb b:=fun b z=>if_neg z
 have gI:∀b,sp b->Gp' b=G b:=fun b z=>if_pos z
 have gO:∀b,¬ sp b->Gp' b=Gb b:=fun b z=>if_neg z
 have sub:Same G H:=E.sub;have hbH:Same Hb H:=fun b o z=>ao b o (e.ext.hh b o z)
 have hbHp:Same Hb Hp':=fun b o z=>by
  by_cases q:sp b
  ·rw[hI b q];exact hbH b o z
  ·rw[hO b q];exact z
 have gbGp:Same Gb Gp':=fun b o z=>by
  by_cases q:sp b
  ·rw[gI b q];exact e.ext.gg b o z
  ·rw[gO b q];exact z
 have E0:EnvD X.K Gp' Hp' G H σ ρ:=by
  refine⟨⟨fun b o z=>?_,fun b o z=>?_,sub,fun b o z1 z2=>?_,fun b C' dx fs z=>?_⟩,e.len,e.dat,fun i d z=>?_,fun i d z=>?_,e.apart,fun i rows z=>?_⟩
  ·by_cases q:sp b
   ·rw[hI b q] at z;exact z
   ·rw[hO b q] at z;exact hbH b o z
  ·by_cases q:sp b
   ·rw[gI b q] at z;exact z
   ·rw[gO b q] at z;exact e.ext.gg b o z
  ·by_cases q:sp b
   ·rw[gI b q] at z1;exact z1
   ·rw[gO b q] at z1;rw[hO b q] at z2;exact e.ext.nw b o z1 z2
  ·have q:¬ sp b:=fun q=>spG b q C' dx fs z
   rw[hO b q];exact e.ext.ni b C' dx fs (by rw[aA fun m=>q (.inl m)];exact z)
  ·obtain⟨v,a1,a2⟩:=e.lent i d z
   exact⟨v,a1,(a2.monoH hbHp).monoG gbGp⟩
  ·obtain⟨q,a1,a2,a3,a4⟩:=e.own i d z
   obtain⟨oo,ho⟩:=a4.some;have nq:¬ sp q:=fun z=>by
    rcases z with z|z
    ·exact (aU ho).1 z
    ·rcases a4 with⟨_,_,_,y,_⟩|⟨_,_,_,y,_⟩<;>(rw[(aU y).2] at z;cases z)
   refine⟨q,a1,a2,by rw[hO q nq];exact a3,?_⟩;rcases a4 with⟨ds,vs,y1,y2,y3⟩|⟨ds,vs,y1,y2,y3⟩
   ·exact .inl ⟨ds,vs,y1,ao _ _ y2,y3⟩
   ·exact .inr ⟨ds,vs,y1,ao _ _ y2,y3⟩
  ·obtain⟨⟨q,a1,qs,b1,b2,b3,b4,b5,b6⟩,c1⟩:=e.deep i rows z
   have nq:∀{q:Addr} {vs:List V},er H (parts dd) q=some (.lst vs)->¬ sp q:=fun {q vs} y z=>by
    rcases z with z|z
    ·exact (aU y).1 z
    ·rw[(aU y).2] at z;cases z
   refine⟨⟨q,a1,qs,ao _ _ b1,b2,by rw[hO q (nq b1)];exact b3,b4,b5,fun k row q' z1 z2=>?_⟩,c1⟩;obtain⟨y1,y2,vs,y3,y4⟩:=b6 k row q' z1 z2;exact⟨y1,by rw[hO q' (nq y3)];exact y2,vs,ao _ _ y3,y4⟩
 refine h pins s σ H F I ⟨Gp',Hp',G,E0,fun G' H' σ' e' g=>R G' H' dd σ' ?_ g⟩;have ns:∀b,sp b->H' b=H b:=fun b z=>by
  obtain⟨o,ho⟩:=spH b z;rw[ho];exact e'.ext.hh b o (by rw[hI b z];exact ho)
 have pG:∀b∈parts dd,G' b=none:=fun b hb=>by
  obtain⟨o,ho⟩:=E.vs.part hb;exact e'.ext.nw b o (by rw[gI b (.inl hb)];exact E.vs.out b hb) (by rw[hI b (.inl hb)];exact ho)
 have lst_nsp:∀{q:Addr} {o:HO},H' q=some o->Hp' q=none->¬ sp q:=fun {q o} y z m=>by
  obtain⟨o',ho⟩:=spH q m;rw[hI q m,ho] at z;cases z
 refine⟨⟨Gb,Hb,s1,s2,⟨⟨fun b o z=>?_,gbGp.trans e'.ext.gg,fun b o z=>?_,fun b o z1 z2=>?_,fun b C' dx fs z=>?_⟩,e'.len,e'.dat,fun i d z=>?_,fun i d z=>?_,e'.apart,fun i rows z=>?_⟩⟩,fun b o z1 z2=>?_,E.pre,?_⟩
 ·have np:b∉parts dd:=(aU (e.ext.hh b o z)).1
  rw[aA np];exact e'.ext.hh b o (hbHp b o z)
 ·have np:b∉parts dd:=fun m=>by rw[pG b m] at z;cases z
  rw[aA np];exact e'.ext.gh b o z
 ·by_cases q:sp b
  ·exact e'.ext.nw b o (by rw[gI b q];exact e.ext.nw b o z1 z2) (hbHp b o z2)
  ·exact e'.ext.nw b o (by rw[gO b q];exact z1) (hbHp b o z2)
 ·obtain⟨n1,n2⟩:=aU z
  have:=e'.ext.ni b C' dx fs n2;have q:¬ sp b:=fun q=>by rw[hI b q] at this;exact spG b q C' dx fs this
  rw[hO b q] at this;exact this
 ·obtain⟨v,a1,a2⟩:=e'.lent i d z
  have lo:=hl _ (mg0 z);have gB:∀{q:Addr} {o:HO},Gp' q=some o->wx (some o)=false->Gb q=some o:=fun {q o} y z=>by
   have nq:¬ sp q:=fun m=>by
    rw[gI q m] at y;rcases m with m|m
    ·rw[E.vs.out q m] at y;cases y
    ·rw[sub q o y,z] at m;cases m
   rw[gO q nq] at y;exact y
  refine⟨v,a1,?_⟩;cases d with
  |scr ns=>
   cases a2 with
   |of y=>
    cases y with
    |scr y=>
     refine .of (.scr ?_);rcases y with y|y
     ·left
      rcases y with y|⟨o,y⟩
      ·exact .inl (gB y rfl)
      ·exact .inr ⟨o,gB y rfl⟩
     ·exact .inr y
  |_=>cases lo
 ·obtain⟨q,a1,a2,a3,a4⟩:=e'.own i d z
  obtain⟨oo,ho⟩:=a4.some;have nq:=lst_nsp ho a3;refine⟨q,a1,a2,by rw[hO q nq] at a3;exact a3,?_⟩;rcases a4 with⟨ds,vs,y1,y2,y3⟩|⟨ds,vs,y1,y2,y3⟩
  ·exact .inl ⟨ds,vs,y1,by rw[aA fun m=>nq (.inl m)];exact y2,y3⟩
  ·exact .inr ⟨ds,vs,y1,by rw[aA fun m=>nq (.inl m)];exact y2,y3⟩
 ·obtain⟨⟨q,a1,qs,b1,b2,b3,b4,b5,b6⟩,c1⟩:=e'.deep i rows z
  have nq:=lst_nsp b1 b3;refine⟨⟨q,a1,qs,by rw[aA fun m=>nq (.inl m)];exact b1,b2,by rw[hO q nq] at b3;exact b3,b4,b5,fun k row q' z1 z2=>?_⟩,c1⟩;obtain⟨y1,y2,vs,y3,y4⟩:=b6 k row q' z1 z2;have nq':=lst_nsp y3 y2;exact⟨y1,by rw[hO q' nq'] at y2;exact y2,vs,by rw[aA fun m=>nq' (.inl m)];exact y3,y4⟩
 ·have gn:=E.nw b o z1 z2
  obtain⟨o',ho⟩:=E.start.st b o z2
  by_cases q:sp b
  ·exact e'.ext.nw b o' (by rw[gI b q];exact gn) (by rw[hI b q];exact ho)
  ·have np:b∉parts d0:=fun m=>q (.inl (fV E.pre m))
   have hb:Hb b=some o:=s2.1 b o (by rw[aA np];exact z2);refine e'.ext.nw b o ?_ (by rw[hO b q];exact hb);rw[gO b q];cases y:Gb b with
   |none=>rfl
   |some o''=>have:=e.ext.gg b o'' y;rw[gn] at this;cases this
 ·refine⟨E.vs.len,E.vs.nd,fun h a l n q=>?_,fun a C' dx fs z=>?_,pG,fun p hp=>let ⟨ps,e⟩:=E.vs.tb p hp;⟨ps,by rw[ns p.1 (.inl (List.mem_append_left _ (List.mem_map.mpr ⟨p,hp,rfl⟩)))];exact e⟩⟩
  ·obtain⟨dx,objs,h1,h2,h3,as,h4,h5,h6,h7⟩:=E.vs.at' h a l n q
   have m:=fU q;exact⟨dx,objs,h1,g _ _ h2,by rw[ns dx (.inr (by rw[h3];rfl))];exact h3,as,by rw[ns l (.inl m.1)];exact h4,h5.mono g,by rw[ns n (.inl m.2)];exact h6,h7⟩
  ·have:=e'.ext.ni a C' dx fs z
   have q:¬ sp a:=fun q=>by rw[hI a q] at this;exact spG a q C' dx fs this
   rw[hO a q] at this;exact E.vs.uni a C' dx fs (hbH _ _ this)
end
section
variable {C:Addr}{G:Hp}{d0 d d1:Vd}{U:List (List D)}{q:Addr}
theorem EnvM.blk (E:EnvM P w K C G0 H0 d0 G H d σ ρ U):EnvM P w K C G H d G H d (df tn js σ) (SI.blk tn.length js ρ) U:=by
 obtain⟨Gb,Hb,s1,s2,e⟩:=E.bas;exact⟨⟨G,_,Same.refl _,⟨Same.refl _,fun a a h a=>h⟩,e.blk⟩,fun a a h a=>h,List.prefix_refl _,E.vs⟩
end
section
variable {C:Addr}{U U1 U2:List (List D)}{t:Tg}
end
noncomputable def eQ (cond:List Sl->List (List D)->Option D)(run:List Sl->List (List D)->Option (OM×List (List D))):Nat->List Sl->List (List D)->Option (OM×List (List D))
 |0,_,_=>Option.none
 |n+1,ρ,U=>(cond ρ U).bind fun d=>(asB d).bind fun t=>if t then (run ρ U).bind fun q=>q.1.andThen (fun ρ2=>eQ cond run n ρ2 q.2) q.2 else some (.nx ρ,U)
section
variable {C:Addr}{U U1 U2 U':List (List D)}{o:OM}{e:Expr}{r:R}{rs:Rs}
def sL {cond:List Sl->List (List D)->Option D}{run:List Sl->List (List D)->Option (OM×List (List D))}(hc:∀ρ' U' d',cond ρ' U'=some d'->∃b,d'=.bool b/\Et X (ρ'.map (vE C U')) c b)(hb:∀ρ' U' o' U2,run ρ' U'=some (o',U2)->SsM X C ρ' U' body o' U2)(n:Nat)(h:eQ cond run n ρ U=some (o,U2))
  (hp:PassesOwn (model X.prog X.w) X.A X.env X.xe):S1M X C ρ U (.While c body [] pos) o U2:=by
 intro pins s σ H F I h0;obtain⟨G0,H0,d0,G,d,E,R⟩:=h0;refine tI hp (Ja (c:=c)) (qk (body:=body)) pins s σ H F I ?_;refine⟨fun m σ' H'=>∃ρ' U' G' d',eQ cond run m ρ' U'=some (o,U2)/\EnvM X.prog X.w X.K C G0 H0 d0 G' H' d' σ' ρ' U'/\Same G G',⟨n,ρ,U,G,d,h,E,Same.refl _⟩,?_⟩
 rintro m σ' H' ⟨ρ',U',G',d',pv,E',g0⟩
 cases m with
 |zero=>cases pv
 |succ m=>
  obtain⟨d1,c1,pv⟩:=bx0 (show (cond ρ' U').bind _=some (o,U2) from pv);obtain⟨t,rfl,ht⟩:=hc ρ' U' d1 c1;rw[bZ,bs0] at pv;intro pins' s' I';refine etM_pure ht pins' s' σ' H' _ I' ⟨G0,H0,d0,G',d',E',fun G1 H1 d2 m1 v1=>?_⟩;cases t with
  |true=>
   rw[if_pos rfl] at pv;obtain⟨⟨o1,U3⟩,b2,pv⟩:=bx0 pv;refine jg ⟨fun σ2 H2=>∃ρ2 U4 G2 d3,eQ cond run m ρ2 U4=some (o,U2)/\EnvM X.prog X.w X.K C G0 H0 d0 G2 H2 d3 σ2 ρ2 U4/\Same G G2,fun σ2 H2 w2=>⟨m,Nat.lt_succ_self _,w2⟩,?_⟩;intro pins2 s2 I2;refine hb ρ' U' o1 U3 b2 pins2 s2 σ' H1 _ I2 ⟨G0,H0,d0,G1,d2,E'.go m1 v1,?_⟩;cases o1 with
   |nx ρ3=>exact fun G3 H3 d3 σ3 en3 g3=>⟨ρ3,U3,G3,d3,pv,en3,g0.trans (m1.gg.trans g3)⟩
   |rt dr=>cases pv;exact R
   |exc x ρ3=>cases pv;exact (R.go (g0.trans m1.gg))
  |false=>
   rw[if_neg fx0] at pv;cases pv;exact jf (R G1 H1 d2 σ' (E'.go m1 v1) (g0.trans m1.gg))
end
section
variable {C:Addr}{U U1 U2:List (List D)}{e:Expr}{r:R}{rs:Rs}
def sM {φ:FnM}(F:vP X.prog X.w X.K X.mg X.base C k y φ)(hf:X.mg y=some (.ref f))(V:VarOk X x i)(hv:ρ[i]?=some (.dat (.fn f)))(hr:Room k X.A)(ha:EaM X C ρ U φ.lent (e::es) rs U1)(h:vN φ.run rs U1=some (U2,r))(hs:aB (e::es)):
  EvM X C ρ U (.Call (.Name x p) (e::es) [] pos) r U2:=by
 obtain⟨f',fd,ps,hm,hk,hb,F⟩:=F.ex;rw[hf] at hm;cases hm;intro pins s σ H Q I h0;obtain⟨G0,H0,d0,G,dd,E,kq⟩:=h0;obtain⟨Gb,Hb,_,_,en⟩:=E.bas;obtain⟨v,av,bv⟩:=en.dat i _ hv;cases bv;refine wpAny_Call_Name_kw (thn (bL (pos:=p) V.at' V.vis V.d V.cd pins s σ H (fun v H1=>v=.ref f/\H1=H) I ⟨.ref f,av,rfl,rfl⟩) ?_);rintro u s1 ⟨v,H1,I1,rv,e1,e2⟩;subst e1 e2;obtain rfl:u=Value.ref f:=rv;cases rs with
 |exc c=>
  cases h;refine PySem.W.callWith_K (h₀:=X.base) I.ok.mod.kin hk (thn (ha pos pins s1 σ H1 (fun a a=>False) I1 ⟨G0,H0,d0,G,dd,E,kq⟩) fun us s1 ⟨vs,H1,I1,r1,q⟩=>q.elim) (af (hs e ms0)) (aG fun y hy=>hs y (mc0 _ hy))
 |ok ds=>
  refine PySem.W.callWith_K (h₀:=X.base) I.ok.mod.kin hk (thn (ha pos pins s1 σ H1 (fun vs H1=>Mur X.prog X.w X.K C φ vs H1 Q (fun c a H'=>∃c',c=.ref c'/\mE X c' σ H')) I1 ⟨G0,H0,d0,G,dd,E,fun vs G1 H1 d1 m1 v1 r1=>?_⟩) fun us s1 ⟨vs,H1,I1,r1,q⟩=>⟨I1.kIn,kR F hr hb I1 r1 q⟩) (af (hs e ms0)) (aG fun y hy=>hs y (mc0 _ hy));exact vO h m1.gh r1 v1 (kq.go m1)
def zV {op:CmpOp}{r2:R2}(ho:OpR X (compareOp op) r2)(ha:EvM X C ρ U a (.ok d1) U1)(hb:Er X (ρ.map (vE C U1)) b d2)(h:R2r X.K r2 d1 d2 (.bool t))(hm:behindInMarks op b=false):EtM X C ρ U (.Compare a [op] [b] pos) (.ok t) U1:=
 by rintro pins s σ H Q I ⟨G0,H0,d0,G,dd,E,k⟩;exact gR ho ha hb hm pins s σ H Q I ⟨G0,H0,d0,G,dd,E,fun x G1 H1 d1' m1 v1 r1=>⟨G1,H1,G1,(E.go m1 v1).view,fun y G2 H2 e2 r2=>
  h x y G2 H2 _ e2.gh (.of (r1.mono e2.gg)) r2 fun v G' H' e3 r3=>by
   cases r3;exact⟨t,rfl,k G' H' d1' (m1.trans (v1.mext (E.go m1 v1).sub' (e2.trans e3))) (v1.step (e2.trans e3))⟩⟩⟩
def opF {op:CmpOp}:OpR X (compareOp op) (fun a a a a=>False):=by
 intro pins s σ H x y v u Q I rx ry h;simp_all
def wy {op:CmpOp}{c:Nat}(ha:EvM X C ρ U a (.exc c) U1)(hm:behindInMarks op b=false):EtM X C ρ U (.Compare a [op] [b] pos) (.exc c) U1:=
 by rintro pins s σ H Q I ⟨G0,H0,d0,G,dd,E,k⟩;exact gR (tb:=fun d d d=>False) opF ha (fun d d d d d d z=>z.elim) hm pins s σ H Q I ⟨G0,H0,d0,G,dd,E,k⟩
def wz {c:Nat}(V:VarOk X x i)(h:EvM X C ρ U e (.exc c) U1)(hs:isStar e=false){ls:List D}(ho:ρ[i]?=some (.own (.list ls)))(hline:(apos.endLine==cpos.line)=true):
  S1M X C ρ U (.Expr (.Call (.Attribute (.Name x p1) "extend" apos) [e] [] cpos) pos) (.exc c ρ) U1:=by
 have hS:=af (es:=[]) (env:=X.env) hs;intro pins s σ H F I h0;obtain⟨G0,H0,d0,G,dd,E,R⟩:=h0;obtain⟨q,vs,a,b,g,np⟩:=E.own ho;exact dX (pO PySem.F.plainAttrs_list PySem.F.slot_list_extend PySem.F.type_list_extend jy V.pe (ax h aQ hS) ed (by rw[hS];rfl) hline hS rfl) rfl _ s σ H F I ⟨_,a,.inl ⟨rfl,vs,SqL.of b⟩,G0,H0,d0,G,dd,E,iP E R⟩
end
end L2.Z
namespace SI
open PySem
noncomputable def zW (i:Nat):Tg->Bool
 |.one j=>j != i
 |.tup _=>false
mutual
noncomputable def gC (i:Nat):S->Bool
 |.set j _=>j != i
 |.new _ _=>true
 |.app _ _=>true
 |.frz j s=>j != i&&gC i s
 |.ifs _ a b=>dj i a&&dj i b
 |.fors tg _ b=>zW i tg&&dj i b
 |_=>false
noncomputable def dj (i:Nat):Ss->Bool
 |.nil=>true
 |.cons s r=>gC i s&&dj i r
end
noncomputable def mH:Option Sl->Bool
 |some (.own _)=>true
 |_=>false
def dQ (h:mH ρ[i]?=true)(q:j≠i\/mH (some sl)=true):mH (ρ.set j sl)[i]?=true:=by
 by_cases e:j=i
 ·subst e
  have hl:=by
   cases z:ρ[j]? with
   |none=>rw[z] at h;cases h
   |some x=>exact (gi0 z).1
  rw[gs0 hl];exact q.resolve_left fun n=>n rfl
 ·rwa [gn0 e]
section
variable {Φ:Fs}{Γ:List (Str×D)}
abbrev StO (i:Nat)(o:Out):Prop:=∃ρ',o=.nx ρ'/\mH ρ'[i]?=true
theorem mI {tg:Tg}{b:List Sl->Option Out}(ht:zW i tg=true)(hb:∀ρ o,mH ρ[i]?=true->b ρ=some o->StO i o):∀(ds:List D) (ρ:List Sl) (o:Out),mH ρ[i]?=true->forL (aw tg) b ds ρ=some o->StO i o
 |[],ρ,o,h,q=>by cases q;exact⟨ρ,rfl,h⟩
 |d::r,ρ,o,h,q=>by
  cases tg with
  |tup=>cases ht
  |one j=>
   obtain⟨o1,q1,q2⟩:=bx0 (show (b _).bind _=some o from q);obtain⟨ρ1,rfl,h1⟩:=hb _ o1 (dQ h (.inl (by simpa [zW] using ht))) q1;exact mI ht hb r _ o h1 q2
mutual
theorem iR (s:S)(ρ:List Sl)(o:Out)(hk:gC i s=true)(h:mH ρ[i]?=true)(q:ex Φ Γ ρ s=some o):StO i o:=by
 cases s with
 |set j e=>
  obtain⟨d,_,rfl⟩:=mx0 (show (ev Φ Γ .val ρ e).map _=some o from q);exact⟨_,rfl,dQ h (.inl (by simpa using (show (j != i)=true from hk)))⟩
 |new j e=>
  have q:(if fresh e&&ρ.all bD then (ev Φ Γ .val ρ e).bind fun d=>if bo d then some (.nx (ρ.set j (.own d))) else none else none)=some o:=q;split at q
  ·obtain⟨d,_,q⟩:=bx0 q
   split at q
   ·cases q;exact⟨_,rfl,dQ h (.inr rfl)⟩
   ·cases q
  ·cases q
 |app j e=>
  obtain⟨d,_,q⟩:=bx0 (show (ev Φ Γ .val ρ e).bind _=some o from q);split at q
  ·split at q
   ·cases q;exact⟨_,rfl,dQ h (.inr rfl)⟩
   ·cases q
  ·cases q
 |frz j s=>
  have hk:(j != i&&gC i s)=true:=hk;rw[be0] at hk;have q:(match ρ[j]? with|some (.own d)=>ex Φ Γ (ρ.set j (.dat d)) s|_=>none)=some o:=q;split at q
  ·exact iR s _ o hk.2 (dQ h (.inl (by simpa using hk.1))) q
  ·cases q
 |ifs c a b=>
  have hk:(dj i a&&dj i b)=true:=hk;rw[be0] at hk;obtain⟨d,_,q⟩:=bx0 (show (ev Φ Γ .test ρ c).bind _=some o from q);obtain⟨t,_,q⟩:=bx0 q;split at q
  ·exact eg a ρ o hk.1 h q
  ·exact eg b ρ o hk.2 h q
 |fors tg src b=>
  have hk:(zW i tg&&dj i b)=true:=hk;rw[be0] at hk;obtain⟨ds,_,q⟩:=bx0 (show (evI Φ Γ .walk ρ src).bind _=some o from q);exact mI hk.1 (fun ρ o=>eg b ρ o hk.2) ds ρ o h q
 |_=>cases hk
theorem eg:∀(s:Ss) (ρ:List Sl) (o:Out),dj i s=true->mH ρ[i]?=true->exs Φ Γ ρ s=some o->StO i o
 |.nil,ρ,o,hk,h,q=>by cases q;exact⟨ρ,rfl,h⟩
 |.cons s r,ρ,o,hk,h,q=>by
  have hk:(gC i s&&dj i r)=true:=hk;rw[be0] at hk;obtain⟨o1,q1,q2⟩:=bx0 (show (ex Φ Γ ρ s).bind _=some o from q);obtain⟨ρ1,rfl,h1⟩:=iR s ρ o1 hk.1 h q1;exact eg r ρ1 o hk.2 h1 q2
end
end
end SI
namespace L2.Z
open PySem PySem.Spec PyProof.Rows L2 L2.C SI
noncomputable def wA (K:Fg)(φ:Fn):Sp:=fun vs H Q a=>∃ds es G,φ.run ds=some (.list es)/\Same G H/\Das K G H φ.lent ds vs/\∀p G' H',Ext G H G' H'->G' p=Option.none->H p=Option.none->OwnAt K G' H' (.list es) p->Q (.ref p) H'
structure FnZs (P:Program)(w:World)(K:Fg)(mg:Str->Option Value)(base:Heap)(k:Nat)(x:Str)(sp:Sp):Prop where
 ex:∃f fd ps,mg x=some (.ref f)/\PySem.W.keepIn K (.ref f)=true/\Binds K fd ps []/\FnOk P w K mg base CX0 k f fd ps sp
section
variable {e:Expr}{ls:List D}{φ:Fn}
def zX (F:FnZs X.prog X.w X.K X.mg X.base k x (wA X.K φ))(hr:Room k X.A)(hg:Gl X x)(hd:(x==("__debug__":Str))=false)(ha:Ea X ρ φ.lent (e::es) ds)(h:φ.run ds=some (.list ls))(hs:aB (e::es)):
  En X ρ (.Call (.Name x p) (e::es) [] pos) (.list ls):=by
 obtain⟨f,fd,ps,hm,hk,hb,F⟩:=F.ex;intro pins s σ H Q I h0;obtain⟨G0,H0,G,E,k⟩:=h0;exact pI F hr hg hm hk hb .nil ue ha hd (af (hs e ms0)) (aG fun y hy=>hs y (mc0 _ hy)) _ s σ H Q I
  ⟨G0,H0,G,E,fun vs G1 H1 e1 r1=>⟨ds,ls,G1,h,e1.gh,by simp_all,fun p G' H' e2 g2 h2 o=>k p G' H' (e1.trans e2) g2 (e1.hh.free h2) o⟩⟩
end
section
variable {Φ:Fs}{Γ:List (Str×D)}
variable {ps:List Str}{dfn:Def}{vc:Option Nat}{xcs:List (Str×Nat×List (Nat×Bool))}
set_option tactic.hygienic true in
def DR {s0 s1:Stmt}{e0:E}{S1':S}(F:Fun K x qual st f fd)(Sc:aX (ps++au (defScope st) ps) ps (defScope st))(hp:bp st=some (ps,defBody st,defScope st))(hd:lR fns cst lent st vc xcs=some dfn)(hlen:lent.length=ps.length)
  (hb:defBody st=[s0,s1,.Return (some (.Name y p)) pos]) (h0:cS 59 (dH fns cst ps (defBody st) (defScope st) vc xcs) s0=some (.new i e0)) (h1:cS 58 (dH fns cst ps (defBody st) (defScope st) vc xcs) s1=some S1')
  (hi:aY (dH fns cst ps (defBody st) (defScope st) vc xcs) y=some i) (hr:dfn.body=.cons (.new i e0) (.cons S1' (.cons (.ret (.v i)) .nil))) (hk:gC i S1'=true) (hil:decide (i<dfn.slots)=true)
  (M:zG P w K mg base Φ Γ fns vc xcs k):FnOk P w K mg base CX0 (k+1) f fd ps (wA K (zH Φ Γ dfn)):=by
 have hl0:dfn.lent=lent/\dfn.slots=(ps++au (defScope st) ps).length:=by
  unfold lR at hd;rw[hp,bs0] at hd;obtain⟨b,_,rfl⟩:=mx0 (show (cSs 60 (dH fns cst ps (defBody st) (defScope st) vc xcs) (defBody st)).map _=some dfn from hd);exact⟨rfl,rfl⟩
 obtain⟨hl1,hl2⟩:=hl0;obtain⟨lent,slots,body⟩:=dfn;cases hr;cases hl1;refine F.ok Sc (fun vs H Q E h=>?_) (fun cdv A outer s H vs Q E hr h=>?_)
 ·obtain⟨ds,d,G,h1,_,r,_⟩:=h
  have h1:(if ds.length=lent.length then _ else Option.none)=some (D.list d):=h1;split at h1
  ·rename_i hl;rw[←r.length,hl,hlen]
  ·cases h1
 ·obtain⟨ds,d,G,h2,sm,r,kq⟩:=h
  have h2:(if ds.length=lent.length then (exs Φ Γ (bN ⟨lent,slots,.cons (.new i e0) (.cons S1' (.cons (.ret (.v i)) .nil))⟩ ds) (.cons (.new i e0) (.cons S1' (.cons (.ret (.v i)) .nil)))).bind Out.val else Option.none)=some (D.list d):=h2;split at h2
  ·rename_i hl
   have hpre:=congrArg List.length Sc.pre;rw[List.length_take] at hpre;have cx:CxC (cN CX0 P w K mg base (ps++au (defScope st) ps) qual (defScope st) f cdv A outer s H E).nox (dH fns cst ps (defBody st) (defScope st) vc xcs):=by
    refine⟨rfl,Sc.nd,fun y kd e ek=>?_,fun y kd e ek=>⟨?_,.inl rfl⟩,fun y e=>e,fun y e=>e,rfl,Sc.kind⟩
    ·rcases ek with rfl|rfl|rfl
     ·exact .inl e
     ·exact .inr (.inl e)
     ·exact .inr (.inr e)
    ·rcases ek with rfl|rfl
     ·exact .inl e
     ·exact .inr e
   have W:Wz (cN CX0 P w K mg base (ps++au (defScope st) ps) qual (defScope st) f cdv A outer s H E).nox Φ Γ (dH fns cst ps (defBody st) (defScope st) vc xcs) k:=⟨M.blt,M.fns,M.gl,hr,M.vcl,M.xc⟩;obtain⟨o,g1,g2⟩:=bx0 h2;obtain⟨o1,g3,g4⟩:=bx0 (show (ex Φ Γ _ (.new i e0)).bind _=some o from g1);have A0:=(vG Φ Γ k 59).S _ _ _ h0 _ cx W PassesOwn.never _ _ g3;have st0:StO i o1:=by
    have g3:(if fresh e0&&_ then (ev Φ Γ .val _ e0).bind fun d=>if bo d then some (Out.nx (List.set (bN ⟨lent,slots,.cons (.new i e0) (.cons S1' (.cons (.ret (.v i)) .nil))⟩ ds) i (.own d))) else Option.none else Option.none)=some o1:=g3;split at g3
    ·obtain⟨dz,_,g3⟩:=bx0 g3
     split at g3
     ·cases g3
      refine⟨_,rfl,?_⟩;rw[gs0 (by simp[hl];have:=od0 hil;simp at this;omega)];rfl
     ·cases g3
    ·cases g3
   obtain⟨ρ1,rfl,ow1⟩:=st0;obtain⟨o2,g5,g6⟩:=bx0 (show (ex Φ Γ ρ1 S1').bind _=some o from g4);have A1:=(vG Φ Γ k 58).S _ _ _ h1 _ cx W PassesOwn.never _ _ g5;obtain⟨ρ2,rfl,ow2⟩:=iR S1' ρ1 o2 hk ow1 g5;obtain⟨o3,g7,g8⟩:=bx0 (show (ex Φ Γ ρ2 (.ret (.v i))).bind _=some o from g6);obtain⟨dv,g9,rfl⟩:=mx0 (show (ev Φ Γ .val (ρ2.map freeze) (.v i)).map _=some o3 from g7);cases g8;cases g2;have Vv:=bB cx hi;cases z:ρ2[i]? with
   |none=>rw[z] at ow2;cases ow2
   |some sl=>
    rw[z] at ow2;cases sl with
    |own d'=>
     have e9:d'=D.list d:=by
      have g9:((ρ2.map freeze)[i]?).bind (az .val)=some (D.list d):=g9;rw[gm0,z] at g9;exact Option.some.inj g9
     subst e9;have body:=aK A0 (aK A1 (aK (u:=fun c c c=>False) (rest:=[]) (ij (pos:=pos) (bL (pos:=p) Vv.at' Vv.vis Vv.d Vv.cd)) (fun c c c c c c z=>z.elim)));rw[hb];refine⟨_,body,G,H,G,fT (dfn:=⟨lent,slots,.cons (.new i e0) (.cons S1' (.cons (.ret (.v i)) .nil))⟩) sm r hl hl2 (by rw[←r.length,hl,hlen];omega),fun Ga Ha σa ea ga=>⟨G,H,Ga,ea,fun Gb Hb σb eb gb=>?_⟩⟩;obtain⟨q,a1,a2,a3,a4⟩:=eb.own i _ z;exact⟨_,a1,kq q Gb Hb eb.ext a2 a3 a4⟩
    |_=>cases ow2
  ·cases h2
end
end L2.Z
namespace L2.Z
open PySem PySem.W PySem.Spec PySem.Calls PyProof.Rows L2 L2.C
set_option tactic.hygienic true in
theorem codeAmong_snocE {a b:Int}{c cv:Value}:∀{l:List Value},TriplesOk l->codeAmong pos (l++[rawInt a,rawInt b,c])=some cv->codeAmong pos l=some cv\/cv=c
 |[],_,h=>by
  right
  rw[List.nil_append,codeAmong.eq_def] at h;dsimp only[rawInt] at h;split at h
  ·exact (Option.some.inj h).symm
  ·cases h
 |x::l,t,h=>by
  match x,l,t with
  |.int i t1,.int j t2::d::r,t=>
   rw[List.cons_append,List.cons_append,List.cons_append,codeAmong.eq_def] at h;rw[codeAmong.eq_def];dsimp only at h ⊢;split at h
   ·rename_i e;rw[if_pos e];exact .inl h
   ·rename_i e
    rw[if_neg e];exact codeAmong_snocE (l:=r) t h
structure zY (H H':Hp)(P:Addr)(q:Str):Prop where
 keep:∀b o,b≠P->H b=some o->H' b=some o
 new:∀b o,H' b=some o->H b=some o\/b=P\/(H b=none/\∃ob u,o=.frz ob u)
 tab:(∃ps,H P=some (.tbl q ps))/\∃ps,H' P=some (.tbl q ps)
structure mJ (H:Hp)(f:Addr)(q:Str)(params:Arguments)(body:Expr)(scope:Scope)(cl:List (Str×Addr)):Prop where
 ex:∃pm ctv c u co vs t cu,H f=some (.frz (kla_obj "<lambda>" q params body scope cl pm c ctv) u)/\H c=some (.frz co cu)/\co.data=.fields vs/\vs[1]?=some (.str q t)
def gE {c P:Addr}(k:∀b o,h.get? b=some o->h'.get? b=some o)(x:CodeHd h c P):CodeHd h' c P:=by
 obtain⟨o,vs,a1,a2,a3,a4,a5,a6,a7,a8,a9⟩:=x;exact⟨o,vs,a1,a2,a3,a4,a5,a6,a7,k _ _ a8,a9⟩
def dy {P:Addr}(k:∀b o,h.get? b=some o->h'.get? b=some o)(x:h.BuiltinsAt mg P):h'.BuiltinsAt mg P:=by
 obtain⟨bm,o,a1,a2,a3,a4,a5,a6⟩:=x;exact⟨bm,o,a1,a2,a3,a4,k _ _ a5,a6⟩
section
variable {body:Expr}{c P:Addr}
def zZ {a:Addr}{ob:Obj}(I:Inv X pins σ H s)(k:∀b u,s.heap.get? b=some u->h'.get? b=some u)(hp:s.heap.objs.size≤a)(e:h'.get? a=some ob)(y:Addr):Inv X pins σ (upd H a (.frz ob (.own y))) {s with heap:=h',toks:=t'}:=
 I.laid k hp ⟨e,ob,e⟩
def Ab {ps:Array Value}{c':Addr}{co fo:Obj}{vs:Array Value}{t:Tok}(I:Inv X pins σ H s)(hP:H P=some (.tbl q ps))(hc:s.heap.objs.size≤c')(hf:s.heap.objs.size≤f)(ne:c'≠f)(gc:h'.get? c'=some co)(gf:h'.get? f=some fo)(h1:co.data=.fields vs)(h2:vs[1]?=some (.str q t))
  (k:∀b o,b≠P->s.heap.get? b=some o->h'.get? b=some o) {i1 i2:Int} (e:h'.get? P=some (tabObj (ps++#[rawInt i1,rawInt i2,.ref c']))):Inv X pins σ (upd (upd (upd H c' (.frz co (.own P))) f (.frz fo (.own P))) P (.tbl q (ps++#[rawInt i1,rawInt i2,.ref c']))) {s with heap:=h',toks:=t'}:=by
 have fc:=I.hok.fresh hc;have ff:=I.hok.fresh hf;have np:∀b o,H b=some o->(∀n ps,o≠.tbl n ps)->b≠P:=fun b o e n z=>by rw[z,hP] at e;exact n _ _ (Option.some.inj e).symm
 have nn:∀b,H b=none->b≠P:=fun b e z=>by rw[z,hP] at e;cases e
 have old:∀b o,H b=some o->b≠P->upd (upd (upd H c' (.frz co (.own P))) f (.frz fo (.own P))) P (.tbl q (ps++#[rawInt i1,rawInt i2,.ref c'])) b=some o:=fun b o e z=>by rw[aa z,aa (ag e ff),aa (ag e fc)];exact e
 have hcP:c'≠P:=nn _ fc;have hfP:f≠P:=nn _ ff;obtain⟨g1,g2,g3⟩:=I.hok P _ hP;refine I.un (h':=h') ⟨fun b o g n a a=>k b o (nn b n) g,fun b o g n a a=>⟨o.slots,k b o (nn b n) g⟩,fun b o g n a=>?_,fun b o g a=>?_,fun b xs g=>old b _ g (np b _ g fun a a=>nofun),fun b o u g=>old b _ g (np b _ g fun a a=>nofun),fun b n ps' g=>?_⟩ fun b o g=>?_
 ·have lt:=hs0 g
  rw[aa (nn b n),aa (nn0 (nl0 lt hf)),aa (nn0 (nl0 lt hc))];exact n
 ·by_cases z:b=P
  ·subst z;exact⟨_,e⟩
  ·exact⟨o,k b o z g⟩
 ·by_cases z:b=P
  ·subst z;rw[hP] at g;cases g;exact⟨_,ae⟩
  ·exact⟨#[],by rw[old b _ g z];simp⟩
 ·by_cases z:b=P
  ·subst z
   rw[ae] at g;cases g;refine⟨e,by rw[Array.toList_append];exact TriplesOk_snoc _ _ _ _ g2,fun pos cv hcv=>?_⟩;rw[Array.toList_append] at hcv;rcases codeAmong_snocE g2 hcv with y|rfl
   ·obtain⟨c2,o,vs,t,u,rfl,y1,y2⟩:=g3 pos cv y
    exact⟨c2,o,vs,t,u,rfl,old c2 _ y1 (np c2 _ y1 fun a a=>nofun),y2⟩
   ·exact⟨c',co,vs,t,_,rfl,by rw[aa hcP,aa ne,ae],h1,h2⟩
  ·rw[aa z] at g
   by_cases y:b=f
   ·subst y;rw[ae] at g;cases g;exact⟨gf,_,gf⟩
   rw[aa y] at g
   by_cases y:b=c'
   ·subst y;rw[ae] at g;cases g;exact⟨gc,_,gc⟩
   rw[aa y] at g;refine (I.hok b o g).stay (fun d v hd y=>k d v (fun w=>?_) y) (fun d y=>old d _ y (np d _ y fun a a=>nofun)) fun d o f y=>old d _ y (np d _ y fun a a w=>by rcases f with⟨_,rfl⟩|⟨_,_,rfl⟩<;>cases w)
   rcases hd with rfl|hd
   ·exact z w
   ·rw[w,hP] at hd;cases hd
def wB (I:Inv X pins σ H s)(hp:(P,q)∈lamTs)(hd:defaultsOf params X.env=([],[]))(hcl:∀x∈scope.names,x.2=.free->(X.env.cells.lookup x.1).isSome=true)(hc:X.env.code=.ref c)(hC:CodeHd X.base c P)(hB:X.base.BuiltinsAt X.mg P)(hq:X.env.qual++"<lambda>"=q)
  (h:∀f H' s',Inv X pins σ H' s'->zY H H' P q->mJ H' f q params body scope (bP X.env scope.names [])->Q (.ref f) s'):wpAny (model X.prog X.w) X.A (eval (.Lambda params body scope pos) X.env) Q X.xe s:=by
 obtain⟨ps,hP⟩:=I.tb _ hp;have hP:H P=some (.tbl q ps):=hP;obtain⟨g1,g2,g3⟩:=I.hok P _ hP;have hn:=I.ok.mod.glob;have hns:s.heap.Ns mainGlobals X.mg:=by
  obtain⟨o,es,ep,e,r⟩:=hn;exact⟨o,es,ep,I.bk _ _ e,r⟩
 have hmP:mainGlobals≠P:=fun z=>by
  obtain⟨o,es,ep,e,r⟩:=hns;rw[z,g1] at e;cases e;exact absurd r.1 (by simp)
 have clo:=cD hcl;refine kla_eval hd ?_;rw[hq];cases hco:codeAmong pos ps.toList with
 |some cv=>
  obtain⟨c2,o,vs,t,u,rfl,y1,y2,y3⟩:=g3 pos cv hco;refine kla_makeFunctionHit clo I.ok.glob hns hc (gE I.bk hC) g1 g2 hco (dy I.bk hB) fun ctv h' tk k1 k2=>?_
  have kk:∀b u,s.heap.get? b=some u->(h'.push (kla_obj "<lambda>" q params body scope (bP X.env scope.names []) ((X.mg "__name__").getD .none) c2 ctv)).get? b=some u:=fun b u e=>ps0 _ (k1 b u e)
  have fr:=I.hok.fresh k2;refine h _ _ _ (zZ I (t':=tk) kk k2 (pz0 _ rfl) P) ⟨fun b o a e=>by rw[aa (ag e fr)];exact e,fun b o e=>?_,⟨_,hP⟩,_,by rw[aa (ag hP fr)];exact hP⟩ ⟨_,ctv,c2,_,o,vs,t,u,ae,by rw[aa (ag y1 fr)];exact y1,y2,y3⟩
  by_cases z:b=h'.objs.size
  ·subst z;rw[ae] at e;cases e;exact .inr (.inr ⟨fr,_,_,rfl⟩)
  ·rw[aa z] at e;exact .inl e
 |none=>
  refine kla_makeFunction clo I.ok.glob hns hc (gE I.bk hC) g1 g2 hco hmP (dy I.bk hB) fun c' ctv h' tk k1 k2 k3 ⟨c2,co,vs,t,z,k4,k5,k6⟩ k7=>?_
  cases z;have hf:s.heap.objs.size≤h'.objs.size:=nt0 k2 (Nat.le_of_lt k3);have ne:c'≠h'.objs.size:=nn0 k3;have fc:=I.hok.fresh k2;have ff:=I.hok.fresh hf;have hcP:c'≠P:=fun z=>by rw[z,hP] at fc;cases fc
  have hfP:h'.objs.size≠P:=fun z=>by rw[z,hP] at ff;cases ff
  refine h _ _ _ (Ab I (t':=tk) (fo:=kla_obj "<lambda>" q params body scope (bP X.env scope.names []) ((X.mg "__name__").getD .none) c' ctv) hP k2 hf ne (ps0 _ k4) (pz0 _ rfl) k5 k6 (fun b o z e=>ps0 _ (k1 b o z e)) (ps0 _ k7)) ⟨fun b o z e=>by rw[aa z,aa (ag e ff),aa (ag e fc)];exact e,fun b o e=>?_,⟨_,hP⟩,_,ae⟩ ⟨_,ctv,c',_,co,vs,t,_,by rw[aa hfP,ae],by rw[aa hcP,aa ne,ae],k5,k6⟩
  by_cases z:b=P
  ·exact .inr (.inl z)
  rw[aa z] at e
  by_cases z:b=h'.objs.size
  ·subst z;rw[ae] at e;cases e;exact .inr (.inr ⟨ff,_,_,rfl⟩)
  rw[aa z] at e
  by_cases z:b=c'
  ·subst z;rw[ae] at e;cases e;exact .inr (.inr ⟨fc,_,_,rfl⟩)
  rw[aa z] at e;exact .inl e
end
noncomputable def kW (X:Cx)(A:Around)(q:Str)(scope:Scope)(N:List Str)(f c:Addr)(s:Shared)(H:Hp):Cx where
 prog:=X.prog
 w:=X.w
 K:=X.K
 mg:=X.mg
 base:=X.base
 A:=A.deeper (envX q scope s.heap.objs.size f (.ref c) (bP X.env scope.names []))
 N:=N
 s₀:=s
 H₀:=H
 env:=envX q scope s.heap.objs.size f (.ref c) (bP X.env scope.names [])
 outer:=X.stack
 stack:=envX q scope s.heap.objs.size f (.ref c) (bP X.env scope.names [])::X.stack
 ex:=[]
 fn:=fun a=>false
 calm:=true
 pn:=[]
 xe:=fun a a=>False
section
variable {body:Expr}{c:Addr}{A:Around}
def DS (B:BlkOk X scope js)(I:Inv X pins σ H s)(hd:A.handled=none)(hA:A.frames=some X.stack):(kW X A q scope N f c s H).Ok where
 mod:=I.ok.mod
 kind:=B.kind
 glob:=rfl
 blt:=rfl
 above:=nr0 _
 inj:=fun x y c h1 h2=>I.ok.inj x y c (B.from I h1) (B.from I h2)
 has:=fun y hy=>by
  have hy:scope.names.lookup y=some .cell\/scope.names.lookup y=some .free:=hy;rcases hy with hy|hy
  ·exact absurd rfl (B.cell _ (ml0 hy))
  ·exact cQ scope.names [] y (.inl (ml0 hy))
 cab:=fun x c h a=>by cases h
 hd:=fun a=>hd
 frames:=Around.frames_deeper hA
 stk:=.inr ⟨rfl,rfl⟩
 exf:=fun b hb=>by cases hb
 bs:=I.bs
 tb:=I.tb
 bsz:=nt0 I.ok.bsz I.sz
 noex:=fun b o e hb=>by cases hb
 exfs:=fun b hb=>by cases hb
 funs:=I.stack
 frf:=I.stkFree
def Ac (B:BlkOk X scope js)(I:Inv X pins σ H s)(hd:A.handled=none)(hA:A.frames=some X.stack){v:V}(r:RelV v u)(hx:scope.names.lookup x=some .local){h1:Heap}{tk:Nat}(k:∀b o,s.heap.get? b=some o->h1.get? b=some o)(hns:h1.Ns s.heap.objs.size fun y=>List.lookup y [(x,u)]):
  Inv (kW X A q scope (aH X [x] js) f c s H) [] ((df [x] js σ).set 0 (some v)) H {s with heap:=h1,toks:=tk}:=by
 refine⟨DS B I hd hA,rfl,I.bare,Un.kept k,⟨_,hns,fun i y w e1 e2 e3=>?_⟩,fun y c e=>?_,I.hok.fresh (nr0 _),fun y c e=>I.freeC y c (B.from I e),fun p hp=>absurd (show p∈([]:List (Addr×Obj)) from hp) (by simp),I.hok.kept k,?_⟩
 ·have e1:(aH X [x] js)[i]?=some y:=e1
  cases i with
  |zero=>
   cases e1;cases e2;exact⟨u,r,.inl ⟨hx,by simp⟩⟩
  |succ i=>
   have e1:(js.map fun j=>X.N.getD j Str.empty)[i]?=some y:=e1;have e2:(js.map fun j=>(σ[j]?).join)[i]?=some (some w):=e2;rw[gm0] at e1 e2;cases z:js[i]? with
   |none=>rw[z] at e2;cases e2
   |some j=>
    rw[z] at e1 e2;have e2:(σ[j]?).join=some w:=Option.some.inj e2;obtain⟨y',hy,hyf⟩:=B.js j (mg0 z);have e1:X.N.getD j Str.empty=y:=Option.some.inj e1;have ey:y'=y:=by rw[←e1,List.getD_eq_getElem?_getD,hy];rfl
    subst ey;have e2':σ[j]?=some (some w):=by
     cases r:σ[j]? with
     |none=>rw[r] at e2;cases e2
     |some o=>rw[r] at e2;cases o with
      |none=>cases e2
      |some v'=>cases e2;rfl
    have hk:=B.free _ (ml0 hyf) rfl;obtain⟨m0,_,hl0⟩:=I.loc;obtain⟨u,r,lk⟩:=hl0 j y' w hy e2' (.inr (.inl hk));refine⟨u,r,?_⟩;rcases lk with⟨z,_⟩|⟨_,c,hc,z⟩
    ·rw[hk] at z;cases z
    ·obtain⟨c',hc'⟩:=cQ (env:=X.env) scope.names [] y' (.inl (ml0 hyf))
     have:c'=c:=by have:=B.from I hc';rw[hc] at this;exact (Option.some.inj this).symm
     subst this;refine .inr ⟨.inr hyf,c',hc',?_⟩;obtain⟨o,h2,h3⟩:=z;exact⟨o,k _ _ h2,h3⟩
 ·obtain⟨v,o,h2,h3⟩:=I.cell y c (B.from I e)
  exact⟨v,o,k _ _ h2,h3⟩
 ·show ((df [x] js σ).set 0 (some v)).length=(aH X [x] js).length
  unfold df aH;simp
def wC {Q:VK}(B:BlkOk X scope js)(I:Inv X pins σ H s)(hd:A.handled=none)(hA:A.frames=some X.stack)(hdep:A.depth<recursionLimit)(L:mJ H f q params body scope (bP X.env scope.names []))
  (hb:∀(pm cdv ct u:Value),bindArgs (kla_fn "<lambda>" q params body scope (bP X.env scope.names []) pm cdv ct) ⟨[u],[]⟩=pure [(x,u)]) (hx:scope.names.lookup x=some .local) (hco:scope.isCoroutine=false) (hgen:scope.isGenerator=false) {v:V} {u:Value} (r:RelV v u)
  (h:∀c s1,Inv (kW X A q scope (aH X [x] js) f c s H) [] ((df [x] js σ).set 0 (some v)) H s1->wpAny (model X.prog X.w) (kW X A q scope (aH X [x] js) f c s H).A (eval body (kW X A q scope (aH X [x] js) f c s H).env) (EP (kW X A q scope (aH X [x] js) f c s H) [] ((df [x] js σ).set 0 (some v)) Q) (fun a a=>False) s1):
  wpAny (model X.prog X.w) A (call (.ref f) [u]) (fun u' s'=>∃w H',Inv X pins σ H' s'/\Un (frs X.stack) [] H H' s.heap s'.heap/\RelV w u'/\Q w H') (fun a a=>False) s:=by
 obtain⟨pm,ctv,c,u',co,vs,t,cu,h1,h2,h3,h4⟩:=L.ex;obtain⟨gf,_⟩:=I.hok f _ h1;obtain⟨gc,_⟩:=I.hok c _ h2;refine wpAny_call (kla_callFunE hdep gf rfl hco hgen rfl ⟨c,co,vs,t,rfl,gc,h3,h4⟩ ?_);rw[hb];refine wq0 ?_;refine wpAny_newFunctionEnv B.cell (fun y hy=>?_) (fun h' ns same=>?_) B.kind
 ·obtain rfl:y=(x,u):=List.mem_singleton.mp hy
  exact hx
 ·have keep:∀b o,s.heap.get? b=some o->h'.get? b=some o:=fun b o e=>by
   have hne:b≠s.heap.objs.size:=nn0 (hs0 e);exact (same.2 b hne).trans (ps0 _ e)
  refine⟨I.nolimit.keeps keep,kla_codeExpr ?_⟩;refine wpAny_mono (h c _ (Ac B I hd hA r hx keep (by simpa using ns))) (fun v' s' hq=>?_) fun a a z=>z.elim
  obtain⟨w,H',J,rw',hq⟩:=hq;exact⟨w,H',I.call' J.os J.base J.hok J.bare (fun b hb=>by cases hb),J.base,rw',hq⟩
end
end L2.Z
namespace L2.Z
open PySem PySem.W PySem.Calls PyProof.Rows L2 L2.C SI
section
variable {A:Around}{E:Value->Shared->Prop}
def wD (h:Heap)(q:Int×Int)(v:Value):Prop:=∃a o xs n t u,v=.ref a/\h.get? a=some o/\o.cls=.type "tuple"/\o.data=.seq xs n/\xs=#[.int q.1 t,.int q.2 u]
noncomputable def ltI (p q:Int×Int):Bool:=if p.1=q.1 then decide (p.2<q.2) else decide (p.1<q.1)
end
def wF (X:Cx)(pins:List (Addr×Obj))(b:Addr):Prop:=X.s₀.heap.objs.size≤b/\b≠X.env.locals/\(∀x c,X.env.cells.lookup x=some c->c≠b)/\(∀p∈X.pn++pins,p.1≠b)/\b∉X.fs
def Ad (I:Inv X pins σ H s){b:Addr}(hb:s.heap.objs.size≤b):wF X pins b:=by
 refine⟨nt0 I.sz hb,Nat.ne_of_gt (nl0 I.lt hb),fun x c e z=>?_,fun p hp z=>?_,I.nofs hb⟩
 ·obtain⟨v,o,h2,h3⟩:=I.cell x c e
  exact absurd (nl0 (hs0 h2) hb) (by rw[z];exact li0 _)
 ·obtain⟨e,_⟩:=I.pin p hp
  exact absurd (nl0 (hs0 e) hb) (by rw[z];exact li0 _)
def wG (I:Inv X pins σ H s){ch:List Addr}(hc:∀b∈ch,wF X pins b/\H b=none)(k:∀b o,b∉ch->s.heap.get? b=some o->h'.get? b=some o)(hH:∀b,b∉ch->H' b=H b)(new:∀b∈ch,∀o,H' b=some o->ObjOk X.prog X.w H' h' b o):
  Inv X pins σ H' {s with heap:=h',toks:=t'}:=by
 have nc:∀b o,H b=some o->b∉ch:=fun b o e hb=>by rw[(hc b hb).2] at e;cases e
 have same:∀b o,H b=some o->H' b=some o:=fun b o e=>(hH b (nc b o e)).trans e
 refine I.step (g':=s.gens) (d':=s.drawn) (ch:=ch) (fun b hb=>?_) (fun b o a a hb e a=>k b o hb e) (fun b o a a hb e a=>⟨o.slots,k b o hb e⟩) (fun b o hb e n=>(hH b hb).trans n) (fun b o hb e=>⟨o,k b o hb e⟩) (fun b xs e=>same _ _ e) (fun b o u e=>same _ _ e) (fun b n ps e=>⟨#[],by rw[same _ _ e];simp⟩) (fun m hm=>?_) (fun b o e=>?_) I.bare
 ·obtain⟨⟨h1,h2,h3,h4,_⟩,_⟩:=hc b hb
  exact⟨.inr h1,h2,h3,h4⟩
 ·obtain⟨o,es,ep,e,r⟩:=hm
  exact⟨o,es,ep,k _ _ (fun hb=>(hc _ hb).1.2.1 rfl) e,r⟩
 ·by_cases hb:b∈ch
  ·exact new b hb o e
  ·rw[hH b hb] at e
   refine (I.hok b o e).stay (fun d v hd q=>k d v (fun z=>?_) q) (fun d q=>same _ _ q) fun d o a q=>same _ _ q
   rcases hd with rfl|hd
   ·exact hb z
   ·exact nc _ _ hd z
end L2.Z
namespace L2.Z
open PySem PySem.W PySem.Spec PySem.Calls PyProof.Rows L2 L2.C SI
def VS.lam {C:Addr}{G:Hp}{d:Vd}{U:List (List D)}{t:Addr}(v:VS P w K C G H d U)(s:Same G (er H (parts d)))(hp:(t,q)∈lamTs)(l:zY H H' t q):VS P w K C G H' d U/\MExt G H d G H' d:=by
 have tp:t∈parts d:=List.mem_append_left _ (List.mem_map.mpr ⟨_,hp,rfl⟩);obtain⟨⟨ps,hP⟩,ps',hP'⟩:=l.tab;have np:∀b o,H b=some o->(∀n ps,o≠.tbl n ps)->H' b=some o:=fun b o e n=>l.keep b o (fun z=>by rw[z,hP] at e;exact n _ _ (Option.some.inj e).symm) e
 have hh:Same (er H (parts d)) (er H' (parts d)):=fun b o e=>by
  obtain⟨e1,e2⟩:=aU e;rw[aA e1];exact l.keep b o (fun z=>e1 (by rw[z];exact tp)) e2
 refine⟨⟨v.len,v.nd,fun h a b n e=>?_,fun a C' dx fs e=>?_,v.out,fun p hp'=>?_⟩,⟨Same.refl _,hh,s.trans hh,fun c c h c=>h,List.prefix_refl _,fun b o e=>?_⟩⟩
 ·obtain⟨dx,objs,h1,h2,h3,as,h4,h5,h6,h7⟩:=v.at' h a b n e
  exact⟨dx,objs,h1,h2,np _ _ h3 fun c c=>nofun,as,np _ _ h4 fun c c=>nofun,h5,np _ _ h6 fun c c=>nofun,h7⟩
 ·rcases l.new a _ e with z|z|⟨_,_,_,z⟩
  ·exact v.uni a C' dx fs z
  ·rw[z,hP'] at e;cases e
  ·cases z
 ·obtain⟨ps2,z⟩:=v.tb p hp'
  by_cases y:p.1=t
  ·rw[y,hP] at z;cases z
   exact⟨ps',by rw[y,hP']⟩
  ·exact⟨ps2,l.keep _ _ y z⟩
 ·by_cases y:b=t
  ·rw[y];exact⟨_,hP'⟩
  ·exact⟨o,l.keep b o y e⟩
structure Bs (X:Cx)(params:Arguments)(body:Expr)(scope:Scope)(js:List Nat)(x:Str)(P:Addr)(q:Str):Prop where
 tab:(P,q)∈lamTs
 dfl:defaultsOf params X.env=([],[])
 blk:BlkOk X scope js
 code:∃c,X.env.code=.ref c/\CodeHd X.base c P
 bi:X.base.BuiltinsAt X.mg P
 qual:X.env.qual++"<lambda>"=q
 bind:∀(cl:List (Str×Addr)) (pm cdv ct u:Value),bindArgs (kla_fn "<lambda>" q params body scope cl pm cdv ct) ⟨[u],[]⟩=pure [(x,u)]
 par:scope.names.lookup x=some .local
 co:scope.isCoroutine=false
 gen:scope.isGenerator=false
section
variable {body:Expr}{P C:Addr}{U U1:List (List D)}{out:List Int}{kf:Int->Int×Int}{lpos kp2 p3:Pos}
def DT (L:Bs X params body scope js x P q):PE X (.Lambda params body scope lpos) (fun σ H Q=>∀f H',zY H H' P q->mJ H' f q params body scope (bP X.env scope.names [])->Q (.ref f) H'):=fun pins s σ H Q I h=>by
 obtain⟨c,h1,h2⟩:=L.code;exact wB I L.tab L.dfl (L.blk.cells I) h1 h2 L.bi L.qual fun f H' s' I' l a=>⟨.ref f,H',I',rfl,h f H' l a⟩
def Ae {Pg:Program}{b:Addr}{k:Int×Int}(ok:HOk Pg w H h)(e:H b=some (.tup [.int k.1,.int k.2])):wD h k (.ref b):=by
 obtain⟨z,its,rv,ob,e,c1,n,c2⟩:=ok b _ e;cases rv with
 |cons x1 rv=>cases rv with
  |cons x2 rv=>
   cases rv;obtain⟨t,rfl⟩:=x1;obtain⟨u,rfl⟩:=x2;exact⟨b,ob,_,n,t,u,rfl,e,c1,c2,rfl⟩
def qv {p q:Int×Int}:ltI p q=false↔q.1<p.1\/(p.1=q.1/\q.2≤p.2):=by
 unfold ltI;by_cases h:p.1=q.1<;>simp[h]<;>omega
end
end L2.Z
namespace L2.Z
open PySem PySem.W PySem.Calls PyProof.Rows
noncomputable def bO (gt:Nat->Nat->Bool):Nat->Nat
 |0=>0
 |n+1=>if gt (n+1) (bO gt n)=true then n+1 else bO gt n
theorem mK (gt:Nat->Nat->Bool):∀n,bO gt n≤n
 |0=>nr0 _
 |n+1=>by unfold bO;split;exact nr0 _;exact Nat.le_succ_of_le (mK gt n)
section
variable {A:Around}{E:Value->Shared->Prop}
structure wH (prog:Program)(w:World)(A:Around)(l I S:Addr)(N:Nat)(Rl:Nat->Value->Prop)(f:Addr)(gt:Nat->Nat->Bool)(J:List Value->Shared->Prop):Prop where
 put:∀{ks s' h'},J ks s'->(∀c o,c≠I->c≠S->s'.heap.get? c=some o->h'.get? c=some o)->J ks {s' with heap:=h'}
 lst:∀{ks s'},J ks s'->∃vs:List Value,s'.heap.IsList l vs.toArray/\vs.length=N/\∀i v,vs[i]?=some v->Rl i v
 call:∀{ks s' v},ks.length<N->Rl ks.length v->J ks s'->(∃o,s'.heap.get? I=some o)->(∃o,s'.heap.get? S=some o)->wpAny (model prog w) A (call (.ref f) [v]) (fun k s''=>J (ks++[k]) s''/\(∀o,s'.heap.get? I=some o->s''.heap.get? I=some o)/\∀o,s'.heap.get? S=some o->s''.heap.get? S=some o) (fun a a=>False) s'
 cmp:∀{ks s'},ks.length≤N->J ks s'->∀i j x y,ks[i]?=some x->ks[j]?=some y->∀R:Value->Shared->Prop,R (.bool (gt i j)) s'->wpAny (model prog w) A (richCompare .Gt x y) R (fun a a=>False) s'
variable {I S:Addr}{N:Nat}{Rl:Nat->Value->Prop}{gt:Nat->Nat->Bool}{J:List Value->Shared->Prop}{R:Result->Shared->Prop}{dv:Value}
def wI (M:wH prog w A.in1 l I S N Rl f gt J)(hh:A.handled=none)(hSI:S≠I)(hR:∀ks s' v,ks.length=N->J ks s'->Rl (bO gt (N-1)) v->R (.ok (.ret v)) s'):
  ∀(r:Nat) (ks:List Value) (vb kb:Value) (s:Shared) (c:Nat),N-ks.length=r->0<ks.length->ks.length≤N->J ks s->s.heap.IsListIter I l ks.length->Rl (bO gt (ks.length-1)) vb->ks[bO gt (ks.length-1)]?=some kb->s.heap.get? S=some (seqObj "list" #[vb,kb] c)->
   codeAny (model prog w) A (.builtin "max.loop" ⟨[.ref I,.ref f,.ref S],[("default",dv)]⟩) R s:=by
 have hname:(toString "max"++toString ".loop":String)="max.loop":=by decide
 intro r
 induction r with
 |zero=>
  intro ks vb kb s c hr h0 hl hJ hit hvb hkb gS;have el:ks.length=N:=by omega
  obtain⟨vs,hvs,lv,hrl⟩:=M.lst hJ;refine codeAny_builtin PySem.F.entry_max_loop ?_;rw[ui0 PySem.F.plain_max_loop _];show wpAny _ A.in1 (seqItems? (.ref S) >>= _) _ _ _;refine wb0 (wpAny_seqItems gS rfl ?_);show wpAny _ A.in1 (tryCatch (pyNext (.ref I)) _ >>= _) _ _ _;refine wb0 (wpAny_tryCatch (wpAny_pyNext_list_end hh hit hvs (by rw[el];simp[lv]) fun h' eb=>?_));show wpAny _ A.in1 (updateSeq S (fun a=>#[]) >>= _) _ _ _;refine wb0 (wpAny_updateSeq (eb S _ hSI gS) rfl (wb0 (wpAny_letGo (wq0 ?_))));refine hR ks _ vb el (M.put (s':=s) hJ fun c o n1 n2 e=>?_) (by rw[←el];exact hvb)
  rw[Heap.get?_update_ne _ _ _ _ n2];exact eb c o n1 e
 |succ r ih=>
  intro ks vb kb s c hr h0 hl hJ hit hvb hkb gS;obtain⟨vs,hvs,lv,hrl⟩:=M.lst hJ;have hlt:ks.length<vs.length:=by omega
  have hv:vs[ks.length]?=some vs[ks.length]:=ge0 hlt;have hv2:=hrl _ _ hv;generalize vs[ks.length]=vn at hv hv2;refine codeAny_builtin PySem.F.entry_max_loop ?_;rw[ui0 PySem.F.plain_max_loop _];show wpAny _ A.in1 (seqItems? (.ref S) >>= _) _ _ _;refine wb0 (wpAny_seqItems gS rfl ?_);show wpAny _ A.in1 (tryCatch (pyNext (.ref I)) _ >>= _) _ _ _;refine wb0 (wpAny_tryCatch (wpAny_pyNext_list_item hit hvs (x:=vn) (by simp[hv]) fun h1 hit1 sb=>?_));have hJ1:J ks {s with heap:=h1}:=M.put hJ fun c o n1 n2 e=>(sb.2 _ n1).trans e
  have gS1:h1.get? S=some (seqObj "list" #[vb,kb] c):=(sb.2 _ hSI).trans gS;obtain⟨oI,gI,cI,dI⟩:=id hit1;show wpAny _ A.in1 (tryCatch (holding [vn] (call (.ref f) [vn])) _ >>= _) _ _ _;refine wb0 (wpAny_tryCatch (wh0 (wpAny_mono (M.call (by omega) hv2 hJ1 ⟨_,gI⟩ ⟨_,gS1⟩) (fun k s2 he=>?_) fun a a hF=>hF.elim)));obtain⟨hJ2,kI,kS⟩:=he;have gS2:=kS _ gS1;have gI2:=kI _ gI;have hit2:s2.heap.IsListIter I l (ks.length+1):=⟨oI,gI2,cI,dI⟩;have lb:=mK gt (ks.length-1);have e1:(ks++[k])[ks.length]?=some k:=by simp
  have e2:(ks++[k])[bO gt (ks.length-1)]?=some kb:=by rw[gl0 (by omega)];exact hkb
  have eb:bO gt ((ks++[k]).length-1)=if gt ks.length (bO gt (ks.length-1))=true then ks.length else bO gt (ks.length-1):=by
   rw[show (ks++[k]).length-1=(ks.length-1)+1 by simp;omega];show (if _ then _ else _)=_;rw[show ks.length-1+1=ks.length by omega]
  have el:(ks++[k]).length=ks.length+1:=by simp
  show wpAny _ A.in1 (tryCatch (holding [vn,k] (richCompare .Gt k kb >>= _)) _ >>= _) _ _ _;refine wb0 (wpAny_tryCatch (wh0 (wb0 (wpAny_mono (M.cmp (by omega) hJ2 _ _ _ _ e1 e2 _ ?_) (fun a a z=>z) fun a a z=>z.elim))));refine wb0 (wh0 (wpAny_truthy_bool ?_));refine wb0 (wpAny_letGo (wq0 ?_))
  by_cases hb:gt ks.length (bO gt (ks.length-1))=true
  ·rw[hb] at eb ⊢
   rw[if_pos rfl] at eb;simp only[if_true];obtain⟨c2,hc2⟩:∃c2,(s2.heap.update S (Obj.mapSeq fun a=>#[vn,k])).get? S=some (seqObj "list" #[vn,k] c2):=⟨_,get?_update_seq gS2 fun a=>#[vn,k]⟩;refine wb0 (wpAny_updateSeq gS2 rfl (wb0 (wpAny_letGo ?_)));rw[hname];refine wq0 ⟨plainId_quiet PySem.F.plain_max_loop _,ih (ks++[k]) vn k _ c2 (by omega) (by omega) (by omega) (M.put hJ2 fun c o n1 n2 e=>?_) ?_ (by rw[eb];exact hv2) (by rw[eb];exact e1) hc2⟩
   ·rw[Heap.get?_update_ne _ _ _ _ n2];exact e
   ·rw[el];exact⟨oI,by rw[Heap.get?_update_ne _ _ _ _ hSI.symm];exact gI2,cI,dI⟩
  ·rw[bf0 hb] at eb ⊢
   rw[if_neg fx0] at eb;simp only[Bool.false_eq_true,if_false];refine wb0 (wpAny_letGo ?_);rw[hname];exact wq0 ⟨plainId_quiet PySem.F.plain_max_loop _,ih (ks++[k]) vb kb s2 c (by omega) (by omega) (by omega) hJ2 (by rw[el];exact hit2) (by rw[eb];exact hvb) (by rw[eb];exact e2) gS2⟩
def mL (a v u:Value):argsOk "max" ⟨[a],[("key",v),("default",u)]⟩:=rfl
def sN (hh:A.handled=none)(hl:∃vs,s.heap.IsList l vs)(J:Addr->Addr->List Value->Shared->Prop)
  (hJ:∀I S,s.heap.objs.size≤I->I<S->wH prog w A.in1 l I S N Rl f gt (J I S))
  (h0:∀I S h',s.heap.objs.size≤I->I<S->(∀c o,s.heap.get? c=some o->h'.get? c=some o)->J I S [] {s with heap:=h'})
  (hE:∀I S s',N=0->J I S [] s'->Q dv s')
  (hQ:∀I S ks s' v,s.heap.objs.size≤I->I<S->ks.length=N->0<N->J I S ks s'->Rl (bO gt (N-1)) v->Q v s'):
  wpAny (model prog w) A (call (.builtin "max") [.ref l] [("key",.ref f),("default",dv)]) Q E s:=by
 have hname:(toString "max"++toString ".loop":String)="max.loop":=by decide
 obtain⟨vs0,hl⟩:=hl;refine kmk_tree PySem.F.kind_max PySem.F.plain_max PySem.F.entry_max (mL _ _ _) ?_;show wpAny _ A.in1 (Builtin.Builtins.bindParams "max" ["key","default"] 0 ⟨[],[("key",.ref f),("default",dv)]⟩ >>= _) _ _ s;refine wb0 (wpAny_of_eq (show Builtin.Builtins.bindParams "max" ["key","default"] 0 ⟨[],[("key",.ref f),("default",dv)]⟩=pure [some (.ref f),some dv] from rfl) ?_);refine wb0 (wq0 ?_);refine wb0 (wpAny_pyIter_list hl ?_);refine wb0 (wpAny_newList ?_ (Nat.zero_le _));rw[hname];refine wq0 ⟨plainId_quiet PySem.F.plain_max_loop _,?_⟩;have hz:(s.heap.push {cls:=.type "list_iterator",data:=.fields #[.ref l,.int 0 0]}).objs.size=s.heap.objs.size+1:=size_push' ..
 have gI:((s.heap.push {cls:=.type "list_iterator",data:=.fields #[.ref l,.int 0 0]}).push (seqObj "list" #[] 0)).get? s.heap.objs.size=some {cls:=.type "list_iterator",data:=.fields #[.ref l,.int 0 0]}:=
  ps0 _ (pz0 _ rfl)
 have gS:((s.heap.push {cls:=.type "list_iterator",data:=.fields #[.ref l,.int 0 0]}).push (seqObj "list" #[] 0)).get? (s.heap.push {cls:=.type "list_iterator",data:=.fields #[.ref l,.int 0 0]}).objs.size=some (seqObj "list" #[] 0):=pz0 _ rfl;have hI:s.heap.objs.size<(s.heap.push {cls:=.type "list_iterator",data:=.fields #[.ref l,.int 0 0]}).objs.size:=by rw[hz];exact Nat.lt_succ_self _
 have kp:∀c o,s.heap.get? c=some o->((s.heap.push {cls:=.type "list_iterator",data:=.fields #[.ref l,.int 0 0]}).push (seqObj "list" #[] 0)).get? c=some o:=fun c o e=>ps0 _ (ps0 _ e)
 show codeAny _ A (.builtin "max.loop" ⟨[.ref s.heap.objs.size,.ref f,.ref (s.heap.push {cls:=.type "list_iterator",data:=.fields #[.ref l,.int 0 0]}).objs.size],[("default",dv)]⟩) _ {s with heap:=(s.heap.push {cls:=.type "list_iterator",data:=.fields #[.ref l,.int 0 0]}).push (seqObj "list" #[] 0)};have j0:=h0 _ _ _ (nr0 _) hI kp;have M:=hJ _ _ (nr0 _) hI;have hQ:=fun ks s' v=>hQ _ _ ks s' v (nr0 _) hI
 have hE:=fun s' e=>hE s.heap.objs.size (s.heap.push {cls:=.type "list_iterator",data:=.fields #[.ref l,.int 0 0]}).objs.size s' e
 generalize (s.heap.push {cls:=.type "list_iterator",data:=.fields #[.ref l,.int 0 0]}).push (seqObj "list" #[] 0)=h1 at gI gS j0 ⊢;generalize (s.heap.push {cls:=.type "list_iterator",data:=.fields #[.ref l,.int 0 0]}).objs.size=S at gS j0 M hQ hE hI ⊢;generalize s.heap.objs.size=I at gI j0 M hQ hE hI ⊢;have hSI:S≠I:=Nat.ne_of_gt hI;have it0:h1.IsListIter I l 0:=⟨_,gI,rfl,rfl⟩;refine codeAny_builtin PySem.F.entry_max_loop ?_;rw[ui0 PySem.F.plain_max_loop _];show wpAny _ A.in1 (seqItems? (.ref S) >>= _) _ _ _;refine wb0 (wpAny_seqItems gS rfl ?_);show wpAny _ A.in1 (tryCatch (pyNext (.ref I)) _ >>= _) _ _ _
 obtain⟨vs,hvs,lv,hrl⟩:=M.lst j0;cases hv:vs with
 |nil=>
  refine wb0 (wpAny_tryCatch (wpAny_pyNext_list_end (show A.in1.handled=none from hh) it0 hvs (by rw[hv];rfl) fun h' eb=>?_));refine wb0 (wpAny_rule (wq0 ?_));exact hE _ (by rw[←lv,hv];rfl) (M.put j0 fun c o n1 n2 e=>eb c o n1 e)
 |cons v0 vr=>
  have hv0:vs[0]?=some v0:=by rw[hv];rfl
  refine wb0 (wpAny_tryCatch (wpAny_pyNext_list_item it0 hvs (x:=v0) (by simpa using hv0) fun h2 hit1 sb=>?_));have hJ1:J I S [] {s with heap:=h2}:=M.put (s':={s with heap:=h1}) j0 fun c o n1 n2 e=>(sb.2 _ n1).trans e
  have gS1:h2.get? S=some (seqObj "list" #[] 0):=(sb.2 _ hSI).trans gS;obtain⟨oI,gI1,cI,dI⟩:=id hit1;show wpAny _ A.in1 (tryCatch (holding [v0] (call (.ref f) [v0])) _ >>= _) _ _ _;refine wb0 (wpAny_tryCatch (wh0 (wpAny_mono (M.call (ks:=[]) (by rw[←lv,hv];exact Nat.succ_pos _) (hrl _ _ hv0) hJ1 ⟨_,gI1⟩ ⟨_,gS1⟩) (fun k s2 he=>?_) fun d d hF=>hF.elim)));obtain⟨hJ2,kI,kS⟩:=he;have gS2:=kS _ gS1;have gI2:=kI _ gI1;obtain⟨c2,hc2⟩:∃c2,(s2.heap.update S (Obj.mapSeq fun d=>#[v0,k])).get? S=some (seqObj "list" #[v0,k] c2):=⟨_,get?_update_seq gS2 fun d=>#[v0,k]⟩;show wpAny _ A.in1 (updateSeq S (fun d=>#[v0,k]) >>= _) _ _ _
  refine wb0 (wpAny_updateSeq gS2 rfl ?_);rw[hname];refine wq0 ⟨plainId_quiet PySem.F.plain_max_loop _,wI M hh hSI (fun ks s' v a b=>hQ ks s' v a (by rw[←lv,hv];exact Nat.succ_pos _) b) _ [k] v0 k _ c2 rfl (Nat.zero_lt_one) (by rw[←lv,hv];simp) (M.put hJ2 fun c o n1 n2 e=>?_) ⟨oI,by rw[Heap.get?_update_ne _ _ _ _ hSI.symm];exact gI2,cI,dI⟩ (hrl _ _ hv0) rfl hc2⟩;rw[Heap.get?_update_ne _ _ _ _ n2];exact e
end
end L2.Z
namespace L2.Z
open PySem PySem.W PySem.Spec PySem.Calls PyProof.Rows L2 L2.C SI
section
variable {A:Around}{E:Value->Shared->Prop}
def GH {p q:Int×Int}{x y:Value}(hx:wD s.heap p x)(hy:wD s.heap q y)(hu:A.units<cLine)(h:Q (.bool (ltI q p)) s):wpAny (model prog w) A (richCompare .Gt x y) Q E s:=by
 obtain⟨a,o,xs,n,t,u,rfl,a1,a2,a3,rfl⟩:=hx;obtain⟨b,o',ys,n',t',u',rfl,b1,b2,b3,rfl⟩:=hy;refine HT.gt_tupInts ⟨o,a1,a2,n,a3⟩ ⟨o',b1,b2,n',b3⟩ (.cons _ _ (.cons _ _ .nil)) (.cons _ _ (.cons _ _ .nil)) hu ?_;have:HT.lexLt [q.1,q.2] [p.1,p.2]=ltI q p:=by
  unfold ltI;rw[HT.lexLt_cons,HT.lexLt_cons,HT.lexLt_nil_nil];split
  ·split<;>simp_all
  ·rfl
 simp_all
end
noncomputable def mxI (kf:Int->Int×Int):List Int->Option Int
 |[]=>Option.none
 |n::r=>some (r.foldl (fun b m=>if ltI (kf b) (kf m)=true then m else b) n)
theorem mM (kf:Int->Int×Int)(n:Int)(r:List Int):∀k,k≤r.length->(n::r)[bO (fun i j=>ltI (kf ((n::r).getD j 0)) (kf ((n::r).getD i 0))) k]?=some ((r.take k).foldl (fun b m=>if ltI (kf b) (kf m)=true then m else b) n)
 |0,_=>rfl
 |k+1,h=>by
  have ih:=mM kf n r k (by exact Nat.le_of_lt ‹_›);have hk:r[k]?=some r[k]:=ge0 h;rw[List.take_add_one,hk,List.foldl_append];have e1:(n::r).getD (k+1) 0=r[k]:=by simp[List.getD,hk]
  have hc:ltI (kf ((n::r).getD (bO (fun i j=>ltI (kf ((n::r).getD j 0)) (kf ((n::r).getD i 0))) k) 0)) (kf ((n::r).getD (k+1) 0))=ltI (kf ((r.take k).foldl (fun b m=>if ltI (kf b) (kf m)=true then m else b) n)) (kf r[k]):=by
   rw[e1,List.getD_eq_getElem?_getD,ih];rfl
  show (n::r)[if _ then _ else _]?=some (if _ then _ else _)
  by_cases c:ltI (kf ((r.take k).foldl (fun b m=>if ltI (kf b) (kf m)=true then m else b) n)) (kf r[k])=true
  ·rw[if_pos c,if_pos (hc.trans c)];exact hk
  ·rw[if_neg c,if_neg (fun z=>c (hc.symm.trans z))];exact ih
def DU {kf:Int->Int×Int}(h:ns≠[]):mxI kf ns=ns[bO (fun i j=>ltI (kf (ns.getD j 0)) (kf (ns.getD i 0))) (ns.length-1)]?:=by
 cases ns with
 |nil=>exact absurd rfl h
 |cons n r=>
  have:=mM kf n r r.length (nr0 _);rw[List.take_length] at this;exact this.symm
noncomputable def cJ:Option Int->D
 |Option.none=>.none
 |some n=>.int n
section
variable {body:Expr}{P C:Addr}{U U1 U2:List (List D)}{out:List Int}{kf:Int->Int×Int}{p4 lpos kp2 p3 pos2 pos3 pos4:Pos}
def wJ (L:Bs X params body scope js x P q)(hcalm:X.calm=true)(hu:X.A.units+64<cLine)(hdep:X.A.in1.depth<recursionLimit)(hg:Gl X "max")(hm:X.mg "max"=none)(ha:EvM X C ρ U a (.ok (.list (ns.map .int))) U1)(hs:isStar a=false)(hz:ns.length<64)
  (hk:∀n∈ns,∀s H f c,EvM (kW X X.A.in1 q scope (aH X [x] js) f c s H) C ((SI.blk 1 js ρ).set 0 (.dat (.int n))) U1 body (.ok (.tuple [.int (kf n).1,.int (kf n).2])) U1):
  EvM X C ρ U (.Call (.Name "max" p) [a] [⟨some "key",.Lambda params body scope lpos,kp⟩,⟨some "default",.Constant .none j p3,kp2⟩] pos) (.ok (cJ (mxI kf ns))) U1:=by
 intro pins s σ H Q I h0;obtain⟨G0,H0,d0,G,dd,E,k⟩:=h0;refine wpAny_Call_Name_kw (ld_blt I hg hm rfl ?_ (by decide) (by decide));refine callWith_kw (thn (ax ha aQ (af hs) pos pins s σ H (fun vs H1=>∃v G1 d1,vs=[v]/\MExt G H dd G1 H1 d1/\VS X.prog X.w X.K C G1 H1 d1 U1/\Dp X.K G1 (.list (ns.map .int)) v) I ⟨G0,H0,d0,G,dd,E,fun v G1 H1 d1 m1 v1 r1=>⟨v,G1,d1,rfl,m1,v1,r1⟩⟩) fun us s1 h1=>?_) (by rw[af hs];rfl) (by rw[af hs];rfl) rfl rfl;obtain⟨vs1,H1,I1,r1,v,G1,d1,rfl,m1,v1,dp⟩:=h1;refine thn (pJ (DT L) (pJ tG CC) pos pins s1 σ H1 (fun zs H2=>∃f,zs=[.ref f,.non]/\zY H1 H2 P q/\mJ H2 f q params body scope (bP X.env scope.names [])) I1 fun f H' l la=>⟨f,rfl,l,la⟩) fun ws s2 h2=>?_
 obtain⟨zs,H2,I2,r2,f,rfl,l,la⟩:=h2;obtain⟨u,rfl,ru⟩:=vals1 r1;cases r2 with
 |cons y1 r2=>cases r2 with
  |cons y2 r2=>
   cases r2;cases y1;cases y2;cases dp with
   |@list la' vs _ hq rq=>
    cases ru;obtain rfl:=cU ns rq;obtain⟨v2,m2⟩:=v1.lam m1.gh L.tab l;have mm:=m1.trans m2;have hq1:G1 la'=some (.lst (ns.map V.int)):=hq;have hq2:H2 la'=some (.lst (ns.map V.int)):=ao _ _ (m2.gh _ _ hq);obtain⟨z0,its,n0,rv,ho⟩:=(show ObjOk X.prog X.w H2 s2.heap la' (.lst _) from I2.hok la' _ hq2);have il:its.length=ns.length:=by rw[←rv.length];simp
    have hh:=I2.ok.hd hcalm;have oD:∀{b:Addr},s2.heap.objs.size≤b->wF X pins b:=fun hb=>Ad I2 hb
    let J:Addr->Addr->List Value->Shared->Prop:=fun D kS ks s'=>∃G' H' d',Inv X pins σ H' s'/\MExt G1 H2 d1 G' H' d'/\VS X.prog X.w X.K C G' H' d' U1/\H' D=none/\H' kS=none/\mJ H' f q params body scope (bP X.env scope.names [])/\∀(i:Nat) k n,ks[i]?=some k->ns[i]?=some n->∃b,k=.ref b/\H' b=some (.tup [.int (kf n).1,.int (kf n).2])
    have pis:∀{D kS ks s'},J D kS ks s'->∀(i:Nat) k n,ks[i]?=some k->ns[i]?=some n->wD s'.heap (kf n) k:=fun hJ i k n e1 e2=>by
     obtain⟨G',H',d',I',_,_,_,_,_,hks⟩:=hJ;obtain⟨b,rfl,e⟩:=hks i k n e1 e2;exact Ae I'.hok e
    refine sN (gt:=fun i j=>ltI (kf (ns.getD j 0)) (kf (ns.getD i 0))) (N:=ns.length) (Rl:=fun i v=>∃n,ns[i]?=some n/\RelV (.int n) v) (A:=X.A) hh ⟨_,_,ho,rfl,n0,rfl⟩ J (fun D kS hD hDk=>⟨fun {ks s' h'} hJ kk=>?_,fun {ks s'} hJ=>?_,fun {ks s' v} hlt ⟨n,hn,hu2⟩ hJ hS hDD=>?_,fun {ks s'} lk hJ i j x y ex ey R r=>?_⟩) (fun D kS h' hD hDk kk=>?_) (fun D kS s' e hJ=>?_) fun D kS ks s' v hD hDk hl hp0 hJ hv=>?_
    ·obtain⟨G',H',d',I',a1,a2,a3,a4,a5,a6⟩:=hJ
     refine⟨G',H',d',wG I' (ch:=[D,kS]) (fun b hb=>?_) (fun b o hb e=>kk b o (fun z=>hb (by simp[z])) (fun z=>hb (by simp[z])) e) (fun d d=>rfl) (fun b hb o e=>?_),a1,a2,a3,a4,a5,a6⟩
     ·simp at hb
      rcases hb with rfl|rfl
      ·exact⟨oD hD,a3⟩
      ·exact⟨oD (Nat.le_of_lt (Nat.lt_of_le_of_lt hD hDk)),a4⟩
     ·simp at hb
      rcases hb with rfl|rfl
      ·rw[a3] at e;cases e
      ·rw[a4] at e;cases e
    ·obtain⟨G',H',d',I',a1,a2,a3,a4,a5,a6⟩:=hJ
     have hqf:H' la'=some (.lst (ns.map V.int)):=ao _ _ (a1.gh _ _ (a1.gg _ _ hq1));obtain⟨_,its',n0',rv',ho'⟩:=(show ObjOk X.prog X.w H' s'.heap la' (.lst _) from I'.hok la' _ hqf);refine⟨its',⟨_,ho',rfl,n0',rfl⟩,by rw[←rv'.length];simp,fun i v e=>?_⟩;have hi:i<ns.length:=by
      have:=(gi0 e).1;rw[←rv'.length] at this;simpa using this
     obtain⟨u,hu1,hu2⟩:=Vals.get (i:=i) (x:=.int ns[i]) rv' (by simp[hi]);rw[e] at hu1;cases hu1;exact⟨_,ge0 hi,hu2⟩
    ·obtain⟨G',H',d',I',a1,a2,a3,a4,a5,a6⟩:=hJ
     have E':=E.go (mm.trans a1) a2;refine wpAny_mono (wC (A:=X.A.in1) L.blk I' hh I'.ok.frames hdep a5 (L.bind _) L.par L.co L.gen hu2 (Q:=fun w H''=>∃G'' d'',MExt G' H' d' G'' H'' d''/\VS X.prog X.w X.K C G'' H'' d'' U1/\Dp X.K G'' (.tuple [.int (kf n).1,.int (kf n).2]) w) fun c s1 J1=>?_) (fun k s'' hq=>?_) fun d d z=>z
     ·exact hk n (mg0 hn) s' H' f c [] s1 _ H' _ J1 ⟨G',H',d',G',d',(E'.blk (tn:=[x])).set (by simp[df]) (.int n),fun w G'' H'' d'' m'' v'' dp=>⟨G'',d'',m'',v'',dp⟩⟩
     ·obtain⟨w,H'',I'',un,rw',G'',d'',m'',v'',dp⟩:=hq
      cases dp with
      |@tuple b ws _ e1 e2=>
       cases rw';cases e2 with
       |cons b1 e2=>
        cases b1;cases e2 with
        |cons b2 e2=>
         cases b2;cases e2;obtain⟨oS,gS⟩:=hDD;obtain⟨oD',gD⟩:=hS;have nf:∀b,wF X pins b->b∉frs X.stack:=fun b o z=>(mq0 (I'.stkSub b z)).elim o.2.1 o.2.2.2.2
         have oS':wF X pins kS:=oD (Nat.le_of_lt (Nat.lt_of_le_of_lt hD hDk));refine⟨⟨G'',H'',d'',I'',a1.trans m'',v'',un.free D _ gD a3 (by simp),un.free kS _ gS a4 (by simp),?_,fun i k n' e1' e2'=>?_⟩,fun o e=>un.keep D o e a3 (nf _ (oD hD)) (by simp),fun o e=>un.keep kS o e a4 (nf _ oS') (by simp)⟩
         ·obtain⟨pm,ctv,c,u',co,vs,t,cu,h1,h2,h3⟩:=a5.ex
          exact⟨pm,ctv,c,u',co,vs,t,cu,un.frzs _ _ _ h1,un.frzs _ _ _ h2,h3⟩
         ·by_cases hi:i<ks.length
          ·rw[gl0 hi] at e1'
           obtain⟨b',rfl,e⟩:=a6 i k n' e1' e2';exact⟨b',rfl,un.tups _ _ e⟩
          ·have:i=ks.length:=by
            have:=(gi0 e1').1;simp at this;grind
           subst this;simp at e1';rw[hn] at e2';cases e2';exact⟨b,e1'.symm,ao _ _ (m''.gh _ _ e1)⟩
    ·have hks:∀i x,ks[i]?=some x->wD s'.heap (kf (ns.getD i 0)) x:=fun i x e=>by
      have hi':=nl0 (gi0 e).1 lk;have hi:ns[i]?=some ns[i]:=ge0 hi';rw[List.getD_eq_getElem?_getD,hi];exact pis hJ i x _ e hi
     exact GH (hks i x ex) (hks j y ey) (by show X.A.units+1<_;omega) r
    ·exact⟨G1,H2,d1,I2.kept (t':=s2.toks) kk,.refl m2.gh,v2,I2.hok.fresh hD,I2.hok.fresh (Nat.le_of_lt (Nat.lt_of_le_of_lt hD hDk)),la,fun i k n e=>by simp at e⟩
    ·obtain⟨G',H',d',I',a1,a2,a3,a4,a5,a6⟩:=hJ
     obtain rfl:ns=[]:=ez0 e;exact⟨.non,_,I',rfl,k _ _ _ d' (mm.trans a1) a2 .none⟩
    ·obtain⟨G',H',d',I',a1,a2,a3,a4,a5,a6⟩:=hJ
     obtain⟨n,e,r⟩:=hv;have ne:ns≠[]:=fun z=>by rw[z] at hp0;exact absurd hp0 (li0 0)
     rw[(DU ne).trans e] at k;exact⟨.int n,_,I',r,k _ _ _ d' (mm.trans a1) a2 (.int n)⟩
def wK {c:Nat}{kv:Expr}(hg:Gl X "max")(hm:X.mg "max"=none)(ha:EvM X C ρ U a (.exc c) U1)(hs:isStar a=false):
  EvM X C ρ U (.Call (.Name "max" p) [a] [⟨some "key",kv,kp⟩,⟨some "default",.Constant .none j p3,kp2⟩] pos) (.exc c) U1:=by
 intro pins s σ H Q I h0;obtain⟨G0,H0,d0,G,dd,E,k⟩:=h0;refine wpAny_Call_Name_kw (ld_blt I hg hm rfl ?_ (by decide) (by decide));refine callWith_kw (thn (ax (t:=fun b b b=>False) ha (fun b b b b b b b z=>z.elim) (af hs) pos pins s σ H (fun b b=>False) I ⟨G0,H0,d0,G,dd,E,k⟩) fun us s1 h1=>?_) (by rw[af hs];rfl) (by rw[af hs];rfl) rfl rfl;obtain⟨_,_,_,_,z⟩:=h1;exact z.elim
noncomputable def Af (a b:Expr)(p p2 p4 pos pos2 pos3 pos4:Pos):Expr:=.Call (.Name "sorted" p) [.BinOp (.Call (.Name "set" p2) [a] [] pos2) .BitAnd (.Call (.Name "set" p4) [b] [] pos3) pos4] [] pos
def Ag (hcalm:X.calm=true)(B1:Blt X "sorted")(B2:Blt X "set")(ha:EvM X C ρ U a (.ok (.list (ns.map .int))) U1)(hs:isStar a=false)(hz:ns.length<64)(hb:EvM X C ρ U1 b (.ok (.list (ms.map .int))) U2)(hs2:isStar b=false)(hz2:ms.length<64)
  (hu:∀l:List Int,l.Nodup->l.Pairwise (·≤·)->(∀y,y∈l↔y∈ns/\y∈ms)->l=out):EvM X C ρ U (Af a b p p2 p4 pos pos2 pos3 pos4) (.ok (.list (out.map .int))) U2:=by
 intro pins s σ H Q I h0;obtain⟨G0,H0,d0,G,dd,E,k⟩:=h0;have S1:=fun {e:Expr} (h:isStar e=false)=>af (es:=[]) (env:=X.env) h
 refine bj (dg hcalm) B1.g B1.m bA (ax (lE kK (bu (cR (kdI X.prog X.w) V.int (fun c c=>bw) hcalm) B2.g B2.m cT (ax ha aQ (S1 hs)) B2.n B2.d (S1 hs) rfl) (bu (cR (kdI X.prog X.w) V.int (fun c c=>bw) hcalm) B2.g B2.m cT (ax hb aQ (S1 hs2)) B2.n B2.d (S1 hs2) rfl)) aQ (S1 rfl)) B1.n B1.d (S1 rfl) rfl pins s σ H Q I ⟨G0,H0,d0,G,dd,E,fun v G1 H1 d1 m1 v1 r1=>?_⟩;cases r1 with
 |@list l1 ws1 _ hq1 rq1=>
  obtain rfl:=cU ns rq1;refine⟨l1,ns,rfl,SqL.of ((m1.gh.trans ao) _ _ hq1),hz,fun S ks hS nd1 mem1 len1=>?_⟩;have e1:Ext G1 H1 G1 (upd H1 S (.ext (gM (kdI X.prog X.w) S ks))):=.hid (m1.gh.trans ao) hS;have mm1:=m1.trans (v1.mext m1.gh e1);have vv1:=v1.step e1;refine⟨G0,H0,d0,G1,d1,E.go mm1 vv1,fun v G2 H2 d2 m2 v2 r2=>?_⟩;cases r2 with
  |@list l2 ws2 _ hq2 rq2=>
   obtain rfl:=cU ms rq2;have np:S∉parts d1:=fun z=>by obtain⟨o,e⟩:=v1.part z;rw[hS] at e;cases e
   have hS2:H2 S=some (.ext (gM (kdI X.prog X.w) S ks)):=ao _ _ (m2.hh _ _ (by rw[aA np];exact ae));refine⟨l2,ms,rfl,SqL.of ((m2.gh.trans ao) _ _ hq2),hz2,fun T js hT nd2 mem2 len2=>?_⟩;have e2:Ext G2 H2 G2 (upd H2 T (.ext (gM (kdI X.prog X.w) T js))):=.hid (m2.gh.trans ao) hT;have ne:S≠T:=fun z=>by rw[←z,hS2] at hT;cases hT
   have vv2:=v2.step e2;have mm2:=mm1.trans (m2.trans (v2.mext m2.gh e2));refine⟨S,T,ks,js,rfl,rfl,ne,by rw[aa ne];exact hS2,ae,by exact Nat.lt_of_le_of_lt ‹_› ‹_›,by exact Nat.lt_of_le_of_lt ‹_› ‹_›,fun r zs hr nd3 mem3 len3=>?_⟩;have e3:Ext G2 (upd H2 T (.ext (gM (kdI X.prog X.w) T js))) G2 (upd (upd H2 T (.ext (gM (kdI X.prog X.w) T js))) r (.ext (gM (kdI X.prog X.w) r zs))):=.hid (mm2.gh.trans ao) hr;have vv3:=vv2.step e3;have mm3:=mm2.trans (vv2.mext mm2.gh e3);refine⟨r,zs,rfl,ae,len3,fun D rs hD pe so=>?_⟩;obtain rfl:=hu rs (pe.nodup_iff.mpr nd3) so fun y=>by rw[pe.mem_iff,mem3,mem1,mem2]
   have e4:=Ext.laid (o:=HO.lst (rs.map V.int)) (mm3.gh.trans ao) hD;exact k _ _ _ d2 (mm3.trans (vv3.mext mm3.gh e4)) (vv3.step e4) (.list ae (by simpa using fx rs))
def sP {c:Nat}(hcalm:X.calm=true)(B1:Blt X "sorted")(B2:Blt X "set")(ha:EvM X C ρ U a (.exc c) U1)(hs:isStar a=false)(hs2:isStar b=false):EvM X C ρ U (Af a b p p2 p4 pos pos2 pos3 pos4) (.exc c) U1:=by
 intro pins s σ H Q I h0;obtain⟨G0,H0,d0,G,dd,E,k⟩:=h0;have S1:=fun {e:Expr} (h:isStar e=false)=>af (es:=[]) (env:=X.env) h
 exact bj (dg hcalm) B1.g B1.m bA (ax (lE kK (bu (cR (kdI _ _) _ (fun f f=>bw) hcalm) B2.g B2.m cT (ax ha aQ (S1 hs)) B2.n B2.d (S1 hs) rfl) (fun f f f f f f z=>(z:False).elim)) aQ (S1 rfl)) B1.n B1.d (S1 rfl) rfl _ s σ H Q I ⟨G0,H0,d0,G,dd,E,k⟩
def sQ {c:Nat}(hcalm:X.calm=true)(B1:Blt X "sorted")(B2:Blt X "set")(ha:EvM X C ρ U a (.ok (.list (ns.map .int))) U1)(hs:isStar a=false)(hz:ns.length<64)(hb:EvM X C ρ U1 b (.exc c) U2)(hs2:isStar b=false):EvM X C ρ U (Af a b p p2 p4 pos pos2 pos3 pos4) (.exc c) U2:=by
 intro pins s σ H Q I h0;obtain⟨G0,H0,d0,G,dd,E,k⟩:=h0;have S1:=fun {e:Expr} (h:isStar e=false)=>af (es:=[]) (env:=X.env) h
 refine bj (dg hcalm) B1.g B1.m bA (ax (lE kK (bu (cR (kdI X.prog X.w) V.int (fun f f=>bw) hcalm) B2.g B2.m cT (ax ha aQ (S1 hs)) B2.n B2.d (S1 hs) rfl) (bu (cR (kdI X.prog X.w) V.int (fun f f=>bw) hcalm) B2.g B2.m cT (ax hb aQ (S1 hs2)) B2.n B2.d (S1 hs2) rfl)) aQ (S1 rfl)) B1.n B1.d (S1 rfl) rfl pins s σ H Q I ⟨G0,H0,d0,G,dd,E,fun v G1 H1 d1 m1 v1 r1=>?_⟩;cases r1 with
 |@list l1 ws1 _ hq1 rq1=>
  obtain rfl:=cU ns rq1;refine⟨l1,ns,rfl,SqL.of ((m1.gh.trans ao) _ _ hq1),hz,fun S ks hS nd1 mem1 len1=>?_⟩;have e1:Ext G1 H1 G1 (upd H1 S (.ext (gM (kdI X.prog X.w) S ks))):=.hid (m1.gh.trans ao) hS;have mm:=m1.trans (v1.mext m1.gh e1);exact⟨G0,H0,d0,G1,d1,E.go mm (v1.step e1),fun G' H' d' m=>k G' H' d' (mm.trans m)⟩
end
end L2.Z
namespace L2.Z
open PySem PySem.Spec PyProof.Rows L2 L2.C SI
set_option genCtorIdx false
mutual
inductive M where
 |p (e:E)
 |call (f:Str) (as:Ms)
 |meth (m:Str) (i:Nat) (as:Ms)
 |new
 |tup (as:Ms)
 |hv (i:Nat)
 |ix (k:Nat) (a:M)
 |callv (i:Nat) (as:Ms)
 |mx (a:M) (js:List Nat) (b:M)
 |sand (a b:M)
inductive Ms where
 |nil
 |va (i:Nat) (r:Ms)
 |ex (a:M) (r:Ms)
end
abbrev Ms.G (x:M):Ms:=.ex x .nil
abbrev Ms.W (i:Nat):Ms:=.va i .nil
mutual
inductive SM where
 |set (i:Nat) (e:M)
 |expr (e:M)
 |ret (e:M)
 |ifs (c:E) (a b:SMs)
 |fors (tg:Tg) (src:I) (body:SMs)
 |raise (c:Nat) (as:Ms)
 |try1 (tab:List (Nat×Bool)) (i j:Nat) (body:SMs)
 |pure (s:S)
 |newc (j:Nat) (f:Str) (as:Es)
 |ext (i:Nat) (e:M)
 |form (tg:Tg) (src:M) (body:SMs)
 |whl (c:E) (body:SMs)
 |ifm (o:Cop) (a:M) (b:E) (s t:SMs)
inductive SMs where
 |nil
 |cons (s:SM) (r:SMs)
end
set_option genCtorIdx true
abbrev SMs.A (x:SM):SMs:=.cons x .nil
abbrev SMs.B (x y:SM):SMs:=.cons x (.A y)
noncomputable abbrev Ust:=List (List D)
noncomputable abbrev FsM:=Str->Option FnM
noncomputable def jQ:Option Sl->Option Nat
 |some (.dat (.hdl h))=>some h
 |_=>none
noncomputable def wL:Bool->Option Sl->Option D
 |true,some sl=>az .read sl
 |false,some (.dat d)=>some d
 |_,_=>none
@[simp] noncomputable def qw (d:D):Rs->Rs
 |.ok ds=>.ok (d::ds)
 |.exc c=>.exc c
noncomputable def GI:D->Option (List D)
 |.list ds=>some ds
 |.tuple ds=>some ds
 |_=>none
noncomputable def tupK (k:Nat):D->Option D
 |.tuple ds=>ds[k]?
 |_=>none
noncomputable def fnOf (Γ:List (Str×D)):Option Sl->Option Str
 |some (.dat (.fn a))=>(Γ.find? fun p=>decide (p.2=.fn a)).bind fun p=>if Γ.lookup p.1=some (.fn a) then some p.1 else none
 |_=>none
noncomputable def goR (z:R×Ust)(f:D->Ust->Option (R×Ust)):Option (R×Ust):=match z.1 with
 |.ok d=>f d z.2
 |.exc x=>some (.exc x,z.2)
noncomputable def okL:R×Ust->Option (List D×Ust)
 |(.ok (.list ds),U)=>some (ds,U)
 |_=>none
noncomputable def gF:D->Option (List Int)
 |.list ds=>eZ ds
 |_=>none
noncomputable def mO:D->Option (Int×Int)
 |.tuple [.int t,.int m]=>some (t,m)
 |_=>none
noncomputable def mP (z:Option (R×Ust))(U:Ust)(n:Int):Option Int:=z.bind fun q=>match q.1 with
 |.ok d=>(mO d).bind fun k=>if k.2 = -n/\q.2=U then some k.1 else none
 |.exc _=>none
noncomputable def wM (f:Int->Option Int)(n:Int):Int×Int:=((f n).getD 0,-n)
noncomputable def mxK (f:Int->Option Int)(ns:List Int):Option D:=if ns.length<64/\ns.all (fun n=>(f n).isSome)=true then some (cJ (mxI (wM f) ns)) else none
noncomputable def gG (ns ms:List Int):List Int:=ns.filter fun n=>ms.contains n
noncomputable def qy (ns:List Int)(e:D):Option D:=(gF e).bind fun ms=>if ms.length<64 then some (.list ((gG ns ms).map .int)) else none
noncomputable def DV (ρ:List Sl)(U:Ust)(j:Nat):D->Option (OM×Ust)
 |.list ls=>if (ρ.all bD&&(ρ.set j (.own (.list ls))).all ar)=true then some (.nx (ρ.set j (.own (.list ls))),U) else none
 |_=>none
noncomputable def DW (q:Rs×Ust):Option (R×Ust):=match q.1 with
 |.ok ds=>if ds.length≤1000 then some (.ok (.tuple ds),q.2) else none
 |.exc _=>none
section
variable (Φ:Fs)(Ψ:FsM)(Γ:List (Str×D))(c:Nat)
mutual
@[simp] noncomputable def evM (ρ:List Sl)(U:Ust):M->Option (R×Ust)
 |.p e=>(ev Φ Γ .val (ρ.map (vE c U)) e).map fun d=>(.ok d,U)
 |.call f as=>(Ψ f).bind fun φ=>(gN φ.lent ρ U as).bind fun q=>(vN φ.run q.1 q.2).map fun z=>(z.2,z.1)
 |.meth m i as=>(Ψ (aE m)).bind fun φ=>(jQ ρ[i]?).bind fun h=>(gN φ.lent.tail ρ U as).bind fun q=>match q.1 with
  |.ok ds=>(φ.run q.2 (.hdl h::ds)).map fun z=>(z.2,z.1)
  |.exc _=>none
 |.new=>some (.ok (.hdl U.length),U++[[]])
 |.hv i=>(jQ ρ[i]?).map fun h=>(.ok (.hdl h),U)
 |.ix k a=>(evM ρ U a).bind fun z=>goR z fun d U'=>(tupK k d).map fun d'=>(.ok d',U')
 |.callv i as=>(fnOf Γ ρ[i]?).bind fun f=>(Ψ f).bind fun φ=>(gN φ.lent ρ U as).bind fun q=>(vN φ.run q.1 q.2).map fun z=>(z.2,z.1)
 |.mx a js b=>(evM ρ U a).bind fun z=>goR z fun d U'=>(gF d).bind fun ns=>(mxK (fun n=>mP (evM ((blk 1 js ρ).set 0 (.dat (.int n))) U' b) U' n) ns).map fun o=>(.ok o,U')
 |.sand a b=>(evM ρ U a).bind fun z=>goR z fun d U'=>(gF d).bind fun ns=>if ns.length<64/\ns.Pairwise (·<·) then (evM ρ U' b).bind fun z=>goR z fun e U''=>(qy ns e).map fun o=>(.ok o,U'') else none
 |.tup as=>(gN [] ρ U as).bind DW
@[simp] noncomputable def gN (fl:List Bool)(ρ:List Sl)(U:Ust):Ms->Option (Rs×Ust)
 |.nil=>some (.ok [],U)
 |.va i r=>(wL (fl.headD false) ρ[i]?).bind fun d=>(gN fl.tail ρ U r).map fun q=>(qw d q.1,q.2)
 |.ex a r=>(evM ρ U a).bind fun z=>match z.1 with
  |.ok d=>(gN fl.tail ρ z.2 r).map fun q=>(qw d q.1,q.2)
  |.exc x=>some (.exc x,z.2)
end
noncomputable def sR (f:D->OM)(ρ:List Sl):R->OM
 |.ok d=>f d
 |.exc x=>.exc x ρ
noncomputable def DX (tab:List (Nat×Bool))(i j:Nat)(U:Ust):OM->Option (OM×Ust)
 |.exc x ρ=>if tab.lookup x=some true then some (.nx ((ρ.set i (.dat (.exc x))).set j .no),U) else none
 |o=>some (o,U)
noncomputable def Bt (o:Out)(U:Ust):Option (OM×Ust):=match o with
 |.nx ρ=>if ρ.all ar then some (.nx ρ,U) else none
 |.rt _=>none
noncomputable def oP:D->Option (List D)
 |.list ds=>some ds
 |_=>none
noncomputable def wN:Option Sl->Option (List D)
 |some (.own (.list ds))=>some ds
 |_=>none
noncomputable def Ah (s:Option Sl)(ds:List D)(k:D->OM×Ust):Option (OM×Ust):=match s with
 |some (.own (.list es))=>if es.length+ds.length≤big then some (k (.list (es++ds))) else none
 |_=>none
mutual
@[simp] noncomputable def exM (ρ:List Sl)(U:Ust):SM->Option (OM×Ust)
 |.set i e=>(evM Φ Ψ Γ c ρ U e).map fun z=>(sR (fun d=>.nx (ρ.set i (.dat d))) ρ z.1,z.2)
 |.expr e=>(evM Φ Ψ Γ c ρ U e).map fun z=>(sR (fun g=>.nx ρ) ρ z.1,z.2)
 |.ret e=>(evM Φ Ψ Γ c (ρ.map freeze) U e).map fun z=>(sR .rt (ρ.map freeze) z.1,z.2)
 |.ifs t a b=>(ev Φ Γ .test (ρ.map (vE c U)) t).bind fun d=>(asB d).bind fun t=>if t then ba ρ U a else ba ρ U b
 |.fors tg src body=>(evI Φ Γ .walk ρ src).bind fun ds=>forM (aw tg) (fun ρ' U'=>ba ρ' U' body) ds ρ U
 |.raise x as=>(gN Φ Ψ Γ c [] ρ U as).bind fun q=>match q.1 with
  |.ok ds=>if ds.length≤1000 then some (.exc x ρ,q.2) else none
  |.exc _=>none
 |.try1 tab i j body=>(ba ρ U body).bind fun q=>DX tab i j q.2 q.1
 |.pure s=>(ex Φ Γ ρ s).bind fun o=>Bt o U
 |.newc j f as=>(Φ f).bind fun φ=>(evs Φ Γ .read φ.lent ρ as).bind fun ds=>(φ.run ds).bind fun r=>DV ρ U j r
 |.ext i e=>(evM Φ Ψ Γ c ρ U e).bind fun z=>match z.1 with
  |.ok d=>(oP d).bind fun ds=>Ah ρ[i]? ds fun d=>(.nx (ρ.set i (.own d)),z.2)
  |.exc x=>(wN ρ[i]?).map fun g=>(.exc x ρ,z.2)
 |.form tg src body=>(evM Φ Ψ Γ c ρ U src).bind fun z=>match z.1 with
  |.ok d=>(oP d).bind fun ds=>forM (aw tg) (fun ρ' U'=>ba ρ' U' body) ds ρ z.2
  |.exc x=>some (.exc x ρ,z.2)
 |.whl t body=>eQ (fun ρ' U'=>ev Φ Γ .test (ρ'.map (vE c U')) t) (fun ρ' U'=>ba ρ' U' body) 100000 ρ U
 |.ifm o a b s t=>(evM Φ Ψ Γ c ρ U a).bind fun z=>match z.1 with
  |.ok d=>(ev Φ Γ .read (ρ.map (vE c z.2)) b).bind fun e=>(bM o d e).bind fun q=>if q then ba ρ z.2 s else ba ρ z.2 t
  |.exc x=>some (.exc x ρ,z.2)
@[simp] noncomputable def ba (ρ:List Sl)(U:Ust):SMs->Option (OM×Ust)
 |.nil=>some (.nx ρ,U)
 |.cons s r=>(exM ρ U s).bind fun q=>q.1.andThen (fun ρ'=>ba ρ' q.2 r) q.2
end
end
structure aW where
 lent:List Bool
 slots:Nat
 body:SMs
noncomputable def mQ:OM->R
 |.nx _=>.ok .none
 |.rt d=>.ok d
 |.exc c _=>.exc c
@[simp] noncomputable def startM (d:aW)(ds:List D):List Sl:=bN ⟨d.lent,d.slots,.nil⟩ ds
noncomputable def runM (Φ:Fs)(Ψ:FsM)(Γ:List (Str×D))(c:Nat)(d:aW):FnM:=⟨d.lent,fun U ds=>if ds.length=d.lent.length then (ba Φ Ψ Γ c (startM d ds) U d.body).map fun q=>(q.2,mQ q.1) else none⟩
noncomputable def jo (Ψ0:FsM)(prog:List (Str×Def))(progM:List (Str×aW))(Γ:List (Str×D))(c:Nat):Nat->FsM
 |0,f=>Ψ0 f
 |k+1,f=>match Ψ0 f with
  |some φ=>some φ
  |none=>(progM.lookup f).map (runM (den prog Γ k) (jo Ψ0 prog progM Γ c k) Γ c)
structure Cm where
 cs:Cs
 c:Nat
 mfs:List Str
 mms:List Str
 vn:Str
 xks:List (Str×Nat)
 vrs:List Str:=[]
 fvs:List Str:=[]
 lam:Option (Nat×Str):=none
 nws:List Str:=[]
noncomputable def kX (C:Cm):Expr->Bool
 |.Call (.Name f _) _ _ _=>C.mfs.contains f||f==C.vn||C.fvs.contains f
 |.Call (.Attribute (.Name _ _) m _) _ _ _=>C.mms.contains m
 |_=>false
noncomputable def isZ:Expr->Bool
 |.Constant (.int i) _ _=>i==0
 |_=>false
noncomputable def natE:Expr->Option Nat
 |.Constant (.int (.ofNat k)) _ _=>some k
 |_=>none
noncomputable def GK:Expr->Option (Expr×Nat)
 |.Subscript a i _=>(natE i).map fun k=>(a,k)
 |_=>none
noncomputable def isEq:CmpOp->Bool
 |.Eq=>true
 |_=>false
noncomputable def Kd:Expr->Option (Expr×Str)
 |.Compare a os bs _=>(cG os).bind fun o=>(cG bs).bind fun b=>if isEq o then (Dc b).map fun y=>(a,y) else none
 |_=>none
noncomputable def GL (C:Cs):Expr->Bool
 |.Call (.Attribute (.Name x _) _ _) [] [] _=>(aY C x).any fun i=>C.mts.contains i
 |_=>false
noncomputable def mR (C:Cm):Expr->Option (CmpOp×Expr×Expr)
 |.Compare a os bs _=>(cG os).bind fun o=>(cG bs).bind fun b=>if kX C a then some (o,a,b) else none
 |_=>none
noncomputable def two {α:Type}:List α->Option (α×α)
 |[a,b]=>some (a,b)
 |_=>none
noncomputable def jR:Arguments->Option Str
 |⟨[],[⟨x,_,_⟩],none,[],[],none,[]⟩=>some x
 |_=>none
noncomputable def wO:Keyword->Option (Str×Arguments×Expr×Scope)
 |⟨some k,.Lambda ps b sc _,_⟩=>if k=("key":Str) then (jR ps).map fun x=>(x,ps,b,sc) else none
 |_=>none
noncomputable def oQ:Keyword->Bool
 |⟨some k,.Constant .none _ _,_⟩=>decide (k=("default":Str))
 |_=>false
noncomputable def Ai (C:Cm)(f:Str)(as:List Expr)(ks:List Keyword):Option (Expr×Str×Arguments×Expr×Scope):=if f=("max":Str) then (if aq C.cs f then (cG as).bind fun a=>(two ks).bind fun q=>(wO q.1).bind fun z=>if oQ q.2&&!isStar a&&(!z.2.2.2.isCoroutine&&!z.2.2.2.isGenerator) then some (a,z) else none else none) else none
noncomputable def fn1:Expr->Option (Str×Expr)
 |.Call (.Name f _) as [] _=>(cG as).map fun a=>(f,a)
 |_=>none
noncomputable def wQ:Expr->Option (Expr×Expr)
 |.BinOp a .BitAnd b _=>some (a,b)
 |_=>none
noncomputable def kY (C:Cm)(f:Str)(as:List Expr):Option (Expr×Expr):=if f=("sorted":Str) then (cG as).bind fun e=>(wQ e).bind fun q=>(fn1 q.1).bind fun x=>(fn1 q.2).bind fun y=>if x.1=("set":Str)/\y.1=("set":Str)/\(aq C.cs f&&aq C.cs x.1&&!isStar x.2&&!isStar y.2)=true then some (x.2,y.2) else none else none
mutual
noncomputable def cM:Nat->Cm->Expr->Option M
 |0,_,_=>none
 |n+1,C,e=>match e with
  |.Call (.Name f _) as [] _=>if aq C.cs f&&C.mfs.contains f&&!as.isEmpty then (cMs n C as).map fun as'=>.call f as'
   else if C.fvs.contains f then (if as.isEmpty then none else (aY C.cs f).bind fun i=>(cMs n C as).map fun as'=>.callv i as')
   else if f=C.vn then (if aq C.cs f&&as.isEmpty then some .new else none)
   else (match kY C f as with
    |some q=>(cM n C q.1).bind fun a=>(cM n C q.2).map fun b=>.sand a b
    |none=>(cE n C.cs e).map .p)
  |.Call (.Name f p) as (kw::kws) _=>(match Ai C f as (kw::kws) with
   |some z=>C.lam.bind fun c=>(cM n C z.1).bind fun a=>(gL C.cs z.2.2.2.2 (.Name z.2.1 p)).bind fun b=>(cM n {C with cs:=b.1,lam:=none} z.2.2.2.1).map fun k=>.mx a b.2.2 k
   |none=>(cE n C.cs e).map .p)
  |.Call (.Attribute (.Name x _) m apos) as [] pos=>if C.mms.contains m then (if (apos.endLine==pos.line)&&!as.isEmpty&&decide (as.length≤20) then (aY C.cs x).bind fun i=>(cMs n C as).map fun as'=>.meth m i as' else none) else (cE n C.cs e).map .p
  |.Tuple es _ _=>if es.any (kX C) then (cMs n C es).map .tup else (cE n C.cs e).map .p
  |.Subscript _ _ _=>(match GK e with
   |some q=>if kX C q.1 then (cM n C q.1).map (.ix q.2) else (cE n C.cs e).map .p
   |none=>(cE n C.cs e).map .p)
  |.Name x _=>if C.vrs.contains x then (aY C.cs x).map .hv else (cE n C.cs e).map .p
  |_=>(cE n C.cs e).map .p
noncomputable def cMs:Nat->Cm->List Expr->Option Ms
 |0,_,_=>none
 |n+1,C,[]=>some .nil
 |n+1,C,e::r=>if isStar e then none else match oU C.cs e with
  |some i=>(cMs n C r).map fun r'=>.va i r'
  |none=>(cM n C e).bind fun a=>(cMs n C r).map fun r'=>.ex a r'
noncomputable def oU (C:Cs):Expr->Option Nat
 |.Name x _=>aY C x
 |_=>none
end
noncomputable def wR (C:Cs)(e:Expr):Option (Nat×Str×Expr×Bool):=(cm e).bind fun z=>(cG z.2.2.2.2.1).bind fun a=>(aY C z.1).bind fun i=>if C.mts.contains i then some (i,z.2.2.1,a,z.2.2.2.1.endLine==z.2.2.2.2.2.line) else none
noncomputable def raiseOf:Option Expr->Option Expr->Option (Str×List Expr)
 |some (.Call f as [] _),none=>(fe f).map fun x=>(x,as)
 |_,_=>none
noncomputable def Bu:ExceptHandler->Option (Expr×Str×List Stmt)
 |.ExceptHandler (some t) (some n) b _=>some (t,n,b)
 |_=>none
noncomputable def Bv:Stmt->Option (List Expr×Expr)
 |.Assign ts v _=>some (ts,v)
 |_=>none
noncomputable def wU (hs:List ExceptHandler):Option (Str×Str×Str):=(cG hs).bind fun h=>(Bu h).bind fun q=>(fe q.1).bind fun x=>(cG q.2.2).bind fun s=>(Bv s).bind fun a=>(cG a.1).bind fun t=>(fe t).bind fun k=>(fe a.2).bind fun n'=>if n'=q.2.1 then some (x,q.2.1,k) else none
noncomputable def newOf (C:Cm):Expr->Option (Str×List Expr)
 |.Call (.Name f _) as [] _=>if C.nws.contains f&&aq C.cs f&&!as.isEmpty then some (f,as) else none
 |_=>none
mutual
noncomputable def cSM:Nat->Cm->Stmt->Option SM
 |0,_,_=>none
 |n+1,C,s=>match s with
  |.Assign [.Name y _] v _=>(dB C.cs y).bind fun j=>if C.cs.mts.contains j||GL C.cs v then (match newOf C v with|some q=>(cEs n C.cs q.2).map fun as=>.newc j q.1 as|none=>(cS n C.cs s).map .pure) else if dG v then (cS n C.cs s).map .pure else (cM n C v).map fun e=>.set j e
  |.Assign [.Subscript _ _ _] _ _=>(cS n C.cs s).map .pure
  |.Expr v _=>(match wR C.cs v with
   |some q=>if q.2.1=("extend":Str)&&kX C q.2.2.1 then (if q.2.2.2&&!isStar q.2.2.1 then (cM n C q.2.2.1).map fun e=>.ext q.1 e else none) else (cS n C.cs s).map .pure
   |none=>if dG v then none else (cM n C v).map .expr)
  |.Return (some e) _=>(cM n C e).map .ret
  |.If t a b _=>if (mR C t).isSome then (mR C t).bind fun q=>(kA q.1).bind fun o=>if isSet q.2.2 then none else (cM n C q.2.1).bind fun x=>(cE n C.cs q.2.2).bind fun y=>(cK n C a).bind fun a'=>(cK n C b).map fun b'=>.ifm o x y a' b' else  (cE n C.cs t).bind fun t'=>(cK n C a).bind fun a'=>(cK n C b).map fun b'=>.ifs t' a' b'
  |.For tg iter body [] _=>(cTg C.cs tg).bind fun t=>if kX C iter then (cM n C iter).bind fun src=>(cK n C body).map fun b=>.form t src b else (cI n C.cs iter).bind fun src=>(cK n C body).map fun b=>.fors t src b
  |.Raise e f _=>(raiseOf e f).bind fun q=>if aq C.cs q.1&&!q.2.isEmpty then (C.xks.lookup q.1).bind fun x=>(cMs n C q.2).map fun as=>.raise x as else none
  |.Try body hs [] [] _=>(wU hs).bind fun q=>if aq C.cs q.1&&ai C.cs q.2.1 .local&&(bx q.2.1&&!(q.1==("ValueError":Str))) then (C.cs.xcs.lookup q.1).bind fun z=>(dB C.cs q.2.1).bind fun j=>(dB C.cs q.2.2).bind fun i=>if i=j then none else (cK n C body).map fun b=>.try1 z.2 i j b else none
  |.While t body [] _=>(cE n C.cs t).bind fun t'=>(cK n C body).map fun b=>.whl t' b
  |_=>none
noncomputable def cK:Nat->Cm->List Stmt->Option SMs
 |0,_,_=>none
 |n+1,C,[]=>some .nil
 |n+1,C,s::r=>(cK n C r).map fun r'=>.cons ((cSM n C s).getD (.pure .stuck)) r'
end
structure kZ where
 fns:List Str
 cst:List Str
 c:Nat
 xcs:List (Str×Nat×List (Nat×Bool))
 mfs:List Str
 mms:List Str
 vn:Str
 xks:List (Str×Nat)
 vrs:List Str:=[]
 fvs:List Str:=[]
 nws:List Str:=[]
noncomputable def Aj (V:kZ)(lm:Option (Nat×Str))(ps:List Str)(body:List Stmt)(sc:Scope):Cm:=⟨dH V.fns V.cst ps body sc (some V.c) V.xcs,V.c,V.mfs,V.mms,V.vn,V.xks,V.vrs,V.fvs,lm,V.nws⟩
noncomputable def iS (V:kZ)(lent:List Bool)(st:Stmt)(lm:Option (Nat×Str):=none):Option aW:=
 (bp st).bind fun (ps,body,sc)=>(cK 60 (Aj V lm ps body sc) body).map fun b=>{lent,slots:=(ps++au sc ps).length,body:=b}
structure WzM (X:Cx)(Φ:Fs)(Ψ:FsM)(Γ:List (Str×D))(C:Cm)(k:Nat):Prop where
 w:Wz X Φ Γ C.cs k
 fm:∀x,C.mfs.contains x=true->∀φ,Ψ x=some φ->vP X.prog X.w X.K X.mg X.base C.c k x φ
 vm:∀m,C.mms.contains m=true->∀φ,Ψ (aE m)=some φ->FnVm X.prog X.w X.K X.mg X.base C.c k m φ/\φ.lent.headD false=false/\m≠"objects"/\m≠"numbers"
 fv:∀x a,Γ.lookup x=some (.fn a)->C.mfs.contains x=true
 nw:∀X':Cx,X'.prog=X.prog->X'.w=X.w->X'.K=X.K->X'.mg=X.mg->X'.base=X.base->Room k X'.A->Gl X' C.vn->∀ρ U p pos,EvM X' C.c ρ U (.Call (.Name C.vn p) [] [] pos) (.ok (.hdl U.length)) (U++[[]])
 lam:∀P q,C.lam=some (P,q)->(P,q)∈lamTs/\(∃c,X.env.code=.ref c/\PySem.W.CodeHd X.base c P)/\X.base.BuiltinsAt X.mg P/\X.env.qual++"<lambda>"=q/\X.A.depth+3*k+7≤recursionLimit/\X.A.units+16*k+212<cLine
structure WzT (X:Cx)(Φ:Fs)(Ψ:FsM)(Γ:List (Str×D))(C:Cm)(k:Nat):Prop where
 m:WzM X Φ Ψ Γ C k
 xk:∀t x,C.xks.lookup t=some x->GF X t x
 tr:∀(t:Str) x tab,t≠("ValueError":Str)->C.cs.xcs.lookup t=some (x,tab)->∀e,tab.lookup e=some true->∃newId newIdT,PySem.W.excIn X.K e bg newId=true/\PySem.W.excIn X.K x bg newIdT=true/\dP X.K e x=true
 lcl:∀x,C.cs.sc.names.lookup x=some .local->X.env.kindOf x=some .local
 fc:zS X
 nl:∀x,C.nws.contains x=true->∀φ,Φ x=some φ->FnZs X.prog X.w X.K X.mg X.base k x (wA X.K φ)
theorem CxC.tri {C:Cs}(c:CxC X C){E:Value->Shared->Prop}:CxC (tri X E pn) C:=⟨c.N,c.nd,c.vis,c.loc,c.cell,c.glob,c.calm,c.kind⟩
theorem Wz.tri {Φ:Fs}{Γ:List (Str×D)}{C:Cs}(w:Wz X Φ Γ C k){E:Value->Shared->Prop}:Wz (tri X E pn) Φ Γ C k:=⟨w.blt,w.fns,w.gl,w.room,w.vc,w.xc⟩
theorem WzT.tri {Φ:Fs}{Ψ:FsM}{Γ:List (Str×D)}{C:Cm}(w:WzT X Φ Ψ Γ C k){E:Value->Shared->Prop}:WzT (tri X E pn) Φ Ψ Γ C k:=
 ⟨⟨w.m.w.tri,w.m.fm,w.m.vm,w.m.fv,w.m.nw,w.m.lam⟩,fun t x h=>⟨(w.xk t x h).mg,(w.xk t x h).ex⟩,w.tr,w.lcl,⟨w.fc.stk,w.fc.fr,w.fc.ex⟩,w.nl⟩
section
variable {C:Addr}{U U1 U2:Ust}{e:Expr}{rs:Rs}{c:Nat}
def jS (he:EvM X C ρ U e (.ok d) U1)(hr:EaM X C ρ U1 fl.tail es rs U2)(hs:isStar e=false):EaM X C ρ U fl (e::es) (qw d rs) U2:=by
 have:=vL he hr hs;cases rs<;>exact this
def DY (V:VarOk X x i)(h:wL (fl.headD false) ρ[i]?=some d)(hr:EaM X C ρ U fl.tail es rs U2):EaM X C ρ U fl (.Name x p::es) (qw d rs) U2:=by
 cases hf:fl.headD _ with
 |true=>
  rw[hf] at h;cases q:ρ[i]? with
  |none=>rw[q] at h;cases h
  |some sl=>
   rw[q] at h;have:=sy (p:=p) i q h hf V.at' V.vis V.d V.cd hr;cases rs<;>exact this
 |false=>
  rw[hf] at h;cases q:ρ[i]? with
  |none=>rw[q] at h;cases h
  |some sl=>
   rw[q] at h;cases sl with
   |dat d'=>cases h;exact jS (kQ i q V.at' V.vis V.d V.cd) hr rfl
   |_=>cases h
end
structure DZ (Φ:Fs)(Ψ:FsM)(Γ:List (Str×D))(k n:Nat):Prop where
 E:∀C e M',cM n C e=some M'->∀X,CxC X C.cs->WzM X Φ Ψ Γ C k->∀ρ U r U',evM Φ Ψ Γ C.c ρ U M'=some (r,U')->EvM X C.c ρ U e r U'
 A:∀C es as,cMs n C es=some as->∀X,CxC X C.cs->WzM X Φ Ψ Γ C k->aB es/\∀fl ρ U rs U',gN Φ Ψ Γ C.c fl ρ U as=some (rs,U')->EaM X C.c ρ U fl es rs U'
section
variable {Φ:Fs}{Ψ:FsM}{Γ:List (Str×D)}{C:Cm}
def mS {s:Option Sl}{h:Nat}(q:jQ s=some h):s=some (.dat (.hdl h)):=by
 unfold jQ at q;split at q<;>simp_all
def sS {C:Cs}{e:Expr}(h:oU C e=some i):∃x p,e=.Name x p/\aY C x=some i:=by
 cases e with
 |Name x p=>exact⟨x,p,rfl,h⟩
 |_=>cases h
def Ak {Γ:List (Str×D)}{s:Option Sl}(h:fnOf Γ s=some y):∃a,s=some (.dat (.fn a))/\Γ.lookup y=some (.fn a):=by
 unfold fnOf at h;split at h
 ·obtain⟨p,_,h2⟩:=bx0 h
  split at h2<;>simp_all
 ·cases h
def Al (h:natE b=some k):∃j p,b=.Constant (.int k) j p:=by
 cases b with
 |Constant c j p=>cases c with
  |int i=>cases i with
   |ofNat n=>cases h;exact⟨j,p,rfl⟩
   |negSucc n=>cases h
  |_=>cases h
 |_=>cases h
def wV {C:Cm}{e:Expr}{o:CmpOp}(h:mR C e=some (o,a,b)):∃pos,e=.Compare a [o] [b] pos:=by
 cases e with
 |Compare x os bs pos=>
  obtain⟨o',h1,h⟩:=bx0 (show (cG os).bind _=some (o,a,b) from h);obtain⟨b',h2,h⟩:=bx0 h;split at h
  ·cases h
   exact⟨pos,by rw[aS h1,aS h2]⟩
  ·cases h
 |_=>cases h
def iz {l:List α}{a b:α}(h:two l=some (a,b)):l=[a,b]:=by
 cases l with
 |nil=>cases h
 |cons x r=>
  cases r with
  |nil=>cases h
  |cons y r=>
   cases r with
   |nil=>cases h;rfl
   |_=>cases h
def bind1 (x q:Str)(an:Option Expr)(pp:Pos)(body:Expr)(scope:Scope)(cl:List (Str×Addr))(pm cdv ct u:Value):bindArgs (PySem.W.kla_fn "<lambda>" q ⟨[],[⟨x,an,pp⟩],Option.none,[],[],Option.none,[]⟩ body scope cl pm cdv ct) ⟨[u],[]⟩=pure [(x,u)]:=by
 have e:seqItems? Value.none=pure Option.none:=rfl;simp[bindArgs,e]
def wW {ps:Arguments}(h:jR ps=some x):∃an p,ps=⟨[],[⟨x,an,p⟩],Option.none,[],[],Option.none,[]⟩:=by
 unfold jR at h;split at h
 ·cases h;exact⟨_,_,rfl⟩
 ·cases h
set_option tactic.hygienic true
def wX {k:Keyword}{z:Str×Arguments×Expr×Scope}(h:wO k=some z):∃lp kp,k=⟨some "key",.Lambda z.2.1 z.2.2.1 z.2.2.2 lp,kp⟩/\jR z.2.1=some z.1:=by
 unfold wO at h;split at h
 ·split at h
  ·rename_i e
   obtain⟨x,h1,rfl⟩:=mx0 h;subst e;exact⟨_,_,rfl,h1⟩
  ·cases h
 ·cases h
def sT {k:Keyword}(h:oQ k=true):∃j p kp,k=⟨some "default",.Constant .none j p,kp⟩:=by
 unfold oQ at h;split at h
 ·obtain rfl:=od0 h
  exact⟨_,_,_,rfl⟩
 ·cases h
def Am {C:Cm}{f:Str}{ks:List Keyword}{z:Expr×Str×Arguments×Expr×Scope}(h:Ai C f as ks=some z):f="max"/\aq C.cs f=true/\isStar z.1=false/\as=[z.1]/\(z.2.2.2.2.isCoroutine=false/\z.2.2.2.2.isGenerator=false)/\jR z.2.2.1=some z.2.1/\
  ∃lp kp j p3 kp2,ks=[⟨some "key",.Lambda z.2.2.1 z.2.2.2.1 z.2.2.2.2 lp,kp⟩,⟨some "default",.Constant .none j p3,kp2⟩]:=by
 unfold Ai at h;split at h
 ·rename_i hf
  split at h
  ·rename_i hg
   obtain⟨a,h1,h⟩:=bx0 h;obtain⟨⟨k1,k2⟩,h2,h⟩:=bx0 h;obtain⟨z',h3,h⟩:=bx0 h;split at h
   ·rename_i q
    cases h;simp only[be0,Bool.not_eq_true'] at q;obtain⟨lp,kp,e1,e2⟩:=wX h3;obtain⟨j,p3,kp2,e3⟩:=sT q.1.1;have e1:k1=_:=e1;have e3:k2=_:=e3;exact⟨hf,hg,q.1.2,aS h1,q.2,e2,lp,kp,j,p3,kp2,by rw[iz h2,e1,e3]⟩
   ·cases h
  ·cases h
 ·cases h
def iT (h:gF d=some ns):d=.list (ns.map .int):=by
 cases d with
 |list ds=>rw[iJ (show eZ ds=some ns from h)]
 |_=>cases h
def wY {k:Int×Int}(h:mO d=some k):d=.tuple [.int k.1,.int k.2]:=by
 unfold mO at h;split at h
 ·cases h;rfl
 ·cases h
def wZ {z:Option (R×Ust)}{U:Ust}{n t:Int}(h:mP z U n=some t):z=some (.ok (.tuple [.int t,.int (-n)]),U):=by
 obtain⟨⟨r,U'⟩,e,h'⟩:=bx0 h;clear h;subst e;cases r with
 |exc _=>cases h'
 |ok d=>
  obtain⟨⟨t',m⟩,h1,h2⟩:=bx0 (show (mO d).bind _=some t from h');have h2:(if m = -n/\U'=U then some t' else Option.none)=some t:=h2;split at h2
  ·rename_i q
   cases h2;obtain⟨rfl,rfl⟩:=q;rw[wY h1]
  ·cases h2
def Eb {f:Int->Option Int}{o:D}(h:mxK f ns=some o):ns.length<64/\(∀n∈ns,∃t,f n=some t)/\o=cJ (mxI (wM f) ns):=by
 unfold mxK at h;split at h
 ·rename_i q
  cases h;exact⟨q.1,fun n hn=>is0 (List.all_eq_true.mp q.2 n hn),rfl⟩
 ·cases h
def xa {e:Expr}{q:Str×Expr}(h:fn1 e=some q):∃p pos,e=.Call (.Name q.1 p) [q.2] [] pos:=by
 unfold fn1 at h;split at h
 ·obtain⟨a,h1,rfl⟩:=mx0 h
  rw[aS h1];exact⟨_,_,rfl⟩
 ·cases h
def xf {e:Expr}{q:Expr×Expr}(h:wQ e=some q):∃p,e=.BinOp q.1 .BitAnd q.2 p:=by
 unfold wQ at h;split at h
 ·cases h;exact⟨_,rfl⟩
 ·cases h
def sU {C:Cm}{f:Str}{q:Expr×Expr}(h:kY C f as=some q):aq C.cs "sorted"=true/\aq C.cs "set"=true/\isStar q.1=false/\isStar q.2=false/\∀p pos,∃p2 p4 pos2 pos3 pos4,Expr.Call (.Name f p) as [] pos=Af q.1 q.2 p p2 p4 pos pos2 pos3 pos4:=by
 unfold kY at h;split at h
 ·rename_i hf
  obtain⟨e,h1,h⟩:=bx0 h;obtain⟨⟨u,v⟩,h2,h⟩:=bx0 h;obtain⟨⟨g,x⟩,h3,h⟩:=bx0 h;obtain⟨⟨g',y⟩,h4,h⟩:=bx0 h;split at h
  ·rename_i hq
   cases h;obtain⟨e1,e2,hq⟩:=hq;have e1:g=_:=e1;have e2:g'=_:=e2;subst e1;subst e2;subst hf;simp only[be0,Bool.not_eq_true'] at hq;obtain⟨p2,pos2,e3⟩:=xa h3;obtain⟨p4,pos3,e4⟩:=xa h4;obtain⟨pos4,e5⟩:=xf h2;have e3:u=_:=e3;have e4:v=_:=e4;refine⟨hq.1.1.1,hq.1.1.2,hq.1.2,hq.2,fun p pos=>⟨p2,p4,pos2,pos3,pos4,?_⟩⟩;rw[aS h1,e5,e3,e4];rfl
  ·cases h
 ·cases h
def xg {l:List Int}(hn:ns.Pairwise (·<·))(h1:l.Nodup)(h2:l.Pairwise (·≤·))(h3:∀y,y∈l↔y∈ns/\y∈ms):l=gG ns ms:=by
 have q:(gG ns ms).Pairwise (·<·):=List.Pairwise.filter _ hn;refine ((List.perm_ext_iff_of_nodup h1 (q.imp fun h=>Int.ne_of_lt h)).mpr fun y=>?_).eq_of_pairwise (le:=fun a b=>a≤b) (fun a b c c h1 h2=>Int.le_antisymm h1 h2) h2 (q.imp fun h=>Int.le_of_lt h);rw[h3 y];unfold gG;simp
def xh {e o:D}(h:qy ns e=some o):∃ms:List Int,e=.list (ms.map .int)/\ms.length<64/\o=.list ((gG ns ms).map .int):=by
 obtain⟨ms,h1,h⟩:=bx0 h;split at h
 ·rename_i hz;cases h;exact⟨ms,iT h1,hz,rfl⟩
 ·cases h
def Ec {C B:Cs}(c:CxC X C)(h:gL C sc (.Name x px)=some (B,nt,js))(s:Shared)(H:Hp):(∀(A:Around) (q:Str) (f c':Addr),CxC (kW X A q sc (aH X [x] js) f c' s H) B):=by
 have R:=fz c h;have N:=R.n;have bc:=(R.cx 0 s H []).nd;unfold gL at h;split at h
 ·rename_i qb
  obtain⟨js',h1,h2⟩:=mx0 h;injection h2 with h2 h3
  subst h2;unfold pV at qb;simp only[be0] at qb;obtain⟨⟨⟨⟨q1,q2⟩,q3⟩,q4⟩,q5⟩:=qb;refine fun A q f c'=>⟨N.symm,bc,fun y kd e ek=>?_,fun y kd e ek=>?_,fun y e=>?_,fun y e=>e,rfl,eq_of_beq q1⟩
  ·have e:sc.names.lookup y=some kd:=e
   rcases ek with rfl|rfl|rfl
   ·exact .inl e
   ·exact absurd rfl (R.ok.cell _ (ml0 e))
   ·exact .inr (.inr e)
  ·have e:sc.names.lookup y=some kd:=e
   rcases ek with rfl|rfl
   ·exact⟨.inl e,.inr e⟩
   ·exact absurd rfl (R.ok.cell _ (ml0 e))
  ·have e:sc.names.lookup y=some .cell:=e
   exact absurd rfl (R.ok.cell _ (ml0 e))
 ·cases h
def An {C B:Cs}(h:gL C sc (.Name x px)=some (B,nt,js)):sc.names.lookup x=some .local:=by
 unfold gL at h;split at h
 ·rename_i qb
  unfold pV at qb;simp only[be0] at qb;exact eq_of_beq (List.all_eq_true.mp qb.1.1.2 x (by simp[br]))
 ·cases h
def GM (ih:DZ Φ Ψ Γ k n){e:Expr}{M':M}(h:cM (n+1) C e=some M')(c:CxC X C.cs)(w:WzM X Φ Ψ Γ C k){U U':Ust}{r:R}(q:evM Φ Ψ Γ C.c ρ U M'=some (r,U')):EvM X C.c ρ U e r U':=by
 have pure_:∀M',(cE n C.cs e).map M.p=some M'->evM Φ Ψ Γ C.c ρ U M'=some (r,U')->EvM X C.c ρ U e r U':=fun M' h q=>by
  obtain⟨e',h1,rfl⟩:=mx0 h;obtain⟨d,q1,q2⟩:=mx0 (show (ev Φ Γ .val (ρ.map (vE C.c U)) e').map _=some (r,U') from q);cases q2;exact vK (((snd Φ Γ k n).E _ _ _ h1 X c w.w).1 _ d q1)
 cases e with
 |Call ef as ks pos=>
  cases ef with
  |Name f p=>
   cases ks with
   |cons kw kws=>
    have h:(match Ai C f as (kw::kws) with
     |some z=>C.lam.bind fun g=>(cM n C z.1).bind fun a=>(gL C.cs z.2.2.2.2 (.Name z.2.1 p)).bind fun b=>(cM n {C with cs:=b.1,lam:=Option.none} z.2.2.2.1).map fun k=>M.mx a b.2.2 k
     |Option.none=>(cE n C.cs (.Call (.Name f p) as (kw::kws) pos)).map M.p)=some M':=h
    split at h
    ·rename_i z hz
     obtain⟨a,x,ps,bd,sc⟩:=z;obtain⟨e1,e2,e3,e4,e5,e6,lp,kp,j,p3,kp2,e7⟩:=Am hz;obtain⟨⟨P,qn⟩,hl,h⟩:=bx0 h;obtain⟨a',h1,h⟩:=bx0 h;obtain⟨⟨B,nt,js⟩,h2,h⟩:=bx0 h;obtain⟨b',h3,rfl⟩:=mx0 h;clear h;subst e1;have e4:as=[a]:=e4;subst e4;rw[e7];obtain⟨l1,l2,l3,l4,l5,l6⟩:=w.lam P qn hl;obtain⟨z1,q1,q⟩:=bx0 (show (evM Φ Ψ Γ C.c ρ U a').bind _=some (r,U') from q);obtain⟨r1,U1⟩:=z1;have Aa:=ih.E _ _ _ h1 X c w ρ U _ _ q1;cases r1 with
     |exc x=>
      cases q;exact wK (aC c e2).1 (w.w.blt _ (by simp[bltNames])) Aa e3
     |ok dd=>
      obtain⟨ns,q2,q⟩:=bx0 (show (gF dd).bind _=some (r,U') from q);obtain⟨out,q3,q4⟩:=mx0 q;cases q4;obtain rfl:=iT q2;obtain⟨k1,k2,rfl⟩:=Eb q3;have Bk:=fz c h2;obtain⟨an,pp,hps⟩:=wW (show jR ps=some x from e6);subst hps;have room:Room k (X.A.in1.deeper (default:Env)):=⟨w.w.room.hd,by show X.A.depth+1+3*k+5<_;omega,by show X.A.units+1+3+16*k+200<_;omega⟩;refine wJ ⟨l1,rfl,Bk.ok,l2,l3,l4,fun g g g g g=>bind1 _ _ _ _ _ _ _ _ _ _ _,An h2,e5.1,e5.2⟩ c.calm w.w.room.units (by show X.A.depth<_;omega) (aC c e2).1 (w.w.blt _ (by simp[bltNames])) Aa e3 k1 (fun m hm s H f c'=>?_)
      obtain⟨t,ht⟩:=k2 m hm;have kk:=wZ ht;have:=ih.E _ _ _ h3 (kW X X.A.in1 qn sc (aH X [x] js) f c' s H) (Ec c h2 _ _ _ _ _ _) ⟨⟨w.w.blt,fun y hy=>w.w.fns y (by rw[←Bk.same.1];exact hy),w.w.gl,⟨room.hd,room.dp,room.un⟩,fun c hc=>w.w.vc c (by rw[←Bk.same.2.2.1];exact hc),fun t c tab ht=>w.w.xc t c tab (by rw[←Bk.same.2.2.2];exact ht)⟩,w.fm,w.vm,w.fv,w.nw,fun g g z=>by cases z⟩ _ _ _ _ kk;have e9:wM (fun n=>mP (evM Φ Ψ Γ C.c ((SI.blk 1 js ρ).set 0 (.dat (.int n))) U1 b') U1 n) m=(t,-m):=by
       show ((mP _ U1 m).getD 0,-m)=_;rw[ht];rfl
      rw[e9];exact this
    ·exact pure_ M' h q
   |nil=>
    have h:(if aq C.cs f&&C.mfs.contains f&&!as.isEmpty then (cMs n C as).map fun as'=>M.call f as'
     else if C.fvs.contains f then (if as.isEmpty then Option.none else (aY C.cs f).bind fun i=>(cMs n C as).map fun as'=>M.callv i as')
     else if f=C.vn then (if aq C.cs f&&as.isEmpty then some M.new else Option.none)
     else (match kY C f as with
      |some q=>(cM n C q.1).bind fun a=>(cM n C q.2).map fun b=>M.sand a b
      |Option.none=>(cE n C.cs (.Call (.Name f p) as [] pos)).map M.p))=some M':=h
    split at h
    ·rename_i hq
     simp only[be0,Bool.not_eq_true'] at hq;obtain⟨as',h1,rfl⟩:=mx0 h;obtain⟨S1,S2⟩:=ih.A _ _ _ h1 X c w;obtain⟨φ,q1,q2⟩:=bx0 (show (Ψ f).bind _=some (r,U') from q);obtain⟨⟨rs,U1⟩,q3,q4⟩:=bx0 q2;obtain⟨⟨U2,r2⟩,q5,q6⟩:=mx0 q4;cases q6;cases as with
     |nil=>cases hq.2
     |cons e es=>exact vQ (w.fm f hq.1.2 φ q1) w.w.room (aC c hq.1.1).1 (aC c hq.1.1).2.2 (S2 _ ρ U rs U1 q3) q5 S1
    split at h
    ·split at h
     ·cases h
     ·rename_i hne
      obtain⟨i,as',h1,h2,rfl⟩:=aL h;obtain⟨S1,S2⟩:=ih.A _ _ _ h2 X c w;obtain⟨y,q0,q⟩:=bx0 (show (fnOf Γ ρ[i]?).bind _=some (r,U') from q);obtain⟨φ,q1,q2⟩:=bx0 q;obtain⟨⟨rs,U1⟩,q3,q4⟩:=bx0 q2;obtain⟨⟨U2,r2⟩,q5,q6⟩:=mx0 q4;cases q6;obtain⟨fa,g1,g2⟩:=Ak q0;obtain⟨u,v,m1,m2,m3⟩:=w.w.gl y _ g2;cases m3 (fun g=>Option.none);obtain rfl:u=Value.ref fa:=m2;cases as with
      |nil=>exact absurd rfl hne
      |cons e es=>exact sM (w.fm y (w.fv y fa g2) φ q1) m1 (bB c h1) g1 w.w.room (S2 _ ρ U rs U1 q3) q5 S1
    split at h
    ·rename_i hv
     split at h
     ·rename_i hq
      rw[be0] at hq;cases h;cases as with
      |nil=>
       cases q;subst hv;exact w.nw X rfl rfl rfl rfl rfl w.w.room (aC c hq.1).1 ρ U p pos
      |cons _ _=>cases hq.2
     ·cases h
    split at h
    ·rename_i z hz
     obtain⟨g1,g2,g3,g4,g5⟩:=sU hz;obtain⟨p2,p4,pos2,pos3,pos4,g5⟩:=g5 p pos;rw[g5];obtain⟨a',b',h1,h2,rfl⟩:=aL h;have B1:=bC c w.w g1 (by simp[bltNames]);have B2:=bC c w.w g2 (by simp[bltNames]);obtain⟨⟨r1,U1⟩,q1,q2⟩:=bx0 (show (evM Φ Ψ Γ C.c ρ U a').bind _=some (r,U') from q);have A:=ih.E _ _ _ h1 X c w ρ U r1 U1 q1;cases r1 with
     |exc x=>cases q2;exact sP c.calm B1 B2 A g3 g4
     |ok d=>
      obtain⟨ns,q3,q4⟩:=bx0 (show (gF d).bind _=some (r,U') from q2);obtain rfl:=iT q3;split at q4
      ·rename_i hz
       obtain⟨⟨r2,U2⟩,q5,q6⟩:=bx0 (show (evM Φ Ψ Γ C.c ρ U1 b').bind _=some (r,U') from q4);have B:=ih.E _ _ _ h2 X c w ρ U1 r2 U2 q5;cases r2 with
       |exc x=>cases q6;exact sQ c.calm B1 B2 A g3 hz.1 B g4
       |ok e=>
        obtain⟨o,q7,q8⟩:=mx0 (show (qy ns e).map _=some (r,U') from q6);cases q8;obtain⟨ms,rfl,hz2,rfl⟩:=xh q7;exact Ag c.calm B1 B2 A g3 hz.1 B g4 hz2 fun l=>xg hz.2
      ·cases q4
    ·exact pure_ M' h q
  |Attribute o m apos=>
   cases o with
   |Name x p=>
    cases ks with
    |cons _ _=>exact pure_ M' h q
    |nil=>
     have h:(if C.mms.contains m then (if (apos.endLine==pos.line)&&!as.isEmpty&&decide (as.length≤20) then (aY C.cs x).bind fun i=>(cMs n C as).map fun as'=>M.meth m i as' else Option.none) else (cE n C.cs (.Call (.Attribute (.Name x p) m apos) as [] pos)).map M.p)=some M':=h;split at h
     ·rename_i hm
      split at h
      ·rename_i hq
       simp only[be0,Bool.not_eq_true',decide_eq_true_eq] at hq;obtain⟨i,as',h1,h2,rfl⟩:=aL h;obtain⟨S1,S2⟩:=ih.A _ _ _ h2 X c w;have V:=bB c h1;obtain⟨φ,q1,q2⟩:=bx0 (show (Ψ (aE m)).bind _=some (r,U') from q);obtain⟨hh,q3,q4⟩:=bx0 q2;obtain⟨⟨rs,U1⟩,q5,q6⟩:=bx0 q4;cases rs with
       |exc _=>cases q6
       |ok ds=>
        obtain⟨⟨U2,r2⟩,q7,q8⟩:=mx0 (show (φ.run U1 (.hdl hh::ds)).map _=some (r,U') from q6);cases q8;obtain⟨F,f1,f2⟩:=w.vm m hm φ q1;have hslot:=mS q3;cases as with
        |nil=>cases hq.1.2
        |cons e es=>exact vR F f1 f2 w.w.room (kQ i hslot V.at' V.vis V.d V.cd) (S2 _ ρ U _ U1 q5) q7 S1 (si rfl S1 hq.2 hq.1.1)
      ·cases h
     ·exact pure_ M' h q
   |_=>exact pure_ M' h q
  |_=>exact pure_ M' h q
 |Subscript a b pos=>
  have h:(match GK (.Subscript a b pos) with
   |some z=>if kX C z.1 then (cM n C z.1).map (M.ix z.2) else (cE n C.cs (.Subscript a b pos)).map M.p
   |Option.none=>(cE n C.cs (.Subscript a b pos)).map M.p)=some M':=h
  split at h
  ·rename_i z hz
   split at h
   ·obtain⟨a',h1,e1⟩:=mx0 h
    subst e1;obtain⟨k,h0,e2⟩:=mx0 (show (natE b).map _=some z from hz);subst e2;obtain⟨j,p,rfl⟩:=Al h0;obtain⟨⟨r1,U1⟩,q1,q2⟩:=bx0 (show (evM Φ Ψ Γ C.c ρ U a').bind _=some (r,U') from q);have A:=ih.E _ _ _ h1 X c w ρ U r1 U1 q1;cases r1 with
    |exc x=>cases q2;exact zT A
    |ok d=>
     obtain⟨d',q3,q4⟩:=mx0 (show (tupK k d).map _=some (r,U') from q2);cases d with
     |tuple ds=>cases q4;exact DQ A q3
     |_=>cases q3
   ·exact pure_ M' h q
  ·exact pure_ M' h q
 |Name x p=>
  have h:(if C.vrs.contains x then (aY C.cs x).map M.hv else (cE n C.cs (.Name x p)).map M.p)=some M':=h;split at h
  ·obtain⟨i,h1,rfl⟩:=mx0 h
   have V:=bB c h1;obtain⟨hh,q1,q2⟩:=mx0 (show (jQ ρ[i]?).map _=some (r,U') from q);cases q2;exact kQ i (mS q1) V.at' V.vis V.d V.cd
  ·exact pure_ M' h q
 |Tuple es ek pos=>
  have h:(if es.any (kX C) then (cMs n C es).map M.tup else (cE n C.cs (.Tuple es ek pos)).map M.p)=some M':=h;split at h
  ·obtain⟨as',h1,rfl⟩:=mx0 h
   obtain⟨S1,S2⟩:=ih.A _ _ _ h1 X c w;obtain⟨⟨rs,U1⟩,q1,q2⟩:=bx0 (show (gN Φ Ψ Γ C.c [] ρ U as').bind DW=some (r,U') from q);cases rs with
   |exc x=>exact nomatch (show (Option.none:Option (R×Ust))=some (r,U') from q2)
   |ok ds=>
    have q2:(if ds.length≤1000 then some (R.ok (.tuple ds),U1) else Option.none)=some (r,U'):=q2;split at q2
    ·rename_i hz;cases q2;exact evM_tup (S2 _ ρ U _ _ q1) hz
    ·cases q2
  ·exact pure_ M' h q
 |_=>exact pure_ M' h q
def Ed (ih:DZ Φ Ψ Γ k n){as:Ms}(h:cMs (n+1) C es=some as)(c:CxC X C.cs)(w:WzM X Φ Ψ Γ C k):aB es/\∀fl ρ U rs U',gN Φ Ψ Γ C.c fl ρ U as=some (rs,U')->EaM X C.c ρ U fl es rs U':=by
 cases es with
 |nil=>cases h;exact⟨(fun b z=>by cases z),(fun fl ρ U rs U' q=>by cases q;exact zM)⟩
 |cons e r=>
  have h:(if isStar e then Option.none else match oU C.cs e with
   |some i=>(cMs n C r).map fun r'=>Ms.va i r'
   |Option.none=>(cM n C e).bind fun a=>(cMs n C r).map fun r'=>Ms.ex a r')=some as:=h
  split at h
  ·cases h
  ·rename_i hs
   have hs:=bf0 hs;split at h
   ·rename_i i hi
    obtain⟨r',h1,rfl⟩:=mx0 h;obtain⟨S1,S2⟩:=ih.A _ _ _ h1 X c w;refine⟨fun x hx=>(mq0 hx).elim (fun z=>z▸hs) (S1 x),fun fl ρ U rs U' q=>?_⟩;obtain⟨d,q1,q2⟩:=bx0 (show (wL (fl.headD false) ρ[i]?).bind _=some (rs,U') from q);obtain⟨⟨rs1,U1⟩,q3,q4⟩:=mx0 q2;cases q4;obtain⟨x,p,rfl,hi⟩:=sS hi;exact DY (bB c hi) q1 (S2 _ ρ U rs1 _ q3)
   ·obtain⟨a,r',h1,h2,rfl⟩:=aL h
    obtain⟨S1,S2⟩:=ih.A _ _ _ h2 X c w;refine⟨fun x hx=>(mq0 hx).elim (fun z=>z▸hs) (S1 x),fun fl ρ U rs U' q=>?_⟩;obtain⟨⟨r1,U1⟩,q1,q2⟩:=bx0 (show (evM Φ Ψ Γ C.c ρ U a).bind _=some (rs,U') from q);have A:=ih.E _ _ _ h1 X c w ρ U r1 U1 q1;cases r1 with
    |ok d=>
     obtain⟨⟨rs1,U2⟩,q3,q4⟩:=mx0 (show (gN Φ Ψ Γ C.c fl.tail ρ U1 r').map _=some (rs,U') from q2);cases q4;exact jS A (S2 _ ρ U1 rs1 _ q3) hs
    |exc x=>cases q2;exact sx A hs
theorem Ef (Φ:Fs)(Ψ:FsM)(Γ:List (Str×D))(k:Nat):∀n,DZ Φ Ψ Γ k n
 |0=>⟨fun a a a h=>nn h,fun a a a h=>nn h⟩
 |n+1=>⟨fun C e M' h X c w ρ U r U' q=>GM (Ef Φ Ψ Γ k n) h c w q,fun C es as h X c w=>Ed (Ef Φ Ψ Γ k n) h c w⟩
def xi {s:Stmt}{q:List Expr×Expr}(h:Bv s=some q):∃p,s=.Assign q.1 q.2 p:=by
 cases s with
 |Assign=>cases h;exact⟨_,rfl⟩
 |_=>cases h
def xj {s:ExceptHandler}{q:Expr×Str×List Stmt}(h:Bu s=some q):∃p,s=.ExceptHandler (some q.1) (some q.2.1) q.2.2 p:=by
 cases s with
 |ExceptHandler t n b p=>cases t with
  |none=>cases h
  |some t=>cases n with
   |none=>cases h
   |some n=>cases h;exact⟨_,rfl⟩
def xl {hs:List ExceptHandler}{nm k:Str}(h:wU hs=some (x,nm,k)):∃tp kp np ap hp,hs=[.ExceptHandler (some (.Name x tp)) (some nm) [.Assign [.Name k kp] (.Name nm np) ap] hp]:=by
 obtain⟨h0,a1,h⟩:=bx0 h;obtain⟨⟨t,n,b⟩,a2,h⟩:=bx0 h;obtain⟨x',a3,h⟩:=bx0 h;obtain⟨s,a4,h⟩:=bx0 h;obtain⟨⟨ts,v⟩,a5,h⟩:=bx0 h;obtain⟨t',a6,h⟩:=bx0 h;obtain⟨k',a7,h⟩:=bx0 h;obtain⟨n',a8,h⟩:=bx0 h;have h:(if n'=n then some (x',n,k') else Option.none)=some (x,nm,k):=h;split at h
 ·rename_i e
  cases h;subst e;obtain rfl:=aS a1;obtain⟨p1,rfl⟩:=cf a3;obtain rfl:=aS a4;obtain rfl:=aS a6;obtain⟨p2,rfl⟩:=cf a7;obtain⟨p3,rfl⟩:=cf a8;obtain⟨p4,rfl⟩:=xi a5;obtain⟨p5,rfl⟩:=xj a2;exact⟨_,_,_,_,_,rfl⟩
 ·cases h
def oV {e f:Option Expr}(h:raiseOf e f=some (x,as)):∃np cpos,e=some (.Call (.Name x np) as [] cpos)/\f=Option.none:=by
 cases e with
 |none=>cases h
 |some e=>cases f with
  |some f=>cases e with
   |Call g as' ks p=>cases ks<;>cases h
   |_=>cases h
  |none=>cases e with
   |Call g as' ks p=>cases ks with
    |cons _ _=>cases h
    |nil=>
     obtain⟨x',a1,a2⟩:=mx0 (h);cases a2;obtain⟨p1,rfl⟩:=cf a1;exact⟨_,_,rfl,rfl⟩
   |_=>cases h
structure Bw (Φ:Fs)(Ψ:FsM)(Γ:List (Str×D))(k n:Nat):Prop where
 S:∀C st S',cSM n C st=some S'->∀X,CxC X C.cs->WzT X Φ Ψ Γ C k->PassesOwn (model X.prog X.w) X.A X.env X.xe->∀ρ U o U',exM Φ Ψ Γ C.c ρ U S'=some (o,U')->S1M X C.c ρ U st o U'
 Ss:∀C sts S',cK n C sts=some S'->∀X,CxC X C.cs->WzT X Φ Ψ Γ C k->PassesOwn (model X.prog X.w) X.A X.env X.xe->∀ρ U o U',ba Φ Ψ Γ C.c ρ U S'=some (o,U')->SsM X C.c ρ U sts o U'
def xm {C:Cs}{v:Expr}{m:Str}{bl:Bool}(h:wR C v=some (i,m,a,bl)):∃x px apos cpos,v=.Call (.Attribute (.Name x px) m apos) [a] [] cpos/\aY C x=some i/\bl=(apos.endLine==cpos.line):=by
 obtain⟨⟨x,p,m,apos,as,cpos⟩,e1,h⟩:=bx0 h;obtain⟨b,e2,h⟩:=bx0 h;obtain⟨j,h1,h2⟩:=bx0 h;obtain rfl:=ur e1;obtain rfl:as=[b]:=aS e2;split at h2
 ·cases h2;exact⟨_,_,_,_,rfl,h1,rfl⟩
 ·cases h2
def Ao (h:oP d=some ds):d=.list ds:=by
 cases d with
 |list=>cases h;rfl
 |_=>cases h
def Ap {s:Option Sl}(h:wN s=some ds):s=some (.own (.list ds)):=by
 unfold wN at h;split at h<;>simp_all
def xo {C:Cm}{v:Expr}{q:Str×List Expr}(h:newOf C v=some q):C.nws.contains q.1=true/\aq C.cs q.1=true/\∃p e es pos,q.2=e::es/\v=.Call (.Name q.1 p) (e::es) [] pos:=by
 unfold newOf at h;split at h
 ·split at h
  ·rename_i as _ z
   cases h;rw[be0,be0] at z;cases as with
   |nil=>cases z.2
   |cons e es=>exact⟨z.1.1,z.1.2,_,e,es,_,rfl,rfl⟩
  ·cases h
 ·cases h
def step_newc (c:CxC X C.cs)(w:WzT X Φ Ψ Γ C k){v:Expr}{z:Str×List Expr}{o:OM}{U U':Ust}{S':SM}(hj:dB C.cs y=some j)(hz:newOf C v=some z)(h:((cEs n C.cs z.2).map fun as=>SM.newc j z.1 as)=some S')(q:exM Φ Ψ Γ C.c ρ U S'=some (o,U')):S1M X C.c ρ U (.Assign [.Name y py] v pos) o U':=by
 obtain⟨n1,n2,p,e,es,cpos,n3,rfl⟩:=xo hz;obtain⟨as,h1,rfl⟩:=mx0 h;rw[n3] at h1;obtain⟨S1,S2,S3⟩:=(snd Φ Γ k n).Es _ _ _ h1 X c w.m.w;obtain⟨φ,q1,q⟩:=bx0 (show (Φ z.1).bind _=some (o,U') from q);obtain⟨ds,q2,q⟩:=bx0 q;obtain⟨r,q3,q⟩:=bx0 q;cases r with
 |list ls=>
  have q:(if (ρ.all bD&&(ρ.set j (.own (.list ls))).all ar)=true then some (OM.nx (ρ.set j (.own (.list ls))),U) else Option.none)=some (o,U'):=q;split at q
  ·rename_i hq
   cases q;rw[be0] at hq;have hD:∀(j:Nat) rows,ρ[j]?≠some (.deep rows):=fun j d h=>by have:=List.all_eq_true.mp hq.1 _ (mg0 h);cases this
   exact s1M_pureS (oC (fR c hj) hD (zX (w.nl z.1 n1 φ q1) w.m.w.room (aC c n2).1 (aC c n2).2.2 (S2 φ.lent _ ds q2) q3 S1) rfl) fun sl hs=>List.all_eq_true.mp hq.2 sl hs
  ·cases q
 |_=>exact nomatch (show (Option.none:Option (OM×Ust))=some (o,U') from q)
def Eg (ih:Bw Φ Ψ Γ k n){S':SM}{o:OM}{U U':Ust}(h:cSM (n+1) C st=some S')(c:CxC X C.cs)(w:WzT X Φ Ψ Γ C k)(po:PassesOwn (model X.prog X.w) X.A X.env X.xe)(q:exM Φ Ψ Γ C.c ρ U S'=some (o,U')):S1M X C.c ρ U st o U':=by
 have ee:=Ef Φ Ψ Γ k n;have pp:=snd Φ Γ k n;have pureS:∀{S':SM},(cS n C.cs st).map SM.pure=some S'->exM Φ Ψ Γ C.c ρ U S'=some (o,U')->S1M X C.c ρ U st o U':=fun {S'} h q=>by
  obtain⟨s',h1,rfl⟩:=mx0 h;obtain⟨o1,q1,q2⟩:=bx0 (show (ex Φ Γ ρ s').bind _=some (o,U') from q);have A:=(vG Φ Γ k n).S _ _ _ h1 X c w.m.w po ρ o1 q1;cases o1 with
  |rt d=>exact nomatch (show (Option.none:Option (OM×Ust))=some (o,U') from q2)
  |nx ρ1=>
   have q2:(if ρ1.all ar then some (OM.nx ρ1,U) else Option.none)=some (o,U'):=q2;split at q2
   ·rename_i hl;cases q2;exact s1M_pureS A fun sl hs=>List.all_eq_true.mp hl sl hs
   ·cases q2
 cases st with
 |Assign ts v pos=>
  cases ts with
  |nil=>exact nn h
  |cons t r=>
   cases r with
   |cons _ _=>cases t<;>exact nn h
   |nil=>
    cases t with
    |Name y py=>
     have h:((dB C.cs y).bind fun j=>if C.cs.mts.contains j||GL C.cs v then (match newOf C v with|some q=>(cEs n C.cs q.2).map fun as=>SM.newc j q.1 as|Option.none=>(cS n C.cs (.Assign [.Name y py] v pos)).map SM.pure) else if dG v then (cS n C.cs (.Assign [.Name y py] v pos)).map SM.pure else (cM n C v).map fun e=>SM.set j e)=some S':=h;obtain⟨j,h1,h⟩:=bx0 h;split at h
     ·split at h
      ·rename_i z hz;exact step_newc c w h1 hz h q
      ·exact pureS h q
     split at h
     ·exact pureS h q
     ·rename_i hc
      obtain⟨e,h2,rfl⟩:=mx0 h;have S:=fR c h1;obtain⟨⟨r,U1⟩,q1,q2⟩:=mx0 (show (evM Φ Ψ Γ C.c ρ U e).map _=some (o,U') from q);have A:=ee.E _ _ _ h2 X c w.m ρ U r U1 q1;cases q2;cases r with
      |ok d=>exact zO S A (cW (bf0 hc))
      |exc x=>exact vS S A (cW (bf0 hc))
    |Subscript=>exact pureS h q
    |_=>exact nn h
 |Expr v pos=>
  have h:(match wR C.cs v with
   |some z=>if z.2.1=("extend":Str)&&kX C z.2.2.1 then (if z.2.2.2&&!isStar z.2.2.1 then (cM n C z.2.2.1).map fun e=>SM.ext z.1 e else Option.none) else (cS n C.cs (.Expr v pos)).map SM.pure
   |Option.none=>if dG v then Option.none else (cM n C v).map SM.expr)=some S':=h
  split at h
  ·rename_i z hz
   split at h
   ·rename_i hm
    rw[be0] at hm;split at h
    ·rename_i hq
     rw[be0,Bool.not_eq_true'] at hq;obtain⟨e,h2,rfl⟩:=mx0 h;obtain⟨i,m,a,bl⟩:=z;obtain⟨x,px,apos,cpos,e1,e2,e3⟩:=xm hz;have hm1:m="extend":=od0 hm.1;subst e1 e3 hm1;obtain⟨z1,q1,q⟩:=bx0 (show (evM Φ Ψ Γ C.c ρ U e).bind _=some (o,U') from q);obtain⟨r1,U1⟩:=z1;have A:=ee.E _ _ _ h2 X c w.m ρ U _ _ q1;cases r1 with
     |exc x=>
      obtain⟨ls,q2,q3⟩:=mx0 (show (wN ρ[i]?).map _=some (o,U') from q);cases q3;exact wz (bB c e2) A hq.2 (Ap q2) hq.1
     |ok d=>
      obtain⟨ds,q2,q⟩:=bx0 (show (oP d).bind _=some (o,U') from q);obtain rfl:=Ao q2;have q:Ah ρ[i]? ds (fun d=>(OM.nx (ρ.set i (.own d)),U1))=some (o,U'):=q;unfold Ah at q;split at q
      ·rename_i es ho
       split at q
       ·rename_i hl
        cases q;exact zU (bB c e2) A hq.2 ho (by rw[←big_eq];exact hl) hq.1
       ·cases q
      ·cases q
    ·cases h
   ·exact pureS h q
  split at h
  ·cases h
  ·rename_i hc
   obtain⟨e,h2,rfl⟩:=mx0 h;obtain⟨⟨r,U1⟩,q1,q2⟩:=mx0 (show (evM Φ Ψ Γ C.c ρ U e).map _=some (o,U') from q);have A:=ee.E _ _ _ h2 X c w.m ρ U r U1 q1;cases q2;cases r with
   |ok d=>exact vT A (cW (bf0 hc))
   |exc x=>exact sE A (cW (bf0 hc))
 |Return v pos=>
  cases v with
  |none=>exact nn h
  |some e=>
   obtain⟨e',h2,rfl⟩:=mx0 (show (cM n C e).map SM.ret=some S' from h);obtain⟨⟨r,U1⟩,q1,q2⟩:=mx0 (show (evM Φ Ψ Γ C.c (ρ.map freeze) U e').map _=some (o,U') from q);have A:=ee.E _ _ _ h2 X c w.m (ρ.map freeze) U r U1 q1;cases q2;cases r with
   |ok d=>exact zP A
   |exc x=>exact vU A
 |If t a b pos=>
  have h:(if (mR C t).isSome then (mR C t).bind fun q=>(kA q.1).bind fun o=>if isSet q.2.2 then Option.none else (cM n C q.2.1).bind fun x=>(cE n C.cs q.2.2).bind fun y=>(cK n C a).bind fun a'=>(cK n C b).map fun b'=>SM.ifm o x y a' b' else  (cE n C.cs t).bind fun t'=>(cK n C a).bind fun a'=>(cK n C b).map fun b'=>SM.ifs t' a' b')=some S':=h;split at h
  ·obtain⟨⟨op,ca,cb⟩,hz,h⟩:=bx0 h
   obtain⟨cop,h0,h⟩:=bx0 h;split at h
   ·cases h
   ·rename_i hset
    obtain⟨x',h1,h⟩:=bx0 h;obtain⟨y',h2,h⟩:=bx0 h;obtain⟨a',b',h3,h4,rfl⟩:=aL h;obtain⟨pos',rfl⟩:=wV hz;obtain⟨⟨r1,U1⟩,q1,q2⟩:=bx0 (show (evM Φ Ψ Γ C.c ρ U x').bind _=some (o,U') from q);have A:=ee.E _ _ _ h1 X c w.m ρ U r1 U1 q1;have mk:=fq (op:=op) (bf0 hset);cases r1 with
    |exc x=>cases q2;exact zQ (wy A mk)
    |ok d=>
     obtain⟨e',q3,q4⟩:=bx0 (show (ev Φ Γ .read (ρ.map (vE C.c U1)) y').bind _=some (o,U') from q2);obtain⟨t,q5,q6⟩:=bx0 q4;obtain⟨r2,o1,o2⟩:=iA w.m.w.room.units h0 q5;have T:=zV (pos:=pos') o1 A ((pp.E _ _ _ h2 X c w.m.w).2.1 _ _ q3) o2 mk;cases t with
     |true=>exact qm T (ih.Ss _ _ _ h3 X c w po ρ U1 o U' q6)
     |false=>exact qo T (ih.Ss _ _ _ h4 X c w po ρ U1 o U' q6)
  obtain⟨t',h1,h⟩:=bx0 h;obtain⟨a',b',h2,h3,rfl⟩:=aL h;obtain⟨d,q1,q2⟩:=bx0 (show (ev Φ Γ .test (ρ.map (vE C.c U)) t').bind _=some (o,U') from q);obtain⟨bb,q3,q4⟩:=bx0 q2;obtain⟨t2,rfl,ht⟩:=(pp.E _ _ _ h1 X c w.m.w).2.2.2.1 _ d q1;cases q3;cases bb with
  |true=>exact qm (etM_pure ht) (ih.Ss _ _ _ h2 X c w po ρ U o U' q4)
  |false=>exact qo (etM_pure ht) (ih.Ss _ _ _ h3 X c w po ρ U o U' q4)
 |For tg iter body orelse pos=>
  cases orelse with
  |cons _ _=>exact nn h
  |nil=>
   have h:((cTg C.cs tg).bind fun t=>if kX C iter then (cM n C iter).bind fun src=>(cK n C body).map fun b=>SM.form t src b else (cI n C.cs iter).bind fun src=>(cK n C body).map fun b=>SM.fors t src b)=some S':=h;obtain⟨t,h1,h⟩:=bx0 h;split at h
   ·rename_i hm
    obtain⟨src,b,h2,h3,rfl⟩:=aL h;obtain⟨⟨r1,U1⟩,q1,q2⟩:=bx0 (show (evM Φ Ψ Γ C.c ρ U src).bind _=some (o,U') from q);have A:=ee.E _ _ _ h2 X c w.m ρ U r1 U1 q1;have hset:isSet iter=false:=by cases iter<;>first|rfl|cases hm
    cases r1 with
    |exc x=>cases q2;exact wu A c.calm po (dh hset)
    |ok d=>
     obtain⟨ds,q3,q4⟩:=bx0 (show (oP d).bind _=some (o,U') from q2);cases d with
     |list ls=>
      cases q3;exact qr (wq A) (vW c h1) (fun ρ' U1 o' U2 q'=>ih.Ss _ _ _ h3 X c w po ρ' U1 o' U2 q') q4 c.calm po (dh hset)
     |_=>cases q3
   obtain⟨src,b,h2,h3,rfl⟩:=aL h;obtain⟨ds,q1,q2⟩:=bx0 (show (evI Φ Γ .walk ρ src).bind _=some (o,U') from q);obtain⟨S1,S2,S3⟩:=pp.I _ _ _ h2 X c w.m.w;exact qr (vX (S1 ρ ds q1)) (vW c h1) (fun ρ' U1 o' U2 q'=>ih.Ss _ _ _ h3 X c w po ρ' U1 o' U2 q') q2 c.calm po (dh S3)
 |Raise e f pos=>
  have h:((raiseOf e f).bind fun q=>if aq C.cs q.1&&!q.2.isEmpty then (C.xks.lookup q.1).bind fun x=>(cMs n C q.2).map fun as=>SM.raise x as else Option.none)=some S':=h;obtain⟨⟨x,as⟩,h1,hh⟩:=bx0 h;obtain⟨np,cpos,e1,e2⟩:=oV h1;subst e1 e2;clear h;have h:=hh;clear hh;split at h
  ·rename_i hq
   rw[be0] at hq;obtain⟨xc,as',h2,h3,rfl⟩:=aL h;obtain⟨S1,S2⟩:=ee.A _ _ _ h3 X c w.m;obtain⟨⟨rs,U1⟩,q1,q2⟩:=bx0 (show (gN Φ Ψ Γ C.c [] ρ U as').bind _=some (o,U') from q);have A:=S2 _ ρ U rs U1 q1;cases rs with
   |exc _=>cases q2
   |ok ds=>
    have q2:(if ds.length≤1000 then some (OM.exc xc ρ,U1) else Option.none)=some (o,U'):=q2;split at q2
    ·rename_i hl
     cases q2;cases as with
     |nil=>cases hq.2
     |cons e es=>exact sF (w.xk x xc h2) (aC c hq.1).1 (aC c hq.1).2.2 c.calm A hl S1
    ·cases q2
  ·cases h
 |Try body hs orelse fin pos=>
  cases orelse with
  |cons _ _=>exact nn h
  |nil=>
   cases fin with
   |cons _ _=>exact nn h
   |nil=>
    have h:((wU hs).bind fun q=>if aq C.cs q.1&&ai C.cs q.2.1 .local&&(bx q.2.1&&!(q.1==("ValueError":Str))) then (C.cs.xcs.lookup q.1).bind fun z=>(dB C.cs q.2.1).bind fun j=>(dB C.cs q.2.2).bind fun i=>if i=j then Option.none else (cK n C body).map fun b=>SM.try1 z.2 i j b else Option.none)=some S':=h;obtain⟨⟨x,nm,kk⟩,h1,hh⟩:=bx0 h;obtain⟨tp,kp,np,ap,hp,e1⟩:=xl h1;subst e1;clear h;have h:=hh;clear hh;split at h
    ·rename_i hq
     simp only[be0] at hq;obtain⟨⟨ct,tab⟩,h2,h⟩:=bx0 h;obtain⟨j,h3,h⟩:=bx0 h;obtain⟨i,h4,h⟩:=bx0 h;split at h
     ·cases h
     ·rename_i hij
      obtain⟨b,h5,rfl⟩:=mx0 h;obtain⟨⟨o1,U1⟩,q1,q2⟩:=bx0 (show (ba Φ Ψ Γ C.c ρ U b).bind _=some (o,U') from q);have B:∀E pn,PassesOwn (model X.prog X.w) X.A X.env E->SsM (tri X E pn) C.c ρ U body o1 U1:=fun E pn po'=>ih.Ss _ _ _ h5 (tri X E pn) c.tri w.tri po' ρ U o1 U1 q1
      have hpl:=hq.2.1;unfold bx at hpl;rw[be0,be0] at hpl;have hX:X.mg x=some (.ref ct):=(w.m.w.xc x ct tab h2).nm.elim id fun z=>by have:=hq.2.2;rw[z.1] at this;simp at this
      cases o1 with
      |nx ρ1=>cases q2;exact mG B (fun g g z=>by cases z)
      |rt d=>cases q2;exact mG B (fun g g z=>by cases z)
      |exc xc ρ1=>
       have q2:(if tab.lookup xc=some true then some (OM.nx ((ρ1.set i (.dat (.exc xc))).set j .no),U1) else Option.none)=some (o,U'):=q2;split at q2
       ·rename_i ht
        cases q2;obtain⟨newId,newIdT,t1,t2,t3⟩:=w.tr x ct tab (fun z=>by have:=hq.2.2;rw[z] at this;simp at this) h2 xc ht;exact wm w.fc B (aC c hq.1.1).1 (aC c hq.1.1).2.2 hX t1 t2 (by decide) t3 (fR c h3) (w.lcl nm (eq_of_beq hq.1.2)) (by simpa using hpl.1.1) (by simpa using hpl.1.2) (fR c h4) hij rfl
       ·cases q2
    ·cases h
 |While wt wb wo pos=>
  cases wo with
  |cons _ _=>exact nn h
  |nil=>
   obtain⟨t',b',h1,h2,rfl⟩:=aL (show ((cE n C.cs wt).bind fun t'=>(cK n C wb).map fun b=>SM.whl t' b)=some S' from h);exact sL (fun ρ' U' d' z=>(pp.E _ _ _ h1 X c w.m.w).2.2.2.1 _ d' z) (fun ρ' U' o' U2 z=>ih.Ss _ _ _ h2 X c w po ρ' U' o' U2 z) 100000 (show eQ _ _ 100000 ρ U=some (o,U') from q) po
 |_=>exact nn h
set_option tactic.hygienic false
theorem By (Φ:Fs)(Ψ:FsM)(Γ:List (Str×D))(k:Nat):∀n,Bw Φ Ψ Γ k n
 |0=>⟨fun a a a h=>nn h,fun a a a h=>nn h⟩
 |n+1=>by
  have ih:=By Φ Ψ Γ k n;refine⟨fun C st S' h X c w po ρ U o U' q=>Eg ih h c w po q,fun C sts S' h X c w po ρ U o U' q=>?_⟩;cases sts with
  |nil=>cases h;cases q;exact zN
  |cons st r=>
   obtain⟨r',h2,rfl⟩:=mx0 (show (cK n C r).map (fun r'=>SMs.cons ((cSM n C st).getD (.pure .stuck)) r')=some S' from h);obtain⟨⟨o1,U1⟩,q1,q2⟩:=bx0 (show (exM Φ Ψ Γ C.c ρ U ((cSM n C st).getD (.pure .stuck))).bind _=some (o,U') from q);have A:S1M X C.c ρ U st o1 U1:=by
    cases h1:cSM n C st with
    |none=>rw[h1] at q1;exact nomatch (show (Option.none:Option (OM×Ust))=some (o1,U1) from q1)
    |some s'=>rw[h1] at q1;exact ih.S _ _ _ h1 X c w po ρ U o1 U1 q1
   cases o1 with
   |nx ρ1=>exact sA A (ih.Ss _ _ _ h2 X c w po ρ1 U1 o U' q2)
   |rt d=>cases q2;exact sC A
   |exc x ρ1=>cases q2;exact sD A
end
section
variable {Φ:Fs}{Ψ:FsM}{Γ:List (Str×D)}{V:kZ}
structure Eh (P:Program)(w:World)(K:Fg)(mg:Str->Option Value)(base:Heap)(Φ:Fs)(Ψ:FsM)(Γ:List (Str×D))(V:kZ)(k:Nat):Prop where
 m:zG P w K mg base Φ Γ V.fns (some V.c) V.xcs k
 fm:∀x,V.mfs.contains x=true->∀φ,Ψ x=some φ->vP P w K mg base V.c k x φ
 vm:∀m,V.mms.contains m=true->∀φ,Ψ (aE m)=some φ->FnVm P w K mg base V.c k m φ/\φ.lent.headD false=false/\m≠"objects"/\m≠"numbers"
 fv:∀x a,Γ.lookup x=some (.fn a)->V.mfs.contains x=true
 nl:∀x,V.nws.contains x=true->∀φ,Φ x=some φ->FnZs P w K mg base k x (wA K φ)
 nw:∀X:Cx,X.prog=P->X.w=w->X.K=K->X.mg=mg->X.base=base->Room k X.A->Gl X V.vn->∀ρ U p pos,EvM X V.c ρ U (.Call (.Name V.vn p) [] [] pos) (.ok (.hdl U.length)) (U++[[]])
 xk:∀t x,V.xks.lookup t=some x->mg t=some (.ref x)/\∃newId initId,ExcBaseFacts "ValueError" newId initId bg/\PySem.W.excIn K x bg newId=true
 tr:∀(t:Str) x tab,t≠("ValueError":Str)->V.xcs.lookup t=some (x,tab)->∀e,tab.lookup e=some true->∃newId newIdT,PySem.W.excIn K e bg newId=true/\PySem.W.excIn K x bg newIdT=true/\dP K e x=true
def oW {G:Hp}{d:Vd}{U:Ust}{dfn:aW}{vs:List L2.V}{C:Addr}(s:Same G (er H (parts d)))(r:Das K G (er H (parts d)) dfn.lent ds vs)(hl:ds.length=dfn.lent.length)(hs:dfn.slots=N.length)(hn:vs.length≤N.length)(v:VS P w K C G H d U):
  EnvM P w K C G H d G H d (start N vs) (startM dfn ds) U:=
 ⟨⟨G,_,Same.refl _,⟨Same.refl _,fun a a h a=>h⟩,fT s r hl hs hn⟩,fun a a h a=>h,List.prefix_refl _,v⟩
set_option tactic.hygienic true in
def oX {ps:List Str}{dfn:aW}(F:Fun K x qual st f fd)(S:aX (ps++au (defScope st) ps) ps (defScope st))(hp:bp st=some (ps,defBody st,defScope st)){lm:Option (Nat×Str)}(hd:iS V lent st lm=some dfn)(hlen:lent.length=ps.length)
  (M:Eh P w K mg base Φ Ψ Γ V k) (hlm:∀Pt q,lm=some (Pt,q)->(Pt,q)∈lamTs/\(∃c,fd.code=.ref c/\PySem.W.CodeHd base c Pt)/\base.BuiltinsAt mg Pt/\(qual++".<locals>.")++"<lambda>"=q):FnOk P w K mg base (CX1 P w) (k+1) f fd ps (Mur P w K V.c (runM Φ Ψ Γ V.c dfn)):=by
 unfold iS at hd;rw[hp,bs0] at hd;obtain⟨b,hb,rfl⟩:=mx0 (show (cK 60 (Aj V lm ps (defBody st) (defScope st)) (defBody st)).map _=some dfn from hd);obtain⟨oc,od,kV,doc,pm,an,cdv,ct,osl,rfl,lk,hcd⟩:=F.ex;refine tX (CX:=CX1 P w) lk hcd S (fun vs H Q E h=>?_) (fun A outer s H vs Q E hr h=>?_)
 ·obtain⟨ds,U,U',r,G,d,h1,_,das,_⟩:=h
  have h1:(if ds.length=lent.length then _ else Option.none)=some (U',r):=h1;split at h1
  ·rename_i hl;rw[←das.length,hl,hlen]
  ·cases h1
 ·obtain⟨ds,U,U',r,G,d,h1,sm,das,vs',kq⟩:=h
  have h1:(if ds.length=lent.length then (ba Φ Ψ Γ V.c (startM ⟨lent,(ps++au (defScope st) ps).length,b⟩ ds) U b).map fun q=>(q.2,mQ q.1) else Option.none)=some (U',r):=h1;split at h1
  ·rename_i hl
   obtain⟨⟨o,U1⟩,h2,h3⟩:=mx0 h1;have hpre:=congrArg List.length S.pre;rw[List.length_take] at hpre;have C:CxC (cN (CX1 P w) P w K mg base (ps++au (defScope st) ps) qual (defScope st) f cdv A outer s H E) (Aj V lm ps (defBody st) (defScope st)).cs:=by
    refine⟨rfl,S.nd,fun y kd e ek=>?_,fun y kd e ek=>⟨?_,.inl rfl⟩,fun y e=>e,fun y e=>e,rfl,S.kind⟩
    ·rcases ek with rfl|rfl|rfl
     ·exact .inl e
     ·exact .inr (.inl e)
     ·exact .inr (.inr e)
    ·rcases ek with rfl|rfl
     ·exact .inl e
     ·exact .inr e
   have W:WzT (cN (CX1 P w) P w K mg base (ps++au (defScope st) ps) qual (defScope st) f cdv A outer s H E) Φ Ψ Γ (Aj V lm ps (defBody st) (defScope st)) k:=
    ⟨⟨⟨M.m.blt,M.m.fns,M.m.gl,hr.r,M.m.vcl,M.m.xc⟩,M.fm,M.vm,M.fv,M.nw,fun Pt q e=>⟨(hlm Pt q e).1,(hlm Pt q e).2.1,(hlm Pt q e).2.2.1,(hlm Pt q e).2.2.2,hr.dp,hr.un⟩⟩,fun t x h=>⟨(M.xk t x h).1,(M.xk t x h).2⟩,M.tr,fun y e=>e,⟨rfl,rfl,rfl⟩,M.nl⟩
   have body:=(By Φ Ψ Γ k 60).Ss _ _ _ hb _ C W PassesOwn.leaving _ U o U1 h2;refine⟨_,body,G,H,d,G,d,oW (N:=ps++au (defScope st) ps) (dfn:=⟨lent,(ps++au (defScope st) ps).length,b⟩) sm das hl rfl (by rw[←das.length,hl,hlen];omega) vs',?_⟩;cases h3;cases o with
   |nx ρ'=>exact fun G' H' d' σ' env a=>kq .non G' H' d' env.start env.vs .none
   |rt e=>exact fun v G' H' d' m v' dv=>kq v G' H' d' m v' dv
   |exc x ρ'=>exact fun G' H' d' σ' env a pins ea s' I fl=>sv I fl (kq G' H' d' env.start env.vs)
  ·cases h1
structure jT (K:Fg)(mg:Str->Option Value)(V:kZ)(x:Str)(d:aW):Prop where
 ex:∃st f fd ps lm,Fun K x x st f fd/\mg x=some (.ref f)/\Binds K fd ps []/\aX (ps++au (defScope st) ps) ps (defScope st)/\bp st=some (ps,defBody st,defScope st)/\iS V d.lent st lm=some d/\d.lent.length=ps.length/\
  ∀Pt q,lm=some (Pt,q)->(Pt,q)∈lamTs/\(x++".<locals>.")++"<lambda>"=q/\∀base:Heap,K.In base->base.Ns mainGlobals mg->(∃c,fd.code=.ref c/\PySem.W.CodeHd base c Pt)/\base.BuiltinsAt mg Pt
structure mU (K:Fg)(V:kZ)(m:Str)(d:aW):Prop where
 nm:m≠"objects"/\m≠"numbers"
 hd:d.lent.headD false=false
 ex:∃st f fd ps qual,Fun K m qual st f fd/\Cls K V.c/\tQ K V.c m f/\Binds K fd ps []/\aX (ps++au (defScope st) ps) ps (defScope st)/\bp st=some (ps,defBody st,defScope st)/\iS V d.lent st=some d/\d.lent.length=ps.length
theorem FnZ.mono {φ:Fn}(F:FnZ P w K mg base j x φ)(h:j≤k):FnZ P w K mg base k x φ:=by
 obtain⟨f,fd,ps,h1,h2,h3,h4⟩:=F.ex;exact⟨⟨f,fd,ps,h1,h2,h3,h4.mono h⟩⟩
theorem FnVm.mono {c:Addr}{m:Str}{φ:FnM}(F:FnVm P w K mg base c j m φ)(h:j≤k):FnVm P w K mg base c k m φ:=by
 obtain⟨f,fd,ps,h1,h2,h3,h4⟩:=F.ex;exact⟨⟨f,fd,ps,h1,h2,h3,h4.mono h⟩⟩
structure xq (P:Program)(w:World)(K:Fg)(mg:Str->Option Value)(base:Heap)(Ψ0:FsM)(V:kZ):Prop where
 nw:∀X:Cx,X.prog=P->X.w=w->X.K=K->X.mg=mg->X.base=base->Room 2 X.A->Gl X V.vn->∀ρ U p pos,EvM X V.c ρ U (.Call (.Name V.vn p) [] [] pos) (.ok (.hdl U.length)) (U++[[]])
 vm:∀m φ,Ψ0 (aE m)=some φ->FnVm P w K mg base V.c 2 m φ/\φ.lent.headD false=false/\m≠"objects"/\m≠"numbers"
 nf:∀x,V.mfs.contains x=true->Ψ0 x=Option.none
 xk:∀t x,V.xks.lookup t=some x->mg t=some (.ref x)/\∃newId initId,ExcBaseFacts "ValueError" newId initId bg/\PySem.W.excIn K x bg newId=true
 tr:∀(t:Str) x tab,t≠("ValueError":Str)->V.xcs.lookup t=some (x,tab)->∀e,tab.lookup e=some true->∃newId newIdT,PySem.W.excIn K e bg newId=true/\PySem.W.excIn K x bg newIdT=true/\dP K e x=true
structure Bz (K:Fg)(mg:Str->Option Value)(fns cst:List Str)(vc:Option Nat)(xcs:List (Str×Nat×List (Nat×Bool)))(x:Str)(d:Def):Prop where
 ex:∃st f fd ps s0 s1 y i e0 S1' p pos,Fun K x x st f fd/\mg x=some (.ref f)/\Binds K fd ps []/\aX (ps++au (defScope st) ps) ps (defScope st)/\bp st=some (ps,defBody st,defScope st)/\lR fns cst d.lent st vc xcs=some d/\d.lent.length=ps.length/\
  defBody st=[s0,s1,.Return (some (.Name y p)) pos]/\cS 59 (dH fns cst ps (defBody st) (defScope st) vc xcs) s0=some (.new i e0)/\cS 58 (dH fns cst ps (defBody st) (defScope st) vc xcs) s1=some S1'/\
  aY (dH fns cst ps (defBody st) (defScope st) vc xcs) y=some i/\d.body=.cons (.new i e0) (.cons S1' (.cons (.ret (.v i)) .nil))/\gC i S1'=true/\decide (i<d.slots)=true
abbrev qz (K:Fg)(mg:Str->Option Value)(V:kZ)(prog:List (Str×Def)):Prop:=∀x d,V.nws.contains x=true->prog.lookup x=some d->Bz K mg V.fns V.cst (some V.c) V.xcs x d
theorem FnZs.mono {sp:Sp}(F:FnZs P w K mg base j x sp)(h:j≤k):FnZs P w K mg base k x sp:=by
 obtain⟨f,fd,ps,h1,h2,h3,h4⟩:=F.ex;exact⟨⟨f,fd,ps,h1,h2,h3,h4.mono h⟩⟩
def mV {prog:List (Str×Def)}(B:Base K mg Γ (some V.c) V.xcs)(N:qz K mg V prog)
  (defs:∀x d,V.fns.contains x=true->prog.lookup x=some d->oM K mg V.fns V.cst (some V.c) V.xcs x d)  {φ:Fn} (hx:V.nws.contains x=true):
  ∀k,den prog Γ k x=some φ->FnZs P w K mg base (k+2) x (wA K φ)
 |0,h=>by cases h
 |k+1,h=>by
  obtain⟨d,h1,rfl⟩:=mx0 (show (prog.lookup x).map _=some φ from h);have M:zG P w K mg base (den prog Γ k) Γ V.fns (some V.c) V.xcs k:=⟨B.blt,fun y hy φ' q=>gZ B defs k y φ' q hy,B.gl,B.vcl,B.xc⟩;obtain⟨st,f,fd,ps,s0,s1,y,i,e0,S1',p,pos,F,hm,hb,S,hp,hd,hl,a1,a2,a3,a4,a5,a6,a7⟩:=(N x d hx h1).ex;exact FnZs.mono ⟨⟨f,fd,ps,hm,F.kp,hb,DR F S hp hd hl a1 a2 a3 a4 a5 a6 a7 M⟩⟩ (by omega)
theorem fA {prog:List (Str×Def)}{progM:List (Str×aW)}{Ψ0:FsM}(B:Base K mg Γ (some V.c) V.xcs)(BM:xq P w K mg base Ψ0 V)(kb:K.In base/\base.Ns mainGlobals mg)(fv:∀x a,Γ.lookup x=some (.fn a)->V.mfs.contains x=true)(N:qz K mg V prog)
  (defs:∀x d,V.fns.contains x=true->prog.lookup x=some d->oM K mg V.fns V.cst (some V.c) V.xcs x d)
  (defm:∀x d,V.mfs.contains x=true->progM.lookup x=some d->jT K mg V x d)
  (metm:∀m d,V.mms.contains m=true->progM.lookup (aE m)=some d->mU K V m d):
  ∀k x φ,jo Ψ0 prog progM Γ V.c k x=some φ->(V.mfs.contains x=true->vP P w K mg base V.c (k+2) x φ)/\∀m,x=aE m->V.mms.contains m=true->FnVm P w K mg base V.c (k+2) m φ/\φ.lent.headD false=false/\m≠"objects"/\m≠"numbers"
 |0,x,φ,h=>by
  have h:Ψ0 x=some φ:=h;refine⟨fun hx=>(by rw[BM.nf x hx] at h;cases h),fun m e hm=>?_⟩;subst e;exact BM.vm m φ h
 |k+1,x,φ,h=>by
  have h:(match Ψ0 x with|some φ=>some φ|Option.none=>(progM.lookup x).map (runM (den prog Γ k) (jo Ψ0 prog progM Γ V.c k) Γ V.c))=some φ:=h;cases q:Ψ0 x with
  |some φ'=>
   rw[q] at h;cases h;refine⟨fun hx=>(by rw[BM.nf x hx] at q;cases q),fun m e hm=>?_⟩;subst e;obtain⟨h1,h2⟩:=BM.vm m φ q;exact⟨h1.mono (by omega),h2⟩
  |none=>
   rw[q] at h;obtain⟨d,h1,rfl⟩:=mx0 h;have M:Eh P w K mg base (den prog Γ k) (jo Ψ0 prog progM Γ V.c k) Γ V (k+2):=
    ⟨⟨B.blt,fun y hy φ' q=>(gZ B defs k y φ' q hy).mono (by omega),B.gl,B.vcl,B.xc⟩,
     fun y hy φ' q=>(fA B BM kb fv N defs defm metm k y φ' q).1 hy,fun m hm φ' q=>(fA B BM kb fv N defs defm metm k _ φ' q).2 m rfl hm,fv,fun y hy φ' q=>mV B N defs hy k q,fun X e1 e2 e3 e4 e5 r g=>BM.nw X e1 e2 e3 e4 e5 (r.mono (by omega)) g,BM.xk,BM.tr⟩
   refine⟨fun hx=>?_,fun m e hm=>?_⟩
   ·obtain⟨st,f,fd,ps,lm,F,hm,hb,S,hp,hd,hl,hlm⟩:=(defm x d hx h1).ex
    exact⟨⟨f,fd,ps,hm,F.kp,hb,oX F S hp hd hl M fun Pt q e=>let ⟨a1,a2,a3⟩:=hlm Pt q e;⟨a1,(a3 base kb.1 kb.2).1,(a3 base kb.1 kb.2).2,a2⟩⟩⟩
   ·subst e
    have Z:=metm m d hm h1;obtain⟨st,f,fd,ps,qual,F,hc,hme,hb,S,hp,hd,hl⟩:=Z.ex;exact⟨⟨⟨f,fd,ps,hc,hme,hb,oX F S hp hd hl M fun b b z=>by cases z⟩⟩,Z.hd,Z.nm⟩
def Aq {prog:List (Str×Def)}{progM:List (Str×aW)}{Ψ0:FsM}(B:Base K mg Γ (some V.c) V.xcs)(BM:xq P w K mg base Ψ0 V)(kb:K.In base/\base.Ns mainGlobals mg)(fv:∀x a,Γ.lookup x=some (.fn a)->V.mfs.contains x=true)(N:qz K mg V prog)
  (defs:∀x d,V.fns.contains x=true->prog.lookup x=some d->oM K mg V.fns V.cst (some V.c) V.xcs x d)
  (defm:∀x d,V.mfs.contains x=true->progM.lookup x=some d->jT K mg V x d)
  (metm:∀m d,V.mms.contains m=true->progM.lookup (aE m)=some d->mU K V m d) (k:Nat):Eh P w K mg base (den prog Γ k) (jo Ψ0 prog progM Γ V.c k) Γ V (k+2):=
 ⟨⟨B.blt,fun y hy φ' q=>(gZ B defs k y φ' q hy).mono (by omega),B.gl,B.vcl,B.xc⟩,
  fun y hy φ' q=>(fA B BM kb fv N defs defm metm k y φ' q).1 hy,fun m hm φ' q=>(fA B BM kb fv N defs defm metm k _ φ' q).2 m rfl hm,fv,fun y hy φ' q=>mV B N defs hy k q,fun X e1 e2 e3 e4 e5 r g=>BM.nw X e1 e2 e3 e4 e5 (r.mono (by omega)) g,BM.xk,BM.tr⟩
end
noncomputable def iU (K:Fg):Sp:=fun vs H Q E=>vH K vs H Q E/\(∀a C dx fs,H a≠some (.ins C dx fs))/\∀p∈lamTs,∃ps,H p.1=some (.tbl p.2 ps)
def Ar {C:Addr}{ps:List Str}{φ:FnM}(F:FnOk P w K mg base (CX1 P w) k f fd ps (Mur P w K C φ))(hfl:φ.lent=[true])
  (h:∀ns:List Int,ns.length≤63->∃U,φ.run [] [.scr ns]=some (U,.ok (.bool true))):FnOk P w K mg base CX0 k f fd ps (iU K):=by
 have key:∀vs H Q (E:XK),iU K vs H Q E->Mur P w K C φ vs H Q E0:=fun vs H Q E q=>by
  obtain⟨⟨a,ns,rfl,hS,hl,q⟩,ni,tb⟩:=q;obtain⟨U,hU⟩:=h ns hl;have ho:∀b∈parts [],∃p∈lamTs,b=p.1:=fun b hb=>(of_parts hb).elim id fun⟨_,_,_,_,z,_⟩=>by simp at z
  have hS':SqL K (er H (parts [])) a (ns.map V.int):=by
   have nb:∀u,H a=some u->(∀n ps,u≠.tbl n ps)->a∉parts []:=fun u e ne hb=>by
    obtain⟨p,hp,rfl⟩:=ho a hb;obtain⟨ps,z⟩:=tb p hp;rw[e] at z;exact ne _ _ (Option.some.inj z)
   rcases hS with (z|⟨o,z⟩)|z
   ·exact .inl (.inl (by rw[aA (nb _ z fun c c=>nofun)];exact z))
   ·exact .inl (.inr ⟨o,by rw[aA (nb _ z fun c c=>nofun)];exact z⟩)
   ·exact .inr z
  refine⟨[.scr ns],[],U,_,er H (parts []),[],hU,Same.refl _,by rw[hfl];exact .cons (fun z=>by cases z) (.of (.scr hS')) .nil,⟨rfl,by simpa [parts] using Fm,fun h a l n z=>by simp at z,fun a C' dx fs z=>(ni a C' dx fs z).elim,fun b hb=>iO hb,tb⟩,?_⟩;exact fun v G' H' d' c c r=>by cases r;exact q H'
 refine⟨fun vs H Q E q=>F.len vs H Q E0 (key vs H Q E q),fun A outer s H args us vs Q E hr e0 hb r q=>?_⟩;refine codeAny_mono (F.run A outer s H args us vs Q E0 hr e0 hb r (key vs H Q E q)) fun r s' z=>?_
 cases r with
 |ok fl=>cases fl<;>exact z
 |error e=>
  obtain⟨_,_,_,_,_,_,_,_,_,_,_,_,_,z⟩:=(show CX1 P w outer H s E0 e s' from z);exact z
section
variable {G:Hp}
def As (I:Inv X pins σ H s)(ih:∀(d:D) (v:V) (u:Value),Dp X.K G d v->RelV v u->okK n d=true->IsK s.heap n d u):
  ∀{vs:List V} {us:List Value} {ds:List D},Vals vs us->Dps X.K G ds vs->ds.all (okK n)=true->IsKs s.heap n ds us:=by
 intro vs us ds r
 induction r generalizing ds with
 |nil=>intro q _;cases q;exact .nil
 |cons r1 _ ih2=>
  intro q z;cases q with
  |cons q1 q2=>
   rw[List.all_cons,be0] at z;exact .cons (ih _ _ _ q1 r1 z.1) (ih2 q2 z.2)
def lg (I:Inv X pins σ H s)(sm:Same G H):∀(n:Nat) (d:D) (v:V) (u:Value),Dp X.K G d v->RelV v u->okK n d=true->IsK s.heap n d u:=by
 intro n
 induction n with
 |zero=>
  intro d v u h r o;cases h with
  |int i=>obtain⟨t,rfl⟩:=r;exact .int i t
  |str x hx=>obtain⟨t,rfl⟩:=r;exact .str x t hx
  |_=>cases o
 |succ n ih=>
  intro d v u h r o;cases h with
  |int i=>obtain⟨t,rfl⟩:=r;exact .int i t
  |str x hx=>obtain⟨t,rfl⟩:=r;exact .str x t hx
  |tuple q p=>
   cases r;obtain⟨its,rv,⟨ob,e1,e2,m,e3⟩,_⟩:=I.tuple (SqT.of (sm _ _ q));exact .tup e1 e2 e3 (As I ih rv p o)
  |_=>cases o
theorem fW:∀{k:Nat} {xs:List (D×Addr×Value)} {as:List Addr} {ds:List D},eM k xs as ds->xs.length=ds.length/\as.length=ds.length
 |_,_,_,_,.nil=>⟨rfl,rfl⟩
 |_,_,_,_,.cons r=>⟨by rw[lc0,lc0,(fW r).1],by rw[lc0,lc0,(fW r).2]⟩
def xr {G:Hp}(one:∀(d:D) (a:Addr),Dp K G d (.ref a)->okK 8 d=true->IsK h 8 d (.ref a)):∀{k:Nat} {xs:List (D×Addr×Value)} {as:List Addr} {ds:List D},eM k xs as ds->Dps K G ds (as.map .ref)->(∀d∈ds,okK 8 d=true/\jn d=true)->∀x∈xs,IsK h 8 x.1 (.ref x.2.1):=by
 intro k xs as ds n
 induction n with
 |nil=>exact fun b b b z=>by cases z
 |cons r ih=>
  intro q hk x hx;cases q with
  |cons d1 d2=>
   rcases mq0 hx with rfl|hx
   ·exact one _ _ d1 (hk _ ms0).1
   ·exact ih d2 (fun d hd=>hk d (mc0 _ hd)) x hx
theorem numXs_at {d:D}:∀{k:Nat} {xs:List (D×Addr×Value)} {as:List Addr} {ds:List D},eM k xs as ds->(ds.idxOf? d=Option.none/\atKey xs d=Option.none)\/∃j a t,ds.idxOf? d=some j/\atKey xs d=some (a,.int ((k+j:Nat):Int) t)
 |_,_,_,_,.nil=>.inl ⟨rfl,rfl⟩
 |k,_,_,_,.cons (d:=e) (a:=a) (t:=t) (xs:=xs) (ds:=ds) r=>by
  unfold atKey;rw[List.find?_cons,List.idxOf?_cons]
  by_cases c:e=d
  ·subst c
   simp only[decide_true,beq_self_eq_true,if_true,mo0];exact .inr ⟨0,a,t,rfl,by simp⟩
  ·rw[df0 c,bn0 c]
   simp only[Bool.false_eq_true,if_false];rcases numXs_at (d:=d) r with⟨q1,q2⟩|⟨j,a',t',q1,q2⟩
   ·exact .inl ⟨by rw[q1];rfl,q2⟩
   ·refine .inr ⟨j+1,a',t',by rw[q1];rfl,?_⟩
    rw[show k+(j+1)=k+1+j by grind];exact q2
theorem jU {d:D}{a:Addr}{t:Tok}:∀{k:Nat} {xs:List (D×Addr×Value)} {as:List Addr} {ds:List D},eM k xs as ds->eM k (xs++[(d,a,.int ((k+ds.length:Nat):Int) t)]) (as++[a]) (ds++[d])
 |k,_,_,_,.nil=>.cons .nil
 |k,_,_,_,.cons (ds:=ds) r=>by
  have:=jU (d:=d) (a:=a) (t:=t) r;rw[show k+1+ds.length=k+(ds.length+1) by grind] at this;exact .cons this
def iV {n:Addr}{as:List Addr}{objs:List D}(I:Inv X pins σ H s)(sm:Same G H)(hn:H n=some (.ext (cj X.prog X.w n as objs)))(dp:Dps X.K G objs (as.map .ref))(hk:∀d∈objs,okK 8 d=true/\jn d=true):
  (n==sysModules)=false/\objs.length≤1000000/\∃xs,eM 0 xs as objs/\s.heap.DictOfH (mD X.prog X.w) n xs:=by
 obtain⟨⟨h1,xs,nx,hl,o,es,ep,ho,hx,hd,he,nd⟩,_⟩:=(I.hok n _ hn);exact⟨h1,hl,xs,nx,o,es,ep,ho,hx,hd,he,xr (fun d a q o=>lg I sm 8 d _ _ q rfl o) nx dp hk,nd⟩
def Vat (X:Cx)(G H:Hp)(x y:V)(d:D)(n:Addr)(as:List Addr)(objs:List D):Prop:=
 y=.ref n/\Same G H/\Dp X.K G d x/\okK 8 d=true/\jn d=true/\H n=some (.ext (cj X.prog X.w n as objs))/\Dps X.K G objs (as.map .ref)/\∀d∈objs,okK 8 d=true/\jn d=true
def iW {x:V}(h:Dp K G d x)(t:jn d=true):∃a,x=.ref a:=by
 cases h<;>first|exact⟨_,rfl⟩|cases t
def sV (hu:X.A.units+100<cLine):OpR X (compareOp .NotIn) (fun x y H Q=>∃G d n as objs,Vat X G H x y d n as objs/\Q (.bl (objs.idxOf? d).isNone) H):=by
 intro pins s σ H x y v u Q I rx ry h;obtain⟨G,d,n,as,objs,⟨rfl,sm,dx,ok,tp,hn,dp,hk⟩,q⟩:=h;obtain⟨a,rfl⟩:=iW dx tp;cases ry;cases rx;obtain⟨h1,hl,xs,nx,dd⟩:=iV I sm hn dp hk;refine wpAny_notIn_heap (show X.A.units+1+64<cLine by grind) (lg I sm 8 d _ _ dx rfl ok) h1 dd ⟨.bl (!(atKey xs d).isSome),H,I.tok _,rfl,?_⟩;rcases numXs_at (d:=d) nx with⟨q1,q2⟩|⟨j,a',t,q1,q2⟩
 ·rw[q1] at q;rw[q2];exact q
 ·rw[q1] at q;rw[q2];exact q
def Jc (hu:X.A.units+100<cLine):IxR X (fun x y H Q=>∃G d n as objs j,Vat X G H y x d n as objs/\objs.idxOf? d=some j/\Q (.int (j:Nat)) H):=by
 intro value slice pins s σ H x y v u Q I rx ry h hs;obtain⟨G,d,n,as,objs,j,⟨rfl,sm,dx,ok,tp,hn,dp,hk⟩,hj,q⟩:=h;obtain⟨a,rfl⟩:=iW dx tp;cases ry;cases rx;obtain⟨h1,hl,xs,nx,dd⟩:=iV I sm hn dp hk;rcases numXs_at (d:=d) nx with⟨q1,q2⟩|⟨j',a',t,q1,q2⟩
 ·simp_all
 ·rw[hj] at q1
  cases q1;refine tail_any dd.typeIs PySem.F.slot_dict_getitem.lookup (wpAny_getItem_heap (show X.A.units+1+64<cLine by omega) (lg I sm 8 d _ _ dx rfl ok) dd q2 ⟨.int _,H,I.tok _,⟨t,?_⟩,q⟩) hs;rw[Nat.zero_add]
def GN (hu:X.A.units+100<cLine):yw X (fun o i v H Q=>∃G d n as objs a,Vat X G H i o d n as objs/\i=.ref a/\objs.idxOf? d=Option.none/\objs.length<1000000/\v=.int (objs.length:Nat)/\Q (upd H n (.ext (cj X.prog X.w n (as++[a]) (objs++[d]))))):=by
 intro pins s σ H o i v ov iv u Q I ro ri rv h;obtain⟨G,d,n,as,objs,a,⟨rfl,sm,dx,ok,tp,hn,dp,hk⟩,rfl,hj,hlt,rfl,q⟩:=h;cases ro;cases ri;obtain⟨t,rfl⟩:=rv;obtain⟨h1,hl,xs,nx,dd⟩:=iV I sm hn dp hk;have hz:xs.length≤sizeLine:=by rw[(fW nx).1,sizeLine_eq];grind
 rcases numXs_at (d:=d) nx with⟨q1,q2⟩|⟨j',a',t',q1,q2⟩
 ·refine wpAny_setItem_heap (hsz:=hz) (show X.A.units+1+64<cLine by grind) (lg I sm 8 d _ _ dx rfl ok) dd fun h' dd' hs=>⟨_,?_,q⟩
  obtain⟨ob,es,ep,hq,h2,h3,h4,_,h5⟩:=dd';rw[storedH_new q2] at h4 h5;have nx':=jU (d:=d) (a:=a) (t:=t) nx;rw[Nat.zero_add] at nx';exact I.write (t':=_) (by rw[hn];exact True.intro) (.inl rfl) (fun b w hb e=>(hs.2 b hb).trans e) ⟨ob,hq⟩ ⟨⟨h1,_,nx',by simp;grind,ob,es,ep,hq,h2,h3,h4,h5⟩,⟨ob,hq⟩,fun h1' h2' ⟨y1,ys,y2,y3,yo,yes,yep,y4,y5⟩ k=>⟨y1,ys,y2,y3,yo,yes,yep,k yo y4,y5⟩⟩
 ·rw[hj] at q1;cases q1
end
noncomputable def jV (U:Ust):List D->Option (Ust×R)
 |[.hdl h,d]=>(U[h]?).bind fun objs=>if okK 8 d&&jn d&&decide (objs.length<1000000) then (match objs.idxOf? d with
  |some j=>some (U,.ok (.int (j:Nat)))
  |none=>some (U.set h (objs++[d]),.ok (.int (objs.length:Nat)))) else none
 |_=>none
noncomputable def iX:FnM:=⟨[false,false],jV⟩
set_option tactic.hygienic true in
theorem jW :∀{os:List D},os.idxOf? d=Option.none->(os++[d]).idxOf? d=some os.length
 |[],_=>by simp
 |o::r,h=>by
  rw[List.idxOf?_cons] at h;rw[List.cons_append,List.idxOf?_cons];split at h
  ·cases h
  ·rename_i c
   rw[if_neg c];cases q:r.idxOf? d with
   |some j=>simp_all
   |none=>rw[jW q];rfl
def VS.put {C:Addr}{G:Hp}{dd:Vd}{U:Ust}(v:VS P w K C G H dd U)(sm:Same G (er H (parts dd))){h:Nat}{a n dx b:Addr}{objs:List D}{as:List Addr}(e:dd[h]?=some (a,l,n))(hU:U[h]?=some objs)(hl:H l=some (.lst (as.map .ref)))
  (hn:H n=some (.ext (cj P w n as objs))) (dp:Dps K G objs (as.map .ref)) (hk:∀d∈objs,okK 8 d=true/\jn d=true) (dv:Dp K G d (.ref b)) (ok:okK 8 d=true) (tp:jn d=true):
  MExt G H dd G (upd (upd H n (.ext (cj P w n (as++[b]) (objs++[d])))) l (.lst ((as++[b]).map .ref))) dd/\VS P w K C G (upd (upd H n (.ext (cj P w n (as++[b]) (objs++[d])))) l (.lst ((as++[b]).map .ref))) dd (U.set h (objs++[d])):=by
 obtain⟨ml,mn⟩:=fU e;have nln:n≠l:=fun z=>by subst z;rw[hl] at hn;cases hn
 have out:∀c,c∉parts dd->upd (upd H n (.ext (cj P w n (as++[b]) (objs++[d])))) l (.lst ((as++[b]).map .ref)) c=H c:=fun c hc=>by
  have c1:c≠l:=fun z=>hc (by rw[z];exact ml)
  have c2:c≠n:=fun z=>hc (by rw[z];exact mn)
  rw[aa c1,aa c2]
 have ere:er (upd (upd H n (.ext (cj P w n (as++[b]) (objs++[d])))) l (.lst ((as++[b]).map .ref))) (parts dd)=er H (parts dd):=by
  funext c
  by_cases hc:c∈parts dd
  ·rw[iO hc,iO hc]
  ·rw[aA hc,aA hc,out c hc]
 have hlen:=(gi0 hU).1;refine⟨⟨Same.refl _,by rw[ere];exact Same.refl _,by rw[ere];exact sm,fun f f h f=>h,List.prefix_refl _,fun c o hc=>?_⟩,⟨by rw[v.len];simp,v.nd,fun h' a' l' n' e'=>?_,fun c C' dx' fs q=>?_,v.out,fun p hp=>?_⟩⟩
 ·by_cases c1:c=l
  ·subst c1;exact⟨_,ae⟩
  ·rw[aa c1]
   by_cases c2:c=n
   ·subst c2;exact⟨_,ae⟩
   ·rw[aa c2];exact⟨o,hc⟩
 ·obtain⟨dx',objs',q1,q2,q3,as',q4,q5,q6,q7⟩:=v.at' h' a' l' n' e'
  have hdx:upd (upd H n (.ext (cj P w n (as++[b]) (objs++[d])))) l (.lst ((as++[b]).map .ref)) dx'=some (.own a'):=by
   have c1:dx'≠l:=fun z=>by rw[z,hl] at q3;cases q3
   have c2:dx'≠n:=fun z=>by rw[z,hn] at q3;cases q3
   rw[aa c1,aa c2];exact q3
  by_cases hh:h'=h
  ·subst hh
   rw[e] at e';cases e';rw[hU] at q1;cases q1;rw[hl] at q4;have eas:as'=as:=by
    have z:as.map V.ref=as'.map V.ref:=HO.lst.inj (Option.some.inj q4);exact (List.map_inj_right (fun f f z=>V.ref.inj z)).mp z.symm
   subst eas;refine⟨dx',objs++[d],by rw[gs0 hlen],q2,hdx,as'++[b],ae,by rw[List.map_append];exact q5.append (.one dv),by rw[aa nln];exact ae,fun y hy=>?_⟩;rcases ma0 hy with hy|hy
   ·exact hk y hy
   ·obtain rfl:y=d:=by simpa using hy
    exact⟨ok,tp⟩
  ·have ap:l'≠l/\l'≠n/\n'≠l/\n'≠n:=by
    have key:∀(dd:Vd) (i j:Nat) (p q:Addr×Addr×Addr),(dd.flatMap fun p=>[p.2.1,p.2.2]).Nodup->i<j->dd[i]?=some p->dd[j]?=some q->∀x∈[p.2.1,p.2.2],∀y∈[q.2.1,q.2.2],x≠y:=by
     intro dd
     induction dd with
     |nil=>intro i j p q _ _ h1;simp at h1
     |cons r rs ih=>
      intro i j p q nd hij h1 h2 x hx y hy;have nd2:([r.2.1,r.2.2]++rs.flatMap fun p=>[p.2.1,p.2.2]).Nodup:=nd;obtain⟨n1,n2,n3⟩:=List.nodup_append.mp nd2;cases i with
      |zero=>
       cases j with
       |zero=>exact absurd hij (li0 _)
       |succ j=>
        simp at h1;subst h1;exact n3 x hx y (List.mem_flatMap.mpr ⟨q,mg0 (by simpa using h2),hy⟩)
      |succ i=>
       cases j with
       |zero=>exact absurd hij (Nat.not_lt_zero _)
       |succ j=>exact ih i j p q n2 (by omega) (by simpa using h1) (by simpa using h2) x hx y hy
    rcases Nat.lt_or_gt_of_ne hh with c|c
    ·have k2:=key dd h' h _ _ (List.nodup_append.mp v.nd).2.1 c e' e
     exact⟨k2 _ (by simp) _ (by simp),k2 _ (by simp) _ (by simp),k2 _ (by simp) _ (by simp),k2 _ (by simp) _ (by simp)⟩
    ·have k2:=key dd h h' _ _ (List.nodup_append.mp v.nd).2.1 c e e'
     exact⟨(k2 _ (by simp) _ (by simp)).symm,(k2 _ (by simp) _ (by simp)).symm,(k2 _ (by simp) _ (by simp)).symm,(k2 _ (by simp) _ (by simp)).symm⟩
   obtain⟨a1,a2,a3,a4⟩:=ap;exact⟨dx',objs',by rw[gn0 (Ne.symm hh)];exact q1,q2,hdx,as',by rw[aa a1,aa a2];exact q4,q5,by rw[aa a3,aa a4];exact q6,q7⟩
 ·have:H c=some (.ins C' dx' fs):=by
   by_cases c1:c=l
   ·subst c1;rw[ae] at q;cases q
   ·rw[aa c1] at q
    by_cases c2:c=n
    ·subst c2;rw[ae] at q;cases q
    ·rw[aa c2] at q;exact q
  exact v.uni c C' dx' fs this
 ·obtain⟨ps,z⟩:=v.tb p hp
  exact⟨ps,by rw[aa (fun y=>by rw[y,hl] at z;cases z),aa (fun y=>by rw[y,hn] at z;cases z)];exact z⟩
structure xt (st:Stmt):Prop where
 ex:∃p1 p2 p3 p4 p5 p6 p7 p8 p9 p10 p11 p12 p13 p14 p15 p16 p17 p18 p19 p20 p21 p22 p23 p24 p25:Pos,(p16.endLine==p18.line)=true/\defBody st =
  [.If (.Compare (.Name "made" p1) [.NotIn] [.Attribute (.Name "self" p2) "numbers" p3] p4)
   [.Assign [.Subscript (.Attribute (.Name "self" p5) "numbers" p6) (.Name "made" p7) p8] (.Call (.Name "len" p9) [.Attribute (.Name "self" p10) "objects" p11] [] p12) p13,
    .Expr (.Call (.Attribute (.Attribute (.Name "self" p14) "objects" p15) "append" p16) [.Name "made" p17] [] p18) p19] [] p20,
   .Return (some (.Subscript (.Attribute (.Name "self" p21) "numbers" p22) (.Name "made" p23) p24)) p25]
 gl:(defScope st).names.lookup ("len":Str)=some NameKind.globalImplicit
set_option tactic.hygienic true in
def Ei {C:Addr}(F:Fun K x qual st f fd)(S:aX ["self","made"] ["self","made"] (defScope st))(T:xt st)(hlen:mg "len"=none)(hc:Cls K C)(h1:NoAttr K C "objects")(h2:NoAttr K C "numbers"):
  FnOk P w K mg base (CX1 P w) 2 f fd ["self","made"] (Mur P w K C iX):=by
 obtain⟨oc,od,kV,doc,pm,an,cdv,ct,osl,rfl,lk,hcd⟩:=F.ex;obtain⟨p1,p2,p3,p4,p5,p6,p7,p8,p9,p10,p11,p12,p13,p14,p15,p16,p17,p18,p19,p20,p21,p22,p23,p24,p25,hline,hbody⟩:=T.ex;refine Bh (CX:=CX1 P w) lk hcd S (fun vs H Q E h=>?_) (fun A outer s H vs Q E hr h=>?_)
 ·obtain⟨ds,U,U',r,G,d,h1,_,das,_⟩:=h
  have:ds.length=2:=by
   match ds,h1 with
   |[.hdl h,d],_=>rfl
  rw[←das.length,this];rfl
 ·obtain⟨ds,U,U',r,G,dd,hrun,sm,das,v,kq⟩:=h
  have sm':Same G H:=sm.trans ao;have hu:(cN (CX1 P w) P w K mg base ["self","made"] qual (defScope st) f cdv A outer s H E).A.units+100<cLine:=by have:=hr.un;show (A.deeper _).units+100<_;omega
  have vself:∀p:Pos,PE (cN (CX1 P w) P w K mg base ["self","made"] qual (defScope st) f cdv A outer s H E) (.Name "self" p) (tF 0):=fun p=>bL rfl ((S.par "self" (by simp)).elim .inl fun z=>.inr (.inl z))
  have vmade:∀p:Pos,PE (cN (CX1 P w) P w K mg base ["self","made"] qual (defScope st) f cdv A outer s H E) (.Name "made" p) (tF 1):=fun p=>bL rfl ((S.par "made" (by simp)).elim .inl fun z=>.inr (.inl z))
  have num:=fun (p q:Pos)=>nN (pos:=q) (f:="numbers") (vself p) rfl
  have obs:=fun (p q:Pos)=>nN (pos:=q) (f:="objects") (vself p) rfl
  rw[hbody];refine⟨_,aK (jt (pos:=p20) (gR (pos:=p4) (sV hu) (vmade p1) (num p2 p3) rfl)
   (aK (nC (pos:=p13) (bj (p:=p9) (pos:=p12) kr T.gl hlen PySem.boot_len (ax (obs p10 p11) aQ)) (nB (pos:=p8) (num p5 p6) (vmade p7) (GN hu)))
    (aK (dX (pos:=p19) (pO (apos:=p16) (cpos:=p18) PySem.F.plainAttrs_list PySem.F.slot_list_append PySem.F.type_list_append fK (obs p14 p15) (ax (vmade p17) aQ) rfl rfl hline)) dW)) dW)
   (aK (ij (pos:=p25) (pL (pos:=p24) (Jc hu) (num p21 p22) (vmade p23) fun c c=>rfl)) dW),?_⟩
  match ds,hrun,das with
  |[.hdl h,d],hrun,das=>
   obtain⟨va,vb,rfl,da,db⟩:=das.two;have da:Dp K G (.hdl h) va:=da.dp rfl;obtain⟨objs,hU,hrun⟩:=bx0 (show (U[h]?).bind _=some (U',r) from hrun);split at hrun
   ·rename_i hq
    simp only[be0,decide_eq_true_eq] at hq;obtain⟨⟨ok,tp⟩,hlt⟩:=hq;have db:Dp K G d vb:=db.dp (by cases d<;>first|rfl|cases tp);obtain⟨b,rfl⟩:=iW db tp;obtain⟨a,l,n,dx,objs',rfl,e,hU',hG,hdx,as,hl,dp,hn,hk⟩:=v.hdl sm' da;rw[hU] at hU';cases hU';have hlo:(vfs l n h).lookup ("objects":Str)=some (V.ref l):=rfl;have hln:(vfs l n h).lookup ("numbers":Str)=some (V.ref n):=rfl;have fself:(start ["self","made"] [V.ref a,V.ref b])[0]?=some (some (.ref a)):=rfl;have fmade:(start ["self","made"] [V.ref a,V.ref b])[1]?=some (some (.ref b)):=rfl;have aslen:as.length=objs.length:=by have:=dp.length;simpa using this.symm
    refine⟨.ref b,fmade,.ref a,fself,a,C,dx,_,_,rfl,sm' _ _ hG,hc,h2,hln,G,d,n,as,objs,⟨rfl,sm',db,ok,tp,hn,dp,hk⟩,?_⟩;cases hj:objs.idxOf? d with
    |some j=>
     rw[hj] at hrun;cases hrun;refine⟨false,rfl,jf ⟨.ref a,fself,a,C,dx,_,_,rfl,sm' _ _ hG,hc,h2,hln,.ref b,fmade,G,d,n,as,objs,j,⟨rfl,sm',db,ok,tp,hn,dp,hk⟩,hj,?_⟩⟩;exact kq _ G H dd (.refl sm) v (.int _)
    |none=>
     rw[hj] at hrun;cases hrun;have nln:n≠l:=fun z=>by subst z;rw[hl] at hn;cases hn
     have anl:a≠l:=fun z=>by rw[z] at hG;rw[sm' _ _ hG] at hl;cases hl
     have ann:a≠n:=fun z=>by rw[z] at hG;rw[sm' _ _ hG] at hn;cases hn
     refine⟨true,rfl,jg ?_⟩;refine⟨.ref a,fself,a,C,dx,_,_,rfl,sm' _ _ hG,hc,h1,hlo,l,as.map .ref,rfl,.inl (SqL.of hl),.ref a,fself,a,C,dx,_,_,rfl,sm' _ _ hG,hc,h2,hln,.ref b,fmade,G,d,n,as,objs,b,⟨rfl,sm',db,ok,tp,hn,dp,hk⟩,rfl,hj,hlt,by rw[lm0,aslen],?_⟩;obtain⟨mx,v2⟩:=v.put sm (dx:=dx) e hU hl hn dp hk db ok tp;refine⟨.ref a,fself,a,C,dx,_,_,rfl,by rw[aa ann];exact sm' _ _ hG,hc,h1,hlo,.inl ⟨rfl,as.map .ref,SqL.of (by rw[aa (Ne.symm nln)];exact hl)⟩,.ref b,fmade,l,as.map .ref,.ref b,rfl,rfl,by rw[aa (Ne.symm nln)];exact hl,by rw[lm0,aslen,sizeLine_eq];omega,?_⟩;have eas:(as.map V.ref++[V.ref b])=(as++[b]).map V.ref:=by simp
     rw[eas];have sm2:=mx.gh.trans ao;refine⟨.ref a,fself,a,C,dx,_,_,rfl,sm2 _ _ hG,hc,h2,hln,.ref b,fmade,G,d,n,as++[b],objs++[d],objs.length,⟨rfl,sm2,db,ok,tp,by rw[aa nln];exact ae,by rw[List.map_append];exact dp.append (.one db),fun y hy=>?_⟩,jW hj,kq _ G _ dd mx v2 (.int _)⟩;rcases ma0 hy with hy|hy
     ·exact hk y hy
     ·obtain rfl:y=d:=by simpa using hy
      exact⟨ok,tp⟩
   ·cases hrun
noncomputable def Au (C dx l n:Addr):HO:=.ins C dx [("objects",.ref l),("numbers",.ref n)]
noncomputable def iY (C x dx l n:Addr)(H:Hp):Hp:=upd (upd (upd (upd H l (.lst [])) x (.ins C dx [("objects",.ref l)])) n (.dK [])) x (Au C dx l n)
noncomputable def xu (C:Addr):Sp:=fun vs H Q a=>∃x dx,vs=[.ref x]/\H x=some (.ins C dx [])/\∀l n,H l=none->H n=none->l≠n->Q .non (iY C x dx l n H)
structure qA (st:Stmt):Prop where
 ex:∃p1 p2 p3 p4 p5 p6 p7 p8:Pos,defBody st=[.Assign [.Attribute (.Name "self" p1) "objects" p2] (.List [] p3) p4,.Assign [.Attribute (.Name "self" p5) "numbers" p6] (.Dict [] [] p7) p8]
def Av {C:Addr}(F:Fun K x qual st f fd)(S:aX ["self"] ["self"] (defScope st))(T:qA st)(hc:Cls K C)(h1:NoAttr K C "objects")(h2:NoAttr K C "numbers"):
  FnOk P w K mg base CX0 1 f fd ["self"] (xu C):=by
 obtain⟨p1,p2,p3,p4,p5,p6,p7,p8,hbody⟩:=T.ex;refine F.ok S (fun vs H Q E h=>?_) (fun cdv A outer s H vs Q E hr h=>?_)
 ·obtain⟨x,dx,rfl,_⟩:=h;rfl
 ·obtain⟨x,dx,rfl,hx,q⟩:=h
  have vself:∀p:Pos,PE (cN CX0 P w K mg base ["self"] qual (defScope st) f cdv A outer s H E).nox (.Name "self" p) (tF 0):=fun p=>bL rfl ((S.par "self" (by simp)).elim .inl fun z=>.inr (.inl z))
  rw[hbody];refine⟨_,aK (tS (pos:=p4) (pos':=p2) (f:="objects") (vself p1) (tV (pos:=p3) aQ) rfl) (aK (tS (pos:=p8) (pos':=p6) (f:="numbers") (vself p5) (lK (pos:=p7)) rfl) dW),?_⟩;refine⟨Nat.zero_le _,fun l hl=>⟨.ref x,rfl,x,C,dx,[],rfl,?_,hc,h1,by decide,fun n hn=>⟨.ref x,rfl,x,C,dx,[("objects",.ref l)],rfl,?_,hc,h2,(show 1<1000 by decide),?_⟩⟩⟩
  ·rw[aa (ag hx hl)];exact hx
  ·have nx:n≠x:=fun z=>by subst z;rw[ae] at hn;cases hn
   rw[aa (Ne.symm nx)];exact ae
  ·have nx:n≠x:=fun z=>by subst z;rw[ae] at hn;cases hn
   rw[aa nx] at hn;have nl:n≠l:=fun z=>by subst z;rw[ae] at hn;cases hn
   rw[aa nl] at hn;exact q l n hl hn (Ne.symm nl)
def xw (l n:Addr)(h:Nat)(f:Str):(vfs l n h).lookup f=([("objects",.ref l),("numbers",.ref n)]:List (Str×V)).lookup f:=by
 unfold vfs;simp only[lk0];cases c:f=="objects"<;>rfl
structure xx (P:Program)(w:World)(K:Fg)(mg:Str->Option Value)(base:Heap)(C:Addr)(vn:Str):Prop where
 ex:∃f fd,Mk K C f/\mg vn=some (.ref C)/\(vn==("__debug__":Str))=false/\Binds K fd ["self"] []/\FnOk P w K mg base CX0 1 f fd ["self"] (xu C)
def Aw {C:Addr}{vn:Str}{U:Ust}(Z:xx X.prog X.w X.K X.mg X.base C vn)(hr:Room 2 X.A)(hg:Gl X vn):EvM X C ρ U (.Call (.Name vn p) [] [] pos) (.ok (.hdl U.length)) (U++[[]]):=by
 obtain⟨f,fd,hM,hm,hdb,hb,F⟩:=Z.ex;intro pins s σ H Q I h0;obtain⟨G0,H0,d0,G,d,E,kq⟩:=h0;refine thn (tW (p:=p) (pos:=pos) hM F hr hg hm hb .nil ue hdb pins s σ H (fun v H2=>∃x dx l n,v=.ref x/\H x=none/\H dx=none/\dx≠x/\l≠x/\n≠x/\l≠dx/\n≠dx/\l≠n/\H l=none/\H n=none/\H2=iY C x dx l n (upd (upd H dx (.own x)) x (.ins C dx []))) I ?_) fun u s2 hq=>?_
 ·intro x dx hx hdx hne
  refine⟨x,dx,rfl,ae,fun l n hl hn hln=>⟨rfl,x,dx,l,n,rfl,hx,hdx,hne,?_⟩⟩;have l1:l≠x:=fun z=>by subst z;rw[ae] at hl;cases hl
  rw[aa l1] at hl;have l2:l≠dx:=fun z=>by subst z;rw[ae] at hl;cases hl
  rw[aa l2] at hl;have n1:n≠x:=fun z=>by subst z;rw[ae] at hn;cases hn
  rw[aa n1] at hn;have n2:n≠dx:=fun z=>by subst z;rw[ae] at hn;cases hn
  rw[aa n2] at hn;exact⟨l1,n1,l2,n2,hln,hl,hn,rfl⟩
 ·obtain⟨v,H2,I2,rv,x,dx,l,n,rfl,hx,hdx,hne,l1,n1,l2,n2,hln,hl,hn,rfl⟩:=hq
  generalize hH2:iY C x dx l n (upd (upd H dx (.own x)) x (.ins C dx []))=H2 at I2;have at_x:H2 x=some (Au C dx l n):=by rw[←hH2];exact ae
  have at_n:H2 n=some (.dK []):=by rw[←hH2];unfold iY;rw[aa n1];exact ae
  have at_l:H2 l=some (.lst []):=by rw[←hH2];unfold iY;rw[aa l1,aa hln,aa l1];exact ae
  have at_dx:H2 dx=some (.own x):=by rw[←hH2];unfold iY;rw[aa hne,aa (Ne.symm n2),aa hne,aa (Ne.symm l2),aa hne];exact ae
  have other:∀b,b≠x->b≠dx->b≠l->b≠n->H2 b=H b:=fun b b1 b2 b3 b4=>by rw[←hH2];unfold iY;rw[aa b1,aa b4,aa b1,aa b3,aa b1,aa b2]
  obtain⟨_,hsm,vs,kv,⟨o,es,ep,ho,hex,hdt,_,hpr,_⟩⟩:=(show ObjOk X.prog X.w H2 s2.heap n (.dK []) from I2.hok n _ at_n);have hvs:vs=[]:=by cases kv;rfl
  subst hvs;have hes:es.toList=[]:=by cases q:es.toList with|nil=>rfl|cons a r=>rw[q] at hpr;cases hpr
  have num:cj X.prog X.w n [] [] s2.heap:=⟨hsm,[],.nil,by decide,o,es,ep,ho,hex,hdt,hes,List.nodup_nil⟩;have I3:Inv X pins σ (upd H2 n (.ext (cj X.prog X.w n [] []))) {s2 with heap:=s2.heap,toks:=s2.toks}:=I2.write (x:=n) (e:=n) (by rw[at_n];exact True.intro) (.inl rfl) (fun b w g e=>e) ⟨o,ho⟩
   ⟨num,⟨o,ho⟩,fun h1' h2' ⟨y1,ys,y2,y3,yo,yes,yep,y4,y5⟩ k=>⟨y1,ys,y2,y3,yo,yes,yep,k yo y4,y5⟩⟩
  generalize hH3:upd H2 n (.ext (cj X.prog X.w n [] []))=H3 at I3;have b_x:H3 x=some (Au C dx l n):=by rw[←hH3,aa (Ne.symm n1)];exact at_x
  have b_dx:H3 dx=some (.own x):=by rw[←hH3,aa (Ne.symm n2)];exact at_dx
  obtain⟨z1,z2,z3,z4,mA,z5,z6,z7⟩:=(show ObjOk X.prog X.w H3 s2.heap x (Au C dx l n) from I3.hok x _ b_x);have I4:Inv X pins σ (upd H3 x (.ins C dx (vfs l n U.length))) {s2 with heap:=s2.heap,toks:=s2.toks}:=I3.write (x:=x) (e:=x) (by rw[b_x];exact True.intro) (.inl rfl) (fun b w g e=>e) ⟨_,z4⟩
   ⟨by rw[aa hne];exact b_dx,(show 3≤1000 by decide),z3,z4,mA,z5,fun f=>by rw[xw];exact z6 f,fun f hf=>by
    have:=z7 f hf;simp only[mk0,List.map_nil,List.mem_cons,List.not_mem_nil,or_false] at this;unfold vfs;rcases this with z|z
    ·exact List.mem_cons.mpr (.inl z)
    ·exact mc0 _ (List.mem_cons.mpr (.inl z))⟩
  generalize hH4:upd H3 x (.ins C dx (vfs l n U.length))=H4 at I4;have c_x:H4 x=some (.ins C dx (vfs l n U.length)):=by rw[←hH4];exact ae
  have c_dx:H4 dx=some (.own x):=by rw[←hH4,aa hne];exact b_dx
  have c_n:H4 n=some (.ext (cj X.prog X.w n [] [])):=by rw[←hH4,aa n1,←hH3];exact ae
  have c_l:H4 l=some (.lst []):=by rw[←hH4,aa l1,←hH3,aa hln];exact at_l
  have c_o:∀b,b≠x->b≠dx->b≠l->b≠n->H4 b=H b:=fun b b1 b2 b3 b4=>by rw[←hH4,aa b1,←hH3,aa b4];exact other b b1 b2 b3 b4
  have keep:∀b o,H b=some o->H4 b=some o:=fun b o e=>by
   rw[c_o b (ag e hx) (ag e hdx) (ag e hl) (ag e hn)];exact e
  have hlen:=E.vs.len
  let G':Hp:=upd G x (.ins C dx (vfs l n U.length))
  have gx:∀b,H b=none->G b=none:=fun b hb=>E.sub.free hb
  have gg:Same G G':=aV (gx x hx);have pd:parts (d++[(x,l,n)])=parts d++[l,n]:=by unfold parts;rw[List.flatMap_append,←List.append_assoc];rfl
  have nl:∀b,H b=none->b∉parts d:=fun b hb z=>by
   obtain⟨o,ho⟩:=E.vs.part z;rw[hb] at ho;cases ho
  have hh:Same (er H (parts d)) (er H4 (parts (d++[(x,l,n)]))):=fun b o e=>by
   obtain⟨e1,e2⟩:=aU e;rw[aA (by
           rw[pd];intro z;rcases ma0 z with z|z
           ·exact e1 z
           ·simp only[List.mem_cons,List.not_mem_nil,or_false] at z
            rcases z with rfl|rfl
            ·rw[hl] at e2;cases e2
            ·rw[hn] at e2;cases e2)]
   exact keep b o e2
  have mx:MExt G H d G' H4 (d++[(x,l,n)]):=by
   refine⟨gg,hh,fun b o e=>?_,fun b o e1 e2=>?_,List.prefix_append _ _,fun b o e=>⟨o,keep b o e⟩⟩
   ·by_cases c:b=x
    ·subst c
     have e:upd G b (.ins C dx (vfs l n U.length)) b=some o:=e;rw[ae] at e;cases e;rw[aA (by
             rw[pd];intro z;rcases ma0 z with z|z
             ·exact nl b hx z
             ·simp only[List.mem_cons,List.not_mem_nil,or_false] at z
              rcases z with z|z
              ·exact l1 z.symm
              ·exact n1 z.symm)]
     exact c_x
    ·have e:upd G x (.ins C dx (vfs l n U.length)) b=some o:=e
     rw[aa c] at e;exact hh b o (E.sub' b o e)
   ·show upd G x (.ins C dx (vfs l n U.length)) b=none
    rw[aa (ag e2 hx)];exact e1
  have v':VS X.prog X.w X.K C G' H4 (d++[(x,l,n)]) (U++[[]]):=by
   refine⟨by simp[hlen],?_,fun h a l' n' e=>?_,fun a C' dx' fs q=>?_,fun b hb=>?_,fun p hp=>let ⟨ps,e⟩:=E.vs.tb p hp;⟨ps,keep _ _ e⟩⟩
   ·rw[pd]
    refine List.nodup_append.mpr ⟨E.vs.nd,by simp[hln],fun a ha b hb z=>?_⟩;subst z;simp only[List.mem_cons,List.not_mem_nil,or_false] at hb;rcases hb with rfl|rfl
    ·exact nl _ hl ha
    ·exact nl _ hn ha
   ·by_cases hlt:h<d.length
    ·rw[gl0 hlt] at e
     obtain⟨dx',objs,q1,q2,q3,as,q4,q5,q6,q7⟩:=E.vs.at' h a l' n' e;exact⟨dx',objs,by rw[gl0 (by rw[←hlen];exact hlt)];exact q1,gg _ _ q2,keep _ _ q3,as,keep _ _ q4,q5.mono gg,keep _ _ q6,q7⟩
    ·rw[List.getElem?_append_right (by omega)] at e
     have h0:h-d.length=0:=by
      have:=(gi0 e).1;simp at this;omega
     rw[h0] at e;cases e;have eh:h=U.length:=by omega
     subst eh;refine⟨dx,[],by simp,ae,c_dx,[],c_l,.nil,c_n,fun g z=>by cases z⟩
   ·by_cases c:a=x
    ·subst c
     exact⟨d.length,l,n,by simp⟩
    ·have q':H a=some (.ins C' dx' fs):=by
      by_cases c1:a=dx
      ·subst c1;rw[c_dx] at q;cases q
      by_cases c2:a=l
      ·subst c2;rw[c_l] at q;cases q
      by_cases c3:a=n
      ·subst c3;rw[c_n] at q;cases q
      rw[c_o a c c1 c2 c3] at q;exact q
     obtain⟨h,l',n',e⟩:=E.vs.uni a C' dx' fs q';exact⟨h,l',n',by rw[gl0 (gi0 e).1];exact e⟩
   ·show upd G x (.ins C dx (vfs l n U.length)) b=none
    rw[pd] at hb;rcases ma0 hb with hb|hb
    ·rw[aa (fun z=>by subst z;exact nl _ hx hb)];exact E.vs.out b hb
    ·simp only[List.mem_cons,List.not_mem_nil,or_false] at hb
     rcases hb with rfl|rfl
     ·rw[aa l1];exact gx _ hl
     ·rw[aa n1];exact gx _ hn
  exact⟨.ref x,H4,I4,rv,kq (.ref x) G' H4 _ mx v' (.hdl (show upd G x (.ins C dx (vfs l n U.length)) x=_ from ae))⟩
end L2.Z
set_option maxRecDepth 10000
end
section
variable {ns qs sn xs:List Int}{α β:Type}{a i j x:Int}{N c n:Nat}{h:PySem.Heap}{ds os:List SI.D}{q:PySem.Program}{loose vms:List PySem.Str}{m:PySem.Str}{ρ:List SI.Sl}{fl:List Bool}{s2 s5:SI.Sl}{mg:PySem.Str->Option PySem.Value}
namespace TX
open PySem SI
noncomputable def dR:Def:=⟨[true,true],2,(.B (.ifs (.v 0) (.A (.ret (.idx (.v 0) (.op .mod (.v 1) (.bi .len (.A (.v 0))))))) .nil) (.ret (.k (.int 0))))⟩
noncomputable def hV:Def:=⟨[true,true],3,(.cons (.set 2 (.op .mod (.op .add (.call "_law_cell" (.B (.v 0) (.v 1))) (.op .mul (.k (.int 104729)) (.op .add (.v 1) (.k (.int 1))))) (.k (.int 4294967291)))) (.B (.set 2 (.op .mod (.op .mul (.v 2) (.k (.int 48271))) (.k (.int 4294967279)))) (.ret (.op .mod (.op .add (.op .mul (.op .fdiv (.v 2) (.k (.int 64))) (.k (.int 69621))) (.v 2)) (.k (.int 4294967231))))))⟩
noncomputable def jX:Def:=⟨[true],1,(.A (.ret (.and (.isi (.v 0) "int") (.not (.isi (.v 0) "bool")))))⟩
variable {Φ:Fs}{Γ:List (Str×D)}
noncomputable def ans (Φ:Fs)(Γ:List (Str×D))(d:Def)(ds:List D):Option D:=(exs Φ Γ (bN d ds) d.body).bind Out.val
def Has (Φ:Fs)(f:Str)(fl:List Bool)(P:(List D->Option D)->Prop):Prop:=∃run,Φ f=some ⟨fl,run⟩/\P run
noncomputable def jY (ns:List Int)(k:Int):Int:=if ns=[] then 0 else (ns[(k % ns.length).toNat]?).getD 0
def Ax (h:ns≠[])(k:Int):0≤k % (ns.length:Int)/\k % (ns.length:Int)<ns.length:=by
 have:0<ns.length:=lp0 h;exact⟨en0 _ (by omega),el0 _ (by omega)⟩
def qB {xs:List α}(h0:0≤i)(h1:i<xs.length):atI xs i=xs[i.toNat]?:=by
 unfold atI ixN;rw[if_pos h0,if_pos h1];rfl
def sW {xs:List α}{i:Nat}(d:α)(h:i<xs.length):xs[i]?=some (xs[i]?.getD d):=by
 rw[ge0 h];rfl
def xy (ns:List Int)(k:Int):ans Φ Γ dR [.scr ns,.int k]=some (.int (jY ns k)):=by
 by_cases h:ns=[]
 ·subst h;simp[ans,dR,jY]
 ·have hl:0<ns.length:=lp0 h
  have hm:=Ax h k;have e:atI ns (k % (ns.length:Int))=some (jY ns k):=by
   rw[qB hm.1 hm.2,sW 0 (by omega)];simp[jY,h]
  simp[ans,dR,h,hl,e]
end TX
namespace M1
open PySem PySem.Builtin PySem.Builtin.Str
def ext {a b:Str}(h:a.cps.toList=b.cps.toList):a=b:=by
 cases a;cases b
 congr 1
 exact Array.toList_inj.mp h
def toL_append (a b:Str):(a++b).cps.toList=a.cps.toList++b.cps.toList:=by
 show (a.cps++b.cps).toList=_;simp
end M1
namespace TX
open PySem SI M1
variable {Φ:Fs}{Γ:List (Str×D)}
noncomputable def mixF (ns:List Int)(k:Int):Int:=
 let a:=(jY ns k+104729*(k+1)) % 4294967291
 let b:=a*48271 % 4294967279
 (b / 64*69621+b) % 4294967231
abbrev BA (Φ:Fs):Prop:=Has Φ "_law_cell" [true,true] fun run=>∀ns k,run [.scr ns,.int k]=some (.int (jY ns k))
abbrev oY (Φ:Fs):Prop:=Has Φ "_law_mix" [true,true] fun run=>∀ns k,run [.scr ns,.int k]=some (.int (mixF ns k))
def lh (i:Int)(j:Int)(h1:-(2 ^ 64)<j)(h2:j<2 ^ 64):lM i j=true:=by
 unfold lM;rw[dt0 h1,dt0 h2];simp
def xA (i:Int)(j:Int)(h1:-(2 ^ 64)<i)(h2:i<2 ^ 64):lM i j=true:=by
 unfold lM;rw[dt0 h1,dt0 h2];simp
def Ay (hc:BA Φ)(ns:List Int)(k:Int):ans Φ Γ hV [.scr ns,.int k]=some (.int (mixF ns k)):=by
 obtain⟨run,h,hs⟩:=hc;simp[ans,hV,h,hs,xA 104729,lh _ 48271,lh _ 69621,mixF]
def eu (ns:List Int)(k:Int)(m:Int)(h:0<m):0≤mixF ns k % m/\mixF ns k % m<m:=⟨en0 _ (by omega),el0 _ h⟩
variable {Φ:Fs}{Γ:List (Str×D)}
theorem fX {f:D->Option (Option D)}{inj g:β->D}:∀{xs:List β},(∀x∈xs,f (inj x)=some (some (g x)))->aO f (xs.map inj)=some (xs.map g)
 |[],_=>rfl
 |x::r,h=>by
  show (f (inj x)).bind _=_;rw[h x ms0];show (aO f (r.map inj)).map _=_;rw[fX fun y hy=>h y (mc0 _ hy)];rfl
theorem bf {f:D->Option (Option D)}{inj g:β->D}{p:β->Bool}:∀{xs:List β},(∀x∈xs,f (inj x)=some (if p x then some (g x) else none))->aO f (xs.map inj)=some ((xs.filter p).map g)
 |[],_=>rfl
 |x::r,h=>by
  show (f (inj x)).bind _=_;rw[h x ms0];show (aO f (r.map inj)).map _=_;rw[bf fun y hy=>h y (mc0 _ hy),List.filter_cons];cases p x<;>rfl
end TX
set_option maxRecDepth 10000
namespace TX
open PySem SI L2.Z
noncomputable def dq:Def:=⟨[true],1,(.A (.ret (.bi .all (.A (.comp 2 [] (.tup [0,1]) (.zip (.B (.v 0) (.sl (.v 0) (.A (.k (.int 1))) .nil))) .nil (.cmp .lt (.v 0) (.v 1)))))))⟩
end TX
namespace TX
open PySem SI M1 L2.Z
variable {Φ:Fs}{Γ:List (Str×D)}
def Az (c:Nat)(y:Str):hasSub ⟨#[c]⟩ y=decide (c∈y.cps.toList):=PySem.StrLaws.found_one y c
variable {Φ:Fs}{Ψ:FsM}{Γ:List (Str×D)}
def dt (Ψ:FsM)(f:Str)(fl:List Bool)(P:(Ust->List D->Option (Ust×R))->Prop):Prop:=∃run,Ψ f=some ⟨fl,run⟩/\P run
@[simp] def Ej {h:Nat}:jC c (.vlt c h os)=true:=by simp[jC]
@[simp] def GO {h:Nat}:yM (.vlt c h os)=os:=rfl
@[simp] def GP {o:Option D}:roM .read o=o:=rfl
@[simp] def GQ {o:Option D}:roM .test o=o:=rfl
@[simp] def Jd :vE c [os] (.dat (.hdl 0))=.lent (.vlt c 0 os):=rfl
@[simp] def Je {U:Ust}{x:Str}:vE c U (.dat (.str x))=.dat (.str x):=rfl
@[simp] def Jf {U:Ust}:vE c U (.dat (.int x))=.dat (.int x):=rfl
@[simp] def Ij {U:Ust}{x:Bool}:vE c U (.dat (.bool x))=.dat (.bool x):=rfl
@[simp] def Ik {U:Ust}{x:List D}:vE c U (.dat (.list x))=.dat (.list x):=rfl
@[simp] def Il {U:Ust}:vE c U (.dat .none)=.dat .none:=rfl
@[simp] def Jg {U:Ust}{x:Nat}:vE c U (.dat (.exc x))=.dat (.exc x):=rfl
@[simp] def JM {U:Ust}:vE c U .no=.no:=rfl
@[simp] def Im {U:Ust}{d:D}:vE c U (.lent d)=.lent d:=rfl
noncomputable abbrev qC:Str:=⟨#[98,108,111,98]⟩
noncomputable abbrev ck:Str:=⟨#[116,114,101,101]⟩
noncomputable abbrev ah:Str:=⟨#[99,111,109,109,105,116]⟩
noncomputable def cy (Φ:Fs)(Ψ:FsM)(Γ:List (Str×D))(c:Nat)(d:aW)(U:Ust)(ds:List D):Option (Ust×R):=(ba Φ Ψ Γ c (startM d ds) U d.body).map fun q=>(q.2,mQ q.1)
abbrev AA (Ψ:FsM):Prop:=Ψ (aE "put")=some iX
end TX
namespace L2.Z
open PySem PySem.Spec PyProof.Rows L2 L2.C SI
def run_eq {Φ:Fs}{Γ:List (Str×D)}{d:Def}(h:ds.length=d.lent.length):(zH Φ Γ d).run ds=TX.ans Φ Γ d ds:=if_pos h
def cL {prog:List (Str×Def)}{Γ:List (Str×D)}{k:Nat}{x:Str}{d:Def}{P:(List D->Option D)->Prop}(h:prog.lookup x=some d)(hP:P (zH (den prog Γ k) Γ d).run):TX.Has (den prog Γ (k+1)) x d.lent P:=
 ⟨_,by show (prog.lookup x).map _=_;rw[h];rfl,hP⟩
def walk {l:PySem.W.OpenLaw}{XP:(Str->Option Value)->Heap->Prop}{YP:World->Heap->Prop}{d:DefRec}{K:Params->fg0}(hn:l.most=some 63)(hdf:d.params.defaults=[])
  (hY:∀(w:World) (h:Heap),YP w h->(K w.params).In h)
  (F:∀(w:World) (mg:Str->Option Value) (fa:Addr) (h:Heap),(K w.params).In h->h.Ns mainGlobals mg->mg d.name=some (.ref fa)->
   ∃fd:FuncData,(∀(s:Shared) (u:Value),BindsTo s fd ⟨[u],[]⟩ [("_law_script",u)])/\∀base:Heap,(K w.params).In base->base.Ns mainGlobals mg->FnOk l.prog w (K w.params) mg base CX0 40 fa fd ["_law_script"] (vH (K w.params)))
  (hT:∀(w:World) (h:Heap),YP w h->∀p∈lamTs,(K w.params).lookup p.1=Option.none/\h.get? p.1=some (PySem.W.tabObj #[])/\isCodeTable h p.1/\lamTs.lookup p.1=some p.2):
  PySem.W.WalkO q loose XP YP l.row.toRowW d [] (fun f vs=>PySem.call f vs):=
 L2.pP (n:=63) (k:=40) (x:="_law_script") (CX:=fun b=>CX0) (sp:=fun w=>vH (K w.params)) hn (by decide) hdf ⟨rfl,by decide,by decide⟩ hY F (fun b b a ns hl b hS=>⟨a,ns,rfl,hS,hl,fun b=>rfl⟩) (fun b b b b b z=>z) hT
noncomputable def GR (Q:Str->Prop):List Str->Prop
 |[]=>True
 |x::r=>Q x/\GR Q r
theorem qD {Q:Str->Prop}:∀{xs:List Str},GR Q xs->∀x∈xs,Q x
 |[],_,x,h=>by cases h
 |y::r,hq,x,h=>(mq0 h).elim (fun e=>e▸hq.1) (qD hq.2 x)
noncomputable def GS (Q:Str->D->Prop):List (Str×D)->Prop
 |[]=>True
 |p::r=>Q p.1 p.2/\GS Q r
theorem qE {Q:Str->D->Prop}:∀{prog:List (Str×D)},GS Q prog->∀x d,prog.lookup x=some d->Q x d
 |[],_,x,d,h=>by cases h
 |(y,e)::r,hq,x,d,h=>by
  rw[lk0] at h;cases hxy:x==y with
  |true=>
   rw[hxy] at h;have:=eq_of_beq hxy;subst this;cases h;exact hq.1
  |false=>rw[hxy] at h;exact qE hq.2 x d h
def len1 {P:List Value->Prop}(h:∀a,P [a])(us)(e:us.length=1):P us:=by
 obtain⟨a,rfl⟩:=List.length_eq_one_iff.mp e;exact h a
def len2 {P:List Value->Prop}(h:∀a b,P [a,b])(us)(e:us.length=2):P us:=by
 cases us with|nil=>cases e|cons a r=>exact len1 (P:=fun r=>P (a::r)) (h a) r (Nat.succ.inj e)
def len3 {P:List Value->Prop}(h:∀a b c,P [a,b,c])(us)(e:us.length=3):P us:=by
 cases us with|nil=>cases e|cons a r=>exact len2 (P:=fun r=>P (a::r)) (h a) r (Nat.succ.inj e)
def Jh {P:List Value->Prop}(h:∀a b c d e,P [a,b,c,d,e])(us)(e:us.length=5):P us:=by
 cases us with|nil=>cases e|cons a r=>cases r with|nil=>cases e|cons b r=>exact len3 (P:=fun r=>P (a::b::r)) (h a b) r (Nat.succ.inj (Nat.succ.inj e))
def walkX {XP:(Str->Option Value)->Heap->Prop}{K:Params->fg0}{ads:List Addr}{t:Nat}{r:PySem.W.RowW}{d:DefRec}{kwd:List (Str×Expr)}{run:Value->List Value->Sem Value}
  (e:∀P:Params,ads=(K P).map (·.1)) (h:PySem.W.WalkO q loose XP (fun w h=>(K w.params).In h) r d kwd run):PySem.W.WalkX q loose XP (PySem.W.X.obsZ ads) (PySem.W.X.valZ K n t) r d kwd run:=
 fun w s₀ s₁ mg mb G y a o pm cd doc dV kV ho hd hcd hD hmg hg args vals as L hpre hlay hrd hwl hlo=>
  h w _ _ mg mb G (fun b o e'=>L.keeps b o ((PySem.W.X.z_facts e y).2.1 b o e')) a o pm cd _ dV kV ho hd hcd hD hmg hg _ _ as hpre hlay hrd hwl hlo
def aI {Φ:Fs}{Ψ:FsM}{Γ:List (Str×D)}{d:aW}{U:Ust}(h:ds.length=d.lent.length):(runM Φ Ψ Γ c d).run U ds=TX.cy Φ Ψ Γ c d U ds:=if_pos h
def aM {Ψ0:FsM}{prog:List (Str×Def)}{progM:List (Str×aW)}{Γ:List (Str×D)}{k:Nat}{x:Str}{d:aW}{P:(Ust->List D->Option (Ust×R))->Prop}(h0:Ψ0 x=Option.none)(h:progM.lookup x=some d)(hP:P (runM (den prog Γ k) (jo Ψ0 prog progM Γ c k) Γ c d).run):
  TX.dt (jo Ψ0 prog progM Γ c (k+1)) x d.lent P:=
 ⟨_,by show (match Ψ0 x with|some φ=>some φ|Option.none=>(progM.lookup x).map _)=_;rw[h0,h];rfl,hP⟩
noncomputable def sX:FsM:=fun f=>if f=aE "put" then some iX else Option.none
def mW:sX (aE "put")=some iX:=if_pos rfl
def qF {prog:List (Str×Def)}{progM:List (Str×aW)}{Γ:List (Str×D)}(k:Nat):TX.AA (jo sX prog progM Γ c k):=by
 unfold TX.AA;cases k with
 |zero=>exact mW
 |succ k=>rw[jo,mW]
def AB {φ:FnM}(h:sX (aE m)=some φ):aE m=aE "put"/\φ=iX:=by
 unfold sX at h
 grind
def eA {a b:Str}(h:aE a=aE b):a=b:=by
 unfold aE at h;have e:=congrArg (fun s=>s.cps.toList) h;simp only[M1.toL_append] at e;exact M1.ext (List.append_cancel_left e)
def walkM {l:PySem.W.OpenLaw}{XP:(Str->Option Value)->Heap->Prop}{YP:World->Heap->Prop}{d:DefRec}{K:Params->fg0}(hn:l.most=some 63)(hdf:d.params.defaults=[])
  (hY:∀(w:World) (h:Heap),YP w h->(K w.params).In h)
  (F:∀(w:World) (mg:Str->Option Value) (fa:Addr) (h:Heap),(K w.params).In h->h.Ns mainGlobals mg->mg d.name=some (.ref fa)->
   ∃fd:FuncData,(∀(s:Shared) (u:Value),BindsTo s fd ⟨[u],[]⟩ [("_law_script",u)])/\∀base:Heap,(K w.params).In base->base.Ns mainGlobals mg->FnOk l.prog w (K w.params) mg base CX0 40 fa fd ["_law_script"] (iU (K w.params)))
  (hT:∀(w:World) (h:Heap),YP w h->∀p∈lamTs,(K w.params).lookup p.1=Option.none/\h.get? p.1=some (PySem.W.tabObj #[])/\isCodeTable h p.1/\lamTs.lookup p.1=some p.2):
  PySem.W.WalkO q loose XP YP l.row.toRowW d [] (fun f vs=>PySem.call f vs):=
 L2.pP (n:=63) (k:=40) (x:="_law_script") (CX:=fun c=>CX0) (sp:=fun w=>iU (K w.params)) hn (by decide) hdf ⟨rfl,by decide,by decide⟩ hY F (fun c c a ns hl hO hS=>⟨⟨a,ns,rfl,hS,hl,fun c=>rfl⟩,(fun b C dx fs e=>by
  rcases hO.1 b with z|⟨o,xs,z⟩|⟨p,_,_,z⟩
  ·rw[z] at e;cases e
  ·rw[z] at e;cases e
  ·rw[z] at e;cases e),fun p hp=>⟨_,hO.2 p hp⟩⟩) (fun c c c c c z=>z) hT
def eB {a b:Nat}{x y t:Bool}{e:Nat}(h:List.lookup e [(a,x),(b,y)]=some t):(e=a/\t=x)\/(e=b/\t=y):=by
 rw[lk0] at h;cases q:e==a with
 |true=>simp_all
 |false=>
  rw[lk0] at h;cases q2:e==b<;>simp_all
def mX {K:Fg}(c:Addr):PySem.W.kitOne K (.ref c) (.ref c)=some true:=by
 unfold PySem.W.kitOne;simp
noncomputable def GT {α:Type}(Q:Str->α->Prop):List (Str×α)->Prop
 |[]=>True
 |p::r=>Q p.1 p.2/\GT Q r
theorem cA {Q:Str->α->Prop}:∀{prog:List (Str×α)},GT Q prog->∀x d,prog.lookup x=some d->Q x d
 |[],_,x,d,h=>by cases h
 |(y,e)::r,hq,x,d,h=>by
  rw[lk0] at h;cases hxy:x==y with
  |true=>
   rw[hxy] at h;have:=eq_of_beq hxy;subst this;cases h;exact hq.1
  |false=>rw[hxy] at h;exact cA hq.2 x d h
def GU {x:Str}(h:(vms.all fun m=>!(x==aE m))=true)(e:x=aE m)(hm:vms.contains m=true):False:=by
 have:=List.all_eq_true.mp h m (List.contains_iff_mem.mp hm)
 simp_all
end L2.Z
set_option maxRecDepth 10000
namespace TX
open PySem SI L2.Z
noncomputable def bX (cV:Nat)(cNO:Nat):aW:=⟨[false,false],2,(.B (.ifs (.not (.chain .le .lt (.k (.int 0)) (.v 1) (.bi .len (.A (.vob cV (.v 0)))))) (.A (.raise cNO (.G (.p (.k (.str ⟨#[110,111,32,111,98,106,101,99,116,32,104,97,115,32,116,104,105,115,32,110,117,109,98,101,114]⟩)))))) .nil) (.ret (.p (.idx (.vob cV (.v 0)) (.v 1)))))⟩
noncomputable def bR (cNO:Nat):aW:=⟨[false,false,false],4,(.cons (.set 3 (.meth "held" 0 (.W 1))) (.B (.ifs (.cmp .ne (.idx (.v 3) (.k (.int 0))) (.v 2)) (.A (.raise cNO (.G (.p (.bi .fst (.B (.k (.str ⟨#[116,104,101,32,111,98,106,101,99,116,32,119,105,116,104,32,116,104,105,115,32,110,117,109,98,101,114,32,105,115,32,110,111,32]⟩)) (.v 2))))))) .nil) (.ret (.p (.idx (.v 3) (.k (.int 1)))))))⟩
end TX
set_option maxRecDepth 10000
namespace TX
open PySem SI L2.Z
noncomputable def fB:Def:=⟨[true,true,true],4,(.cons (.set 3 (.call "_law_mix" (.B (.v 0) (.v 1)))) (.B (.ifs (.or (.cmp .eq (.op .mod (.v 3) (.k (.int 4))) (.k (.int 0))) (.cmp .eq (.v 2) (.k (.int 0)))) (.A (.ret (.idx (.lst (.cons (.neg (.k (.int 1))) (.cons (.v 2) (.cons (.op .add (.v 2) (.k (.int 1))) (.B (.op .add (.k (.int 100000000000000)) (.op .mod (.v 3) (.k (.int 1000)))) (.op .sub (.neg (.k (.int 100))) (.op .mod (.v 3) (.k (.int 1000))))))))) (.op .mod (.op .fdiv (.v 3) (.k (.int 4))) (.k (.int 5)))))) .nil) (.ret (.op .mod (.op .fdiv (.v 3) (.k (.int 4))) (.v 2)))))⟩
noncomputable def fC:aW:=⟨[false,false,false,false,false],5,(.B (.expr (.call "refuse_wrong_commit" (.va 0 (.va 1 (.va 2 (.va 3 (.W 4))))))) (.ret (.meth "put" 0 (.G (.p (.tup (.B (.k (.str ⟨#[99,111,109,109,105,116]⟩)) (.tup (.cons (.v 1) (.cons (.bi .tuple (.A (.v 2))) (.B (.v 3) (.v 4))))))))))))⟩
noncomputable def bS:aW:=⟨[false,false],3,(.B (.set 2 (.meth "content" 0 (.va 1 (.G (.p (.k (.str ⟨#[99,111,109,109,105,116]⟩))))))) (.ret (.p (.tup (.cons (.idx (.v 2) (.k (.int 0))) (.cons (.bi .list (.A (.idx (.v 2) (.k (.int 1))))) (.B (.idx (.v 2) (.k (.int 2))) (.idx (.v 2) (.k (.int 3))))))))))⟩
noncomputable def ay:aW:=⟨[false,false],2,(.A (.expr (.meth "content" 0 (.va 1 (.G (.p (.k (.str ⟨#[116,114,101,101]⟩))))))))⟩
noncomputable def aJ (cBC:Nat):aW:=⟨[false,false,false,false,false],6,(.cons (.expr (.call "refuse_what_is_no_tree" (.va 0 (.W 1)))) (.cons (.fors (.one 5) (.seq (.v 2)) (.A (.expr (.meth "content" 0 (.va 5 (.G (.p (.k (.str ⟨#[99,111,109,109,105,116]⟩))))))))) (.cons (.ifs (.cmp .gt (.bi .len (.A (.v 2))) (.g "MOST_PARENTS")) (.A (.raise cBC (.G (.p (.k (.str ⟨#[97,32,99,111,109,109,105,116,32,104,97,115,32,97,116,32,109,111,115,116,32,116,119,111,32,112,97,114,101,110,116,115]⟩)))))) .nil) (.cons (.ifs (.cmp .lt (.bi .nset (.A (.v 2))) (.bi .len (.A (.v 2)))) (.A (.raise cBC (.G (.p (.k (.str ⟨#[116,104,101,32,112,97,114,101,110,116,115,32,97,114,101,32,97,108,105,107,101]⟩)))))) .nil) (.B (.ifs (.cmp .lt (.v 3) (.k (.int 0))) (.A (.raise cBC (.G (.p (.k (.str ⟨#[116,104,101,32,116,105,109,101,32,108,105,101,115,32,98,101,108,111,119,32,48]⟩)))))) .nil) (.ifs (.cmp .isin (.k (.str ⟨#[10]⟩)) (.v 4)) (.A (.raise cBC (.G (.p (.k (.str ⟨#[116,104,101,32,109,101,115,115,97,103,101,32,104,97,115,32,97,32,108,105,110,101,32,101,110,100]⟩)))))) .nil))))))⟩
noncomputable def sY:aW:=⟨[false,false],2,(.A (.ret (.ix 0 (.meth "held" 0 (.W 1)))))⟩
end TX
namespace TX
open PySem SI M1 L2.Z
variable {Φ:Fs}{Ψ:FsM}{Γ:List (Str×D)}{cNO cBT:Nat}
end TX
namespace SI
open PySem
section
variable {x0 y:α}{l:List α}
@[simp ↓ high] def gt0:(x0::l)[0]?=some x0:=rfl
@[simp ↓ high] def gtS :(x0::l)[n+1]?=l[n]?:=rfl
@[simp ↓ high] def st0:(x0::l).set 0 y=y::l:=rfl
@[simp ↓ high] def stS :(x0::l).set (n+1) y=x0::l.set n y:=rfl
end
noncomputable def fzM (ρ:List Sl):List Sl:=ρ.map freeze
@[simp ↓ high] def fz_g  {i:Nat}:(fzM ρ)[i]?=ρ[i]?.map freeze:=gm0
section
variable {Φ:Fs}{Γ:List (Str×D)}{s:S}{r a b:Ss}{d:D}{m:Md}{t:Bool}{e:E}
noncomputable def nxS (Φ:Fs)(Γ:List (Str×D))(o:Option Out)(r:Ss):Option Out:=o.bind fun o=>o.andThen fun ρ'=>exs Φ Γ ρ' r
noncomputable def ifS (Φ:Fs)(Γ:List (Str×D))(o:Option D)(ρ:List Sl)(a b:Ss):Option Out:=o.bind fun d=>(asB d).bind fun t=>if t then exs Φ Γ ρ a else exs Φ Γ ρ b
noncomputable def gQ (Φ:Fs)(Γ:List (Str×D))(tg:Tg)(body:Ss)(ds:List D)(ρ:List Sl):Option Out:=forL (aw tg) (fun ρ'=>exs Φ Γ ρ' body) ds ρ
noncomputable def cpF (Φ:Fs)(Γ:List (Str×D))(ρ:List Sl)(nt:Nat)(js:List Nat)(tg:Tg)(ifs:Es)(elt:E)(d:D):Option (Option D):=(aw tg d (blk nt js ρ)).bind fun ρ'=>(evC Φ Γ ρ' ifs).bind fun t=>if t then (ev Φ Γ .val ρ' elt).map some else some none
@[simp ↓ high] def exs_c:exs Φ Γ ρ (.cons s r)=nxS Φ Γ (ex Φ Γ ρ s) r:=(rfl)
@[simp] def Kf:nxS Φ Γ (some (.nx ρ)) r=exs Φ Γ ρ r:=(rfl)
@[simp] def Kg:nxS Φ Γ (some (.rt d)) r=some (.rt d):=(rfl)
@[simp ↓ high] def ex_if {c:E}:ex Φ Γ ρ (.ifs c a b)=ifS Φ Γ (ev Φ Γ .test ρ c) ρ a b:=(rfl)
@[simp] def Kh:ifS Φ Γ (some (.bool t)) ρ a b=if t then exs Φ Γ ρ a else exs Φ Γ ρ b:=(rfl)
@[simp ↓ high] def ex_ret:ex Φ Γ ρ (.ret e)=(ev Φ Γ .val (fzM ρ) e).map .rt:=(rfl)
@[simp ↓ high] def ex_for {tg:Tg} {src:I}:ex Φ Γ ρ (.fors tg src r)=(evI Φ Γ .walk ρ src).bind fun ds=>gQ Φ Γ tg r ds ρ:=(rfl)
@[simp ↓ high] def ev_cp {nt:Nat} {js:List Nat} {tg:Tg} {src:I} {ifs:Es}:ev Φ Γ m ρ (.comp nt js tg src ifs e)=fin m ((evI Φ Γ .read ρ src).bind fun ds=>if ds.length≤big then (aO (cpF Φ Γ ρ nt js tg ifs e) ds).map .list else none):=(rfl)
noncomputable def xB (o:Option D):Option (List D):=o.bind fun d=>(asI d).bind fun n=>if rOk n then some ((List.range n.toNat).map fun (k:Nat)=>.int k) else none
@[simp ↓ high] def evI_r:evI Φ Γ m ρ (.rng e)=xB (ev Φ Γ .val ρ e):=(rfl)
def AC {n:Int}(h1:-1000000≤n)(h2:n≤1000000):xB (some (.int n))=some ((List.range n.toNat).map fun (k:Nat)=>.int k):=by
 show (if rOk n then _ else _)=_;rw[if_pos (uj h1 h2)]
def Ji (h:n≤1000000):xB (some (.int n))=some ((List.range n).map fun (k:Nat)=>.int k):=AC (by omega) (by omega)
noncomputable def El (o:Option D):Option (List D):=o.bind fun d=>xB (biD .len [d])
@[simp ↓ 20000] def evI_rl:evI Φ Γ m ρ (.rng (.bi .len (.cons e .nil)))=El (ev Φ Γ .read ρ e):=by
 show xB (((ev Φ Γ .read ρ e).bind fun x=>some [x]).bind fun ds=>biD .len ds)=_;cases h:ev Φ Γ .read ρ e<;>rfl
def GV (h:ds.length≤1000000):El (some (.list ds))=some ((List.range ds.length).map fun (k:Nat)=>.int k):=by rw[El,bs0,len_list,Ji h]
theorem BB {inj:β->D}{tg:Tg}{F:α->List Sl}(J:Nat->α->Prop){P:Option Out->Prop}(k:∀s,J 0 s->P (some (.nx (F s)))):∀{xs:List β} {s:α} (h:∀x∈xs,∀n s,J (n+1) s->∃s',J n s'/\(aw tg (inj x) (F s)).bind (fun ρ=>exs Φ Γ ρ r)=some (.nx (F s'))),J xs.length s->P (gQ Φ Γ tg r (xs.map inj) (F s))
 |[],s,_,j=>k s j
 |x::xs,s,h,j=>by
  obtain⟨s',j',e⟩:=h x ms0 _ s j;obtain⟨ρ',e1,e2⟩:=bx0 e;show P ((aw tg (inj x) (F s)).bind fun ρ'=>(exs Φ Γ ρ' r).bind _);rw[e1,bs0,e2];exact BB J k (fun y hy=>h y (mc0 _ hy)) j'
def GW {tab:List (Nat×Bool)}:yN tab (.exc n)=tab.lookup n:=(rfl)
@[simp] theorem AD {p:α->Bool}:∀{xs:List α},boolsOf (xs.map fun x=>.bool (p x))=some (xs.map p)
 |[]=>rfl
 |x::xs=>by rw[mk0,boolsOf,AD];rfl
def iZ {nt:Nat}{js:List Nat}{tg:Tg}{ifs:Es}:cpF Φ Γ ρ nt js tg ifs e d=(aw tg d (blk nt js ρ)).bind fun ρ'=>(evC Φ Γ ρ' ifs).bind fun t=>if t then (ev Φ Γ .val ρ' e).map some else some none:=(rfl)
noncomputable def oZ (o p:Option D):Option D:=o.bind fun x=>p.bind fun y=>opD .mul x y
@[simp ↓ high] def ev_m {a b:E}:ev Φ Γ m ρ (.op .mul a b)=fin m (oZ (ev Φ Γ .read ρ a) (ev Φ Γ .read ρ b)):=(rfl)
@[simp] def Ki :oZ (some (.int i)) (some (.int 1))=some (.int i):=by
 rw[oZ,bs0,bs0,gX,TX.lh _ 1 (by decide) (by decide),if_pos rfl,Int.mul_one]
@[simp] def Kj :oZ (some (.int i)) (some (.int 0))=some (.int 0):=by
 rw[oZ,bs0,bs0,gX,TX.lh _ 0 (by decide) (by decide),if_pos rfl,Int.mul_zero]
def mulL (h1:-(2 ^ 64)<i)(h2:i<2 ^ 64):oZ (some (.int i)) (some (.int j))=some (.int (i*j)):=by
 rw[oZ,bs0,bs0,gX,TX.xA _ _ h1 h2,if_pos rfl]
@[simp] def orP {P:Prop}[Decidable P]:(if P then some (D.bool true) else some (D.bool t))=some (.bool (decide P||t)):=by by_cases h:P<;>simp[h]
@[simp] def Kk {P:Prop}[Decidable P]:(if P then some (D.bool t) else some (D.bool false))=some (.bool (decide P&&t)):=by by_cases h:P<;>simp[h]
noncomputable def AE (o:Option Out):Option D:=o.bind Out.val
@[simp] def Jj:AE (some (.rt d))=some d:=rfl
@[simp] def Jk:AE (some (.nx ρ))=some .none:=rfl
def gH {xs:List α}{x:α}(h:xs[n]?=some x):atI xs (n:Int)=some x:=by
 have:=(gi0 h).1;rw[TX.qB (by omega) (by omega)];exact h
section
variable {x y z u v:α}{l:List α}
@[simp] def JN:atI (x::l) 0=some x:=gH (n:=0) rfl
@[simp] def JO:atI (x::y::l) 1=some y:=gH (n:=1) rfl
@[simp] def JP:atI (x::y::z::l) 2=some z:=gH (n:=2) rfl
@[simp] def JQ:atI (x::y::z::u::l) 3=some u:=gH (n:=3) rfl
@[simp] def JR:atI (x::y::z::u::v::l) 4=some v:=gH (n:=4) rfl
end
end
end SI
namespace TX
open SI L2.Z PySem
def ans_e {Φ:Fs}{Γ:List (Str×D)}{b:Ss}:ans Φ Γ ⟨fl,n,b⟩ ds=AE (exs Φ Γ (bN ⟨fl,n,b⟩ ds) b):=(rfl)
noncomputable def AF (o:Option (OM×Ust)):Option (Ust×R):=o.map fun q=>(q.2,mQ q.1)
@[simp] def Jl {o:OM}{U:Ust}:AF (some (o,U))=some (U,mQ o):=(rfl)
def aR {Φ:Fs}{Ψ:FsM}{Γ:List (Str×D)}{b:SMs}{U:Ust}:cy Φ Ψ Γ c ⟨fl,n,b⟩ U ds=AF (ba Φ Ψ Γ c (startM ⟨fl,n,b⟩ ds) U b):=(rfl)
end TX
namespace L2.Z
open PySem SI
section
variable {Φ:Fs}{Ψ:FsM}{Γ:List (Str×D)}{U U':Ust}{s:SM}{r a b:SMs}{d:D}{t:Bool}{x:Nat}{e:M}
noncomputable def nxM (Φ:Fs)(Ψ:FsM)(Γ:List (Str×D))(c:Nat)(o:Option (OM×Ust))(r:SMs):Option (OM×Ust):=o.bind fun q=>q.1.andThen (fun ρ'=>ba Φ Ψ Γ c ρ' q.2 r) q.2
noncomputable def ifM (Φ:Fs)(Ψ:FsM)(Γ:List (Str×D))(c:Nat)(o:Option D)(ρ:List Sl)(U:Ust)(a b:SMs):Option (OM×Ust):=o.bind fun d=>(asB d).bind fun t=>if t then ba Φ Ψ Γ c ρ U a else ba Φ Ψ Γ c ρ U b
noncomputable def cX (Φ:Fs)(Ψ:FsM)(Γ:List (Str×D))(c:Nat)(tg:Tg)(body:SMs)(ds:List D)(ρ:List Sl)(U:Ust):Option (OM×Ust):=forM (aw tg) (fun ρ' U'=>ba Φ Ψ Γ c ρ' U' body) ds ρ U
noncomputable def vM (c:Nat)(U:Ust)(ρ:List Sl):List Sl:=ρ.map (vE c U)
@[simp ↓ high] def vM_g {i:Nat}:(vM c U ρ)[i]?=ρ[i]?.map (vE c U):=gm0
@[simp ↓ high] def evM_p {q:E}:evM Φ Ψ Γ c ρ U (.p q)=(ev Φ Γ .val (vM c U ρ) q).map fun d=>(.ok d,U):=(rfl)
@[simp ↓ high] def exM_ret:exM Φ Ψ Γ c ρ U (.ret e)=(evM Φ Ψ Γ c (fzM ρ) U e).map fun z=>(sR .rt (fzM ρ) z.1,z.2):=(rfl)
@[simp ↓ high] def exMs_c:ba Φ Ψ Γ c ρ U (.cons s r)=nxM Φ Ψ Γ c (exM Φ Ψ Γ c ρ U s) r:=(rfl)
@[simp] def JS:nxM Φ Ψ Γ c (some (.nx ρ,U)) r=ba Φ Ψ Γ c ρ U r:=(rfl)
@[simp] def JT:nxM Φ Ψ Γ c (some (.rt d,U)) r=some (.rt d,U):=(rfl)
@[simp] def JU:nxM Φ Ψ Γ c (some (.exc x ρ,U)) r=some (.exc x ρ,U):=(rfl)
@[simp ↓ high] def exM_if {q:E}:exM Φ Ψ Γ c ρ U (.ifs q a b)=ifM Φ Ψ Γ c (ev Φ Γ .test (vM c U ρ) q) ρ U a b:=(rfl)
@[simp] def JV:ifM Φ Ψ Γ c (some (.bool t)) ρ U a b=if t then ba Φ Ψ Γ c ρ U a else ba Φ Ψ Γ c ρ U b:=(rfl)
@[simp ↓ high] def exM_for {tg:Tg} {src:I}:exM Φ Ψ Γ c ρ U (.fors tg src r)=(evI Φ Γ .walk ρ src).bind fun ds=>cX Φ Ψ Γ c tg r ds ρ U:=(rfl)
@[simp] def JW {f:D->Ust->Option (R×Ust)}:goR (.ok d,U) f=f d U:=(rfl)
@[simp] def JX {f:D->Ust->Option (R×Ust)}:goR (.exc x,U) f=some (.exc x,U):=(rfl)
@[simp] def Jm {f:D->OM}:sR f ρ (.ok d)=f d:=rfl
@[simp] def Jn {f:D->OM}:sR f ρ (.exc x)=.exc x ρ:=rfl
@[simp] def Jo:mQ (.nx ρ)=.ok .none:=rfl
@[simp] def Jp:mQ (.rt d)=.ok d:=rfl
@[simp] def Jq:mQ (.exc x ρ)=.exc x:=rfl
@[simp] def Em {l:List D}:vE c U (.dat (.tuple l))=.dat (.tuple l):=rfl
@[simp] def JY {h:Nat}:jQ (some (.dat (.hdl h)))=some h:=rfl
@[simp] def Jr:wL false (some (.dat d))=some d:=rfl
@[simp] def Js {f:Ust->List D->Option (Ust×R)}:vN f (.ok ds) U=f U ds:=(rfl)
@[simp] def Jt {k:Nat}:tupK k (.tuple ds)=ds[k]?:=rfl
@[simp] def Ju :GI (.tuple ds)=some ds:=rfl
@[simp] def Jv :GI (.list ds)=some ds:=rfl
@[simp] def JZ {tab:List (Nat×Bool)}{i j:Nat}:DX tab i j U (.nx ρ)=some (.nx ρ,U):=(rfl)
def GY {tab:List (Nat×Bool)}{i j:Nat}(h:tab.lookup x=some true):DX tab i j U (.exc x ρ)=some (.nx ((ρ.set i (.dat (.exc x))).set j .no),U):=if_pos h
def hZ {tg:Tg}:cX Φ Ψ Γ c tg r (d::ds) ρ U=(aw tg d ρ).bind fun ρ'=>(ba Φ Ψ Γ c ρ' U r).bind fun q=>q.1.andThen (fun ρ2=>cX Φ Ψ Γ c tg r ds ρ2 q.2) q.2:=(rfl)
@[simp] def Kl {f:List Sl->Option (OM×Ust)}:(OM.nx ρ).andThen f U=f ρ:=(rfl)
noncomputable def sZ (ρ:List Sl):Option Nat->OM
 |none=>.nx ρ
 |some x=>.exc x ρ
@[simp] def Km:sZ ρ none=.nx ρ:=rfl
@[simp] def Kn:sZ ρ (some x)=.exc x ρ:=rfl
theorem BC {inj:β->D}{tg:Tg}{F:α->List Sl}{f:β->Option Nat}:∀{xs:List β} {s:α} (h:∀x∈xs,∀s,∃s',(aw tg (inj x) (F s)).bind (fun ρ=>ba Φ Ψ Γ c ρ U r)=some (sZ (F s') (f x),U)),∃s',cX Φ Ψ Γ c tg r (xs.map inj) (F s) U=some (sZ (F s') (xs.findSome? f),U)
 |[],s,_=>⟨s,rfl⟩
 |x::xs,s,h=>by
  obtain⟨s',e⟩:=h x ms0 s;obtain⟨ρ',e1,e2⟩:=bx0 e;show ∃s',((aw tg (inj x) (F s)).bind fun ρ'=>(ba Φ Ψ Γ c ρ' U r).bind _)=_;rw[e1,bs0,e2,List.findSome?_cons];cases f x with
  |some y=>exact⟨s',rfl⟩
  |none=>exact BC fun y hy=>h y (mc0 _ hy)
def GZ {inj:β->D}{tg:Tg}{F:α->List Sl}(f:β->Option Nat){xs:List β}{s:α}{P:Option (OM×Ust)->Prop}(h:∀x∈xs,∀s,∃s',(aw tg (inj x) (F s)).bind (fun ρ=>ba Φ Ψ Γ c ρ U r)=some (sZ (F s') (f x),U))(k:∀s',P (some (sZ (F s') (xs.findSome? f),U))):P (cX Φ Ψ Γ c tg r (xs.map inj) (F s) U):=by
 obtain⟨s',e⟩:=BC (s:=s) h;rw[e];exact k s'
@[simp] def Jw:ar (.dat d)=true:=rfl
@[simp] def Jx :ar (.lent (.scr ns))=true:=rfl
@[simp] def Jy:Bt (.nx ρ) U=if ρ.all ar then some (.nx ρ,U) else none:=(rfl)
end
end L2.Z
namespace TX
open PySem SI M1 L2.Z
variable {Φ:Fs}{Ψ:FsM}{Γ:List (Str×D)}{cNO cBT cBC:Nat}
inductive Th where
 |blob (t:Str)
 |tree (es:List (Str×Int))
 |com (a:Int) (ps:List Int) (tm:Int) (m:Str)
deriving DecidableEq
noncomputable def jq (p:Str×Int):D:=.tuple [.str p.1,.int p.2]
noncomputable def Th.d:Th->D
 |.blob t=>.tuple [.str qC,.str t]
 |.tree es=>.tuple [.str ck,.list (es.map jq)]
 |.com a ps tm m=>.tuple [.str ah,.int a,.list (ps.map .int),.int tm,.str m]
noncomputable def Th.k:Th->Str
 |.blob _=>qC
 |.tree _=>ck
 |.com ..=>ah
noncomputable def Th.cn:Th->D
 |.blob t=>.str t
 |.tree es=>.tuple (es.map jq)
 |.com a ps tm m=>.tuple [.int a,.tuple (ps.map .int),.int tm,.str m]
noncomputable def Th.o (t:Th):D:=.tuple [.str t.k,t.cn]
noncomputable def Th.t:Th->D
 |.blob t=>.str t
 |.tree es=>.list (es.map jq)
 |.com a ps tm m=>.tuple [.int a,.list (ps.map .int),.int tm,.str m]
section
variable {x:Str}{es:List (Str×Int)}{tm:Int}{ps:List Int}
@[simp] def k_b:(Th.blob x).k=qC:=rfl
@[simp] def k_t:(Th.tree es).k=ck:=rfl
@[simp] def k_c:(Th.com a ps tm m).k=ah:=rfl
@[simp] def c_b:(Th.blob x).cn=.str x:=rfl
@[simp] def c_t:(Th.tree es).cn=.tuple (es.map jq):=rfl
@[simp] def c_c:(Th.com a ps tm m).cn=.tuple [.int a,.tuple (ps.map .int),.int tm,.str m]:=rfl
@[simp] def d_b:(Th.blob x).d=.tuple [.str qC,.str x]:=rfl
@[simp] def d_t:(Th.tree es).d=.tuple [.str ck,.list (es.map jq)]:=rfl
@[simp] def d_c:(Th.com a ps tm m).d=.tuple [.str ah,.int a,.list (ps.map .int),.int tm,.str m]:=rfl
@[simp] def t_b:(Th.blob x).t=.str x:=rfl
@[simp] def t_t:(Th.tree es).t=.list (es.map jq):=rfl
@[simp] def t_c:(Th.com a ps tm m).t=.tuple [.int a,.list (ps.map .int),.int tm,.str m]:=rfl
end
@[simp] def Ko {a b:List (Str×Int)}:a.map jq=b.map jq↔a=b:=List.map_inj_right fun x y q=>by simp[jq] at q;exact Prod.ext q.1 q.2
@[simp] def Kp {a b:List Int}:a.map D.int=b.map D.int↔a=b:=List.map_inj_right fun c c q=>D.int.inj q
def Th.o_inj {a b:Th}(h:a.o=b.o):a=b:=by cases a<;>cases b<;>simp_all [Th.o]
def Th.o_ok (t:Th):okK 8 t.o=true:=by cases t<;>simp[okK,jq,Th.o]
noncomputable def atL (L:List Th)(i:Int):Option Th:=if 0≤i then L[i.toNat]? else none
noncomputable abbrev vt (L:List Th):Ust:=[L.map Th.o]
noncomputable def putL (L:List Th)(t:Th):List Th:=if t∈L then L else L++[t]
def xE (L:List Th)(t:Th)(hz:L.length<1000000):∃j:Nat,jV (vt L) [.hdl 0,t.o]=some (vt (putL L t),.ok (.int (j:Nat))):=by
 have m:t.o∈L.map Th.o↔t∈L:=⟨fun z=>by obtain⟨s,h1,h2⟩:=mm0 z;exact Th.o_inj h2▸h1,List.mem_map_of_mem⟩;have o:=t.o_ok;cases h:(L.map Th.o).idxOf? t.o with
 |some j=>
  have:t∈L:=m.mp (Classical.byContradiction fun z=>by rw[List.idxOf?_eq_none_iff.mpr z] at h;cases h);exact⟨j,by simp[jV,putL,o,h,hz,this];rfl⟩
 |none=>
  have:t∉L:=fun z=>List.idxOf?_eq_none_iff.mp h (m.mpr z)
  exact⟨L.length,by simp[jV,putL,o,h,hz,this];rfl⟩
noncomputable abbrev orX {α:Type}(cNO:Nat)(f:α->R):Option α->R
 |some t=>f t
 |none=>.exc cNO
def bT {L:List Th}{t:Th}(h:atL L i=some t):∃n:Nat,i=(n:Int)/\L[n]?=some t/\n<L.length/\(L.map Th.o)[n]?=some t.o:=by
 unfold atL at h;split at h
 ·exact⟨i.toNat,by omega,h,(gi0 h).1,by rw[gm0,h];rfl⟩
 ·cases h
abbrev xF (cNO:Nat)(run:Ust->List D->Option (Ust×R)):Prop:=∀(L:List Th) (i:Int),run (vt L) [.hdl 0,.int i]=some (vt L,orX cNO (fun t=>.ok t.o) (atL L i))
abbrev xG (Ψ:FsM)(cNO:Nat):Prop:=dt Ψ (aE "held") [false,false] (xF cNO)
def Hc:xF cNO (cy Φ Ψ Γ c (bX c cNO)):=by
 intro L i;cases h:atL L i with
 |none=>
  by_cases z:0≤i
  ·have:¬ i<L.length:=by simp[atL,z] at h;omega
   simp[aR,bX,z,this]
  ·simp[aR,bX,z]
 |some t=>
  obtain⟨n,rfl,_,g,h2⟩:=bT h;simp[aR,bX,gH h2,g]
noncomputable def ai (L:List Th)(i:Int)(k:Str):Option Th:=(atL L i).bind fun t=>if t.k=k then some t else none
abbrev xH (cNO:Nat)(run:Ust->List D->Option (Ust×R)):Prop:=∀(L:List Th) (i:Int) (k:Str),k.length≤100->run (vt L) [.hdl 0,.int i,.str k]=some (vt L,orX cNO (fun t=>.ok t.cn) (ai L i k))
abbrev ll (Ψ:FsM)(cNO:Nat):Prop:=dt Ψ (aE "content") [false,false,false] (xH cNO)
def Eo {x y:Str}(h:y.length≤100)(hx:x.cps.size≤900):biD .fst [.str x,.str y]=some (.str (x++y)):=if_pos (show x.cps.size+y.length≤16777216 by omega)
def Hd (hh:xG Ψ cNO):xH cNO (cy Φ Ψ Γ c (bR cNO)):=by
 intro L i k hk;obtain⟨r,e,h⟩:=hh;simp[aR,bR,e,h,ai];cases atL L i with
 |none=>rfl
 |some t=>by_cases z:t.k=k<;>simp[Th.o,z,Em,Eo hk]
abbrev BD (k:Str)(cNO:Nat)(run:Ust->List D->Option (Ust×R)):Prop:=∀(L:List Th) (i:Int),run (vt L) [.hdl 0,.int i]=some (vt L,orX cNO (fun t=>.ok t.t) (ai L i k))
abbrev xI (Ψ:FsM)(cNO:Nat):Prop:=dt Ψ "commit_of" [false,false] (BD ah cNO)
def Jz (hh:ll Ψ cNO):BD ah cNO (cy Φ Ψ Γ c bS):=by
 obtain⟨r,e,h⟩:=hh;intro L i;have:=h L i ah (by decide);simp[aR,bS,e,this,ai];cases atL L i with
 |none=>rfl
 |some t=>cases t<;>simp
variable {Φ:Fs}{Ψ:FsM}{Γ:List (Str×D)}{cNO cBT cBC:Nat}
abbrev pf (run:List D->Option D):Prop:=run [.list []]=some (.bool true)
abbrev xJ (Φ:Fs):Prop:=Has Φ "names_rise" [true] pf
def He:pf (ans Φ Γ dq):=rfl
noncomputable def lq (cBT:Nat):aW:=⟨[false],2,(.B (.fors (.one 1) (.seq (.v 0)) (.A (.pure .stuck))) (.ifs (.not (.call "names_rise" (.A (.v 0)))) (.A (.raise cBT (.G (.p (.k (.str ⟨#[116,104,101,32,110,97,109,101,115,32,100,111,110,39,116,32,114,105,115,101]⟩)))))) .nil))⟩
abbrev BE (run:Ust->List D->Option (Ust×R)):Prop:=∀U:Ust,run U [.list []]=some (U,.ok .none)
abbrev BF (Ψ:FsM):Prop:=dt Ψ "refuse_wrong_names" [false] BE
def JA (hr:xJ Φ):BE (cy Φ Ψ Γ c (lq cBT)):=by
 intro U;obtain⟨r2,e2,h2⟩:=hr;simp only[aR,lq];simp[e2,h2,show ∀b ρ,cX Φ Ψ Γ c (.one 1) b [] ρ U=some (.nx ρ,U) from fun a a=>rfl]
theorem mY {p:α->Bool}{y:β}:∀xs:List α,xs.findSome? (fun x=>if p x then none else some y)=if xs.all p then none else some y
 |[]=>rfl
 |x::r=>by rw[List.findSome?_cons,mY r,List.all_cons];cases p x<;>rfl
def AG (L:List Th)(t:Th)(x:Option Nat)(o:Option (Ust×R)):Prop:=match x with
 |some x=>o=some (vt L,.exc x)
 |none=>∃j:Nat,o=some (vt (putL L t),.ok (.int (j:Nat)))
@[simp] def JB {L:List Th}{t:Th}{x:Nat}{o:Option (Ust×R)}:AG L t (some x) o↔o=some (vt L,.exc x):=Iff.rfl
abbrev xK (run:Ust->List D->Option (Ust×R)):Prop:=∀L:List Th,L.length<1000->AG L (.tree []) none (run (vt L) [.hdl 0,.list []])
abbrev xM (Ψ:FsM):Prop:=dt Ψ "tree" [false,false] xK
variable {Φ:Fs}{Ψ:FsM}{Γ:List (Str×D)}{cNO cBT cBC:Nat}
abbrev qG (cNO:Nat)(run:Ust->List D->Option (Ust×R)):Prop:=∀(L:List Th) (i:Int),run (vt L) [.hdl 0,.int i]=some (vt L,orX cNO (fun a=>.ok .none) (ai L i ck))
abbrev qH (Ψ:FsM)(cNO:Nat):Prop:=dt Ψ "refuse_what_is_no_tree" [false,false] (qG cNO)
def Eu (hh:ll Ψ cNO):qG cNO (cy Φ Ψ Γ c ay):=by
 intro L i;obtain⟨r,e,h⟩:=hh;simp only[aR,ay];simp[e,h L i ck (by decide)];cases ai L i ck<;>simp
noncomputable def xN (L:List Th)(ps:List Int):Bool:=ps.all fun p=>(ai L p ah).isSome
noncomputable def ja (cNO cBC:Nat)(L:List Th)(a:Int)(ps:List Int)(tm:Int)(m:Str):Option Nat:=
 if !((ai L a ck).isSome&&xN L ps) then some cNO
 else if decide (ps.length≤2)&&decide ((dA ps).length=ps.length)&&decide (0≤tm)&&decide (10∉m.cps.toList) then none else some cBC
theorem jb:∀ps:List Int,intsOf (ps.map .int)=some ps
 |[]=>rfl
 |p::r=>by
  show (intsOf (r.map .int)).map (p::·)=_;rw[jb r];rfl
def lr {ps:List Int}(h:ps.length<64):biD .nset [.list (ps.map .int)]=some (.int (dA ps).length):=by
 show (intsOf (ps.map .int)).bind _=_;rw[jb,bs0,if_pos h]
abbrev BG (cNO cBC:Nat)(run:Ust->List D->Option (Ust×R)):Prop:=∀(L:List Th) (a:Int) (ps:List Int) (tm:Int) (m:Str),ps.length≤3->run (vt L) [.hdl 0,.int a,.list (ps.map .int),.int tm,.str m]=some (vt L,match ja cNO cBC L a ps tm m with|some x=>.exc x|none=>.ok .none)
abbrev BH (Ψ:FsM)(cNO cBC:Nat):Prop:=dt Ψ "refuse_wrong_commit" [false,false,false,false,false] (BG cNO cBC)
def JC (hc:ll Ψ cNO)(ht:qH Ψ cNO)(hg:Γ.lookup ("MOST_PARENTS":Str)=some (D.int 2)):BG cNO cBC (cy Φ Ψ Γ c (aJ cBC)):=by
 intro L a ps tm m hl;obtain⟨r1,e1,h1⟩:=ht;obtain⟨r2,e2,h2⟩:=hc;have dl:=mv ps;simp only[aR,aJ,ja];simp[e1,h1];cases ai L a ck with
 |none=>simp
 |some t=>
  simp;refine GZ (F:=fun s=>[.dat (.hdl 0),.dat (.int a),.dat (.list (ps.map .int)),.dat (.int tm),.dat (.str m),s]) (fun x=>if (ai L x ah).isSome then none else some cNO) (P:=fun o=>AF (nxM Φ Ψ Γ c o _)=_) (fun x b s=>⟨.dat (.int x),?_⟩) fun s=>?_
  ·simp[e2,h2 L x ah (by decide)]
   cases ai L x ah<;>simp
  ·rw[mY,xN]
   cases ps.all fun p=>(ai L p ah).isSome
   ·simp
   by_cases z1:ps.length≤2
   ·have y1:¬ (2:Int)<ps.length:=by omega
    by_cases z2:(dA ps).length=ps.length
    ·by_cases z3:0≤tm
     ·have y3:¬ tm<0:=by omega
      by_cases z4:10∈m.cps<;>simp[hg,z1,y1,z2,z3,y3,z4,lr (ps:=ps) (by omega),inD,Az]
     ·simp[hg,z1,y1,z2,z3,show tm<0 by omega,lr (ps:=ps) (by omega)]
    ·have y2:(dA ps).length<ps.length:=by omega
     simp[hg,z1,y1,z2,y2,lr (ps:=ps) (by omega)]
   ·simp[hg,z1,show (2:Int)<ps.length by omega]
abbrev mZ (cNO cBC:Nat)(run:Ust->List D->Option (Ust×R)):Prop:=∀(L:List Th) (a:Int) (ps:List Int) (tm:Int) (m:Str),ps.length≤3->L.length<1000->AG L (.com a ps tm m) (ja cNO cBC L a ps tm m) (run (vt L) [.hdl 0,.int a,.list (ps.map .int),.int tm,.str m])
abbrev ng (Ψ:FsM)(cNO cBC:Nat):Prop:=dt Ψ "commit" [false,false,false,false,false] (mZ cNO cBC)
def AH (hr:BH Ψ cNO cBC)(hp:AA Ψ):mZ cNO cBC (cy Φ Ψ Γ c fC):=by
 intro L a ps tm m hl hz;obtain⟨r1,e1,h1⟩:=hr;obtain⟨j,q⟩:=xE L (.com a ps tm m) (by omega);simp only[aR,fC];simp[e1,h1 _ _ _ _ _ hl];cases ja cNO cBC L a ps tm m with
 |some x=>simp
 |none=>exact⟨j,by simp[hp,iX,show ps.length≤big from nt0 hl (by decide),show jV (vt L) [.hdl 0,.tuple [.str ah,.tuple [.int a,.tuple (ps.map .int),.int tm,.str m]]]=_ from q]⟩
variable {Φ:Fs}{Ψ:FsM}{Γ:List (Str×D)}{cNO cBT cBC:Nat}
noncomputable def thX (cNO cBC:Nat)(L:List Th):Th->Option Nat
 |.com a ps tm m=>ja cNO cBC L a ps tm m
 |_=>none
noncomputable def Th.sm:Th->Prop
 |.blob _=>False
 |.tree es=>es=[]
 |.com _ ps _ _=>ps.length≤3
noncomputable def lu:aW:=⟨[false,false],2,(.cons (.ifs (.cmp .eq (.idx (.v 1) (.k (.int 0))) (.k (.str ⟨#[98,108,111,98]⟩))) (.A (.pure .stuck)) .nil) (.B (.ifs (.cmp .eq (.idx (.v 1) (.k (.int 0))) (.k (.str ⟨#[116,114,101,101]⟩))) (.A (.ret (.call "tree" (.va 0 (.G (.p (.bi .list (.A (.idx (.v 1) (.k (.int 1))))))))))) .nil) (.ret (.call "commit" (.va 0 (.ex (.p (.idx (.v 1) (.k (.int 1)))) (.ex (.p (.bi .list (.A (.idx (.v 1) (.k (.int 2)))))) (.ex (.p (.idx (.v 1) (.k (.int 3)))) (.G (.p (.idx (.v 1) (.k (.int 4)))))))))))))⟩
abbrev BI (cNO cBT cBC:Nat)(run:Ust->List D->Option (Ust×R)):Prop:=∀(L:List Th) (t:Th),t.sm->L.length<1000->AG L t (thX cNO cBC L t) (run (vt L) [.hdl 0,t.d])
abbrev BJ (Ψ:FsM)(cNO cBT cBC:Nat):Prop:=dt Ψ "_law_put" [false,false] (BI cNO cBT cBC)
def AI (ht:xM Ψ)(hc:ng Ψ cNO cBC):BI cNO cBT cBC (cy Φ Ψ Γ c lu):=by
 intro L t hs hz;obtain⟨r2,e2,h2⟩:=ht;obtain⟨r3,e3,h3⟩:=hc;simp only[aR,lu];cases t with
 |blob x=>exact hs.elim
 |tree es=>
  cases (show es=[] from hs);obtain⟨j,k⟩:=h2 L hz;exact⟨j,by simp[e2,k]⟩
 |com a ps tm m=>
  have k:=h3 L a ps tm m hs hz;rw[thX];revert k;cases ja cNO cBC L a ps tm m with
  |some y=>intro k;simp at k;simp[e3,k]
  |none=>intro k;obtain⟨j,k⟩:=k;exact⟨j,by simp[e3,k]⟩
def Hf (cNO cBT cBC:Nat)(P:List Th)(t:Th):Prop:=t.sm/\thX cNO cBC P t=none/\t∉P
def Valid (cNO cBT cBC:Nat)(L:List Th):Prop:=∀P t R,L=P++t::R->Hf cNO cBT cBC P t
def Valid.snoc {L:List Th}{t:Th}(h:Valid cNO cBT cBC L)(k:Hf cNO cBT cBC L t):Valid cNO cBT cBC (L++[t]):=by
 intro P x R e;rcases List.eq_nil_or_concat R with rfl|⟨R',y,rfl⟩
 ·obtain⟨rfl,e2⟩:=List.append_inj' e rfl
  cases e2;exact k
 ·have e':L++[t]=(P++x::R')++[y]:=by simp[e]
  exact h P x R' (List.append_inj' e' rfl).1
abbrev qI (cNO cBT cBC:Nat)(run:Ust->List D->Option (Ust×R)):Prop:=∀L:List Th,Valid cNO cBT cBC L->L.length<1000->run [] [.list (L.map Th.d)]=some (vt L,.ok (.hdl 0))
variable {Φ:Fs}{Ψ:FsM}{Γ:List (Str×D)}{cNO cBT cBC:Nat}
abbrev qJ (Φ:Fs):Prop:=Has Φ "_law_whole" [true] fun run=>∀n:Int,run [.int n]=some (.bool true)
variable {Φ:Fs}{Ψ:FsM}{Γ:List (Str×D)}{cNO cBT cBC:Nat}
def AJ {L:List Th}{k:Nat}(h:k<L.length):atI (L.map Th.d) (k:Int)=some L[k].d:=gH (by simp[h])
def d_0 (t:Th):kx t.d (.int 0)=some (.str t.k):=by cases t<;>simp
end TX
set_option maxRecDepth 10000
namespace TX
open PySem SI L2.Z
noncomputable def eC:Def:=⟨[true],1,(.cons (.ifs (.cmp .eq (.idx (.v 0) (.k (.int 0))) (.k (.str ⟨#[98,108,111,98]⟩))) (.A (.ret (.lst .nil))) .nil) (.B (.ifs (.cmp .eq (.idx (.v 0) (.k (.int 0))) (.k (.str ⟨#[116,114,101,101]⟩))) (.A (.ret (.comp 1 [] (.one 0) (.seq (.idx (.v 0) (.k (.int 1)))) .nil (.idx (.v 0) (.k (.int 1)))))) .nil) (.ret (.op .add (.lst (.A (.idx (.v 0) (.k (.int 1))))) (.idx (.v 0) (.k (.int 2)))))))⟩
noncomputable def cB:Def:=⟨[true,true],5,(.cons (.new 3 (.comp 1 [1] (.one 0) (.rng (.bi .len (.A (.v 0)))) .nil (.cmp .isin (.v 0) (.v 1)))) (.B (.fors (.one 2) (.revr (.bi .len (.A (.v 0)))) (.A (.fors (.one 4) (.seq (.call "_law_below" (.A (.idx (.v 0) (.v 2))))) (.A (.seti 3 (.v 4) (.or (.idx (.v 3) (.v 4)) (.idx (.v 3) (.v 2)))))))) (.ret (.comp 1 [3] (.one 0) (.rng (.bi .len (.A (.v 0)))) (.A (.idx (.v 1) (.v 0))) (.v 0)))))⟩
noncomputable def eD:Def:=⟨[true,true],2,(.A (.ret (.comp 1 [0] (.one 0) (.seq (.call "_law_reached" (.B (.v 0) (.lst (.A (.v 1)))))) (.A (.cmp .eq (.idx (.idx (.v 1) (.v 0)) (.k (.int 0))) (.k (.str ⟨#[99,111,109,109,105,116]⟩)))) (.v 0))))⟩
noncomputable def ib (cBT:Nat):aW:=⟨[false,false],4,(.cons (.expr (.call "refuse_wrong_names" (.G (.p (.comp 2 [] (.tup [0,1]) (.seq (.v 1)) .nil (.v 0)))))) (.B (.fors (.tup [2,3]) (.seq (.v 1)) (.A (.ifm .eq (.meth "kind" 0 (.W 3)) (.k (.str ⟨#[99,111,109,109,105,116]⟩)) (.A (.raise cBT (.G (.p (.k (.str ⟨#[97,110,32,101,110,116,114,121,32,110,97,109,101,115,32,97,32,99,111,109,109,105,116]⟩)))))) .nil))) (.ret (.meth "put" 0 (.G (.p (.tup (.B (.k (.str ⟨#[116,114,101,101]⟩)) (.bi .tuple (.A (.comp 2 [] (.tup [0,1]) (.seq (.v 1)) .nil (.tup (.B (.v 0) (.v 1))))))))))))))⟩
noncomputable def bG:aW:=⟨[false,false],2,(.A (.ret (.ix 1 (.call "commit_of" (.va 0 (.W 1))))))⟩
noncomputable def cC:aW:=⟨[false,false],2,(.A (.ret (.call "all_below" (.va 0 (.ex (.p (.lst (.A (.v 1)))) (.G (.p (.g "parents_of"))))))))⟩
noncomputable def bK:aW:=⟨[false,false,false],6,(.cons (.pure (.new 3 (.bi .list (.A (.v 1))))) (.cons (.pure (.new 4 (.bi .dict (.A (.lst .nil))))) (.B (.whl (.v 3) (.B (.pure (.pop 3 5)) (.ifs (.cmp .notin (.v 5) (.v 4)) (.B (.pure (.seti 4 (.v 5) (.k (.bool true)))) (.ext 3 (.callv 2 (.va 0 (.W 5))))) .nil))) (.ret (.p (.bi .srtd (.A (.v 4))))))))⟩
end TX
namespace L2.Z
open PySem SI
section
variable {Φ:Fs}{Ψ:FsM}{Γ:List (Str×D)}{U:Ust}{b:SMs}{t:E}
noncomputable def AK (Φ:Fs)(Ψ:FsM)(Γ:List (Str×D))(c:Nat)(t:E)(b:SMs)(n:Nat)(ρ:List Sl)(U:Ust):Option (OM×Ust):=eQ (fun ρ' U'=>ev Φ Γ .test (ρ'.map (vE c U')) t) (fun ρ' U'=>ba Φ Ψ Γ c ρ' U' b) n ρ U
@[simp ↓ high] def exM_whl:exM Φ Ψ Γ c ρ U (.whl t b)=AK Φ Ψ Γ c t b 100000 ρ U:=rfl
def Ex :AK Φ Ψ Γ c t b (n+1) ρ U=(ev Φ Γ .test (ρ.map (vE c U)) t).bind fun d=>(asB d).bind fun q=>if q then (ba Φ Ψ Γ c ρ U b).bind fun q=>q.1.andThen (fun ρ2=>AK Φ Ψ Γ c t b n ρ2 q.2) q.2 else some (.nx ρ,U):=rfl
theorem BK {F:α->List Sl}{V:α->Ust}(J:Nat->α->Prop){P:Option (OM×Ust)->Prop}
  (h:∀n s,J n s->(ev Φ Γ .test ((F s).map (vE c (V s))) t=some (.bool false)/\P (some (.nx (F s),V s)))\/(ev Φ Γ .test ((F s).map (vE c (V s))) t=some (.bool true)/\((∃s' m,m<n/\J m s'/\ba Φ Ψ Γ c (F s) (V s) b=some (.nx (F s'),V s'))\/∃x s',ba Φ Ψ Γ c (F s) (V s) b=some (.exc x (F s'),V s')/\P (some (.exc x (F s'),V s'))))):
  ∀n k s,J n s->n<k->P (AK Φ Ψ Γ c t b k (F s) (V s))
 |n,0,s,_,hk=>by omega
 |n,k+1,s,j,hk=>by
  rw[Ex];rcases h n s j with⟨e,p⟩|⟨e,⟨s',m,hm,j',e2⟩|⟨x,s',e2,p⟩⟩
  ·simp_all
  ·rw[e,bs0,bZ,bs0,if_pos rfl,e2]
   exact BK J h m k s' j' (by omega)
  ·rwa [e,bs0,bZ,bs0,if_pos rfl,e2]
end
end L2.Z
namespace TX
open PySem SI M1 L2.Z
variable {Φ:Fs}{Ψ:FsM}{Γ:List (Str×D)}{cNO cBT cBC:Nat}
noncomputable def Th.bl:Th->List Int
 |.blob _=>[]
 |.tree es=>es.map (·.2)
 |.com a ps _ _=>a::ps
noncomputable def Th.pa:Th->List Int
 |.com _ ps _ _=>ps
 |_=>[]
inductive Rch (g:Int->Option (List Int))(xs:List Int):Int->Prop
 |base {x:Int}:x∈xs->Rch g xs x
 |step {x y:Int} {ys:List Int}:Rch g xs x->g x=some ys->y∈ys->Rch g xs y
noncomputable def gB (L:List Th)(i:Int):Option (List Int):=(atL L i).map Th.bl
noncomputable def gP (L:List Th)(i:Int):Option (List Int):=(ai L i ah).map Th.pa
def kind_some {L:List Th}{k:Str}{t:Th}:ai L i k=some t↔atL L i=some t/\t.k=k:=by
 rw[ai];cases atL L i<;>simp
 exact⟨fun h=>⟨h.2,h.2▸h.1⟩,fun h=>⟨h.1▸h.2,h.1⟩⟩
def at_nat {L:List Th}:atL L (n:Int)=L[n]?:=rfl
set_option tactic.hygienic true in
def jZ {L:List Th}(hv:Valid cNO cBT cBC L){t:Th}(h:L[n]?=some t):(∀x∈t.bl,∃m s,x=((m:Nat):Int)/\m<n/\L[m]?=some s/\(s.k=ah->x∈t.pa))/\∀x∈t.pa,(ai L x ah).isSome:=by
 obtain⟨hn,e⟩:=gi0 h;obtain⟨k1,k2,_⟩:=hv (L.take n) t (L.drop (n+1)) (by rw[←e,List.getElem_cons_drop,List.take_append_drop]);have up:∀{x:Int} {s:Th},atL (L.take n) x=some s->∃m:Nat,x=m/\m<n/\L[m]?=some s:=fun q=>by
  obtain⟨m,e1,e2,e3,_⟩:=bT q;rw[List.length_take] at e3;rw[List.getElem?_take_of_lt (by omega)] at e2;exact⟨m,e1,by omega,e2⟩
 cases t with
 |blob _=>exact⟨nofun,nofun⟩
 |tree es=>
  refine⟨fun x hx=>?_,nofun⟩;cases (show es=[] from k1);cases hx
 |com a ps tm m=>
  simp only[thX,ja] at k2;split at k2
  ·cases k2
  rename_i w;simp only[Bool.not_eq_true',Bool.not_eq_false,be0,xN,List.all_eq_true] at w;have w2:∀x∈ps,∃m s,x=((m:Nat):Int)/\m<n/\L[m]?=some s/\s.k=ah:=fun x hx=>by
   obtain⟨s,hs⟩:=is0 (w.2 x hx);obtain⟨q1,q2⟩:=kind_some.mp hs;obtain⟨m,e1,e2,e3⟩:=up q1;exact⟨m,s,e1,e2,e3,q2⟩
  refine⟨fun x hx=>?_,fun x hx=>?_⟩
  ·rcases mq0 hx with rfl|hx
   ·obtain⟨s,hs⟩:=is0 w.1
    obtain⟨q1,q2⟩:=kind_some.mp hs;obtain⟨m,e1,e2,e3⟩:=up q1;exact⟨m,s,e1,e2,e3,fun q=>by rw[q2] at q;exact absurd q (by decide)⟩
   ·obtain⟨m,s,e1,e2,e3,_⟩:=w2 x hx
    exact⟨m,s,e1,e2,e3,fun b=>hx⟩
  ·obtain⟨m,s,rfl,_,e3,q⟩:=w2 x hx
   rw[kind_some.mpr ⟨at_nat.trans e3,q⟩];rfl
def Good (N:Nat)(g:Int->Option (List Int)):Prop:=∀i ys,g i=some ys->(∃n:Nat,i=n/\n<N)/\ys.length≤4/\∀y∈ys,(g y).isSome
def xO {L:List Th}(hv:Valid cNO cBT cBC L):Good L.length (gB L):=by
 intro i ys h;obtain⟨t,h1,rfl⟩:=mx0 h;obtain⟨n,e,e2,e3,_⟩:=bT h1;have sm:=(hv (L.take n) t (L.drop (n+1)) (by rw[←(gi0 e2).2,List.getElem_cons_drop,List.take_append_drop])).1;refine⟨⟨n,e,e3⟩,?_,fun y hy=>?_⟩
 ·cases t with
  |blob _=>exact Nat.zero_le _
  |tree es=>cases (show es=[] from sm);exact Nat.zero_le _
  |com _ ps _ _=>exact Nat.succ_le_succ sm
 ·obtain⟨m,s,rfl,_,q,_⟩:=(jZ hv e2).1 y hy
  rw[gB,at_nat,q];rfl
def nh {L:List Th}(hv:Valid cNO cBT cBC L):Good L.length (gP L):=by
 intro i ys h;obtain⟨t,h1,rfl⟩:=mx0 h;obtain⟨h1,hk⟩:=kind_some.mp h1;obtain⟨n,e,e2,e3,_⟩:=bT h1;have sm:=(hv _ t _ (by rw[←(gi0 e2).2,List.getElem_cons_drop,List.take_append_drop])).1;refine⟨⟨n,e,e3⟩,?_,fun y hy=>?_⟩
 ·cases t with
  |blob _=>exact Nat.zero_le _
  |tree es=>exact Nat.zero_le _
  |com _ ps _ _=>exact Nat.le_succ_of_le sm
 ·rw[gP,Option.isSome_map];exact (jZ hv e2).2 y hy
def BL {t:Th}(h:x∈t.pa):x∈t.bl:=by
 cases t with
 |com a ps tm m=>exact mc0 _ h
 |_=>cases h
def JD {L:List Th}(hv:Valid cNO cBT cBC L){n:Int}(hn:(ai L n ah).isSome)(i:Int):Rch (gP L) [n] i↔Rch (gB L) [n] i/\(ai L i ah).isSome:=by
 constructor
 ·intro h
  induction h with
  |base h=>exact⟨.base h,List.mem_singleton.mp h▸hn⟩
  |step h1 h2 h3 ih=>
   obtain⟨t,h4,rfl⟩:=mx0 h2;obtain⟨h4,hk⟩:=kind_some.mp h4;obtain⟨m,rfl,e2,_,_⟩:=bT h4;exact⟨.step ih.1 (by rw[gB,h4];rfl) (BL h3),(jZ hv e2).2 _ h3⟩
 ·rintro ⟨h,k⟩
  induction h with
  |base h=>exact .base h
  |step h1 h2 h3 ih=>
   obtain⟨t,h4,rfl⟩:=mx0 h2;obtain⟨m,rfl,e2,_,_⟩:=bT h4;obtain⟨j,s,rfl,_,e3,e4⟩:=(jZ hv e2).1 _ h3;obtain⟨s',k⟩:=is0 k;obtain⟨k1,k2⟩:=kind_some.mp k;rw[at_nat,e3] at k1;cases k1;have p:=e4 k2;have tc:t.k=ah:=by
    cases t with
    |com a ps tm m=>rfl
    |_=>cases p
   have q:=kind_some.mpr ⟨h4,tc⟩;exact .step (ih (by rw[q];rfl)) (by rw[gP,q];rfl) p
noncomputable def rL (P:Int->Prop)(N:Nat):List Int:=open Classical in ((List.range N).filter fun n:Nat=>decide (P n)).map fun n:Nat=>(n:Int)
def mem_rL {P:Int->Prop}{z:Int}:z∈rL P N↔∃n:Nat,z=n/\n<N/\P z:=by
 simp only[rL,List.mem_map,List.mem_filter,List.mem_range,decide_eq_true_eq];exact⟨by rintro ⟨n,⟨h1,h2⟩,h3⟩;exact⟨n,h3.symm,h1,h3▸h2⟩,by rintro ⟨n,h1,h2,h3⟩;exact⟨n,⟨h2,h1▸h3⟩,h1.symm⟩⟩
def ic (P:Int->Prop)(N:Nat):(rL P N).Pairwise (·<·):=by
 rw[rL,List.pairwise_map];exact (List.pairwise_lt_range.filter _).imp fun h=>Int.ofNat_lt.mpr h
theorem fY:∀{xs ys:List Int},xs.Pairwise (·<·)->ys.Pairwise (·<·)->(∀z,z∈xs↔z∈ys)->xs=ys
 |[],[],_,_,_=>rfl
 |[],y::ys,_,_,h=>nomatch (h y).mpr ms0
 |x::xs,[],_,_,h=>nomatch (h x).mp ms0
 |x::xs,y::ys,h1,h2,h=>by
  obtain⟨a1,b1⟩:=List.pairwise_cons.mp h1;obtain⟨a2,b2⟩:=List.pairwise_cons.mp h2;have e:x=y:=by
   rcases mq0 ((h x).mp ms0) with q|q
   ·exact q
   rcases mq0 ((h y).mpr ms0) with p|p
   ·exact p.symm
   ·have:=a1 y p;have:=a2 x q;grind
  subst e
  congr 1
  refine fY b1 b2 fun z=>⟨fun hz=>?_,fun hz=>?_⟩
  ·exact (mq0 ((h z).mp (mc0 _ hz))).resolve_left fun q=>by have:=a1 z hz;omega
  ·exact (mq0 ((h z).mpr (mc0 _ hz))).resolve_left fun q=>by have:=a2 z hz;omega
def tf (h:ns.Nodup):(insI ns).Pairwise (·<·)/\∀z,z∈insI ns↔z∈ns:=by
 have p:=List.mergeSort_perm ns (fun a b=>decide (a≤b));exact⟨((List.pairwise_mergeSort (fun a b c h1 h2=>by grind) (fun a b=>by grind) ns).and (p.symm.nodup h)).imp fun h=>by grind,fun z=>p.mem_iff⟩
variable {Φ:Fs}{Ψ:FsM}{Γ:List (Str×D)}{cV cNO cBT cBC cNP cBP:Nat}
abbrev BN (run:List D->Option D):Prop:=∀ns k m,0≤m->m≤1000->∃i:Int,run [.scr ns,.int k,.int m]=some (.int i)
abbrev BO (Φ:Fs):Prop:=Has Φ "_law_wild" [true,true,true] BN
def xP (hm:oY Φ):BN (ans Φ Γ fB):=by
 intro ns k m h0 h1;obtain⟨r1,e1,h1'⟩:=hm;have hx:=h1' ns k;generalize mixF ns k=N at hx;simp only[ans_e,fB];simp[e1,hx]
 by_cases z:N % 4=0\/m=0
 ·simp[z]
  obtain e|e|e|e|e:N / 4 % 5=0\/N / 4 % 5=1\/N / 4 % 5=2\/N / 4 % 5=3\/N / 4 % 5=4:=by grind
  all_goals simp[e]
 ·exact⟨N / 4 % m,by simp[z,show 0<m by grind]⟩
end TX
namespace L2.Z
open PySem SI
section
variable {Φ:Fs}{Ψ:FsM}{Γ:List (Str×D)}{U U':Ust}{s:SM}{r a b:SMs}{d:D}{t:Bool}{x:Nat}{e:M}
noncomputable def ifC (Φ:Fs)(Ψ:FsM)(Γ:List (Str×D))(c:Nat)(o:Cop)(y:E)(ρ:List Sl)(a b:SMs):R×Ust->Option (OM×Ust)
 |(.ok d,U)=>ifM Φ Ψ Γ c ((ev Φ Γ .read (vM c U ρ) y).bind fun e=>(bM o d e).map .bool) ρ U a b
 |(.exc x,U)=>some (.exc x ρ,U)
@[simp ↓ high] def exM_ifm {o:Cop} {y:E}:exM Φ Ψ Γ c ρ U (.ifm o e y a b)=(evM Φ Ψ Γ c ρ U e).bind (ifC Φ Ψ Γ c o y ρ a b):=by
 rw[exM];congr 1;funext z;obtain⟨z,V⟩:=z;cases z with
 |exc=>rfl
 |ok d=>
  show Option.bind _ _=Option.bind (Option.bind (ev Φ Γ _ (ρ.map _) y) _) _;cases ev Φ Γ _ _ y with
  |none=>rfl
  |some q=>
   show Option.bind (bM o d q) _=Option.bind (Option.map _ _) _;cases bM o d q<;>rfl
@[simp] def Ka {o:Cop}{y:E}:ifC Φ Ψ Γ c o y ρ a b (.ok d,U)=ifM Φ Ψ Γ c ((ev Φ Γ .read (vM c U ρ) y).bind fun e=>(bM o d e).map .bool) ρ U a b:=(rfl)
@[simp] def Kb {o:Cop}{y:E}:ifC Φ Ψ Γ c o y ρ a b (.exc x,U)=some (.exc x ρ,U):=(rfl)
end
end L2.Z
namespace TX
open PySem SI M1 L2.Z
variable {Φ:Fs}{Ψ:FsM}{Γ:List (Str×D)}{cNO cBT cBC:Nat}
def Hg (hf:BF Ψ)(hp:AA Ψ):xK (cy Φ Ψ Γ c (ib cBT)):=by
 intro L hz;obtain⟨r1,e1,h1⟩:=hf;obtain⟨j,q⟩:=xE L (.tree []) (by omega);refine⟨j,?_⟩;simp only[aR,ib];simp[aO,e1,h1,hp,iX,show ∀b ρ,cX Φ Ψ Γ c (.tup [2,3]) b [] ρ (vt L)=some (.nx ρ,vt L) from fun a a=>rfl,show jV (vt L) [.hdl 0,.tuple [.str ck,.tuple []]]=_ from q]
abbrev SBl (g:List Th->Int->Option (List Int))(cNO:Nat)(run:Ust->List D->Option (Ust×R)):Prop:=∀(L:List Th) (i:Int),(∀t∈L,t.sm)->run (vt L) [.hdl 0,.int i]=some (vt L,orX cNO (fun ys=>.ok (.list (ys.map .int))) (g L i))
abbrev AL (Ψ:FsM)(cNO:Nat):Prop:=dt Ψ "parents_of" [false,false] (SBl gP cNO)
def AM (hc:xI Ψ cNO):SBl gP cNO (cy Φ Ψ Γ c bG):=by
 intro L i _;obtain⟨r1,e1,h1⟩:=hc;simp only[aR,bG];simp[e1,h1,gP];cases q:ai L i ah with
 |none=>simp
 |some t=>
  have z:=(kind_some.mp q).2;cases t<;>simp at z
  simp[Th.pa]
variable {Φ:Fs}{Ψ:FsM}{Γ:List (Str×D)}{cNO cBT cBC:Nat}
noncomputable def dk (sn:List Int):List (Sum Int Str×D):=sn.map fun i=>(.inl i,.bool true)
theorem qK :∀{sn:List Int},(look (dk sn) (.inl x)).isSome=decide (x∈sn)
 |[]=>rfl
 |y::r=>by
  show (if Sum.inl y=Sum.inl x then _ else look (dk r) _).isSome=_
  by_cases h:y=x
  ·simp[h]
  ·rw[if_neg (by simpa using h),qK];simp[Ne.symm h]
theorem put_dk :∀{sn:List Int},x∉sn->put (dk sn) (.inl x) (.bool true)=dk (sn++[x])
 |[],_=>rfl
 |y::r,h=>by
  show (if Sum.inl y=Sum.inl x then _ else _::put (dk r) _ _)=_;rw[if_neg (by rintro ⟨⟩;exact h ms0),put_dk fun q=>h (mc0 _ q)];rfl
theorem qL:∀{sn:List Int},iw (dk sn)=some sn
 |[]=>rfl
 |y::r=>by show (iw (dk r)).map _=_;rw[qL];rfl
def AN (h:sn.length<64):biD .srtd [.dict (dk sn)]=some (.list ((insI sn).map .int)):=by
 show (iw _).bind _=_;rw[qL,bs0,if_pos h]
def qM :inD (.int x) (.dict (dk sn))=some (decide (x∈sn)):=by
 show some (look _ _).isSome=_;rw[qK]
theorem ka:∀{l m:List Int},l.Nodup->l ⊆ m->l.length≤m.length
 |[],_,_,_=>Nat.zero_le _
 |x::r,m,h,s=>by
  have⟨a,b⟩:=List.nodup_cons.mp h;have q:=ka b fun y hy=>(List.mem_erase_of_ne fun (e:y=x)=>a (e▸hy)).mpr (s (mc0 _ hy))
  grind
def nr {l:List Int}(h:l.Nodup)(hb:∀x∈l,∃n:Nat,x=n/\n<N):l.length≤N:=by
 have:=ka h fun x hx=>by
  obtain⟨n,rfl,hn⟩:=hb x hx;exact List.mem_map.mpr ⟨n,List.mem_range.mpr hn,rfl⟩
 simp_all
structure St where
 w:List Int
 sn:List Int
 s:Sl
structure Inv (N:Nat)(g:Int->Option (List Int))(xs:List Int)(m:Nat)(q:St):Prop where
 nd:q.sn.Nodup
 rs:∀x∈q.sn,Rch g xs x
 rw:∀x∈q.w,Rch g xs x
 al:∀x∈xs,x∈q.sn\/x∈q.w
 cl:∀x∈q.sn,∃ys,g x=some ys/\∀y∈ys,y∈q.sn\/y∈q.w
 me:m=q.w.length+5*(N-q.sn.length)
 wl:m≤1000
def jc {g:Int->Option (List Int)}(hg:Good N g)(h:∀x∈xs,(g x).isSome)(r:Rch g xs x):(g x).isSome:=by
 induction r with
 |base q=>exact h _ q
 |step _ q1 q2 _=>exact (hg _ _ q1).2.2 _ q2
noncomputable def dU (cNO N:Nat)(g:Int->Option (List Int))(xs:List Int):R:=open Classical in if ∀x∈xs,(g x).isSome then .ok (.list ((rL (Rch g xs) N).map .int)) else .exc cNO
def AO {aF:Nat}{f:Str}(hf:fnOf Γ (some (.dat (.fn aF)))=some f){L:List Th}{g:Int->Option (List Int)}(hb:dt Ψ f [false,false] fun run=>∀i,run (vt L) [.hdl 0,.int i]=some (vt L,orX cNO (fun ys=>.ok (.list (ys.map .int))) (g i)))(hg:Good N g)(hN:N<64)(xs:List Int)(hx:xs.length≤10):
  cy Φ Ψ Γ c bK (vt L) [.hdl 0,.list (xs.map .int),.fn aF]=some (vt L,dU cNO N g xs):=by
 obtain⟨r1,e1,h1⟩:=hb;have lo:∀d,ar (.own d)=true:=fun l=>rfl
 have ln:ar .no=true:=rfl;have vo:∀d,vE c (vt L) (.own d)=.lent d:=fun l=>rfl
 have vd:∀d,vE c (vt L) (.dat (.dict d))=.dat (.dict d):=fun l=>rfl
 have d1:∀d,az .read (.lent d)=some d:=fun l=>rfl
 have d2:∀d,az .test (.lent d)=some d:=fun l=>rfl
 simp only[aR,bK];simp[lo,ln,bo];refine BK (F:=fun q:St=>[.dat (.hdl 0),.dat (.list (xs.map .int)),.dat (.fn aF),.own (.list (q.w.map .int)),.own (.dict (dk q.sn)),q.s]) (V:=fun l=>vt L) (Inv N g xs) (P:=fun o=>AF (nxM Φ Ψ Γ c o _)=_) (fun m q j=>?_) (xs.length+5*N) 100000 ⟨xs,[],.no⟩ ⟨List.nodup_nil,nofun,fun x=>.base,fun x hx=>.inr hx,nofun,rfl,by grind⟩ (by omega);have sb:∀x∈q.sn,∃n:Nat,x=n/\n<N:=fun x hx=>by
  obtain⟨ys,k,_⟩:=j.cl x hx;exact (hg x ys k).1
 have sl:q.sn.length≤N:=nr j.nd sb;rcases List.eq_nil_or_concat q.w with e|⟨w',x,e⟩
 ·left
  have ok:∀x∈xs,(g x).isSome:=fun x hx=>by
   obtain⟨ys,k,_⟩:=j.cl x ((j.al x hx).resolve_right (by simp[e]));simp[k]
  have al:∀x,Rch g xs x->x∈q.sn:=fun x r=>by
   induction r with
   |base h=>exact (j.al _ h).resolve_right (by simp[e])
   |step _ k1 k2 ih=>
    obtain⟨ys,k,k3⟩:=j.cl _ ih;cases k.symm.trans k1;exact (k3 _ k2).resolve_right (by simp[e])
  have rr:=tf j.nd;have fin:insI q.sn=rL (Rch g xs) N:=fY rr.1 (ic _ _) fun z=>by
   rw[rr.2,mem_rL];exact⟨fun h=>by obtain⟨n,e,hn⟩:=sb z h;exact⟨n,e,hn,j.rs z h⟩,fun⟨_,_,_,h⟩=>al z h⟩
  refine⟨by simp[e,vo,d2],?_⟩;simp[AN (show q.sn.length<64 by omega),fin,dU,vd,if_pos ok]
 ·right
  rw[List.concat_eq_append] at e;refine⟨by simp[e,vo,d2],?_⟩;have rx:Rch g xs x:=j.rw x (by simp[e])
  by_cases hs:x∈q.sn
  ·refine .inl ⟨⟨w',q.sn,.dat (.int x)⟩,m-1,?_,?_,?_⟩
   ·have:=j.me;simp[e] at this;omega
   ·refine⟨j.nd,j.rs,fun y hy=>j.rw y (by simp[e,hy]),fun y hy=>?_,fun y hy=>?_,?_,?_⟩
    ·rcases j.al y hy with h|h
     ·exact .inl h
     ·simp[e] at h;exact h.elim .inr fun h=>.inl (h▸hs)
    ·obtain⟨ys,k,k2⟩:=j.cl y hy
     refine⟨ys,k,fun z hz=>?_⟩;rcases k2 z hz with h|h
     ·exact .inl h
     ·simp[e] at h;exact h.elim .inr fun h=>.inl (h▸hs)
    ·have:=j.me;simp[e] at this;show m-1=w'.length+5*(N-q.sn.length);omega
    ·have:=j.wl;omega
   ·simp[e,qM,hs,lo,ln,vo,d1]
  ·cases k:g x with
   |none=>
    refine .inr ⟨cNO,⟨w',q.sn++[x],.dat (.int x)⟩,?_,?_⟩
    ·simp[e,qM,hs,lo,ln,put_dk hs,vo,d1,hf,e1,h1,k,show (dk q.sn).length<1000 by simp[dk];omega]
     simp[wN]
    ·have:¬ ∀x∈xs,(g x).isSome:=fun h=>by have:=jc hg h rx;simp[k] at this
     rw[dU,if_neg this];rfl
   |some ys=>
    have gx:=hg x ys k;have nd:(q.sn++[x]).Nodup:=List.nodup_append.mpr ⟨j.nd,by simp,fun a ha b hb=>by simp at hb;exact fun e=>hs (hb▸e▸ha)⟩;have sl2:=nr nd fun y hy=>(ma0 hy).elim (sb y) fun h=>by rw[List.mem_singleton.mp h];exact gx.1
    rw[la0,List.length_singleton] at sl2;have me:=j.me;have wl:=j.wl;simp[e] at me;have up:∀y,y∈q.sn\/y∈q.w->y∈q.sn++[x]\/y∈w'++ys:=fun y h=>by
     rcases h with h|h
     ·exact .inl (List.mem_append_left _ h)
     ·simp[e] at h;exact h.elim (fun h=>.inr (List.mem_append_left _ h)) fun h=>.inl (by simp[h])
    refine .inl ⟨⟨w'++ys,q.sn++[x],.dat (.int x)⟩,(w'++ys).length+5*(N-(q.sn++[x]).length),?_,⟨nd,fun y hy=>?_,fun y hy=>?_,fun y hy=>up y (j.al y hy),fun y hy=>?_,rfl,?_⟩,?_⟩
    ·simp;omega
    ·exact (ma0 hy).elim (j.rs y) fun h=>List.mem_singleton.mp h▸rx
    ·exact (ma0 hy).elim (fun h=>j.rw y (by simp[e,h])) fun h=>.step rx k h
    ·rcases ma0 hy with h|h
     ·obtain⟨zs,k1,k2⟩:=j.cl y h
      exact⟨zs,k1,fun z hz=>up z (k2 z hz)⟩
     ·rw[List.mem_singleton.mp h]
      exact⟨ys,k,fun z hz=>.inr (mr0 _ hz)⟩
    ·simp;omega
    ·simp[e,qM,hs,lo,ln,put_dk hs,vo,d1,hf,e1,h1,k,show (dk q.sn).length<1000 by simp[dk];omega]
     simp[oP,Ah,show w'.length+ys.length≤big from nt0 (m:=1100) (by omega) (by decide)]
variable {Φ:Fs}{Ψ:FsM}{Γ:List (Str×D)}{cNO cBT cBC aN aP:Nat}
abbrev VL (cNO cBT cBC:Nat)(L:List Th):Prop:=Valid cNO cBT cBC L/\L.length≤20
theorem Valid.sm {L:List Th}(h:Valid cNO cBT cBC L):∀t∈L,t.sm:=fun t ht=>by
 obtain⟨P,R,e⟩:=List.append_of_mem ht;exact (h P t R e).1
def Ey {a:Nat}{x:Str}{l r:List (Str×D)}(e:Γ=l++(x,.fn a)::r)(h:∀p∈l,p.2≠.fn a)(k:Γ.lookup x=some (.fn a)):fnOf Γ (some (.dat (.fn a)))=some x:=by
 have q:Γ.find? (fun p=>decide (p.2=.fn a))=some (x,.fn a):=by
  rw[e,List.find?_append,List.find?_eq_none.mpr fun p hp=>by simpa using h p hp];simp
 simp only[fnOf];rw[q];exact if_pos k
abbrev Hh (cNO cBT cBC:Nat)(run:Ust->List D->Option (Ust×R)):Prop:=∀(L:List Th) (i:Int),VL cNO cBT cBC L->run (vt L) [.hdl 0,.int i]=some (vt L,dU cNO L.length (gP L) [i])
abbrev Hi (Ψ:FsM)(cNO cBT cBC:Nat):Prop:=dt Ψ "ancestors" [false,false] (Hh cNO cBT cBC)
end TX
namespace SI
open PySem
section
variable {Φ:Fs}{Γ:List (Str×D)}{r:Ss}{d:D}{m:Md}{e:E}
noncomputable def rvO (o:Option D):Option (List D):=o.bind fun d=>(asI d).bind fun n=>if rOk n then some ((List.range n.toNat).reverse.map fun (k:Nat)=>.int k) else none
def rvI {n:Int}(h1:-1000000≤n)(h2:n≤1000000):rvO (some (.int n))=some ((List.range n.toNat).reverse.map fun (k:Nat)=>.int k):=by
 show (if rOk n then _ else _)=_;rw[if_pos (uj h1 h2)]
noncomputable def rvL (o:Option D):Option (List D):=o.bind fun d=>rvO (biD .len [d])
@[simp ↓ 20000] def evI_rv:evI Φ Γ m ρ (.revr (.bi .len (.cons e .nil)))=rvL (ev Φ Γ .read ρ e):=by
 show rvO (((ev Φ Γ .read ρ e).bind fun x=>some _).bind _)=_;cases h:ev Φ Γ _ ρ e<;>rfl
def JE (h:ds.length≤1000000):rvL (some (.list ds))=some ((List.range ds.length).reverse.map fun (k:Nat)=>.int k):=by rw[rvL,bs0,len_list,rvI (by simp_all) (by grind),Int.toNat_natCast]
def jd {tg:Tg}:gQ Φ Γ tg r (d::ds) ρ=(aw tg d ρ).bind fun ρ'=>(exs Φ Γ ρ' r).bind fun o=>o.andThen fun ρ2=>gQ Φ Γ tg r ds ρ2:=(rfl)
end
end SI
namespace TX
open PySem SI M1 L2.Z
variable {Φ:Fs}{Ψ:FsM}{Γ:List (Str×D)}{cNO cBT cBC aN aP:Nat}
abbrev xQ (run:List D->Option D):Prop:=∀t:Th,t.sm->run [t.d]=some (.list (t.bl.map .int))
abbrev ph (Φ:Fs):Prop:=Has Φ "_law_below" [true] xQ
def tj:xQ (ans Φ Γ eC):=by
 intro t sm;simp only[ans_e,eC];cases t with
 |blob x=>exact sm.elim
 |tree es=>
  cases (show es=[] from sm);simp[Th.bl,aO]
 |com a ps tm m=>
  have hb:1+ps.length≤big:=nt0 (Nat.add_le_add_left sm 1) (by decide);simp[Th.bl,hb]
noncomputable abbrev bl (N:Nat)(p:Nat->Bool):List D:=(List.range N).map fun j=>.bool (p j)
def xR {m:Nat}{p:Nat->Bool}(h:m<N):atI (bl N p) (m:Int)=some (.bool (p m)):=gH (by simp[h])
def Ez {m:Nat}{p:Nat->Bool}{b:Bool}:(bl N p).set m (.bool b)=bl N fun j=>if j=m then b else p j:=by
 apply List.ext_getElem (by simp)
 intro i h1 h2;simp[List.getElem_set]
 by_cases e:m=i
 ·simp[e]
 ·simp[e,Ne.symm e]
theorem inner {a:Nat}{tl nl:Sl}(ha:a<N):∀(ys:List Int) (p:Nat->Bool) (s4:Sl),(∀y∈ys,∃m:Nat,y=m/\m<a)->∃s4',gQ Φ Γ (.one 4) (.cons (.seti 3 (.v 4) (.or (.idx (.v 3) (.v 4)) (.idx (.v 3) (.v 2)))) .nil) (ys.map .int) [tl,nl,.dat (.int a),.own (.list (bl N p)),s4]=some (.nx [tl,nl,.dat (.int a),.own (.list (bl N fun j=>p j||(p a&&decide ((j:Int)∈ys)))),s4'])
 |[],p,s4,_=>⟨s4,by simp[gQ,forL]⟩
 |y::ys,p,s4,h=>by
  obtain⟨m,rfl,hm⟩:=h y ms0;obtain⟨s4',e⟩:=inner (tl:=tl) (nl:=nl) ha ys (fun j=>if j=m then (p m||p a) else p j) (.dat (.int m)) fun y hy=>h y (mc0 _ hy)
  refine⟨s4',?_⟩;have k:ixN (bl N p).length (m:Int)=some m:=by simp[ixN];omega
  simp at k;simp[jd,xR (p:=p) (show m<N by omega),xR (p:=p) ha,k];rw[Ez,e];simp;intro j _;have na:a≠m:=by omega
  by_cases q:j=m
  ·simp[q,na];cases p m<;>cases p a<;>simp
  ·simp[q,na,show ¬ (j:Int)=m by omega]
noncomputable abbrev kBl:Ss:=.cons (.fors (.one 4) (.seq (.call "_law_below" (.cons (.idx (.v 0) (.v 2)) .nil))) (.cons (.seti 3 (.v 4) (.or (.idx (.v 3) (.v 4)) (.idx (.v 3) (.v 2)))) .nil)) .nil
structure Hj (L:List Th)(xs:List Int)(k:Nat)(p:Nat->Bool):Prop where
 so:∀j,p j=true->Rch (gB L) xs j
 al:∀j:Nat,(j:Int)∈xs->p j=true
 cl:∀i t,k≤i->L[i]?=some t->p i=true->∀m:Nat,(m:Int)∈t.bl->p m=true
theorem outer (hb:ph Φ){L:List Th}(hv:Valid cNO cBT cBC L){xs:List Int}{nl:Sl}:∀(k:Nat) (p:Nat->Bool) (s2 s4:Sl),k≤L.length->Hj L xs k p->∃p' s2' s4',Hj L xs 0 p'/\gQ Φ Γ (.one 2) kBl ((List.range k).reverse.map fun k:Nat=>.int k) [.lent (.list (L.map Th.d)),nl,s2,.own (.list (bl L.length p)),s4]=some (.nx [.lent (.list (L.map Th.d)),nl,s2',.own (.list (bl L.length p')),s4'])
 |0,p,s2,s4,_,j=>⟨p,s2,s4,j,rfl⟩
 |k+1,p,s2,s4,hk,j=>by
  have ht:L[k]?=some L[k]:=ge0 (by assumption);have ok:=(jZ hv ht).1;obtain⟨r1,e1,h1⟩:=hb;obtain⟨s4',e⟩:=inner (Φ:=Φ) (Γ:=Γ) (N:=L.length) (a:=k) (tl:=.lent (.list (L.map Th.d))) (nl:=nl) (by omega) L[k].bl p s4 fun y hy=>by obtain⟨m,_,q1,q2,_⟩:=ok y hy;exact⟨m,q1,q2⟩
  have up:∀m,p m=true->(p m||(p k&&decide ((m:Int)∈L[k].bl)))=true:=fun m h=>by simp[h]
  obtain⟨p',s2',s4'',j',e'⟩:=outer ⟨r1,e1,h1⟩ hv (xs:=xs) (nl:=nl) k (fun j=>p j||(p k&&decide ((j:Int)∈L[k].bl))) (.dat (.int k)) s4' (by exact Nat.le_of_lt ‹_›) ⟨fun m h=>by
    simp only[Bool.or_eq_true,be0,decide_eq_true_eq] at h;exact h.elim (j.so m) fun h=>.step (j.so k h.1) (by rw[gB,at_nat,ht];rfl) h.2,fun m h=>up m (j.al m h),fun i t hi q h m hm=>by
    by_cases ei:i=k
    ·subst ei
     cases ht.symm.trans q;have na:¬ (i:Int)∈L[i].bl:=fun h=>by obtain⟨z,_,q1,q2,_⟩:=ok _ h;grind
     simp[na] at h;simp[h,hm]
    ·have na:¬ (i:Int)∈L[k].bl:=fun h=>by obtain⟨z,_,q1,q2,_⟩:=ok _ h;grind
     simp[na] at h;exact up m (j.cl i t (by grind) q h m hm)⟩
  refine⟨p',s2',s4'',j',?_⟩;rw[List.range_succ,List.reverse_append];simp only[List.reverse_singleton,List.singleton_append,mk0,jd];simp[e1,AJ (show k<L.length by omega),h1 L[k] (hv.sm _ (List.getElem_mem _)),e];rw[←List.map_reverse];exact e'
abbrev qN (cNO cBT cBC:Nat)(run:List D->Option D):Prop:=∀(L:List Th) (xs:List Int),VL cNO cBT cBC L->(∀x∈xs,(gB L x).isSome)->run [.list (L.map Th.d),.list (xs.map .int)]=some (.list ((rL (Rch (gB L) xs) L.length).map .int))
abbrev qO (Φ:Fs)(cNO cBT cBC:Nat):Prop:=Has Φ "_law_reached" [true,true] (qN cNO cBT cBC)
def fD :inD (.int x) (.list (xs.map .int))=some (decide (x∈xs)):=by
 simp[inD,okS];rw[Bool.eq_iff_iff];simp
def pj (hb:ph Φ):qN cNO cBT cBC (ans Φ Γ cB):=by
 intro L xs hv hx;have hl:=hv.2;have hbig:L.length≤big:=nt0 hl (by decide);simp only[ans_e,cB];have R1:=GV (ds:=L.map Th.d) (by simp;omega);have R2:=JE (ds:=L.map Th.d) (by simp;omega);simp only[lm0] at R1 R2;simp[R1,hbig];rw[fX (g:=fun k:Nat=>D.bool (decide ((k:Int)∈xs))) fun k a=>by simp[iZ,fD]];obtain⟨p,s2,s4,j,e⟩:=outer (Φ:=Φ) (Γ:=Γ) hb hv.1 (xs:=xs) (nl:=.lent (.list (xs.map .int))) L.length (fun k=>decide ((k:Int)∈xs)) .no .no (nr0 _) ⟨fun m h=>.base (by simpa using h),fun m h=>by simpa using h,fun i t hi q=>by have:=(gi0 q).1;grind⟩;simp[bo,R2]
 rw[←List.map_reverse,e];simp[R1,hbig];rw[bf (g:=fun k:Nat=>D.int k) (p:=p) fun k hk=>by cases q:p k<;>simp[iZ,xR (p:=p) (List.mem_range.mp hk),q]];have fin:∀x,Rch (gB L) xs x->∃n:Nat,x=n/\n<L.length/\p n=true:=fun x r=>by
  induction r with
  |base h=>
   obtain⟨ys,q⟩:=is0 (hx _ h);obtain⟨n,rfl,hn⟩:=(xO hv.1 _ _ q).1;exact⟨n,rfl,hn,j.al n h⟩
  |step _ q1 q2 ih=>
   obtain⟨n,rfl,hn,hp⟩:=ih;obtain⟨ys,q⟩:=is0 ((xO hv.1 _ _ q1).2.2 _ q2);obtain⟨m,rfl,hm⟩:=(xO hv.1 _ _ q).1;obtain⟨t,q3,rfl⟩:=mx0 q1;rw[at_nat] at q3;exact⟨m,rfl,hm,j.cl n t (Nat.zero_le _) q3 hp m q2⟩
 simp[rL];refine congrArg _ (List.filter_congr fun k hk=>?_);rw[Bool.eq_iff_iff,@decide_eq_true_eq _ (_)];exact⟨j.so k,fun r=>by obtain⟨n,e,_,h⟩:=fin _ r;rwa [Int.ofNat_inj.mp e]⟩
def tq {P Q:Int->Prop}[DecidablePred Q]:(rL P N).filter (fun x=>decide (Q x))=rL (fun x=>P x/\Q x) N:=by
 simp only[rL,List.filter_map,List.filter_filter];refine congrArg _ (List.filter_congr fun k hk=>?_);rw[Bool.eq_iff_iff];simp[and_comm]
abbrev xS (cNO cBT cBC:Nat)(run:List D->Option D):Prop:=∀(L:List Th) (n:Int),VL cNO cBT cBC L->(ai L n ah).isSome->run [.list (L.map Th.d),.int n]=some (.list ((rL (Rch (gP L) [n]) L.length).map .int))
abbrev pq (Φ:Fs)(cNO cBT cBC:Nat):Prop:=Has Φ "_law_older" [true,true] (xS cNO cBT cBC)
def tu (hr:qO Φ cNO cBT cBC):xS cNO cBT cBC (ans Φ Γ eD):=by
 intro L n hv hn;obtain⟨r1,e1,h1⟩:=hr;obtain⟨t,ht⟩:=is0 hn;have k:=h1 L [n] hv fun x hx=>by rw[List.mem_singleton.mp hx,gB,(kind_some.mp ht).1];rfl
 simp at k;have hl:(rL (Rch (gB L) [n]) L.length).length≤big:=nt0 (nt0 (by simp[rL];exact nt0 (List.length_filter_le _ _) (by simp)) hv.2) (by decide);simp only[ans_e,eD];simp[e1,k,hl];rw[bf (g:=D.int) (p:=fun x=>decide ((ai L x ah).isSome)) fun x hx=>by
  obtain⟨m,rfl,hm,_⟩:=mem_rL.mp hx;have e:L[m]?=some L[m]:=ge0 hm
  by_cases z:L[m].k=ah<;>simp[iZ,AJ hm,d_0,ai,at_nat,e,z],tq]
 simp[funext fun i=>propext (JD hv.1 hn i)]
end TX
set_option maxRecDepth 10000
namespace TX
open PySem SI L2.Z
noncomputable def EA:Int:=999999999999999
noncomputable def gT:Ss:=(.cons (.set 9 (.idx (.lst (.cons (.k (.int 0)) (.cons (.k (.int 1)) (.cons (.k (.int 1)) (.cons (.k (.int 2)) (.cons (.k (.int EA)) (.cons (.op .mod (.op .fdiv (.v 5) (.k (.int 3))) (.k (.int 20))) .nil))))))) (.op .mod (.op .fdiv (.v 5) (.k (.int 60))) (.k (.int 6))))) (.cons (.frz 6 (.app 3 (.tup (.cons (.k (.str ⟨#[99,111,109,109,105,116]⟩)) (.cons (.k (.int 0)) (.cons (.v 6) (.cons (.v 9) (.cons (.op .add (.k (.str ⟨#[109]⟩)) (.bi .str (.cons (.v 4) .nil))) .nil)))))))) .nil))
noncomputable def bY:Def:=⟨[true,true,true],10,(.cons (.new 3 (.lst (.A (.tup (.B (.k (.str ⟨#[116,114,101,101]⟩)) (.lst .nil)))))) (.B (.fors (.one 4) (.rng (.v 2)) (.cons (.set 5 (.call "_law_mix" (.B (.v 0) (.op .add (.v 1) (.v 4))))) (.cons (.new 6 (.lst .nil)) (.cons (.fors (.one 7) (.rng (.op .mod (.v 5) (.k (.int 3)))) (.B (.set 8 (.op .add (.k (.int 1)) (.op .mod (.call "_law_mix" (.B (.v 0) (.op .add (.op .add (.op .add (.v 1) (.v 4)) (.op .mul (.k (.int 17)) (.v 7))) (.k (.int 17))))) (.bi .min (.B (.k (.int 4)) (.bi .max (.B (.k (.int 1)) (.v 4)))))))) (.app 6 (.op .sub (.bi .len (.A (.v 3))) (.v 8))))) (.cons (.new 6 (.comp 1 [] (.one 0) (.seq (.v 6)) (.A (.cmp .gt (.v 0) (.k (.int 0)))) (.v 0))) (.cons (.ifs (.and (.cmp .eq (.bi .len (.A (.v 6))) (.k (.int 2))) (.cmp .eq (.idx (.v 6) (.k (.int 0))) (.idx (.v 6) (.k (.int 1))))) (.A (.new 6 (.sl (.v 6) .nil (.A (.k (.int 1)))))) .nil) gT)))))) (.ret (.v 3))))⟩
noncomputable def g1C:E:=(.not (.bi .any (.cons (.comp 1 [4,0] (.one 0) (.seq (.v 2)) .nil (.and (.cmp .ne (.v 1) (.v 0)) (.cmp .isin (.v 1) (.call "_law_older" (.cons (.v 2) (.cons (.v 0) .nil)))))) .nil)))
noncomputable def g2C:E:=(.or (.cmp .gt (.idx (.idx (.v 0) (.v 4)) (.k (.int 3))) (.idx (.idx (.v 0) (.v 1)) (.k (.int 3)))) (.and (.cmp .eq (.idx (.idx (.v 0) (.v 4)) (.k (.int 3))) (.idx (.idx (.v 0) (.v 1)) (.k (.int 3)))) (.cmp .lt (.v 4) (.v 1))))
noncomputable def fE:Def:=⟨[true,true,true],5,(.cons (.new 3 (.lst .nil)) (.cons (.fors (.one 4) (.seq (.v 2)) (.A (.ifs g1C (.A (.app 3 (.v 4))) .nil))) (.cons (.ifs (.or (.cmp .isN (.v 1) (.k .none)) (.or (.not (.call "_law_whole" (.A (.v 1)))) (.cmp .notin (.v 1) (.v 3)))) (.A (.ret (.and (.cmp .isN (.v 1) (.k .none)) (.cmp .eq (.v 2) (.lst .nil))))) .nil) (.B (.frz 3 (.fors (.one 4) (.seq (.v 3)) (.A (.ifs g2C (.A (.ret (.k (.bool false)))) .nil)))) (.ret (.k (.bool true)))))))⟩
noncomputable def bt:aW:=⟨[false,false],5,(.cons (.pure (.new 2 (.bi .dict (.A (.lst .nil))))) (.B (.fors (.one 3) (.seq (.v 1)) (.A (.form (.one 4) (.call "parents_of" (.va 0 (.W 3))) (.A (.pure (.seti 2 (.v 4) (.k (.bool true)))))))) (.ret (.p (.comp 1 [2] (.one 0) (.seq (.v 1)) (.A (.cmp .notin (.v 0) (.v 1))) (.v 0))))))⟩
noncomputable def bq:aW:=⟨[false,false,false],4,(.B (.set 3 (.sand (.call "ancestors" (.va 0 (.W 1))) (.call "ancestors" (.va 0 (.W 2))))) (.ret (.mx (.call "without_child" (.va 0 (.W 3))) [0] (.tup (.ex (.call "time_of" (.va 1 (.W 0))) (.G (.p (.neg (.v 0)))))))))⟩
noncomputable def du (cNO:Nat)(cBT:Nat):aW:=⟨[false,false,false],6,(.cons (.set 3 (.p (.k .none))) (.cons (.set 4 (.p (.k .none))) (.cons (.try1 [(cNO,true),(cBT,true)] 3 5 (.A (.set 4 (.call "best_common" (.va 0 (.va 1 (.W 2))))))) (.B (.ifs (.cmp .notN (.v 3) (.k .none)) (.A (.ret (.p (.ite (.and (.isx (.v 3) cNO [(cNO,true),(cBT,false)]) (.not (.isx (.v 3) cBT [(cNO,false),(cBT,true)]))) (.k (.str ⟨#[110,111]⟩)) (.k (.str ⟨#[119,114,111,110,103]⟩)))))) .nil) (.ret (.p (.v 4)))))))⟩
noncomputable def eE:aW:=⟨[false,false],2,(.A (.ret (.ix 2 (.call "commit_of" (.va 0 (.W 1))))))⟩
noncomputable def AQ:SMs:=(.cons (.set 9 (.call "_law_told" (.va 6 (.va 7 (.va 8 .nil))))) (.cons (.ifm .ne (.call "_law_told" (.va 6 (.va 8 (.va 7 .nil)))) (.v 9) (.cons (.ret (.p (.k (.bool false)))) .nil) .nil) (.cons (.ifs (.or (.not (.chain .lt .lt (.k (.int 0)) (.v 7) (.bi .len (.cons (.v 1) .nil)))) (.cmp .eq (.v 8) (.k (.int 0)))) (.cons (.ret (.p (.cmp .eq (.v 9) (.k (.str ⟨#[110,111]⟩))))) .nil) .nil) (.cons (.pure (.set 10 (.comp 1 [8,1] (.one 0) (.seq (.call "_law_older" (.cons (.v 1) (.cons (.v 7) .nil)))) (.cons (.cmp .isin (.v 0) (.call "_law_older" (.cons (.v 2) (.cons (.v 1) .nil)))) .nil) (.v 0)))) (.cons (.ret (.p (.and (.cmp .ne (.v 9) (.k (.str ⟨#[110,111]⟩))) (.and (.cmp .ne (.v 9) (.k (.str ⟨#[119,114,111,110,103]⟩))) (.call "_law_good" (.cons (.v 1) (.cons (.v 9) (.cons (.v 10) .nil)))))))) .nil)))))
noncomputable def EB:SMs:=(.cons (.set 6 (.call "_law_filled" (.va 1 .nil))) (.cons (.set 7 (.p (.op .mod (.call "_law_mix" (.cons (.v 0) (.cons (.k (.int 51)) .nil))) (.bi .len (.cons (.v 1) .nil))))) (.cons (.set 8 (.p (.op .sub (.op .sub (.bi .len (.cons (.v 1) .nil)) (.k (.int 1))) (.op .mod (.call "_law_mix" (.cons (.v 0) (.cons (.k (.int 52)) .nil))) (.bi .min (.cons (.k (.int 3)) (.cons (.bi .len (.cons (.v 1) .nil)) .nil))))))) (.cons (.ifs (.v 2) (.cons (.set 7 (.p (.op .sub (.op .sub (.bi .len (.cons (.v 1) .nil)) (.k (.int 1))) (.op .mul (.k (.int 2)) (.op .mod (.call "_law_mix" (.cons (.v 0) (.cons (.k (.int 52)) .nil))) (.k (.int 2))))))) (.cons (.set 8 (.p (.op .sub (.bi .len (.cons (.v 1) .nil)) (.k (.int 2))))) .nil)) .nil) (.cons (.ifs (.cmp .eq (.op .mod (.call "_law_mix" (.cons (.v 0) (.cons (.k (.int 53)) .nil))) (.k (.int 8))) (.k (.int 0))) (.cons (.set 7 (.p (.call "_law_wild" (.cons (.v 0) (.cons (.k (.int 54)) (.cons (.bi .len (.cons (.v 1) .nil)) .nil)))))) .nil) .nil) AQ)))))
noncomputable def xT:SMs:=(.cons (.set 5 (.p (.idx (.lst (.cons (.lst .nil) (.cons (.lst .nil) (.cons (.lst (.cons (.v 3) (.cons (.op .add (.v 3) (.k (.int 1))) .nil))) (.cons (.lst (.cons (.op .add (.v 3) (.k (.int 1))) (.cons (.v 3) .nil))) (.cons (.lst (.cons (.op .add (.v 3) (.k (.int 2))) .nil)) .nil)))))) (.v 4)))) (.cons (.pure (.app 1 (.tup (.cons (.k (.str ⟨#[99,111,109,109,105,116]⟩)) (.cons (.k (.int 0)) (.cons (.v 5) (.cons (.op .mod (.call "_law_mix" (.cons (.v 0) (.cons (.op .add (.k (.int 56)) (.v 4)) .nil))) (.k (.int 3))) (.cons (.op .add (.k (.str ⟨#[120]⟩)) (.bi .str (.cons (.v 4) .nil))) .nil)))))))) .nil))
noncomputable def cY:aW:=⟨[true],11,(.cons (.newc 1 "_law_grown" (.cons (.v 0) (.B (.k (.int 0)) (.op .mod (.call "_law_mix" (.B (.v 0) (.k (.int 50)))) (.k (.int 13)))))) (.cons (.set 2 (.p (.cmp .eq (.op .mod (.call "_law_mix" (.B (.v 0) (.k (.int 55)))) (.k (.int 3))) (.k (.int 0))))) (.cons (.ifs (.v 2) (.B (.set 3 (.p (.bi .len (.A (.v 1))))) (.fors (.one 4) (.rng (.k (.int 5))) xT)) .nil) EB)))⟩
end TX
namespace TX
open PySem SI M1 L2.Z
variable {Φ:Fs}{Ψ:FsM}{Γ:List (Str×D)}{cNO cBT cBC aP:Nat}
noncomputable def Th.tm:Th->Int
 |.com _ _ tm _=>tm
 |_=>0
noncomputable def tmL (L:List Th)(i:Int):Int:=((ai L i ah).map Th.tm).getD 0
abbrev BP (run:Ust->List D->Option (Ust×R)):Prop:=∀(L:List Th) (i:Int),(ai L i ah).isSome->run (vt L) [.hdl 0,.int i]=some (vt L,.ok (.int (tmL L i)))
abbrev BQ (Ψ:FsM):Prop:=dt Ψ "time_of" [false,false] BP
def xU (hc:xI Ψ cNO):BP (cy Φ Ψ Γ c eE):=by
 intro L i hi;obtain⟨r1,e1,h1⟩:=hc;obtain⟨t,q⟩:=is0 hi;have k:=h1 L i;rw[q] at k;simp only[aR,eE];have z:=(kind_some.mp q).2;cases t<;>simp at z
 simp[e1,k,orX,tmL,q,Th.tm]
theorem eF:∀ns:List Int,eZ (ns.map D.int)=some ns
 |[]=>rfl
 |n::r=>by rw[mk0,eZ,eF r];rfl
def lx {P:Int->Prop}:(rL P N).length≤N:=by
 unfold rL;rw[lm0];exact nt0 (List.length_filter_le _ _) (by simp)
def d_3 {L:List Th}{t:Th}(h:L[n]?=some t)(k:t.k=ah):kx t.d (.int 3)=some (.int (tmL L n)):=by
 have q:ai L n ah=some t:=kind_some.mpr ⟨at_nat.trans h,k⟩;rw[tmL,q];cases t<;>simp at k
 rfl
abbrev BR (aP cNO cBT cBC:Nat)(run:Ust->List D->Option (Ust×R)):Prop:=∀(L:List Th) (xs:List Int),VL cNO cBT cBC L->xs.length≤10->run (vt L) [.hdl 0,.list (xs.map .int),.fn aP]=some (vt L,dU cNO L.length (gP L) xs)
abbrev BS (Ψ:FsM)(aP cNO cBT cBC:Nat):Prop:=dt Ψ "all_below" [false,false,false] (BR aP cNO cBT cBC)
def AR (f2:fnOf Γ (some (.dat (.fn aP)))=some "parents_of")(hp:AL Ψ cNO):BR aP cNO cBT cBC (cy Φ Ψ Γ c bK):=by
 intro L xs hv hx;obtain⟨r2,e2,h2⟩:=hp;exact AO f2 ⟨r2,e2,fun i=>h2 L i hv.1.sm⟩ (nh hv.1) (by have:=hv.2;omega) xs hx
def xV (ha:BS Ψ aP cNO cBT cBC)(hg:Γ.lookup ("parents_of":Str)=some (.fn aP)):Hh cNO cBT cBC (cy Φ Ψ Γ c cC):=by
 intro L i hv;obtain⟨r1,e1,h1⟩:=ha;have k:=h1 L [i] hv (show 1≤10 by decide);simp only[aR,cC];simp at k;simp[e1,k,hg];cases dU cNO L.length (gP L) [i]<;>simp
variable {Φ:Fs}{Ψ:FsM}{Γ:List (Str×D)}{cNO cBT cBC:Nat}
theorem xW {tg:Tg}{r:Ss}{F:α->List Sl}(J:Nat->α->Prop){P:Option Out->Prop}:∀(n a:Nat) {s:α} (k:∀s,J (a+n) s->P (some (.nx (F s)))) (h:∀x,a≤x->x<a+n->∀s,J x s->∃s',J (x+1) s'/\(aw tg (.int x) (F s)).bind (fun ρ=>exs Φ Γ ρ r)=some (.nx (F s'))),J a s->P (gQ Φ Γ tg r ((List.range' a n).map fun k:Nat=>.int k) (F s))
 |0,a,s,k,_,j=>k s j
 |n+1,a,s,k,h,j=>by
  obtain⟨s',j',e⟩:=h a (nr0 _) (by simp_all) s j;obtain⟨ρ',e1,e2⟩:=bx0 e;show P ((aw tg (.int a) (F s)).bind fun ρ'=>(exs Φ Γ ρ' r).bind _);rw[e1,bs0,e2];exact xW J n (a+1) (fun s j=>k s (by rw[show a+(n+1)=a+1+n by grind];exact j)) (fun x h1 h2=>h x (by exact Nat.le_of_lt ‹_›) (by grind)) j'
def Hk {tg:Tg}{r:Ss}{F:α->List Sl}(J:Nat->α->Prop){P:Option Out->Prop}{m:Nat}{s:α}(k:∀s,J m s->P (some (.nx (F s))))(h:∀x,x<m->∀s,J x s->∃s',J (x+1) s'/\(aw tg (.int x) (F s)).bind (fun ρ=>exs Φ Γ ρ r)=some (.nx (F s')))(j:J 0 s):P (gQ Φ Γ tg r ((List.range m).map fun k:Nat=>.int k) (F s)):=by
 rw[List.range_eq_range'];exact xW J m 0 (fun s j=>k s (by simpa using j)) (fun x a h2=>h x (by simp_all)) j
noncomputable def msg (x:Nat):Str:=⟨#[109]⟩++(Str.ofString (toString (x:Int)))
def AS:∀x:Nat,x<13->∀y:Nat,y<13->msg x=msg y->x=y:=by decide
def xX:∀x:Nat,x<13->10∉(msg x).cps.toList/\(⟨#[109]⟩:Str).length+(Str.ofString (toString (x:Int))).length≤10:=by decide
def GJ (cNO cBT cBC:Nat)(x:Nat)(L:List Th):Prop:=Valid cNO cBT cBC L/\L.length=x+1/\L[0]?=some (.tree [])/\∀(n:Nat) t,L[n]?=some t->0<n->∃a ps tm y,t=.com a ps tm (msg y)/\y<x
theorem GJ.snoc {x:Nat}{L:List Th}{tm:Int}(h:GJ cNO cBT cBC x L)(hx:x<12)(hl:qs.length≤2)(hq:∀p∈qs,1≤p/\p≤x)(hd:(dA qs).length=qs.length)(ht:0≤tm):GJ cNO cBT cBC (x+1) (L++[.com 0 qs tm (msg x)]):=by
 obtain⟨j1,j2,j3,j4⟩:=h;have k0:(ai L 0 ck).isSome:=by
  have:ai L 0 ck=some (.tree []):=kind_some.mpr ⟨(at_nat (n:=0)).trans j3,rfl⟩;rw[this];rfl
 have kp:xN L qs=true:=List.all_eq_true.mpr fun p hp=>by
  obtain⟨h1,h2⟩:=hq p hp;obtain⟨n,rfl⟩:=Int.eq_ofNat_of_zero_le (show 0≤p by grind);have hn:n<L.length:=by grind
  have e:L[n]?=some L[n]:=ge0 hn;obtain⟨a,ps,tm,y,e2,_⟩:=j4 n _ e (by grind);rw[kind_some.mpr ⟨at_nat.trans e,by rw[e2];rfl⟩];rfl
 refine⟨j1.snoc ⟨nt0 hl (by decide),?_,fun hm=>?_⟩,by simp[j2],by rw[gl0 (by simp_all)];exact j3,fun n t e hn=>?_⟩
 ·show ja cNO cBC L 0 qs tm (msg x)=none
  rw[ja,k0,kp];simp[hl,hd,ht,(xX x (by exact Nat.lt_succ_of_lt ‹_›)).1]
 ·obtain⟨n,hn⟩:=List.getElem?_of_mem hm
  cases n with
  |zero=>rw[j3] at hn;cases hn
  |succ n=>
   obtain⟨a,ps,tm',y,e2,hy⟩:=j4 (n+1) _ hn (by simp_all);injection e2 with _ _ _ e3
   have:=AS x (by exact Nat.lt_succ_of_lt ‹_›) y (by grind) e3;omega
 ·by_cases hlt:n<L.length
  ·rw[gl0 hlt] at e
   obtain⟨a,ps,tm',y,e2,hy⟩:=j4 n t e hn;exact⟨a,ps,tm',y,e2,by omega⟩
  ·rw[List.getElem?_append_right (by omega)] at e
   have:n-L.length=0:=by
    have:=(gi0 e).1;simp at this;omega
   rw[this] at e;cases e;exact⟨_,_,_,x,rfl,by omega⟩
noncomputable def Hl (Φ:Fs)(Γ:List (Str×D))(ρ:List Sl)(j:Nat)(s:S):Option Sl->Option Out
 |some (.own d)=>ex Φ Γ (ρ.set j (.dat d)) s
 |_=>none
@[simp ↓ high] def ex_frz  {j:Nat} {s:S}:ex Φ Γ ρ (.frz j s)=Hl Φ Γ ρ j s ρ[j]?:=rfl
@[simp] def xY {j:Nat}{s:S}{d:D}:Hl Φ Γ ρ j s (some (.own d))=ex Φ Γ (ρ.set j (.dat d)) s:=(rfl)
noncomputable def sO (o:Option D):Sl:=match o with
 |some d=>.dat d
 |none=>.no
@[simp ↓ high] def nd_sO {o:Option D}:bD (sO o)=true:=by cases o<;>rfl
def Hm {x:Nat}(hx:x<13):biD .str [.int (x:Int)]=some (.str (Str.ofString (toString (x:Int)))):=by rw[str_int,if_pos (by grind)]
def JF {x:Nat}(hx:x<13):(⟨#[109]⟩:Str).length+(Str.ofString (toString (x:Int))).length≤big:=nt0 (xX x (by omega)).2 (by decide)
section
variable {s0 s1 s7 s8:Sl}{L:List Th}{tm:Int}{x:Nat}
def Hn (hx:x<13):ev Φ Γ .val [s0,s1,s2,.own (.list (L.map Th.d)),.dat (.int x),s5,.dat (.list (qs.map .int)),s7,s8,.dat (.int tm)] (.op .add (.k (.str ⟨#[109]⟩)) (.bi .str (.cons (.v 4) .nil)))=some (.str (msg x)):=by
 show ((some (D.str ⟨#[109]⟩)).bind fun a=>((evs Φ Γ .read [true,true,true] [s0,s1,s2,.own (.list (L.map Th.d)),.dat (.int x),s5,.dat (.list (qs.map .int)),s7,s8,.dat (.int tm)] (.cons (.v 4) .nil)).bind fun ds=>biD .str ds).bind fun b=>opD .add a b)=_;have e:evs Φ Γ .read [true,true,true] [s0,s1,s2,.own (.list (L.map Th.d)),.dat (.int x),s5,.dat (.list (qs.map .int)),s7,s8,.dat (.int tm)] (.cons (.v 4) .nil)=some [.int x]:=rfl;rw[e,bs0,bs0,Hm hx,bs0];exact if_pos (JF hx)
def AU (hx:x<13):ev Φ Γ .val [s0,s1,s2,.own (.list (L.map Th.d)),.dat (.int x),s5,.dat (.list (qs.map .int)),s7,s8,.dat (.int tm)] (.tup (.cons (.k (.str ⟨#[99,111,109,109,105,116]⟩)) (.cons (.k (.int 0)) (.cons (.v 6) (.cons (.v 9) (.cons (.op .add (.k (.str ⟨#[109]⟩)) (.bi .str (.cons (.v 4) .nil))) .nil))))))=some (.tuple [.str ah,.int 0,.list (qs.map .int),.int tm,.str (msg x)]):=by
 have a:=Hn (Φ:=Φ) (Γ:=Γ) (s0:=s0) (s1:=s1) (s2:=s2) (s5:=s5) (s7:=s7) (s8:=s8) (L:=L) (qs:=qs) (tm:=tm) hx;generalize (E.op .add (.k (.str ⟨#[109]⟩)) (.bi .str (.cons (.v 4) .nil)))=A at a ⊢;simp[a]
def AV (hx:x<13)(lb:L.length<big):ex Φ Γ [s0,s1,s2,.own (.list (L.map Th.d)),.dat (.int x),s5,.dat (.list (qs.map .int)),s7,s8,.dat (.int tm)] (.app 3 (.tup (.cons (.k (.str ⟨#[99,111,109,109,105,116]⟩)) (.cons (.k (.int 0)) (.cons (.v 6) (.cons (.v 9) (.cons (.op .add (.k (.str ⟨#[109]⟩)) (.bi .str (.cons (.v 4) .nil))) .nil)))))))=some (.nx [s0,s1,s2,.own (.list ((L++[Th.com 0 qs tm (msg x)]).map Th.d)),.dat (.int x),s5,.dat (.list (qs.map .int)),s7,s8,.dat (.int tm)]):=by
 have e:=AU (Φ:=Φ) (Γ:=Γ) (s0:=s0) (s1:=s1) (s2:=s2) (s5:=s5) (s7:=s7) (s8:=s8) (L:=L) (qs:=qs) (tm:=tm) hx;generalize (E.tup (.cons (.k (.str ⟨#[99,111,109,109,105,116]⟩)) (.cons (.k (.int 0)) (.cons (.v 6) (.cons (.v 9) (.cons (.op .add (.k (.str ⟨#[109]⟩)) (.bi .str (.cons (.v 4) .nil))) .nil))))))=A at e ⊢;simp[e,lb,Th.d]
end
def EC {ρ0 ρ1 ρ2 s7 s8 s9:Sl}{L:List Th}{tm z:Int}{x:Nat}(hx:x<13)(lb:L.length<big)(t1:atI [D.int 0,.int 1,.int 1,.int 2,.int EA,.int (z / 3 % 20)] (z / 60 % 6)=some (.int tm)):exs Φ Γ [ρ0,ρ1,ρ2,.own (.list (L.map Th.d)),.dat (.int x),.dat (.int z),.own (.list (qs.map .int)),s7,s8,s9] gT=some (.nx [ρ0,ρ1,ρ2,.own (.list ((L++[Th.com 0 qs tm (msg x)]).map Th.d)),.dat (.int x),.dat (.int z),.dat (.list (qs.map .int)),s7,s8,.dat (.int tm)]):=by
 unfold gT;simp[-str_int,-Int.toString_eq_repr];rw[t1];simp[-str_int,-Int.toString_eq_repr,-xY];rw[xY];simp only[List.set_cons_succ,List.set_cons_zero];rw[AV hx lb];rw[List.map_append];rfl
def Ho {z:Int}:∃tm:Int,0≤tm/\atI [D.int 0,.int 1,.int 1,.int 2,.int EA,.int (z / 3 % 20)] (z / 60 % 6)=some (.int tm):=by
 have h1:0≤z / 60 % 6/\z / 60 % 6<6:=⟨en0 _ (by decide),el0 _ (by decide)⟩;have h2:0≤z / 3 % 20:=en0 _ (by decide);generalize z / 60 % 6=i at h1;generalize z / 3 % 20=v at h2;obtain⟨n,rfl⟩:=Int.eq_ofNat_of_zero_le h1.1;have hn:=by omega
 match n,hn with
 |0,_=>exact⟨0,by decide,rfl⟩
 |1,_=>exact⟨1,by decide,rfl⟩
 |2,_=>exact⟨1,by decide,rfl⟩
 |3,_=>exact⟨2,by decide,rfl⟩
 |4,_=>exact⟨_,by decide,rfl⟩
 |5,_=>exact⟨v,h2,rfl⟩
def ED (cNO cBT cBC:Nat)(L:List Th):Prop:=∃x,x≤12/\GJ cNO cBT cBC x L
abbrev xZ (cNO cBT cBC:Nat)(run:List D->Option D):Prop:=∀ns b m,0≤m->m≤12->∃L:List Th,ED cNO cBT cBC L/\run [.scr ns,.int b,.int m]=some (.list (L.map Th.d))
abbrev ya (Φ:Fs)(cNO cBT cBC:Nat):Prop:=Has Φ "_law_grown" [true,true,true] (xZ cNO cBT cBC)
def tw (hm:oY Φ):xZ cNO cBT cBC (ans Φ Γ bY):=by
 intro ns b m h0 h1;obtain⟨r1,e1,k1⟩:=hm;simp only[ans_e,bY];simp[AC (n:=m) (by omega) (by omega)];refine Hk (F:=fun s:List Th×Option D×Option D×Option D×Option D×Option D×Option D=>[.lent (.scr ns),.lent (.int b),.lent (.int m),.own (.list (s.1.map Th.d)),sO s.2.1,sO s.2.2.1,sO s.2.2.2.1,sO s.2.2.2.2.1,sO s.2.2.2.2.2.1,sO s.2.2.2.2.2.2]) (s:=([.tree []],none,none,none,none,none,none)) (fun x s=>GJ cNO cBT cBC x s.1) (P:=fun o=>∃L:List Th,ED cNO cBT cBC L/\AE (nxS Φ Γ o _)=some (.list (L.map Th.d))) ?_ ?_ ?_
 ·rintro s j
  exact⟨s.1,⟨_,by omega,j⟩,by simp⟩
 ·rintro x hx ⟨L,s4,s5,s6,s7,s8,s9⟩ ⟨j1,j2,j3,j4⟩
  have j2:L.length=x+1:=j2;have xb:x<12:=by omega
  have lb:L.length<big:=by unfold big;omega
  simp[e1,k1];have m3:=eu ns (b+x) 3 (by decide);generalize mixF ns (b+x)=z at m3 ⊢;simp[AC (n:=z % 3) (by omega) (by omega)];have hM:∃M:Int,(if (if (x:Int)>1 then (x:Int) else 1)<4 then (if (x:Int)>1 then (x:Int) else 1) else 4)=M/\0<M/\(M≤x\/M=1):=⟨_,rfl,by split<;>(try split)<;>omega,by split<;>(try split)<;>omega⟩;obtain⟨M,hM,M0,M1⟩:=hM;refine BB (F:=fun q:List Int×Option D×Option D=>[.lent (.scr ns),.lent (.int b),.lent (.int m),.own (.list (L.map Th.d)),.dat (.int x),.dat (.int z),.own (.list (q.1.map .int)),sO q.2.1,sO q.2.2,sO s9]) (s:=([],s7,s8)) (fun n q=>q.1.length+n≤2/\∀p∈q.1,0≤p/\p≤x/\(p=0->x=0)) (P:=fun o=>∃a,GJ cNO cBT cBC (x+1) a/\∃a1 a2 a3 a4 a5 b1,nxS Φ Γ o _=some (.nx [.lent (.scr ns),.lent (.int b),.lent (.int m),.own (.list (a.map Th.d)),sO a1,sO a2,sO a3,sO a4,sO a5,sO b1])) ?_ ?_ ?_
  ·rintro ⟨ps,s7,s8⟩ ⟨i1,i2⟩
   have i1:ps.length≤2:=i1;have i2:∀p∈ps,0≤p/\p≤x/\(p=0->x=0):=i2;simp;have pb:ps.length≤big:=by unfold big;omega
   rw[if_pos pb,bf (g:=D.int) (p:=fun p=>decide (0<p)) fun p c=>by simp[iZ];split<;>rfl];have q1:(ps.filter fun p=>decide (0<p)).length≤2:=nt0 (List.length_filter_le _ _) i1;have q2:∀p∈ps.filter fun p=>decide (0<p),1≤p/\p≤x:=fun p hp=>by
    obtain⟨h1,h2⟩:=List.mem_filter.mp hp;have:=i2 p h1;have:=od0 h2;omega
   generalize (ps.filter fun p=>decide (0<p))=qs at q1 q2;have t6:=Ho (z:=z);obtain⟨tm,t0,t1⟩:=t6;have key:∀qs:List Int,qs.length≤2->(∀p∈qs,1≤p/\p≤x)->(dA qs).length=qs.length->∃a,GJ cNO cBT cBC (x+1) a/\∃a1 a2 a3 a4 a5 b1,exs Φ Γ [.lent (.scr ns),.lent (.int b),.lent (.int m),.own (.list (L.map Th.d)),.dat (.int x),.dat (.int z),.own (.list (qs.map .int)),sO s7,sO s8,sO s9] gT=some (.nx [.lent (.scr ns),.lent (.int b),.lent (.int m),.own (.list (a.map Th.d)),sO a1,sO a2,sO a3,sO a4,sO a5,sO b1]):=fun qs a1 a2 a3=>⟨_,GJ.snoc ⟨j1,j2,j3,j4⟩ xb a1 a2 a3 t0,some _,some _,some _,s7,s8,some _,EC (Nat.lt_succ_of_lt xb) lb t1⟩
   rcases qs with _|⟨p,_|⟨q,_|⟨_,_⟩⟩⟩
   ·simp
    exact key [] (by simp) (by simp) rfl
   ·simp
    exact key [p] (by simp) q2 rfl
   ·by_cases e:p=q
    ·simp[e]
     exact key [q] (by simp) (fun r hr=>q2 r (mc0 _ hr)) rfl
    ·simp[e]
     exact key [p,q] (by simp) q2 (by simp[dA,ky,e,Ne.symm e])
   ·simp at q1
  ·rintro y hy n ⟨ps,s7,s8⟩ ⟨i1,i2⟩
   have i1:ps.length+(n+1)≤2:=i1;have i2:∀p∈ps,0≤p/\p≤x/\(p=0->x=0):=i2;have pb:ps.length<big:=by unfold big;omega
   have mm:=eu ns (b+x+17*y+17) M M0;refine⟨(ps++[(L.length:Int)-(1+mixF ns (b+x+17*y+17) % M)],some (.int y),some (.int (1+mixF ns (b+x+17*y+17) % M))),⟨by simp;omega,fun p hp=>?_⟩,?_⟩
   ·rcases ma0 hp with hp|hp
    ·exact i2 p hp
    ·rw[List.mem_singleton.mp hp];omega
   ·simp[e1,k1,mulL (i:=17) (by decide) (by decide),hM,M0,pb]
    exact⟨rfl,rfl⟩
  ·exact⟨by simp;omega,by simp⟩
 ·refine⟨fun P t R e=>?_,rfl,rfl,fun n t e hn=>?_⟩
  ·cases P with
   |nil=>cases e;exact⟨rfl,rfl,by simp⟩
   |cons p P=>cases P<;>cases e
  ·have:=(gi0 e).1
   simp at this;omega
variable {Φ:Fs}{Ψ:FsM}{Γ:List (Str×D)}{cNO cBT cBC aP:Nat}
def yb {a b d:Int×Int}(h1:ltI b a=false)(h2:ltI d b=false):ltI d a=false:=by
 rw[qv] at h1 h2 ⊢;grind
def EE (a:Int×Int):ltI a a=false:=by rw[qv];simp_all
def EF {a b:Int×Int}(h:ltI a b=true):ltI b a=false:=by
 have h:¬ (ltI a b=false):=by rw[h];simp
 rw[qv] at h ⊢;grind
theorem ly {kf:Int->Int×Int}:∀(r:List Int) (n:Int),(r.foldl (fun b m=>if ltI (kf b) (kf m)=true then m else b) n=n\/r.foldl (fun b m=>if ltI (kf b) (kf m)=true then m else b) n∈r)/\ltI (kf (r.foldl (fun b m=>if ltI (kf b) (kf m)=true then m else b) n)) (kf n)=false/\∀m∈r,ltI (kf (r.foldl (fun b m=>if ltI (kf b) (kf m)=true then m else b) n)) (kf m)=false
 |[],n=>⟨.inl rfl,EE _,nofun⟩
 |x::r,n=>by
  rw[List.foldl_cons]
  by_cases h:ltI (kf n) (kf x)=true
  ·rw[if_pos h]
   obtain⟨a,b,d⟩:=ly r x;refine⟨.inr ?_,yb (EF h) b,fun m hm=>?_⟩
   ·rcases a with a|a
    ·rw[a];exact ms0
    ·exact mc0 _ a
   ·rcases mq0 hm with rfl|hm
    ·exact b
    ·exact d m hm
  ·rw[if_neg h]
   obtain⟨a,b,d⟩:=ly r n;refine⟨a.imp id (mc0 _),b,fun m hm=>?_⟩;rcases mq0 hm with rfl|hm
   ·exact yb (bf0 h) b
   ·exact d m hm
def AW {kf:Int->Int×Int}{n:Int}(h:mxI kf ns=some n):n∈ns/\∀m∈ns,ltI (kf n) (kf m)=false:=by
 cases ns with
 |nil=>cases h
 |cons x r=>
  obtain rfl:=Option.some.inj h;obtain⟨a,b,d⟩:=ly (kf:=kf) r x<;>simp_all
theorem fZ {kf kg:Int->Int×Int}:∀(r:List Int) (n:Int),kf n=kg n->(∀m∈r,kf m=kg m)->r.foldl (fun b m=>if ltI (kf b) (kf m)=true then m else b) n=r.foldl (fun b m=>if ltI (kg b) (kg m)=true then m else b) n
 |[],n,_,_=>rfl
 |x::r,n,h,hr=>by
  have hx:=hr x ms0;have hr:=fun m hm=>hr m (mc0 _ hm)
  rw[List.foldl_cons,List.foldl_cons,h,hx];split
  ·exact fZ r x hx hr
  ·exact fZ r n h hr
def EG {f:Int->Option Int}{g:Int->Int}(h:∀n∈ns,f n=some (g n))(hl:ns.length<64):mxK f ns=some (cJ (mxI (fun n=>(g n,-n)) ns)):=by
 unfold mxK;rw[if_pos ⟨hl,List.all_eq_true.mpr fun n hn=>by rw[h n hn];rfl⟩];have e:∀n∈ns,wM f n=(g n,-n):=fun n hn=>by unfold wM;rw[h n hn];rfl
 cases ns with
 |nil=>rfl
 |cons n r=>exact congrArg (fun x=>some (cJ (some x))) (fZ r n (e n ms0) fun m hm=>e m (mc0 _ hm))
noncomputable def par (L:List Th)(x:Int):List Int:=(gP L x).getD []
noncomputable def wcL (L:List Th)(C:List Int):List Int:=C.filter fun x=>C.all fun y=>!(par L y).contains x
noncomputable def tB (sn:List Int)(x:Int):List Int:=if x∈sn then sn else sn++[x]
theorem put_in :∀{sn:List Int},x∈sn->put (dk sn) (.inl x) (.bool true)=dk sn
 |y::r,h=>by
  show (if Sum.inl y=Sum.inl x then _ else _::put (dk r) _ _)=_
  by_cases e:y=x
  ·rw[if_pos (by rw[e])];rfl
  ·rw[if_neg (by simpa using e),put_in ((mq0 h).resolve_left (Ne.symm e))];rfl
set_option tactic.hygienic true in
def Hq :put (dk sn) (.inl x) (.bool true)=dk (tB sn x):=by
 unfold tB;split
 ·rename_i h;exact put_in h
 ·rename_i h;exact put_dk h
def AX (sn:List Int)(x:Int):(∀y,y∈tB sn x↔y∈sn\/y=x)/\(tB sn x).length≤sn.length+1:=by
 unfold tB;split<;>simp_all
noncomputable def BU (Φ:Fs)(Ψ:FsM)(Γ:List (Str×D))(c:Nat)(tg:Tg)(r:SMs)(ρ:List Sl)(z:R×Ust):Option (OM×Ust):=match z.1 with
 |.ok d=>(oP d).bind fun ds=>cX Φ Ψ Γ c tg r ds ρ z.2
 |.exc x=>some (.exc x ρ,z.2)
@[simp ↓ high] def exM_form {tg:Tg} {e:M} {r:SMs}  {U:Ust}:exM Φ Ψ Γ c ρ U (.form tg e r)=(evM Φ Ψ Γ c ρ U e).bind (BU Φ Ψ Γ c tg r ρ):=rfl
@[simp] def Io {tg:Tg}{r:SMs}{U:Ust}:BU Φ Ψ Γ c tg r ρ (.ok (.list ds),U)=cX Φ Ψ Γ c tg r ds ρ U:=(rfl)
section
variable {L:List Th}{C:List Int}
theorem BV:∀(ys sn:List Int) (s3 s4:Sl) (U:Ust),sn.length+ys.length<1000->ar s3=true->ar s4=true->∃sn' s4',cX Φ Ψ Γ c (.one 4) (.cons (.pure (.seti 2 (.v 4) (.k (.bool true)))) .nil) (ys.map .int) [.dat (.hdl 0),.dat (.list (C.map .int)),.own (.dict (dk sn)),s3,s4] U=some (.nx [.dat (.hdl 0),.dat (.list (C.map .int)),.own (.dict (dk sn')),s3,s4'],U)/\(∀y,y∈sn'↔y∈sn\/y∈ys)/\sn'.length≤sn.length+ys.length/\ar s4'=true
 |[],sn,s3,s4,U,_,_,h4=>⟨sn,s4,rfl,by simp,by simp,h4⟩
 |x::ys,sn,s3,s4,U,h,h3,h4=>by
  obtain⟨a1,a2⟩:=AX sn x;have h:sn.length+(ys.length+1)<1000:=h;obtain⟨sn',s4',e,b1,b2,b3⟩:=BV ys (tB sn x) s3 (.dat (.int x)) U (by grind) h3 rfl;refine⟨sn',s4',?_,fun y=>?_,by rw[lc0];grind,b3⟩
  ·have lo:∀d,ar (.own d)=true:=fun a=>rfl
   have ln:(dk sn).length<1000:=by simp[dk];grind
   rw[mk0,hZ];simp[lN,ln,Hq,lo,h3];exact e
  ·rw[b1 y,a1 y,List.mem_cons,or_assoc]
theorem yc (hp:AL Ψ cNO)(hs:∀t∈L,t.sm):∀(xs sn:List Int) (s3 s4:Sl),sn.length+4*xs.length<1000->ar s3=true->ar s4=true->(∀x∈xs,(gP L x).isSome/\(par L x).length≤4)->∃sn' s3' s4',cX Φ Ψ Γ c (.one 3) (.cons (.form (.one 4) (.call "parents_of" (.va 0 (.va 3 .nil))) (.cons (.pure (.seti 2 (.v 4) (.k (.bool true)))) .nil)) .nil) (xs.map .int) [.dat (.hdl 0),.dat (.list (C.map .int)),.own (.dict (dk sn)),s3,s4] (vt L)=some (.nx [.dat (.hdl 0),.dat (.list (C.map .int)),.own (.dict (dk sn')),s3',s4'],vt L)/\(∀y,y∈sn'↔y∈sn\/∃x∈xs,y∈par L x)
 |[],sn,s3,s4,_,_,_,_=>⟨sn,s3,s4,rfl,by simp⟩
 |x::xs,sn,s3,s4,h,h3,h4,hx=>by
  obtain⟨r1,e1,k1⟩:=hp;obtain⟨g1,g2⟩:=hx x ms0;have h:sn.length+4*(xs.length+1)<1000:=h;obtain⟨ys,q⟩:=is0 g1;have ep:par L x=ys:=by rw[par,q];rfl
  rw[ep] at g2;obtain⟨sn1,s5,e2,b1,b2,b5⟩:=BV (Φ:=Φ) (Ψ:=Ψ) (Γ:=Γ) (c:=c) (C:=C) ys sn (.dat (.int x)) s4 (vt L) (by grind) rfl h4;obtain⟨sn',s3',s4',e3,b3⟩:=yc ⟨r1,e1,k1⟩ hs xs sn1 (.dat (.int x)) s5 (by grind) rfl b5 fun x hx'=>hx x (mc0 _ hx')
  refine⟨sn',s3',s4',?_,fun y=>?_⟩
  ·have kk:=k1 L x hs
   rw[q] at kk;rw[mk0,hZ];simp[e1,kk,orX,e2];exact e3
  ·rw[b3 y,b1 y]
   simp only[List.mem_cons];constructor
   ·rintro ((h|h)|⟨z,hz,h⟩)
    ·exact .inl h
    ·exact .inr ⟨x,.inl rfl,by rw[ep];exact h⟩
    ·exact .inr ⟨z,.inr hz,h⟩
   ·rintro (u|⟨z,hz,u⟩)
    ·exact .inl (.inl u)
    ·rcases hz with hz|hz
     ·exact .inl (.inr (by rw[←ep,←hz];exact u))
     ·exact .inr ⟨z,hz,u⟩
end
abbrev SWc (cNO cBT cBC:Nat)(run:Ust->List D->Option (Ust×R)):Prop:=∀(L:List Th) (C:List Int),VL cNO cBT cBC L->C.length≤20->(∀x∈C,(gP L x).isSome)->run (vt L) [.hdl 0,.list (C.map .int)]=some (vt L,.ok (.list ((wcL L C).map .int)))
abbrev HWc (Ψ:FsM)(cNO cBT cBC:Nat):Prop:=dt Ψ "without_child" [false,false] (SWc cNO cBT cBC)
def EH (hp:AL Ψ cNO):SWc cNO cBT cBC (cy Φ Ψ Γ c bt):=by
 intro L C hv hC hx;have lo:∀d,ar (.own d)=true:=fun a=>rfl
 have ln:ar .no=true:=rfl;have cb:C.length≤big:=nt0 hC (by decide);obtain⟨sn,s3,s4,e,b⟩:=yc (Φ:=Φ) (Γ:=Γ) (c:=c) (C:=C) hp hv.1.sm C [] .no .no (by simp;omega) rfl rfl fun x h=>by
  obtain⟨ys,q⟩:=is0 (hx x h);exact⟨hx x h,by rw[par,q];exact (nh hv.1 x ys q).2.1⟩
 simp only[aR,bt];simp[lo,ln,bo];rw[show ([]:List (Sum Int Str×D))=dk [] from rfl,e];simp[cb];rw[bf (g:=D.int) (p:=fun x=>decide (x∉sn)) fun x a=>by
  have vd:az .read (lend (vE c (vt L) (.dat (.dict (dk sn)))))=some (.dict (dk sn)):=rfl
  by_cases z:x∈sn<;>simp[iZ,vd,qM,z]]
 have:(C.filter fun x=>decide (x∉sn))=wcL L C:=List.filter_congr fun x a=>by
  rw[Bool.eq_iff_iff,decide_eq_true_iff,b x,List.all_eq_true];simp
 rw[this];simp
noncomputable def cq (L:List Th)(i:Int):List Int:=rL (Rch (gP L) [i]) L.length
noncomputable def cmL (L:List Th)(i j:Int):List Int:=gG (cq L i) (cq L j)
noncomputable def bcI (L:List Th)(i j:Int):Option Int:=mxI (fun n=>(tmL L n,-n)) (wcL L (cmL L i j))
abbrev BW (cNO cBT cBC:Nat)(run:Ust->List D->Option (Ust×R)):Prop:=∀(L:List Th) (i j:Int),VL cNO cBT cBC L->run (vt L) [.hdl 0,.int i,.int j]=some (vt L,if (gP L i).isSome/\(gP L j).isSome then .ok (cJ (bcI L i j)) else .exc cNO)
abbrev BX (Ψ:FsM)(cNO cBT cBC:Nat):Prop:=dt Ψ "best_common" [false,false,false] (BW cNO cBT cBC)
def yd {L:List Th}:dU cNO L.length (gP L) [i]=if (gP L i).isSome then .ok (.list ((cq L i).map .int)) else .exc cNO:=by
 rw[dU,cq];simp
def qP {L:List Th}(hv:Valid cNO cBT cBC L){n:Int}(hi:(gP L i).isSome)(hn:n∈cq L i):(gP L n).isSome:=by
 obtain⟨m,_,_,r⟩:=mem_rL.mp hn;exact jc (nh hv) (fun x hx=>by rwa [List.mem_singleton.mp hx]) r
def mem_cm {L:List Th}{n:Int}:n∈cmL L i j↔n∈cq L i/\n∈cq L j:=by
 unfold cmL gG;simp
def pw {L:List Th}:(cmL L i j).length≤L.length:=nt0 (List.length_filter_le _ _) lx
def ye (ha:Hi Ψ cNO cBT cBC)(hw:HWc Ψ cNO cBT cBC)(ht:BQ Ψ):BW cNO cBT cBC (cy Φ Ψ Γ c bq):=by
 intro L i j hv;obtain⟨r1,e1,h1⟩:=ha;obtain⟨r2,e2,h2⟩:=hw;obtain⟨r3,e3,h3⟩:=ht;have hl:=hv.2;have k1:=h1 L i hv;have k2:=h1 L j hv;rw[yd] at k1 k2;have l1:(cq L i).length<64:=Nat.lt_of_le_of_lt lx (by omega);have l2:(cq L j).length<64:=Nat.lt_of_le_of_lt lx (by grind);have rs:(cq L i).Pairwise (·<·):=ic _ _;simp only[aR,bq]
 by_cases hi:(gP L i).isSome
 ·rw[if_pos hi] at k1
  by_cases hj:(gP L j).isSome
  ·rw[if_pos hj] at k2
   have kw:=h2 L (cmL L i j) hv (nt0 pw hl) fun x hx=>qP hv.1 hi (mem_cm.mp hx).1
   simp[e1,k1,k2,gF,eF,qy,l1,l2,rs,hi,hj];rw[show gG (cq L i) (cq L j)=cmL L i j from rfl];simp[e2,kw,eF];rw[EG (g:=tmL L) (fun n hn=>?_) ?_]
   ·simp[bcI]
   ·have q1:(wcL L (cmL L i j)).length≤(cmL L i j).length:=List.length_filter_le _ _
    have q2:=pw (L:=L) (i:=i) (j:=j)
    grind
   ·have hc:=qP hv.1 hi (mem_cm.mp (List.mem_filter.mp hn).1).1
    rw[gP,Option.isSome_map] at hc;simp[e3,h3 L n hc,mP,DW,mO]
  ·rw[if_neg hj] at k2
   simp[e1,k1,k2,gF,eF,l1,rs,hi,hj]
 ·rw[if_neg hi] at k1
  simp[e1,k1,hi]
noncomputable def fF (L:List Th)(i j:Int):D:=if (gP L i).isSome/\(gP L j).isSome then cJ (bcI L i j) else .str ⟨#[110,111]⟩
abbrev qQ (cNO cBT cBC:Nat)(run:Ust->List D->Option (Ust×R)):Prop:=∀(L:List Th) (i j:Int),VL cNO cBT cBC L->run (vt L) [.hdl 0,.int i,.int j]=some (vt L,.ok (fF L i j))
abbrev qR (Ψ:FsM)(cNO cBT cBC:Nat):Prop:=dt Ψ "_law_told" [false,false,false] (qQ cNO cBT cBC)
def yf (n1:cNO≠cBT)(hh:BX Ψ cNO cBT cBC):qQ cNO cBT cBC (cy Φ Ψ Γ c (du cNO cBT)):=by
 intro L i j hv;obtain⟨r1,e1,h1⟩:=hh;simp only[aR,du];simp[e1,(h1 L i j hv)];rw[fF];split
 ·cases bcI L i j<;>simp[cJ]
 ·simp[GY,GW]
variable {Φ:Fs}{Ψ:FsM}{Γ:List (Str×D)}{cNO cBT cBC aP:Nat}
section
variable {L:List Th}
def yg (hv:Valid cNO cBT cBC L){y:Int}(h:x∈par L y):x<y:=by
 rw[par,gP] at h;cases q:ai L y ah with
 |none=>rw[q] at h;cases h
 |some t=>
  rw[q] at h;obtain⟨q1,q2⟩:=kind_some.mp q;obtain⟨n,rfl,e,_⟩:=bT q1;obtain⟨m,s,rfl,hm,_⟩:=(jZ hv e).1 x (BL h)
  simp_all
def rch_le (hv:Valid cNO cBT cBC L){y:Int}(h:Rch (gP L) [y] x):x=y\/∃z,Rch (gP L) [y] z/\x∈par L z:=by
 cases h with
 |base h=>exact .inl (List.mem_singleton.mp h)
 |step r e hy=>exact .inr ⟨_,r,by rwa [par,e]⟩
def yh {g:Int->Option (List Int)}{b:Int}(h1:Rch g [a] b)(h2:Rch g [b] x):Rch g [a] x:=by
 induction h2 with
 |base h=>simp_all
 |step _ e hy ih=>exact .step ih e hy
def rch_in (hv:Valid cNO cBT cBC L)(ha:(gP L a).isSome):x∈cq L a↔Rch (gP L) [a] x:=by
 rw[cq,mem_rL];refine⟨by rintro ⟨_,_,_,r⟩;exact r,fun r=>?_⟩;obtain⟨ys,q⟩:=is0 (jc (nh hv) (fun x hx=>by rw[List.mem_singleton.mp hx];exact ha) r);obtain⟨n,rfl,hn⟩:=(nh hv _ _ q).1;exact⟨n,rfl,hn,r⟩
def EI (hv:Valid cNO cBT cBC L)(hi:(gP L i).isSome)(hj:(gP L j).isSome):(∃h∈cmL L i j,x≠h/\x∈cq L h)↔∃h∈cmL L i j,x∈par L h:=by
 have gc:∀h∈cmL L i j,(gP L h).isSome:=fun h hh=>qP hv hi (mem_cm.mp hh).1
 constructor
 ·rintro ⟨h,hh,ne,hx⟩
  rcases rch_le hv ((rch_in hv (gc h hh)).mp hx) with e|⟨z,r,hz⟩
  ·exact absurd e ne
  ·obtain⟨a,b⟩:=mem_cm.mp hh
   exact⟨z,mem_cm.mpr ⟨(rch_in hv hi).mpr (yh ((rch_in hv hi).mp a) r),(rch_in hv hj).mpr (yh ((rch_in hv hj).mp b) r)⟩,hz⟩
 ·rintro ⟨h,hh,hx⟩
  refine⟨h,hh,Int.ne_of_lt (yg hv hx),(rch_in hv (gc h hh)).mpr ?_⟩;obtain⟨ys,q⟩:=is0 (gc h hh);exact .step (.base (List.mem_singleton.mpr rfl)) q (by rwa [par,q] at hx)
def EJ (hv:Valid cNO cBT cBC L){C:List Int}(h:C≠[]):wcL L C≠[]:=by
 obtain⟨m,hm,hx⟩:∃m∈C,∀x∈C,x≤m:=by
  induction C with
  |nil=>exact absurd rfl h
  |cons a r ih=>
   by_cases z:r=[]
   ·exact⟨a,ms0,fun x hx=>by simp_all⟩
   grind
 intro e;have:m∈wcL L C:=List.mem_filter.mpr ⟨hm,List.all_eq_true.mpr fun y hy=>by
  rw[Bool.not_eq_true',←Bool.not_eq_true,List.contains_iff_mem];intro q;have:=yg hv q
  grind⟩
 grind
end
section
variable {L:List Th}{C:List Int}{s0 s1:Sl}{p:Int->Bool}
noncomputable abbrev g1B:Ss:=.cons (.ifs g1C (.cons (.app 3 (.v 4)) .nil) .nil) .nil
theorem pA (hp:∀x∈C,∀s3,ev Φ Γ .test [s0,s1,.lent (.list (C.map .int)),s3,.dat (.int x)] g1C=some (.bool (p x))):∀(xs acc:List Int) (s4:Sl),(∀x∈xs,x∈C)->acc.length+xs.length≤100->∃s4',gQ Φ Γ (.one 4) g1B (xs.map .int) [s0,s1,.lent (.list (C.map .int)),.own (.list (acc.map .int)),s4]=some (.nx [s0,s1,.lent (.list (C.map .int)),.own (.list ((acc++xs.filter p).map .int)),s4'])
 |[],acc,s4,_,_=>⟨s4,by simp[gQ,forL]⟩
 |x::xs,acc,s4,hx,hl=>by
  have hl:acc.length+(xs.length+1)≤100:=hl;have q:=hp x (hx x ms0) (.own (.list (acc.map .int)));have hb:acc.length<big:=nl0 (show acc.length<101 by grind) (by decide);cases z:p x with
  |true=>
   obtain⟨s4',e⟩:=pA hp xs (acc++[x]) (.dat (.int x)) (fun y hy=>hx y (mc0 _ hy)) (by simp;grind);refine⟨s4',?_⟩;rw[mk0,jd];simp[q,hb,List.filter_cons,z]
   simpa using e
  |false=>
   obtain⟨s4',e⟩:=pA hp xs acc (.dat (.int x)) (fun y hy=>hx y (mc0 _ hy)) (by exact Nat.le_of_lt ‹_›);refine⟨s4',?_⟩;rw[mk0,jd];simp[q,List.filter_cons,z]
   simpa using e
end
noncomputable abbrev g2B:Ss:=.cons (.ifs g2C (.cons (.ret (.k (.bool false))) .nil) .nil) .nil
theorem yi {L:List Th}{s2 s3:Sl}(hn:n<L.length)(kn:L[n].k=ah):∀(xs:List Int) (s4:Sl),(∀x∈xs,∃m:Nat,x=m/\∃hm:m<L.length,L[m].k=ah)->(∀x∈xs,ltI (tmL L n,-(n:Int)) (tmL L x,-x)=false)->∃s4',gQ Φ Γ (.one 4) g2B (xs.map .int) [.lent (.list (L.map Th.d)),.lent (.int n),s2,s3,s4]=some (.nx [.lent (.list (L.map Th.d)),.lent (.int n),s2,s3,s4'])
 |[],s4,_,_=>⟨s4,rfl⟩
 |x::xs,s4,hx,hm=>by
  obtain⟨m,rfl,hm',km⟩:=hx x ms0;have q:=hm m ms0;rw[qv] at q;have a1:=d_3 (ge0 hn) kn;have a2:=d_3 (ge0 hm') km;obtain⟨s4',e⟩:=yi (s2:=s2) (s3:=s3) hn kn xs (.dat (.int m)) (fun y hy=>hx y (mc0 _ hy)) fun y hy=>hm y (mc0 _ hy)
  refine⟨s4',?_⟩;rw[mk0,jd];have w1:=by simp at q;omega
  have q2:ev Φ Γ .test [.lent (.list (L.map Th.d)),.lent (.int n),s2,s3,.dat (.int m)] g2C=some (.bool false):=by
   unfold g2C;simp[AJ hn,AJ hm',a1,a2,w1];omega
  simp[q2];exact e
abbrev BY (cNO cBT cBC:Nat)(run:List D->Option D):Prop:=∀(L:List Th) (i j:Int),VL cNO cBT cBC L->(gP L i).isSome->(gP L j).isSome->run [.list (L.map Th.d),cJ (bcI L i j),.list ((cmL L i j).map .int)]=some (.bool true)
abbrev BZ (Φ:Fs)(cNO cBT cBC:Nat):Prop:=Has Φ "_law_good" [true,true,true] (BY cNO cBT cBC)
def yj (hw:qJ Φ)(ho:pq Φ cNO cBT cBC):BY cNO cBT cBC (ans Φ Γ fE):=by
 intro L i j hv hi hj;obtain⟨r1,e1,h1⟩:=hw;obtain⟨r2,e2,h2⟩:=ho;have hl:=hv.2;have gc:∀h∈cmL L i j,(gP L h).isSome:=fun h hh=>qP hv.1 hi (mem_cm.mp hh).1
 have kc:∀h∈cmL L i j,(ai L h ah).isSome:=fun h hh=>by have:=gc h hh;rwa [gP,Option.isSome_map] at this
 have cl:(cmL L i j).length≤20:=nt0 pw hl;have cb:(cmL L i j).length≤big:=nt0 cl (by decide);have wi:=fun x=>EI (x:=x) hv.1 hi hj
 have hbc:bcI L i j=mxI (fun n=>(tmL L n,-n)) (wcL L (cmL L i j)):=rfl;generalize hC:cmL L i j=C at gc kc cl cb wi hbc ⊢;have F1:=pA (Φ:=Φ) (Γ:=Γ) (C:=C) (s0:=.lent (.list (L.map Th.d))) (s1:=.lent (cJ (bcI L i j))) (p:=fun x=>!C.any fun h=>decide (x≠h)&&decide (x∈cq L h)) (fun x hx s3=>by
  have cp:aO (cpF Φ Γ [.lent (.list (L.map Th.d)),.lent (cJ (bcI L i j)),.lent (.list (C.map .int)),s3,.dat (.int x)] 1 [4,0] (.one 0) .nil (.and (.cmp .ne (.v 1) (.v 0)) (.cmp .isin (.v 1) (.call "_law_older" (.cons (.v 2) (.cons (.v 0) .nil)))))) (C.map .int)=some (C.map fun h=>.bool (decide (x≠h)&&decide (x∈cq L h))):=fX (g:=fun h=>.bool (decide (x≠h)&&decide (x∈cq L h))) fun h hh=>by
   have k:=h2 L h hv (kc h hh);simp[iZ,e2,k,fD,cq]
   by_cases z:x=h
   ·simp[z]
   ·simp[z];exact decide_eq_decide.mpr Iff.rfl
  unfold g1C;simp[cb,cp]) C [] .no (fun b h=>h) (by simp;grind)
 obtain⟨s4,F1⟩:=F1;have hW:(C.filter fun x=>!C.any fun h=>decide (x≠h)&&decide (x∈cq L h))=wcL L C:=List.filter_congr fun x b=>by
  rw[Bool.eq_iff_iff,Bool.not_eq_true',←Bool.not_eq_true,List.any_eq_true,List.all_eq_true];have w:=wi x;simp only[be0,decide_eq_true_eq];rw[w];simp
 rw[List.nil_append,hW] at F1;have wl:(wcL L C).length≤20:=nt0 (List.length_filter_le _ _) cl;have o1:bo (.list [])=true:=rfl;have n1:∀d,bD (.lent d)=true:=fun b=>rfl
 have n2:bD .no=true:=rfl;simp only[ans_e,fE];cases hb:bcI L i j with
 |none=>
  have we:wcL L C=[]:=by
   rw[hbc] at hb;cases z:wcL L C with
   |nil=>rfl
   |cons a r=>rw[z] at hb;cases hb
  have ce:C=[]:=Classical.byContradiction fun z=>EJ hv.1 z we
  rw[hb] at F1;subst ce;simp only[cJ,List.map_nil,we] at F1;have eN:eqD (.list []) (.list [])=some true:=by rw[pT rfl rfl];simp
  simp[cJ];rw[F1];simp[eN]
 |some n=>
  rw[hbc] at hb;obtain⟨m1,m2⟩:=AW hb;have cw:∀x∈wcL L C,∃m:Nat,x=m/\∃hm:m<L.length,L[m].k=ah:=fun x hx=>by
   obtain⟨t,q⟩:=is0 (kc x (List.mem_filter.mp hx).1);obtain⟨q1,q2⟩:=kind_some.mp q;obtain⟨m,rfl,q3,q4,_⟩:=bT q1;refine⟨m,rfl,q4,?_⟩;rw[ge0 q4] at q3;cases q3;exact q2
  obtain⟨k,rfl,hk,kk⟩:=cw n m1;rw[hbc,hb] at F1;obtain⟨s4',G2⟩:=yi (Φ:=Φ) (Γ:=Γ) (s2:=.lent (.list (C.map .int))) (s3:=.dat (.list ((wcL L C).map .int))) hk kk (wcL L C) s4 cw m2;simp only[cJ,List.map_nil] at F1;simp[cJ];rw[F1];simp[e1,h1,fD,m1];rw[G2];simp
variable {Φ:Fs}{Ψ:FsM}{Γ:List (Str×D)}{cNO cBT cBC aP:Nat}
noncomputable def bU:aW:=⟨[true],3,(.cons (.set 1 .new) (.B (.fors (.one 2) (.seq (.v 0)) (.A (.expr (.call "_law_put" (.va 1 (.W 2)))))) (.ret (.hv 1))))⟩
abbrev ke (Ψ:FsM)(cNO cBT cBC:Nat):Prop:=dt Ψ "_law_filled" [true] (qI cNO cBT cBC)
def lz (hp:BJ Ψ cNO cBT cBC):qI cNO cBT cBC (cy Φ Ψ Γ c bU):=by
 intro L hv hz;obtain⟨r1,e1,h1⟩:=hp;have loop:∀(R P:List Th) (s2:Sl),Valid cNO cBT cBC (P++R)->(P++R).length<1000->
   ∃s3,cX Φ Ψ Γ c (.one 2) (.cons (.expr (.call "_law_put" (.va 1 (.va 2 .nil)))) .nil) (R.map Th.d) [.lent (.list (L.map Th.d)),.dat (.hdl 0),s2] (vt P)=some (.nx [.lent (.list (L.map Th.d)),.dat (.hdl 0),s3],vt (P++R)):=by
  intro R
  induction R with
  |nil=>intro P s2 _ _;exact⟨s2,by rw[List.append_nil];rfl⟩
  |cons t r ih=>
   intro P s2 hv hz;obtain⟨k1,k2,k3⟩:=hv P t r rfl;have k:=h1 P t k1 (by grind);rw[k2] at k;obtain⟨j,k⟩:=k;obtain⟨s3,hs⟩:=ih (P++[t]) (.dat t.d) (by simpa using hv) (by simpa using hz);exact⟨s3,by simp[hZ,e1,k,putL,k3];simpa using hs⟩
 obtain⟨s3,hl⟩:=loop L [] .no hv hz;simp only[aR,bU];simp at hl ⊢;exact hl▸rfl
def Com (L:List Th):Prop:=(∀(n:Nat) t,L[n]?=some t->0<n->t.k=ah)/\∀t,L[0]?=some t->t.k=ck
def lA {L:List Th}(h:Com L):(gP L i).isSome↔0<i/\i<L.length:=by
 rw[gP,Option.isSome_map];constructor
 ·intro q
  obtain⟨t,q⟩:=is0 q;obtain⟨q1,q2⟩:=kind_some.mp q;obtain⟨n,rfl,p1,p3,_⟩:=bT q1;have:n≠0:=fun z=>by subst z;rw[h.2 t p1] at q2;exact absurd q2 (by decide)
  omega
 ·rintro ⟨h1,h2⟩
  obtain⟨n,rfl⟩:=Int.eq_ofNat_of_zero_le (Int.le_of_lt h1);have e:L[n]?=some L[n]:=ge0 _;rw[kind_some.mpr ⟨at_nat.trans e,h.1 n _ e (by omega)⟩];rfl
def EK {L:List Th}:cmL L i j=cmL L j i:=by
 refine fY ((ic _ _).filter _) ((ic _ _).filter _) fun z=>?_
 rw[mem_cm,mem_cm,and_comm]
def yk {L:List Th}:fF L i j=fF L j i:=by
 rw[fF,fF,bcI,bcI,EK];simp only[and_comm]
def yl {o:Option Int}{x:Str}:eqD (cJ o) (.str x)=some false/\eqD (cJ o) (cJ o)=some true:=by
 cases o<;>exact⟨by rw[pT rfl rfl];simp[cJ],by rw[pT rfl rfl];simp⟩
structure ym (Φ:Fs)(Ψ:FsM)(cNO cBT cBC:Nat):Prop where
 ol:pq Φ cNO cBT cBC
 go:BZ Φ cNO cBT cBC
 to:qR Ψ cNO cBT cBC
section
variable {L:List Th}{s3 s4:Sl}
def pB (h:ym Φ Ψ cNO cBT cBC)(hv:VL cNO cBT cBC L)(hc:Com L)(h2:ar s2=true)(h3:ar s3=true)(h4:ar s4=true)(h5:ar s5=true)(hj:0≤j/\j<L.length):
  ba Φ Ψ Γ c [.lent (.scr ns),.own (.list (L.map Th.d)),s2,s3,s4,s5,.dat (.hdl 0),.dat (.int i),.dat (.int j),.no,.no] (vt L) AQ=some (.rt (.bool true),vt L):=by
 obtain⟨⟨r1,e1,h1⟩,⟨r2,e2,h22⟩,⟨r3,e3,h33⟩⟩:=h;have k1:=h33 L i j hv;have k2:=h33 L j i hv;rw[yk (i:=j)] at k2;have hl:=hv.2;have lb:L.length≤big:=nt0 hl (by decide);have lo:∀d,ar (.own d)=true:=fun a=>rfl
 have ln:ar .no=true:=rfl;have vw:∀U d,vE c U (.own d)=.lent d:=fun a a=>rfl
 have d1:∀d,az .read (.lent d)=some d:=fun a=>rfl
 by_cases z:(0<i/\i<L.length)/\j≠0
 ·have gi:(gP L i).isSome:=(lA hc).mpr z.1
  have gj:(gP L j).isSome:=(lA hc).mpr ⟨by have:=z.2;omega,hj.2⟩;rw[fF,if_pos ⟨gi,gj⟩] at k1 k2;have o1:=h1 L i hv (by rwa [gP,Option.isSome_map] at gi);have o2:=h1 L j hv (by rwa [gP,Option.isSome_map] at gj);have ab:(cq L i).length≤big:=nt0 (nt0 lx hl) (by decide);have gg:=h22 L i j hv gi gj;generalize bcI L i j=o at k1 k2 gg;obtain⟨q1,q2⟩:=yl (o:=o) (x:=⟨#[110,111]⟩);obtain⟨q3,_⟩:=yl (o:=o) (x:=⟨#[119,114,111,110,103]⟩);have vo:∀U,vE c U (.dat (cJ o))=.dat (cJ o):=fun U=>by cases o<;>rfl
  have cp:∀ρ,blk 1 [8,1] ρ=[.no,.dat (.int j),.lent (.list (L.map Th.d))]->aO (cpF Φ Γ ρ 1 [8,1] (.one 0) (.cons (.cmp .isin (.v 0) (.call "_law_older" (.cons (.v 2) (.cons (.v 1) .nil)))) .nil) (.v 0)) ((rL (Rch (gP L) [i]) L.length).map .int)=some ((cmL L i j).map .int):=fun ρ hρ=>by
   rw[bf (g:=D.int) (p:=fun x=>decide (x∈cq L j)) fun x a=>by
    rw[iZ,hρ]
    by_cases y:x∈cq L j
    ·have y':x∈rL (Rch (gP L) [j]) L.length:=y
     simp[e1,o2,fD,y,y']
    ·have y':¬ x∈rL (Rch (gP L) [j]) L.length:=y
     simp[e1,o2,fD,y,y']]
   exact congrArg (fun l=>some (List.map D.int l)) (List.filter_congr fun x a=>by simp)
  have zb:¬ (j:Int)=0:=z.2;have ab':(rL (Rch (gP L) [i]) L.length).length≤big:=ab;simp only[AQ];simp[e3,k1,k2,q2,vo,vw,d1,z.1.1,z.1.2,zb,lb,e1,o1,ab'];rw[cp _ rfl];simp[lo,ln,h2,h3,h4,h5,vo,vw,d1,q1,q3,e2,gg]
 ·have off:fF L i j=.str ⟨#[110,111]⟩:=by
   rw[fF,if_neg fun⟨q1,q2⟩=>z ⟨(lA hc).mp q1,fun e=>by have:=(lA hc).mp q2;omega⟩]
  rw[off] at k1 k2;have qs:eqD (.str ⟨#[110,111]⟩) (.str ⟨#[110,111]⟩)=some true:=by rw[pT rfl rfl];simp
  have zz:¬ (0<i/\i<L.length)\/j=0:=by
   by_cases y:0<i/\i<L.length
   ·exact .inr (Classical.byContradiction fun q=>z ⟨y,q⟩)
   ·exact .inl y
  simp only[AQ];simp[e3,k1,k2,vw,d1,lb];rw[if_pos (by omega)];simp
end
variable {Φ:Fs}{Ψ:FsM}{Γ:List (Str×D)}{cNO cBT cBC aP:Nat}
noncomputable def jr (k:Nat):Str:=⟨#[120]⟩++(Str.ofString (toString (k:Int)))
def qS:∀k:Nat,k<5->10∉(jr k).cps.toList/\(⟨#[120]⟩:Str).length+(Str.ofString (toString (k:Int))).length≤10/\(∀y:Nat,y<5->jr k=jr y->k=y)/\∀y:Nat,y<13->jr k≠msg y:=by decide
noncomputable def xps (a:Int):Nat->List Int
 |2=>[a,a+1]
 |3=>[a+1,a]
 |4=>[a+2]
 |_=>[]
def xl5 (a:Int):∀k:Nat,k<5->atI [D.list [],.list [],.list [.int a,.int (a+1)],.list [.int (a+1),.int a],.list [.int (a+2)]] (k:Int)=some (.list ((xps a k).map .int))
 |0,_=>rfl
 |1,_=>rfl
 |2,_=>rfl
 |3,_=>rfl
 |4,_=>rfl
def GX (cNO cBT cBC:Nat)(N k:Nat)(L:List Th):Prop:=Valid cNO cBT cBC L/\L.length=N+k/\L[0]?=some (.tree [])/\∀(n:Nat) t,L[n]?=some t->0<n->∃a ps tm m,t=.com a ps tm m/\((∃y,y<13/\m=msg y)\/∃y,y<k/\m=jr y)
def GX.start {L:List Th}(h:ED cNO cBT cBC L):GX cNO cBT cBC L.length 0 L/\1≤L.length/\L.length≤13:=by
 obtain⟨x,hx,j1,j2,j3,j4⟩:=h;refine⟨⟨j1,rfl,j3,fun n t e hn=>?_⟩,by simp_all,by simp_all⟩;obtain⟨a,ps,tm,y,q,hy⟩:=j4 n t e hn;exact⟨a,ps,tm,_,q,.inl ⟨y,by grind,rfl⟩⟩
theorem GX.snoc {k:Nat}{L:List Th}{tm:Int}(h:GX cNO cBT cBC N k L)(hN:1≤N)(hk:k<5)(ht:0≤tm):GX cNO cBT cBC N (k+1) (L++[.com 0 (xps N k) tm (jr k)]):=by
 obtain⟨j1,j2,j3,j4⟩:=h;obtain⟨x1,x2,x3,x4⟩:=qS k hk;have k0:(ai L 0 ck).isSome:=by
  have:ai L 0 ck=some (.tree []):=kind_some.mpr ⟨(at_nat (n:=0)).trans j3,rfl⟩;rw[this];rfl
 have hq:(∀p∈xps N k,(N:Int)≤p/\p<N+k)/\(xps N k).length≤2/\(dA (xps N k)).length=(xps N k).length:=by
  have e1:((N:Int)==N+1)=false:=bn0 (by omega);have e2:((N:Int)+1==N)=false:=bn0 (by omega)
  match k,hk with
  |0,_=>exact⟨nofun,by simp[xps],rfl⟩
  |1,_=>exact⟨nofun,by simp[xps],rfl⟩
  |2,_=>exact⟨fun p hp=>by simp[xps] at hp;omega,by simp[xps],by simp[xps,dA,ky,e1,e2]⟩
  |3,_=>exact⟨fun p hp=>by simp[xps] at hp;omega,by simp[xps],by simp[xps,dA,ky,e1,e2]⟩
  |4,_=>exact⟨fun p hp=>by simp[xps] at hp;omega,by simp[xps],by simp[xps,dA,ky]⟩
 obtain⟨hq,hl,hd⟩:=hq;generalize xps N k=qs at hq hl hd;have kp:xN L qs=true:=List.all_eq_true.mpr fun p hp=>by
  obtain⟨h1,h2⟩:=hq p hp;obtain⟨n,rfl⟩:=Int.eq_ofNat_of_zero_le (show 0≤p by omega);have e:L[n]?=some L[n]:=ge0 (by omega);obtain⟨a,ps,tm,y,e2,_⟩:=j4 n _ e (by omega);rw[kind_some.mpr ⟨at_nat.trans e,by rw[e2];rfl⟩];rfl
 refine⟨j1.snoc ⟨nt0 hl (by decide),?_,fun hm=>?_⟩,by simp[j2];omega,by rw[gl0 (by omega)];exact j3,fun n t e hn=>?_⟩
 ·show ja cNO cBC L 0 qs tm (jr k)=none
  rw[ja,k0,kp];simp[hl,hd,ht,x1]
 ·obtain⟨n,hn⟩:=List.getElem?_of_mem hm
  cases n with
  |zero=>rw[j3] at hn;cases hn
  |succ n=>
   obtain⟨a,ps,tm',m,e2,hy⟩:=j4 (n+1) _ hn (by omega);injection e2 with _ _ _ e3
   rcases hy with⟨y,hy,e4⟩|⟨y,hy,e4⟩
   ·exact x4 y hy (e3.trans e4)
   ·have:=x3 y (by omega) (e3.trans e4);omega
 ·by_cases hlt:n<L.length
  ·rw[gl0 hlt] at e
   obtain⟨a,ps,tm',m,e2,hy⟩:=j4 n t e hn;exact⟨a,ps,tm',m,e2,hy.imp id fun⟨y,h1,h2⟩=>⟨y,by omega,h2⟩⟩
  ·rw[List.getElem?_append_right (by omega)] at e
   have:n-L.length=0:=by
    have:=(gi0 e).1;simp at this;omega
   rw[this] at e;cases e;exact⟨_,_,_,_,rfl,.inr ⟨k,by omega,rfl⟩⟩
def GX.com {k:Nat}{L:List Th}(h:GX cNO cBT cBC N k L):Com L:=by
 obtain⟨_,_,j3,j4⟩:=h;refine⟨fun n t e hn=>?_,fun t e=>?_⟩
 ·obtain⟨a,ps,tm,m,rfl,_⟩:=j4 n t e hn;rfl
 simp_all
section
variable {s0:Sl}{L:List Th}{k:Nat}{U:Ust}
def JG (hk:k<5):ev Φ Γ .val [.lent (.scr ns),.own (.list (L.map Th.d)),s2,.dat (.int a),.dat (.int k),s5,.no,.no,.no,.no,.no] (.op .add (.k (.str ⟨#[120]⟩)) (.bi .str (.cons (.v 4) .nil)))=some (.str (jr k)):=by
 show ((some (D.str ⟨#[120]⟩)).bind fun u=>((evs Φ Γ .read [true,true,true] [.lent (.scr ns),.own (.list (L.map Th.d)),s2,.dat (.int a),.dat (.int k),s5,.no,.no,.no,.no,.no] (.cons (.v 4) .nil)).bind fun ds=>biD .str ds).bind fun v=>opD .add u v)=_;have e:evs Φ Γ .read [true,true,true] [.lent (.scr ns),.own (.list (L.map Th.d)),s2,.dat (.int a),.dat (.int k),s5,.no,.no,.no,.no,.no] (.cons (.v 4) .nil)=some [.int k]:=rfl;rw[e,bs0,bs0,Hm (by grind),bs0];exact if_pos (nt0 (qS k hk).2.1 (by decide))
def JH (hm:oY Φ)(hk:k<5):ev Φ Γ .val [.lent (.scr ns),.own (.list (L.map Th.d)),s2,.dat (.int a),.dat (.int k),.dat (.list (qs.map .int)),.no,.no,.no,.no,.no] (.tup (.cons (.k (.str ⟨#[99,111,109,109,105,116]⟩)) (.cons (.k (.int 0)) (.cons (.v 5) (.cons (.op .mod (.call "_law_mix" (.cons (.v 0) (.cons (.op .add (.k (.int 56)) (.v 4)) .nil))) (.k (.int 3))) (.cons (.op .add (.k (.str ⟨#[120]⟩)) (.bi .str (.cons (.v 4) .nil))) .nil))))))=some (.tuple [.str ah,.int 0,.list (qs.map .int),.int (mixF ns (56+k) % 3),.str (jr k)]):=by
 obtain⟨r1,e1,h1⟩:=hm;have q:=JG (Φ:=Φ) (Γ:=Γ) (s2:=s2) (s5:=.dat (.list (qs.map .int))) (L:=L) (ns:=ns) (a:=a) hk;generalize (E.op .add (.k (.str ⟨#[120]⟩)) (.bi .str (.cons (.v 4) .nil)))=A at q ⊢;simp[q,e1,h1]
def Hr (hm:oY Φ)(hk:k<5)(lb:L.length<big)(h2:ar s2=true):ba Φ Ψ Γ c [.lent (.scr ns),.own (.list (L.map Th.d)),s2,.dat (.int a),.dat (.int k),s5,.no,.no,.no,.no,.no] U xT=some (.nx [.lent (.scr ns),.own (.list ((L++[Th.com 0 (xps a k) (mixF ns (56+k) % 3) (jr k)]).map Th.d)),s2,.dat (.int a),.dat (.int k),.dat (.list ((xps a k).map .int)),.no,.no,.no,.no,.no],U):=by
 have e:=JH (Γ:=Γ) (s2:=s2) (L:=L) (ns:=ns) (a:=a) (qs:=xps a k) hm hk;have lo:∀d,ar (.own d)=true:=fun b=>rfl
 have ln:ar .no=true:=rfl;have x5:=xl5 a k hk;simp only[xT];generalize (E.tup (.cons (.k (.str ⟨#[99,111,109,109,105,116]⟩)) (.cons (.k (.int 0)) (.cons (.v 5) (.cons (.op .mod (.call "_law_mix" (.cons (.v 0) (.cons (.op .add (.k (.int 56)) (.v 4)) .nil))) (.k (.int 3))) (.cons (.op .add (.k (.str ⟨#[120]⟩)) (.bi .str (.cons (.v 4) .nil))) .nil))))))=A at e ⊢;simp[x5,e,lb,lo,ln,h2,Th.d]
theorem Ca (hm:oY Φ)(hN:1≤N)(hN2:N≤13)(h2:ar s2=true):∀(r k:Nat) (L:List Th) (s4 s5:Sl),k+r=5->GX cNO cBT cBC N k L->ar s4=true->ar s5=true->∃(L':List Th) (s4' s5':Sl),GX cNO cBT cBC N 5 L'/\ar s4'=true/\ar s5'=true/\cX Φ Ψ Γ c (.one 4) xT ((List.range' k r).map fun k:Nat=>.int k) [.lent (.scr ns),.own (.list (L.map Th.d)),s2,.dat (.int N),s4,s5,.no,.no,.no,.no,.no] U=some (.nx [.lent (.scr ns),.own (.list (L'.map Th.d)),s2,.dat (.int N),s4',s5',.no,.no,.no,.no,.no],U)
 |0,k,L,s4,s5,e,g,h4,h5=>⟨L,s4,s5,(show k=5 from e)▸g,h4,h5,rfl⟩
 |r+1,k,L,s4,s5,e,g,h4,h5=>by
  have mm:=eu ns (56+k) 3 (by decide);have lb:L.length<big:=by have:=g.2.1;unfold big;grind
  obtain⟨L',s4',s5',a1,a2,a3,a4⟩:=Ca hm hN hN2 h2 r (k+1) _ (.dat (.int k)) (.dat (.list ((xps N k).map .int))) (by grind) (g.snoc hN (by omega) (tm:=mixF ns (56+k) % 3) (by simp_all)) rfl rfl;refine⟨L',s4',s5',a1,a2,a3,?_⟩;rw[List.range'_succ,mk0,hZ];show (ba Φ Ψ Γ c [.lent (.scr ns),.own (.list (L.map Th.d)),s2,.dat (.int N),.dat (.int k),s5,.no,.no,.no,.no,.no] U xT).bind _=_;rw[Hr hm (by omega) lb h2];exact a4
end
variable {Φ:Fs}{Ψ:FsM}{Γ:List (Str×D)}{cNO cBT cBC aP:Nat}
structure yn (Φ:Fs)(Ψ:FsM)(cNO cBT cBC:Nat):Prop where
 mx:oY Φ
 wi:BO Φ
 gr:ya Φ cNO cBT cBC
 fi:ke Ψ cNO cBT cBC
 tl:ym Φ Ψ cNO cBT cBC
set_option tactic.hygienic true in
def tD (h:yn Φ Ψ cNO cBT cBC){L:List Th}{b:Bool}{s3 s4:Sl}(hv:VL cNO cBT cBC L)(hc:Com L)(hn:1≤L.length)(hb:b=true->2≤L.length)(h3:ar s3=true)(h4:ar s4=true)(h5:ar s5=true):
  ba Φ Ψ Γ c [.lent (.scr ns),.own (.list (L.map Th.d)),.dat (.bool b),s3,s4,s5,.no,.no,.no,.no,.no] [] EB=some (.rt (.bool true),vt L):=by
 obtain⟨⟨r1,e1,h1⟩,⟨r2,e2,h2⟩,_,⟨r7,e7,h7⟩,tl⟩:=h;have hl:=hv.2;have lb:L.length≤big:=nt0 hl (by decide);have k7:=h7 L hv.1 (by omega);obtain⟨i,k2⟩:=h2 ns 54 L.length (by omega) (by omega);have vw:∀U d,vE c U (.own d)=.lent d:=fun a a=>rfl
 have d1:∀d,az .read (.lent d)=some d:=fun a=>rfl
 have d2:∀d,wL true (some (.own d))=some d:=fun a=>rfl
 have lp:0<L.length:=by omega
 have m0:0<(if (L.length:Int)<3 then (L.length:Int) else 3):=by split<;>omega
 have mm:=eu ns 52 (if (L.length:Int)<3 then (L.length:Int) else 3) m0;have hj:0≤(L.length:Int)-1-mixF ns 52 % (if (L.length:Int)<3 then (L.length:Int) else 3)/\(L.length:Int)-1-mixF ns 52 % (if (L.length:Int)<3 then (L.length:Int) else 3)<L.length:=by
  split at mm<;>rename_i q<;>simp only[q,if_true,if_false]<;>omega
 have tr:=fun {s2:Sl} (q2:ar s2=true) i {j} hj=>pB (Γ:=Γ) (c:=c) (ns:=ns) (i:=i) (j:=j) tl hv hc q2 h3 h4 h5 hj
 simp only[EB];cases b with
 |false=>
  by_cases z:mixF ns 53 % 8=0
  ·simp[e7,k7,d2,e1,h1,vw,d1,lb,lp,m0,z,e2,k2]
   exact tr rfl _ hj
  ·simp[e7,k7,d2,e1,h1,vw,d1,lb,lp,m0,z]
   exact tr rfl _ hj
 |true=>
  have hb:=hb rfl;have hj2:0≤(L.length:Int)-2/\(L.length:Int)-2<L.length:=by omega
  by_cases z:mixF ns 53 % 8=0
  ·simp[e7,k7,d2,e1,h1,vw,d1,lb,lp,m0,z,e2,k2,mulL (i:=2) (by decide) (by decide)]
   exact tr rfl _ hj2
  ·simp[e7,k7,d2,e1,h1,vw,d1,lb,lp,m0,z,mulL (i:=2) (by decide) (by decide)]
   exact tr rfl _ hj2
def nu (h:yn Φ Ψ cNO cBT cBC)(ns:List Int):∃U,cy Φ Ψ Γ c cY [] [.scr ns]=some (U,.ok (.bool true)):=by
 have md:=fun {L b s3 s4 s5}=>tD (Γ:=Γ) (c:=c) (ns:=ns) (L:=L) (b:=b) (s3:=s3) (s4:=s4) (s5:=s5) h
 obtain⟨hm,_,⟨r4,e4,h4⟩,_,tl⟩:=h;have hm':=hm;obtain⟨r1,e1,h1⟩:=hm;obtain⟨L,g,k4⟩:=h4 ns 0 (mixF ns 50 % 13) (by have:=eu ns 50 13 (by decide);omega) (by have:=eu ns 50 13 (by decide);omega);obtain⟨gx,hn,hl⟩:=GX.start g;have lb:L.length≤big:=nt0 hl (by decide);have lo:∀d,ar (.own d)=true:=fun a=>rfl
 have ln:ar .no=true:=rfl;have nl:∀d,bD (.lent d)=true:=fun a=>rfl
 have nn:bD .no=true:=rfl;have vw:∀U d,vE c U (.own d)=.lent d:=fun a a=>rfl
 have d1:∀d,az .read (.lent d)=some d:=fun a=>rfl
 simp only[aR,cY]
 by_cases z:mixF ns 55 % 3=0
 ·obtain⟨L',s4,s5,a1,a2,a3,a4⟩:=Ca (Φ:=Φ) (Ψ:=Ψ) (Γ:=Γ) (c:=c) (ns:=ns) (U:=[]) (s2:=.dat (.bool true)) hm' hn hl rfl 5 0 L .no .no rfl gx rfl rfl
  have a5:=a1.2.1;have e:=md (L:=L') (b:=true) (s3:=.dat (.int L.length)) (s4:=s4) (s5:=s5) ⟨a1.1,by omega⟩ a1.com (by omega) (fun a=>by omega) rfl a2 a3;simp[e1,h1,e4,k4,DV,lo,ln,nl,nn,z,vw,d1,lb];rw[AC (n:=5) (by decide) (by decide),bs0,show (5:Int).toNat=5 from rfl,List.range_eq_range',a4];simp[e]
 ·have e:=md (L:=L) (b:=false) (s3:=.no) (s4:=.no) (s5:=.no) ⟨gx.1,by omega⟩ gx.com hn (fun z=>by cases z) rfl rfl rfl
  simp[e1,h1,e4,k4,DV,lo,ln,nl,nn,z,e]
end TX
noncomputable section
namespace K21
open PySem L2 L2.Z SI TX
noncomputable def gam:List (Str×D):=[("MOST_PARENTS",.int 2),("parents_of",.fn aP)]
noncomputable def env:kZ:={fns:=["names_rise","_law_cell","_law_mix","_law_whole","_law_wild","_law_below","_law_reached","_law_older","_law_grown","_law_good"],cst:=["MOST_PARENTS","parents_of"],c:=cV,xcs:=[("StrataError",cSE,[(cNO,true),(cBT,true)]),("NoObject",cNO,[(cNO,true),(cBT,false)]),("BadTree",cBT,[(cNO,false),(cBT,true)])],mfs:=["tree","commit","commit_of","refuse_wrong_names","refuse_what_is_no_tree","refuse_wrong_commit","parents_of","time_of","ancestors","all_below","without_child","best_common","_law_put","_law_filled","_law_told","law"],mms:=["put","kind","held","content"],vn:="Vault",xks:=[("BadTree",cBT),("NoObject",cNO),("BadCommit",cBC)],vrs:=["_law_vault"],nws:=["_law_grown"],fvs:=["below"]}
noncomputable def prog:List (Str×Def):=[("names_rise",dq),("_law_cell",dR),("_law_mix",hV),("_law_whole",jX),("_law_wild",fB),("_law_below",eC),("_law_reached",cB),("_law_older",eD),("_law_grown",bY),("_law_good",fE)]
noncomputable def progM:List (Str×aW):=[("tree",(ib cBT)),("commit",fC),("commit_of",bS),("refuse_wrong_names",(lq cBT)),("refuse_what_is_no_tree",ay),("refuse_wrong_commit",(aJ cBC)),("parents_of",bG),("time_of",eE),("ancestors",cC),("all_below",bK),("without_child",bt),("best_common",bq),("_law_put",lu),("_law_filled",bU),("_law_told",(du cNO cBT)),("law",cY),(aE "kind",sY),(aE "held",(bX cV cNO)),(aE "content",(bR cNO))]
theorem ti:qA (met 0):=⟨⟨_,_,_,_,_,_,_,_,rfl⟩⟩
theorem tp:xt (met 5):=⟨⟨_,_,_,_,_,_,_,_,_,_,_,_,_,_,_,_,_,_,_,_,_,_,_,_,_,rfl,rfl⟩,by decide +kernel⟩
noncomputable def scB (ps:List Str)(st:Stmt):Bool:=decide ((defScope st).kind=.function/\(defScope st).isCoroutine=false/\(defScope st).isGenerator=false/\(ps++au (defScope st) ps).Nodup/\(ps++au (defScope st) ps).take ps.length=ps/\(∀x∈ps,(defScope st).names.lookup x=some .local\/(defScope st).names.lookup x=some .cell)/\∀y∈(defScope st).names,y.2≠.free)
theorem ny {ps:List Str}{st:Stmt}(h:scB ps st=true):aX (ps++au (defScope st) ps) ps (defScope st):=
 have⟨a,b,c,d,e,f,g⟩:=od0 h
 ⟨a,b,c,d,e,f,g⟩
structure FF (x q:Str)(st:Stmt)(f cd:Addr)(pm:Value)(ps:List Str):Prop where
 l:∀P,(kk P).lookup f=some (fo x q st pm cd):=by intro;kernel_rfl
 c:∀P,(PySem.W.codeIn (kk P) (.ref cd) q&&PySem.W.keepIn (kk P) (.ref f))=true:=by intro;kernel_rfl
 s:scB ps st=true:=by kernel_rfl
 d:bp st=some (ps,defBody st,defScope st):=by rfl
 b:∀(kV doc pm:Value) (an:Option Addr) (cdv ct:Value) (us:List Value),us.length=ps.length->bindArgs (PySem.W.fnOf x q (defArgs st) (defBody st) (defScope st) .none kV doc pm an cdv ct) ⟨us,[]⟩=pure (ps.zip us):=by first|exact fun a a a a a a=>len1 fun a=>rfl|exact fun a a a a a a=>len2 fun a a=>rfl|exact fun a a a a a a=>len3 fun a a a=>rfl|exact fun a a a a a a=>Jh fun a a a a a=>rfl
section
variable {x q:Str}{st:Stmt}{f cd:Addr}{pm:Value}{ps:List Str}{P:Params}
abbrev FT (x:Str)(i:Nat)(cd:Addr)(pm:Value)(ps:List Str):Prop:=FF x x (top i) (cd+1) cd pm ps
theorem FF.fn (F:FF x q st f cd pm ps)(P:Params):Fun (kk P) x q st f (PySem.W.fnOf x q (defArgs st) (defBody st) (defScope st) .none .none .none pm none (.ref cd) .none):=CI (F.l P) (ax0 (F.c P)).1 (ax0 (F.c P)).2
theorem mkD {d:Def}(F:FF x x st f cd pm ps)(X:(kk P).In h)(G:h.Ns mainGlobals mg)(a:PySem.W.nsIn (kk P) mainGlobals x=some (some (.ref f)):=by kernel_rfl)(c:lR env.fns env.cst d.lent st (some env.c) env.xcs=some d:=by kernel_rfl)(e:d.lent.length=ps.length:=by rfl):oM (kk P) mg env.fns env.cst (some env.c) env.xcs x d:=
 ⟨⟨st,f,_,ps,F.fn P,PySem.W.mg_of X G a,(F.fn P).binds F.b,ny F.s,F.d,c,e⟩⟩
theorem mkM {d:aW}(F:FF x x st f cd pm ps)(X:(kk P).In h)(G:h.Ns mainGlobals mg)(a:PySem.W.nsIn (kk P) mainGlobals x=some (some (.ref f)):=by kernel_rfl)(c:iS env d.lent st=some d:=by kernel_rfl)(e:d.lent.length=ps.length:=by rfl):jT (kk P) mg env x d:=
 ⟨⟨st,f,_,ps,none,F.fn P,PySem.W.mg_of X G a,(F.fn P).binds F.b,ny F.s,F.d,c,e,nofun⟩⟩
theorem mkN {d:Def}{s0 s1:Stmt}{y:Str}{i:Nat}{e0:E}{S1':S}{p pos:Pos}(F:FF x x st f cd pm ps)(X:(kk P).In h)(G:h.Ns mainGlobals mg)(a:PySem.W.nsIn (kk P) mainGlobals x=some (some (.ref f)))(c:lR env.fns env.cst d.lent st (some env.c) env.xcs=some d)(l:d.lent.length=ps.length)(a1:defBody st=[s0,s1,.Return (some (.Name y p)) pos])(a5:d.body=.cons (.new i e0) (.cons S1' (.cons (.ret (.v i)) .nil)))(a2:cS 59 (dH env.fns env.cst ps (defBody st) (defScope st) (some env.c) env.xcs) s0=some (.new i e0))(a3:cS 58 (dH env.fns env.cst ps (defBody st) (defScope st) (some env.c) env.xcs) s1=some S1')(a4:aY (dH env.fns env.cst ps (defBody st) (defScope st) (some env.c) env.xcs) y=some i)(a6:gC i S1'=true)(a7:decide (i<d.slots)=true):Bz (kk P) mg env.fns env.cst (some env.c) env.xcs x d:=
 ⟨⟨st,f,_,ps,s0,s1,y,i,e0,S1',p,pos,F.fn P,PySem.W.mg_of X G a,(F.fn P).binds F.b,ny F.s,F.d,c,l,a1,a2,a3,a4,a5,a6,a7⟩⟩
theorem nv {α:Prop}{x:Str}(e:x=aE m)(hm:vms.contains m=true)(h:(vms.all fun m=>!(x==aE m))=true:=by kernel_rfl):α:=(GU h e hm).elim
theorem mn {n:Str}(X:(kk P).In h)(G:h.Ns mainGlobals mg)(e:PySem.W.nsIn (kk P) mainGlobals n=some none:=by kernel_rfl):mg n=none:=PySem.W.mg_none_of X G e
theorem mo {n:Str}{v:Value}(X:(kk P).In h)(G:h.Ns mainGlobals mg)(e:PySem.W.nsIn (kk P) mainGlobals n=some (some v):=by kernel_rfl):mg n=some v:=PySem.W.mg_of X G e
theorem mkT (F:FF x q st f cd pm ps)(a:PySem.W.findIn (kk P) (.ref cV) x=some (some (.ref f)):=by kernel_rfl)(n:PySem.W.isFn (kk P) (.ref f)=true:=by kernel_rfl):tQ (kk P) cV x f:=⟨a,n,(ax0 (F.c P)).2⟩
theorem mkX {t:Str}{c:Addr}{tab:List (Nat×Bool)}(m:mg t=some (.ref c))(h:∀e b,tab.lookup e=some b->PySem.W.ExcI (kk P) e/\PySem.W.kitOne (kk P) (.ref e) (.ref c)=some b):XcZ (kk P) mg t c tab:=⟨.inl m,fun e b q=>⟨(h e b q).1,fun a=>(h e b q).2,fun (z:mg t=none)=>by rw[m] at z;cases z⟩⟩
theorem mkW {d:aW}(C:Cls (kk P) cV)(F:FF x q st f cd pm ps)(T:tQ (kk P) cV x f)(n:x≠"objects"/\x≠"numbers":=by decide)(c:iS env d.lent st=some d:=by kernel_rfl)(e:d.lent.length=ps.length:=by rfl)(e':d.lent.headD false=false:=by rfl):mU (kk P) env x d:=
 ⟨n,e',⟨st,f,_,ps,q,F.fn P,C,T,(F.fn P).binds F.b,ny F.s,F.d,c,e⟩⟩
end
theorem F10:FT "names_rise" 10 86 m0 ["names"]:={}
theorem F29:FT "_law_cell" 29 243 m1 ["_law_script","_law_k"]:={}
theorem F30:FT "_law_mix" 30 250 m1 ["_law_script","_law_k"]:={}
theorem F31:FT "_law_whole" 31 257 m1 ["_law_found"]:={}
theorem F34:FT "_law_wild" 34 278 m1 ["_law_script","_law_k","_law_many"]:={}
theorem F35:FT "_law_below" 35 283 m1 ["_law_thing"]:={}
theorem F36:FT "_law_reached" 36 288 m1 ["_law_things","_law_numbers"]:={}
theorem F37:FT "_law_older" 37 293 m1 ["_law_things","_law_number"]:={}
theorem F38:FT "_law_grown" 38 298 m1 ["_law_script","_law_base","_law_many"]:={}
theorem F40:FT "_law_good" 40 310 m1 ["_law_things","_law_found","_law_shared"]:={}
theorem F15:FT "tree" 15 161 m2 ["vault","entries"]:={}
theorem F16:FT "commit" 16 168 m2 ["vault","top","parents","time","message"]:={}
theorem F17:FT "commit_of" 17 175 m2 ["vault","number"]:={}
theorem F18:FT "refuse_wrong_names" 18 182 m2 ["names"]:={}
theorem F19:FT "refuse_what_is_no_tree" 19 189 m2 ["vault","number"]:={}
theorem F20:FT "refuse_wrong_commit" 20 196 m2 ["vault","top","parents","time","message"]:={}
theorem F26:FT "parents_of" 26 229 m3 ["vault","number"]:={}
theorem F27:FT "time_of" 27 236 m3 ["vault","number"]:={}
theorem F22:FT "ancestors" 22 203 m3 ["vault","number"]:={}
theorem F24:FT "all_below" 24 217 m3 ["vault","numbers","below"]:={}
theorem F25:FT "without_child" 25 222 m3 ["vault","common"]:={}
theorem F23:FT "best_common" 23 210 m3 ["vault","one","other"]:={}
theorem F32:FT "_law_put" 32 264 m1 ["_law_vault","_law_thing"]:={}
theorem F33:FT "_law_filled" 33 271 m1 ["_law_things"]:={}
theorem F39:FT "_law_told" 39 305 m1 ["_law_vault","_law_one","_law_other"]:={}
theorem F41:FT "law" 41 315 m1 ["_law_script"]:={}
theorem Fm0:FF "__init__" "Vault.__init__" (met 0) 101 100 m2 ["self"]:={}
theorem Fm5:FF "put" "Vault.put" (met 5) 136 135 m2 ["self","made"]:={}
theorem Fm2:FF "kind" "Vault.kind" (met 2) 115 114 m2 ["self","number"]:={}
theorem Fm3:FF "held" "Vault.held" (met 3) 122 121 m2 ["self","number"]:={}
theorem Fm4:FF "content" "Vault.content" (met 4) 129 128 m2 ["self","number","wanted"]:={}
noncomputable abbrev dn (k:Nat):Fs:=den (prog) gam k
noncomputable abbrev dm (k:Nat):FsM:=jo sX (prog) (progM) gam cV k
theorem Ht (k:Nat):BA (dn (k+1)):=cL (d:=dR) rfl fun ns j=>by rw[run_eq rfl];exact xy ns j
theorem EL (k:Nat):oY (dn (k+2)):=cL (d:=hV) rfl fun ns j=>by rw[run_eq rfl];exact Ay (Ht k) ns j
theorem EM (k:Nat):qJ (dn (k+1)):=cL (d:=jX) rfl fun i=>by rw[run_eq rfl];exact rfl
theorem Hu (k:Nat):BO (dn (k+3)):=cL (d:=fB) rfl fun ns j m h1 h2=>by rw[run_eq rfl];exact xP (EL k) ns j m h1 h2
theorem EN (k:Nat):ya (dn (k+3)) cNO cBT cBC:=cL (d:=bY) rfl fun ns b m h1 h2=>by rw[run_eq rfl];exact tw (EL k) ns b m h1 h2
theorem Hv (k:Nat):xJ (dn (k+1)):=cL (d:=dq) rfl (by unfold pf;rw[run_eq rfl];exact He)
theorem EO (k:Nat):ph (dn (k+1)):=cL (d:=eC) rfl fun t h=>by rw[run_eq rfl];exact tj t h
theorem AY (k:Nat):qO (dn (k+2)) cNO cBT cBC:=cL (d:=cB) rfl fun L xs h1 h2=>by rw[run_eq rfl];exact pj (EO k) L xs h1 h2
theorem yp (k:Nat):pq (dn (k+3)) cNO cBT cBC:=cL (d:=eD) rfl fun L n h1 h2=>by rw[run_eq rfl];exact tu (AY k) L n h1 h2
theorem ER (k:Nat):xG (dm (k+1)) cNO:=aM (d:=(bX cV cNO)) rfl rfl fun L i=>by rw[aI rfl];exact Hc L i
theorem pC (k:Nat):ll (dm (k+2)) cNO:=aM (d:=(bR cNO)) rfl rfl fun L i s hk=>by rw[aI rfl];exact Hd (ER k) L i s hk
theorem Cb (k:Nat):xI (dm (k+3)) cNO:=aM (d:=bS) rfl rfl fun L i=>by rw[aI rfl];exact Jz (pC k) L i
theorem Hw (k:Nat):BF (dm (k+3)):=aM (d:=(lq cBT)) rfl rfl fun U=>by rw[aI rfl];exact JA (Hv (k+1)) U
theorem ES (k:Nat):xM (dm (k+4)):=aM (d:=(ib cBT)) rfl rfl fun L h3=>by rw[aI rfl];exact Hg (cBT:=cBT) (Hw k) (qF _) L h3
theorem AZ (k:Nat):qH (dm (k+3)) cNO:=aM (d:=ay) rfl rfl fun L i=>by rw[aI rfl];exact Eu (pC k) L i
theorem Hx (k:Nat):BH (dm (k+4)) cNO cBC:=aM (d:=(aJ cBC)) rfl rfl fun L a ps tm m h1=>by rw[aI rfl];exact JC (pC (k+1)) (AZ k) rfl L a ps tm m h1
theorem yq (k:Nat):ng (dm (k+5)) cNO cBC:=aM (d:=fC) rfl rfl fun L a ps tm m h1 h2=>by rw[aI rfl];exact AH (Hx k) (qF _) L a ps tm m h1 h2
theorem Hy (k:Nat):BJ (dm (k+6)) cNO cBT cBC:=aM (d:=lu) rfl rfl fun L t h1 h2=>by rw[aI rfl];exact AI (cBT:=cBT) (ES (k+1)) (yq k) L t h1 h2
theorem Ba (k:Nat):ke (dm (k+7)) cNO cBT cBC:=aM (d:=bU) rfl rfl fun L h1 h2=>by rw[aI rfl];exact lz (Hy k) L h1 h2
theorem Hz (k:Nat):AL (dm (k+4)) cNO:=aM (d:=bG) rfl rfl fun L i hs=>by rw[aI rfl];exact AM (Cb k) L i hs
theorem JI (k:Nat):BS (dm (k+5)) aP cNO cBT cBC:=aM (d:=bK) rfl rfl fun L xs h1 h2=>by rw[aI rfl];exact AR (Ey (l:=gam.take 1) rfl (by simp[gam]) rfl) (Hz k) L xs h1 h2
theorem JJ (k:Nat):Hi (dm (k+6)) cNO cBT cBC:=aM (d:=cC) rfl rfl fun L i h1=>by rw[aI rfl];exact xV (JI k) rfl L i h1
theorem HA (k:Nat):BQ (dm (k+4)):=aM (d:=eE) rfl rfl fun L i h1=>by rw[aI rfl];exact xU (Cb k) L i h1
theorem hWc (k:Nat):HWc (dm (k+5)) cNO cBT cBC:=aM (d:=bt) rfl rfl fun L C h1 h2 h3=>by rw[aI rfl];exact EH (Hz k) L C h1 h2 h3
theorem HB (k:Nat):BX (dm (k+7)) cNO cBT cBC:=aM (d:=bq) rfl rfl fun L i j h1=>by rw[aI rfl];exact ye (JJ k) (hWc (k+1)) (HA (k+2)) L i j h1
theorem HC (k:Nat):qR (dm (k+8)) cNO cBT cBC:=aM (d:=(du cNO cBT)) rfl rfl fun L i j h1=>by rw[aI rfl];exact yf (by decide) (HB k) L i j h1
theorem HD (k:Nat):BZ (dn (k+4)) cNO cBT cBC:=cL (d:=fE) rfl fun L i j h1 h2 h3=>by rw[run_eq rfl];exact yj (EM (k+2)) (yp k) L i j h1 h2 h3
theorem holds (ns:List Int)(hl:ns.length≤63):∃U,cy (dn 37) (dm 37) gam cV cY [] [.scr ns]=some (U,.ok (.bool true)):=nu (cNO:=cNO) (cBT:=cBT) (cBC:=cBC) ⟨(EL 35),(Hu 34),(EN 34),(Ba 30),⟨(yp 34),(HD 33),(HC 29)⟩⟩ ns
set_option maxHeartbeats 0 in
theorem all_mk {w:World}{fa:Addr}(P:Params)(X:(kk P).In h)(G:h.Ns mainGlobals mg)(hfa:mg "law"=some (.ref fa)):
  ∃fd:FuncData,(∀(s:Shared) (v:Value),BindsTo s fd ⟨[v],[]⟩ [("_law_script",v)])/\∀base:Heap,(kk P).In base->base.Ns mainGlobals mg->FnOk PySem.Challenge.pw_strata_k21_whole_best_common w (kk P) mg base CX0 40 fa fd ["_law_script"] (iU (kk P)):=by
 have e:=hfa.symm.trans (PySem.W.mg_of X G (by kernel_rfl:PySem.W.nsIn (kk P) mainGlobals "law"=some (some (.ref 316))));cases e;have cls:Cls (kk P) cV:=⟨(by kernel_rfl),(by kernel_rfl),(by kernel_rfl),(by kernel_rfl)⟩;have v5:PySem.W.findIn (kk P) (.ref cV) "objects"=some none:=by kernel_rfl
 have v6:PySem.W.findIn (kk P) (.ref cV) "numbers"=some none:=by kernel_rfl
 have T0:=mkT (P:=P) Fm0;have T5:=mkT (P:=P) Fm5;have T2:=mkT (P:=P) Fm2;have T3:=mkT (P:=P) Fm3;have T4:=mkT (P:=P) Fm4;have defs:∀x d,env.fns.contains x=true->prog.lookup x=some d->oM (kk P) mg env.fns env.cst (some env.c) env.xcs x d:=fun x d hx hl=>cA (Q:=fun x d=>env.fns.contains x=true->oM (kk P) mg env.fns env.cst (some env.c) env.xcs x d) (prog:=prog) ⟨fun f=>mkD F10 X G,fun f=>mkD F29 X G,fun f=>mkD F30 X G,fun f=>mkD F31 X G,fun f=>mkD F34 X G,fun f=>mkD F35 X G,fun f=>mkD F36 X G,fun f=>mkD F37 X G,fun f=>mkD F38 X G,fun f=>mkD F40 X G,trivial⟩ x d hl hx
 have L23:jT (kk P) mg env "best_common" bq:=⟨⟨_,_,_,_,some (206,"best_common.<locals>.<lambda>"),F23.fn P,mo X G,(F23.fn P).binds F23.b,ny F23.s,F23.d,by kernel_rfl,rfl,fun Pt q z=>by
  cases z;exact⟨by decide,by decide,fun base kb f=>⟨⟨210,rfl,kO "best_common" "best_common" 438 97 3 9 210 true,_,_,_,_,_,_,_,_,kb _ _ (by kernel_rfl),rfl,rfl,rfl,rfl,rfl,rfl,rfl,rfl,by decide⟩,4,⟨.type "module",some 0,.plain,#[]⟩,mo X G,by decide,by decide,by decide,kb _ _ (by kernel_rfl),rfl,rfl,rfl⟩⟩⟩⟩
 have defm:∀x d,env.mfs.contains x=true->progM.lookup x=some d->jT (kk P) mg env x d:=fun x d hx hl=>cA (Q:=fun x d=>env.mfs.contains x=true->jT (kk P) mg env x d) (prog:=progM) ⟨fun f=>mkM F15 X G,fun f=>mkM F16 X G,fun f=>mkM F17 X G,fun f=>mkM F18 X G,fun f=>mkM F19 X G,fun f=>mkM F20 X G,fun f=>mkM F26 X G,fun f=>mkM F27 X G,fun f=>mkM F22 X G,fun f=>mkM F24 X G,fun f=>mkM F25 X G,fun f=>L23,fun f=>mkM F32 X G,fun f=>mkM F33 X G,fun f=>mkM F39 X G,fun f=>mkM F41 X G,fun z=>absurd (Eq.trans (by kernel_rfl:false=env.mfs.contains (aE "kind")) z) fx0,fun z=>absurd (Eq.trans (by kernel_rfl:false=env.mfs.contains (aE "held")) z) fx0,fun z=>absurd (Eq.trans (by kernel_rfl:false=env.mfs.contains (aE "content")) z) fx0,trivial⟩ x d hl hx
 have metm:∀m d,env.mms.contains m=true->progM.lookup (aE m)=some d->mU (kk P) env m d:=fun m d hm hl=>cA (Q:=fun x d=>∀m,x=aE m->env.mms.contains m=true->mU (kk P) env m d) (prog:=progM) ⟨fun f z h=>nv z h,fun f z h=>nv z h,fun f z h=>nv z h,fun f z h=>nv z h,fun f z h=>nv z h,fun f z h=>nv z h,fun f z h=>nv z h,fun f z h=>nv z h,fun f z h=>nv z h,fun f z h=>nv z h,fun f z h=>nv z h,fun f z h=>nv z h,fun f z h=>nv z h,fun f z h=>nv z h,fun f z h=>nv z h,fun f z h=>nv z h,fun m z f=>eA z▸mkW cls Fm2 T2,fun m z f=>eA z▸mkW cls Fm3 T3,fun m z f=>eA z▸mkW cls Fm4 T4,trivial⟩ _ d hl m rfl hm
 have blt:∀x∈bltNames,mg x=none:=qD (xs:=bltNames) ⟨mn X G,mn X G,mn X G,mn X G,mn X G,mn X G,mn X G,mn X G,mn X G,mn X G,mn X G,mn X G,mn X G,mn X G,mn X G,mn X G,mn X G,mn X G,trivial⟩;have gl:∀x d,gam.lookup x=some d->∃u v,mg x=some u/\RelV v u/\∀G,Dp (kk P) G d v:=qE (prog:=gam) ⟨⟨.int 2 287,.int 2,mo X G,⟨_,rfl⟩,fun f=>.int _⟩,⟨.ref aP,.ref aP,mo X G,rfl,fun f=>.fn aP⟩,trivial⟩;have fv:∀x a,gam.lookup x=some (.fn a)->env.mfs.contains x=true:=fun x a h=>cA (Q:=fun x d=>∀a,d=.fn a->env.mfs.contains x=true) (prog:=gam) ⟨nofun,fun f f=>(by kernel_rfl),trivial⟩ x _ h a rfl
 have INoObject:PySem.W.ExcI (kk P) cNO:=⟨(by kernel_rfl),(by kernel_rfl),(by kernel_rfl),(by kernel_rfl),(by kernel_rfl),(by kernel_rfl)⟩;have IBadTree:PySem.W.ExcI (kk P) cBT:=⟨(by kernel_rfl),(by kernel_rfl),(by kernel_rfl),(by kernel_rfl),(by kernel_rfl),(by kernel_rfl)⟩;have yStrataError:PySem.W.excIn (kk P) cSE bg "ValueError.__new__"=true:=by kernel_rfl
 have yNoObject:PySem.W.excIn (kk P) cNO bg "ValueError.__new__"=true:=by kernel_rfl
 have yBadTree:PySem.W.excIn (kk P) cBT bg "ValueError.__new__"=true:=by kernel_rfl
 have yBadCommit:PySem.W.excIn (kk P) cBC bg "ValueError.__new__"=true:=by kernel_rfl
 have xc:∀t c tab,env.xcs.lookup t=some (c,tab)->XcZ (kk P) mg t c tab:=fun t c tab hl=>cA (Q:=fun t (p:Nat×List (Nat×Bool))=>XcZ (kk P) mg t p.1 p.2) (prog:=env.xcs) ⟨mkX (mo X G) fun e b hq=>(eB hq).elim (fun z=>by obtain⟨z1,z2⟩:=z;subst z1 z2;exact⟨INoObject,(by kernel_rfl)⟩) (fun z=>by obtain⟨z1,z2⟩:=z;subst z1 z2;exact⟨IBadTree,(by kernel_rfl)⟩),mkX (mo X G) fun e b hq=>(eB hq).elim (fun z=>by obtain⟨z1,z2⟩:=z;subst z1 z2;exact⟨INoObject,mX _⟩) (fun z=>by obtain⟨z1,z2⟩:=z;subst z1 z2;exact⟨IBadTree,(by kernel_rfl)⟩),mkX (mo X G) fun e b hq=>(eB hq).elim (fun z=>by obtain⟨z1,z2⟩:=z;subst z1 z2;exact⟨INoObject,(by kernel_rfl)⟩) (fun z=>by obtain⟨z1,z2⟩:=z;subst z1 z2;exact⟨IBadTree,mX _⟩),trivial⟩ t (c,tab) hl
 have tr:∀(t:Str) x tab,t≠("ValueError":Str)->env.xcs.lookup t=some (x,tab)->∀e,tab.lookup e=some true->∃newId newIdT,PySem.W.excIn (kk P) e bg newId=true/\PySem.W.excIn (kk P) x bg newIdT=true/\dP (kk P) e x=true:=fun t x tab hn hl=>cA (Q:=fun t (p:Nat×List (Nat×Bool))=>t≠("ValueError":Str)->∀e,p.2.lookup e=some true->∃newId newIdT,PySem.W.excIn (kk P) e bg newId=true/\PySem.W.excIn (kk P) p.1 bg newIdT=true/\dP (kk P) e p.1=true) (prog:=env.xcs) ⟨fun f e hq=>(eB hq).elim (fun z=>by obtain⟨z1,z2⟩:=z;subst z1;exact⟨_,_,yNoObject,yStrataError,(by kernel_rfl)⟩) (fun z=>by obtain⟨z1,z2⟩:=z;subst z1;exact⟨_,_,yBadTree,yStrataError,(by kernel_rfl)⟩),fun f e hq=>(eB hq).elim (fun z=>by obtain⟨z1,z2⟩:=z;subst z1;exact⟨_,_,yNoObject,yNoObject,(by kernel_rfl)⟩) (fun z=>by cases z.2),fun f e hq=>(eB hq).elim (fun z=>by cases z.2) (fun z=>by obtain⟨z1,z2⟩:=z;subst z1;exact⟨_,_,yBadTree,yBadTree,(by kernel_rfl)⟩),trivial⟩ t (x,tab) hl hn
 have B:Base (kk P) mg gam (some env.c) env.xcs:=⟨blt,gl,fun c hc=>by cases hc;exact⟨cls,v5⟩,xc⟩;refine⟨PySem.W.fnOf "law" "law" (defArgs (top 41)) (defBody (top 41)) (defScope (top 41)) .none .none .none m1 none (.ref 315) .none,fun s v=>.of_eq rfl,fun base kb1 kb2=>?_⟩;have VZ:xx PySem.Challenge.pw_strata_k21_whole_best_common w (kk P) mg base cV "Vault":=⟨⟨_,_,⟨(by kernel_rfl),T0.1,T0.2,(by kernel_rfl)⟩,mo X G,by decide,(Fm0.fn P).binds Fm0.b,Av (Fm0.fn P) (ny Fm0.s) ti cls v5 v6⟩⟩;have BM:xq PySem.Challenge.pw_strata_k21_whole_best_common w (kk P) mg base sX env:=⟨fun X e1 e2 e3 e4 e5 r g ρ U p pos=>Aw (by rw[e1,e2,e3,e4,e5];exact VZ) r g,fun m φ h=>by
   obtain⟨h1,rfl⟩:=AB h;obtain rfl:=eA h1;exact⟨⟨⟨_,_,_,cls,T5,(Fm5.fn P).binds Fm5.b,Ei (Fm5.fn P) (ny Fm5.s) tp (mn X G) cls v5 v6⟩⟩,rfl,by decide,by decide⟩,
  fun x hx=>if_neg fun z=>by
   subst z;exact absurd (Eq.trans (by kernel_rfl:false=env.mfs.contains (aE "put")) hx) fx0,
  fun t x hl=>cA (Q:=fun t x=>mg t=some (.ref x)/\∃newId initId,ExcBaseFacts "ValueError" newId initId bg/\PySem.W.excIn (kk P) x bg newId=true) (prog:=env.xks) ⟨⟨mo X G,_,_,PySem.F.excBase_ValueError,yBadTree⟩,⟨mo X G,_,_,PySem.F.excBase_ValueError,yNoObject⟩,⟨mo X G,_,_,PySem.F.excBase_ValueError,yBadCommit⟩,trivial⟩ t x hl,tr⟩
 have N:qz (kk P) mg env prog:=fun x d hx hl=>by
   obtain rfl:x=("_law_grown":Str):=by simpa [env] using hx
   cases (show some bY=some d from (by kernel_rfl:some bY=prog.lookup ("_law_grown":Str)).trans hl);exact mkN F38 X G (by kernel_rfl) (by kernel_rfl) rfl rfl rfl (by kernel_rfl) (by kernel_rfl) (by kernel_rfl) (by kernel_rfl) (by kernel_rfl)
 have M:=Aq (P:=PySem.Challenge.pw_strata_k21_whole_best_common) (w:=w) (base:=base) (Γ:=gam) (prog:=prog) (progM:=progM) B BM ⟨kb1,kb2⟩ fv N defs defm metm 37;exact Ar (oX (F41.fn P) (ny F41.s) F41.d (by kernel_rfl:iS env [true] (top 41)=some cY) rfl M nofun) rfl fun ns hl=>by
  obtain⟨U,hU⟩:=holds ns hl;exact⟨U,by rw[aI rfl];exact hU⟩
theorem tK {P:Params}(Y:PySem.W.Frag.In (kT P) h):(kk P).In h:=fun a o e=>Y a o (by rw[kT,List.lookup_append,e];rfl)
theorem tT {P:Params}(Y:PySem.W.Frag.In (kT P) h):∀p∈lamTs,(kk P).lookup p.1=none/\h.get? p.1=some (PySem.W.tabObj #[])/\PySem.isCodeTable h p.1/\lamTs.lookup p.1=some p.2:=fun p hp=>by
 obtain rfl:=List.mem_singleton.mp hp;exact⟨by kernel_rfl,Y _ _ (by kernel_rfl),⟨210,kO "best_common" "best_common" 438 97 3 9 210 true,_,Y _ _ (by kernel_rfl),rfl,rfl,rfl⟩,rfl⟩
end K21
open PySem PySem.W PySem.W.X PyProof.Rows K21
set_option maxRecDepth 100000 in
set_option maxHeartbeats 0 in
theorem PySem.Challenge.cw_strata_k21_whole_best_common_holds : PySem.Challenge.rw_strata_k21_whole_best_common.Holds := by
 w_on
 refine PySem.W.holds_law (by decide +kernel) fun said=>?_
 refine PySem.W.holds_openX (q:=vw) (loose:=lo) (Xt:=fun s=>xlAt vw [] s&&recOk (RowW.records (OpenRow.toRowW PySem.Challenge.rw_strata_k21_whole_best_common.row)) s) (XP:=XL vw []) (Yf:=obsZ ads) (Ya:=valZ kT 317 584) (d:=CL) (kwd:=[]) (N:=4490) hl (fun s e=>xl_of s (ax0 e).1) XL.keeps (by kernel_rfl) (by kernel_rfl) (by kernel_rfl) (fun s e=>recFacts_of (ax0 e).2) (by rfl) said (by decide +kernel) ⟨rfl,rfl,rfl,rfl,rfl,by decide +kernel⟩ ?hw ?hc
 case hw=>w_witness2
 case hc=>exact L2.Z.walkX (fun P=>by kernel_rfl) (L2.Z.walkM (l:=PySem.Challenge.rw_strata_k21_whole_best_common) rfl rfl (fun w h Y=>tK Y) (fun w mg fa h KX G hmg=>K21.all_mk w.params KX G hmg) fun w h Y=>tT Y)

end
end

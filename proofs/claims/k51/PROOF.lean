import PyProof.Rows.All
import Wide.All
import OpenK.AllK
import Wide.FinOn
import Lean
import KE.KDictOf
import KE.KDictSum
import KE.KEqDat
import KE.KIsAll
import KE.KTryMore
import KE.LcSums
import OpenK.KOwn
import PyProof.EqAt
import PyProof.EqKinds
import PyProof.ExcArgsOwn
import PyProof.ExcAttrAll.ValueError
import PyProof.FString
import PyProof.Rows.SetFrom
import PyProof.Rows.SortStr
import PyProof.Rows.SortWalk
import PyProof.StrBlockL
import PyProof.StrLawsIn
import PyProof.StrLawsTight
import PyProof.StrWalks
import PyProof.TupleCall
import PyProof.ZipIter
import PySem.PyData
import PySem.Syntax
import PySem.Challenge.RW_strata_k51_files
set_option Elab.async false
set_option linter.all false
set_option maxRecDepth 100000
theorem bx0 {α β:Type}{f:α→Option β}{b:β}{x:Option α}:x.bind f=some b→∃a,x=some a∧f a=some b:=Option.bind_eq_some_iff.1
theorem mx0 {α β:Type}{f:α→β}{b:β}{x:Option α}:x.map f=some b→∃a,x=some a∧f a=b:=Option.map_eq_some_iff.1
theorem ax0 {a b:Bool}:(a&&b)=true→a=true∧b=true:=Bool.and_eq_true_iff.1
theorem fx0:false≠true:=Bool.false_ne_true
abbrev bs0:=@Option.bind_some
abbrev mc0:=@List.mem_cons_of_mem
abbrev ps0:=@PySem.Heap.get?_push_of_some
abbrev ms0:=@List.mem_cons_self
abbrev lm0:=@List.length_map
abbrev ls0:=@List.size_toArray
abbrev ge0:=@List.getElem?_eq_getElem
abbrev hs0:=@PySem.Heap.lt_size
abbrev nr0:=@Nat.le_refl
abbrev nl0:=@Nat.lt_of_lt_of_le
abbrev pz0:=@PySem.Heap.get?_push_size
abbrev lc0:=@List.length_cons
abbrev nt0:=@Nat.le_trans
abbrev gn0:=@List.getElem?_set_ne
abbrev nn0:=@Nat.ne_of_lt
abbrev be0:=@Bool.and_eq_true
namespace L2
open PySem PySem.Spec PyProof.Rows
noncomputable abbrev Key:=Sum Int Str
noncomputable def keyIs:Key→Value→Bool
 |.inl k,v=>Value.isInt k v
 |.inr x,v=>Value.isStrOf x v
noncomputable def keyH (w:World):Key→Int
 |.inl k=>hashInt k
 |.inr x=>hashStr w x
theorem keyIs_shape:∀{k:Key} {v:Value},keyIs k v=true→(∃i t,k=Sum.inl i∧v=Value.int i t)∨(∃x t,k=Sum.inr x∧v=Value.str x t)
 |.inl i,v,h=>by
  obtain⟨t,e⟩:=Value.isInt_shape (k:=i) (v:=v) h
  exact .inl ⟨i,t,rfl,e⟩
 |.inr x,v,h=>by
  obtain⟨t,e⟩:=Value.isStrOf_shape (x:=x) (v:=v) h
  exact .inr ⟨x,t,rfl,e⟩
theorem key_ll (a b:Int):decide ((Sum.inl a:Key)=Sum.inl b)=(a==b):=by
 by_cases e:a=b
 ·subst e;simp
 ·have h:¬ (Sum.inl a:Key)=Sum.inl b:=fun q=>e (Sum.inl.inj q)
  rw[decide_eq_false h]
  exact (beq_eq_false_iff_ne.mpr e).symm
theorem key_rr (a b:Str):decide ((Sum.inr a:Key)=Sum.inr b)=decide (a=b):=by
 by_cases e:a=b
 ·subst e;simp
 ·have h:¬ (Sum.inr a:Key)=Sum.inr b:=fun q=>e (Sum.inr.inj q)
  rw[decide_eq_false h,decide_eq_false e]
theorem key_lr (a:Int)(b:Str):decide ((Sum.inl a:Key)=Sum.inr b)=false:=decide_eq_false (fun q=>nomatch q)
theorem key_rl (a:Str)(b:Int):decide ((Sum.inr a:Key)=Sum.inl b)=false:=decide_eq_false (fun q=>nomatch q)
noncomputable def mixKind (prog:Program)(w:World):PySem.KeyKind prog w Key where
 is:=keyIs
 hash:=keyH w
 inj:=fun v a b ha hb=>by
  rcases keyIs_shape ha with⟨i,t,rfl,rfl⟩|⟨x,t,rfl,rfl⟩
  ·rcases keyIs_shape hb with⟨j,u,rfl,e⟩|⟨y,u,rfl,e⟩
   ·injection e with e1 _;rw[e1]
   ·exact nomatch e
  ·rcases keyIs_shape hb with⟨j,u,rfl,e⟩|⟨y,u,rfl,e⟩
   ·exact nomatch e
   ·injection e with e1 _;rw[e1]
 byValue:=fun k v h=>by
  rcases keyIs_shape h with⟨i,t,rfl,rfl⟩|⟨x,t,rfl,rfl⟩<;>rfl
 pyHash:=fun hv h=>by
  rcases keyIs_shape hv with⟨i,t,rfl,rfl⟩|⟨x,t,rfl,rfl⟩
  ·exact wpAny_pyHash_int h
  ·exact wpAny_pyHash_str h
 eqBool:=fun hu hv h=>by
  rcases keyIs_shape hu with⟨i,t,rfl,rfl⟩|⟨x,t,rfl,rfl⟩
  ·rcases keyIs_shape hv with⟨j,u,rfl,rfl⟩|⟨y,u,rfl,rfl⟩
   ·rw[key_ll] at h;exact wpAny_eqBool_int h
   ·rw[key_lr] at h;exact SeqAt.EqAt.int_str i t y u _ _ _ _ h
  ·rcases keyIs_shape hv with⟨j,u,rfl,rfl⟩|⟨y,u,rfl,rfl⟩
   ·rw[key_rl] at h;exact SeqAt.EqAt.str_int x t j u _ _ _ _ h
   ·rw[key_rr] at h;exact wpAny_eqBool_str h
 «strs»:=fun k x t v h=>by
  rcases keyIs_shape h with⟨i,u,rfl,e⟩|⟨y,u,rfl,e⟩
  ·exact nomatch e
  ·injection e with e1 _
   subst e1
   cases v<;>rfl
inductive V where
 |non|bl (b:Bool)|int (i:Int)|str (x:Str)|byt (b:Array UInt8)|flt (b:UInt64)|ref (a:Addr)|ty (n:String)
 deriving DecidableEq
noncomputable def RelV:V→Value→Prop
 |.non,u=>u=Value.none
 |.bl b,u=>u=Value.bool b
 |.int i,u=>∃t,u=Value.int i t
 |.str x,u=>∃t,u=Value.str x t
 |.byt b,u=>∃t,u=Value.bytes b t
 |.flt b,u=>∃t,u=Value.float b t
 |.ref a,u=>u=Value.ref a
 |.ty n,u=>u=Value.type n
noncomputable abbrev Vals:List V→List Value→Prop:=Paired RelV
theorem Vals.length {xs:List V}{us:List Value}(r:Vals xs us):xs.length=us.length:=Paired.length r
theorem Vals.get:∀{xs:List V} {us:List Value} {i:Nat} {x:V},Vals xs us→xs[i]?=some x→∃u,us[i]?=some u∧RelV x u
 |_,_,_,_,.nil,e=>by simp at e
 |_,_,0,_,.cons r _,e=>by simp at e;subst e;exact⟨_,rfl,r⟩
 |_,_,i+1,x,.cons _ t,e=>by
  obtain⟨u,h1,h2⟩:=Vals.get (i:=i) (x:=x) t (by simpa using e)
  exact⟨u,by simpa using h1,h2⟩
theorem Vals.set {x:V}{u:Value}(r:RelV x u):∀{xs:List V} {us:List Value} (i:Nat),Vals xs us→Vals (xs.set i x) (us.set i u)
 |_,_,_,.nil=>.nil
 |_,_,0,.cons _ t=>.cons r t
 |_,_,i+1,.cons q t=>.cons q (Vals.set r i t)
theorem Vals.append:∀{xs ys:List V} {us ws:List Value},Vals xs us→Vals ys ws→Vals (xs++ys) (us++ws)
 |_,_,_,_,.nil,s=>s
 |_,_,_,_,.cons r t,s=>.cons r (Vals.append t s)
theorem Vals.take:∀{xs:List V} {us:List Value} (n:Nat),Vals xs us→Vals (xs.take n) (us.take n)
 |_,_,0,_=>.nil
 |_,_,_+1,.nil=>.nil
 |_,_,n+1,.cons r t=>.cons r (Vals.take n t)
theorem Vals.drop:∀{xs:List V} {us:List Value} (n:Nat),Vals xs us→Vals (xs.drop n) (us.drop n)
 |_,_,0,r=>r
 |_,_,_+1,.nil=>.nil
 |_,_,n+1,.cons _ t=>Vals.drop n t
theorem Vals.none_of:∀{xs:List V} {us:List Value} {i:Nat},Vals xs us→xs[i]?=none→us[i]?=none:=fun {xs us i} r e=>by
 have h1:=r.length
 have h2:xs.length≤i:=List.getElem?_eq_none_iff.mp e
 exact List.getElem?_eq_none_iff.mpr (by omega)
noncomputable def RelO:Option V→Option Value→Prop
 |some v,some u=>RelV v u
 |none,none=>True
 |_,_=>False
noncomputable def KV {κ:Type}:List (κ×V)→List (κ×Value)→Prop:=Paired fun (p:κ×V) (q:κ×Value)=>p.1=q.1∧RelV p.2 q.2
noncomputable def kV:Key→V
 |.inl i=>.int i
 |.inr x=>.str x
inductive HO where
 |lst (xs:List V)
 |tup (xs:List V)
 |dK (kvs:List (Key×V))|dT (kvs:List (List Key×V))
 |set (S:Int→Bool) (n:Nat)
 |ins (C dx:Addr) (fs:List (Str×V))
 |own (x:Addr)
 |xd (fs:List (Str×V))
 |met (f x:Addr)
 |rng (lo hi:Int)
 |frz (o:Obj) (u:HO)
 |tbl (ps:Array Value)
 |ext (φ:Heap→Prop)
noncomputable abbrev Hp:=Addr→Option HO
noncomputable def upd (H:Hp)(a:Addr)(o:HO):Hp:=fun b=>if b=a then some o else H b
theorem upd_same {H:Hp}{a:Addr}{o:HO}:upd H a o a=some o:=by unfold upd;rw[if_pos rfl]
theorem upd_ne {H:Hp}{a b:Addr}{o:HO}(h:b≠a):upd H a o b=H b:=by unfold upd;rw[if_neg h]
theorem ne_of_none {H:Hp}{a b:Addr}{o:HO}(h:H a=some o)(h':H b=none):a≠b:=by
 intro e;subst e;rw[h] at h';cases h'
section
variable (P:Program)(w:World)
noncomputable def ObjOk (H:Hp)(h:Heap)(a:Addr):HO→Prop
 |.lst xs=>xs.length≤sizeLine∧∃(its:List Value) (n:Nat),Vals xs its∧h.get? a=some {cls:=.type "list",data:=.seq its.toArray n}
 |.tup xs=>xs.length≤sizeLine∧∃its:List Value,Vals xs its∧IsTup h a its.toArray
 |.dK kvs=>kvs.length≤sizeLine∧(a==sysModules)=false∧∃vs,KV kvs vs∧h.DictOf (mixKind P w) a vs
 |.dT kvs=>kvs.length≤sizeLine∧(a==sysModules)=false∧∃xs:List (List Key×Addr×Value),
   Paired (fun (p:List Key×V) (q:List Key×Addr×Value)=>p.1=q.1∧H q.2.1=some (.tup (p.1.map kV))∧RelV p.2 q.2.2) kvs xs∧
   ∃o es ep,h.get? a=some o∧o.ExactDict∧o.data=.dict es ep∧es.toList=xs.map (entryOfKey (tupleKind (mixKind P w)))∧(xs.map (·.1)).Nodup
 |.set S n=>h.SetOf (intKind P w) a S n
 |.ins C dx fs=>H dx=some (.own a)∧fs.length≤1000∧dx≠a∧h.get? a=some (PySem.W.instObj C dx)∧
   ∃mA,h.Ns1 dx mA∧(∀f,RelO (fs.lookup f) (mA f))∧PySem.Within mA (fs.map (·.1))
 |.own _=>∃o,h.get? a=some o
 |.xd fs=>∃mA,h.Ns1 a mA∧∀f,RelO (fs.lookup f) (mA f)
 |.rng lo hi=>∃t u v,h.get? a=some {cls:=.type "range",data:=.fields #[.int lo t,.int hi u,.int 1 v]}
 |.frz o u=>h.get? a=some o∧ObjOk H h a u
 |.tbl ps=>h.get? a=some {cls:=.none,data:=.fields ps}
 |.met f x=>h.get? a=some (PySem.W.methodObj (.ref f) (.ref x))
 |.ext φ=>φ h∧(∃o,h.get? a=some o)∧∀h1 h2:Heap,φ h1→(∀o,h1.get? a=some o→h2.get? a=some o)→φ h2
noncomputable def HOk (H:Hp)(h:Heap):Prop:=∀a o,H a=some o→ObjOk P w H h a o
end
section
variable {P:Program}{w:World}{H H':Hp}{h h':Heap}{a:Addr}{o:HO}
theorem ObjOk.lt (x:ObjOk P w H h a o):a<h.objs.size:=by
 cases o with
 |lst xs=>obtain⟨_,_,_,_,e⟩:=x;exact hs0 e
 |tup xs=>obtain⟨_,_,_,p⟩:=x;exact p.lt
 |dK kvs=>obtain⟨_,_,_,_,o,_,_,e,_⟩:=x;exact hs0 e
 |dT kvs=>obtain⟨_,_,_,_,o,_,_,e,_⟩:=x;exact hs0 e
 |set S n=>obtain⟨o,_,_,_,e,_⟩:=x;exact hs0 e
 |ins C dx fs=>obtain⟨_,_,_,e,_⟩:=x;exact hs0 e
 |own y=>obtain⟨_,e⟩:=x;exact hs0 e
 |xd fs=>obtain⟨_,⟨_,_,_,e,_⟩,_⟩:=x;exact hs0 e
 |rng lo hi=>obtain⟨_,_,_,e⟩:=x;exact hs0 e
 |frz ob u=>obtain⟨e,_⟩:=x;exact hs0 e
 |tbl ps=>exact hs0 (show h.get? a=some _ from x)
 |met f y=>exact hs0 (show h.get? a=some _ from x)
 |ext φ=>obtain⟨_,⟨_,e⟩,_⟩:=x;exact hs0 e
theorem Paired.mapP {α β:Type}{F G:α→β→Prop}:∀{l₁:List α} {l₂:List β},Paired F l₁ l₂→(∀a b,F a b→G a b)→Paired G l₁ l₂
 |_,_,.nil,_=>.nil
 |_,_,.cons r t,f=>.cons (f _ _ r) (Paired.mapP t f)
theorem ObjOk.stay (x:ObjOk P w H h a o)(k:∀b u,(b=a∨H b=some (.own a))→h.get? b=some u→h'.get? b=some u)
  (ho:∀b,H b=some (.own a)→H' b=some (.own a)) (ht:∀b xs,H b=some (.tup xs)→H' b=some (.tup xs)):ObjOk P w H' h' a o:=by
 induction o with
 |lst xs=>obtain⟨z,its,n,r,e⟩:=x;exact⟨z,its,n,r,k _ _ (.inl rfl) e⟩
 |tup xs=>obtain⟨z,its,r,ob,e,c⟩:=x;exact⟨z,its,r,ob,k _ _ (.inl rfl) e,c⟩
 |dK kvs=>obtain⟨z,y,vs,r,ob,es,ep,e,c⟩:=x;exact⟨z,y,vs,r,ob,es,ep,k _ _ (.inl rfl) e,c⟩
 |dT kvs=>
  obtain⟨z,y,xs,r,ob,es,ep,e,c⟩:=x
  exact⟨z,y,xs,Paired.mapP r fun p q z=>⟨z.1,ht _ _ z.2.1,z.2.2⟩,ob,es,ep,k _ _ (.inl rfl) e,c⟩
 |set S n=>obtain⟨ob,es,ep,t,e,c⟩:=x;exact⟨ob,es,ep,t,k _ _ (.inl rfl) e,c⟩
 |ins C dx fs=>
  obtain⟨d,z,ne,e,mA,⟨od,es,ep,e2,c⟩,r⟩:=x
  exact⟨ho _ d,z,ne,k _ _ (.inl rfl) e,mA,⟨od,es,ep,k _ _ (.inr d) e2,c⟩,r⟩
 |own y=>obtain⟨ob,e⟩:=x;exact⟨ob,k _ _ (.inl rfl) e⟩
 |xd fs=>obtain⟨mA,⟨od,es,ep,e,c⟩,r⟩:=x;exact⟨mA,⟨od,es,ep,k _ _ (.inl rfl) e,c⟩,r⟩
 |rng lo hi=>obtain⟨t,u,v,e⟩:=x;exact⟨t,u,v,k _ _ (.inl rfl) e⟩
 |frz ob u ih=>obtain⟨e,q⟩:=x;exact⟨k _ _ (.inl rfl) e,ih q⟩
 |tbl ps=>
  have e:h.get? a=some {cls:=.none,data:=.fields ps}:=x
  show h'.get? a=some {cls:=.none,data:=.fields ps}
  exact k a _ (.inl rfl) e
 |met f y=>
  have e:h.get? a=some (PySem.W.methodObj (.ref f) (.ref y)):=x
  show h'.get? a=some (PySem.W.methodObj (.ref f) (.ref y))
  exact k a _ (.inl rfl) e
 |ext φ=>obtain⟨p,⟨o,e⟩,st⟩:=x;exact⟨st _ _ p fun o q=>k _ _ (.inl rfl) q,⟨o,k _ _ (.inl rfl) e⟩,st⟩
theorem HOk.lt (x:HOk P w H h)(e:H a=some o):a<h.objs.size:=(x a o e).lt
theorem HOk.fresh (x:HOk P w H h)(e:h.objs.size≤a):H a=none:=by
 cases q:H a with
 |none=>rfl
 |some u=>exact absurd (nl0 (x.lt q) e) (Nat.lt_irrefl _)
theorem HOk.kept (x:HOk P w H h)(k:∀b u,h.get? b=some u→h'.get? b=some u):HOk P w H h':=fun a o e=>
 (x a o e).stay (fun b u _ q=>k b u q) (fun _ q=>q) fun _ _ q=>q
theorem HOk.laid (x:HOk P w H h)(k:∀b u,h.get? b=some u→h'.get? b=some u)(hp:h.objs.size≤a)(new:ObjOk P w (upd H a o) h' a o):HOk P w (upd H a o) h':=fun b u e=>by
 have hn:=x.fresh hp
 by_cases hb:b=a
 ·subst hb;rw[upd_same] at e;cases e;exact new
 ·rw[upd_ne hb] at e
  exact (x b u e).stay (fun c v _ q=>k c v q) (fun c q=>by rw[upd_ne (ne_of_none q hn)];exact q) fun c xs q=>by rw[upd_ne (ne_of_none q hn)];exact q
end
noncomputable def Rd (H:Hp)(a:Addr)(u:HO):Prop:=H a=some u∨∃o,H a=some (.frz o u)
theorem Rd.ok {P:Program}{w:World}{H:Hp}{h:Heap}{a:Addr}{u:HO}(r:Rd H a u)(x:HOk P w H h):ObjOk P w H h a u:=by
 rcases r with r|⟨o,r⟩
 ·exact x a u r
 ·obtain⟨_,q⟩:=x a _ r
  exact q
noncomputable def Mut:Option HO→Prop
 |some (.lst _)=>True
 |some (.dK _)=>True
 |some (.dT _)=>True
 |some (.set _ _)=>True
 |some (.ins _ _ _)=>True
 |some (.ext _)=>True
 |_=>False
section
variable {P:Program}{w:World}{H:Hp}{h h':Heap}{x e:Addr}{o':HO}
theorem HOk.write (ok:HOk P w H h)(mu:Mut (H x))(he:e=x∨H e=some (.own x))(k:∀b u,b≠e→h.get? b=some u→h'.get? b=some u)(heo:∃u,h'.get? e=some u)
  (new:ObjOk P w (upd H x o') h' x o'):HOk P w (upd H x o') h':=fun b u q=>by
 have nown:∀c y,H c=some (.own y)→c≠x:=fun c y r z=>by subst z;rw[r] at mu;exact mu
 have ntup:∀c xs,H c=some (.tup xs)→c≠x:=fun c xs r z=>by subst z;rw[r] at mu;exact mu
 by_cases hb:b=x
 ·subst hb;rw[upd_same] at q;cases q;exact new
 ·rw[upd_ne hb] at q
  by_cases hbe:b=e
  ·have q':H b=some (.own x):=by
    rcases he with z|z
    ·exact absurd (hbe.trans z) hb
    ·rw[hbe];exact z
   rw[q] at q';cases q'
   obtain⟨v,hv⟩:=heo
   exact⟨v,by rw[hbe];exact hv⟩
  ·refine (ok b u q).stay (fun c v hc r=>k c v ?_ r) (fun c r=>by rw[upd_ne (nown c b r)];exact r) fun c xs r=>by rw[upd_ne (ntup c xs r)];exact r
   rcases hc with rfl|hc
   ·exact hbe
   ·rintro rfl
    rcases he with z|z
    ·exact nown c b hc z
    ·rw[hc] at z;cases z;exact hb rfl
end
structure Un (fs ex:List Addr)(H H':Hp)(h h':Heap):Prop where
 keep:∀b o,h.get? b=some o→H b=none→b∉fs→b∉ex→h'.get? b=some o
 slot:∀b o,h.get? b=some o→H b=none→b∈fs→b∉ex→∃sl,h'.get? b=some {o with slots:=sl}
 free:∀b o,h.get? b=some o→H b=none→b∉ex→H' b=none
 there:∀b o,h.get? b=some o→b∉ex→∃o',h'.get? b=some o'
 tups:∀b xs,H b=some (.tup xs)→H' b=some (.tup xs)
 frzs:∀b o u,H b=some (.frz o u)→H' b=some (.frz o u)
 tbls:∀b ps,H b=some (.tbl ps)→∃more,H' b=some (.tbl (ps++more))
section
variable {fs fs' ex ex':List Addr}{H H1 H2:Hp}{h h1 h2 h':Heap}{a x e:Addr}{o:HO}
theorem Un.any (u:Un fs ex H H1 h h1){b:Addr}{ob:Obj}(q:h.get? b=some ob)(n:H b=none)(hx:b∉ex):∃sl,h1.get? b=some {ob with slots:=sl}:=by
 by_cases hb:b∈fs
 ·exact u.slot b ob q n hb hx
 ·exact⟨ob.slots,u.keep b ob q n hb hx⟩
theorem Un.kept (k:∀b u,h.get? b=some u→h'.get? b=some u):Un fs ex H H h h':=
 ⟨fun b ob q _ _ _=>k b ob q,fun b ob q _ _ _=>⟨ob.slots,k b ob q⟩,fun _ _ _ n _=>n,fun b ob q _=>⟨ob,k b ob q⟩,fun _ _ q=>q,fun _ _ _ q=>q,fun _ ps q=>⟨#[],by rw[q];simp⟩⟩
theorem Un.refl:Un fs ex H H h h:=Un.kept fun _ _ q=>q
theorem Un.laid (k:∀b u,h.get? b=some u→h'.get? b=some u)(hp:h.objs.size≤a)(hn:H a=none):Un fs ex H (upd H a o) h h' where
 keep:=fun b u q _ _ _=>k b u q
 slot:=fun b u q _ _ _=>⟨u.slots,k b u q⟩
 free:=fun b u q n _=>by rw[upd_ne (nn0 (nl0 (hs0 q) hp))];exact n
 there:=fun b u q _=>⟨u,k b u q⟩
 tups:=fun b xs q=>by rw[upd_ne (ne_of_none q hn)];exact q
 frzs:=fun b u xs q=>by rw[upd_ne (ne_of_none q hn)];exact q
 tbls:=fun b ps q=>⟨#[],by rw[upd_ne (ne_of_none q hn),q];simp⟩
theorem Un.write (mu:Mut (H x))(he:e=x∨H e=some (.own x))(k:∀b u,b≠e→h.get? b=some u→h'.get? b=some u)(heo:∃u,h'.get? e=some u):Un fs ex H (upd H x o) h h':=by
 have hx:∀b,H b=none→b≠x:=fun b n z=>by subst z;rw[n] at mu;exact mu
 have hb:∀b,H b=none→b≠e:=fun b n z=>by
  subst z
  rcases he with r|r
  ·exact hx b n r
  ·rw[n] at r;cases r
 have hm:∀b u,H b=some u→¬ Mut (some u)→b≠x:=fun b u q nm z=>by subst z;rw[q] at mu;exact nm mu
 refine⟨fun b u q n _ _=>k b u (hb b n) q,fun b u q n _ _=>⟨u.slots,k b u (hb b n) q⟩,fun b u q n _=>by rw[upd_ne (hx b n)];exact n,fun b u q _=>?_,
  fun b xs q=>by rw[upd_ne (hm b _ q fun z=>z)];exact q,fun b u xs q=>by rw[upd_ne (hm b _ q fun z=>z)];exact q,fun b ps q=>⟨#[],by rw[upd_ne (hm b _ q fun z=>z),q];simp⟩⟩
 by_cases hbe:b=e
 ·subst hbe;exact heo
 ·exact⟨u,k b u hbe q⟩
end
noncomputable def trk (h:Heap)(H:Hp):List Addr:=(List.range h.objs.size).filter fun a=>(H a).isSome
noncomputable def hidT (h:Heap)(H:Hp):Heap:=PySem.W.hideAll h (trk h H)
theorem hidT_size (h:Heap)(H:Hp):(hidT h H).objs.size=h.objs.size:=PySem.W.hideAll_size _ _
theorem hidT_get {h:Heap}{H:Hp}{b:Addr}{o:Obj}(e:h.get? b=some o)(n:H b=none):(hidT h H).get? b=some o:=
 PySem.W.hideAll_get _ e fun hm=>by
  have q:(H b).isSome=true:=(List.mem_filter.mp hm).2
  rw[n] at q;simp at q
theorem of_hidT {h:Heap}{H:Hp}{b:Addr}{o:Obj}(e:(hidT h H).get? b=some o):h.get? b=some o∧H b=none:=by
 have e':h.get? b=some o:=PySem.W.of_hideAll (trk h H) e
 refine⟨e',?_⟩
 cases q:H b with
 |none=>rfl
 |some x=>
  have hm:b∈trk h H:=List.mem_filter.mpr ⟨List.mem_range.mpr (hs0 e'),by simp[q]⟩
  have z:(hidT h H).get? b=none:=PySem.W.hideAll_none (trk h H) hm
  rw[z] at e;cases e
noncomputable def allNews (g h:Heap)(L:Addr):List (Addr×Obj):=(List.range h.objs.size).filterMap fun a=>if a=L∨(g.get? a).isSome=true then none else (h.get? a).map fun o=>(a,o)
noncomputable def rest (g h:Heap)(L d:Addr):List (Addr×Obj):=(allNews g h L).filter fun p=>decide (p.1≠d)
structure Mod (K:PySem.W.Frag)(mg:Str→Option Value)(base:Heap):Prop where
 kin:K.In base
 glob:base.Ns mainGlobals mg
 blt:∃mb,base.Ns builtinsNs mb∧∀x:Str,x≠"__name__"→mb x=bootBuiltins x
 nolimit:base.NoLimit
structure Cx where
 prog:Program
 w:World
 K:PySem.W.Frag
 mg:Str→Option Value
 base:Heap
 A:Around
 N:List Str
 s₀:Shared
 H₀:Hp
 env:Env
 outer:List Env
 stack:List Env
 ex:List Addr
 fn:Str→Bool
 calm:Bool
 pn:List (Addr×Obj)
 xe:Value→Shared→Prop
noncomputable def frs (l:List Env):List Addr:=l.filterMap (·.frame)
noncomputable abbrev Cx.fs (X:Cx):List Addr:=frs X.outer
noncomputable def Vis (sc:Scope)(x:Str):Prop:=sc.names.lookup x=some .local∨sc.names.lookup x=some .cell∨sc.names.lookup x=some .free
noncomputable def Loc (sc:Scope)(x:Str):Prop:=sc.names.lookup x=some .local∨sc.names.lookup x=some .cell
noncomputable def Look (env:Env)(h:Heap)(m:Str→Option Value)(x:Str)(u:Value):Prop:=
 (env.kindOf x=some .local∧m x=some u)∨((env.kindOf x=some .cell∨env.kindOf x=some .free)∧∃c,env.cells.lookup x=some c∧h.IsCell c (some u))
structure Cx.Ok (X:Cx):Prop where
 mod:Mod X.K X.mg X.base
 kind:X.env.scope.kind=.function
 glob:X.env.globals=mainGlobals
 blt:X.env.builtins=builtinsNs
 above:X.s₀.heap.objs.size≤X.env.locals
 inj:∀x y c,X.env.cells.lookup x=some c→X.env.cells.lookup y=some c→x=y
 has:∀x,(X.env.kindOf x=some .cell∨X.env.kindOf x=some .free)→∃c,X.env.cells.lookup x=some c
 cab:∀x c,X.fn x=true→X.env.cells.lookup x=some c→X.s₀.heap.objs.size≤c
 hd:X.calm=true→X.A.handled=none
 frames:X.A.frames=some X.stack
 stk:X.stack=X.outer∨(X.stack=X.env::X.outer∧X.env.frame=some X.env.locals)
 exf:∀b∈X.ex,b≠X.env.locals∧∀x c,X.env.cells.lookup x=some c→c≠b
 bs:∀b o,X.base.get? b=some o→X.s₀.heap.get? b=some o∧X.H₀ b=none
 bsz:X.base.objs.size≤X.s₀.heap.objs.size
 noex:∀b o,X.base.get? b=some o→b∉X.ex
 exfs:∀b∈X.ex,b∉X.fs
 funs:X.s₀.heap.FunFrames X.base X.outer
 frf:∀b∈X.fs,X.H₀ b=none
structure Inv (X:Cx)(pins:List (Addr×Obj))(σ:List (Option V))(H:Hp)(s:Shared):Prop where
 ok:X.Ok
 os:s.os=X.s₀.os
 bare:AllBare s.gens
 base:Un X.fs X.ex X.H₀ H X.s₀.heap s.heap
 loc:∃m,s.heap.Ns X.env.locals m∧∀(i:Nat) (x:Str) (v:V),X.N[i]?=some x→σ[i]?=some (some v)→Vis X.env.scope x→∃u,RelV v u∧Look X.env s.heap m x u
 cell:∀x c,X.env.cells.lookup x=some c→∃v,s.heap.IsCell c v
 free:H X.env.locals=none
 freeC:∀x c,X.env.cells.lookup x=some c→H c=none
 pin:∀p∈X.pn++pins,s.heap.get? p.1=some p.2∧H p.1=none∧p.1≠X.env.locals∧p.1∉X.fs∧∀v,p.2.data≠.cell v
 hok:HOk X.prog X.w H s.heap
 len:σ.length=X.N.length
section
variable {X:Cx}{pins:List (Addr×Obj)}{σ:List (Option V)}{H H':Hp}{s:Shared}{h':Heap}
theorem Cx.Ok.nofr (ok:X.Ok){b:Addr}{o:Obj}(e:X.base.get? b=some o):b∉X.fs:=fun hb=>by
 have:=(ok.funs.mem hb).1
 rw[e] at this;cases this
theorem Inv.bs (I:Inv X pins σ H s):∀b o,X.base.get? b=some o→s.heap.get? b=some o∧H b=none:=fun b o e=>
 ⟨I.base.keep b o (I.ok.bs b o e).1 (I.ok.bs b o e).2 (I.ok.nofr e) (I.ok.noex b o e),I.base.free b o (I.ok.bs b o e).1 (I.ok.bs b o e).2 (I.ok.noex b o e)⟩
theorem Inv.bk (I:Inv X pins σ H s):∀b o,X.base.get? b=some o→s.heap.get? b=some o:=fun b o e=>(I.bs b o e).1
theorem Inv.mod (I:Inv X pins σ H s):Mod X.K X.mg X.base:=I.ok.mod
theorem Inv.kIn (I:Inv X pins σ H s):X.K.In s.heap:=I.ok.mod.kin.keeps I.bk
theorem Inv.lt (I:Inv X pins σ H s):X.env.locals<s.heap.objs.size:=let ⟨_,hn,_⟩:=I.loc;hn.lt
theorem Inv.sz (I:Inv X pins σ H s):X.s₀.heap.objs.size≤s.heap.objs.size:=nt0 I.ok.above (Nat.le_of_lt I.lt)
theorem Inv.nofs (I:Inv X pins σ H s){a:Addr}(h:s.heap.objs.size≤a):a∉X.fs:=fun hb=>by
 obtain⟨_,o,ho,_⟩:=I.ok.funs.mem hb
 exact absurd (nl0 (hs0 ho) (nt0 I.sz h)) (Nat.lt_irrefl _)
theorem Inv.cne (I:Inv X pins σ H s):∀x c,X.env.cells.lookup x=some c→c≠X.env.locals:=fun x c e z=>by
 obtain⟨v,o,ho,hd⟩:=I.cell x c e
 obtain⟨m,⟨o',es,ep,ho',hd',_⟩,_⟩:=I.loc
 rw[z,ho'] at ho;cases ho;rw[hd'] at hd;cases hd
theorem Inv.funs (I:Inv X pins σ H s):s.heap.FunFrames X.base X.outer:=by
 have all:∀(l:List Env),(∀b∈frs l,b∈X.fs)→X.s₀.heap.FunFrames X.base l→s.heap.FunFrames X.base l:=by
  intro l
  induction l with
  |nil=>intro _ _;trivial
  |cons env r ih=>
   intro hs hl
   obtain⟨hk,⟨L,o,hf,hn,ho,hd⟩,hr⟩:=hl
   have hL:L∈X.fs:=hs L (by unfold frs;rw[List.filterMap_cons,hf];exact ms0)
   obtain⟨sl,e⟩:=I.base.slot L o ho (I.ok.frf L hL) hL fun z=>I.ok.exfs L z hL
   exact⟨hk,⟨L,_,hf,hn,e,hd⟩,ih (fun b hb=>hs b (by unfold frs;rw[List.filterMap_cons,hf];exact mc0 _ hb)) hr⟩
 exact all X.outer (fun _ hb=>hb) I.ok.funs
theorem Inv.stack (I:Inv X pins σ H s):s.heap.FunFrames X.base X.stack:=by
 rcases I.ok.stk with e|⟨e,hf⟩
 ·rw[e];exact I.funs
 ·rw[e]
  obtain⟨m,hn,_⟩:=I.loc
  refine .cons (by rw[I.ok.kind];decide) hf hn ?_ I.funs
  exact Heap.get?_none_of_le (nt0 I.ok.bsz I.ok.above)
theorem Inv.stkSub (I:Inv X pins σ H s):∀b∈frs X.stack,b∈X.env.locals::X.fs:=fun b hb=>by
 rcases I.ok.stk with e|⟨e,hf⟩
 ·rw[e] at hb;exact mc0 _ hb
 ·rw[e] at hb
  unfold frs at hb
  rw[List.filterMap_cons,hf] at hb
  exact hb
theorem Inv.stkFree (I:Inv X pins σ H s):∀b∈frs X.stack,H b=none:=fun b hb=>by
 rcases List.mem_cons.mp (I.stkSub b hb) with e|hb
 ·rw[e];exact I.free
 ·obtain⟨_,o,ho,_⟩:=I.ok.funs.mem hb
  exact I.base.free b o ho (I.ok.frf b hb) fun z=>I.ok.exfs b z hb
theorem Inv.step {g':Array GenState}{t':Nat}{d':Drawn}{ch:List Addr}(I:Inv X pins σ H s)
  (hch:∀b∈ch,(b∈X.ex∨X.s₀.heap.objs.size≤b)∧b≠X.env.locals∧(∀x c,X.env.cells.lookup x=some c→c≠b)∧∀p∈X.pn++pins,p.1≠b)
  (keep:∀b o,b≠X.env.locals→b∉X.fs→b∉ch→s.heap.get? b=some o→H b=none→h'.get? b=some o)
  (slot:∀b o,b≠X.env.locals→b∈X.fs→b∉ch→s.heap.get? b=some o→H b=none→∃sl,h'.get? b=some {o with slots:=sl}) (free:∀b o,b∉ch→s.heap.get? b=some o→H b=none→H' b=none)
  (there:∀b o,b∉ch→s.heap.get? b=some o→∃o',h'.get? b=some o')
  (tups:∀b xs,H b=some (.tup xs)→H' b=some (.tup xs)) (frzs:∀b o u,H b=some (.frz o u)→H' b=some (.frz o u)) (tbls:∀b ps,H b=some (.tbl ps)→∃more,H' b=some (.tbl (ps++more)))
  (ns:∀m,s.heap.Ns X.env.locals m→h'.Ns X.env.locals m) (hok:HOk X.prog X.w H' h') (hg:AllBare g'):
  Inv X pins σ H' {s with heap:=h',gens:=g',drawn:=d',toks:=t'}:=by
 have neL:∀b o,X.s₀.heap.get? b=some o→b≠X.env.locals:=fun b o e=>nn0 (nl0 (hs0 e) I.ok.above)
 have neC:∀b o,X.s₀.heap.get? b=some o→b∉X.ex→b∉ch:=fun b o e hx hb=>by
  rcases (hch b hb).1 with z|z
  ·exact hx z
  ·exact absurd (nl0 (hs0 e) z) (Nat.lt_irrefl _)
 have cellK:∀x c,X.env.cells.lookup x=some c→∀v,s.heap.IsCell c v→h'.IsCell c v:=fun x c e v ⟨o,ho,hd⟩=>by
  have nch:c∉ch:=fun z=>(hch c z).2.2.1 x c e rfl
  by_cases hc:c∈X.fs
  ·obtain⟨sl,q⟩:=slot c o (I.cne x c e) hc nch ho (I.freeC x c e)
   exact⟨_,q,hd⟩
  ·exact⟨o,keep c o (I.cne x c e) hc nch ho (I.freeC x c e),hd⟩
 refine⟨I.ok,I.os,hg,⟨fun b o e n hb hx=>?_,fun b o e n hb hx=>?_,fun b o e n hx=>?_,fun b o e hx=>?_,fun b xs e=>tups b xs (I.base.tups b xs e),fun b o xs e=>frzs b o xs (I.base.frzs b o xs e),fun b ps e=>?_⟩,?_,fun x c e=>?_,?_,fun x c e=>?_,fun p hp=>?_,hok,I.len⟩
 ·exact keep b o (neL b o e) hb (neC b o e hx) (I.base.keep b o e n hb hx) (I.base.free b o e n hx)
 ·obtain⟨sl,e1⟩:=I.base.slot b o e n hb hx
  obtain⟨sl',e2⟩:=slot b _ (neL b o e) hb (neC b o e hx) e1 (I.base.free b o e n hx)
  exact⟨sl',e2⟩
 ·obtain⟨o',e1⟩:=I.base.there b o e hx
  exact free b o' (neC b o e hx) e1 (I.base.free b o e n hx)
 ·obtain⟨o',e1⟩:=I.base.there b o e hx
  exact there b o' (neC b o e hx) e1
 ·obtain⟨m1,e1⟩:=I.base.tbls b ps e
  obtain⟨m2,e2⟩:=tbls b _ e1
  exact⟨m1++m2,by rw[e2,Array.append_assoc]⟩
 ·obtain⟨m,hn,hl⟩:=I.loc
  refine⟨m,ns m hn,fun i x v e1 e2 e3=>?_⟩
  obtain⟨u,r,l⟩:=hl i x v e1 e2 e3
  refine⟨u,r,?_⟩
  rcases l with l|⟨k,c,e,z⟩
  ·exact .inl l
  ·exact .inr ⟨k,c,e,cellK x c e _ z⟩
 ·obtain⟨v,z⟩:=I.cell x c e
  exact⟨v,cellK x c e v z⟩
 ·obtain⟨m,⟨o,_,_,ho,_⟩,_⟩:=I.loc
  exact free _ o (fun z=>(hch _ z).2.1 rfl) ho I.free
 ·obtain⟨v,o,ho,hd⟩:=I.cell x c e
  exact free c o (fun z=>(hch c z).2.2.1 x c e rfl) ho (I.freeC x c e)
 ·obtain⟨e,n,ne,nf,d⟩:=I.pin p hp
  have nch:p.1∉ch:=fun z=>(hch p.1 z).2.2.2 p hp rfl
  exact⟨keep p.1 p.2 ne nf nch e n,free p.1 p.2 nch e n,ne,nf,d⟩
theorem Inv.un {t':Nat}(I:Inv X pins σ H s)(u:Un X.fs [] H H' s.heap h')(hok:HOk X.prog X.w H' h'):Inv X pins σ H' {s with heap:=h',toks:=t'}:=by
 obtain⟨m,⟨o,es,ep,ho,r⟩,_⟩:=id I.loc
 obtain⟨sl,hL⟩:=u.any ho I.free (by simp)
 exact I.step (g':=s.gens) (d':=s.drawn) (ch:=[]) (fun _ z=>nomatch z) (fun b o _ hb _ e n=>u.keep b o e n hb (by simp)) (fun b o _ hb _ e n=>u.slot b o e n hb (by simp)) (fun b o _ e n=>u.free b o e n (by simp)) (fun b o _ e=>u.there b o e (by simp)) u.tups u.frzs u.tbls (fun m' hm=>by
  obtain⟨o',es',ep',ho',r'⟩:=hm
  rw[ho] at ho';cases ho'
  exact⟨_,es',ep',hL,r'⟩) hok I.bare
theorem Inv.call {g':Array GenState}{t':Nat}{d':Drawn}{ch:List Addr}(I:Inv X pins σ H s)(u:Un (frs X.stack) ch H H' s.heap h')(hok:HOk X.prog X.w H' h')(hg:AllBare g')
  (hch:∀b∈ch,(b∈X.ex∨X.s₀.heap.objs.size≤b)∧b≠X.env.locals∧(∀x c,X.env.cells.lookup x=some c→c≠b)∧∀p∈X.pn++pins,p.1≠b):
  Inv X pins σ H' {s with heap:=h',gens:=g',drawn:=d',toks:=t'}:=by
 obtain⟨m,⟨o,es,ep,ho,r⟩,_⟩:=id I.loc
 obtain⟨sl,hL⟩:=u.any ho I.free fun z=>(hch _ z).2.1 rfl
 exact I.step (ch:=ch) hch (fun b o hL hb hc e n=>u.keep b o e n (fun z=>(List.mem_cons.mp (I.stkSub b z)).elim hL hb) hc) (fun b o _ _ hc e n=>u.any e n hc) (fun b o hc e n=>u.free b o e n hc) (fun b o hc e=>u.there b o e hc) u.tups u.frzs u.tbls (fun m' hm=>by
  obtain⟨o',es',ep',ho',r'⟩:=hm
  rw[ho] at ho';cases ho'
  exact⟨_,es',ep',hL,r'⟩) hok hg
theorem Inv.turned {t':Nat}{it:Addr}(I:Inv X pins σ H s)(k:∀b o,b≠it→s.heap.get? b=some o→h'.get? b=some o)(hn:H it=none)(hL:it≠X.env.locals)
  (h1:it∈X.ex∨X.s₀.heap.objs.size≤it) (h2:∀x c,X.env.cells.lookup x=some c→c≠it) (h3:∀p∈X.pn++pins,p.1≠it):Inv X pins σ H {s with heap:=h',toks:=t'}:=by
 have nit:∀b u,H b=some u→b≠it:=fun b u e z=>by rw[z,hn] at e;cases e
 refine I.step (g':=s.gens) (d':=s.drawn) (ch:=[it]) (fun b hb=>?_) (fun b o _ _ hc e _=>k b o (fun z=>hc (by simp[z])) e) (fun b o _ _ hc e _=>⟨o.slots,k b o (fun z=>hc (by simp[z])) e⟩) (fun _ _ _ _ n=>n)
  (fun b o hc e=>⟨o,k b o (fun z=>hc (by simp[z])) e⟩) (fun _ _ e=>e) (fun _ _ _ e=>e) (fun b ps e=>⟨#[],by rw[e];simp⟩) (fun m hm=>?_) (fun b u e=>?_) I.bare
 ·have e:b=it:=by simpa using hb
  subst e
  exact⟨h1,hL,h2,h3⟩
 ·obtain⟨o,es,ep,ho,r⟩:=hm
  exact⟨o,es,ep,k _ o (Ne.symm hL) ho,r⟩
 ·refine (I.hok b u e).stay (fun c v hc q=>k c v ?_ q) (fun _ q=>q) fun _ _ q=>q
  rcases hc with z|z
  ·rw[z];exact nit b u e
  ·exact nit c _ z
theorem Inv.tok (I:Inv X pins σ H s)(t:Nat):Inv X pins σ H {s with toks:=t}:=I.un (h':=s.heap) (t':=t) Un.refl I.hok
theorem Inv.kept {t':Nat}(I:Inv X pins σ H s)(k:∀b u,s.heap.get? b=some u→h'.get? b=some u):Inv X pins σ H {s with heap:=h',toks:=t'}:=I.un (Un.kept k) (I.hok.kept k)
theorem Inv.laid {a:Addr}{o:HO}{t':Nat}(I:Inv X pins σ H s)(k:∀b u,s.heap.get? b=some u→h'.get? b=some u)(hp:s.heap.objs.size≤a)(new:ObjOk X.prog X.w (upd H a o) h' a o):
  Inv X pins σ (upd H a o) {s with heap:=h',toks:=t'}:=I.un (Un.laid k hp (I.hok.fresh hp)) (I.hok.laid k hp new)
theorem Inv.write {x e:Addr}{o:HO}{t':Nat}(I:Inv X pins σ H s)(mu:Mut (H x))(he:e=x∨H e=some (.own x))(k:∀b u,b≠e→s.heap.get? b=some u→h'.get? b=some u)(heo:∃u,h'.get? e=some u)
  (new:ObjOk X.prog X.w (upd H x o) h' x o):Inv X pins σ (upd H x o) {s with heap:=h',toks:=t'}:=I.un (Un.write mu he k heo) (I.hok.write mu he k heo new)
theorem Inv.pins_of {pins':List (Addr×Obj)}(I:Inv X pins σ H s)(h:∀p∈pins',s.heap.get? p.1=some p.2∧H p.1=none∧p.1≠X.env.locals∧p.1∉X.fs∧∀v,p.2.data≠.cell v):Inv X pins' σ H s:=
 ⟨I.ok,I.os,I.bare,I.base,I.loc,I.cell,I.free,I.freeC,fun p hp=>(List.mem_append.mp hp).elim (fun z=>I.pin p (List.mem_append_left _ z)) (h p),I.hok,I.len⟩
theorem nodup_ix {N:List Str}(hN:N.Nodup){i j:Nat}{x:Str}(a:N[i]?=some x)(b:N[j]?=some x):i=j:=by
 obtain⟨h1,e1⟩:=List.getElem?_eq_some_iff.mp a
 obtain⟨h2,e2⟩:=List.getElem?_eq_some_iff.mp b
 exact (List.getElem_inj hN).mp (e1.trans e2.symm)
theorem store_ok2 {M:Model}{A:Around}{E:Value→Shared→Prop}{i:Nat}{x:Str}{v:V}{u:Value}{Q:Unit→Shared→Prop}(I:Inv X pins σ H s)(hN:X.N.Nodup)(hi:X.N[i]?=some x)(hx:Loc X.env.scope x)(r:RelV v u)
  (h:∀s',Inv X pins (σ.set i (some v)) H s'→(∃a,Heap.SameBut a s.heap s'.heap∧(a=X.env.locals∨X.env.cells.lookup x=some a))→Q () s') (hf:X.fn x=true∨X.env.scope.names.lookup x=some .local:=by first|exact .inl rfl|exact .inr rfl|assumption):wpAny M A (storeName X.env x u) Q E s:=by
 obtain⟨m,hn,hl⟩:=id I.loc
 have hcls:(X.env.scope.kind==.class||(X.env.scope.kind==.module&&X.env.locals != X.env.globals))=false:=by rw[I.ok.kind];rfl
 have hiσ:i<σ.length:=by rw[I.len];exact (List.getElem?_eq_some_iff.mp hi).1
 have cne:=I.cne
 have tracked:∀{a:Addr} {h':Heap},(∃o,s.heap.get? a=some o∧H a=none)→Heap.SameBut a s.heap h'→HOk X.prog X.w H h':=fun {a h'} ha hs b ob e=>by
  obtain⟨_,_,hfree⟩:=ha
  refine (I.hok b ob e).stay (fun c w' hc q=>(hs.2 c ?_).trans q) (fun _ q=>q) fun _ _ q=>q
  rintro rfl
  rcases hc with rfl|hc
  ·rw[hfree] at e;cases e
  ·rw[hfree] at hc;cases hc
 rcases hx with hk|hk
 ·refine wpAny_storeName_local hk hn (fun h' hn' hs=>?_) hcls
  obtain⟨oL,_,_,hoL,_⟩:=id hn
  refine h _ ⟨I.ok,I.os,I.bare,⟨fun b o e n hb hx=>?_,fun b o e n hb hx=>?_,I.base.free,fun b o e hx=>?_,I.base.tups,I.base.frzs,I.base.tbls⟩,⟨_,hn',fun j y v' e1 e2 e3=>?_⟩,fun y c e=>?_,I.free,I.freeC,fun p hp=>?_,tracked ⟨oL,hoL,I.free⟩ hs,by simpa using I.len⟩ ⟨_,hs,.inl rfl⟩
  ·exact (hs.2 b (nn0 (nl0 (hs0 e) I.ok.above))).trans (I.base.keep b o e n hb hx)
  ·obtain⟨sl,e1⟩:=I.base.slot b o e n hb hx
   exact⟨sl,(hs.2 b (nn0 (nl0 (hs0 e) I.ok.above))).trans e1⟩
  ·obtain⟨o',e1⟩:=I.base.there b o e hx
   exact⟨o',(hs.2 b (nn0 (nl0 (hs0 e) I.ok.above))).trans e1⟩
  ·by_cases hj:j=i
   ·subst hj
    rw[hi] at e1;cases e1
    rw[List.getElem?_set_self hiσ] at e2
    cases e2
    exact⟨u,r,.inl ⟨hk,by simp⟩⟩
   ·rw[gn0 (Ne.symm hj)] at e2
    obtain⟨u',r',q⟩:=hl j y v' e1 e2 e3
    refine⟨u',r',?_⟩
    rcases q with⟨k,e⟩|⟨k,c,e,z⟩
    ·refine .inl ⟨k,?_⟩
     have:y≠x:=fun e=>hj (nodup_ix hN e1 (e▸hi))
     simp[this,e]
    ·exact .inr ⟨k,c,e,z.sameBut hs (cne y c e)⟩
  ·obtain⟨w',z⟩:=I.cell y c e
   exact⟨w',z.sameBut hs (cne y c e)⟩
  ·obtain⟨e,n,ne,nf,d⟩:=I.pin p hp
   exact⟨(hs.2 p.1 ne).trans e,n,ne,nf,d⟩
 ·have hfn:X.fn x=true:=by
   rcases hf with z|z
   ·exact z
   ·rw[z] at hk;cases hk
  obtain⟨c,hc⟩:=I.ok.has x (.inl hk)
  obtain⟨w',z⟩:=I.cell x c hc
  refine wpAny_storeName_cell I.ok.kind hk hc z (fun h' hc' hs=>?_)
  obtain⟨oc,hoc,hocd⟩:=id z
  refine h {s with heap:=h'} ⟨I.ok,I.os,I.bare,⟨fun b o e n hb hx=>?_,fun b o e n hb hx=>?_,I.base.free,fun b o e hx=>?_,I.base.tups,I.base.frzs,I.base.tbls⟩,⟨m,hn.sameBut hs (Ne.symm (cne x c hc)),fun j y v' e1 e2 e3=>?_⟩,fun y c' e=>?_,I.free,I.freeC,fun p hp=>?_,tracked ⟨oc,hoc,I.freeC x c hc⟩ hs,by simpa using I.len⟩ ⟨c,hs,.inr hc⟩
  ·exact (hs.2 b (nn0 (nl0 (hs0 e) (I.ok.cab x c hfn hc)))).trans (I.base.keep b o e n hb hx)
  ·obtain⟨sl,e1⟩:=I.base.slot b o e n hb hx
   exact⟨sl,(hs.2 b (nn0 (nl0 (hs0 e) (I.ok.cab x c hfn hc)))).trans e1⟩
  ·obtain⟨o',e1⟩:=I.base.there b o e hx
   exact⟨o',(hs.2 b (nn0 (nl0 (hs0 e) (I.ok.cab x c hfn hc)))).trans e1⟩
  ·by_cases hj:j=i
   ·subst hj
    rw[hi] at e1;cases e1
    rw[List.getElem?_set_self hiσ] at e2
    cases e2
    exact⟨u,r,.inr ⟨.inl hk,c,hc,hc'⟩⟩
   ·rw[gn0 (Ne.symm hj)] at e2
    obtain⟨u',r',q⟩:=hl j y v' e1 e2 e3
    refine⟨u',r',?_⟩
    rcases q with q|⟨k,c',e,z'⟩
    ·exact .inl q
    ·refine .inr ⟨k,c',e,z'.sameBut hs ?_⟩
     rintro rfl
     exact hj (nodup_ix hN e1 (I.ok.inj _ _ _ e hc▸hi))
  ·by_cases hcc:c'=c
   ·subst hcc;exact⟨_,hc'⟩
   ·obtain⟨w2,z2⟩:=I.cell y c' e
    exact⟨w2,z2.sameBut hs hcc⟩
  ·obtain⟨e,n,ne,nf,d⟩:=I.pin p hp
   refine⟨(hs.2 p.1 ?_).trans e,n,ne,nf,d⟩
   intro q
   rw[q,hoc] at e
   have q':oc=p.2:=Option.some.inj e
   exact d w' (by rw[←q'];exact hocd)
theorem store_ok {M:Model}{A:Around}{E:Value→Shared→Prop}{i:Nat}{x:Str}{v:V}{u:Value}{Q:Unit→Shared→Prop}(I:Inv X pins σ H s)(hN:X.N.Nodup)(hi:X.N[i]?=some x)(hx:Loc X.env.scope x)(r:RelV v u)
  (h:∀s',Inv X pins (σ.set i (some v)) H s'→Q () s') (hf:X.fn x=true∨X.env.scope.names.lookup x=some .local:=by first|exact .inl rfl|exact .inr rfl|assumption):wpAny M A (storeName X.env x u) Q E s:=
 store_ok2 I hN hi hx r (fun s' I' _=>h s' I') hf
theorem Inv.call' {s':Shared}{ch:List Addr}(I:Inv X pins σ H s)(ho:s'.os=s.os)(u:Un (frs X.stack) ch H H' s.heap s'.heap)(hok:HOk X.prog X.w H' s'.heap)(hg:AllBare s'.gens)
  (hch:∀b∈ch,(b∈X.ex∨X.s₀.heap.objs.size≤b)∧b≠X.env.locals∧(∀x c,X.env.cells.lookup x=some c→c≠b)∧∀p∈X.pn++pins,p.1≠b):Inv X pins σ H' s':=by
 obtain⟨h',g',d',t',o'⟩:=s'
 have e:o'=s.os:=ho
 subst e
 exact I.call (g':=g') (t':=t') (d':=d') u hok hg hch
end
noncomputable abbrev XK:=Value→Option Addr→Hp→Prop
noncomputable abbrev St:=List (Option V)
noncomputable abbrev VK:=V→Hp→Prop
noncomputable abbrev TE:=St→Hp→VK→Prop
noncomputable abbrev TT:=St→Hp→(Bool→Hp→Prop)→Prop
noncomputable abbrev TA:=St→Hp→(List V→Hp→Prop)→Prop
structure Ends where
 nx:St→Hp→Prop
 rt:VK
 bk:St→Hp→Prop:=fun _ _=>False
 ct:St→Hp→Prop:=fun _ _=>False
noncomputable abbrev TS:=Ends→St→Hp→Prop
noncomputable def EP (X:Cx)(pins:List (Addr×Obj))(σ:St)(Q:VK)(u:Value)(s':Shared):Prop:=∃v H',Inv X pins σ H' s'∧RelV v u∧Q v H'
noncomputable def TP (X:Cx)(pins:List (Addr×Obj))(σ:St)(Q:Bool→Hp→Prop)(b:Bool)(s':Shared):Prop:=∃H',Inv X pins σ H' s'∧Q b H'
noncomputable def AP (X:Cx)(pins:List (Addr×Obj))(σ:St)(Q:List V→Hp→Prop)(us:List Value)(s':Shared):Prop:=∃vs H',Inv X pins σ H' s'∧Vals vs us∧Q vs H'
noncomputable def SP (X:Cx)(pins:List (Addr×Obj))(D:Ends)(f:Flow)(s':Shared):Prop:=
 match f with
 |.next=>∃σ' H',Inv X pins σ' H' s'∧D.nx σ' H'
 |.brk=>∃σ' H',Inv X pins σ' H' s'∧D.bk σ' H'
 |.cont=>∃σ' H',Inv X pins σ' H' s'∧D.ct σ' H'
 |.ret u=>∃v σ' H',Inv X pins σ' H' s'∧RelV v u∧D.rt v H'
noncomputable def PE (X:Cx)(e:Expr)(t:TE):Prop:=
 ∀(pins:List (Addr×Obj)) (s:Shared) (σ:St) (H:Hp) (Q:VK),Inv X pins σ H s→t σ H Q→wpAny (model X.prog X.w) X.A (eval e X.env) (EP X pins σ Q) X.xe s
noncomputable def PT (X:Cx)(e:Expr)(t:TT):Prop:=
 ∀(pins:List (Addr×Obj)) (s:Shared) (σ:St) (H:Hp) (Q:Bool→Hp→Prop),Inv X pins σ H s→t σ H Q→wpAny (model X.prog X.w) X.A (isTrue e X.env (eval e X.env)) (TP X pins σ Q) X.xe s
noncomputable def PW (X:Cx)(e:Expr)(t:TT):Prop:=
 ∀(whole:Sem Value) (pins:List (Addr×Obj)) (s:Shared) (σ:St) (H:Hp) (Q:Bool→Hp→Prop),Inv X pins σ H s→t σ H Q→wpAny (model X.prog X.w) X.A (isTrue e X.env whole) (TP X pins σ Q) X.xe s
theorem PW.pt {X:Cx}{e:Expr}{t:TT}(h:PW X e t):PT X e t:=h _
noncomputable def PA (X:Cx)(es:List Expr)(t:TA):Prop:=
 ∀(pos:Pos) (pins:List (Addr×Obj)) (s:Shared) (σ:St) (H:Hp) (Q:List V→Hp→Prop),Inv X pins σ H s→t σ H Q→wpAny (model X.prog X.w) X.A (spliced (backTo pos (starEach es X.env))) (AP X pins σ Q) X.xe s
noncomputable def PS (X:Cx)(st:Stmt)(t:TS):Prop:=
 ∀(pins:List (Addr×Obj)) (s:Shared) (σ:St) (H:Hp) (D:Ends),Inv X pins σ H s→t D σ H→wpAny (model X.prog X.w) X.A (exec st X.env) (SP X pins D) X.xe s
noncomputable def PSs (X:Cx)(st:List Stmt)(t:TS):Prop:=
 ∀(pins:List (Addr×Obj)) (s:Shared) (σ:St) (H:Hp) (D:Ends),Inv X pins σ H s→t D σ H→wpAny (model X.prog X.w) X.A (execs st X.env) (SP X pins D) X.xe s
theorem thn {α:Type}{t:Sem α}{Q Q':α→Shared→Prop}{M:Model}{A:Around}{E:Value→Shared→Prop}{s:Shared}(h:wpAny M A t Q E s)(hQ:∀a s,Q a s→Q' a s):wpAny M A t Q' E s:=wpAny_mono h hQ fun _ _ x=>x
section
variable {X:Cx}
theorem bin {a b:Expr}{ta tb:TE}(ha:PE X a ta)(hb:PE X b tb){pins:List (Addr×Obj)}{s:Shared}{σ:St}{H:Hp}{R:V→V→Hp→Prop}(I:Inv X pins σ H s)(h:ta σ H fun x H1=>tb σ H1 fun y H2=>R x y H2)
  {α:Type} {Q:α→Shared→Prop} {f:Value→Value→Sem α}
  (hf:∀v u s2 x y H2,Inv X pins σ H2 s2→RelV x v→RelV y u→R x y H2→wpAny (model X.prog X.w) X.A (f v u) Q X.xe s2):
  wpAny (model X.prog X.w) X.A (eval a X.env) (fun v s₁=>wpAny (model X.prog X.w) X.A (eval b X.env) (fun u s₂=>wpAny (model X.prog X.w) X.A (f v u) Q X.xe s₂) X.xe s₁) X.xe s:=by
 refine thn (ha pins s σ H _ I h) fun v s1 ⟨x,H1,I1,r1,q1⟩=>?_
 refine thn (hb pins s1 σ H1 _ I1 q1) fun u s2 ⟨y,H2,I2,r2,q2⟩=>?_
 exact hf v u s2 x y H2 I2 r1 r2 q2
noncomputable def tVar (i:Nat):TE:=fun σ H Q=>∃v,σ[i]?=some (some v)∧Q v H
noncomputable def tC (v:V):TE:=fun _ H Q=>Q v H
theorem pe_var {i:Nat}{x:Str}{pos:Pos}(hN:X.N[i]?=some x)(hv:Vis X.env.scope x)(hd:(x==("__debug__":Str))=false:=by decide)(hcd:(x==("__classdict__":Str))=false:=by decide):PE X (.Name x pos) (tVar i):=by
 intro pins s σ H Q I h
 obtain⟨v,e,h⟩:=h
 obtain⟨m,hn,hl⟩:=I.loc
 obtain⟨u,r,l⟩:=hl i x v hN e hv
 have fin:EP X pins σ Q u s:=⟨v,H,I,r,h⟩
 rcases l with⟨hk,hm⟩|⟨hk,c,hc,hcell⟩
 ·exact wpAny_Name (wpAny_loadName_local I.ok.kind hk hn hm fin) hd
 ·rcases hk with hk|hk
  ·exact wpAny_Name (wpAny_loadName_cell I.ok.kind hk hc hcell fin) hd
  ·exact wpAny_Name (wpAny_loadName_free I.ok.kind hk hc hcell fin hcd) hd
theorem pe_int {i j pos}:PE X (.Constant (.int i) j pos) (tC (.int i)):=fun _ _ _ H _ I h=>wpAny_Constant_int ⟨.int i,H,I.tok _,⟨_,rfl⟩,h⟩
theorem pe_bl {b j pos}:PE X (.Constant (.bool b) j pos) (tC (.bl b)):=fun _ _ _ H _ I h=>Constant_bool ⟨.bl b,H,I,rfl,h⟩
theorem pe_non {j pos}:PE X (.Constant .none j pos) (tC .non):=fun _ _ _ H _ I h=>Constant_none ⟨.non,H,I,rfl,h⟩
theorem pe_str {x j pos}:PE X (.Constant (.str x) j pos) (tC (.str x)):=fun _ _ _ H _ I h=>Calls.Constant_str ⟨.str x,H,I.tok _,⟨_,rfl⟩,h⟩
noncomputable def Gl (X:Cx)(x:Str):Prop:=X.env.kindOf x=some .globalImplicit
theorem ld_glob {E:Value→Shared→Prop}{pins:List (Addr×Obj)}{s:Shared}{σ:St}{H:Hp}{x:Str}{u:Value}{pos:Pos}{Q:Value→Shared→Prop}(I:Inv X pins σ H s)(hg:Gl X x)(hm:X.mg x=some u)(h:Q u s)
  (hd:(x==("__debug__":Str))=false:=by decide):wpAny (model X.prog X.w) X.A (eval (.Name x pos) X.env) Q E s:=
 Calls.Name_function_global I.ok.kind hg (Calls.loadGlobal_global (by rw[I.ok.glob];exact I.mod.glob.keeps I.bk) hm h) hd
theorem ld_blt {E:Value→Shared→Prop}{pins:List (Addr×Obj)}{s:Shared}{σ:St}{H:Hp}{x:Str}{u:Value}{pos:Pos}{Q:Value→Shared→Prop}(I:Inv X pins σ H s)(hg:Gl X x)(hm:X.mg x=none)(hv:bootBuiltins x=some u)(h:Q u s)
  (hn:x≠"__name__":=by decide) (hd:(x==("__debug__":Str))=false:=by decide):wpAny (model X.prog X.w) X.A (eval (.Name x pos) X.env) Q E s:=by
 obtain⟨mb,h1,h2⟩:=I.mod.blt
 exact Calls.Name_function_global I.ok.kind hg (Calls.loadGlobal_builtin (by rw[I.ok.glob];exact I.mod.glob.keeps I.bk) hm (by rw[I.ok.blt];exact h1.keeps I.bk) ((h2 x hn).trans hv) h) hd
theorem pe_glob {x:Str}{v:V}{u:Value}{pos:Pos}(hg:Gl X x)(hm:X.mg x=some u)(r:RelV v u)(hd:(x==("__debug__":Str))=false:=by decide):PE X (.Name x pos) (tC v):=
 fun _ _ _ H _ I h=>ld_glob I hg hm ⟨v,H,I,r,h⟩ hd
theorem pe_bltn {x:Str}{v:V}{u:Value}{pos:Pos}(hg:Gl X x)(hm:X.mg x=none)(hv:bootBuiltins x=some u)(r:RelV v u)(hn:x≠"__name__":=by decide)(hd:(x==("__debug__":Str))=false:=by decide):PE X (.Name x pos) (tC v):=
 fun _ _ _ H _ I h=>ld_blt I hg hm hv ⟨v,H,I,r,h⟩ hn hd
variable {a b:Expr}{ta tb:TE}{pos:Pos}
variable {tA tB':TT}{rest:List Expr}
noncomputable def tAnd (t u:TT):TT:=fun σ H Q=>t σ H fun c H1=>if c=true then u σ H1 Q else Q false H1
noncomputable def tOr (t u:TT):TT:=fun σ H Q=>t σ H fun c H1=>if c=true then Q true H1 else u σ H1 Q
noncomputable def tNot (t:TT):TT:=fun σ H Q=>t σ H fun c H1=>Q (!c) H1
theorem pw_and1 (ha:PT X a tA):PW X (.BoolOp .And [a] pos) tA:=by
 intro wh pins s σ H Q I h
 refine isTrue_and (thn (ha pins s σ H Q I h) fun c s1 e=>?_)
 cases c with
 |true=>exact isTrue_and_nil e
 |false=>exact e
theorem pw_or1 (ha:PT X a tA):PW X (.BoolOp .Or [a] pos) tA:=by
 intro wh pins s σ H Q I h
 refine isTrue_or (thn (ha pins s σ H Q I h) fun c s1 e=>?_)
 cases c with
 |false=>exact isTrue_or_nil e
 |true=>exact e
theorem pw_and (ha:PT X a tA)(hb:PW X (.BoolOp .And (b::rest) pos) tB'):PW X (.BoolOp .And (a::b::rest) pos) (tAnd tA tB'):=by
 intro wh pins s σ H Q I h
 refine isTrue_and (thn (ha pins s σ H _ I h) fun c s1 ⟨H1,I1,q1⟩=>?_)
 cases c with
 |true=>exact hb wh pins s1 σ H1 Q I1 q1
 |false=>exact⟨H1,I1,q1⟩
theorem pw_or (ha:PT X a tA)(hb:PW X (.BoolOp .Or (b::rest) pos) tB'):PW X (.BoolOp .Or (a::b::rest) pos) (tOr tA tB'):=by
 intro wh pins s σ H Q I h
 refine isTrue_or (thn (ha pins s σ H _ I h) fun c s1 ⟨H1,I1,q1⟩=>?_)
 cases c with
 |true=>exact⟨H1,I1,q1⟩
 |false=>exact hb wh pins s1 σ H1 Q I1 q1
theorem pt_not (ha:PT X a tA):PT X (.UnaryOp .Not a pos) (tNot tA):=by
 intro pins s σ H Q I h
 exact isTrue_not (ha pins s σ H (fun c H1=>Q (!c) H1) I h)
noncomputable def tAndV (ta tb:TE):TE:=fun σ H Q=>ta σ H fun x H1=>∃c,x=.bl c∧if c=true then tb σ H1 Q else Q (.bl false) H1
noncomputable def tOrV (ta tb:TE):TE:=fun σ H Q=>ta σ H fun x H1=>∃c,x=.bl c∧if c=true then Q (.bl true) H1 else tb σ H1 Q
noncomputable def tNotV (ta:TE):TE:=fun σ H Q=>ta σ H fun x H1=>∃c,x=.bl c∧Q (.bl (!c)) H1
theorem pe_one {op}{t:TE}(h:PE X a t):PE X (.BoolOp op [a] pos) t:=fun pins s σ H Q I hw=>BoolOp_one (h pins s σ H Q I hw)
theorem pe_and (ha:PE X a ta)(hb:PE X (.BoolOp .And (b::rest) pos) tb):PE X (.BoolOp .And (a::b::rest) pos) (tAndV ta tb):=by
 intro pins s σ H Q I h
 refine BoolOp_and (thn (ha pins s σ H _ I h) fun v s1 ⟨x,H1,I1,r1,q1⟩=>?_)
 obtain⟨c,rfl,q1⟩:=q1
 cases r1
 refine wpAny_truthy_bool ?_
 cases c with
 |true=>exact hb pins s1 σ H1 Q I1 q1
 |false=>exact⟨.bl false,H1,I1,rfl,q1⟩
theorem pe_or (ha:PE X a ta)(hb:PE X (.BoolOp .Or (b::rest) pos) tb):PE X (.BoolOp .Or (a::b::rest) pos) (tOrV ta tb):=by
 intro pins s σ H Q I h
 refine BoolOp_or (thn (ha pins s σ H _ I h) fun v s1 ⟨x,H1,I1,r1,q1⟩=>?_)
 obtain⟨c,rfl,q1⟩:=q1
 cases r1
 refine wpAny_truthy_bool ?_
 cases c with
 |false=>exact hb pins s1 σ H1 Q I1 q1
 |true=>exact⟨.bl true,H1,I1,rfl,q1⟩
theorem pe_not (ha:PE X a ta):PE X (.UnaryOp .Not a pos) (tNotV ta):=by
 intro pins s σ H Q I h
 refine UnaryOp_ (thn (ha pins s σ H _ I h) fun v s1 ⟨x,H1,I1,r1,q1⟩=>?_)
 obtain⟨c,rfl,q1⟩:=q1
 cases r1
 exact not_of (wpAny_truthy_bool ⟨.bl (!c),H1,I1,rfl,q1⟩)
noncomputable def tIf (t:TT)(ta tb:TE):TE:=fun σ H Q=>t σ H fun c H1=>if c=true then ta σ H1 Q else tb σ H1 Q
theorem pe_ifExp {c:Expr}(hc:PT X c tA)(ha:PE X a ta)(hb:PE X b tb):PE X (.IfExp c a b pos) (tIf tA ta tb):=by
 intro pins s σ H Q I h
 refine wpAny_IfExp (thn (hc pins s σ H _ I h) fun d s1 ⟨H1,I1,q1⟩=>?_)
 cases d with
 |true=>exact ha pins s1 σ H1 Q I1 q1
 |false=>exact hb pins s1 σ H1 Q I1 q1
end
noncomputable def SqL (K:PySem.W.Frag)(H:Hp)(a:Addr)(xs:List V):Prop:=
 Rd H a (.lst xs)∨
  ∃(o:Obj) (its:Array Value) (n:Nat),K.lookup a=some o∧o.cls=.type "list"∧o.dict=none∧o.data=.seq its n∧its.size≤sizeLine∧Vals xs its.toList
noncomputable def SqT (K:PySem.W.Frag)(H:Hp)(a:Addr)(xs:List V):Prop:=
 Rd H a (.tup xs)∨
  ∃(o:Obj) (its:Array Value) (n:Nat),K.lookup a=some o∧o.cls=.type "tuple"∧o.data=.seq its n∧its.size≤sizeLine∧Vals xs its.toList
noncomputable def absV:Value→Option V
 |.none=>some .non
 |.bool b=>some (.bl b)
 |.int i _=>some (.int i)
 |.str x _=>some (.str x)
 |.bytes b _=>some (.byt b)
 |.float b _=>some (.flt b)
 |.ref a=>some (.ref a)
 |.type n=>some (.ty n)
 |_=>none
theorem RelV.abs {x:V}{u:Value}(r:RelV x u):absV u=some x:=by
 cases x with
 |non=>cases r;rfl
 |bl _=>cases r;rfl
 |int _=>obtain⟨t,rfl⟩:=r;rfl
 |str _=>obtain⟨t,rfl⟩:=r;rfl
 |byt _=>obtain⟨t,rfl⟩:=r;rfl
 |flt _=>obtain⟨t,rfl⟩:=r;rfl
 |ref _=>cases r;rfl
 |ty _=>cases r;rfl
theorem RelV.inj {x y:V}{u:Value}(r:RelV x u)(q:RelV y u):x=y:=Option.some.inj (r.abs.symm.trans q.abs)
theorem Vals.inj:∀{xs ys:List V} {us:List Value},Vals xs us→Vals ys us→xs=ys
 |_,_,_,.nil,.nil=>rfl
 |_,_,_,.cons r t,.cons r' t'=>by rw[r.inj r',Vals.inj t t']
section
variable {X:Cx}{pins:List (Addr×Obj)}{σ:St}{H:Hp}{s:Shared}{a:Addr}{xs ys:List V}
theorem SqL.of {K:PySem.W.Frag}(h:H a=some (.lst xs)):SqL K H a xs:=.inl (.inl h)
theorem SqT.of {K:PySem.W.Frag}(h:H a=some (.tup xs)):SqT K H a xs:=.inl (.inl h)
theorem Inv.list (I:Inv X pins σ H s)(h:SqL X.K H a xs):∃its:List Value,Vals xs its∧PlainL s.heap a its.toArray∧xs.length≤sizeLine:=by
 rcases h with h|⟨o,its,n,hk,hc,hd,hs,hz,r⟩
 ·obtain⟨z,its,n,r,e⟩:=h.ok I.hok
  exact⟨its,r,⟨_,n,e,rfl,rfl,rfl⟩,z⟩
 ·refine⟨its.toList,r,⟨o,n,I.kIn a o hk,hc,hd,by simpa using hs⟩,?_⟩
  have e:=r.length
  simp only[Array.length_toList] at e
  omega
theorem Inv.tuple (I:Inv X pins σ H s)(h:SqT X.K H a xs):∃its:List Value,Vals xs its∧IsTup s.heap a its.toArray∧xs.length≤sizeLine:=by
 rcases h with h|⟨o,its,n,hk,hc,hs,hz,r⟩
 ·obtain⟨z,its,r,p⟩:=h.ok I.hok
  exact⟨its,r,p,z⟩
 ·refine⟨its.toList,r,⟨o,I.kIn a o hk,hc,n,by simpa using hs⟩,?_⟩
  have e:=r.length
  simp only[Array.length_toList] at e
  omega
theorem Inv.list_inj (I:Inv X pins σ H s)(h:SqL X.K H a xs)(h':SqL X.K H a ys):xs=ys:=by
 obtain⟨its,r,⟨o,n,e,_,_,d⟩,_⟩:=I.list h
 obtain⟨its',r',⟨o',n',e',_,_,d'⟩,_⟩:=I.list h'
 rw[e] at e';cases e'
 rw[d] at d'
 injection d' with d1 _
 have:its=its':=by simpa using congrArg Array.toList d1
 subst this
 exact r.inj r'
theorem Inv.tuple_inj (I:Inv X pins σ H s)(h:SqT X.K H a xs)(h':SqT X.K H a ys):xs=ys:=by
 obtain⟨its,r,⟨o,e,_,n,d⟩,_⟩:=I.tuple h
 obtain⟨its',r',⟨o',e',_,n',d'⟩,_⟩:=I.tuple h'
 rw[e] at e';cases e'
 rw[d] at d'
 injection d' with d1 _
 have:its=its':=by simpa using congrArg Array.toList d1
 subst this
 exact r.inj r'
end
noncomputable abbrev Cx.wish (X:Cx)(E:Value→Shared→Prop):Cx:={X with xe:=E}
noncomputable abbrev Cx.nox (X:Cx):Cx:=X.wish fun _ _=>False
theorem Cx.Ok.wish {X:Cx}(ok:X.Ok)(E:Value→Shared→Prop):(X.wish E).Ok:=
 ⟨ok.mod,ok.kind,ok.glob,ok.blt,ok.above,ok.inj,ok.has,ok.cab,ok.hd,ok.frames,ok.stk,ok.exf,ok.bs,ok.bsz,ok.noex,ok.exfs,ok.funs,ok.frf⟩
theorem Cx.Ok.unwish {X:Cx}{E:Value→Shared→Prop}(ok:(X.wish E).Ok):X.Ok:=
 ⟨ok.mod,ok.kind,ok.glob,ok.blt,ok.above,ok.inj,ok.has,ok.cab,ok.hd,ok.frames,ok.stk,ok.exf,ok.bs,ok.bsz,ok.noex,ok.exfs,ok.funs,ok.frf⟩
section
variable {X:Cx}{pins:List (Addr×Obj)}{σ:St}{H:Hp}{s:Shared}{E:Value→Shared→Prop}
theorem Inv.wish (I:Inv X pins σ H s)(E:Value→Shared→Prop):Inv (X.wish E) pins σ H s:=⟨I.ok.wish E,I.os,I.bare,I.base,I.loc,I.cell,I.free,I.freeC,I.pin,I.hok,I.len⟩
theorem Inv.unwish (I:Inv (X.wish E) pins σ H s):Inv X pins σ H s:=⟨I.ok.unwish,I.os,I.bare,I.base,I.loc,I.cell,I.free,I.freeC,I.pin,I.hok,I.len⟩
theorem SP.unwish {D:Ends}{f:Flow}{s':Shared}(h:SP (X.wish E) pins D f s'):SP X pins D f s':=by
 cases f with
 |next=>obtain⟨σ',H',I,q⟩:=h;exact⟨σ',H',I.unwish,q⟩
 |brk=>obtain⟨σ',H',I,q⟩:=h;exact⟨σ',H',I.unwish,q⟩
 |cont=>obtain⟨σ',H',I,q⟩:=h;exact⟨σ',H',I.unwish,q⟩
 |ret u=>obtain⟨v,σ',H',I,r,q⟩:=h;exact⟨v,σ',H',I.unwish,r,q⟩
theorem PSs.nox {st:List Stmt}{t:TS}(h:PSs X.nox st t):PSs X st t:=fun pins s σ H D I hw=>
 wpAny_mono (h pins s σ H D (I.wish _) hw) (fun _ _ q=>q.unwish) fun _ _ z=>False.elim z
end
section
variable {X:Cx}{st:Stmt}{rest:List Stmt}{t u:TS}{e:Expr}{te:TE}{pos:Pos}
noncomputable def tNext:TS:=fun D σ H=>D.nx σ H
noncomputable def tSeq (t u:TS):TS:=fun D σ H=>t {D with nx:=u D} σ H
theorem pss_nil:PSs X [] tNext:=fun _ _ σ H _ I h=>wpAny_execs_nil ⟨σ,H,I,h⟩
theorem pss_cons (h1:PS X st t)(h2:PSs X rest u):PSs X (st::rest) (tSeq t u):=by
 intro pins s σ H D I h
 refine wpAny_execs_cons (thn (h1 pins s σ H {D with nx:=u D} I h) fun f s1 q=>?_)
 cases f with
 |next=>
  obtain⟨σ',H',I',q⟩:=q
  exact h2 pins s1 σ' H' D I' q
 |ret v=>exact q
 |brk=>exact q
 |cont=>exact q
theorem ps_pass:PS X (.Pass pos) tNext:=fun _ _ σ H _ I h=>wpAny_Pass ⟨σ,H,I,h⟩
theorem Inv.quiet {pins:List (Addr×Obj)}{σ:St}{H:Hp}{s:Shared}(I:Inv X pins σ H s):interactive X.env=false:=by simp[interactive,I.ok.kind]
noncomputable def tDrop (te:TE):TS:=fun D σ H=>te σ H fun _ H1=>D.nx σ H1
theorem ps_expr (he:PE X e te)(hs:swapsWith e none pos.line X.env=pure false:=by rfl):PS X (.Expr e pos) (tDrop te):=by
 intro pins s σ H D I h
 exact wpAny_Expr_any (thn (he pins s σ H _ I h) fun v s1 ⟨x,H1,I1,r1,q1⟩=>⟨σ,H1,I1,q1⟩) I.quiet hs
noncomputable def tRet (te:TE):TS:=fun D σ H=>te σ H D.rt
theorem ps_ret (he:PE X e te):PS X (.Return (some e) pos) (tRet te):=by
 intro pins s σ H D I h
 exact wpAny_Return_some (thn (he pins s σ H _ I h) fun v s1 ⟨x,H1,I1,r1,q1⟩=>⟨x,σ,H1,I1,r1,q1⟩)
noncomputable def tIfS (c:TT)(t u:TS):TS:=fun D σ H=>c σ H fun b H1=>if b=true then t D σ H1 else u D σ H1
theorem ps_if {c:Expr}{a b:List Stmt}{tc:TT}(hc:PT X c tc)(ha:PSs X a t)(hb:PSs X b u):PS X (.If c a b pos) (tIfS tc t u):=by
 intro pins s σ H D I h
 refine wpAny_If (thn (hc pins s σ H _ I h) fun d s1 ⟨H1,I1,q1⟩=>?_)
 cases d with
 |true=>exact ha pins s1 σ H1 D I1 q1
 |false=>exact hb pins s1 σ H1 D I1 q1
end
noncomputable abbrev TG:=V→St→Hp→(St→Hp→Prop)→Prop
noncomputable abbrev TGs:=List V→St→Hp→(St→Hp→Prop)→Prop
noncomputable def PG (X:Cx)(target:Expr)(t:TG):Prop:=
 ∀(pins:List (Addr×Obj)) (s:Shared) (σ:St) (H:Hp) (v:V) (u:Value) (Q:St→Hp→Prop),Inv X pins σ H s→RelV v u→t v σ H Q→
  wpAny (model X.prog X.w) X.A (assign target X.env u) (fun _ s'=>∃σ' H',Inv X pins σ' H' s'∧Q σ' H') X.xe s
noncomputable def PGs (X:Cx)(ts:List Expr)(t:TGs):Prop:=
 ∀(pins:List (Addr×Obj)) (s:Shared) (σ:St) (H:Hp) (vs:List V) (us:List Value) (Q:St→Hp→Prop),Inv X pins σ H s→Vals vs us→t vs σ H Q→
  wpAny (model X.prog X.w) X.A (assignInOrder ((assignEach ts X.env).map (·.2)) us) (fun _ s'=>∃σ' H',Inv X pins σ' H' s'∧Q σ' H') X.xe s
noncomputable abbrev TSet:=V→V→V→Hp→(Hp→Prop)→Prop
noncomputable def PSet (X:Cx)(t:TSet):Prop:=
 ∀(pins:List (Addr×Obj)) (s:Shared) (σ:St) (H:Hp) (o i v:V) (ov iv u:Value) (Q:Hp→Prop),Inv X pins σ H s→RelV o ov→RelV i iv→RelV v u→t o i v H Q→
  wpAny (model X.prog X.w) X.A (setItem ov iv u) (fun _ s'=>∃H',Inv X pins σ H' s'∧Q H') X.xe s
section
variable {X:Cx}{pos:Pos}
noncomputable def gName (i:Nat):TG:=fun v σ H Q=>Q (σ.set i (some v)) H
theorem pg_name {i:Nat}{x:Str}(hN:X.N.Nodup)(hi:X.N[i]?=some x)(hx:Loc X.env.scope x)(hf:X.fn x=true∨X.env.scope.names.lookup x=some .local:=by first|exact .inl rfl|exact .inr rfl|assumption):PG X (.Name x pos) (gName i):=by
 intro pins s σ H v u Q I r h
 exact wpAny_assign_Name (store_ok I hN hi hx r (fun s' I'=>⟨_,H,I',h⟩) hf)
noncomputable def gNil:TGs:=fun vs σ H Q=>vs=[]∧Q σ H
noncomputable def gCons (t:TG)(u:TGs):TGs:=fun vs σ H Q=>∃v r,vs=v::r∧t v σ H fun σ' H'=>u r σ' H' Q
theorem pgs_nil:PGs X [] gNil:=by
 intro pins s σ H vs us Q I r h
 obtain⟨e,h⟩:=h
 subst e
 cases r
 exact assignInOrder_nil ⟨σ,H,I,h⟩
theorem pgs_cons {e:Expr}{es:List Expr}{t:TG}{u:TGs}(h1:PG X e t)(h2:PGs X es u)
  (hs:(assignEach (e::es) X.env).map (·.2)=assign e X.env::(assignEach es X.env).map (·.2):=by rfl):PGs X (e::es) (gCons t u):=by
 intro pins s σ H vs us Q I r h
 obtain⟨v,vr,e1,h⟩:=h
 subst e1
 cases r with
 |cons r rr=>
  rw[hs]
  refine assignInOrder_cons (thn (h1 pins s σ H _ _ _ I r h) fun _ s1 ⟨σ1,H1,I1,q1⟩=>?_)
  exact h2 pins s1 σ1 H1 _ _ Q I1 rr q1
noncomputable def gTup (K:PySem.W.Frag)(n:Nat)(t:TGs):TG:=fun v σ H Q=>∃a xs,v=.ref a∧SqT K H a xs∧xs.length=n∧t xs σ H Q
theorem pg_tup {es:List Expr}{k:Nat}{t:TGs}{n:Nat}(hc:X.calm=true)(h:PGs X es t)
  (hn:(assignEach es X.env).length=n:=by rfl) (hst:(assignEach es X.env).findIdx? (·.1)=none:=by rfl):PG X (.Tuple es k pos) (gTup X.K n t):=by
 intro pins s σ H v u Q I r hw
 obtain⟨a,xs,e1,hq,hl,hw⟩:=hw
 subst e1
 cases r
 obtain⟨its,rv,ht,hz⟩:=I.tuple hq
 refine assign_Tuple_tuple (I.ok.hd hc) ht (by simp[hn,←hl,rv.length]) hst fun h' hx=>?_
 have I1:Inv X pins σ H {s with heap:=h'}:=I.kept (t':=s.toks) fun b o e=>hx b o (nn0 (hs0 e)) e
 exact h pins _ σ H xs _ Q I1 (by simpa using rv) hw
noncomputable def gSub (to ti:TE)(t:TSet):TG:=fun v σ H Q=>to σ H fun o H1=>ti σ H1 fun i H2=>t o i v H2 fun H3=>Q σ H3
theorem pg_sub {o i:Expr}{to ti:TE}{t:TSet}(ho:PE X o to)(hi:PE X i ti)(hs:PSet X t)
  (ha:∀v,assign (.Subscript o i pos) X.env v=(do
   let ov ←holding [v] (eval o X.env)
   let iv ←holding [v,ov] (eval i X.env)
   standAt pos
   holding [v,ov,iv] (setItem ov iv v)
   release [v,ov,iv] []):=by intro _;rfl):PG X (.Subscript o i pos) (gSub to ti t):=by
 intro pins s σ H v u Q I r h
 rw[ha]
 refine wpAny_bind (wpAny_holding (thn (ho pins s σ H _ I h) fun ov s1 ⟨x,H1,I1,r1,q1⟩=>?_))
 refine wpAny_bind (wpAny_holding (thn (hi pins s1 σ H1 _ I1 q1) fun iv s2 ⟨y,H2,I2,r2,q2⟩=>?_))
 refine wpAny_bind (wpAny_standAt (wpAny_bind (wpAny_holding (thn (hs pins s2 σ H2 x y v ov iv u _ I2 r1 r2 r q2) fun _ s3 ⟨H3,I3,q3⟩=>?_))))
 exact wpAny_release ⟨σ,H3,I3,q3⟩
noncomputable def tAsg (te:TE)(g:TG):TS:=fun D σ H=>te σ H fun x H1=>g x σ H1 D.nx
theorem ps_asg {tg e:Expr}{te:TE}{g:TG}(he:PE X e te)(hg:PG X tg g)(hs:swapsWithSole [tg] e pos.line X.env=pure false:=by rfl)(hw:swappedStores [tg] e X.env=pure none:=by rfl)
  (h1:(assignEach [tg] X.env).map (·.2)=[assign tg X.env]:=by rfl):PS X (.Assign [tg] e pos) (tAsg te g):=by
 intro pins s σ H D I h
 refine wpAny_Assign_stores (thn (he pins s σ H _ I h) fun v s1 ⟨x,H1,I1,r1,q1⟩=>?_) hs hw
 rw[h1]
 exact thn (hg pins s1 σ H1 x v _ I1 r1 q1) fun _ s2 q=>q
theorem ps_set {i:Nat}{x:Str}{e:Expr}{te:TE}{pos':Pos}(hN:X.N.Nodup)(hi:X.N[i]?=some x)(hx:Loc X.env.scope x)(he:PE X e te)(hs:swapsWith e (some (.Name x pos')) pos.line X.env=pure false:=by rfl)(hf:X.fn x=true∨X.env.scope.names.lookup x=some .local:=by first|exact .inl rfl|exact .inr rfl|assumption):
  PS X (.Assign [.Name x pos'] e pos) (tAsg te (gName i)):=by
 intro pins s σ H D I h
 refine wpAny_Assign_Name (thn (he pins s σ H _ I h) fun v s1 ⟨y,H1,I1,r1,q1⟩=>?_) hs
 exact store_ok I1 hN hi hx r1 (fun s2 I2=>⟨_,H1,I2,q1⟩) hf
end
section
variable {X:Cx}{pos:Pos}
end
structure It where
 go:Nat→Hp→Prop
 yld:Nat→Hp→V→Hp→Prop
 stop:Nat→Hp→Prop
noncomputable def FpOk (X:Cx)(pins:List (Addr×Obj))(H:Hp)(b:Addr):Prop:=
 H b=none∧b≠X.env.locals∧b∉X.fs∧(b∈X.ex∨X.s₀.heap.objs.size≤b)∧(∀x c,X.env.cells.lookup x=some c→c≠b)∧∀p∈X.pn++pins,p.1≠b
theorem Inv.fpOk {X:Cx}{pins:List (Addr×Obj)}{σ:St}{H H':Hp}{s:Shared}{b:Addr}(I:Inv X pins σ H s)(hb:s.heap.objs.size≤b)(hn:H' b=none):FpOk X pins H' b:=by
 refine⟨hn,Nat.ne_of_gt (nl0 I.lt hb),I.nofs hb,.inr (nt0 I.sz hb),fun x c e z=>?_,fun p hp z=>?_⟩
 ·obtain⟨v,q⟩:=I.cell x c e
  exact absurd (nl0 q.lt (by rw[z];exact hb)) (Nat.lt_irrefl _)
 ·exact absurd (nl0 (hs0 (I.pin p hp).1) (by rw[z];exact hb)) (Nat.lt_irrefl _)
structure Turn (P:Program)(w:World)(K:PySem.W.Frag)(tg:Expr)(J:It)(fp:List Addr)(it:Addr)(tn:Nat→Heap→Prop):Prop where
 mem:it∈fp
 obj:∀i h,tn i h→∀b∈fp,∃o,h.get? b=some o∧∀v,o.data≠.cell v
 keep:∀i h h',tn i h→(∀b∈fp,∀o,h.get? b=some o→h'.get? b=some o)→tn i h'
 item:∀(X:Cx),X.prog=P→X.w=w→X.K=K→X.calm=true→∀(i:Nat) (pins:List (Addr×Obj)) (s:Shared) (σ:St) (H:Hp) (E:Value→Shared→Prop),Inv X pins σ H s→(∀b∈fp,FpOk X pins H b)→tn i s.heap→J.go i H→
  wpAny (model P w) X.A (pyNext (.ref it)) (fun r s1=>∃u,r=some u∧
   wpAny (model P w) X.A (letOwnedTupleGo tg (.ref it) u) (fun _ s2=>∃x H',Inv X pins σ H' s2∧RelV x u∧J.yld i H x H'∧tn (i+1) s2.heap∧∀b∈fp,H' b=none) E s1) E s
 done:∀(X:Cx),X.prog=P→X.w=w→X.K=K→X.calm=true→∀(i:Nat) (pins:List (Addr×Obj)) (s:Shared) (σ:St) (H:Hp) (E:Value→Shared→Prop),Inv X pins σ H s→(∀b∈fp,FpOk X pins H b)→tn i s.heap→J.stop i H→
  wpAny (model P w) X.A (pyNext (.ref it)) (fun r s1=>r=none∧Inv X pins σ H s1) E s
 self:∀(A:Around) (i:Nat) (s:Shared) (Q:Value→Shared→Prop) (E:Value→Shared→Prop),tn i s.heap→Q (.ref it) s→wpAny (model P w) A (pyIter (.ref it)) Q E s
noncomputable abbrev TI:=St→Hp→(It→Hp→Prop)→Prop
noncomputable def PIE (X:Cx)(pins:List (Addr×Obj))(σ:St)(tg:Expr)(R:It→Hp→Prop)(itv:Value)(s2:Shared):Prop:=
 ∃(it:Addr) (fp:List Addr) (tn:Nat→Heap→Prop) (J:It) (H':Hp),itv=.ref it∧Inv X pins σ H' s2∧Turn X.prog X.w X.K tg J fp it tn∧tn 0 s2.heap∧(∀b∈fp,FpOk X pins H' b)∧R J H'
noncomputable def PI (X:Cx)(tg iter:Expr)(wi:TI):Prop:=
 ∀(pins:List (Addr×Obj)) (s:Shared) (σ:St) (H:Hp) (R:It→Hp→Prop),Inv X pins σ H s→wi σ H R→
  wpAny (model X.prog X.w) X.A (eval iter X.env) (fun v s1=>wpAny (model X.prog X.w) X.A (pyIter v) (PIE X pins σ tg R) X.xe s1) X.xe s
theorem go_of {M:Model}{A:Around}{E:Value→Shared→Prop}{s:Shared}{tg:Expr}{it:Addr}{u:Value}{o:Obj}{n:String}{vs:Array Value}{Q:Unit→Shared→Prop}(ho:s.heap.get? it=some o)(hc:o.cls=.type n)(hd:o.data=.fields vs)
  (hn:["enumerate","zip","dict_itemiterator","dict_reverseitemiterator","odict_iterator","itertools.zip_longest","itertools.pairwise"].contains n=false) (hQ:Q () s):wpAny M A (letOwnedTupleGo tg (.ref it) u) Q E s:=by
 unfold letOwnedTupleGo
 cases tg<;>first
  |exact wpAny_pure hQ
  |(cases u<;>first
    |exact wpAny_pure hQ
    |(refine wpAny_bind (wpAny_load ho ?_)
      rw[hc,hd]
      show wpAny M A (if (["enumerate","zip","dict_itemiterator","dict_reverseitemiterator","odict_iterator","itertools.zip_longest","itertools.pairwise"].contains n&&vs[0]?==some (rawInt _))=true then _ else _) Q E s
      rw[if_neg (by intro h;rw[hn,Bool.false_and] at h;cases h)]
      exact wpAny_pure hQ))
noncomputable def Itl (K:PySem.W.Frag)(a:Addr):It:=
 ⟨fun i H=>∃xs x,SqL K H a xs∧xs[i]?=some x,fun i H x H'=>H'=H∧∀xs,SqL K H a xs→xs[i]?=some x,fun i H=>∃xs,SqL K H a xs∧xs.length≤i⟩
noncomputable def Itt (K:PySem.W.Frag)(a:Addr):It:=
 ⟨fun i H=>∃xs x,SqT K H a xs∧xs[i]?=some x,fun i H x H'=>H'=H∧∀xs,SqT K H a xs→xs[i]?=some x,fun i H=>∃xs,SqT K H a xs∧xs.length≤i⟩
noncomputable def Itr (lo:Int)(n:Nat):It:=⟨fun i _=>i<n,fun i H x H'=>H'=H∧x=.int (lo+i),fun i _=>n≤i⟩
theorem turn_list {P:Program}{w:World}{K:PySem.W.Frag}{tg:Expr}(a it:Addr):Turn P w K tg (Itl K a) [it] it (fun i h=>h.IsListIter it a i) where
 mem:=by simp
 obj:=fun i h st b hb=>by
  have e:b=it:=by simpa using hb
  subst e
  obtain⟨o,e,c,d⟩:=st
  exact⟨o,e,fun v z=>by rw[d] at z;cases z⟩
 keep:=fun i h h' st k=>st.at fun o e=>k it (by simp) o e
 item:=by
  intro X hP hw hK hc i pins s σ H E I hf st hg
  subst hP hw hK
  obtain⟨xs,x,hq,hx⟩:=hg
  obtain⟨its,rv,p,hz⟩:=I.list hq
  obtain⟨u,hu,ru⟩:=rv.get hx
  obtain⟨f0,f1,f2,f3,f4,f5⟩:=hf it (by simp)
  refine wpAny_pyNext_list_item st p.isList (x:=u) (by simpa using hu) fun h' st' sb=>?_
  have I1:Inv X pins σ H {s with heap:=h'}:=I.turned (t':=s.toks) (fun b o hb e=>(sb.2 b hb).trans e) f0 f1 f3 f4 f5
  obtain⟨o,e,c,d⟩:=id st'
  exact⟨u,rfl,go_of (s:={s with heap:=h'}) e c d (by decide) ⟨x,H,I1,ru,⟨rfl,fun ys hy=>by rw[I.list_inj hy hq];exact hx⟩,st',fun b hb=>(hf b hb).1⟩⟩
 done:=by
  intro X hP hw hK hc i pins s σ H E I hf st hg
  subst hP hw hK
  obtain⟨xs,hq,hx⟩:=hg
  obtain⟨its,rv,p,hz⟩:=I.list hq
  obtain⟨f0,f1,f2,f3,f4,f5⟩:=hf it (by simp)
  have hl:=rv.length
  exact wpAny_pyNext_list_end (I.ok.hd hc) st p.isList (by simp;omega) fun h' eb=>⟨rfl,I.turned (t':=s.toks) (fun b o hb e=>eb b o hb e) f0 f1 f3 f4 f5⟩
 self:=fun _ _ _ _ _ st h=>wpAny_pyIter_listiter st h
theorem turn_tuple {P:Program}{w:World}{K:PySem.W.Frag}{tg:Expr}(a it:Addr):Turn P w K tg (Itt K a) [it] it (fun i h=>h.IsTupleIter it a i) where
 mem:=by simp
 obj:=fun i h st b hb=>by
  have e:b=it:=by simpa using hb
  subst e
  obtain⟨o,e,c,d⟩:=st
  exact⟨o,e,fun v z=>by rw[d] at z;cases z⟩
 keep:=fun i h h' st k=>st.at fun o e=>k it (by simp) o e
 item:=by
  intro X hP hw hK hc i pins s σ H E I hf st hg
  subst hP hw hK
  obtain⟨xs,x,hq,hx⟩:=hg
  obtain⟨its,rv,p,hz⟩:=I.tuple hq
  obtain⟨u,hu,ru⟩:=rv.get hx
  obtain⟨f0,f1,f2,f3,f4,f5⟩:=hf it (by simp)
  refine wpAny_pyNext_tuple_item st (show s.heap.IsTuple a its.toArray from p) (x:=u) (by simpa using hu) fun h' st' sb=>?_
  have I1:Inv X pins σ H {s with heap:=h'}:=I.turned (t':=s.toks) (fun b o hb e=>(sb.2 b hb).trans e) f0 f1 f3 f4 f5
  obtain⟨o,e,c,d⟩:=id st'
  exact⟨u,rfl,go_of (s:={s with heap:=h'}) e c d (by decide) ⟨x,H,I1,ru,⟨rfl,fun ys hy=>by rw[I.tuple_inj hy hq];exact hx⟩,st',fun b hb=>(hf b hb).1⟩⟩
 done:=by
  intro X hP hw hK hc i pins s σ H E I hf st hg
  subst hP hw hK
  obtain⟨xs,hq,hx⟩:=hg
  obtain⟨its,rv,p,hz⟩:=I.tuple hq
  obtain⟨f0,f1,f2,f3,f4,f5⟩:=hf it (by simp)
  have hl:=rv.length
  exact wpAny_pyNext_tuple_end (I.ok.hd hc) st (show s.heap.IsTuple a its.toArray from p) (by simp;omega) fun h' eb=>⟨rfl,I.turned (t':=s.toks) (fun b o hb e=>eb b o hb e) f0 f1 f3 f4 f5⟩
 self:=fun _ _ _ _ _ st h=>wpAny_pyIter_tupleiter st h
theorem turn_range {P:Program}{w:World}{K:PySem.W.Frag}{tg:Expr}(it:Addr)(lo:Int)(n:Nat):Turn P w K tg (Itr lo n) [it] it (fun i h=>IsRangeIter h it (lo+(i:Nat)*1) ((n:Int)-(i:Nat)) 1) where
 mem:=by simp
 obj:=fun i h st b hb=>by
  have e:b=it:=by simpa using hb
  subst e
  exact⟨_,st,fun v z=>by
   have z':Data.fields _=Data.cell v:=z
   cases z'⟩
 keep:=fun i h h' st k=>k it (by simp) _ st
 item:=by
  intro X hP hw hK hc i pins s σ H E I hf st hg
  subst hP hw hK
  obtain⟨f0,f1,f2,f3,f4,f5⟩:=hf it (by simp)
  have W:=Walks.range (prog:=X.prog) (w:=X.w) (I.ok.hd hc) it lo 1 n
  refine W.item i s _ _ hg st fun v h' tk hv st' kk=>?_
  obtain⟨t,rfl⟩:=hv
  have I1:Inv X pins σ H {s with heap:=h',toks:=tk}:=I.turned (fun b o hb e=>kk b o (by simpa using hb) e) f0 f1 f3 f4 f5
  refine⟨_,rfl,go_of (s:={s with heap:=h',toks:=tk}) (n:="range_iterator") st' rfl rfl (by decide) ⟨.int (lo+i),H,I1,⟨t,?_⟩,⟨rfl,rfl⟩,st',fun b hb=>(hf b hb).1⟩⟩
  rw[Int.mul_one]
 done:=by
  intro X hP hw hK hc i pins s σ H E I hf st hg
  subst hP hw hK
  obtain⟨f0,f1,f2,f3,f4,f5⟩:=hf it (by simp)
  exact wpAny_pyNext_range_end (I.ok.hd hc) st (by have:n≤i:=hg;omega) fun h' eb=>⟨rfl,I.turned (t':=s.toks) (fun b o hb e=>eb b o hb e) f0 f1 f3 f4 f5⟩
 self:=fun _ _ _ _ _ st h=>wpAny_pyIter_rangeiter st h
section
variable {X:Cx}{tg:Expr}
noncomputable def iList (K:PySem.W.Frag)(tl:TE):TI:=fun σ H R=>tl σ H fun x H1=>∃a,x=.ref a∧(∃xs,SqL K H1 a xs)∧R (Itl K a) H1
noncomputable def iTup (K:PySem.W.Frag)(tl:TE):TI:=fun σ H R=>tl σ H fun x H1=>∃a,x=.ref a∧(∃xs,SqT K H1 a xs)∧R (Itt K a) H1
theorem pi_list {l:Expr}{tl:TE}(hl:PE X l tl):PI X tg l (iList X.K tl):=by
 intro pins s σ H R I h
 refine thn (hl pins s σ H _ I h) fun v s1 ⟨x,H1,I1,r1,q1⟩=>?_
 obtain⟨a,e,⟨xs,hq⟩,q⟩:=q1
 subst e
 cases r1
 obtain⟨its,rv,p,hz⟩:=I1.list hq
 refine wpAny_pyIter_list p.isList ?_
 refine⟨s1.heap.objs.size,[s1.heap.objs.size],_,_,H1,rfl,I1.kept (t':=s1.toks) fun b o e=>ps0 _ e,turn_list a _,⟨_,pz0 _ rfl,rfl,rfl⟩,fun b hb=>?_,q⟩
 have e:b=s1.heap.objs.size:=by simpa using hb
 subst e
 exact I1.fpOk (nr0 _) (I1.hok.fresh (nr0 _))
theorem pi_tup {l:Expr}{tl:TE}(hl:PE X l tl):PI X tg l (iTup X.K tl):=by
 intro pins s σ H R I h
 refine thn (hl pins s σ H _ I h) fun v s1 ⟨x,H1,I1,r1,q1⟩=>?_
 obtain⟨a,e,⟨xs,hq⟩,q⟩:=q1
 subst e
 cases r1
 obtain⟨its,rv,p,hz⟩:=I1.tuple hq
 refine wpAny_pyIter_tuple (show s1.heap.IsTuple a its.toArray from p) ?_
 refine⟨s1.heap.objs.size,[s1.heap.objs.size],_,_,H1,rfl,I1.kept (t':=s1.toks) fun b o e=>ps0 _ e,turn_tuple a _,⟨_,pz0 _ rfl,rfl,rfl⟩,fun b hb=>?_,q⟩
 have e:b=s1.heap.objs.size:=by simpa using hb
 subst e
 exact I1.fpOk (nr0 _) (I1.hok.fresh (nr0 _))
theorem range_it {pins:List (Addr×Obj)}{σ:St}{H:Hp}{s:Shared}{R:It→Hp→Prop}{E:Value→Shared→Prop}{lo hi:Int}{t u v:Tok}{tk:Nat}(I:Inv X pins σ H s)(h1:-(2 ^ 62)≤lo)(h2:lo<2 ^ 62)(h3:-(2 ^ 62)≤hi)(h4:hi<2 ^ 62)
  (q:R (Itr lo (hi-lo).toNat) H):wpAny (model X.prog X.w) X.A (pyIter (.ref s.heap.objs.size)) (PIE X pins σ tg R) E {s with heap:=s.heap.push {cls:=.type "range",data:=.fields #[.int lo t,.int hi u,.int 1 v]},toks:=tk}:=by
 refine wpAny_pyIter_range (IsRange.new ..) (small_one h1 h2 h3 h4) ?_
 have I1:Inv X pins σ H {s with heap:=s.heap.push {cls:=.type "range",data:=.fields #[.int lo t,.int hi u,.int 1 v]},toks:=tk}:=I.kept fun b o e=>ps0 _ e
 refine⟨(s.heap.push {cls:=.type "range",data:=.fields #[.int lo t,.int hi u,.int 1 v]}).objs.size,[(s.heap.push {cls:=.type "range",data:=.fields #[.int lo t,.int hi u,.int 1 v]}).objs.size],_,_,H,rfl,
  I1.kept (t':=tk) fun b o e=>ps0 _ e,turn_range _ lo (hi-lo).toNat,?_,fun b hb=>?_,q⟩
 ·have e1:lo+((0:Nat):Int)*1=lo:=by simp
  have e2:(((hi-lo).toNat:Nat):Int)-((0:Nat):Int)=Builtin.Range.rangeSize lo hi 1:=by rw[rangeSize_one];split<;>omega
  show IsRangeIter _ _ (lo+((0:Nat):Int)*1) ((((hi-lo).toNat:Nat):Int)-((0:Nat):Int)) 1
  rw[e1,e2]
  exact pz0 _ rfl
 ·have e:b=(s.heap.push {cls:=.type "range",data:=.fields #[.int lo t,.int hi u,.int 1 v]}).objs.size:=by simpa using hb
  subst e
  exact I1.fpOk (nr0 _) (I1.hok.fresh (nr0 _))
noncomputable def iRng1 (ta:TA):TI:=fun σ H R=>ta σ H fun vs H1=>∃j:Int,vs=[.int j]∧ -(2 ^ 62)≤j∧j<2 ^ 62∧R (Itr 0 j.toNat) H1
theorem pi_range1 {a:Expr}{ta:TA}{p pos:Pos}(hg:Gl X "range")(hm:X.mg "range"=none)(ha:PA X [a] ta)(hs:starEach [a] X.env=[(false,eval a X.env)]:=by rfl):PI X tg (.Call (.Name "range" p) [a] [] pos) (iRng1 ta):=by
 intro pins s σ H R I h
 refine Call_ (ld_blt I hg hm boot_range (PyProof.Rows.callWith_type1 (thn (ha pos pins s σ H _ I h) fun us s1 ⟨vs,H1,I1,r1,q1⟩=>?_) hs rfl))
 obtain⟨j,e,q1,q2,q⟩:=q1
 subst e
 cases r1 with
 |cons r rr=>
  cases rr
  obtain⟨t,rfl⟩:=r
  exact call_range_1 (range_it I1 (by omega) (by omega) q1 q2 (by simpa using q))
noncomputable def tFor (wi:TI)(g:TG)(tb:TS):TS:=fun D σ H=>wi σ H fun J H1=>∃W:Nat→Nat→St→Hp→Prop,(∃m,W 0 m σ H1)∧∀i m σ H,W i m σ H→
 (J.stop i H∧D.nx σ H)∨(J.go i H∧∃N:St→Hp→Prop,(∀σ' H',N σ' H'→∃m',m'<m∧W (i+1) m' σ' H')∧∀x H',J.yld i H x H'→g x σ H' fun σ2 H2=>tb {D with nx:=N,ct:=N,bk:=D.nx} σ2 H2)
noncomputable def pinsAt (fp:List Addr)(h:Heap):List (Addr×Obj):=fp.filterMap fun b=>(h.get? b).map fun o=>(b,o)
theorem mem_pinsAt {fp:List Addr}{h:Heap}{b:Addr}{o:Obj}(hb:b∈fp)(e:h.get? b=some o):(b,o)∈pinsAt fp h:=List.mem_filterMap.mpr ⟨b,hb,by rw[e];rfl⟩
theorem of_pinsAt {fp:List Addr}{h:Heap}{p:Addr×Obj}(hp:p∈pinsAt fp h):p.1∈fp∧h.get? p.1=some p.2:=by
 obtain⟨b,hb,e⟩:=List.mem_filterMap.mp hp
 cases q:h.get? b with
 |none=>rw[q] at e;cases e
 |some o=>
  rw[q] at e
  have e':(b,o)=p:=Option.some.inj e
  subst e'
  exact⟨hb,q⟩
theorem Inv.pinned {pins:List (Addr×Obj)}{σ:St}{H:Hp}{s:Shared}{fp:List Addr}(I:Inv X pins σ H s)(hf:∀b∈fp,FpOk X pins H b)(ho:∀b∈fp,∃o,s.heap.get? b=some o∧∀v,o.data≠.cell v):Inv X (pins++pinsAt fp s.heap) σ H s:=
 I.pins_of fun p hp=>(List.mem_append.mp hp).elim (fun z=>I.pin p (List.mem_append_right _ z)) fun z=>by
  obtain⟨hb,e⟩:=of_pinsAt z
  obtain⟨f0,f1,f2,_⟩:=hf p.1 hb
  obtain⟨o,e',d⟩:=ho p.1 hb
  rw[e] at e';cases e'
  exact⟨e,f0,f1,f2,d⟩
theorem Inv.unpinned {pins pl:List (Addr×Obj)}{σ:St}{H:Hp}{s:Shared}(I:Inv X (pins++pl) σ H s):Inv X pins σ H s:=I.pins_of fun p hp=>I.pin p (List.mem_append_right _ (List.mem_append_left _ hp))
theorem ps_for {iter:Expr}{body:List Stmt}{wi:TI}{g:TG}{tb:TS}{pos:Pos}(hp:PassesOwn (model X.prog X.w) X.A X.env X.xe)(hc:X.calm=true)(hi:PI X tg iter wi)(hg:PG X tg g)(hb:PSs X body tb)
  (hs:∀x,foldedSetIterable iter X.env x=pure x:=by intro _;rfl):PS X (.For tg iter body [] pos) (tFor wi g tb):=by
 intro pins s σ H D I h
 refine wpAny_For (thn (hi pins s σ H _ I h) fun v s1 h1=>thn h1 fun itv s2 h2=>?_) hs
 obtain⟨it,fp,tn,J,H2,e,I2,T,st2,f2,W,⟨m0,w0⟩,turn⟩:=h2
 subst e
 have stat:∀{H':Hp},(∀b∈fp,H' b=none)→∀b∈fp,FpOk X pins H' b:=fun hn b hb=>⟨hn b hb,(f2 b hb).2⟩
 refine codeAny_forLoop_any (fun n s'=>∃i σ' H',Inv X pins σ' H' s'∧tn i s'.heap∧(∀b∈fp,H' b=none)∧W i n σ' H') ?_ m0 ⟨0,σ,H2,I2,st2,fun b hb=>(f2 b hb).1,w0⟩
 rintro n s3 ⟨i,σ3,H3,I3,st3,fr3,w3⟩
 rcases turn i n σ3 H3 w3 with⟨stop,qn⟩|⟨go,N,hN,step⟩
 ·refine wpAny_passesOwn hp (thn (T.done X rfl rfl rfl hc i pins s3 σ3 H3 X.xe I3 (stat fr3) st3 stop) fun r s4 ⟨hr,I4⟩=>?_)
  subst hr
  exact wpAny_execs_nil ⟨σ3,H3,I4,qn⟩
 ·refine wpAny_passesOwn hp (thn (T.item X rfl rfl rfl hc i pins s3 σ3 H3 X.xe I3 (stat fr3) st3 go) fun r s4 ⟨u,hr,h4⟩=>?_)
  subst hr
  refine wpAny_passesOwn hp (thn h4 fun _ s5 ⟨x,H5,I5,r5,y5,st5,fr5⟩=>?_)
  have I5':=I5.pinned (stat fr5) (T.obj _ _ st5)
  refine wpAny_passesOwn hp (thn (hg _ s5 σ3 H5 x u _ I5' r5 (step x H5 y5)) fun _ s6 ⟨σ6,H6,I6,q6⟩=>?_)
  refine wpAny_passesOwn hp (thn (hb _ s6 σ6 H6 _ I6 q6) fun f s7 q7=>?_)
  have again:∀{σ7:St} {H7:Hp},Inv X (pins++pinsAt fp s5.heap) σ7 H7 s7→N σ7 H7→∃m,m<n∧∃i σ' H',Inv X pins σ' H' s7∧tn i s7.heap∧(∀b∈fp,H' b=none)∧W i m σ' H':=fun {σ7 H7} I7 n7=>by
   obtain⟨m',hm,w7⟩:=hN σ7 H7 n7
   refine⟨m',hm,i+1,σ7,H7,I7.unpinned,T.keep _ _ _ st5 fun b hb o e=>(I7.pin (b,o) (List.mem_append_right _ (List.mem_append_right _ (mem_pinsAt hb e)))).1,fun b hb=>?_,w7⟩
   obtain⟨o,e,d⟩:=T.obj _ _ st5 b hb
   exact (I7.pin (b,o) (List.mem_append_right _ (List.mem_append_right _ (mem_pinsAt hb e)))).2.1
  cases f with
  |next=>obtain⟨σ7,H7,I7,n7⟩:=q7;exact again I7 n7
  |cont=>obtain⟨σ7,H7,I7,n7⟩:=q7;exact again I7 n7
  |brk=>obtain⟨σ7,H7,I7,q7⟩:=q7;exact⟨σ7,H7,I7.unpinned,q7⟩
  |ret v=>obtain⟨x7,σ7,H7,I7,r7,q7⟩:=q7;exact⟨x7,σ7,H7,I7.unpinned,r7,q7⟩
end
noncomputable abbrev R2:=V→V→Hp→VK→Prop
noncomputable def OpR (X:Cx)(f:Value→Value→Sem Value)(r:R2):Prop:=
 ∀(pins:List (Addr×Obj)) (s:Shared) (σ:St) (H:Hp) (x y:V) (v u:Value) (Q:VK),Inv X pins σ H s→RelV x v→RelV y u→r x y H Q→
  wpAny (model X.prog X.w) X.A (f v u) (EP X pins σ Q) X.xe s
noncomputable def UnR (X:Cx)(f:Value→Sem Value)(r:V→Hp→VK→Prop):Prop:=
 ∀(pins:List (Addr×Obj)) (s:Shared) (σ:St) (H:Hp) (x:V) (v:Value) (Q:VK),Inv X pins σ H s→RelV x v→r x H Q→
  wpAny (model X.prog X.w) X.A (f v) (EP X pins σ Q) X.xe s
noncomputable def CallR (X:Cx)(f:Value)(r:List V→Hp→VK→Prop):Prop:=
 ∀(pins:List (Addr×Obj)) (s:Shared) (σ:St) (H:Hp) (xs:List V) (us:List Value) (Q:VK),Inv X pins σ H s→Vals xs us→r xs H Q→
  wpAny (model X.prog X.w) X.A (call f us) (EP X pins σ Q) X.xe s
noncomputable def TruR (X:Cx)(r:V→Hp→(Bool→Hp→Prop)→Prop):Prop:=
 ∀(pins:List (Addr×Obj)) (s:Shared) (σ:St) (H:Hp) (x:V) (v:Value) (Q:Bool→Hp→Prop),Inv X pins σ H s→RelV x v→r x H Q→
  wpAny (model X.prog X.w) X.A (truthy v) (TP X pins σ Q) X.xe s
noncomputable def tOp (r:R2)(ta tb:TE):TE:=fun σ H Q=>ta σ H fun x H1=>tb σ H1 fun y H2=>r x y H2 Q
noncomputable def tUn (r:V→Hp→VK→Prop)(ta:TE):TE:=fun σ H Q=>ta σ H fun x H1=>r x H1 Q
noncomputable def rI (C:Int→Int→Prop)(g:Int→Int→V):R2:=fun x y H Q=>∃i j,x=.int i∧y=.int j∧C i j∧Q (g i j) H
noncomputable def rI0 (g:Int→Int→V):R2:=fun x y H Q=>∃i j,x=.int i∧y=.int j∧Q (g i j) H
noncomputable def rU (g:Int→V):V→Hp→VK→Prop:=fun x H Q=>∃i,x=.int i∧Q (g i) H
section
variable {X:Cx}{a b c:Expr}{ta tb tc:TE}{pos:Pos}
theorem binT (ha:PE X a ta)(hb:PE X b tb){pins:List (Addr×Obj)}{s:Shared}{σ:St}{H:Hp}{R:V→V→Hp→Prop}(I:Inv X pins σ H s)
  (h:ta σ H fun x H1=>tb σ H1 fun y H2=>R x y H2) {Q:Value→Shared→Prop} {f:Value→Value→Sem Value}
  (hf:∀v u s2 x y H2,Inv X pins σ H2 s2→RelV x v→RelV y u→R x y H2→wpAny (model X.prog X.w) X.A (f v u) Q X.xe s2):
  wpAny (model X.prog X.w) X.A (eval a X.env) (fun v s₁=>wpAny (model X.prog X.w) X.A (eval b X.env) (fun u s₂=>wpAny (model X.prog X.w) X.A (f v u) Q X.xe s₂) X.xe s₁) X.xe s:=by
 refine thn (ha pins s σ H _ I h) fun v s1 ⟨x,H1,I1,r1,q1⟩=>?_
 refine thn (hb pins s1 σ H1 _ I1 q1) fun u s2 ⟨y,H2,I2,r2,q2⟩=>?_
 exact hf v u s2 x y H2 I2 r1 r2 q2
theorem pe_op {op:Operator}{r:R2}(ho:OpR X (binaryOp op) r)(ha:PE X a ta)(hb:PE X b tb):PE X (.BinOp a op b pos) (tOp r ta tb):=by
 intro pins s σ H Q I h
 exact wpAny_BinOp (binT ha hb I h fun v u s2 x y H2 I2 rx ry q=>ho pins s2 σ H2 x y v u Q I2 rx ry q)
theorem pe_un {op:UnaryOp}{r:V→Hp→VK→Prop}(ho:UnR X (unaryOp op) r)(ha:PE X a ta):PE X (.UnaryOp op a pos) (tUn r ta):=by
 intro pins s σ H Q I h
 exact UnaryOp_ (thn (ha pins s σ H _ I h) fun v s1 ⟨x,H1,I1,r1,q1⟩=>ho pins s1 σ H1 x v Q I1 r1 q1)
theorem opI {f:Value→Value→Sem Value}{C:Int→Int→Prop}{g:Int→Int→Int}
  (rule:∀(i j:Int) (t u:Tok) (s:Shared) (Q:Value→Shared→Prop) (E:Value→Shared→Prop),C i j→Q (.int (g i j) s.toks) {s with toks:=s.toks+1}→wpAny (model X.prog X.w) X.A (f (.int i t) (.int j u)) Q E s):
  OpR X f (rI C fun i j=>.int (g i j)):=by
 intro pins s σ H x y v u Q I rx ry h
 obtain⟨i,j,rfl,rfl,hc,q⟩:=h
 obtain⟨t,rfl⟩:=rx
 obtain⟨t',rfl⟩:=ry
 exact rule i j t t' s _ _ hc ⟨.int (g i j),H,I.tok _,⟨_,rfl⟩,q⟩
theorem opI0 {f:Value→Value→Sem Value}{g:Int→Int→Int}
  (rule:∀(i j:Int) (t u:Tok) (s:Shared) (Q:Value→Shared→Prop) (E:Value→Shared→Prop),Q (.int (g i j) s.toks) {s with toks:=s.toks+1}→wpAny (model X.prog X.w) X.A (f (.int i t) (.int j u)) Q E s):
  OpR X f (rI0 fun i j=>.int (g i j)):=by
 intro pins s σ H x y v u Q I rx ry h
 obtain⟨i,j,rfl,rfl,q⟩:=h
 obtain⟨t,rfl⟩:=rx
 obtain⟨t',rfl⟩:=ry
 exact rule i j t t' s _ _ ⟨.int (g i j),H,I.tok _,⟨_,rfl⟩,q⟩
theorem opB0 {f:Value→Value→Sem Value}{g:Int→Int→Bool}
  (rule:∀(i j:Int) (t u:Tok) (s:Shared) (Q:Value→Shared→Prop) (E:Value→Shared→Prop),Q (.bool (g i j)) s→wpAny (model X.prog X.w) X.A (f (.int i t) (.int j u)) Q E s):
  OpR X f (rI0 fun i j=>.bl (g i j)):=by
 intro pins s σ H x y v u Q I rx ry h
 obtain⟨i,j,rfl,rfl,q⟩:=h
 obtain⟨t,rfl⟩:=rx
 obtain⟨t',rfl⟩:=ry
 exact rule i j t t' s _ _ ⟨.bl (g i j),H,I,rfl,q⟩
noncomputable def CDiv (i j:Int):Prop:=0<j∧j<1073741824
noncomputable def CMul (i j:Int):Prop:=(-(2 ^ 64)<i∧i<2 ^ 64)∨(-(2 ^ 64)<j∧j<2 ^ 64)
theorem CMul.ok {i j:Int}(h:CMul i j):IntMulOk i j:=by
 rcases h with⟨h1,h2⟩|⟨h1,h2⟩
 ·exact .of_left (intBits_le_64 h1 h2)
 ·exact .of_right (intBits_le_64 h1 h2)
theorem op_add:OpR X (binaryOp .Add) (rI0 fun i j=>.int (i+j)):=opI0 fun _ _ _ _ _ _ _ q=>add_int q
theorem op_sub:OpR X (binaryOp .Sub) (rI0 fun i j=>.int (i-j)):=opI0 fun _ _ _ _ _ _ _ q=>sub_int q
theorem op_mul:OpR X (binaryOp .Mult) (rI CMul fun i j=>.int (i*j)):=opI fun _ _ _ _ _ _ _ hc q=>mul_int q hc.ok
theorem op_fdiv:OpR X (binaryOp .FloorDiv) (rI CDiv fun i j=>.int (i / j)):=opI fun i j _ _ _ _ _ hc q=>by
 have h1:(0:Int)<j:=hc.1
 have h2:j<1073741824:=hc.2
 exact floordiv_int (by omega) (by rw[Int.fdiv_eq_ediv_of_nonneg i (by omega)];exact q) (.inl (PyProof.noPylong_small (by omega)))
theorem op_mod:OpR X (binaryOp .Mod) (rI (fun _ j=>0<j) fun i j=>.int (i % j)):=opI fun i j _ _ _ _ _ hc q=>by
 have h1:(0:Int)<j:=hc
 exact mod_int' (by omega) (by rw[Int.fmod_eq_emod_of_nonneg i (by omega)];exact q)
theorem unI {f:Value→Sem Value}{g:Int→Int}
  (rule:∀(i:Int) (t:Tok) (s:Shared) (Q:Value→Shared→Prop) (E:Value→Shared→Prop),Q (.int (g i) s.toks) {s with toks:=s.toks+1}→wpAny (model X.prog X.w) X.A (f (.int i t)) Q E s):
  UnR X f (rU fun i=>.int (g i)):=by
 intro pins s σ H x v Q I rx h
 obtain⟨i,rfl,q⟩:=h
 obtain⟨t,rfl⟩:=rx
 exact rule i t s _ _ ⟨.int (g i),H,I.tok _,⟨_,rfl⟩,q⟩
theorem un_neg:UnR X (unaryOp .USub) (rU fun i=>.int (-i)):=unI fun _ _ _ _ _ q=>neg_int q
end
noncomputable def scal:V→V→Bool
 |.non,.non=>true|.non,.int _=>true|.int _,.non=>true|.non,.bl _=>true|.bl _,.non=>true|.non,.str _=>true|.str _,.non=>true
 |.int _,.int _=>true|.bl _,.bl _=>true|.str _,.str _=>true|.byt _,.byt _=>true
 |.int _,.str _=>true|.str _,.int _=>true|.bl _,.str _=>true|.str _,.bl _=>true
 |_,_=>false
noncomputable def rEq:R2:=fun x y H Q=>scal x y=true∧Q (.bl (decide (x=y))) H
noncomputable def rNe:R2:=fun x y H Q=>scal x y=true∧Q (.bl (!decide (x=y))) H
theorem dec_int {i j:Int}:decide (V.int i=V.int j)=(i==j):=by
 rw[Bool.eq_iff_iff]
 simp
theorem dec_bl {i j:Bool}:decide (V.bl i=V.bl j)=(i==j):=by
 rw[Bool.eq_iff_iff]
 simp
theorem dec_str {i j:Str}:decide (V.str i=V.str j)=(i==j):=by
 rw[Bool.eq_iff_iff]
 simp
theorem dec_byt {i j:Array UInt8}:decide (V.byt i=V.byt j)=(i.toList==j.toList):=by
 rw[Bool.eq_iff_iff]
 cases i
 cases j
 simp
section
variable {X:Cx}{a b c:Expr}{ta tb tc:TE}{pos:Pos}
theorem fin_bl {pins:List (Addr×Obj)}{σ:St}{H:Hp}{s:Shared}{Q:VK}{k k':Bool}(I:Inv X pins σ H s)(q:Q (.bl k) H)(e:k=k'):EP X pins σ Q (.bool k') s:=by
 subst e
 exact⟨.bl k,H,I,rfl,q⟩
theorem op_eq:OpR X (compareOp .Eq) rEq:=by
 intro pins s σ H x y v u Q I rx ry h
 obtain⟨hs,q⟩:=h
 cases x with
 |non=>
  cases rx
  cases y with
  |non=>cases ry;exact PySem.EqNone.eq_none_none (fin_bl I q (by simp))
  |bl j=>cases ry;exact PySem.EqNone.eq_none_bool (fin_bl I q (by simp))
  |int j=>obtain⟨t',rfl⟩:=ry;exact PySem.EqNone.eq_none_int (fin_bl I q (by simp))
  |str j=>obtain⟨t',rfl⟩:=ry;exact PySem.EqNone.eq_none_str (fin_bl I q (by simp))
  |_=>exact absurd (show false=true from hs) fx0
 |bl i=>
  cases rx
  cases y with
  |non=>cases ry;exact PySem.EqNone.eq_bool_none (fin_bl I q (by simp))
  |bl j=>cases ry;exact eq_bool (fin_bl I q dec_bl)
  |str j=>obtain⟨t',rfl⟩:=ry;exact PySem.EqMixed.eq_bool_str (fin_bl I q (by simp))
  |_=>exact absurd (show false=true from hs) fx0
 |int i=>
  obtain⟨t,rfl⟩:=rx
  cases y with
  |non=>cases ry;exact PySem.EqNone.eq_int_none (fin_bl I q (by simp))
  |int j=>obtain⟨t',rfl⟩:=ry;exact eq_int (fin_bl I q dec_int)
  |str j=>obtain⟨t',rfl⟩:=ry;exact PySem.EqMixed.eq_int_str (fin_bl I q (by simp))
  |_=>exact absurd (show false=true from hs) fx0
 |str i=>
  obtain⟨t,rfl⟩:=rx
  cases y with
  |non=>cases ry;exact PySem.EqNone.eq_str_none (fin_bl I q (by simp))
  |bl j=>cases ry;exact PySem.EqMixed.eq_str_bool (fin_bl I q (by simp))
  |int j=>obtain⟨t',rfl⟩:=ry;exact PySem.EqMixed.eq_str_int (fin_bl I q (by simp))
  |str j=>obtain⟨t',rfl⟩:=ry;exact eq_str (fin_bl I q dec_str)
  |_=>exact absurd (show false=true from hs) fx0
 |byt i=>
  obtain⟨t,rfl⟩:=rx
  cases y with
  |byt j=>obtain⟨t',rfl⟩:=ry;exact PySem.W.eq_bytes (fin_bl I q dec_byt)
  |_=>exact absurd (show false=true from hs) fx0
 |_=>cases y<;>exact absurd (show false=true from hs) fx0
theorem op_ne:OpR X (compareOp .NotEq) rNe:=by
 intro pins s σ H x y v u Q I rx ry h
 obtain⟨hs,q⟩:=h
 cases x with
 |non=>
  cases rx
  cases y with
  |non=>cases ry;exact PySem.EqNone.ne_none_none (fin_bl I q (by simp))
  |bl j=>cases ry;exact PySem.EqNone.ne_none_bool (fin_bl I q (by simp))
  |int j=>obtain⟨t',rfl⟩:=ry;exact PySem.EqNone.ne_none_int (fin_bl I q (by simp))
  |str j=>obtain⟨t',rfl⟩:=ry;exact PySem.EqNone.ne_none_str (fin_bl I q (by simp))
  |_=>exact absurd (show false=true from hs) fx0
 |bl i=>
  cases rx
  cases y with
  |non=>cases ry;exact PySem.EqNone.ne_bool_none (fin_bl I q (by simp))
  |bl j=>cases ry;exact ne_bool (fin_bl I q (congrArg not dec_bl))
  |str j=>obtain⟨t',rfl⟩:=ry;exact PySem.EqMixed.ne_bool_str (fin_bl I q (by simp))
  |_=>exact absurd (show false=true from hs) fx0
 |int i=>
  obtain⟨t,rfl⟩:=rx
  cases y with
  |non=>cases ry;exact PySem.EqNone.ne_int_none (fin_bl I q (by simp))
  |int j=>obtain⟨t',rfl⟩:=ry;exact ne_int (fin_bl I q (congrArg not dec_int))
  |str j=>obtain⟨t',rfl⟩:=ry;exact PySem.EqMixed.ne_int_str (fin_bl I q (by simp))
  |_=>exact absurd (show false=true from hs) fx0
 |str i=>
  obtain⟨t,rfl⟩:=rx
  cases y with
  |non=>cases ry;exact PySem.EqNone.ne_str_none (fin_bl I q (by simp))
  |bl j=>cases ry;exact PySem.EqMixed.ne_str_bool (fin_bl I q (by simp))
  |int j=>obtain⟨t',rfl⟩:=ry;exact PySem.EqMixed.ne_str_int (fin_bl I q (by simp))
  |str j=>obtain⟨t',rfl⟩:=ry;exact ne_str (fin_bl I q (congrArg not dec_str))
  |_=>exact absurd (show false=true from hs) fx0
 |byt i=>
  obtain⟨t,rfl⟩:=rx
  cases y with
  |byt j=>obtain⟨t',rfl⟩:=ry;exact PySem.W.ne_bytes (fin_bl I q (congrArg not dec_byt))
  |_=>exact absurd (show false=true from hs) fx0
 |_=>cases y<;>exact absurd (show false=true from hs) fx0
theorem op_lt:OpR X (compareOp .Lt) (rI0 fun i j=>.bl (decide (i<j))):=opB0 fun _ _ _ _ _ _ _ q=>lt_int q
theorem op_le:OpR X (compareOp .LtE) (rI0 fun i j=>.bl (decide (i≤j))):=opB0 fun _ _ _ _ _ _ _ q=>le_int q
theorem op_gt:OpR X (compareOp .Gt) (rI0 fun i j=>.bl (decide (j<i))):=opB0 fun _ _ _ _ _ _ _ q=>gt_int q
theorem op_lt_str:OpR X (compareOp .Lt) (fun x y H Q=>∃i j,x=.str i∧y=.str j∧Q (.bl (decide (i.cps.toList<j.cps.toList))) H):=by
 intro pins s σ H x y v u Q I rx ry h
 obtain⟨i,j,rfl,rfl,q⟩:=h
 obtain⟨t,rfl⟩:=rx
 obtain⟨t',rfl⟩:=ry
 exact lt_str (fin_bl I q rfl)
theorem op_in_str:OpR X (compareOp .In) (fun x y H Q=>∃i j,x=.str i∧y=.str j∧Q (.bl (!(Builtin.Str.occurrences j i 0 j.length 1).isEmpty)) H):=by
 intro pins s σ H x y v u Q I rx ry h
 obtain⟨i,j,rfl,rfl,q⟩:=h
 obtain⟨t,rfl⟩:=rx
 obtain⟨t',rfl⟩:=ry
 exact in_str (fin_bl I q rfl)
theorem pe_cmpR {op:CmpOp}{r:R2}(ho:OpR X (compareOp op) r)(ha:PE X a ta)(hb:PE X b tb)(hm:behindInMarks op b=false):PE X (.Compare a [op] [b] pos) (tOp r ta tb):=by
 intro pins s σ H Q I h
 exact wpAny_Compare1 (binT ha hb I h fun v u s2 x y H2 I2 rx ry q=>ho pins s2 σ H2 x y v u Q I2 rx ry q) hm
noncomputable def tTest (t:TE):TT:=fun σ H Q=>t σ H fun x H'=>∃k,x=.bl k∧Q k H'
theorem pt_cmpR {op:CmpOp}{r:R2}(ho:OpR X (compareOp op) r)(ha:PE X a ta)(hb:PE X b tb)(hm:behindInMarks op b=false):PT X (.Compare a [op] [b] pos) (tTest (tOp r ta tb)):=by
 intro pins s σ H Q I h
 refine wpAny_isTrue_Compare1 (thn (ha pins s σ H _ I h) fun v s1 ⟨x,H1,I1,r1,q1⟩=>thn (hb pins s1 σ H1 _ I1 q1) fun u s2 ⟨y,H2,I2,r2,q2⟩=>
  thn (ho pins s2 σ H2 x y v u _ I2 r1 r2 q2) fun c s3 ⟨z,H3,I3,r3,k,e,q3⟩=>?_) hm
 subst e
 cases r3
 exact wpAny_truthy_bool ⟨H3,I3,q3⟩
noncomputable def tChain (r r':R2)(ta tb tc:TE):TE:=fun σ H Q=>ta σ H fun x H1=>tb σ H1 fun y H2=>r x y H2 fun z H3=>∃k,z=.bl k∧
 (if k=true then tc σ H3 fun w' H4=>r' y w' H4 Q else Q (.bl false) H3)
theorem pe_chain {op op':CmpOp}{r r':R2}(ho:OpR X (compareOp op) r)(ho':OpR X (compareOp op') r')(ha:PE X a ta)(hb:PE X b tb)(hc:PE X c tc)
  (hm:lastMarks [op,op'] [b,c]=false:=by with_unfolding_all rfl):PE X (.Compare a [op,op'] [b,c] pos) (tChain r r' ta tb tc):=by
 intro pins s σ H Q I h
 refine Compare_chain (thn (ha pins s σ H _ I h) fun v s1 ⟨x,H1,I1,r1,q1⟩=>chain_link (thn (hb pins s1 σ H1 _ I1 q1) fun u s2 ⟨y,H2,I2,r2,q2⟩=>
  thn (ho pins s2 σ H2 x y v u _ I2 r1 r2 q2) fun d s3 ⟨z,H3,I3,r3,k,e,q3⟩=>?_)) hm
 subst e
 cases r3
 refine wpAny_truthy_bool ?_
 cases k with
 |false=>exact ite_ff ⟨.bl false,H3,I3,rfl,q3⟩
 |true=>exact ite_tt (chain_last (thn (hc pins s3 σ H3 _ I3 q3) fun w' s4 ⟨z',H4,I4,r4,q4⟩=>ho' pins s4 σ H4 y z' u w' Q I4 r2 r4 q4))
theorem pt_chain {op op':CmpOp}{r r':R2}(ho:OpR X (compareOp op) r)(ho':OpR X (compareOp op') r')(ha:PE X a ta)(hb:PE X b tb)(hc:PE X c tc)
  (hm:lastMarks [op,op'] [b,c]=false:=by with_unfolding_all rfl):PT X (.Compare a [op,op'] [b,c] pos) (tTest (tChain r r' ta tb tc)):=by
 intro pins s σ H Q I h
 refine isTrue_chain (thn (ha pins s σ H _ I h) fun v s1 ⟨x,H1,I1,r1,q1⟩=>test_link (thn (hb pins s1 σ H1 _ I1 q1) fun u s2 ⟨y,H2,I2,r2,q2⟩=>
  thn (ho pins s2 σ H2 x y v u _ I2 r1 r2 q2) fun d s3 ⟨z,H3,I3,r3,k,e,q3⟩=>?_)) hm
 subst e
 cases r3
 refine wpAny_truthy_bool ?_
 cases k with
 |false=>
  obtain⟨k',e',q'⟩:=q3
  cases e'
  exact ite_ff ⟨H3,I3,q'⟩
 |true=>
  refine ite_tt (test_last (thn (hc pins s3 σ H3 _ I3 q3) fun w' s4 ⟨z',H4,I4,r4,q4⟩=>thn (ho' pins s4 σ H4 y z' u w' _ I4 r2 r4 q4) fun d' s5 ⟨z2,H5,I5,r5,k2,e2,q5⟩=>?_))
  subst e2
  cases r5
  exact wpAny_truthy_bool ⟨H5,I5,q5⟩
noncomputable def TruV (K:PySem.W.Frag)(x:V)(H:Hp)(k:Bool):Prop:=
 match x with
 |.non=>k=false
 |.bl b=>k=b
 |.int i=>k=(i != 0)
 |.str y=>y.length≤sizeLine∧k=((y.length:Int) != 0)
 |.byt y=>y.size≤sizeLine∧k=((y.size:Int) != 0)
 |.ref p=>(∃xs,SqL K H p xs∧k=!xs.isEmpty)∨(∃xs,SqT K H p xs∧k=!xs.isEmpty)∨∃kvs,H p=some (.dK kvs)∧k=!kvs.isEmpty
 |_=>False
theorem isEmpty_kv {κ:Type}{kvs:List (κ×V)}{vs:List (κ×Value)}(r:KV kvs vs):(!vs.isEmpty)=!kvs.isEmpty:=by
 cases r<;>rfl
theorem isEmpty_of {xs:List V}{its:List Value}(r:Vals xs its):(!its.toArray.isEmpty)=!xs.isEmpty:=by
 cases r<;>simp
theorem line63:(sizeLine:Nat)<2 ^ 63:=by rw[sizeLine_eq];decide
theorem tru_ok:TruR X (fun x H Q=>∃k,TruV X.K x H k∧Q k H):=by
 intro pins s σ H x v Q I rx h
 obtain⟨k,e,q⟩:=h
 have hl:=line63
 have hs:sizeLine=16777216:=sizeLine_eq
 cases x with
 |non=>
  cases rx
  have e':k=false:=e
  subst e'
  exact truthy_none ⟨H,I,q⟩
 |bl b=>
  cases rx
  have e':k=b:=e
  subst e'
  exact wpAny_truthy_bool ⟨H,I,q⟩
 |int i=>
  obtain⟨t,rfl⟩:=rx
  have e':k=(i != 0):=e
  subst e'
  exact PySem.P.truthy_int ⟨H,I,q⟩
 |str y=>
  obtain⟨t,rfl⟩:=rx
  obtain⟨hy,e'⟩:y.length≤sizeLine∧k=((y.length:Int) != 0):=e
  subst e'
  exact PySem.P.truthy_str (by omega) ⟨H,I.tok _,q⟩
 |byt y=>
  obtain⟨t,rfl⟩:=rx
  obtain⟨hy,e'⟩:y.size≤sizeLine∧k=((y.size:Int) != 0):=e
  subst e'
  exact PySem.W.truthy_bytes (by omega) ⟨H,I.tok _,q⟩
 |ref p=>
  cases rx
  have e':(∃xs,SqL X.K H p xs∧k=!xs.isEmpty)∨(∃xs,SqT X.K H p xs∧k=!xs.isEmpty)∨∃kvs,H p=some (.dK kvs)∧k=!kvs.isEmpty:=e
  rcases e' with⟨xs,hx,e'⟩|⟨xs,hx,e'⟩|⟨kvs,hx,e'⟩
  ·subst e'
   obtain⟨its,r,pl,hz⟩:=I.list hx
   have hlen:=r.length
   exact wpAny_truthy_list pl.isList (by simp only[ls0];omega) ⟨H,I.tok _,by rw[isEmpty_of r];exact q⟩
  ·subst e'
   obtain⟨its,r,pl,hz⟩:=I.tuple hx
   have hlen:=r.length
   exact truthy_tuple pl (by simp only[ls0];omega) ⟨H,I.tok _,by rw[isEmpty_of r];exact q⟩
  ·subst e'
   obtain⟨hz,hS,vs,r,m⟩:kvs.length≤sizeLine∧(p==sysModules)=false∧∃vs,KV kvs vs∧s.heap.DictOf (mixKind X.prog X.w) p vs:=I.hok p _ hx
   have hlen:kvs.length=vs.length:=Paired.length r
   exact wpAny_truthy_dict hS m (by omega) ⟨H,I.tok _,by rw[isEmpty_kv r];exact q⟩
 |_=>exact (show False from e).elim
theorem pt_truth (ha:PE X a ta)(he:∀whole,isTrue a X.env whole=(do let v ←whole;standAt a.pos;holding [v] (truthy v))):
  PT X a (fun σ H Q=>ta σ H fun x H'=>∃k,TruV X.K x H' k∧Q k H'):=by
 intro pins s σ H Q I h
 exact isTrue_plain (thn (ha pins s σ H _ I h) fun v s1 ⟨x,H1,I1,r1,q1⟩=>tru_ok pins s1 σ H1 x v Q I1 r1 q1) (he _)
theorem op_add_str:OpR X (binaryOp .Add) (fun x y H Q=>∃i j,x=.str i∧y=.str j∧i.length+j.length≤sizeLine∧Q (.str (i++j)) H):=by
 intro pins s σ H x y v u Q I rx ry h
 obtain⟨i,j,rfl,rfl,hz,q⟩:=h
 obtain⟨t,rfl⟩:=rx
 obtain⟨t',rfl⟩:=ry
 exact add_str (fun t' tk=>⟨.str (i++j),H,I.tok _,⟨_,rfl⟩,q⟩) hz
theorem vals1 {x:V}{us:List Value}(r:Vals [x] us):∃u,us=[u]∧RelV x u:=by
 cases r with
 |cons r1 r2=>cases r2;exact⟨_,rfl,r1⟩
theorem vals2 {x y:V}{us:List Value}(r:Vals [x,y] us):∃u w',us=[u,w']∧RelV x u∧RelV y w':=by
 cases r with
 |cons r1 r2=>
  cases r2 with
  |cons r3 r4=>cases r4;exact⟨_,_,rfl,r1,r3⟩
theorem call_int1:CallR X (.type "int") (fun xs H Q=>(∃i,xs=[.int i]∧Q (.int i) H)∨∃k,xs=[.bl k]∧Q (.int (if k then 1 else 0)) H):=by
 intro pins s σ H xs us Q I r h
 rcases h with⟨i,rfl,q⟩|⟨k,rfl,q⟩
 ·obtain⟨u,rfl,t,rfl⟩:=vals1 r
  exact call_int_int ⟨.int i,H,I,⟨_,rfl⟩,q⟩
 ·obtain⟨u,rfl,r1⟩:=vals1 r
  cases r1
  exact call_int_bool ⟨.int (if k then 1 else 0),H,I.tok _,⟨_,rfl⟩,q⟩
noncomputable def LenV (K:PySem.W.Frag)(x:V)(H:Hp)(n:Nat):Prop:=
 match x with
 |.str y=>y.length≤sizeLine∧n=y.length
 |.byt y=>y.size≤sizeLine∧n=y.size
 |.ref p=>(∃xs,SqL K H p xs∧n=xs.length)∨∃xs,SqT K H p xs∧n=xs.length
 |_=>False
theorem call_len:CallR X (.builtin "len") (fun xs H Q=>∃x n,xs=[x]∧LenV X.K x H n∧Q (.int n) H):=by
 intro pins s σ H xs us Q I r h
 obtain⟨x,n,rfl,e,q⟩:=h
 obtain⟨u,rfl,rx⟩:=vals1 r
 have hl:=line63
 have hs:sizeLine=16777216:=sizeLine_eq
 cases x with
 |str y=>
  obtain⟨t,rfl⟩:=rx
  obtain⟨hy,e'⟩:y.length≤sizeLine∧n=y.length:=e
  subst e'
  exact len_str (by omega) ⟨.int _,H,I.tok _,⟨_,rfl⟩,q⟩
 |byt y=>
  obtain⟨t,rfl⟩:=rx
  obtain⟨hy,e'⟩:y.size≤sizeLine∧n=y.size:=e
  subst e'
  exact PySem.W.len_bytes (by omega) ⟨.int _,H,I.tok _,⟨_,rfl⟩,q⟩
 |ref p=>
  cases rx
  have e':(∃xs,SqL X.K H p xs∧n=xs.length)∨∃xs,SqT X.K H p xs∧n=xs.length:=e
  rcases e' with⟨xs,hx,e'⟩|⟨xs,hx,e'⟩
  ·subst e'
   obtain⟨its,r',pl,hz⟩:=I.list hx
   have hlen:=r'.length
   exact Calls.call_len_list pl.isList (by simp only[ls0];omega) ⟨.int xs.length,H,I.tok _,⟨_,by simp only[ls0];rw[hlen]⟩,q⟩
  ·subst e'
   obtain⟨its,r',pl,hz⟩:=I.tuple hx
   have hlen:=r'.length
   exact len_tuple pl (by simp only[ls0];omega) ⟨.int xs.length,H,I.tok _,⟨_,by simp only[ls0];rw[hlen]⟩,q⟩
 |_=>exact (show False from e).elim
end
structure ObjM (h:Heap)(x dx C:Addr)(mA:Str→Option Value):Prop where
 obj:h.get? x=some (PySem.W.instObj C dx)
 ns:h.Ns1 dx mA
 ne:dx≠x
theorem lookIn_ns {h:Heap}{dx:Addr}{mA:Str→Option Value}(n:h.Ns1 dx mA):∃od,h.get? dx=some od∧∀name,PySem.W.lookIn name od=some (mA name):=by
 obtain⟨o,es,ep,ho,hd,hk,_,hm⟩:=n
 refine⟨o,ho,fun name=>?_⟩
 have e:=hm name
 unfold nsFind findBy at e
 rw[←Array.find?_toList] at e
 unfold PySem.W.lookIn
 rw[hd]
 dsimp only
 split
 ·rename_i y q
  rw[q] at e
  exact congrArg some e
 ·rename_i q
  rw[q] at e
  have a:es.toList.any (·.refKey)=false:=by
   rw[List.any_eq_false]
   intro y hy
   obtain⟨z,t,hkey⟩:=hk y (Array.mem_toList_iff.mp hy)
   simp[DictEntry.refKey,hkey]
  have a':¬ es.toList.any (·.refKey)=true:=by rw[a];exact fx0
  rw[if_neg a']
  exact congrArg some e
theorem ObjM.look {h:Heap}{x dx C:Addr}{mA:Str→Option Value}(I:ObjM h x dx C mA):∃od,PySem.W.InstAt h x (PySem.W.instObj C dx) C (some od)∧∀name,PySem.W.lookIn name od=some (mA name):=
 let ⟨od,ho,hl⟩:=lookIn_ns I.ns
 ⟨od,⟨I.obj,rfl,rfl,ho⟩,hl⟩
section
variable {prog:Program}{w:World}{A:Around}{E:Value→Shared→Prop}{s:Shared}{K:PySem.W.Frag}{x dx C f:Addr}{mA:Str→Option Value}{name:Str}{v:Value}
theorem get_map {expr:Bool}{Q:Value→Shared→Prop}(X:K.In s.heap)(I:ObjM s.heap x dx C mA)(hg:PySem.W.plainGet K C name=true)(hh:PySem.W.hasDictIn K C=true)
  (ha:PySem.W.findIn K (.ref C) name=some none) (hv:mA name=some v) (hv':PySem.W.handedIn v=true) (h:Q v {s with toks:=s.toks+1}):
  wpAny (model prog w) A (getAttr (.ref x) name expr) Q E s:=by
 obtain⟨od,J,hl⟩:=I.look
 exact PySem.W.get_value X J (PySem.W.plainGet_of hg).1 (PySem.W.findObj_own hh ha rfl (by rw[hl,hv])) hv' h
theorem get_meth {pl:Sem Bool}{Q:Value×List Value→Shared→Prop}(X:K.In s.heap)(I:ObjM s.heap x dx C mA)(hg:PySem.W.plainGet K C name=true)
  (hf:PySem.W.findIn K (.ref C) name=some (some (.ref f))) (ht:PySem.W.isFn K (.ref f)=true) (hv:mA name=none) (h:Q (.ref f,[.ref x]) s):
  wpAny (model prog w) A (getMethod (.ref x) name pl) Q E s:=by
 obtain⟨od,J,hl⟩:=I.look
 exact PySem.W.method_fn X J (PySem.W.plainGet_of hg).1 (PySem.W.plainGet_of hg).2 hf (beq_iff_eq.mp ht) (by show (PySem.W.lookIn name od).map (·.isSome)=some false;rw[hl,hv];rfl) h
theorem set_map {ns:List Str}{Q:Unit→Shared→Prop}(X:K.In s.heap)(I:ObjM s.heap x dx C mA)
  (hs:PySem.W.findIn K (.ref C) "__setattr__"=some (some (.builtin "object.__setattr__"))) (hp:PySem.W.plainOver K C=true) (ht:PySem.W.takerIn K C name=some none) (hh:PySem.W.hasDictIn K C=true)
  (hw:PySem.Within mA ns) (hsz:ns.length≤sizeLine)
  (h:∀h',ObjM h' x dx C (fun y=>if y=name then some v else mA y)→Heap.SameBut dx s.heap h'→Q () {s with heap:=h',toks:=s.toks+2}):
  wpAny (model prog w) A (setAttr (.ref x) name v) Q E s:=by
 obtain⟨od,J,hl⟩:=I.look
 refine PySem.W.set_plain X J hs (PySem.W.osa_open (s:={s with toks:=s.toks+1}) (r:=none) X J hp ht fun b=>?_)
 obtain⟨cd,hc,hd'⟩:=PySem.W.any_some hh
 have hx:s.heap.get? x=some ⟨.ref C,some dx,.plain,#[]⟩:=I.obj
 refine wpAny_bind (wpAny_pure (wpAny_bind (wpAny_bind (wpAny_loadPart hx (wpAny_bind (PySem.W.Looks.here (s:={s with toks:=s.toks+1}) (PySem.W.looks_clsIn X hc) ?_))))))
 rw[hd']
 refine wpAny_pure (a:=some dx) (wpAny_bind (wpAny_pure (wpAny_bind ?_)))
 refine wpAny_nsSet1 (s:={s with toks:=s.toks+1}) I.ns fun h' hn2 hs2=>?_
 obtain⟨oD,esD,epD,hoD,hdD,hcD⟩:=hn2.count (PySem.Within.cons name v hw)
 refine wpAny_bind (wpAny_lookBehind hoD (by rw[hdD];exact pastItsLine_dict (nt0 hcD (by rw[lc0];omega))) ?_)
 exact wpAny_pure (h _ ⟨(hs2.2 _ (Ne.symm I.ne)).trans I.obj,hn2,I.ne⟩ hs2)
theorem make_map {R:Result→Shared→Prop}{vs:List Value}{kw:List (Str×Value)}(X:K.In s.heap)(hm:PySem.W.makesIn K C=true)
  (hi:PySem.W.findIn K (.ref C) "__init__"=some (some (.ref f))) (hf:PySem.W.typeIn K (.ref f)=some (.type "function"))
  (h:codeAny (model prog w) (A.under (.builtin "type.__call__" ⟨.ref C::vs,kw⟩)) (.call (.ref f) ⟨.ref (s.heap.objs.size+1)::vs,kw⟩) (PySem.W.InitBack (s.heap.objs.size+1) R)
   {s with heap:=(s.heap.push PySem.W.emptyDict).push (PySem.W.instObj C s.heap.objs.size)}):
  codeAny (model prog w) A (.call (.ref C) ⟨vs,kw⟩) R s:=by
 obtain⟨hh,g,d,t,os⟩:=s
 exact PySem.W.make_core (PySem.W.makes_of X hm) (PySem.W.looks_findIn X hi) (fun self=>PySem.W.bind_fn X self hf) (.inl rfl) h
end
noncomputable def putF (f:Str)(v:V):List (Str×V)→List (Str×V)
 |[]=>[(f,v)]
 |(g,x)::r=>if g=f then (g,v)::r else (g,x)::putF f v r
theorem lookup_putF (f g:Str)(v:V):∀fs:List (Str×V),(putF f v fs).lookup g=if g=f then some v else fs.lookup g
 |[]=>by
  show List.lookup g [(f,v)]=_
  by_cases h:g=f
  ·have hb:(g==f)=true:=beq_iff_eq.mpr h
   simp only[List.lookup,hb,if_pos h]
  ·have hb:(g==f)=false:=beq_eq_false_iff_ne.mpr h
   simp only[List.lookup,hb,if_neg h]
 |(k,x)::r=>by
  have ih:=lookup_putF f g v r
  rw[show putF f v ((k,x)::r)=(if k=f then (k,v)::r else (k,x)::putF f v r) from rfl]
  by_cases hk:k=f
  ·rw[if_pos hk]
   by_cases h:g=k
   ·have hb:(g==k)=true:=beq_iff_eq.mpr h
    simp only[List.lookup,hb,if_pos (h.trans hk)]
   ·have hb:(g==k)=false:=beq_eq_false_iff_ne.mpr h
    simp only[List.lookup,hb,if_neg (fun e:g=f=>h (e.trans hk.symm))]
  ·rw[if_neg hk]
   by_cases h:g=k
   ·have hb:(g==k)=true:=beq_iff_eq.mpr h
    simp only[List.lookup,hb,if_neg (fun e:g=f=>hk (h.symm.trans e))]
   ·have hb:(g==k)=false:=beq_eq_false_iff_ne.mpr h
    simp only[List.lookup,hb]
    exact ih
theorem keys_putF (f:Str)(v:V):∀fs:List (Str×V),f∈(putF f v fs).map (·.1)∧∀g,g∈fs.map (·.1)→g∈(putF f v fs).map (·.1)
 |[]=>⟨by simp[putF],fun g h=>by simp at h⟩
 |(k,x)::r=>by
  obtain⟨i1,i2⟩:=keys_putF f v r
  rw[show putF f v ((k,x)::r)=(if k=f then (k,v)::r else (k,x)::putF f v r) from rfl]
  by_cases hk:k=f
  ·rw[if_pos hk]
   subst hk
   exact⟨by simp,fun g h=>by simpa using h⟩
  ·rw[if_neg hk]
   refine⟨?_,fun g h=>?_⟩
   ·rw[List.map_cons]
    exact mc0 _ i1
   ·rw[List.map_cons] at h ⊢
    rcases List.mem_cons.mp h with e|e
    ·exact List.mem_cons.mpr (.inl e)
    ·exact mc0 _ (i2 g e)
theorem length_putF (f:Str)(v:V):∀fs:List (Str×V),(putF f v fs).length≤fs.length+1
 |[]=>by simp[putF]
 |(k,x)::r=>by
  have ih:=length_putF f v r
  rw[show putF f v ((k,x)::r)=(if k=f then (k,v)::r else (k,x)::putF f v r) from rfl]
  by_cases hk:k=f
  ·rw[if_pos hk,lc0,lc0];omega
  ·rw[if_neg hk,lc0,lc0];omega
theorem RelO.some_of {v:V}{o:Option Value}(r:RelO (some v) o):∃u,o=some u∧RelV v u:=by
 cases o with
 |none=>exact (show False from r).elim
 |some u=>exact⟨u,rfl,r⟩
theorem RelO.none_of {o:Option Value}(r:RelO none o):o=none:=by
 cases o with
 |none=>rfl
 |some u=>exact (show False from r).elim
theorem handed_of {v:V}{u:Value}(r:RelV v u):PySem.W.handedIn u=true:=by
 cases v with
 |non=>cases (show u=Value.none from r);rfl
 |bl b=>cases (show u=Value.bool b from r);rfl
 |int i=>obtain⟨t,e⟩:=(show ∃t,u=Value.int i t from r);cases e;rfl
 |str x=>obtain⟨t,e⟩:=(show ∃t,u=Value.str x t from r);cases e;rfl
 |byt b=>obtain⟨t,e⟩:=(show ∃t,u=Value.bytes b t from r);cases e;rfl
 |flt b=>obtain⟨t,e⟩:=(show ∃t,u=Value.float b t from r);cases e;rfl
 |ref a=>cases (show u=Value.ref a from r);rfl
 |ty n=>cases (show u=Value.type n from r);rfl
section
variable {P:Program}{w:World}{H H':Hp}{h h':Heap}{a C dx:Addr}{fs fs':List (Str×V)}
theorem ins_get (hok:HOk P w H h)(e:H a=some (.ins C dx fs)):∃mA,ObjM h a dx C mA∧(∀f,RelO (fs.lookup f) (mA f))∧PySem.Within mA (fs.map (·.1))∧fs.length≤1000∧H dx=some (.own a):=by
 obtain⟨d,z,ne,ob,mA,n,r,q⟩:=(show ObjOk P w H h a (.ins C dx fs) from hok a _ e)
 exact⟨mA,⟨ob,n,ne⟩,r,q,z,d⟩
end
structure Cls (K:PySem.W.Frag)(C:Addr):Prop where
 pg:PySem.W.plainGet K C Str.empty=true
 hd:PySem.W.hasDictIn K C=true
 po:PySem.W.plainOver K C=true
 sa:PySem.W.findIn K (.ref C) "__setattr__"=some (some (.builtin "object.__setattr__"))
theorem Cls.get {K:PySem.W.Frag}{C:Addr}(c:Cls K C)(f:Str):PySem.W.plainGet K C f=true:=c.pg
noncomputable def NoAttr (K:PySem.W.Frag)(C:Addr)(f:Str):Prop:=PySem.W.findIn K (.ref C) f=some none
theorem NoAttr.taker {K:PySem.W.Frag}{C:Addr}{f:Str}(n:NoAttr K C f):PySem.W.takerIn K C f=some none:=by
 unfold PySem.W.takerIn
 rw[show PySem.W.findIn K (.ref C) f=some none from n]
 rfl
structure Meth (K:PySem.W.Frag)(C:Addr)(m:Str)(f:Addr):Prop where
 at_:PySem.W.findIn K (.ref C) m=some (some (.ref f))
 fn:PySem.W.isFn K (.ref f)=true
 kp:PySem.W.keepIn K (.ref f)=true
section
variable {X:Cx}{pins:List (Addr×Obj)}{σ:St}{H:Hp}{s:Shared}{a C dx:Addr}{fs:List (Str×V)}{f:Str}{v:V}{A:Around}{E:Value→Shared→Prop}
theorem getattr_ok {b:Bool}{Q:Value→Shared→Prop}(I:Inv X pins σ H s)(e:H a=some (.ins C dx fs))(c:Cls X.K C)(n:NoAttr X.K C f)(l:fs.lookup f=some v)
  (h:∀u s',Inv X pins σ H s'→RelV v u→Q u s'):wpAny (model X.prog X.w) A (getAttr (.ref a) f b) Q E s:=by
 obtain⟨mA,O,r,_,_,_⟩:=ins_get I.hok e
 obtain⟨u,hu,ru⟩:=RelO.some_of (v:=v) (o:=mA f) (by rw[←l];exact r f)
 exact get_map I.kIn O (c.get f) c.hd n hu (handed_of ru) (h u _ (I.tok _) ru)
theorem getmeth_ok {m:Str}{g:Addr}{pl:Sem Bool}{Q:Value×List Value→Shared→Prop}(I:Inv X pins σ H s)(e:H a=some (.ins C dx fs))(c:Cls X.K C)(k:Meth X.K C m g)(l:fs.lookup m=none)
  (h:Q (.ref g,[.ref a]) s):wpAny (model X.prog X.w) A (getMethod (.ref a) m pl) Q E s:=by
 obtain⟨mA,O,r,_,_,_⟩:=ins_get I.hok e
 have hn:mA m=none:=RelO.none_of (by rw[←l];exact r m)
 exact get_meth I.kIn O (c.get m) k.at_ k.fn hn h
theorem setattr_ok {y:V}{u:Value}{Q:Unit→Shared→Prop}(I:Inv X pins σ H s)(e:H a=some (.ins C dx fs))(c:Cls X.K C)(n:NoAttr X.K C f)(hl:fs.length<1000)(ry:RelV y u)
  (h:∀s',Inv X pins σ (upd H a (.ins C dx (putF f y fs))) s'→Q () s'):wpAny (model X.prog X.w) A (setAttr (.ref a) f u) Q E s:=by
 obtain⟨mA,O,r,wi,_,ho⟩:=ins_get I.hok e
 have hz:(fs.map (·.1)).length≤sizeLine:=by rw[lm0,sizeLine_eq];omega
 refine set_map I.kIn O c.sa c.po n.taker c.hd wi hz fun h' O' sb=>h _ ?_
 have hd:∃o,h'.get? dx=some o:=let ⟨o,_,_,e',_⟩:=O'.ns;⟨o,e'⟩
 refine I.write (x:=a) (e:=dx) (by rw[e];exact True.intro) (.inr ho) (fun b q hb z=>(sb.2 b hb).trans z) hd ?_
 refine⟨by rw[upd_ne O.ne];exact ho,?_,O.ne,O'.obj,_,O'.ns,fun g=>?_,fun g hg=>?_⟩
 ·have:=length_putF f y fs;omega
 ·show RelO ((putF f y fs).lookup g) (if g=f then some u else mA g)
  rw[lookup_putF]
  by_cases q:g=f
  ·rw[if_pos q,if_pos q];exact ry
  ·rw[if_neg q,if_neg q];exact r g
 ·by_cases q:g=f
  ·rw[q];exact (keys_putF f y fs).1
  ·refine (keys_putF f y fs).2 g (wi g fun z=>hg ?_)
   show (if g=f then some u else mA g)=none
   rw[if_neg q];exact z
theorem Inv.made (I:Inv X pins σ H s):Inv X pins σ (upd (upd H s.heap.objs.size (.own (s.heap.objs.size+1))) (s.heap.objs.size+1) (.ins C s.heap.objs.size []))
  {s with heap:=(s.heap.push PySem.W.emptyDict).push (PySem.W.instObj C s.heap.objs.size)}:=by
 have e1:(s.heap.push PySem.W.emptyDict).get? s.heap.objs.size=some PySem.W.emptyDict:=pz0 s.heap rfl
 have e2:((s.heap.push PySem.W.emptyDict).push (PySem.W.instObj C s.heap.objs.size)).get? (s.heap.objs.size+1)=some (PySem.W.instObj C s.heap.objs.size):=by
  have:=pz0 (s.heap.push PySem.W.emptyDict) (o:=PySem.W.instObj C s.heap.objs.size) rfl
  rwa [Heap.size_push] at this
 have e3:(s.heap.push PySem.W.emptyDict).Ns s.heap.objs.size (fun _=>none):=⟨PySem.W.emptyDict,#[],_,e1,rfl,(fun e he=>absurd he (by simp)),fun _=>rfl⟩
 have I1:=I.laid (a:=s.heap.objs.size) (o:=.own (s.heap.objs.size+1)) (h':=s.heap.push PySem.W.emptyDict) (t':=s.toks) (fun b u q=>ps0 _ q) (nr0 _) ⟨_,e1⟩
 refine I1.laid (a:=s.heap.objs.size+1) (o:=.ins C s.heap.objs.size []) (t':=s.toks) (fun b u q=>ps0 _ q) (Nat.le_of_eq (Heap.size_push _ _)) ?_
 have ne:s.heap.objs.size≠s.heap.objs.size+1:=nn0 (Nat.lt_succ_self _)
 refine⟨by rw[upd_ne ne,upd_same],Nat.zero_le _,ne,e2,fun _=>none,(Heap.Ns1.of_empty e3).at fun o q=>ps0 _ q,fun _=>True.intro,fun y hy=>absurd rfl hy⟩
theorem attr_of {prog:Program}{w:World}{env:Env}{e:Expr}{f:Str}{pos:Pos}{s:Shared}{Q:Value→Shared→Prop}(hb:attributeBase e f env (eval e env)=eval e env)
  (h:wpAny (model prog w) A (eval e env) (fun o s₁=>wpAny (model prog w) A (getAttr o f true) Q E s₁) E s):wpAny (model prog w) A (eval (.Attribute e f pos) env) Q E s:=
 Attribute_any_ h (by rw[arm_eval_Attribute,hb])
end
noncomputable def tFld (K:PySem.W.Frag)(ta:TE)(f:Str):TE:=fun σ H Q=>ta σ H fun x H1=>∃a C dx fs v,x=.ref a∧H1 a=some (.ins C dx fs)∧Cls K C∧NoAttr K C f∧fs.lookup f=some v∧Q v H1
noncomputable def sFld (K:PySem.W.Frag)(ta tv:TE)(f:Str):TS:=fun D σ H=>tv σ H fun y H1=>ta σ H1 fun x H2=>∃a C dx fs,x=.ref a∧H2 a=some (.ins C dx fs)∧Cls K C∧NoAttr K C f∧fs.length<1000∧
 D.nx σ (upd H2 a (.ins C dx (putF f y fs)))
section
variable {X:Cx}{o e value:Expr}{f:Str}{pos pos' tpos:Pos}{ta tv:TE}
theorem pe_fld (he:PE X e ta)(hb:attributeBase e f X.env (eval e X.env)=eval e X.env):PE X (.Attribute e f pos) (tFld X.K ta f):=by
 intro pins s σ H Q I h
 refine attr_of hb (thn (he pins s σ H _ I h) fun u s1 ⟨x,H1,I1,rx,a,C,dx,fs,v,ex,ea,c,n,l,q⟩=>?_)
 subst ex
 obtain rfl:u=Value.ref a:=rx
 exact getattr_ok I1 ea c n l fun u' s2 I2 ru=>⟨v,H1,I2,ru,q⟩
theorem ps_fld (ha:PE X o ta)(hv:PE X value tv)(hs:swapsWith value (some (.Attribute o f pos')) pos.line X.env=pure false):PS X (.Assign [.Attribute o f pos'] value pos) (sFld X.K ta tv f):=by
 intro pins s σ H D I h
 refine plainObj_wpAny_Assign_Attribute (thn (hv pins s σ H _ I h) fun u s1 ⟨y,H1,I1,ry,q⟩=>thn (ha pins s1 σ H1 _ I1 q) fun ov s2 ⟨x,H2,I2,rx,a,C,dx,fs,ex,ea,c,n,l,q2⟩=>?_) hs
 subst ex
 obtain rfl:ov=Value.ref a:=rx
 exact setattr_ok I2 ea c n l ry fun s3 I3=>⟨σ,_,I3,q2⟩
theorem methcall_of {pl:Sem Bool}{m:Str}{apos:Pos}{args:List Expr}{pins:List (Addr×Obj)}{s:Shared}{σ:St}{H:Hp}{Q:Value→Shared→Prop}{te:TE}(he:PE X e te)(I:Inv X pins σ H s)
  (h:te σ H fun x H1=>∃a C dx fs g,x=.ref a∧H1 a=some (.ins C dx fs)∧Cls X.K C∧Meth X.K C m g∧fs.lookup m=none∧
   ∀s1,Inv X pins σ H1 s1→wpAny (model X.prog X.w) X.A (callWith pos (.ref g) [.ref a] (backTo pos (starEach args X.env)) (backToKw pos (keywordEach [] X.env))) Q X.xe s1)
  (ht:eval (.Call (.Attribute e m apos) args [] pos) X.env=(do
   let ov ←eval e X.env
   standAt apos.atName
   let (f,first) ←holding [ov] (getMethod ov m pl)
   callWith pos f first (backTo pos (starEach args X.env)) (backToKw pos (keywordEach [] X.env)))):
  wpAny (model X.prog X.w) X.A (eval (.Call (.Attribute e m apos) args [] pos) X.env) Q X.xe s:=by
 refine PySem.W.methodCall_KW (pl:=pl) (thn (he pins s σ H _ I h) fun u s1 ⟨x,H1,I1,rx,a,C,dx,fs,g,ex,ea,c,k,l,q⟩=>?_) ht
 subst ex
 obtain rfl:u=Value.ref a:=rx
 exact getmeth_ok I1 ea c k l (q s1 I1)
end
section
variable {X:Cx}{pins:List (Addr×Obj)}{σ:St}{H:Hp}{s:Shared}{A:Around}{E:Value→Shared→Prop}{Q:Value→Shared→Prop}{c:Value}{b:Bool}
inductive TyOf (K:PySem.W.Frag)(H:Hp):V→Value→Prop where
 |non:TyOf K H .non (.type "NoneType")
 |bl (x:Bool):TyOf K H (.bl x) (.type "bool")
 |int (i:Int):TyOf K H (.int i) (.type "int")
 |str (x:Str):TyOf K H (.str x) (.type "str")
 |flt (x:UInt64):TyOf K H (.flt x) (.type "float")
 |lst {a:Addr} {xs:List V} (e:H a=some (.lst xs)):TyOf K H (.ref a) (.type "list")
 |frz {a:Addr} {o:Obj} {xs:List V} (e:H a=some (.frz o (.lst xs))):TyOf K H (.ref a) (.type "list")
 |tup {a:Addr} {xs:List V} (e:H a=some (.tup xs)):TyOf K H (.ref a) (.type "tuple")
 |dK {a:Addr} {kvs:List (Key×V)} (e:H a=some (.dK kvs)):TyOf K H (.ref a) (.type "dict")
 |dT {a:Addr} {kvs:List (List Key×V)} (e:H a=some (.dT kvs)):TyOf K H (.ref a) (.type "dict")
 |ins {a C dx:Addr} {fs:List (Str×V)} (e:H a=some (.ins C dx fs)) (cl:Cls K C) (ha:PySem.W.findIn K (.ref C) "__class__"=some (some (.builtin "object.__class__")))
   (hn:PySem.W.specialIn K (.builtin "object.__class__") "__get__"=some (some (.builtin "getset_descriptor.__get__"))) (htk:PySem.W.takesIn K (.builtin "object.__class__")=some true)
   (hm:PySem.W.mroIn K C (.type "object")=some true):TyOf K H (.ref a) (.ref C)
theorem isinst_ok {x:V}{u t:Value}(I:Inv X pins σ H s)(rx:RelV x u)(ty:TyOf X.K H x t)(e:PySem.W.kitOne X.K t c=some b)(h:∀tk,Q (.bool b) {s with toks:=tk}):
  wpAny (model X.prog X.w) A (call (.builtin "isinstance") [u,c]) Q E s:=by
 cases ty with
 |non=>cases (show u=Value.none from rx);exact PySem.W.kia_one PySem.W.kitx_none I.kIn True.intro e (fun z=>nomatch z) h
 |bl y=>cases (show u=Value.bool y from rx);exact PySem.W.kia_one PySem.W.kitx_bool I.kIn True.intro e (fun z=>nomatch z) h
 |int i=>obtain⟨t,q⟩:=(show ∃t,u=Value.int i t from rx);cases q;exact PySem.W.kia_one PySem.W.kitx_int I.kIn True.intro e (fun z=>nomatch z) h
 |str y=>obtain⟨t,q⟩:=(show ∃t,u=Value.str y t from rx);cases q;exact PySem.W.kia_one PySem.W.kitx_str I.kIn True.intro e (fun z=>nomatch z) h
 |flt y=>obtain⟨t,q⟩:=(show ∃t,u=Value.float y t from rx);cases q;exact PySem.W.kia_one PySem.W.kitx_float I.kIn True.intro e (fun z=>nomatch z) h
 |@lst a xs ea=>
  cases (show u=Value.ref a from rx)
  obtain⟨_,_,n,_,h1⟩:=(show ObjOk X.prog X.w H s.heap a (.lst xs) from I.hok a _ ea)
  exact PySem.W.kia_one PySem.W.kitx_list I.kIn ⟨_,h1,rfl⟩ e (fun z=>nomatch z) h
 |@frz a ob xs ea=>
  cases (show u=Value.ref a from rx)
  obtain⟨_,_,_,n,_,h1⟩:=(show ObjOk X.prog X.w H s.heap a (.frz ob (.lst xs)) from I.hok a _ ea)
  exact PySem.W.kia_one PySem.W.kitx_list I.kIn ⟨_,h1,rfl⟩ e (fun z=>nomatch z) h
 |@tup a xs ea=>
  cases (show u=Value.ref a from rx)
  obtain⟨_,_,_,p⟩:=(show ObjOk X.prog X.w H s.heap a (.tup xs) from I.hok a _ ea)
  obtain⟨o,h1,h2,_⟩:=p
  exact PySem.W.kia_one PySem.W.kitx_tuple I.kIn ⟨o,h1,h2⟩ e (fun z=>nomatch z) h
 |@dK a kvs ea=>
  cases (show u=Value.ref a from rx)
  obtain⟨_,_,vs,_,p⟩:=(show ObjOk X.prog X.w H s.heap a (.dK kvs) from I.hok a _ ea)
  obtain⟨o,es,ep,h1,h2,_⟩:=p
  exact PySem.W.kia_one PySem.W.kitx_dict I.kIn ⟨o,h1,h2.1⟩ e (fun z=>nomatch z) h
 |@dT a kvs ea=>
  cases (show u=Value.ref a from rx)
  obtain⟨_,_,xs,_,o,es,ep,h1,h2,_⟩:=(show ObjOk X.prog X.w H s.heap a (.dT kvs) from I.hok a _ ea)
  exact PySem.W.kia_one PySem.W.kitx_dict I.kIn ⟨o,h1,h2.1⟩ e (fun z=>nomatch z) h
 |@ins a C dx fs ea cl ha hn htk hm=>
  cases (show u=Value.ref a from rx)
  obtain⟨mA,O,_⟩:=ins_get I.hok ea
  obtain⟨od,J,_⟩:=O.look
  exact PySem.W.kia_one (PySem.W.kitx_own (cl.get _) cl.hd ha hn htk hm) I.kIn J e (fun z=>nomatch z) h
end
structure Room (k:Nat)(A:Around):Prop where
 hd:A.handled=none
 dp:A.depth+3*k+5<recursionLimit
 un:A.units+16*k+200<cLine
theorem Room.mono {j k:Nat}{A:Around}(r:Room k A)(h:j≤k):Room j A:=⟨r.hd,by have:=r.dp;omega,by have:=r.un;omega⟩
theorem Room.deeper {k:Nat}{A:Around}(r:Room (k+1) A)(env:Env):Room k (A.deeper env):=
 ⟨r.hd,by have:=r.dp;show A.depth+1+3*k+5<_;omega,by have:=r.un;show A.units+3+16*k+200<_;omega⟩
theorem make_depth {A:Around}{C:Addr}{us:List Value}{kw:List (Str×Value)}:(A.under (.builtin "type.__call__" ⟨.ref C::us,kw⟩)).depth=A.depth+1:=by
 first|rfl|simp[Around.under,Code.weight,Code.isCreation,Code.isGuard,Code.isCaller,Code.frames,Code.isFrame,guardIds]
theorem make_units {A:Around}{C:Addr}{us:List Value}{kw:List (Str×Value)}:(A.under (.builtin "type.__call__" ⟨.ref C::us,kw⟩)).units=A.units+1:=by
 first|rfl|simp[Around.under,Code.cUnits,Code.frames,Code.isFrame]
theorem Room.make {k:Nat}{A:Around}(r:Room (k+1) A)(C:Addr)(us:List Value)(kw:List (Str×Value)):Room k (A.under (.builtin "type.__call__" ⟨.ref C::us,kw⟩)):=
 ⟨r.hd,by have:=r.dp;rw[make_depth];omega,by have:=r.un;rw[make_units];omega⟩
theorem Room.depth {k:Nat}{A:Around}(r:Room k A):A.depth<recursionLimit:=by have:=r.dp;omega
theorem Room.units {k:Nat}{A:Around}(r:Room k A):A.units+64<cLine:=by have:=r.un;omega
noncomputable def tNil:TA:=fun _ H Q=>Q [] H
noncomputable def tCons (ta:TE)(tr:TA):TA:=fun σ H Q=>ta σ H fun x H1=>tr σ H1 fun xs H2=>Q (x::xs) H2
section
variable {X:Cx}{e:Expr}{es:List Expr}{te:TE}{t:TA}{pos:Pos}
theorem pa_nil:PA X [] tNil:=fun _ _ _ _ H Q I h=>Calls.spliced_nil ⟨[],H,I,.nil,h⟩
theorem pa_cons (ha:PE X e te)(hr:PA X es t)(hs:starEach (e::es) X.env=(false,eval e X.env)::starEach es X.env:=by rfl):PA X (e::es) (tCons te t):=by
 intro pos pins s σ H Q I h
 rw[hs]
 show wpAny _ _ (spliced ((false,eval e X.env)::backTo pos (starEach es X.env))) _ _ s
 refine Calls.spliced_cons (thn (ha pins s σ H _ I h) fun u s1 ⟨x,H1,I1,r1,q1⟩=>?_)
 exact thn (hr pos pins s1 σ H1 _ I1 q1) fun us s2 ⟨xs,H2,I2,r2,q2⟩=>⟨x::xs,H2,I2,.cons r1 r2,q2⟩
noncomputable def tTup (t:TA):TE:=fun σ H Q=>t σ H fun xs H1=>xs.length≤sizeLine∧∀p,H1 p=none→Q (.ref p) (upd H1 p (.tup xs))
noncomputable def tLst (t:TA):TE:=fun σ H Q=>t σ H fun xs H1=>xs.length≤sizeLine∧∀p,H1 p=none→Q (.ref p) (upd H1 p (.lst xs))
theorem pe_tup {x1}(h:PA X es t):PE X (.Tuple es x1 pos) (tTup t):=by
 intro pins s σ H Q I hq
 refine wpAny_Tuple_spliced (thn (h pos pins s σ H _ I hq) fun us s1 ⟨xs,H1,I1,r,z,q⟩=>⟨by rw[←r.length];exact z,?_⟩)
 have hf:H1 s1.heap.objs.size=none:=I1.hok.fresh (nr0 _)
 refine⟨.ref s1.heap.objs.size,upd H1 s1.heap.objs.size (.tup xs),I1.laid (t':=s1.toks) (fun b u e=>ps0 _ e) (nr0 _) ?_,rfl,q _ hf⟩
 exact⟨z,us,r,⟨_,pz0 _ rfl,rfl,_,rfl⟩⟩
theorem pe_lst (h:PA X es t):PE X (.List es pos) (tLst t):=by
 intro pins s σ H Q I hq
 refine wpAny_List_spliced (thn (h pos pins s σ H _ I hq) fun us s1 ⟨xs,H1,I1,r,z,q⟩=>⟨by rw[←r.length];exact z,?_⟩)
 have hf:H1 s1.heap.objs.size=none:=I1.hok.fresh (nr0 _)
 refine⟨.ref s1.heap.objs.size,upd H1 s1.heap.objs.size (.lst xs),I1.laid (t':=s1.toks) (fun b u e=>ps0 _ e) (nr0 _) ?_,rfl,q _ hf⟩
 exact⟨z,us,0,r,pz0 _ rfl⟩
end
noncomputable abbrev Sp:=List V→Hp→VK→XK→Prop
noncomputable abbrev CXT:=List Env→Hp→Shared→XK→Value→Shared→Prop
structure Env0 (P:Program)(w:World)(K:PySem.W.Frag)(mg:Str→Option Value)(base:Heap)(A:Around)(outer:List Env)(s:Shared)(H:Hp):Prop where
 frames:A.frames=some outer
 mod:Mod K mg base
 bs:∀b o,base.get? b=some o→s.heap.get? b=some o∧H b=none
 bsz:base.objs.size≤s.heap.objs.size
 funs:s.heap.FunFrames base outer
 frf:∀b∈frs outer,H b=none
 hok:HOk P w H s.heap
 bare:AllBare s.gens
noncomputable def CE (outer:List Env)(P:Program)(w:World)(H:Hp)(s:Shared)(Q:VK)(u:Value)(s':Shared):Prop:=
 ∃v H',s'.os=s.os∧AllBare s'.gens∧Un (frs outer) [] H H' s.heap s'.heap∧HOk P w H' s'.heap∧RelV v u∧Q v H'
noncomputable def CR (CX:CXT)(outer:List Env)(P:Program)(w:World)(H:Hp)(s:Shared)(Q:VK)(E:XK)(r:Result)(s':Shared):Prop:=
 match r with
 |.ok (.ret u)=>CE outer P w H s Q u s'
 |.ok _=>False
 |.error e=>CX outer H s E e s'
structure FnOk (P:Program)(w:World)(K:PySem.W.Frag)(mg:Str→Option Value)(base:Heap)(CX:CXT)(k:Nat)(f:Addr)(fd:FuncData)(ps:List Str)(sp:Sp):Prop where
 len:∀vs H Q E,sp vs H Q E→vs.length=ps.length
 run:∀(A:Around) (outer:List Env) (s:Shared) (H:Hp) (args:Args) (us:List Value) (vs:List V) (Q:VK) (E:XK),Room k A→Env0 P w K mg base A outer s H→BindsTo s fd args (ps.zip us)→Vals vs us→sp vs H Q E→
  codeAny (model P w) A (.call (.ref f) args) (CR CX outer P w H s Q E) s
theorem FnOk.mono {P:Program}{w:World}{K:PySem.W.Frag}{mg:Str→Option Value}{base:Heap}{CX:CXT}{j k:Nat}{f:Addr}{fd:FuncData}{ps:List Str}{sp:Sp}(F:FnOk P w K mg base CX j f fd ps sp)(h:j≤k):
  FnOk P w K mg base CX k f fd ps sp:=⟨F.len,fun A outer s H args us vs Q E hr=>F.run A outer s H args us vs Q E (hr.mono h)⟩
theorem Env0.make {P:Program}{w:World}{K:PySem.W.Frag}{mg:Str→Option Value}{base:Heap}{A:Around}{outer:List Env}{s:Shared}{H:Hp}(e:Env0 P w K mg base A outer s H)(C:Addr)(us:List Value)(kw:List (Str×Value)):
  Env0 P w K mg base (A.under (.builtin "type.__call__" ⟨.ref C::us,kw⟩)) outer s H:=⟨by first|exact e.frames|(simpa [Around.under,Code.envs,Code.isFrame,pushEnvs] using e.frames),e.mod,e.bs,e.bsz,e.funs,e.frf,e.hok,e.bare⟩
section
variable {X:Cx}{pins:List (Addr×Obj)}{σ:St}{H:Hp}{s s':Shared}
theorem Inv.env0 (I:Inv X pins σ H s):Env0 X.prog X.w X.K X.mg X.base X.A X.stack s H:=
 ⟨I.ok.frames,I.ok.mod,I.bs,nt0 I.ok.bsz I.sz,I.stack,I.stkFree,I.hok,I.bare⟩
theorem Inv.after {Q:VK}{u:Value}(I:Inv X pins σ H s)(h:CE X.stack X.prog X.w H s Q u s'):EP X pins σ Q u s':=by
 obtain⟨v,H',os,bare,un,hok,r,q⟩:=h
 obtain⟨hh,g,d,t,os'⟩:=s'
 obtain rfl:os'=s.os:=os
 exact⟨v,H',I.call (h':=hh) (g':=g) (d':=d) (t':=t) (ch:=[]) un hok bare (fun b z=>absurd z (by simp)),r,q⟩
end
noncomputable def tCall (sp:Sp)(dvs:List V)(E:XK)(t:TA):TE:=fun σ H Q=>t σ H fun vs H1=>sp (vs++dvs) H1 Q E
noncomputable def tMeth (C:Addr)(m:Str)(sp:Sp)(dvs:List V)(E:XK)(ta:TE)(t:TA):TE:=fun σ H Q=>ta σ H fun x H1=>∃a dx fs,x=.ref a∧H1 a=some (.ins C dx fs)∧fs.lookup m=none∧
 t σ H1 fun vs H2=>sp (x::(vs++dvs)) H2 Q E
noncomputable def tMake (C:Addr)(sp:Sp)(dvs:List V)(E:XK)(t:TA):TE:=fun σ H Q=>t σ H fun vs H1=>∀x dx,H1 x=none→H1 dx=none→dx≠x→
 sp (.ref x::(vs++dvs)) (upd (upd H1 dx (.own x)) x (.ins C dx [])) (fun v H2=>v=.non∧Q (.ref x) H2) E
noncomputable def Binds (K:PySem.W.Frag)(fd:FuncData)(ps:List Str)(ds:List Value):Prop:=
 ∀(s:Shared) (us:List Value),K.In s.heap→(us++ds).length=ps.length→BindsTo s fd ⟨us,[]⟩ (ps.zip (us++ds))
theorem Binds.all {K:PySem.W.Frag}{fd:FuncData}{ps:List Str}(h:∀us:List Value,us.length=ps.length→bindArgs fd ⟨us,[]⟩=pure (ps.zip us)):Binds K fd ps []:=fun s us _ hl=>by
 rw[List.append_nil] at hl ⊢
 exact .of_eq (h us hl)
noncomputable def Passes (CX:CXT)(X:Cx)(E:XK):Prop:=∀(pins:List (Addr×Obj)) (σ:St) (H:Hp) (s:Shared) (e:Value) (s':Shared),Inv X pins σ H s→CX X.stack H s E e s'→X.xe e s'
section
variable {X:Cx}{CX:CXT}{k:Nat}{f C:Addr}{fd:FuncData}{ps:List Str}{sp:Sp}{dvs:List V}{ds:List Value}{E:XK}{x m:Str}{p pos apos:Pos}{e o:Expr}{es:List Expr}{ta:TE}{t:TA}
theorem run_fn {pins:List (Addr×Obj)}{σ:St}{H:Hp}{s:Shared}{Q:VK}{us:List Value}{vs:List V}(F:FnOk X.prog X.w X.K X.mg X.base CX k f fd ps sp)(hr:Room k X.A)(hb:Binds X.K fd ps ds)(hd:Vals dvs ds)(hx:Passes CX X E)
  (I:Inv X pins σ H s) (r:Vals vs us) (h:sp (vs++dvs) H Q E):wpAny (model X.prog X.w) X.A (call (.ref f) us) (EP X pins σ Q) X.xe s:=by
 have r2:Vals (vs++dvs) (us++ds):=r.append hd
 have hl:(us++ds).length=ps.length:=by rw[←r2.length];exact F.len _ _ _ _ h
 refine wpAny_call (codeAny_mono (F.run X.A X.stack s H ⟨us,[]⟩ (us++ds) (vs++dvs) Q E hr I.env0 (hb s us I.kIn hl) r2 h) fun r s' hq=>?_)
 cases r with
 |error e=>exact hx pins σ H s e s' I hq
 |ok fl=>
  cases fl with
  |ret u=>exact I.after hq
  |next=>exact False.elim hq
  |brk=>exact False.elim hq
  |cont=>exact False.elim hq
theorem pe_call (F:FnOk X.prog X.w X.K X.mg X.base CX k f fd ps sp)(hr:Room k X.A)(hg:Gl X x)(hm:X.mg x=some (.ref f))(hk:PySem.W.keepIn X.K (.ref f)=true)(hb:Binds X.K fd ps ds)(hd:Vals dvs ds)(hx:Passes CX X E)
  (ha:PA X (e::es) t) (hdb:(x==("__debug__":Str))=false:=by decide) (he:starEach (e::es) X.env=(false,eval e X.env)::starEach es X.env:=by rfl) (hpl:(backTo pos (starEach es X.env)).any (·.1)=false:=by rfl):
  PE X (.Call (.Name x p) (e::es) [] pos) (tCall sp dvs E t):=by
 intro pins s σ H Q I h
 refine wpAny_Call_Name_kw (ld_glob I hg hm ?_ hdb)
 refine PySem.W.callWith_K (h₀:=X.base) I.ok.mod.kin hk (thn (ha pos pins s σ H _ I h) fun us s1 ⟨vs,H1,I1,r,q⟩=>⟨I1.kIn,?_⟩) he hpl
 exact run_fn F hr hb hd hx I1 r q
theorem pe_meth {pl:Sem Bool}(he:PE X o ta)(c:Cls X.K C)(hm:Meth X.K C m f)(F:FnOk X.prog X.w X.K X.mg X.base CX k f fd ps sp)(hr:Room k X.A)(hb:Binds X.K fd ps ds)(hd:Vals dvs ds)(hx:Passes CX X E)(ha:PA X (e::es) t)
  (hst:starEach (e::es) X.env=(false,eval e X.env)::starEach es X.env:=by rfl) (hpl:(backTo pos (starEach es X.env)).any (·.1)=false:=by rfl)
  (ht:eval (.Call (.Attribute o m apos) (e::es) [] pos) X.env=(do
   let ov ←eval o X.env
   standAt apos.atName
   let (f,first) ←holding [ov] (getMethod ov m pl)
   callWith pos f first (backTo pos (starEach (e::es) X.env)) (backToKw pos (keywordEach [] X.env))):=by rfl):
  PE X (.Call (.Attribute o m apos) (e::es) [] pos) (tMeth C m sp dvs E ta t):=by
 intro pins s σ H Q I h
 refine PySem.W.methodCall_KW (pl:=pl) (thn (he pins s σ H _ I h) fun u s1 ⟨x,H1,I1,rx,a,dx,fs,ex,ea,l,q⟩=>?_) ht
 subst ex
 obtain rfl:u=Value.ref a:=rx
 refine getmeth_ok I1 ea c hm l ?_
 refine PySem.W.callWith_K (first:=[.ref a]) (h₀:=X.base) I.ok.mod.kin hm.kp (thn (ha pos pins s1 σ H1 _ I1 q) fun us s2 ⟨vs,H2,I2,r,q2⟩=>⟨I2.kIn,?_⟩) hst hpl
 exact run_fn (us:=.ref a::us) (vs:=.ref a::vs) F hr hb hd hx I2 (.cons rfl r) q2
theorem pe_meth0 {pl:Sem Bool}(he:PE X o ta)(c:Cls X.K C)(hm:Meth X.K C m f)(F:FnOk X.prog X.w X.K X.mg X.base CX k f fd ps sp)(hr:Room k X.A)(hb:Binds X.K fd ps ds)(hd:Vals dvs ds)(hx:Passes CX X E)
  (ht:eval (.Call (.Attribute o m apos) [] [] pos) X.env=(do
   let ov ←eval o X.env
   standAt apos.atName
   let (f,first) ←holding [ov] (getMethod ov m pl)
   callWith pos f first (backTo pos (starEach [] X.env)) (backToKw pos (keywordEach [] X.env))):=by rfl):
  PE X (.Call (.Attribute o m apos) [] [] pos) (tMeth C m sp dvs E ta tNil):=by
 intro pins s σ H Q I h
 refine PySem.W.methodCall_KW (pl:=pl) (thn (he pins s σ H _ I h) fun u s1 ⟨x,H1,I1,rx,a,dx,fs,ex,ea,l,q⟩=>?_) ht
 subst ex
 obtain rfl:u=Value.ref a:=rx
 refine getmeth_ok I1 ea c hm l ?_
 exact PySem.W.callWith_K0 (first:=[.ref a]) I1.kIn hm.kp (run_fn (us:=[.ref a]) (vs:=[.ref a]) F hr hb hd hx I1 (.cons rfl .nil) q)
structure Mk (K:PySem.W.Frag)(C f:Addr):Prop where
 makes:PySem.W.makesIn K C=true
 init:PySem.W.findIn K (.ref C) "__init__"=some (some (.ref f))
 fn:PySem.W.isFn K (.ref f)=true
 kp:PySem.W.keepIn K (.ref C)=true
theorem run_make {pins:List (Addr×Obj)}{σ:St}{H:Hp}{s:Shared}{Q:VK}{us:List Value}{vs:List V}(M:Mk X.K C f)(F:FnOk X.prog X.w X.K X.mg X.base CX k f fd ps sp)(hr:Room (k+1) X.A)(hb:Binds X.K fd ps ds)(hd:Vals dvs ds)
  (hx:Passes CX X E) (I:Inv X pins σ H s) (r:Vals vs us)
  (h:∀x dx,H x=none→H dx=none→dx≠x→sp (.ref x::(vs++dvs)) (upd (upd H dx (.own x)) x (.ins C dx [])) (fun v H2=>v=.non∧Q (.ref x) H2) E):
  wpAny (model X.prog X.w) X.A (call (.ref C) us) (EP X pins σ Q) X.xe s:=by
 have hq:=h (s.heap.objs.size+1) s.heap.objs.size (I.hok.fresh (Nat.le_succ _)) (I.hok.fresh (nr0 _)) (nn0 (Nat.lt_succ_self _))
 have I2:=Inv.made (C:=C) I
 have r2:Vals (V.ref (s.heap.objs.size+1)::(vs++dvs)) (Value.ref (s.heap.objs.size+1)::(us++ds)):=.cons rfl (r.append hd)
 have hl:(Value.ref (s.heap.objs.size+1)::us++ds).length=ps.length:=by
  have e:=r2.length
  rw[F.len _ _ _ _ hq] at e
  exact e.symm
 refine wpAny_call (make_map (f:=f) I.kIn M.makes M.init (beq_iff_eq.mp M.fn) (codeAny_mono (F.run _ X.stack _ _ ⟨Value.ref (s.heap.objs.size+1)::us,[]⟩ (Value.ref (s.heap.objs.size+1)::(us++ds)) _ _ E (hr.make C us [])
  (I2.env0.make C us []) (hb _ (Value.ref (s.heap.objs.size+1)::us) I2.kIn hl) r2 hq) fun r s' hq'=>?_))
 cases r with
 |error e=>exact hx pins σ _ _ e s' I2 hq'
 |ok fl=>
  cases fl with
  |ret u=>
   obtain⟨v,H',I3,rv,ev,q3⟩:=I2.after hq'
   subst ev
   exact⟨rv,⟨V.ref (s.heap.objs.size+1),H',I3,rfl,q3⟩⟩
  |next=>exact False.elim hq'
  |brk=>exact False.elim hq'
  |cont=>exact False.elim hq'
theorem pe_make0 (M:Mk X.K C f)(F:FnOk X.prog X.w X.K X.mg X.base CX k f fd ps sp)(hr:Room (k+1) X.A)(hg:Gl X x)(hm:X.mg x=some (.ref C))(hb:Binds X.K fd ps ds)(hd:Vals dvs ds)(hx:Passes CX X E)
  (hdb:(x==("__debug__":Str))=false:=by decide):PE X (.Call (.Name x p) [] [] pos) (tMake C sp dvs E tNil):=by
 intro pins s σ H Q I h
 refine wpAny_Call_Name_kw (ld_glob I hg hm ?_ hdb)
 exact PySem.W.callWith_K0 I.kIn M.kp (run_make (us:=[]) M F hr hb hd hx I .nil h)
end
section
variable {X:Cx}{CX:CXT}{k:Nat}{f C:Addr}{fd:FuncData}{ps ks:List Str}{sp:Sp}{E:XK}{x m:Str}{p pos apos kpos:Pos}{e o:Expr}{es:List Expr}{kws:List Keyword}{te ta:TE}{t tk:TA}{nm:Option Str}
variable {g:List Value→List Value→List Value}{gV:List V→List V→List V}
end
structure FnScope (N P:List Str)(sc:Scope):Prop where
 kind:sc.kind=.function
 co:sc.isCoroutine=false
 gen:sc.isGenerator=false
 nd:N.Nodup
 pre:N.take P.length=P
 par:∀x∈P,sc.names.lookup x=some .local∨sc.names.lookup x=some .cell
 nofree:∀y∈sc.names,y.2≠.free
theorem bindL_out {kindOf:Str→Option NameKind}{x:Str}:∀{binds:List (Str×Value)} {m:Str→Option Value},(∀v,(x,v)∉binds)→bindL kindOf binds m x=m x
 |[],_,_=>rfl
 |(n,v)::r,m,h=>by
  unfold bindL
  rw[bindL_out fun w hw=>h w (mc0 _ hw)]
  split
  ·have:x≠n:=by rintro rfl;exact h v ms0
   simp[this]
  ·rfl
theorem bindC_out {kindOf:Str→Option NameKind}{x:Str}:∀{binds:List (Str×Value)} {m:Str→Option Value},(∀v,(x,v)∉binds)→bindC kindOf binds m x=m x
 |[],_,_=>rfl
 |(n,v)::r,m,h=>by
  unfold bindC
  rw[bindC_out fun w hw=>h w (mc0 _ hw)]
  split
  ·rfl
  ·have:x≠n:=by rintro rfl;exact h v ms0
   simp[this]
theorem bindL_get {kindOf:Str→Option NameKind}{x:Str}{v:Value}:∀{P:List Str} {vs:List Value} {i:Nat} {m:Str→Option Value},P.Nodup→P[i]?=some x→vs[i]?=some v→kindOf x=some .local→
  bindL kindOf (P.zip vs) m x=some v
 |[],_,_,_,_,h,_,_=>by simp at h
 |_::_,[],_,_,_,_,h,_=>by simp at h
 |p::P,w::vs,0,m,nd,h1,h2,hk=>by
  simp at h1 h2;subst h1;subst h2
  show bindL kindOf ((p,w)::P.zip vs) m p=_
  unfold bindL
  rw[bindL_out fun v hv=>(List.nodup_cons.mp nd).1 (List.of_mem_zip hv).1,if_pos hk]
  simp
 |p::P,w::vs,i+1,m,nd,h1,h2,hk=>by
  show bindL kindOf ((p,w)::P.zip vs) m x=_
  unfold bindL
  exact bindL_get (i:=i) (List.nodup_cons.mp nd).2 (by simpa using h1) (by simpa using h2) hk
theorem bindC_get {kindOf:Str→Option NameKind}{x:Str}{v:Value}:∀{P:List Str} {vs:List Value} {i:Nat} {m:Str→Option Value},P.Nodup→P[i]?=some x→vs[i]?=some v→kindOf x≠some .local→
  bindC kindOf (P.zip vs) m x=some v
 |[],_,_,_,_,h,_,_=>by simp at h
 |_::_,[],_,_,_,_,h,_=>by simp at h
 |p::P,w::vs,0,m,nd,h1,h2,hk=>by
  simp at h1 h2;subst h1;subst h2
  show bindC kindOf ((p,w)::P.zip vs) m p=_
  unfold bindC
  rw[bindC_out fun v hv=>(List.nodup_cons.mp nd).1 (List.of_mem_zip hv).1,if_neg hk]
  simp
 |p::P,w::vs,i+1,m,nd,h1,h2,hk=>by
  show bindC kindOf ((p,w)::P.zip vs) m x=_
  unfold bindC
  exact bindC_get (i:=i) (List.nodup_cons.mp nd).2 (by simpa using h1) (by simpa using h2) hk
noncomputable def start (N:List Str)(vs:List V):St:=vs.map some++List.replicate (N.length-vs.length) none
noncomputable def cxOf (CX:CXT)(P:Program)(w:World)(K:PySem.W.Frag)(mg:Str→Option Value)(base:Heap)(N:List Str)(qual:Str)(scope:Scope)(f:Addr)(cd:Value)(A:Around)(outer:List Env)(s:Shared)(H:Hp)(E:XK):Cx where
 prog:=P
 w:=w
 K:=K
 mg:=mg
 base:=base
 A:=A.deeper (envOfC qual scope s.heap.objs.size f cd)
 N:=N
 s₀:=s
 H₀:=H
 env:=envOfC qual scope s.heap.objs.size f cd
 outer:=outer
 stack:=envOfC qual scope s.heap.objs.size f cd::outer
 ex:=[]
 calm:=true
 fn:=fun _=>true
 pn:=[]
 xe:=fun e s'=>wpAny (model P w) (A.deeper (envOfC qual scope s.heap.objs.size f cd)) (leaving (envOfC qual scope s.heap.objs.size f cd) e) (fun _ s''=>CX outer H s E e s'') (fun e' s''=>CX outer H s E e' s'') s'
theorem cell_has {sc:Scope}{n:Nat}{x:Str}(h:sc.names.lookup x=some .cell):∃c,(cellsFrom n sc.names []).lookup x=some c:=by
 have q:=PySem.W.cellsFrom_some sc.names n [] (.inl h)
 exact Option.isSome_iff_exists.mp q
theorem inv_start {CX:CXT}{P:Program}{w:World}{K:PySem.W.Frag}{mg:Str→Option Value}{base:Heap}{N ps:List Str}{qual:Str}{scope:Scope}{f:Addr}{cd:Value}{A:Around}{outer:List Env}{s s1:Shared}{H:Hp}{E:XK}{us:List Value}{vs:List V}
  (S:FnScope N ps scope) (hd:A.handled=none) (e0:Env0 P w K mg base A outer s H) (hl:vs.length=ps.length) (r:Vals vs us)
  (x:InCallC s s.heap.objs.size (bindL (envOfC qual scope s.heap.objs.size f cd).kindOf (ps.zip us) fun _=>none) (cellsFrom (s.heap.objs.size+1) scope.names []) (bindC (envOfC qual scope s.heap.objs.size f cd).kindOf (ps.zip us) fun _=>none) s1):
  Inv (cxOf CX P w K mg base N qual scope f cd A outer s H E) [] (start N vs) H s1:=by
 have hpl:ps.length≤N.length:=by have:=congrArg List.length S.pre;rw[List.length_take] at this;omega
 obtain⟨h1,tk,rfl,hk⟩:=x.done
 have noA:∀b:Addr,b∉(cxOf CX P w K mg base N qual scope f cd A outer s H E).ex:=fun b z=>absurd (show b∈([]:List Addr) from z) (by simp)
 refine⟨⟨e0.mod,S.kind,rfl,rfl,nr0 _,fun y z c h1 h2=>?_,fun y hy=>?_,fun y c _ h=>?_,fun _=>hd,Around.frames_deeper e0.frames,.inr ⟨rfl,rfl⟩,fun b z=>absurd z (noA b),e0.bs,e0.bsz,fun b _ _=>noA b,fun b z=>absurd z (noA b),e0.funs,e0.frf⟩,
  rfl,e0.bare,Un.kept hk,⟨_,x.toInCall.ns,fun i y v h1 h2 h3=>?_⟩,fun y c h=>⟨_,x.cell y c h⟩,e0.hok.fresh (nr0 _),fun y c h=>?_,fun p hp=>absurd (show p∈([]:List (Addr×Obj)) from hp) (by simp),e0.hok.kept hk,?_⟩
 ·exact name_of_addr x.apart (PySem.mem_of_lookup h1) (PySem.mem_of_lookup h2)
 ·have hy:scope.names.lookup y=some .cell∨scope.names.lookup y=some .free:=hy
  rcases hy with hy|hy
  ·exact cell_has hy
  ·exact absurd rfl (S.nofree _ (PySem.mem_of_lookup hy))
 ·exact Nat.le_of_lt (x.above y c (PySem.mem_of_lookup h))
 ·have hi:i<vs.length:=by
   unfold start at h2
   by_cases hi:i<vs.length
   ·exact hi
   ·rw[List.getElem?_append_right (by simpa using hi)] at h2
    rw[List.getElem?_replicate] at h2
    split at h2<;>cases h2
  have ha:vs[i]?=some v:=by
   unfold start at h2
   rw[List.getElem?_append_left (by simpa using hi),List.getElem?_map] at h2
   cases e:vs[i]? with
   |none=>rw[e] at h2;cases h2
   |some a=>rw[e] at h2;cases h2;rfl
  obtain⟨u,hu,rv⟩:=r.get ha
  have hp:ps[i]?=some y:=by
   rw[←S.pre,List.getElem?_take_of_lt (by omega)];exact h1
  have ndP:ps.Nodup:=by rw[←S.pre];exact S.nd.sublist (List.take_sublist _ _)
  refine⟨u,rv,?_⟩
  rcases S.par y (List.mem_of_getElem? hp) with k|k
  ·exact .inl ⟨k,bindL_get ndP hp hu k⟩
  ·obtain⟨c,e⟩:=cell_has (n:=s.heap.objs.size+1) k
   refine .inr ⟨.inl k,c,e,?_⟩
   have q:=x.cell y c e
   rw[bindC_get ndP hp hu (by show scope.names.lookup y≠_;rw[k];decide)] at q
   exact q
 ·exact e0.hok.fresh (Nat.le_of_lt (x.above y c (PySem.mem_of_lookup h)))
 ·unfold start
  show _=N.length
  rw[List.length_append,lm0,List.length_replicate]
  omega
theorem fn_of {CX:CXT}{P:Program}{w:World}{K:PySem.W.Frag}{mg:Str→Option Value}{base:Heap}{k:Nat}{f:Addr}{name qual:Str}{params:Arguments}{body:List Stmt}{scope:Scope}{dV kV doc pm cdv ct oc:Value}{an od:Option Addr}
  {osl:Array (Option Value)} {N ps:List Str} {sp:Sp} (lk:K.lookup f=some ⟨oc,od,.func (PySem.W.fnOf name qual params body scope dV kV doc pm an cdv ct),osl⟩) (hcd:PySem.W.codeIn K cdv qual=true) (S:FnScope N ps scope)
  (len:∀vs H Q E,sp vs H Q E→vs.length=ps.length)
  (hbody:∀(A:Around) (outer:List Env) (s:Shared) (H:Hp) (vs:List V) (Q:VK) (E:XK),Room k (A.deeper (envOfC qual scope s.heap.objs.size f cdv))→sp vs H Q E→
   ∃t,PSs (cxOf CX P w K mg base N qual scope f cdv A outer s H E) body t∧t {nx:=fun _ H'=>Q .non H',rt:=Q} (start N vs) H):
  FnOk P w K mg base CX (k+1) f (PySem.W.fnOf name qual params body scope dV kV doc pm an cdv ct) ps sp:=by
 refine⟨len,fun A outer s H args us vs Q E hr e0 hb r hsp=>?_⟩
 have hl:=len _ _ _ _ hsp
 have KX:K.In s.heap:=e0.mod.kin.keeps fun b o e=>(e0.bs b o e).1
 have lim:s.heap.NoLimit:=e0.mod.nolimit.keeps fun b o e=>(e0.bs b o e).1
 have hkind:∀y∈ps.zip us,scope.names.lookup y.1=some .local∨(scope.names.lookup y.1=some .cell∧((cellsFrom (s.heap.objs.size+1) scope.names []).lookup y.1).isSome=true):=fun⟨n,v⟩ hy=>by
  rcases S.par n (List.of_mem_zip hy).1 with q|q
  ·exact .inl q
  ·exact .inr ⟨q,PySem.W.cellsFrom_some _ _ _ (.inl q)⟩
 refine codeAny_call_function hr.depth (KX _ _ lk) rfl S.co S.gen rfl (PySem.W.codeRec_of KX hcd) (hb _ _ _ _ ?_)
 refine wpAny_newFunctionEnv_cells S.kind hkind fun env he s1 x=>?_
 subst he
 refine⟨lim.keeps x.toInCall.keep,codeAny_func ?_⟩
 obtain⟨t,ht,hq⟩:=hbody A outer s H vs Q E (hr.deeper _) hsp
 have I:Inv (cxOf CX P w K mg base N qual scope f cdv A outer s H E) [] (start N vs) H s1:=inv_start S hr.hd e0 hl r x
 refine wpAny_mono (ht [] s1 (start N vs) H _ I hq) (fun fl s' hs=>?_) fun e s' hs=>hs
 have fin:∀{σ':St} {H':Hp} {v:V} {u:Value},Inv (cxOf CX P w K mg base N qual scope f cdv A outer s H E) [] σ' H' s'→RelV v u→Q v H'→CE outer P w H s Q u s':=
  fun {σ' H' v u} J rv q=>⟨v,H',J.os,J.bare,J.base,J.hok,rv,q⟩
 cases fl with
 |ret u=>
  obtain⟨v,σ',H',J,rv,q⟩:=hs
  exact fin J rv q
 |next=>
  obtain⟨σ',H',J,q⟩:=hs
  exact fin (v:=V.non) (u:=Value.none) J rfl q
 |brk=>
  obtain⟨_,_,_,q⟩:=hs
  exact False.elim q
 |cont=>
  obtain⟨_,_,_,q⟩:=hs
  exact False.elim q
section
variable {X:Cx}{x:Str}{p pos:Pos}{e:Expr}{es:List Expr}{t:TA}{id T:String}{r:List V→Hp→VK→Prop}
noncomputable def tCB (r:List V→Hp→VK→Prop)(t:TA):TE:=fun σ H Q=>t σ H fun vs H1=>r vs H1 Q
theorem pe_callB (hc:CallR X (.builtin id) r)(hg:Gl X x)(hm:X.mg x=none)(hv:bootBuiltins x=some (.builtin id))(ha:PA X (e::es) t)(hn:x≠"__name__":=by decide)(hdb:(x==("__debug__":Str))=false:=by decide)
  (he:starEach (e::es) X.env=(false,eval e X.env)::starEach es X.env:=by rfl) (hpl:(backTo pos (starEach es X.env)).any (·.1)=false:=by rfl):PE X (.Call (.Name x p) (e::es) [] pos) (tCB r t):=by
 intro pins s σ H Q I h
 refine wpAny_Call_Name_kw (ld_blt I hg hm hv ?_ hn hdb)
 exact PyProof.Rows.callWith_builtin1 (thn (ha pos pins s σ H _ I h) fun us s1 ⟨vs,H1,I1,r1,q1⟩=>hc pins s1 σ H1 vs us Q I1 r1 q1) he hpl
theorem pe_callTy (hc:CallR X (.type T) r)(hg:Gl X x)(hm:X.mg x=none)(hv:bootBuiltins x=some (.type T))(ha:PA X (e::es) t)(hn:x≠"__name__":=by decide)(hdb:(x==("__debug__":Str))=false:=by decide)
  (he:starEach (e::es) X.env=(false,eval e X.env)::starEach es X.env:=by rfl) (hpl:(backTo pos (starEach es X.env)).any (·.1)=false:=by rfl):PE X (.Call (.Name x p) (e::es) [] pos) (tCB r t):=by
 intro pins s σ H Q I h
 refine wpAny_Call_Name_kw (ld_blt I hg hm hv ?_ hn hdb)
 exact PyProof.Rows.callWith_type1 (thn (ha pos pins s σ H _ I h) fun us s1 ⟨vs,H1,I1,r1,q1⟩=>hc pins s1 σ H1 vs us Q I1 r1 q1) he hpl
end
end L2
namespace HT
open PySem PyProof.Rows
section
open PySem.SeqAt
open PySem.AutoSeq1 (wpAny_loadPart')
open PySem.MeetsSeq PySem.MeetsSeq2 PySem.MeetsSeq3
end
section
variable {prog:Program}{w:World}{A:Around}{E:Value→Shared→Prop}{s:Shared}
noncomputable def sIx (n d:Nat):Option Int→Nat
 |none=>d
 |some v=>if v<0 then (v+(n:Int)).toNat else min v.toNat n
end
end HT
namespace L2
open PySem PySem.Spec PyProof.Rows
noncomputable abbrev TO:=St→Hp→(Option Int→Hp→Prop)→Prop
noncomputable def PO (X:Cx)(e:Option Expr)(t:TO):Prop:=
 ∀(pins:List (Addr×Obj)) (s:Shared) (σ:St) (H:Hp) (Q:Option Int→Hp→Prop),Inv X pins σ H s→t σ H Q→
  wpAny (model X.prog X.w) X.A (evalPart e X.env) (fun u s'=>∃o H',Inv X pins σ H' s'∧IsPart u o∧Q o H') X.xe s
noncomputable def tNoPart:TO:=fun _ H Q=>Q none H
noncomputable def tPart (t:TE):TO:=fun σ H Q=>t σ H fun x H1=>∃i,x=.int i∧Q (some i) H1
section
variable {X:Cx}{e:Expr}{te:TE}{lo hi:Option Expr}{tl th:TO}{pos p2:Pos}
theorem po_none:PO X none tNoPart:=by
 intro pins s σ H Q I h
 rw[evalPart_none]
 exact wpAny_pure ⟨none,H,I,.none,h⟩
theorem po_some (h:PE X e te):PO X (some e) (tPart te):=by
 intro pins s σ H Q I hw
 rw[evalPart_some]
 refine thn (h pins s σ H _ I hw) fun u s1 ⟨x,H1,I1,r1,q1⟩=>?_
 obtain⟨i,rfl,q⟩:=q1
 obtain⟨t,rfl⟩:=r1
 exact⟨some i,H1,I1,.int i t,q⟩
noncomputable def SlR (X:Cx)(r:V→Option Int→Option Int→Hp→VK→Prop):Prop:=
 ∀(pins:List (Addr×Obj)) (s:Shared) (σ:St) (H:Hp) (x:V) (v vl vu:Value) (lo hi:Option Int) (sl:Addr) (Q:VK),Inv X pins σ H s→RelV x v→s.heap.IsSliceOf sl vl vu .none→IsPart vl lo→IsPart vu hi→r x lo hi H Q→
  ∃T id,typeLookup (.type T) "__getitem__"=pure (some (.builtin id))∧s.TypeIs v T∧wpAny (model X.prog X.w) X.A (getItem v (.ref sl)) (EP X pins σ Q) X.xe s
noncomputable def tSl (r:V→Option Int→Option Int→Hp→VK→Prop)(te:TE)(tl th:TO):TE:=fun σ H Q=>te σ H fun x H1=>tl σ H1 fun l H2=>th σ H2 fun u H3=>r x l u H3 Q
theorem pe_slice {r:V→Option Int→Option Int→Hp→VK→Prop}(hr:SlR X r)(he:PE X e te)(hl:PO X lo tl)(hu:PO X hi th):PE X (.Subscript e (.Slice lo hi none p2) pos) (tSl r te tl th):=by
 intro pins s σ H Q I h
 refine Subscript_ (thn (he pins s σ H _ I h) fun v s1 ⟨x,H1,I1,r1,q1⟩=>?_)
 refine wpAny_Slice (thn (hl pins s1 σ H1 _ I1 q1) fun vl s2 ⟨l,H2,I2,pl,q2⟩=>thn (hu pins s2 σ H2 _ I2 q2) fun vu s3 ⟨u,H3,I3,pu,q3⟩=>?_)
 rw[evalPart_none]
 refine wpAny_pure ?_
 have I4:Inv X pins σ H3 {s3 with heap:=s3.heap.push {cls:=.type "slice",data:=.fields #[vl,vu,.none]}}:=I3.kept (t':=s3.toks) fun b ob q=>ps0 _ q
 obtain⟨T,id,hT,ht,hg⟩:=hr pins {s3 with heap:=s3.heap.push {cls:=.type "slice",data:=.fields #[vl,vu,.none]}} σ H3 x v vl vu l u s3.heap.objs.size Q I4 r1 (Heap.IsSliceOf.new ..) pl pu q3
 show wpAny (model X.prog X.w) X.A (subscriptTail e (.Slice lo hi none p2) v (.ref s3.heap.objs.size)) (EP X pins σ Q) X.xe {s3 with heap:=s3.heap.push {cls:=.type "slice",data:=.fields #[vl,vu,.none]}}
 exact tail_any (ops:=[.ref s3.heap.objs.size,v]) ht hT hg (by with_unfolding_all rfl)
noncomputable def cutV (xs:List V)(lo hi:Option Int):List V:=(xs.drop (HT.sIx xs.length 0 lo)).take (HT.sIx xs.length xs.length hi-HT.sIx xs.length 0 lo)
theorem cutV_length (xs:List V)(lo hi:Option Int):(cutV xs lo hi).length≤xs.length:=by
 unfold cutV
 rw[List.length_take,List.length_drop]
 omega
end
noncomputable def ixN (n:Nat)(i:Int):Option Nat:=if 0≤i then (if i<n then some i.toNat else none) else if -(n:Int)≤i then some (i+n).toNat else none
noncomputable def atI {α:Type}(xs:List α)(i:Int):Option α:=(ixN xs.length i).bind fun j=>xs[j]?
theorem ixN_seq {n:Nat}{i:Int}{j:Nat}(h:ixN n i=some j):seqIndex? i n=some j∧j<n∧ -(n:Int)≤i∧i<n:=by
 unfold ixN at h
 by_cases h0:0≤i
 ·rw[if_pos h0] at h
  by_cases h1:i<n
  ·rw[if_pos h1] at h
   have e:i.toNat=j:=Option.some.inj h
   exact⟨by rw[seqIndex_of h0 h1,e],by omega,by omega,h1⟩
  ·rw[if_neg h1] at h;cases h
 ·rw[if_neg h0] at h
  by_cases h1:-(n:Int)≤i
  ·rw[if_pos h1] at h
   have e:(i+n).toNat=j:=Option.some.inj h
   exact⟨by rw[seqIndex_neg (by omega) h1,e],by omega,h1,by omega⟩
  ·rw[if_neg h1] at h;cases h
theorem atI_get {α:Type}{xs:List α}{i:Int}{v:α}(h:atI xs i=some v):∃j,seqIndex? i xs.length=some j∧xs[j]?=some v∧j<xs.length∧ -(xs.length:Int)≤i∧i<xs.length:=by
 unfold atI at h
 cases e:ixN xs.length i with
 |none=>rw[e] at h;cases h
 |some j=>
  rw[e] at h
  obtain⟨h1,h2,h3,h4⟩:=ixN_seq e
  exact⟨j,h1,h,h2,h3,h4⟩
theorem atI_last {α:Type}(xs:List α)(v:α):atI (xs++[v]) (-1)=some v:=by
 have hl:(xs++[v]).length=xs.length+1:=by simp
 have e:ixN (xs++[v]).length (-1)=some xs.length:=by
  unfold ixN
  rw[hl,if_neg (by decide),if_pos (by omega)]
  congr 1
  omega
 unfold atI
 rw[e]
 show (xs++[v])[xs.length]?=some v
 simp
noncomputable def PlainIx (b:Expr):Prop:=∀o i,subscripted b false o i=operate [o,i] (getItem o i)
noncomputable def IxR (X:Cx)(r:R2):Prop:=
 ∀(value slice:Expr) (pins:List (Addr×Obj)) (s:Shared) (σ:St) (H:Hp) (x y:V) (v u:Value) (Q:VK),Inv X pins σ H s→RelV x v→RelV y u→r x y H Q→
  subscripted slice false v u=operate [v,u] (getItem v u)→wpAny (model X.prog X.w) X.A (subscriptTail value slice v u) (EP X pins σ Q) X.xe s
noncomputable def MtR (X:Cx)(id:String)(r:V→List V→Hp→VK→Prop):Prop:=
 ∀(pins:List (Addr×Obj)) (s:Shared) (σ:St) (H:Hp) (x:V) (xs:List V) (v:Value) (us:List Value) (Q:VK),Inv X pins σ H s→RelV x v→Vals xs us→r x xs H Q→
  wpAny (model X.prog X.w) X.A (call (.builtin id) (v::us)) (EP X pins σ Q) X.xe s
section
variable {X:Cx}{a b:Expr}{ta tb:TE}{pos:Pos}
theorem pe_ix {r:R2}(hr:IxR X r)(ha:PE X a ta)(hb:PE X b tb)(hs:PlainIx b):PE X (.Subscript a b pos) (tOp r ta tb):=by
 intro pins s σ H Q I h
 exact Subscript_ (binT ha hb I h fun v u s2 x y H2 I2 rx ry q=>hr a b pins s2 σ H2 x y v u Q I2 rx ry q (hs _ _))
noncomputable def rIxL (K:PySem.W.Frag):R2:=fun x y H Q=>∃p xs i v,x=.ref p∧y=.int i∧SqL K H p xs∧atI xs i=some v∧Q v H
noncomputable def rIxT (K:PySem.W.Frag):R2:=fun x y H Q=>∃p xs i v,x=.ref p∧y=.int i∧SqT K H p xs∧atI xs i=some v∧Q v H
noncomputable def rIxS:R2:=fun x y H Q=>∃z i c,x=.str z∧y=.int i∧z.length≤sizeLine∧atI z.cps.toList i=some c∧Q (.str ⟨#[c]⟩) H
theorem ix_list:IxR X (rIxL X.K):=by
 intro value slice pins s σ H x y v u Q I rx ry h hs
 obtain⟨p,xs,i,z,rfl,rfl,hq,he,q⟩:=h
 cases rx
 obtain⟨t,rfl⟩:=ry
 obtain⟨its,r,pl,hz⟩:=I.list hq
 obtain⟨j,h1,h2,h3,h4,h5⟩:=atI_get he
 obtain⟨w,ew,rw'⟩:=r.get h2
 have hl:=r.length
 have hn:=line63
 have fin:EP X pins σ Q w s:=⟨z,H,I,rw',q⟩
 by_cases h0:0≤i
 ·have hj:i.toNat=j:=by
   rw[seqIndex_of h0 h5] at h1
   exact Option.some.inj h1
  exact item_listR pl.isList h0 (by omega) (by rw[hj];simpa using ew) fin hs
 ·have hj:(i+(its.toArray.size:Int)).toNat=j:=by
   rw[seqIndex_neg (by omega) h4] at h1
   rw[ls0,←hl]
   exact Option.some.inj h1
  exact subscriptTail_builtinR (x:=w) pl.isList.typeIs slot_list_getitem.lookup
   (wpAny_getItem_list_neg (Q:=fun r s'=>r=w∧EP X pins σ Q r s') pl.isList (by omega) (by rw[ls0]<;>omega) (by omega) (by rw[hj];simpa using ew) ⟨rfl,fin⟩) hs
theorem ix_tup:IxR X (rIxT X.K):=by
 intro value slice pins s σ H x y v u Q I rx ry h hs
 obtain⟨p,xs,i,z,rfl,rfl,hq,he,q⟩:=h
 cases rx
 obtain⟨t,rfl⟩:=ry
 obtain⟨its,r,pl,hz⟩:=I.tuple hq
 obtain⟨j,h1,h2,h3,h4,h5⟩:=atI_get he
 obtain⟨w,ew,rw'⟩:=r.get h2
 have hl:=r.length
 have hn:=line63
 have fin:EP X pins σ Q w s:=⟨z,H,I,rw',q⟩
 exact subscriptTail_builtinR (x:=w) pl.typeIs slot_tuple_getitem.lookup
  (getItem_tuple (j:=j) (Q:=fun r s'=>r=w∧EP X pins σ Q r s') pl (by omega) (by omega) (by rw[ls0,←hl];exact h1) (by simpa using ew) ⟨rfl,fin⟩) hs
theorem ix_str:IxR X rIxS:=by
 intro value slice pins s σ H x y v u Q I rx ry h hs
 obtain⟨z,i,c,rfl,rfl,hz,he,q⟩:=h
 obtain⟨t,rfl⟩:=rx
 obtain⟨t',rfl⟩:=ry
 obtain⟨j,h1,h2,h3,h4,h5⟩:=atI_get he
 have hl:z.cps.toList.length=z.length:=by simp[Str.length]
 rw[hl] at h1 h4 h5
 have hn:=line63
 exact tail_any (typeIs_str s z t) slot_str_getitem.lookup (getItem_str (c:=c) (by
  have e1:decide (i < -(2 ^ 63:Int))=false:=decide_eq_false (by omega)
  have e2:decide (i≥2 ^ 63)=false:=decide_eq_false (by omega)
  rw[e1,e2,Bool.or_false]) (by rw[h1];simpa using h2) ⟨.str ⟨#[c]⟩,H,I.tok _,⟨_,rfl⟩,q⟩) hs
theorem mapSeq_set (its:List Value)(n j:Nat)(u:Value):Obj.mapSeq (·.setIfInBounds j u) {cls:=.type "list",data:=.seq its.toArray n}={cls:=.type "list",data:=.seq (its.set j u).toArray n}:=by
 simp[Obj.mapSeq]
theorem Inv.lst {pins:List (Addr×Obj)}{σ:St}{H:Hp}{s:Shared}{p:Addr}{xs:List V}(I:Inv X pins σ H s)(h:H p=some (.lst xs)):
  ∃(its:List Value) (n:Nat),Vals xs its∧s.heap.get? p=some {cls:=.type "list",data:=.seq its.toArray n}∧xs.length≤sizeLine:=by
 obtain⟨z,its,n,r,e⟩:=I.hok p _ h
 exact⟨its,n,r,e,z⟩
theorem Inv.lstUpd {pins:List (Addr×Obj)}{σ:St}{H:Hp}{s:Shared}{p:Addr}{xs ys:List V}{its its':List Value}{n n':Nat}{f:Obj→Obj}(I:Inv X pins σ H s)(h:H p=some (.lst xs))
  (ho:s.heap.get? p=some {cls:=.type "list",data:=.seq its.toArray n}) (hf:f {cls:=.type "list",data:=.seq its.toArray n}={cls:=.type "list",data:=.seq its'.toArray n'}) (r:Vals ys its') (hz:ys.length≤sizeLine) (t:Nat):
  Inv X pins σ (upd H p (.lst ys)) {s with heap:=s.heap.update p f,toks:=t}:=by
 have e:(s.heap.update p f).get? p=some {cls:=.type "list",data:=.seq its'.toArray n'}:=by
  rw[Heap.get?_update_self f ho (by rw[hf]<;>rfl),hf]
 refine I.write (x:=p) (e:=p) (by rw[h];trivial) (.inl rfl) (fun b u hb q=>(Heap.get?_update_other _ _ (Ne.symm hb)).trans q) ⟨_,e⟩ ?_
 exact⟨hz,its',n',r,e⟩
noncomputable def rSetL:V→V→V→Hp→(Hp→Prop)→Prop:=fun o i v H Q=>∃p xs k j,o=.ref p∧i=.int k∧H p=some (.lst xs)∧ixN xs.length k=some j∧Q (upd H p (.lst (xs.set j v)))
theorem set_list:PSet X rSetL:=by
 intro pins s σ H o i v ov iv u Q I ro ri rv h
 obtain⟨p,xs,k,j,rfl,rfl,hp,hj,q⟩:=h
 cases ro
 obtain⟨t,rfl⟩:=ri
 obtain⟨its,n,r,ho,hz⟩:=I.lst hp
 obtain⟨h1,h2,h3,h4⟩:=ixN_seq hj
 have hl:=r.length
 have hn:=line63
 have I':Inv X pins σ (upd H p (.lst (xs.set j v))) {s with heap:=s.heap.update p (Obj.mapSeq (·.setIfInBounds j u))}:=
  I.lstUpd hp ho (mapSeq_set its n j u) (r.set rv j) (by rw[List.length_set];exact hz) s.toks
 by_cases h0:0≤k
 ·have hk:k.toNat=j:=by
   rw[seqIndex_of h0 h4] at h1
   exact Option.some.inj h1
  exact PySem.W.ki_setAt ho h0 (by omega) (by rw[ls0,←hl];exact h4) (by rw[hk];exact⟨_,I',q⟩)
 ·have hk:(k+(its.toArray.size:Int)).toNat=j:=by
   rw[seqIndex_neg (by omega) h3] at h1
   rw[ls0,←hl]
   exact Option.some.inj h1
  exact PySem.W.ki_setBack ho (by omega) (by rw[ls0,←hl];exact h3) (by omega) (by rw[hk];exact⟨_,I',q⟩)
theorem slice_bounds (lo hi:Option Int)(n:Nat):(sliceBounds lo hi none n).1=((HT.sIx n 0 lo:Nat):Int)∧(sliceBounds lo hi none n).2.1=((HT.sIx n n hi:Nat):Int)∧(sliceBounds lo hi none n).2.2=1:=by
 refine⟨?_,?_,rfl⟩
 ·cases lo with
  |none=>simp[sliceBounds,HT.sIx]
  |some i=>
   simp only[sliceBounds,HT.sIx,Option.getD_none,show (1:Int)>0 by decide,if_true]
   by_cases h:i<0
   ·simp only[h,if_true]<;>omega
   ·simp only[h,if_false]<;>omega
 ·cases hi with
  |none=>simp[sliceBounds,HT.sIx]
  |some i=>
   simp only[sliceBounds,HT.sIx,Option.getD_none,show (1:Int)>0 by decide,if_true]
   by_cases h:i<0
   ·simp only[h,if_true]<;>omega
   ·simp only[h,if_false]<;>omega
theorem slicePick_cut (its:List Value)(lo hi:Option Int):slicePick its.toArray lo hi none=((its.drop (HT.sIx its.length 0 lo)).take (HT.sIx its.length its.length hi-HT.sIx its.length 0 lo)).toArray:=by
 obtain⟨h1,h2,h3⟩:=slice_bounds lo hi its.toArray.size
 unfold slicePick
 rw[h1,h2,h3]
 simp only[sliceRange_one,pick_run,ls0]<;>rfl
noncomputable def rSlL (K:PySem.W.Frag):V→Option Int→Option Int→Hp→VK→Prop:=fun x lo hi H Q=>∃a xs,x=.ref a∧SqL K H a xs∧∀p,H p=none→Q (.ref p) (upd H p (.lst (cutV xs lo hi)))
theorem sl_list:SlR X (rSlL X.K):=by
 intro pins s σ H x v vl vu lo hi sl Q I rx hs pl pu h
 obtain⟨a,xs,rfl,hx,q⟩:=h
 cases rx
 obtain⟨its,r,ht,hz⟩:=I.list hx
 have hlen:=r.length
 refine⟨"list",_,slot_list_getitem.lookup,ht.isList.typeIs,?_⟩
 refine wpAny_getItem_list_slice ht.isList hs pl pu .none (by simp) ?_ (by rw[ls0]<;>omega)
 rw[slicePick_cut,←hlen]
 refine⟨.ref s.heap.objs.size,_,I.laid (t':=s.toks) (o:=.lst (cutV xs lo hi)) (fun b ob q=>ps0 _ q) (nr0 _) ?_,rfl,q _ (I.hok.fresh (nr0 _))⟩
 exact⟨nt0 (cutV_length xs lo hi) hz,_,0,(r.drop (HT.sIx xs.length 0 lo)).take (HT.sIx xs.length xs.length hi-HT.sIx xs.length 0 lo),pz0 _ rfl⟩
noncomputable def flatV:V→Bool
 |.non=>true
 |.bl _=>true
 |.int _=>true
 |.str _=>true
 |_=>false
noncomputable def eqV:V→V→Bool
 |.non,.non=>true
 |.bl a,.bl b=>a==b
 |.bl a,.int b=>(if a then 1 else 0)==b
 |.int a,.bl b=>a==(if b then 1 else 0)
 |.int a,.int b=>a==b
 |.str a,.str b=>a==b
 |_,_=>false
theorem eqAt_V {A:Around}{s:Shared}{y x:V}{u v:Value}(ry:RelV y u)(rx:RelV x v)(fy:flatV y=true)(fx:flatV x=true):SeqAt.EqAt A s u v (eqV y x):=by
 cases y with
 |non=>
  cases ry
  cases x with
  |non=>cases rx;exact SeqAt.EqAt.same _
  |bl b=>cases rx;exact SeqAt.EqAt.none_bool b
  |int b=>obtain⟨t,rfl⟩:=rx;exact SeqAt.EqAt.none_int b t
  |str b=>obtain⟨t,rfl⟩:=rx;exact SeqAt.EqAt.none_str b t
  |_=>exact absurd (show false=true from fx) fx0
 |bl a=>
  cases ry
  cases x with
  |non=>cases rx;exact SeqAt.EqAt.bool_none a
  |bl b=>cases rx;exact SeqAt.EqAt.bool_bool a b
  |int b=>obtain⟨t,rfl⟩:=rx;exact SeqAt.EqAt.bool_int a b t
  |str b=>obtain⟨t,rfl⟩:=rx;exact SeqAt.EqAt.bool_str a b t
  |_=>exact absurd (show false=true from fx) fx0
 |int a=>
  obtain⟨t',rfl⟩:=ry
  cases x with
  |non=>cases rx;exact SeqAt.EqAt.int_none a t'
  |bl b=>cases rx;exact SeqAt.EqAt.int_bool a t' b
  |int b=>obtain⟨t,rfl⟩:=rx;exact SeqAt.EqAt.int_int a t' b t
  |str b=>obtain⟨t,rfl⟩:=rx;exact SeqAt.EqAt.int_str a t' b t
  |_=>exact absurd (show false=true from fx) fx0
 |str a=>
  obtain⟨t',rfl⟩:=ry
  cases x with
  |non=>cases rx;exact SeqAt.EqAt.str_none a t'
  |bl b=>cases rx;exact SeqAt.EqAt.str_bool a t' b
  |int b=>obtain⟨t,rfl⟩:=rx;exact SeqAt.EqAt.str_int a t' b t
  |str b=>obtain⟨t,rfl⟩:=rx;exact SeqAt.EqAt.str_str a t' b t
  |_=>exact absurd (show false=true from fx) fx0
 |_=>exact absurd (show false=true from fy) fx0
noncomputable def eqU (x:V)(u:Value):Bool:=match u with
 |.none=>eqV .non x
 |.bool b=>eqV (.bl b) x
 |.int i _=>eqV (.int i) x
 |.str z _=>eqV (.str z) x
 |_=>false
theorem eqU_of {x y:V}{u:Value}(r:RelV y u)(f:flatV y=true):eqU x u=eqV y x:=by
 cases y with
 |non=>cases r;rfl
 |bl b=>cases r;rfl
 |int i=>obtain⟨t,rfl⟩:=r;rfl
 |str z=>obtain⟨t,rfl⟩:=r;rfl
 |_=>exact absurd (show false=true from f) fx0
theorem any_eqU {x:V}:∀{xs:List V} {us:List Value},Vals xs us→xs.all flatV=true→us.any (eqU x)=xs.any fun y=>eqV y x
 |_,_,.nil,_=>rfl
 |y::xs,u::us,.cons r t,f=>by
  rw[List.all_cons,be0] at f
  rw[List.any_cons,List.any_cons,eqU_of r f.1,any_eqU t f.2]
theorem mem_eqAt {A:Around}{s:Shared}{x:V}{v:Value}(rx:RelV x v)(fx:flatV x=true):∀{xs:List V} {us:List Value},Vals xs us→xs.all flatV=true→∀u∈us,SeqAt.EqAt A s u v (eqU x u)
 |_,_,.nil,_=>fun u hu=>by cases hu
 |y::xs,u::us,.cons r t,f=>fun u' hu=>by
  rw[List.all_cons,be0] at f
  rcases List.mem_cons.mp hu with rfl|hu
  ·rw[eqU_of r f.1];exact eqAt_V r rx f.1 fx
  ·exact mem_eqAt rx fx t f.2 u' hu
noncomputable def inV (x:V)(xs:List V):Bool:=xs.any fun y=>eqV y x
noncomputable def rIn (K:PySem.W.Frag)(neg:Bool):R2:=fun x y H Q=>∃p xs,y=.ref p∧(SqL K H p xs∨SqT K H p xs)∧flatV x=true∧xs.all flatV=true∧Q (.bl (if neg then !inV x xs else inV x xs)) H
theorem op_in_seq:OpR X (compareOp .In) (rIn X.K false):=by
 intro pins s σ H x y v u Q I rx ry h
 obtain⟨p,xs,rfl,hq,fx,fs,q⟩:=h
 cases ry
 rcases hq with hq|hq
 ·obtain⟨its,r,pl,hz⟩:=I.list hq
  refine SeqAt.in_listAt (eqU x) pl.isList (fun w hw=>mem_eqAt rx fx r fs w (by simpa using hw)) ⟨.bl _,H,I,rfl,?_⟩
  rw[show its.toArray.any (eqU x)=its.any (eqU x) by simp,any_eqU r fs]
  exact q
 ·obtain⟨its,r,pl,hz⟩:=I.tuple hq
  refine SeqAt.in_tupleAt (eqU x) pl (fun w hw=>mem_eqAt rx fx r fs w (by simpa using hw)) ⟨.bl _,H,I,rfl,?_⟩
  rw[show its.toArray.any (eqU x)=its.any (eqU x) by simp,any_eqU r fs]
  exact q
theorem call_len_seq:CallR X (.builtin "len") (fun xs H Q=>∃p ys,xs=[.ref p]∧(SqL X.K H p ys∨SqT X.K H p ys)∧Q (.int ys.length) H):=by
 intro pins s σ H xs us Q I r h
 obtain⟨p,ys,rfl,hq,q⟩:=h
 obtain⟨u,rfl,rx⟩:=vals1 r
 cases rx
 have hn:=line63
 rcases hq with hq|hq
 ·obtain⟨its,r',pl,hz⟩:=I.list hq
  have hlen:=r'.length
  exact Calls.call_len_list pl.isList (by simp only[ls0]<;>omega) ⟨.int ys.length,H,I.tok _,⟨s.toks+1,by rw[ls0,hlen]⟩,q⟩
 ·obtain⟨its,r',pl,hz⟩:=I.tuple hq
  have hlen:=r'.length
  exact len_tuple pl (by simp only[ls0]<;>omega) ⟨.int ys.length,H,I.tok _,⟨s.toks+1,by rw[ls0,hlen]⟩,q⟩
theorem call_list_of:CallR X (.type "list") (fun xs H Q=>∃p ys,xs=[.ref p]∧(SqL X.K H p ys∨SqT X.K H p ys)∧∀l,H l=none→Q (.ref l) (upd H l (.lst ys))):=by
 intro pins s σ H xs us Q I r h
 obtain⟨p,ys,rfl,hq,q⟩:=h
 obtain⟨u,rfl,rx⟩:=vals1 r
 cases rx
 have fin:∀(its:List Value),Vals ys its→ys.length≤sizeLine→∀(h':Heap) (c':Nat),(∀b o',s.heap.get? b=some o'→h'.get? b=some o')→
   h'.get? s.heap.objs.size=some {cls:=.type "list",dict:=none,data:=.seq its.toArray c',slots:=#[]}→EP X pins σ Q (.ref s.heap.objs.size) {s with heap:=h'}:=fun its r' hz h' c' kp e=>
  ⟨.ref s.heap.objs.size,_,I.laid (t':=s.toks) kp (nr0 _) (show ObjOk X.prog X.w _ h' _ (.lst ys) from⟨hz,its,c',r',e⟩),rfl,q _ (I.hok.fresh (nr0 _))⟩
 rcases hq with hq|hq
 ·obtain⟨its,r',pl,hz⟩:=I.list hq
  have hlen:=r'.length
  obtain⟨o,ho,hc,n,hd⟩:=pl.isList
  exact call_list_seq p (.inl rfl) ho hc hd (fun h' c' kp e=>fin its r' hz h' c' kp e) (by simp only[ls0]<;>omega)
 ·obtain⟨its,r',pl,hz⟩:=I.tuple hq
  have hlen:=r'.length
  obtain⟨o,ho,hc,n,hd⟩:=pl
  exact call_list_seq p (.inr rfl) ho hc hd (fun h' c' kp e=>fin its r' hz h' c' kp e) (by simp only[ls0]<;>omega)
theorem call_tuple_of:CallR X (.type "tuple") (fun xs H Q=>∃p ys,xs=[.ref p]∧((SqL X.K H p ys∧∀l,H l=none→Q (.ref l) (upd H l (.tup ys)))∨(SqT X.K H p ys∧Q (.ref p) H))):=by
 intro pins s σ H xs us Q I r h
 obtain⟨p,ys,rfl,h⟩:=h
 obtain⟨u,rfl,rx⟩:=vals1 r
 cases rx
 rcases h with⟨hq,q⟩|⟨hq,q⟩
 ·obtain⟨its,r',pl,hz⟩:=I.list hq
  have hlen:=r'.length
  refine call_tuple_list pl.isList (fun h' kp=>?_) (by simp only[ls0]<;>omega)
  have I1:Inv X pins σ H {s with heap:=h'}:=I.kept (t':=s.toks) kp
  have I2:Inv X pins σ (upd H h'.objs.size (.tup ys)) {s with heap:=h'.push {cls:=.type "tuple",data:=.seq its.toArray}}:=
   I1.laid (t':=s.toks) (fun b o e=>ps0 _ e) (nr0 _) (show ObjOk X.prog X.w _ _ _ (.tup ys) from⟨hz,its,r',IsTup.new _ _⟩)
  exact⟨.ref h'.objs.size,_,I2,rfl,q _ (I1.hok.fresh (nr0 _))⟩
 ·obtain⟨its,r',pl,hz⟩:=I.tuple hq
  exact call_tuple_same pl ⟨.ref p,H,I,rfl,q⟩
noncomputable def tyV (K:PySem.W.Frag)(T:String)(x:V)(H:Hp):Prop:=match x with
 |.str _=>T="str"
 |.int _=>T="int"
 |.ref p=>(T="list"∧∃xs,SqL K H p xs)∨(T="tuple"∧∃o,K.lookup p=some o∧o.cls=.type "tuple"∧o.dict=none)∨
   (T="dict"∧((∃kvs,H p=some (.dK kvs))∨∃kvs,H p=some (.dT kvs)))∨(T="set"∧∃S n,H p=some (.set S n))
 |_=>False
theorem tyV_is {pins:List (Addr×Obj)}{σ:St}{H:Hp}{s:Shared}{T:String}{x:V}{v:Value}(I:Inv X pins σ H s)(r:RelV x v)(ty:tyV X.K T x H):
  s.TypeIs v T∧∀a,v=.ref a→∃ob,s.heap.get? a=some ob∧ob.dict=none:=by
 cases x with
 |str z=>
  obtain⟨t,rfl⟩:=r
  cases (show T="str" from ty)
  exact⟨typeIs_str s z t,fun _ e=>nomatch e⟩
 |int i=>
  obtain⟨t,rfl⟩:=r
  cases (show T="int" from ty)
  exact⟨typeIs_int s i t,fun _ e=>nomatch e⟩
 |ref p=>
  cases r
  rcases ty with⟨rfl,xs,hq⟩|⟨rfl,o,hk,hc,hd⟩|⟨rfl,hk⟩|⟨rfl,S,n,hk⟩
  ·obtain⟨its,_,pl,_⟩:=I.list hq
   refine⟨pl.isList.typeIs,fun a e=>?_⟩
   cases e
   obtain⟨o,n,e,c,hd,_⟩:=pl
   exact⟨o,e,hd⟩
  ·refine⟨⟨o,I.kIn p o hk,hc⟩,fun a e=>?_⟩
   cases e
   exact⟨o,I.kIn _ o hk,hd⟩
  ·have z:∃o,s.heap.get? p=some o∧o.ExactDict:=by
    rcases hk with⟨kvs,hk⟩|⟨kvs,hk⟩
    ·obtain⟨_,_,_,_,o,_,_,e,ex,_⟩:=I.hok p _ hk
     exact⟨o,e,ex⟩
    ·obtain⟨_,_,_,_,o,_,_,e,ex,_⟩:=I.hok p _ hk
     exact⟨o,e,ex⟩
   obtain⟨o,e,ex⟩:=z
   refine⟨⟨o,e,ex.1⟩,fun a e2=>?_⟩
   cases e2
   exact⟨o,e,ex.2.1⟩
  ·obtain⟨o,_,_,_,e,ex,_⟩:=I.hok p _ hk
   refine⟨⟨o,e,ex.1⟩,fun a e2=>?_⟩
   cases e2
   exact⟨o,e,ex.2.1⟩
 |_=>exact False.elim ty
noncomputable def tBM (K:PySem.W.Frag)(T:String)(r:V→List V→Hp→VK→Prop)(to:TE)(t:TA):TE:=fun σ H Q=>to σ H fun x H1=>tyV K T x H1∧t σ H1 fun xs H2=>r x xs H2 Q
variable {o e:Expr}{es:List Expr}{to:TE}{t:TA}{name:Str}{apos cpos:Pos}{T id:String}{r:V→List V→Hp→VK→Prop}
theorem pe_bm (pa:PlainAttrs T)(slot:Slot T name id)(hty:typeOf (.builtin id)=pure (.type "method_descriptor"))(hm:MtR X id r)(ho:PE X o to)(ha:PA X (e::es) t)
  (hbase:attributeBase o name X.env (eval o X.env)=eval o X.env:=by rfl)
  (hfew:((backTo cpos (starEach (e::es) X.env)).all (fun x=>!x.1)&&(backToKw cpos (keywordEach [] X.env)).all (fun x=>x.1.isSome)
   &&decide ((e::es).length+([]:List Keyword).length+(if ([]:List Keyword).isEmpty then 0 else 1)<30))=true:=by rfl)
  (hline:(apos.endLine==cpos.line)=true:=by rfl) (hs:starEach (e::es) X.env=(false,eval e X.env)::starEach es X.env:=by rfl) (hplain:(backTo cpos (starEach es X.env)).any (·.1)=false:=by rfl):
  PE X (.Call (.Attribute o name apos) (e::es) [] cpos) (tBM X.K T r to t):=by
 intro pins s σ H Q I h
 refine wpAny_Call_method_late hbase hfew hline rfl (thn (ho pins s σ H _ I h) fun v s1 ⟨x,H1,I1,r1,ty,q1⟩=>?_)
 obtain⟨h1,h2⟩:=tyV_is I1 r1 ty
 refine⟨T,id,pa,slot,hty,h1,h2,?_⟩
 have hA:=ha cpos pins s1 σ H1 _ I1 q1
 rw[hs] at hA ⊢
 refine Calls.callWith_builtin (by show (false||(backTo cpos (starEach es X.env)).any (·.1))=false;rw[hplain]<;>rfl) (Calls.evalArgs_plain ?_)
 exact thn hA fun us s2 ⟨vs,H2,I2,r2,q2⟩=>hm pins s2 σ H2 x vs v us Q I2 r1 r2 q2
end
noncomputable def MtM (X:Cx)(id:String)(r:V→List V→Hp→VK→Prop):Prop:=
 ∀(pins:List (Addr×Obj)) (s:Shared) (σ:St) (H:Hp) (x:V) (xs:List V) (v:Value) (us:List Value) (Q:VK),Inv X pins σ H s→RelV x v→Vals xs us→r x xs H Q→
  wpAny (model X.prog X.w) X.A (call (.builtin id) (v::us)) (EP X pins σ Q) X.xe s
theorem Vals.one:∀{x:V} {us:List Value},Vals [x] us→∃u,us=[u]∧RelV x u
 |_,_,.cons r .nil=>⟨_,rfl,r⟩
theorem Vals.rep {xs:List V}{us:List Value}(h:Vals xs us):∀k:Nat,Vals (List.replicate k xs).flatten (List.replicate k us).flatten
 |0=>.nil
 |k+1=>by
  rw[List.replicate_succ,List.replicate_succ,List.flatten_cons,List.flatten_cons]
  exact Vals.append h (Vals.rep h k)
theorem foldl_rep (its:List Value):∀(k:Nat) (acc:List Value),
  List.foldl (fun x1 x2=>x1++x2) acc.toArray (List.replicate k its.toArray)=(acc++(List.replicate k its).flatten).toArray
 |0,acc=>by simp
 |k+1,acc=>by
  have e:acc.toArray++its.toArray=(acc++its).toArray:=by simp
  have e2:(acc++its)++(List.replicate k its).flatten=acc++(List.replicate (k+1) its).flatten:=by
   rw[List.replicate_succ,List.flatten_cons,List.append_assoc]
  rw[←e2,←foldl_rep its k (acc++its),←e,List.replicate_succ,List.foldl_cons]
section
variable {X:Cx}{pins:List (Addr×Obj)}{σ:St}{H:Hp}{s:Shared}{l b:Addr}{xs ys zs:List V}
theorem Inv.lset {its its':List Value}{n:Nat}{f:Array Value→Array Value}{t':Nat}(I:Inv X pins σ H s)(hH:H l=some (.lst xs))
  (e:s.heap.get? l=some {cls:=.type "list",data:=.seq its.toArray n}) (hf:f its.toArray=its'.toArray) (hv:Vals ys its') (hz:ys.length≤sizeLine):
  Inv X pins σ (upd H l (.lst ys)) {s with heap:=s.heap.update l (Obj.mapSeq f),toks:=t'}:=by
 have q:=PySem.IsL.update e f
 rw[hf] at q
 refine I.write (x:=l) (e:=l) (by rw[hH];exact trivial) (.inl rfl) (fun b' u hb hu=>(Heap.get?_update_other s.heap (Obj.mapSeq f) (Ne.symm hb)).trans hu) ⟨_,q⟩ ?_
 exact⟨hz,its',_,hv,q⟩
theorem Inv.lnew {its:List Value}{t':Nat}(I:Inv X pins σ H s)(hv:Vals ys its)(hz:ys.length≤sizeLine):
  Inv X pins σ (upd H s.heap.objs.size (.lst ys)) {s with heap:=s.heap.push {cls:=.type "list",data:=.seq its.toArray},toks:=t'}:=
 I.laid (fun _ _ q=>ps0 _ q) (nr0 _) ⟨hz,its,0,hv,pz0 _ rfl⟩
theorem Inv.fresh (I:Inv X pins σ H s):H s.heap.objs.size=none:=I.hok.fresh (nr0 _)
theorem Inv.lstM (I:Inv X pins σ H s)(hH:H l=some (.lst xs)):xs.length≤sizeLine∧∃(its:List Value) (n:Nat),Vals xs its∧xs.length=its.length∧s.heap.get? l=some {cls:=.type "list",data:=.seq its.toArray n}:=by
 obtain⟨z,its,n,r,e⟩:=I.hok l _ hH
 exact⟨z,its,n,r,r.length,e⟩
theorem notLongL {n:Nat}(h:n≤sizeLine):Builtin.List.listTooLong n=false:=by
 unfold Builtin.List.listTooLong
 exact decide_eq_false (by omega)
end
section
variable {X:Cx}
noncomputable def rAppend:V→List V→Hp→VK→Prop:=fun x vs H Q=>∃l xs y,x=.ref l∧vs=[y]∧H l=some (.lst xs)∧xs.length<sizeLine∧Q .non (upd H l (.lst (xs++[y])))
theorem mt_append:MtM X "list.append" rAppend:=by
 intro pins s σ H x vs v us Q I rx rv h
 obtain⟨l,xs,y,rfl,rfl,hH,hz,q⟩:=h
 cases rx
 obtain⟨u,rfl,ru⟩:=rv.one
 obtain⟨z,its,n,r,hl,e⟩:=I.lstM hH
 refine call_meets F.slot_list_append ⟨_,e,rfl⟩ F.entry_list_append (F.args_list_append_2 _ _) (PySem.list_append l its.toArray n u (by rw[ls0];omega)) ⟨e,?_⟩
 refine⟨.non,_,I.lset (its':=its++[u]) hH e (by simp) (r.append (.cons ru .nil)) ?_,rfl,q⟩
 rw[List.length_append,List.length_singleton]
 omega
noncomputable def rExtend:V→List V→Hp→VK→Prop:=fun x vs H Q=>∃l b xs zs,x=.ref l∧vs=[.ref b]∧H l=some (.lst xs)∧H b=some (.lst zs)∧xs.length+zs.length≤sizeLine∧Q .non (upd H l (.lst (xs++zs)))
theorem mt_extend:MtM X "list.extend" rExtend:=by
 intro pins s σ H x vs v us Q I rx rv h
 obtain⟨l,b,xs,zs,rfl,rfl,hH,hB,hz,q⟩:=h
 cases rx
 obtain⟨u,rfl,ru⟩:=rv.one
 cases ru
 obtain⟨z,its,n,r,hl,e⟩:=I.lstM hH
 obtain⟨z2,its2,n2,r2,hl2,e2⟩:=I.lstM hB
 have hsz:its.toArray.size+its2.toArray.size≤sizeLine:=by rw[ls0,ls0];omega
 have hlong:¬ (!its.toArray.isEmpty&&Builtin.List.listTooLong (its.toArray.size+its2.toArray.size))=true:=by
  rw[notLongL hsz,Bool.and_false]
  exact fx0
 refine call_meets F.slot_list_extend ⟨_,e,rfl⟩ F.entry_list_extend (F.args_list_extend_2 _ _)
  (AutoSeq1.list_extend_list_list_0 l its.toArray n b its2.toArray n2 hlong (by rw[ls0];omega) (by omega)) ⟨e,e2,?_⟩
 refine⟨.non,_,I.lset (its':=its++its2) hH e (by simp) (r.append r2) ?_,rfl,q⟩
 rw[List.length_append]
 omega
noncomputable def rCat:R2:=fun x y H Q=>∃l b xs zs,x=.ref l∧y=.ref b∧H l=some (.lst xs)∧H b=some (.lst zs)∧xs.length+zs.length≤sizeLine∧∀p,H p=none→Q (.ref p) (upd H p (.lst (xs++zs)))
theorem op_cat:OpR X (binaryOp .Add) rCat:=by
 intro pins s σ H x y v u Q I rx ry h
 obtain⟨l,b,xs,zs,rfl,rfl,hH,hB,hz,q⟩:=h
 cases rx
 cases ry
 obtain⟨z,its,n,r,hl,e⟩:=I.lstM hH
 obtain⟨z2,its2,n2,r2,hl2,e2⟩:=I.lstM hB
 refine PySem.P.add_list e e2 ?_ (by rw[ls0,ls0];omega)
 have ea:its.toArray++its2.toArray=(its++its2).toArray:=by simp
 rw[ea]
 exact⟨.ref _,_,I.lnew (t':=s.toks) (r.append r2) (by rw[List.length_append];omega),rfl,q _ I.fresh⟩
noncomputable def rRep:R2:=fun x y H Q=>∃l k xs,x=.ref l∧y=.int k∧H l=some (.lst xs)∧ -(2 ^ 63)≤k∧k<2 ^ 63∧xs.length*k.toNat≤sizeLine∧
 ∀p,H p=none→Q (.ref p) (upd H p (.lst (List.replicate k.toNat xs).flatten))
theorem len_rep {α:Type}(xs:List α)(k:Nat):(List.replicate k xs).flatten.length=k*xs.length:=by
 induction k with
 |zero=>simp
 |succ k ih=>rw[List.replicate_succ,List.flatten_cons,List.length_append,ih,Nat.succ_mul,Nat.add_comm]
theorem op_rep:OpR X (binaryOp .Mult) rRep:=by
 intro pins s σ H x y v u Q I rx ry h
 obtain⟨l,k,xs,rfl,rfl,hH,h1,h2,hz,q⟩:=h
 cases rx
 obtain⟨t,rfl⟩:=ry
 obtain⟨z,its,n,r,hl,e⟩:=I.lstM hH
 have hlen:its.toArray.size*k.toNat≤sizeLine:=by rw[ls0,←hl];exact hz
 have hcap:¬ its.toArray.size*k.toNat>(2 ^ 63-1) / 8:=by
  have:(sizeLine:Nat)≤(2 ^ 63-1) / 8:=by decide
  omega
 have hfit:¬ (!Builtin.List.listFitsIndex k)=true:=by
  rw[fitsIndex_both h1 h2]
  exact fx0
 have hlong:¬ Builtin.List.listTooLong (its.toArray.size*k.toNat)=true:=by
  rw[notLongL hlen]
  exact fx0
 have hnew:List.foldl (fun x1 x2=>x1++x2) #[] (List.replicate (if its.toArray.isEmpty=true then 0 else k.toNat) its.toArray)=(List.replicate k.toNat its).flatten.toArray:=by
  have f0:∀m:Nat,List.foldl (fun x1 x2=>x1++x2) #[] (List.replicate m its.toArray)=(List.replicate m its).flatten.toArray:=fun m=>by
   have:=foldl_rep its m []
   rw[List.nil_append] at this
   exact this
  rw[f0]
  cases its with
  |nil=>simp
  |cons a r'=>rw[if_neg (by simp)]
 refine wpAny_binaryOp_repeat_ref (T:="list") (U:="int") (by decide) ⟨_,e,rfl⟩ (fun s'=>typeIs_int s' k t) noFill_list_mul F.fills_int_mul F.slot_int_rmul repeat_list F.slot_int_index.lookup
  (call_meets F.slot_int_rmul (typeIs_int s k t) F.entry_int_rmul (F.args_int_rmul_2 _ _) (int___rmul___int_list k t l its.toArray n)
   ⟨e,rfl,⟨_,e,rfl⟩,call_meets F.slot_list_mul ⟨_,e,rfl⟩ F.entry_list_mul (F.args_list_mul_2 _ _) (AutoListH.list___mul___list_int_3 l its.toArray n k t hfit hcap hlong) ⟨e,?_⟩⟩)
 rw[hnew]
 exact⟨.ref _,_,I.lnew (t':=s.toks) (r.rep k.toNat) (by rw[len_rep,Nat.mul_comm];exact hz),rfl,q _ I.fresh⟩
end
section
variable {prog:Program}{w:World}{A:Around}{E:Value→Shared→Prop}{s:Shared}
end
section
variable {X:Cx}
end
end L2
namespace Att
open PySem PySem.W PySem.Calls PyProof.Rows
theorem ints_of_wellAll {P:Params}{h:Heap}:∀(ns:List Int) (vs:List Value),WellAll P h vs (ns.map WData.int)→IntsAre vs ns:=by
 intro ns
 induction ns with
 |nil=>
  intro vs w
  rw[List.map_nil] at w
  cases w
  exact .nil
 |cons n ns ih=>
  intro vs w
  rw[List.map_cons] at w
  cases w with
  |cons a b=>
   cases a
   exact .cons _ _ (ih _ b)
theorem script_of {l:OpenLaw}{n:Nat}(hn:l.most=some n){P:Params}{h:Heap}{args:List WData}{vals:List Value}
  (hpre:l.row.toRowW.claim.pre args=true) (hwl:WellAll P h vals args):
  ∃a vs ns,vals=[Value.ref a]∧args=[WData.list (ns.map WData.int)]∧h.get? a=some {cls:=.type "list",data:=.seq vs.toArray}∧IntsAre vs ns∧ns.length≤n:=by
 have hsh:WShape.hasAll [] args [.list .int]=true:=(pre_splitW hpre).1
 have hc:l.pre.holds [] {args:=args}=true:=(pre_splitW hpre).2
 obtain⟨d,r,rfl,h1,h2⟩:=hasAllW_cons hsh
 obtain rfl:=hasAllW_nil h2
 obtain⟨xs,rfl,h3⟩:=hasW_list h1
 obtain⟨ns,rfl⟩:=items_int h3
 have hlen:ns.length≤n:=by
  unfold OpenLaw.pre at hc
  have h4:(WTm.not (.lt (.lit (.int (n:Int))) (.len (.arg 0)))).holds [] {args:=[.list (ns.map .int)]}=true:=by
   have h4:=(holds_andW hc).1
   rw[hn] at h4
   exact h4
  have h5:=condW_of h4 (w_not (w_lt w_lit (w_len_list (w_arg rfl))))
  rw[lm0] at h5
  refine Nat.le_of_not_lt fun q=>?_
  have q':(n:Int)<((ns.length:Nat):Int):=by omega
  first
   |(rw[decide_eq_true q'] at h5;exact absurd h5 (by decide))
   |(simp at h5;omega)
 cases hwl with
 |cons w1 w2=>
  cases w2
  cases w1 with
  |list ho hall=>exact⟨_,_,ns,rfl,rfl,ho,ints_of_wellAll ns _ hall,hlen⟩
theorem post_true (l:OpenLaw)(args:List WData):l.row.toRowW.claim.post args (.bool true) args=true:=
 postW_of (r:=l.row.toRowW) (X:=(true==true))
  (show WShape.has [] (.bool true) .bool=true by first|rfl|decide|simp[WShape.has,WShape.arms,WShape.armsAll])
  (show (WTm.eq .res (.lit (.bool true))).value [] {args:=args,res:=some (.bool true),after:=args}=some (.bool (true==true)) from w_eq_bool (w_res rfl) w_lit) rfl
theorem attach_call {l:OpenLaw}{n:Nat}{q:Program}{loose:List Str}{XP:(Str→Option Value)→Heap→Prop}{YP:World→Heap→Prop}{d:DefRec}
  (hn:l.most=some n) (hdf:d.params.defaults=[])
  (call:∀(w:World) (s₀ s₁:Shared) (mg mb:Str→Option Value) (fa:Addr) (o:Obj) (pm cd doc:Value) (a:Addr) (vs:List Value) (ns:List Int),
   Ground q loose [] XP w s₀ mg mb s₁.heap→YP w s₁.heap→
   s₁.heap.get? fa=some o→o.data=.func (docDef d.name d.params d.body d.scope pm cd doc)→s₁.heap.CodeRec cd d.name→mg d.name=some (.ref fa)→
   s₁.heap.get? a=some {cls:=.type "list",data:=.seq vs.toArray}→IntsAre vs ns→ns.length≤n→s₁.gens=#[]→
   codeAny (model l.prog w) callerA (.call (.ref fa) ⟨[.ref a],[]⟩) (fun r s'=>r=.ok (.ret (.bool true))∧OldK s₁.heap s'.heap∧s'.os=s₁.os∧AllBare s'.gens) s₁):
  WalkO q loose XP YP l.row.toRowW d [] (fun f vs=>PySem.call f vs):=by
 intro w s₀ s₁ mg mb G Y fa o pm cd doc dV kV ho hd hcd hD hmg hg args vals as hpre hlay hrd hwl hlo
 obtain rfl:dV=.none:=Dflts.none hD hdf
 obtain rfl:kV=.none:=Dflts.noKw hD
 obtain⟨a,vs,ns,rfl,rfl,hobj,hints,hlen⟩:=script_of hn hpre hwl
 refine enter_call (codeAny_mono (call w s₀ s₁ mg mb fa o pm cd doc a vs ns G Y ho (fd_plain hd) hcd hmg hobj hints hlen hg) fun r s' hq=>?_)
 obtain⟨rfl,h2,h3,h4⟩:=hq
 exact⟨.inl ⟨.bool true,.bool true,[],rfl,fun _=>rfl,.bool true,post_true l _,fun _=>⟨List.Pairwise.nil,fun _ hm=>(nomatch hm)⟩⟩,h2,h3,h4⟩
section
variable {prog:Program}{w:World}{A:Around}{E:Value→Shared→Prop}{s:Shared}{K:Frag}
end
end Att
namespace L2
open PySem PySem.Spec PyProof.Rows
theorem vals_ints:∀{vs:List Value} {ns:List Int},IntsAre vs ns→Vals (ns.map V.int) vs
 |_,_,.nil=>.nil
 |_,_,.cons n t h=>.cons ⟨t,rfl⟩ (vals_ints h)
noncomputable def Only (H:Hp):Prop:=∀b,H b=none∨∃o xs,H b=some (.frz o (.lst xs))
theorem law_call {P:Program}{w:World}{K:PySem.W.Frag}{mg mb:Str→Option Value}{CX:CXT}{k:Nat}{fa a:Addr}{fd:FuncData}{x:Str}{sp:Sp}{s₁:Shared}{vs:List Value}{ns:List Int}
  (KX:K.In s₁.heap) (hns:s₁.heap.Ns mainGlobals mg) (hb:s₁.heap.Ns builtinsNs mb) (hbb:∀x:Str,x≠"__name__"→mb x=bootBuiltins x) (hlim:s₁.heap.NoLimit) (hg:s₁.gens=#[])
  (ha:s₁.heap.get? a=some {cls:=.type "list",data:=.seq vs.toArray}) (hi:IntsAre vs ns) (hl:ns.length≤sizeLine) (hr:Room k callerA)
  (F:∀base:Heap,K.In base→base.Ns mainGlobals mg→FnOk P w K mg base CX k fa fd [x] sp) (hbind:∀(s:Shared) (u:Value),BindsTo s fd ⟨[u],[]⟩ [(x,u)])
  (hsp:∀H:Hp,Only H→SqL K H a (ns.map V.int)→sp [.ref a] H (fun v _=>v=.bl true) fun _ _ _=>False)
  (hCX:∀H e s',CX [] H s₁ (fun _ _ _=>False) e s'→False):
  codeAny (model P w) callerA (.call (.ref fa) ⟨[.ref a],[]⟩) (fun r s'=>r=.ok (.ret (.bool true))∧OldK s₁.heap s'.heap∧s'.os=s₁.os∧AllBare s'.gens) s₁:=by
 have rv:=vals_ints hi
 have lenV:=hi.length
 have core:∀H:Hp,Only H→SqL K H a (ns.map V.int)→HOk P w H s₁.heap→(∀b,H b≠none→b=a)→(H a≠none→K.lookup a=none)→
   codeAny (model P w) callerA (.call (.ref fa) ⟨[.ref a],[]⟩) (fun r s'=>r=.ok (.ret (.bool true))∧OldK s₁.heap s'.heap∧s'.os=s₁.os∧AllBare s'.gens) s₁:=by
  intro H hO hS hok hA hK
  have base_of:∀{b:Addr} {o:Obj},s₁.heap.get? b=some o→H b=none→(hidT s₁.heap H).get? b=some o:=fun e n=>hidT_get e n
  have noA:∀{b:Addr} {o:Obj} {es:Array DictEntry} {ep:Nat},s₁.heap.get? b=some o→o.data=.dict es ep→H b=none:=fun {b o es ep} e d=>by
   cases q:H b with
   |none=>rfl
   |some u=>
    have e':b=a:=hA b (by rw[q];simp)
    subst e'
    rw[ha] at e;cases e
    have d':Data.seq vs.toArray _=Data.dict es ep:=d
    cases d'
  have nsK:∀{b:Addr} {m:Str→Option Value},s₁.heap.Ns b m→(hidT s₁.heap H).Ns b m:=fun {b m} ⟨o,es,ep,e,d,r⟩=>⟨o,es,ep,base_of e (noA e d),d,r⟩
  have hKb:K.In (hidT s₁.heap H):=fun b o e=>base_of (KX b o e) (by
   cases q:H b with
   |none=>rfl
   |some u=>
    have e':b=a:=hA b (by rw[q];simp)
    subst e'
    rw[hK (by rw[q];simp)] at e;cases e)
  have hM:Mod K mg (hidT s₁.heap H):=⟨hKb,nsK hns,⟨mb,nsK hb,hbb⟩,let ⟨mc,h1,h2⟩:=hlim;⟨mc,nsK h1,h2⟩⟩
  have e0:Env0 P w K mg (hidT s₁.heap H) callerA [] s₁ H:=⟨rfl,hM,fun b o e=>of_hidT e,Nat.le_of_eq (hidT_size _ _),trivial,fun b hb=>absurd (show b∈([]:List Addr) from hb) (by simp),hok,.of_eq hg⟩
  refine codeAny_mono ((F _ hKb (nsK hns)).run callerA [] s₁ H ⟨[.ref a],[]⟩ [.ref a] [.ref a] _ _ hr e0 (hbind s₁ (.ref a)) (.cons rfl .nil) (hsp H hO hS)) fun r s' h=>?_
  cases r with
  |error e=>exact (hCX H e s' h).elim
  |ok fl=>
   cases fl with
   |next=>exact False.elim h
   |brk=>exact False.elim h
   |cont=>exact False.elim h
   |ret u=>
    obtain⟨v,H',os,bare,un,hok',r',q⟩:=h
    have q':v=.bl true:=q
    subst q'
    obtain rfl:u=Value.bool true:=r'
    refine⟨rfl,OldK.of_keep fun b o e=>?_,os,bare⟩
    cases q:H b with
    |none=>exact un.keep b o e q (by intro z;exact absurd (show b∈([]:List Addr) from z) (by simp)) (by simp)
    |some u=>
     rcases hO b with z|⟨ob,xs,z⟩
     ·rw[q] at z;cases z
     ·have z2:=un.frzs b ob _ z
      obtain⟨e1,_⟩:=hok b _ z
      obtain⟨e2,_⟩:=hok' b _ z2
      rw[e] at e1;cases e1
      exact e2
 cases hk:K.lookup a with
 |some o=>
  have e:=KX a o hk
  rw[ha] at e
  cases e
  refine core (fun _=>none) (fun _=>.inl rfl) (.inr ⟨_,vs.toArray,_,hk,rfl,rfl,rfl,by rw[ls0,lenV];exact hl,by simpa using rv⟩) (fun b u z=>by have z':(none:Option HO)=some u:=z;cases z') (fun b z=>absurd rfl z) fun z=>absurd rfl z
 |none=>
  refine core (fun b=>if b=a then some (.frz {cls:=.type "list",data:=.seq vs.toArray} (.lst (ns.map V.int))) else none) (fun b=>?_) (.inl (.inr ⟨{cls:=.type "list",data:=.seq vs.toArray},if_pos rfl⟩)) (fun b u z=>?_) (fun b z=>?_) fun _=>hk
  ·by_cases hb:b=a
   ·exact .inr ⟨_,_,if_pos hb⟩
   ·exact .inl (if_neg hb)
  ·by_cases hb:b=a
   ·have z':=(if_pos hb).symm.trans z
    cases z'
    subst hb
    exact⟨ha,by rw[lm0];exact hl,vs,_,rv,ha⟩
   ·have z':=(if_neg hb).symm.trans z
    cases z'
  ·by_cases hb:b=a
   ·exact hb
   ·exact absurd (if_neg hb) z
theorem walk_of {l:PySem.W.OpenLaw}{n k:Nat}{q:Program}{loose:List Str}{XP:(Str→Option Value)→Heap→Prop}{YP:World→Heap→Prop}{d:DefRec}{K:Params→PySem.W.Frag}{CX:World→CXT}{sp:World→Sp}{x:Str}
  (hn:l.most=some n) (hn2:n≤sizeLine) (hdf:d.params.defaults=[]) (hr:Room k callerA)
  (hY:∀(w:World) (h:Heap),YP w h→(K w.params).In h)
  (F:∀(w:World) (mg:Str→Option Value) (fa:Addr) (h:Heap),(K w.params).In h→h.Ns mainGlobals mg→mg d.name=some (.ref fa)→
   ∃fd:FuncData,(∀(s:Shared) (u:Value),BindsTo s fd ⟨[u],[]⟩ [(x,u)])∧
    ∀base:Heap,(K w.params).In base→base.Ns mainGlobals mg→FnOk l.prog w (K w.params) mg base (CX w) k fa fd [x] (sp w))
  (hsp:∀(w:World) (H:Hp) (a:Addr) (ns:List Int),ns.length≤n→Only H→SqL (K w.params) H a (ns.map V.int)→sp w [.ref a] H (fun v _=>v=.bl true) fun _ _ _=>False)
  (hCX:∀(w:World) (H:Hp) (s:Shared) (e:Value) (s':Shared),CX w [] H s (fun _ _ _=>False) e s'→False):
  PySem.W.WalkO q loose XP YP l.row.toRowW d [] (fun f vs=>PySem.call f vs):=by
 refine Att.attach_call hn hdf fun w s₀ s₁ mg mb fa o pm cd doc a vs ns G Y ho hd hcd hmg hobj hints hlen hg=>?_
 have KX:=hY w _ Y
 obtain⟨fd,hb,hF⟩:=F w mg fa _ KX G.T.g hmg
 exact law_call KX G.T.g G.T.b G.T.builtins G.T.nolimit hg hobj hints (nt0 hlen hn2) hr hF hb (fun H hO hS=>hsp w H a ns hlen hO hS) fun H e s'=>hCX w H s₁ e s'
noncomputable def defArgs (s:Stmt):Arguments:=match s with
 |.FunctionDef _ a _ _ _ _ _ _ _ _=>a
 |_=>{posonlyargs:=[],args:=[],vararg:=none,kwonlyargs:=[],kw_defaults:=[],kwarg:=none,defaults:=[]}
noncomputable def defBody (s:Stmt):List Stmt:=match s with
 |.FunctionDef _ _ b _ _ _ _ _ _ _=>b
 |_=>[]
noncomputable def defScope (s:Stmt):Scope:=match s with
 |.FunctionDef _ _ _ _ _ _ sc _ _ _=>sc
 |_=>{kind:=.function,names:=[],isGenerator:=false,isCoroutine:=false}
noncomputable abbrev CX0:CXT:=fun _ _ _ _ _ _=>False
noncomputable abbrev E0:XK:=fun _ _ _=>False
theorem pass0 {X:Cx}:Passes CX0 X E0:=fun _ _ _ _ _ _ _ h=>h.elim
structure Fun (K:PySem.W.Frag)(x qual:Str)(st:Stmt)(f:Addr)(fd:FuncData):Prop where
 ex:∃(oc:Value) (od:Option Addr) (kV doc pm:Value) (an:Option Addr) (cdv ct:Value) (osl:Array (Option Value)),
  fd=PySem.W.fnOf x qual (defArgs st) (defBody st) (defScope st) .none kV doc pm an cdv ct∧K.lookup f=some ⟨oc,od,.func fd,osl⟩∧PySem.W.codeIn K cdv qual=true
 kp:PySem.W.keepIn K (.ref f)=true
section
variable {P:Program}{w:World}{K:PySem.W.Frag}{mg:Str→Option Value}{base:Heap}
theorem Fun.ok {x qual:Str}{st:Stmt}{f:Addr}{fd:FuncData}{N ps:List Str}{k:Nat}{sp:Sp}(F:Fun K x qual st f fd)(S:FnScope N ps (defScope st))(len:∀vs H Q E,sp vs H Q E→vs.length=ps.length)
  (hbody:∀(cdv:Value) (A:Around) (outer:List Env) (s:Shared) (H:Hp) (vs:List V) (Q:VK) (E:XK),Room k (A.deeper (envOfC qual (defScope st) s.heap.objs.size f cdv))→sp vs H Q E→
   ∃t,PSs (cxOf CX0 P w K mg base N qual (defScope st) f cdv A outer s H E).nox (defBody st) t∧t {nx:=fun _ H'=>Q .non H',rt:=Q} (start N vs) H):FnOk P w K mg base CX0 (k+1) f fd ps sp:=by
 obtain⟨oc,od,kV,doc,pm,an,cdv,ct,osl,rfl,lk,hcd⟩:=F.ex
 refine fn_of lk hcd S len fun A outer s H vs Q E hr hsp=>?_
 obtain⟨t,h,q⟩:=hbody cdv A outer s H vs Q E hr hsp
 exact⟨t,h.nox,q⟩
theorem Fun.binds {x qual:Str}{st:Stmt}{f:Addr}{fd:FuncData}{ps:List Str}(F:Fun K x qual st f fd)
  (h:∀(kV doc pm:Value) (an:Option Addr) (cdv ct:Value) (us:List Value),us.length=ps.length→bindArgs (PySem.W.fnOf x qual (defArgs st) (defBody st) (defScope st) .none kV doc pm an cdv ct) ⟨us,[]⟩=pure (ps.zip us)):Binds K fd ps []:=by
 obtain⟨oc,od,kV,doc,pm,an,cdv,ct,osl,rfl,lk,hcd⟩:=F.ex
 exact .all (h kV doc pm an cdv ct)
theorem fun_mk {x qual:Str}{st:Stmt}{f:Addr}{oc:Value}{od an:Option Addr}{osl:Array (Option Value)}{kV doc pm cdv ct:Value}(l:K.lookup f=some ⟨oc,od,.func (PySem.W.fnOf x qual (defArgs st) (defBody st) (defScope st) .none kV doc pm an cdv ct),osl⟩)
  (c:PySem.W.codeIn K cdv qual=true) (k:PySem.W.keepIn K (.ref f)=true):Fun K x qual st f (PySem.W.fnOf x qual (defArgs st) (defBody st) (defScope st) .none kV doc pm an cdv ct):=⟨⟨oc,od,kV,doc,pm,an,cdv,ct,osl,rfl,l,c⟩,k⟩
end
theorem small1000 {n:Nat}(h:n≤1000):n<sizeLine:=Nat.lt_of_le_of_lt h (by decide)
section
variable {X:Cx}
end
theorem iteF {A B:Prop}(h:B):if false=true then A else B:=by
 rw[if_neg fx0]
 exact h
theorem iteT {A B:Prop}(h:A):if true=true then A else B:=by
 rw[if_pos rfl]
 exact h
noncomputable def Same (H H':Hp):Prop:=∀b o,H b=some o→H' b=some o
theorem Same.refl (H:Hp):Same H H:=fun _ _ h=>h
theorem Same.trans {H H1 H2:Hp}(a:Same H H1)(b:Same H1 H2):Same H H2:=fun c o h=>b c o (a c o h)
theorem Same.free {H H':Hp}(e:Same H H'){l:Addr}(h:H' l=Option.none):H l=Option.none:=by
 cases q:H l with
 |none=>rfl
 |some o=>
  rw[e l o q] at h
  cases h
theorem Same.seq {K:PySem.W.Frag}{H H':Hp}{a:Addr}{xs:List V}(e:Same H H')(h:SqL K H a xs):SqL K H' a xs:=by
 rcases h with (h|⟨o,h⟩)|h
 ·exact .inl (.inl (e _ _ h))
 ·exact .inl (.inr ⟨o,e _ _ h⟩)
 ·exact .inr h
section
variable {κ:Type}[DecidableEq κ]
end
section
variable {P:Program}{w:World}{H:Hp}{h:Heap}{a:Addr}
end
section
variable {X:Cx}{pins:List (Addr×Obj)}{σ:St}{H:Hp}{s:Shared}{a:Addr}{y v:V}{u r:Value}{o:Option V}{A:Around}{E:Value→Shared→Prop}
theorem Inv.big (I:Inv X pins σ H s):sysModules<s.heap.objs.size:=by
 have h:mainGlobals<s.heap.objs.size:=(I.mod.glob.keeps I.bk).lt
 exact Nat.lt_trans (by decide) h
end
section
variable {X:Cx}{pins:List (Addr×Obj)}{σ:St}{H:Hp}{s:Shared}{a:Addr}{kvs:List (Key×V)}{k:Key}{u:Value}{A:Around}{E:Value→Shared→Prop}
end
section
variable {X:Cx}{o i e value:Expr}{pos pos' tpos:Pos}{td ty tv:TE}
end
theorem dk_empty {P:Program}{w:World}{H:Hp}(h:Heap)(hb:sysModules<h.objs.size):ObjOk P w H (h.push {cls:=.type "dict",data:=.dict #[]}) h.objs.size (.dK []):=
 ⟨Nat.zero_le _,beq_eq_false_iff_ne.mpr (Ne.symm (nn0 hb)),[],.nil,Heap.DictOf.new h⟩
noncomputable def tDNewK:TE:=fun _ H Q=>∀p,H p=none→Q (.ref p) (upd H p (.dK []))
section
variable {X:Cx}{pos:Pos}
theorem pe_dnewK:PE X (.Dict [] [] pos) tDNewK:=fun pins s σ H Q I h=>
 wpAny_Dict_empty ⟨.ref s.heap.objs.size,_,I.laid (a:=s.heap.objs.size) (o:=.dK []) (t':=s.toks) (fun _ _ q=>ps0 _ q) (nr0 _) (dk_empty s.heap I.big),rfl,h _ (I.hok.fresh (nr0 _))⟩
end
section
variable {X:Cx}{pins:List (Addr×Obj)}{σ:St}{H:Hp}{s:Shared}{a:Addr}{y d:V}{u r:Value}{o:Option V}{A:Around}{E:Value→Shared→Prop}
end
section
variable {X:Cx}{o e f:Expr}{apos cpos:Pos}{td ty tx:TE}
end
section
variable {X:Cx}{pins:List (Addr×Obj)}{σ:St}{H:Hp}{s:Shared}{a:Addr}{kvs:List (Key×V)}{A:Around}{E:Value→Shared→Prop}
end
section
variable {X:Cx}{pins:List (Addr×Obj)}{σ:St}{H:Hp}{s:Shared}{a:Addr}{y:V}{u:Value}{A:Around}{E:Value→Shared→Prop}
end
section
variable {X:Cx}
end
section
variable {κ:Type}[DecidableEq κ]
end
end L2
namespace L2.C
open PySem PySem.Spec PyProof.Rows L2
noncomputable def clOf (env:Env):List (Str×NameKind)→List (Str×Addr)→List (Str×Addr)
 |[],acc=>acc
 |(n,k)::r,acc=>if k==.free then clOf env r ((n,(env.cells.lookup n).getD 0)::acc) else clOf env r acc
theorem closureFor_cl {env:Env}{scope:Scope}(h:∀x∈scope.names,x.2=.free→(env.cells.lookup x.1).isSome=true):
  closureFor scope env=pure (clOf env scope.names []):=by
 simp only[closureFor]
 generalize scope.names=l at h ⊢
 generalize ([]:List (Str×Addr))=acc
 induction l generalizing acc with
 |nil=>rfl
 |cons x r ih=>
  obtain⟨n,k⟩:=x
  rw[List.forIn_cons]
  by_cases hk:k=.free
  ·subst hk
   have hc:=h (n,.free) ms0 rfl
   obtain⟨c,hc⟩:=Option.isSome_iff_exists.mp hc
   simp only[clOf,cellOf,hc]
   have:=ih (fun y hy=>h y (mc0 _ hy)) ((n,c)::acc)
   exact this
  ·have hb:(k==NameKind.free)=false:=by simpa using hk
   simp only[clOf,hb]
   exact ih (fun y hy=>h y (mc0 _ hy)) acc
theorem clOf_from {env:Env}:∀(l:List (Str×NameKind)) (acc:List (Str×Addr)),(∀x∈l,x.2=.free→(env.cells.lookup x.1).isSome=true)→(∀x c,acc.lookup x=some c→env.cells.lookup x=some c)→
  ∀x c,(clOf env l acc).lookup x=some c→env.cells.lookup x=some c
 |[],acc,_,ha,x,c,e=>ha x c e
 |(n,k)::r,acc,h,ha,x,c,e=>by
  unfold clOf at e
  by_cases hk:k=.free
  ·subst hk
   obtain⟨c',hc⟩:=Option.isSome_iff_exists.mp (h (n,.free) ms0 rfl)
   rw[if_pos (by rfl)] at e
   refine clOf_from r _ (fun y hy=>h y (mc0 _ hy)) (fun y d q=>?_) x c e
   rw[List.lookup_cons] at q
   cases hy:y==n with
   |true=>
    rw[hy] at q
    have:y=n:=by simpa using hy
    rw[this,hc]
    rw[hc] at q
    exact q
   |false=>rw[hy] at q;exact ha y d q
  ·have hb:(k==NameKind.free)=false:=by simpa using hk
   rw[if_neg (by rw[hb];decide)] at e
   exact clOf_from r acc (fun y hy=>h y (mc0 _ hy)) ha x c e
theorem clOf_has {env:Env}:∀(l:List (Str×NameKind)) (acc:List (Str×Addr)) (x:Str),((x,NameKind.free)∈l∨∃c,acc.lookup x=some c)→∃c,(clOf env l acc).lookup x=some c
 |[],acc,x,h=>by
  rcases h with h|h
  ·cases h
  ·exact h
 |(n,k)::r,acc,x,h=>by
  unfold clOf
  by_cases hk:k=.free
  ·subst hk
   rw[if_pos (by rfl)]
   refine clOf_has r _ x ?_
   rcases h with h|⟨c,h⟩
   ·rcases List.mem_cons.mp h with h|h
    ·cases h
     exact .inr ⟨_,by rw[List.lookup_cons_self]⟩
    ·exact .inl h
   ·right
    rw[List.lookup_cons]
    cases hy:x==n with
    |true=>exact⟨_,rfl⟩
    |false=>exact⟨c,h⟩
  ·have hb:(k==NameKind.free)=false:=by simpa using hk
   rw[if_neg (by rw[hb];decide)]
   refine clOf_has r acc x ?_
   rcases h with h|h
   ·rcases List.mem_cons.mp h with h|h
    ·cases h;exact absurd rfl hk
    ·exact .inl h
   ·exact .inr h
theorem lookup_relabel_free {env:Env}(hk:env.scope.kind=.function):∀{names:List (Str×NameKind)} {x:Str},names.lookup x=some .free→env.kindOf x=some .cell→
  (names.map fun (n,k)=>if (k==NameKind.free&&env.scope.kind==.function&&env.kindOf n==some .cell) then (n,NameKind.cell) else (n,k)).lookup x=some .cell
 |[],_,h,_=>by simp at h
 |(n,k)::r,x,h,hx=>by
  have ih:=@lookup_relabel_free env hk r x
  show List.lookup x ((if (k==NameKind.free&&env.scope.kind==.function&&env.kindOf n==some .cell)=true then (n,NameKind.cell) else (n,k))::_)=_
  cases hy:x==n with
  |true=>
   have e:x=n:=by simpa using hy
   subst e
   simp only[List.lookup_cons,hy] at h
   cases h
   rw[if_pos (by simp[hk,hx])]
   simp[List.lookup_cons]
  |false=>
   simp only[List.lookup_cons,hy] at h
   by_cases hc:(k==NameKind.free&&env.scope.kind==.function&&env.kindOf n==some .cell)=true
   ·rw[if_pos hc];simp only[List.lookup_cons,hy];exact ih h hx
   ·rw[if_neg hc];simp only[List.lookup_cons,hy];exact ih h hx
section
variable {prog:Program}{w:World}{A:Around}{R:Result→Shared→Prop}{s:Shared}
noncomputable abbrev testsOf (ifs:List Expr)(env:Env):Sem Bool:=
 forIn ifs true fun c r=>if r=true then do let ok ←isTrue c env (eval c env);pure (ForInStep.yield ok) else pure (ForInStep.yield r)
theorem compLoop_go {elt target iter:Expr}{ifs:List Expr}{scope:Scope}{pos:Pos}{it acc:Value}{env:Env}(I:Nat→Shared→Prop)
  (turn:∀n s,I n s→wpAny (model prog w) A (pyNext it) (fun r s1=>match r with
   |none=>R (.ok .next) s1
   |some v=>wpAny (model prog w) A (letOwnedTupleGo target it v) (fun _ s2=>wpAny (model prog w) A (assign target env v) (fun _ s3=>wpAny (model prog w) A (testsOf ifs env) (fun ok s4=>
     if ok=true then wpAny (model prog w) A (eval elt env) (fun x s5=>wpAny (model prog w) A (call (.builtin "list.append") [acc,x]) (fun _ s6=>∃m,m<n∧I m s6) (fun _ _=>False) s5) (fun _ _=>False) s4
     else ∃m,m<n∧I m s4) (fun _ _=>False) s3) (fun _ _=>False) s2) (fun _ _=>False) s1) (fun _ _=>False) s)
  (n:Nat) (h:I n s):codeAny (model prog w) A (.compLoop (.ListComp elt [⟨target,iter,ifs,0⟩] scope pos) 0 it acc env) R s:=by
 have no:∀{E:Value→Shared→Prop} (x:Value) (s':Shared),False→E x s':=fun _ _ z=>z.elim
 refine codeAny_loop rfl I (fun n s hI=>?_) n h
 show wpAny _ A (Sem.onRaise (compTurn _ 0 it acc env) _) _ _ s
 refine wpAny_noted ?_
 rw[compTurn_list]
 refine wpAny_bind (wpAny_standAt (wpAny_bind (wpAny_mono (turn n s hI) (fun r s1 h1=>?_) no)))
 cases r with
 |none=>exact wpAny_pure h1
 |some v=>
  refine wpAny_bind (wpAny_mono h1 (fun _ s2 h2=>?_) no)
  refine wpAny_bind (wpAny_mono h2 (fun _ s3 h3=>?_) no)
  refine wpAny_bind (wpAny_mono h3 (fun ok s4 h4=>?_) no)
  cases ok with
  |false=>exact wpAny_pure ⟨rfl,h4⟩
  |true=>
   refine wpAny_bind (wpAny_bind (wpAny_mono h4 (fun x s5 h5=>?_) no))
   exact wpAny_bind (wpAny_mono h5 (fun _ s6 h6=>wpAny_pure (wpAny_pure ⟨rfl,h6⟩)) no)
end
noncomputable def blk (X:Cx)(scope:Scope)(N:List Str)(C:Addr)(s:Shared)(H:Hp)(fp:List Addr):Cx where
 prog:=X.prog
 w:=X.w
 K:=X.K
 mg:=X.mg
 base:=X.base
 A:=X.A
 N:=N
 s₀:=s
 H₀:=H
 env:=compEnvC scope (clOf X.env scope.names []) C X.env
 outer:=X.stack
 stack:=X.stack
 ex:=fp
 fn:=fun _=>false
 calm:=X.calm
 pn:=[]
 xe:=fun _ _=>False
noncomputable def blkN (X:Cx)(tn:List Str)(js:List Nat):List Str:=tn++js.map fun j=>X.N.getD j Str.empty
noncomputable def blkS (tn:List Str)(js:List Nat)(σ:St):St:=tn.map (fun _=>Option.none)++js.map fun j=>(σ[j]?).join
structure BlkOk (X:Cx)(scope:Scope)(js:List Nat):Prop where
 kind:scope.kind=.function
 free:∀y∈scope.names,y.2=.free→X.env.kindOf y.1=some .cell
 cell:∀y∈scope.names,y.2≠.cell
 loc:∀y∈scope.names,y.2=.local→scope.names.lookup y.1=some .local
 js:∀j∈js,∃x,X.N[j]?=some x∧scope.names.lookup x=some .free
section
variable {X:Cx}{pins:List (Addr×Obj)}{σ:St}{H:Hp}{s:Shared}{scope:Scope}{tn:List Str}{js:List Nat}{fp:List Addr}
theorem BlkOk.cells (B:BlkOk X scope js)(I:Inv X pins σ H s):∀x∈scope.names,x.2=.free→(X.env.cells.lookup x.1).isSome=true:=fun x hx hf=>by
 obtain⟨c,e⟩:=I.ok.has x.1 (.inl (B.free x hx hf))
 rw[e];rfl
theorem BlkOk.from (B:BlkOk X scope js)(I:Inv X pins σ H s){x:Str}{c:Addr}(e:(clOf X.env scope.names []).lookup x=some c):X.env.cells.lookup x=some c:=
 clOf_from scope.names [] (B.cells I) (fun _ _ z=>by cases z) x c e
theorem blk_ok (B:BlkOk X scope js)(I:Inv X pins σ H s)(hf:∀b∈fp,FpOk X pins H b)(ho:∀b∈fp,∃o,s.heap.get? b=some o){C:Addr}(hC:s.heap.objs.size≤C):(blk X scope (blkN X tn js) C s H fp).Ok where
 mod:=I.ok.mod
 kind:=B.kind
 glob:=I.ok.glob
 blt:=I.ok.blt
 above:=hC
 inj:=fun x y c h1 h2=>I.ok.inj x y c (B.from I h1) (B.from I h2)
 has:=fun x hx=>by
  have hx:(relabel scope X.env).names.lookup x=some .cell∨(relabel scope X.env).names.lookup x=some .free:=hx
  refine clOf_has scope.names [] x (.inl ?_)
  have hm:(x,NameKind.cell)∈(relabel scope X.env).names∨(x,NameKind.free)∈(relabel scope X.env).names:=hx.imp PySem.mem_of_lookup PySem.mem_of_lookup
  have key:∀k,(x,k)∈(relabel scope X.env).names→k=.cell∨k=.free→(x,NameKind.free)∈scope.names:=fun k hk hkk=>by
   obtain⟨⟨n,k0⟩,hn,e⟩:=List.mem_map.mp hk
   by_cases hc:(k0==NameKind.free&&X.env.scope.kind==.function&&X.env.kindOf n==some .cell)=true
   ·have e':(n,NameKind.cell)=(x,k):=by rw[←e];exact (if_pos hc).symm
    cases e'
    have:k0=.free:=by simp at hc;exact hc.1.1
    rw[←this];exact hn
   ·have e':(n,k0)=(x,k):=by rw[←e];exact (if_neg hc).symm
    cases e'
    rcases hkk with rfl|rfl
    ·exact absurd rfl (B.cell _ hn)
    ·exact hn
  rcases hm with hm|hm
  ·exact key _ hm (.inl rfl)
  ·exact key _ hm (.inr rfl)
 cab:=fun x c h _=>by cases h
 hd:=I.ok.hd
 frames:=I.ok.frames
 stk:=.inl rfl
 exf:=fun b hb=>⟨by
  obtain⟨o,e⟩:=ho b hb
  exact nn0 (nl0 (hs0 e) hC),fun x c e=>(hf b hb).2.2.2.2.1 x c (B.from I e)⟩
 bs:=I.bs
 bsz:=nt0 I.ok.bsz I.sz
 noex:=fun b o e hb=>by
  rcases (hf b hb).2.2.2.1 with z|z
  ·exact I.ok.noex b o e z
  ·exact absurd (nl0 (hs0 e) (nt0 I.ok.bsz z)) (Nat.lt_irrefl _)
 exfs:=fun b hb z=>by
  obtain⟨_,h1,h2,_⟩:=hf b hb
  exact (List.mem_cons.mp (I.stkSub b z)).elim h1 h2
 funs:=I.stack
 frf:=I.stkFree
theorem blk_fp (B:BlkOk X scope js)(I:Inv X pins σ H s)(hf:∀b∈fp,FpOk X pins H b)(ho:∀b∈fp,∃o,s.heap.get? b=some o){C:Addr}(hC:s.heap.objs.size≤C){H':Hp}(hn:∀b∈fp,H' b=none):
  ∀b∈fp,FpOk (blk X scope (blkN X tn js) C s H fp) [] H' b:=fun b hb=>by
 have ok:=blk_ok (tn:=tn) B I hf ho hC
 exact⟨hn b hb,(ok.exf b hb).1,ok.exfs b hb,.inl hb,(ok.exf b hb).2,fun p hp=>absurd (show p∈([]:List (Addr×Obj)) from hp) (by simp)⟩
theorem blk_inv (B:BlkOk X scope js)(I:Inv X pins σ H s)(hf:∀b∈fp,FpOk X pins H b)(ho:∀b∈fp,∃o,s.heap.get? b=some o){C D:Addr}(hD:s.heap.objs.size≤D)(hC:s.heap.objs.size≤C)(hCD:C≠D){h1:Heap}{tk:Nat}
  (k:∀b o,s.heap.get? b=some o→h1.get? b=some o) (hl:h1.get? D=some {cls:=.type "list",data:=.seq (#[]:Array Value) 0}) {m:Str→Option Value} (hns:h1.Ns C m):
  Inv (blk X scope (blkN X tn js) C s H fp) [] (blkS tn js σ) (upd H D (.lst [])) {s with heap:=h1,toks:=tk}:=by
 have hDn:H D=none:=I.hok.fresh hD
 refine⟨blk_ok B I hf ho hC,rfl,I.bare,Un.laid k hD hDn,⟨m,hns,fun i x v e1 e2 e3=>?_⟩,fun x c e=>?_,?_,fun x c e=>?_,fun p hp=>absurd (show p∈([]:List (Addr×Obj)) from hp) (by simp),I.hok.laid k hD ⟨by simp,[],0,.nil,by simpa using hl⟩,?_⟩
 ·have e1:(blkN X tn js)[i]?=some x:=e1
  by_cases hi:i<tn.length
  ·unfold blkS at e2
   rw[List.getElem?_append_left (by simpa using hi),List.getElem?_map] at e2
   cases q:tn[i]? with
   |none=>rw[q] at e2;cases e2
   |some y=>rw[q] at e2;cases e2
  ·unfold blkS at e2
   unfold blkN at e1
   rw[List.getElem?_append_right (by simp;omega),List.getElem?_map] at e2
   rw[List.getElem?_append_right (by omega),List.getElem?_map] at e1
   rw[lm0] at e2
   cases q:js[i-tn.length]? with
   |none=>rw[q] at e2;cases e2
   |some j=>
    rw[q] at e1 e2
    have e2:(σ[j]?).join=some v:=Option.some.inj e2
    obtain⟨y,hy,hyf⟩:=B.js j (List.mem_of_getElem? q)
    have e1:X.N.getD j Str.empty=x:=Option.some.inj e1
    have ey:y=x:=by rw[←e1,List.getD_eq_getElem?_getD,hy];rfl
    subst ey
    have e2':σ[j]?=some (some v):=by
     cases r:σ[j]? with
     |none=>rw[r] at e2;cases e2
     |some o=>rw[r] at e2;cases o with
      |none=>cases e2
      |some v'=>cases e2;rfl
    have hk:=B.free _ (PySem.mem_of_lookup hyf) rfl
    obtain⟨m0,_,hl0⟩:=I.loc
    obtain⟨u,r,lk⟩:=hl0 j y v hy e2' (.inr (.inl hk))
    refine⟨u,r,?_⟩
    rcases lk with⟨z,_⟩|⟨_,c,hc,z⟩
    ·rw[hk] at z;cases z
    ·obtain⟨c',hc'⟩:=clOf_has (env:=X.env) scope.names [] y (.inl (PySem.mem_of_lookup hyf))
     have:c'=c:=by have:=B.from I hc';rw[hc] at this;exact (Option.some.inj this).symm
     subst this
     refine .inr ⟨.inl (lookup_relabel_free I.ok.kind hyf hk),c',hc',?_⟩
     obtain⟨o,h2,h3⟩:=z
     exact⟨o,k _ _ h2,h3⟩
 ·obtain⟨v,o,h2,h3⟩:=I.cell x c (B.from I e)
  exact⟨v,o,k _ _ h2,h3⟩
 ·show upd H D (.lst []) C=none
  rw[upd_ne hCD];exact I.hok.fresh hC
 ·show upd H D (.lst []) c=none
  have e':=B.from I e
  obtain⟨v,o,h2,h3⟩:=I.cell x c e'
  rw[upd_ne (nn0 (nl0 (hs0 h2) hD))]
  exact I.freeC x c e'
 ·show (blkS tn js σ).length=(blkN X tn js).length
  unfold blkS blkN
  simp
theorem blk_out {C:Addr}{σ':St}{H':Hp}{s':Shared}{N:List Str}{pl:List (Addr×Obj)}(I:Inv X pins σ H s)(hf:∀b∈fp,FpOk X pins H b)(J:Inv (blk X scope N C s H fp) pl σ' H' s'):Inv X pins σ H' s':=
 I.call' J.os J.base J.hok J.bare fun b hb=>⟨(hf b hb).2.2.2.1,(hf b hb).2.1,(hf b hb).2.2.2.2.1,(hf b hb).2.2.2.2.2⟩
end
noncomputable def PCs (X:Cx)(ifs:List Expr)(t:TT):Prop:=
 ∀(pins:List (Addr×Obj)) (s:Shared) (σ:St) (H:Hp) (Q:Bool→Hp→Prop),Inv X pins σ H s→t σ H Q→wpAny (model X.prog X.w) X.A (testsOf ifs X.env) (TP X pins σ Q) X.xe s
theorem pcs_nil {X:Cx}:PCs X [] (fun _ H Q=>Q true H):=fun _ _ _ H _ I h=>wpAny_tests_nil ⟨H,I,h⟩
theorem pcs_one {X:Cx}{c:Expr}{t:TT}(h:PT X c t):PCs X [c] t:=fun pins s σ H Q I q=>wpAny_tests_one (h pins s σ H Q I q)
noncomputable def tComp (tn:List Str)(js:List Nat)(wi:TI)(g:TG)(tc:TT)(te:TE):TE:=fun σ H Q=>wi σ H fun J H1=>∀p,H1 p=none→∃W:Nat→Nat→St→Hp→Prop,(∃m,W 0 m (blkS tn js σ) (upd H1 p (.lst [])))∧∀i m σ' H',W i m σ' H'→
 (J.stop i H'∧Q (.ref p) H')∨(J.go i H'∧∀x H2,J.yld i H' x H2→g x σ' H2 fun σ2 H3=>tc σ2 H3 fun b H4=>
  if b=true then te σ2 H4 fun y H5=>∃ys,H5 p=some (.lst ys)∧ys.length<sizeLine∧∃m',m'<m∧W (i+1) m' σ2 (upd H5 p (.lst (ys++[y]))) else ∃m',m'<m∧W (i+1) m' σ2 H4)
section
variable {X:Cx}{elt iter tg:Expr}{ifs:List Expr}{scope:Scope}{pos:Pos}{tn:List Str}{js:List Nat}{wi:TI}{g:TG}{tc:TT}{te:TE}
theorem comp_core {pins:List (Addr×Obj)}{σ:St}{s2:Shared}{E:Value→Shared→Prop}{RR:Value→Addr→Result→Shared→Prop}{Q:VK}{itv:Value}(B:BlkOk X scope js)(hcalm:X.calm=true)
  (hg:∀C s H fp,PG (blk X scope (blkN X tn js) C s H fp) tg g) (hc:∀C s H fp,PCs (blk X scope (blkN X tn js) C s H fp) ifs tc) (he:∀C s H fp,PE (blk X scope (blkN X tn js) C s H fp) elt te)
  (h2:PIE X pins σ tg (fun J H1=>∀p,H1 p=none→∃W:Nat→Nat→St→Hp→Prop,(∃m,W 0 m (blkS tn js σ) (upd H1 p (.lst [])))∧∀i m σ' H',W i m σ' H'→
   (J.stop i H'∧Q (.ref p) H')∨(J.go i H'∧∀x H2,J.yld i H' x H2→g x σ' H2 fun σ2 H3=>tc σ2 H3 fun b H4=>
    if b=true then te σ2 H4 fun y H5=>∃ys,H5 p=some (.lst ys)∧ys.length<sizeLine∧∃m',m'<m∧W (i+1) m' σ2 (upd H5 p (.lst (ys++[y]))) else ∃m',m'<m∧W (i+1) m' σ2 H4)) itv s2)
  (fin:∀(C D:Addr) (s':Shared) (H':Hp) (m:Str→Option Value),Inv X pins σ H' s'→s2.heap.objs.size≤C→C≠X.env.locals→(∀x c,X.env.cells.lookup x=some c→c≠C)→(∀p∈X.pn++pins,p.1≠C)→X.s₀.heap.objs.size≤C→H' C=none→s'.heap.Ns C m→
   Q (.ref D) H'→RR (.ref D) C (.ok .next) s'):
  wpAny (model X.prog X.w) X.A (newList []) (fun acc s3=>wpAny (model X.prog X.w) X.A (newFunctionEnv scope X.env.globals (clOf X.env scope.names []) [] X.env.qual none .none (some X.env)) (fun cenv s4=>
   codeAny (model X.prog X.w) X.A (.compStart (.ListComp elt [⟨tg,iter,ifs,0⟩] scope pos) 0 itv acc {cenv with scope:=relabel scope X.env}) (RR acc cenv.locals) s4) E s3) E s2:=by
 obtain⟨it,fp,tnn,J,H2,e,I2,T,st2,f2,R⟩:=h2
 subst e
 refine wpAny_newObj_type (wpAny_newFunctionEnv B.cell (by intro y hy;simp at hy) (fun h1 hns hsb=>?_) B.kind)
 dsimp only at hns hsb ⊢
 generalize hP:s2.heap.push {cls:=.type "list",dict:=none,data:=.seq ([]:List Value).toArray}=P2 at hns hsb ⊢
 have hC:P2.objs.size=s2.heap.objs.size+1:=by rw[←hP,Heap.size_push]
 have hCle:s2.heap.objs.size≤P2.objs.size:=by omega
 have hCD:P2.objs.size≠s2.heap.objs.size:=by omega
 have old:∀b o,s2.heap.get? b=some o→h1.get? b=some o:=fun b o e=>
  hsb.extBut b o (nn0 (nl0 (hs0 e) hCle)) (ps0 _ (hP▸ps0 _ e))
 have hacc:h1.get? s2.heap.objs.size=some {cls:=.type "list",data:=.seq (#[]:Array Value) 0}:=
  hsb.extBut _ _ (Ne.symm hCD) (ps0 _ (hP▸pz0 _ rfl))
 have ho:∀b∈fp,∃o,s2.heap.get? b=some o:=fun b hb=>let ⟨o,e,_⟩:=T.obj 0 _ st2 b hb;⟨o,e⟩
 have hDn:H2 s2.heap.objs.size=none:=I2.hok.fresh (nr0 _)
 obtain⟨W,⟨m0,w0⟩,turn⟩:=R _ hDn
 have I4:=blk_inv (tn:=tn) (tk:=s2.toks+([]:List (Str×Value)).length) B I2 f2 ho (nr0 _) hCle hCD old hacc hns
 have fpo:∀{H':Hp},(∀b∈fp,H' b=none)→∀b∈fp,FpOk (blk X scope (blkN X tn js) P2.objs.size s2 H2 fp) [] H' b:=fun hn=>blk_fp (tn:=tn) B I2 f2 ho hCle hn
 have st4:tnn 0 h1:=T.keep _ _ _ st2 fun b hb o e=>old b o e
 have fr4:∀b∈fp,upd H2 s2.heap.objs.size (.lst []) b=none:=fun b hb=>by
  obtain⟨o,e⟩:=ho b hb
  rw[upd_ne (nn0 (hs0 e))]
  exact (f2 b hb).1
 have loop:∀s3:Shared,s3={s2 with heap:=h1,toks:=s2.toks+([]:List (Str×Value)).length}→
   codeAny (model X.prog X.w) X.A (.compLoop (.ListComp elt [⟨tg,iter,ifs,0⟩] scope pos) 0 (.ref it) (.ref s2.heap.objs.size) (compEnvC scope (clOf X.env scope.names []) P2.objs.size X.env)) (RR (.ref s2.heap.objs.size) P2.objs.size) s3:=by
  rintro s3 rfl
  refine compLoop_go (fun n s'=>∃i σ' H',Inv (blk X scope (blkN X tn js) P2.objs.size s2 H2 fp) [] σ' H' s'∧tnn i s'.heap∧(∀b∈fp,H' b=none)∧W i n σ' H') ?_ m0 ⟨0,_,_,I4,st4,fr4,w0⟩
  rintro n s3 ⟨i,σ3,H3,I3,st3,fr3,w3⟩
  rcases turn i n σ3 H3 w3 with⟨stop,qn⟩|⟨go,step⟩
  ·refine thn (T.done (blk X scope (blkN X tn js) P2.objs.size s2 H2 fp) rfl rfl rfl hcalm i [] s3 σ3 H3 _ I3 (fpo fr3) st3 stop) fun r s4 ⟨hr,I4'⟩=>?_
   subst hr
   obtain⟨m,hm,_⟩:=I4'.loc
   refine fin _ _ s4 H3 m (blk_out I2 f2 I4') hCle (Nat.ne_of_gt (nl0 I2.lt hCle)) (fun x c e=>?_) (fun p hp z=>?_) (nt0 I2.sz hCle) I4'.free hm qn
   ·obtain⟨v,q⟩:=I2.cell x c e
    exact nn0 (nl0 q.lt hCle)
   ·exact absurd (nl0 (hs0 (I2.pin p hp).1) (by rw[z];exact hCle)) (Nat.lt_irrefl _)
  ·refine thn (T.item (blk X scope (blkN X tn js) P2.objs.size s2 H2 fp) rfl rfl rfl hcalm i [] s3 σ3 H3 _ I3 (fpo fr3) st3 go) fun r s4 ⟨u,hr,h4⟩=>?_
   subst hr
   refine thn h4 fun _ s5 ⟨x,H5,I5,r5,y5,st5,fr5⟩=>?_
   have I5':=I5.pinned (fpo fr5) (T.obj _ _ st5)
   refine thn (hg _ _ _ _ _ s5 σ3 H5 x u _ I5' r5 (step x H5 y5)) fun _ s6 ⟨σ6,H6,I6,q6⟩=>?_
   have again:∀{s7:Shared} {σ7:St} {H7:Hp},Inv (blk X scope (blkN X tn js) P2.objs.size s2 H2 fp) ([]++pinsAt fp s5.heap) σ7 H7 s7→(∃m',m'<n∧W (i+1) m' σ7 H7)→
     ∃m,m<n∧∃i σ' H',Inv (blk X scope (blkN X tn js) P2.objs.size s2 H2 fp) [] σ' H' s7∧tnn i s7.heap∧(∀b∈fp,H' b=none)∧W i m σ' H':=fun {s7 σ7 H7} I7 ⟨m',hm,w7⟩=>by
    refine⟨m',hm,i+1,σ7,H7,I7.unpinned,T.keep _ _ _ st5 fun b hb o e=>(I7.pin (b,o) (List.mem_append_right _ (List.mem_append_right _ (mem_pinsAt hb e)))).1,fun b hb=>?_,w7⟩
    obtain⟨o,e,d⟩:=T.obj _ _ st5 b hb
    exact (I7.pin (b,o) (List.mem_append_right _ (List.mem_append_right _ (mem_pinsAt hb e)))).2.1
   refine thn (hc _ _ _ _ _ s6 σ6 H6 _ I6 q6) fun ok s7 ⟨H7,I7,q7⟩=>?_
   cases ok with
   |false=>
    rw[if_neg fx0] at q7 ⊢
    exact again I7 q7
   |true=>
    rw[if_pos rfl] at q7 ⊢
    refine thn (he _ _ _ _ _ s7 σ6 H7 _ I7 q7) fun xv s8 ⟨y,H8,I8,r8,ys,hp,hz,q8⟩=>?_
    refine thn (mt_append _ s8 σ6 H8 (.ref s2.heap.objs.size) [y] _ [xv] (fun _ H'=>∃m',m'<n∧W (i+1) m' σ6 H') I8 rfl (.cons r8 .nil) ⟨_,ys,y,rfl,rfl,hp,hz,q8⟩) fun _ s9 ⟨_,H9,I9,_,q9⟩=>?_
    exact again I9 q9
 exact codeAny_compStart_list (loop _ rfl) (T.self _ 0 _ _ _ st4 (loop _ rfl))
theorem pe_comp (B:BlkOk X scope js)(hcalm:X.calm=true)(hi:PI X tg iter wi)(hg:∀C s H fp,PG (blk X scope (blkN X tn js) C s H fp) tg g)(hc:∀C s H fp,PCs (blk X scope (blkN X tn js) C s H fp) ifs tc)
  (he:∀C s H fp,PE (blk X scope (blkN X tn js) C s H fp) elt te) (hs:∀x,foldedSetIterable iter X.env x=pure x:=by intro _;rfl):PE X (.ListComp elt [⟨tg,iter,ifs,0⟩] scope pos) (tComp tn js wi g tc te):=by
 intro pins s σ H Q I h
 rw[eval_ListComp]
 refine wpAny_comprehension_free (use:=none) rfl hs (closureFor_cl (B.cells I)) B.kind B.loc (thn (hi pins s σ H _ I h) fun v s1 h1=>thn h1 fun itv s2 h2=>?_)
 refine comp_core (RR:=fun acc C=>compPost (model X.prog X.w) X.A X.xe none (EP X pins σ Q) acc C) B hcalm hg hc he h2 ?_
 intro C D s' H' m I' h1 h2 h3 h4 h5 h6 hm q
 refine⟨m,hm,fun h'' sb=>?_⟩
 exact⟨.ref D,H',I'.turned (t':=s'.toks) (fun b o hb e=>(sb.2 b hb).trans e) h6 h2 (.inr h5) h3 h4,rfl,q⟩
theorem ps_comp {i:Nat}{y:Str}{py spos:Pos}(B:BlkOk X scope js)(hcalm:X.calm=true)(hi:PI X tg iter wi)(hg:∀C s H fp,PG (blk X scope (blkN X tn js) C s H fp) tg g)(hc:∀C s H fp,PCs (blk X scope (blkN X tn js) C s H fp) ifs tc)
  (he:∀C s H fp,PE (blk X scope (blkN X tn js) C s H fp) elt te) (hN:X.N.Nodup) (hix:X.N[i]?=some y) (hy:X.env.scope.names.lookup y=some .local)
  (hsw:swapsWith (.ListComp elt [⟨tg,iter,ifs,0⟩] scope pos) (some (.Name y py)) spos.line X.env=pure true:=by rfl) (hs:∀x,foldedSetIterable iter X.env x=pure x:=by intro _;rfl):
  PS X (.Assign [.Name y py] (.ListComp elt [⟨tg,iter,ifs,0⟩] scope pos) spos) (fun F σ H=>tComp tn js wi g tc te σ H fun v H'=>F.nx (σ.set i (some v)) H'):=by
 intro pins s σ H F I h
 rw[exec_Assign_Name_used _ _ _ _ hsw]
 refine wpAny_bind (wpAny_standAt (wpAny_bind ?_))
 refine wpAny_bind (wpAny_mono (wpAny_comprehension_free (use:=some (assign (.Name y py) X.env)) (Q:=fun _ s'=>SP X pins F .next s') rfl hs (closureFor_cl (B.cells I)) B.kind B.loc
  (thn (hi pins s σ H _ I h) fun v s1 h1=>thn h1 fun itv s2 h2=>?_)) (fun _ s' hq=>wpAny_pure (wpAny_pure hq)) fun _ _ e=>e)
 refine comp_core (RR:=fun acc C=>compPost (model X.prog X.w) X.A X.xe (some (assign (.Name y py) X.env)) (fun _ s'=>SP X pins F .next s') acc C) (Q:=fun v H'=>F.nx (σ.set i (some v)) H') B hcalm hg hc he h2 ?_
 intro C D s' H' m I' h1 h2 h3 h4 h5 h6 hm q
 show wpAny _ X.A (assign (.Name y py) X.env (.ref D)) _ _ s'
 refine wpAny_assign_Name (store_ok2 (v:=.ref D) I' hN hix (.inl hy) rfl (fun s'' I'' hb=>?_) (.inr hy))
 obtain⟨a,sb,ha⟩:=hb
 have haC:C≠a:=by
  rcases ha with z|z
  ·rw[z];exact h2
  ·exact (h3 _ _ z).symm
 refine⟨m,hm.sameBut sb haC,fun h'' sb''=>?_⟩
 exact⟨_,H',I''.turned (t':=s''.toks) (fun b o hb e=>(sb''.2 b hb).trans e) h6 h2 (.inr h5) h3 h4,q⟩
end
end L2.C
namespace SI
open PySem
inductive D where
 |none
 |bool (b:Bool)
 |int (i:Int)
 |str (x:Str)
 |tuple (ds:List D)
 |list (ds:List D)
 |dict (kvs:List (Sum Int Str×D))
 |scr (ns:List Int)
 |vlt (C h:Nat) (objs:List D)
 |hdl (h:Nat)
 |exc (C:Nat)
mutual
noncomputable def D.beq:D→D→Bool
 |.none,.none=>true
 |.bool a,.bool b=>a==b
 |.int a,.int b=>a==b
 |.str a,.str b=>a==b
 |.tuple a,.tuple b=>D.beqs a b
 |.list a,.list b=>D.beqs a b
 |.dict a,.dict b=>D.beqk a b
 |.scr a,.scr b=>a==b
 |.vlt c h a,.vlt d k b=>c==d&&(h==k&&D.beqs a b)
 |.hdl a,.hdl b=>a==b
 |.exc a,.exc b=>a==b
 |_,_=>false
noncomputable def D.beqs:List D→List D→Bool
 |[],[]=>true
 |a::r,b::q=>D.beq a b&&D.beqs r q
 |_,_=>false
noncomputable def D.beqk:List (Sum Int Str×D)→List (Sum Int Str×D)→Bool
 |[],[]=>true
 |(k,a)::r,(l,b)::q=>decide (k=l)&&(D.beq a b&&D.beqk r q)
 |_,_=>false
end
mutual
theorem D.beq_iff:∀a b:D,D.beq a b=true↔a=b
 |.none,b=>by cases b<;>simp[D.beq]
 |.bool a,b=>by cases b<;>simp[D.beq]
 |.int a,b=>by cases b<;>simp[D.beq]
 |.str a,b=>by cases b<;>simp[D.beq]
 |.tuple a,b=>by cases b<;>simp[D.beq,D.beqs_iff a]
 |.list a,b=>by cases b<;>simp[D.beq,D.beqs_iff a]
 |.dict a,b=>by cases b<;>simp[D.beq,D.beqk_iff a]
 |.scr a,b=>by cases b<;>simp[D.beq]
 |.vlt c h a,b=>by cases b<;>simp[D.beq,D.beqs_iff a]
 |.hdl a,b=>by cases b<;>simp[D.beq]
 |.exc a,b=>by cases b<;>simp[D.beq]
theorem D.beqs_iff:∀a b:List D,D.beqs a b=true↔a=b
 |[],b=>by cases b<;>simp[D.beqs]
 |a::r,b=>by cases b<;>simp[D.beqs,D.beq_iff a,D.beqs_iff r]
theorem D.beqk_iff:∀a b:List (Sum Int Str×D),D.beqk a b=true↔a=b
 |[],b=>by cases b<;>simp[D.beqk]
 |(k,a)::r,b=>by
  cases b with
  |nil=>simp[D.beqk]
  |cons q b=>obtain⟨l,d⟩:=q;simp[D.beqk,D.beq_iff a,D.beqk_iff r,and_assoc]
end
noncomputable instance:DecidableEq D:=fun a b=>decidable_of_iff _ (D.beq_iff a b)
inductive Sl where
 |no
 |dat (d:D)
 |lent (d:D)
 |own (d:D)
 |deep (rows:List (List D))
inductive Op2 where|add|sub|mul|mod|fdiv
inductive Cop where|lt|le|gt|eq|ne|isin
inductive Bf where|len|int|tuple|all|srt|fst
inductive Mf where|split|join
inductive Tg where
 |one (i:Nat)
 |tup (is:List Nat)
inductive Md where|val|read|test|walk
mutual
inductive E where
 |k (d:D)
 |v (i:Nat)
 |g (x:Str)
 |op (o:Op2) (a b:E)
 |neg (a:E)
 |cmp (o:Cop) (a b:E)
 |chain (o o':Cop) (a b c:E)
 |and (a b:E)
 |or (a b:E)
 |not (a:E)
 |ite (c a b:E)
 |call (f:Str) (as:Es)
 |idx (a i:E)
 |sl (a:E) (lo hi:Es)
 |lst (as:Es)
 |tup (as:Es)
 |comp (nt:Nat) (js:List Nat) (tg:Tg) (src:I) (ifs:Es) (elt:E)
 |bi (f:Bf) (as:Es)
 |me (m:Mf) (o:E) (as:Es)
 |isi (a:E) (T:String)
 |isx (a:E) (c:Nat) (tab:List (Nat×Bool))
 |vob (c:Nat) (a:E)
 |vcall (c:Nat) (m:Str) (o:E) (as:Es)
inductive Es where
 |nil
 |cons (a:E) (as:Es)
inductive I where
 |seq (a:E)
 |rng (a:E)
 |zip (as:Es)
end
mutual
inductive S where
 |set (i:Nat) (e:E)
 |new (i:Nat) (e:E)
 |app (i:Nat) (e:E)
 |seti (i:Nat) (k e:E)
 |ifs (c:E) (a b:Ss)
 |fors (tg:Tg) (src:I) (body:Ss)
 |ret (e:E)
 |pass
 |stuck
inductive Ss where
 |nil
 |cons (s:S) (r:Ss)
end
noncomputable def big:Nat:=16777216
noncomputable def ixN (n:Nat)(i:Int):Option Nat:=if 0≤i then (if i<n then some i.toNat else none) else if -(n:Int)≤i then some (i+n).toNat else none
noncomputable def atI {α:Type}(xs:List α)(i:Int):Option α:=(ixN xs.length i).bind fun j=>xs[j]?
noncomputable def sIx (n d:Nat):Option Int→Nat
 |none=>d
 |some v=>if v<0 then (v+(n:Int)).toNat else min v.toNat n
noncomputable def cut {α:Type}(xs:List α)(lo hi:Option Int):List α:=(xs.drop (sIx xs.length 0 lo)).take (sIx xs.length xs.length hi-sIx xs.length 0 lo)
noncomputable def okS:Nat→D→Bool
 |_,.none=>true
 |_,.int _=>true
 |_,.str _=>true
 |n+1,.tuple ds=>ds.all (okS n)
 |n+1,.list ds=>ds.all (okS n)
 |_,_=>false
noncomputable def flatD:D→Bool
 |.none=>true
 |.int _=>true
 |.str _=>true
 |_=>false
noncomputable def truD:D→Option Bool
 |.none=>some false
 |.bool b=>some b
 |.int i=>some (i != 0)
 |.str x=>if x.length≤big then some ((x.length:Int) != 0) else none
 |.tuple ds=>some (!ds.isEmpty)
 |.list ds=>some (!ds.isEmpty)
 |.dict kvs=>some (!kvs.isEmpty)
 |.scr ns=>some (!ns.isEmpty)
 |_=>none
noncomputable def asB:D→Option Bool
 |.bool b=>some b
 |_=>none
noncomputable def asI:D→Option Int
 |.int i=>some i
 |_=>none
noncomputable def fin:Md→Option D→Option D
 |.test,d=>d.bind fun d=>(truD d).map .bool
 |_,d=>d
noncomputable def bm:Md→Md
 |.test=>.test
 |_=>.val
noncomputable def noT:Md→Option D→Option D
 |.test,_=>none
 |_,d=>d
noncomputable def rOk (n:Int):Bool:=decide (-(2 ^ 62)≤n)&&decide (n<2 ^ 62)
noncomputable def repOk (n:Nat)(j:Int):Bool:=decide (-(2 ^ 63)≤j)&&decide (j<2 ^ 63)&&decide (n*j.toNat≤big)
noncomputable def cMul (i j:Int):Bool:=(decide (-(2 ^ 64)<i)&&decide (i<2 ^ 64))||(decide (-(2 ^ 64)<j)&&decide (j<2 ^ 64))
theorem rOk_of {n:Int}(h1:-1000000≤n)(h2:n≤1000000):rOk n=true:=by
 unfold rOk;rw[decide_eq_true (by omega),decide_eq_true (by omega)];rfl
noncomputable def opD:Op2→D→D→Option D
 |.add,.int i,.int j=>some (.int (i+j))
 |.add,.str x,.str y=>if x.length+y.length≤big then some (.str (x++y)) else none
 |.add,.list a,.list b=>if a.length+b.length≤big then some (.list (a++b)) else none
 |.sub,.int i,.int j=>some (.int (i-j))
 |.mul,.int i,.int j=>if cMul i j then some (.int (i*j)) else none
 |.mul,.list a,.int j=>if repOk a.length j then some (.list (List.replicate j.toNat a).flatten) else none
 |.mul,.str x,.int j=>if -1000≤j∧j≤1000∧x.length≤1000 then some (.str ⟨((List.replicate j.toNat x.cps.toList).flatten).toArray⟩) else none
 |.mod,.int i,.int j=>if 0<j then some (.int (i % j)) else none
 |.fdiv,.int i,.int j=>if 0<j∧j<1073741824 then some (.int (i / j)) else none
 |_,_,_=>none
noncomputable def keyD:D→Option (Sum Int Str)
 |.int i=>some (.inl i)
 |.str x=>some (.inr x)
 |_=>none
noncomputable def look {α:Type}:List (Sum Int Str×α)→Sum Int Str→Option α
 |[],_=>none
 |(l,d)::r,k=>if l=k then some d else look r k
noncomputable def eqD (a b:D):Option Bool:=
 if okS 8 a&&okS 8 b then some (decide (a=b)) else
 match a,b with
 |.bool a,.bool b=>some (a==b)
 |_,_=>none
noncomputable def hasSub (x y:Str):Bool:=!(Builtin.Str.occurrences y x 0 y.length 1).isEmpty
noncomputable def inD (a b:D):Option Bool:=
 match b with
 |.str y=>match a with
  |.str x=>some (hasSub x y)
  |_=>none
 |.tuple ds=>if flatD a&&ds.all flatD then some (ds.any fun d=>decide (d=a)) else none
 |_=>none
noncomputable def cmpD:Cop→D→D→Option Bool
 |.lt,.int i,.int j=>some (decide (i<j))
 |.le,.int i,.int j=>some (decide (i≤j))
 |.gt,.int i,.int j=>some (decide (j<i))
 |.lt,.str x,.str y=>some (decide (x.cps.toList<y.cps.toList))
 |.le,.str x,.str y=>some (!decide (y.cps.toList<x.cps.toList))
 |.eq,a,b=>eqD a b
 |.ne,a,b=>(eqD a b).map (!·)
 |.isin,a,b=>inD a b
 |_,_,_=>none
noncomputable def idxD:D→D→Option D
 |.list ds,.int i=>atI ds i
 |.tuple ds,.int i=>atI ds i
 |.scr ns,.int i=>(atI ns i).map .int
 |.str x,.int i=>if x.length≤big then (atI x.cps.toList i).map fun c=>.str ⟨#[c]⟩ else none
 |_,_=>none
noncomputable def slD (d:D)(lo hi:Option Int):Option D:=
 match d with
 |.list ds=>some (.list (cut ds lo hi))
 |.str x=>if x.length≤big then some (.str (Txt.slice x lo hi)) else none
 |_=>none
noncomputable def isiD (T:String):D→Option Bool
 |.none=>some false
 |.bool _=>some (T=="bool"||T=="int")
 |.int _=>some (T=="int")
 |.str _=>some (T=="str")
 |.tuple _=>some (T=="tuple")
 |.list _=>some (T=="list")
 |.dict _=>some (T=="dict")
 |_=>none
noncomputable def strsOf:List D→Option (List Str)
 |[]=>some []
 |.str x::r=>(strsOf r).map (x::·)
 |_::_=>none
noncomputable def boolsOf:List D→Option (List Bool)
 |[]=>some []
 |.bool b::r=>(boolsOf r).map (b::·)
 |_::_=>none
noncomputable def ltS (x y:Str):Bool:=decide (x.cps.toList<y.cps.toList)
noncomputable def insS (x:Str):List Str→List Str
 |[]=>[x]
 |y::r=>if x=y then y::r else if ltS x y then x::y::r else y::insS x r
noncomputable def srtS:List Str→List Str
 |[]=>[]
 |x::r=>insS x (srtS r)
noncomputable def biD:Bf→List D→Option D
 |.len,[.list ds]=>some (.int ds.length)
 |.len,[.tuple ds]=>some (.int ds.length)
 |.len,[.scr ns]=>some (.int ns.length)
 |.len,[.str x]=>if x.length≤big then some (.int x.length) else none
 |.int,[.int i]=>some (.int i)
 |.int,[.bool b]=>some (.int (if b then 1 else 0))
 |.tuple,[.list ds]=>if ds.length≤big then some (.tuple ds) else none
 |.all,[.list ds]=>(boolsOf ds).map fun bs=>.bool (bs.all id)
 |.srt,[.list ds]=>(strsOf ds).bind fun ss=>if ss.length<64 then some (.list ((srtS ss).map .str)) else none
 |.fst,[.str x,.str y]=>if x.length+y.length≤big then some (.str (x++y)) else none
 |_,_=>none
noncomputable def meD:Mf→D→List D→Option D
 |.split,.str x,[.str y]=>if (y.length==0)=false∧x.length+2≤big then some (.list ((Txt.split x y).map .str)) else none
 |.join,.str x,[.list ds]=>(strsOf ds).bind fun ys=>if (ys.map (·.length)).sum+ys.length*x.length≤big then some (.str (Txt.join x ys)) else none
 |_,_,_=>none
noncomputable def itemsD:D→Option (List D)
 |.list ds=>some ds
 |.tuple ds=>some ds
 |.scr ns=>some (ns.map .int)
 |.str x=>if x.length≤big then some (x.cps.toList.map fun c=>.str ⟨#[c]⟩) else none
 |_=>none
@[simp] noncomputable def zip2:List D→List D→List D
 |a::r,b::q=>.tuple [a,b]::zip2 r q
 |_,_=>[]
@[simp] noncomputable def zip3:List D→List D→List D→List D
 |a::r,b::q,c::p=>.tuple [a,b,c]::zip3 r q p
 |_,_,_=>[]
noncomputable def zipOk:List D→Option (List D)
 |[.list a,.list b]=>if b.length≤a.length then some (zip2 a b) else none
 |_=>none
noncomputable def itemsEach:List D→Option (List (List D))
 |[]=>some []
 |d::r=>(itemsD d).bind fun a=>(itemsEach r).map (a::·)
noncomputable def ownD:D→Bool
 |.list _=>true
 |.dict _=>true
 |.vlt ..=>true
 |_=>false
noncomputable def datsOf (m:Md):Sl→Option D
 |.dat d=>some d
 |.lent d=>match m with|.val=>if ownD d then none else some d|_=>some d
 |.own d=>match m with|.val=>none|.walk=>none|_=>some d
 |_=>none
noncomputable def bindTg:Tg→D→List Sl→Option (List Sl)
 |.one i,d,ρ=>some (ρ.set i (.dat d))
 |.tup is,.list ds,ρ=>if is.length=ds.length then some ((is.zip ds).foldl (fun ρ p=>ρ.set p.1 (.dat p.2)) ρ) else none
 |.tup is,.tuple ds,ρ=>if is.length=ds.length then some ((is.zip ds).foldl (fun ρ p=>ρ.set p.1 (.dat p.2)) ρ) else none
 |_,_,_=>none
noncomputable def lend:Sl→Sl
 |.own d=>.lent d
 |.deep _=>.no
 |s=>s
@[simp] noncomputable def blk (nt:Nat)(js:List Nat)(ρ:List Sl):List Sl:=List.replicate nt .no++js.map fun j=>lend (ρ[j]?.getD .no)
noncomputable def compL (f:D→Option (Option D)):List D→Option (List D)
 |[]=>some []
 |d::r=>(f d).bind fun o=>(compL f r).map fun q=>match o with
  |none=>q
  |some x=>x::q
structure Fn where
 lent:List Bool
 run:List D→Option D
noncomputable abbrev Fs:=Str→Option Fn
noncomputable def vname (m:Str):Str:=("Vault.":Str)++m
noncomputable def isVlt (c:Nat):D→Bool
 |.vlt c' _ _=>c'==c
 |_=>false
noncomputable def vobs:D→List D
 |.vlt _ _ os=>os
 |_=>[]
noncomputable def isxD (tab:List (Nat×Bool)):D→Option Bool
 |.exc C=>tab.lookup C
 |_=>none
noncomputable def roM:Md→Option D→Option D
 |.read,o=>o
 |.test,o=>o
 |_,_=>none
variable (Φ:Fs)(Γ:List (Str×D))
mutual
@[simp] noncomputable def ev (m:Md)(ρ:List Sl):E→Option D
 |.k d=>fin m (some d)
 |.v i=>fin m (ρ[i]?.bind (datsOf m))
 |.g x=>fin m (Γ.lookup x)
 |.op o a b=>fin m ((ev .read ρ a).bind fun x=>(ev .read ρ b).bind fun y=>opD o x y)
 |.neg a=>fin m ((ev .val ρ a).bind fun d=>(asI d).map fun i=>.int (-i))
 |.cmp o a b=>fin m ((ev .read ρ a).bind fun x=>(ev .read ρ b).bind fun y=>(cmpD o x y).map .bool)
 |.chain o o' a b c=>fin m ((ev .read ρ a).bind fun x=>(ev .read ρ b).bind fun y=>(cmpD o x y).bind fun t=>if t then (ev .read ρ c).bind fun z=>(cmpD o' y z).map .bool else some (.bool false))
 |.and a b=>(ev (bm m) ρ a).bind fun d=>(asB d).bind fun t=>if t then ev (bm m) ρ b else some (.bool false)
 |.or a b=>(ev (bm m) ρ a).bind fun d=>(asB d).bind fun t=>if t then some (.bool true) else ev (bm m) ρ b
 |.not a=>(ev (bm m) ρ a).bind fun d=>(asB d).map fun t=>.bool (!t)
 |.ite c a b=>noT m ((ev .test ρ c).bind fun d=>(asB d).bind fun t=>if t then ev .val ρ a else ev .val ρ b)
 |.call f as=>fin m ((Φ f).bind fun φ=>(evs .read φ.lent ρ as).bind φ.run)
 |.idx a i=>fin m ((ev .read ρ a).bind fun x=>(ev .val ρ i).bind fun y=>idxD x y)
 |.sl a lo hi=>fin m ((ev .read ρ a).bind fun x=>(evP ρ lo).bind fun y=>(evP ρ hi).bind fun z=>slD x y z)
 |.lst as=>fin m ((evs .val [] ρ as).bind fun ds=>if ds.length≤1000 then some (.list ds) else none)
 |.tup as=>fin m ((evs .val [] ρ as).bind fun ds=>if ds.length≤1000 then some (.tuple ds) else none)
 |.comp nt js tg src ifs elt=>fin m ((evI .read ρ src).bind fun ds=>if ds.length≤big then (compL (fun d=>(bindTg tg d (blk nt js ρ)).bind fun ρ'=>(evC ρ' ifs).bind fun t=>if t then (ev .val ρ' elt).map some else some none) ds).map .list else none)
 |.bi f as=>fin m ((evs .read [true,true,true] ρ as).bind fun ds=>biD f ds)
 |.me f o as=>fin m ((ev .read ρ o).bind fun x=>(evs .read [true,true] ρ as).bind fun ds=>meD f x ds)
 |.isi a T=>fin m ((ev .read ρ a).bind fun x=>(isiD T x).map .bool)
 |.isx a c tab=>fin m ((ev .read ρ a).bind fun x=>(isxD tab x).map .bool)
 |.vob c a=>roM m (fin m ((ev .read ρ a).bind fun x=>if isVlt c x then some (.list (vobs x)) else none))
 |.vcall c f o as=>fin m ((ev .read ρ o).bind fun x=>if isVlt c x then (Φ (vname f)).bind fun φ=>(evs .read φ.lent.tail ρ as).bind fun ds=>if φ.lent.headD false then φ.run (x::ds) else none else none)
@[simp] noncomputable def evs (m:Md)(fl:List Bool)(ρ:List Sl):Es→Option (List D)
 |.nil=>some []
 |.cons a as=>(ev (if fl.headD false then m else .val) ρ a).bind fun x=>(evs m fl.tail ρ as).map (x::·)
@[simp] noncomputable def evC (ρ:List Sl):Es→Option Bool
 |.nil=>some true
 |.cons a as=>(ev .test ρ a).bind asB
@[simp] noncomputable def evP (ρ:List Sl):Es→Option (Option Int)
 |.nil=>some none
 |.cons a as=>(ev .val ρ a).bind fun d=>(asI d).map some
@[simp] noncomputable def evI (m:Md)(ρ:List Sl):I→Option (List D)
 |.seq a=>(ev m ρ a).bind itemsD
 |.rng a=>(ev .val ρ a).bind fun d=>(asI d).bind fun n=>if rOk n then some ((List.range n.toNat).map fun (k:Nat)=>.int k) else none
 |.zip as=>(evs .read [true,true,true] ρ as).bind zipOk
end
inductive Out where
 |nx (ρ:List Sl)
 |rt (d:D)
noncomputable def Out.andThen (o:Out)(f:List Sl→Option Out):Option Out:=match o with
 |.nx ρ=>f ρ
 |.rt d=>some (.rt d)
noncomputable def freeze:Sl→Sl
 |.own d=>.dat d
 |.deep rows=>.dat (.list (rows.map .list))
 |s=>s
@[simp] noncomputable def notDeep:Sl→Bool
 |.no=>true
 |.dat _=>true
 |.lent _=>true
 |.own _=>true
 |.deep _=>false
@[simp] noncomputable def tame:Sl→Bool
 |.no=>true
 |.dat _=>true
 |.lent _=>true
 |.own _=>false
 |.deep _=>false
noncomputable def fresh:E→Bool
 |.comp ..=>true
 |.lst ..=>true
 |.sl ..=>true
 |.op ..=>true
 |.me .split _ _=>true
 |_=>false
noncomputable def forL (t:D→List Sl→Option (List Sl))(b:List Sl→Option Out):List D→List Sl→Option Out
 |[],ρ=>some (.nx ρ)
 |d::r,ρ=>(t d ρ).bind fun ρ'=>(b ρ').bind fun o=>o.andThen (forL t b r)
mutual
@[simp] noncomputable def ex (ρ:List Sl):S→Option Out
 |.set i e=>(ev Φ Γ .val ρ e).map fun d=>.nx (ρ.set i (.dat d))
 |.new i e=>if fresh e&&ρ.all notDeep then (ev Φ Γ .val ρ e).bind fun d=>if ownD d then some (.nx (ρ.set i (.own d))) else none else none
 |.app i e=>(ev Φ Γ .val ρ e).bind fun d=>match ρ[i]? with
  |some (.own (.list ds))=>if ds.length<big then some (.nx (ρ.set i (.own (.list (ds++[d]))))) else none
  |_=>none
 |.seti i k e=>(ev Φ Γ .val ρ e).bind fun d=>(ev Φ Γ .val ρ k).bind fun x=>match ρ[i]?,x with
  |some (.own (.list ds)),.int n=>(ixN ds.length n).map fun j=>.nx (ρ.set i (.own (.list (ds.set j d))))
  |_,_=>none
 |.ifs c a b=>(ev Φ Γ .test ρ c).bind fun d=>(asB d).bind fun t=>if t then exs ρ a else exs ρ b
 |.fors tg src body=>(evI Φ Γ .walk ρ src).bind fun ds=>forL (bindTg tg) (fun ρ'=>exs ρ' body) ds ρ
 |.ret e=>(ev Φ Γ .val (ρ.map freeze) e).map .rt
 |.pass=>some (.nx ρ)
 |.stuck=>none
@[simp] noncomputable def exs (ρ:List Sl):Ss→Option Out
 |.nil=>some (.nx ρ)
 |.cons s r=>(ex ρ s).bind fun o=>o.andThen fun ρ'=>exs ρ' r
end
structure Def where
 lent:List Bool
 slots:Nat
 body:Ss
@[simp] noncomputable def startR (d:Def)(ds:List D):List Sl:=(d.lent.zip ds).map (fun p=>if p.1 then Sl.lent p.2 else .dat p.2)++List.replicate (d.slots-ds.length) .no
noncomputable def Out.val:Out→Option D
 |.nx _=>some .none
 |.rt d=>some d
noncomputable def den (prog:List (Str×Def))(Γ:List (Str×D)):Nat→Fs
 |0,_=>none
 |k+1,f=>(prog.lookup f).map fun d=>⟨d.lent,fun ds=>if ds.length=d.lent.length then (exs (den prog Γ k) Γ (startR d ds) d.body).bind Out.val else none⟩
section
variable {d:D}{i j:Int}{x y:Str}{ds es:List D}{kvs:List (Sum Int Str×D)}{ns:List Int}{b t:Bool}{ρ:List Sl}{rows:List (List D)}
@[simp] theorem asB_bool:asB (.bool b)=some b:=rfl
@[simp] theorem asI_int:asI (.int i)=some i:=rfl
@[simp] theorem fin_val {o:Option D}:fin .val o=o:=rfl
@[simp] theorem fin_read {o:Option D}:fin .read o=o:=rfl
@[simp] theorem bm_test:bm .test=.test:=rfl
@[simp] theorem bm_val:bm .val=.val:=rfl
@[simp] theorem bm_read:bm .read=.val:=rfl
@[simp] theorem bm_walk:bm .walk=.val:=rfl
@[simp] theorem fin_walk {o:Option D}:fin .walk o=o:=rfl
@[simp] theorem noT_walk {o:Option D}:noT .walk o=o:=rfl
@[simp] theorem dats_lentW:datsOf .walk (.lent d)=some d:=rfl
@[simp] theorem dats_ownW:datsOf .walk (.own d)=none:=rfl
@[simp] theorem fin_test {o:Option D}:fin .test o=o.bind fun d=>(truD d).map .bool:=rfl
@[simp] theorem noT_val {o:Option D}:noT .val o=o:=rfl
@[simp] theorem noT_read {o:Option D}:noT .read o=o:=rfl
@[simp] theorem truD_none:truD .none=some false:=rfl
@[simp] theorem truD_bool:truD (.bool b)=some b:=rfl
@[simp] theorem truD_int:truD (.int i)=some (i != 0):=rfl
@[simp] theorem truD_str:truD (.str x)=if x.length≤big then some ((x.length:Int) != 0) else none:=rfl
@[simp] theorem truD_tuple:truD (.tuple ds)=some (!ds.isEmpty):=rfl
@[simp] theorem truD_list:truD (.list ds)=some (!ds.isEmpty):=rfl
@[simp] theorem truD_dict:truD (.dict kvs)=some (!kvs.isEmpty):=rfl
@[simp] theorem truD_scr:truD (.scr ns)=some (!ns.isEmpty):=rfl
@[simp] theorem op_addI:opD .add (.int i) (.int j)=some (.int (i+j)):=rfl
@[simp] theorem op_addS:opD .add (.str x) (.str y)=if x.length+y.length≤big then some (.str (x++y)) else none:=rfl
@[simp] theorem op_addL:opD .add (.list ds) (.list es)=if ds.length+es.length≤big then some (.list (ds++es)) else none:=rfl
@[simp] theorem op_subI:opD .sub (.int i) (.int j)=some (.int (i-j)):=rfl
@[simp] theorem op_mulI:opD .mul (.int i) (.int j)=if cMul i j then some (.int (i*j)) else none:=rfl
@[simp] theorem op_mulL:opD .mul (.list ds) (.int j)=if repOk ds.length j then some (.list (List.replicate j.toNat ds).flatten) else none:=rfl
@[simp] theorem op_mulS:opD .mul (.str x) (.int j)=if -1000≤j∧j≤1000∧x.length≤1000 then some (.str ⟨((List.replicate j.toNat x.cps.toList).flatten).toArray⟩) else none:=rfl
@[simp] theorem op_modI:opD .mod (.int i) (.int j)=if 0<j then some (.int (i % j)) else none:=rfl
@[simp] theorem op_divI:opD .fdiv (.int i) (.int j)=if 0<j∧j<1073741824 then some (.int (i / j)) else none:=rfl
@[simp] theorem cmp_ltI:cmpD .lt (.int i) (.int j)=some (decide (i<j)):=rfl
@[simp] theorem cmp_leI:cmpD .le (.int i) (.int j)=some (decide (i≤j)):=rfl
@[simp] theorem cmp_gtI:cmpD .gt (.int i) (.int j)=some (decide (j<i)):=rfl
@[simp] theorem cmp_ltS:cmpD .lt (.str x) (.str y)=some (decide (x.cps.toList<y.cps.toList)):=rfl
@[simp] theorem cmp_leS:cmpD .le (.str x) (.str y)=some (!decide (y.cps.toList<x.cps.toList)):=rfl
@[simp] theorem cmp_eq {a b:D}:cmpD .eq a b=eqD a b:=by cases a<;>rfl
@[simp] theorem cmp_ne {a b:D}:cmpD .ne a b=(eqD a b).map (!·):=by cases a<;>rfl
@[simp] theorem cmp_in {a b:D}:cmpD .isin a b=inD a b:=by cases a<;>rfl
@[simp] theorem eq_int:eqD (.int i) (.int j)=some (decide (i=j)):=by
 show (if true then some (decide (D.int i=D.int j)) else _)=_
 rw[if_pos rfl]
 congr 1
 by_cases h:i=j
 ·subst h;simp
 ·rw[decide_eq_false h,decide_eq_false fun q=>h (D.int.inj q)]
@[simp] theorem eq_str:eqD (.str x) (.str y)=some (decide (x=y)):=by
 show (if true then some (decide (D.str x=D.str y)) else _)=_
 rw[if_pos rfl]
 congr 1
 by_cases h:x=y
 ·subst h;simp
 ·rw[decide_eq_false h,decide_eq_false fun q=>h (D.str.inj q)]
@[simp] theorem eq_bool:eqD (.bool b) (.bool t)=some (b==t):=rfl
theorem eq_ok {a b:D}(h1:okS 8 a=true)(h2:okS 8 b=true):eqD a b=some (decide (a=b)):=by
 unfold eqD;rw[h1,h2];rfl
@[simp] theorem idx_list:idxD (.list ds) (.int i)=atI ds i:=rfl
@[simp] theorem idx_tuple:idxD (.tuple ds) (.int i)=atI ds i:=rfl
@[simp] theorem idx_scr:idxD (.scr ns) (.int i)=(atI ns i).map .int:=rfl
@[simp] theorem idx_str:idxD (.str x) (.int i)=if x.length≤big then (atI x.cps.toList i).map fun c=>.str ⟨#[c]⟩ else none:=rfl
@[simp] theorem key_int:keyD (.int i)=some (.inl i):=rfl
@[simp] theorem key_str:keyD (.str x)=some (.inr x):=rfl
@[simp] theorem sl_list {l h:Option Int}:slD (.list ds) l h=some (.list (cut ds l h)):=rfl
@[simp] theorem sl_str {l h:Option Int}:slD (.str x) l h=if x.length≤big then some (.str (Txt.slice x l h)) else none:=rfl
@[simp] theorem len_list:biD .len [.list ds]=some (.int ds.length):=rfl
@[simp] theorem len_tuple:biD .len [.tuple ds]=some (.int ds.length):=rfl
@[simp] theorem len_scr:biD .len [.scr ns]=some (.int ns.length):=rfl
@[simp] theorem len_str:biD .len [.str x]=if x.length≤big then some (.int x.length) else none:=rfl
@[simp] theorem int_int:biD .int [.int i]=some (.int i):=rfl
@[simp] theorem int_bool:biD .int [.bool b]=some (.int (if b then 1 else 0)):=rfl
@[simp] theorem tuple_list:biD .tuple [.list ds]=if ds.length≤big then some (.tuple ds) else none:=rfl
@[simp] theorem all_list:biD .all [.list ds]=(boolsOf ds).map fun bs=>.bool (bs.all id):=rfl
@[simp] theorem bools_map {l:List Bool}:boolsOf (l.map .bool)=some l:=by
 induction l with
 |nil=>rfl
 |cons a r ih=>show (boolsOf (r.map .bool)).map (a::·)=_;rw[ih];rfl
@[simp] theorem me_split:meD .split (.str x) [.str y]=if (y.length==0)=false∧x.length+2≤big then some (.list ((Txt.split x y).map .str)) else none:=rfl
@[simp] theorem me_join:meD .join (.str x) [.list ds]=(strsOf ds).bind fun ys=>if (ys.map (·.length)).sum+ys.length*x.length≤big then some (.str (Txt.join x ys)) else none:=rfl
@[simp] theorem items_list:itemsD (.list ds)=some ds:=rfl
@[simp] theorem items_tuple:itemsD (.tuple ds)=some ds:=rfl
@[simp] theorem items_scr:itemsD (.scr ns)=some (ns.map .int):=rfl
@[simp] theorem items_str:itemsD (.str x)=if x.length≤big then some (x.cps.toList.map fun c=>.str ⟨#[c]⟩) else none:=rfl
@[simp] theorem itemsEach_nil:itemsEach []=some []:=rfl
@[simp] theorem itemsEach_cons {r:List D}:itemsEach (d::r)=(itemsD d).bind fun a=>(itemsEach r).map (a::·):=rfl
@[simp] theorem zipOk_2 {a b:List D}:zipOk [.list a,.list b]=if b.length≤a.length then some (zip2 a b) else none:=rfl
@[simp] theorem own_list:ownD (.list ds)=true:=rfl
@[simp] theorem own_dict:ownD (.dict kvs)=true:=rfl
@[simp] theorem own_int:ownD (.int i)=false:=rfl
@[simp] theorem own_str:ownD (.str x)=false:=rfl
@[simp] theorem own_bool:ownD (.bool b)=false:=rfl
@[simp] theorem own_none:ownD .none=false:=rfl
@[simp] theorem own_tuple:ownD (.tuple ds)=false:=rfl
@[simp] theorem own_scr:ownD (.scr ns)=false:=rfl
@[simp] theorem dats_dat {m:Md}:datsOf m (.dat d)=some d:=rfl
@[simp] theorem dats_lentV:datsOf .val (.lent d)=if ownD d then none else some d:=rfl
@[simp] theorem dats_lentR:datsOf .read (.lent d)=some d:=rfl
@[simp] theorem dats_lentT:datsOf .test (.lent d)=some d:=rfl
@[simp] theorem dats_ownV:datsOf .val (.own d)=none:=rfl
@[simp] theorem dats_ownR:datsOf .read (.own d)=some d:=rfl
@[simp] theorem dats_ownT:datsOf .test (.own d)=some d:=rfl
@[simp] theorem bind_one {i:Nat}:bindTg (.one i) d ρ=some (ρ.set i (.dat d)):=rfl
@[simp] theorem bind_tupT {is:List Nat}:bindTg (.tup is) (.tuple ds) ρ=if is.length=ds.length then some ((is.zip ds).foldl (fun ρ p=>ρ.set p.1 (.dat p.2)) ρ) else none:=rfl
@[simp] theorem bind_tupL {is:List Nat}:bindTg (.tup is) (.list ds) ρ=if is.length=ds.length then some ((is.zip ds).foldl (fun ρ p=>ρ.set p.1 (.dat p.2)) ρ) else none:=rfl
@[simp] theorem lend_own:lend (.own d)=.lent d:=rfl
@[simp] theorem lend_dat:lend (.dat d)=.dat d:=rfl
@[simp] theorem lend_lent:lend (.lent d)=.lent d:=rfl
@[simp] theorem lend_no:lend .no=.no:=rfl
@[simp] theorem lend_deep:lend (.deep rows)=.no:=rfl
@[simp] theorem then_nx {f:List Sl→Option Out}:(Out.nx ρ).andThen f=f ρ:=rfl
@[simp] theorem then_rt {f:List Sl→Option Out}:(Out.rt d).andThen f=some (.rt d):=rfl
@[simp] theorem val_nx:(Out.nx ρ).val=some .none:=rfl
@[simp] theorem val_rt:(Out.rt d).val=some d:=rfl
@[simp] theorem freeze_own:freeze (.own d)=.dat d:=rfl
@[simp] theorem freeze_dat:freeze (.dat d)=.dat d:=rfl
@[simp] theorem freeze_lent:freeze (.lent d)=.lent d:=rfl
@[simp] theorem freeze_no:freeze .no=.no:=rfl
@[simp] theorem freeze_deep:freeze (.deep rows)=.dat (.list (rows.map .list)):=rfl
@[simp] theorem fresh_comp {a b c e f g}:fresh (.comp a b c e f g)=true:=rfl
@[simp] theorem fresh_lst {a}:fresh (.lst a)=true:=rfl
@[simp] theorem fresh_sl {a b c}:fresh (.sl a b c)=true:=rfl
@[simp] theorem fresh_op {a b c}:fresh (.op a b c)=true:=rfl
@[simp] theorem fresh_split {a b}:fresh (.me .split a b)=true:=rfl
@[simp] theorem isi_list {T:String}:isiD T (.list ds)=some (T=="list"):=rfl
@[simp] theorem isi_tuple {T:String}:isiD T (.tuple ds)=some (T=="tuple"):=rfl
@[simp] theorem isi_int {T:String}:isiD T (.int i)=some (T=="int"):=rfl
@[simp] theorem isi_str {T:String}:isiD T (.str x)=some (T=="str"):=rfl
@[simp] theorem isi_bool {T:String}:isiD T (.bool b)=some (T=="bool"||T=="int"):=rfl
@[simp] theorem isi_none {T:String}:isiD T .none=some false:=rfl
end
structure Cs where
 N:List Str
 sc:Scope
 fns:List Str
 cst:List Str
 mts:List Nat
 dp:List Nat
 vc:Option Nat:=none
 vms:List Str:=[]
 xcs:List (Str×Nat×List (Nat×Bool)):=[]
noncomputable def kindIs (C:Cs)(x:Str)(k:NameKind):Bool:=C.sc.names.lookup x==some k
noncomputable def plainName (x:Str):Bool:=!(x==("__debug__":Str))&&!(x==("__classdict__":Str))&&!(x==("__name__":Str))
noncomputable def cSlot (C:Cs)(x:Str):Option Nat:=
 match C.N.idxOf? x with
 |some i=>if (kindIs C x .local||kindIs C x .cell||kindIs C x .free)&&plainName x then some i else none
 |none=>none
noncomputable def cLoc (C:Cs)(x:Str):Option Nat:=
 match C.N.idxOf? x with
 |some i=>if (kindIs C x .local||kindIs C x .cell)&&plainName x then some i else none
 |none=>none
noncomputable def isGlob (C:Cs)(x:Str):Bool:=kindIs C x .globalImplicit&&plainName x
noncomputable def cName (C:Cs)(x:Str):Option E:=
 match cSlot C x with
 |some i=>some (.v i)
 |none=>if isGlob C x&&C.cst.contains x then some (.g x) else none
noncomputable def cOp:Operator→Option Op2
 |.Add=>some .add
 |.Sub=>some .sub
 |.Mult=>some .mul
 |.Mod=>some .mod
 |.FloorDiv=>some .fdiv
 |_=>none
noncomputable def cCmp:CmpOp→Option Cop
 |.Lt=>some .lt
 |.LtE=>some .le
 |.Gt=>some .gt
 |.GtE=>none
 |.Eq=>some .eq
 |.NotEq=>some .ne
 |.In=>some .isin
 |.NotIn=>none
 |.Is=>none
 |.IsNot=>none
noncomputable def okStr (x:Str):Bool:=x.cps.toList.all fun c=>decide (c<0x110000)
noncomputable def isSet:Expr→Bool
 |.Set ..=>true
 |_=>false
noncomputable def isSlice:Expr→Bool
 |.Slice ..=>true
 |_=>false
noncomputable def isStar:Expr→Bool
 |.Starred ..=>true
 |_=>false
noncomputable def isTup:Expr→Bool
 |.Tuple ..=>true
 |_=>false
noncomputable def bltOf (x:Str):Option Bf:=
 if x=("len":Str) then some .len else if x=("int":Str) then some .int
 else if x=("tuple":Str) then some .tuple else if x=("all":Str) then some .all else none
noncomputable def mthOf (x:Str):Option Mf:=
 if x=("split":Str) then some .split else if x=("join":Str) then some .join else none
noncomputable def tyOf (x:Str):Option String:=
 if x=("int":Str) then some "int" else if x=("str":Str) then some "str" else if x=("list":Str) then some "list" else if x=("tuple":Str) then some "tuple" else if x=("bool":Str) then some "bool" else none
noncomputable def isSuper:Expr→Bool
 |.Call (.Name id _) [] [] _=>id==("super":Str)
 |_=>false
noncomputable def slots (C:Cs):List Expr→Option (List Nat)
 |[]=>some []
 |.Name x _::r=>(cLoc C x).bind fun i=>(slots C r).map (i::·)
 |_::_=>none
noncomputable def cTg (C:Cs):Expr→Option Tg
 |.Name x _=>(cLoc C x).map .one
 |.Tuple es _ _=>(slots C es).map .tup
 |_=>none
noncomputable def tgNames:Expr→List Str
 |.Name x _=>[x]
 |.Tuple es _ _=>es.filterMap fun|.Name x _=>some x|_=>none
 |_=>[]
noncomputable def tgLt:Tg→Nat→Bool
 |.one i,n=>decide (i<n)
 |.tup is,n=>is.all fun i=>decide (i<n)
noncomputable def freeOf (sc:Scope):List Str:=sc.names.filterMap fun (x,k)=>if k==.free then some x else none
noncomputable def idxAll (N:List Str):List Str→Option (List Nat)
 |[]=>some []
 |x::r=>(N.idxOf? x).bind fun i=>(idxAll N r).map (i::·)
noncomputable def blkOk (C:Cs)(sc:Scope)(tn:List Str):Bool:=
 sc.kind==.function&&
 sc.names.all (fun y=>(y.2 != .free||kindIs C y.1 .cell)&&y.2 != .cell&&(y.2 != .local||sc.names.lookup y.1==some .local))&&
 tn.all (fun x=>sc.names.lookup x==some .local)&&
 (freeOf sc).all (fun x=>sc.names.lookup x==some .free)&&
 decide ((tn++freeOf sc).Nodup)
noncomputable def cBlk (C:Cs)(sc:Scope)(tg:Expr):Option (Cs×Nat×List Nat):=
 if blkOk C sc (tgNames tg) then (idxAll C.N (freeOf sc)).map fun js=>({C with N:=tgNames tg++freeOf sc,sc:=sc,mts:=[],dp:=[]},(tgNames tg).length,js) else none
noncomputable def isiArg (C:Cs):List Expr→Option (Expr×String)
 |[a,.Name t _]=>if isGlob C t&&!isStar a then (tyOf t).map fun T=>(a,T) else none
 |_=>none
noncomputable def isxArg (C:Cs):List Expr→Option (Expr×Nat×List (Nat×Bool))
 |[a,.Name t _]=>if isGlob C t&&!isStar a then (C.xcs.lookup t).map fun q=>(a,q) else none
 |_=>none
noncomputable def oneA:List Expr→Option Expr
 |[a]=>some a
 |_=>none
noncomputable def setArg (C:Cs):List Expr→Option Expr
 |[.Call (.Name s _) [a] [] _]=>if s=("set":Str) then (if isGlob C s&&!isStar a then some a else none) else none
 |_=>none
noncomputable def fstOf:List Expr→Option (Str×Expr)
 |[.Constant (.str x) _ _,.FormattedValue a (.negSucc 0) none _]=>if okStr x then some (x,a) else none
 |_=>none
mutual
noncomputable def cE:Nat→Cs→Expr→Option E
 |0,_,_=>none
 |n+1,C,e=>match e with
  |.Constant (.int i) _ _=>some (.k (.int i))
  |.Constant (.str x) _ _=>if okStr x then some (.k (.str x)) else none
  |.Constant (.bool b) _ _=>some (.k (.bool b))
  |.Constant .none _ _=>some (.k .none)
  |.Name x _=>cName C x
  |.BinOp a op b _=>(cOp op).bind fun o=>(cE n C a).bind fun a'=>(cE n C b).map fun b'=>.op o a' b'
  |.UnaryOp .USub a _=>(cE n C a).map .neg
  |.UnaryOp .Not a _=>(cE n C a).map .not
  |.Compare a [op] [b] _=>(cCmp op).bind fun o=>if isSet b then none else (cE n C a).bind fun a'=>(cE n C b).map fun b'=>.cmp o a' b'
  |.Compare a [op,op'] [b,c] _=>(cCmp op).bind fun o=>(cCmp op').bind fun o'=>if isSet b||isSet c then none else (cE n C a).bind fun a'=>(cE n C b).bind fun b'=>(cE n C c).map fun c'=>.chain o o' a' b' c'
  |.BoolOp op (a::b::r) pos=>cBool n C op (a::b::r)
  |.IfExp c a b _=>(cE n C c).bind fun c'=>(cE n C a).bind fun a'=>(cE n C b).map fun b'=>.ite c' a' b'
  |.Call (.Name f _) as [] _=>if isGlob C f then cCall n C f as else none
  |.Call (.Attribute o m apos) as [] pos=>if isSuper o||!(apos.endLine==pos.line) then none else cMe n C o m as
  |.Attribute o x _=>if x=("objects":Str) then C.vc.bind fun c=>(cE n C o).map fun o'=>.vob c o' else none
  |.Subscript a (.Slice lo hi none _) _=>(cE n C a).bind fun a'=>(cO n C lo).bind fun lo'=>(cO n C hi).map fun hi'=>.sl a' lo' hi'
  |.Subscript a i _=>if isSlice i then none else cSub n C a i
  |.List es _=>(cEs n C es).map .lst
  |.Tuple es _ _=>(cEs n C es).map .tup
  |.JoinedStr vs _=>(fstOf vs).bind fun q=>(cE n C q.2).map fun a'=>.bi .fst (.cons (.k (.str q.1)) (.cons a' .nil))
  |.ListComp elt [⟨tg,iter,ifs,0⟩] sc _=>(cSrc n C tg iter).bind fun src=>(cBlk C sc tg).bind fun (B,nt,js)=>(cTg B tg).bind fun t=>if !tgLt t nt then none else (if ifs.length≤1 then cEs n B ifs else none).bind fun i'=>(cE n B elt).map fun e'=>.comp nt js t src i' e'
  |_=>none
noncomputable def cMe:Nat→Cs→Expr→Str→List Expr→Option E
 |0,_,_,_,_=>none
 |n+1,C,o,m,as=>if C.vms.contains m then if 20<as.length then none else C.vc.bind fun c=>(cE n C o).bind fun o'=>(cEs n C as).map fun as'=>.vcall c m o' as'
  else (mthOf m).bind fun m'=>(cE n C o).bind fun o'=>(oneA as).bind fun a=>if isStar a then none else (cE n C a).map fun a'=>.me m' o' (.cons a' .nil)
noncomputable def cSub:Nat→Cs→Expr→Expr→Option E
 |0,_,_,_=>none
 |n+1,C,a,j=>(cE n C a).bind fun a'=>(cE n C j).map fun j'=>.idx a' j'
noncomputable def cO:Nat→Cs→Option Expr→Option Es
 |0,_,_=>none
 |n+1,C,none=>some .nil
 |n+1,C,some e=>(cE n C e).map fun a=>.cons a .nil
noncomputable def cBool:Nat→Cs→BoolOp→List Expr→Option E
 |0,_,_,_=>none
 |n+1,C,_,[a]=>cE n C a
 |n+1,C,.And,a::b::r=>(cE n C a).bind fun a'=>(cBool n C .And (b::r)).map fun b'=>.and a' b'
 |n+1,C,.Or,a::b::r=>(cE n C a).bind fun a'=>(cBool n C .Or (b::r)).map fun b'=>.or a' b'
 |_,_,_,_=>none
noncomputable def cCall:Nat→Cs→Str→List Expr→Option E
 |0,_,_,_=>none
 |n+1,C,f,as=>if C.fns.contains f then (if as.isEmpty then none else (cEs n C as).map fun as'=>.call f as')
  else if f=("isinstance":Str) then (match isxArg C as with
   |some q=>(cE n C q.1).map fun a'=>.isx a' q.2.1 q.2.2
   |none=>(isiArg C as).bind fun q=>(cE n C q.1).map fun a'=>.isi a' q.2)
   else if f=("sorted":Str) then (setArg C as).bind fun a=>(cEs n C [a]).map fun as'=>.bi .srt as'
   else (bltOf f).bind fun b=>if as.isEmpty then none else (cEs n C as).map fun as'=>.bi b as'
noncomputable def cEs:Nat→Cs→List Expr→Option Es
 |0,_,_=>none
 |n+1,C,[]=>some .nil
 |n+1,C,e::r=>if isStar e then none else (cE n C e).bind fun a=>(cEs n C r).map fun as=>.cons a as
noncomputable def cSrc:Nat→Cs→Expr→Expr→Option I
 |0,_,_,_=>none
 |n+1,C,tg,e=>match e with
  |.Call (.Name f _) [a,b] [] _=>if f=("zip":Str) then (if isGlob C f&&!C.fns.contains f&&isTup tg then (cEs n C [a,b]).map .zip else none) else cI n C e
  |_=>cI n C e
noncomputable def cI:Nat→Cs→Expr→Option I
 |0,_,_=>none
 |n+1,C,e=>match e with
  |.Call (.Name f _) as [] _=>if f=("range":Str) then (if isGlob C f&&!C.fns.contains f then (match as with
     |[a]=>if isStar a then none else (cE n C a).map .rng
     |_=>none) else none)
   else (cE n C e).map .seq
  |_=>if isSet e then none else (cE n C e).map .seq
end
noncomputable def isComp:Expr→Bool
 |.ListComp ..=>true
 |.SetComp ..=>true
 |.DictComp ..=>true
 |_=>false
mutual
noncomputable def cS:Nat→Cs→Stmt→Option S
 |0,_,_=>none
 |n+1,C,s=>match s with
  |.Assign [.Name y py] v pos=>(cLoc C y).bind fun j=>
    if C.mts.contains j then (cE n C v).bind fun e=>if fresh e then some (.new j e) else none
    else (cE n C v).map fun e=>.set j e
  |.Assign [.Subscript (.Name x _) k _] v _=>if isSlice k then none else (cSlot C x).bind fun i=>(cE n C v).bind fun e=>(cE n C k).map fun k'=>.seti i k' e
  |.Expr (.Call (.Attribute (.Name x _) m apos) as [] cpos) _=>if apos.endLine==cpos.line then (cSlot C x).bind fun i=>
    (match as with
    |[a]=>if isStar a then none else if m=("append":Str) then (cE n C a).map fun e=>.app i e else none
    |_=>none) else none
  |.If c a b _=>(cE n C c).bind fun c'=>(cSs n C a).bind fun a'=>(cSs n C b).map fun b'=>.ifs c' a' b'
  |.For tg iter body [] _=>(cTg C tg).bind fun t=>(cI n C iter).bind fun src=>(cSs n C body).map fun b=>.fors t src b
  |.Return (some e) _=>(cE n C e).map .ret
  |.Pass _=>some .pass
  |.Raise ..=>some .stuck
  |_=>none
noncomputable def cSs:Nat→Cs→List Stmt→Option Ss
 |0,_,_=>none
 |n+1,C,[]=>some .nil
 |n+1,C,s::r=>(cS n C s).bind fun s'=>(cSs n C r).map fun r'=>.cons s' r'
end
noncomputable def isMut (m:Str):Bool:=m=("append":Str)||m=("extend":Str)||m=("reverse":Str)||m=("clear":Str)||m=("pop":Str)
mutual
noncomputable def mutS:Nat→Stmt→List (Str×Bool)
 |0,_=>[]
 |n+1,s=>match s with
  |.Assign [.Name _ _] (.Call (.Attribute (.Name x _) m _) [] [] _) _=>if isMut m then [(x,false)] else []
  |.Assign [.Subscript (.Name x _) _ _] _ _=>[(x,false)]
  |.Assign [.Subscript (.Subscript (.Name x _) _ _) _ _] _ _=>[(x,true)]
  |.Expr (.Call (.Attribute (.Name x _) m _) _ [] _) _=>if isMut m then [(x,false)] else []
  |.If _ a b _=>mutSs n a++mutSs n b
  |.For _ _ b _ _=>mutSs n b
  |.While _ b _ _=>mutSs n b
  |_=>[]
noncomputable def mutSs:Nat→List Stmt→List (Str×Bool)
 |0,_=>[]
 |n+1,[]=>[]
 |n+1,s::r=>mutS n s++mutSs n r
end
noncomputable def localsOf (sc:Scope)(ps:List Str):List Str:=sc.names.filterMap fun (x,k)=>if (k==.local||k==.cell)&&!ps.contains x then some x else none
noncomputable def defParts:Stmt→Option (List Str×List Stmt×Scope)
 |.FunctionDef _ args body _ _ _ sc _ _ _=>some (args.args.map (·.arg),body,sc)
 |_=>none
noncomputable def csOf (fns cst:List Str)(ps:List Str)(body:List Stmt)(sc:Scope)(vc:Option Nat:=none)(vms:List Str:=[])(xcs:List (Str×Nat×List (Nat×Bool)):=[]):Cs:=
 let N:=ps++localsOf sc ps
 let ms:=mutSs 60 body
 {N,sc,fns,cst,vc,vms,xcs,mts:=ms.filterMap fun (x,d)=>if d then none else N.idxOf? x,dp:=ms.filterMap fun (x,d)=>if d then N.idxOf? x else none}
noncomputable def cDef (fns cst:List Str)(lent:List Bool)(st:Stmt)(vc:Option Nat:=none)(vms:List Str:=[])(xcs:List (Str×Nat×List (Nat×Bool)):=[]):Option Def:=
 (defParts st).bind fun (ps,body,sc)=>(cSs 60 (csOf fns cst ps body sc vc vms xcs) body).map fun b=>{lent,slots:=(ps++localsOf sc ps).length,body:=b}
end SI
namespace L2.Z
open PySem PySem.Spec PyProof.Rows L2 L2.C SI
noncomputable abbrev Fg:=PySem.W.Frag
noncomputable def vfs (l n:Addr)(h:Nat):List (Str×V):=[("objects",.ref l),("numbers",.ref n),("objects",.int h)]
noncomputable def ExcAt (a C:Addr):Heap→Prop:=fun h=>∃o,h.get? a=some o∧o.cls=.ref C
mutual
inductive Dp (K:Fg)(H:Hp):D→V→Prop
 |none:Dp K H .none .non
 |bool (b:Bool):Dp K H (.bool b) (.bl b)
 |int (i:Int):Dp K H (.int i) (.int i)
 |str (x:Str):PyData.strOk x=true→Dp K H (.str x) (.str x)
 |tuple {a:Addr} {vs:List V} {ds:List D}:H a=some (.tup vs)→Dps K H ds vs→Dp K H (.tuple ds) (.ref a)
 |list {a:Addr} {vs:List V} {ds:List D}:H a=some (.lst vs)→Dps K H ds vs→Dp K H (.list ds) (.ref a)
 |dict {a:Addr} {kvs:List (Key×D)} {ws:List (Key×V)}:H a=some (.dK ws)→Dks K H kvs ws→Dp K H (.dict kvs) (.ref a)
 |scr {a:Addr} {ns:List Int}:SqL K H a (ns.map V.int)→Dp K H (.scr ns) (.ref a)
 |hdl {a C dx l n:Addr} {h:Nat}:H a=some (.ins C dx (vfs l n h))→Dp K H (.hdl h) (.ref a)
 |exc {a:Addr} {C:Nat}:H a=some (.ext (ExcAt a C))→Dp K H (.exc C) (.ref a)
inductive Dps (K:Fg)(H:Hp):List D→List V→Prop
 |nil:Dps K H [] []
 |cons {d:D} {v:V} {ds:List D} {vs:List V}:Dp K H d v→Dps K H ds vs→Dps K H (d::ds) (v::vs)
inductive Dks (K:Fg)(H:Hp):List (Key×D)→List (Key×V)→Prop
 |nil:Dks K H [] []
 |cons {k:Key} {d:D} {v:V} {ds:List (Key×D)} {vs:List (Key×V)}:Dp K H d v→Dks K H ds vs→Dks K H ((k,d)::ds) ((k,v)::vs)
end
section
variable {K:Fg}{G G':Hp}
mutual
theorem Dp.mono (e:Same G G'):∀{d:D} {v:V},Dp K G d v→Dp K G' d v
 |_,_,.none=>.none
 |_,_,.bool b=>.bool b
 |_,_,.int i=>.int i
 |_,_,.str x h=>.str x h
 |_,_,.tuple h r=>.tuple (e _ _ h) (Dps.mono e r)
 |_,_,.list h r=>.list (e _ _ h) (Dps.mono e r)
 |_,_,.dict h r=>.dict (e _ _ h) (Dks.mono e r)
 |_,_,.scr h=>.scr (e.seq h)
 |_,_,.hdl h=>.hdl (e _ _ h)
 |_,_,.exc h=>.exc (e _ _ h)
theorem Dps.mono (e:Same G G'):∀{ds:List D} {vs:List V},Dps K G ds vs→Dps K G' ds vs
 |_,_,.nil=>.nil
 |_,_,.cons h r=>.cons (Dp.mono e h) (Dps.mono e r)
theorem Dks.mono (e:Same G G'):∀{ds:List (Key×D)} {vs:List (Key×V)},Dks K G ds vs→Dks K G' ds vs
 |_,_,.nil=>.nil
 |_,_,.cons h r=>.cons (Dp.mono e h) (Dks.mono e r)
end
theorem Dps.length {ds:List D}{vs:List V}(h:Dps K G ds vs):ds.length=vs.length:=by
 induction vs generalizing ds with
 |nil=>cases h;rfl
 |cons v vs ih=>cases h with|cons _ r=>rw[lc0,lc0,ih r]
theorem Dps.get {ds:List D}{vs:List V}{k:Nat}{d:D}(h:Dps K G ds vs)(e:ds[k]?=some d):∃v,vs[k]?=some v∧Dp K G d v:=by
 induction vs generalizing ds k with
 |nil=>cases h;simp at e
 |cons v vs ih=>
  cases h with
  |cons h r=>
   cases k with
   |zero=>simp at e;subst e;exact⟨v,rfl,h⟩
   |succ k=>simpa using ih r (by simpa using e)
theorem Dps.append {ds es:List D}{vs us:List V}(h:Dps K G ds vs)(q:Dps K G es us):Dps K G (ds++es) (vs++us):=by
 induction vs generalizing ds with
 |nil=>cases h;exact q
 |cons v vs ih=>cases h with|cons h r=>exact .cons h (ih r)
theorem Dps.one {d:D}{v:V}(h:Dp K G d v):Dps K G [d] [v]:=.cons h .nil
theorem Dps.take {ds:List D}{vs:List V}(n:Nat)(h:Dps K G ds vs):Dps K G (ds.take n) (vs.take n):=by
 induction vs generalizing ds n with
 |nil=>cases h;simpa using Dps.nil
 |cons v vs ih=>
  cases h with
  |cons h r=>
   cases n with
   |zero=>simpa using Dps.nil
   |succ n=>simpa using Dps.cons h (ih n r)
theorem Dps.drop {ds:List D}{vs:List V}(n:Nat)(h:Dps K G ds vs):Dps K G (ds.drop n) (vs.drop n):=by
 induction vs generalizing ds n with
 |nil=>cases h;simpa using Dps.nil
 |cons v vs ih=>
  cases h with
  |cons h r=>
   cases n with
   |zero=>simpa using Dps.cons h r
   |succ n=>simpa using ih n r
theorem Dps.set {ds:List D}{vs:List V}{d:D}{v:V}(hd:Dp K G d v)(n:Nat)(h:Dps K G ds vs):Dps K G (ds.set n d) (vs.set n v):=by
 induction vs generalizing ds n with
 |nil=>cases h;simpa using Dps.nil
 |cons u vs ih=>
  cases h with
  |cons h r=>
   cases n with
   |zero=>simpa using Dps.cons hd r
   |succ n=>simpa using Dps.cons h (ih n r)
theorem Dps.rep {ds:List D}{vs:List V}(h:Dps K G ds vs):∀k:Nat,Dps K G (List.replicate k ds).flatten (List.replicate k vs).flatten
 |0=>.nil
 |k+1=>by
  rw[List.replicate_succ,List.replicate_succ,List.flatten_cons,List.flatten_cons]
  exact h.append (Dps.rep h k)
theorem atI_eq {α:Type}(xs:List α)(i:Int):SI.atI xs i=L2.atI xs i:=rfl
theorem sIx_eq (n d:Nat)(o:Option Int):SI.sIx n d o=HT.sIx n d o:=by cases o<;>rfl
theorem Dps.atI {ds:List D}{vs:List V}{i:Int}{d:D}(h:Dps K G ds vs)(e:SI.atI ds i=some d):∃v,L2.atI vs i=some v∧Dp K G d v:=by
 rw[atI_eq] at e
 unfold L2.atI at e ⊢
 rw[←h.length]
 cases q:L2.ixN ds.length i with
 |none=>rw[q] at e;cases e
 |some j=>
  rw[q] at e
  exact h.get (show ds[j]?=some d from e)
theorem Dps.cut {ds:List D}{vs:List V}(h:Dps K G ds vs)(lo hi:Option Int):Dps K G (SI.cut ds lo hi) (L2.cutV vs lo hi):=by
 unfold SI.cut L2.cutV
 rw[sIx_eq,sIx_eq,h.length]
 exact (h.drop _).take _
end
structure Ext (G H G' H':Hp):Prop where
 hh:Same H H'
 gg:Same G G'
 gh:Same G' H'
 nw:∀b o,G b=Option.none→H b=some o→G' b=Option.none
 ni:∀b C dx fs,H' b=some (.ins C dx fs)→H b=some (.ins C dx fs)
theorem Ext.refl {G H:Hp}(h:Same G H):Ext G H G H:=⟨Same.refl _,Same.refl _,h,fun _ _ h _=>h,fun _ _ _ _ h=>h⟩
noncomputable def notIns:HO→Bool
 |.ins ..=>false
 |_=>true
theorem notIns_upd {H:Hp}{p:Addr}{o:HO}(h:notIns o=true):∀b C dx fs,upd H p o b=some (.ins C dx fs)→H b=some (.ins C dx fs):=fun b C dx fs e=>by
 by_cases z:b=p
 ·subst z;rw[upd_same] at e;cases e;cases h
 ·rw[upd_ne z] at e;exact e
theorem Ext.trans {G H G1 H1 G2 H2:Hp}(a:Ext G H G1 H1)(b:Ext G1 H1 G2 H2):Ext G H G2 H2:=
 ⟨a.hh.trans b.hh,a.gg.trans b.gg,b.gh,fun c o h1 h2=>b.nw c o (a.nw c o h1 h2) (a.hh c o h2),fun c C dx fs h=>a.ni c C dx fs (b.ni c C dx fs h)⟩
theorem same_upd {H:Hp}{p:Addr}{o:HO}(h:H p=Option.none):Same H (upd H p o):=fun b u e=>by
 rw[upd_ne (ne_of_none e h)];exact e
theorem Ext.laid {G H:Hp}{p:Addr}{o:HO}(h:Same G H)(hp:H p=Option.none)(hi:notIns o=true:=by rfl):Ext G H (upd G p o) (upd H p o):=
 ⟨same_upd hp,same_upd (h.free hp),fun b u e=>by
  by_cases q:b=p
  ·subst q;rw[upd_same] at e ⊢;exact e
  ·rw[upd_ne q] at e ⊢;exact h b u e,fun b u e1 e2=>by
  rw[upd_ne (ne_of_none e2 hp)];exact e1,notIns_upd hi⟩
theorem Ext.hid {G H:Hp}{p:Addr}{o:HO}(h:Same G H)(hp:H p=Option.none)(hi:notIns o=true:=by rfl):Ext G H G (upd H p o):=
 ⟨same_upd hp,Same.refl _,h.trans (same_upd hp),fun _ _ e _=>e,notIns_upd hi⟩
theorem Ext.show {G H G' H':Hp}{p:Addr}{o:HO}(e:Ext G H G' H')(hp:H p=Option.none)(hp':H' p=some o)(hg:G' p=Option.none):Ext G H (upd G' p o) H':=
 ⟨e.hh,e.gg.trans (same_upd hg),fun b u q=>by
  by_cases z:b=p
  ·subst z;rw[upd_same] at q;cases q;exact hp'
  ·rw[upd_ne z] at q;exact e.gh b u q,fun b u e1 e2=>by
  rw[upd_ne (ne_of_none e2 hp)];exact e.nw b u e1 e2,e.ni⟩
inductive Dr (K:Fg)(G H:Hp):D→V→Prop
 |of {d:D} {v:V}:Dp K G d v→Dr K G H d v
 |list {a:Addr} {vs:List V} {ds:List D}:H a=some (.lst vs)→Dps K G ds vs→Dr K G H (.list ds) (.ref a)
 |dict {a:Addr} {kvs:List (Key×D)} {ws:List (Key×V)}:H a=some (.dK ws)→Dks K G kvs ws→Dr K G H (.dict kvs) (.ref a)
 |vlt {C a dx l n:Addr} {h:Nat} {as:List Addr} {objs:List D}:H a=some (.ins C dx (vfs l n h))→H l=some (.lst (as.map .ref))→Dps K G objs (as.map .ref)→Dr K G H (.vlt C h objs) (.ref a)
section
variable {K:Fg}{G H G' H':Hp}{v:V}
theorem Dr.ext {d:D}(e:Ext G H G' H'):Dr K G H d v→Dr K G' H' d v
 |.of h=>.of (h.mono e.gg)
 |.list h r=>.list (e.hh _ _ h) (r.mono e.gg)
 |.dict h r=>.dict (e.hh _ _ h) (r.mono e.gg)
 |.vlt h1 h2 r=>.vlt (e.hh _ _ h1) (e.hh _ _ h2) (r.mono e.gg)
theorem Dr.none (h:Dr K G H .none v):v=.non:=by cases h with|of h=>cases h;rfl
theorem Dr.bool {b:Bool}(h:Dr K G H (.bool b) v):v=.bl b:=by cases h with|of h=>cases h;rfl
theorem Dr.int {i:Int}(h:Dr K G H (.int i) v):v=.int i:=by cases h with|of h=>cases h;rfl
theorem Dr.str {x:Str}(h:Dr K G H (.str x) v):v=.str x∧PyData.strOk x=true:=by cases h with|of h=>cases h with|str _ o=>exact⟨rfl,o⟩
theorem Dr.lst {ds:List D}(s:Same G H)(h:Dr K G H (.list ds) v):∃a vs,v=.ref a∧H a=some (.lst vs)∧Dps K G ds vs:=by
 cases h with
 |of h=>cases h with|list h r=>exact⟨_,_,rfl,s _ _ h,r⟩
 |list h r=>exact⟨_,_,rfl,h,r⟩
theorem Dr.dct {ds:List (Key×D)}(s:Same G H)(h:Dr K G H (.dict ds) v):∃a vs,v=.ref a∧H a=some (.dK vs)∧Dks K G ds vs:=by
 cases h with
 |of h=>cases h with|dict h r=>exact⟨_,_,rfl,s _ _ h,r⟩
 |dict h r=>exact⟨_,_,rfl,h,r⟩
theorem Dr.tup {ds:List D}(s:Same G H)(h:Dr K G H (.tuple ds) v):∃a vs,v=.ref a∧H a=some (.tup vs)∧Dps K G ds vs:=by
 cases h with|of h=>cases h with|tuple h r=>exact⟨_,_,rfl,s _ _ h,r⟩
theorem Dr.scr {ns:List Int}(s:Same G H)(h:Dr K G H (.scr ns) v):∃a,v=.ref a∧SqL K H a (ns.map V.int):=by
 cases h with|of h=>cases h with|scr h=>exact⟨_,rfl,s.seq h⟩
theorem Dr.dp {d:D}(h:Dr K G H d v)(o:ownD d=false):Dp K G d v:=by
 cases h with
 |of h=>exact h
 |list=>cases o
 |dict=>cases o
 |vlt=>cases o
end
noncomputable def OwnAt (K:Fg)(G H:Hp)(d:D)(p:Addr):Prop:=(∃ds vs,d=.list ds∧H p=some (.lst vs)∧Dps K G ds vs)∨∃kvs ws,d=.dict kvs∧H p=some (.dK ws)∧Dks K G kvs ws
noncomputable def RowsAt (K:Fg)(G H0 H:Hp)(rows:List (List D))(qs:List Addr):Prop:=qs.length=rows.length∧∀(k:Nat) row q,rows[k]?=some row→qs[k]?=some q→G q=Option.none∧H0 q=Option.none∧∃vs,H q=some (.lst vs)∧Dps K G row vs
noncomputable def DeepAt (K:Fg)(G H0 H:Hp)(rows:List (List D))(p:Addr):Prop:=∃qs:List Addr,H p=some (.lst (qs.map .ref))∧G p=Option.none∧H0 p=Option.none∧(p::qs).Nodup∧RowsAt K G H0 H rows qs
structure EnvD (K:Fg)(G0 H0 G H:Hp)(σ:St)(ρ:List Sl):Prop where
 ext:Ext G0 H0 G H
 len:σ.length=ρ.length
 dat:∀(i:Nat) d,ρ[i]?=some (.dat d)→∃v,σ[i]?=some (some v)∧Dp K G d v
 lent:∀(i:Nat) d,ρ[i]?=some (.lent d)→∃v,σ[i]?=some (some v)∧Dr K G0 H0 d v
 own:∀(i:Nat) d,ρ[i]?=some (.own d)→∃p,σ[i]?=some (some (.ref p))∧G p=Option.none∧H0 p=Option.none∧OwnAt K G H d p
 apart:∀(i j:Nat) d e p,ρ[i]?=some (.own d)→ρ[j]?=some (.own e)→σ[i]?=some (some (.ref p))→σ[j]?=some (some (.ref p))→i=j
 deep:∀(i:Nat) rows,ρ[i]?=some (.deep rows)→(∃p,σ[i]?=some (some (.ref p))∧DeepAt K G H0 H rows p)∧(∀(j:Nat) d,ρ[j]?≠some (.own d))∧∀(j:Nat) rows',ρ[j]?=some (.deep rows')→j=i
section
variable {K:Fg}{G0 H0 G H G' H':Hp}{σ:St}{ρ:List Sl}
theorem OwnAt.ext {d:D}{p:Addr}(e:Ext G H G' H'):OwnAt K G H d p→OwnAt K G' H' d p
 |.inl ⟨ds,vs,h1,h2,h3⟩=>.inl ⟨ds,vs,h1,e.hh _ _ h2,h3.mono e.gg⟩
 |.inr ⟨ds,vs,h1,h2,h3⟩=>.inr ⟨ds,vs,h1,e.hh _ _ h2,h3.mono e.gg⟩
theorem OwnAt.dr {d:D}{p:Addr}:OwnAt K G H d p→Dr K G H d (.ref p)
 |.inl ⟨ds,vs,h1,h2,h3⟩=>by rw[h1];exact .list h2 h3
 |.inr ⟨ds,vs,h1,h2,h3⟩=>by rw[h1];exact .dict h2 h3
theorem OwnAt.some {d:D}{p:Addr}:OwnAt K G H d p→∃o,H p=.some o
 |.inl ⟨ds,vs,h1,h2,h3⟩=>⟨_,h2⟩
 |.inr ⟨ds,vs,h1,h2,h3⟩=>⟨_,h2⟩
theorem OwnAt.notIns {d:D}{p:Addr}{o:HO}:OwnAt K G (upd H p o) d p→notIns o=true
 |.inl ⟨ds,vs,h1,h2,h3⟩=>by rw[upd_same] at h2;cases h2;rfl
 |.inr ⟨ds,vs,h1,h2,h3⟩=>by rw[upd_same] at h2;cases h2;rfl
theorem RowsAt.ext {rows:List (List D)}{qs:List Addr}(e:Ext G H G' H')(h:RowsAt K G H0 H rows qs):RowsAt K G' H0 H' rows qs:=
 ⟨h.1,fun k row q h1 h2=>let ⟨a,b,vs,c,d⟩:=h.2 k row q h1 h2;⟨e.nw _ _ a c,b,vs,e.hh _ _ c,d.mono e.gg⟩⟩
theorem DeepAt.ext {rows:List (List D)}{p:Addr}(e:Ext G H G' H'):DeepAt K G H0 H rows p→DeepAt K G' H0 H' rows p
 |⟨qs,a,b,c,d,r⟩=>⟨qs,e.hh _ _ a,e.nw _ _ b a,c,d,r.ext e⟩
theorem EnvD.sub (E:EnvD K G0 H0 G H σ ρ):Same G H:=E.ext.gh
theorem EnvD.step (E:EnvD K G0 H0 G H σ ρ)(e:Ext G H G' H'):EnvD K G0 H0 G' H' σ ρ:=
 ⟨E.ext.trans e,E.len,fun i d h=>let ⟨v,a,b⟩:=E.dat i d h;⟨v,a,b.mono e.gg⟩,E.lent,
  fun i ds h=>let ⟨p,a,c,f,g⟩:=E.own i ds h;let ⟨o,ho⟩:=g.some;⟨p,a,e.nw _ _ c ho,f,g.ext e⟩,E.apart,fun i rows h=>let ⟨⟨p,a,b⟩,c⟩:=E.deep i rows h;⟨⟨p,a,b.ext e⟩,c⟩⟩
theorem EnvD.read (E:EnvD K G0 H0 G H σ ρ){i:Nat}{d:D}{sl:Sl}(h:ρ[i]?=some sl)(hd:datsOf .read sl=some d):∃v,σ[i]?=some (some v)∧Dr K G H d v:=by
 cases sl with
 |no=>cases hd
 |dat d'=>cases hd;obtain⟨v,a,b⟩:=E.dat i d h;exact⟨v,a,.of b⟩
 |lent d'=>cases hd;obtain⟨v,a,b⟩:=E.lent i d h;exact⟨v,a,b.ext E.ext⟩
 |own d'=>cases hd;obtain⟨p,a,_,_,b⟩:=E.own i d h;exact⟨_,a,b.dr⟩
 |deep rows=>cases hd
theorem EnvD.val (E:EnvD K G0 H0 G H σ ρ){i:Nat}{d:D}{sl:Sl}(h:ρ[i]?=some sl)(hd:datsOf .val sl=some d):∃v,σ[i]?=some (some v)∧Dp K G d v:=by
 cases sl with
 |no=>cases hd
 |dat d'=>cases hd;exact E.dat i d h
 |lent d'=>
  rw[dats_lentV] at hd
  split at hd
  ·cases hd
  ·rename_i c
   cases hd
   obtain⟨v,a,b⟩:=E.lent i d h
   exact⟨v,a,(b.ext E.ext).dp (by simpa using c)⟩
 |own d'=>cases hd
 |deep rows=>cases hd
theorem getE_set {α:Type}{l:List α}{i j:Nat}{x y:α}(h:(l.set i x)[j]?=some y):(j=i∧y=x)∨(j≠i∧l[j]?=some y):=by
 by_cases e:j=i
 ·subst e
  by_cases q:j<l.length
  ·rw[List.getElem?_set_self q] at h;exact .inl ⟨rfl,(Option.some.inj h).symm⟩
  ·have:(l.set j x)[j]?=Option.none:=List.getElem?_eq_none_iff.mpr (by simp;omega)
   rw[this] at h;cases h
 ·rw[gn0 (Ne.symm e)] at h;exact .inr ⟨e,h⟩
theorem EnvD.set {i:Nat}{d:D}{v:V}(E:EnvD K G0 H0 G H σ ρ)(hi:i<σ.length)(h:Dp K G d v):EnvD K G0 H0 G H (σ.set i (some v)) (ρ.set i (.dat d)):=by
 refine⟨E.ext,by simp[E.len],fun j e hj=>?_,fun j e hj=>?_,fun j ds hj=>?_,fun j k ds es p hj hk aj ak=>?_,fun j rows hj=>?_⟩
 ·rcases getE_set hj with⟨rfl,q⟩|⟨ne,q⟩
  ·cases q;exact⟨v,List.getElem?_set_self hi,h⟩
  ·rw[gn0 (Ne.symm ne)];exact E.dat j e q
 ·rcases getE_set hj with⟨rfl,q⟩|⟨ne,q⟩
  ·cases q
  ·rw[gn0 (Ne.symm ne)];exact E.lent j e q
 ·rcases getE_set hj with⟨rfl,q⟩|⟨ne,q⟩
  ·cases q
  ·rw[gn0 (Ne.symm ne)];exact E.own j ds q
 ·rcases getE_set hj with⟨rfl,q⟩|⟨nj,q⟩
  ·cases q
  rcases getE_set hk with⟨rfl,r⟩|⟨nk,r⟩
  ·cases r
  rw[gn0 (Ne.symm nj)] at aj
  rw[gn0 (Ne.symm nk)] at ak
  exact E.apart j k ds es p q r aj ak
 ·rcases getE_set hj with⟨rfl,q⟩|⟨ne,q⟩
  ·cases q
  ·obtain⟨⟨p,a,b⟩,c1,c2⟩:=E.deep j rows q
   refine⟨⟨p,by rw[gn0 (Ne.symm ne)];exact a,b⟩,fun k e hk=>?_,fun k r hk=>?_⟩
   ·rcases getE_set hk with⟨_,z⟩|⟨_,z⟩
    ·cases z
    ·exact c1 k e z
   ·rcases getE_set hk with⟨_,z⟩|⟨_,z⟩
    ·cases z
    ·exact c2 k r z
theorem EnvD.setOwn {i:Nat}{d:D}{p:Addr}(E:EnvD K G0 H0 G H σ ρ)(hi:i<σ.length)(hO:OwnAt K G H d p)(hG:G p=Option.none)(h0:H0 p=Option.none)
  (hD:∀(j:Nat) rows,ρ[j]?≠some (.deep rows)) (new:∀(j:Nat) e,ρ[j]?=some (.own e)→σ[j]?≠some (some (.ref p))):EnvD K G0 H0 G H (σ.set i (some (.ref p))) (ρ.set i (.own d)):=by
 refine⟨E.ext,by simp[E.len],fun j e hj=>?_,fun j e hj=>?_,fun j es hj=>?_,fun j k es fs q hj hk aj ak=>?_,fun j rows hj=>?_⟩
 ·rcases getE_set hj with⟨rfl,z⟩|⟨ne,z⟩
  ·cases z
  ·rw[gn0 (Ne.symm ne)];exact E.dat j e z
 ·rcases getE_set hj with⟨rfl,z⟩|⟨ne,z⟩
  ·cases z
  ·rw[gn0 (Ne.symm ne)];exact E.lent j e z
 ·rcases getE_set hj with⟨rfl,z⟩|⟨ne,z⟩
  ·cases z;exact⟨p,List.getElem?_set_self hi,hG,h0,hO⟩
  ·rw[gn0 (Ne.symm ne)];exact E.own j es z
 ·rcases getE_set hj with⟨ej,_⟩|⟨nj,hj'⟩
  ·rcases getE_set hk with⟨ek,_⟩|⟨nk,hk'⟩
   ·rw[ej,ek]
   ·rw[ej,List.getElem?_set_self hi] at aj
    rw[gn0 (Ne.symm nk)] at ak
    cases aj
    exact absurd ak (new k fs hk')
  ·rw[gn0 (Ne.symm nj)] at aj
   rcases getE_set hk with⟨ek,_⟩|⟨nk,hk'⟩
   ·rw[ek,List.getElem?_set_self hi] at ak
    cases ak
    exact absurd aj (new j es hj')
   ·rw[gn0 (Ne.symm nk)] at ak
    exact E.apart j k es fs q hj' hk' aj ak
 ·rcases getE_set hj with⟨rfl,q⟩|⟨ne,q⟩
  ·cases q
  ·exact (hD j rows q).elim
theorem EnvD.fresh {p:Addr}(E:EnvD K G0 H0 G H σ ρ)(hp:H p=Option.none):∀(j:Nat) e,ρ[j]?=some (.own e)→σ[j]?≠some (some (.ref p)):=fun j es hj hσ=>by
 obtain⟨q,a,_,_,b⟩:=E.own j es hj
 obtain⟨o,ho⟩:=b.some
 rw[hσ] at a;cases a
 rw[hp] at ho;cases ho
theorem EnvD.change {i:Nat}{d e:D}{p:Addr}{o:HO}(E:EnvD K G0 H0 G H σ ρ)(hi:ρ[i]?=some (.own d))(hp:σ[i]?=some (some (.ref p)))(h:OwnAt K G (upd H p o) e p):
  EnvD K G0 H0 G (upd H p o) σ (ρ.set i (.own e)):=by
 obtain⟨p',a,c,f,g⟩:=E.own i d hi
 rw[hp] at a;cases a
 have il:i<ρ.length:=(List.getElem?_eq_some_iff.mp hi).1
 refine⟨⟨fun x o e=>?_,E.ext.gg,fun x o e=>?_,E.ext.nw,fun x C dx fs q=>E.ext.ni x C dx fs (notIns_upd h.notIns x C dx fs q)⟩,by simp[E.len],fun j e hj=>?_,fun j e hj=>?_,fun j fs hj=>?_,fun j k fs gs q hj hk aj ak=>?_,fun j rows hj=>?_⟩
 ·rw[upd_ne (ne_of_none e f)];exact E.ext.hh x o e
 ·rw[upd_ne (ne_of_none e c)];exact E.ext.gh x o e
 ·rcases getE_set hj with⟨rfl,z⟩|⟨ne,z⟩
  ·cases z
  ·exact E.dat j e z
 ·rcases getE_set hj with⟨rfl,z⟩|⟨ne,z⟩
  ·cases z
  ·exact E.lent j e z
 ·rcases getE_set hj with⟨rfl,z⟩|⟨ne,z⟩
  ·cases z;exact⟨p,hp,c,f,h⟩
  ·obtain⟨q,a',c',f',g'⟩:=E.own j fs z
   have qp:q≠p:=by
    rintro rfl
    exact ne (E.apart j i fs d q z hi a' hp)
   refine⟨q,a',c',f',?_⟩
   rcases g' with⟨ds,vs,h1,h2,h3⟩|⟨ds,vs,h1,h2,h3⟩
   ·exact .inl ⟨ds,vs,h1,by rw[upd_ne qp];exact h2,h3⟩
   ·exact .inr ⟨ds,vs,h1,by rw[upd_ne qp];exact h2,h3⟩
 ·have hj':∃fs',ρ[j]?=some (.own fs'):=by
   rcases getE_set hj with⟨rfl,_⟩|⟨_,z⟩
   ·exact⟨d,hi⟩
   ·exact⟨fs,z⟩
  have hk':∃fs',ρ[k]?=some (.own fs'):=by
   rcases getE_set hk with⟨rfl,_⟩|⟨_,z⟩
   ·exact⟨d,hi⟩
   ·exact⟨gs,z⟩
  obtain⟨_,hj'⟩:=hj'
  obtain⟨_,hk'⟩:=hk'
  exact E.apart j k _ _ q hj' hk' aj ak
 ·rcases getE_set hj with⟨rfl,z⟩|⟨ne,z⟩
  ·cases z
  ·exact ((E.deep j rows z).2.1 i d hi).elim
theorem EnvD.freeze1 {i:Nat}{d:D}(E:EnvD K G0 H0 G H σ ρ)(hi:ρ[i]?=some (.own d)):∃G',EnvD K G0 H0 G' H σ (ρ.set i (.dat d))∧Same G G':=by
 obtain⟨p,a,c,f,g⟩:=E.own i d hi
 obtain⟨o,b⟩:=g.some
 have il:i<ρ.length:=(List.getElem?_eq_some_iff.mp hi).1
 have gs:Same G (upd G p o):=same_upd c
 refine⟨upd G p o,⟨E.ext.show f b c,by simp[E.len],fun j e hj=>?_,fun j e hj=>?_,fun j fs hj=>?_,fun j k fs hs q hj hk aj ak=>?_,fun j rows hj=>?_⟩,gs⟩
 ·rcases getE_set hj with⟨rfl,z⟩|⟨ne,z⟩
  ·cases z
   refine⟨_,a,?_⟩
   rcases g with⟨ds,vs,h1,h2,h3⟩|⟨ds,vs,h1,h2,h3⟩
   ·rw[h2] at b;cases b
    rw[h1];exact .list upd_same (h3.mono gs)
   ·rw[h2] at b;cases b
    rw[h1];exact .dict upd_same (h3.mono gs)
  ·obtain⟨v,x,y⟩:=E.dat j e z;exact⟨v,x,y.mono gs⟩
 ·rcases getE_set hj with⟨rfl,z⟩|⟨ne,z⟩
  ·cases z
  ·exact E.lent j e z
 ·rcases getE_set hj with⟨rfl,z⟩|⟨ne,z⟩
  ·cases z
  ·obtain⟨q,a',c',f',g'⟩:=E.own j fs z
   refine⟨q,a',?_,f',?_⟩
   ·rw[upd_ne]
    ·exact c'
    ·rintro rfl
     exact ne (E.apart j i fs d q z hi a' a)
   ·rcases g' with⟨ds,vs,h1,h2,h3⟩|⟨ds,vs,h1,h2,h3⟩
    ·exact .inl ⟨ds,vs,h1,h2,h3.mono gs⟩
    ·exact .inr ⟨ds,vs,h1,h2,h3.mono gs⟩
 ·rcases getE_set hj with⟨rfl,z⟩|⟨nj,z⟩
  ·cases z
  rcases getE_set hk with⟨rfl,y⟩|⟨nk,y⟩
  ·cases y
  exact E.apart j k fs hs q z y aj ak
 ·rcases getE_set hj with⟨rfl,z⟩|⟨ne,z⟩
  ·cases z
  ·exact ((E.deep j rows z).2.1 i d hi).elim
theorem EnvD.freezeD {i:Nat}{rows:List (List D)}(E:EnvD K G0 H0 G H σ ρ)(hi:ρ[i]?=some (.deep rows)):∃G',EnvD K G0 H0 G' H σ (ρ.set i (.dat (.list (rows.map .list))))∧Same G G':=by
 obtain⟨⟨p,a,qs,b1,b2,b3,b4,b5⟩,c1,c2⟩:=E.deep i rows hi
 have hrow:∀q∈qs,G q=Option.none∧H0 q=Option.none:=fun q hq=>by
  obtain⟨k,hk⟩:=List.getElem?_of_mem hq
  have hl:k<rows.length:=by rw[←b5.1];exact (List.getElem?_eq_some_iff.mp hk).1
  obtain⟨x,y,_⟩:=b5.2 k _ q (ge0 hl) hk
  exact⟨x,y⟩
 have hall:∀q∈p::qs,G q=Option.none∧H0 q=Option.none:=fun q hq=>by
  rcases List.mem_cons.mp hq with rfl|hq
  ·exact⟨b2,b3⟩
  ·exact hrow q hq
 let G':Hp:=fun b=>if b∈p::qs then H b else G b
 have gin:∀b,b∈p::qs→G' b=H b:=fun b h=>if_pos h
 have gout:∀b,b∉p::qs→G' b=G b:=fun b h=>if_neg h
 have gs:Same G G':=fun b o e=>by
  rw[gout b fun h=>by rw[(hall b h).1] at e;cases e];exact e
 have gh:Same G' H:=fun b o e=>by
  by_cases h:b∈p::qs
  ·rw[gin b h] at e;exact e
  ·rw[gout b h] at e;exact E.ext.gh b o e
 have il:i<ρ.length:=(List.getElem?_eq_some_iff.mp hi).1
 refine⟨G',⟨⟨E.ext.hh,E.ext.gg.trans gs,gh,fun b o e1 e2=>?_,E.ext.ni⟩,by simp[E.len],fun j e hj=>?_,fun j e hj=>?_,fun j fs hj=>?_,fun j k fs hs q hj hk aj ak=>?_,fun j r hj=>?_⟩,gs⟩
 ·rw[gout b fun h=>by rw[(hall b h).2] at e2;cases e2];exact E.ext.nw b o e1 e2
 ·rcases getE_set hj with⟨rfl,z⟩|⟨ne,z⟩
  ·cases z
   refine⟨_,a,.list ((gin p ms0).trans b1) ?_⟩
   have key:∀(rows:List (List D)) (qs':List Addr),(∀q∈qs',q∈p::qs)→RowsAt K G H0 H rows qs'→Dps K G' (rows.map .list) (qs'.map .ref):=by
    intro rows
    induction rows with
    |nil=>
         intro qs' _ h;have:qs'=[]:=List.eq_nil_of_length_eq_zero h.1
         subst this;exact .nil
    |cons r rs ih=>
     intro qs' hm h
     cases qs' with
     |nil=>exact absurd h.1 (by simp)
     |cons q qs2=>
      obtain⟨_,_,vs,h2,h3⟩:=h.2 0 r q rfl rfl
      refine .cons (.list ((gin q (hm q ms0)).trans h2) (h3.mono gs)) (ih qs2 (fun x hx=>hm x (mc0 _ hx)) ⟨by simpa using h.1,fun k row x e1 e2=>h.2 (k+1) row x e1 e2⟩)
   exact key rows qs (fun q hq=>mc0 _ hq) b5
  ·obtain⟨v,x,y⟩:=E.dat j e z;exact⟨v,x,y.mono gs⟩
 ·rcases getE_set hj with⟨rfl,z⟩|⟨ne,z⟩
  ·cases z
  ·exact E.lent j e z
 ·rcases getE_set hj with⟨rfl,z⟩|⟨ne,z⟩
  ·cases z
  ·exact (c1 j fs z).elim
 ·rcases getE_set hj with⟨rfl,z⟩|⟨nj,z⟩
  ·cases z
  ·exact (c1 j fs z).elim
 ·rcases getE_set hj with⟨rfl,z⟩|⟨ne,z⟩
  ·cases z
  ·exact absurd (c2 j r z) ne
theorem map_freeze_set {ρ:List Sl}{i:Nat}{d:D}{sl:Sl}(h:ρ[i]?=some sl)(hf:freeze sl=.dat d):(ρ.set i (.dat d)).map freeze=ρ.map freeze:=by
 apply List.ext_getElem?
 intro j
 rw[List.getElem?_map,List.getElem?_map]
 by_cases e:j=i
 ·subst e
  rw[List.getElem?_set_self (List.getElem?_eq_some_iff.mp h).1,h]
  show some _=some _
  rw[hf];rfl
 ·rw[gn0 (Ne.symm e)]
theorem EnvD.freeze (E:EnvD K G0 H0 G H σ ρ):∃G',EnvD K G0 H0 G' H σ (ρ.map freeze)∧Same G G':=by
 have key:∀(n:Nat) (G:Hp) (ρ:List Sl),(ρ.filter fun|.own _=>true|_=>false).length≤n→EnvD K G0 H0 G H σ ρ→∃G',EnvD K G0 H0 G' H σ (ρ.map SI.freeze)∧Same G G':=by
  intro n
  induction n with
  |zero=>
   intro G ρ hn E
   have no:∀sl∈ρ,∀d,sl≠Sl.own d:=fun sl hs d e=>by
    subst e
    have:Sl.own d∈ρ.filter fun|.own _=>true|_=>false:=List.mem_filter.mpr ⟨hs,rfl⟩
    rw[List.eq_nil_of_length_eq_zero (Nat.le_zero.mp hn)] at this
    cases this
   have idm:∀ρ:List Sl,(∀sl∈ρ,∀d,sl≠Sl.own d)→(∀(i:Nat) rows,ρ[i]?≠some (Sl.deep rows))→ρ.map SI.freeze=ρ:=fun ρ no nd=>by
    conv=>rhs;rw[←List.map_id ρ]
    apply List.map_congr_left
    intro sl hs
    cases sl with
    |own d=>exact absurd rfl (no _ hs d)
    |deep rows=>
     obtain⟨i,hi⟩:=List.getElem?_of_mem hs
     exact absurd hi (nd i rows)
    |no=>rfl
    |dat d=>rfl
    |lent d=>rfl
   by_cases c:∃(i:Nat) (rows:List (List D)),ρ[i]?=some (Sl.deep rows)
   ·obtain⟨i,rows,hi⟩:=c
    obtain⟨G1,E1,s1⟩:=E.freezeD hi
    have e:(ρ.set i (.dat (.list (rows.map .list)))).map SI.freeze=ρ.set i (.dat (.list (rows.map .list))):=idm _ (fun sl hs d=>by
     rcases List.mem_or_eq_of_mem_set hs with h|h
     ·exact no sl h d
     ·rw[h];intro z;cases z) fun j r hj=>by
     rcases getE_set hj with⟨_,z⟩|⟨ne,z⟩
     ·cases z
     ·exact ne ((E.deep i rows hi).2.2 j r z)
    rw[←map_freeze_set hi rfl,e]
    exact⟨G1,E1,s1⟩
   ·rw[idm ρ no fun i rows h=>c ⟨i,rows,h⟩]
    exact⟨G,E,Same.refl _⟩
  |succ n ih=>
   intro G ρ hn E
   by_cases c:∃(i:Nat) (d:D),ρ[i]?=some (Sl.own d)
   ·obtain⟨i,d,hi⟩:=c
    obtain⟨G1,E1,s1⟩:=E.freeze1 hi
    have il:i<ρ.length:=(List.getElem?_eq_some_iff.mp hi).1
    have hlt:((ρ.set i (.dat d)).filter fun|.own _=>true|_=>false).length<(ρ.filter fun|.own _=>true|_=>false).length:=by
     have s1:ρ=ρ.take i++Sl.own d::ρ.drop (i+1):=by
      conv=>lhs;rw[←List.take_append_drop i ρ,List.drop_eq_getElem_cons il]
      rw[(List.getElem?_eq_some_iff.mp hi).2]
     have s2:ρ.set i (.dat d)=ρ.take i++Sl.dat d::ρ.drop (i+1):=by rw[List.set_eq_take_append_cons_drop,if_pos il]
     rw[s2]
     conv=>rhs;rw[s1]
     simp only[List.filter_append,List.filter_cons,List.length_append]
     simp
    obtain⟨G2,E2,s2⟩:=ih G1 _ (by omega) E1
    rw[map_freeze_set hi rfl] at E2
    exact⟨G2,E2,s1.trans s2⟩
   ·refine ih G ρ ?_ E
    have:(ρ.filter fun|.own _=>true|_=>false)=[]:=by
     rw[List.filter_eq_nil_iff]
     intro sl hs
     obtain⟨i,hi⟩:=List.getElem?_of_mem hs
     cases sl with
     |own d=>exact absurd ⟨i,d,hi⟩ c
     |_=>exact fx0
    rw[this];exact Nat.zero_le _
 exact key _ G ρ (nr0 _) E
end
inductive Das (K:Fg)(G H:Hp):List Bool→List D→List V→Prop
 |nil {fl:List Bool}:Das K G H fl [] []
 |cons {fl:List Bool} {d:D} {v:V} {ds:List D} {vs:List V}:(fl.headD false=false→Dp K G d v)→Dr K G H d v→Das K G H fl.tail ds vs→Das K G H fl (d::ds) (v::vs)
theorem Das.dps {K:Fg}{G H:Hp}:∀{ds:List D} {vs:List V},Das K G H [] ds vs→Dps K G ds vs
 |_,_,.nil=>.nil
 |_,_,.cons h1 _ r=>.cons (h1 rfl) (Das.dps r)
theorem Das.length {K:Fg}{G H:Hp}{fl:List Bool}{ds:List D}{vs:List V}(h:Das K G H fl ds vs):ds.length=vs.length:=by
 induction h with
 |nil=>rfl
 |cons _ _ _ ih=>rw[lc0,lc0,ih]
noncomputable def tEv (K:Fg)(ρ:List Sl)(d:D):TE:=fun σ H Q=>∃G0 H0 G,EnvD K G0 H0 G H σ ρ∧∀v G' H',Ext G H G' H'→Dp K G' d v→Q v H'
noncomputable def tEr (K:Fg)(ρ:List Sl)(d:D):TE:=fun σ H Q=>∃G0 H0 G,EnvD K G0 H0 G H σ ρ∧∀v G' H',Ext G H G' H'→Dr K G' H' d v→Q v H'
noncomputable def tEt (K:Fg)(ρ:List Sl)(b:Bool):TT:=fun σ H Q=>∃G0 H0 G,EnvD K G0 H0 G H σ ρ∧∀G' H',Ext G H G' H'→Q b H'
noncomputable def tEa (K:Fg)(ρ:List Sl)(fl:List Bool)(ds:List D):TA:=fun σ H Q=>∃G0 H0 G,EnvD K G0 H0 G H σ ρ∧∀vs G' H',Ext G H G' H'→Das K G' H' fl ds vs→Q vs H'
noncomputable def tEn (K:Fg)(ρ:List Sl)(d:D):TE:=fun σ H Q=>∃G0 H0 G,EnvD K G0 H0 G H σ ρ∧∀p G' H',Ext G H G' H'→G' p=Option.none→H p=Option.none→OwnAt K G' H' d p→Q (.ref p) H'
noncomputable def Ev (X:Cx)(ρ:List Sl)(e:Expr)(d:D):Prop:=PE X e (tEv X.K ρ d)
noncomputable def Er (X:Cx)(ρ:List Sl)(e:Expr)(d:D):Prop:=PE X e (tEr X.K ρ d)
noncomputable def Et (X:Cx)(ρ:List Sl)(e:Expr)(b:Bool):Prop:=PT X e (tEt X.K ρ b)
noncomputable def Ew (X:Cx)(ρ:List Sl)(e:Expr)(b:Bool):Prop:=PW X e (tEt X.K ρ b)
noncomputable def Ea (X:Cx)(ρ:List Sl)(fl:List Bool)(es:List Expr)(ds:List D):Prop:=PA X es (tEa X.K ρ fl ds)
noncomputable def En (X:Cx)(ρ:List Sl)(e:Expr)(d:D):Prop:=PE X e (tEn X.K ρ d)
section
variable {X:Cx}{ρ:List Sl}{a b c:Expr}{pos:Pos}{d d1 d2 d3:D}
theorem OwnAt.show {K:Fg}{G H G' H':Hp}{p:Addr}{d:D}(e:Ext G H G' H')(g:G' p=Option.none)(h0:H p=Option.none)(o:OwnAt K G' H' d p):∃G2,Ext G H G2 H'∧Dp K G2 d (.ref p):=by
 obtain⟨ob,ho⟩:=o.some
 refine⟨upd G' p ob,e.show h0 ho g,?_⟩
 rcases o with⟨ds,vs,h1,h2,h3⟩|⟨ds,vs,h1,h2,h3⟩
 ·rw[h2] at ho;cases ho;rw[h1];exact .list upd_same (h3.mono (same_upd g))
 ·rw[h2] at ho;cases ho;rw[h1];exact .dict upd_same (h3.mono (same_upd g))
theorem En.ev {e:Expr}(h:En X ρ e d):Ev X ρ e d:=fun pins s σ H Q I ⟨G0,H0,G,E,k⟩=>
 h pins s σ H Q I ⟨G0,H0,G,E,fun p G' H' e g h0 o=>let ⟨G2,e2,r⟩:=o.show e g h0;k _ G2 H' e2 r⟩
theorem Ev.er {e:Expr}(h:Ev X ρ e d):Er X ρ e d:=fun pins s σ H Q I ⟨G0,H0,G,E,k⟩=>h pins s σ H Q I ⟨G0,H0,G,E,fun v G' H' e r=>k v G' H' e (.of r)⟩
theorem Ew.et {e:Expr}{b:Bool}(h:Ew X ρ e b):Et X ρ e b:=PW.pt h
theorem ev_int {i j pos}:Ev X ρ (.Constant (.int i) j pos) (.int i):=fun pins s σ H Q I ⟨G0,H0,G,E,k⟩=>pe_int pins s σ H Q I (k _ G H (.refl E.sub) (.int i))
theorem ev_bl {b j pos}:Ev X ρ (.Constant (.bool b) j pos) (.bool b):=fun pins s σ H Q I ⟨G0,H0,G,E,k⟩=>pe_bl pins s σ H Q I (k _ G H (.refl E.sub) (.bool b))
theorem ev_non {j pos}:Ev X ρ (.Constant .none j pos) .none:=fun pins s σ H Q I ⟨G0,H0,G,E,k⟩=>pe_non pins s σ H Q I (k _ G H (.refl E.sub) .none)
theorem ev_str {x j pos}(h:PyData.strOk x=true):Ev X ρ (.Constant (.str x) j pos) (.str x):=fun pins s σ H Q I ⟨G0,H0,G,E,k⟩=>pe_str pins s σ H Q I (k _ G H (.refl E.sub) (.str x h))
theorem ev_var (i:Nat){x:Str}{pos:Pos}(h:(ρ[i]?).bind (datsOf .val)=some d)(hN:X.N[i]?=some x)(hv:Vis X.env.scope x)(hd:(x==("__debug__":Str))=false)(hcd:(x==("__classdict__":Str))=false):Ev X ρ (.Name x pos) d:=fun pins s σ H Q I ⟨G0,H0,G,E,k⟩=>by
 obtain⟨sl,h1,h2⟩:=bx0 h
 obtain⟨v,e,r⟩:=E.val h1 h2
 exact pe_var hN hv hd hcd pins s σ H Q I ⟨v,e,k v G H (.refl E.sub) r⟩
theorem er_var (i:Nat){x:Str}{pos:Pos}(h:(ρ[i]?).bind (datsOf .read)=some d)(hN:X.N[i]?=some x)(hv:Vis X.env.scope x)(hd:(x==("__debug__":Str))=false)(hcd:(x==("__classdict__":Str))=false):Er X ρ (.Name x pos) d:=fun pins s σ H Q I ⟨G0,H0,G,E,k⟩=>by
 obtain⟨sl,h1,h2⟩:=bx0 h
 obtain⟨v,e,r⟩:=E.read h1 h2
 exact pe_var hN hv hd hcd pins s σ H Q I ⟨v,e,k v G H (.refl E.sub) r⟩
theorem starEach_cons {e:Expr}{es:List Expr}{env:Env}(h:isStar e=false):starEach (e::es) env=(false,eval e env)::starEach es env:=by cases e<;>first|rfl|cases h
theorem ea_nil {fl:List Bool}:Ea X ρ fl [] []:=fun pos pins s σ H Q I ⟨G0,H0,G,E,k⟩=>pa_nil pos pins s σ H Q I (k [] G H (.refl E.sub) .nil)
theorem ea_consV {fl:List Bool}{e:Expr}{es:List Expr}{ds:List D}(he:Ev X ρ e d)(hr:Ea X ρ fl.tail es ds)(hs:isStar e=false):Ea X ρ fl (e::es) (d::ds):=
 fun pos pins s σ H Q I ⟨G0,H0,G,E,k⟩=>pa_cons he hr (starEach_cons hs) pos pins s σ H Q I ⟨G0,H0,G,E,fun v G1 H1 e1 r1=>
  ⟨G0,H0,G1,E.step e1,fun vs G2 H2 e2 r2=>k _ G2 H2 (e1.trans e2) (.cons (fun _=>r1.mono e2.gg) (.of (r1.mono e2.gg)) r2)⟩⟩
theorem ea_consR {fl:List Bool}{e:Expr}{es:List Expr}{ds:List D}(he:Er X ρ e d)(hf:fl.headD false=true)(hr:Ea X ρ fl.tail es ds)(hs:isStar e=false):Ea X ρ fl (e::es) (d::ds):=
 fun pos pins s σ H Q I ⟨G0,H0,G,E,k⟩=>pa_cons he hr (starEach_cons hs) pos pins s σ H Q I ⟨G0,H0,G,E,fun v G1 H1 e1 r1=>
  ⟨G0,H0,G1,E.step e1,fun vs G2 H2 e2 r2=>k _ G2 H2 (e1.trans e2) (.cons (fun c=>by rw[hf] at c;cases c) (r1.ext e2) r2)⟩⟩
noncomputable abbrev R2r (K:Fg)(r:R2)(d1 d2 d:D):Prop:=∀(x y:V) (G H:Hp) (Q:VK),Same G H→Dr K G H d1 x→Dr K G H d2 y→(∀v G' H',Ext G H G' H'→Dp K G' d v→Q v H')→r x y H Q
noncomputable abbrev R2n (K:Fg)(r:R2)(d1 d2 d:D):Prop:=∀(x y:V) (G H:Hp) (Q:VK),Same G H→Dr K G H d1 x→Dr K G H d2 y→(∀p G' H',Ext G H G' H'→G' p=Option.none→H p=Option.none→OwnAt K G' H' d p→Q (.ref p) H')→r x y H Q
theorem ev_op {op:Operator}{r:R2}(ho:OpR X (binaryOp op) r)(ha:Er X ρ a d1)(hb:Er X ρ b d2)(h:R2r X.K r d1 d2 d):Ev X ρ (.BinOp a op b pos) d:=
 fun pins s σ H Q I ⟨G0,H0,G,E,k⟩=>pe_op ho ha hb pins s σ H Q I ⟨G0,H0,G,E,fun x G1 H1 e1 r1=>⟨G0,H0,G1,E.step e1,fun y G2 H2 e2 r2=>
  h x y G2 H2 Q e2.gh (r1.ext e2) r2 fun v G' H' e3 r3=>k v G' H' (e1.trans (e2.trans e3)) r3⟩⟩
theorem en_op {op:Operator}{r:R2}(ho:OpR X (binaryOp op) r)(ha:Er X ρ a d1)(hb:Er X ρ b d2)(h:R2n X.K r d1 d2 d):En X ρ (.BinOp a op b pos) d:=
 fun pins s σ H Q I ⟨G0,H0,G,E,k⟩=>pe_op ho ha hb pins s σ H Q I ⟨G0,H0,G,E,fun x G1 H1 e1 r1=>⟨G0,H0,G1,E.step e1,fun y G2 H2 e2 r2=>
  h x y G2 H2 Q e2.gh (r1.ext e2) r2 fun p G' H' e3 g3 h3 r3=>k p G' H' (e1.trans (e2.trans e3)) g3 (e1.hh.free (e2.hh.free h3)) r3⟩⟩
theorem ev_cmp {op:CmpOp}{r:R2}(ho:OpR X (compareOp op) r)(ha:Er X ρ a d1)(hb:Er X ρ b d2)(h:R2r X.K r d1 d2 d)(hm:behindInMarks op b=false):Ev X ρ (.Compare a [op] [b] pos) d:=
 fun pins s σ H Q I ⟨G0,H0,G,E,k⟩=>pe_cmpR ho ha hb hm pins s σ H Q I ⟨G0,H0,G,E,fun x G1 H1 e1 r1=>⟨G0,H0,G1,E.step e1,fun y G2 H2 e2 r2=>
  h x y G2 H2 Q e2.gh (r1.ext e2) r2 fun v G' H' e3 r3=>k v G' H' (e1.trans (e2.trans e3)) r3⟩⟩
theorem et_cmp {op:CmpOp}{r:R2}{t:Bool}(ho:OpR X (compareOp op) r)(ha:Er X ρ a d1)(hb:Er X ρ b d2)(h:R2r X.K r d1 d2 (.bool t))(hm:behindInMarks op b=false):Et X ρ (.Compare a [op] [b] pos) t:=
 fun pins s σ H Q I ⟨G0,H0,G,E,k⟩=>pt_cmpR ho ha hb hm pins s σ H Q I ⟨G0,H0,G,E,fun x G1 H1 e1 r1=>⟨G0,H0,G1,E.step e1,fun y G2 H2 e2 r2=>
  h x y G2 H2 _ e2.gh (r1.ext e2) r2 fun v G' H' e3 r3=>by
   cases r3
   exact⟨t,rfl,k G' H' (e1.trans (e2.trans e3))⟩⟩⟩
theorem ev_ix {r:R2}(hr:IxR X r)(ha:Er X ρ a d1)(hb:Ev X ρ b d2)(h:R2r X.K r d1 d2 d)(hs:isSlice b=false):Ev X ρ (.Subscript a b pos) d:=
 fun pins s σ H Q I ⟨G0,H0,G,E,k⟩=>pe_ix hr ha hb (by cases b<;>first|exact fun _ _=>rfl|cases hs) pins s σ H Q I ⟨G0,H0,G,E,fun x G1 H1 e1 r1=>⟨G0,H0,G1,E.step e1,fun y G2 H2 e2 r2=>
  h x y G2 H2 Q e2.gh (r1.ext e2) (.of r2) fun v G' H' e3 r3=>k v G' H' (e1.trans (e2.trans e3)) r3⟩⟩
theorem r2_I0 {K:Fg}{g:Int→Int→V}{i j:Int}{d:D}(hg:∀G,Dp K G d (g i j)):R2r K (rI0 g) (.int i) (.int j) d:=fun x y G H Q s hx hy k=>⟨i,j,hx.int,hy.int,k _ G H (.refl s) (hg G)⟩
theorem r2_I {K:Fg}{C:Int→Int→Prop}{g:Int→Int→V}{i j:Int}{d:D}(hC:C i j)(hg:∀G,Dp K G d (g i j)):R2r K (rI C g) (.int i) (.int j) d:=fun x y G H Q s hx hy k=>⟨i,j,hx.int,hy.int,hC,k _ G H (.refl s) (hg G)⟩
theorem big_eq:SI.big=sizeLine:=by rw[sizeLine_eq];rfl
theorem strOk_append {x y:Str}(hx:PyData.strOk x=true)(hy:PyData.strOk y=true):PyData.strOk (x++y)=true:=by
 have e:(x++y).cps=x.cps++y.cps:=rfl
 unfold PyData.strOk at hx hy ⊢
 rw[e,Array.all_append,hx,hy];rfl
theorem strOk_iff {x:Str}:PyData.strOk x=true↔∀c∈x.cps.toList,c<0x110000:=by
 unfold PyData.strOk
 rw[←Array.all_toList,List.all_eq_true]
 simp
theorem cMul_ok {i j:Int}(h:SI.cMul i j=true):CMul i j:=by
 unfold SI.cMul at h
 rw[Bool.or_eq_true,be0,be0] at h
 rcases h with⟨h1,h2⟩|⟨h1,h2⟩
 ·exact .inl ⟨of_decide_eq_true h1,of_decide_eq_true h2⟩
 ·exact .inr ⟨of_decide_eq_true h1,of_decide_eq_true h2⟩
theorem r2_cat {K:Fg}{ds es:List D}(h:ds.length+es.length≤sizeLine):R2n K rCat (.list ds) (.list es) (.list (ds++es)):=fun x y G H Q s hx hy k=>by
 obtain⟨a,vs,rfl,h1,r1⟩:=hx.lst s
 obtain⟨b,ws,rfl,h2,r2⟩:=hy.lst s
 exact⟨a,b,vs,ws,rfl,rfl,h1,h2,by rw[←r1.length,←r2.length];exact h,fun p hp=>k p G _ (.hid s hp) (s.free hp) hp (.inl ⟨_,_,rfl,upd_same,r1.append r2⟩)⟩
theorem r2_rep {K:Fg}{ds:List D}{j:Int}(h1:-(2 ^ 63)≤j)(h2:j<2 ^ 63)(h:ds.length*j.toNat≤sizeLine):R2n K rRep (.list ds) (.int j) (.list (List.replicate j.toNat ds).flatten):=fun x y G H Q s hx hy k=>by
 obtain⟨a,vs,rfl,h3,r1⟩:=hx.lst s
 exact⟨a,j,vs,rfl,hy.int,h3,h1,h2,by rw[←r1.length];exact h,fun p hp=>k p G _ (.hid s hp) (s.free hp) hp (.inl ⟨_,_,rfl,upd_same,r1.rep _⟩)⟩
theorem r2_addS {K:Fg}{x y:Str}(h:x.length+y.length≤sizeLine):R2r K (fun u v H Q=>∃i j,u=.str i∧v=.str j∧i.length+j.length≤sizeLine∧Q (.str (i++j)) H) (.str x) (.str y) (.str (x++y)):=fun u v G H Q s hx hy k=>by
 obtain⟨rfl,o1⟩:=hx.str
 obtain⟨rfl,o2⟩:=hy.str
 exact⟨x,y,rfl,rfl,h,k _ G H (.refl s) (.str _ (strOk_append o1 o2))⟩
theorem mul_eq (x:Str)(j:Int):Txt.mul x j=⟨((List.replicate j.toNat x.cps.toList).flatten).toArray⟩:=by
 have key:∀(n:Nat) (acc:List Nat),(List.replicate n x.cps).foldl (·++·) acc.toArray=(acc++(List.replicate n x.cps.toList).flatten).toArray:=by
  intro n
  induction n with
  |zero=>intro acc;simp
  |succ n ih=>
   intro acc
   rw[List.replicate_succ,List.foldl_cons,List.replicate_succ,List.flatten_cons]
   have e:acc.toArray++x.cps=(acc++x.cps.toList).toArray:=by simp
   rw[e,ih,List.append_assoc]
 unfold Txt.mul
 split
 ·rename_i h
  have:j.toNat=0:=by omega
  rw[this];rfl
 ·rename_i h
  split
  ·rename_i h2
   rw[Bool.or_eq_true] at h2
   rcases h2 with h2|h2
   ·have:j.toNat=1:=by have:=eq_of_beq h2;omega
    rw[this];simp
   ·have e:x.cps.toList=[]:=by
     have:x.cps.size=0:=eq_of_beq h2
     exact List.eq_nil_of_length_eq_zero (by simpa using this)
    have e2:(List.replicate j.toNat x.cps.toList).flatten=[]:=by rw[e];simp
    rw[e2]
    cases x with|mk c=>congr 1;exact Array.toList_inj.mp (by rw[e])
  ·have:=key j.toNat []
   rw[List.nil_append] at this
   rw[←this]
theorem mulOk_of {x:Str}{j:Int}(h1:j≤1000)(h2:x.length≤1000)(h0:-1000≤j):MulOk x j:=by
 refine⟨?_,fun h3 _=>?_,fun h3 _=>?_⟩
 ·rw[decide_eq_false (by omega),decide_eq_false (by omega)];rfl
 ·intro h4
  have:(1000:Int)≤(2 ^ 63-1) / j:=by
   rw[Int.le_ediv_iff_mul_le (by omega)]
   omega
  omega
 ·have h5:x.length*j.toNat≤1000*1000:=Nat.mul_le_mul h2 (by omega)
  exact decide_eq_false (by rw[sizeLine_eq];omega)
end
mutual
noncomputable def toW:D→PySem.W.Dat
 |.none=>.none
 |.bool b=>.bool b
 |.int i=>.int i
 |.str x=>.str x
 |.tuple ds=>.tuple (toWs ds)
 |.list ds=>.list (toWs ds)
 |.dict _=>.none
 |.scr _=>.none
 |.vlt ..=>.none
 |.hdl _=>.none
 |.exc _=>.none
noncomputable def toWs:List D→List PySem.W.Dat
 |[]=>[]
 |d::r=>toW d::toWs r
end
theorem toWs_all {p:PySem.W.Dat→Bool}{q:D→Bool}:∀{ds:List D},(∀d∈ds,q d=true→p (toW d)=true)→ds.all q=true→(toWs ds).all p=true
 |[],_,_=>rfl
 |d::r,h,a=>by
  rw[List.all_cons,be0] at a
  show (p (toW d)&&(toWs r).all p)=true
  rw[h d ms0 a.1,toWs_all (fun e he=>h e (mc0 _ he)) a.2];rfl
theorem toW_inj:∀(n m:Nat) (a b:D),okS n a=true→okS m b=true→toW a=toW b→a=b:=by
 intro n
 induction n with
 |zero=>
  intro m a b ha hb e
  cases a with
  |none=>cases b<;>first|rfl|(cases e;done)|(cases m<;>cases hb)
  |int i=>cases b<;>first|(cases e;rfl)|(cases e;done)
  |str x=>cases b<;>first|(cases e;rfl)|(cases e;done)
  |_=>cases ha
 |succ n ih=>
  intro m a b ha hb e
  have all:∀(m:Nat) (ds es:List D),ds.all (okS n)=true→es.all (okS m)=true→toWs ds=toWs es→ds=es:=by
   intro m ds
   induction ds with
   |nil=>intro es _ _ e;cases es with
    |nil=>rfl
    |cons=>cases e
   |cons d r ih2=>
    intro es h1 h2 e
    cases es with
    |nil=>cases e
    |cons f q=>
     rw[List.all_cons,be0] at h1 h2
     have e':toW d::toWs r=toW f::toWs q:=e
     injection e' with e1 e2
     rw[ih m d f h1.1 h2.1 e1,ih2 q h1.2 h2.2 e2]
  cases a with
  |none=>cases b<;>first|rfl|(cases e;done)|(cases m<;>cases hb)
  |int i=>cases b<;>first|(cases e;rfl)|(cases e;done)
  |str x=>cases b<;>first|(cases e;rfl)|(cases e;done)
  |tuple ds=>
   cases b with
   |tuple es=>
    cases m with
    |zero=>cases hb
    |succ m=>rw[all m ds es ha hb (PySem.W.Dat.tuple.inj e)]
   |_=>cases e
  |list ds=>
   cases b with
   |list es=>
    cases m with
    |zero=>cases hb
    |succ m=>rw[all m ds es ha hb (PySem.W.Dat.list.inj e)]
   |_=>cases e
  |_=>cases ha
section
variable {K:Fg}{G:Hp}
theorem Dps.mem {ds:List D}{vs:List V}(h:Dps K G ds vs){d:D}(hd:d∈ds):∃v,Dp K G d v:=by
 obtain⟨k,e⟩:=List.getElem?_of_mem hd
 obtain⟨v,_,r⟩:=h.get e
 exact⟨v,r⟩
theorem ok_of:∀(n:Nat) (d:D) (v:V),Dp K G d v→okS n d=true→PySem.W.kqdOk n (toW d)=true:=by
 intro n
 induction n with
 |zero=>
  intro d v h o
  cases h with
  |none=>rfl
  |int i=>rfl
  |str x hx=>exact hx
  |_=>cases o
 |succ n ih=>
  intro d v h o
  have all:∀{ds:List D} {vs:List V},Dps K G ds vs→ds.all (okS n)=true→(toWs ds).all (PySem.W.kqdOk n)=true:=fun {ds vs} r z=>
   toWs_all (fun e he oe=>let ⟨u,q⟩:=r.mem he;ih e u q oe) z
  cases h with
  |none=>rfl
  |int i=>rfl
  |str x hx=>exact hx
  |tuple _ r=>exact all r o
  |list _ r=>exact all r o
  |_=>cases o
theorem ok_r {H:Hp}(s:Same G H){d:D}{v:V}(h:Dr K G H d v)(o:okS 8 d=true):PySem.W.kqdOk 8 (toW d)=true:=by
 cases h with
 |of h=>exact ok_of 8 d v h o
 |list _ r=>exact toWs_all (fun e he oe=>let ⟨u,q⟩:=r.mem he;ok_of 7 e u q oe) o
 |dict=>cases o
 |vlt=>cases o
variable {X:Cx}{pins:List (Addr×Obj)}{σ:St}{H:Hp}{s:Shared}
theorem reads_all (I:Inv X pins σ H s)(sm:Same G H){n:Nat}(ih:∀(d:D) (v:V) (u:Value),Dp X.K G d v→RelV v u→okS n d=true→∃as,Reads s.heap u (PySem.W.kqdP (toW d)) as):
  ∀{vs:List V} {us:List Value} {ds:List D},Vals vs us→Dps X.K G ds vs→ds.all (okS n)=true→∃as,ReadsAll s.heap us (PySem.W.kqdPs (toWs ds)) as:=by
 intro vs us ds r
 induction r generalizing ds with
 |nil=>intro q _;cases q;exact⟨_,ReadsAll.nil⟩
 |cons r1 _ ih2=>
  intro q z
  cases q with
  |cons q1 q2=>
   rw[List.all_cons,be0] at z
   obtain⟨as,p1⟩:=ih _ _ _ q1 r1 z.1
   obtain⟨bs,p2⟩:=ih2 q2 z.2
   exact⟨_,ReadsAll.cons p1 p2⟩
theorem reads_of (I:Inv X pins σ H s)(sm:Same G H):∀(n:Nat) (d:D) (v:V) (u:Value),Dp X.K G d v→RelV v u→okS n d=true→∃as,Reads s.heap u (PySem.W.kqdP (toW d)) as:=by
 intro n
 induction n with
 |zero=>
  intro d v u h r o
  cases h with
  |none=>cases r;exact⟨_,Reads.none⟩
  |int i=>obtain⟨t,rfl⟩:=r;exact⟨_,Reads.int i t⟩
  |str x hx=>obtain⟨t,rfl⟩:=r;exact⟨_,Reads.str x t⟩
  |_=>cases o
 |succ n ih=>
  intro d v u h r o
  cases h with
  |none=>cases r;exact⟨_,Reads.none⟩
  |int i=>obtain⟨t,rfl⟩:=r;exact⟨_,Reads.int i t⟩
  |str x hx=>obtain⟨t,rfl⟩:=r;exact⟨_,Reads.str x t⟩
  |tuple q p=>
   cases r
   obtain⟨its,rv,⟨ob,e1,e2,m,e3⟩,_⟩:=I.tuple (SqT.of (sm _ _ q))
   obtain⟨as,w⟩:=reads_all I sm ih rv p o
   exact⟨_,Reads.tuple e1 e2 e3 (by simpa using w)⟩
  |list q p=>
   cases r
   obtain⟨its,rv,⟨ob,m,e1,e2,_,e3⟩,_⟩:=I.list (SqL.of (sm _ _ q))
   obtain⟨as,w⟩:=reads_all I sm ih rv p o
   exact⟨_,Reads.list e1 e2 e3 (by simpa using w)⟩
  |_=>cases o
theorem reads_r (I:Inv X pins σ H s)(sm:Same G H){d:D}{v:V}{u:Value}(h:Dr X.K G H d v)(r:RelV v u)(o:okS 8 d=true):∃as,Reads s.heap u (PySem.W.kqdP (toW d)) as:=by
 cases h with
 |of h=>exact reads_of I sm 8 d v u h r o
 |list q p=>
  cases r
  obtain⟨its,rv,⟨ob,m,e1,e2,_,e3⟩,_⟩:=I.list (SqL.of q)
  obtain⟨as,w⟩:=reads_all (n:=7) I sm (reads_of I sm 7) rv p o
  exact⟨_,Reads.list e1 e2 e3 (by simpa using w)⟩
 |dict=>cases o
 |vlt=>cases o
end
section
variable {X:Cx}{d1 d2:D}
theorem shaped_of {d:PySem.W.Dat}(o:PySem.W.kqdOk 8 d=true):SeqAt.shaped (PySem.W.kqdP d)=true:=by
 have l:=PySem.W.kqd_lay 8 d o
 unfold SeqAt.shaped
 rw[l.1,Bool.true_and]
 exact decide_eq_true (nt0 l.2 (by decide))
noncomputable def rEqD (K:Fg)(neg:Bool):R2:=fun x y H Q=>∃G d1 d2,Same G H∧Dr K G H d1 x∧Dr K G H d2 y∧okS 8 d1=true∧okS 8 d2=true∧Q (.bl (if neg then !decide (d1=d2) else decide (d1=d2))) H
theorem eqv_of {K:Fg}{G H:Hp}{x y:V}(s:Same G H)(h1:Dr K G H d1 x)(h2:Dr K G H d2 y)(o1:okS 8 d1=true)(o2:okS 8 d2=true):PyData.eqv (PySem.W.kqdP (toW d1)) (PySem.W.kqdP (toW d2))=decide (d1=d2):=by
 have q:=PySem.W.kqd_eqv 8 (toW d1) (toW d2) 8 (ok_r s h1 o1) (ok_r s h2 o2)
 by_cases e:d1=d2
 ·rw[decide_eq_true e];exact q.mpr (by rw[e])
 ·rw[decide_eq_false e]
  exact Bool.eq_false_iff.mpr fun z=>e (toW_inj 8 8 d1 d2 o1 o2 (q.mp z))
theorem op_eqD (hu:X.A.units+64<cLine):OpR X (compareOp .Eq) (rEqD X.K false):=by
 intro pins s σ H x y v u Q I rx ry h
 obtain⟨G,d1,d2,sm,h1,h2,o1,o2,q⟩:=h
 obtain⟨as,ra⟩:=reads_r I sm h1 rx o1
 obtain⟨bs,rb⟩:=reads_r I sm h2 ry o2
 exact eq_dataH ra rb (shaped_of (ok_r sm h1 o1)) (shaped_of (ok_r sm h2 o2)) hu (fin_bl I q (eqv_of sm h1 h2 o1 o2).symm)
theorem op_neD (hu:X.A.units+64<cLine):OpR X (compareOp .NotEq) (rEqD X.K true):=by
 intro pins s σ H x y v u Q I rx ry h
 obtain⟨G,d1,d2,sm,h1,h2,o1,o2,q⟩:=h
 obtain⟨as,ra⟩:=reads_r I sm h1 rx o1
 obtain⟨bs,rb⟩:=reads_r I sm h2 ry o2
 exact ne_dataH ra rb (shaped_of (ok_r sm h1 o1)) (shaped_of (ok_r sm h2 o2)) hu (fin_bl I q (by rw[eqv_of sm h1 h2 o1 o2];rfl))
theorem flat_of {K:Fg}{G H:Hp}{d:D}{v:V}(h:Dr K G H d v)(f:flatD d=true):flatV v=true:=by
 cases d with
 |none=>rw[h.none];rfl
 |int i=>rw[h.int];rfl
 |str x=>rw[h.str.1];rfl
 |_=>cases f
theorem eqV_of {K:Fg}{G H:Hp}{d e:D}{v w:V}(h:Dr K G H d v)(q:Dr K G H e w)(f:flatD d=true)(g:flatD e=true):eqV v w=decide (d=e):=by
 cases d with
 |none=>
  rw[h.none]
  cases e with
  |none=>rw[q.none];rfl
  |int i=>rw[q.int];rfl
  |str x=>rw[q.str.1];rfl
  |_=>cases g
 |int i=>
  rw[h.int]
  cases e with
  |none=>rw[q.none];rfl
  |int j=>
   rw[q.int]
   show (i==j)=_
   by_cases c:i=j
   ·subst c;simp
   ·rw[decide_eq_false fun z=>c (D.int.inj z)];simpa using c
  |str x=>rw[q.str.1];rfl
  |_=>cases g
 |str x=>
  rw[h.str.1]
  cases e with
  |none=>rw[q.none];rfl
  |int i=>rw[q.int];rfl
  |str y=>
   rw[q.str.1]
   show (x==y)=_
   by_cases c:x=y
   ·subst c;simp
   ·rw[decide_eq_false fun z=>c (D.str.inj z)];simpa using c
  |_=>cases g
 |_=>cases f
theorem in_of {K:Fg}{G H:Hp}{a:D}{x:V}(h:Dr K G H a x)(f:flatD a=true):∀{ds:List D} {vs:List V},Dps K G ds vs→ds.all flatD=true→vs.all flatV=true∧inV x vs=ds.any fun d=>decide (d=a)
 |_,_,.nil,_=>⟨rfl,rfl⟩
 |_,_,.cons q r,z=>by
  rw[List.all_cons,be0] at z
  obtain⟨i1,i2⟩:=in_of h f r z.2
  have q':Dr K G H _ _:=.of q
  refine⟨by rw[List.all_cons,flat_of q' z.1,i1];rfl,?_⟩
  unfold inV at i2 ⊢
  rw[List.any_cons,List.any_cons,eqV_of q' h z.1 f,i2]
theorem op_le_str:OpR X (compareOp .LtE) (fun x y H Q=>∃i j,x=.str i∧y=.str j∧Q (.bl (!decide (j.cps.toList<i.cps.toList))) H):=by
 intro pins s σ H x y v u Q I rx ry h
 obtain⟨i,j,rfl,rfl,q⟩:=h
 obtain⟨t,rfl⟩:=rx
 obtain⟨t',rfl⟩:=ry
 exact PySem.P.le_str (fin_bl I q rfl)
theorem cmp_ok {op:CmpOp}{o:Cop}{t:Bool}(hu:X.A.units+64<cLine)(ho:cCmp op=some o)(h:cmpD o d1 d2=some t):∃r,OpR X (compareOp op) r∧R2r X.K r d1 d2 (.bool t):=by
 have hu1:X.A.units+1<cLine:=by omega
 have eqc:∀t,eqD d1 d2=some t→(∃r,OpR X (compareOp .Eq) r∧R2r X.K r d1 d2 (.bool t))∧∃r,OpR X (compareOp .NotEq) r∧R2r X.K r d1 d2 (.bool (!t)):=by
  intro t h
  unfold eqD at h
  split at h
  ·rename_i c
   rw[be0] at c
   cases h
   exact⟨⟨_,op_eqD hu,fun x y G H Q s hx hy k=>⟨G,d1,d2,s,hx,hy,c.1,c.2,k _ G H (.refl s) (.bool _)⟩⟩,⟨_,op_neD hu,fun x y G H Q s hx hy k=>⟨G,d1,d2,s,hx,hy,c.1,c.2,k _ G H (.refl s) (.bool _)⟩⟩⟩
  ·cases d1 with
   |bool p=>
    cases d2 with
    |bool q=>
     cases h
     have e:decide (V.bl p=V.bl q)=(p==q):=dec_bl
     refine⟨⟨_,op_eq,fun x y G H Q s hx hy k=>?_⟩,⟨_,op_ne,fun x y G H Q s hx hy k=>?_⟩⟩
     ·rw[hx.bool,hy.bool]
      exact⟨rfl,by rw[e];exact k _ G H (.refl s) (.bool _)⟩
     ·rw[hx.bool,hy.bool]
      exact⟨rfl,by rw[e];exact k _ G H (.refl s) (.bool _)⟩
    |_=>cases h
   |_=>cases h
 have inc:∀t,inD d1 d2=some t→∃r,OpR X (compareOp .In) r∧R2r X.K r d1 d2 (.bool t):=by
  intro t h
  unfold inD at h
  cases d2 with
  |str y=>
   cases d1 with
   |str x=>
    cases h
    exact⟨_,op_in_str,fun u v G H Q s hx hy k=>⟨x,y,hx.str.1,hy.str.1,k _ G H (.refl s) (.bool _)⟩⟩
   |_=>cases h
  |tuple ds=>
   dsimp only at h
   split at h
   ·rename_i c
    rw[be0] at c
    cases h
    refine⟨_,op_in_seq,fun u v G H Q s hx hy k=>?_⟩
    obtain⟨a,vs,rfl,h1,r1⟩:=hy.tup s
    obtain⟨f1,f2⟩:=in_of hx c.1 r1 c.2
    refine⟨a,vs,rfl,.inr (SqT.of h1),flat_of hx c.1,f1,?_⟩
    rw[if_neg fx0,f2]
    exact k _ G H (.refl s) (.bool _)
   ·cases h
  |_=>cases h
 cases op with
 |Lt=>
  cases ho
  cases d1 with
  |int i=>cases d2 with
   |int j=>cases h;exact⟨_,op_lt,r2_I0 fun _=>.bool _⟩
   |_=>cases h
  |str x=>cases d2 with
   |str y=>cases h;exact⟨_,op_lt_str,fun u v G H Q s hx hy k=>⟨x,y,hx.str.1,hy.str.1,k _ G H (.refl s) (.bool _)⟩⟩
   |_=>cases h
  |_=>cases h
 |LtE=>
  cases ho
  cases d1 with
  |int i=>cases d2 with
   |int j=>cases h;exact⟨_,op_le,r2_I0 fun _=>.bool _⟩
   |_=>cases h
  |str x=>cases d2 with
   |str y=>cases h;exact⟨_,op_le_str,fun u v G H Q s hx hy k=>⟨x,y,hx.str.1,hy.str.1,k _ G H (.refl s) (.bool _)⟩⟩
   |_=>cases h
  |_=>cases h
 |Gt=>
  cases ho
  cases d1 with
  |int i=>cases d2 with
   |int j=>cases h;exact⟨_,op_gt,r2_I0 fun _=>.bool _⟩
   |_=>cases h
  |_=>cases h
 |GtE=>cases ho
 |Eq=>cases ho;rw[cmp_eq] at h;exact (eqc t h).1
 |NotEq=>
  cases ho
  rw[cmp_ne] at h
  obtain⟨t',h1,rfl⟩:=mx0 h
  exact (eqc t' h1).2
 |In=>cases ho;rw[cmp_in] at h;exact inc t h
 |NotIn=>cases ho
 |Is=>cases ho
 |IsNot=>cases ho
theorem marks_of {op:CmpOp}{b:Expr}(h:isSet b=false):behindInMarks op b=false:=by cases b<;>first|rfl|cases h
end
section
variable {X:Cx}{ρ:List Sl}{a b c:Expr}{pos:Pos}{d d1 d2 d3:D}
theorem op_mulS':OpR X (binaryOp .Mult) (fun x y H Q=>∃z n,x=.str z∧y=.int n∧MulOk z n∧Q (.str (Txt.mul z n)) H):=by
 intro pins s σ H x y v u Q I rx ry h
 obtain⟨z,n,rfl,rfl,ok,q⟩:=h
 obtain⟨t,rfl⟩:=rx
 obtain⟨t',rfl⟩:=ry
 exact SB.mul ok fun t' k=>⟨.str _,H,I.tok k,⟨_,rfl⟩,q⟩
theorem strOk_rep {x:Str}{n:Nat}(h:PyData.strOk x=true):PyData.strOk ⟨((List.replicate n x.cps.toList).flatten).toArray⟩=true:=by
 rw[strOk_iff] at h ⊢
 intro c hc
 have hc:c∈(List.replicate n x.cps.toList).flatten:=by simpa using hc
 obtain⟨l,hl,hc⟩:=List.mem_flatten.mp hc
 rw[List.eq_of_mem_replicate hl] at hc
 exact h c hc
theorem op_sound {op:Operator}{o:Op2}(ho:cOp op=some o)(h:opD o d1 d2=some d)(ha:Er X ρ a d1)(hb:Er X ρ b d2):Ev X ρ (.BinOp a op b pos) d∧(ownD d=true→En X ρ (.BinOp a op b pos) d):=by
 have new:En X ρ (.BinOp a op b pos) d→Ev X ρ (.BinOp a op b pos) d∧(ownD d=true→En X ρ (.BinOp a op b pos) d):=fun q=>⟨q.ev,fun _=>q⟩
 have old:ownD d=false→Ev X ρ (.BinOp a op b pos) d→Ev X ρ (.BinOp a op b pos) d∧(ownD d=true→En X ρ (.BinOp a op b pos) d):=fun z q=>⟨q,fun c=>by rw[z] at c;cases c⟩
 cases op with
 |Add=>
  cases ho
  cases d1 with
  |int i=>cases d2 with
   |int j=>cases h;exact old rfl (ev_op op_add ha hb (r2_I0 fun _=>.int _))
   |_=>cases h
  |str x=>cases d2 with
   |str y=>
    rw[op_addS] at h
    split at h
    ·rename_i c;cases h;rw[big_eq] at c;exact old rfl (ev_op op_add_str ha hb (r2_addS c))
    ·cases h
   |_=>cases h
  |list ds=>cases d2 with
   |list es=>
    rw[op_addL] at h
    split at h
    ·rename_i c;cases h;rw[big_eq] at c;exact new (en_op op_cat ha hb (r2_cat c))
    ·cases h
   |_=>cases h
  |_=>cases h
 |Sub=>
  cases ho
  cases d1 with
  |int i=>cases d2 with
   |int j=>cases h;exact old rfl (ev_op op_sub ha hb (r2_I0 fun _=>.int _))
   |_=>cases h
  |_=>cases h
 |Mult=>
  cases ho
  cases d1 with
  |int i=>cases d2 with
   |int j=>
    rw[op_mulI] at h
    split at h
    ·rename_i c;cases h;exact old rfl (ev_op op_mul ha hb (r2_I (cMul_ok c) fun _=>.int _))
    ·cases h
   |_=>cases h
  |str x=>cases d2 with
   |int j=>
    rw[op_mulS] at h
    split at h
    ·rename_i c
     cases h
     refine old rfl (ev_op op_mulS' ha hb fun u v G H Q s hx hy k=>?_)
     obtain⟨rfl,o1⟩:=hx.str
     refine⟨x,j,rfl,hy.int,mulOk_of c.2.1 c.2.2 c.1,?_⟩
     rw[mul_eq]
     exact k _ G H (.refl s) (.str _ (strOk_rep o1))
    ·cases h
   |_=>cases h
  |list ds=>cases d2 with
   |int j=>
    rw[op_mulL] at h
    split at h
    ·rename_i c
     cases h
     unfold repOk at c
     rw[be0,be0] at c
     exact new (en_op op_rep ha hb (r2_rep (of_decide_eq_true c.1.1) (of_decide_eq_true c.1.2) (by rw[←big_eq];exact of_decide_eq_true c.2)))
    ·cases h
   |_=>cases h
  |_=>cases h
 |Mod=>
  cases ho
  cases d1 with
  |int i=>cases d2 with
   |int j=>
    rw[op_modI] at h
    split at h
    ·rename_i c;cases h;exact old rfl (ev_op op_mod ha hb (r2_I c fun _=>.int _))
    ·cases h
   |_=>cases h
  |_=>cases h
 |FloorDiv=>
  cases ho
  cases d1 with
  |int i=>cases d2 with
   |int j=>
    rw[op_divI] at h
    split at h
    ·rename_i c;cases h;exact old rfl (ev_op op_fdiv ha hb (r2_I c fun _=>.int _))
    ·cases h
   |_=>cases h
  |_=>cases h
 |_=>cases ho
theorem ev_neg {i:Int}(ha:Ev X ρ a (.int i)):Ev X ρ (.UnaryOp .USub a pos) (.int (-i)):=fun pins s σ H Q I ⟨G0,H0,G,E,k⟩=>
 pe_un un_neg ha pins s σ H Q I ⟨G0,H0,G,E,fun v G1 H1 e1 r1=>by
  cases r1
  exact⟨i,rfl,k _ G1 H1 e1 (.int _)⟩⟩
theorem strOk_one {c:Nat}(h:c<0x110000):PyData.strOk ⟨#[c]⟩=true:=by
 unfold PyData.strOk;simp;exact h
theorem idx_sound (hu:X.A.units+1<cLine)(h:idxD d1 d2=some d)(ha:Er X ρ a d1)(hb:Ev X ρ b d2)(hs:isSlice b=false):Ev X ρ (.Subscript a b pos) d:=by
 cases d1 with
 |list ds=>
  cases d2 with
  |int i=>
   refine ev_ix ix_list ha hb (fun u v G H Q s hx hy q=>?_) hs
   obtain⟨p,vs,rfl,h1,r⟩:=hx.lst s
   obtain⟨w,e,dw⟩:=r.atI h
   exact⟨p,vs,i,w,rfl,hy.int,SqL.of h1,e,q _ G H (.refl s) dw⟩
  |_=>cases h
 |tuple ds=>
  cases d2 with
  |int i=>
   refine ev_ix ix_tup ha hb (fun u v G H Q s hx hy q=>?_) hs
   obtain⟨p,vs,rfl,h1,r⟩:=hx.tup s
   obtain⟨w,e,dw⟩:=r.atI h
   exact⟨p,vs,i,w,rfl,hy.int,SqT.of h1,e,q _ G H (.refl s) dw⟩
  |_=>cases h
 |scr ns=>
  cases d2 with
  |int i=>
   refine ev_ix ix_list ha hb (fun u v G H Q s hx hy q=>?_) hs
   obtain⟨p,rfl,h1⟩:=hx.scr s
   obtain⟨n,e,rfl⟩:=mx0 h
   have e':L2.atI (ns.map V.int) i=some (.int n):=by
    rw[atI_eq] at e
    unfold L2.atI at e ⊢
    rw[lm0]
    cases q:L2.ixN ns.length i with
    |none=>rw[q] at e;cases e
    |some j=>
     rw[q] at e
     show (ns.map V.int)[j]?=_
     rw[List.getElem?_map,show ns[j]?=some n from e];rfl
   exact⟨p,_,i,_,rfl,hy.int,h1,e',q _ G H (.refl s) (.int n)⟩
  |_=>cases h
 |str x=>
  cases d2 with
  |int i=>
   rw[idx_str] at h
   split at h
   ·rename_i hz
    rw[big_eq] at hz
    obtain⟨k,e,rfl⟩:=mx0 h
    refine ev_ix ix_str ha hb (fun u v G H Q s hx hy q=>?_) hs
    obtain⟨rfl,o⟩:=hx.str
    refine⟨x,i,k,rfl,hy.int,hz,e,q _ G H (.refl s) (.str _ (strOk_one ?_))⟩
    obtain⟨j,_,e2,_⟩:=atI_get e
    exact strOk_iff.mp o k (List.mem_of_getElem? e2)
   ·cases h
  |_=>cases h
 |_=>cases h
noncomputable def tPt (K:Fg)(ρ:List Sl)(o:Option Int):TO:=fun σ H Q=>∃G0 H0 G,EnvD K G0 H0 G H σ ρ∧∀G' H',Ext G H G' H'→Q o H'
theorem po_none':PO X Option.none (tPt X.K ρ Option.none):=fun pins s σ H Q I ⟨G0,H0,G,E,k⟩=>po_none pins s σ H Q I (k G H (.refl E.sub))
theorem po_some' {i:Int}(h:Ev X ρ a (.int i)):PO X (some a) (tPt X.K ρ (some i)):=fun pins s σ H Q I ⟨G0,H0,G,E,k⟩=>
 po_some h pins s σ H Q I ⟨G0,H0,G,E,fun v G1 H1 e1 r1=>by
  cases r1
  exact⟨i,rfl,k G1 H1 e1⟩⟩
theorem sl_soundL {lo hi:Option Expr}{l h:Option Int}{ds:List D}{p2:Pos}(ha:Er X ρ a (.list ds))(hl:PO X lo (tPt X.K ρ l))(hh:PO X hi (tPt X.K ρ h)):En X ρ (.Subscript a (.Slice lo hi Option.none p2) pos) (.list (SI.cut ds l h)):=
 fun pins s σ H Q I ⟨G0,H0,G,E,k⟩=>pe_slice sl_list ha hl hh pins s σ H Q I ⟨G0,H0,G,E,fun v G1 H1 e1 r1=>⟨G0,H0,G1,E.step e1,fun G2 H2 e2=>⟨G0,H0,G2,(E.step e1).step e2,fun G3 H3 e3=>by
  obtain⟨p,vs,rfl,h1,r⟩:=((r1.ext e2).ext e3).lst e3.gh
  have e:=e1.trans (e2.trans e3)
  exact⟨p,vs,rfl,SqL.of h1,fun q hq=>k q G3 _ (e.trans (.hid e3.gh hq)) (e3.gh.free hq) (e.hh.free hq) (.inl ⟨_,_,rfl,upd_same,r.cut l h⟩)⟩⟩⟩⟩
theorem en_lst {es:List Expr}{ds:List D}(h:Ea X ρ [] es ds)(hz:ds.length≤1000):En X ρ (.List es pos) (.list ds):=fun pins s σ H Q I ⟨G0,H0,G,E,k⟩=>
 pe_lst h pins s σ H Q I ⟨G0,H0,G,E,fun vs G1 H1 e1 r=>⟨by rw[←r.length];exact Nat.le_of_lt (small1000 hz),fun p hp=>
  k p G1 _ (e1.trans (.hid e1.gh hp)) (e1.gh.free hp) (e1.hh.free hp) (.inl ⟨_,_,rfl,upd_same,r.dps⟩)⟩⟩
theorem ev_tup {es:List Expr}{ds:List D}{x1}(h:Ea X ρ [] es ds)(hz:ds.length≤1000):Ev X ρ (.Tuple es x1 pos) (.tuple ds):=fun pins s σ H Q I ⟨G0,H0,G,E,k⟩=>
 pe_tup h pins s σ H Q I ⟨G0,H0,G,E,fun vs G1 H1 e1 r=>⟨by rw[←r.length];exact Nat.le_of_lt (small1000 hz),fun p hp=>
  k _ _ _ (e1.trans (.laid e1.gh hp)) (.tuple upd_same (r.dps.mono (same_upd (e1.gh.free hp))))⟩⟩
theorem isEmpty_dps {K:Fg}{G:Hp}{ds:List D}{vs:List V}(r:Dps K G ds vs):(!ds.isEmpty)=!vs.isEmpty:=by cases r<;>rfl
theorem isEmpty_dks {K:Fg}{G:Hp}{ds:List (Key×D)}{vs:List (Key×V)}(r:Dks K G ds vs):(!ds.isEmpty)=!vs.isEmpty:=by cases r<;>rfl
theorem tru_of {K:Fg}{G H:Hp}{d:D}{v:V}{t:Bool}(s:Same G H)(h:Dr K G H d v)(ht:truD d=some t):TruV K v H t:=by
 cases d with
 |none=>rw[h.none];cases ht;rfl
 |bool b=>rw[h.bool];cases ht;rfl
 |int i=>rw[h.int];cases ht;rfl
 |str x=>
  rw[h.str.1]
  rw[truD_str] at ht
  split at ht
  ·rename_i c;cases ht;rw[big_eq] at c;exact⟨c,rfl⟩
  ·cases ht
 |tuple ds=>obtain⟨a,vs,rfl,h1,r⟩:=h.tup s;cases ht;exact .inr (.inl ⟨vs,SqT.of h1,isEmpty_dps r⟩)
 |list ds=>obtain⟨a,vs,rfl,h1,r⟩:=h.lst s;cases ht;exact .inl ⟨vs,SqL.of h1,isEmpty_dps r⟩
 |dict kvs=>obtain⟨a,vs,rfl,h1,r⟩:=h.dct s;cases ht;exact .inr (.inr ⟨vs,h1,isEmpty_dks r⟩)
 |scr ns=>obtain⟨a,rfl,h1⟩:=h.scr s;cases ht;exact .inl ⟨_,h1,by cases ns<;>rfl⟩
 |vlt=>cases ht
 |hdl=>cases ht
 |exc=>cases ht
theorem et_truth {t:Bool}(h:Er X ρ a d)(ht:truD d=some t)(he:∀whole,isTrue a X.env whole=(do let v ←whole;standAt a.pos;holding [v] (truthy v))):Et X ρ a t:=
 fun pins s σ H Q I ⟨G0,H0,G,E,k⟩=>pt_truth h he pins s σ H Q I ⟨G0,H0,G,E,fun v G1 H1 e1 r=>⟨t,tru_of e1.gh r ht,k G1 H1 e1⟩⟩
variable {t u:Bool}
theorem et_not (h:Et X ρ a t):Et X ρ (.UnaryOp .Not a pos) (!t):=fun pins s σ H Q I h0=>pt_not h pins s σ H Q I (let ⟨G0,H0,G,E,k⟩:=h0;⟨G0,H0,G,E,k⟩)
theorem ew_and1 (h:Et X ρ a t):Ew X ρ (.BoolOp .And [a] pos) t:=pw_and1 h
theorem ew_or1 (h:Et X ρ a t):Ew X ρ (.BoolOp .Or [a] pos) t:=pw_or1 h
theorem ew_andT {r:List Expr}(h:Et X ρ a true)(q:Ew X ρ (.BoolOp .And (b::r) pos) u):Ew X ρ (.BoolOp .And (a::b::r) pos) u:=by
 intro whole pins s σ H Q I h0
 obtain⟨G0,H0,G,E,k⟩:=h0
 exact pw_and h q whole pins s σ H Q I ⟨G0,H0,G,E,fun G1 H1 e1=>iteT ⟨G0,H0,G1,E.step e1,fun G2 H2 e2=>k G2 H2 (e1.trans e2)⟩⟩
theorem ew_andF {r:List Expr}(h:Et X ρ a false):Ew X ρ (.BoolOp .And (a::b::r) pos) false:=by
 intro whole pins s σ H Q I h0
 obtain⟨G0,H0,G,E,k⟩:=h0
 exact pw_and (tB':=fun _ _ _=>False) h (fun _ _ _ _ _ _ _ z=>z.elim) whole pins s σ H Q I ⟨G0,H0,G,E,fun G1 H1 e1=>iteF (k G1 H1 e1)⟩
theorem ew_orF {r:List Expr}(h:Et X ρ a false)(q:Ew X ρ (.BoolOp .Or (b::r) pos) u):Ew X ρ (.BoolOp .Or (a::b::r) pos) u:=by
 intro whole pins s σ H Q I h0
 obtain⟨G0,H0,G,E,k⟩:=h0
 exact pw_or h q whole pins s σ H Q I ⟨G0,H0,G,E,fun G1 H1 e1=>iteF ⟨G0,H0,G1,E.step e1,fun G2 H2 e2=>k G2 H2 (e1.trans e2)⟩⟩
theorem ew_orT {r:List Expr}(h:Et X ρ a true):Ew X ρ (.BoolOp .Or (a::b::r) pos) true:=by
 intro whole pins s σ H Q I h0
 obtain⟨G0,H0,G,E,k⟩:=h0
 exact pw_or (tB':=fun _ _ _=>False) h (fun _ _ _ _ _ _ _ z=>z.elim) whole pins s σ H Q I ⟨G0,H0,G,E,fun G1 H1 e1=>iteT (k G1 H1 e1)⟩
theorem ev_one {op}(h:Ev X ρ a d):Ev X ρ (.BoolOp op [a] pos) d:=pe_one h
theorem ev_andT {r:List Expr}(h:Ev X ρ a (.bool true))(q:Ev X ρ (.BoolOp .And (b::r) pos) d):Ev X ρ (.BoolOp .And (a::b::r) pos) d:=by
 intro pins s σ H Q I h0
 obtain⟨G0,H0,G,E,k⟩:=h0
 exact pe_and h q pins s σ H Q I ⟨G0,H0,G,E,fun v G1 H1 e1 r1=>by
  cases r1
  exact⟨true,rfl,iteT ⟨G0,H0,G1,E.step e1,fun v G2 H2 e2 r2=>k v G2 H2 (e1.trans e2) r2⟩⟩⟩
theorem ev_andF {r:List Expr}(h:Ev X ρ a (.bool false)):Ev X ρ (.BoolOp .And (a::b::r) pos) (.bool false):=by
 intro pins s σ H Q I h0
 obtain⟨G0,H0,G,E,k⟩:=h0
 exact pe_and (tb:=fun _ _ _=>False) h (fun _ _ _ _ _ _ z=>z.elim) pins s σ H Q I ⟨G0,H0,G,E,fun v G1 H1 e1 r1=>by
  cases r1
  exact⟨false,rfl,iteF (k _ G1 H1 e1 (.bool _))⟩⟩
theorem ev_orF {r:List Expr}(h:Ev X ρ a (.bool false))(q:Ev X ρ (.BoolOp .Or (b::r) pos) d):Ev X ρ (.BoolOp .Or (a::b::r) pos) d:=by
 intro pins s σ H Q I h0
 obtain⟨G0,H0,G,E,k⟩:=h0
 exact pe_or h q pins s σ H Q I ⟨G0,H0,G,E,fun v G1 H1 e1 r1=>by
  cases r1
  exact⟨false,rfl,iteF ⟨G0,H0,G1,E.step e1,fun v G2 H2 e2 r2=>k v G2 H2 (e1.trans e2) r2⟩⟩⟩
theorem ev_orT {r:List Expr}(h:Ev X ρ a (.bool true)):Ev X ρ (.BoolOp .Or (a::b::r) pos) (.bool true):=by
 intro pins s σ H Q I h0
 obtain⟨G0,H0,G,E,k⟩:=h0
 exact pe_or (tb:=fun _ _ _=>False) h (fun _ _ _ _ _ _ z=>z.elim) pins s σ H Q I ⟨G0,H0,G,E,fun v G1 H1 e1 r1=>by
  cases r1
  exact⟨true,rfl,iteT (k _ G1 H1 e1 (.bool _))⟩⟩
theorem ev_not (h:Ev X ρ a (.bool t)):Ev X ρ (.UnaryOp .Not a pos) (.bool (!t)):=fun pins s σ H Q I ⟨G0,H0,G,E,k⟩=>
 pe_not h pins s σ H Q I ⟨G0,H0,G,E,fun v G1 H1 e1 r1=>by
  cases r1
  exact⟨t,rfl,k _ G1 H1 e1 (.bool _)⟩⟩
theorem ev_ifT (h:Et X ρ c true)(ha:Ev X ρ a d):Ev X ρ (.IfExp c a b pos) d:=by
 intro pins s σ H Q I h0
 obtain⟨G0,H0,G,E,k⟩:=h0
 exact pe_ifExp (tb:=fun _ _ _=>False) h ha (fun _ _ _ _ _ _ z=>z.elim) pins s σ H Q I ⟨G0,H0,G,E,fun G1 H1 e1=>iteT ⟨G0,H0,G1,E.step e1,fun v G2 H2 e2 r=>k v G2 H2 (e1.trans e2) r⟩⟩
theorem ev_ifF (h:Et X ρ c false)(hb:Ev X ρ b d):Ev X ρ (.IfExp c a b pos) d:=by
 intro pins s σ H Q I h0
 obtain⟨G0,H0,G,E,k⟩:=h0
 exact pe_ifExp (ta:=fun _ _ _=>False) h (fun _ _ _ _ _ _ z=>z.elim) hb pins s σ H Q I ⟨G0,H0,G,E,fun G1 H1 e1=>iteF ⟨G0,H0,G1,E.step e1,fun v G2 H2 e2 r=>k v G2 H2 (e1.trans e2) r⟩⟩
end
section
variable {X:Cx}
theorem bools_of {vs:List V}{bs:List Bool}{us:List Value}(r:Vals vs us)(e:vs=bs.map V.bl):LSm.BoolsAre us bs:=by
 induction r generalizing bs with
 |nil=>
  cases bs with
  |nil=>exact .nil
  |cons b q=>cases e
 |cons r1 _ ih=>
  cases bs with
  |nil=>cases e
  |cons b q=>
   rw[List.map_cons] at e
   injection e with e1 e2
   subst e1
   cases r1
   exact .cons b (ih e2)
theorem call_all (hc:X.calm=true):CallR X (.builtin "all") (fun xs H Q=>∃(p:Addr) (bs:List Bool),xs=[.ref p]∧SqL X.K H p (bs.map V.bl)∧Q (.bl (bs.all id)) H):=by
 intro pins s σ H xs us Q I r h
 obtain⟨p,bs,rfl,hq,q⟩:=h
 obtain⟨u,rfl,rx⟩:=vals1 r
 cases rx
 obtain⟨its,r',pl,hz⟩:=I.list hq
 have hl:=pl.isList
 have hb:=bools_of r' rfl
 have hlt:p<s.heap.objs.size:=by obtain⟨_,e,_⟩:=hl;exact hs0 e
 refine call_all_walk (wpAny_pyIter_list hl ?_)
 refine⟨s.heap.objs.size,[s.heap.objs.size,p],[s.heap.objs.size],its.toArray.size,_,_,fun i=>(bs[i]?).getD true,rfl,Walks.list (A:=X.A.in1) (I.ok.hd hc) _ p (nn0 hlt) its.toArray,
  ⟨⟨_,pz0 _ rfl,rfl,rfl⟩,hl.push _⟩,fun i v s' Q' E' hP hQ=>?_,fun h' tk hk=>?_⟩
 ·obtain⟨b,e,rfl⟩:=hb.get i v (by simpa using hP)
  simp only[e,Option.getD_some] at hQ
  exact wpAny_truthy_bool hQ
 ·have e:((List.range its.toArray.size).all fun i=>(bs[i]?).getD true)=bs.all id:=by
   rw[ls0,hb.length];exact LSm.range_all bs
  rw[e]
  exact⟨.bl _,H,I.kept (LSm.kept_iter hk),rfl,q⟩
theorem call_tuple_of:CallR X (.type "tuple") (fun xs H Q=>∃p ys,xs=[.ref p]∧SqL X.K H p ys∧ys.length≤sizeLine∧∀l,H l=Option.none→Q (.ref l) (upd H l (.tup ys))):=by
 intro pins s σ H xs us Q I r h
 obtain⟨p,ys,rfl,hq,hz,q⟩:=h
 obtain⟨u,rfl,rx⟩:=vals1 r
 cases rx
 obtain⟨its,r',pl,_⟩:=I.list hq
 refine PySem.call_tuple_list pl.isList (fun h' kp=>?_) (by rw[ls0,←r'.length];exact hz)
 have I1:=I.kept (t':=s.toks) kp
 exact⟨.ref h'.objs.size,_,I1.laid (t':=s.toks) (fun b o e=>ps0 _ e) (nr0 _) (show ObjOk X.prog X.w _ _ _ (.tup ys) from⟨hz,its,r',IsTup.new _ _⟩),rfl,q _ (I1.hok.fresh (nr0 _))⟩
theorem boolsOf_dps {K:Fg}{G:Hp}:∀{ds:List D} {vs:List V} {bs:List Bool},boolsOf ds=some bs→Dps K G ds vs→vs=bs.map V.bl
 |[],_,_,h,.nil=>by cases h;rfl
 |.bool b::r,_,_,h,.cons d q=>by
  obtain⟨bs,e,rfl⟩:=mx0 (show (boolsOf r).map (b::·)=some _ from h)
  cases d
  rw[boolsOf_dps e q];rfl
end
end L2.Z
namespace PySem
section
variable {prog:Program}{w:World}{A:Around}{E:Value→Shared→Prop}{s:Shared}
end
section
variable {prog:Program}{w:World}{A:Around}{E:Value→Shared→Prop}{s:Shared}
theorem ne_cls2 {h:Heap}{a b:Addr}{o u:Obj}(ha:h.get? a=some o)(hb:h.get? b=some u)(hc:o.cls≠u.cls):a≠b:=fun e=>by subst e;rw[ha] at hb;cases hb;exact hc rfl
end
end PySem
namespace L2.Z
open PySem PySem.Spec PyProof.Rows L2 L2.C SI
section
variable {X:Cx}{pins:List (Addr×Obj)}{σ:St}{H:Hp}{s:Shared}
end
section
variable {K:Fg}{G:Hp}
end
section
variable {X:Cx}{ρ:List Sl}{a e:Expr}{te:TE}{lo hi:Option Expr}{tl th:TO}{pos p2:Pos}
theorem pe_sliceS (he:PE X e te)(hl:PO X lo tl)(hu:PO X hi th):PE X (.Subscript e (.Slice lo hi none p2) pos) (fun σ H Q=>te σ H fun x H1=>tl σ H1 fun l H2=>th σ H2 fun u H3=>∃t,x=.str t∧t.length≤sizeLine∧Q (.str (Txt.slice t l u)) H3):=by
 intro pins s σ H Q I h
 refine Subscript_ (thn (he pins s σ H _ I h) fun v s1 ⟨x,H1,I1,r1,q1⟩=>?_)
 refine wpAny_Slice (thn (hl pins s1 σ H1 _ I1 q1) fun vl s2 ⟨l,H2,I2,pl,q2⟩=>thn (hu pins s2 σ H2 _ I2 q2) fun vu s3 ⟨u,H3,I3,pu,q3⟩=>?_)
 rw[evalPart_none]
 refine wpAny_pure ?_
 obtain⟨t,rfl,hz,q⟩:=q3
 obtain⟨tk,rfl⟩:=r1
 have kp:KeptH (fun h=>∀b o,s3.heap.get? b=some o→h.get? b=some o):=fun h ob p b o e=>ps0 _ (p b o e)
 have k0:∀b o,s3.heap.get? b=some o→s3.heap.get? b=some o:=fun b o e=>e
 have fin:∀(h':Heap) (t':Tok) (k:Nat),(∀b o,s3.heap.get? b=some o→h'.get? b=some o)→EP X pins σ Q (.str (Txt.slice t l u) t') {s3 with heap:=h',toks:=k}:=fun h' t' k p=>⟨.str _,H3,I3.kept p,⟨t',rfl⟩,q⟩
 have hr:ItemOn (model X.prog X.w) X.A X.xe (.str t tk) (.ref s3.heap.objs.size) (EP X pins σ Q) {s3 with heap:=s3.heap.push {cls:=.type "slice",data:=.fields #[vl,vu,.none]}}:=by
  cases pl with
  |none=>cases pu with
   |none=>exact SBH.sliceItem_nn kp k0 fin hz
   |int j tj=>exact SBH.sliceItem_ns kp k0 fin hz
  |int i ti=>cases pu with
   |none=>exact SBH.sliceItem_sn kp k0 fin hz
   |int j tj=>exact SBH.sliceItem_ss kp k0 fin hz
 obtain⟨T,id,hT,ht,hg⟩:=hr
 show wpAny (model X.prog X.w) X.A (subscriptTail e (.Slice lo hi none p2) (.str t tk) (.ref s3.heap.objs.size)) (EP X pins σ Q) X.xe {s3 with heap:=s3.heap.push {cls:=.type "slice",data:=.fields #[vl,vu,.none]}}
 exact tail_any (ops:=[.ref s3.heap.objs.size,.str t tk]) ht hT hg (by with_unfolding_all rfl)
theorem strOk_slice {x:Str}{l u:Option Int}(h:PyData.strOk x=true):PyData.strOk (Txt.slice x l u)=true:=by
 unfold Txt.slice
 split
 ·exact h
 ·rw[strOk_iff] at h ⊢
  intro c hc
  have hc:c∈List.filterMap (fun x_1=>x.cps[x_1]?) (Builtin.Str.strSliceIndices l u 1 x.length):=by simpa using hc
  obtain⟨i,_,hi⟩:=List.mem_filterMap.mp hc
  refine h c ?_
  rw[←Array.getElem?_toList] at hi
  exact List.mem_of_getElem? hi
theorem sl_soundS {l h:Option Int}{x:Str}(ha:Er X ρ a (.str x))(hl:PO X lo (tPt X.K ρ l))(hh:PO X hi (tPt X.K ρ h))(hz:x.length≤big):Ev X ρ (.Subscript a (.Slice lo hi Option.none p2) pos) (.str (Txt.slice x l h)):=
 fun pins s σ H Q I ⟨G0,H0,G,E,k⟩=>pe_sliceS ha hl hh pins s σ H Q I ⟨G0,H0,G,E,fun v G1 H1 e1 r1=>⟨G0,H0,G1,E.step e1,fun G2 H2 e2=>⟨G0,H0,G2,(E.step e1).step e2,fun G3 H3 e3=>by
  obtain⟨rfl,ok⟩:=r1.str
  exact⟨x,rfl,by rw[big_eq] at hz;exact hz,k _ G3 H3 (e1.trans (e2.trans e3)) (.str _ (strOk_slice ok))⟩⟩⟩⟩
end
end L2.Z
namespace PySem
open PyProof.Rows
theorem perm_of_map {α β:Type}{f:α→β}:∀{l m:List β},l.Perm m→∀xs:List α,m=xs.map f→∃ys:List α,ys.Perm xs∧l=ys.map f:=by
 intro l m h
 induction h with
 |nil=>intro xs e;cases xs with|nil=>exact⟨[],.nil,rfl⟩|cons _ _=>cases e
 |cons a _ ih=>
  intro xs e
  cases xs with
  |nil=>cases e
  |cons x r=>
   rw[List.map_cons] at e
   injection e with e1 e2
   obtain⟨ys,p,rfl⟩:=ih r e2
   exact⟨x::ys,p.cons x,by rw[List.map_cons,e1]⟩
 |swap a b l=>
  intro xs e
  match xs,e with
  |[],e=>cases e
  |[_],e=>injection e with _ e;cases e
  |x::y::r,e=>
   injection e with e1 e
   injection e with e2 e3
   exact⟨y::x::r,.swap ..,by rw[List.map_cons,List.map_cons,e1,e2,e3]⟩
 |trans _ _ ih1 ih2=>
  intro xs e
  obtain⟨ys,p,e2⟩:=ih2 xs e
  obtain⟨zs,p2,e3⟩:=ih1 ys e2
  exact⟨zs,p2.trans p,e3⟩
theorem lay_led (t:SetTable)(es:Array (Int×Value))(h:Int)(x:Value):(layNew t es h x).2.1.led=t.led:=by
 unfold layNew
 split
 ·simp only[SetTable.orStandIn];split<;>rfl
 ·rfl
theorem lay_pl (t:SetTable)(es:Array (Int×Value))(h:Int)(x:Value)(p:t.plain=false):(layNew t es h x).2.1.plain=false:=by
 unfold layNew
 split
 ·simp only[SetTable.orStandIn];split
  ·exact p
  ·rfl
 ·rfl
theorem rel_keep (t:SetTable)(es:Array (Int×Value))(n:Nat):(relayAll t es n).2.1.led=t.led∧(t.plain=false→(relayAll t es n).2.1.plain=false):=by
 unfold relayAll
 split
 ·rename_i t' order e
  dsimp only
  split
  ·unfold SetTable.relaid SetTable.laid at e
   obtain⟨ow,_,e⟩:=bx0 e
   cases e
   exact⟨rfl,id⟩
  ·exact⟨rfl,fun _=>rfl⟩
 ·exact⟨rfl,fun _=>rfl⟩
noncomputable abbrev byTx (w:World):Bool:=w.params.followText "set-order"
noncomputable abbrev strE (w:World)(p:Str×Tok):Int×Value:=(hashStr w p.1,.str p.1 p.2)
noncomputable def StrSet (w:World)(h:Heap)(a:Addr)(xs:List (Str×Tok))(ep:Nat):Prop:=
 ∃o es t,h.get? a=some o∧o.ExactSet∧o.data=.set es ep t∧t.fits es.size=true∧es.toList=xs.map (strE w)∧t.led=!byTx w∧(xs≠[]→t.plain=false)
theorem StrSet.keep {w:World}{h h':Heap}{a:Addr}{xs:List (Str×Tok)}{ep:Nat}(x:StrSet w h a xs ep)(k:∀o,h.get? a=some o→h'.get? a=some o):StrSet w h' a xs ep:=
 let ⟨o,es,t,h1,r⟩:=x;⟨o,es,t,k o h1,r⟩
theorem StrSet.isA {w:World}{s:Shared}{a:Addr}{xs:List (Str×Tok)}{ep:Nat}(x:StrSet w s.heap a xs ep):s.TypeIs (.ref a) "set":=
 let ⟨o,_,_,h1,h2,_⟩:=x;⟨o,h1,h2.1⟩
section
variable {prog:Program}{w:World}{A:Around}{E:Value→Shared→Prop}{s:Shared}
theorem elems_str (xs:List (Str×Tok)):ElemsOf (strKind prog w) (xs.map (strE w)):=fun e he=>by
 obtain⟨p,_,rfl⟩:=List.mem_map.mp he
 exact⟨⟨p.1,by simp[strKind,Value.isStrOf],rfl⟩,rfl⟩
theorem find_str (xs:List (Str×Tok))(x:Str):((xs.map (strE w)).findIdx? fun e=>(strKind prog w).is x e.2).isSome=decide (x∈xs.map (·.1)):=by
 induction xs with
 |nil=>rfl
 |cons p r ih=>
  have e:((strKind prog w).is x (strE w p).2)=decide (x=p.1):=by
   show Value.isStrOf x (.str p.1 p.2)=_
   by_cases q:x=p.1
   ·subst q;simp[Value.isStrOf]
   ·have:(p.1==x)=false:=beq_eq_false_iff_ne.mpr fun z=>q z.symm
    simp[Value.isStrOf,q,this]
  rw[List.map_cons,List.findIdx?_cons,e]
  by_cases q:x=p.1
  ·simp[q]
  ·rw[decide_eq_false q]
   simp only[Bool.false_eq_true,if_false,Option.isSome_map,ih,List.map_cons,List.mem_cons,q,false_or]
theorem set_put {a:Addr}{o:Obj}{es es':Array (Int×Value)}{ep:Nat}{t t':SetTable}{h:Heap}(ho:h.get? a=some o)(hd:o.data=.set es ep t):
  (h.update a (Obj.putSet es' t')).get? a=some {o with data:=.set es' (ep+1) t'}:=by
 have:=Heap.get?_update_self (Obj.putSet es' t') ho (by rw[putSet_of es' t' hd];rfl)
 rwa [putSet_of es' t' hd] at this
theorem add_str {a:Addr}{xs:List (Str×Tok)}{ep:Nat}{x:Str}{tk:Tok}{Q:Bool→Shared→Prop}(hS:StrSet w s.heap a xs ep)(hr:xs.length+1<4096)
  (h:∀h' ys ep' b,Heap.SameBut a s.heap h'→StrSet w h' a ys ep'→ys.Perm (if x∈xs.map (·.1) then xs else xs++[(x,tk)])→Q b {s with heap:=h',toks:=s.toks+1}):
  wpAny (model prog w) A (setAdd a (.str x tk)) Q E s:=by
 obtain⟨o,es,t,ho,hex,hd,hf,he,hl,hp⟩:=hS
 have hsz:es.size=xs.length:=by rw[←Array.length_toList,he,lm0]
 have hb:es.size<scanBound:=by rw[hsz];unfold scanBound;omega
 have hel:ElemsOf (strKind prog w) es.toList:=by rw[he];exact elems_str xs
 have hk:(strKind prog w).is x (.str x tk)=true:=by simp[strKind,Value.isStrOf]
 have fnd:=find_str (prog:=prog) (w:=w) xs x
 unfold setAdd
 refine wpAny_holding (wpAny_bind ((strKind prog w).pyHash hk ?_))
 show wpAny (model prog w) A (setAddHashed a (.str x tk) ((strKind prog w).hash x)) Q E {s with toks:=s.toks+1}
 unfold setAddHashed setAddHashedIn
 refine wpAny_holding (wpAny_bind (wpAny_setState_of ho hd hf ?_))
 dsimp only
 rw[byScan_of (knd:=strKind prog w) (x:=.str x tk) rfl hb hel]
 simp only[if_true]
 unfold setAddByScan
 refine wpAny_bind (wpAny_bind (wpAny_rule (wpAny_bind (wpAny_setScan_of (knd:=strKind prog w) hk ho hd hf hel ?_))))
 rw[←he] at fnd
 cases q:List.findIdx? (fun e=>(strKind prog w).is x e.2) es.toList with
 |some j=>
  rw[q] at fnd
  dsimp only
  refine wpAny_pure (wpAny_pure (h s.heap xs ep false (Heap.SameBut.refl a _) ⟨o,es,t,ho,hex,hd,hf,he,hl,hp⟩ ?_))
  rw[if_pos (of_decide_eq_true fnd.symm)]
 |none=>
  rw[q] at fnd
  dsimp only
  have nin:x∉xs.map (·.1):=of_decide_eq_false fnd.symm
  rw[if_neg nin] at h
  have gw:∀(b:Bool) (s₁:Shared) (Q':Unit→Shared→Prop),Q' () s₁→wpAny (model prog w) A (match b with|true=>rule "set.scan.the-table-gave-way"|false=>pure ()) Q' E s₁:=
   fun b s₁ Q' z=>by cases b<;>first|exact wpAny_pure z|exact wpAny_rule z
  have p1:=layNew_perm t es ((strKind prog w).hash x) (.str x tk)
  have f1:=layNew_fits t es ((strKind prog w).hash x) (.str x tk)
  have l1:=lay_led t es ((strKind prog w).hash x) (.str x tk)
  have y1:=lay_pl t es ((strKind prog w).hash x) (.str x tk)
  generalize layNew t es ((strKind prog w).hash x) (.str x tk)=L at p1 f1 l1 y1 ⊢
  obtain⟨es1,t1,wd,gv⟩:=L
  dsimp only at p1 f1 l1 y1 ⊢
  have e0:(es.push ((strKind prog w).hash x,Value.str x tk)).toList=(xs++[(x,tk)]).map (strE w):=by
   rw[Array.toList_push,he,List.map_append];rfl
  obtain⟨ys,py,ey⟩:=perm_of_map p1 _ e0
  have hz1:es1.size=xs.length+1:=by rw[←Array.length_toList,ey,lm0,py.length_eq,List.length_append];rfl
  have hfit:es1.size≤sizeLine:=by rw[hz1,sizeLine_eq];omega
  refine wpAny_bind (gw _ _ _ ?_)
  have fin:∀t2:SetTable,t2.fits es1.size=true→t2.led=t.led→t2.plain=false→wpAny (model prog w) A (do
    storeSet a es1 t2
    if (!wd&&t2.tooFull)=true then do
     (match (relayAll t2 es1 (SetTable.grown es1.size)).2.2 with|true=>rule "set.scan.the-table-gave-way"|false=>pure ())
     storeSet a (relayAll t2 es1 (SetTable.grown es1.size)).1 (relayAll t2 es1 (SetTable.grown es1.size)).2.1
     pure (some true)
    else pure (some true)) (fun r s'=>r=some true∧Q true s') E {s with toks:=s.toks+1}:=by
   intro t2 g1 g2 g3
   refine wpAny_bind (wpAny_storeSet_of (prog:=prog) (w:=w) ho hd ?_ hfit)
   have ho1:=set_put (es':=es1) (t':=t2) ho hd
   have sb1:=Heap.SameBut.update s.heap a (Obj.putSet es1 t2)
   split
   ·have p2:=relayAll_perm t2 es1 (SetTable.grown es1.size)
    have f2:=relayAll_fits t2 es1 (SetTable.grown es1.size)
    have k2:=rel_keep t2 es1 (SetTable.grown es1.size)
    generalize relayAll t2 es1 (SetTable.grown es1.size)=L2 at p2 f2 k2 ⊢
    obtain⟨es2,t3,gv2⟩:=L2
    dsimp only at p2 f2 k2 ⊢
    obtain⟨zs,pz,ez⟩:=perm_of_map p2 _ ey
    refine wpAny_bind (gw _ _ _ (wpAny_bind (wpAny_storeSet_of (prog:=prog) (w:=w) ho1 rfl ?_ ?_)))
    ·refine wpAny_pure ⟨rfl,h _ zs _ true (sb1.trans (Heap.SameBut.update _ a _)) ⟨_,es2,t3,set_put ho1 rfl,hex,rfl,f2,ez,k2.1.trans (g2.trans hl),fun _=>k2.2 g3⟩ (pz.trans py)⟩
    ·rw[←Array.length_toList,ez,lm0,pz.length_eq,py.length_eq,List.length_append,sizeLine_eq];simp only[List.length_singleton];omega
   ·exact wpAny_pure ⟨rfl,h _ ys _ true sb1 ⟨_,es1,t2,ho1,hex,rfl,g1,ey,g2.trans hl,fun _=>g3⟩ py⟩
  split
  ·refine wpAny_bind ?_
   rw[hashByValue_scannable 8 (x:=.str x tk) rfl]
   refine wpAny_pure ?_
   refine wpAny_mono (fin {t1 with plain:=false} (SetTable.fits_plain_off f1) l1 rfl) (fun r s' z=>?_) fun _ _ z=>z
   obtain⟨rfl,z⟩:=z
   exact wpAny_pure z
  ·rename_i np
   refine wpAny_bind (wpAny_pure ?_)
   refine wpAny_mono (fin t1 f1 l1 (Bool.eq_false_iff.mpr np)) (fun r s' z=>?_) fun _ _ z=>z
   obtain⟨rfl,z⟩:=z
   exact wpAny_pure z
end
theorem get_top (h:Heap):h.get? h.objs.size=none:=by
 cases q:h.get? h.objs.size with
 |none=>rfl
 |some o=>exact absurd (hs0 q) (Nat.lt_irrefl _)
noncomputable abbrev setObj0 (w:World):Obj:={cls:=.type "set",dict:=none,data:=.set #[] 0 (.fresh 0 0 (!byTx w))}
section
variable {prog:Program}{w:World}{A:Around}{E:Value→Shared→Prop}{s:Shared}
theorem StrSet.cls {h:Heap}{a:Addr}{xs:List (Str×Tok)}{ep:Nat}(x:StrSet w h a xs ep):∃o,h.get? a=some o∧o.cls=.type "set":=
 let ⟨o,_,_,h1,h2,_⟩:=x;⟨o,h1,h2.1⟩
theorem nodup_add {xs ys:List (Str×Tok)}{x:Str}{tk:Tok}(n:(xs.map (·.1)).Nodup)(p:ys.Perm (if x∈xs.map (·.1) then xs else xs++[(x,tk)])):
  (ys.map (·.1)).Nodup∧(∀y,y∈ys.map (·.1)↔y∈xs.map (·.1)∨y=x)∧ys.length≤xs.length+1:=by
 have pm:=p.map (·.1)
 have pl:=p.length_eq
 by_cases q:x∈xs.map (·.1)
 ·rw[if_pos q] at pm pl
  exact⟨pm.nodup_iff.mpr n,fun y=>pm.mem_iff.trans ⟨.inl,fun z=>z.elim id fun e=>e▸q⟩,by omega⟩
 ·rw[if_neg q] at pm pl
  rw[List.map_append] at pm
  refine⟨pm.nodup_iff.mpr (List.nodup_append.mpr ⟨n,by simp,fun a ha b hb=>?_⟩),fun y=>pm.mem_iff.trans ?_,by rw[pl,List.length_append];exact nr0 _⟩
  ·have:b=x:=by simpa using hb
   subst this
   exact fun e=>q (e▸ha)
  ·rw[List.mem_append]
   exact or_congr Iff.rfl (by simp)
theorem set_loop {l it S:Addr}{items:Array Value}{ss:List Str}{R:Result→Shared→Prop}(hh:A.handled=none)(hz:items.size=ss.length)(hz2:items.size<4000)(hv:∀(j:Nat) (x:Str),ss[j]?=some x→∃tk,items[j]?=some (.str x tk)):
  ∀(m i:Nat) (xs:List (Str×Tok)) (ep:Nat) (s:Shared),i+m=ss.length→xs.length≤i→(xs.map (·.1)).Nodup→s.heap.IsListIter it l i→s.heap.IsList l items→StrSet w s.heap S xs ep→
   (∀h' tk ys ep',StrSet w h' S ys ep'→(ys.map (·.1)).Nodup→(∀y,y∈ys.map (·.1)↔y∈xs.map (·.1)∨y∈ss.drop i)→ys.length≤ss.length→(∀b o,b≠it→b≠S→s.heap.get? b=some o→h'.get? b=some o)→R (.ok (.ret .none)) {s with heap:=h',toks:=tk})→
   codeAny (model prog w) A (.builtin "set.update.loop" ⟨[.ref S,.ref it],[]⟩) R s:=by
 intro m
 induction m with
 |zero=>
  intro i xs ep s hm hx nd hi hl hS h
  obtain⟨oi,ei,ci,_⟩:=id hi
  obtain⟨oS,eS,cS⟩:=hS.cls
  have nSi:S≠it:=ne_cls2 eS ei (by rw[cS,ci];decide)
  refine codeAny_builtin PyProof.Rows.F.entry_set_update_loop ?_
  rw[Around.under_plainId PyProof.Rows.F.plain_set_update_loop]
  unfold Builtin.«set.update.loop»
  dsimp only
  refine wpAny_bind (wpAny_pyNext_list_end (show A.in1.handled=none from hh) hi hl (by rw[Array.getElem?_eq_none];omega) fun h' eb=>?_)
  refine wpAny_pure (h h' s.toks xs ep (hS.keep fun o e=>eb S o nSi e) nd (fun y=>?_) (by omega) fun b o n1 n2 e=>eb b o n1 e)
  rw[List.drop_eq_nil_of_le (by omega)]
  simp
 |succ m ih=>
  intro i xs ep s hm hx nd hi hl hS h
  obtain⟨oi,ei,ci,_⟩:=id hi
  obtain⟨oS,eS,cS⟩:=hS.cls
  obtain⟨ol,el,cl,_⟩:=id hl
  have nSi:S≠it:=ne_cls2 eS ei (by rw[cS,ci];decide)
  have nli:l≠it:=ne_cls2 el ei (by rw[cl,ci];decide)
  have nlS:l≠S:=ne_cls2 el eS (by rw[cl,cS];decide)
  have hlt:i<ss.length:=by omega
  obtain⟨tk,hu⟩:=hv i _ (ge0 hlt)
  refine codeAny_builtin PyProof.Rows.F.entry_set_update_loop ?_
  rw[Around.under_plainId PyProof.Rows.F.plain_set_update_loop]
  unfold Builtin.«set.update.loop»
  dsimp only
  refine wpAny_bind (wpAny_pyNext_list_item hi hl hu fun h1 hi' sb=>?_)
  have k1:∀{b:Addr},b≠it→∀o,s.heap.get? b=some o→h1.get? b=some o:=fun hb o e=>(sb.2 _ hb).trans e
  dsimp only
  refine wpAny_bind (wpAny_holding (add_str (hS.keep (k1 nSi)) (by omega) fun h2 ys ep2 b sb2 hS2 py=>?_))
  have k2:∀{b:Addr},b≠S→∀o,h1.get? b=some o→h2.get? b=some o:=fun hb o e=>(sb2.2 _ hb).trans e
  obtain⟨n2,m2,z2⟩:=nodup_add nd py
  refine wpAny_pure ⟨plainId_quiet PyProof.Rows.F.plain_set_update_loop _,?_⟩
  refine ih (i+1) ys ep2 {s with heap:=h2,toks:=s.toks+1} (by omega) (by omega) n2 (hi'.at (k2 nSi.symm)) ((hl.at (k1 nli)).at (k2 nlS)) hS2 fun h' tk' zs ep3 a1 a2 a3 a4 a5=>?_
  refine h h' tk' zs ep3 a1 a2 (fun y=>(a3 y).trans ?_) a4 fun b o n1 n2 e=>a5 b o n1 n2 (k2 n2 _ (k1 n1 _ e))
  rw[List.drop_eq_getElem_cons hlt,m2 y,List.mem_cons,or_assoc]
theorem set_new1 (v:Value){Q₁:Value→Shared→Prop}(h:Q₁ (.ref s.heap.objs.size) {s with heap:=s.heap.push (setObj0 w)}):
  codeAny (model prog w) A (.call (.builtin "set.__new__") ⟨[.type "set",v],[]⟩) (wants Q₁ E) s:=by
 refine codeAny_of_tree ?_
 show wpAny _ A.in1 (checkBuiltinCall "set.__new__" ⟨[.type "set",v],[]⟩ >>= fun _=>again (.builtin "set.__new__" ⟨[.type "set",v],[]⟩)) _ _ s
 refine wpAny_bind (wpAny_of_eq (F.newCall_set_1 v) (wpAny_pure ⟨plainId_quiet F.plain_set_new _,codeAny_builtin F.entry_set_new ?_⟩))
 rw[Around.under_plainId F.plain_set_new _]
 unfold Builtin.«set.__new__» Builtin.Frozenset.newClass
 have hs:=sub_set_self
 obtain⟨hp,g,d,tk,os⟩:=s
 dsimp only
 wp_walk
 refine wpAny_askSetting (wpAny_pure ?_)
 dsimp only
 simp only[newObj]
 refine wpAny_bind (wpAny_alloc (wpAny_pure (wpAny_pure ?_)))
 exact h
theorem set_init {l S:Addr}{items:Array Value}{ss:List Str}{R:Result→Shared→Prop}(hh:A.handled=none)(hS:s.heap.get? S=some (setObj0 w))(hl:s.heap.IsList l items)(hz:items.size=ss.length)(hz2:items.size<4000)(hv:∀(j:Nat) (x:Str),ss[j]?=some x→∃tk,items[j]?=some (.str x tk))
  (h:∀h' tk ys ep,StrSet w h' S ys ep→(ys.map (·.1)).Nodup→(∀y,y∈ys.map (·.1)↔y∈ss)→ys.length≤ss.length→(∀b o,b≠S→s.heap.get? b=some o→h'.get? b=some o)→R (.ok (.ret .none)) {s with heap:=h',toks:=tk}):
  codeAny (model prog w) A (.call (.builtin "set.__init__") ⟨[.ref S,.ref l],[]⟩) R s:=by
 have hT:s.TypeIs (.ref S) "set":=⟨_,hS,rfl⟩
 refine codeAny_call_builtin F.called_set.init.plain F.entry_set_init (check_set_init_1 hT ?_)
 obtain⟨ol,hol,hcl,nl,hdl⟩:=id hl
 obtain⟨oc,od,odt,osl⟩:=ol
 simp only at hcl hdl
 subst hcl;subst hdl
 have q1:=F.sub_list_set
 have q2:=F.sub_list_frozenset
 have q3:(Value.type "list"==Value.type "dict")=false:=by decide
 unfold Builtin.«set.__init__» noKeywords Builtin.Frozenset.updateFrom
 generalize hPI:pyIter=PI
 wp_walk
 subst hPI
 refine wpAny_pyIter_list hl (wpAny_bind (wpAny_runValue ?_))
 have lt1:l<s.heap.objs.size:=hs0 hol
 have lt2:S<s.heap.objs.size:=hs0 hS
 have hS':=ps0 {cls:=.type "list_iterator",data:=.fields #[.ref l,.int 0 0]} hS
 have S0:StrSet w (s.heap.push {cls:=.type "list_iterator",data:=.fields #[.ref l,.int 0 0]}) S [] 0:=⟨setObj0 w,#[],.fresh 0 0 (!byTx w),hS',⟨rfl,rfl,rfl⟩,rfl,rfl,rfl,rfl,fun z=>absurd rfl z⟩
 refine set_loop (prog:=prog) (w:=w) (items:=items) (ss:=ss) (by exact hh) hz hz2 hv ss.length 0 [] 0 {s with heap:=s.heap.push {cls:=.type "list_iterator",data:=.fields #[.ref l,.int 0 0]}} (by omega) (nr0 _) List.nodup_nil ⟨_,pz0 _ rfl,rfl,rfl⟩ (hl.push _) S0 fun h' tk ys ep a1 a2 a3 a4 a5=>?_
 refine wpAny_pure ?_
 refine wpAny_pure (h h' tk ys ep a1 a2 (fun y=>(a3 y).trans (by simp)) a4 fun b o nb e=>a5 b o (nn0 (hs0 e)) nb (ps0 _ e))
set_option maxHeartbeats 3200000 in
theorem call_set_strs {l:Addr}{items:Array Value}{ss:List Str}{Q:Value→Shared→Prop}(hh:A.handled=none)(hl:s.heap.IsList l items)(hz:items.size=ss.length)(hz2:items.size<4000)(hv:∀(j:Nat) (x:Str),ss[j]?=some x→∃tk,items[j]?=some (.str x tk))
  (h:∀h' tk S ys ep,s.heap.objs.size≤S→StrSet w h' S ys ep→(ys.map (·.1)).Nodup→(∀y,y∈ys.map (·.1)↔y∈ss)→ys.length≤ss.length→(∀b o,s.heap.get? b=some o→h'.get? b=some o)→Q (.ref S) {s with heap:=h',toks:=tk}):
  wpAny (model prog w) A (call (.type "set") [.ref l]) Q E s:=by
 obtain⟨c,tl,hm⟩:=F.called_set.mro
 have hmade:=F.called_set.made
 have hsub:=F.called_set.sub
 refine wpAny_call (codeAny_of_tree ?_)
 show wpAny _ _ (callAny (.type "set") ⟨[.ref l],[]⟩) _ _ _
 refine wpAny_pure ⟨Code.quiet_builtin _ (by decide +kernel),codeAny_builtin F.entry_type_call ?_⟩
 rw[Around.under_plain (weight_type_call_type "set" [.ref l] []) rfl]
 have h1:=F.called_set.notType
 have h2:=F.called_set.canCreate
 have h3:=F.typeCall_set_1 (.ref l)
 repeat (any_goals (first|assumption|wp_step))
 refine codeAny_mono (set_new1 (w:=w) (.ref l) (E:=E) (Q₁:=fun v s₁=>v=.ref s.heap.objs.size∧s₁={s with heap:=s.heap.push (setObj0 w)}) ⟨rfl,rfl⟩) fun r s₁ hr=>?_
 cases r with
 |error e=>exact hr
 |ok fl=>
  cases fl with
  |ret v=>
   obtain⟨rfl,rfl⟩:=hr
   have g0:(s.heap.push (setObj0 w)).get? s.heap.objs.size=some (setObj0 w):=pz0 _ rfl
   have hT:Shared.TypeIs {s with heap:=s.heap.push (setObj0 w)} (.ref s.heap.objs.size) "set":=⟨_,g0,rfl⟩
   have hli:=F.called_set.init.lookup
   have hbi:=F.called_set.init.bind (.ref s.heap.objs.size)
   repeat (any_goals (first|assumption|wp_step))
   refine codeAny_mono (set_init (s:={s with heap:=s.heap.push (setObj0 w)}) (R:=wants (fun r s₂=>r=.none∧∃h' tk ys ep,s₂={s with heap:=h',toks:=tk}∧StrSet w h' s.heap.objs.size ys ep∧(ys.map (·.1)).Nodup∧(∀y,y∈ys.map (·.1)↔y∈ss)∧ys.length≤ss.length∧(∀b o,s.heap.get? b=some o→h'.get? b=some o)) E) hh g0 (hl.push _) hz hz2 hv fun h' tk ys ep a1 a2 a3 a4 a5=>⟨rfl,h',tk,ys,ep,rfl,a1,a2,a3,a4,fun b o e=>a5 b o (nn0 (hs0 e)) (ps0 _ e)⟩) fun r₂ s₂ hr₂=>?_
   cases r₂ with
   |error e=>exact hr₂
   |ok f₂=>
    cases f₂ with
    |ret r=>
     obtain⟨rfl,h',tk,ys,ep,rfl,a1,a2,a3,a4,a5⟩:=hr₂
     repeat (any_goals (first|assumption|wp_step))
     exact h h' tk _ ys ep (nr0 _) a1 a2 a3 a4 a5
    |_=>exact hr₂.elim
  |_=>exact hr.elim
end
theorem slot_sit_next:Slot "set_iterator" "__next__" "set_iterator.__next__":=
 .of (owner:="set_iterator") (n:="__next__") (by rw[typeLookup_type];rw[builtinLookup_eq_fast];kernel_rfl) (by decide +kernel) (by decide +kernel) (by decide +kernel) (by first|exact .inl (by decide +kernel)|exact .inr (by decide +kernel)) (by rw[isSubtype_type];kernel_rfl)
theorem slot_sit_iter:Slot "set_iterator" "__iter__" "set_iterator.__iter__":=
 .of (owner:="set_iterator") (n:="__iter__") (by rw[typeLookup_type];rw[builtinLookup_eq_fast];kernel_rfl) (by decide +kernel) (by decide +kernel) (by decide +kernel) (by first|exact .inl (by decide +kernel)|exact .inr (by decide +kernel)) (by rw[isSubtype_type];kernel_rfl)
theorem entry_sit_next:entryFor table "set_iterator.__next__"=some Builtin.«set_iterator.__next__»:=entryFor_of_fast (by kernel_rfl)
theorem entry_set_iter:entryFor table "set.__iter__"=some Builtin.«frozenset.__iter__»:=by refine entryFor_alias (id':="frozenset.__iter__") ?_ rfl ?_ ?_<;>first|kernel_rfl|decide +kernel
theorem args_sit_next (a:Value):argsOk "set_iterator.__next__" ⟨[a],[]⟩:=by unfold argsOk;kernel_rfl
theorem er_perm {α:Type}{l:List α}{i:Nat}(h:i<l.length):(l[i]::l.eraseIdx i).Perm l:=by
 rw[List.eraseIdx_eq_take_drop_succ]
 refine (List.perm_middle.symm).trans (List.Perm.of_eq ?_)
 rw[List.getElem_cons_drop,List.take_append_drop]
theorem pick_go {α:Type}(f:Nat→Nat):∀(n k:Nat) (l:List α) (o:Array α),n=l.length→(pickOrder.go f n k l o).toList.Perm (o.toList++l)
 |0,k,l,o,e=>by
  have:l=[]:=List.eq_nil_of_length_eq_zero e.symm
  subst this
  show o.toList.Perm _
  rw[List.append_nil]
 |n+1,k,l,o,e=>by
  have hl:0<l.length:=by omega
  have lt:=Nat.mod_lt (f k) hl
  show ((match l[f k % l.length]? with|some x=>pickOrder.go f n (k+1) (l.eraseIdx (f k % l.length)) (o.push x)|none=>o):Array α).toList.Perm _
  rw[ge0 lt]
  dsimp only
  refine (pick_go f n (k+1) _ _ (by rw[List.length_eraseIdx_of_lt lt];omega)).trans ?_
  rw[Array.toList_push,List.append_assoc]
  exact (List.Perm.refl _).append (er_perm lt)
theorem pick_perm {α:Type}(f:Nat→Nat)(xs:Array α):(pickOrder f xs).toList.Perm xs.toList:=by
 have:=pick_go f xs.size 0 xs.toList #[] (by simp)
 simpa [pickOrder] using this
section
variable {prog:Program}{w:World}{A:Around}{E:Value→Shared→Prop}{s:Shared}
theorem draw_any {n:Nat}{Q:Nat→Shared→Prop}(hn:n≠0)(h:∀i d,i<n→Q i {s with drawn:=d}):wpAny (model prog w) A (choose .order n) Q E s:=fun Γ p _=>by
 show n≠0∧_
 exact⟨hn,h _ _ (Nat.mod_lt _ (Nat.pos_of_ne_zero hn))⟩
theorem draw_perm {α:Type}(n:Nat):∀(xs:List α) (s:Shared) (Q:List α→Shared→Prop),n=xs.length→(∀ys d,ys.Perm xs→Q ys {s with drawn:=d})→wpAny (model prog w) A (drawOrder n xs) Q E s:=by
 induction n with
 |zero=>
  intro xs s Q e h
  cases xs with
  |nil=>exact wpAny_pure (h [] s.drawn (.refl _))
  |cons x r=>cases e
 |succ n ih=>
  intro xs s Q e h
  cases xs with
  |nil=>cases e
  |cons x r=>
   unfold drawOrder
   refine wpAny_bind (draw_any (by simp) fun i d hi=>?_)
   rw[ge0 hi]
   dsimp only
   refine wpAny_bind (ih _ _ _ (by rw[List.length_eraseIdx_of_lt hi];simp at e ⊢;omega) fun ys d' p=>wpAny_pure (h _ d' ?_))
   exact (p.cons _).trans (er_perm hi)
theorem asks {Q:Bool→Shared→Prop}(h:Q (byTx w) s):wpAny (model prog w) A setsByText Q E s:=by
 unfold setsByText
 exact wpAny_bind (wpAny_askSetting (wpAny_pure h))
theorem next_told {S:Addr}{o:Obj}{es:Array (Int×Value)}{t:SetTable}{ep sl i:Nat}{Q:Option (Value×Nat)→Shared→Prop}(ho:s.heap.get? S=some o)(hd:o.data=.set es ep t)(hf:t.fits es.size=true)(hb:byTx w=true)
  (h:Q (((pickOrder (w.params.setOrder S ep) es)[i]?).map fun e=>(e.2,sl)) s):wpAny (model prog w) A (setNext S sl i ep) Q E s:=by
 unfold setNext
 refine wpAny_bind (wpAny_setState_of ho hd hf (wpAny_bind (asks ?_)))
 dsimp only
 rw[hb]
 simp only[if_true,bne_self_eq_false,Bool.false_eq_true,if_false]
 refine wpAny_bind ?_
 unfold setWalk
 refine wpAny_bind (wpAny_setState_of ho hd hf (wpAny_bind (asks ?_)))
 rw[hb]
 simp only[if_true]
 exact wpAny_bind (wpAny_askSetting (wpAny_pure (wpAny_pure h)))
theorem next_one {S:Addr}{o:Obj}{es:Array (Int×Value)}{t:SetTable}{ep sl i:Nat}{Q:Option (Value×Nat)→Shared→Prop}(ho:s.heap.get? S=some o)(hd:o.data=.set es ep t)(hf:t.fits es.size=true)(hb:byTx w=false)(hl:t.led=true)(h1:es.size≤1)
  (h:Q (match es[SetTable.below t.place sl]?,t.place[SetTable.below t.place sl]? with|some (_,x),some j=>some (x,j+1)|_,_=>none) s):wpAny (model prog w) A (setNext S sl i ep) Q E s:=by
 unfold setNext
 refine wpAny_bind (wpAny_setState_of ho hd hf (wpAny_bind (asks ?_)))
 dsimp only
 rw[hb]
 simp only[Bool.false_eq_true,if_false]
 have e1:(!t.plain&&decide (es.size>1))=false:=by rw[decide_eq_false (by omega),Bool.and_false]
 have e2:(!t.led&&!es.isEmpty)=false:=by rw[hl];rfl
 show wpAny (model prog w) A (if (!t.plain&&decide (es.size>1))=true then _ else _) Q E s
 rw[if_neg (by rw[e1];exact fx0)]
 show wpAny (model prog w) A ((if (!t.led&&!es.isEmpty)=true then _ else _) >>= _) Q E s
 rw[if_neg (by rw[e2];exact fx0)]
 exact wpAny_bind (wpAny_pure (wpAny_pure h))
end
noncomputable def SetIt (h:Heap)(I S:Addr)(f0:Value)(i n ep:Nat):Prop:=∃o,h.get? I=some o∧o.cls=.type "set_iterator"∧o.data=.fields #[f0,.int i 0,.ref S,.int n 0,.int ep 0]
theorem SetIt.is {s:Shared}{I S:Addr}{f0:Value}{i n ep:Nat}(x:SetIt s.heap I S f0 i n ep):s.TypeIs (.ref I) "set_iterator":=let ⟨o,a,b,_⟩:=x;⟨o,a,b⟩
theorem SetIt.keep {h h':Heap}{I S:Addr}{f0:Value}{i n ep:Nat}(x:SetIt h I S f0 i n ep)(k:∀o,h.get? I=some o→h'.get? I=some o):SetIt h' I S f0 i n ep:=let ⟨o,a,b⟩:=x;⟨o,k o a,b⟩
theorem SetIt.upd {h:Heap}{I S:Addr}{f0:Value}{i n ep:Nat}(x:SetIt h I S f0 i n ep)(k:Nat)(v:Value):
  ∃o,(h.update I (Obj.mapFields (·.setIfInBounds k v))).get? I=some o∧o.cls=.type "set_iterator"∧o.data=.fields ((#[f0,.int i 0,.ref S,.int n 0,.int ep 0]:Array Value).setIfInBounds k v):=by
 obtain⟨o,ho,hc,hd⟩:=x
 exact⟨_,Heap.get?_update_self _ ho (Obj.isFreed_of_fields (Obj.data_mapFields hd _)),(Obj.cls_mapFields ..).trans hc,Obj.data_mapFields hd _⟩
section
variable {prog:Program}{w:World}{A:Around}{E:Value→Shared→Prop}{s:Shared}{I S T:Addr}{xs:List (Str×Tok)}{sl i n ep:Nat}{x f0:Value}{nx:Nat}{Q:Option Value→Shared→Prop}
theorem sit_open {P:Fin→Shared→Prop}(hit:SetIt s.heap I S f0 i n ep)(hS:StrSet w s.heap S xs ep)(hn:n=xs.length)
  (h:wpAny (model prog w) A (if let .int slot _:=f0 then do
    match ←setNext S slot.toNat (i:Int).toNat (ep:Int).toNat with
    |some (x,next)=>
     setField (.ref I) 0 (rawInt next)
     setField (.ref I) 1 (rawInt ((i:Int)+1))
     ret x
    |none=>setField (.ref I) 2 .none;raiseNew (←newExc (.type "StopIteration") [])
   else do
    let some places ←seqItems? f0|unsupported "internal:set_iterator"
    match places[(i:Int).toNat]? with
    |some (.int place _)=>
     let x ←setNextDrawn S place.toNat (ep:Int).toNat
     setField (.ref I) 1 (rawInt ((i:Int)+1))
     ret x
    |some _=>unsupported "internal:set_iterator"
    |none=>setField (.ref I) 0 (rawInt 0);setField (.ref I) 2 .none;raiseNew (←newExc (.type "StopIteration") [])) P E s):
  wpAny (model prog w) A (Builtin.«set_iterator.__next__» ⟨[.ref I],[]⟩) P E s:=by
 obtain⟨o,ho,hc,hd⟩:=hit
 obtain⟨oS,es,t,eS,_,dS,fS,le,_⟩:=hS
 have hz:es.size=n:=by rw[hn,←Array.length_toList,le,lm0]
 unfold Builtin.«set_iterator.__next__»
 refine wpAny_bind (m:=slotArgs "__next__" 0 _) (wpAny_pure ?_)
 refine wpAny_bind (wpAny_fieldsOf ho hd ?_)
 show wpAny _ _ (setEntries S >>= _) _ _ _
 unfold setEntries
 refine wpAny_bind (wpAny_bind (wpAny_setState_of eS dS fS (wpAny_pure ?_)))
 dsimp only
 rw[if_neg (by rw[hz];simp)]
 exact h
theorem sit_item (hit:SetIt s.heap I S (.int sl 0) i n ep)(hS:StrSet w s.heap S xs ep)(hn:n=xs.length)(hx:∀(A:Around) (E:Value→Shared→Prop) (Q:Option (Value×Nat)→Shared→Prop),Q (some (x,nx)) s→wpAny (model prog w) A (setNext S sl i ep) Q E s)
  (hQ:∀h',SetIt h' I S (.int nx 0) (i+1) n ep→Heap.SameBut I s.heap h'→Q (some x) {s with heap:=h'}):wpAny (model prog w) A (pyNext (.ref I)) Q E s:=by
 unfold pyNext
 refine wpAny_bind (wpAny_attempt (wpAny_callSpecial?_slot (name:=Str.ofString "__next__") hit.is slot_sit_next (wpAny_call_entry slot_sit_next hit.is entry_sit_next (sit_open hit hS hn ?_) (args_sit_next _))))
 dsimp only
 simp only[Int.toNat_natCast]
 refine wpAny_bind (hx _ _ _ ?_)
 dsimp only
 obtain⟨o,ho,hc,hd⟩:=id hit
 obtain⟨o1,e1,c1,d1⟩:=hit.upd 0 (rawInt nx)
 refine wpAny_bind (wpAny_setField ho hd (by simp) (wpAny_bind (wpAny_setField e1 d1 (by simp) (wpAny_pure ⟨x,rfl,wpAny_pure (hQ _ ⟨_,Heap.get?_update_self _ e1 (Obj.isFreed_of_fields (Obj.data_mapFields d1 _)),(Obj.cls_mapFields ..).trans c1,?_⟩ ((Heap.SameBut.update ..).trans (Heap.SameBut.update ..)))⟩))))
 rw[Obj.data_mapFields d1]
 simp[rawInt]
theorem sit_stop {P:Fin→Shared→Prop}{E':Value→Shared→Prop}{o:Obj}{vs:Array Value}(hh:A.handled=none)(ho:s.heap.get? I=some o)(hd:o.data=.fields vs)(hz:2<vs.size)(hE:∀e h',Shared.TypeIs {s with heap:=h'} e "StopIteration"→Heap.ExtBut I s.heap h'→E' e {s with heap:=h'}):
  wpAny (model prog w) A (do setField (.ref I) 2 .none;raiseNew (←newExc (.type "StopIteration") [])) P E' s:=by
 refine wpAny_bind (wpAny_setField ho hd hz (wpAny_bind ?_))
 simp only[newExc,newTuple]
 refine wpAny_bind (wpAny_newObj_type ?_ (by size_fits))
 refine wpAny_bind (m:=firstArgMember _ _) (wpAny_of_eq (a:=Value.none) (by first|rfl|(simp only[firstArgMember];rfl)) (wpAny_newObj_type ?_ (by size_fits)))
 simp only[raiseNew]
 refine wpAny_bind (wpAny_handled ?_)
 rw[hh]
 refine wpAny_bind (wpAny_pure (wpAny_throw ?_))
 refine hE _ _ ?_ (((Heap.SameBut.update ..).extBut.push _).push _)
 exact⟨_,pz0 _ rfl,rfl⟩
theorem sit_end (hh:A.handled=none)(hit:SetIt s.heap I S (.int sl 0) i n ep)(hS:StrSet w s.heap S xs ep)(hn:n=xs.length)(hx:∀(A:Around) (E:Value→Shared→Prop) (Q:Option (Value×Nat)→Shared→Prop),Q none s→wpAny (model prog w) A (setNext S sl i ep) Q E s)
  (hQ:∀h',Heap.ExtBut I s.heap h'→Q none {s with heap:=h'}):wpAny (model prog w) A (pyNext (.ref I)) Q E s:=by
 unfold pyNext
 refine wpAny_bind (wpAny_attempt (wpAny_callSpecial?_slot (name:=Str.ofString "__next__") hit.is slot_sit_next (wpAny_call_entry slot_sit_next hit.is entry_sit_next (sit_open hit hS hn ?_) (args_sit_next _))))
 dsimp only
 simp only[Int.toNat_natCast]
 refine wpAny_bind (hx _ _ _ ?_)
 obtain⟨o,ho,hc,hd⟩:=id hit
 refine sit_stop (show A.in1.handled=none from hh) ho hd (by simp) fun e h' ht eb=>?_
 exact wpAny_bind (wpAny_isInstance (T:="StopIteration") (b:=true) ht isSubtype_stop (wpAny_pure (hQ _ eb)))
theorem sit_itemD {ps:List Nat}{p:Nat}{oT:Obj}{m:Nat}{y:Str×Tok}(hit:SetIt s.heap I S (.ref T) i n ep)(hS:StrSet w s.heap S xs ep)(hn:n=xs.length)(hT:s.heap.get? T=some oT)(dT:oT.data=.seq (ps.map fun (k:Nat)=>rawInt (k:Int)).toArray m)(hp:ps[i]?=some p)(hy:xs[p]?=some y)
  (hQ:∀h',SetIt h' I S (.ref T) (i+1) n ep→Heap.SameBut I s.heap h'→Q (some (.str y.1 y.2)) {s with heap:=h'}):wpAny (model prog w) A (pyNext (.ref I)) Q E s:=by
 unfold pyNext
 refine wpAny_bind (wpAny_attempt (wpAny_callSpecial?_slot (name:=Str.ofString "__next__") hit.is slot_sit_next (wpAny_call_entry slot_sit_next hit.is entry_sit_next (sit_open hit hS hn ?_) (args_sit_next _))))
 dsimp only
 simp only[Int.toNat_natCast]
 unfold seqItems?
 refine wpAny_bind (wpAny_bind (wpAny_load hT ?_))
 rw[dT]
 refine wpAny_pure ?_
 dsimp only
 have e:(ps.map fun (k:Nat)=>rawInt (k:Int)).toArray[i]?=some (rawInt (p:Int)):=by simp[hp]
 rw[e]
 obtain⟨oS,es,t,eS,_,dS,fS,le,_⟩:=id hS
 show wpAny _ _ (setNextDrawn S (p:Int).toNat ep >>= _) _ _ _
 unfold setNextDrawn
 refine wpAny_bind (wpAny_bind (wpAny_setState_of eS dS fS ?_))
 dsimp only
 simp only[bne_self_eq_false,Bool.false_eq_true,if_false,Int.toNat_natCast]
 have ee:es[p]?=some (strE w y):=by rw[←Array.getElem?_toList,le,List.getElem?_map,hy];rfl
 rw[ee]
 refine wpAny_pure ?_
 obtain⟨o,ho,hc,hd⟩:=id hit
 obtain⟨o1,e1,c1,d1⟩:=hit.upd 1 (rawInt ((i:Int)+1))
 refine wpAny_bind (wpAny_setField ho hd (by simp) (wpAny_pure ⟨_,rfl,wpAny_pure (hQ _ ⟨o1,e1,c1,?_⟩ (Heap.SameBut.update ..))⟩))
 rw[d1]
 simp[rawInt]
theorem sit_endD {ps:List Nat}{oT:Obj}{m:Nat}(hh:A.handled=none)(hit:SetIt s.heap I S (.ref T) i n ep)(hS:StrSet w s.heap S xs ep)(hn:n=xs.length)(hT:s.heap.get? T=some oT)(dT:oT.data=.seq (ps.map fun (k:Nat)=>rawInt (k:Int)).toArray m)(hp:ps[i]?=none)
  (hQ:∀h',Heap.ExtBut I s.heap h'→Q none {s with heap:=h'}):wpAny (model prog w) A (pyNext (.ref I)) Q E s:=by
 unfold pyNext
 refine wpAny_bind (wpAny_attempt (wpAny_callSpecial?_slot (name:=Str.ofString "__next__") hit.is slot_sit_next (wpAny_call_entry slot_sit_next hit.is entry_sit_next (sit_open hit hS hn ?_) (args_sit_next _))))
 dsimp only
 simp only[Int.toNat_natCast]
 unfold seqItems?
 refine wpAny_bind (wpAny_bind (wpAny_load hT ?_))
 rw[dT]
 refine wpAny_pure ?_
 dsimp only
 have e:(ps.map fun (k:Nat)=>rawInt (k:Int)).toArray[i]?=none:=by simpa using hp
 rw[e]
 obtain⟨o,ho,hc,hd⟩:=id hit
 obtain⟨o1,e1,c1,d1⟩:=hit.upd 0 (rawInt 0)
 refine wpAny_bind (wpAny_setField ho hd (by simp) ?_)
 refine sit_stop (s:={s with heap:=s.heap.update I (Obj.mapFields (·.setIfInBounds 0 (rawInt 0)))}) (show A.in1.handled=none from hh) e1 d1 (by simp) fun e h' ht eb=>?_
 exact wpAny_bind (wpAny_isInstance (T:="StopIteration") (b:=true) ht isSubtype_stop (wpAny_pure (hQ _ ((Heap.SameBut.update ..).extBut.trans eb))))
end
theorem below_one (j sl:Nat):SetTable.below #[j] sl=if j<sl then 1 else 0:=by
 simp[SetTable.below,SetTable.below.go]
theorem entry_sit_iter:entryFor table "set_iterator.__iter__"=some Builtin.«dict_keyiterator.__iter__»:=by
 refine entryFor_alias (id':="dict_keyiterator.__iter__") ?_ rfl ?_ ?_<;>first|kernel_rfl|decide +kernel
theorem args_sit_iter (a:Value):argsOk "set_iterator.__iter__" ⟨[a],[]⟩:=by unfold argsOk;kernel_rfl
theorem es_of {w:World}{es:Array (Int×Value)}{xs:List (Str×Tok)}(h:es.toList=xs.map (strE w)):es=(xs.map (strE w)).toArray:=by
 rw[←h]
theorem mapD_range {α:Type}[Inhabited α](xs:List α):(List.range xs.length).map (fun k=>xs.getD k default)=xs:=by
 apply List.ext_getElem
 ·simp
 ·intro i h1 h2
  simp[h2]
section
variable {prog:Program}{w:World}{A:Around}{E:Value→Shared→Prop}{s:Shared}{I S T:Addr}{xs:List (Str×Tok)}{n ep:Nat}
noncomputable abbrev eqG:Array GenState→Array GenState→Prop:=fun a b=>b=a
noncomputable abbrev PStr (order:List (Str×Tok))(i:Nat)(v:Value):Prop:=∃p,order[i]?=some p∧v=.str p.1 p.2
theorem sit_self {f0:Value}{i:Nat}(hit:SetIt s.heap I S f0 i n ep){Q:Value→Shared→Prop}(hQ:Q (.ref I) s):wpAny (model prog w) A (pyIter (.ref I)) Q E s:=by
 refine wpAny_pyIter_slot hit.is slot_sit_iter (wpAny_call_entry slot_sit_iter hit.is entry_sit_iter ?_ (args_sit_iter _))
 show wpAny (model prog w) _ (ret (.ref I)) _ _ s
 exact wpAny_pure ⟨_,rfl,_,_,hit.is,slot_sit_next.lookup,hQ⟩
theorem walk_told (hb:byTx w=true)(hIS:S≠I)(hh:A.handled=none):∃order:List (Str×Tok),order.Perm xs∧
  WalksS prog w A I [I,S] [I] eqG xs.length (PStr order) (fun i s=>SetIt s.heap I S (.int 0 0) i xs.length ep∧StrSet w s.heap S xs ep):=by
 obtain⟨order,po,eo⟩:=perm_of_map (pick_perm (w.params.setOrder S ep) (xs.map (strE w)).toArray) xs rfl
 have nxt:∀(s:Shared) (i:Nat),StrSet w s.heap S xs ep→∀(A:Around) (E:Value→Shared→Prop) (Q:Option (Value×Nat)→Shared→Prop),Q ((order[i]?).map fun p=>(.str p.1 p.2,0)) s→wpAny (model prog w) A (setNext S 0 i ep) Q E s:=fun s i hS A E Q q=>by
  obtain⟨o,es,t,h1,_,h2,h3,h4,_⟩:=hS
  refine next_told h1 h2 h3 hb ?_
  rw[es_of h4,←Array.getElem?_toList,eo,List.getElem?_map]
  cases z:order[i]? with
  |none=>rw[z] at q;exact q
  |some p=>rw[z] at q;exact q
 refine⟨order,po,⟨fun b hb=>by simp at hb;simp[hb],fun _=>rfl,fun _ _ _ h1 h2=>h2.trans h1,fun i s h' tk st _ hk=>⟨st.1.keep fun o e=>hk I (by simp) o e,st.2.keep fun o e=>hk S (by simp) o e⟩,fun i s Q E hi st hQ=>?_,fun s Q E st hQ=>?_,fun i s Q E st hQ=>sit_self st.1 hQ⟩⟩
 ·have hi':i<order.length:=by rw[po.length_eq];exact hi
  have e:order[i]?=some order[i]:=ge0 hi'
  refine sit_item st.1 st.2 rfl (x:=.str order[i].1 order[i].2) (nx:=0) (fun A E Q q=>nxt s i st.2 A E Q (by rw[e];exact q)) fun h' hit' sb=>?_
  exact hQ _ _ ⟨_,e,rfl⟩ ⟨hit',st.2.keep fun o e=>(sb.2 _ hIS).trans e⟩ ⟨fun b o hb e=>(sb.2 b (fun z=>hb (by simp[z]))).trans e,rfl,rfl,rfl,nr0 _⟩
 ·have e:order[xs.length]?=none:=List.getElem?_eq_none (by rw[po.length_eq];exact nr0 _)
  refine sit_end hh st.1 st.2 rfl (fun A E Q q=>nxt s _ st.2 A E Q (by rw[e];exact q)) fun h' eb=>?_
  exact hQ _ ⟨fun b o hb e=>eb b o (fun z=>hb (by simp[z])) e,rfl,rfl,rfl,nr0 _⟩
theorem walk_one (hb:byTx w=false)(hz:xs.length≤1)(hIS:S≠I)(hh:A.handled=none):
  WalksS prog w A I [I,S] [I] eqG xs.length (PStr xs) (fun i s=>∃sl,SetIt s.heap I S (.int (sl:Nat) 0) i xs.length ep∧StrSet w s.heap S xs ep∧(i=0→sl=0)∧(0<i→∀o es t j,s.heap.get? S=some o→o.data=.set es ep t→t.place=#[j]→sl=j+1)):=by
 refine⟨fun b hb=>by simp at hb;simp[hb],fun _=>rfl,fun _ _ _ h1 h2=>h2.trans h1,fun i s h' tk st _ hk=>?_,fun i s Q E hi st hQ=>?_,fun s Q E st hQ=>?_,fun i s Q E st hQ=>?_⟩
 ·obtain⟨sl,a,b,c,d⟩:=st
  obtain⟨o0,es0,t0,e0,r0⟩:=id b
  refine⟨sl,a.keep fun o e=>hk I (by simp) o e,b.keep fun o e=>hk S (by simp) o e,c,fun h o es t j h1 h2 h3=>d h o es t j ?_ h2 h3⟩
  have:=hk S (by simp) _ e0
  have h1:h'.get? S=some o:=h1
  rw[this] at h1;cases h1;exact e0
 ·obtain⟨sl,a,b,c,d⟩:=st
  have i0:i=0:=by omega
  subst i0
  have:=c rfl;subst this
  obtain⟨o,es,t,h1,h1x,h2,h3,h4,h5,h6⟩:=id b
  have n1:xs.length=1:=by omega
  obtain⟨y,rfl⟩:=List.length_eq_one_iff.mp n1
  have hes:es.size=1:=by rw[←Array.length_toList,h4];rfl
  have hf:=h3
  simp only[SetTable.fits,be0,beq_iff_eq] at hf
  obtain⟨j,hj⟩:∃j,t.place=#[j]:=by
   have:t.place.toList.length=1:=by rw[Array.length_toList];rw[hf.1,hes]
   obtain⟨j,e⟩:=List.length_eq_one_iff.mp this
   exact⟨j,by rw[←Array.toArray_toList (xs:=t.place),e]⟩
  refine sit_item (nx:=j+1) a b rfl (x:=.str y.1 y.2) (fun A E Q q=>next_one h1 h2 h3 hb (by rw[h5,hb];rfl) (by omega) ?_) fun h' hit' sb=>?_
  ·rw[hj,below_one,if_neg (Nat.not_lt_zero _),es_of h4]
   exact q
  ·refine hQ _ _ ⟨y,rfl,rfl⟩ ⟨j+1,hit',b.keep fun o e=>(sb.2 _ hIS).trans e,fun z=>by omega,fun _ o' es' t' j' z1 z2 z3=>?_⟩ ⟨fun b o hb e=>(sb.2 b (fun z=>hb (by simp[z]))).trans e,rfl,rfl,rfl,nr0 _⟩
   have z1:h'.get? S=some o':=z1
   rw[(sb.2 _ hIS).trans h1] at z1
   cases z1
   rw[h2] at z2
   injection z2 with _ _ z2
   subst z2
   rw[hj] at z3
   injection z3 with z3
   injection z3 with z3
   rw[z3]
 ·obtain⟨sl,a,b,c,d⟩:=st
  obtain⟨o,es,t,h1,h1x,h2,h3,h4,h5,h6⟩:=id b
  have hes:es.size=xs.length:=by rw[←Array.length_toList,h4,lm0]
  have hf:=h3
  simp only[SetTable.fits,be0,beq_iff_eq] at hf
  refine sit_end hh a b rfl (fun A E Q q=>next_one h1 h2 h3 hb (by rw[h5,hb];rfl) (by omega) ?_) fun h' eb=>hQ _ ⟨fun b o hb e=>eb b o (fun z=>hb (by simp[z])) e,rfl,rfl,rfl,nr0 _⟩
  cases xs with
  |nil=>
   have:es=#[]:=Array.eq_empty_of_size_eq_zero hes
   subst this
   exact q
  |cons y r=>
   have n1:(y::r).length=1:=by simp only[lc0] at hz ⊢;omega
   obtain⟨j,hj⟩:∃j,t.place=#[j]:=by
    have:t.place.toList.length=1:=by rw[Array.length_toList];rw[hf.1,hes,n1]
    obtain⟨j,e⟩:=List.length_eq_one_iff.mp this
    exact⟨j,by rw[←Array.toArray_toList (xs:=t.place),e]⟩
   have:=d (by omega) o es t j h1 h2 hj
   subst this
   rw[hj,below_one,if_pos (Nat.lt_succ_self _)]
   have:es[1]?=none:=Array.getElem?_eq_none (by omega)
   rw[this]
   exact q
 ·obtain⟨sl,a,_⟩:=st
  exact sit_self a hQ
theorem walk_drawn {ps:List Nat}(hp:ps.Perm (List.range xs.length))(hIS:S≠I)(hIT:T≠I)(hh:A.handled=none):
  WalksS prog w A I [I,S,T] [I] eqG xs.length (PStr (ps.map fun k=>xs.getD k default)) (fun i s=>SetIt s.heap I S (.ref T) i xs.length ep∧StrSet w s.heap S xs ep∧∃o,s.heap.get? T=some o∧o.data=.seq (ps.map fun (k:Nat)=>rawInt (k:Int)).toArray):=by
 have hl:ps.length=xs.length:=by rw[hp.length_eq,List.length_range]
 refine⟨fun b hb=>by simp at hb;simp[hb],fun _=>rfl,fun _ _ _ h1 h2=>h2.trans h1,fun i s h' tk st _ hk=>?_,fun i s Q E hi st hQ=>?_,fun s Q E st hQ=>?_,fun i s Q E st hQ=>sit_self st.1 hQ⟩
 ·obtain⟨a,b,o,c,d⟩:=st
  exact⟨a.keep fun o e=>hk I (by simp) o e,b.keep fun o e=>hk S (by simp) o e,o,hk T (by simp) o c,d⟩
 ·obtain⟨a,b,o,c,d⟩:=st
  have hi':i<ps.length:=by omega
  have e:ps[i]?=some ps[i]:=ge0 hi'
  have hm:ps[i]<xs.length:=List.mem_range.mp (hp.mem_iff.mp (List.getElem_mem hi'))
  refine sit_itemD a b rfl c d e (ge0 hm) fun h' hit' sb=>?_
  exact hQ _ _ ⟨xs[ps[i]],by simp[e,List.getD,ge0 hm],rfl⟩ ⟨hit',b.keep fun o e=>(sb.2 _ hIS).trans e,o,(sb.2 _ hIT).trans c,d⟩ ⟨fun b o hb e=>(sb.2 b (fun z=>hb (by simp[z]))).trans e,rfl,rfl,rfl,nr0 _⟩
 ·obtain⟨a,b,o,c,d⟩:=st
  exact sit_endD hh a b rfl c d (List.getElem?_eq_none (by omega)) fun h' eb=>hQ _ ⟨fun b o hb e=>eb b o (fun z=>hb (by simp[z])) e,rfl,rfl,rfl,nr0 _⟩
end
section
variable {prog:Program}{w:World}{A:Around}{E:Value→Shared→Prop}{s:Shared}{S:Addr}{xs:List (Str×Tok)}{ep:Nat}
structure SWalk (prog:Program)(w:World)(A:Around)(S:Addr)(xs:List (Str×Tok))(s s':Shared)(I:Addr):Prop where
 ex:∃(fp:List Addr) (order:List (Str×Tok)) (St:Nat→Shared→Prop),order.Perm xs∧WalksS prog w A I fp [I] eqG xs.length (PStr order) St∧St 0 s'∧(∀b∈fp,b=S∨s.heap.get? b=none)∧s.heap.get? I=none
theorem set_iter {Q:Value→Shared→Prop}(hh:A.handled=none)(hS:StrSet w s.heap S xs ep)(hz:xs.length<4000)
  (h:∀h' d I,(∀b o,s.heap.get? b=some o→h'.get? b=some o)→SWalk prog w A S xs s {s with heap:=h',drawn:=d} I→Q (.ref I) {s with heap:=h',drawn:=d}):
  wpAny (model prog w) A (pyIter (.ref S)) Q E s:=by
 obtain⟨o,es,t,h1,h1x,h2,h3,h4,h5,h6⟩:=id hS
 have ltS:S<s.heap.objs.size:=hs0 h1
 have hes:es.size=xs.length:=by rw[←Array.length_toList,h4,lm0]
 refine wpAny_pyIter_slot hS.isA F.slot_set_iter (wpAny_call_entry F.slot_set_iter hS.isA entry_set_iter ?_ (F.args_set_iter_1 _))
 unfold Builtin.«frozenset.__iter__» Builtin.Frozenset.slot0
 refine wpAny_bind (wpAny_bind (m:=slotArgs "__iter__" 0 _) (wpAny_pure (wpAny_pure ?_)))
 unfold Builtin.Frozenset.sizeOf setEntries
 refine wpAny_bind (wpAny_bind (wpAny_bind (wpAny_setState_of h1 h2 h3 (wpAny_pure (wpAny_pure ?_)))))
 unfold setDrawn
 refine wpAny_bind (wpAny_bind (wpAny_setState_of h1 h2 h3 (wpAny_bind (asks (wpAny_pure ?_)))))
 show wpAny (model prog w) A.in1 (do
  let first ←if (!byTx w&&(!t.plain&&decide (es.size>1)))=true then do newTuple ((←drawOrder es.size (List.range es.size)).map fun (i:Nat)=>rawInt i) else pure (rawInt 0)
  ret (←newFields "set_iterator" [first,rawInt 0,.ref S,rawInt es.size,rawInt (←setEpoch S)])) _ _ s
 have fin:∀(f0:Value) (s1:Shared),s1.heap.get? S=some o→(∀Q':Value→Shared→Prop,Q' (.ref s1.heap.objs.size) {s1 with heap:=s1.heap.push {cls:=.type "set_iterator",data:=.fields #[f0,.int 0 0,.ref S,.int xs.length 0,.int ep 0]}}→
   wpAny (model prog w) A.in1 (do ret (←newFields "set_iterator" [f0,rawInt 0,.ref S,rawInt es.size,rawInt (←setEpoch S)])) (fun f s'=>∃v,f=.done (.ret v)∧Q' v s') E s1):=fun f0 s1 g Q' q=>by
  refine wpAny_bind (wpAny_setEpoch_of g h2 h3 ?_)
  unfold newFields
  refine wpAny_bind (wpAny_newObj_type (wpAny_pure ⟨_,rfl,?_⟩))
  rw[hes]
  exact q
 cases hb:byTx w with
 |true=>
  rw[if_neg (by simp)]
  refine wpAny_bind (wpAny_pure (fin _ s h1 _ ?_))
  have hne:S≠s.heap.objs.size:=nn0 ltS
  obtain⟨order,po,W⟩:=walk_told (prog:=prog) (A:=A) (I:=s.heap.objs.size) (S:=S) (xs:=xs) (ep:=ep) hb hne hh
  refine⟨_,_,⟨_,pz0 _ rfl,rfl⟩,slot_sit_next.lookup,?_⟩
  refine h _ s.drawn _ (fun b o e=>ps0 _ e) ⟨_,order,_,po,W,⟨⟨_,pz0 _ rfl,rfl,rfl⟩,hS.keep fun o e=>ps0 _ e⟩,fun b hb=>?_,get_top _⟩
  rcases List.mem_cons.mp hb with e|hb
  ·rw[e];exact .inr (get_top _)
  ·exact .inl (by simpa using hb)
 |false=>
  by_cases n1:xs.length≤1
  ·rw[if_neg (by rw[decide_eq_false (by omega)];simp)]
   refine wpAny_bind (wpAny_pure (fin _ s h1 _ ?_))
   have hne:S≠s.heap.objs.size:=nn0 ltS
   have W:=walk_one (prog:=prog) (A:=A) (I:=s.heap.objs.size) (S:=S) (xs:=xs) (ep:=ep) hb n1 hne hh
   refine⟨_,_,⟨_,pz0 _ rfl,rfl⟩,slot_sit_next.lookup,?_⟩
   refine h _ s.drawn _ (fun b o e=>ps0 _ e) ⟨_,xs,_,.refl _,W,⟨0,⟨_,pz0 _ rfl,rfl,rfl⟩,hS.keep fun o e=>ps0 _ e,fun _=>rfl,fun z=>absurd z (Nat.lt_irrefl _)⟩,fun b hb=>?_,get_top _⟩
   rcases List.mem_cons.mp hb with e|hb
   ·rw[e];exact .inr (get_top _)
   ·exact .inl (by simpa using hb)
  ·have np:t.plain=false:=h6 fun z=>n1 (by rw[z];exact Nat.zero_le _)
   rw[if_pos (by rw[np,decide_eq_true (by omega)];rfl)]
   refine wpAny_bind (draw_perm _ _ _ _ List.length_range.symm fun ps d hp=>wpAny_bind ?_)
   rw[hes] at hp
   have hl:ps.length=xs.length:=by rw[hp.length_eq,List.length_range]
   refine wpAny_newTuple ?_ (by rw[lm0,hl,sizeLine_eq];omega)
   refine fin _ {s with heap:=s.heap.push _,drawn:=d} (ps0 _ h1) _ ?_
   have hne:S≠(s.heap.push {cls:=.type "tuple",data:=.seq (ps.map fun (k:Nat)=>rawInt (k:Int)).toArray}).objs.size:=by rw[Heap.size_push];exact nn0 (Nat.lt_succ_of_lt ltS)
   have hne2:s.heap.objs.size≠(s.heap.push {cls:=.type "tuple",data:=.seq (ps.map fun (k:Nat)=>rawInt (k:Int)).toArray}).objs.size:=by rw[Heap.size_push];omega
   have W:=walk_drawn (prog:=prog) (w:=w) (A:=A) (I:=(s.heap.push {cls:=.type "tuple",data:=.seq (ps.map fun (k:Nat)=>rawInt (k:Int)).toArray}).objs.size) (S:=S) (T:=s.heap.objs.size) (xs:=xs) (ep:=ep) hp hne hne2 hh
   have kk:∀b o,s.heap.get? b=some o→((s.heap.push {cls:=.type "tuple",data:=.seq (ps.map fun (k:Nat)=>rawInt (k:Int)).toArray}).push {cls:=.type "set_iterator",data:=.fields #[.ref s.heap.objs.size,.int 0 0,.ref S,.int xs.length 0,.int ep 0]}).get? b=some o:=fun b o e=>ps0 _ (ps0 _ e)
   have no:∀b,s.heap.objs.size≤b→s.heap.get? b=none:=fun b hb=>by
    cases q:s.heap.get? b with
    |none=>rfl
    |some o=>exact absurd (hs0 q) (Nat.not_lt.mpr hb)
   refine⟨_,_,⟨_,pz0 _ rfl,rfl⟩,slot_sit_next.lookup,?_⟩
   refine h _ d _ kk ⟨_,_,_,(hp.map _).trans (.of_eq (mapD_range xs)),W,⟨⟨_,pz0 _ rfl,rfl,rfl⟩,hS.keep fun o e=>kk _ _ e,_,ps0 _ (pz0 _ rfl),rfl⟩,fun b hb=>?_,no _ (by rw[Heap.size_push];omega)⟩
   rcases List.mem_cons.mp hb with e|hb
   ·rw[e];exact .inr (no _ (by rw[Heap.size_push];omega))
   ·rcases List.mem_cons.mp hb with e|hb
    ·exact .inl e
    ·have:b=s.heap.objs.size:=by simpa using hb
     rw[this];exact .inr (get_top _)
theorem set_hint {Q:Bool→Shared→Prop}(hT:s.TypeIs (.ref S) "set")(h:Q false s):wpAny (model prog w) A (Builtin.List.listLengthHint (.ref S)) Q E s:=by
 unfold Builtin.List.listLengthHint
 refine wpAny_bind (wpAny_specialOf hT F.slot_set_len.lookup ?_)
 generalize hid:("set.__len__":String)=id0
 wp_delta
 rw[show splitId id0=some ("set","__len__") from by subst hid;decide +kernel]
 subst hid
 refine wpAny_bind (wpAny_isInstance (T:="set") (b:=true) hT (by rw[isSubtype_type];kernel_rfl) ?_)
 refine wpAny_ite_split (fun z=>absurd z (by decide)) fun _=>wpAny_ite_split (fun _=>wpAny_bind (wpAny_typeOf hT (wpAny_pure h))) fun z=>absurd (by decide +kernel) z
theorem set_extend {R:Result→Shared→Prop}{L:Addr}(hh:A.handled=none)(hS:StrSet w s.heap S xs ep)(hz:xs.length<4000)(res:Value)(hL:s.heap.get? L=some {cls:=.type "list",data:=.seq #[]})(hLS:L≠S)
  (h:∀h' tk d (order:List (Str×Tok)) (acc:Array Value) c,order.Perm xs→(∀b o,b≠L→s.heap.get? b=some o→h'.get? b=some o)→h'.get? L=some {cls:=.type "list",dict:=none,data:=.seq acc c,slots:=#[]}→acc.toList=order.map (fun p=>Value.str p.1 p.2)→R (.ok (.ret res)) {s with heap:=h',toks:=tk,drawn:=d}):
  wpAny (model prog w) A.in1 (Builtin.List.listExtendWith (.ref L) (.ref S) res)
   (fun fin s'=>match fin with|.done f=>R (.ok f) s'|.again c'=>c'.quiet=true∧codeAny (model prog w) A c' R s') (fun e s'=>R (.error e) s') s:=by
 unfold Builtin.List.listExtendWith
 refine wpAny_bind (wpAny_typeOf (T:="set") hS.isA ?_)
 have q1:Builtin.List.listSameRef (.ref L) (.ref S)=false:=by simp[Builtin.List.listSameRef,hLS]
 have q2:(Value.type "set"==Value.type "list")=false:=by decide
 have q3:(Value.type "set"==Value.type "tuple")=false:=by decide
 simp only[q1,q2,q3,Bool.or_false,Bool.false_eq_true,if_false]
 refine wpAny_bind (set_iter (A:=A.in1) hh hS hz fun h' d I kk W=>?_)
 obtain⟨fp,order,St,po,W,st,hfp,hI⟩:=W.ex
 have nIL:I≠L:=fun e=>by rw[e,hL] at hI;cases hI
 have nf:L∉fp:=fun hb=>(hfp L hb).elim hLS fun z=>by rw[hL] at z;cases z
 refine wpAny_bind (wpAny_holding (set_hint (s:={s with heap:=h',drawn:=d}) (hS.keep fun o e=>kk _ _ e).isA ?_))
 have key:∀(h2:Heap) (tk c:Nat),St 0 {s with heap:=h2,drawn:=d,toks:=tk}→(∀b o,b≠L→s.heap.get? b=some o→h2.get? b=some o)→h2.get? L=some {cls:=.type "list",data:=.seq #[] c}→codeAny (model prog w) A (.builtin "list.extend.loop" ⟨[.ref L,.ref I,res],[]⟩) R {s with heap:=h2,drawn:=d,toks:=tk}:=fun h2 tk c st2 k2 l2=>by
  refine codeAny_extend_loopS W (by rw[sizeLine_eq];omega) L nf res xs.length 0 _ #[] c rfl (Nat.zero_le _) st2 l2 (ItemsOf.nil _) fun s' acc c' hm hL' hacc=>?_
  have es:s'={s with heap:=s'.heap,toks:=s'.toks,drawn:=d}:=by
   obtain⟨_,a1,a2,a3,_⟩:=hm
   obtain⟨hp,g,dd,tk,os⟩:=s'
   simp only at a1 a2 a3
   subst a1 a2 a3
   rfl
  rw[es]
  refine h s'.heap s'.toks d order acc c' po (fun b o hb e=>hm.heap b o (fun z=>?_) (k2 b o hb e)) hL' ?_
  ·rcases List.mem_cons.mp z with z|z
   ·exact hb z
   ·have:b=I:=by simpa using z
    rw[this,hI] at e;cases e
  ·apply List.ext_getElem?
   intro i
   rw[Array.getElem?_toList,List.getElem?_map]
   cases q:acc[i]? with
   |none=>
    have hi:acc.size≤i:=by simpa using q
    rw[List.getElem?_eq_none (by rw[po.length_eq];rw[hacc.1] at hi;exact hi)];rfl
   |some v=>
    obtain⟨p,e1,rfl⟩:=hacc.2 i v q
    rw[e1];rfl
 have oth:∀(f:Array Value→Array Value) (hh:Heap) (b:Addr) (o:Obj),b≠L→hh.get? b=some o→(hh.update L (Obj.mapSeq f)).get? b=some o:=fun f hh b o nb e=>(Heap.get?_update_other _ _ (Ne.symm nb)).trans e
 have hL1:=kk _ _ hL
 refine wpAny_ite_split (fun _=>?_) (fun _=>wpAny_pure ⟨plainId_quiet F.plain_extend_loop _,key h' s.toks 0 st (fun b o _ e=>kk b o e) hL1⟩)
 refine wpAny_bind (wpAny_rule (wpAny_bind ?_))
 show wpAny (model prog w) _ (updateSeq L (·.push .none) >>= fun _=>updateSeq L (·.pop)) _ _ _
 refine wpAny_bind (wpAny_updateSeq hL1 rfl ?_)
 have hL2:=Heap.get?_update_self (Obj.mapSeq (·.push Value.none)) hL1 rfl
 refine wpAny_updateSeq (hz:=by seq_fits) hL2 rfl ?_
 have hL3:=Heap.get?_update_self (Obj.mapSeq (·.pop)) hL2 rfl
 refine wpAny_pure ⟨plainId_quiet F.plain_extend_loop _,key _ s.toks _ (W.frame 0 _ _ _ st (nr0 _) fun b hb o e=>?_) (fun b o nb e=>oth _ _ _ _ nb (oth _ _ _ _ nb (kk b o e))) hL3⟩
 exact oth _ _ _ _ (fun z=>nf (z▸hb)) (oth _ _ _ _ (fun z=>nf (z▸hb)) e)
theorem set_collect {R:List Value→Shared→Prop}(hh:A.handled=none)(hS:StrSet w s.heap S xs ep)(hz:xs.length<4000)
  (h:∀h' tk d (order:List (Str×Tok)),order.Perm xs→s.heap.objs.size≤h'.objs.size→(∀b o,s.heap.get? b=some o→h'.get? b=some o)→R (order.map fun p=>Value.str p.1 p.2) {s with heap:=h',toks:=tk,drawn:=d}):
  wpAny (model prog w) A (collect (.ref S)) R E s:=by
 have ltS:S<s.heap.objs.size:=let ⟨_,_,_,e,_⟩:=hS;hs0 e
 unfold collect
 refine wpAny_bind (wpAny_runValue (codeAny_builtin entry_proto_collect' ?_))
 rw[Around.under_plainId PySem.F.plain_proto_collect]
 show wpAny _ A.in1 (newList [] >>= fun l=>again (.builtin "list.__iadd__" ⟨[l,.ref S],[]⟩)) _ _ s
 refine wpAny_bind (wpAny_newObj_type (wpAny_pure ⟨plainId_quiet PySem.F.plain_list_iadd _,codeAny_builtin entry_list_iadd' ?_⟩))
 rw[Around.under_plainId PySem.F.plain_list_iadd]
 have hL:(s.heap.push {cls:=.type "list",data:=.seq ([]:List Value).toArray}).get? s.heap.objs.size=some {cls:=.type "list",data:=.seq #[]}:=pz0 _ rfl
 show wpAny _ A.in1 (Builtin.List.listExtendWith (.ref s.heap.objs.size) (.ref S) (.ref s.heap.objs.size)) _ _ _
 refine wpAny_mono (set_extend (A:=A) (s:={s with heap:=s.heap.push {cls:=.type "list",data:=.seq ([]:List Value).toArray}})
  (R:=fun q s'=>∃h' tk d,∃order:List (Str×Tok),∃(acc:Array Value) (c:Nat),q=.ok (.ret (.ref s.heap.objs.size))∧s'={s with heap:=h',toks:=tk,drawn:=d}∧order.Perm xs∧(∀b o,s.heap.get? b=some o→h'.get? b=some o)∧h'.get? s.heap.objs.size=some {cls:=.type "list",dict:=none,data:=.seq acc c,slots:=#[]}∧acc.toList=order.map (fun p=>Value.str p.1 p.2))
  hh (hS.keep fun o e=>ps0 _ e) hz (.ref s.heap.objs.size) hL (Nat.ne_of_gt ltS) fun h' tk d order acc c a1 a2 a3 a4=>⟨h',tk,d,order,acc,c,rfl,rfl,a1,fun b o e=>a2 b o (nn0 (hs0 e)) (ps0 _ e),a3,a4⟩) (fun fin s' x=>?_) fun e s' x=>?_
 ·cases fin with
  |done f=>
   obtain⟨h',tk,d,order,acc,c,e,rfl,a1,a2,a3,a4⟩:=x
   cases e
   show wpAny (model prog w) A (load s.heap.objs.size >>= _) _ _ _
   refine wpAny_bind (wpAny_load a3 (wpAny_pure ?_))
   rw[a4]
   exact h h' tk d order a1 (Nat.le_of_lt (hs0 a3)) a2
  |again c1=>
   refine⟨x.1,codeAny_mono x.2 fun q s2 y=>?_⟩
   obtain⟨h',tk,d,order,acc,c,rfl,rfl,a1,a2,a3,a4⟩:=y
   show wpAny (model prog w) A (load s.heap.objs.size >>= _) _ _ _
   refine wpAny_bind (wpAny_load a3 (wpAny_pure ?_))
   rw[a4]
   exact h h' tk d order a1 (Nat.le_of_lt (hs0 a3)) a2
 ·obtain⟨_,_,_,_,_,_,z,_⟩:=x
  cases z
theorem strsAre_of (order:List (Str×Tok)):StrsAre (order.map fun p=>Value.str p.1 p.2) (order.map (·.1)):=by
 induction order with
 |nil=>exact .nil
 |cons p r ih=>exact .cons p.1 p.2 ih
theorem call_sorted_set {Q:Value→Shared→Prop}(hh:A.handled=none)(hS:StrSet w s.heap S xs ep)(hz:xs.length<64)
  (h:∀h' tk d D (out:Array Value) n (ss:List Str),(∀b o,s.heap.get? b=some o→h'.get? b=some o)→h'.get? D=some (seqObj "list" out n)→s.heap.objs.size≤D→StrsAre out.toList ss→ss.Perm (xs.map (·.1))→sortedS ss=true→Q (.ref D) {s with heap:=h',toks:=tk,drawn:=d}):
  wpAny (model prog w) A (call (.builtin "sorted") [.ref S]) Q E s:=by
 refine Calls.call_function_entry kind_sorted plain_sorted entry_sorted (args_sorted1 _) ?_
 unfold Builtin.«sorted»
 refine wpAny_bind (m:=checkCount "sorted" 1 1 _) (wpAny_pure (wpAny_bind (set_collect (A:=A.in1) hh hS (by omega) fun h1 tk d order po sz k1=>?_)))
 have hl:order.length=xs.length:=po.length_eq
 refine wpAny_bind (wpAny_newList ?_ (by rw[lm0,hl,sizeLine_eq];omega))
 have gD:(h1.push {cls:=.type "list",data:=.seq (order.map fun p=>Value.str p.1 p.2).toArray}).get? h1.objs.size=some (seqObj "list" (order.map fun p=>Value.str p.1 p.2).toArray 0):=pz0 _ rfl
 have kD:∀b o,s.heap.get? b=some o→b<h1.objs.size:=fun b o e=>hs0 (k1 b o e)
 refine wpAny_bind (wpAny_holding (wpAny_call_entry slot_list_sort ⟨_,gD,rfl⟩ entry_list_sort (list_sort_treeK strKind_oneLt gD (strsAre_of order).keysOf (fun v₁ v₂ rest e=>keyKind_strs (by rw[←e];exact strsAre_of order)) (by rw[lm0,hl];exact hz) fun st' a1 a2=>⟨_,rfl,?_⟩) (args_list_sort _)))
 refine wpAny_pure ⟨_,rfl,?_⟩
 obtain⟨ss,b1,b2,b3⟩:=sorted_out_str (strsAre_of order) a1 a2
 obtain⟨n,fin⟩:=sortedHeap_at (out:=(arrOf st').map (·.2)) gD
 refine h _ tk d h1.objs.size _ n ss (fun b o e=>?_) fin ?_ b1 (b2.trans (po.map _)) b3
 ·have lt:b<h1.objs.size:=kD b o e
  exact (sortedHeap_old (nn0 lt) (by rw[size_push'];exact Nat.lt_succ_of_lt lt)).trans (ps0 _ (k1 b o e))
 ·exact sz
end
end PySem
namespace L2.Z
open PySem PySem.Spec PyProof.Rows L2 L2.C SI
section
variable {X:Cx}{ρ:List Sl}{a b c e:Expr}{es:List Expr}{p pos:Pos}{d d1 d2 d3:D}{ds:List D}
noncomputable def noStars (es:List Expr):Prop:=∀e∈es,isStar e=false
theorem stars_any {env:Env}:∀{es:List Expr},noStars es→(backTo pos (starEach es env)).any (·.1)=false
 |[],_=>rfl
 |e::r,h=>by
  rw[starEach_cons (h e ms0)]
  show (false||(backTo pos (starEach r env)).any (·.1))=false
  rw[stars_any fun x hx=>h x (mc0 _ hx)];rfl
theorem stars_all {env:Env}:∀{es:List Expr},noStars es→(backTo pos (starEach es env)).all (fun x=>!x.1)=true
 |[],_=>rfl
 |e::r,h=>by
  rw[starEach_cons (h e ms0)]
  show (true&&(backTo pos (starEach r env)).all (fun x=>!x.1))=true
  rw[stars_all fun x hx=>h x (mc0 _ hx)];rfl
noncomputable abbrev fl3:List Bool:=[true,true,true]
noncomputable abbrev CRr (K:Fg)(r:List V→Hp→VK→Prop)(fl:List Bool)(ds:List D)(d:D):Prop:=∀(vs:List V) (G H:Hp) (Q:VK),Same G H→Das K G H fl ds vs→(∀v G' H',Ext G H G' H'→Dp K G' d v→Q v H')→r vs H Q
structure Blt (X:Cx)(x:Str):Prop where
 g:Gl X x
 m:X.mg x=Option.none
 n:x≠"__name__"
 d:(x==("__debug__":Str))=false
theorem ev_callB {id:String}{x:Str}{fl:List Bool}{r:List V→Hp→VK→Prop}(B:Blt X x)(hc:CallR X (.builtin id) r)(hv:bootBuiltins x=some (.builtin id))(ha:Ea X ρ fl (e::es) ds)(hs:noStars (e::es))(h:CRr X.K r fl ds d):Ev X ρ (.Call (.Name x p) (e::es) [] pos) d:=
 fun pins s σ H Q I ⟨G0,H0,G,E,k⟩=>pe_callB hc B.g B.m hv ha B.n B.d (starEach_cons (hs e ms0)) (stars_any fun y hy=>hs y (mc0 _ hy)) pins s σ H Q I
  ⟨G0,H0,G,E,fun vs G1 H1 e1 r1=>h vs G1 H1 Q e1.gh r1 fun v G' H' e2 r2=>k v G' H' (e1.trans e2) r2⟩
theorem ev_callT {T:String}{x:Str}{fl:List Bool}{r:List V→Hp→VK→Prop}(B:Blt X x)(hc:CallR X (.type T) r)(hv:bootBuiltins x=some (.type T))(ha:Ea X ρ fl (e::es) ds)(hs:noStars (e::es))(h:CRr X.K r fl ds d):Ev X ρ (.Call (.Name x p) (e::es) [] pos) d:=
 fun pins s σ H Q I ⟨G0,H0,G,E,k⟩=>pe_callTy hc B.g B.m hv ha B.n B.d (starEach_cons (hs e ms0)) (stars_any fun y hy=>hs y (mc0 _ hy)) pins s σ H Q I
  ⟨G0,H0,G,E,fun vs G1 H1 e1 r1=>h vs G1 H1 Q e1.gh r1 fun v G' H' e2 r2=>k v G' H' (e1.trans e2) r2⟩
theorem Das.one {K:Fg}{G H:Hp}{fl:List Bool}{vs:List V}(h:Das K G H fl [d] vs):∃v,vs=[v]∧Dr K G H d v:=by
 cases h with|cons _ h r=>cases r;exact⟨_,rfl,h⟩
theorem Das.two {K:Fg}{G H:Hp}{fl:List Bool}{vs:List V}(h:Das K G H fl [d1,d2] vs):∃v w,vs=[v,w]∧Dr K G H d1 v∧Dr K G H d2 w:=by
 cases h with|cons _ h r=>cases r with|cons _ h2 r=>cases r;exact⟨_,_,rfl,h,h2⟩
theorem boot_all':bootBuiltins ("all":Str)=some (.builtin "all"):=by decide +kernel
theorem boot_tuple':bootBuiltins ("tuple":Str)=some (.type "tuple"):=by decide +kernel
theorem bi_sound {x:Str}{f:Bf}(hcalm:X.calm=true)(B:Blt X x)(hf:bltOf x=some f)(h:biD f ds=some d)(ha:Ea X ρ fl3 (e::es) ds)(hs:noStars (e::es)):
  Ev X ρ (.Call (.Name x p) (e::es) [] pos) d∧(fresh (.bi f .nil)=true→ownD d=true→En X ρ (.Call (.Name x p) (e::es) [] pos) d):=by
 have old:fresh (.bi f .nil)=false→Ev X ρ (.Call (.Name x p) (e::es) [] pos) d→Ev X ρ (.Call (.Name x p) (e::es) [] pos) d∧(fresh (.bi f .nil)=true→ownD d=true→En X ρ (.Call (.Name x p) (e::es) [] pos) d):=
  fun z q=>⟨q,fun c=>by rw[z] at c;cases c⟩
 have new:En X ρ (.Call (.Name x p) (e::es) [] pos) d→Ev X ρ (.Call (.Name x p) (e::es) [] pos) d∧(fresh (.bi f .nil)=true→ownD d=true→En X ρ (.Call (.Name x p) (e::es) [] pos) d):=fun q=>⟨q.ev,fun _ _=>q⟩
 unfold bltOf at hf
 split at hf
 ·rename_i c
  subst c
  cases hf
  refine old rfl ?_
  match ds,h with
  |[.list ls],h=>
   cases h
   refine ev_callB B call_len PySem.boot_len ha hs fun vs G H Q s r k=>?_
   obtain⟨v,rfl,hv⟩:=r.one
   obtain⟨q,ws,rfl,h1,r1⟩:=hv.lst s
   exact⟨_,ws.length,rfl,.inl ⟨ws,SqL.of h1,rfl⟩,by rw[←r1.length];exact k _ G H (.refl s) (.int _)⟩
  |[.tuple ls],h=>
   cases h
   refine ev_callB B call_len PySem.boot_len ha hs fun vs G H Q s r k=>?_
   obtain⟨v,rfl,hv⟩:=r.one
   obtain⟨q,ws,rfl,h1,r1⟩:=hv.tup s
   exact⟨_,ws.length,rfl,.inr ⟨ws,SqT.of h1,rfl⟩,by rw[←r1.length];exact k _ G H (.refl s) (.int _)⟩
  |[.scr ns],h=>
   cases h
   refine ev_callB B call_len PySem.boot_len ha hs fun vs G H Q s r k=>?_
   obtain⟨v,rfl,hv⟩:=r.one
   obtain⟨q,rfl,h1⟩:=hv.scr s
   exact⟨_,(ns.map V.int).length,rfl,.inl ⟨_,h1,rfl⟩,by rw[lm0];exact k _ G H (.refl s) (.int _)⟩
  |[.str y],h=>
   rw[SI.len_str] at h
   split at h
   ·rename_i c
    cases h
    rw[big_eq] at c
    refine ev_callB B call_len PySem.boot_len ha hs fun vs G H Q s r k=>?_
    obtain⟨v,rfl,hv⟩:=r.one
    exact⟨_,y.length,rfl,by rw[hv.str.1];exact⟨c,rfl⟩,k _ G H (.refl s) (.int _)⟩
   ·cases h
 split at hf
 ·rename_i c
  subst c
  cases hf
  refine old rfl ?_
  match ds,h with
  |[.int i],h=>
   cases h
   refine ev_callT B call_int1 PyProof.Rows.boot_int ha hs fun vs G H Q s r k=>?_
   obtain⟨v,rfl,hv⟩:=r.one
   exact .inl ⟨i,by rw[hv.int],k _ G H (.refl s) (.int _)⟩
  |[.bool t],h=>
   cases h
   refine ev_callT B call_int1 PyProof.Rows.boot_int ha hs fun vs G H Q s r k=>?_
   obtain⟨v,rfl,hv⟩:=r.one
   exact .inr ⟨t,by rw[hv.bool],k _ G H (.refl s) (.int _)⟩
 split at hf
 ·rename_i c
  subst c
  cases hf
  refine old rfl ?_
  match ds,h with
  |[.list ls],h=>
   rw[tuple_list] at h
   split at h
   ·rename_i c
    cases h
    rw[big_eq] at c
    refine ev_callT B call_tuple_of boot_tuple' ha hs fun vs G H Q s r k=>?_
    obtain⟨v,rfl,hv⟩:=r.one
    obtain⟨q,ws,rfl,h1,r1⟩:=hv.lst s
    exact⟨q,ws,rfl,SqL.of h1,by rw[←r1.length];exact c,fun l hl=>k _ _ _ (.laid s hl) (.tuple upd_same (r1.mono (same_upd (s.free hl))))⟩
   ·cases h
 split at hf
 ·rename_i c
  subst c
  cases hf
  refine old rfl ?_
  match ds,h with
  |[.list ls],h=>
   obtain⟨bs,e1,rfl⟩:=mx0 (show (boolsOf ls).map _=some d from h)
   refine ev_callB B (call_all hcalm) boot_all' ha hs fun vs G H Q s r k=>?_
   obtain⟨v,rfl,hv⟩:=r.one
   obtain⟨q,ws,rfl,h1,r1⟩:=hv.lst s
   exact⟨q,bs,rfl,by rw[←boolsOf_dps e1 r1];exact SqL.of h1,k _ G H (.refl s) (.bool _)⟩
 ·cases hf
end
end L2.Z
namespace SI
open PySem
theorem ltS_irrefl (x:Str):ltS x x=false:=by
 unfold ltS;exact decide_eq_false (List.lt_irrefl _)
theorem str_ext {x y:Str}(h:x.cps.toList=y.cps.toList):x=y:=by
 cases x;cases y
 simp only[Str.mk.injEq]
 exact Array.toList_inj.mp h
theorem ltS_trans {x y z:Str}(h1:ltS x y=true)(h2:ltS y z=true):ltS x z=true:=by
 unfold ltS at *
 exact decide_eq_true (List.lt_trans (of_decide_eq_true h1) (of_decide_eq_true h2))
theorem ltS_total {x y:Str}(h:x≠y)(h1:ltS x y=false):ltS y x=true:=by
 unfold ltS at *
 have h1:=of_decide_eq_false h1
 refine decide_eq_true (Classical.byContradiction fun h2=>h (str_ext ?_))
 exact List.le_antisymm (List.not_lt.mp h2) (List.not_lt.mp h1)
noncomputable abbrev RiseS (l:List Str):Prop:=l.Pairwise fun a b=>ltS a b=true
theorem mem_insS (x:Str):∀(l:List Str) (y:Str),y∈insS x l↔y=x∨y∈l
 |[],y=>by simp[insS]
 |z::r,y=>by
  unfold insS
  split
  ·rename_i e;subst e;simp
  ·split
   ·simp
   ·rw[List.mem_cons,mem_insS x r y,List.mem_cons]
    exact⟨fun h=>h.elim (fun a=>.inr (.inl a)) fun h=>h.elim .inl fun a=>.inr (.inr a),fun h=>h.elim (fun a=>.inr (.inl a)) fun h=>h.elim .inl fun a=>.inr (.inr a)⟩
theorem rise_insS (x:Str):∀l:List Str,RiseS l→RiseS (insS x l)
 |[],_=>by simp[insS]
 |z::r,h=>by
  obtain⟨h1,h2⟩:=List.pairwise_cons.mp h
  unfold insS
  split
  ·exact h
  ·rename_i ne
   split
   ·rename_i lt
    refine List.pairwise_cons.mpr ⟨fun b hb=>?_,h⟩
    rcases List.mem_cons.mp hb with e|hb
    ·rw[e];exact lt
    ·exact ltS_trans lt (h1 b hb)
   ·rename_i nlt
    refine List.pairwise_cons.mpr ⟨fun b hb=>?_,rise_insS x r h2⟩
    rcases (mem_insS x r b).mp hb with e|hb
    ·rw[e];exact ltS_total ne (Bool.eq_false_iff.mpr nlt)
    ·exact h1 b hb
theorem mem_srtS:∀(l:List Str) (y:Str),y∈srtS l↔y∈l
 |[],y=>by simp[srtS]
 |x::r,y=>by rw[srtS,mem_insS,mem_srtS r,List.mem_cons]
theorem rise_srtS:∀l:List Str,RiseS (srtS l)
 |[]=>List.Pairwise.nil
 |x::r=>rise_insS x _ (rise_srtS r)
theorem rise_eq:∀{l m:List Str},RiseS l→RiseS m→(∀y,y∈l↔y∈m)→l=m
 |[],[],_,_,_=>rfl
 |[],y::r,_,_,h=>absurd ((h y).mpr ms0) (by simp)
 |x::r,[],_,_,h=>absurd ((h x).mp ms0) (by simp)
 |x::r,y::q,h1,h2,h=>by
  obtain⟨a1,a2⟩:=List.pairwise_cons.mp h1
  obtain⟨b1,b2⟩:=List.pairwise_cons.mp h2
  have e:x=y:=by
   rcases List.mem_cons.mp ((h x).mp ms0) with e|m1
   ·exact e
   ·rcases List.mem_cons.mp ((h y).mpr ms0) with e|m2
    ·exact e.symm
    ·exact absurd (ltS_trans (b1 x m1) (a1 y m2)) (by rw[ltS_irrefl];exact fx0)
  subst e
  rw[rise_eq a2 b2 fun z=>⟨fun m=>?_,fun m=>?_⟩]
  ·rcases List.mem_cons.mp ((h z).mp (mc0 _ m)) with e|m'
   ·subst e;exact absurd (a1 z m) (by rw[ltS_irrefl];exact fx0)
   ·exact m'
  ·rcases List.mem_cons.mp ((h z).mpr (mc0 _ m)) with e|m'
   ·subst e;exact absurd (b1 z m) (by rw[ltS_irrefl];exact fx0)
   ·exact m'
theorem srtS_len (l:List Str):(srtS l).length≤l.length:=by
 induction l with
 |nil=>exact nr0 _
 |cons x r ih=>
  have:∀q:List Str,(insS x q).length≤q.length+1:=by
   intro q
   induction q with
   |nil=>exact nr0 _
   |cons y q ihq=>
    unfold insS
    split
    ·exact Nat.le_succ _
    ·split
     ·exact nr0 _
     ·simp only[lc0];omega
  have:=this (srtS r)
  rw[srtS,lc0]
  omega
end SI
namespace L2.Z
open PySem PySem.Spec PyProof.Rows L2 L2.C SI
theorem rise_of {ss:List Str}(h:sortedS ss=true)(n:ss.Nodup):RiseS ss:=by
 have go:∀(l:List Str) (p:Str),risingS p l=true→(p::l).Nodup→RiseS (p::l):=by
  intro l
  induction l with
  |nil=>intro p _ _;simp
  |cons x r ih=>
   intro p h n
   have h:(!ltCps x.cps.toList p.cps.toList&&risingS x r)=true:=h
   rw[be0,Bool.not_eq_true',ltCps_eq] at h
   obtain⟨n1,n2⟩:=List.nodup_cons.mp n
   have rr:=ih x h.2 n2
   have lt:ltS p x=true:=ltS_total (fun e=>n1 (by rw[e];exact ms0)) h.1
   refine List.pairwise_cons.mpr ⟨fun b hb=>?_,rr⟩
   rcases List.mem_cons.mp hb with e|hb
   ·rw[e];exact lt
   ·exact ltS_trans lt ((List.pairwise_cons.mp rr).1 b hb)
 cases ss with
 |nil=>exact List.Pairwise.nil
 |cons p l=>exact go l p h n
section
variable {X:Cx}{ρ:List Sl}{a e:Expr}{p p2 q pos:Pos}{d:D}{ds:List D}
noncomputable def IsSS (w:World)(l:Addr)(ks:List Str):Heap→Prop:=fun h=>∃xs ep,xs.map (·.1)=ks∧StrSet w h l xs ep
theorem vals_strs:∀{ss:List Str} {us:List Value},Vals (ss.map V.str) us→us.length=ss.length∧∀(j:Nat) (x:Str),ss[j]?=some x→∃tk,us[j]?=some (.str x tk)
 |[],[],_=>⟨rfl,fun j x h=>by simp at h⟩
 |y::r,u::us,.cons h1 h2=>by
  obtain⟨a,b⟩:=vals_strs h2
  refine⟨by simp[a],fun j x h=>?_⟩
  cases j with
  |zero=>
   simp at h;subst h
   obtain⟨tk,rfl⟩:=h1
   exact⟨tk,rfl⟩
  |succ j=>exact b j x (by simpa using h)
theorem vals_of_strs:∀{us:List Value} {ss:List Str},StrsAre us ss→Vals (ss.map V.str) us
 |_,_,.nil=>.nil
 |_,_,.cons x t r=>.cons ⟨t,rfl⟩ (vals_of_strs r)
theorem call_setS (hc:X.calm=true):CallR X (.type "set") (fun xs H Q=>∃(r:Addr) (ss:List Str),xs=[.ref r]∧SqL X.K H r (ss.map V.str)∧ss.length<64∧∀l (ks:List Str),H l=none→ks.Nodup→(∀y,y∈ks↔y∈ss)→ks.length≤ss.length→Q (.ref l) (upd H l (.ext (IsSS X.w l ks)))):=by
 intro pins s σ H xs us Q I r h
 obtain⟨rr,ss,rfl,hq,hz,k⟩:=h
 obtain⟨u,rfl,rx⟩:=vals1 r
 cases rx
 obtain⟨its,r',pl,_⟩:=I.list hq
 obtain⟨v1,v2⟩:=vals_strs r'
 refine call_set_strs (I.ok.hd hc) pl.isList (by rw[ls0,v1]) (by rw[ls0,v1];omega) (fun j x e=>by obtain⟨tk,e⟩:=v2 j x e;exact⟨tk,by simpa using e⟩) fun h' tk S ys ep fr hS nd mem len kk=>?_
 have gS:∃o,h'.get? S=some o:=let ⟨o,_,_,e,_⟩:=hS;⟨o,e⟩
 have hn:H S=none:=I.hok.fresh fr
 refine⟨.ref S,_,I.laid (t':=tk) kk fr (show ObjOk X.prog X.w _ _ _ (.ext _) from⟨⟨ys,ep,rfl,hS⟩,gS,fun h1 h2 ⟨a,b,c,d⟩ k2=>⟨a,b,c,d.keep k2⟩⟩),rfl,k S (ys.map (·.1)) hn nd mem (by rw[lm0];exact len)⟩
theorem inv_drawn {pins:List (Addr×Obj)}{σ:St}{H:Hp}{s:Shared}(I:Inv X pins σ H s)(d:Drawn):Inv X pins σ H {s with drawn:=d}:=
 ⟨I.ok,I.os,I.bare,I.base,I.loc,I.cell,I.free,I.freeC,I.pin,I.hok,I.len⟩
theorem call_sortedS (hc:X.calm=true):CallR X (.builtin "sorted") (fun xs H Q=>∃(l:Addr) (ks:List Str),xs=[.ref l]∧H l=some (.ext (IsSS X.w l ks))∧ks.length<64∧∀r (ss:List Str),H r=none→ss.Perm ks→sortedS ss=true→Q (.ref r) (upd H r (.lst (ss.map V.str)))):=by
 intro pins s σ H xs us Q I r h
 obtain⟨l,ks,rfl,hl,hz,k⟩:=h
 obtain⟨u,rfl,rx⟩:=vals1 r
 cases rx
 obtain⟨⟨xs,ep,rfl,hS⟩,_⟩:=(show ObjOk X.prog X.w H s.heap l (.ext _) from I.hok l _ hl)
 refine call_sorted_set (I.ok.hd hc) hS (by rw[lm0] at hz;exact hz) fun h' tk d D out n ss kk gD fr sa pe so=>?_
 have hlen:(ss.map V.str).length≤sizeLine:=by
  rw[lm0,pe.length_eq,lm0,sizeLine_eq]
  rw[lm0] at hz;omega
 refine⟨.ref D,_,((inv_drawn I d).laid (s:={s with drawn:=d}) (t':=tk) kk fr (show ObjOk X.prog X.w _ _ _ (.lst _) from⟨hlen,out.toList,n,vals_of_strs sa,by simpa using gD⟩)),rfl,k D ss (I.hok.fresh fr) pe so⟩
theorem boot_sorted':bootBuiltins ("sorted":Str)=some (.builtin "sorted"):=by decide +kernel
theorem boot_set':bootBuiltins ("set":Str)=some (.type "set"):=by decide +kernel
theorem strDps {K:Fg}{G:Hp}:∀{ds:List D} {vs:List V} {ss:List Str},strsOf ds=some ss→Dps K G ds vs→vs=ss.map V.str∧∀x∈ss,PyData.strOk x=true
 |[],_,_,h,.nil=>by cases h;exact⟨rfl,fun _ z=>by cases z⟩
 |.str x::r,_,_,h,.cons dd q=>by
  obtain⟨ss,e,rfl⟩:=mx0 (show (strsOf r).map (x::·)=some _ from h)
  obtain⟨e1,e2⟩:=strDps e q
  cases dd with
  |str _ ok=>
   refine⟨by rw[e1];rfl,fun y hy=>?_⟩
   rcases List.mem_cons.mp hy with z|z
   ·rw[z];exact ok
   ·exact e2 y z
theorem dpsStr {K:Fg}{G:Hp}:∀{ss:List Str},(∀x∈ss,PyData.strOk x=true)→Dps K G (ss.map .str) (ss.map V.str)
 |[],_=>.nil
 |x::r,h=>.cons (.str _ (h x ms0)) (dpsStr fun y hy=>h y (mc0 _ hy))
theorem srt_sound (hcalm:X.calm=true)(B1:Blt X "sorted")(B2:Blt X "set")(h:biD .srt ds=some d)(ha:Ea X ρ fl3 [a] ds)(hs:isStar a=false):Ev X ρ (.Call (.Name "sorted" p) [.Call (.Name "set" p2) [a] [] q] [] pos) d:=by
 match ds,h with
 |[.list ls],h=>
  obtain⟨ss,h1,h2⟩:=bx0 (show (strsOf ls).bind _=some d from h)
  have h2:(if ss.length<64 then some (D.list ((srtS ss).map .str)) else Option.none)=some d:=h2
  split at h2
  ·rename_i hz
   cases h2
   intro pins s σ H Q I h0
   obtain⟨G0,H0,G,E,k⟩:=h0
   have st:=starEach_cons (env:=X.env) (es:=[]) hs
   refine pe_callB (call_sortedS hcalm) B1.g B1.m boot_sorted' (pa_cons (pe_callTy (call_setS hcalm) B2.g B2.m boot_set' ha B2.n B2.d st rfl) pa_nil rfl) B1.n B1.d rfl rfl pins s σ H Q I ?_
   refine⟨G0,H0,G,E,fun vs G1 H1 e1 r1=>?_⟩
   obtain⟨v,rfl,hv⟩:=r1.one
   obtain⟨r,ws,rfl,h3,h4⟩:=hv.lst e1.gh
   obtain⟨rfl,oks⟩:=strDps h1 h4
   refine⟨r,ss,rfl,SqL.of h3,hz,fun l ks hl nd mem len=>?_⟩
   refine⟨l,ks,rfl,upd_same,by omega,fun r2 ss2 hr2 pe so=>?_⟩
   have e:ss2=srtS ss:=rise_eq (rise_of so (pe.nodup_iff.mpr nd)) (rise_srtS ss) fun y=>pe.mem_iff.trans ((mem y).trans (mem_srtS ss y).symm)
   subst e
   have e2:Ext G1 H1 G1 (upd H1 l (.ext (IsSS X.w l ks))):=.hid e1.gh hl
   exact k _ _ _ (e1.trans (e2.trans (.laid e2.gh hr2))) (.list upd_same ((dpsStr fun x hx=>oks x ((mem_srtS ss x).mp hx)).mono (Same.refl _)))
  ·cases h2
theorem fst_sound {x y:Str}{j:Nat}{p1:Pos}(ok:okStr x=true)(ha:Er X ρ a (.str y))(hz:x.length+y.length≤big):Ev X ρ (.JoinedStr [.Constant (.str x) j p1,.FormattedValue a (.negSucc 0) Option.none p2] pos) (.str (x++y)):=by
 intro pins s σ H Q I h0
 obtain⟨G0,H0,G,E,k⟩:=h0
 rw[big_eq] at hz
 have emp:(Str.empty++x:Str)=x:=str_ext (by show (Str.empty.cps++x.cps).toList=_;rw[Array.toList_append];rfl)
 refine wpAny_JoinedStr ?_
 refine wpAny_Constant_str ?_
 refine⟨x,_,rfl,by rw[emp];omega,?_⟩
 rw[emp]
 show wpAny (model X.prog X.w) X.A (eval (.FormattedValue a (-1) Option.none p2) X.env) _ _ _
 refine wpAny_FormattedValue_plain ?_
 refine thn (ha pins _ σ H (fun v H1=>v=.str y∧Q (.str (x++y)) H1) (I.tok _) ⟨G0,H0,G,E,fun v G1 H1 e1 r1=>?_⟩) fun v s1 ⟨vv,H1,I1,rv,e,qq⟩=>?_
 ·obtain⟨e,oky⟩:=r1.str
  exact⟨e,k _ G1 H1 e1 (.str _ (strOk_append (by rw[strOk_iff];exact fun c hc=>of_decide_eq_true (List.all_eq_true.mp ok c hc)) oky))⟩
 ·subst e
  obtain⟨tk,rfl⟩:=rv
  have len:(x++y).length≤sizeLine:=by
   have:(x++y).length=x.length+y.length:=by show (x.cps++y.cps).size=_;rw[Array.size_append];rfl
   omega
  have fin:∀(t:Tok) (s2:Shared),Inv X pins σ H1 s2→∃y' t',Value.str y t=.str y' t'∧(x++y').length≤sizeLine∧Joins (model X.prog X.w) X.A X.xe [] (x++y') (fun out s₁=>out.length≤sizeLine∧EP X pins σ Q (.str out s₁.toks) {s₁ with toks:=s₁.toks+1}) s2:=
   fun t s2 I2=>⟨y,t,rfl,len,len,.str _,H1,I2.tok _,⟨_,rfl⟩,qq⟩
  exact wpAny_formatField_str (fin _ _ I1) (fin _ _ (I1.tok _)) (by omega)
end
section
variable {X:Cx}{ρ:List Sl}{a b c e o:Expr}{es:List Expr}{p pos apos:Pos}{d d1 d2 d3:D}{ds:List D}
theorem ty_of {K:Fg}{G H:Hp}{v:V}(s:Same G H)(h:Dr K G H d v)(hd:∃b,isiD "int" d=some b):∃T,TyOf K H v (.type T)∧(d=.none∧T="NoneType"∨(∃b,d=.bool b)∧T="bool"∨(∃i,d=.int i)∧T="int"∨(∃x,d=.str x)∧T="str"∨(∃l,d=.tuple l)∧T="tuple"∨(∃l,d=.list l)∧T="list"∨(∃l,d=.dict l)∧T="dict"):=by
 cases d with
 |none=>rw[h.none];exact⟨_,.non,.inl ⟨rfl,rfl⟩⟩
 |bool b=>rw[h.bool];exact⟨_,.bl b,.inr (.inl ⟨⟨b,rfl⟩,rfl⟩)⟩
 |int i=>rw[h.int];exact⟨_,.int i,.inr (.inr (.inl ⟨⟨i,rfl⟩,rfl⟩))⟩
 |str x=>rw[h.str.1];exact⟨_,.str x,.inr (.inr (.inr (.inl ⟨⟨x,rfl⟩,rfl⟩)))⟩
 |tuple l=>obtain⟨a,vs,rfl,h1,_⟩:=h.tup s;exact⟨_,.tup h1,.inr (.inr (.inr (.inr (.inl ⟨⟨l,rfl⟩,rfl⟩))))⟩
 |list l=>obtain⟨a,vs,rfl,h1,_⟩:=h.lst s;exact⟨_,.lst h1,.inr (.inr (.inr (.inr (.inr (.inl ⟨⟨l,rfl⟩,rfl⟩)))))⟩
 |dict l=>obtain⟨a,vs,rfl,h1,_⟩:=h.dct s;exact⟨_,.dK h1,.inr (.inr (.inr (.inr (.inr (.inr ⟨⟨l,rfl⟩,rfl⟩)))))⟩
 |scr=>obtain⟨_,z⟩:=hd;cases z
 |vlt=>obtain⟨_,z⟩:=hd;cases z
 |hdl=>obtain⟨_,z⟩:=hd;cases z
 |exc=>obtain⟨_,z⟩:=hd;cases z
theorem call_isi {T:String}:CallR X (.builtin "isinstance") (fun vs H Q=>∃v t r,vs=[v,.ty T]∧TyOf X.K H v t∧PySem.W.kitOne X.K t (.type T)=some r∧Q (.bl r) H):=by
 intro pins s σ H xs us Q I r h
 obtain⟨v,t,b,rfl,ty,hk,q⟩:=h
 obtain⟨u,w',rfl,r1,r2⟩:=vals2 r
 cases r2
 exact isinst_ok I r1 ty hk fun tk=>⟨.bl b,H,I.tok tk,rfl,q⟩
theorem kit_int {K:Fg}:∀T,T="NoneType"∨T="bool"∨T="int"∨T="str"∨T="tuple"∨T="list"∨T="dict"→∀U,U="int"∨U="str"∨U="list"∨U="tuple"∨U="bool"→
  PySem.W.kitOne K (.type T) (.type U)=some ((T==U)||(T=="bool"&&U=="int")):=by
 rintro T (rfl|rfl|rfl|rfl|rfl|rfl|rfl) U (rfl|rfl|rfl|rfl|rfl)<;>rfl
theorem boot_isi:bootBuiltins ("isinstance":Str)=some (.builtin "isinstance"):=by decide +kernel
theorem tyOf_boot {x:Str}{T:String}(h:tyOf x=some T):bootBuiltins x=some (.type T)∧(T="int"∨T="str"∨T="list"∨T="tuple"∨T="bool"):=by
 unfold tyOf at h
 split at h
 ·rename_i c;subst c;cases h;exact⟨PyProof.Rows.boot_int,.inl rfl⟩
 split at h
 ·rename_i c;subst c;cases h;exact⟨PyProof.Rows.boot_str,.inr (.inl rfl)⟩
 split at h
 ·rename_i c;subst c;cases h;exact⟨PyProof.Rows.boot_list,.inr (.inr (.inl rfl))⟩
 split at h
 ·rename_i c;subst c;cases h;exact⟨PyProof.Rows.boot_tuple,.inr (.inr (.inr (.inl rfl)))⟩
 split at h
 ·rename_i c;subst c;cases h;exact⟨PyProof.Rows.boot_bool,.inr (.inr (.inr (.inr rfl)))⟩
 ·cases h
theorem isi_sound {x:Str}{T:String}{t:Bool}{px:Pos}(B:Blt X "isinstance")(Bx:Blt X x)(hT:tyOf x=some T)(ha:Er X ρ a d)(hs:isStar a=false)(h:isiD T d=some t):Ev X ρ (.Call (.Name "isinstance" p) [a,.Name x px] [] pos) (.bool t):=by
 obtain⟨hb,hU⟩:=tyOf_boot hT
 have pn:PE X (.Name x px) (tC (.ty T)):=pe_bltn Bx.g Bx.m hb rfl Bx.n Bx.d
 intro pins s σ H Q I h0
 obtain⟨G0,H0,G,E,k⟩:=h0
 refine pe_callB (call_isi (T:=T)) B.g B.m boot_isi (pa_cons ha (pa_cons pn pa_nil rfl) (starEach_cons hs)) (by decide) (by decide) (starEach_cons hs) rfl pins s σ H Q I ⟨G0,H0,G,E,fun v G1 H1 e1 r1=>?_⟩
 obtain⟨U,ty,alt⟩:=ty_of e1.gh r1 (by cases d<;>first|exact⟨_,rfl⟩|cases h)
 refine⟨v,.type U,t,rfl,ty,?_,k _ G1 H1 e1 (.bool _)⟩
 rcases alt with⟨rfl,rfl⟩|⟨⟨b,rfl⟩,rfl⟩|⟨⟨b,rfl⟩,rfl⟩|⟨⟨b,rfl⟩,rfl⟩|⟨⟨b,rfl⟩,rfl⟩|⟨⟨b,rfl⟩,rfl⟩|⟨⟨b,rfl⟩,rfl⟩<;>(cases h;rw[kit_int _ (by simp) _ hU];rcases hU with rfl|rfl|rfl|rfl|rfl<;>rfl)
theorem dps_strs {K:Fg}{G:Hp}:∀{ds:List D} {ys:List Str} {vs:List V},strsOf ds=some ys→Dps K G ds vs→vs=ys.map V.str∧∀y∈ys,PyData.strOk y=true
 |[],ys,vs,e,h=>by cases e;cases h;exact⟨rfl,fun _ z=>by cases z⟩
 |.str x::r,ys,vs,e,h=>by
  obtain⟨q,e1,rfl⟩:=mx0 (show (strsOf r).map (x::·)=some ys from e)
  cases h with
  |cons h t=>
   obtain⟨e2,o⟩:=dps_strs e1 t
   cases h with
   |str _ hy=>exact⟨by rw[e2];rfl,fun z hz=>(List.mem_cons.mp hz).elim (fun q=>q▸hy) (o z)⟩
 |.none::r,ys,vs,e,h=>by cases e
 |.bool _::r,ys,vs,e,h=>by cases e
 |.int _::r,ys,vs,e,h=>by cases e
 |.tuple _::r,ys,vs,e,h=>by cases e
 |.list _::r,ys,vs,e,h=>by cases e
 |.dict _::r,ys,vs,e,h=>by cases e
 |.scr _::r,ys,vs,e,h=>by cases e
 |.vlt ..::r,ys,vs,e,h=>by cases e
 |.hdl _::r,ys,vs,e,h=>by cases e
 |.exc _::r,ys,vs,e,h=>by cases e
theorem strs_dps {K:Fg}{G:Hp}:∀{ys:List Str},(∀y∈ys,PyData.strOk y=true)→Dps K G (ys.map .str) (ys.map V.str)
 |[],_=>.nil
 |y::ys,h=>.cons (.str y (h y ms0)) (strs_dps fun z hz=>h z (mc0 _ hz))
theorem strsAre_vals:∀{ys:List Str} {us:List Value},Vals (ys.map V.str) us→StrsAre us ys
 |[],_,.nil=>.nil
 |y::ys,_,.cons r t=>by
  obtain⟨tk,rfl⟩:=r
  exact .cons y tk (strsAre_vals t)
theorem vals_strsAre:∀{us:List Value} {ys:List Str},StrsAre us ys→Vals (ys.map V.str) us
 |_,_,.nil=>.nil
 |_,_,.cons y t r=>.cons ⟨t,rfl⟩ (vals_strsAre r)
theorem join_codes (sep:Str):∀(ys:List Str) (c:Nat),c∈(Str.join sep ys).cps.toList→c∈sep.cps.toList∨∃y∈ys,c∈y.cps.toList
 |[],c,h=>by cases h
 |[y],c,h=>.inr ⟨y,ms0,h⟩
 |y::z::r,c,h=>by
  have e:(Str.join sep (y::z::r)).cps.toList=y.cps.toList++sep.cps.toList++(Str.join sep (z::r)).cps.toList:=by
   show (y.cps++sep.cps++(Str.join sep (z::r)).cps).toList=_
   simp
  rw[e,List.mem_append,List.mem_append] at h
  rcases h with (h|h)|h
  ·exact .inr ⟨y,ms0,h⟩
  ·exact .inl h
  ·rcases join_codes sep (z::r) c h with q|⟨x,hx,q⟩
   ·exact .inl q
   ·exact .inr ⟨x,mc0 _ hx,q⟩
theorem strOk_join {sep:Str}{ys:List Str}(hs:PyData.strOk sep=true)(hy:∀y∈ys,PyData.strOk y=true):PyData.strOk (Txt.join sep ys)=true:=by
 rw[strOk_iff] at hs ⊢
 intro c hc
 have e:Txt.join sep ys=Str.join sep ys:=StrLaws.glued_eq_join sep ys
 rw[e] at hc
 rcases join_codes sep ys c hc with q|⟨y,h1,h2⟩
 ·exact hs c q
 ·exact strOk_iff.mp (hy y h1) c h2
noncomputable def rJoin (K:Fg):V→List V→Hp→VK→Prop:=fun x vs H Q=>∃sep a ys,x=.str sep∧vs=[.ref a]∧SqL K H a (ys.map V.str)∧(ys.map (·.length)).sum+ys.length*sep.length≤16777216∧Q (.str (Txt.join sep ys)) H
theorem mt_join:MtR X "str.join" (rJoin X.K):=by
 intro pins s σ H x xs v us Q I rx rs h
 obtain⟨sep,p,ys,rfl,rfl,hq,hz,q⟩:=h
 obtain⟨t,rfl⟩:=rx
 obtain⟨u,rfl,ru⟩:=Vals.one rs
 cases ru
 obtain⟨its,rv,pl,_⟩:=I.list hq
 exact join_list pl.isList (by simpa using strsAre_vals rv) hz fun t' k=>⟨.str _,H,I.tok k,⟨_,rfl⟩,q⟩
noncomputable def rSplit:V→List V→Hp→VK→Prop:=fun x vs H Q=>∃t sep,x=.str t∧vs=[.str sep]∧(sep.length==0)=false∧t.length+2≤sizeLine∧∀p,H p=none→Q (.ref p) (upd H p (.lst ((Txt.split t sep).map V.str)))
theorem split_push {prog:Program}{w:World}{A:Around}{E:Value→Shared→Prop}{s:Shared}{x y:Str}{t u:Tok}{Q:Value→Shared→Prop}(hy:(y.length==0)=false)(hsz:x.length+2≤sizeLine)
  (h:∀l k,l.map (·.1)=Txt.split x y→Q (.ref s.heap.objs.size) {s with heap:=s.heap.push {cls:=.type "list",data:=.seq (strValues l).toArray},toks:=k}):
  wpAny (model prog w) A (call (.builtin "str.split") [.str x t,.str y u]) Q E s:=by
 have hn:(Builtin.Str.partsBetween x (Builtin.Str.occurrences x y 0 x.length (x.length+1)) y.length).length≤sizeLine:=by
  have e1:=StrLaws.occ_length_le x y 0 x.length (x.length+1)
  rw[length_partsBetween];omega
 cases h1:(decide (x.length<y.length)||decide (Builtin.Str.strKind x<Builtin.Str.strKind y)) with
 |true=>
  refine call_meets PySem.F.slot_str_split (typeIs_str _ _ _) PySem.F.entry_str_split (PySem.F.args_str_split_2 _ _) (meets_str_split_cannot_occur x y t u h1) ?_
  exact h [(x,t)] s.toks (by unfold Txt.split;rw[if_pos h1];rfl)
 |false=>
  cases hf:(Builtin.Str.occurrences x y 0 x.length (x.length+1)).isEmpty with
  |true=>
   refine call_meets PySem.F.slot_str_split (typeIs_str _ _ _) PySem.F.entry_str_split (PySem.F.args_str_split_2 _ _) (meets_str_split_not_found x y t u h1 hy hf) ?_
   exact h [(x,t)] s.toks (by unfold Txt.split;rw[if_neg (by rw[h1];decide),if_pos hf];rfl)
  |false=>
   refine call_meets PySem.F.slot_str_split (typeIs_str _ _ _) PySem.F.entry_str_split (PySem.F.args_str_split_2 _ _) (meets_str_split_sep x y t u h1 hy hf (by omega) hn) ?_
   show wants Q E _ {s with toks:=_,heap:=s.heap.push {cls:=.type "list",data:=.seq (strsFrom s.toks (Builtin.Str.partsBetween x (Builtin.Str.occurrences x y 0 x.length (x.length+1)) y.length)).toArray}}
   rw[strsFrom_eq]
   refine h (numbered s.toks _) _ ?_
   rw[numbered_texts]
   unfold Txt.split
   rw[if_neg (by rw[h1];decide),if_neg (by rw[hf];decide)]
theorem split_len (x y:Str):(Txt.split x y).length≤x.length+2:=by
 unfold Txt.split
 split
 ·simp
 ·split
  ·simp
  ·have e1:=StrLaws.occ_length_le x y 0 x.length (x.length+1)
   rw[length_partsBetween];omega
theorem split_codes (x y:Str):∀p∈Txt.split x y,∀c∈p.cps.toList,c∈x.cps.toList:=by
 have sub:∀i j c,c∈(Builtin.Str.strSub x i j).cps.toList→c∈x.cps.toList:=fun i j c h=>by
  rw[StrLaws.strSub_toList] at h
  exact List.mem_of_mem_drop (List.mem_of_mem_take h)
 have parts:∀(w:Nat) (cuts:List Nat) (a:Nat),∀p∈StrLaws.partsFrom x w a cuts,∀c∈p.cps.toList,c∈x.cps.toList:=by
  intro w cuts
  induction cuts with
  |nil=>intro a p hp c hc;rw[List.mem_singleton.mp hp] at hc;exact sub _ _ c hc
  |cons d r ih=>
   intro a p hp c hc
   rcases List.mem_cons.mp hp with e|hp
   ·rw[e] at hc;exact sub _ _ c hc
   ·exact ih _ p hp c hc
 intro p hp c hc
 unfold Txt.split at hp
 split at hp
 ·rw[List.mem_singleton.mp hp] at hc;exact hc
 ·split at hp
  ·rw[List.mem_singleton.mp hp] at hc;exact hc
  ·rw[StrLaws.partsBetween_eq] at hp
   exact parts _ _ _ p hp c hc
theorem strOk_split {x y:Str}(h:PyData.strOk x=true):∀p∈Txt.split x y,PyData.strOk p=true:=fun p hp=>by
 rw[strOk_iff] at h ⊢
 exact fun c hc=>h c (split_codes x y p hp c hc)
theorem mt_split:MtR X "str.split" rSplit:=by
 intro pins s σ H x xs v us Q I rx rs h
 obtain⟨t,sep,rfl,rfl,hy,hz,q⟩:=h
 obtain⟨tk,rfl⟩:=rx
 obtain⟨u,rfl,ru⟩:=Vals.one rs
 obtain⟨tk',rfl⟩:=ru
 refine split_push hy hz fun l k e=>?_
 have rv:Vals ((Txt.split t sep).map V.str) (strValues l):=by rw[←e];exact vals_strsAre (strsAre_of_values l)
 have hl:((Txt.split t sep).map V.str).length≤sizeLine:=by
  rw[lm0]
  exact nt0 (split_len t sep) hz
 exact⟨.ref _,_,I.lnew (t':=k) rv hl,rfl,q _ I.fresh⟩
theorem base_of {name:Str}{env:Env}(h:isSuper o=false):attributeBase o name env (eval o env)=eval o env:=by
 have other:∀e:Expr,(∀id p pos,e≠.Call (.Name id p) [] [] pos)→attributeBase e name env (eval e env)=eval e env:=by
  intro e he
  unfold attributeBase
  split
  ·rename_i id p pos
   exact absurd rfl (he id p pos)
  ·rfl
 by_cases c:∃id p pos,o=.Call (.Name id p) [] [] pos
 ·obtain⟨id,p,pos,rfl⟩:=c
  have hid:(id==("super":Str))=false:=h
  unfold attributeBase
  show (if id != "super"||_||_||_ then _ else _)=_
  have:(id != ("super":Str))=true:=by unfold bne;rw[hid];rfl
  simp only[this,Bool.true_or,if_true]
 ·exact other o fun id p pos z=>c ⟨id,p,pos,z⟩
theorem me_sound {m:Str}{f:Mf}(hf:mthOf m=some f)(h:meD f d1 [d2]=some d)(ho:Er X ρ o d1)(ha:Er X ρ a d2)(hs:isStar a=false)(hsup:isSuper o=false)(hline:(apos.endLine==pos.line)=true):
  Ev X ρ (.Call (.Attribute o m apos) [a] [] pos) d∧(f=.split→En X ρ (.Call (.Attribute o m apos) [a] [] pos) d):=by
 have hS:=starEach_cons (es:=[]) (env:=X.env) hs
 have few:∀pos:Pos,((backTo pos (starEach [a] X.env)).all (fun x=>!x.1)&&(backToKw pos (keywordEach [] X.env)).all (fun x=>x.1.isSome)
   &&decide ([a].length+([]:List Keyword).length+(if ([]:List Keyword).isEmpty then 0 else 1)<30))=true:=fun pos=>by rw[hS];rfl
 unfold mthOf at hf
 split at hf
 ·rename_i c
  subst c
  cases hf
  have key:En X ρ (.Call (.Attribute o "split" apos) [a] [] pos) d:=by
   cases d1 with
   |str x=>cases d2 with
    |str sep=>
     rw[me_split] at h
     split at h
     ·rename_i c
      cases h
      rw[big_eq] at c
      intro pins s σ H Q I h0
      obtain⟨G0,H0,G,E,k⟩:=h0
      refine pe_bm PySem.F.plainAttrs_str PySem.F.slot_str_split PySem.F.type_str_split mt_split ho (pa_cons ha pa_nil hS) (base_of hsup) (few pos) hline hS rfl pins s σ H Q I ⟨G0,H0,G,E,fun v G1 H1 e1 r1=>?_⟩
      obtain⟨rfl,os⟩:=r1.str
      refine⟨rfl,G0,H0,G1,E.step e1,fun w G2 H2 e2 r2=>?_⟩
      obtain⟨rfl,oy⟩:=r2.str
      have e3:=e1.trans e2
      exact⟨x,sep,rfl,rfl,c.1,c.2,fun p hp=>k p G2 _ (e3.trans (.hid e3.gh hp)) (e3.gh.free hp) (e3.hh.free hp) (.inl ⟨_,_,rfl,upd_same,strs_dps (strOk_split os)⟩)⟩
     ·cases h
    |_=>cases h
   |_=>cases h
  exact⟨key.ev,fun _=>key⟩
 split at hf
 ·rename_i c
  subst c
  cases hf
  refine⟨?_,fun z=>by cases z⟩
  cases d1 with
  |str sep=>cases d2 with
   |list ls=>
    obtain⟨ys,e1,h⟩:=bx0 (show (strsOf ls).bind _=some d from h)
    split at h
    ·rename_i c
     cases h
     intro pins s σ H Q I h0
     obtain⟨G0,H0,G,E,k⟩:=h0
     refine pe_bm PySem.F.plainAttrs_str PySem.F.slot_str_join PySem.F.type_str_join mt_join ho (pa_cons ha pa_nil hS) (base_of hsup) (few pos) hline hS rfl pins s σ H Q I ⟨G0,H0,G,E,fun v G1 H1 e1 r1=>?_⟩
     obtain⟨rfl,os⟩:=r1.str
     refine⟨rfl,G0,H0,G1,E.step e1,fun w G2 H2 e2 r2=>?_⟩
     obtain⟨p,vs,rfl,h1,r⟩:=r2.lst e2.gh
     obtain⟨rfl,oy⟩:=dps_strs (by assumption) r
     exact⟨sep,p,ys,rfl,rfl,SqL.of h1,c,k _ G2 H2 (e1.trans e2) (.str _ (strOk_join os oy))⟩
    ·cases h
   |_=>cases h
  |_=>cases h
 ·cases hf
noncomputable def Pur (K:Fg)(φ:Fn):Sp:=fun vs H Q _=>∃ds d G,φ.run ds=some d∧Same G H∧Das K G H φ.lent ds vs∧∀v G' H',Ext G H G' H'→Dp K G' d v→Q v H'
structure FnZ (P:Program)(w:World)(K:Fg)(mg:Str→Option Value)(base:Heap)(k:Nat)(x:Str)(φ:Fn):Prop where
 ex:∃f fd ps,mg x=some (.ref f)∧PySem.W.keepIn K (.ref f)=true∧Binds K fd ps []∧FnOk P w K mg base CX0 k f fd ps (Pur K φ)
theorem call_sound {x:Str}{k:Nat}{φ:Fn}(F:FnZ X.prog X.w X.K X.mg X.base k x φ)(hr:Room k X.A)(hg:Gl X x)(hd:(x==("__debug__":Str))=false)(ha:Ea X ρ φ.lent (e::es) ds)(h:φ.run ds=some d)(hs:noStars (e::es)):
  Ev X ρ (.Call (.Name x p) (e::es) [] pos) d:=by
 obtain⟨f,fd,ps,hm,hk,hb,F⟩:=F.ex
 intro pins s σ H Q I h0
 obtain⟨G0,H0,G,E,k⟩:=h0
 exact pe_call F hr hg hm hk hb .nil pass0 ha hd (starEach_cons (hs e ms0)) (stars_any fun y hy=>hs y (mc0 _ hy)) pins s σ H Q I
  ⟨G0,H0,G,E,fun vs G1 H1 e1 r1=>⟨ds,d,G1,h,e1.gh,by rw[List.append_nil];exact r1,fun v G' H' e2 r2=>k v G' H' (e1.trans e2) r2⟩⟩
end
noncomputable def Its (x:Str):It:=⟨fun i _=>i<x.cps.size,fun i H v H'=>H'=H∧∃c,x.cps[i]?=some c∧v=.str ⟨#[c]⟩,fun i _=>i=x.cps.size⟩
theorem turn_str {P:Program}{w:World}{K:Fg}{tg:Expr}{T:String}(it:Addr)(x:Str)(t:Tok)(hn:["enumerate","zip","dict_itemiterator","dict_reverseitemiterator","odict_iterator","itertools.zip_longest","itertools.pairwise"].contains T=false)
  (W:∀A:Around,A.handled=none→Walks P w A it [it] [it] x.cps.size (SignAt x) (fun i h=>h.IsStrIter it T x t i))
  (S:∀(A:Around) (i:Nat) (s:Shared) (Q:Value→Shared→Prop) (E:Value→Shared→Prop),s.heap.IsStrIter it T x t i→Q (.ref it) s→wpAny (model P w) A (pyIter (.ref it)) Q E s):Turn P w K tg (Its x) [it] it (fun i h=>h.IsStrIter it T x t i) where
 mem:=by simp
 obj:=fun i h st b hb=>by
  have e:b=it:=by simpa using hb
  subst e
  obtain⟨o,e,c,d⟩:=st
  exact⟨o,e,fun v z=>by rw[d] at z;cases z⟩
 keep:=fun i h h' st k=>by
  obtain⟨o,e,r⟩:=st
  exact⟨o,k it (by simp) o e,r⟩
 item:=by
  intro X hP hw hK hc i pins s σ H E I hf st hg
  subst hP hw hK
  obtain⟨f0,f1,f2,f3,f4,f5⟩:=hf it (by simp)
  refine (W X.A (I.ok.hd hc)).item i s _ _ hg st fun v h' tk hv st' kk=>?_
  obtain⟨c,u,hc',rfl⟩:=hv
  have I1:Inv X pins σ H {s with heap:=h',toks:=tk}:=I.turned (fun b o hb e=>kk b o (by simpa using hb) e) f0 f1 f3 f4 f5
  obtain⟨o,e,c1,d1⟩:=id st'
  exact⟨_,rfl,go_of (s:={s with heap:=h',toks:=tk}) e c1 d1 hn ⟨.str ⟨#[c]⟩,H,I1,⟨u,rfl⟩,⟨rfl,c,hc',rfl⟩,st',fun b hb=>(hf b hb).1⟩⟩
 done:=by
  intro X hP hw hK hc i pins s σ H E I hf st hg
  subst hP hw hK
  have hg:i=x.cps.size:=hg
  subst hg
  obtain⟨f0,f1,f2,f3,f4,f5⟩:=hf it (by simp)
  exact (W X.A (I.ok.hd hc)).done s _ _ st fun h' tk kk=>⟨rfl,I.turned (fun b o hb e=>kk b o (by simpa using hb) e) f0 f1 f3 f4 f5⟩
 self:=S
section
variable {X:Cx}{tg:Expr}
theorem pi_str {l:Expr}{tl:TE}(hl:PE X l tl):PI X tg l (fun σ H R=>tl σ H fun x H1=>∃t,x=.str t∧R (Its t) H1):=by
 intro pins s σ H R I h
 refine thn (hl pins s σ H _ I h) fun v s1 ⟨x,H1,I1,r1,q1⟩=>?_
 obtain⟨a,e,q⟩:=q1
 subst e
 obtain⟨t,rfl⟩:=r1
 have fin:∀(T:String) (o:Obj),["enumerate","zip","dict_itemiterator","dict_reverseitemiterator","odict_iterator","itertools.zip_longest","itertools.pairwise"].contains T=false→o={cls:=.type T,data:=.fields #[.str a t,.int 0 0]}→
   (∀A:Around,A.handled=none→Walks X.prog X.w A s1.heap.objs.size [s1.heap.objs.size] [s1.heap.objs.size] a.cps.size (SignAt a) (fun i h=>h.IsStrIter s1.heap.objs.size T a t i))→
   (∀(A:Around) (i:Nat) (s:Shared) (Q:Value→Shared→Prop) (E:Value→Shared→Prop),s.heap.IsStrIter s1.heap.objs.size T a t i→Q (.ref s1.heap.objs.size) s→wpAny (model X.prog X.w) A (pyIter (.ref s1.heap.objs.size)) Q E s)→PIE X pins σ tg R (.ref s1.heap.objs.size) {s1 with heap:=s1.heap.push o}:=fun T o hn ho W S=>by
  subst ho
  refine⟨s1.heap.objs.size,[s1.heap.objs.size],_,_,H1,rfl,I1.kept (t':=s1.toks) fun b o e=>ps0 _ e,turn_str _ a t hn W S,⟨_,pz0 _ rfl,rfl,rfl⟩,fun b hb=>?_,q⟩
  have e:b=s1.heap.objs.size:=by simpa using hb
  subst e
  exact I1.fpOk (nr0 _) (I1.hok.fresh (nr0 _))
 cases ha:a.cps.all (·<128)
 ·exact wpAny_pyIter_wide ha (fin _ _ (by decide) rfl (fun A hA=>Walks.strWide hA _ a t) fun _ _ _ _ _ st h=>wpAny_pyIter_striter_wide st h)
 ·exact wpAny_pyIter_ascii ha (fin _ _ (by decide) rfl (fun A hA=>Walks.strAscii hA _ a t) fun _ _ _ _ _ st h=>wpAny_pyIter_striter_ascii st h)
end
noncomputable def tEk (K:Fg)(ρ:List Sl)(d:D):TE:=fun σ H Q=>∃G0 H0 G,EnvD K G0 H0 G H σ ρ∧∀v G' H',Ext G H G' H'→Dr K G' H0 d v→Q v H'
noncomputable def Ek (X:Cx)(ρ:List Sl)(e:Expr)(d:D):Prop:=PE X e (tEk X.K ρ d)
section
variable {X:Cx}{ρ:List Sl}{a b c e o iter:Expr}{es:List Expr}{p pos apos:Pos}{d d1 d2 d3:D}{ds:List D}
theorem Ev.ek {e:Expr}(h:Ev X ρ e d):Ek X ρ e d:=fun pins s σ H Q I ⟨G0,H0,G,E,k⟩=>h pins s σ H Q I ⟨G0,H0,G,E,fun v G' H' e r=>k v G' H' e (.of r)⟩
theorem Dr.monoG {K:Fg}{G G' H:Hp}{v:V}(s:Same G G'):Dr K G H d v→Dr K G' H d v
 |.of h=>.of (h.mono s)
 |.list h r=>.list h (r.mono s)
 |.dict h r=>.dict h (r.mono s)
 |.vlt h1 h2 r=>.vlt h1 h2 (r.mono s)
theorem ek_var (i:Nat){x:Str}{pos:Pos}(h:(ρ[i]?).bind (datsOf .walk)=some d)(hN:X.N[i]?=some x)(hv:Vis X.env.scope x)(hd:(x==("__debug__":Str))=false)(hcd:(x==("__classdict__":Str))=false):Ek X ρ (.Name x pos) d:=fun pins s σ H Q I ⟨G0,H0,G,E,k⟩=>by
 obtain⟨sl,h1,h2⟩:=bx0 h
 have:∃v,σ[i]?=some (some v)∧Dr X.K G H0 d v:=by
  cases sl with
  |no=>cases h2
  |dat d'=>cases h2;obtain⟨v,a,b⟩:=E.dat i d h1;exact⟨v,a,.of b⟩
  |lent d'=>cases h2;obtain⟨v,a,b⟩:=E.lent i d h1;exact⟨v,a,b.monoG E.ext.gg⟩
  |own d'=>cases h2
  |deep rows=>cases h2
 obtain⟨v,e,r⟩:=this
 exact pe_var hN hv hd hcd pins s σ H Q I ⟨v,e,k v G H (.refl E.sub) r⟩
structure SrcOk (K:Fg)(G1 Hb:Hp)(J:It)(ds:List D):Prop where
 go:∀i H',i<ds.length→Same G1 H'→Same Hb H'→J.go i H'
 yld:∀i G' H' x H2 d,ds[i]?=some d→Same G1 G'→Same G' H'→Same Hb H'→J.yld i H' x H2→∃G2,Ext G' H' G2 H2∧Dp K G2 d x
 stop:∀H',Same G1 H'→Same Hb H'→J.stop ds.length H'
theorem src_list {K:Fg}{G1 Hb:Hp}{a:Addr}{vs:List V}(hq:∀H',Same G1 H'→Same Hb H'→SqL K H' a vs)(r:Dps K G1 ds vs):SrcOk K G1 Hb (Itl K a) ds where
 go:=fun i H' hi hs hb=>by
  have hl:i<vs.length:=by rw[←r.length];exact hi
  exact⟨vs,vs[i],hq H' hs hb,ge0 hl⟩
 yld:=fun i G' H' x H2 b hb g1 g2 g3 y=>by
  obtain⟨e,y⟩:=y
  subst e
  have:=y vs (hq _ (g1.trans g2) g3)
  obtain⟨v,e,d⟩:=r.get hb
  rw[this] at e
  cases e
  exact⟨G',.refl g2,d.mono g1⟩
 stop:=fun H' hs hb=>⟨vs,hq H' hs hb,by rw[←r.length];exact nr0 _⟩
theorem src_tup {K:Fg}{G1 Hb:Hp}{a:Addr}{vs:List V}(hq:∀H',Same G1 H'→Same Hb H'→SqT K H' a vs)(r:Dps K G1 ds vs):SrcOk K G1 Hb (Itt K a) ds where
 go:=fun i H' hi hs hb=>by
  have hl:i<vs.length:=by rw[←r.length];exact hi
  exact⟨vs,vs[i],hq H' hs hb,ge0 hl⟩
 yld:=fun i G' H' x H2 b hb g1 g2 g3 y=>by
  obtain⟨e,y⟩:=y
  subst e
  have:=y vs (hq _ (g1.trans g2) g3)
  obtain⟨v,e,d⟩:=r.get hb
  rw[this] at e
  cases e
  exact⟨G',.refl g2,d.mono g1⟩
 stop:=fun H' hs hb=>⟨vs,hq H' hs hb,by rw[←r.length];exact nr0 _⟩
theorem src_range {K:Fg}{G1 Hb:Hp}(lo:Int)(n:Nat):SrcOk K G1 Hb (Itr lo n) ((List.range n).map fun (k:Nat)=>.int (lo+k)) where
 go:=fun i H' hi _ _=>by rw[lm0,List.length_range] at hi;exact hi
 yld:=fun i G' H' x H2 b hb g1 g2 _ y=>by
  obtain⟨e,y⟩:=y
  subst e y
  have hi:i<n:=by have:=(List.getElem?_eq_some_iff.mp hb).1;rwa [lm0,List.length_range] at this
  rw[List.getElem?_map,List.getElem?_range hi] at hb
  cases hb
  exact⟨G',.refl g2,.int _⟩
 stop:=fun H' _ _=>by show n≤_;rw[lm0,List.length_range];exact nr0 _
theorem src_str {K:Fg}{G1 Hb:Hp}{x:Str}(ok:PyData.strOk x=true):SrcOk K G1 Hb (Its x) (x.cps.toList.map fun c=>.str ⟨#[c]⟩) where
 go:=fun i H' hi _ _=>by rw[lm0,Array.length_toList] at hi;exact hi
 yld:=fun i G' H' v H2 b hb g1 g2 _ y=>by
  obtain⟨e,c,hc,y⟩:=y
  subst e y
  rw[List.getElem?_map,Array.getElem?_toList,hc] at hb
  cases hb
  refine⟨G',.refl g2,.str _ (strOk_one ?_)⟩
  rw[←Array.getElem?_toList] at hc
  exact strOk_iff.mp ok c (List.mem_of_getElem? hc)
 stop:=fun H' _ _=>by show _=x.cps.size;rw[lm0,Array.length_toList]
theorem ints_dps {K:Fg}{G:Hp}:∀ns:List Int,Dps K G (ns.map .int) (ns.map V.int)
 |[]=>.nil
 |n::r=>.cons (.int n) (ints_dps r)
noncomputable def tSi (K:Fg)(ρ:List Sl)(wk:Bool)(ds:List D):TI:=fun σ H R=>∃G0 H0 G,EnvD K G0 H0 G H σ ρ∧∀J G' H',Ext G H G' H'→SrcOk K G' (if wk then H0 else H') J ds→R J H'
noncomputable def Si (X:Cx)(ρ:List Sl)(wk:Bool)(iter:Expr)(ds:List D):Prop:=∀tg,PI X tg iter (tSi X.K ρ wk ds)
theorem si_items {ds':List D}{d:D}(h:itemsD d=some ds')(hk:Ek X ρ iter d):Si X ρ true iter ds':=by
 intro tg pins s σ H R I h0
 obtain⟨G0,H0,G,E,k⟩:=h0
 cases d with
 |list ls=>
  cases h
  refine pi_list hk pins s σ H R I ⟨G0,H0,G,E,fun v G1 H1 e1 r1=>?_⟩
  have now:=(E.step e1).ext.hh
  cases r1 with
  |of r1=>cases r1 with
   |list hq r=>exact⟨_,rfl,⟨_,SqL.of (e1.gh _ _ hq)⟩,k _ G1 H1 e1 (src_list (fun H' g _=>SqL.of (g _ _ hq)) r)⟩
  |list hq r=>exact⟨_,rfl,⟨_,SqL.of (now _ _ hq)⟩,k _ G1 H1 e1 (src_list (fun H' _ g=>SqL.of (g _ _ hq)) r)⟩
 |tuple ls=>
  cases h
  refine pi_tup hk pins s σ H R I ⟨G0,H0,G,E,fun v G1 H1 e1 r1=>?_⟩
  cases r1 with
  |of r1=>cases r1 with
   |tuple hq r=>exact⟨_,rfl,⟨_,SqT.of (e1.gh _ _ hq)⟩,k _ G1 H1 e1 (src_tup (fun H' g _=>SqT.of (g _ _ hq)) r)⟩
 |scr ns=>
  cases h
  refine pi_list hk pins s σ H R I ⟨G0,H0,G,E,fun v G1 H1 e1 r1=>?_⟩
  cases r1 with
  |of r1=>cases r1 with
   |scr hq=>exact⟨_,rfl,⟨_,e1.gh.seq hq⟩,k _ G1 H1 e1 (src_list (fun H' g _=>g.seq hq) (ints_dps ns))⟩
 |str x=>
  rw[items_str] at h
  split at h
  ·cases h
   refine pi_str hk pins s σ H R I ⟨G0,H0,G,E,fun v G1 H1 e1 r1=>?_⟩
   obtain⟨rfl,ok⟩:=r1.str
   exact⟨_,rfl,k _ G1 H1 e1 (src_str ok)⟩
  ·cases h
 |_=>cases h
theorem si_itemsR {ds':List D}{d:D}(h:itemsD d=some ds')(hk:Er X ρ iter d):Si X ρ false iter ds':=by
 intro tg pins s σ H R I h0
 obtain⟨G0,H0,G,E,k⟩:=h0
 cases d with
 |list ls=>
  cases h
  refine pi_list hk pins s σ H R I ⟨G0,H0,G,E,fun v G1 H1 e1 r1=>?_⟩
  obtain⟨p,vs,rfl,hq,r⟩:=r1.lst e1.gh
  exact⟨_,rfl,⟨_,SqL.of hq⟩,k _ G1 H1 e1 (src_list (fun H' _ g=>SqL.of (g _ _ hq)) r)⟩
 |tuple ls=>
  cases h
  refine pi_tup hk pins s σ H R I ⟨G0,H0,G,E,fun v G1 H1 e1 r1=>?_⟩
  obtain⟨p,vs,rfl,hq,r⟩:=r1.tup e1.gh
  exact⟨_,rfl,⟨_,SqT.of hq⟩,k _ G1 H1 e1 (src_tup (fun H' _ g=>SqT.of (g _ _ hq)) r)⟩
 |scr ns=>
  cases h
  refine pi_list hk pins s σ H R I ⟨G0,H0,G,E,fun v G1 H1 e1 r1=>?_⟩
  obtain⟨p,rfl,hq⟩:=r1.scr e1.gh
  exact⟨_,rfl,⟨_,hq⟩,k _ G1 H1 e1 (src_list (fun H' _ g=>g.seq hq) (ints_dps ns))⟩
 |str x=>
  rw[items_str] at h
  split at h
  ·cases h
   refine pi_str hk pins s σ H R I ⟨G0,H0,G,E,fun v G1 H1 e1 r1=>?_⟩
   obtain⟨rfl,ok⟩:=r1.str
   exact⟨_,rfl,k _ G1 H1 e1 (src_str ok)⟩
  ·cases h
 |_=>cases h
theorem rOk_bd {n:Int}(h:rOk n=true):-(2 ^ 62)≤n∧n<2 ^ 62:=by
 unfold rOk at h
 rw[be0] at h
 exact⟨of_decide_eq_true h.1,of_decide_eq_true h.2⟩
theorem si_range1 {wk:Bool}{n:Int}{p pos:Pos}(B:Blt X "range")(ha:Ev X ρ a (.int n))(h:rOk n=true)(hs:isStar a=false):Si X ρ wk (.Call (.Name "range" p) [a] [] pos) ((List.range n.toNat).map fun (k:Nat)=>.int k):=by
 have e:((List.range n.toNat).map fun (k:Nat)=>D.int k)=(List.range n.toNat).map fun (k:Nat)=>.int (0+k):=by simp
 rw[e]
 intro tg pins s σ H R I h0
 obtain⟨G0,H0,G,E,k⟩:=h0
 refine pi_range1 B.g B.m (ea_consV (fl:=[]) ha ea_nil hs) (by rw[starEach_cons hs];rfl) pins s σ H R I ⟨G0,H0,G,E,fun vs G1 H1 e1 r1=>?_⟩
 obtain⟨v,rfl,hv⟩:=r1.one
 exact⟨n,by rw[hv.int],(rOk_bd h).1,(rOk_bd h).2,k _ G1 H1 e1 (src_range 0 n.toNat)⟩
end
section
variable {X:Cx}{ρ:List Sl}{a b c e o iter tg:Expr}{es:List Expr}{p pos apos:Pos}{d d1 d2 d3:D}{ds:List D}
end
end L2.Z
namespace PySem
namespace F
end F
section
variable {prog:Program}{w:World}{A:Around}{E:Value→Shared→Prop}{s:Shared}
end
end PySem
namespace L2.Z
open PySem PySem.Spec PyProof.Rows L2 L2.C SI
section
variable {X:Cx}{ρ:List Sl}{a b c e o iter tg:Expr}{es:List Expr}{p pos apos:Pos}{d d1 d2 d3:D}{ds:List D}
end
end L2.Z
namespace PySem
section
variable {prog:Program}{w:World}{A:Around}{E:Value→Shared→Prop}{s:Shared}
theorem sb_get {a b:Addr}{h h':Heap}{o:Option Obj}(sb:Heap.SameBut a h h')(hn:b≠a)(e:h.get? b=o):h'.get? b=o:=(sb.2 b hn).trans e
namespace F
end F
end
end PySem
namespace L2.Z
open PySem PySem.Spec PyProof.Rows L2 L2.C SI
section
variable {X:Cx}{pins:List (Addr×Obj)}{σ:St}{H:Hp}{s:Shared}{h':Heap}
theorem turnedL {t':Nat}{fp:List Addr}(I:Inv X pins σ H s)(hf:∀b∈fp,FpOk X pins H b)(k:∀b o,b∉fp→s.heap.get? b=some o→h'.get? b=some o):Inv X pins σ H {s with heap:=h',toks:=t'}:=by
 have nit:∀b u,H b=some u→b∉fp:=fun b u e z=>by rw[(hf b z).1] at e;cases e
 refine I.step (g':=s.gens) (d':=s.drawn) (ch:=fp) (fun b hb=>?_) (fun b o _ _ hc e _=>k b o hc e) (fun b o _ _ hc e _=>⟨o.slots,k b o hc e⟩) (fun _ _ _ _ n=>n)
  (fun b o hc e=>⟨o,k b o hc e⟩) (fun _ _ e=>e) (fun _ _ _ e=>e) (fun b ps e=>⟨#[],by rw[e];simp⟩) (fun m hm=>?_) (fun b u e=>?_) I.bare
 ·obtain⟨_,f1,f2,f3,f4,f5⟩:=hf b hb
  exact⟨f3,f1,f4,f5⟩
 ·obtain⟨o,es,ep,ho,r⟩:=hm
  exact⟨o,es,ep,k _ o (fun z=>(hf _ z).2.1 rfl) ho,r⟩
 ·refine (I.hok b u e).stay (fun c v hc q=>k c v ?_ q) (fun _ q=>q) fun _ _ q=>q
  rcases hc with z|z
  ·rw[z];exact nit b u e
  ·exact nit c _ z
theorem turnLaid {t':Nat}{fp:List Addr}{T:Addr}{o:HO}(I:Inv X pins σ H s)(hf:∀b∈fp,FpOk X pins H b)(k:∀b o,b∉fp→s.heap.get? b=some o→h'.get? b=some o)(hT:s.heap.objs.size≤T)
  (new:ObjOk X.prog X.w (upd H T o) h' T o):Inv X pins σ (upd H T o) {s with heap:=h',toks:=t'}:=by
 have nit:∀b u,H b=some u→b∉fp:=fun b u e z=>by rw[(hf b z).1] at e;cases e
 have nT:∀b u,s.heap.get? b=some u→b≠T:=fun b u e z=>by subst z;exact absurd (nl0 (hs0 e) hT) (Nat.lt_irrefl _)
 have nH:∀b u,H b=some u→b≠T:=fun b u e z=>by subst z;exact absurd (nl0 (I.hok b u e).lt hT) (Nat.lt_irrefl _)
 refine I.step (g':=s.gens) (d':=s.drawn) (ch:=fp) (fun b hb=>?_) (fun b o _ _ hc e _=>k b o hc e) (fun b o _ _ hc e _=>⟨o.slots,k b o hc e⟩) (fun b o _ e n=>by rw[upd_ne (nT b o e)];exact n)
  (fun b o hc e=>⟨o,k b o hc e⟩) (fun b _ e=>by rw[upd_ne (nH b _ e)];exact e) (fun b _ _ e=>by rw[upd_ne (nH b _ e)];exact e) (fun b ps e=>⟨#[],by rw[upd_ne (nH b _ e),e];simp⟩) (fun m hm=>?_) (fun b u e=>?_) I.bare
 ·obtain⟨_,f1,f2,f3,f4,f5⟩:=hf b hb
  exact⟨f3,f1,f4,f5⟩
 ·obtain⟨o,es,ep,ho,r⟩:=hm
  exact⟨o,es,ep,k _ o (fun z=>(hf _ z).2.1 rfl) ho,r⟩
 ·by_cases hb:b=T
  ·subst hb
   rw[upd_same] at e
   cases e
   exact new
  ·rw[upd_ne hb] at e
   refine (I.hok b u e).stay (fun c v hc q=>k c v ?_ q) (fun c q=>by rw[upd_ne (nH c _ q)];exact q) fun c _ q=>by rw[upd_ne (nH c _ q)];exact q
   rcases hc with z|z
   ·rw[z];exact nit b u e
   ·exact nit c _ z
end
theorem ne_cls {h:Heap}{a b:Addr}{o u:Obj}(ha:h.get? a=some o)(hb:h.get? b=some u)(hc:o.cls≠u.cls):a≠b:=fun e=>by subst e;rw[ha] at hb;cases hb;exact hc rfl
section
variable {X:Cx}{ρ:List Sl}{a b c:Expr}{p pos:Pos}
theorem boot_zip:bootBuiltins ("zip":Str)=some (.type "zip"):=by decide +kernel
end
noncomputable def Itp (K:Fg)(l1 l2:Addr)(n:Nat):It:=
 ⟨fun i H=>i<n∧∃xs ys,SqL K H l1 xs∧SqL K H l2 ys∧n≤xs.length∧ys.length=n,
  fun i H x H'=>∃T,x=.ref T∧H T=none∧∀xs ys,SqL K H l1 xs→SqL K H l2 ys→∃a b,xs[i]?=some a∧ys[i]?=some b∧H'=upd H T (.tup [a,b]),
  fun i H=>i=n∧∃xs ys,SqL K H l1 xs∧SqL K H l2 ys∧ys.length=n⟩
noncomputable def Pst (z TI TO i1 i2 l1 l2:Addr)(i:Nat)(h:Heap):Prop:=
 IsZip h z TI TO .none∧IsPair h TI (.ref i1) (.ref i2)∧(∃a b,IsPair h TO a b)∧h.IsListIter i1 l1 i∧h.IsListIter i2 l2 i
theorem zip2_apart {h:Heap}{z TI TO i1 i2 l1 l2:Addr}{a b:Value}{k1 k2:Nat}{xs ys:Array Value}(hTT:TI≠TO)(h12:i1≠i2)(hz:IsZip h z TI TO .none)(ht:IsPair h TI (.ref i1) (.ref i2))(ho:IsPair h TO a b)
  (q1:h.IsListIter i1 l1 k1) (q2:h.IsListIter i2 l2 k2) (p1:h.IsList l1 xs) (p2:h.IsList l2 ys):ZipApart z TI TO i1 i2 l1 l2:=by
 obtain⟨o1,e1,c1,_⟩:=q1
 obtain⟨o2,e2,c2,_⟩:=q2
 obtain⟨o3,e3,c3,_⟩:=p1
 obtain⟨o4,e4,c4,_⟩:=p2
 have cz:∀{x:Addr} {o:Obj},h.get? x=some o→o.cls≠.type "zip"→x≠z:=fun e hn=>ne_cls e hz hn
 have ct:∀{x:Addr} {o:Obj},h.get? x=some o→o.cls≠.type "tuple"→x≠TO:=fun e hn=>ne_cls e ho hn
 have cI:∀{x:Addr} {o:Obj},h.get? x=some o→o.cls≠.type "tuple"→x≠TI:=fun e hn=>ne_cls e ht hn
 exact⟨cz ht (show Value.type "tuple"≠Value.type "zip" by decide),cz ho (show Value.type "tuple"≠Value.type "zip" by decide),cz e1 (by rw[c1];decide),cz e2 (by rw[c2];decide),hTT,(cI e1 (by rw[c1];decide)).symm,(cI e2 (by rw[c2];decide)).symm,
  (ct e1 (by rw[c1];decide)).symm,(ct e2 (by rw[c2];decide)).symm,h12,cz e3 (by rw[c3];decide),ct e3 (by rw[c3];decide),ne_cls e3 e1 (by rw[c3,c1];decide),ne_cls e3 e2 (by rw[c3,c2];decide),
  cz e4 (by rw[c4];decide),ct e4 (by rw[c4];decide),ne_cls e4 e1 (by rw[c4,c1];decide),ne_cls e4 e2 (by rw[c4,c2];decide)⟩
theorem turn_zip2 {P:Program}{w:World}{K:Fg}{elts:List Expr}{tk:Nat}{tpos:Pos}{z TI TO i1 i2 l1 l2:Addr}(n:Nat)(hTT:TI≠TO)(h12:i1≠i2):
  Turn P w K (.Tuple elts tk tpos) (Itp K l1 l2 n) [z,TI,TO,i1,i2] z (Pst z TI TO i1 i2 l1 l2) where
 mem:=by simp
 obj:=fun i h st b hb=>by
  obtain⟨hz,ht,⟨a,c,ho⟩,⟨o1,e1,c1,d1⟩,⟨o2,e2,c2,d2⟩⟩:=st
  simp only[List.mem_cons,List.not_mem_nil,or_false] at hb
  rcases hb with rfl|rfl|rfl|rfl|rfl
  ·exact⟨_,hz,fun v q=>by cases q⟩
  ·exact⟨_,ht,fun v q=>by cases q⟩
  ·exact⟨_,ho,fun v q=>by cases q⟩
  ·exact⟨_,e1,fun v q=>by rw[d1] at q;cases q⟩
  ·exact⟨_,e2,fun v q=>by rw[d2] at q;cases q⟩
 keep:=fun i h h' st k=>by
  obtain⟨hz,ht,⟨a,c,ho⟩,q1,q2⟩:=st
  exact⟨k _ (by simp) _ hz,k _ (by simp) _ ht,⟨a,c,k _ (by simp) _ ho⟩,q1.at (k _ (by simp)),q2.at (k _ (by simp))⟩
 item:=by
  intro X hP hw hK hc i pins s σ H E I hf st hg
  subst hP hw hK
  obtain⟨hi,xs,ys,s1,s2,n1,n2⟩:=hg
  obtain⟨it1,rv1,p1,z1⟩:=I.list s1
  obtain⟨it2,rv2,p2,z2⟩:=I.list s2
  have g1:xs[i]?=some (xs[i]'(by omega)):=ge0 _
  have g2:ys[i]?=some (ys[i]'(by omega)):=ge0 _
  generalize xs[i]'(by omega)=va at g1
  generalize ys[i]'(by omega)=vb at g2
  obtain⟨u1,hu1,ru1⟩:=rv1.get g1
  obtain⟨u2,hu2,ru2⟩:=rv2.get g2
  obtain⟨hz,ht,⟨a,b,ho⟩,q1,q2⟩:=st
  have ap:=zip2_apart hTT h12 hz ht ho q1 q2 p1.isList p2.isList
  refine wpAny_pyNext_zip_item ap hz ht ho q1 q2 p1.isList p2.isList (x:=u1) (y:=u2) (by simpa using hu1) (by simpa using hu2) fun h1 a1 a3 a4 a5 a7 a8 a9=>⟨_,rfl,?_⟩
  refine wpAny_letOwnedTupleGo_zip a1 fun h2 b1 sb=>?_
  have nz:s.heap.objs.size≠z:=fun e=>by have:=hs0 hz;rw[←e] at this;exact absurd this (Nat.lt_irrefl _)
  have kk:∀b o,b∉[z,TI,TO,i1,i2]→s.heap.get? b=some o→h2.get? b=some o:=fun b o hb e=>by
   simp only[List.mem_cons,List.not_mem_nil,or_false,not_or] at hb
   exact sb_get sb hb.1 (a9 b o hb.1 hb.2.2.1 hb.2.2.2.1 hb.2.2.2.2 e)
  have I2:=turnLaid (h':=h2) (t':=s.toks) (o:=.tup [va,vb]) I hf kk (nr0 _) ⟨(show 2≤sizeLine by decide),[u1,u2],.cons ru1 (.cons ru2 .nil),⟨_,sb_get sb nz a7,rfl,_,rfl⟩⟩
  refine⟨.ref s.heap.objs.size,_,I2,rfl,⟨_,rfl,I.fresh,fun xs' ys' t1 t2=>⟨va,vb,by rw[I.list_inj t1 s1];exact g1,by rw[I.list_inj t2 s2];exact g2,rfl⟩⟩,?_,fun b hb=>?_⟩
  ·exact⟨b1,sb_get sb ap.TIz (a9 TI _ ap.TIz ap.TITO ap.TIi1 ap.TIi2 ht),⟨_,_,sb_get sb ap.TOz a3⟩,a4.at fun o e=>sb_get sb ap.i1z e,a5.at fun o e=>sb_get sb ap.i2z e⟩
  ·have hb0:=(hf b hb).1
   rw[upd_ne]
   ·exact hb0
   ·intro e
    have hlt:∃o,s.heap.get? b=some o:=by
     simp only[List.mem_cons,List.not_mem_nil,or_false] at hb
     obtain⟨o1,e1,_⟩:=q1
     obtain⟨o2,e2,_⟩:=q2
     rcases hb with rfl|rfl|rfl|rfl|rfl
     ·exact⟨_,hz⟩
     ·exact⟨_,ht⟩
     ·exact⟨_,ho⟩
     ·exact⟨_,e1⟩
     ·exact⟨_,e2⟩
    obtain⟨o,eo⟩:=hlt
    have:=hs0 eo
    rw[e] at this
    exact absurd this (Nat.lt_irrefl _)
 done:=by
  intro X hP hw hK hc i pins s σ H E I hf st hg
  subst hP hw hK
  obtain⟨rfl,xs,ys,s1,s2,n2⟩:=hg
  obtain⟨it1,rv1,p1,z1⟩:=I.list s1
  obtain⟨it2,rv2,p2,z2⟩:=I.list s2
  obtain⟨hz,ht,⟨a,b,ho⟩,q1,q2⟩:=st
  have ap:=zip2_apart hTT h12 hz ht ho q1 q2 p1.isList p2.isList
  have hx:it2.toArray[i]?=none:=by
   have:=rv2.length
   simp;omega
  exact wpAny_pyNext_zip_end (I.ok.hd hc) ap hz ht ho q1 q2 p1.isList p2.isList (.inr hx) fun h' a1=>⟨rfl,turnedL (t':=s.toks) (fp:=[z,TI,TO,i1,i2]) I hf fun b o hb eb=>a1 b o (fun q=>hb (by simp[q])) (fun q=>hb (by simp[q])) (fun q=>hb (by simp[q])) (fun q=>hb (by simp[q])) eb⟩
 self:=fun _ _ _ _ _ st h=>PySem.wpAny_pyIter_zip st.1 h
section
variable {X:Cx}{ρ:List Sl}{a b c:Expr}{p pos:Pos}
theorem zip2_get {ls ms:List D}:∀{i:Nat} {d:D},(zip2 ls ms)[i]?=some d→∃x y,ls[i]?=some x∧ms[i]?=some y∧d=.tuple [x,y]:=by
 induction ls generalizing ms with
 |nil=>intro i d h;simp[zip2] at h
 |cons x r ih=>
  intro i d h
  cases ms with
  |nil=>simp[zip2] at h
  |cons y q=>cases i with
   |zero=>simp only[zip2,List.getElem?_cons_zero,Option.some.injEq] at h;exact⟨x,y,rfl,rfl,h.symm⟩
   |succ i=>simp only[zip2,List.getElem?_cons_succ] at h ⊢;exact ih h
theorem zip2_len {ls ms:List D}(h1:ms.length≤ls.length):(zip2 ls ms).length=ms.length:=by
 induction ls generalizing ms with
 |nil=>cases ms with
  |nil=>rfl
  |cons y q=>cases h1
 |cons x r ih=>
  cases ms with
  |nil=>rfl
  |cons y q=>simp only[zip2,lc0];rw[ih (by simpa using h1)]
theorem src_zip2 {K:Fg}{G1 Hb:Hp}{l1 l2:Addr}{vs us:List V}{ls ms:List D}(h1:Hb l1=some (.lst vs))(h2:Hb l2=some (.lst us))(r1:Dps K G1 ls vs)(r2:Dps K G1 ms us)
  (e1:ms.length≤ls.length):SrcOk K G1 Hb (Itp K l1 l2 ms.length) (zip2 ls ms) where
 go:=fun i H' hi hs hb=>⟨by rw[zip2_len e1] at hi;exact hi,vs,us,SqL.of (hb _ _ h1),SqL.of (hb _ _ h2),by rw[←r1.length];exact e1,r2.length.symm⟩
 yld:=fun i G' H' x H2 d hd g1 g2 g3 y=>by
  obtain⟨T,rfl,hT,y⟩:=y
  obtain⟨a,b,y1,y2,rfl⟩:=y vs us (SqL.of (g3 _ _ h1)) (SqL.of (g3 _ _ h2))
  obtain⟨x1,x2,k1,k2,rfl⟩:=zip2_get hd
  obtain⟨v1,w1,d1⟩:=r1.get k1
  obtain⟨v2,w2,d2⟩:=r2.get k2
  rw[y1] at w1;cases w1
  rw[y2] at w2;cases w2
  have ex:Ext G' H' (upd G' T (.tup [a,b])) (upd H' T (.tup [a,b])):=.laid g2 hT
  exact⟨_,ex,.tuple upd_same (.cons ((d1.mono g1).mono ex.gg) (.cons ((d2.mono g1).mono ex.gg) .nil))⟩
 stop:=fun H' hs hb=>⟨zip2_len e1,vs,us,SqL.of (hb _ _ h1),SqL.of (hb _ _ h2),r2.length.symm⟩
theorem pi_zip2 {ls ms:List D}{elts:List Expr}{tk:Nat}{tpos:Pos}(B:Blt X "zip")(hA:Ea X ρ [true,true,true] [a,b] [.list ls,.list ms])(hst:noStars [a,b])(e1:ms.length≤ls.length):
  PI X (.Tuple elts tk tpos) (.Call (.Name "zip" p) [a,b] [] pos) (tSi X.K ρ false (zip2 ls ms)):=by
 intro pins s σ H R I h0
 obtain⟨G0,H0,G,E,k⟩:=h0
 refine Call_ (ld_blt I B.g B.m boot_zip (PyProof.Rows.callWith_type1 (thn (hA pos pins s σ H _ I ⟨G0,H0,G,E,fun vs G1 H1 e1 r1=>(⟨G1,e1,r1⟩:∃G1,Ext G H G1 H1∧Das X.K G1 H1 [true,true,true] [.list ls,.list ms] vs)⟩) fun us s1 ⟨vs,H1,I1,r1,q1⟩=>?_) (starEach_cons (hst a (by simp))) (stars_any (es:=[b]) fun x hx=>hst x (mc0 _ hx))))
 obtain⟨G1,x1,q1⟩:=q1
 obtain⟨v,w,rfl,d1,d2⟩:=q1.two
 obtain⟨l1,vs1,rfl,hq1,rr1⟩:=d1.lst x1.gh
 obtain⟨l2,vs2,rfl,hq2,rr2⟩:=d2.lst x1.gh
 cases r1 with
 |cons r rr=>cases rr with
  |cons r' rr=>
   cases rr
   cases r
   cases r'
   obtain⟨it1,_,p1,_⟩:=I1.list (SqL.of hq1)
   obtain⟨it2,_,p2,_⟩:=I1.list (SqL.of hq2)
   refine PySem.call_zip_2 p1.isList p2.isList fun h' a1 a2 a3 a4 a5 a7 a8=>?_
   refine PySem.wpAny_pyIter_zip a1 ⟨_,[_,_,_,_,_],_,_,H1,rfl,I1.kept (t':=s1.toks) a8,turn_zip2 ms.length (nn0 (by omega)) (nn0 (by omega)),⟨a1,a2,⟨_,_,a3⟩,a4,a5⟩,fun b hb=>?_,k _ G1 H1 x1 (src_zip2 hq1 hq2 rr1 rr2 e1)⟩
   have hle:s1.heap.objs.size≤b:=by
    simp only[List.mem_cons,List.not_mem_nil,or_false] at hb
    rcases hb with rfl|rfl|rfl|rfl|rfl<;>first|exact Nat.le_add_right _ _|exact nr0 _
   exact I1.fpOk hle (I1.hok.fresh hle)
end
section
variable {prog:Program}{w:World}{A:Around}{E:Value→Shared→Prop}{s:Shared}
theorem draw_list {it t:Addr}{items:Array Value}(hne:t≠it):∀(n i:Nat) (s:Shared) (Q:List Value→Shared→Prop),s.heap.IsListIter it t i→s.heap.IsList t items→i+n≤items.size→
  (∀h',h'.IsListIter it t (i+n)→Heap.SameBut it s.heap h'→Q ((items.toList.drop i).take n) {s with heap:=h'})→wpAny (model prog w) A (draw (.ref it) n) Q E s
 |0,i,s,Q,hit,_,_,hQ=>by
  show wpAny _ _ (pure []) Q E s
  exact wpAny_pure (by simpa using hQ s.heap hit (Heap.SameBut.refl ..))
 |n+1,i,s,Q,hit,ht,hle,hQ=>by
  have hlt:i<items.size:=by omega
  show wpAny _ _ (pyNext (.ref it) >>= _) Q E s
  refine wpAny_bind (wpAny_pyNext_list_item hit ht (x:=items[i]) (by simp[hlt]) fun h₁ hit₁ hs₁=>?_)
  have ht₁:h₁.IsList t items:=by
   obtain⟨o,ho,r⟩:=ht
   exact⟨o,(hs₁.2 t hne).trans ho,r⟩
  refine wpAny_bind (wpAny_holding (draw_list hne n (i+1) _ _ hit₁ ht₁ (by omega) fun h₂ hit₂ hs₂=>wpAny_pure ?_))
  have hd:items.toList.drop i=items[i]::items.toList.drop (i+1):=by simp[List.drop_eq_getElem_cons,hlt]
  have:=hQ h₂ (by rw[show i+(n+1)=i+1+n by omega];exact hit₂) (hs₁.trans hs₂)
  rw[hd,List.take_succ_cons] at this
  exact this
theorem unpackItems_list {t:Addr}{items:Array Value}{Q:List Value→Shared→Prop}(hh:A.handled=none)(ht:s.heap.IsList t items)
  (hQ:∀h',Heap.ExtBut s.heap.objs.size s.heap h'→Q items.toList {s with heap:=h'}):wpAny (model prog w) A (unpackItems (.ref t) items.size none) Q E s:=by
 have hlt:t≠s.heap.objs.size:=by obtain⟨o,ho,_⟩:=ht;exact nn0 (hs0 ho)
 unfold unpackItems
 refine wpAny_bind ?_
 unfold notIterableAtAll
 refine wpAny_bind (wpAny_specialOf ht.typeIs PySem.F.slot_list_iter.lookup ?_)
 refine wpAny_pure ?_
 simp only[Bool.false_eq_true,if_false]
 refine wpAny_bind (wpAny_holding (wpAny_pyIter_list ht ?_))
 have ht0:(s.heap.push {cls:=.type "list_iterator",data:=.fields #[.ref t,.int 0 0]}).IsList t items:=by
  obtain⟨o,ho,r⟩:=ht
  exact⟨o,ps0 _ ho,r⟩
 refine wpAny_bind (wpAny_holding (draw_list hlt items.size 0 _ _ ⟨_,pz0 _ rfl,rfl,rfl⟩ ht0 (by omega) fun h₁ hit₁ hs₁=>?_))
 have hall:List.take items.size (List.drop 0 items.toList)=items.toList:=by
  rw[List.drop_zero];exact List.take_of_length_le (by simp)
 rw[hall]
 rw[if_neg (by simp)]
 have ht₁:h₁.IsList t items:=by
  obtain⟨o,ho,r⟩:=ht0
  exact⟨o,(hs₁.2 t hlt).trans ho,r⟩
 refine wpAny_bind (wpAny_holding (wpAny_pyNext_list_end hh hit₁ ht₁ (by simp) fun h₂ he₂=>?_))
 simp only[Option.isSome_none,Bool.false_eq_true,if_false]
 exact wpAny_pure (hQ h₂ fun b o hb e=>he₂ b o hb (hs₁.extBut b o hb (ps0 _ e)))
theorem assign_Tuple_list {env:Env}{elts:List Expr}{x1}{pos:Pos}{t:Addr}{items:Array Value}{Q:Unit→Shared→Prop}(hh:A.handled=none)(ht:s.heap.IsList t items)
  (hn:(assignEach elts env).length=items.size) (hstar:(assignEach elts env).findIdx? (·.1)=none)
  (h:∀h',Heap.ExtBut s.heap.objs.size s.heap h'→wpAny (model prog w) A (assignInOrder ((assignEach elts env).map (·.2)) items.toList) Q E {s with heap:=h'}):
  wpAny (model prog w) A (assign (.Tuple elts x1 pos) env (.ref t)) Q E s:=by
 rw[assign_Tuple]
 refine wpAny_bind (wpAny_standAt ?_)
 unfold unpack
 rw[hn,hstar]
 exact wpAny_bind (wpAny_holding (unpackItems_list hh ht h))
end
noncomputable def gLst (K:PySem.W.Frag)(n:Nat)(t:TGs):TG:=fun v σ H Q=>∃a xs,v=.ref a∧SqL K H a xs∧xs.length=n∧t xs σ H Q
theorem pg_lst {X:Cx}{pos:Pos}{es:List Expr}{k:Nat}{t:TGs}{n:Nat}(hc:X.calm=true)(h:PGs X es t)(hn:(assignEach es X.env).length=n)(hst:(assignEach es X.env).findIdx? (·.1)=none):PG X (.Tuple es k pos) (gLst X.K n t):=by
 intro pins s σ H v u Q I r hw
 obtain⟨a,xs,e1,hq,hl,hw⟩:=hw
 subst e1
 cases r
 obtain⟨its,rv,ht,hz⟩:=I.list hq
 refine assign_Tuple_list (I.ok.hd hc) ht.isList (by simp[hn,←hl,rv.length]) hst fun h' hx=>?_
 have I1:Inv X pins σ H {s with heap:=h'}:=I.kept (t':=s.toks) fun b o e=>hx b o (nn0 (hs0 e)) e
 exact h pins _ σ H xs _ Q I1 (by simpa using rv) hw
noncomputable def Tgj (X:Cx)(tg:Expr)(t:Tg):Prop:=∀d,PG X tg (fun v σ H Q=>∃G0 H0 G ρ ρ',EnvD X.K G0 H0 G H σ ρ∧Dp X.K G d v∧bindTg t d ρ=some ρ'∧∀σ',EnvD X.K G0 H0 G H σ' ρ'→Q σ' H)
section
variable {X:Cx}{ρ:List Sl}{a b c e o iter elt tg:Expr}{es ifs:List Expr}{p pos apos px:Pos}{d d1 d2 d3:D}{ds:List D}
theorem tgj_name {i:Nat}{x:Str}(hN:X.N.Nodup)(hi:X.N[i]?=some x)(hx:Loc X.env.scope x)(hf:X.fn x=true∨X.env.scope.names.lookup x=some .local):Tgj X (.Name x px) (.one i):=
 fun d pins s σ H v u Q I r ⟨G0,H0,G,ρ,ρ',env,dv,hb,k⟩=>by
  cases hb
  exact pg_name hN hi hx hf pins s σ H v u Q I r (k _ (env.set (by rw[I.len];exact (List.getElem?_eq_some_iff.mp hi).1) dv))
structure NmOk (X:Cx)(x:Str)(i:Nat):Prop where
 at':X.N[i]?=some x
 loc:Loc X.env.scope x
 fn:X.fn x=true∨X.env.scope.names.lookup x=some .local
inductive Nms (X:Cx):List Expr→List Nat→Prop
 |nil:Nms X [] []
 |cons {x:Str} {px:Pos} {i:Nat} {es:List Expr} {is:List Nat}:NmOk X x i→Nms X es is→Nms X (.Name x px::es) (i::is)
theorem Nms.each {env:Env}:∀{es:List Expr} {is:List Nat},Nms X es is→(assignEach es env).length=is.length∧(assignEach es env).findIdx? (·.1)=Option.none
 |_,_,.nil=>⟨rfl,rfl⟩
 |_,_,.cons (es:=es) _ r=>by
  obtain⟨h1,h2⟩:=Nms.each (env:=env) r
  refine⟨?_,?_⟩
  ·show (assignEach es env).length+1=_
   rw[h1];rfl
  ·show List.findIdx? (·.1) ((false,_)::assignEach es env)=_
   rw[List.findIdx?_cons]
   simp[h2]
noncomputable def Tgsj (X:Cx)(ts:List Expr)(is:List Nat):Prop:=∀ds,ds.length=is.length→PGs X ts (fun vs σ H Q=>∃G0 H0 G ρ,EnvD X.K G0 H0 G H σ ρ∧Dps X.K G ds vs∧∀σ',EnvD X.K G0 H0 G H σ' ((is.zip ds).foldl (fun ρ p=>ρ.set p.1 (.dat p.2)) ρ)→Q σ' H)
theorem tgsj {ts:List Expr}{is:List Nat}(hN:X.N.Nodup)(h:Nms X ts is):Tgsj X ts is:=by
 induction h with
 |nil=>
  intro ds hl pins s σ H vs us Q I r h0
  obtain⟨G0,H0,G,ρ,env,dv,k⟩:=h0
  have:ds=[]:=List.eq_nil_of_length_eq_zero hl
  subst this
  cases dv
  exact pgs_nil pins s σ H [] us Q I r ⟨rfl,k σ env⟩
 |@cons x px i es is h1 h2 ih=>
  intro ds hl pins s σ H vs us Q I r h0
  obtain⟨G0,H0,G,ρ,env,dv,k⟩:=h0
  cases ds with
  |nil=>cases hl
  |cons d ds=>
   cases dv with
   |cons d1 d2=>
    exact pgs_cons (tgj_name (px:=px) hN h1.at' h1.loc h1.fn d) (ih ds (by simpa using hl)) rfl pins s σ H _ us Q I r
     ⟨_,_,rfl,G0,H0,G,ρ,_,env,d1,rfl,fun σ' env'=>⟨G0,H0,G,_,env',d2,fun σ2 env2=>k σ2 env2⟩⟩
theorem tgj_tup {ts:List Expr}{is:List Nat}{n:Nat}(hc:X.calm=true)(hN:X.N.Nodup)(h:Nms X ts is):Tgj X (.Tuple ts n pos) (.tup is):=by
 intro d pins s σ H v u Q I r h0
 obtain⟨G0,H0,G,ρ,ρ',env,dv,hb,k⟩:=h0
 cases d with
 |tuple ds=>
  rw[bind_tupT] at hb
  split at hb
  ·rename_i hl
   cases hb
   cases dv with
   |tuple hq dr=>
    obtain⟨e1,e2⟩:=h.each (env:=X.env)
    exact pg_tup (n:=is.length) hc (tgsj hN h ds hl.symm) e1 e2 pins s σ H _ u Q I r ⟨_,_,rfl,SqT.of (env.sub _ _ hq),by rw[←dr.length];exact hl.symm,G0,H0,G,ρ,env,dr,k⟩
  ·cases hb
 |list ds=>
  rw[bind_tupL] at hb
  split at hb
  ·rename_i hl
   cases hb
   cases dv with
   |list hq dr=>
    obtain⟨e1,e2⟩:=h.each (env:=X.env)
    exact pg_lst (n:=is.length) hc (tgsj hN h ds hl.symm) e1 e2 pins s σ H _ u Q I r ⟨_,_,rfl,SqL.of (env.sub _ _ hq),by rw[←dr.length];exact hl.symm,G0,H0,G,ρ,env,dr,k⟩
  ·cases hb
 |_=>cases hb
section
variable {K:Fg}{G0 H0 G H:Hp}{σ:St}{tn:List Str}{js:List Nat}
theorem blk_at {i:Nat}{sl:Sl}(h:(SI.blk tn.length js ρ)[i]?=some sl):sl=.no∨∃j,js[i-tn.length]?=some j∧tn.length≤i∧sl=lend (ρ[j]?.getD .no):=by
 unfold SI.blk at h
 by_cases hi:i<tn.length
 ·rw[List.getElem?_append_left (by simpa using hi),List.getElem?_replicate,if_pos hi] at h
  cases h;exact .inl rfl
 ·rw[List.getElem?_append_right (by simp;omega),List.getElem?_map,List.length_replicate] at h
  cases q:js[i-tn.length]? with
  |none=>rw[q] at h;cases h
  |some j=>rw[q] at h;cases h;exact .inr ⟨j,rfl,by omega,rfl⟩
theorem blkS_at {i j:Nat}(h:tn.length≤i)(e:js[i-tn.length]?=some j):(blkS tn js σ)[i]?=some (σ[j]?).join:=by
 unfold blkS
 rw[List.getElem?_append_right (by simpa using h),List.getElem?_map,lm0,e];rfl
noncomputable def NoOwn (ρ:List Sl):Prop:=(∀(i:Nat) d,ρ[i]?≠some (.own d))∧∀(i:Nat) rows,ρ[i]?≠some (.deep rows)
theorem lend_deep {sl:Sl}{rows:List (List D)}:lend sl≠.deep rows:=by cases sl<;>(intro h;cases h)
theorem lend_own {sl:Sl}{d:D}:lend sl≠.own d:=by cases sl<;>(intro h;cases h)
theorem blk_noOwn:NoOwn (SI.blk tn.length js ρ):=⟨fun i d h=>by
 rcases blk_at h with h|⟨j,_,_,h⟩
 ·cases h
 ·exact lend_own h.symm,fun i d h=>by
 rcases blk_at h with h|⟨j,_,_,h⟩
 ·cases h
 ·exact lend_deep h.symm⟩
theorem EnvD.blk (E:EnvD K G0 H0 G H σ ρ):EnvD K G H G H (blkS tn js σ) (SI.blk tn.length js ρ):=by
 have slot:∀{j:Nat} {sl:Sl},lend (ρ[j]?.getD .no)=sl→sl≠.no→∃s,ρ[j]?=some s∧lend s=sl:=fun {j sl} h hn=>by
  cases r:ρ[j]? with
  |none=>rw[r] at h;exact absurd h.symm hn
  |some s=>rw[r] at h;exact⟨s,rfl,h⟩
 refine⟨.refl E.sub,by simp[blkS,SI.blk],fun i d h=>?_,fun i d h=>?_,fun i ds h=>(blk_noOwn.1 i ds h).elim,fun i _ ds _ _ h=>(blk_noOwn.1 i ds h).elim,fun i rows h=>(blk_noOwn.2 i rows h).elim⟩
 ·rcases blk_at h with h|⟨j,e1,hi,h⟩
  ·cases h
  obtain⟨s,e2,h⟩:=slot h.symm (by simp)
  cases s with
  |dat d'=>
   cases h
   obtain⟨v,e3,r⟩:=E.dat j d e2
   exact⟨v,by rw[blkS_at hi e1,e3];rfl,r⟩
  |_=>cases h
 ·rcases blk_at h with h|⟨j,e1,hi,h⟩
  ·cases h
  obtain⟨s,e2,h⟩:=slot h.symm (by simp)
  cases s with
  |lent d'=>
   cases h
   obtain⟨v,e3,r⟩:=E.lent j d e2
   exact⟨v,by rw[blkS_at hi e1,e3];rfl,r.ext E.ext⟩
  |own d'=>
   cases h
   obtain⟨q,e3,_,_,r⟩:=E.own j d e2
   exact⟨_,by rw[blkS_at hi e1,e3];rfl,r.dr⟩
  |_=>cases h
theorem EnvD.touch {p:Addr}{o:HO}(E:EnvD K G0 H0 G H σ ρ)(hn:NoOwn ρ)(hg:G p=none)(h0:H0 p=none)(hi:notIns o=true:=by rfl):EnvD K G0 H0 G (upd H p o) σ ρ:=
 ⟨⟨fun b u e=>by rw[upd_ne (ne_of_none e h0)];exact E.ext.hh b u e,E.ext.gg,fun b u e=>by rw[upd_ne (ne_of_none e hg)];exact E.ext.gh b u e,E.ext.nw,fun x C dx fs e=>E.ext.ni x C dx fs (notIns_upd hi x C dx fs e)⟩,E.len,E.dat,E.lent,fun i ds h=>(hn.1 i ds h).elim,fun i _ ds _ _ h=>(hn.1 i ds h).elim,fun i rows h=>(hn.2 i rows h).elim⟩
theorem EnvD.forget {ρ':List Sl}(E:EnvD K G0 H0 G H σ ρ)(hl:ρ'.length=ρ.length)(h:∀(i:Nat) sl,ρ'[i]?=some sl→sl=.no∨ρ[i]?=some sl):EnvD K G0 H0 G H σ ρ':=
 ⟨E.ext,by rw[hl];exact E.len,fun i d e=>(h i _ e).elim (fun z=>by cases z) (E.dat i d),fun i d e=>(h i _ e).elim (fun z=>by cases z) (E.lent i d),fun i d e=>(h i _ e).elim (fun z=>by cases z) (E.own i d),
  fun i j d e p h1 h2 h3 h4=>(h i _ h1).elim (fun z=>by cases z) fun h1=>(h j _ h2).elim (fun z=>by cases z) fun h2=>E.apart i j d e p h1 h2 h3 h4,fun i rows e=>(h i _ e).elim (fun z=>by cases z) fun e=>let ⟨a,b,c⟩:=E.deep i rows e;⟨a,fun j d q=>(h j _ q).elim (fun z=>by cases z) (b j d),fun j r q=>(h j _ q).elim (fun z=>by cases z) (c j r)⟩⟩
end
theorem bindTg_at {t:Tg}{n:Nat}{ρ ρ':List Sl}(ht:tgLt t n=true)(hb:bindTg t d ρ=some ρ'):ρ'.length=ρ.length∧(∀i,n≤i→ρ'[i]?=ρ[i]?)∧(NoOwn ρ→NoOwn ρ'):=by
 have one:∀{i:Nat} {ρ:List Sl} {d:D},i<n→(ρ.set i (.dat d)).length=ρ.length∧(∀j,n≤j→(ρ.set i (.dat d))[j]?=ρ[j]?)∧(NoOwn ρ→NoOwn (ρ.set i (.dat d))):=fun {i ρ d} hi=>
  ⟨by simp,fun j hj=>gn0 (by omega),fun h=>⟨fun j e hj=>by
   rcases getE_set hj with⟨_,q⟩|⟨_,q⟩
   ·cases q
   ·exact h.1 j e q,fun j e hj=>by
   rcases getE_set hj with⟨_,q⟩|⟨_,q⟩
   ·cases q
   ·exact h.2 j e q⟩⟩
 have fold:∀(ps:List (Nat×D)) (ρ:List Sl),(∀p∈ps,p.1<n)→(ps.foldl (fun ρ p=>ρ.set p.1 (.dat p.2)) ρ).length=ρ.length∧(∀j,n≤j→(ps.foldl (fun ρ p=>ρ.set p.1 (Sl.dat p.2)) ρ)[j]?=ρ[j]?)∧(NoOwn ρ→NoOwn (ps.foldl (fun ρ p=>ρ.set p.1 (Sl.dat p.2)) ρ)):=by
  intro ps
  induction ps with
  |nil=>intro ρ _;exact⟨rfl,fun _ _=>rfl,fun h=>h⟩
  |cons q r ih=>
   intro ρ hp
   obtain⟨a1,a2,a3⟩:=one (ρ:=ρ) (d:=q.2) (hp q ms0)
   obtain⟨b1,b2,b3⟩:=ih (ρ.set q.1 (.dat q.2)) fun x hx=>hp x (mc0 _ hx)
   exact⟨b1.trans a1,fun j hj=>(b2 j hj).trans (a2 j hj),fun h=>b3 (a3 h)⟩
 have mem:∀{is:List Nat} {ds:List D},(is.all fun i=>decide (i<n))=true→∀p∈is.zip ds,p.1<n:=fun h p hp=>of_decide_eq_true (List.all_eq_true.mp h p.1 (List.of_mem_zip (a:=p.1) (b:=p.2) hp).1)
 cases t with
 |one i=>cases hb;exact one (of_decide_eq_true ht)
 |tup is=>
  cases d with
  |tuple ds=>
   rw[bind_tupT] at hb
   split at hb
   ·cases hb;exact fold _ _ (mem ht)
   ·cases hb
  |list ds=>
   rw[bind_tupL] at hb
   split at hb
   ·cases hb;exact fold _ _ (mem ht)
   ·cases hb
  |_=>cases hb
noncomputable def Ecs (X:Cx)(ρ:List Sl)(ifs:List Expr)(t:Bool):Prop:=PCs X ifs (tEt X.K ρ t)
theorem ecs_nil:Ecs X ρ [] true:=fun pins s σ H Q I ⟨G0,H0,G,E,k⟩=>pcs_nil pins s σ H Q I (k G H (.refl E.sub))
theorem ecs_one {t:Bool}(h:Et X ρ c t):Ecs X ρ [c] t:=pcs_one h
theorem compL_snoc (f:D→Option (Option D)):∀(xs:List D) (d:D),compL f (xs++[d])=(compL f xs).bind fun a=>(f d).map fun o=>a++o.toList
 |[],d=>by
  show (f d).bind _=_
  cases f d with
  |none=>rfl
  |some o=>cases o<;>rfl
 |x::r,d=>by
  show (f x).bind _=((f x).bind _).bind _
  cases f x with
  |none=>rfl
  |some o=>
   show (compL f (r++[d])).map _=((compL f r).map _).bind _
   rw[compL_snoc f r d]
   cases compL f r with
   |none=>rfl
   |some q=>cases f d with
    |none=>rfl
    |some u=>cases o<;>rfl
theorem compL_take {f:D→Option (Option D)}{ds out:List D}(h:compL f ds=some out):∀i≤ds.length,∃q,compL f (ds.take i)=some q:=by
 have key:∀(xs ys:List D) (out:List D),compL f (xs++ys)=some out→∃q,compL f xs=some q:=by
  intro xs
  induction xs with
  |nil=>intro ys out _;exact⟨_,rfl⟩
  |cons x r ih=>
   intro ys out h
   obtain⟨o,h1,h2⟩:=bx0 (show (f x).bind _=some out from h)
   obtain⟨q,h3,h4⟩:=mx0 h2
   obtain⟨q',h5⟩:=ih ys q h3
   exact⟨_,by show (f x).bind _=_;rw[h1];show (compL f r).map _=_;rw[h5];rfl⟩
 intro i hi
 exact key (ds.take i) (ds.drop i) out (by rw[List.take_append_drop];exact h)
theorem compL_len {f:D→Option (Option D)}:∀{ds out:List D},compL f ds=some out→out.length≤ds.length
 |[],out,h=>by cases h;exact nr0 _
 |x::r,out,h=>by
  obtain⟨o,h1,h2⟩:=bx0 (show (f x).bind _=some out from h)
  obtain⟨q,h3,h4⟩:=mx0 h2
  have:=compL_len h3
  subst h4
  cases o<;>simp<;>omega
noncomputable def teC (X:Cx)(scope:Scope)(N:List Str)(e:Expr):TE:=fun σ H Q=>∀C s0 H0 fp pins s,Inv (L2.C.blk X scope N C s0 H0 fp) pins σ H s→wpAny (model X.prog X.w) X.A (eval e (L2.C.blk X scope N C s0 H0 fp).env) (EP (L2.C.blk X scope N C s0 H0 fp) pins σ Q) (fun _ _=>False) s
noncomputable def tcC (X:Cx)(scope:Scope)(N:List Str)(ifs:List Expr):TT:=fun σ H Q=>∀C s0 H0 fp pins s,Inv (L2.C.blk X scope N C s0 H0 fp) pins σ H s→wpAny (model X.prog X.w) X.A (testsOf ifs (L2.C.blk X scope N C s0 H0 fp).env) (TP (L2.C.blk X scope N C s0 H0 fp) pins σ Q) (fun _ _=>False) s
noncomputable def tgC (X:Cx)(scope:Scope)(N:List Str)(tg:Expr):TG:=fun v σ H Q=>∀C s0 H0 fp pins s u,Inv (L2.C.blk X scope N C s0 H0 fp) pins σ H s→RelV v u→wpAny (model X.prog X.w) X.A (assign tg (L2.C.blk X scope N C s0 H0 fp).env u) (fun _ s'=>∃σ' H',Inv (L2.C.blk X scope N C s0 H0 fp) pins σ' H' s'∧Q σ' H') (fun _ _=>False) s
structure Turns (X:Cx)(Φ:Fs)(Γ:List (Str×D))(scope:Scope)(N:List Str)(tg:Expr)(t:Tg)(ifs:List Expr)(ifs':Es)(elt:Expr)(elt':E):Prop where
 tgt:∀(C:Addr) (s:Shared) (H:Hp) (fp:List Addr),Tgj (L2.C.blk X scope N C s H fp) tg t
 test:∀(C:Addr) (s:Shared) (H:Hp) (fp:List Addr) ρ b,evC Φ Γ ρ ifs'=some b→Ecs (L2.C.blk X scope N C s H fp) ρ ifs b
 elt:∀(C:Addr) (s:Shared) (H:Hp) (fp:List Addr) ρ d,ev Φ Γ .val ρ elt'=some d→Ev (L2.C.blk X scope N C s H fp) ρ elt d
variable {Φ:Fs}{Γ:List (Str×D)}{scope:Scope}{tn:List Str}{js:List Nat}{t:Tg}{ifs':Es}{elt':E}{out:List D}
noncomputable abbrev stepC (Φ:Fs)(Γ:List (Str×D))(n:Nat)(js:List Nat)(t:Tg)(ifs':Es)(elt':E)(ρ:List Sl):D→Option (Option D):=
 fun d=>(bindTg t d (SI.blk n js ρ)).bind fun ρ'=>(evC Φ Γ ρ' ifs').bind fun b=>if b then (ev Φ Γ .val ρ' elt').map some else some none
theorem comp_read {σ:St}{G0 H0 G1 H1:Hp}{J:It}{Q:VK}(hi:SrcOk X.K G1 H1 J ds)(T:Turns X Φ Γ scope (blkN X tn js) tg t ifs ifs' elt elt')(ht:tgLt t tn.length=true)(hz:ds.length≤sizeLine)(E:EnvD X.K G0 H0 G1 H1 σ ρ)
  (hrun:compL (stepC Φ Γ tn.length js t ifs' elt' ρ) ds=some out)
  (k:∀q vs G' H',Ext G1 H1 G' H'→G' q=none→H1 q=none→H' q=some (.lst vs)→Dps X.K G' out vs→Q (.ref q) H'):
  ∀q,H1 q=none→∃W:Nat→Nat→St→Hp→Prop,(∃m,W 0 m (blkS tn js σ) (upd H1 q (.lst [])))∧∀i m σ' H',W i m σ' H'→
   (J.stop i H'∧Q (.ref q) H')∨(J.go i H'∧∀v H2,J.yld i H' v H2→tgC X scope (blkN X tn js) tg v σ' H2 fun σ2 H3=>tcC X scope (blkN X tn js) ifs σ2 H3 fun b H4=>
    if b=true then teC X scope (blkN X tn js) elt σ2 H4 fun y H5=>∃ys,H5 q=some (.lst ys)∧ys.length<sizeLine∧∃m',m'<m∧W (i+1) m' σ2 (upd H5 q (.lst (ys++[y]))) else ∃m',m'<m∧W (i+1) m' σ2 H4):=by
 intro q hq0
 have noB:NoOwn (SI.blk tn.length js ρ):=blk_noOwn
 refine⟨fun i m σ' H'=>m=ds.length-i∧i≤ds.length∧∃G' ys outs,EnvD X.K G1 H1 G' H' σ' (SI.blk tn.length js ρ)∧H' q=some (.lst ys)∧G' q=none∧Dps X.K G' outs ys∧compL (stepC Φ Γ tn.length js t ifs' elt' ρ) (ds.take i)=some outs,
  ⟨ds.length,by simp,Nat.zero_le _,G1,[],[],?_,upd_same,E.sub.free hq0,.nil,rfl⟩,?_⟩
 ·exact (E.blk (tn:=tn) (js:=js)).touch noB (E.sub.free hq0) hq0
 ·rintro i m σ' H' ⟨rfl,hil,G',ys,outs,E',hq',hg',r',hc'⟩
  have sm:Same G1 H':=E'.ext.gg.trans E'.sub
  by_cases hlt:i<ds.length
  ·refine .inr ⟨hi.go i H' hlt sm E'.ext.hh,fun v H2 y=>?_⟩
   have hb:ds[i]?=some ds[i]:=ge0 hlt
   have tk:ds.take (i+1)=ds.take i++[ds[i]]:=by rw[List.take_add_one,hb];rfl
   generalize ds[i]=dd at hb tk
   obtain⟨outs1,hc1⟩:=compL_take hrun (i+1) hlt
   have hc2:=hc1
   rw[tk,compL_snoc,hc'] at hc2
   obtain⟨o,ho,e1⟩:=mx0 (show (stepC Φ Γ tn.length js t ifs' elt' ρ dd).map _=some outs1 from hc2)
   obtain⟨ρ1,hb1,ho⟩:=bx0 ho
   obtain⟨tb,hb2,ho⟩:=bx0 ho
   obtain⟨l1,l2,l3⟩:=bindTg_at ht hb1
   obtain⟨G2,e2,d2⟩:=hi.yld i G' H' v H2 dd hb E'.ext.gg E'.sub E'.ext.hh y
   have hq2:H2 q=some (.lst ys):=e2.hh _ _ hq'
   have hg2:G2 q=none:=e2.nw _ _ hg' hq'
   have r2:=r'.mono e2.gg
   have hlen:ys.length≤i:=by
    rw[←r'.length]
    exact nt0 (compL_len hc') (by rw[List.length_take];omega)
   have no1:=l3 noB
   have back:∀{G3 H3:Hp} {σ3:St},EnvD X.K G1 H1 G3 H3 σ3 ρ1→EnvD X.K G1 H1 G3 H3 σ3 (SI.blk tn.length js ρ):=fun E3=>E3.forget l1.symm fun j sl hj=>by
    by_cases hjn:j<tn.length
    ·left
     rcases blk_at hj with z|⟨_,_,z,_⟩
     ·exact z
     ·omega
    ·right;rw[l2 j (by omega)];exact hj
   intro C s0 H0' fp pins s u I rv
   refine T.tgt C s0 H0' fp dd pins s σ' H2 v u _ I rv ⟨G1,H1,G2,_,ρ1,E'.step e2,d2,hb1,fun σ2 E2=>?_⟩
   intro C s0 H0' fp pins s I
   refine T.test C s0 H0' fp ρ1 tb hb2 pins s _ H2 _ I ⟨G1,H1,G2,E2,fun G3 H3 e3=>?_⟩
   have hq3:H3 q=some (.lst ys):=e3.hh _ _ hq2
   have hg3:G3 q=none:=e3.nw _ _ hg2 hq2
   cases tb with
   |false=>
    rw[if_neg fx0] at ho
    cases ho
    subst e1
    refine iteF ⟨ds.length-(i+1),by omega,rfl,hlt,G3,ys,_,back (E2.step e3),hq3,hg3,?_,hc1⟩
    rw[Option.toList_none,List.append_nil]
    exact r2.mono e3.gg
   |true=>
    rw[if_pos rfl] at ho
    obtain⟨w0,hw,e4⟩:=mx0 ho
    subst e4 e1
    refine iteT ?_
    intro C s0 H0' fp pins s I
    refine T.elt C s0 H0' fp ρ1 w0 hw pins s _ H3 _ I ⟨G1,H1,G3,E2.step e3,fun w G4 H4 e4 r4=>?_⟩
    refine⟨ys,e4.hh _ _ hq3,by omega,ds.length-(i+1),by omega,rfl,hlt,G4,ys++[w],_,(back ((E2.step e3).step e4)).touch noB (e4.nw _ _ hg3 hq3) hq0,upd_same,e4.nw _ _ hg3 hq3,?_,hc1⟩
    exact ((r2.mono e3.gg).mono e4.gg).append (.one r4)
  ·have e:i=ds.length:=by omega
   subst e
   rw[List.take_length,hrun] at hc'
   cases hc'
   exact .inl ⟨hi.stop H' sm E'.ext.hh,k q ys G' H' E'.ext hg' hq0 hq' r'⟩
theorem en_comp (B:BlkOk X scope js)(hcalm:X.calm=true)(hi:PI X tg iter (tSi X.K ρ false ds))(T:Turns X Φ Γ scope (blkN X tn js) tg t ifs ifs' elt elt')(ht:tgLt t tn.length=true)(hz:ds.length≤sizeLine)
  (hrun:compL (stepC Φ Γ tn.length js t ifs' elt' ρ) ds=some out) (hs:∀x,foldedSetIterable iter X.env x=pure x):En X ρ (.ListComp elt [⟨tg,iter,ifs,0⟩] scope pos) (.list out):=by
 intro pins s σ H Q I h
 obtain⟨G0,H0,G,E,k⟩:=h
 refine pe_comp (tn:=tn) (js:=js) (g:=tgC X scope (blkN X tn js) tg) (tc:=tcC X scope (blkN X tn js) ifs) (te:=teC X scope (blkN X tn js) elt) B hcalm hi
  (fun C s H fp pins s' σ' H' v u Q' I' r h=>h C s H fp pins s' u I' r) (fun C s H fp pins s' σ' H' Q' I' h=>h C s H fp pins s' I') (fun C s H fp pins s' σ' H' Q' I' h=>h C s H fp pins s' I') hs pins s σ H Q I ?_
 refine⟨G0,H0,G,E,fun J G1 H1 e1 hJ=>comp_read hJ T ht hz (E.step e1) hrun fun q vs G' H' e2 g1 h1 h2 r=>k q G' H' (e1.trans e2) g1 (e1.hh.free h1) (.inl ⟨_,_,rfl,h2,r⟩)⟩
end
section
variable {X:Cx}{ρ:List Sl}{a b c e elt iter tg:Expr}{p pos:Pos}{d:D}{ds:List D}
variable {Φ:Fs}{Γ:List (Str×D)}{scope:Scope}{tn:List Str}{js:List Nat}{t:Tg}{elt':E}{rows:List (List D)}
end
noncomputable def Goes (K:Fg)(G0 H0 G:Hp)(o:Out)(F:Ends):Prop:=match o with
 |.nx ρ'=>∀G' H' σ',EnvD K G0 H0 G' H' σ' ρ'→Same G G'→F.nx σ' H'
 |.rt d=>∀v G' H',Dp K G' d v→Ext G0 H0 G' H'→F.rt v H'
theorem Goes.go {K:Fg}{G0 H0 G G1:Hp}{o:Out}{F:Ends}(h:Goes K G0 H0 G o F)(s:Same G G1):Goes K G0 H0 G1 o F:=by
 cases o with
 |nx ρ'=>exact fun G' H' σ' e g=>h G' H' σ' e (s.trans g)
 |rt d=>exact h
noncomputable def tEp (K:Fg)(ρ:List Sl)(o:Out):TS:=fun F σ H=>∃G0 H0 G,EnvD K G0 H0 G H σ ρ∧Goes K G0 H0 G o F
noncomputable def E1 (X:Cx)(ρ:List Sl)(st:Stmt)(o:Out):Prop:=PS X st (tEp X.K ρ o)
noncomputable def Ep (X:Cx)(ρ:List Sl)(sts:List Stmt)(o:Out):Prop:=PSs X sts (tEp X.K ρ o)
section
variable {X:Cx}{ρ ρ1:List Sl}{st:Stmt}{rest body:List Stmt}{o:Out}{a b c e tg iter:Expr}{p pos pos':Pos}{d:D}{ds es:List D}{x y:Str}{i j:Nat}
theorem ep_nil:Ep X ρ [] (.nx ρ):=fun pins s σ H F I ⟨G0,H0,G,env,R⟩=>pss_nil pins s σ H F I (R G H σ env (Same.refl _))
theorem ep_consN (h1:E1 X ρ st (.nx ρ1))(h2:Ep X ρ1 rest o):Ep X ρ (st::rest) o:=fun pins s σ H F I ⟨G0,H0,G,env,R⟩=>
 pss_cons h1 h2 pins s σ H F I ⟨G0,H0,G,env,fun G' H' σ' env' g=>⟨G0,H0,G',env',R.go g⟩⟩
theorem ep_consR (h1:E1 X ρ st (.rt d)):Ep X ρ (st::rest) (.rt d):=fun pins s σ H F I ⟨G0,H0,G,env,R⟩=>
 pss_cons (u:=fun _ _ _=>False) h1 (fun _ _ _ _ _ _ z=>z.elim) pins s σ H F I ⟨G0,H0,G,env,R⟩
theorem e1_pass:E1 X ρ (.Pass pos) (.nx ρ):=fun pins s σ H F I ⟨G0,H0,G,env,R⟩=>ps_pass pins s σ H F I (R G H σ env (Same.refl _))
theorem e1_ret (h:Ev X (ρ.map freeze) e d):E1 X ρ (.Return (some e) pos) (.rt d):=fun pins s σ H F I ⟨G0,H0,G,env,R⟩=>by
 obtain⟨G1,env1,s1⟩:=env.freeze
 exact ps_ret h pins s σ H F I ⟨G0,H0,G1,env1,fun v G' H' e1 r=>R v G' H' r (env1.ext.trans e1)⟩
structure Sto (X:Cx)(x:Str)(i:Nat):Prop where
 nd:X.N.Nodup
 nm:NmOk X x i
theorem Sto.lt (S:Sto X x i){pins:List (Addr×Obj)}{σ:St}{H:Hp}{s:Shared}(I:Inv X pins σ H s):i<σ.length:=by rw[I.len];exact (List.getElem?_eq_some_iff.mp S.nm.at').1
theorem e1_set (S:Sto X x i)(h:Ev X ρ e d)(hs:swapsWith e (some (.Name x pos')) pos.line X.env=pure false):E1 X ρ (.Assign [.Name x pos'] e pos) (.nx (ρ.set i (.dat d))):=
 fun pins s σ H F I ⟨G0,H0,G,env,R⟩=>ps_set S.nd S.nm.at' S.nm.loc h hs S.nm.fn pins s σ H F I ⟨G0,H0,G,env,fun v G' H' e1 r=>
  R G' H' _ ((env.step e1).set (S.lt I) r) e1.gg⟩
theorem e1_new (S:Sto X x i)(hD:∀(j:Nat) rows,ρ[j]?≠some (.deep rows))(h:En X ρ e d)(hs:swapsWith e (some (.Name x pos')) pos.line X.env=pure false):E1 X ρ (.Assign [.Name x pos'] e pos) (.nx (ρ.set i (.own d))):=
 fun pins s σ H F I ⟨G0,H0,G,env,R⟩=>ps_set S.nd S.nm.at' S.nm.loc h hs S.nm.fn pins s σ H F I ⟨G0,H0,G,env,fun p G' H' e1 g1 h1 r=>
  R G' H' _ ((env.step e1).setOwn (S.lt I) r g1 (env.ext.hh.free h1) hD (env.fresh h1)) e1.gg⟩
theorem e1_comp {Φ:Fs}{Γ:List (Str×D)}{elt:Expr}{ifs:List Expr}{scope:Scope}{tn:List Str}{js:List Nat}{t:Tg}{ifs':Es}{elt':E}{out:List D}(S:Sto X x i)(hD:∀(j:Nat) rows,ρ[j]?≠some (.deep rows))(B:BlkOk X scope js)(hcalm:X.calm=true)(hi:PI X tg iter (tSi X.K ρ false ds))
  (T:Turns X Φ Γ scope (blkN X tn js) tg t ifs ifs' elt elt') (ht:tgLt t tn.length=true) (hz:ds.length≤sizeLine) (hrun:compL (stepC Φ Γ tn.length js t ifs' elt' ρ) ds=some out) (hs:∀x,foldedSetIterable iter X.env x=pure x)
  (hy:X.env.scope.names.lookup x=some .local) (hsw:swapsWith (.ListComp elt [⟨tg,iter,ifs,0⟩] scope p) (some (.Name x pos')) pos.line X.env=pure true):
  E1 X ρ (.Assign [.Name x pos'] (.ListComp elt [⟨tg,iter,ifs,0⟩] scope p) pos) (.nx (ρ.set i (.own (.list out)))):=by
 intro pins s σ H F I h
 obtain⟨G0,H0,G,env,R⟩:=h
 refine ps_comp (tn:=tn) (js:=js) (g:=tgC X scope (blkN X tn js) tg) (tc:=tcC X scope (blkN X tn js) ifs) (te:=teC X scope (blkN X tn js) elt) B hcalm hi
  (fun C s H fp pins s' σ' H' v u Q' I' r h=>h C s H fp pins s' u I' r) (fun C s H fp pins s' σ' H' Q' I' h=>h C s H fp pins s' I') (fun C s H fp pins s' σ' H' Q' I' h=>h C s H fp pins s' I') S.nd S.nm.at' hy hsw hs pins s σ H F I ?_
 refine⟨G0,H0,G,env,fun J G1 H1 e1 hJ=>comp_read (Q:=fun v H'=>F.nx (σ.set i (some v)) H') hJ T ht hz (env.step e1) hrun fun q vs G' H' e2 g1 h1 h2 r=>?_⟩
 have en:=(env.step e1).step e2
 exact R G' H' _ (en.setOwn (S.lt I) (.inl ⟨_,_,rfl,h2,r⟩) g1 (env.ext.hh.free (e1.hh.free h1)) hD ((env.step e1).fresh h1)) (e1.gg.trans e2.gg)
theorem e1_compV {Φ:Fs}{Γ:List (Str×D)}{elt:Expr}{ifs:List Expr}{scope:Scope}{tn:List Str}{js:List Nat}{t:Tg}{ifs':Es}{elt':E}{out:List D}(S:Sto X x i)(B:BlkOk X scope js)(hcalm:X.calm=true)(hi:PI X tg iter (tSi X.K ρ false ds))
  (T:Turns X Φ Γ scope (blkN X tn js) tg t ifs ifs' elt elt') (ht:tgLt t tn.length=true) (hz:ds.length≤sizeLine) (hrun:compL (stepC Φ Γ tn.length js t ifs' elt' ρ) ds=some out) (hs:∀x,foldedSetIterable iter X.env x=pure x)
  (hy:X.env.scope.names.lookup x=some .local) (hsw:swapsWith (.ListComp elt [⟨tg,iter,ifs,0⟩] scope p) (some (.Name x pos')) pos.line X.env=pure true):
  E1 X ρ (.Assign [.Name x pos'] (.ListComp elt [⟨tg,iter,ifs,0⟩] scope p) pos) (.nx (ρ.set i (.dat (.list out)))):=by
 intro pins s σ H F I h
 obtain⟨G0,H0,G,env,R⟩:=h
 refine ps_comp (tn:=tn) (js:=js) (g:=tgC X scope (blkN X tn js) tg) (tc:=tcC X scope (blkN X tn js) ifs) (te:=teC X scope (blkN X tn js) elt) B hcalm hi
  (fun C s H fp pins s' σ' H' v u Q' I' r h=>h C s H fp pins s' u I' r) (fun C s H fp pins s' σ' H' Q' I' h=>h C s H fp pins s' I') (fun C s H fp pins s' σ' H' Q' I' h=>h C s H fp pins s' I') S.nd S.nm.at' hy hsw hs pins s σ H F I ?_
 refine⟨G0,H0,G,env,fun J G1 H1 e1 hJ=>comp_read (Q:=fun v H'=>F.nx (σ.set i (some v)) H') hJ T ht hz (env.step e1) hrun fun q vs G' H' e2 g1 h1 h2 r=>?_⟩
 have e3:=(e1.trans e2).show (e1.hh.free h1) h2 g1
 exact R _ H' _ ((env.step e3).set (S.lt I) (.list upd_same (r.mono (same_upd g1)))) e3.gg
theorem e1_if {a b:List Stmt}{t:Bool}(h:Et X ρ c t)(ha:t=true→Ep X ρ a o)(hb:t=false→Ep X ρ b o):E1 X ρ (.If c a b pos) o:=by
 cases t with
 |true=>
  intro pins s σ H F I h0
  obtain⟨G0,H0,G,env,R⟩:=h0
  exact ps_if (u:=fun _ _ _=>False) h (ha rfl) (fun _ _ _ _ _ _ z=>z.elim) pins s σ H F I ⟨G0,H0,G,env,fun G1 H1 e1=>iteT ⟨G0,H0,G1,env.step e1,R.go e1.gg⟩⟩
 |false=>
  intro pins s σ H F I h0
  obtain⟨G0,H0,G,env,R⟩:=h0
  exact ps_if (t:=fun _ _ _=>False) h (fun _ _ _ _ _ _ z=>z.elim) (hb rfl) pins s σ H F I ⟨G0,H0,G,env,fun G1 H1 e1=>iteF ⟨G0,H0,G1,env.step e1,R.go e1.gg⟩⟩
noncomputable def tXs (X:Cx)(body:List Stmt):TS:=fun F σ H=>∀pins s,Inv X pins σ H s→wpAny (model X.prog X.w) X.A (execs body X.env) (SP X pins F) X.xe s
theorem pss_X:PSs X body (tXs X body):=fun pins s σ H F I h=>h pins s I
noncomputable def tXg (X:Cx)(tg:Expr):TG:=fun v σ H Q=>∀pins s u,Inv X pins σ H s→RelV v u→wpAny (model X.prog X.w) X.A (assign tg X.env u) (fun _ s'=>∃σ' H',Inv X pins σ' H' s'∧Q σ' H') X.xe s
theorem pg_X:PG X tg (tXg X tg):=fun pins s σ H v u Q I r h=>h pins s u I r
theorem e1_for {t:Tg}{run:List Sl→Option Out}(hi:Si X ρ true iter ds)(ht:Tgj X tg t)(hb:∀ρ' o',run ρ'=some o'→Ep X ρ' body o')(h:forL (bindTg t) run ds ρ=some o)
  (hc:X.calm=true) (hp:PassesOwn (model X.prog X.w) X.A X.env X.xe) (hf:∀x,foldedSetIterable iter X.env x=pure x):E1 X ρ (.For tg iter body [] pos) o:=by
 intro pins s σ H F I h0
 obtain⟨G0,H0,G,env,R⟩:=h0
 refine ps_for hp hc (hi _) (pg_X (tg:=tg)) (pss_X (body:=body)) hf pins s σ H F I ?_
 refine⟨G0,H0,G,env,fun J G1 H1 e1 hJ=>⟨fun k m σ' H'=>m=ds.length-k∧k≤ds.length∧∃ρ' G',forL (bindTg t) run (ds.drop k) ρ'=some o∧EnvD X.K G0 H0 G' H' σ' ρ'∧Same G1 G',⟨ds.length,by simp,Nat.zero_le _,ρ,G1,h,env.step e1,Same.refl _⟩,?_⟩⟩
 rintro k m σ' H' ⟨rfl,hk,ρ',G',pv,env',g1⟩
 have g0:Same G G':=e1.gg.trans g1
 by_cases hlt:k<ds.length
 ·refine .inr ⟨hJ.go k H' hlt (g1.trans env'.sub) env'.ext.hh,fun σ2 H2=>k+1≤ds.length∧∃ρ2 G2,forL (bindTg t) run (ds.drop (k+1)) ρ2=some o∧EnvD X.K G0 H0 G2 H2 σ2 ρ2∧Same G1 G2,fun σ2 H2 ⟨h1,ρ2,G2,p2,en2,s2⟩=>⟨ds.length-(k+1),by omega,rfl,h1,ρ2,G2,p2,en2,s2⟩,fun v H2 y=>?_⟩
  have hd:ds[k]?=some ds[k]:=ge0 hlt
  rw[List.drop_eq_getElem_cons hlt] at pv
  generalize ds[k]=dd at hd pv
  obtain⟨ρ1,b1,pv⟩:=bx0 (show (bindTg t dd ρ').bind _=some o from pv)
  obtain⟨o1,b2,pv⟩:=bx0 pv
  obtain⟨G2,e2,d2⟩:=hJ.yld k G' H' v H2 dd hd g1 env'.sub env'.ext.hh y
  intro pins' s' u' I' r'
  refine ht dd pins' s' σ' H2 v u' _ I' r' ⟨G0,H0,G2,ρ',ρ1,env'.step e2,d2,b1,fun σ2 en2=>?_⟩
  intro pins2 s2 I2
  refine hb ρ1 o1 b2 pins2 s2 σ2 H2 _ I2 ⟨G0,H0,G2,en2,?_⟩
  cases o1 with
  |nx ρ3=>exact fun G3 H3 σ3 en3 g3=>⟨hlt,ρ3,G3,pv,en3,g1.trans (e2.gg.trans g3)⟩
  |rt dr=>
   cases pv
   exact R
 ·have e:k=ds.length:=by omega
  subst e
  rw[List.drop_length] at pv
  cases pv
  exact .inl ⟨hJ.stop H' (g1.trans env'.sub) env'.ext.hh,R G' H' σ' env' g0⟩
end
structure VarOk (X:Cx)(x:Str)(i:Nat):Prop where
 at':X.N[i]?=some x
 vis:Vis X.env.scope x
 d:(x==("__debug__":Str))=false
 cd:(x==("__classdict__":Str))=false
section
variable {X:Cx}{ρ ρ1:List Sl}{st:Stmt}{rest body:List Stmt}{o:Out}{a b c e k tg iter:Expr}{p p1 pos pos' apos cpos:Pos}{d:D}{ds es:List D}{x y:Str}{i j:Nat}
theorem VarOk.pe (V:VarOk X x i):PE X (.Name x p) (tVar i):=pe_var V.at' V.vis V.d V.cd
theorem base_name {name:Str}{env:Env}:attributeBase (.Name x p1) name env (eval (.Name x p1) env)=eval (.Name x p1) env:=rfl
theorem own_list {K:Fg}{G0 H0 G H:Hp}{σ:St}(env:EnvD K G0 H0 G H σ ρ)(h:ρ[i]?=some (.own (.list ds))):∃q vs,σ[i]?=some (some (.ref q))∧H q=some (.lst vs)∧Dps K G ds vs:=by
 obtain⟨q,a,_,_,g⟩:=env.own i _ h
 rcases g with⟨ds',vs,h1,h2,h3⟩|⟨kvs,ws,h1,_⟩
 ·cases h1;exact⟨q,vs,a,h2,h3⟩
 ·cases h1
theorem own_dict {K:Fg}{G0 H0 G H:Hp}{σ:St}{kvs:List (Key×D)}(env:EnvD K G0 H0 G H σ ρ)(h:ρ[i]?=some (.own (.dict kvs))):∃q vs,σ[i]?=some (some (.ref q))∧H q=some (.dK vs)∧Dks K G kvs vs:=by
 obtain⟨q,a,_,_,g⟩:=env.own i _ h
 rcases g with⟨ds',vs,h1,h2,h3⟩|⟨kvs,ws,h1,h2,h3⟩
 ·cases h1
 ·cases h1;exact⟨q,ws,a,h2,h3⟩
theorem e1_app (V:VarOk X x i)(h:Ev X ρ e d)(hs:isStar e=false)(ho:ρ[i]?=some (.own (.list ds)))(hz:ds.length<sizeLine)(hline:(apos.endLine==cpos.line)=true):
  E1 X ρ (.Expr (.Call (.Attribute (.Name x p1) "append" apos) [e] [] cpos) pos) (.nx (ρ.set i (.own (.list (ds++[d]))))):=by
 have hS:=starEach_cons (es:=[]) (env:=X.env) hs
 intro pins s σ H F I h0
 obtain⟨G0,H0,G,env,R⟩:=h0
 obtain⟨q,vs,a,b,g⟩:=own_list env ho
 refine ps_expr (pe_bm PySem.F.plainAttrs_list PySem.F.slot_list_append PySem.F.type_list_append mt_append V.pe (pa_cons h pa_nil hS) base_name (by rw[hS];rfl) hline hS rfl) rfl pins s σ H F I ?_
 refine⟨.ref q,a,.inl ⟨rfl,vs,SqL.of b⟩,G0,H0,G,env,fun w G1 H1 e1 r=>?_⟩
 exact⟨q,vs,w,rfl,rfl,e1.hh _ _ b,by rw[←g.length];exact hz,R G1 _ _ ((env.step e1).change ho a (.inl ⟨_,_,rfl,upd_same,(g.mono e1.gg).append (.one r)⟩)) e1.gg⟩
theorem sub_assign {env:Env}{spos:Pos}(hk:isSlice k=false):∀v,assign (.Subscript (.Name x p1) k spos) env v=(do
   let ov ←holding [v] (eval (.Name x p1) env)
   let iv ←holding [v,ov] (eval k env)
   standAt spos
   holding [v,ov,iv] (setItem ov iv v)
   release [v,ov,iv] []):=by
 intro v
 cases k<;>first|rfl|cases hk
theorem swaps_sub {env:Env}{spos:Pos}:swapsWithSole [.Subscript (.Name x p1) k spos] e pos.line env=pure false:=by
 unfold swapsWithSole swapsWith
 cases e<;>rfl
theorem swapped_sub {env:Env}{spos:Pos}:swappedStores [.Subscript (.Name x p1) k spos] e env=pure Option.none:=by
 unfold swappedStores
 cases e<;>rfl
theorem e1_setL {n:Int}{m:Nat}{spos:Pos}(V:VarOk X x i)(h:Ev X ρ e d)(hk:Ev X ρ k (.int n))(hks:isSlice k=false)(ho:ρ[i]?=some (.own (.list ds)))(hm:SI.ixN ds.length n=some m):
  E1 X ρ (.Assign [.Subscript (.Name x p1) k spos] e pos) (.nx (ρ.set i (.own (.list (ds.set m d))))):=by
 intro pins s σ H F I h0
 obtain⟨G0,H0,G,env,R⟩:=h0
 obtain⟨q,vs,a,b,g⟩:=own_list env ho
 refine ps_asg h (pg_sub V.pe hk set_list (sub_assign hks)) swaps_sub swapped_sub rfl pins s σ H F I ?_
 refine⟨G0,H0,G,env,fun v G1 H1 e1 r1=>⟨.ref q,a,G0,H0,G1,env.step e1,fun w G2 H2 e2 r2=>?_⟩⟩
 cases r2
 have e3:=e1.trans e2
 exact⟨q,vs,n,m,rfl,rfl,e3.hh _ _ b,by rw[←g.length];exact hm,R G2 _ _ ((env.step e3).change ho a (.inl ⟨_,_,rfl,upd_same,(g.mono e3.gg).set (r1.mono e2.gg) m⟩)) e3.gg⟩
end
end L2.Z
namespace PySem.W
open PySem PySem.Spec PySem.Calls PyProof.Rows
structure ExcI (K:Frag)(C:Addr):Prop where
 ga:findIn K (.ref C) "__getattribute__"=some (some (.builtin "BaseException.__getattribute__"))
 gt:findIn K (.ref C) "__getattr__"=some none
 cl:findIn K (.ref C) "__class__"=some (some (.builtin "object.__class__"))
 sb:subIn K (.ref C) (.type "BaseException")=some true
 so:subIn K (.ref C) (.type "object")=some true
 ci:(clsIn K C).isSome=true
section
variable {prog:Program}{w:World}{A:Around}{E:Value→Shared→Prop}{h:Heap}{g:Array GenState}{d:Drawn}{t:Nat}{os:OsState}{a C:Addr}{o:Obj}{K:Frag}
theorem xcls_get {R:Result→Shared→Prop}(Z:ExcI K C)(X:K.In h)(hx:h.get? a=some o)(hc:o.cls=.ref C)(hq:R (.ok (.ret (.ref C))) ⟨h,g,d,t,os⟩):
  codeAny (model prog w) A (.call (.builtin "getset_descriptor.__get__") ⟨[.builtin "object.__class__",.ref a,.ref C],[]⟩) R ⟨h,g,d,t,os⟩:=by
 have hT5:(⟨h,g,d,t,os⟩:Shared).TypeIs (.builtin "object.__class__") "getset_descriptor":=F.typeOf_object_class
 have L8:Looks (model prog w) h (isSubtype (.ref C) (.type (".".intercalate ("object.__class__".cutAt '.').dropLast))) true:=by rw[F.owner_object_class];exact looks_subIn X Z.so
 refine codeAny_call_builtin F.slot_gs_get.plain F.entry_gs_get (F.slot_gs_get.check _ _ _ _ _ _ _ _ hT5 (F.args_gs_get _ _ _) ?_)
 repeat (any_goals (first|assumption|(with_reducible refine wpAny_loadPart_at hx ?_;rw[hc])|with_reducible refine Looks.at L8 ?_|wp_step))
 refine⟨Code.quiet_builtin _ (by decide +kernel),codeAny_builtin F.entry_object_class ?_⟩
 repeat (any_goals (first|assumption|(with_reducible refine wpAny_loadPart_at hx ?_;rw[hc])|wp_step))
theorem xcls_entry {tk:Tok}{Q:Fin→Shared→Prop}(Z:ExcI K C)(X:K.In h)(hx:h.get? a=some o)(hc:o.cls=.ref C)(hq:Q (.done (.ret (.ref C))) ⟨h,g,d,t,os⟩):
  wpAny (model prog w) A (Builtin.«object.__getattribute__» ⟨[.ref a,.str "__class__" tk],[]⟩) Q E ⟨h,g,d,t,os⟩:=by
 have hT5:(⟨h,g,d,t,os⟩:Shared).TypeIs (.builtin "object.__class__") "getset_descriptor":=F.typeOf_object_class
 have L4:=looks_findIn (M:=model prog w) X Z.cl
 have f5:=F.typeOf_object_class
 have f6:=F.slot_gs_get.lookup
 have f7:=F.slot_gs_set.lookup
 repeat (any_goals (first|assumption|(with_reducible refine wpAny_loadPart_at hx ?_;rw[hc])|with_reducible refine Looks.at L4 ?_|wp_step))
 refine xcls_get Z X hx hc ?_
 repeat (any_goals (first|assumption|wp_step))
theorem xcls_check {M:Model}{nameV:Value}{Q:Unit→Shared→Prop}(Z:ExcI K C)(X:K.In h)(hx:h.get? a=some o)(hc:o.cls=.ref C)(hq:Q () ⟨h,g,d,t,os⟩):
  wpAny M A (checkBuiltinCall "BaseException.__getattribute__" ⟨[.ref a,nameV],[]⟩) Q E ⟨h,g,d,t,os⟩:=by
 have hk:builtinKind "BaseException.__getattribute__"=some .slot:=by decide +kernel
 have hsplit:splitId "BaseException.__getattribute__"=some ("BaseException","__getattribute__"):=by decide +kernel
 have L:Looks M h (isSubtype (.ref C) (.type "BaseException")) true:=looks_subIn X Z.sb
 have ha:=F.args_bexc_ga (.ref a) nameV
 simp only[checkBuiltinCall,hk,hsplit]
 refine wpAny_bind ?_
 ·unfold isInstance
  repeat (first|(with_reducible refine wpAny_loadPart_at hx ?_;rw[hc])|with_reducible refine Looks.at L ?_|wp_step)
  exact hq
theorem xcls_call {tk:Tok}{R:Result→Shared→Prop}(Z:ExcI K C)(X:K.In h)(hx:h.get? a=some o)(hc:o.cls=.ref C)(hq:R (.ok (.ret (.ref C))) ⟨h,g,d,t,os⟩):
  codeAny (model prog w) A (.call (.builtin "BaseException.__getattribute__") ⟨[.ref a,.str "__class__" tk],[]⟩) R ⟨h,g,d,t,os⟩:=
 codeAny_call_builtin F.attrBase_ValueError.ga.plain F.entry_bexc_ga (xcls_check Z X hx hc (xcls_entry Z X hx hc hq))
theorem xcls_by {tk:Tok}{fill expr:Bool}{Q:Value→Shared→Prop}(Z:ExcI K C)(X:K.In h)(hx:h.get? a=some o)(hc:o.cls=.ref C)(hq:Q (.ref C) ⟨h,g,d,t,os⟩):
  wpAny (model prog w) A (getAttrBy (.ref a) (.str "__class__" tk) fill expr) Q E ⟨h,g,d,t,os⟩:=by
 have f3:=F.attrBase_ValueError.ga.bind (.ref a)
 have hx0:(expr&&onTheHeap (Value.builtin "BaseException.__getattribute__"))=false:=by cases expr<;>rfl
 have hx2:(Value.builtin "BaseException.__getattribute__"==Value.builtin "object.__getattribute__")=false:=by decide +kernel
 have hx1:(onTheHeap (Value.ref C)&&Value.builtin "BaseException.__getattribute__"==Value.builtin "object.__getattribute__")=false:=by rw[hx2];rfl
 have L1:=looks_findIn (M:=model prog w) X Z.ga
 have L2:=looks_findIn (M:=model prog w) X Z.gt
 repeat (any_goals (first|assumption|(with_reducible refine wpAny_loadPart_at hx ?_;rw[hc])|with_reducible refine Looks.at L1 ?_|with_reducible refine Looks.at L2 ?_|wp_step))
 refine xcls_call Z X hx hc ?_
 repeat (any_goals (first|assumption|wp_step))
theorem xcls_attr {Q:Option Value→Shared→Prop}(Z:ExcI K C)(X:K.In h)(hx:h.get? a=some o)(hc:o.cls=.ref C)(hq:Q (some (.ref C)) ⟨h,g,d,t+1,os⟩):
  wpAny (model prog w) A (getAttr? (.ref a) "__class__") Q E ⟨h,g,d,t,os⟩:=by
 unfold getAttr? getAttrBy?
 repeat (any_goals (first|assumption|with_reducible apply xcls_by Z X hx hc|wp_step))
theorem kitx_exc (Z:ExcI K C):KitX K (.ref a) (.ref C) (L2.Z.ExcAt a C) where
 ty:=fun M h _ p=>by
  obtain⟨o,h1,h2⟩:=p
  exact h2▸(Looks.ld h1).andThen .now
 it:=fun _ _ X _=>by
  have hcD:=Z.ci
  unfold clsIn at hcD
  split at hcD
  ·rename_i c' d' cd' sl' ho
   intro A' Q' E' s' k q
   unfold isType loadHead
   exact wpAny_bind (wpAny_loadPart (k _ _ (X _ _ ho)) (wpAny_pure q))
  ·cases hcD
 ne:=fun h tp dd its n sl X htp=>by
  have hcD:=Z.ci
  refine Bool.eq_false_iff.mpr fun q=>?_
  have e:C=tp:=Value.ref.inj (beq_iff_eq.mp q)
  subst e
  unfold clsIn at hcD
  split at hcD
  ·rename_i c' d' cd' sl' ho
   have z:=(X _ _ ho).symm.trans htp
   cases z
  ·cases hcD
 ca:=fun {_ _ _ _ _ s} X p k=>by
  obtain⟨h,g,d,t,os⟩:=s
  obtain⟨o,h1,h2⟩:=p
  exact xcls_attr Z X h1 h2 k
end
end PySem.W
namespace L2.Z
open PySem PySem.Spec PyProof.Rows L2 L2.C SI
theorem idxOf_get {N:List Str}{x:Str}{i:Nat}(h:N.idxOf? x=some i):N[i]?=some x:=by
 unfold List.idxOf? at h
 obtain⟨h1,h2,_⟩:=List.findIdx?_eq_some_iff_getElem.mp h
 rw[ge0 h1]
 exact congrArg some (eq_of_beq h2)
structure CxC (X:Cx)(C:Cs):Prop where
 N:X.N=C.N
 nd:C.N.Nodup
 vis:∀x k,C.sc.names.lookup x=some k→(k=.local∨k=.cell∨k=.free)→Vis X.env.scope x
 loc:∀x k,C.sc.names.lookup x=some k→(k=.local∨k=.cell)→Loc X.env.scope x∧(X.fn x=true∨X.env.scope.names.lookup x=some .local)
 cell:∀x,C.sc.names.lookup x=some .cell→X.env.kindOf x=some .cell
 glob:∀x,C.sc.names.lookup x=some .globalImplicit→Gl X x
 calm:X.calm=true
 kind:X.env.scope.kind=.function
noncomputable def bltNames:List Str:=["len","max","min","int","list","str","isinstance","range","tuple","bool","reversed","dict","zip","all","ord","sorted","set"]
structure FnZv (P:Program)(w:World)(K:Fg)(mg:Str→Option Value)(base:Heap)(k:Nat)(c:Addr)(m:Str)(φ:Fn):Prop where
 nm:m≠"objects"∧m≠"numbers"
 ex:∃f fd ps,Meth K c m f∧Binds K fd ps []∧FnOk P w K mg base CX0 k f fd ps (Pur K φ)
structure XcZ (K:Fg)(mg:Str→Option Value)(t:Str)(c:Addr)(tab:List (Nat×Bool)):Prop where
 mg:mg t=some (.ref c)
 kp:PySem.W.keepIn K (.ref c)=true
 one:∀e b,tab.lookup e=some b→PySem.W.ExcI K e∧PySem.W.kitOne K (.ref e) (.ref c)=some b
structure Wz (X:Cx)(Φ:Fs)(Γ:List (Str×D))(C:Cs)(k:Nat):Prop where
 blt:∀x∈bltNames,X.mg x=Option.none
 fns:∀x,C.fns.contains x=true→∀φ,Φ x=some φ→FnZ X.prog X.w X.K X.mg X.base k x φ
 gl:∀x d,Γ.lookup x=some d→∃u v,X.mg x=some u∧RelV v u∧∀G,Dp X.K G d v
 room:Room k X.A
 vc:∀c,C.vc=some c→Cls X.K c∧NoAttr X.K c "objects"
 vf:∀c m,C.vc=some c→C.vms.contains m=true→∀φ,Φ (vname m)=some φ→FnZv X.prog X.w X.K X.mg X.base k c m φ
 xc:∀t c tab,C.xcs.lookup t=some (c,tab)→XcZ X.K X.mg t c tab
noncomputable def SdE (X:Cx)(Φ:Fs)(Γ:List (Str×D))(e:Expr)(E':E):Prop:=
 (∀ρ d,ev Φ Γ .val ρ E'=some d→Ev X ρ e d)∧(∀ρ d,ev Φ Γ .read ρ E'=some d→Er X ρ e d)∧(∀ρ d,ev Φ Γ .walk ρ E'=some d→Ek X ρ e d)∧
 (∀ρ d,ev Φ Γ .test ρ E'=some d→∃b,d=.bool b∧Et X ρ e b)∧(fresh E'=true→∀ρ d,ev Φ Γ .val ρ E'=some d→ownD d=true→En X ρ e d)
theorem meth_tree {o:Expr}{m:Str}{apos pos:Pos}{es:List Expr}{env:Env}(hsup:isSuper o=false)(hs:noStars es)(hn:es.length≤20)(hline:(apos.endLine==pos.line)=true):
  eval (.Call (.Attribute o m apos) es [] pos) env=(do
   let ov ←eval o env
   standAt apos.atName
   let (f,first) ←holding [ov] (getMethod ov m (do return (←importBound o env).getD true))
   callWith pos f first (backTo pos (starEach es env)) (backToKw pos (keywordEach [] env))):=by
 have hform:methodCallForm (es.length+([]:List Keyword).length) (backTo pos (starEach es env)) (backToKw pos (keywordEach [] env))=true:=by
  unfold methodCallForm
  rw[stars_all hs]
  show (true&&true&&decide (es.length+0+0<30))=true
  rw[decide_eq_true (by omega)];rfl
 rw[arm_eval_Call,base_of hsup]
 unfold methodCall
 rw[hform]
 have hpos:methodCallPos true o env apos pos=pure pos:=by unfold methodCallPos;simp[hline]
 rw[hpos]
 rfl
section
variable {X:Cx}{ρ:List Sl}{o e:Expr}{es:List Expr}{c h k:Nat}{os:List D}{d:D}{ds:List D}{x m:Str}{p pos apos px:Pos}
theorem er_vob (hc:Cls X.K c)(hn:NoAttr X.K c "objects")(ho:Er X ρ o (.vlt c h os))(hsup:isSuper o=false):Er X ρ (.Attribute o "objects" pos) (.list os):=
 fun pins s σ H Q I ⟨G0,H0,G,E,k⟩=>pe_fld ho (base_of hsup) pins s σ H Q I ⟨G0,H0,G,E,fun v G1 H1 e1 r1=>by
  cases r1 with
  |of r1=>cases r1
  |vlt h1 h2 r=>exact⟨_,_,_,_,_,rfl,h1,hc,hn,rfl,k _ G1 H1 e1 (.list h2 r)⟩⟩
theorem vlt_at {K:Fg}{G H:Hp}{v:V}(hm:m≠"objects"∧m≠"numbers")(r:Dr K G H (.vlt c h os) v):∃a dx fs,v=.ref a∧H a=some (.ins c dx fs)∧fs.lookup m=Option.none:=by
 cases r with
 |of r1=>cases r1
 |vlt h1 h2 r=>
  refine⟨_,_,_,rfl,h1,?_⟩
  have n1:(m==("objects":Str))=false:=beq_eq_false_iff_ne.mpr hm.1
  have n2:(m==("numbers":Str))=false:=beq_eq_false_iff_ne.mpr hm.2
  simp[vfs,List.lookup_cons,n1,n2]
theorem ev_vcall {φ:Fn}(F:FnZv X.prog X.w X.K X.mg X.base k c m φ)(hc:Cls X.K c)(hr:Room k X.A)(ho:Er X ρ o (.vlt c h os))(ha:Ea X ρ φ.lent.tail es ds)(hl:φ.lent.headD false=true)(hrun:φ.run (.vlt c h os::ds)=some d)(hs:noStars es)(hnil:es=[]→ds=[])
  {pl:Sem Bool} (ht:eval (.Call (.Attribute o m apos) es [] pos) X.env=(do
   let ov ←eval o X.env
   standAt apos.atName
   let (f,first) ←holding [ov] (getMethod ov m pl)
   callWith pos f first (backTo pos (starEach es X.env)) (backToKw pos (keywordEach [] X.env)))):Ev X ρ (.Call (.Attribute o m apos) es [] pos) d:=by
 obtain⟨f,fd,ps,hm,hb,Ff⟩:=F.ex
 intro pins s σ H Q I h0
 obtain⟨G0,H0,G,E,kq⟩:=h0
 cases es with
 |nil=>
  refine pe_meth0 (pl:=pl) ho hc hm Ff hr hb .nil pass0 ht pins s σ H Q I ⟨G0,H0,G,E,fun v G1 H1 e1 r1=>?_⟩
  obtain⟨a,dx,fs,rfl,h1,h2⟩:=vlt_at F.nm r1
  refine⟨a,dx,fs,rfl,h1,h2,?_⟩
  have hds:ds=[]:=hnil rfl
  subst hds
  exact⟨[.vlt c h os],d,G1,hrun,e1.gh,.cons (fun z=>by rw[hl] at z;cases z) r1 .nil,fun v G' H' e2 r2=>kq v G' H' (e1.trans e2) r2⟩
 |cons e es=>
  refine pe_meth (pl:=pl) ho hc hm Ff hr hb .nil pass0 ha (starEach_cons (hs e ms0)) (stars_any fun y hy=>hs y (mc0 _ hy)) ht pins s σ H Q I ⟨G0,H0,G,E,fun v G1 H1 e1 r1=>?_⟩
  obtain⟨a,dx,fs,rfl,h1,h2⟩:=vlt_at F.nm r1
  refine⟨a,dx,fs,rfl,h1,h2,G0,H0,G1,E.step e1,fun vs G2 H2 e2 r2=>?_⟩
  exact⟨.vlt c h os::ds,d,G2,hrun,e2.gh,by rw[List.append_nil];exact .cons (fun z=>by rw[hl] at z;cases z) (r1.ext e2) r2,fun v G' H' e3 r3=>kq v G' H' (e1.trans (e2.trans e3)) r3⟩
theorem call_isx {K:Fg}{c e:Addr}{b:Bool}(Z:PySem.W.ExcI X.K e)(h1:PySem.W.kitOne X.K (.ref e) (.ref c)=some b):CallR X (.builtin "isinstance") (fun xs H Q=>∃a,xs=[.ref a,.ref c]∧H a=some (.ext (ExcAt a e))∧Q (.bl b) H):=by
 intro pins s σ H xs us Q I r h
 obtain⟨a,rfl,ha,q⟩:=h
 obtain⟨u,v,rfl,ru,rv⟩:=vals2 r
 cases ru
 cases rv
 have hx:ExcAt a e s.heap:=(show ObjOk X.prog X.w H s.heap a (.ext (ExcAt a e)) from I.hok a _ ha).1
 exact PySem.W.kia_one (PySem.W.kitx_exc Z) I.kIn hx h1 (fun z=>nomatch z) fun tk=>⟨.bl b,H,I.tok tk,rfl,q⟩
theorem isx_sound {c e:Addr}{a:Expr}{b:Bool}{tab:List (Nat×Bool)}(B:Blt X "isinstance")(T:XcZ X.K X.mg x c tab)(hg:Gl X x)(hdb:(x==("__debug__":Str))=false)(ha:Er X ρ a (.exc e))(hs:isStar a=false)(h:tab.lookup e=some b):
  Ev X ρ (.Call (.Name "isinstance" p) [a,.Name x px] [] pos) (.bool b):=by
 obtain⟨Z,h1⟩:=T.one e b h
 have pn:PE X (.Name x px) (fun σ H Q=>Q (.ref c) H):=fun pins s σ H Q I q=>pe_glob hg T.mg (show RelV (.ref c) (.ref c) from rfl) hdb pins s σ H Q I q
 intro pins s σ H Q I h0
 obtain⟨G0,H0,G,E,k⟩:=h0
 refine pe_callB (call_isx (K:=X.K) Z h1) B.g B.m boot_isi (pa_cons ha (pa_cons pn pa_nil rfl) (starEach_cons hs)) (by decide) (by decide) (starEach_cons hs) rfl pins s σ H Q I ⟨G0,H0,G,E,fun v G1 H1 e1 r1=>?_⟩
 cases r1 with
 |of r1=>cases r1 with
  |exc r1=>exact⟨_,rfl,e1.gh _ _ r1,k _ G1 H1 e1 (.bool _)⟩
end
section
variable {X:Cx}{Φ:Fs}{Γ:List (Str×D)}{C:Cs}{k:Nat}{e:Expr}{E':E}
theorem sd_of (core:List Sl→Option D)(h:∀m ρ,ev Φ Γ m ρ E'=fin m (core ρ))(hv:∀ρ d,core ρ=some d→Ev X ρ e d)(ht:∀ρ d t,core ρ=some d→truD d=some t→Et X ρ e t)
  (hn:fresh E'=true→∀ρ d,core ρ=some d→ownD d=true→En X ρ e d):SdE X Φ Γ e E':=by
 refine⟨fun ρ d q=>?_,fun ρ d q=>?_,fun ρ d q=>?_,fun ρ d q=>?_,fun f ρ d q=>?_⟩
 ·rw[h] at q;exact hv ρ d q
 ·rw[h] at q;exact (hv ρ d q).er
 ·rw[h] at q;exact (hv ρ d q).ek
 ·rw[h] at q
  obtain⟨d',q1,q2⟩:=bx0 (show (core ρ).bind _=some d from q)
  obtain⟨t,q3,q4⟩:=mx0 q2
  exact⟨t,q4.symm,ht ρ d' t q1 q3⟩
 ·rw[h] at q;exact hn f ρ d q
theorem sd_plain (core:List Sl→Option D)(h:∀m ρ,ev Φ Γ m ρ E'=fin m (core ρ))(hv:∀ρ d,core ρ=some d→Ev X ρ e d)(he:∀whole,isTrue e X.env whole=(do let v ←whole;standAt e.pos;holding [v] (truthy v)))
  (hn:fresh E'=true→∀ρ d,core ρ=some d→ownD d=true→En X ρ e d):SdE X Φ Γ e E':=sd_of core h hv (fun ρ d t q1 q2=>et_truth (hv ρ d q1).er q2 he) hn
theorem slot_ok (c:CxC X C){x:Str}{i:Nat}(h:cSlot C x=some i):VarOk X x i:=by
 unfold cSlot at h
 split at h
 ·rename_i j hj
  split at h
  ·rename_i q
   cases h
   rw[be0,Bool.or_eq_true,Bool.or_eq_true] at q
   obtain⟨q1,q2⟩:=q
   unfold plainName at q2
   rw[be0,be0] at q2
   refine⟨by rw[c.N];exact idxOf_get hj,?_,by simpa using q2.1.1,by simpa using q2.1.2⟩
   unfold kindIs at q1
   rcases q1 with (q1|q1)|q1
   ·exact c.vis x _ (eq_of_beq q1) (.inl rfl)
   ·exact c.vis x _ (eq_of_beq q1) (.inr (.inl rfl))
   ·exact c.vis x _ (eq_of_beq q1) (.inr (.inr rfl))
  ·cases h
 ·cases h
theorem loc_ok (c:CxC X C){x:Str}{i:Nat}(h:cLoc C x=some i):NmOk X x i:=by
 unfold cLoc at h
 split at h
 ·rename_i j hj
  split at h
  ·rename_i q
   cases h
   rw[be0,Bool.or_eq_true] at q
   obtain⟨q1,q2⟩:=q
   unfold kindIs at q1
   have l:Loc X.env.scope x∧(X.fn x=true∨X.env.scope.names.lookup x=some .local):=by
    rcases q1 with q1|q1
    ·exact c.loc x _ (eq_of_beq q1) (.inl rfl)
    ·exact c.loc x _ (eq_of_beq q1) (.inr rfl)
   exact⟨by rw[c.N];exact idxOf_get hj,l.1,l.2⟩
  ·cases h
 ·cases h
theorem sto_ok (c:CxC X C){x:Str}{i:Nat}(h:cLoc C x=some i):Sto X x i:=⟨by rw[c.N];exact c.nd,loc_ok c h⟩
theorem glob_ok (c:CxC X C){x:Str}(h:isGlob C x=true):Gl X x∧x≠"__name__"∧(x==("__debug__":Str))=false:=by
 unfold isGlob at h
 rw[be0] at h
 unfold plainName kindIs at h
 rw[be0,be0] at h
 exact⟨c.glob x (eq_of_beq h.1),by simpa using h.2.2,by simpa using h.2.1.1⟩
theorem blt_ok (c:CxC X C)(w:Wz X Φ Γ C k){x:Str}(h:isGlob C x=true)(hb:x∈bltNames):Blt X x:=⟨(glob_ok c h).1,w.blt x hb,(glob_ok c h).2.1,(glob_ok c h).2.2⟩
theorem tg_ok (c:CxC X C){tg:Expr}{t:Tg}(h:cTg C tg=some t):Tgj X tg t:=by
 have nms:∀{es:List Expr} {is:List Nat},slots C es=some is→Nms X es is:=by
  intro es
  induction es with
  |nil=>intro is h;cases h;exact .nil
  |cons e r ih=>
   intro is h
   cases e with
   |Name x px=>
    obtain⟨i,h1,h2⟩:=bx0 (show (cLoc C x).bind _=some is from h)
    obtain⟨is',h3,rfl⟩:=mx0 h2
    exact .cons (loc_ok c h1) (ih h3)
   |_=>cases h
 cases tg with
 |Name x px=>
  obtain⟨i,h1,rfl⟩:=mx0 (show (cLoc C x).map _=some t from h)
  have n:=loc_ok c h1
  exact tgj_name (by rw[c.N];exact c.nd) n.at' n.loc n.fn
 |Tuple es n pos=>
  obtain⟨is,h1,rfl⟩:=mx0 (show (slots C es).map _=some t from h)
  exact tgj_tup c.calm (by rw[c.N];exact c.nd) (nms h1)
 |_=>cases h
theorem idxAll_ok {N:List Str}:∀{xs:List Str} {js:List Nat},idxAll N xs=some js→(js.map fun j=>N.getD j Str.empty)=xs∧∀j∈js,∃x∈xs,N[j]?=some x
 |[],js,h=>by cases h;exact⟨rfl,fun _ z=>by cases z⟩
 |x::r,js,h=>by
  obtain⟨i,h1,h2⟩:=bx0 (show (N.idxOf? x).bind _=some js from h)
  obtain⟨js',h3,rfl⟩:=mx0 h2
  obtain⟨q1,q2⟩:=idxAll_ok h3
  have e:=idxOf_get h1
  refine⟨?_,fun j hj=>?_⟩
  ·rw[List.map_cons,q1,List.getD_eq_getElem?_getD,e];rfl
  ·rcases List.mem_cons.mp hj with rfl|hj
   ·exact⟨x,ms0,e⟩
   ·obtain⟨y,hy,ey⟩:=q2 j hj
    exact⟨y,mc0 _ hy,ey⟩
theorem lookup_relabel_other {env:Env}{nk:NameKind}(hne:nk≠.free):∀{names:List (Str×NameKind)} {x:Str},names.lookup x=some nk→
  (names.map fun (n,k)=>if (k==NameKind.free&&env.scope.kind==.function&&env.kindOf n==some .cell) then (n,NameKind.cell) else (n,k)).lookup x=some nk
 |[],_,h=>by simp at h
 |(n,k)::r,x,h=>by
  have ih:=@lookup_relabel_other env nk hne r x
  show List.lookup x ((if (k==NameKind.free&&env.scope.kind==.function&&env.kindOf n==some .cell)=true then (n,NameKind.cell) else (n,k))::_)=_
  cases hy:x==n with
  |true=>
   simp only[List.lookup_cons,hy] at h
   cases h
   rw[if_neg (by simp[hne])]
   simp[List.lookup_cons,hy]
  |false=>
   simp only[List.lookup_cons,hy] at h
   by_cases hc:(k==NameKind.free&&env.scope.kind==.function&&env.kindOf n==some .cell)=true
   ·rw[if_pos hc];simp only[List.lookup_cons,hy];exact ih h
   ·rw[if_neg hc];simp only[List.lookup_cons,hy];exact ih h
structure BlkR (X:Cx)(C B:Cs)(sc:Scope)(tg:Expr)(nt:Nat)(js:List Nat):Prop where
 ok:BlkOk X sc js
 nt:nt=(tgNames tg).length
 n:B.N=blkN X (tgNames tg) js
 cx:∀(A:Addr) (s:Shared) (H:Hp) (fp:List Addr),CxC (L2.C.blk X sc (blkN X (tgNames tg) js) A s H fp) B
 same:B.fns=C.fns∧B.cst=C.cst∧B.vc=C.vc∧B.vms=C.vms∧B.xcs=C.xcs
theorem blk_ok' (c:CxC X C){sc:Scope}{tg:Expr}{B:Cs}{nt:Nat}{js:List Nat}(h:cBlk C sc tg=some (B,nt,js)):BlkR X C B sc tg nt js:=by
 unfold cBlk at h
 split at h
 ·rename_i q
  obtain⟨js',h1,h2⟩:=mx0 h
  injection h2 with h2 h3
  injection h3 with h3 h4
  subst h2 h3 h4
  unfold blkOk at q
  simp only[be0] at q
  obtain⟨⟨⟨⟨q1,q2⟩,q3⟩,q4⟩,q5⟩:=q
  have q2':=fun y hy=>List.all_eq_true.mp q2 y hy
  obtain⟨i1,i2⟩:=idxAll_ok h1
  have hN:tgNames tg++freeOf sc=blkN X (tgNames tg) js':=by
   unfold blkN;rw[c.N,i1]
  have hfree:∀y∈sc.names,y.2=.free→X.env.kindOf y.1=some .cell:=fun y hy hf=>by
   have z:=q2' y hy
   simp only[be0,Bool.or_eq_true] at z
   rcases z.1.1 with z|z
   ·rw[hf] at z;simp at z
   ·exact c.cell y.1 (eq_of_beq z)
  have hcell:∀y∈sc.names,y.2≠.cell:=fun y hy=>by
   have z:=q2' y hy
   simp only[be0] at z
   simpa using z.1.2
  refine⟨⟨eq_of_beq q1,hfree,hcell,fun y hy hl=>?_,fun j hj=>?_⟩,rfl,hN,fun A s H fp=>⟨hN.symm,of_decide_eq_true q5,fun x kd e ek=>?_,fun x kd e ek=>?_,fun x e=>?_,fun x e=>?_,c.calm,eq_of_beq q1⟩,rfl,rfl,rfl,rfl,rfl⟩
  ·have z:=q2' y hy
   simp only[be0,Bool.or_eq_true] at z
   rcases z.2 with z|z
   ·rw[hl] at z;simp at z
   ·exact eq_of_beq z
  ·obtain⟨x,hx,e⟩:=i2 j hj
   refine⟨x,by rw[c.N];exact e,eq_of_beq (List.all_eq_true.mp q4 x hx)⟩
  ·have e:sc.names.lookup x=some kd:=e
   rcases ek with rfl|rfl|rfl
   ·exact .inl (lookup_relabel_local e)
   ·exact absurd rfl (hcell _ (PySem.mem_of_lookup e))
   ·exact .inr (.inl (lookup_relabel_free c.kind e (hfree _ (PySem.mem_of_lookup e) rfl)))
  ·have e:sc.names.lookup x=some kd:=e
   rcases ek with rfl|rfl
   ·exact⟨.inl (lookup_relabel_local e),.inr (lookup_relabel_local e)⟩
   ·exact absurd rfl (hcell _ (PySem.mem_of_lookup e))
  ·have e:sc.names.lookup x=some .cell:=e
   exact absurd rfl (hcell _ (PySem.mem_of_lookup e))
  ·have e:sc.names.lookup x=some .globalImplicit:=e
   exact lookup_relabel_other (env:=X.env) (by decide) e
 ·cases h
end
structure Snd (Φ:Fs)(Γ:List (Str×D))(k n:Nat):Prop where
 E:∀C e E',cE n C e=some E'→∀X,CxC X C→Wz X Φ Γ C k→SdE X Φ Γ e E'
 Me:∀C o m as E',cMe n C o m as=some E'→isSuper o=false→∀apos pos,(apos.endLine==pos.line)=true→∀X,CxC X C→Wz X Φ Γ C k→SdE X Φ Γ (.Call (.Attribute o m apos) as [] pos) E'
 Sub:∀C a j E',cSub n C a j=some E'→isSlice j=false→∀pos X,CxC X C→Wz X Φ Γ C k→SdE X Φ Γ (.Subscript a j pos) E'
 O:∀C eo as,cO n C eo=some as→∀X,CxC X C→Wz X Φ Γ C k→∀ρ o,evP Φ Γ ρ as=some o→PO X eo (tPt X.K ρ o)
 B:∀C op es E',cBool n C op es=some E'→∀pos X,CxC X C→Wz X Φ Γ C k→(∀ρ d,ev Φ Γ .val ρ E'=some d→Ev X ρ (.BoolOp op es pos) d)∧(∀ρ d,ev Φ Γ .test ρ E'=some d→∃b,d=.bool b∧Ew X ρ (.BoolOp op es pos) b)
 Call:∀C f as E',cCall n C f as=some E'→isGlob C f=true→∀p pos X,CxC X C→Wz X Φ Γ C k→SdE X Φ Γ (.Call (.Name f p) as [] pos) E'
 Es:∀C es as,cEs n C es=some as→∀X,CxC X C→Wz X Φ Γ C k→noStars es∧(∀fl ρ ds,evs Φ Γ .read fl ρ as=some ds→Ea X ρ fl es ds)∧(∀ρ ds,evs Φ Γ .val [] ρ as=some ds→Ea X ρ [] es ds)
 T:∀C es as,cEs n C es=some as→es.length≤1→∀X,CxC X C→Wz X Φ Γ C k→∀ρ b,evC Φ Γ ρ as=some b→Ecs X ρ es b
 Src:∀C tg e src,cSrc n C tg e=some src→∀X,CxC X C→Wz X Φ Γ C k→(∀ρ ds,evI Φ Γ .read ρ src=some ds→PI X tg e (tSi X.K ρ false ds))∧isSet e=false
 I:∀C e src,cI n C e=some src→∀X,CxC X C→Wz X Φ Γ C k→(∀ρ ds,evI Φ Γ .walk ρ src=some ds→Si X ρ true e ds)∧(∀ρ ds,evI Φ Γ .read ρ src=some ds→Si X ρ false e ds)∧isSet e=false
section
variable {Φ:Fs}{Γ:List (Str×D)}{k n:Nat}{C:Cs}{X:Cx}
theorem Wz.blk (w:Wz X Φ Γ C k){B:Cs}{sc:Scope}{N:List Str}(h:B.fns=C.fns∧B.cst=C.cst∧B.vc=C.vc∧B.vms=C.vms∧B.xcs=C.xcs)(A:Addr)(s:Shared)(H:Hp)(fp:List Addr):Wz (L2.C.blk X sc N A s H fp) Φ Γ B k:=
 ⟨w.blt,fun x hx φ hφ=>w.fns x (by rw[←h.1];exact hx) φ hφ,w.gl,w.room,fun c hc=>w.vc c (by rw[←h.2.2.1];exact hc),fun c m hc hm φ hφ=>w.vf c m (by rw[←h.2.2.1];exact hc) (by rw[←h.2.2.2.1];exact hm) φ hφ,fun t c tab hc=>w.xc t c tab (by rw[←h.2.2.2.2];exact hc)⟩
theorem name_sound (c:CxC X C)(w:Wz X Φ Γ C k){x:Str}{E':E}{p:Pos}(h:cName C x=some E'):SdE X Φ Γ (.Name x p) E':=by
 unfold cName at h
 split at h
 ·rename_i i hi
  cases h
  have V:=slot_ok c hi
  refine⟨fun ρ d q=>ev_var i q V.at' V.vis V.d V.cd,fun ρ d q=>er_var i q V.at' V.vis V.d V.cd,fun ρ d q=>ek_var i q V.at' V.vis V.d V.cd,fun ρ d q=>?_,fun f=>by cases f⟩
  obtain⟨d',q1,q2⟩:=bx0 (show (ρ[i]?.bind (datsOf .test)).bind _=some d from q)
  obtain⟨t,q3,q4⟩:=mx0 q2
  have q1':ρ[i]?.bind (datsOf .read)=some d':=by
   obtain⟨sl,z1,z2⟩:=bx0 q1
   rw[z1]
   cases sl<;>exact z2
  exact⟨t,q4.symm,et_truth (er_var i q1' V.at' V.vis V.d V.cd) q3 fun _=>rfl⟩
 ·split at h
  ·rename_i q
   cases h
   rw[be0] at q
   refine sd_plain (fun _=>Γ.lookup x) (fun _ _=>rfl) (fun ρ d hd=>?_) (fun _=>rfl) (fun f=>by cases f)
   obtain⟨u,v,h1,h2,h3⟩:=w.gl x d hd
   exact fun pins s σ H Q I ⟨G0,H0,G,E,k⟩=>pe_glob (glob_ok c q.1).1 h1 h2 (glob_ok c q.1).2.2 pins s σ H Q I (k _ G H (.refl E.sub) (h3 G))
  ·cases h
theorem strOk_of {x:Str}(h:okStr x=true):PyData.strOk x=true:=by
 rw[strOk_iff]
 exact fun c hc=>of_decide_eq_true (List.all_eq_true.mp h c hc)
theorem fold_ok {e:Expr}{env:Env}(h:isSet e=false):∀x,foldedSetIterable e env x=pure x:=by
 intro x
 cases e<;>first|rfl|cases h
theorem bind2 {α β γ:Type}{a:Option α}{b:Option β}{f:α→β→γ}{c:γ}(h:(a.bind fun x=>b.map fun y=>f x y)=some c):∃x y,a=some x∧b=some y∧f x y=c:=by
 obtain⟨x,h1,h2⟩:=bx0 h
 obtain⟨y,h3,h4⟩:=mx0 h2
 exact⟨x,y,h1,h3,h4⟩
theorem chain_ok {op op':CmpOp}{a b c:Expr}{ρ:List Sl}{pos:Pos}{r r':R2}{d1 d2 d3:D}{t u:Bool}(ho:OpR X (compareOp op) r)(ho':OpR X (compareOp op') r')(ha:Er X ρ a d1)(hb:Er X ρ b d2)(hc:t=true→Er X ρ c d3)
  (h1:R2r X.K r d1 d2 (.bool t)) (h2:t=true→R2r X.K r' d2 d3 (.bool u)) (hm:lastMarks [op,op'] [b,c]=false) (hu:t=false→u=false):
  Ev X ρ (.Compare a [op,op'] [b,c] pos) (.bool u)∧Et X ρ (.Compare a [op,op'] [b,c] pos) u:=by
 have key:∀(tc:TE),(t=true→tc=tEr X.K ρ d3)→∀(σ:St) (H:Hp) (Q:VK),(∃G0 H0 G,EnvD X.K G0 H0 G H σ ρ∧∀v G' H',Ext G H G' H'→Dp X.K G' (.bool u) v→Q v H')→tChain r r' (tEr X.K ρ d1) (tEr X.K ρ d2) tc σ H Q:=by
  intro tc htc σ H Q h0
  obtain⟨G0,H0,G,E,kk⟩:=h0
  refine⟨G0,H0,G,E,fun x G1 H1 e1 r1=>⟨G0,H0,G1,E.step e1,fun y G2 H2 e2 r2=>h1 x y G2 H2 _ e2.gh (r1.ext e2) r2 fun v G3 H3 e3 r3=>?_⟩⟩
  cases r3
  refine⟨t,rfl,?_⟩
  cases t with
  |true=>
   rw[if_pos rfl,htc rfl]
   refine⟨G0,H0,G3,((E.step e1).step e2).step e3,fun z G4 H4 e4 r4=>h2 rfl y z G4 H4 Q e4.gh ((r2.ext e3).ext e4) r4 fun v G5 H5 e5 r5=>kk v G5 H5 (e1.trans (e2.trans (e3.trans (e4.trans e5)))) r5⟩
  |false=>
   rw[if_neg fx0]
   exact kk _ G3 H3 (e1.trans (e2.trans e3)) (by rw[hu rfl];exact .bool _)
 cases t with
 |true=>
  refine⟨fun pins s σ H Q I h0=>pe_chain ho ho' ha hb (hc rfl) hm pins s σ H Q I (key _ (fun _=>rfl) σ H Q h0),fun pins s σ H Q I h0=>pt_chain ho ho' ha hb (hc rfl) hm pins s σ H Q I (key _ (fun _=>rfl) σ H _ ?_)⟩
  obtain⟨G0,H0,G,E,kk⟩:=h0
  exact⟨G0,H0,G,E,fun v G' H' e r=>by cases r;exact⟨u,rfl,kk G' H' e⟩⟩
 |false=>
  have nv:PE X c (fun _ _ _=>False):=fun _ _ _ _ _ _ z=>z.elim
  refine⟨fun pins s σ H Q I h0=>pe_chain ho ho' ha hb nv hm pins s σ H Q I (key _ (fun z=>by cases z) σ H Q h0),fun pins s σ H Q I h0=>pt_chain ho ho' ha hb nv hm pins s σ H Q I (key _ (fun z=>by cases z) σ H _ ?_)⟩
  obtain⟨G0,H0,G,E,kk⟩:=h0
  exact⟨G0,H0,G,E,fun v G' H' e r=>by cases r;exact⟨u,rfl,kk G' H' e⟩⟩
theorem sup_of {e:Expr}{E':E}{n:Nat}(h:cE n C e=some E'):isSuper e=false:=by
 cases n with
 |zero=>exact nomatch (show (Option.none:Option E)=some E' from h)
 |succ n=>
  cases e with
  |Call ef eas eks epos=>
   cases ef with
   |Name f fp=>
    cases eas with
    |cons _ _=>rfl
    |nil=>
     cases eks with
     |cons _ _=>rfl
     |nil=>
      have h:(if isGlob C f then cCall n C f [] else Option.none)=some E':=h
      split at h
      ·cases n with
       |zero=>exact nomatch (show (Option.none:Option E)=some E' from h)
       |succ n=>
        have h:(if C.fns.contains f then Option.none
         else if f=("isinstance":Str) then (match isxArg C [] with
          |some q=>(cE n C q.1).map fun a'=>E.isx a' q.2.1 q.2.2
          |Option.none=>(isiArg C []).bind fun q=>(cE n C q.1).map fun a'=>E.isi a' q.2)
          else if f=("sorted":Str) then Option.none else (bltOf f).bind fun b=>Option.none)=some E':=h
        split at h
        ·cases h
        split at h
        ·exact nomatch (show (Option.none:Option E)=some E' from h)
        split at h
        ·cases h
        ·obtain⟨b,_,h⟩:=bx0 h
         cases h
      ·cases h
   |_=>rfl
  |_=>rfl
theorem fstOf_ok {vs:List Expr}{x:Str}{a:Expr}(h:fstOf vs=some (x,a)):∃j p1 p2,okStr x=true∧vs=[.Constant (.str x) j p1,.FormattedValue a (.negSucc 0) Option.none p2]:=by
 unfold fstOf at h
 split at h
 ·split at h
  ·rename_i q;cases h;exact⟨_,_,_,q,rfl⟩
  ·cases h
 ·cases h
theorem setArg_ok {as:List Expr}{a:Expr}(h:setArg C as=some a):∃sp qp,isGlob C "set"=true∧as=[.Call (.Name "set" sp) [a] [] qp]:=by
 unfold setArg at h
 split at h
 ·split at h
  ·rename_i e
   subst e
   split at h
   ·rename_i q;cases h;rw[be0] at q;exact⟨_,_,q.1,rfl⟩
   ·cases h
  ·cases h
 ·cases h
theorem stepE (ih:Snd Φ Γ k n){e:Expr}{E':E}(h:cE (n+1) C e=some E')(c:CxC X C)(w:Wz X Φ Γ C k):SdE X Φ Γ e E':=by
 have hu:=w.room.units
 have hu1:X.A.units+1<cLine:=by omega
 cases e with
 |Constant v ej epos=>
  cases v with
  |int i=>
   have h:some (E.k (.int i))=some E':=h
   cases h;exact sd_plain (fun _=>some _) (fun _ _=>rfl) (fun ρ d q=>by cases q;exact ev_int) (fun _=>rfl) (fun f=>by cases f)
  |str x=>
   have h:(if okStr x then some (E.k (.str x)) else Option.none)=some E':=h
   split at h
   ·rename_i q;cases h;exact sd_plain (fun _=>some _) (fun _ _=>rfl) (fun ρ d q'=>by cases q';exact ev_str (strOk_of q)) (fun _=>rfl) (fun f=>by cases f)
   ·cases h
  |bool bb=>
   have h:some (E.k (.bool bb))=some E':=h
   cases h;exact sd_plain (fun _=>some _) (fun _ _=>rfl) (fun ρ d q=>by cases q;exact ev_bl) (fun _=>rfl) (fun f=>by cases f)
  |none=>
   have h:some (E.k .none)=some E':=h
   cases h;exact sd_plain (fun _=>some _) (fun _ _=>rfl) (fun ρ d q=>by cases q;exact ev_non) (fun _=>rfl) (fun f=>by cases f)
  |_=>exact nomatch (show (Option.none:Option E)=some E' from h)
 |Name x epos=>
  have h:cName C x=some E':=h
  exact name_sound c w h
 |BinOp ea eop eb epos=>
  have h:((cOp eop).bind fun o=>(cE n C ea).bind fun a'=>(cE n C eb).map fun b'=>E.op o a' b')=some E':=h
  obtain⟨o,h1,h⟩:=bx0 h
  obtain⟨a',b',h2,h3,rfl⟩:=bind2 h
  have A:=ih.E _ _ _ h2 X c w
  have B:=ih.E _ _ _ h3 X c w
  have both:∀ρ d,((ev Φ Γ .read ρ a').bind fun x=>(ev Φ Γ .read ρ b').bind fun y=>opD o x y)=some d→∃x y,ev Φ Γ .read ρ a'=some x∧ev Φ Γ .read ρ b'=some y∧opD o x y=some d:=fun ρ d q=>by
   obtain⟨x,q1,q⟩:=bx0 q
   obtain⟨y,q2,q⟩:=bx0 q
   exact⟨x,y,q1,q2,q⟩
  refine sd_plain (fun ρ=>(ev Φ Γ .read ρ a').bind fun x=>(ev Φ Γ .read ρ b').bind fun y=>opD o x y) (fun _ _=>rfl) (fun ρ d q=>?_) (fun _=>rfl) (fun _ ρ d q hd=>?_)
  ·obtain⟨x,y,q1,q2,q⟩:=both ρ d q
   exact (op_sound h1 q (A.2.1 ρ x q1) (B.2.1 ρ y q2)).1
  ·obtain⟨x,y,q1,q2,q⟩:=both ρ d q
   exact (op_sound h1 q (A.2.1 ρ x q1) (B.2.1 ρ y q2)).2 hd
 |UnaryOp eop ea epos=>
  cases eop with
  |USub=>
   have h:(cE n C ea).map E.neg=some E':=h
   obtain⟨a',h1,rfl⟩:=mx0 h
   have A:=ih.E _ _ _ h1 X c w
   refine sd_plain (fun ρ=>(ev Φ Γ .val ρ a').bind fun d=>(asI d).map fun i=>.int (-i)) (fun _ _=>rfl) (fun ρ d q=>?_) (fun _=>rfl) (fun f=>by cases f)
   obtain⟨x,q1,q⟩:=bx0 q
   obtain⟨i,q2,rfl⟩:=mx0 q
   cases x<;>first|(cases q2;exact ev_neg (A.1 ρ _ q1))|cases q2
  |Not=>
   have h:(cE n C ea).map E.not=some E':=h
   obtain⟨a',h1,rfl⟩:=mx0 h
   have A:=ih.E _ _ _ h1 X c w
   have val:∀ρ d,ev Φ Γ .val ρ (.not a')=some d→Ev X ρ (.UnaryOp .Not ea epos) d:=fun ρ d q=>by
    obtain⟨x,q1,q⟩:=bx0 (show (ev Φ Γ .val ρ a').bind _=some d from q)
    obtain⟨t,q2,rfl⟩:=mx0 q
    cases x<;>first|(cases q2;exact ev_not (A.1 ρ _ q1))|cases q2
   refine⟨val,fun ρ d q=>(val ρ d q).er,fun ρ d q=>(val ρ d q).ek,fun ρ d q=>?_,fun f=>by cases f⟩
   obtain⟨x,q1,q⟩:=bx0 (show (ev Φ Γ .test ρ a').bind _=some d from q)
   obtain⟨t,q2,rfl⟩:=mx0 q
   obtain⟨b,rfl,hb⟩:=A.2.2.2.1 ρ x q1
   cases q2
   exact⟨_,rfl,et_not hb⟩
  |_=>exact nomatch (show (Option.none:Option E)=some E' from h)
 |Compare ea eops ecs epos=>
  cases eops with
  |nil=>exact nomatch (show (Option.none:Option E)=some E' from h)
  |cons eop r1=>
   cases r1 with
   |nil=>
    cases ecs with
    |nil=>exact nomatch (show (Option.none:Option E)=some E' from h)
    |cons eb r2=>
     cases r2 with
     |cons _ _=>exact nomatch (show (Option.none:Option E)=some E' from h)
     |nil=>
      have h:((cCmp eop).bind fun o=>if isSet eb then Option.none else (cE n C ea).bind fun a'=>(cE n C eb).map fun b'=>E.cmp o a' b')=some E':=h
      obtain⟨o,h1,h⟩:=bx0 h
      split at h
      ·cases h
      ·rename_i hset
       have hset:isSet _=false:=Bool.eq_false_iff.mpr hset
       obtain⟨a',b',h2,h3,rfl⟩:=bind2 h
       have A:=ih.E _ _ _ h2 X c w
       have B:=ih.E _ _ _ h3 X c w
       have both:∀ρ d,((ev Φ Γ .read ρ a').bind fun x=>(ev Φ Γ .read ρ b').bind fun y=>(cmpD o x y).map D.bool)=some d→∃x y t,ev Φ Γ .read ρ a'=some x∧ev Φ Γ .read ρ b'=some y∧cmpD o x y=some t∧d=.bool t:=fun ρ d q=>by
        obtain⟨x,q1,q⟩:=bx0 q
        obtain⟨y,q2,q⟩:=bx0 q
        obtain⟨t,q3,q4⟩:=mx0 q
        exact⟨x,y,t,q1,q2,q3,q4.symm⟩
       refine sd_of (fun ρ=>(ev Φ Γ .read ρ a').bind fun x=>(ev Φ Γ .read ρ b').bind fun y=>(cmpD o x y).map D.bool) (fun _ _=>rfl) (fun ρ d q=>?_) (fun ρ d t q ht=>?_) (fun f=>by cases f)
       ·obtain⟨x,y,t,q1,q2,q3,rfl⟩:=both ρ d q
        obtain⟨r,hr,hR⟩:=cmp_ok (X:=X) hu h1 q3
        exact ev_cmp hr (A.2.1 ρ x q1) (B.2.1 ρ y q2) hR (marks_of hset)
       ·obtain⟨x,y,t',q1,q2,q3,rfl⟩:=both ρ d q
        cases ht
        obtain⟨r,hr,hR⟩:=cmp_ok (X:=X) hu h1 q3
        exact et_cmp hr (A.2.1 ρ x q1) (B.2.1 ρ y q2) hR (marks_of hset)
   |cons eop' r1=>
    cases r1 with
    |cons _ _=>exact nomatch (show (Option.none:Option E)=some E' from h)
    |nil=>
     cases ecs with
     |nil=>exact nomatch (show (Option.none:Option E)=some E' from h)
     |cons eb r2=>
      cases r2 with
      |nil=>exact nomatch (show (Option.none:Option E)=some E' from h)
      |cons ec r2=>
       cases r2 with
       |cons _ _=>exact nomatch (show (Option.none:Option E)=some E' from h)
       |nil=>
        have h:((cCmp eop).bind fun o=>(cCmp eop').bind fun o'=>if isSet eb||isSet ec then Option.none else (cE n C ea).bind fun a'=>(cE n C eb).bind fun b'=>(cE n C ec).map fun c'=>E.chain o o' a' b' c')=some E':=h
        obtain⟨o,h1,h⟩:=bx0 h
        obtain⟨o',h1',h⟩:=bx0 h
        split at h
        ·cases h
        ·rename_i hset
         have hset:=Bool.eq_false_iff.mpr hset
         rw[Bool.or_eq_false_iff] at hset
         obtain⟨a',h2,h⟩:=bx0 h
         obtain⟨b',c',h3,h4,rfl⟩:=bind2 h
         have A:=ih.E _ _ _ h2 X c w
         have B:=ih.E _ _ _ h3 X c w
         have Cc:=ih.E _ _ _ h4 X c w
         have both:∀ρ d,((ev Φ Γ .read ρ a').bind fun x=>(ev Φ Γ .read ρ b').bind fun y=>(cmpD o x y).bind fun t=>if t then (ev Φ Γ .read ρ c').bind fun z=>(cmpD o' y z).map D.bool else some (.bool false))=some d→
           ∃u,d=.bool u∧∀pos,Ev X ρ (.Compare ea [eop,eop'] [eb,ec] pos) (.bool u)∧Et X ρ (.Compare ea [eop,eop'] [eb,ec] pos) u:=fun ρ d q=>by
          obtain⟨x,q1,q⟩:=bx0 q
          obtain⟨y,q2,q⟩:=bx0 q
          obtain⟨t,q3,q⟩:=bx0 q
          obtain⟨r,hr,hR⟩:=cmp_ok (X:=X) hu h1 q3
          have hm:lastMarks [eop,eop'] [eb,ec]=false:=marks_of hset.2
          cases t with
          |true=>
           rw[if_pos rfl] at q
           obtain⟨z,q4,q⟩:=bx0 q
           obtain⟨u,q5,rfl⟩:=mx0 q
           obtain⟨r',hr',hR'⟩:=cmp_ok (X:=X) hu h1' q5
           exact⟨u,rfl,fun pos=>chain_ok hr hr' (A.2.1 ρ x q1) (B.2.1 ρ y q2) (fun _=>Cc.2.1 ρ z q4) hR (fun _=>hR') hm (fun z=>by cases z)⟩
          |false=>
           rw[if_neg fx0] at q
           cases q
           have any:∃r',OpR X (compareOp eop') r':=⟨fun _ _ _ _=>False,fun pins s σ H x y v u Q I rx ry h=>h.elim⟩
           obtain⟨r',hr'⟩:=any
           exact⟨false,rfl,fun pos=>chain_ok (d3:=.none) hr hr' (A.2.1 ρ x q1) (B.2.1 ρ y q2) (fun z=>by cases z) hR (fun z=>by cases z) hm (fun _=>rfl)⟩
         refine sd_of (fun ρ=>(ev Φ Γ .read ρ a').bind fun x=>(ev Φ Γ .read ρ b').bind fun y=>(cmpD o x y).bind fun t=>if t then (ev Φ Γ .read ρ c').bind fun z=>(cmpD o' y z).map D.bool else some (.bool false)) (fun _ _=>rfl) (fun ρ d q=>?_) (fun ρ d t q ht=>?_) (fun f=>by cases f)
         ·obtain⟨u,rfl,z⟩:=both ρ d q;exact (z _).1
         ·obtain⟨u,rfl,z⟩:=both ρ d q;cases ht;exact (z _).2
 |BoolOp op es pos=>
  cases es with
  |nil=>exact nomatch (show (Option.none:Option E)=some E' from h)
  |cons a r=>
   cases r with
   |nil=>exact nomatch (show (Option.none:Option E)=some E' from h)
   |cons b r=>
    have h:cBool n C op (a::b::r)=some E':=h
    obtain⟨v,t⟩:=ih.B _ _ _ _ h pos X c w
    have form:(∃a' b',E'=.and a' b')∨∃a' b',E'=.or a' b':=by
     cases n with
     |zero=>cases h
     |succ n=>
      cases op with
      |And=>obtain⟨a',b',_,_,rfl⟩:=bind2 h;exact .inl ⟨_,_,rfl⟩
      |Or=>obtain⟨a',b',_,_,rfl⟩:=bind2 h;exact .inr ⟨_,_,rfl⟩
    have re:∀ρ,ev Φ Γ .read ρ E'=ev Φ Γ .val ρ E':=fun ρ=>by rcases form with⟨a',b',rfl⟩|⟨a',b',rfl⟩<;>rfl
    have wa:∀ρ,ev Φ Γ .walk ρ E'=ev Φ Γ .val ρ E':=fun ρ=>by rcases form with⟨a',b',rfl⟩|⟨a',b',rfl⟩<;>rfl
    exact⟨v,fun ρ d q=>(v ρ d (by rw[←re];exact q)).er,fun ρ d q=>(v ρ d (by rw[←wa];exact q)).ek,fun ρ d q=>let ⟨b,e,z⟩:=t ρ d q;⟨b,e,z.et⟩,fun f=>by rcases form with⟨a',b',rfl⟩|⟨a',b',rfl⟩<;>cases f⟩
 |IfExp ec ea eb epos=>
  have h:((cE n C ec).bind fun c'=>(cE n C ea).bind fun a'=>(cE n C eb).map fun b'=>E.ite c' a' b')=some E':=h
  obtain⟨c',h1,h⟩:=bx0 h
  obtain⟨a',b',h2,h3,rfl⟩:=bind2 h
  have Cc:=ih.E _ _ _ h1 X c w
  have A:=ih.E _ _ _ h2 X c w
  have B:=ih.E _ _ _ h3 X c w
  have val:∀ρ d,ev Φ Γ .val ρ (.ite c' a' b')=some d→Ev X ρ (.IfExp ec ea eb epos) d:=fun ρ d q=>by
   obtain⟨x,q1,q⟩:=bx0 (show (ev Φ Γ .test ρ c').bind _=some d from q)
   obtain⟨t,rfl,ht⟩:=Cc.2.2.2.1 ρ x q1
   rw[asB_bool,bs0] at q
   cases t with
   |true=>rw[if_pos rfl] at q;exact ev_ifT ht (A.1 ρ d q)
   |false=>rw[if_neg fx0] at q;exact ev_ifF ht (B.1 ρ d q)
  refine⟨val,fun ρ d q=>(val ρ d q).er,fun ρ d q=>(val ρ d q).ek,fun ρ d q=>?_,fun f=>by cases f⟩
  have q:(Option.none:Option D)=some d:=q
  cases q
 |Call ef eas eks epos=>
  cases ef with
  |Name f fp=>
   cases eks with
   |cons _ _=>exact nomatch (show (Option.none:Option E)=some E' from h)
   |nil=>
    have h:(if isGlob C f then cCall n C f eas else Option.none)=some E':=h
    split at h
    ·rename_i hg;exact ih.Call _ _ _ _ h hg _ _ X c w
    ·cases h
  |Attribute eo em eapos=>
   cases eks with
   |cons _ _=>exact nomatch (show (Option.none:Option E)=some E' from h)
   |nil=>
    have h:(if isSuper eo||!(eapos.endLine==epos.line) then Option.none else cMe n C eo em eas)=some E':=h
    split at h
    ·cases h
    ·rename_i hq
     have hq:=Bool.eq_false_iff.mpr hq
     rw[Bool.or_eq_false_iff] at hq
     exact ih.Me _ _ _ _ _ h hq.1 _ _ (by simpa using hq.2) X c w
  |_=>exact nomatch (show (Option.none:Option E)=some E' from h)
 |Attribute eo ex epos=>
  have h:(if ex=("objects":Str) then C.vc.bind fun c=>(cE n C eo).map fun o'=>E.vob c o' else Option.none)=some E':=h
  split at h
  ·rename_i hx
   subst hx
   obtain⟨vc,h1,h⟩:=bx0 h
   obtain⟨o',h2,rfl⟩:=mx0 h
   have O:=ih.E _ _ _ h2 X c w
   have hsup:isSuper eo=false:=sup_of h2
   obtain⟨w1,w2⟩:=w.vc vc h1
   have key:∀ρ d,((ev Φ Γ .read ρ o').bind fun x=>if isVlt vc x then some (D.list (vobs x)) else Option.none)=some d→Er X ρ (.Attribute eo "objects" epos) d:=fun ρ d q=>by
    obtain⟨x,q1,q⟩:=bx0 q
    split at q
    ·rename_i hv
     cases q
     cases x with
     |vlt c' hh os=>
      obtain rfl:c'=vc:=by simpa [isVlt] using hv
      exact er_vob w1 w2 (O.2.1 ρ _ q1) hsup
     |_=>cases hv
    ·cases q
   refine⟨fun ρ d q=>(nomatch (show (Option.none:Option D)=some d from q)),fun ρ d q=>key ρ d q,fun ρ d q=>(nomatch (show (Option.none:Option D)=some d from q)),fun ρ d q=>?_,fun z=>by cases z⟩
   obtain⟨d',q1,q2⟩:=bx0 (show ((ev Φ Γ .read ρ o').bind fun x=>if isVlt vc x then some (D.list (vobs x)) else Option.none).bind (fun d=>(truD d).map .bool)=some d from q)
   obtain⟨t,q3,q4⟩:=mx0 q2
   exact⟨t,q4.symm,et_truth (key ρ d' q1) q3 fun _=>rfl⟩
  ·cases h
 |Subscript ea ei epos2=>
  cases ei with
  |Slice elo ehi est epos1=>
   cases est with
   |some _=>exact nomatch (show (Option.none:Option E)=some E' from h)
   |none=>
    have h:((cE n C ea).bind fun a'=>(cO n C elo).bind fun lo'=>(cO n C ehi).map fun hi'=>E.sl a' lo' hi')=some E':=h
    obtain⟨a',h1,h⟩:=bx0 h
    obtain⟨lo',hi',h2,h3,rfl⟩:=bind2 h
    have A:=ih.E _ _ _ h1 X c w
    have key:∀ρ d,((ev Φ Γ .read ρ a').bind fun x=>(evP Φ Γ ρ lo').bind fun y=>(evP Φ Γ ρ hi').bind fun z=>slD x y z)=some d→Ev X ρ (.Subscript ea (.Slice elo ehi Option.none epos1) epos2) d∧(ownD d=true→En X ρ (.Subscript ea (.Slice elo ehi Option.none epos1) epos2) d):=fun ρ d q=>by
     obtain⟨x,q1,q⟩:=bx0 q
     obtain⟨y,q2,q⟩:=bx0 q
     obtain⟨z,q3,q⟩:=bx0 q
     cases x with
     |list ds=>
      cases q
      have:=sl_soundL (pos:=epos2) (p2:=epos1) (A.2.1 ρ _ q1) (ih.O _ _ _ h2 X c w ρ y q2) (ih.O _ _ _ h3 X c w ρ z q3)
      exact⟨this.ev,fun _=>this⟩
     |str x=>
      rw[sl_str] at q
      split at q
      ·rename_i hz
       cases q
       exact⟨sl_soundS (A.2.1 ρ _ q1) (ih.O _ _ _ h2 X c w ρ y q2) (ih.O _ _ _ h3 X c w ρ z q3) hz,fun z=>by cases z⟩
      ·cases q
     |_=>cases q
    exact sd_plain (fun ρ=>(ev Φ Γ .read ρ a').bind fun x=>(evP Φ Γ ρ lo').bind fun y=>(evP Φ Γ ρ hi').bind fun z=>slD x y z) (fun _ _=>rfl) (fun ρ d q=>(key ρ d q).1) (fun _=>rfl) (fun _ ρ d q o=>(key ρ d q).2 o)
  |_=>exact ih.Sub _ _ _ _ h rfl _ X c w
 |List ees epos=>
  have h:(cEs n C ees).map E.lst=some E':=h
  obtain⟨as,h1,rfl⟩:=mx0 h
  obtain⟨s1,s2,s3⟩:=ih.Es _ _ _ h1 X c w
  have key:∀ρ d,((evs Φ Γ .val [] ρ as).bind fun ds=>if ds.length≤1000 then some (D.list ds) else Option.none)=some d→En X ρ (.List ees epos) d:=fun ρ d q=>by
   obtain⟨ds,q1,q⟩:=bx0 q
   split at q
   ·rename_i hz;cases q;exact en_lst (s3 ρ ds q1) hz
   ·cases q
  exact sd_plain (fun ρ=>(evs Φ Γ .val [] ρ as).bind fun ds=>if ds.length≤1000 then some (D.list ds) else Option.none) (fun _ _=>rfl) (fun ρ d q=>(key ρ d q).ev) (fun _=>rfl) (fun _ ρ d q _=>key ρ d q)
 |Tuple es ek epos=>
  have h:(cEs n C es).map E.tup=some E':=h
  obtain⟨as,h1,rfl⟩:=mx0 h
  obtain⟨s1,s2,s3⟩:=ih.Es _ _ _ h1 X c w
  refine sd_plain (fun ρ=>(evs Φ Γ .val [] ρ as).bind fun ds=>if ds.length≤1000 then some (D.tuple ds) else Option.none) (fun _ _=>rfl) (fun ρ d q=>?_) (fun _=>rfl) (fun f=>by cases f)
  obtain⟨ds,q1,q⟩:=bx0 q
  split at q
  ·rename_i hz;cases q;exact ev_tup (s3 ρ ds q1) hz
  ·cases q
 |JoinedStr vs epos=>
  have h:((fstOf vs).bind fun q=>(cE n C q.2).map fun a'=>E.bi .fst (.cons (.k (.str q.1)) (.cons a' .nil)))=some E':=h
  obtain⟨⟨x,a⟩,h1,h2⟩:=bx0 h
  obtain⟨a',h3,rfl⟩:=mx0 h2
  obtain⟨j,p1,p2,hx,rfl⟩:=fstOf_ok h1
  have A:=ih.E _ _ _ h3 X c w
  refine sd_plain (fun ρ=>(evs Φ Γ .read [true,true,true] ρ (.cons (.k (.str x)) (.cons a' .nil))).bind fun ds=>biD .fst ds) (fun _ _=>rfl) (fun ρ d q=>?_) (fun _=>rfl) (fun f=>by cases f)
  obtain⟨ds,q1,q⟩:=bx0 q
  obtain⟨u,q2,q3⟩:=bx0 (show (some (D.str x)).bind _=some ds from q1)
  cases q2
  obtain⟨r,q4,rfl⟩:=mx0 q3
  obtain⟨y,q5,q6⟩:=bx0 (show (ev Φ Γ .read ρ a').bind _=some r from q4)
  obtain⟨r',q7,rfl⟩:=mx0 q6
  cases q7
  cases y with
  |str y=>
   have q:(if x.length+y.length≤big then some (D.str (x++y)) else Option.none)=some d:=q
   split at q
   ·rename_i hz;cases q;exact fst_sound hx (A.2.1 ρ _ q5) hz
   ·cases q
  |_=>exact nomatch (show (Option.none:Option D)=some d from q)
 |ListComp eelt gens esc epos=>
  cases gens with
  |nil=>exact nomatch (show (Option.none:Option E)=some E' from h)
  |cons g r=>
   obtain⟨etg,eiter,eifs,asy⟩:=g
   cases asy with
   |negSucc _=>cases r<;>exact nomatch (show (Option.none:Option E)=some E' from h)
   |ofNat m=>
   cases m with
   |succ _=>cases r<;>exact nomatch (show (Option.none:Option E)=some E' from h)
   |zero=>
    cases r with
    |cons _ _=>exact nomatch (show (Option.none:Option E)=some E' from h)
    |nil=>
     have h:((cSrc n C etg eiter).bind fun src=>(cBlk C esc etg).bind fun (B,nt,js)=>(cTg B etg).bind fun t=>if !tgLt t nt then Option.none else (if eifs.length≤1 then cEs n B eifs else Option.none).bind fun i'=>(cE n B eelt).map fun e'=>E.comp nt js t src i' e')=some E':=h
     obtain⟨src,h1,h⟩:=bx0 h
     obtain⟨⟨B,nt,js⟩,h2,h⟩:=bx0 h
     obtain⟨t,h3,h⟩:=bx0 h
     split at h
     ·cases h
     ·rename_i hlt
      have hlt:tgLt t nt=true:=by simpa using hlt
      obtain⟨i',e',h4,h5,rfl⟩:=bind2 h
      split at h4
      ·rename_i hl
       have R:=blk_ok' c h2
       obtain⟨S2,S3⟩:=ih.Src _ _ _ _ h1 X c w
       have T:Turns X Φ Γ esc (blkN X (tgNames etg) js) etg t eifs i' eelt e':=⟨fun A s H fp=>tg_ok (R.cx A s H fp) h3,
        fun A s H fp ρ b q=>ih.T _ _ _ h4 hl _ (R.cx A s H fp) (w.blk R.same A s H fp) ρ b q,fun A s H fp ρ d q=>(ih.E _ _ _ h5 _ (R.cx A s H fp) (w.blk R.same A s H fp)).1 ρ d q⟩
       have key:∀ρ d,((evI Φ Γ .read ρ src).bind fun ds=>if ds.length≤big then (compL (stepC Φ Γ nt js t i' e' ρ) ds).map D.list else Option.none)=some d→En X ρ (.ListComp eelt [⟨etg,eiter,eifs,0⟩] esc epos) d:=fun ρ d q=>by
        obtain⟨ds,q1,q⟩:=bx0 q
        split at q
        ·rename_i hz
         obtain⟨out,q2,rfl⟩:=mx0 q
         rw[R.nt] at q2 hlt
         exact en_comp R.ok c.calm (S2 ρ ds q1) T hlt (by rw[←big_eq];exact hz) q2 (fold_ok S3)
        ·cases q
       exact sd_plain (fun ρ=>(evI Φ Γ .read ρ src).bind fun ds=>if ds.length≤big then (compL (stepC Φ Γ nt js t i' e' ρ) ds).map D.list else Option.none) (fun _ _=>rfl) (fun ρ d q=>(key ρ d q).ev) (fun _=>rfl) (fun _ ρ d q _=>key ρ d q)
      ·cases h4
 |_=>exact nomatch (show (Option.none:Option E)=some E' from h)
theorem stepSub (ih:Snd Φ Γ k n){a j:Expr}{E':E}{pos:Pos}(h:cSub (n+1) C a j=some E')(hs:isSlice j=false)(c:CxC X C)(w:Wz X Φ Γ C k):SdE X Φ Γ (.Subscript a j pos) E':=by
 have hu:=w.room.units
 have hu1:X.A.units+1<cLine:=by omega
 unfold cSub at h
 obtain⟨a',j',h1,h2,rfl⟩:=bind2 h
 have A:=ih.E _ _ _ h1 X c w
 have J:=ih.E _ _ _ h2 X c w
 refine sd_plain (fun ρ=>(ev Φ Γ .read ρ a').bind fun x=>(ev Φ Γ .val ρ j').bind fun y=>idxD x y) (fun _ _=>rfl) (fun ρ d q=>?_) (fun _=>rfl) (fun f=>by cases f)
 obtain⟨x,q1,q⟩:=bx0 q
 obtain⟨y,q2,q⟩:=bx0 q
 exact idx_sound hu1 q (A.2.1 ρ x q1) (J.1 ρ y q2) hs
theorem stepO (ih:Snd Φ Γ k n){eo:Option Expr}{as:Es}(h:cO (n+1) C eo=some as)(c:CxC X C)(w:Wz X Φ Γ C k)(ρ:List Sl)(o:Option Int)(q:evP Φ Γ ρ as=some o):PO X eo (tPt X.K ρ o):=by
 cases eo with
 |none=>cases h;cases q;exact po_none'
 |some e=>
  obtain⟨a',h1,rfl⟩:=mx0 (show (cE n C e).map _=some as from h)
  obtain⟨d,q1,q2⟩:=bx0 (show (ev Φ Γ .val ρ a').bind _=some o from q)
  obtain⟨i,q3,rfl⟩:=mx0 q2
  have A:=ih.E _ _ _ h1 X c w
  cases d<;>first|(cases q3;exact po_some' (A.1 ρ _ q1))|cases q3
theorem stepB (ih:Snd Φ Γ k n){op:BoolOp}{es:List Expr}{E':E}{pos:Pos}(h:cBool (n+1) C op es=some E')(c:CxC X C)(w:Wz X Φ Γ C k):
  (∀ρ d,ev Φ Γ .val ρ E'=some d→Ev X ρ (.BoolOp op es pos) d)∧(∀ρ d,ev Φ Γ .test ρ E'=some d→∃b,d=.bool b∧Ew X ρ (.BoolOp op es pos) b):=by
 match es,op,h with
 |[a],op,h=>
  have h:cE n C a=some E':=by cases op<;>exact h
  have A:=ih.E _ _ _ h X c w
  refine⟨fun ρ d q=>ev_one (A.1 ρ d q),fun ρ d q=>?_⟩
  obtain⟨b,rfl,t⟩:=A.2.2.2.1 ρ d q
  cases op with
  |And=>exact⟨b,rfl,ew_and1 t⟩
  |Or=>exact⟨b,rfl,ew_or1 t⟩
 |a::b::r,.And,h=>
  obtain⟨a',b',h1,h2,rfl⟩:=bind2 h
  have A:=ih.E _ _ _ h1 X c w
  obtain⟨B1,B2⟩:=ih.B _ _ _ _ h2 pos X c w
  refine⟨fun ρ d q=>?_,fun ρ d q=>?_⟩
  ·obtain⟨x,q1,q⟩:=bx0 (show (ev Φ Γ .val ρ a').bind _=some d from q)
   obtain⟨t,q2,q5⟩:=bx0 q
   have e:x=.bool t:=by cases x<;>first|(cases q2;rfl)|cases q2
   subst e
   cases t with
   |true=>rw[if_pos rfl] at q5;exact ev_andT (A.1 ρ _ q1) (B1 ρ d q5)
   |false=>rw[if_neg fx0] at q5;cases q5;exact ev_andF (A.1 ρ _ q1)
  ·obtain⟨x,q1,q⟩:=bx0 (show (ev Φ Γ .test ρ a').bind _=some d from q)
   obtain⟨t,rfl,ht⟩:=A.2.2.2.1 ρ x q1
   rw[asB_bool,bs0] at q
   cases t with
   |true=>
    rw[if_pos rfl] at q
    obtain⟨b,rfl,hb⟩:=B2 ρ d q
    exact⟨b,rfl,ew_andT ht hb⟩
   |false=>rw[if_neg fx0] at q;cases q;exact⟨false,rfl,ew_andF ht⟩
 |a::b::r,.Or,h=>
  obtain⟨a',b',h1,h2,rfl⟩:=bind2 h
  have A:=ih.E _ _ _ h1 X c w
  obtain⟨B1,B2⟩:=ih.B _ _ _ _ h2 pos X c w
  refine⟨fun ρ d q=>?_,fun ρ d q=>?_⟩
  ·obtain⟨x,q1,q⟩:=bx0 (show (ev Φ Γ .val ρ a').bind _=some d from q)
   obtain⟨t,q2,q5⟩:=bx0 q
   have e:x=.bool t:=by cases x<;>first|(cases q2;rfl)|cases q2
   subst e
   cases t with
   |true=>rw[if_pos rfl] at q5;cases q5;exact ev_orT (A.1 ρ _ q1)
   |false=>rw[if_neg fx0] at q5;exact ev_orF (A.1 ρ _ q1) (B1 ρ d q5)
  ·obtain⟨x,q1,q⟩:=bx0 (show (ev Φ Γ .test ρ a').bind _=some d from q)
   obtain⟨t,rfl,ht⟩:=A.2.2.2.1 ρ x q1
   rw[asB_bool,bs0] at q
   cases t with
   |true=>rw[if_pos rfl] at q;cases q;exact⟨true,rfl,ew_orT ht⟩
   |false=>
    rw[if_neg fx0] at q
    obtain⟨b,rfl,hb⟩:=B2 ρ d q
    exact⟨b,rfl,ew_orF ht hb⟩
 |[],.And,h=>cases h
 |[],.Or,h=>cases h
theorem stepEs (ih:Snd Φ Γ k n){es:List Expr}{as:Es}(h:cEs (n+1) C es=some as)(c:CxC X C)(w:Wz X Φ Γ C k):
  noStars es∧(∀fl ρ ds,evs Φ Γ .read fl ρ as=some ds→Ea X ρ fl es ds)∧(∀ρ ds,evs Φ Γ .val [] ρ as=some ds→Ea X ρ [] es ds):=by
 cases es with
 |nil=>cases h;exact⟨fun _ z=>(by cases z),fun fl ρ ds q=>(by cases q;exact ea_nil),fun ρ ds q=>(by cases q;exact ea_nil)⟩
 |cons e r=>
  have h:(if isStar e then Option.none else (cE n C e).bind fun a=>(cEs n C r).map fun as=>Es.cons a as)=some as:=h
  split at h
  ·cases h
  ·rename_i hs
   have hs:=Bool.eq_false_iff.mpr hs
   obtain⟨a',r',h1,h2,rfl⟩:=bind2 h
   have A:=ih.E _ _ _ h1 X c w
   obtain⟨R1,R2,R3⟩:=ih.Es _ _ _ h2 X c w
   refine⟨fun x hx=>(List.mem_cons.mp hx).elim (fun z=>z▸hs) (R1 x),fun fl ρ ds q=>?_,fun ρ ds q=>?_⟩
   ·obtain⟨x,q1,q⟩:=bx0 (show (ev Φ Γ (if fl.headD false then .read else .val) ρ a').bind _=some ds from q)
    obtain⟨rs,q2,rfl⟩:=mx0 q
    cases hf:fl.headD false with
    |true=>rw[hf,if_pos rfl] at q1;exact ea_consR (A.2.1 ρ x q1) hf (R2 _ ρ rs q2) hs
    |false=>rw[hf,if_neg fx0] at q1;exact ea_consV (A.1 ρ x q1) (R2 _ ρ rs q2) hs
   ·obtain⟨x,q1,q⟩:=bx0 (show (ev Φ Γ .val ρ a').bind _=some ds from q)
    obtain⟨rs,q2,rfl⟩:=mx0 q
    exact ea_consV (A.1 ρ x q1) (R3 ρ rs q2) hs
theorem stepT (ih:Snd Φ Γ k n){es:List Expr}{as:Es}(h:cEs (n+1) C es=some as)(hl:es.length≤1)(c:CxC X C)(w:Wz X Φ Γ C k)(ρ:List Sl)(b:Bool)(q:evC Φ Γ ρ as=some b):Ecs X ρ es b:=by
 cases es with
 |nil=>cases h;cases q;exact ecs_nil
 |cons e r=>
  cases r with
  |cons=>simp at hl
  |nil=>
   have h:(if isStar e then Option.none else (cE n C e).bind fun a=>(cEs n C []).map fun as=>Es.cons a as)=some as:=h
   split at h
   ·cases h
   ·obtain⟨a',r',h1,h2,rfl⟩:=bind2 h
    have A:=ih.E _ _ _ h1 X c w
    obtain⟨x,q1,q2⟩:=bx0 (show (ev Φ Γ .test ρ a').bind asB=some b from q)
    obtain⟨t,rfl,ht⟩:=A.2.2.2.1 ρ x q1
    cases q2
    exact ecs_one ht
theorem blt_mem {x:Str}{f:Bf}(h:bltOf x=some f):x∈bltNames:=by
 unfold bltOf at h
 repeat' split at h
 all_goals first|cases h;done|(rename_i c;subst c;simp[bltNames])
theorem ty_mem {x:Str}{T:String}(h:tyOf x=some T):x∈bltNames:=by
 unfold tyOf at h
 repeat' split at h
 all_goals first|cases h;done|(rename_i c;subst c;simp[bltNames])
theorem stepCall (ih:Snd Φ Γ k n){f:Str}{as:List Expr}{E':E}{p pos:Pos}(h:cCall (n+1) C f as=some E')(hg:isGlob C f=true)(c:CxC X C)(w:Wz X Φ Γ C k):SdE X Φ Γ (.Call (.Name f p) as [] pos) E':=by
 have h:(if C.fns.contains f then (if as.isEmpty then Option.none else (cEs n C as).map fun as'=>E.call f as')
  else if f=("isinstance":Str) then (match isxArg C as with
   |some q=>(cE n C q.1).map fun a'=>E.isx a' q.2.1 q.2.2
   |Option.none=>(isiArg C as).bind fun q=>(cE n C q.1).map fun a'=>E.isi a' q.2)
   else if f=("sorted":Str) then (setArg C as).bind fun a=>(cEs n C [a]).map fun as'=>E.bi .srt as'
   else (bltOf f).bind fun b=>if as.isEmpty then Option.none else (cEs n C as).map fun as'=>E.bi b as')=some E':=h
 split at h
 ·rename_i hf
  split at h
  ·cases h
  ·rename_i hne
   obtain⟨as',h1,rfl⟩:=mx0 h
   obtain⟨S1,S2,S3⟩:=ih.Es _ _ _ h1 X c w
   cases as with
   |nil=>exact absurd rfl hne
   |cons e es=>
    refine sd_plain (fun ρ=>(Φ f).bind fun φ=>(evs Φ Γ .read φ.lent ρ as').bind φ.run) (fun _ _=>rfl) (fun ρ d q=>?_) (fun _=>rfl) (fun z=>by cases z)
    obtain⟨φ,q1,q⟩:=bx0 q
    obtain⟨ds,q2,q⟩:=bx0 q
    exact call_sound (w.fns f hf φ q1) w.room (glob_ok c hg).1 (glob_ok c hg).2.2 (S2 φ.lent ρ ds q2) q S1
 split at h
 ·rename_i hi
  split at h
  ·rename_i qx hqx
   obtain⟨ea,xc,tab⟩:=qx
   obtain⟨a',h2,rfl⟩:=mx0 h
   subst hi
   have A:=ih.E _ _ _ h2 X c w
   unfold isxArg at hqx
   split at hqx
   ·split at hqx
    ·rename_i hgt
     rw[be0] at hgt
     obtain⟨⟨xc',tab'⟩,h3,h4⟩:=mx0 hqx
     cases h4
     refine sd_plain (fun ρ=>(ev Φ Γ .read ρ a').bind fun x=>(isxD tab x).map .bool) (fun _ _=>rfl) (fun ρ d q=>?_) (fun _=>rfl) (fun z=>by cases z)
     obtain⟨x,q1,q⟩:=bx0 q
     obtain⟨t,q2,rfl⟩:=mx0 q
     cases x with
     |exc e=>exact isx_sound (blt_ok c w hg (by simp[bltNames])) (w.xc _ _ _ h3) (glob_ok c hgt.1).1 (glob_ok c hgt.1).2.2 (A.2.1 ρ _ q1) (by simpa using hgt.2) q2
     |_=>cases q2
    ·cases hqx
   ·cases hqx
  obtain⟨⟨ea,T⟩,h1,h⟩:=bx0 h
  obtain⟨a',h2,rfl⟩:=mx0 h
  subst hi
  have A:=ih.E _ _ _ h2 X c w
  unfold isiArg at h1
  split at h1
  ·split at h1
   ·rename_i hgt
    rw[be0] at hgt
    obtain⟨T',h3,h4⟩:=mx0 h1
    cases h4
    refine sd_plain (fun ρ=>(ev Φ Γ .read ρ a').bind fun x=>(isiD T x).map .bool) (fun _ _=>rfl) (fun ρ d q=>?_) (fun _=>rfl) (fun z=>by cases z)
    obtain⟨x,q1,q⟩:=bx0 q
    obtain⟨t,q2,rfl⟩:=mx0 q
    exact isi_sound (blt_ok c w hg (by simp[bltNames])) (blt_ok c w hgt.1 (ty_mem h3)) h3 (A.2.1 ρ x q1) (by simpa using hgt.2) q2
   ·cases h1
  ·cases h1
 split at h
 ·rename_i hi
  obtain⟨a,h1,h⟩:=bx0 h
  obtain⟨as',h2,rfl⟩:=mx0 h
  subst hi
  obtain⟨S1,S2,S3⟩:=ih.Es _ _ _ h2 X c w
  obtain⟨sp,qp,gs,rfl⟩:=setArg_ok h1
  have Bl:=blt_ok c w hg (by simp[bltNames])
  have Bs:=blt_ok c w gs (by simp[bltNames])
  refine sd_plain (fun ρ=>(evs Φ Γ .read [true,true,true] ρ as').bind fun ds=>biD .srt ds) (fun _ _=>rfl) (fun ρ d q=>?_) (fun _=>rfl) (fun z=>by cases z)
  obtain⟨ds,q1,q⟩:=bx0 q
  exact srt_sound c.calm Bl Bs q (S2 _ ρ ds q1) (S1 a ms0)
 ·obtain⟨b,h1,h⟩:=bx0 h
  split at h
  ·cases h
  ·rename_i hne
   obtain⟨as',h2,rfl⟩:=mx0 h
   obtain⟨S1,S2,S3⟩:=ih.Es _ _ _ h2 X c w
   cases as with
   |nil=>exact absurd rfl hne
   |cons e es=>
    have Bl:=blt_ok c w hg (blt_mem h1)
    refine sd_plain (fun ρ=>(evs Φ Γ .read [true,true,true] ρ as').bind fun ds=>biD b ds) (fun _ _=>rfl) (fun ρ d q=>?_) (fun _=>rfl) (fun z ρ d q hd=>?_)
    ·obtain⟨ds,q1,q⟩:=bx0 q
     exact (bi_sound c.calm Bl h1 q (S2 _ ρ ds q1) S1).1
    ·obtain⟨ds,q1,q⟩:=bx0 q
     exact (bi_sound c.calm Bl h1 q (S2 _ ρ ds q1) S1).2 (by cases b<;>exact z) hd
theorem evs_len {m:Md}:∀{es:List Expr} {n:Nat} {as:Es} {fl:List Bool} {ρ:List Sl} {ds:List D},cEs n C es=some as→evs Φ Γ m fl ρ as=some ds→ds.length=es.length
 |_,0,_,_,_,_,h,_=>(nomatch (show (Option.none:Option Es)=some _ from h))
 |[],n+1,_,_,_,_,h,q=>by cases h;cases q;rfl
 |e::r,n+1,as,fl,ρ,ds,h,q=>by
  have h:(if isStar e then Option.none else (cE n C e).bind fun a=>(cEs n C r).map fun as=>Es.cons a as)=some as:=h
  split at h
  ·cases h
  ·obtain⟨a',r',h1,h2,rfl⟩:=bind2 h
   obtain⟨x,q1,q2⟩:=bx0 (show (ev Φ Γ (if fl.headD false then m else .val) ρ a').bind _=some ds from q)
   obtain⟨rs,q3,rfl⟩:=mx0 q2
   rw[lc0,lc0,evs_len h2 q3]
theorem stepMe (ih:Snd Φ Γ k n){o:Expr}{m:Str}{as:List Expr}{E':E}{apos pos:Pos}(h:cMe (n+1) C o m as=some E')(hsup:isSuper o=false)(hline:(apos.endLine==pos.line)=true)(c:CxC X C)(w:Wz X Φ Γ C k):SdE X Φ Γ (.Call (.Attribute o m apos) as [] pos) E':=by
 have h:(if C.vms.contains m then (if 20<as.length then Option.none else C.vc.bind fun c=>(cE n C o).bind fun o'=>(cEs n C as).map fun as'=>E.vcall c m o' as')
  else (mthOf m).bind fun m'=>(cE n C o).bind fun o'=>(oneA as).bind fun a=>if isStar a then Option.none else (cE n C a).map fun a'=>E.me m' o' (.cons a' .nil))=some E':=h
 split at h
 ·rename_i hm
  split at h
  ·cases h
  ·rename_i hlen
   obtain⟨vc,h1,h⟩:=bx0 h
   obtain⟨o',as',h2,h3,rfl⟩:=bind2 h
   have O:=ih.E _ _ _ h2 X c w
   obtain⟨S1,S2,S3⟩:=ih.Es _ _ _ h3 X c w
   refine sd_plain (fun ρ=>(ev Φ Γ .read ρ o').bind fun x=>if isVlt vc x then (Φ (vname m)).bind fun φ=>(evs Φ Γ .read φ.lent.tail ρ as').bind fun ds=>if φ.lent.headD false then φ.run (x::ds) else Option.none else Option.none) (fun _ _=>rfl) (fun ρ d q0=>?_) (fun _=>rfl) (fun z=>by cases z)
   obtain⟨x,q1,q4⟩:=bx0 q0
   clear q0
   split at q4
   ·rename_i hv
    obtain⟨φ,q2,q5⟩:=bx0 q4
    obtain⟨ds,q3,q6⟩:=bx0 q5
    clear q4 q5
    split at q6
    ·rename_i hl
     cases x with
     |vlt c' hh os=>
      obtain rfl:c'=vc:=by simpa [isVlt] using hv
      refine ev_vcall (w.vf c' m h1 hm φ q2) (w.vc c' h1).1 w.room (O.2.1 ρ _ q1) (S2 _ ρ ds q3) hl q6 S1 (fun e=>List.eq_nil_of_length_eq_zero (by rw[evs_len h3 q3,e];rfl)) (meth_tree hsup S1 (by omega) hline)
     |_=>cases hv
    ·cases q6
   ·cases q4
 ·obtain⟨f,h1,h⟩:=bx0 h
  obtain⟨o',h2,h⟩:=bx0 h
  obtain⟨ea,ho,h⟩:=bx0 h
  cases as with
  |nil=>cases ho
  |cons ea' r=>
   cases r with
   |cons _ _=>cases ho
   |nil=>
    cases ho
    have h:(if isStar ea then Option.none else (cE n C ea).map fun a'=>E.me f o' (.cons a' .nil))=some E':=h
    split at h
    ·cases h
    ·rename_i hq
     have hq:=Bool.eq_false_iff.mpr hq
     obtain⟨a',h3,rfl⟩:=mx0 h
     have O:=ih.E _ _ _ h2 X c w
     have A:=ih.E _ _ _ h3 X c w
     have both:∀ρ d,((ev Φ Γ .read ρ o').bind fun x=>(evs Φ Γ .read [true,true] ρ (.cons a' .nil)).bind fun ds=>meD f x ds)=some d→∃x y,ev Φ Γ .read ρ o'=some x∧ev Φ Γ .read ρ a'=some y∧meD f x [y]=some d:=fun ρ d q=>by
      obtain⟨x,q1,q⟩:=bx0 q
      obtain⟨ds,q2,q⟩:=bx0 q
      obtain⟨y,q3,q4⟩:=bx0 (show (ev Φ Γ .read ρ a').bind _=some ds from q2)
      cases q4
      exact⟨x,y,q1,q3,q⟩
     refine sd_plain (fun ρ=>(ev Φ Γ .read ρ o').bind fun x=>(evs Φ Γ .read [true,true] ρ (.cons a' .nil)).bind fun ds=>meD f x ds) (fun _ _=>rfl) (fun ρ d q=>?_) (fun _=>rfl) (fun hf ρ d q _=>?_)
     ·obtain⟨x,y,q1,q2,q⟩:=both ρ d q
      exact (me_sound h1 q (O.2.1 ρ x q1) (A.2.1 ρ y q2) hq hsup hline).1
     ·obtain⟨x,y,q1,q2,q⟩:=both ρ d q
      exact (me_sound h1 q (O.2.1 ρ x q1) (A.2.1 ρ y q2) hq hsup hline).2 (by cases f<;>first|rfl|cases hf)
theorem stepI (ih:Snd Φ Γ k n){e:Expr}{src:I}(h:cI (n+1) C e=some src)(c:CxC X C)(w:Wz X Φ Γ C k):
  (∀ρ ds,evI Φ Γ .walk ρ src=some ds→Si X ρ true e ds)∧(∀ρ ds,evI Φ Γ .read ρ src=some ds→Si X ρ false e ds)∧isSet e=false:=by
 have seq:∀src,(cE n C e).map I.seq=some src→(∀ρ ds,evI Φ Γ .walk ρ src=some ds→Si X ρ true e ds)∧(∀ρ ds,evI Φ Γ .read ρ src=some ds→Si X ρ false e ds):=fun src h=>by
  obtain⟨a',h1,rfl⟩:=mx0 h
  have A:=ih.E _ _ _ h1 X c w
  refine⟨fun ρ ds q=>?_,fun ρ ds q=>?_⟩
  ·obtain⟨d,q1,q⟩:=bx0 (show (ev Φ Γ .walk ρ a').bind itemsD=some ds from q)
   exact si_items q (A.2.2.1 ρ d q1)
  ·obtain⟨d,q1,q⟩:=bx0 (show (ev Φ Γ .read ρ a').bind itemsD=some ds from q)
   exact si_itemsR q (A.2.1 ρ d q1)
 unfold cI at h
 split at h
 ·split at h
  ·rename_i hf
   subst hf
   split at h
   ·rename_i hg
    rw[be0] at hg
    have Bl:=blt_ok c w hg.1 (by simp[bltNames])
    split at h
    ·rename_i ea
     split at h
     ·cases h
     ·rename_i hs
      obtain⟨a',h1,rfl⟩:=mx0 h
      have A:=ih.E _ _ _ h1 X c w
      have key:∀p1 p2 wk ρ ds,((ev Φ Γ .val ρ a').bind fun d=>(asI d).bind fun n=>if rOk n then some ((List.range n.toNat).map fun (k:Nat)=>D.int k) else Option.none)=some ds→Si X ρ wk (.Call (.Name "range" p1) [ea] [] p2) ds:=fun p1 p2 wk ρ ds q=>by
       obtain⟨d,q1,q⟩:=bx0 q
       obtain⟨i,q2,q⟩:=bx0 q
       split at q
       ·rename_i hr
        cases q
        cases d<;>first|(cases q2;exact si_range1 Bl (A.1 ρ _ q1) hr (Bool.eq_false_iff.mpr hs))|cases q2
       ·cases q
      exact⟨key _ _ true,key _ _ false,rfl⟩
    ·cases h
   ·cases h
  ·exact⟨(seq _ h).1,(seq _ h).2,rfl⟩
 ·split at h
  ·cases h
  ·rename_i hs
   exact⟨(seq _ h).1,(seq _ h).2,Bool.eq_false_iff.mpr hs⟩
theorem stepSrc (ih:Snd Φ Γ k n){tg e:Expr}{src:I}(h:cSrc (n+1) C tg e=some src)(c:CxC X C)(w:Wz X Φ Γ C k):
  (∀ρ ds,evI Φ Γ .read ρ src=some ds→PI X tg e (tSi X.K ρ false ds))∧isSet e=false:=by
 have old:cI n C e=some src→(∀ρ ds,evI Φ Γ .read ρ src=some ds→PI X tg e (tSi X.K ρ false ds))∧isSet e=false:=fun h=>by
  obtain⟨S1,S2,S3⟩:=ih.I _ _ _ h X c w
  exact⟨fun ρ ds q=>S2 ρ ds q tg,S3⟩
 have zip:∀f p as pos,(if f=("zip":Str) then (if isGlob C f&&!C.fns.contains f&&isTup tg then (cEs n C as).map I.zip else Option.none) else cI n C (.Call (.Name f p) as [] pos))=some src→e=.Call (.Name f p) as [] pos→(∀ρ ls ds,ls.length=as.length→Ea X ρ [true,true,true] as ls→noStars as→zipOk ls=some ds→Blt X "zip"→∀elts tk tpos p pos,PI X (.Tuple elts tk tpos) (.Call (.Name "zip" p) as [] pos) (tSi X.K ρ false ds))→
   (∀ρ ds,evI Φ Γ .read ρ src=some ds→PI X tg e (tSi X.K ρ false ds))∧isSet e=false:=fun f p as pos h he hz=>by
  split at h
  ·rename_i hf
   subst hf
   split at h
   ·rename_i hg
    simp only[be0] at hg
    have Bl:=blt_ok c w hg.1.1 (by simp[bltNames])
    obtain⟨as',h1,rfl⟩:=mx0 h
    obtain⟨S1,S2,S3⟩:=ih.Es _ _ _ h1 X c w
    refine⟨fun ρ ds q=>?_,by rw[he];rfl⟩
    obtain⟨ls,q1,q⟩:=bx0 (show (evs Φ Γ .read [true,true,true] ρ as').bind zipOk=some ds from q)
    cases tg with
    |Tuple elts tk tpos=>rw[he];exact hz ρ ls ds (evs_len h1 q1) (S2 _ ρ ls q1) S1 q Bl elts tk tpos p pos
    |_=>exact absurd hg.2 (by simp[isTup])
   ·cases h
  ·exact old (by rw[he];exact h)
 unfold cSrc at h
 split at h
 ·refine zip _ _ _ _ h rfl fun ρ ls ds hl A S1 q Bl elts tk tpos p pos=>?_
  match ls,hl,q,A with
  |[.list a,.list b],_,q,A=>
   rw[zipOk_2] at q
   split at q
   ·rename_i hl
    cases q
    exact pi_zip2 Bl A S1 hl
   ·cases q
 ·exact old h
theorem snd (Φ:Fs)(Γ:List (Str×D))(k:Nat):∀n,Snd Φ Γ k n
 |0=>⟨fun _ _ _ h=>(nomatch (show (Option.none:Option E)=some _ from h)),fun _ _ _ _ _ h=>(nomatch (show (Option.none:Option E)=some _ from h)),fun _ _ _ _ h=>(nomatch (show (Option.none:Option E)=some _ from h)),fun _ _ _ h=>(nomatch (show (Option.none:Option Es)=some _ from h)),fun _ _ _ _ h=>(nomatch (show (Option.none:Option E)=some _ from h)),fun _ _ _ _ h=>(nomatch (show (Option.none:Option E)=some _ from h)),fun _ _ _ h=>(nomatch (show (Option.none:Option Es)=some _ from h)),fun _ _ _ h=>(nomatch (show (Option.none:Option Es)=some _ from h)),fun _ _ _ _ h=>(nomatch (show (Option.none:Option I)=some _ from h)),fun _ _ _ h=>(nomatch (show (Option.none:Option I)=some _ from h))⟩
 |n+1=>by
  have ih:=snd Φ Γ k n
  exact⟨fun C e E' h X c w=>stepE ih h c w,fun C o m as E' h hsup apos pos hline X c w=>stepMe ih h hsup hline c w,fun C a j E' h hs pos X c w=>stepSub ih h hs c w,fun C eo as h X c w ρ o q=>stepO ih h c w ρ o q,fun C op es E' h pos X c w=>stepB ih h c w,fun C f as E' h hg p pos X c w=>stepCall ih h hg c w,
   fun C es as h X c w=>stepEs ih h c w,fun C es as h hl X c w ρ b q=>stepT ih h hl c w ρ b q,fun C tg e src h X c w=>stepSrc ih h c w,fun C e src h X c w=>stepI ih h c w⟩
end
section
variable {Φ:Fs}{Γ:List (Str×D)}{k n:Nat}{C:Cs}{X:Cx}{ρ:List Sl}{x:Str}{i:Nat}
theorem swaps_no {v:Expr}{t:Option Expr}{line:Nat}{env:Env}(h:isComp v=false):swapsWith v t line env=pure false:=by cases v<;>first|rfl|cases h
theorem comp_stmt {elt tg iter:Expr}{ifs:List Expr}{sc:Scope}{p pos py:Pos}{E':E}{d:D}(h:cE (n+1) C (.ListComp elt [⟨tg,iter,ifs,0⟩] sc p)=some E')(S:Sto X x i)(hD:∀(j:Nat) rows,ρ[j]?≠some (.deep rows))(c:CxC X C)(w:Wz X Φ Γ C k)(hd:ev Φ Γ .val ρ E'=some d):
  E1 X ρ (.Assign [.Name x py] (.ListComp elt [⟨tg,iter,ifs,0⟩] sc p) pos) (.nx (ρ.set i (.own d))):=by
 have ih:=snd Φ Γ k n
 have whole:=stepE ih h c w
 have h':((cSrc n C tg iter).bind fun src=>(cBlk C sc tg).bind fun (B,nt,js)=>(cTg B tg).bind fun t=>if !tgLt t nt then Option.none else (if ifs.length≤1 then cEs n B ifs else Option.none).bind fun i'=>(cE n B elt).map fun e'=>E.comp nt js t src i' e')=some E':=h
 obtain⟨src,h1,h'⟩:=bx0 h'
 obtain⟨⟨B,nt,js⟩,h2,h'⟩:=bx0 h'
 obtain⟨t,h3,h'⟩:=bx0 h'
 split at h'
 ·cases h'
 ·rename_i hlt
  have hlt:tgLt t nt=true:=by simpa using hlt
  obtain⟨i',e',h4,h5,rfl⟩:=bind2 h'
  have own:ownD d=true:=by
   obtain⟨ds,_,q⟩:=bx0 (show (evI Φ Γ .read ρ src).bind _=some d from hd)
   split at q
   ·obtain⟨out,_,rfl⟩:=mx0 q;rfl
   ·cases q
  cases hsw:(X.env.blockKind==.function&&X.env.kindOf x==some .local&&py.line==p.line&&!(sc.names.any fun (n,k)=>n==x&&(k==.local||k==.cell))) with
  |false=>
   refine e1_new S hD (whole.2.2.2.2 rfl ρ d hd own) ?_
   show (pure (X.env.blockKind==.function&&X.env.kindOf x==some .local&&py.line==p.line&&!(sc.names.any fun (n,k)=>n==x&&(k==.local||k==.cell))):Sem Bool)=pure false
   rw[hsw]
  |true=>
   split at h4
   ·rename_i hl
    have R:=blk_ok' c h2
    obtain⟨S2,S3⟩:=ih.Src _ _ _ _ h1 X c w
    have T:Turns X Φ Γ sc (blkN X (tgNames tg) js) tg t ifs i' elt e':=⟨fun A s H fp=>tg_ok (R.cx A s H fp) h3,
     fun A s H fp ρ b q=>ih.T _ _ _ h4 hl _ (R.cx A s H fp) (w.blk R.same A s H fp) ρ b q,fun A s H fp ρ d q=>(ih.E _ _ _ h5 _ (R.cx A s H fp) (w.blk R.same A s H fp)).1 ρ d q⟩
    obtain⟨ds,q1,q⟩:=bx0 (show (evI Φ Γ .read ρ src).bind _=some d from hd)
    split at q
    ·rename_i hz
     obtain⟨out,q2,rfl⟩:=mx0 q
     rw[R.nt] at q2 hlt
     have hloc:X.env.kindOf x=some .local:=by
      simp only[be0] at hsw
      exact eq_of_beq hsw.1.1.2
     refine e1_comp S hD R.ok c.calm (S2 ρ ds q1) T hlt (by rw[←big_eq];exact hz) q2 (fold_ok S3) hloc ?_
     show (pure (X.env.blockKind==.function&&X.env.kindOf x==some .local&&py.line==p.line&&!(sc.names.any fun (n,k)=>n==x&&(k==.local||k==.cell))):Sem Bool)=pure true
     rw[hsw]
    ·cases q
   ·cases h4
theorem comp_stmtV {elt tg iter:Expr}{ifs:List Expr}{sc:Scope}{p pos py:Pos}{E':E}{d:D}(h:cE (n+1) C (.ListComp elt [⟨tg,iter,ifs,0⟩] sc p)=some E')(S:Sto X x i)(c:CxC X C)(w:Wz X Φ Γ C k)(hd:ev Φ Γ .val ρ E'=some d):
  E1 X ρ (.Assign [.Name x py] (.ListComp elt [⟨tg,iter,ifs,0⟩] sc p) pos) (.nx (ρ.set i (.dat d))):=by
 have ih:=snd Φ Γ k n
 have whole:=stepE ih h c w
 have h':((cSrc n C tg iter).bind fun src=>(cBlk C sc tg).bind fun (B,nt,js)=>(cTg B tg).bind fun t=>if !tgLt t nt then Option.none else (if ifs.length≤1 then cEs n B ifs else Option.none).bind fun i'=>(cE n B elt).map fun e'=>E.comp nt js t src i' e')=some E':=h
 obtain⟨src,h1,h'⟩:=bx0 h'
 obtain⟨⟨B,nt,js⟩,h2,h'⟩:=bx0 h'
 obtain⟨t,h3,h'⟩:=bx0 h'
 split at h'
 ·cases h'
 ·rename_i hlt
  have hlt:tgLt t nt=true:=by simpa using hlt
  obtain⟨i',e',h4,h5,rfl⟩:=bind2 h'
  have own:ownD d=true:=by
   obtain⟨ds,_,q⟩:=bx0 (show (evI Φ Γ .read ρ src).bind _=some d from hd)
   split at q
   ·obtain⟨out,_,rfl⟩:=mx0 q;rfl
   ·cases q
  cases hsw:(X.env.blockKind==.function&&X.env.kindOf x==some .local&&py.line==p.line&&!(sc.names.any fun (n,k)=>n==x&&(k==.local||k==.cell))) with
  |false=>
   refine e1_set S (whole.1 ρ d hd) ?_
   show (pure (X.env.blockKind==.function&&X.env.kindOf x==some .local&&py.line==p.line&&!(sc.names.any fun (n,k)=>n==x&&(k==.local||k==.cell))):Sem Bool)=pure false
   rw[hsw]
  |true=>
   split at h4
   ·rename_i hl
    have R:=blk_ok' c h2
    obtain⟨S2,S3⟩:=ih.Src _ _ _ _ h1 X c w
    have T:Turns X Φ Γ sc (blkN X (tgNames tg) js) tg t ifs i' elt e':=⟨fun A s H fp=>tg_ok (R.cx A s H fp) h3,
     fun A s H fp ρ b q=>ih.T _ _ _ h4 hl _ (R.cx A s H fp) (w.blk R.same A s H fp) ρ b q,fun A s H fp ρ d q=>(ih.E _ _ _ h5 _ (R.cx A s H fp) (w.blk R.same A s H fp)).1 ρ d q⟩
    obtain⟨ds,q1,q⟩:=bx0 (show (evI Φ Γ .read ρ src).bind _=some d from hd)
    split at q
    ·rename_i hz
     obtain⟨out,q2,rfl⟩:=mx0 q
     rw[R.nt] at q2 hlt
     have hloc:X.env.kindOf x=some .local:=by
      simp only[be0] at hsw
      exact eq_of_beq hsw.1.1.2
     refine e1_compV S R.ok c.calm (S2 ρ ds q1) T hlt (by rw[←big_eq];exact hz) q2 (fold_ok S3) hloc ?_
     show (pure (X.env.blockKind==.function&&X.env.kindOf x==some .local&&py.line==p.line&&!(sc.names.any fun (n,k)=>n==x&&(k==.local||k==.cell))):Sem Bool)=pure true
     rw[hsw]
    ·cases q
   ·cases h4
theorem comp_form {v:Expr}{E':E}(h:cE (n+1) C v=some E')(hc:isComp v=true):∃elt tg iter ifs sc p,v=.ListComp elt [⟨tg,iter,ifs,0⟩] sc p:=by
 cases v with
 |ListComp elt gens sc p=>
  cases gens with
  |nil=>exact nomatch (show (Option.none:Option E)=some E' from h)
  |cons g r=>
   obtain⟨tg,iter,ifs,asy⟩:=g
   cases asy with
   |negSucc _=>cases r<;>exact nomatch (show (Option.none:Option E)=some E' from h)
   |ofNat m=>
    cases m with
    |succ _=>cases r<;>exact nomatch (show (Option.none:Option E)=some E' from h)
    |zero=>
     cases r with
     |cons _ _=>exact nomatch (show (Option.none:Option E)=some E' from h)
     |nil=>exact⟨_,_,_,_,_,_,rfl⟩
 |SetComp elt gens sc p=>exact nomatch (show (Option.none:Option E)=some E' from h)
 |DictComp a b gens sc p=>exact nomatch (show (Option.none:Option E)=some E' from h)
 |_=>cases hc
structure SndS (Φ:Fs)(Γ:List (Str×D))(k n:Nat):Prop where
 S:∀C st S',cS n C st=some S'→∀X,CxC X C→Wz X Φ Γ C k→PassesOwn (model X.prog X.w) X.A X.env X.xe→∀ρ o,ex Φ Γ ρ S'=some o→E1 X ρ st o
 Ss:∀C sts S',cSs n C sts=some S'→∀X,CxC X C→Wz X Φ Γ C k→PassesOwn (model X.prog X.w) X.A X.env X.xe→∀ρ o,exs Φ Γ ρ S'=some o→Ep X ρ sts o
theorem stepS (ih:SndS Φ Γ k n){st:Stmt}{S':S}{o:Out}(h:cS (n+1) C st=some S')(c:CxC X C)(w:Wz X Φ Γ C k)(po:PassesOwn (model X.prog X.w) X.A X.env X.xe)(q:ex Φ Γ ρ S'=some o):E1 X ρ st o:=by
 have hu:=w.room.units
 have hu1:X.A.units+1<cLine:=by omega
 have ee:=snd Φ Γ k n
 unfold cS at h
 split at h
 ·
  rename_i ey epy v epos
  obtain⟨j,h1,h⟩:=bx0 h
  have St:=sto_ok c h1
  split at h
  ·obtain⟨e,h2,h⟩:=bx0 h
   split at h
   ·rename_i hf
    cases h
    have q:(if SI.fresh e&&ρ.all notDeep then (ev Φ Γ .val ρ e).bind fun d=>if ownD d then some (Out.nx (ρ.set j (.own d))) else Option.none else Option.none)=some o:=q
    rw[hf,Bool.true_and] at q
    split at q
    rotate_left
    ·cases q
    rename_i hnd
    have hD:∀(j:Nat) rows,ρ[j]?≠some (.deep rows):=fun j d h=>by have:=List.all_eq_true.mp hnd _ (List.mem_of_getElem? h);cases this
    obtain⟨d,q1,q⟩:=bx0 q
    split at q
    ·rename_i ho
     cases q
     cases hc:isComp v with
     |false=>exact e1_new St hD ((ee.E _ _ _ h2 X c w).2.2.2.2 hf ρ d q1 ho) (swaps_no hc)
     |true=>
      cases n with
      |zero=>exact nomatch (show (Option.none:Option E)=some _ from h2)
      |succ n=>
       obtain⟨elt,tg,iter,ifs,sc,p,rfl⟩:=comp_form h2 hc
       exact comp_stmt h2 St hD c w q1
    ·cases q
   ·cases h
  ·obtain⟨e,h2,rfl⟩:=mx0 h
   obtain⟨d,q1,rfl⟩:=mx0 (show (ev Φ Γ .val ρ e).map _=some o from q)
   cases hc:isComp v with
   |false=>exact e1_set St ((ee.E _ _ _ h2 X c w).1 ρ d q1) (swaps_no hc)
   |true=>
    cases n with
    |zero=>exact nomatch (show (Option.none:Option E)=some _ from h2)
    |succ n=>
     obtain⟨elt,tg,iter,ifs,sc,p,rfl⟩:=comp_form h2 hc
     exact comp_stmtV h2 St c w q1
 ·
  split at h
  ·cases h
  ·rename_i hks
   have hks:=Bool.eq_false_iff.mpr hks
   obtain⟨i,h1,h⟩:=bx0 h
   obtain⟨e,k',h2,h3,rfl⟩:=bind2 h
   have Ee:=ee.E _ _ _ h2 X c w
   have Ke:=ee.E _ _ _ h3 X c w
   have V:=slot_ok c h1
   have q:((ev Φ Γ .val ρ e).bind fun d=>(ev Φ Γ .val ρ k').bind fun x=>match ρ[i]?,x with
    |some (.own (.list ds)),.int n=>(ixN ds.length n).map fun j=>Out.nx (ρ.set i (.own (.list (ds.set j d))))
    |_,_=>Option.none)=some o:=q
   obtain⟨d,q1,q⟩:=bx0 q
   obtain⟨x,q2,q⟩:=bx0 q
   split at q
   ·rename_i ds m e1
    obtain⟨j,q3,rfl⟩:=mx0 q
    exact e1_setL V (Ee.1 ρ d q1) (Ke.1 ρ _ q2) hks e1 q3
   ·cases q
 ·
  split at h
  ·rename_i hl
   obtain⟨i,h1,h⟩:=bx0 h
   have V:=slot_ok c h1
   split at h
   ·split at h
    ·cases h
    ·rename_i hs
     have hs:=Bool.eq_false_iff.mpr hs
     split at h
     ·rename_i hm
      obtain⟨e,h2,rfl⟩:=mx0 h
      subst hm
      have Ee:=ee.E _ _ _ h2 X c w
      obtain⟨d,q1,q⟩:=bx0 (show (ev Φ Γ .val ρ e).bind _=some o from q)
      split at q
      ·rename_i ds e1
       split at q
       ·rename_i hz
        cases q
        exact e1_app V (Ee.1 ρ d q1) hs e1 (by rw[←big_eq];exact hz) hl
       ·cases q
      ·cases q
     ·cases h
   ·cases h
  ·cases h
 ·
  obtain⟨c',h1,h⟩:=bx0 h
  obtain⟨a',b',h2,h3,rfl⟩:=bind2 h
  obtain⟨d,q1,q⟩:=bx0 (show (ev Φ Γ .test ρ c').bind _=some o from q)
  obtain⟨t,rfl,ht⟩:=(ee.E _ _ _ h1 X c w).2.2.2.1 ρ d q1
  rw[asB_bool,bs0] at q
  refine e1_if ht (fun z=>?_) (fun z=>?_)
  ·subst z;rw[if_pos rfl] at q;exact ih.Ss _ _ _ h2 X c w po ρ o q
  ·subst z;rw[if_neg fx0] at q;exact ih.Ss _ _ _ h3 X c w po ρ o q
 ·
  obtain⟨t,h1,h⟩:=bx0 h
  obtain⟨src,b,h2,h3,rfl⟩:=bind2 h
  obtain⟨ds,q1,q⟩:=bx0 (show (evI Φ Γ .walk ρ src).bind _=some o from q)
  obtain⟨S1,S2,S3⟩:=ee.I _ _ _ h2 X c w
  exact e1_for (S1 ρ ds q1) (tg_ok c h1) (fun ρ' o' q'=>ih.Ss _ _ _ h3 X c w po ρ' o' q') q c.calm po (fold_ok S3)
 ·
  obtain⟨e,h1,rfl⟩:=mx0 h
  obtain⟨d,q1,rfl⟩:=mx0 (show (ev Φ Γ .val (ρ.map freeze) e).map _=some o from q)
  exact e1_ret ((ee.E _ _ _ h1 X c w).1 _ d q1)
 ·cases h
  cases q
  exact e1_pass
 ·cases h
  exact nomatch (show (Option.none:Option Out)=some o from q)
 ·cases h
theorem sndS (Φ:Fs)(Γ:List (Str×D))(k:Nat):∀n,SndS Φ Γ k n
 |0=>⟨fun _ _ _ h=>(nomatch (show (Option.none:Option S)=some _ from h)),fun _ _ _ h=>(nomatch (show (Option.none:Option Ss)=some _ from h))⟩
 |n+1=>by
  have ih:=sndS Φ Γ k n
  refine⟨fun C st S' h X c w po ρ o q=>stepS ih h c w po q,fun C sts S' h X c w po ρ o q=>?_⟩
  cases sts with
  |nil=>cases h;cases q;exact ep_nil
  |cons st r=>
   obtain⟨s',r',h1,h2,rfl⟩:=bind2 (show ((cS n C st).bind fun s'=>(cSs n C r).map fun r'=>Ss.cons s' r')=some S' from h)
   obtain⟨o1,q1,q⟩:=bx0 (show (ex Φ Γ ρ s').bind _=some o from q)
   cases o1 with
   |nx ρ1=>exact ep_consN (ih.S _ _ _ h1 X c w po ρ _ q1) (ih.Ss _ _ _ h2 X c w po ρ1 o q)
   |rt d=>cases q;exact ep_consR (ih.S _ _ _ h1 X c w po ρ _ q1)
end
section
variable {P:Program}{w:World}{K:Fg}{mg:Str→Option Value}{base:Heap}{Φ:Fs}{Γ:List (Str×D)}{k:Nat}
theorem env_start {G H:Hp}{N:List Str}{dfn:Def}:∀{ds:List D} {vs:List V},Same G H→Das K G H dfn.lent ds vs→ds.length=dfn.lent.length→dfn.slots=N.length→vs.length≤N.length→EnvD K G H G H (start N vs) (startR dfn ds):=by
 intro ds vs s r hl hs hn
 have len:=r.length
 have rep:∀(i n:Nat) sl,(List.replicate n Sl.no)[i]?=some sl→sl=.no:=fun i n sl h=>by
  rw[List.getElem?_replicate] at h
  split at h
  ·cases h;rfl
  ·cases h
 have at':∀(fl:List Bool) (ds:List D) (vs:List V),Das K G H fl ds vs→ds.length=fl.length→∀(i:Nat) sl,((fl.zip ds).map (fun p=>if p.1 then Sl.lent p.2 else .dat p.2))[i]?=some sl→
   ∃d v,vs[i]?=some v∧((sl=.lent d∧Dr K G H d v)∨(sl=.dat d∧Dp K G d v)):=by
  intro fl ds vs r
  induction r with
  |nil=>intro hl i sl h;simp at h
  |@cons fl d v ds vs h1 h2 _ ih=>
   intro hl i sl h
   cases fl with
   |nil=>simp at hl
   |cons b fl=>
    cases i with
    |zero=>
     simp at h
     refine⟨d,v,rfl,?_⟩
     cases b with
     |true=>exact .inl ⟨by simpa using h.symm,h2⟩
     |false=>exact .inr ⟨by simpa using h.symm,h1 rfl⟩
    |succ i=>simpa using ih (by simpa using hl) i sl (by simpa using h)
 have zl:((dfn.lent.zip ds).map (fun p=>if p.1 then Sl.lent p.2 else Sl.dat p.2)).length=vs.length:=by simp[len,←hl]
 have slot:∀(i:Nat) sl,(startR dfn ds)[i]?=some sl→sl=.no∨∃d v,(start N vs)[i]?=some (some v)∧((sl=.lent d∧Dr K G H d v)∨(sl=.dat d∧Dp K G d v)):=fun i sl h=>by
  unfold startR at h
  by_cases hi:i<vs.length
  ·rw[List.getElem?_append_left (by rw[zl];exact hi)] at h
   obtain⟨d,v,e,q⟩:=at' dfn.lent ds vs r hl i sl h
   refine .inr ⟨d,v,?_,q⟩
   unfold start
   rw[List.getElem?_append_left (by simpa using hi),List.getElem?_map,e];rfl
  ·rw[List.getElem?_append_right (by rw[zl];omega)] at h
   exact .inl (rep _ _ _ h)
 refine⟨.refl s,?_,fun i d h=>?_,fun i d h=>?_,fun i d h=>?_,fun i j d e p h=>?_,fun i rows h=>?_⟩
 ·unfold start startR
  simp[hs,len,←hl]
 ·rcases slot i _ h with z|⟨d',v,e,z|z⟩
  ·cases z
  ·cases z.1
  ·cases z.1;exact⟨v,e,z.2⟩
 ·rcases slot i _ h with z|⟨d',v,e,z|z⟩
  ·cases z
  ·cases z.1;exact⟨v,e,z.2⟩
  ·cases z.1
 ·rcases slot i _ h with z|⟨d',v,e,z|z⟩
  ·cases z
  ·cases z.1
  ·cases z.1
 ·rcases slot i _ h with z|⟨d',v,e,z|z⟩
  ·cases z
  ·cases z.1
  ·cases z.1
 ·rcases slot i _ h with z|⟨d',v,e,z|z⟩
  ·cases z
  ·cases z.1
  ·cases z.1
structure ModZ (P:Program)(w:World)(K:Fg)(mg:Str→Option Value)(base:Heap)(Φ:Fs)(Γ:List (Str×D))(fns:List Str)(vc:Option Nat)(vms:List Str)(xcs:List (Str×Nat×List (Nat×Bool)))(k:Nat):Prop where
 blt:∀x∈bltNames,mg x=Option.none
 fns:∀x,fns.contains x=true→∀φ,Φ x=some φ→FnZ P w K mg base k x φ
 gl:∀x d,Γ.lookup x=some d→∃u v,mg x=some u∧RelV v u∧∀G,Dp K G d v
 vcl:∀c,vc=some c→Cls K c∧NoAttr K c "objects"
 vf:∀c m,vc=some c→vms.contains m=true→∀φ,Φ (vname m)=some φ→FnZv P w K mg base k c m φ
 xc:∀t c tab,xcs.lookup t=some (c,tab)→XcZ K mg t c tab
noncomputable def runD (Φ:Fs)(Γ:List (Str×D))(d:Def):Fn:=⟨d.lent,fun ds=>if ds.length=d.lent.length then (exs Φ Γ (startR d ds) d.body).bind Out.val else Option.none⟩
theorem fn_ok {x qual:Str}{st:Stmt}{f:Addr}{fd:FuncData}{ps fns cst:List Str}{lent:List Bool}{dfn:Def}{vc:Option Nat}{vms:List Str}{xcs:List (Str×Nat×List (Nat×Bool))}(F:Fun K x qual st f fd)(S:FnScope (ps++localsOf (defScope st) ps) ps (defScope st))(hp:defParts st=some (ps,defBody st,defScope st))(hd:cDef fns cst lent st vc vms xcs=some dfn)(hlen:lent.length=ps.length)
  (M:ModZ P w K mg base Φ Γ fns vc vms xcs k):FnOk P w K mg base CX0 (k+1) f fd ps (Pur K (runD Φ Γ dfn)):=by
 unfold cDef at hd
 rw[hp,bs0] at hd
 obtain⟨b,hb,rfl⟩:=mx0 (show (cSs 60 (csOf fns cst ps (defBody st) (defScope st) vc vms xcs) (defBody st)).map _=some dfn from hd)
 refine F.ok S (fun vs H Q E h=>?_) (fun cdv A outer s H vs Q E hr h=>?_)
 ·obtain⟨ds,d,G,h1,_,r,_⟩:=h
  have h1:(if ds.length=lent.length then _ else Option.none)=some d:=h1
  split at h1
  ·rename_i hl;rw[←r.length,hl,hlen]
  ·cases h1
 ·obtain⟨ds,d,G,h1,sm,r,kq⟩:=h
  have h1:(if ds.length=lent.length then (exs Φ Γ (startR ⟨lent,(ps++localsOf (defScope st) ps).length,b⟩ ds) b).bind Out.val else Option.none)=some d:=h1
  split at h1
  ·rename_i hl
   obtain⟨o,h2,h3⟩:=bx0 h1
   have hpre:=congrArg List.length S.pre
   rw[List.length_take] at hpre
   have C:CxC (cxOf CX0 P w K mg base (ps++localsOf (defScope st) ps) qual (defScope st) f cdv A outer s H E).nox (csOf fns cst ps (defBody st) (defScope st) vc vms xcs):=by
    refine⟨rfl,S.nd,fun y kd e ek=>?_,fun y kd e ek=>⟨?_,.inl rfl⟩,fun y e=>e,fun y e=>e,rfl,S.kind⟩
    ·rcases ek with rfl|rfl|rfl
     ·exact .inl e
     ·exact .inr (.inl e)
     ·exact .inr (.inr e)
    ·rcases ek with rfl|rfl
     ·exact .inl e
     ·exact .inr e
   have W:Wz (cxOf CX0 P w K mg base (ps++localsOf (defScope st) ps) qual (defScope st) f cdv A outer s H E).nox Φ Γ (csOf fns cst ps (defBody st) (defScope st) vc vms xcs) k:=⟨M.blt,M.fns,M.gl,hr,M.vcl,M.vf,M.xc⟩
   have body:=(sndS Φ Γ k 60).Ss _ _ _ hb _ C W PassesOwn.never _ o h2
   refine⟨_,body,G,H,G,env_start sm r hl rfl (by rw[←r.length,hl,hlen];omega),?_⟩
   cases o with
   |nx ρ'=>
    cases h3
    exact fun G' H' σ' env _=>kq .non G' H' env.ext .none
   |rt d'=>
    cases h3
    exact fun v G' H' dv e=>kq v G' H' e dv
  ·cases h1
structure DefZ (K:Fg)(mg:Str→Option Value)(fns cst:List Str)(vc:Option Nat)(vms:List Str)(xcs:List (Str×Nat×List (Nat×Bool)))(x:Str)(d:Def):Prop where
 ex:∃st f fd ps,Fun K x x st f fd∧mg x=some (.ref f)∧Binds K fd ps []∧FnScope (ps++localsOf (defScope st) ps) ps (defScope st)∧defParts st=some (ps,defBody st,defScope st)∧cDef fns cst d.lent st vc vms xcs=some d∧d.lent.length=ps.length
structure MetZ (K:Fg)(fns cst:List Str)(c:Nat)(vms:List Str)(xcs:List (Str×Nat×List (Nat×Bool)))(m:Str)(d:Def):Prop where
 nm:m≠"objects"∧m≠"numbers"
 ex:∃st f fd ps,Fun K m (vname m) st f fd∧Meth K c m f∧Binds K fd ps []∧FnScope (ps++localsOf (defScope st) ps) ps (defScope st)∧defParts st=some (ps,defBody st,defScope st)∧cDef fns cst d.lent st (some c) vms xcs=some d∧d.lent.length=ps.length
structure Base (K:Fg)(mg:Str→Option Value)(Γ:List (Str×D))(vc:Option Nat)(xcs:List (Str×Nat×List (Nat×Bool))):Prop where
 blt:∀x∈bltNames,mg x=Option.none
 gl:∀x d,Γ.lookup x=some d→∃u v,mg x=some u∧RelV v u∧∀G,Dp K G d v
 vcl:∀c,vc=some c→Cls K c∧NoAttr K c "objects"
 xc:∀t c tab,xcs.lookup t=some (c,tab)→XcZ K mg t c tab
theorem prog_ok {prog:List (Str×Def)}{fns cst vms:List Str}{vc:Option Nat}{xcs:List (Str×Nat×List (Nat×Bool))}(B:Base K mg Γ vc xcs)(defs:∀x d,fns.contains x=true→prog.lookup x=some d→DefZ K mg fns cst vc vms xcs x d)
  (mets:∀c m d,vc=some c→vms.contains m=true→prog.lookup (vname m)=some d→MetZ K fns cst c vms xcs m d):
  ∀k x φ,den prog Γ k x=some φ→(fns.contains x=true→FnZ P w K mg base k x φ)∧∀c m,x=vname m→vc=some c→vms.contains m=true→FnZv P w K mg base k c m φ
 |0,x,φ,h=>by cases h
 |k+1,x,φ,h=>by
  obtain⟨d,h1,rfl⟩:=mx0 (show (prog.lookup x).map _=some φ from h)
  have M:ModZ P w K mg base (den prog Γ k) Γ fns vc vms xcs k:=⟨B.blt,fun y hy φ' q=>(prog_ok B defs mets k y φ' q).1 hy,B.gl,B.vcl,fun c m hc hm φ' q=>(prog_ok B defs mets k _ φ' q).2 c m rfl hc hm,B.xc⟩
  refine⟨fun hx=>?_,fun c m e hc hm=>?_⟩
  ·obtain⟨st,f,fd,ps,F,hm,hb,S,hp,hd,hl⟩:=(defs x d hx h1).ex
   exact⟨⟨f,fd,ps,hm,F.kp,hb,fn_ok F S hp hd hl M⟩⟩
  ·subst e
   have Z:=mets c m d hc hm h1
   obtain⟨st,f,fd,ps,F,hm,hb,S,hp,hd,hl⟩:=Z.ex
   exact⟨Z.nm,⟨f,fd,ps,hm,hb,fn_ok F S hp (by rw[hc];exact hd) hl M⟩⟩
end
noncomputable def spLaw (K:Fg):Sp:=fun vs H Q _=>∃(a:Addr) (ns:List Int),vs=[.ref a]∧SqL K H a (ns.map V.int)∧ns.length≤63∧∀H',Q (.bl true) H'
mutual
inductive IsK (h:Heap):Nat→D→Value→Prop
 |int {n:Nat} (i:Int) (t:Tok):IsK h n (.int i) (.int i t)
 |str {n:Nat} (x:Str) (t:Tok):PyData.strOk x=true→IsK h n (.str x) (.str x t)
 |tup {n:Nat} {a:Addr} {o:Obj} {items:List Value} {m:Nat} {ds:List D}:h.get? a=some o→o.cls=.type "tuple"→o.data=.seq items.toArray m→IsKs h n ds items→IsK h (n+1) (.tuple ds) (.ref a)
inductive IsKs (h:Heap):Nat→List D→List Value→Prop
 |nil {n:Nat}:IsKs h n [] []
 |cons {n:Nat} {d:D} {v:Value} {ds:List D} {vs:List Value}:IsK h n d v→IsKs h n ds vs→IsKs h n (d::ds) (v::vs)
end
mutual
theorem IsK.inj {h:Heap}:∀{n m:Nat} {d e:D} {v:Value},IsK h n d v→IsK h m e v→d=e
 |_,_,_,_,_,.int _ _,.int _ _=>rfl
 |_,_,_,_,_,.str _ _ _,.str _ _ _=>rfl
 |_,_,_,_,_,.tup h1 _ h3 h4,.tup k1 _ k3 k4=>by
  rw[h1] at k1
  cases k1
  rw[h3] at k3
  have e:_=_:=k3
  simp only[Data.seq.injEq] at e
  have e:=congrArg Array.toList e.1
  simp only[List.toList_toArray] at e
  subst e
  rw[IsKs.inj h4 k4]
theorem IsKs.inj {h:Heap}:∀{n m:Nat} {ds es:List D} {vs:List Value},IsKs h n ds vs→IsKs h m es vs→ds=es
 |_,_,_,_,_,.nil,.nil=>rfl
 |_,_,_,_,_,.cons a b,.cons c d=>by rw[IsK.inj a c,IsKs.inj b d]
end
mutual
theorem IsK.keeps {h h':Heap}(k:∀a o items m,h.get? a=some o→o.data=.seq items m→h'.get? a=some o):∀{n:Nat} {d:D} {v:Value},IsK h n d v→IsK h' n d v
 |_,_,_,.int i t=>.int i t
 |_,_,_,.str x t o=>.str x t o
 |_,_,_,.tup h1 h2 h3 h4=>.tup (k _ _ _ _ h1 h3) h2 h3 (IsKs.keeps k h4)
theorem IsKs.keeps {h h':Heap}(k:∀a o items m,h.get? a=some o→o.data=.seq items m→h'.get? a=some o):∀{n:Nat} {ds:List D} {vs:List Value},IsKs h n ds vs→IsKs h' n ds vs
 |_,_,_,.nil=>.nil
 |_,_,_,.cons a b=>.cons (IsK.keeps k a) (IsKs.keeps k b)
end
mutual
theorem IsK.reads {h:Heap}:∀{n:Nat} {d:D} {v:Value},IsK h n d v→∃as,Reads h v (PySem.W.kqdP (toW d)) as
 |_,_,_,.int i t=>⟨_,Reads.int i t⟩
 |_,_,_,.str x t _=>⟨_,Reads.str x t⟩
 |_,_,_,.tup h1 h2 h3 h4=>by
  obtain⟨as,w⟩:=IsKs.reads h4
  exact⟨_,Reads.tuple h1 h2 h3 (by simpa using w)⟩
theorem IsKs.reads {h:Heap}:∀{n:Nat} {ds:List D} {vs:List Value},IsKs h n ds vs→∃as,ReadsAll h vs (PySem.W.kqdPs (toWs ds)) as
 |_,_,_,.nil=>⟨_,.nil⟩
 |_,_,_,.cons a b=>by
  obtain⟨as,w⟩:=IsK.reads a
  obtain⟨bs,u⟩:=IsKs.reads b
  exact⟨_,.cons w u⟩
end
mutual
theorem IsK.ok {h:Heap}:∀{n:Nat} {d:D} {v:Value},IsK h n d v→okS n d=true
 |n,_,_,.int i t=>by cases n<;>rfl
 |n,_,_,.str x t _=>by cases n<;>rfl
 |_,_,_,.tup h1 h2 h3 h4=>IsKs.ok h4
theorem IsKs.ok {h:Heap}:∀{n:Nat} {ds:List D} {vs:List Value},IsKs h n ds vs→ds.all (okS n)=true
 |_,_,_,.nil=>rfl
 |_,_,_,.cons a b=>by rw[List.all_cons,IsK.ok a,IsKs.ok b];rfl
end
mutual
noncomputable def hashD (w:World):D→Int
 |.int i=>hashInt i
 |.str x=>hashStr w x
 |.tuple ds=>reduceHash (Builtin.Tuple.tupleHashOf (hashDs w ds))
 |_=>0
noncomputable def hashDs (w:World):List D→List Int
 |[]=>[]
 |d::r=>hashD w d::hashDs w r
end
mutual
noncomputable def drawD:D→Nat
 |.tuple ds=>drawDs ds+1
 |_=>1
noncomputable def drawDs:List D→Nat
 |[]=>0
 |d::r=>drawD d+drawDs r
end
mutual
theorem IsK.kok {h:Heap}:∀{n:Nat} {d:D} {v:Value},IsK h n d v→PySem.W.kqdOk n (toW d)=true
 |n,_,_,.int i t=>by cases n<;>rfl
 |n,_,_,.str x t o=>by cases n<;>exact o
 |_,_,_,.tup h1 h2 h3 h4=>IsKs.kok h4
theorem IsKs.kok {h:Heap}:∀{n:Nat} {ds:List D} {vs:List Value},IsKs h n ds vs→(toWs ds).all (PySem.W.kqdOk n)=true
 |_,_,_,.nil=>rfl
 |_,_,_,.cons a b=>by
  show (PySem.W.kqdOk _ (toW _)&&(toWs _).all (PySem.W.kqdOk _))=true
  rw[IsK.kok a,IsKs.kok b];rfl
end
section
variable {prog:Program}{w:World}{E:Value→Shared→Prop}
theorem hash_loop {A:Around}{n:Nat}{h:Heap}(one:∀{d:D} {v:Value} {s:Shared} {Q:Int→Shared→Prop},s.heap=h→IsK h n d v→Q (hashD w d) {s with toks:=s.toks+drawD d}→wpAny (model prog w) A (pyHash v) Q E s):
  ∀(vs:List Value) (ds:List D) (acc:Array Int) (s:Shared) (Q:Array Int→Shared→Prop),s.heap=h→IsKs h n ds vs→Q (acc++(hashDs w ds).toArray) {s with toks:=s.toks+drawDs ds}→
   wpAny (model prog w) A (forIn vs acc fun x acc=>do let i ←pyHash x;pure (ForInStep.yield (acc.push i))) Q E s
 |[],_,acc,s,Q,e,.nil,q=>by
  rw[List.forIn_nil]
  refine wpAny_pure ?_
  have:acc++(hashDs w []).toArray=acc:=by simp[hashDs]
  rw[this] at q
  exact q
 |v::vs,_,acc,s,Q,e,.cons (d:=d) (ds:=ds) a b,q=>by
  rw[List.forIn_cons]
  refine wpAny_bind (wpAny_bind (one e a (wpAny_pure ?_)))
  refine hash_loop one vs ds _ _ Q e b ?_
  have e1:acc.push (hashD w d)++(hashDs w ds).toArray=acc++(hashDs w (d::ds)).toArray:=by simp[hashDs]
  rw[e1]
  show Q _ {s with toks:=s.toks+drawD d+drawDs ds}
  rw[Nat.add_assoc]
  exact q
theorem pyHash_K:∀{n:Nat} {A:Around} {d:D} {v:Value} {s:Shared} {Q:Int→Shared→Prop},A.units+n<cLine+1→IsK s.heap n d v→Q (hashD w d) {s with toks:=s.toks+drawD d}→wpAny (model prog w) A (pyHash v) Q E s:=by
 intro n
 induction n with
 |zero=>
  intro A d v s Q hu hk q
  cases hk with
  |int i t=>exact wpAny_pyHash_int q
  |str x t _=>exact wpAny_pyHash_str q
 |succ n ih=>
  intro A d v s Q hu hk q
  cases hk with
  |int i t=>exact wpAny_pyHash_int q
  |str x t _=>exact wpAny_pyHash_str q
  |@tup _ a o items m ds h1 h2 h3 h4=>
   have hT:s.TypeIs (.ref a) "tuple":=⟨o,h1,h2⟩
   show wpAny (model prog w) A (pyHashByItsType (.ref a)) Q E s
   refine PySem.W.pyHash_slot hT F.slot_tuple_hash F.entry_tuple_hash (F.args_tuple_hash_1 _) (by decide) (.inr (by omega)) ?_
   unfold Builtin.«tuple.__hash__»
   refine wpAny_bind (wpAny_of_eq (a:=(.ref a,[])) rfl ?_)
   dsimp only
   unfold Builtin.Tuple.tupleItemsOf
   refine wpAny_bind (wpAny_bind (wpAny_seqItems h1 h3 (wpAny_pure ?_)))
   refine wpAny_bind ?_
   rw[←Array.forIn_toList]
   refine hash_loop (A:=A.in1) (n:=n) (h:=s.heap) (fun e a q=>ih (by show A.units+1+n<cLine+1;omega) (by rw[e];exact a) q) items ds #[] s _ rfl h4 ?_
   unfold retInt
   wp_walk
   refine⟨_,_,rfl,?_⟩
   have e:(#[]++(hashDs w ds).toArray:Array Int).toList=hashDs w ds:=by simp
   rw[e]
   exact q
theorem eqBool_K {A:Around}{d e:D}{a b:Addr}{s:Shared}{Q:Bool→Shared→Prop}(hu:A.units+64<cLine)(h1:IsK s.heap 8 d (.ref a))(h2:IsK s.heap 8 e (.ref b))(q:Q (decide (d=e)) s):wpAny (model prog w) A (eqBool (.ref a) (.ref b)) Q E s:=by
 unfold eqBool
 refine wpAny_holding ?_
 by_cases c:a=b
 ·subst c
  rw[if_pos (by simp)]
  refine wpAny_bind (wpAny_rule (wpAny_pure ?_))
  rw[IsK.inj h1 h2] at q
  simpa using q
 ·rw[if_neg (by simpa using c)]
  obtain⟨as,ra⟩:=h1.reads
  obtain⟨bs,rb⟩:=h2.reads
  have ev:PyData.eqv (PySem.W.kqdP (toW d)) (PySem.W.kqdP (toW e))=decide (d=e):=by
   have z:=PySem.W.kqd_eqv 8 (toW d) (toW e) 8 h1.kok h2.kok
   by_cases c':d=e
   ·rw[decide_eq_true c'];exact z.mpr (by rw[c'])
   ·rw[decide_eq_false c']
    exact Bool.eq_false_iff.mpr fun y=>c' (toW_inj 8 8 d e h1.ok h2.ok (z.mp y))
  have key:=eq_dataH (prog:=prog) (w:=w) (A:=A) (E:=E) (Q:=fun v s'=>wpAny (model prog w) A (truthOfDropped v) Q E s') ra rb (shaped_of h1.kok) (shaped_of h2.kok) hu (by
   rw[ev]
   exact wpAny_truthy_bool q)
  exact wpAny_bind key
theorem quiet_K:∀{n m:Nat} {A:Around} {d:D} {v:Value} {s:Shared} {Q:Bool→Shared→Prop},n≤m→IsK s.heap n d v→Q true s→wpAny (model prog w) A (eqIsQuiet m v) Q E s:=by
 intro n
 induction n with
 |zero=>
  intro m A d v s Q _ hk q
  cases hk with
  |int i t=>cases m<;>exact wpAny_pure q
  |str x t _=>cases m<;>exact wpAny_pure q
 |succ n ih=>
  intro m A d v s Q hm hk q
  cases hk with
  |int i t=>cases m<;>exact wpAny_pure q
  |str x t _=>cases m<;>exact wpAny_pure q
  |@tup _ a o items k ds h1 h2 h3 h4=>
   obtain⟨m,rfl⟩:∃m',m=m'+1:=⟨m-1,by omega⟩
   have hT:s.TypeIs (.ref a) "tuple":=⟨o,h1,h2⟩
   unfold eqIsQuiet
   refine wpAny_bind (wpAny_specialOf hT F.slot_tuple_eq.lookup ?_)
   refine wpAny_bind (wpAny_isInstance hT PySem.isSubtype_tuple_tuple ?_)
   rw[if_neg (by decide)]
   show wpAny (model prog w) A (seqItems? (.ref a) >>= _) Q E s
   refine wpAny_bind (wpAny_seqItems h1 h3 ?_)
   show wpAny (model prog w) A (forIn items.toArray ((none:Option Bool),()) _ >>= _) Q E s
   rw[←Array.forIn_toList]
   have all:∀(vs:List Value) (es:List D) (Q':Option Bool×Unit→Shared→Prop),IsKs s.heap n es vs→Q' (none,()) s→
     wpAny (model prog w) A (forIn vs ((none:Option Bool),()) fun y __s=>do
      let __do_lift ←eqIsQuiet m y
      if (!__do_lift)=true then pure (ForInStep.done (some false,())) else pure (ForInStep.yield (none,()))) Q' E s:=by
    intro vs
    induction vs with
    |nil=>intro es Q' _ q';rw[List.forIn_nil];exact wpAny_pure q'
    |cons v vs ih2=>
     intro es Q' hk q'
     cases hk with
     |cons a b=>
      rw[List.forIn_cons]
      refine wpAny_bind (wpAny_bind (ih (by omega) a ?_))
      rw[if_neg (by decide)]
      exact wpAny_pure (ih2 _ Q' b q')
   exact wpAny_bind (all items ds _ h4 (wpAny_pure q))
noncomputable def treeKind (prog:Program)(w:World):HeapKind prog w D where
 is:=fun h d a=>IsK h 8 d (.ref a)
 hash:=hashD w
 draws:=drawD
 room:=fun A=>A.units+64<cLine
 inj:=fun h1 h2=>IsK.inj h1 h2
 keeps:=fun {h h' k a d o es ep} hk ho hd sb=>hk.keeps fun b u items m e c=>(sb.2 b (fun z=>by
  subst z
  rw[ho] at e
  cases e
  rw[hd] at c
  cases c)).trans e
 pyHash:=fun {A E s k a Q} hu hk q=>pyHash_K (by omega) hk q
 eqBool:=fun {A E s x y a b Q} hu h1 h2 q=>eqBool_K hu h1 h2 q
 quiet:=fun {A E s k a Q} hk q=>quiet_K (nr0 _) hk q
end
noncomputable abbrev Vd:=List (Addr×Addr×Addr)
noncomputable def parts (d:Vd):List Addr:=d.flatMap fun p=>[p.2.1,p.2.2]
noncomputable def er (H:Hp)(ps:List Addr):Hp:=fun b=>if b∈ps then Option.none else H b
theorem er_in {H:Hp}{ps:List Addr}{b:Addr}(h:b∈ps):er H ps b=Option.none:=if_pos h
theorem er_out {H:Hp}{ps:List Addr}{b:Addr}(h:b∉ps):er H ps b=H b:=if_neg h
theorem er_some {H:Hp}{ps:List Addr}{b:Addr}{o:HO}(h:er H ps b=some o):b∉ps∧H b=some o:=by
 by_cases q:b∈ps
 ·rw[er_in q] at h;cases h
 ·rw[er_out q] at h;exact⟨q,h⟩
theorem er_same {H:Hp}{ps:List Addr}:Same (er H ps) H:=fun b o h=>(er_some h).2
theorem er_mono {H H':Hp}{ps:List Addr}(s:Same H H'):Same (er H ps) (er H' ps):=fun b o h=>by
 obtain⟨h1,h2⟩:=er_some h
 rw[er_out h1];exact s b o h2
theorem mem_parts {d:Vd}{h:Nat}{a l n:Addr}(e:d[h]?=some (a,l,n)):l∈parts d∧n∈parts d:=
 ⟨List.mem_flatMap.mpr ⟨_,List.mem_of_getElem? e,by simp⟩,List.mem_flatMap.mpr ⟨_,List.mem_of_getElem? e,by simp⟩⟩
theorem of_parts {d:Vd}{b:Addr}(e:b∈parts d):∃(h:Nat) (a l n:Addr),d[h]?=some (a,l,n)∧(b=l∨b=n):=by
 obtain⟨⟨a,l,n⟩,h1,h2⟩:=List.mem_flatMap.mp e
 obtain⟨h,hh⟩:=List.getElem?_of_mem h1
 exact⟨h,a,l,n,hh,by simpa using h2⟩
inductive NumXs:Nat→List (D×Addr×Value)→List Addr→List D→Prop
 |nil {k:Nat}:NumXs k [] [] []
 |cons {k:Nat} {t:Tok} {d:D} {a:Addr} {xs:List (D×Addr×Value)} {as:List Addr} {ds:List D}:NumXs (k+1) xs as ds→NumXs k ((d,a,.int k t)::xs) (a::as) (d::ds)
noncomputable def NumAt (P:Program)(w:World)(n:Addr)(as:List Addr)(objs:List D):Heap→Prop:=fun h=>
 (n==sysModules)=false∧∃xs:List (D×Addr×Value),NumXs 0 xs as objs∧objs.length≤1000000∧
  ∃o es ep,h.get? n=some o∧o.ExactDict∧o.data=.dict es ep∧es.toList=xs.map (entryOfKey (treeKind P w))∧(xs.map (·.1)).Nodup
noncomputable def okK:Nat→D→Bool
 |_,.int _=>true
 |_,.str _=>true
 |n+1,.tuple ds=>ds.all (okK n)
 |_,_=>false
noncomputable def isTp:D→Bool
 |.tuple _=>true
 |_=>false
structure VS (P:Program)(w:World)(K:Fg)(C:Addr)(G H:Hp)(d:Vd)(U:List (List D)):Prop where
 len:d.length=U.length
 nd:(parts d).Nodup
 at':∀(h:Nat) a l n,d[h]?=some (a,l,n)→∃dx objs,U[h]?=some objs∧G a=some (.ins C dx (vfs l n h))∧H dx=some (.own a)∧
  ∃as:List Addr,H l=some (.lst (as.map .ref))∧Dps K G objs (as.map .ref)∧H n=some (.ext (NumAt P w n as objs))∧∀d∈objs,okK 8 d=true∧isTp d=true
 uni:∀a C' dx fs,H a=some (.ins C' dx fs)→∃(h:Nat) (l n:Addr),d[h]?=some (a,l,n)
 out:∀b∈parts d,G b=Option.none
theorem VS.part {P:Program}{w:World}{K:Fg}{C:Addr}{G H:Hp}{d:Vd}{U:List (List D)}(v:VS P w K C G H d U){b:Addr}(h:b∈parts d):∃o,H b=some o:=by
 obtain⟨i,a,l,n,e,q⟩:=of_parts h
 obtain⟨dx,objs,_,_,_,as,h1,_,h2,_⟩:=v.at' i a l n e
 rcases q with rfl|rfl
 ·exact⟨_,h1⟩
 ·exact⟨_,h2⟩
theorem VS.step {P:Program}{w:World}{K:Fg}{C:Addr}{G H G' H':Hp}{d:Vd}{U:List (List D)}(v:VS P w K C G H d U)(e:Ext G H G' H'):VS P w K C G' H' d U:=
 ⟨v.len,v.nd,fun h a l n q=>by
  obtain⟨dx,objs,h1,h2,h3,as,h4,h5,h6,h7⟩:=v.at' h a l n q
  exact⟨dx,objs,h1,e.gg _ _ h2,e.hh _ _ h3,as,e.hh _ _ h4,h5.mono e.gg,e.hh _ _ h6,h7⟩,
  fun a C' dx fs q=>v.uni a C' dx fs (e.ni a C' dx fs q),fun b hb=>let ⟨o,ho⟩:=v.part hb;e.nw b o (v.out b hb) ho⟩
theorem Ext.er {G H G' H':Hp}{ps:List Addr}(e:Ext G H G' H')(hp:∀b∈ps,G b=Option.none∧∃o,H b=some o)(s:Same G (er H ps)):Ext G (er H ps) G' (er H' ps):=
 ⟨er_mono e.hh,e.gg,fun b o q=>by
  have nb:b∉ps:=fun hb=>by
   obtain⟨h1,o',h2⟩:=hp b hb
   rw[e.nw b o' h1 h2] at q;cases q
  rw[er_out nb];exact e.gh b o q,fun b o h1 h2=>e.nw b o h1 (er_some h2).2,fun b C dx fs q=>by
  obtain⟨h1,h2⟩:=er_some q
  rw[er_out h1];exact e.ni b C dx fs h2⟩
theorem Dr.monoH {K:Fg}{G H H':Hp}{d:D}{v:V}(s:Same H H'):Dr K G H d v→Dr K G H' d v
 |.of h=>.of h
 |.list h r=>.list (s _ _ h) r
 |.dict h r=>.dict (s _ _ h) r
 |.vlt h1 h2 r=>.vlt (s _ _ h1) (s _ _ h2) r
theorem vfs_inj {l n l' n':Addr}{h h':Nat}(e:vfs l n h=vfs l' n' h'):l=l'∧n=n'∧h=h':=by
 unfold vfs at e
 injection e with e1 e2
 injection e2 with e2 e3
 injection e3 with e3 _
 injection e1 with _ e1
 injection e2 with _ e2
 injection e3 with _ e3
 injection e1 with e1
 injection e2 with e2
 injection e3 with e3
 exact⟨e1,e2,by exact Int.ofNat.inj e3⟩
theorem VS.hdl {P:Program}{w:World}{K:Fg}{C:Addr}{G H:Hp}{d:Vd}{U:List (List D)}(v:VS P w K C G H d U)(s:Same G H){h:Nat}{u:V}(q:Dp K G (.hdl h) u):
  ∃a l n dx objs,u=.ref a∧d[h]?=some (a,l,n)∧U[h]?=some objs∧G a=some (.ins C dx (vfs l n h))∧H dx=some (.own a)∧
   ∃as:List Addr,H l=some (.lst (as.map .ref))∧Dps K G objs (as.map .ref)∧H n=some (.ext (NumAt P w n as objs))∧∀d∈objs,okK 8 d=true∧isTp d=true:=by
 cases q with
 |@hdl a C' dx' l' n' _ q=>
  obtain⟨h2,l,n,e⟩:=v.uni a C' dx' _ (s _ _ q)
  obtain⟨dx,objs,h1,h3,r⟩:=v.at' h2 a l n e
  rw[q] at h3
  injection h3 with h3
  injection h3 with e1 e2 e3
  obtain⟨rfl,rfl,rfl⟩:=vfs_inj e3
  subst e1 e2
  exact⟨a,l',n',dx',objs,rfl,e,h1,q,r⟩
structure EnvM (P:Program)(w:World)(K:Fg)(C:Addr)(G0 H0:Hp)(d0:Vd)(G H:Hp)(d:Vd)(σ:St)(ρ:List Sl)(U:List (List D)):Prop where
 bas:∃Gb Hb,Same G0 Gb∧(Same (er H0 (parts d0)) Hb∧∀b o,Hb b=some o→notIns o=true→er H0 (parts d0) b=some o)∧EnvD K Gb Hb G (er H (parts d)) σ ρ
 nw:∀b o,G0 b=Option.none→H0 b=some o→G b=Option.none
 pre:d0 <+: d
 vs:VS P w K C G H d U
noncomputable def vE (C:Addr)(U:List (List D)):Sl→Sl
 |.own d=>.lent d
 |.dat (.hdl h)=>match U[h]? with|some objs=>.lent (.vlt C h objs)|Option.none=>.no
 |.deep _=>.no
 |s=>s
section
variable {P:Program}{w:World}{K:Fg}{C:Addr}{G0 H0 G H G' H':Hp}{d0 d:Vd}{σ:St}{ρ:List Sl}{U:List (List D)}
theorem EnvM.sub (E:EnvM P w K C G0 H0 d0 G H d σ ρ U):Same G H:=by
 obtain⟨_,_,_,_,e⟩:=E.bas
 exact e.sub.trans er_same
theorem EnvM.sub' (E:EnvM P w K C G0 H0 d0 G H d σ ρ U):Same G (er H (parts d)):=by
 obtain⟨_,_,_,_,e⟩:=E.bas
 exact e.sub
theorem EnvM.gg (E:EnvM P w K C G0 H0 d0 G H d σ ρ U):Same G0 G:=by
 obtain⟨_,_,s,_,e⟩:=E.bas
 exact s.trans e.ext.gg
theorem EnvM.hh (E:EnvM P w K C G0 H0 d0 G H d σ ρ U):Same (er H0 (parts d0)) (er H (parts d)):=by
 obtain⟨_,_,_,s,e⟩:=E.bas
 exact s.1.trans e.ext.hh
theorem EnvM.view (E:EnvM P w K C G0 H0 d0 G H d σ ρ U):EnvD K G H G H σ (ρ.map (vE C U)):=by
 obtain⟨Gb,Hb,s1,s2,e⟩:=E.bas
 have at':∀(i:Nat) sl,(ρ.map (vE C U))[i]?=some sl→∃s0,ρ[i]?=some s0∧vE C U s0=sl:=fun i sl h=>by
  rw[List.getElem?_map] at h
  cases q:ρ[i]? with
  |none=>rw[q] at h;cases h
  |some s0=>rw[q] at h;cases h;exact⟨s0,rfl,rfl⟩
 have no:∀(i:Nat) d',(ρ.map (vE C U))[i]?≠some (.own d'):=fun i d' h=>by
  obtain⟨s0,_,h2⟩:=at' i _ h
  cases s0 with
  |dat d2=>cases d2<;>first|(cases h2;done)|(rename_i hh;simp only[vE] at h2;split at h2<;>cases h2)
  |_=>cases h2
 have nd:∀(i:Nat) r,(ρ.map (vE C U))[i]?≠some (.deep r):=fun i d' h=>by
  obtain⟨s0,_,h2⟩:=at' i _ h
  cases s0 with
  |dat d2=>cases d2<;>first|(cases h2;done)|(rename_i hh;simp only[vE] at h2;split at h2<;>cases h2)
  |_=>cases h2
 refine⟨.refl E.sub,by simp[e.len],fun i d' h=>?_,fun i d' h=>?_,fun i d' h=>absurd h (no i d'),fun i j d' _ _ h=>absurd h (no i d'),fun i r h=>absurd h (nd i r)⟩
 ·obtain⟨s0,h1,h2⟩:=at' i _ h
  cases s0 with
  |dat d2=>
   have:d2=d':=by
    cases d2<;>first|(cases h2;rfl)|(rename_i hh;simp only[vE] at h2;split at h2<;>cases h2)
   subst this
   exact e.dat i d2 h1
  |_=>cases h2
 ·obtain⟨s0,h1,h2⟩:=at' i _ h
  cases s0 with
  |no=>cases h2
  |lent d2=>
   cases h2
   obtain⟨v,a,b⟩:=e.lent i d' h1
   exact⟨v,a,(b.ext e.ext).monoH er_same⟩
  |own d2=>
   cases h2
   obtain⟨p,a,_,_,b⟩:=e.own i d' h1
   exact⟨_,a,b.dr.monoH er_same⟩
  |deep r=>cases h2
  |dat d2=>
   cases d2 with
   |hdl hh=>
    simp only[vE] at h2
    split at h2
    ·rename_i objs ho
     cases h2
     obtain⟨v,a,b⟩:=e.dat i _ h1
     obtain⟨a',l,n,dx,objs',rfl,_,q1,q2,_,as,q3,q4,_⟩:=E.vs.hdl E.sub b
     rw[ho] at q1;cases q1
     exact⟨_,a,.vlt (E.sub _ _ q2) q3 q4⟩
    ·cases h2
   |_=>cases h2
theorem EnvD.wide {Gb Hb H2:Hp}(e:EnvD K Gb Hb G H σ ρ)(s:Same H H2)(ni:∀b C dx fs,H2 b=some (.ins C dx fs)→H b=some (.ins C dx fs)):EnvD K Gb Hb G H2 σ ρ:=
 ⟨⟨e.ext.hh.trans s,e.ext.gg,e.ext.gh.trans s,e.ext.nw,fun b C dx fs q=>e.ext.ni b C dx fs (ni b C dx fs q)⟩,e.len,e.dat,e.lent,fun i d h=>by
  obtain⟨p,a,b,c,g⟩:=e.own i d h
  refine⟨p,a,b,c,?_⟩
  rcases g with⟨ds,vs,h1,h2,h3⟩|⟨ds,vs,h1,h2,h3⟩
  ·exact .inl ⟨ds,vs,h1,s _ _ h2,h3⟩
  ·exact .inr ⟨ds,vs,h1,s _ _ h2,h3⟩,e.apart,fun i rows h=>by
  obtain⟨⟨p,a,qs,b1,b2,b3,b4,b5,b6⟩,c⟩:=e.deep i rows h
  refine⟨⟨p,a,qs,s _ _ b1,b2,b3,b4,b5,fun k row q z1 z2=>?_⟩,c⟩
  obtain⟨y1,y2,vs,y3,y4⟩:=b6 k row q z1 z2
  exact⟨y1,y2,vs,s _ _ y3,y4⟩⟩
theorem VS.notPart (v:VS P w K C G H d U){b C' dx:Addr}{fs:List (Str×V)}(h:H b=some (.ins C' dx fs)):b∉parts d:=fun hb=>by
 obtain⟨i,a,l,n,e,q⟩:=of_parts hb
 obtain⟨dx',objs,_,_,_,as,h1,_,h2,_⟩:=v.at' i a l n e
 rcases q with rfl|rfl
 ·rw[h] at h1;cases h1
 ·rw[h] at h2;cases h2
theorem EnvM.full (E:EnvM P w K C G0 H0 d0 G H d σ ρ U):∃Gb Hb,EnvD K Gb Hb G H σ ρ∧∀G' H' d' σ' ρ' U',EnvM P w K C G0 H0 d0 G' H' d' σ' ρ' U'→Same G G'→Same Hb H':=by
 obtain⟨Gb,Hb,s1,s2,e⟩:=E.bas
 refine⟨Gb,Hb,e.wide er_same fun b C' dx fs h=>by rw[er_out (E.vs.notPart h)];exact h,fun G' H' d' σ' ρ' U' E' g b o h=>?_⟩
 cases q:notIns o with
 |true=>exact er_same b o (E'.hh b o (s2.2 b o h q))
 |false=>
  cases o with
  |ins C' dx fs=>
   have hH:=er_same b _ (e.ext.hh b _ h)
   obtain⟨i,l,n,hd⟩:=E.vs.uni b C' dx fs hH
   obtain⟨dx',objs,_,hG,_⟩:=E.vs.at' i b l n hd
   rw[E.sub _ _ hG] at hH
   cases hH
   exact E'.sub _ _ (g _ _ hG)
  |_=>cases q
end
noncomputable def Fl (X:Cx)(ea C:Addr)(H:Hp)(s:Shared):Prop:=
 ∃B:Heap,HOk X.prog X.w H B∧(∀b o,X.s₀.heap.get? b=some o→X.H₀ b=none→b∉X.fs→b∉X.ex→B.get? b=some o)∧(∀b o,X.s₀.heap.get? b=some o→b∉frs X.stack→b∉X.ex→∃o',B.get? b=some o')∧(∀p∈X.pn,B.get? p.1=some p.2)∧
  ((∃vs,Heap.MadeExcOf B s.heap ea (.ref C) vs∧B.FunFrames X.base X.stack)∨∃a0,Heap.FlyingW B X.stack ea (.ref C) a0 s.heap)
noncomputable def CX1 (P:Program)(w:World):CXT:=fun outer H s E e s'=>∃(ea C:Addr) (B:Heap) (a0:Value) (H':Hp),e=.ref ea∧s'.os=s.os∧AllBare s'.gens∧Heap.FlyingW B outer ea (.ref C) a0 s'.heap∧HOk P w H' B∧
 (∀b o,s.heap.get? b=some o→H b=none→b∉frs outer→B.get? b=some o)∧(∀b o,s.heap.get? b=some o→b∉frs outer→∃o',B.get? b=some o')∧Un (frs outer) [] H H' s.heap s'.heap∧E (.ref C) none H'
theorem cx1_caller {X:Cx}{pins:List (Addr×Obj)}{σ:St}{H:Hp}{s s':Shared}{E:XK}{e:Value}(I:Inv X pins σ H s)(h:CX1 X.prog X.w X.stack H s E e s'):
  ∃ea C H',e=.ref ea∧Inv X pins σ H' s'∧Fl X ea C H' s'∧E (.ref C) none H':=by
 obtain⟨ea,C,B,a0,H',rfl,os,bare,fl,ok,kb,th,un,q⟩:=h
 have nst:∀b o,X.s₀.heap.get? b=some o→b∉X.fs→b∉frs X.stack:=fun b o e nf z=>by
  rcases List.mem_cons.mp (I.stkSub b z) with r|r
  ·subst r
   exact absurd (nl0 (hs0 e) I.ok.above) (Nat.lt_irrefl _)
  ·exact nf r
 refine⟨ea,C,H',rfl,I.call' os un (ok.kept fl.1) bare (fun _ z=>nomatch z),⟨B,ok,fun b o e n nf nx=>?_,fun b o e nf nx=>?_,fun p hp=>?_,.inr ⟨a0,fl⟩⟩,q⟩
 ·exact kb b o (I.base.keep b o e n nf nx) (I.base.free b o e n nx) (nst b o e nf)
 ·obtain⟨o',h1⟩:=I.base.there b o e nx
  exact th b o' h1 nf
 ·obtain⟨h1,h2,h3,h4,_⟩:=I.pin p (List.mem_append_left _ hp)
  refine kb p.1 p.2 h1 h2 fun z=>?_
  rcases List.mem_cons.mp (I.stkSub p.1 z) with r|r
  ·exact h3 r
  ·exact h4 r
theorem fl_made {X:Cx}{pins:List (Addr×Obj)}{σ:St}{H:Hp}{s:Shared}{h':Heap}{ea C:Addr}{vs:List Value}(I:Inv X pins σ H s)(m:Heap.MadeExcOf s.heap h' ea (.ref C) vs):
  Inv X pins σ H {s with heap:=h'}∧Fl X ea C H {s with heap:=h'}:=
 ⟨I.kept (t':=s.toks) m.keeps,s.heap,I.hok,fun b o e n nf nx=>I.base.keep b o e n nf nx,fun b o e nf nx=>I.base.there b o e nx,fun p hp=>(I.pin p (List.mem_append_left _ hp)).1,.inl ⟨vs,m,I.stack⟩⟩
theorem fl_leaves {P:Program}{w:World}{K:PySem.W.Frag}{mg:Str→Option Value}{base:Heap}{N:List Str}{qual:Str}{scope:Scope}{f:Addr}{cd:Value}{A:Around}{outer:List Env}{s:Shared}{H:Hp}{E:XK}
  {pins:List (Addr×Obj)} {σ:St} {H':Hp} {s':Shared} {ea C:Addr} (I:Inv (cxOf (CX1 P w) P w K mg base N qual scope f cd A outer s H E) pins σ H' s') (fl:Fl (cxOf (CX1 P w) P w K mg base N qual scope f cd A outer s H E) ea C H' s')
  (h:E (.ref C) none H'):(cxOf (CX1 P w) P w K mg base N qual scope f cd A outer s H E).xe (.ref ea) s':=by
 obtain⟨B,ok,kb,th,pn,r⟩:=fl
 have nL:∀b o,s.heap.get? b=some o→b≠s.heap.objs.size:=fun b o e z=>by subst z;exact absurd (hs0 e) (Nat.lt_irrefl _)
 have stk:∀b,b∈frs (envOfC qual scope s.heap.objs.size f cd::outer)→b=s.heap.objs.size∨b∈frs outer:=fun b hb=>by
  obtain⟨env,he,hf⟩:=List.mem_filterMap.mp hb
  rcases List.mem_cons.mp he with rfl|he
  ·exact .inl (Option.some.inj hf).symm
  ·exact .inr (List.mem_filterMap.mpr ⟨env,he,hf⟩)
 have fin:∀(B':Heap) (a0:Value) (h':Heap),Heap.FlyingW B' outer ea (.ref C) a0 h'→s'.heap.UpToSlots h'→HOk P w H' B'→(∀b o,B.get? b=some o→b∉frs (envOfC qual scope s.heap.objs.size f cd::outer)→B'.get? b=some o)→
   CX1 P w outer H s E (.ref ea) {s' with heap:=h'}:=by
  intro B' a0 h' fl' up ok' bb
  have out:∀b o,s.heap.get? b=some o→b∉frs outer→b∉frs (envOfC qual scope s.heap.objs.size f cd::outer):=fun b o e nf z=>(stk b z).elim (nL b o e) nf
  have k1:∀b o,s.heap.get? b=some o→H b=none→b∉frs outer→B'.get? b=some o:=fun b o e n nf=>bb b o (kb b o e n nf (fun z=>nomatch z)) (out b o e nf)
  have k2:∀b o,s.heap.get? b=some o→b∉frs outer→∃o',B'.get? b=some o':=fun b o e nf=>by
   obtain⟨o',h1⟩:=th b o e (out b o e nf) (fun z=>nomatch z)
   exact⟨o',bb b o' h1 (out b o e nf)⟩
  have sl:∀b o,s.heap.get? b=some o→H b=none→b∈frs outer→∃sl,h'.get? b=some {o with slots:=sl}:=fun b o e n hb=>by
   obtain⟨sl,h1⟩:=I.base.slot b o e n hb (fun z=>nomatch z)
   obtain⟨_,o2,h2,h3⟩:=I.ok.funs.mem hb
   have h2:s.heap.get? b=some o2:=h2
   rw[e] at h2;cases h2
   obtain⟨sl',h4⟩:=up b _ h1 h3
   exact⟨sl',h4⟩
  refine⟨ea,C,B',a0,H',rfl,I.os,I.bare,fl',ok',k1,k2,⟨fun b o e n nf _=>fl'.1 b o (k1 b o e n nf),fun b o e n hb _=>sl b o e n hb,fun b o e n _=>I.base.free b o e n (fun z=>nomatch z),fun b o e _=>?_,I.base.tups,I.base.frzs,I.base.tbls⟩,h⟩
  by_cases hb:b∈frs outer
  ·have n:H b=none:=I.ok.frf b hb
   obtain⟨sl',q⟩:=sl b o e n hb
   exact⟨_,q⟩
  ·obtain⟨o',q⟩:=k2 b o e hb
   exact⟨o',fl'.1 b o' q⟩
 have hfr:(A.deeper (envOfC qual scope s.heap.objs.size f cd)).frames=some (envOfC qual scope s.heap.objs.size f cd::outer):=I.ok.frames
 show wpAny _ _ (leaving _ (.ref ea)) _ _ s'
 rcases r with⟨vs,m,ff⟩|⟨a0,fl⟩
 ·have hin:∀env∈(envOfC qual scope s.heap.objs.size f cd::outer),∀b,env.frame=some b→b∈frs (envOfC qual scope s.heap.objs.size f cd::outer):=fun env he b hb=>List.mem_filterMap.mpr ⟨env,he,hb⟩
  refine wpAny_leaves_madeW (base:=PySem.W.hideAll B (frs (envOfC qual scope s.heap.objs.size f cd::outer))) hfr rfl (fun b o q=>PySem.W.of_hideAll _ q) (PySem.W.funFrames_hide ff hin) m fun h' t x1 x2 x3 x4=>?_
  refine fin _ _ h' x1 x4 (fun b o e=>?_) fun b o e n=>PySem.W.hideAll_get _ e n
  have nf:∀c u,H' c=some u→c∉frs (envOfC qual scope s.heap.objs.size f cd::outer):=fun c u e z=>by
   have:=I.stkFree c z
   rw[e] at this;cases this
  refine (ok b o e).stay (fun c u hc q=>PySem.W.hideAll_get _ q ?_) (fun _ q=>q) fun _ _ q=>q
  rcases hc with rfl|hc
  ·exact nf _ _ e
  ·exact nf _ _ hc
 ·refine wpAny_leaves_onW hfr rfl fl fun h' x1 x2=>?_
  exact fin B a0 h' x1 x2 ok fun b o e _=>e
structure MExt (G H:Hp)(d:Vd)(G' H':Hp)(d':Vd):Prop where
 gg:Same G G'
 hh:Same (er H (parts d)) (er H' (parts d'))
 gh:Same G' (er H' (parts d'))
 nw:∀b o,G b=Option.none→H b=some o→G' b=Option.none
 pre:d <+: d'
 st:∀b o,H b=some o→∃o',H' b=some o'
theorem parts_pre {d d':Vd}(h:d <+: d'){b:Addr}(hb:b∈parts d):b∈parts d':=by
 obtain⟨t,ht⟩:=h
 subst ht
 unfold parts at hb ⊢
 rw[List.flatMap_append]
 exact List.mem_append_left _ hb
section
variable {P:Program}{w:World}{K:Fg}{C:Addr}{G0 H0 G H G' H' G1 H1 G2 H2:Hp}{d0 d d' d1 d2:Vd}{σ:St}{ρ:List Sl}{U U':List (List D)}
theorem MExt.refl (s:Same G (er H (parts d))):MExt G H d G H d:=⟨Same.refl _,Same.refl _,s,fun _ _ h _=>h,List.prefix_refl _,fun _ o h=>⟨o,h⟩⟩
theorem MExt.trans (a:MExt G H d G1 H1 d1)(b:MExt G1 H1 d1 G2 H2 d2):MExt G H d G2 H2 d2:=
 ⟨a.gg.trans b.gg,a.hh.trans b.hh,b.gh,fun c o h1 h2=>let ⟨o',h3⟩:=a.st c o h2;b.nw c o' (a.nw c o h1 h2) h3,a.pre.trans b.pre,fun c o h=>let ⟨o',h3⟩:=a.st c o h;b.st c o' h3⟩
theorem VS.mext (v:VS P w K C G H d U)(s:Same G (er H (parts d)))(e:Ext G H G' H'):MExt G H d G' H' d:=by
 have x:=e.er (fun b hb=>⟨v.out b hb,v.part hb⟩) s
 exact⟨e.gg,x.hh,x.gh,e.nw,List.prefix_refl _,fun b o h=>⟨o,e.hh b o h⟩⟩
noncomputable def isInsO:Option HO→Bool
 |some (.ins ..)=>true
 |_=>false
theorem EnvM.start (E:EnvM P w K C G0 H0 d0 G H d σ ρ U):MExt G0 H0 d0 G H d:=by
 refine⟨E.gg,E.hh,E.sub',E.nw,E.pre,fun b o h=>?_⟩
 by_cases hb:b∈parts d0
 ·exact E.vs.part (parts_pre E.pre hb)
 ·exact⟨o,er_same b o (E.hh b o (by rw[er_out hb];exact h))⟩
theorem EnvM.go (E:EnvM P w K C G0 H0 d0 G H d σ ρ U)(m:MExt G H d G' H' d')(v:VS P w K C G' H' d' U'):EnvM P w K C G0 H0 d0 G' H' d' σ ρ U':=by
 have st0:=E.start
 obtain⟨Gb,Hb,s1,s2,e⟩:=E.bas
 let Hb':Hp:=fun b=>match Hb b with
  |some o=>some o
  |Option.none=>if isInsO (er H' (parts d') b) then er H' (parts d') b else Option.none
 let Gb':Hp:=fun b=>match Gb b with
  |some o=>some o
  |Option.none=>match Hb b with
   |some _=>Option.none
   |Option.none=>if isInsO (er H' (parts d') b) then G' b else Option.none
 have hb1:Same Hb Hb':=fun b o h=>by show (match Hb b with|some o=>some o|Option.none=>_)=_;rw[h]
 have gb1:Same Gb Gb':=fun b o h=>by show (match Gb b with|some o=>some o|Option.none=>_)=_;rw[h]
 have hbn:∀b o,Hb b=Option.none→er H (parts d) b=some o→notIns o=true→Hb' b=Option.none:=fun b o h1 h2 h3=>by
  show (match Hb b with|some o=>some o|Option.none=>_)=_
  rw[h1]
  have:=m.hh b o h2
  show (if isInsO (er H' (parts d') b) then _ else _)=_
  rw[this]
  cases o<;>first|rfl|cases h3
 have hS:Same Hb' (er H' (parts d')):=fun b o h=>by
  have h:(match Hb b with|some o=>some o|Option.none=>if isInsO (er H' (parts d') b) then er H' (parts d') b else Option.none)=some o:=h
  cases q:Hb b with
  |some o'=>rw[q] at h;cases h;exact m.hh b _ (e.ext.hh b _ q)
  |none=>
   rw[q] at h
   dsimp only at h
   split at h
   ·exact h
   ·cases h
 have ow:∀p,G p=Option.none→(∃o,er H (parts d) p=some o)→G' p=Option.none:=fun p h1 ⟨o,h2⟩=>m.nw p o h1 (er_some h2).2
 refine⟨⟨Gb',Hb',s1.trans gb1,⟨s2.1.trans hb1,fun b o h n=>?_⟩,⟨⟨hS,fun b o h=>?_,m.gh,fun b o h1 h2=>?_,fun b C' dx fs h=>?_⟩,e.len,fun i d h=>?_,fun i d h=>?_,fun i d h=>?_,e.apart,fun i rows h=>?_⟩⟩,fun b o h1 h2=>?_,E.pre.trans m.pre,v⟩
 ·have h:(match Hb b with|some o=>some o|Option.none=>if isInsO (er H' (parts d') b) then er H' (parts d') b else Option.none)=some o:=h
  cases q:Hb b with
  |some o'=>rw[q] at h;cases h;exact s2.2 b _ q n
  |none=>
   rw[q] at h
   dsimp only at h
   split at h
   ·rename_i c;rw[h] at c;cases o<;>first|(cases c;done)|(cases n;done)
   ·cases h
 ·have h:(match Gb b with|some o=>some o|Option.none=>match Hb b with|some _=>Option.none|Option.none=>if isInsO (er H' (parts d') b) then G' b else Option.none)=some o:=h
  cases q:Gb b with
  |some o'=>rw[q] at h;cases h;exact m.gg b _ (e.ext.gg b _ q)
  |none=>
   rw[q] at h
   cases q2:Hb b with
   |some _=>rw[q2] at h;cases h
   |none=>
    rw[q2] at h
    dsimp only at h
    split at h
    ·exact h
    ·cases h
 ·have h1:(match Gb b with|some o=>some o|Option.none=>match Hb b with|some _=>Option.none|Option.none=>if isInsO (er H' (parts d') b) then G' b else Option.none)=Option.none:=h1
  have h2:(match Hb b with|some o=>some o|Option.none=>if isInsO (er H' (parts d') b) then er H' (parts d') b else Option.none)=some o:=h2
  cases q:Gb b with
  |some o'=>rw[q] at h1;cases h1
  |none=>
   rw[q] at h1
   cases q2:Hb b with
   |some o'=>
    have:=e.ext.hh b o' q2
    exact ow b (e.ext.nw b o' q q2) ⟨_,this⟩
   |none=>
    rw[q2] at h1 h2
    dsimp only at h1 h2
    split at h1
    ·exact h1
    ·rename_i c;rw[if_neg c] at h2;cases h2
 ·show (match Hb b with|some o=>some o|Option.none=>if isInsO (er H' (parts d') b) then er H' (parts d') b else Option.none)=_
  cases q:Hb b with
  |some o'=>
   have:=m.hh b o' (e.ext.hh b o' q)
   rw[h] at this;exact this.symm
  |none=>
   dsimp only
   rw[h];rfl
 ·obtain⟨u,a,b⟩:=e.dat i d h
  exact⟨u,a,b.mono m.gg⟩
 ·obtain⟨u,a,b⟩:=e.lent i d h
  exact⟨u,a,(b.monoH hb1).monoG gb1⟩
 ·obtain⟨p,a,c,f,g⟩:=e.own i d h
  obtain⟨o,ho⟩:=g.some
  have ni:notIns o=true:=by
   rcases g with⟨_,_,_,z,_⟩|⟨_,_,_,z,_⟩<;>(rw[ho] at z;cases z;rfl)
  refine⟨p,a,ow p c ⟨o,ho⟩,hbn p o f ho ni,?_⟩
  rcases g with⟨ds,vs,z1,z2,z3⟩|⟨ds,vs,z1,z2,z3⟩
  ·exact .inl ⟨ds,vs,z1,m.hh _ _ z2,z3.mono m.gg⟩
  ·exact .inr ⟨ds,vs,z1,m.hh _ _ z2,z3.mono m.gg⟩
 ·obtain⟨⟨p,a,qs,b1,b2,b3,b4,b5,b6⟩,c⟩:=e.deep i rows h
  refine⟨⟨p,a,qs,m.hh _ _ b1,ow p b2 ⟨_,b1⟩,hbn p _ b3 b1 rfl,b4,b5,fun k row q z1 z2=>?_⟩,c⟩
  obtain⟨y1,y2,vs,y3,y4⟩:=b6 k row q z1 z2
  exact⟨ow q y1 ⟨_,y3⟩,hbn q _ y2 y3 rfl,vs,m.hh _ _ y3,y4.mono m.gg⟩
 ·obtain⟨o',h3⟩:=st0.st b o h2
  exact m.nw b o' (E.nw b o h1 h2) h3
theorem EnvM.set {i:Nat}{e:D}{v:V}(E:EnvM P w K C G0 H0 d0 G H d σ ρ U)(hi:i<σ.length)(h:Dp K G e v):EnvM P w K C G0 H0 d0 G H d (σ.set i (some v)) (ρ.set i (.dat e)) U:=by
 obtain⟨Gb,Hb,s1,s2,en⟩:=E.bas
 exact⟨⟨Gb,Hb,s1,s2,en.set hi h⟩,E.nw,E.pre,E.vs⟩
theorem EnvM.freeze (E:EnvM P w K C G0 H0 d0 G H d σ ρ U):∃G',EnvM P w K C G0 H0 d0 G' H d σ (ρ.map SI.freeze) U∧Same G G':=by
 obtain⟨Gb,Hb,s1,s2,en⟩:=E.bas
 obtain⟨G1,en1,s⟩:=en.freeze
 have out:∀b∈parts d,G1 b=Option.none:=fun b hb=>by
  cases q:G1 b with
  |none=>rfl
  |some o=>have:=en1.sub b o q;rw[er_in hb] at this;cases this
 have nw:∀b o,G0 b=Option.none→H0 b=some o→G1 b=Option.none:=fun b o h1 h2=>by
  by_cases hb:b∈parts d0
  ·exact out b (parts_pre E.pre hb)
  ·have hbb:Hb b=some o:=s2.1 b o (by rw[er_out hb];exact h2)
   refine en1.ext.nw b o ?_ hbb
   cases q:Gb b with
   |none=>rfl
   |some o'=>have:=en.ext.gg b o' q;rw[E.nw b o h1 h2] at this;cases this
 refine⟨G1,⟨⟨Gb,Hb,s1,s2,en1⟩,nw,E.pre,⟨E.vs.len,E.vs.nd,fun h a l n q=>?_,E.vs.uni,out⟩⟩,s⟩
 ·obtain⟨dx,objs,h1,h2,h3,as,h4,h5,h6,h7⟩:=E.vs.at' h a l n q
  exact⟨dx,objs,h1,s _ _ h2,h3,as,h4,h5.mono s,h6,h7⟩
end
inductive R where
 |ok (d:D)
 |exc (C:Nat)
inductive Rs where
 |ok (ds:List D)
 |exc (C:Nat)
noncomputable def AccS (X:Cx)(c:Addr)(σ:St)(H:Hp):Prop:=∀pins ea s,Inv X pins σ H s→Fl X ea c H s→X.xe (.ref ea) s
noncomputable def PostM (X:Cx)(C:Addr)(G H:Hp)(d:Vd)(U:List (List D))(σ:St)(Q:VK):R→Prop
 |.ok e=>∀v G' H' d',MExt G H d G' H' d'→VS X.prog X.w X.K C G' H' d' U→Dp X.K G' e v→Q v H'
 |.exc c=>∀G' H' d',MExt G H d G' H' d'→VS X.prog X.w X.K C G' H' d' U→AccS X c σ H'
noncomputable def PostA (X:Cx)(C:Addr)(G H:Hp)(d:Vd)(U:List (List D))(σ:St)(fl:List Bool)(Q:List V→Hp→Prop):Rs→Prop
 |.ok es=>∀vs G' H' d',MExt G H d G' H' d'→VS X.prog X.w X.K C G' H' d' U→Das X.K G' (er H' (parts d')) fl es vs→Q vs H'
 |.exc c=>∀G' H' d',MExt G H d G' H' d'→VS X.prog X.w X.K C G' H' d' U→AccS X c σ H'
noncomputable def tM (X:Cx)(C:Addr)(ρ:List Sl)(U:List (List D))(r:R)(U':List (List D)):TE:=fun σ H Q=>∃G0 H0 d0 G d,EnvM X.prog X.w X.K C G0 H0 d0 G H d σ ρ U∧PostM X C G H d U' σ Q r
noncomputable def tMa (X:Cx)(C:Addr)(ρ:List Sl)(U:List (List D))(fl:List Bool)(r:Rs)(U':List (List D)):TA:=fun σ H Q=>∃G0 H0 d0 G d,EnvM X.prog X.w X.K C G0 H0 d0 G H d σ ρ U∧PostA X C G H d U' σ fl Q r
noncomputable def EvM (X:Cx)(C:Addr)(ρ:List Sl)(U:List (List D))(e:Expr)(r:R)(U':List (List D)):Prop:=PE X e (tM X C ρ U r U')
noncomputable def EaM (X:Cx)(C:Addr)(ρ:List Sl)(U:List (List D))(fl:List Bool)(es:List Expr)(r:Rs)(U':List (List D)):Prop:=PA X es (tMa X C ρ U fl r U')
structure FnM where
 lent:List Bool
 run:List (List D)→List D→Option (List (List D)×R)
noncomputable def Mur (P:Program)(w:World)(K:Fg)(C:Addr)(φ:FnM):Sp:=fun vs H Q E=>∃ds U U' r G d,φ.run U ds=some (U',r)∧Same G (er H (parts d))∧Das K G (er H (parts d)) φ.lent ds vs∧VS P w K C G H d U∧
 match r with
 |.ok e=>∀v G' H' d',MExt G H d G' H' d'→VS P w K C G' H' d' U'→Dp K G' e v→Q v H'
 |.exc c=>∀G' H' d',MExt G H d G' H' d'→VS P w K C G' H' d' U'→E (.ref c) none H'
section
variable {X:Cx}{C:Addr}{ρ:List Sl}{U U1 U2 U':List (List D)}{e o:Expr}{es:List Expr}{d:D}{ds:List D}{fl:List Bool}{c k i:Nat}{r:R}{rs:Rs}{x m:Str}{p pos apos:Pos}
theorem PostM.go {G H G' H':Hp}{d d':Vd}{σ:St}{Q:VK}(h:PostM X C G H d U σ Q r)(m:MExt G H d G' H' d'):PostM X C G' H' d' U σ Q r:=by
 cases r with
 |ok e=>exact fun v G2 H2 d2 m2 v2 q=>h v G2 H2 d2 (m.trans m2) v2 q
 |exc c=>exact fun G2 H2 d2 m2 v2=>h G2 H2 d2 (m.trans m2) v2
theorem evM_pure (h:Ev X (ρ.map (vE C U)) e d):EvM X C ρ U e (.ok d) U:=fun pins s σ H Q I ⟨G0,H0,d0,G,dd,E,k⟩=>
 h pins s σ H Q I ⟨G,H,G,E.view,fun v G' H' e1 r=>k v G' H' dd (E.vs.mext E.sub' e1) (E.vs.step e1) r⟩
theorem evM_var (i:Nat)(h:ρ[i]?=some (.dat d))(hN:X.N[i]?=some x)(hv:Vis X.env.scope x)(hd:(x==("__debug__":Str))=false)(hcd:(x==("__classdict__":Str))=false):EvM X C ρ U (.Name x pos) (.ok d) U:=
 fun pins s σ H Q I ⟨G0,H0,d0,G,dd,E,k⟩=>by
  obtain⟨Gb,Hb,_,_,en⟩:=E.bas
  obtain⟨v,a,b⟩:=en.dat i d h
  exact pe_var hN hv hd hcd pins s σ H Q I ⟨v,a,k v G H dd (.refl E.sub') E.vs b⟩
theorem eaM_nil:EaM X C ρ U fl [] (.ok []) U:=fun pos pins s σ H Q I ⟨G0,H0,d0,G,dd,E,k⟩=>pa_nil pos pins s σ H Q I (k [] G H dd (.refl E.sub') E.vs .nil)
theorem eaM_cons (he:EvM X C ρ U e (.ok d) U1)(hr:EaM X C ρ U1 fl.tail es rs U2)(hs:isStar e=false):EaM X C ρ U fl (e::es) (match rs with|.ok ds=>.ok (d::ds)|.exc c=>.exc c) U2:=
 fun pos pins s σ H Q I ⟨G0,H0,d0,G,dd,E,k⟩=>pa_cons he hr (starEach_cons hs) pos pins s σ H Q I ⟨G0,H0,d0,G,dd,E,fun v G1 H1 d1 m1 v1 r1=>by
  refine⟨G0,H0,d0,G1,d1,E.go m1 v1,?_⟩
  cases rs with
  |ok ds=>exact fun vs G2 H2 d2 m2 v2 r2=>k _ G2 H2 d2 (m1.trans m2) v2 (.cons (fun _=>r1.mono m2.gg) (.of (r1.mono m2.gg)) r2)
  |exc c=>exact fun G2 H2 d2 m2 v2=>k G2 H2 d2 (m1.trans m2) v2⟩
theorem eaM_consX (he:EvM X C ρ U e (.exc c) U1)(hs:isStar e=false):EaM X C ρ U fl (e::es) (.exc c) U1:=
 fun pos pins s σ H Q I ⟨G0,H0,d0,G,dd,E,k⟩=>pa_cons (t:=fun _ _ _=>False) he (fun _ _ _ _ _ _ _ z=>z.elim) (starEach_cons hs) pos pins s σ H Q I ⟨G0,H0,d0,G,dd,E,k⟩
theorem eaM_consR {sl:Sl}(i:Nat)(h:ρ[i]?=some sl)(hd':datsOf .read sl=some d)(hf:fl.headD false=true)(hN:X.N[i]?=some x)(hv:Vis X.env.scope x)(hd:(x==("__debug__":Str))=false)(hcd:(x==("__classdict__":Str))=false)
  (hr:EaM X C ρ U fl.tail es rs U2):EaM X C ρ U fl (.Name x p::es) (match rs with|.ok ds=>.ok (d::ds)|.exc c=>.exc c) U2:=
 fun pos pins s σ H Q I ⟨G0,H0,d0,G,dd,E,k⟩=>by
  obtain⟨Gb,Hb,_,_,en⟩:=E.bas
  obtain⟨v,a,b⟩:=en.read h hd'
  refine pa_cons (pe_var hN hv hd hcd) hr rfl pos pins s σ H Q I ⟨v,a,G0,H0,d0,G,dd,E,?_⟩
  cases rs with
  |ok ds=>exact fun vs G2 H2 d2 m2 v2 r2=>k _ G2 H2 d2 m2 v2 (.cons (fun c=>by rw[hf] at c;cases c) ((b.monoH m2.hh).monoG m2.gg) r2)
  |exc c=>exact fun G2 H2 d2 m2 v2=>k G2 H2 d2 m2 v2
theorem runM_fn {pins:List (Addr×Obj)}{σ:St}{H:Hp}{s:Shared}{Q:VK}{us:List Value}{vs:List V}{f:Addr}{fd:FuncData}{ps:List Str}{sp:Sp}(F:FnOk X.prog X.w X.K X.mg X.base (CX1 X.prog X.w) k f fd ps sp)(hr:Room k X.A)(hb:Binds X.K fd ps [])
  (I:Inv X pins σ H s) (r:Vals vs us) (h:sp vs H Q (fun c _ H'=>∃c',c=.ref c'∧AccS X c' σ H')):wpAny (model X.prog X.w) X.A (call (.ref f) us) (EP X pins σ Q) X.xe s:=by
 have hl:us.length=ps.length:=by rw[←r.length];exact F.len _ _ _ _ h
 refine wpAny_call (codeAny_mono (F.run X.A X.stack s H ⟨us,[]⟩ us vs Q _ hr I.env0 (by have:=hb s us I.kIn (by simpa using hl);simpa using this) r h) fun r s' hq=>?_)
 cases r with
 |error e=>
  have hq:CX1 X.prog X.w X.stack H s (fun c _ H'=>∃c',c=.ref c'∧AccS X c' σ H') e s':=hq
  obtain⟨ea,c,H',rfl,I',fl,c',ec,ac⟩:=cx1_caller I hq
  cases ec
  exact ac pins ea s' I' fl
 |ok fl=>
  cases fl with
  |ret u=>exact I.after hq
  |next=>exact False.elim hq
  |brk=>exact False.elim hq
  |cont=>exact False.elim hq
noncomputable def RsGo (run:List (List D)→List D→Option (List (List D)×R)):Rs→List (List D)→Option (List (List D)×R)
 |.ok ds,U=>run U ds
 |.exc c,U=>some (U,.exc c)
theorem murOk {φ:FnM}{G H:Hp}{d:Vd}{σ:St}{Q:VK}{vs:List V}(h:φ.run U1 ds=some (U2,r))(s:Same G (er H (parts d)))(das:Das X.K G (er H (parts d)) φ.lent ds vs)(v:VS X.prog X.w X.K C G H d U1)(q:PostM X C G H d U2 σ Q r):
  Mur X.prog X.w X.K C φ vs H Q (fun c _ H'=>∃c',c=.ref c'∧AccS X c' σ H'):=by
 refine⟨ds,U1,U2,r,G,d,h,s,das,v,?_⟩
 cases r with
 |ok e=>exact q
 |exc c=>exact fun G' H' d' m v'=>⟨c,rfl,q G' H' d' m v'⟩
structure FnZm (P:Program)(w:World)(K:Fg)(mg:Str→Option Value)(base:Heap)(C:Addr)(k:Nat)(x:Str)(φ:FnM):Prop where
 ex:∃f fd ps,mg x=some (.ref f)∧PySem.W.keepIn K (.ref f)=true∧Binds K fd ps []∧FnOk P w K mg base (CX1 P w) k f fd ps (Mur P w K C φ)
theorem evM_call {φ:FnM}(F:FnZm X.prog X.w X.K X.mg X.base C k x φ)(hr:Room k X.A)(hg:Gl X x)(hd:(x==("__debug__":Str))=false)(ha:EaM X C ρ U φ.lent (e::es) rs U1)(h:RsGo φ.run rs U1=some (U2,r))(hs:noStars (e::es)):
  EvM X C ρ U (.Call (.Name x p) (e::es) [] pos) r U2:=by
 obtain⟨f,fd,ps,hm,hk,hb,F⟩:=F.ex
 intro pins s σ H Q I h0
 obtain⟨G0,H0,d0,G,dd,E,kq⟩:=h0
 refine wpAny_Call_Name_kw (ld_glob I hg hm ?_ hd)
 cases rs with
 |exc c=>
  cases h
  refine PySem.W.callWith_K (h₀:=X.base) I.ok.mod.kin hk (thn (ha pos pins s σ H (fun _ _=>False) I ⟨G0,H0,d0,G,dd,E,kq⟩) fun us s1 ⟨vs,H1,I1,r1,q⟩=>q.elim) (starEach_cons (hs e ms0)) (stars_any fun y hy=>hs y (mc0 _ hy))
 |ok ds=>
  refine PySem.W.callWith_K (h₀:=X.base) I.ok.mod.kin hk (thn (ha pos pins s σ H (fun vs H1=>Mur X.prog X.w X.K C φ vs H1 Q (fun c _ H'=>∃c',c=.ref c'∧AccS X c' σ H')) I ⟨G0,H0,d0,G,dd,E,fun vs G1 H1 d1 m1 v1 r1=>?_⟩) fun us s1 ⟨vs,H1,I1,r1,q⟩=>⟨I1.kIn,runM_fn F hr hb I1 r1 q⟩) (starEach_cons (hs e ms0)) (stars_any fun y hy=>hs y (mc0 _ hy))
  exact murOk h m1.gh r1 v1 (kq.go m1)
structure FnVm (P:Program)(w:World)(K:Fg)(mg:Str→Option Value)(base:Heap)(C:Addr)(k:Nat)(m:Str)(φ:FnM):Prop where
 ex:∃f fd ps,Cls K C∧Meth K C m f∧Binds K fd ps []∧FnOk P w K mg base (CX1 P w) k f fd ps (Mur P w K C φ)
theorem evM_meth {φ:FnM}{h:Nat}(F:FnVm X.prog X.w X.K X.mg X.base C k m φ)(hl:φ.lent.headD false=false)(hm2:m≠"objects"∧m≠"numbers")(hr:Room k X.A)(ho:EvM X C ρ U o (.ok (.hdl h)) U1)(ha:EaM X C ρ U1 φ.lent.tail (e::es) (.ok ds) U2)(hrun:φ.run U2 (.hdl h::ds)=some (U',r))(hs:noStars (e::es))
  {pl:Sem Bool} (ht:eval (.Call (.Attribute o m apos) (e::es) [] pos) X.env=(do
   let ov ←eval o X.env
   standAt apos.atName
   let (f,first) ←holding [ov] (getMethod ov m pl)
   callWith pos f first (backTo pos (starEach (e::es) X.env)) (backToKw pos (keywordEach [] X.env)))):
  EvM X C ρ U (.Call (.Attribute o m apos) (e::es) [] pos) r U':=by
 obtain⟨f,fd,ps,hc,hm,hb,F⟩:=F.ex
 intro pins s σ H Q I h0
 obtain⟨G0,H0,d0,G,dd,E,kq⟩:=h0
 refine PySem.W.methodCall_KW (pl:=pl) (thn (ho pins s σ H (fun x H1=>∃a dx fs,x=.ref a∧H1 a=some (.ins C dx fs)∧fs.lookup m=none∧∃G1 d1,MExt G H dd G1 H1 d1∧VS X.prog X.w X.K C G1 H1 d1 U1∧Dp X.K G1 (.hdl h) (.ref a)) I ⟨G0,H0,d0,G,dd,E,fun v G1 H1 d1 m1 v1 r1=>?_⟩) fun u s1 ⟨x,H1,I1,rx,a,dx,fs,ex,ea,l,G1,d1,m1,v1,r1⟩=>?_) ht
 ·obtain⟨a,l,n,dx,objs,rfl,_,_,q,_⟩:=v1.hdl (m1.gh.trans er_same) r1
  refine⟨a,dx,_,rfl,(m1.gh.trans er_same) _ _ q,?_,G1,d1,m1,v1,r1⟩
  have n1:(m==("objects":Str))=false:=beq_eq_false_iff_ne.mpr hm2.1
  have n2:(m==("numbers":Str))=false:=beq_eq_false_iff_ne.mpr hm2.2
  simp[vfs,List.lookup_cons,n1,n2]
 ·subst ex
  obtain rfl:u=Value.ref a:=rx
  refine getmeth_ok I1 ea hc hm l ?_
  refine PySem.W.callWith_K (first:=[.ref a]) (h₀:=X.base) I.ok.mod.kin hm.kp (thn (ha pos pins s1 σ H1 (fun vs H2=>Mur X.prog X.w X.K C φ (.ref a::vs) H2 Q (fun c _ H'=>∃c',c=.ref c'∧AccS X c' σ H')) I1 ⟨G0,H0,d0,G1,d1,E.go m1 v1,fun vs G2 H2 d2 m2 v2 r2=>?_⟩) fun us s2 ⟨vs,H2,I2,r2,q⟩=>⟨I2.kIn,runM_fn (us:=.ref a::us) (vs:=.ref a::vs) F hr hb I2 (.cons rfl r2) q⟩) (starEach_cons (hs e ms0)) (stars_any fun y hy=>hs y (mc0 _ hy))
  exact murOk hrun m2.gh (.cons (fun _=>r1.mono m2.gg) (.of (r1.mono m2.gg)) r2) v2 (kq.go (m1.trans m2))
end
inductive OM where
 |nx (ρ:List Sl)
 |rt (d:D)
 |exc (c:Nat) (ρ:List Sl)
noncomputable def GoesM (X:Cx)(C:Addr)(G0 H0:Hp)(d0:Vd)(G:Hp)(U:List (List D))(F:Ends):OM→Prop
 |.nx ρ'=>∀G' H' d' σ',EnvM X.prog X.w X.K C G0 H0 d0 G' H' d' σ' ρ' U→Same G G'→F.nx σ' H'
 |.rt e=>∀v G' H' d',MExt G0 H0 d0 G' H' d'→VS X.prog X.w X.K C G' H' d' U→Dp X.K G' e v→F.rt v H'
 |.exc c ρ'=>∀G' H' d' σ',EnvM X.prog X.w X.K C G0 H0 d0 G' H' d' σ' ρ' U→Same G G'→AccS X c σ' H'
noncomputable def tSM (X:Cx)(C:Addr)(ρ:List Sl)(U:List (List D))(o:OM)(U':List (List D)):TS:=fun F σ H=>∃G0 H0 d0 G d,EnvM X.prog X.w X.K C G0 H0 d0 G H d σ ρ U∧GoesM X C G0 H0 d0 G U' F o
noncomputable def S1M (X:Cx)(C:Addr)(ρ:List Sl)(U:List (List D))(st:Stmt)(o:OM)(U':List (List D)):Prop:=PS X st (tSM X C ρ U o U')
noncomputable def SsM (X:Cx)(C:Addr)(ρ:List Sl)(U:List (List D))(sts:List Stmt)(o:OM)(U':List (List D)):Prop:=PSs X sts (tSM X C ρ U o U')
inductive Rt where
 |ok (b:Bool)
 |exc (C:Nat)
noncomputable def tTM (X:Cx)(C:Addr)(ρ:List Sl)(U:List (List D))(r:Rt)(U':List (List D)):TT:=fun σ H Q=>∃G0 H0 d0 G d,EnvM X.prog X.w X.K C G0 H0 d0 G H d σ ρ U∧match r with
 |.ok b=>∀G' H' d',MExt G H d G' H' d'→VS X.prog X.w X.K C G' H' d' U'→Q b H'
 |.exc c=>∀G' H' d',MExt G H d G' H' d'→VS X.prog X.w X.K C G' H' d' U'→AccS X c σ H'
noncomputable def EtM (X:Cx)(C:Addr)(ρ:List Sl)(U:List (List D))(e:Expr)(r:Rt)(U':List (List D)):Prop:=PT X e (tTM X C ρ U r U')
section
variable {X:Cx}{C:Addr}{ρ ρ1:List Sl}{U U1 U2 U':List (List D)}{st:Stmt}{rest body body2:List Stmt}{o:OM}{a b e tg iter:Expr}{p pos pos':Pos}{d:D}{ds:List D}{x y:Str}{i j c k:Nat}{t:Bool}
theorem GoesM.go {G0 H0 G G1:Hp}{d0:Vd}{F:Ends}(h:GoesM X C G0 H0 d0 G U F o)(s:Same G G1):GoesM X C G0 H0 d0 G1 U F o:=by
 cases o with
 |nx ρ'=>exact fun G' H' d' σ' e g=>h G' H' d' σ' e (s.trans g)
 |rt d=>exact h
 |exc c ρ'=>exact fun G' H' d' σ' e g=>h G' H' d' σ' e (s.trans g)
theorem ssM_nil:SsM X C ρ U [] (.nx ρ) U:=fun pins s σ H F I ⟨G0,H0,d0,G,d,E,R⟩=>pss_nil pins s σ H F I (R G H d σ E (Same.refl _))
theorem ssM_consN (h1:S1M X C ρ U st (.nx ρ1) U1)(h2:SsM X C ρ1 U1 rest o U2):SsM X C ρ U (st::rest) o U2:=fun pins s σ H F I ⟨G0,H0,d0,G,d,E,R⟩=>
 pss_cons h1 h2 pins s σ H F I ⟨G0,H0,d0,G,d,E,fun G' H' d' σ' E' g=>⟨G0,H0,d0,G',d',E',R.go g⟩⟩
theorem ssM_consR (h1:S1M X C ρ U st (.rt d) U1):SsM X C ρ U (st::rest) (.rt d) U1:=fun pins s σ H F I ⟨G0,H0,d0,G,dd,E,R⟩=>
 pss_cons (u:=fun _ _ _=>False) h1 (fun _ _ _ _ _ _ z=>z.elim) pins s σ H F I ⟨G0,H0,d0,G,dd,E,R⟩
theorem ssM_consX (h1:S1M X C ρ U st (.exc c ρ1) U1):SsM X C ρ U (st::rest) (.exc c ρ1) U1:=fun pins s σ H F I ⟨G0,H0,d0,G,dd,E,R⟩=>
 pss_cons (u:=fun _ _ _=>False) h1 (fun _ _ _ _ _ _ z=>z.elim) pins s σ H F I ⟨G0,H0,d0,G,dd,E,R⟩
theorem s1M_pass:S1M X C ρ U (.Pass pos) (.nx ρ) U:=fun pins s σ H F I ⟨G0,H0,d0,G,d,E,R⟩=>ps_pass pins s σ H F I (R G H d σ E (Same.refl _))
theorem acc_of {G0 H0 G H:Hp}{d0 d:Vd}{σ:St}{Q:VK}{F:Ends}(E:EnvM X.prog X.w X.K C G0 H0 d0 G H d σ ρ U)(R:GoesM X C G0 H0 d0 G U1 F (.exc c ρ)):PostM X C G H d U1 σ Q (.exc c):=
 fun G' H' d' m v=>R G' H' d' σ (E.go m v) m.gg
theorem s1M_set (S:Sto X x i)(h:EvM X C ρ U e (.ok d) U1)(hs:swapsWith e (some (.Name x pos')) pos.line X.env=pure false):S1M X C ρ U (.Assign [.Name x pos'] e pos) (.nx (ρ.set i (.dat d))) U1:=
 fun pins s σ H F I ⟨G0,H0,d0,G,dd,E,R⟩=>ps_set S.nd S.nm.at' S.nm.loc h hs S.nm.fn pins s σ H F I ⟨G0,H0,d0,G,dd,E,fun v G' H' d' m v1 r=>R G' H' d' _ ((E.go m v1).set (S.lt I) r) m.gg⟩
theorem s1M_setX (S:Sto X x i)(h:EvM X C ρ U e (.exc c) U1)(hs:swapsWith e (some (.Name x pos')) pos.line X.env=pure false):S1M X C ρ U (.Assign [.Name x pos'] e pos) (.exc c ρ) U1:=
 fun pins s σ H F I ⟨G0,H0,d0,G,dd,E,R⟩=>ps_set S.nd S.nm.at' S.nm.loc h hs S.nm.fn pins s σ H F I ⟨G0,H0,d0,G,dd,E,acc_of (Q:=fun _ _=>True) E R⟩
theorem s1M_expr (h:EvM X C ρ U e (.ok d) U1)(hs:swapsWith e none pos.line X.env=pure false):S1M X C ρ U (.Expr e pos) (.nx ρ) U1:=
 fun pins s σ H F I ⟨G0,H0,d0,G,dd,E,R⟩=>ps_expr h hs pins s σ H F I ⟨G0,H0,d0,G,dd,E,fun v G' H' d' m v1 r=>R G' H' d' _ (E.go m v1) m.gg⟩
theorem s1M_exprX (h:EvM X C ρ U e (.exc c) U1)(hs:swapsWith e none pos.line X.env=pure false):S1M X C ρ U (.Expr e pos) (.exc c ρ) U1:=
 fun pins s σ H F I ⟨G0,H0,d0,G,dd,E,R⟩=>ps_expr h hs pins s σ H F I ⟨G0,H0,d0,G,dd,E,acc_of (Q:=fun _ _=>True) E R⟩
theorem s1M_ret (h:EvM X C (ρ.map SI.freeze) U e (.ok d) U1):S1M X C ρ U (.Return (some e) pos) (.rt d) U1:=fun pins s σ H F I ⟨G0,H0,d0,G,dd,E,R⟩=>by
 obtain⟨G1,E1,s1⟩:=E.freeze
 exact ps_ret h pins s σ H F I ⟨G0,H0,d0,G1,dd,E1,fun v G' H' d' m v1 r=>R v G' H' d' (E1.go m v1).start v1 r⟩
theorem s1M_retX (h:EvM X C (ρ.map SI.freeze) U e (.exc c) U1):S1M X C ρ U (.Return (some e) pos) (.exc c (ρ.map SI.freeze)) U1:=fun pins s σ H F I ⟨G0,H0,d0,G,dd,E,R⟩=>by
 obtain⟨G1,E1,s1⟩:=E.freeze
 exact ps_ret h pins s σ H F I ⟨G0,H0,d0,G1,dd,E1,acc_of (Q:=fun _ _=>True) E1 (R.go s1)⟩
theorem etM_pure (h:Et X (ρ.map (vE C U)) e t):EtM X C ρ U e (.ok t) U:=fun pins s σ H Q I ⟨G0,H0,d0,G,dd,E,k⟩=>
 h pins s σ H Q I ⟨G,H,G,E.view,fun G' H' e1=>k G' H' dd (E.vs.mext E.sub' e1) (E.vs.step e1)⟩
theorem s1M_ifT (hc:EtM X C ρ U e (.ok true) U1)(h:SsM X C ρ U1 body o U2):S1M X C ρ U (.If e body body2 pos) o U2:=fun pins s σ H F I ⟨G0,H0,d0,G,dd,E,R⟩=>
 ps_if (u:=fun _ _ _=>False) hc h (fun _ _ _ _ _ _ z=>z.elim) pins s σ H F I ⟨G0,H0,d0,G,dd,E,fun G' H' d' m v=>iteT ⟨G0,H0,d0,G',d',E.go m v,R.go m.gg⟩⟩
theorem s1M_ifF (hc:EtM X C ρ U e (.ok false) U1)(h:SsM X C ρ U1 body2 o U2):S1M X C ρ U (.If e body body2 pos) o U2:=fun pins s σ H F I ⟨G0,H0,d0,G,dd,E,R⟩=>
 ps_if (t:=fun _ _ _=>False) hc (fun _ _ _ _ _ _ z=>z.elim) h pins s σ H F I ⟨G0,H0,d0,G,dd,E,fun G' H' d' m v=>iteF ⟨G0,H0,d0,G',d',E.go m v,R.go m.gg⟩⟩
noncomputable def TgM (X:Cx)(tg:Expr)(t:Tg):Prop:=∀d,PG X tg (fun v σ H Q=>∃(W:St→List Sl→Prop) (G:Hp) (ρ ρ':List Sl),W σ ρ∧(∀σ ρ i e u,W σ ρ→i<σ.length→Dp X.K G e u→W (σ.set i (some u)) (ρ.set i (.dat e)))∧Same G H∧Dp X.K G d v∧bindTg t d ρ=some ρ'∧∀σ',W σ' ρ'→Q σ' H)
theorem tgM_name {i:Nat}{x:Str}(hN:X.N.Nodup)(hi:X.N[i]?=some x)(hx:Loc X.env.scope x)(hf:X.fn x=true∨X.env.scope.names.lookup x=some .local):TgM X (.Name x p) (.one i):=
 fun d pins s σ H v u Q I r ⟨W,G,ρ,ρ',w,cl,sm,dv,hb,k⟩=>by
  cases hb
  exact pg_name hN hi hx hf pins s σ H v u Q I r (k _ (cl σ ρ i d v w (by rw[I.len];exact (List.getElem?_eq_some_iff.mp hi).1) dv))
noncomputable def TgsM (X:Cx)(ts:List Expr)(is:List Nat):Prop:=∀ds,ds.length=is.length→PGs X ts (fun vs σ H Q=>∃(W:St→List Sl→Prop) (G:Hp) (ρ:List Sl),W σ ρ∧(∀σ ρ i e u,W σ ρ→i<σ.length→Dp X.K G e u→W (σ.set i (some u)) (ρ.set i (.dat e)))∧Same G H∧Dps X.K G ds vs∧
 ∀σ',W σ' ((is.zip ds).foldl (fun ρ p=>ρ.set p.1 (.dat p.2)) ρ)→Q σ' H)
theorem tgsM {ts:List Expr}{is:List Nat}(hN:X.N.Nodup)(h:Nms X ts is):TgsM X ts is:=by
 induction h with
 |nil=>
  intro ds hl pins s σ H vs us Q I r h0
  obtain⟨W,G,ρ,w,cl,sm,dv,k⟩:=h0
  have:ds=[]:=List.eq_nil_of_length_eq_zero hl
  subst this
  cases dv
  exact pgs_nil pins s σ H [] us Q I r ⟨rfl,k σ w⟩
 |@cons x px i es is h1 h2 ih=>
  intro ds hl pins s σ H vs us Q I r h0
  obtain⟨W,G,ρ,w,cl,sm,dv,k⟩:=h0
  cases ds with
  |nil=>cases hl
  |cons d ds=>
   cases dv with
   |cons d1 d2=>
    exact pgs_cons (tgM_name (p:=px) hN h1.at' h1.loc h1.fn d) (ih ds (by simpa using hl)) rfl pins s σ H _ us Q I r
     ⟨_,_,rfl,W,G,ρ,_,w,cl,sm,d1,rfl,fun σ' w'=>⟨W,G,_,w',cl,sm,d2,fun σ2 w2=>k σ2 w2⟩⟩
theorem tgM_tup {ts:List Expr}{is:List Nat}{n:Nat}(hc:X.calm=true)(hN:X.N.Nodup)(h:Nms X ts is):TgM X (.Tuple ts n pos) (.tup is):=by
 intro d pins s σ H v u Q I r h0
 obtain⟨W,G,ρ,ρ',w,cl,sm,dv,hb,k⟩:=h0
 cases d with
 |tuple ds=>
  rw[bind_tupT] at hb
  split at hb
  ·rename_i hl
   cases hb
   cases dv with
   |tuple hq dr=>
    obtain⟨e1,e2⟩:=h.each (env:=X.env)
    exact pg_tup (n:=is.length) hc (tgsM hN h ds hl.symm) e1 e2 pins s σ H _ u Q I r ⟨_,_,rfl,SqT.of (sm _ _ hq),by rw[←dr.length];exact hl.symm,W,G,ρ,w,cl,sm,dr,k⟩
  ·cases hb
 |list ds=>
  rw[bind_tupL] at hb
  split at hb
  ·rename_i hl
   cases hb
   cases dv with
   |list hq dr=>
    obtain⟨e1,e2⟩:=h.each (env:=X.env)
    exact pg_lst (n:=is.length) hc (tgsM hN h ds hl.symm) e1 e2 pins s σ H _ u Q I r ⟨_,_,rfl,SqL.of (sm _ _ hq),by rw[←dr.length];exact hl.symm,W,G,ρ,w,cl,sm,dr,k⟩
  ·cases hb
 |_=>cases hb
theorem tgM_ok {Cc:Cs}(c:CxC X Cc){tg:Expr}{t:Tg}(h:cTg Cc tg=some t):TgM X tg t:=by
 have nms:∀{es:List Expr} {is:List Nat},slots Cc es=some is→Nms X es is:=by
  intro es
  induction es with
  |nil=>intro is h;cases h;exact .nil
  |cons e r ih=>
   intro is h
   cases e with
   |Name x px=>
    obtain⟨i,h1,h2⟩:=bx0 (show (cLoc Cc x).bind _=some is from h)
    obtain⟨is',h3,rfl⟩:=mx0 h2
    exact .cons (loc_ok c h1) (ih h3)
   |_=>cases h
 cases tg with
 |Name x px=>
  obtain⟨i,h1,rfl⟩:=mx0 (show (cLoc Cc x).map _=some t from h)
  have n:=loc_ok c h1
  exact tgM_name (by rw[c.N];exact c.nd) n.at' n.loc n.fn
 |Tuple es n pos=>
  obtain⟨is,h1,rfl⟩:=mx0 (show (slots Cc es).map _=some t from h)
  exact tgM_tup c.calm (by rw[c.N];exact c.nd) (nms h1)
 |_=>cases h
noncomputable def OM.andThen:OM→(List Sl→Option (OM×List (List D)))→List (List D)→Option (OM×List (List D))
 |.nx ρ,f,_=>f ρ
 |.rt d,_,U=>some (.rt d,U)
 |.exc c ρ,_,U=>some (.exc c ρ,U)
noncomputable def forM (t:D→List Sl→Option (List Sl))(b:List Sl→List (List D)→Option (OM×List (List D))):List D→List Sl→List (List D)→Option (OM×List (List D))
 |[],ρ,U=>some (.nx ρ,U)
 |d::r,ρ,U=>(t d ρ).bind fun ρ'=>(b ρ' U).bind fun q=>q.1.andThen (fun ρ2=>forM t b r ρ2 q.2) q.2
noncomputable def tIM (X:Cx)(C:Addr)(ρ:List Sl)(U:List (List D))(ds:List D)(U':List (List D)):TI:=fun σ H R=>∃G0 H0 d0 G d,EnvM X.prog X.w X.K C G0 H0 d0 G H d σ ρ U∧∀J G' H' d',MExt G H d G' H' d'→VS X.prog X.w X.K C G' H' d' U'→
 (∃Hs,SrcOk X.K G' Hs J ds∧∀G2 H2 d2 σ2 ρ2 U2,EnvM X.prog X.w X.K C G0 H0 d0 G2 H2 d2 σ2 ρ2 U2→Same G' G2→Same Hs H2)→R J H'
noncomputable def SiM (X:Cx)(C:Addr)(ρ:List Sl)(U:List (List D))(iter:Expr)(ds:List D)(U':List (List D)):Prop:=∀tg,PI X tg iter (tIM X C ρ U ds U')
theorem siM_pure (h:Si X ρ true iter ds):SiM X C ρ U iter ds U:=fun tg pins s σ H R I ⟨G0,H0,d0,G,d,E,k⟩=>by
 obtain⟨Gb,Hb,en,st⟩:=E.full
 exact h tg pins s σ H R I ⟨Gb,Hb,G,en,fun J G' H' e1 sr=>k J G' H' d (E.vs.mext E.sub' e1) (E.vs.step e1) ⟨Hb,sr,fun G2 H2 d2 σ2 ρ2 U2 E2 g=>st G2 H2 d2 σ2 ρ2 U2 E2 (e1.gg.trans g)⟩⟩
theorem s1M_for {t:Tg}{run:List Sl→List (List D)→Option (OM×List (List D))}(hi:SiM X C ρ U iter ds U1)(ht:TgM X tg t)(hb:∀ρ' U' o' U2,run ρ' U'=some (o',U2)→SsM X C ρ' U' body o' U2)(h:forM (bindTg t) run ds ρ U1=some (o,U2))
  (hc:X.calm=true) (hp:PassesOwn (model X.prog X.w) X.A X.env X.xe) (hf:∀x,foldedSetIterable iter X.env x=pure x):S1M X C ρ U (.For tg iter body [] pos) o U2:=by
 intro pins s σ H F I h0
 obtain⟨G0,H0,d0,G,d,E,R⟩:=h0
 refine ps_for hp hc (hi _) (pg_X (tg:=tg)) (pss_X (body:=body)) hf pins s σ H F I ?_
 refine⟨G0,H0,d0,G,d,E,fun J G1 H1 d1 m1 v1 ⟨Hs,hJ,hst⟩=>⟨fun k m σ' H'=>m=ds.length-k∧k≤ds.length∧∃ρ' U' G' d',forM (bindTg t) run (ds.drop k) ρ' U'=some (o,U2)∧EnvM X.prog X.w X.K C G0 H0 d0 G' H' d' σ' ρ' U'∧Same G1 G',⟨ds.length,by simp,Nat.zero_le _,ρ,U1,G1,d1,h,E.go m1 v1,Same.refl _⟩,?_⟩⟩
 rintro k m σ' H' ⟨rfl,hk,ρ',U',G',d',pv,E',g1⟩
 have g0:Same G G':=m1.gg.trans g1
 have hs:=hst G' H' d' σ' ρ' U' E' g1
 by_cases hlt:k<ds.length
 ·refine .inr ⟨hJ.go k H' hlt (g1.trans E'.sub) hs,fun σ2 H2=>k+1≤ds.length∧∃ρ2 U3 G2 d2,forM (bindTg t) run (ds.drop (k+1)) ρ2 U3=some (o,U2)∧EnvM X.prog X.w X.K C G0 H0 d0 G2 H2 d2 σ2 ρ2 U3∧Same G1 G2,fun σ2 H2 ⟨h1,ρ2,U3,G2,d2,p2,en2,s2⟩=>⟨ds.length-(k+1),by omega,rfl,h1,ρ2,U3,G2,d2,p2,en2,s2⟩,fun v H2 y=>?_⟩
  have hd:ds[k]?=some ds[k]:=ge0 hlt
  rw[List.drop_eq_getElem_cons hlt] at pv
  generalize ds[k]=dd at hd pv
  obtain⟨ρ1,b1,pv⟩:=bx0 (show (bindTg t dd ρ').bind _=some (o,U2) from pv)
  obtain⟨⟨o1,U3⟩,b2,pv⟩:=bx0 pv
  obtain⟨G2,e2,d2⟩:=hJ.yld k G' H' v H2 dd hd g1 E'.sub hs y
  have E2:=E'.go (E'.vs.mext E'.sub' e2) (E'.vs.step e2)
  intro pins' s' u' I' r'
  refine ht dd pins' s' σ' H2 v u' _ I' r' ⟨fun σ3 ρ3=>EnvM X.prog X.w X.K C G0 H0 d0 G2 H2 d' σ3 ρ3 U',G2,ρ',ρ1,E2,fun σ3 ρ3 i e u E3 hi de=>E3.set hi de,E2.sub,d2,b1,fun σ2 en2=>?_⟩
  intro pins2 s2 I2
  refine hb ρ1 U' o1 U3 b2 pins2 s2 σ2 H2 _ I2 ⟨G0,H0,d0,G2,d',en2,?_⟩
  cases o1 with
  |nx ρ3=>exact fun G3 H3 d3 σ3 en3 g3=>⟨hlt,ρ3,U3,G3,d3,pv,en3,g1.trans (e2.gg.trans g3)⟩
  |rt dr=>cases pv;exact R
  |exc c ρ3=>cases pv;exact R.go (g0.trans e2.gg)
 ·have e:k=ds.length:=by omega
  subst e
  rw[List.drop_length] at pv
  cases pv
  exact .inl ⟨hJ.stop H' (g1.trans E'.sub) hs,R G' H' d' σ' E' g0⟩
end
noncomputable def veMro:List Value:=[.type "ValueError",.type "Exception",.type "BaseException",.type "object"]
theorem exc_obj {K:Fg}{h:Heap}{C:Addr}{bmB:List Value}{newId:String}(X:K.In h)(q:PySem.W.excIn K C bmB newId=true):
  ∃bm N nm qn bs hdct sn sub ab col dd k0 k1 k2 k3 k5 mN,h.get? C=some (excClassObj nm qn C N bs bm hdct sn sub ab col dd k0 k1 k2 k3 k5 newId)∧h.Ns N mN∧mN "__init__"=none∧OwnTail h bmB bm:=by
 unfold PySem.W.excIn at q
 split at q
 ·rename_i dd cd sl ho
  split at q
  ·rename_i C' bm k0 k1 k2 k3 n k5 hm hs
   simp only[be0,beq_iff_eq,Bool.not_eq_true'] at q
   obtain⟨⟨⟨⟨⟨rfl,rfl⟩,hdel⟩,ht⟩,hok⟩,hni⟩:=q
   obtain⟨nm,bs,mro,ns,qn,hd,sn,sub,ab,col,del⟩:=cd
   dsimp only at hm hdel hok hni
   subst hm hdel
   have hsl:sl=#[k0,k1,k2,k3,some (.builtin n),k5]:=by
    obtain⟨l⟩:=sl
    simp only at hs
    rw[hs]
   subst hsl
   exact⟨bm,ns,nm,qn,bs,hd,sn,sub,ab,col,dd,k0,k1,k2,k3,k5,_,X _ _ ho,.of_isNs (PySem.W.isNs_of_in X hok),PySem.W.nsMap_none_of_in X hok hni,PySem.W.tail_of_in X ht⟩
  ·cases q
 ·cases q
structure ExcK (X:Cx)(x:Str)(c:Addr):Prop where
 mg:X.mg x=some (.ref c)
 ex:∃newId initId,ExcBaseFacts "ValueError" newId initId veMro∧PySem.W.excIn X.K c veMro newId=true
section
variable {X:Cx}{C:Addr}{ρ:List Sl}{U U1:List (List D)}{e:Expr}{es:List Expr}{x:Str}{c:Nat}{np cpos pos:Pos}{r:R}
theorem s1M_raise (K:ExcK X x c)(hg:Gl X x)(hd:(x==("__debug__":Str))=false)(hc:X.calm=true)(h:EaM X C ρ U [] (e::es) (.ok ds) U1)(hl:ds.length≤1000)(hs:noStars (e::es)):
  S1M X C ρ U (.Raise (some (.Call (.Name x np) (e::es) [] cpos)) none pos) (.exc c ρ) U1:=by
 intro pins s σ H F I h0
 obtain⟨G0,H0,d0,G,d,E,R⟩:=h0
 obtain⟨newId,initId,FB,q⟩:=K.ex
 obtain⟨bm,N,nm,qn,bs,hdct,sn,sub,ab,col,dd,k0,k1,k2,k3,k5,mN,hC,hN,hni,TL⟩:=exc_obj I.ok.mod.kin q
 refine wpAny_Raise_call_subT (C:=c) (nm:=nm) (q:=qn) (N:=N) (bs:=bs) (bm:=bm) (hdct:=hdct) (sn:=sn) (sub:=sub) (ab:=ab) (col:=col) (dd:=dd) (k0:=k0) (k1:=k1) (k2:=k2) (k3:=k3) (k5:=k5)
  FB (mN:=mN) (TL.hasType FB.hasBase) (I.ok.hd hc) (stars_any hs) hni (ld_glob I hg K.mg ⟨rfl,?_⟩ hd)
 have hst:=starEach_cons (env:=X.env) (es:=es) (hs e ms0)
 have step:=h cpos pins s σ H (fun vs H1=>vs.length≤1000∧∃G1 d1,MExt G H d G1 H1 d1∧VS X.prog X.w X.K C G1 H1 d1 U1) I ⟨G0,H0,d0,G,d,E,fun vs G1 H1 d1 m1 v1 r1=>⟨by rw[←r1.length];exact hl,G1,d1,m1,v1⟩⟩
 rw[hst] at step ⊢
 refine Calls.evalArgs_plain (wpAny_mono step (fun us s1 h1=>?_) fun _ _ y=>y)
 obtain⟨vs,H1,I1,rv,hlen,G1,d1,m1,v1⟩:=h1
 have kp:=I1.bk
 refine⟨rfl,by rw[←rv.length];exact Nat.le_of_lt (small1000 hlen),kp _ _ hC,hN.keeps kp,TL.keeps kp,fun h' ea hm=>?_⟩
 obtain⟨I2,fl⟩:=fl_made I1 hm
 exact R G1 H1 d1 σ (E.go m1 v1) m1.gg pins ea _ I2 fl
end
noncomputable abbrev tri (X:Cx)(E:Value→Shared→Prop)(pn:List (Addr×Obj)):Cx:={X with xe:=E,pn:=pn}
section
variable {X:Cx}{pins pins':List (Addr×Obj)}{σ:St}{H:Hp}{s:Shared}{E:Value→Shared→Prop}{ea c:Addr}
theorem ok_tri {pn:List (Addr×Obj)}(ok:X.Ok):(tri X E pn).Ok:=
 ⟨ok.mod,ok.kind,ok.glob,ok.blt,ok.above,ok.inj,ok.has,ok.cab,ok.hd,ok.frames,ok.stk,ok.exf,ok.bs,ok.bsz,ok.noex,ok.exfs,ok.funs,ok.frf⟩
theorem ok_untri {pn:List (Addr×Obj)}(ok:(tri X E pn).Ok):X.Ok:=
 ⟨ok.mod,ok.kind,ok.glob,ok.blt,ok.above,ok.inj,ok.has,ok.cab,ok.hd,ok.frames,ok.stk,ok.exf,ok.bs,ok.bsz,ok.noex,ok.exfs,ok.funs,ok.frf⟩
theorem inv_tri (I:Inv X pins σ H s):Inv (tri X E (X.pn++pins)) [] σ H s:=⟨ok_tri I.ok,I.os,I.bare,I.base,I.loc,I.cell,I.free,I.freeC,fun p hp=>I.pin p (by simpa using hp),I.hok,I.len⟩
theorem inv_untri (I:Inv (tri X E (X.pn++pins)) pins' σ H s):Inv X pins σ H s:=⟨ok_untri I.ok,I.os,I.bare,I.base,I.loc,I.cell,I.free,I.freeC,fun p hp=>I.pin p (List.mem_append_left _ hp),I.hok,I.len⟩
theorem sp_untri {D:Ends}{f:Flow}{s':Shared}(h:SP (tri X E (X.pn++pins)) pins' D f s'):SP X pins D f s':=by
 cases f with
 |next=>obtain⟨σ',H',I,q⟩:=h;exact⟨σ',H',inv_untri I,q⟩
 |brk=>obtain⟨σ',H',I,q⟩:=h;exact⟨σ',H',inv_untri I,q⟩
 |cont=>obtain⟨σ',H',I,q⟩:=h;exact⟨σ',H',inv_untri I,q⟩
 |ret u=>obtain⟨v,σ',H',I,r,q⟩:=h;exact⟨v,σ',H',inv_untri I,r,q⟩
theorem inv_land {B h':Heap}(I:Inv X pins' σ H s)(ok:HOk X.prog X.w H B)(kb:∀b o,X.s₀.heap.get? b=some o→X.H₀ b=none→b∉X.fs→b∉X.ex→B.get? b=some o)
  (th:∀b o,X.s₀.heap.get? b=some o→b∉frs X.stack→b∉X.ex→∃o',B.get? b=some o') (pn:∀p∈X.pn,B.get? p.1=some p.2) (st:B.StaysIn h') (up:s.heap.UpToSlots h'):Inv X [] σ H {s with heap:=h'}:=by
 have cellK:∀cc v,s.heap.IsCell cc v→h'.IsCell cc v:=fun cc v ⟨o,ho,hd⟩=>by
  obtain⟨sl,q⟩:=up cc o ho fun vs z=>by rw[hd] at z;cases z
  exact⟨_,q,hd⟩
 have slot:∀b o,X.s₀.heap.get? b=some o→X.H₀ b=none→b∈X.fs→b∉X.ex→∃sl,h'.get? b=some {o with slots:=sl}:=fun b o e n hb nx=>by
  obtain⟨sl,h1⟩:=I.base.slot b o e n hb nx
  obtain⟨_,o2,h2,h3⟩:=I.ok.funs.mem hb
  rw[e] at h2;cases h2
  obtain⟨sl',h4⟩:=up b _ h1 h3
  exact⟨sl',h4⟩
 refine⟨I.ok,I.os,I.bare,⟨fun b o e n nf nx=>st b o (kb b o e n nf nx),slot,I.base.free,fun b o e nx=>?_,I.base.tups,I.base.frzs,I.base.tbls⟩,?_,fun x cc e=>?_,I.free,I.freeC,fun p hp=>?_,ok.kept st,I.len⟩
 ·by_cases hb:b∈frs X.stack
  ·rcases List.mem_cons.mp (I.stkSub b hb) with r|r
   ·subst r
    exact absurd (nl0 (hs0 e) I.ok.above) (Nat.lt_irrefl _)
   ·obtain⟨sl,q⟩:=slot b o e (I.ok.frf b r) r nx
    exact⟨_,q⟩
  ·obtain⟨o',q⟩:=th b o e hb nx
   exact⟨o',st b o' q⟩
 ·obtain⟨m,hn,hl⟩:=I.loc
  refine⟨m,up.ns hn,fun i x v e1 e2 e3=>?_⟩
  obtain⟨u,r,l⟩:=hl i x v e1 e2 e3
  refine⟨u,r,?_⟩
  rcases l with l|⟨k,cc,e,z⟩
  ·exact .inl l
  ·exact .inr ⟨k,cc,e,cellK cc _ z⟩
 ·obtain⟨v,z⟩:=I.cell x cc e
  exact⟨v,cellK cc v z⟩
 ·have hp:p∈X.pn:=by simpa using hp
  obtain⟨_,b,d,e,f⟩:=I.pin p (List.mem_append_left _ hp)
  exact⟨st _ _ (pn p hp),b,d,e,f⟩
theorem inv_track {o:Obj}(I:Inv X pins σ H s)(hn:H ea=none)(ho:s.heap.get? ea=some o)(hcl:o.cls=.ref c)(h0:X.s₀.heap.get? ea=none)(hL:ea≠X.env.locals)(hc:∀x cc,X.env.cells.lookup x=some cc→cc≠ea)(hp:∀p∈X.pn++pins,p.1≠ea):
  Inv X pins σ (upd H ea (.ext (ExcAt ea c))) s:=by
 have ne:∀b u,H b=some u→b≠ea:=fun b u e=>ne_of_none e hn
 refine⟨I.ok,I.os,I.bare,⟨I.base.keep,I.base.slot,fun b u e n nx=>?_,I.base.there,fun b xs e=>?_,fun b u xs e=>?_,fun b ps e=>?_⟩,I.loc,I.cell,?_,fun x cc e=>?_,fun p q=>?_,fun b u e=>?_,I.len⟩
 ·rw[upd_ne fun z=>by subst z;rw[h0] at e;cases e];exact I.base.free b u e n nx
 ·rw[upd_ne (ne _ _ (I.base.tups b xs e))];exact I.base.tups b xs e
 ·rw[upd_ne (ne _ _ (I.base.frzs b u xs e))];exact I.base.frzs b u xs e
 ·obtain⟨more,q⟩:=I.base.tbls b ps e
  exact⟨more,by rw[upd_ne (ne _ _ q)];exact q⟩
 ·rw[upd_ne (Ne.symm hL)];exact I.free
 ·rw[upd_ne (hc x cc e)];exact I.freeC x cc e
 ·obtain⟨a,b,r⟩:=I.pin p q
  exact⟨a,by rw[upd_ne (hp p q)];exact b,r⟩
 ·by_cases z:b=ea
  ·subst z
   rw[upd_same] at e;cases e
   exact⟨⟨o,ho,hcl⟩,⟨o,ho⟩,fun h1 h2 ⟨o1,a1,b1⟩ k=>⟨o1,k o1 a1,b1⟩⟩
  ·rw[upd_ne z] at e
   exact (I.hok b u e).stay (fun _ _ _ q=>q) (fun cc q=>by rw[upd_ne (ne _ _ q)];exact q) fun cc xs q=>by rw[upd_ne (ne _ _ q)];exact q
theorem inv_gone {h':Heap}{m:Str→Option Value}{n:Str}{v:Option Value}{j t':Nat}(I:Inv X pins σ H s)(hN:X.N.Nodup)(hj:X.N[j]?=some n)(hm:∀(i:Nat) (x:Str) (v:V),X.N[i]?=some x→σ[i]?=some (some v)→Vis X.env.scope x→∃u,RelV v u∧Look X.env s.heap m x u)
  (hn:h'.Ns X.env.locals (fun x=>if x=n then v else m x)) (sb:Heap.SameBut X.env.locals s.heap h'):Inv X pins (σ.set j Option.none) H {s with heap:=h',toks:=t'}:=by
 have k:∀b o,b≠X.env.locals→s.heap.get? b=some o→h'.get? b=some o:=fun b o hb e=>(sb.2 b hb).trans e
 have nL:∀b o,X.s₀.heap.get? b=some o→b≠X.env.locals:=fun b o e=>nn0 (nl0 (hs0 e) I.ok.above)
 have cellK:∀x cc,X.env.cells.lookup x=some cc→∀v,s.heap.IsCell cc v→h'.IsCell cc v:=fun x cc e v ⟨o,ho,hd⟩=>⟨o,k cc o (I.cne x cc e) ho,hd⟩
 refine⟨I.ok,I.os,I.bare,⟨fun b o e n nf nx=>k b o (nL b o e) (I.base.keep b o e n nf nx),fun b o e n hb nx=>?_,I.base.free,fun b o e nx=>?_,I.base.tups,I.base.frzs,I.base.tbls⟩,⟨_,hn,fun i x w e1 e2 e3=>?_⟩,fun x cc e=>?_,I.free,I.freeC,fun p hp=>?_,fun b u e=>?_,by simp[I.len]⟩
 ·obtain⟨sl,q⟩:=I.base.slot b o e n hb nx
  exact⟨sl,k b _ (nL b o e) q⟩
 ·obtain⟨o',q⟩:=I.base.there b o e nx
  exact⟨o',k b o' (nL b o e) q⟩
 ·rcases getE_set e2 with⟨rfl,z⟩|⟨ne,z⟩
  ·cases z
  ·obtain⟨u,r,l⟩:=hm i x w e1 z e3
   refine⟨u,r,?_⟩
   rcases l with⟨l1,l2⟩|⟨l1,cc,e,q⟩
   ·have xn:x≠n:=fun z=>ne (nodup_ix hN (z▸e1) hj)
    exact .inl ⟨l1,by show (if x=n then v else m x)=_;rw[if_neg xn];exact l2⟩
   ·exact .inr ⟨l1,cc,e,cellK x cc e _ q⟩
 ·obtain⟨v,z⟩:=I.cell x cc e
  exact⟨v,cellK x cc e v z⟩
 ·obtain⟨a,b,d,f⟩:=I.pin p hp
  exact⟨k _ _ d a,b,d,f⟩
 ·have nb:b≠X.env.locals:=fun z=>by subst z;rw[I.free] at e;cases e
  exact (I.hok b u e).stay (fun cc w hc q=>k cc w (by
   rcases hc with rfl|hc
   ·exact nb
   ·intro z;subst z;rw[I.free] at hc;cases hc) q) (fun _ q=>q) fun _ _ q=>q
theorem objok_there {P:Program}{w:World}{H:Hp}{h:Heap}{a:Addr}{o:HO}(x:ObjOk P w H h a o):∃ob,h.get? a=some ob:=by
 induction o with
 |lst xs=>obtain⟨_,_,n,_,e⟩:=x;exact⟨_,e⟩
 |tup xs=>obtain⟨_,_,_,ob,e,_⟩:=x;exact⟨_,e⟩
 |dK kvs=>obtain⟨_,_,_,_,ob,es,ep,e,_⟩:=x;exact⟨_,e⟩
 |dT kvs=>obtain⟨_,_,_,_,ob,es,ep,e,_⟩:=x;exact⟨_,e⟩
 |set S n=>obtain⟨ob,es,ep,t,e,_⟩:=x;exact⟨_,e⟩
 |ins C dx fs=>obtain⟨_,_,_,e,_⟩:=x;exact⟨_,e⟩
 |own y=>exact x
 |xd fs=>obtain⟨mA,⟨od,es,ep,e,c⟩,r⟩:=x;exact⟨_,e⟩
 |rng lo hi=>obtain⟨t,u,v,e⟩:=x;exact⟨_,e⟩
 |frz ob u ih=>exact ih x.2
 |tbl ps=>exact⟨_,x⟩
 |met f y=>exact⟨_,x⟩
 |ext φ=>exact x.2.1
end
structure FnCx (X:Cx):Prop where
 stk:X.stack=X.env::X.outer
 fr:X.env.frame=some X.env.locals
 ex:X.ex=[]
section
variable {M:Model}{A:Around}{E:Value→Shared→Prop}
variable {nm q nmT qT:Str}{C N T NT:Addr}{bs bm bsT bmT:List Value}{hdct hdctT:Bool}{sn snT:List Str}{sub subT:List Value}{ab abT:Bool}{col colT:Option Bool}{dd ddT:Option Addr}{k0 k1 k2 k3 k5 l0 l1 l2 l3 l5:Option Value}{newId newIdT:String}
theorem excMatches_own {h:Heap}{g:Array GenState}{d:Drawn}{t:Nat}{os:OsState}{e:Addr}{oe:Obj}{Q:Bool→Shared→Prop}
  (hC:h.get? C=some (excClassObj nm q C N bs bm hdct sn sub ab col dd k0 k1 k2 k3 k5 newId)) (hT:h.get? T=some (excClassObj nmT qT T NT bsT bmT hdctT snT subT abT colT ddT l0 l1 l2 l3 l5 newIdT)) (he:h.get? e=some oe) (hcls:oe.cls=.ref C) (hbase:bmT.contains (.type "BaseException")=true)
  (hq:Q ((Value.ref C::bm).contains (.ref T)) ⟨h,g,d,t,os⟩):wpAny M A (excMatches (.ref e) (.ref T)) Q E ⟨h,g,d,t,os⟩:=by
 have hcB:(Value.ref T::bmT).contains (.type "BaseException")=true:=by rw[List.contains_cons,hbase,Bool.or_true]
 have f:=tc_notTuple
 unfold excMatches
 repeat (first|(with_reducible refine wpAny_loadPart_at he ?_;rw[hcls])|with_reducible refine wpAny_loadPart_at hT ?_|with_reducible refine wpAny_loadPart_at hC ?_|(with_reducible refine wpAny_isSubtype_exc hT ?_;rw[hcB])|(with_reducible refine wpAny_isSubtype_exc hC ?_)|wp_step)
 cases hb:(Value.ref C::bm).contains (.ref T)<;>(rw[hb] at hq;wp_walk;exact hq)
end
noncomputable def Lnd (X:Cx)(pins:List (Addr×Obj))(σ:St)(H:Hp)(ea c:Addr)(s:Shared):Prop:=
 Inv X pins σ H s∧∃B a0,HOk X.prog X.w H B∧(∀b o,X.s₀.heap.get? b=some o→X.H₀ b=none→b∉X.fs→b∉X.ex→B.get? b=some o)∧(∀b o,X.s₀.heap.get? b=some o→b∉frs X.stack→b∉X.ex→∃o',B.get? b=some o')∧
  (∀p∈X.pn++pins,B.get? p.1=some p.2)∧Heap.FlyingW B X.stack ea (.ref c) a0 s.heap
section
variable {X:Cx}{pins pins':List (Addr×Obj)}{σ:St}{H:Hp}{s:Shared}{E E':Value→Shared→Prop}{ea c:Addr}
theorem lnd_of {B:Heap}{a0:Value}{h':Heap}(I:Inv X pins σ H s)(ok:HOk X.prog X.w H B)(kb:∀b o,X.s₀.heap.get? b=some o→X.H₀ b=none→b∉X.fs→b∉X.ex→B.get? b=some o)
  (th:∀b o,X.s₀.heap.get? b=some o→b∉frs X.stack→b∉X.ex→∃o',B.get? b=some o') (pn:∀p∈X.pn++pins,B.get? p.1=some p.2) (fl:Heap.FlyingW B X.stack ea (.ref c) a0 h') (up:s.heap.UpToSlots h'):Lnd X pins σ H ea c {s with heap:=h'}:=
 ⟨inv_untri (E:=fun _ _=>False) (inv_land (X:=tri X (fun _ _=>False) (X.pn++pins)) (inv_tri I) ok kb th pn fl.1 up),B,a0,ok,kb,th,pn,fl⟩
theorem lands (f:FnCx X)(I:Inv (tri X E' (X.pn++pins)) pins' σ H s)(fl:Fl (tri X E' (X.pn++pins)) ea c H s){Q:Shared→Prop}(k:∀h',Lnd X pins σ H ea c {s with heap:=h'}→Q {s with heap:=h'}):
  wpAny (model X.prog X.w) X.A (noteFrame (.ref ea) X.env) (fun _ s₂=>wpAny (model X.prog X.w) X.A (setFlight (.ref ea) none) (fun _ s₃=>Q s₃) E s₂) E s:=by
 obtain⟨B,ok,kb,th,pn,r⟩:=fl
 have hfr:X.A.frames=some (X.env::X.outer):=by rw[←f.stk];exact I.ok.frames
 have I0:=inv_untri I
 rcases r with⟨vs,m,ff⟩|⟨a0,fl⟩
 ·have hin:∀env∈X.stack,∀b,env.frame=some b→b∈frs X.stack:=fun env he b hb=>List.mem_filterMap.mpr ⟨env,he,hb⟩
  let B':=PySem.W.hideAll B (frs X.stack)
  have nfr:∀b,b∈frs X.stack→H b=none:=I0.stkFree
  have ok':HOk X.prog X.w H B':=fun b o e=>by
   have nf:∀cc u,H cc=some u→cc∉frs X.stack:=fun cc u e z=>by rw[nfr cc z] at e;cases e
   refine (ok b o e).stay (fun cc u hc q=>PySem.W.hideAll_get _ q ?_) (fun _ q=>q) fun _ _ q=>q
   rcases hc with rfl|hc
   ·exact nf _ _ e
   ·exact nf _ _ hc
  have nst:∀b o,X.s₀.heap.get? b=some o→b∉X.fs→b∉frs X.stack:=fun b o e nf z=>by
   rcases List.mem_cons.mp (I0.stkSub b z) with r|r
   ·subst r
    exact absurd (nl0 (hs0 e) I0.ok.above) (Nat.lt_irrefl _)
   ·exact nf r
  have kb':∀b o,X.s₀.heap.get? b=some o→X.H₀ b=none→b∉X.fs→b∉X.ex→B'.get? b=some o:=fun b o e n nf nx=>PySem.W.hideAll_get _ (kb b o e n nf nx) (nst b o e nf)
  have th':∀b o,X.s₀.heap.get? b=some o→b∉frs X.stack→b∉X.ex→∃o',B'.get? b=some o':=fun b o e nf nx=>let ⟨o',q⟩:=th b o e nf nx;⟨o',PySem.W.hideAll_get _ q nf⟩
  have pn':∀p∈X.pn++pins,B'.get? p.1=some p.2:=fun p hp=>PySem.W.hideAll_get _ (pn p hp) fun z=>by
   obtain⟨_,_,d,e,_⟩:=I0.pin p hp
   rcases List.mem_cons.mp (I0.stkSub p.1 z) with r|r
   ·exact d r
   ·exact e r
  obtain⟨t,he,htn,ht⟩:=m.there
  have ff':s.heap.FunFrames B' X.stack:=(PySem.W.funFrames_hide ff hin).of_keeps fun b o hb _=>⟨o,m.keeps b o hb,rfl⟩
  have hen:B'.get? ea=none:=by
   cases q:B'.get? ea with
   |none=>rfl
   |some o=>have:=PySem.W.of_hideAll _ q;rw[m.new] at this;cases this
  rw[f.stk] at ff'
  unfold noteFrame
  simp only[f.fr]
  refine wpAny_bind (wpAny_field he rfl (x:=.none) rfl ?_)
  rw[if_neg (by decide)]
  refine wpAny_entryW (a0:=.ref t) hfr ff' f.fr he (fun b o q=>m.keeps b o (PySem.W.of_hideAll _ q)) hen rfl (by show 1<6;decide) rfl fun h4 hN=>?_
  obtain⟨n1,n2,n3,n4⟩:=hN
  refine wpAny_landsW (base:=B') (l:=X.env::X.outer) (a0:=.ref t) (cls:=.ref c) (L:=X.env.locals) ⟨n1,hen,n2,n3⟩ fun h5 fl5 up5=>?_
  exact k h5 (lnd_of I0 ok' kb' th' pn' (by rw[f.stk];exact fl5) (Heap.UpToSlots.trans n4 up5))
 ·have fl:Heap.FlyingW B (X.env::X.outer) ea (.ref c) a0 s.heap:=by rw[←f.stk];exact fl
  refine wpAny_looks_onW hfr f.fr fl fun h4 held up4=>?_
  refine wpAny_landsW held fun h5 fl5 up5=>?_
  exact k h5 (lnd_of I0 ok kb th pn (by rw[f.stk];exact fl5) (up4.trans up5))
theorem lnd_again {M:Model}{A:Around}{Q:Shared→Prop}(L:Lnd X pins σ H ea c s)(k:∀h',Lnd X pins σ H ea c {s with heap:=h'}→Q {s with heap:=h'}):wpAny M A (setFlight (.ref ea) none) (fun _ s'=>Q s') E s:=by
 obtain⟨I,B,a0,ok,kb,th,pn,fl⟩:=L
 exact lands_againW fl fun h' fl' up=>k h' (lnd_of I ok kb th pn fl' up)
theorem lnd_track (f:FnCx X)(L:Lnd X pins σ H ea c s):Inv X pins σ (upd H ea (.ext (ExcAt ea c))) s∧H ea=none:=by
 obtain⟨I,B,a0,ok,kb,th,pn,fl⟩:=L
 obtain⟨oe,vs,ho,hcl,hd,_⟩:=fl.first
 have hn:H ea=none:=by
  cases q:H ea with
  |none=>rfl
  |some o=>obtain⟨ob,e⟩:=objok_there (ok ea o q);rw[fl.2.1] at e;cases e
 have nfr:ea∉frs X.stack:=fun z=>by
  obtain⟨_,o,h1,h2⟩:=fl.2.2.1.mem z
  rw[ho] at h1;cases h1
  exact h2 vs hd
 refine⟨inv_track I hn ho hcl ?_ (fun z=>?_) (fun x cc e z=>?_) fun p hp z=>?_,hn⟩
 ·cases q:X.s₀.heap.get? ea with
  |none=>rfl
  |some o=>obtain⟨o',e⟩:=th ea o q nfr (by rw[f.ex];exact fun z=>nomatch z);rw[fl.2.1] at e;cases e
 ·refine nfr ?_
  rw[z,f.stk]
  exact List.mem_filterMap.mpr ⟨X.env,ms0,f.fr⟩
 ·obtain⟨v,o,h1,h2⟩:=I.cell x cc e
  rw[z,ho] at h1;cases h1
  rw[hd] at h2;cases h2
 ·have:=pn p hp
  rw[z,fl.2.1] at this;cases this
end
theorem EnvD.unset {K:Fg}{G0 H0 G H:Hp}{σ:St}{ρ:List Sl}(E:EnvD K G0 H0 G H σ ρ)(j:Nat):EnvD K G0 H0 G H (σ.set j Option.none) (ρ.set j .no):=by
 have at':∀{i:Nat} {sl:Sl},(ρ.set j .no)[i]?=some sl→sl≠.no→i≠j∧ρ[i]?=some sl:=fun {i sl} h hn=>by
  rcases getE_set h with⟨rfl,z⟩|⟨ne,z⟩
  ·exact absurd z hn
  ·exact⟨ne,z⟩
 have sg:∀{i:Nat},i≠j→(σ.set j Option.none)[i]?=σ[i]?:=fun {i} ne=>gn0 (Ne.symm ne)
 refine⟨E.ext,by simp[E.len],fun i d h=>?_,fun i d h=>?_,fun i d h=>?_,fun i k d e p h1 h2 h3 h4=>?_,fun i rows h=>?_⟩
 ·obtain⟨ne,z⟩:=at' h (by intro q;cases q)
  rw[sg ne];exact E.dat i d z
 ·obtain⟨ne,z⟩:=at' h (by intro q;cases q)
  rw[sg ne];exact E.lent i d z
 ·obtain⟨ne,z⟩:=at' h (by intro q;cases q)
  rw[sg ne];exact E.own i d z
 ·obtain⟨n1,z1⟩:=at' h1 (by intro q;cases q)
  obtain⟨n2,z2⟩:=at' h2 (by intro q;cases q)
  rw[sg n1] at h3
  rw[sg n2] at h4
  exact E.apart i k d e p z1 z2 h3 h4
 ·obtain⟨ne,z⟩:=at' h (by intro q;cases q)
  obtain⟨a,b,cc⟩:=E.deep i rows z
  rw[sg ne]
  exact⟨a,fun k d q=>b k d (at' q (by intro q;cases q)).2,fun k r q=>cc k r (at' q (by intro q;cases q)).2⟩
theorem EnvM.unset {P:Program}{w:World}{K:Fg}{C:Addr}{G0 H0 G H:Hp}{d0 d:Vd}{σ:St}{ρ:List Sl}{U:List (List D)}(E:EnvM P w K C G0 H0 d0 G H d σ ρ U)(j:Nat):EnvM P w K C G0 H0 d0 G H d (σ.set j Option.none) (ρ.set j .no) U:=by
 obtain⟨Gb,Hb,s1,s2,en⟩:=E.bas
 exact⟨⟨Gb,Hb,s1,s2,en.unset j⟩,E.nw,E.pre,E.vs⟩
noncomputable abbrev mrk (X:Cx)(ea:Addr):Cx:={X with A:=X.A.mark (some (.ref ea)),calm:=false,xe:=fun _ _=>False}
theorem inv_mrk {X:Cx}{pins:List (Addr×Obj)}{σ:St}{H:Hp}{s:Shared}{ea:Addr}(I:Inv X pins σ H s):Inv (mrk X ea) pins σ H s:=
 ⟨⟨I.ok.mod,I.ok.kind,I.ok.glob,I.ok.blt,I.ok.above,I.ok.inj,I.ok.has,I.ok.cab,(fun z=>nomatch z),I.ok.frames,I.ok.stk,I.ok.exf,I.ok.bs,I.ok.bsz,I.ok.noex,I.ok.exfs,I.ok.funs,I.ok.frf⟩,I.os,I.bare,I.base,I.loc,I.cell,I.free,I.freeC,I.pin,I.hok,I.len⟩
theorem inv_unmrk {X:Cx}{pins:List (Addr×Obj)}{σ:St}{H:Hp}{s:Shared}{ea:Addr}(ok:X.Ok)(I:Inv (mrk X ea) pins σ H s):Inv X pins σ H s:=
 ⟨ok,I.os,I.bare,I.base,I.loc,I.cell,I.free,I.freeC,I.pin,I.hok,I.len⟩
noncomputable def belowK (K:Fg)(c t:Addr):Bool:=match K.lookup c with
 |some ⟨_,_,.cls cd,_⟩=>cd.mro.contains (.ref t)
 |_=>false
theorem exc_obj2 {K:Fg}{h:Heap}{c t:Addr}{bmB:List Value}{newId:String}{b:Bool}(X:K.In h)(q:PySem.W.excIn K c bmB newId=true)(hb:belowK K c t=b):
  ∃bm N nm qn bs hdct sn sub ab col dd k0 k1 k2 k3 k5,h.get? c=some (excClassObj nm qn c N bs bm hdct sn sub ab col dd k0 k1 k2 k3 k5 newId)∧(Value.ref c::bm).contains (.ref t)=b:=by
 unfold PySem.W.excIn at q
 split at q
 ·rename_i dd cd sl ho
  split at q
  ·rename_i C' bm k0 k1 k2 k3 n k5 hm hs
   simp only[be0,beq_iff_eq,Bool.not_eq_true'] at q
   obtain⟨⟨⟨⟨⟨rfl,rfl⟩,hdel⟩,ht⟩,hok⟩,hni⟩:=q
   obtain⟨nm,bs,mro,ns,qn,hd,sn,sub,ab,col,del⟩:=cd
   dsimp only at hm hdel hok hni
   subst hm hdel
   have hsl:sl=#[k0,k1,k2,k3,some (.builtin n),k5]:=by
    obtain⟨l⟩:=sl
    simp only at hs
    rw[hs]
   subst hsl
   refine⟨bm,ns,nm,qn,bs,hd,sn,sub,ab,col,dd,k0,k1,k2,k3,k5,X _ _ ho,?_⟩
   unfold belowK at hb
   rw[ho] at hb
   exact hb
  ·cases q
 ·cases q
section
variable {X:Cx}{C:Addr}{ρ ρ1:List Sl}{U U1:List (List D)}{body:List Stmt}{x n k:Str}{c t j i:Nat}{tp kp np ap hp pos:Pos}
theorem s1M_tryN {hs:ExceptHandler}{rs:List ExceptHandler}{o:OM}(hb:∀E pn,PassesOwn (model X.prog X.w) X.A X.env E→SsM (tri X E pn) C ρ U body o U1)(ho:∀c ρ',o≠.exc c ρ'):S1M X C ρ U (.Try body (hs::rs) [] [] pos) o U1:=by
 intro pins s σ H F I h0
 obtain⟨G0,H0,d0,G,d,E,R⟩:=h0
 refine wpAny_Try_except ?_
 refine wpAny_mono (hb _ (X.pn++pins) PassesOwn.looking [] s σ H F (inv_tri I) ⟨G0,H0,d0,G,d,E,?_⟩) (fun f s1 h1=>?_) fun e s1 h1=>h1
 ·cases o with
  |nx ρ'=>exact R
  |rt dd=>exact R
  |exc c ρ'=>exact absurd rfl (ho c ρ')
 ·have h2:=sp_untri h1
  cases f with
  |next=>exact wpAny_execs_nil h2
  |brk=>exact h2
  |cont=>exact h2
  |ret u=>exact h2
theorem s1M_tryX (f:FnCx X)(hb:∀E pn,PassesOwn (model X.prog X.w) X.A X.env E→SsM (tri X E pn) C ρ U body (.exc c ρ1) U1)
  (hg:Gl X x) (hd:(x==("__debug__":Str))=false) (hm:X.mg x=some (.ref t)) {newId newIdT:String} {bmB:List Value} (hq:PySem.W.excIn X.K c bmB newId=true) (hqT:PySem.W.excIn X.K t bmB newIdT=true) (hbB:bmB.contains (.type "BaseException")=true) (hbel:belowK X.K c t=true)
  (Sn:Sto X n j) (hln:X.env.kindOf n=some .local) (hdn:(n==("__debug__":Str))=false) (hcn:(n==("__classdict__":Str))=false) (Sk:Sto X k i) (hij:i≠j) (hsw:swapsWith (.Name n np) (some (.Name k kp)) ap.line X.env=pure false):
  S1M X C ρ U (.Try body [.ExceptHandler (some (.Name x tp)) (some n) [.Assign [.Name k kp] (.Name n np) ap] hp] [] [] pos) (.nx ((ρ1.set i (.dat (.exc c))).set j .no)) U1:=by
 intro pins s σ H F I h0
 obtain⟨G0,H0,d0,G,d,E,R⟩:=h0
 refine wpAny_Try_except ?_
 refine wpAny_mono (hb _ (X.pn++pins) PassesOwn.looking [] s σ H {F with nx:=fun _ _=>False,rt:=fun _ _=>False,bk:=fun _ _=>False,ct:=fun _ _=>False} (inv_tri I) ⟨G0,H0,d0,G,d,E,?_⟩) (fun f s1 h1=>?_) fun e s1 h1=>h1
 ·intro G1 H1 d1 σ1 E1 g1 pins' ea s1 I1 fl
  refine lands f I1 fl fun h5 L5=>?_
  refine wpAny_handleBy_cons (codeAny_handlers_test (ld_glob (X:=mrk X ea) (inv_mrk L5.1) hg hm ?_ hd)) (by intro q;cases q)
  have kin:X.K.In h5:=L5.1.kIn
  obtain⟨bm,N,nm,qn,bs,hdct,sn,sub,ab,col,dd,k0,k1,k2,k3,k5,hC,hcon⟩:=exc_obj2 kin hq hbel
  obtain⟨bmT,NT,nmT,qT,bsT,hdT,snT,subT,abT,colT,ddT,l0,l1,l2,l3,l5,mT,hT,_,_,TLT⟩:=exc_obj kin hqT
  have L5':=L5
  obtain⟨_,B,a0,_,_,_,_,fl5⟩:=L5'
  obtain⟨ob,hob,hobc⟩:=fl5.there
  refine excMatches_own (T:=t) hC hT hob hobc (TLT.hasType hbB) ?_
  rw[hcon]
  refine codeAny_handlers_suite_as ?_
  refine lnd_again L5 fun h6 L6=>?_
  obtain⟨I6,hn6⟩:=lnd_track f L6
  have e6:Ext G1 H1 (upd G1 ea (.ext (ExcAt ea c))) (upd H1 ea (.ext (ExcAt ea c))):=.laid E1.sub hn6
  have E6:=E1.go (E1.vs.mext E1.sub' e6) (E1.vs.step e6)
  have lj:j<σ1.length:=Sn.lt I6
  have li:i<σ1.length:=Sk.lt I6
  refine store_ok I6 Sn.nd Sn.nm.at' Sn.nm.loc (v:=.ref ea) rfl (fun s7 I7=>?_) Sn.nm.fn
  have I7':Inv (mrk X ea) pins (σ1.set j (some (.ref ea))) (upd H1 ea (.ext (ExcAt ea c))) s7:=inv_mrk I7
  have asg:=ps_set (X:=mrk X ea) (i:=i) (x:=k) (pos:=ap) (pos':=kp) Sk.nd Sk.nm.at' Sk.nm.loc (pe_var (X:=mrk X ea) (i:=j) (x:=n) (pos:=np) Sn.nm.at' (Or.inl hln) hdn hcn) hsw Sk.nm.fn pins s7 _ _ {nx:=fun σ8 H8=>σ8=(σ1.set j (some (.ref ea))).set i (some (.ref ea))∧H8=upd H1 ea (.ext (ExcAt ea c)),rt:=fun _ _=>False} I7' ⟨.ref ea,List.getElem?_set_self lj,rfl,rfl⟩
  refine wpAny_execs_cons (wpAny_mono asg (fun f s8 h8=>?_) fun e s8 h8=>h8.elim)
  cases f with
  |next=>
   obtain⟨σ8,H8,I8,rfl,rfl⟩:=h8
   refine wpAny_execs_nil ?_
   have I8:=inv_unmrk I.ok I8
   obtain⟨m,hn,hl⟩:=I8.loc
   refine wpAny_nameGoes_keeps hln hn (by rw[I.ok.kind];rfl) fun h9 v hn9 sb9=>?_
   have I9:=inv_gone (t':=s8.toks+1) I8 Sn.nd Sn.nm.at' hl hn9 sb9
   refine⟨_,_,I9,R _ _ d1 _ ?_ (g1.trans e6.gg)⟩
   have E9:=(E6.set li (.exc upd_same:Dp X.K _ (.exc c) (.ref ea))).unset j
   have e:((σ1.set j (some (.ref ea))).set i (some (.ref ea))).set j Option.none=(σ1.set i (some (.ref ea))).set j Option.none:=by
    rw[List.set_comm _ _ hij.symm,List.set_set]
   rw[e]
   exact E9
  |brk=>obtain⟨_,_,_,z⟩:=h8;exact z.elim
  |cont=>obtain⟨_,_,_,z⟩:=h8;exact z.elim
  |ret u=>obtain⟨_,_,_,_,_,z⟩:=h8;exact z.elim
 ·cases f with
  |next=>obtain⟨_,_,_,z⟩:=h1;exact z.elim
  |brk=>obtain⟨_,_,_,z⟩:=h1;exact z.elim
  |cont=>obtain⟨_,_,_,z⟩:=h1;exact z.elim
  |ret u=>obtain⟨_,_,_,_,_,z⟩:=h1;exact z.elim
end
theorem er_upd {H:Hp}{ps:List Addr}{q:Addr}{o:HO}(h:q∉ps):er (upd H q o) ps=upd (er H ps) q o:=by
 funext b
 by_cases e:b=q
 ·subst e;rw[upd_same,er_out h,upd_same]
 ·rw[upd_ne e]
  by_cases z:b∈ps
  ·rw[er_in z,er_in z]
  ·rw[er_out z,er_out z,upd_ne e]
section
variable {P:Program}{w:World}{K:Fg}{C:Addr}{G0 H0 G H G' H':Hp}{d0 d:Vd}{σ:St}{ρ:List Sl}{U:List (List D)}
theorem VS.touch (v:VS P w K C G H d U){q:Addr}{o:HO}(hq:q∉parts d)(no:∀a,H q≠some (.own a))(ni:notIns o=true):VS P w K C G (upd H q o) d U:=
 ⟨v.len,v.nd,fun h a l n e=>by
  obtain⟨dx,objs,h1,h2,h3,as,h4,h5,h6,h7⟩:=v.at' h a l n e
  have m:=mem_parts e
  refine⟨dx,objs,h1,h2,?_,as,?_,h5,?_,h7⟩
  ·rw[upd_ne fun z=>no a (by rw[←z];exact h3)];exact h3
  ·rw[upd_ne fun z=>hq (by rw[←z];exact m.1)];exact h4
  ·rw[upd_ne fun z=>hq (by rw[←z];exact m.2)];exact h6,
  fun a C' dx fs e=>v.uni a C' dx fs (notIns_upd ni a C' dx fs e),v.out⟩
theorem EnvM.own (E:EnvM P w K C G0 H0 d0 G H d σ ρ U){i:Nat}{ds:List D}(h:ρ[i]?=some (.own (.list ds))):∃q vs,σ[i]?=some (some (.ref q))∧H q=some (.lst vs)∧Dps K G ds vs∧q∉parts d:=by
 obtain⟨Gb,Hb,_,_,e⟩:=E.bas
 obtain⟨q,vs,a,b,c⟩:=own_list e h
 exact⟨q,vs,a,(er_some b).2,c,(er_some b).1⟩
theorem EnvM.change (E:EnvM P w K C G0 H0 d0 G H d σ ρ U){i:Nat}{ds es:List D}{q:Addr}{vs ws:List V}(h:ρ[i]?=some (.own (.list ds)))(a:σ[i]?=some (some (.ref q)))(b:H q=some (.lst vs))(hp:q∉parts d)(r:Dps K G es ws):
  EnvM P w K C G0 H0 d0 G (upd H q (.lst ws)) d σ (ρ.set i (.own (.list es))) U:=by
 obtain⟨Gb,Hb,s1,s2,e⟩:=E.bas
 refine⟨⟨Gb,Hb,s1,s2,?_⟩,E.nw,E.pre,E.vs.touch hp (fun a z=>by rw[b] at z;cases z) rfl⟩
 rw[er_upd hp]
 exact e.change h a (.inl ⟨_,_,rfl,upd_same,r⟩)
end
section
variable {X:Cx}{C:Addr}{ρ ρ1:List Sl}{U U1 U2 U':List (List D)}{st:Stmt}{rest body:List Stmt}{o:OM}{a b e tg iter:Expr}{es:List Expr}{p p1 pos apos cpos:Pos}{d:D}{ds:List D}{x y:Str}{i j c k:Nat}{t:Bool}{r:R}{rs:Rs}
theorem evM_andT (ha:EvM X C ρ U a (.ok (.bool true)) U1)(hb:EvM X C ρ U1 b r U2):EvM X C ρ U (.BoolOp .And [a,b] pos) r U2:=fun pins s σ H Q I ⟨G0,H0,d0,G,dd,E,k⟩=>
 pe_and ha (pe_one hb) pins s σ H Q I ⟨G0,H0,d0,G,dd,E,fun v G1 H1 d1 m1 v1 r1=>by
  cases r1
  exact⟨true,rfl,iteT ⟨G0,H0,d0,G1,d1,E.go m1 v1,k.go m1⟩⟩⟩
theorem evM_andF (ha:EvM X C ρ U a (.ok (.bool false)) U1):EvM X C ρ U (.BoolOp .And [a,b] pos) (.ok (.bool false)) U1:=fun pins s σ H Q I ⟨G0,H0,d0,G,dd,E,k⟩=>
 pe_and (tb:=fun _ _ _=>False) ha (fun _ _ _ _ _ _ z=>z.elim) pins s σ H Q I ⟨G0,H0,d0,G,dd,E,fun v G1 H1 d1 m1 v1 r1=>by
  cases r1
  exact⟨false,rfl,iteF (k _ G1 H1 d1 m1 v1 (.bool _))⟩⟩
theorem evM_andX (ha:EvM X C ρ U a (.exc c) U1):EvM X C ρ U (.BoolOp .And [a,b] pos) (.exc c) U1:=fun pins s σ H Q I ⟨G0,H0,d0,G,dd,E,k⟩=>
 pe_and (tb:=fun _ _ _=>False) ha (fun _ _ _ _ _ _ z=>z.elim) pins s σ H Q I ⟨G0,H0,d0,G,dd,E,k⟩
theorem evM_tup {x1}(h:EaM X C ρ U [] es (.ok ds) U1)(hz:ds.length≤1000):EvM X C ρ U (.Tuple es x1 pos) (.ok (.tuple ds)) U1:=fun pins s σ H Q I ⟨G0,H0,d0,G,dd,E,k⟩=>
 pe_tup h pins s σ H Q I ⟨G0,H0,d0,G,dd,E,fun vs G1 H1 d1 m1 v1 r=>⟨by rw[←r.length];exact Nat.le_of_lt (small1000 hz),fun q hq=>by
  have e:Ext G1 H1 (upd G1 q (.tup vs)) (upd H1 q (.tup vs)):=.laid (m1.gh.trans er_same) hq
  exact k _ _ _ d1 (m1.trans (v1.mext m1.gh e)) (v1.step e) (.tuple upd_same (r.dps.mono e.gg))⟩⟩
theorem evM_list (B:Blt X "list")(h:EvM X C ρ U e (.ok d) U1)(hd:d=.list ds∨d=.tuple ds)(hs:isStar e=false):EvM X C ρ U (.Call (.Name "list" p) [e] [] pos) (.ok (.list ds)) U1:=by
 intro pins s σ H Q I h0
 obtain⟨G0,H0,d0,G,dd,E,k⟩:=h0
 refine pe_callTy call_list_of B.g B.m PyProof.Rows.boot_list (pa_cons h pa_nil (starEach_cons hs)) B.n B.d (starEach_cons hs) rfl pins s σ H Q I ⟨G0,H0,d0,G,dd,E,fun v G1 H1 d1 m1 v1 r1=>?_⟩
 have fin:∀{ws:List V},Dps X.K G1 ds ws→∀l,H1 l=none→Q (.ref l) (upd H1 l (.lst ws)):=fun {ws} r l hl=>by
  have e:Ext G1 H1 (upd G1 l (.lst ws)) (upd H1 l (.lst ws)):=.laid (m1.gh.trans er_same) hl
  exact k _ _ _ d1 (m1.trans (v1.mext m1.gh e)) (v1.step e) (.list upd_same (r.mono e.gg))
 rcases hd with rfl|rfl
 ·cases r1 with
  |list hq r=>exact⟨_,_,rfl,.inl (SqL.of ((m1.gh.trans er_same) _ _ hq)),fin r⟩
 ·cases r1 with
  |tuple hq r=>exact⟨_,_,rfl,.inr (SqT.of ((m1.gh.trans er_same) _ _ hq)),fin r⟩
theorem evM_listX (B:Blt X "list")(h:EvM X C ρ U e (.exc c) U1)(hs:isStar e=false):EvM X C ρ U (.Call (.Name "list" p) [e] [] pos) (.exc c) U1:=by
 intro pins s σ H Q I h0
 obtain⟨G0,H0,d0,G,dd,E,k⟩:=h0
 exact pe_callTy call_list_of B.g B.m PyProof.Rows.boot_list (pa_cons h pa_nil (starEach_cons hs)) B.n B.d (starEach_cons hs) rfl pins s σ H Q I ⟨G0,H0,d0,G,dd,E,k⟩
theorem siM_list (h:EvM X C ρ U iter (.ok (.list ds)) U1):SiM X C ρ U iter ds U1:=by
 intro tg pins s σ H R I h0
 obtain⟨G0,H0,d0,G,dd,E,k⟩:=h0
 refine pi_list h pins s σ H R I ⟨G0,H0,d0,G,dd,E,fun v G1 H1 d1 m1 v1 r1=>?_⟩
 cases r1 with
 |list hq r=>exact⟨_,rfl,⟨_,SqL.of ((m1.gh.trans er_same) _ _ hq)⟩,k _ G1 H1 d1 m1 v1 ⟨fun _=>none,src_list (fun H' g _=>SqL.of (g _ _ hq)) r,fun _ _ _ _ _ _ _ _ b o z=>by cases z⟩⟩
theorem s1M_forX (h:EvM X C ρ U iter (.exc c) U1)(hc:X.calm=true)(hp:PassesOwn (model X.prog X.w) X.A X.env X.xe)(hf:∀x,foldedSetIterable iter X.env x=pure x):S1M X C ρ U (.For tg iter body [] pos) (.exc c ρ) U1:=by
 intro pins s σ H F I h0
 obtain⟨G0,H0,d0,G,dd,E,R⟩:=h0
 refine ps_for hp hc (pi_list h) (pg_X (tg:=tg)) (pss_X (body:=body)) hf pins s σ H F I ?_
 exact⟨G0,H0,d0,G,dd,E,acc_of (Q:=fun _ _=>True) E R⟩
theorem s1M_ext (V:VarOk X x i)(h:EvM X C ρ U e (.ok (.list ds)) U1)(hs:isStar e=false){es:List D}(ho:ρ[i]?=some (.own (.list es)))(hz:es.length+ds.length≤sizeLine)(hline:(apos.endLine==cpos.line)=true):
  S1M X C ρ U (.Expr (.Call (.Attribute (.Name x p1) "extend" apos) [e] [] cpos) pos) (.nx (ρ.set i (.own (.list (es++ds))))) U1:=by
 have hS:=starEach_cons (es:=[]) (env:=X.env) hs
 intro pins s σ H F I h0
 obtain⟨G0,H0,d0,G,dd,E,R⟩:=h0
 obtain⟨q,vs,a,b,g,np⟩:=E.own ho
 refine ps_expr (pe_bm PySem.F.plainAttrs_list PySem.F.slot_list_extend PySem.F.type_list_extend mt_extend V.pe (pa_cons h pa_nil hS) base_name (by rw[hS];rfl) hline hS rfl) rfl pins s σ H F I ?_
 refine⟨.ref q,a,.inl ⟨rfl,vs,SqL.of b⟩,G0,H0,d0,G,dd,E,fun v G1 H1 d1 m1 v1 r1=>?_⟩
 have E1:=E.go m1 v1
 obtain⟨q',vs',a',b',g',np'⟩:=E1.own ho
 rw[a] at a'
 cases a'
 cases r1 with
 |@list q2 ws _ hq r=>
  exact⟨q,q2,vs',ws,rfl,rfl,b',(m1.gh.trans er_same) _ _ hq,by rw[←g'.length,←r.length];exact hz,R G1 _ _ _ (E1.change ho a b' np' (g'.append r)) m1.gg⟩
noncomputable def lentOk:Sl→Bool
 |.lent (.scr _)=>true
 |.lent _=>false
 |_=>true
noncomputable def isOwnO:Option HO→Bool
 |some (.own _)=>true
 |_=>false
theorem s1M_pureS (h:E1 X ρ st (.nx ρ1))(hl:∀sl∈ρ1,lentOk sl=true):S1M X C ρ U st (.nx ρ1) U:=by
 intro pins s σ H F I h0
 obtain⟨G0,H0,d0,G,dd,E,R⟩:=h0
 obtain⟨Gb,Hb,s1,s2,e⟩:=E.bas
 let sp:Addr→Prop:=fun b=>b∈parts dd∨isOwnO (H b)=true
 have spH:∀b,sp b→∃o,H b=some o:=fun b z=>by
  rcases z with z|z
  ·exact E.vs.part z
  ·cases q:H b with
   |none=>rw[q] at z;cases z
   |some o=>exact⟨o,rfl⟩
 have spG:∀b,sp b→∀C' dx fs,H b≠some (.ins C' dx fs):=fun b z C' dx fs q=>by
  rcases z with z|z
  ·exact E.vs.notPart q z
  ·rw[q] at z;cases z
 open Classical in
 let Hp':Hp:=fun b=>if sp b then H b else Hb b
 open Classical in
 let Gp':Hp:=fun b=>if sp b then G b else Gb b
 have hI:∀b,sp b→Hp' b=H b:=fun b z=>if_pos z
 have hO:∀b,¬ sp b→Hp' b=Hb b:=fun b z=>if_neg z
 have gI:∀b,sp b→Gp' b=G b:=fun b z=>if_pos z
 have gO:∀b,¬ sp b→Gp' b=Gb b:=fun b z=>if_neg z
 have sub:Same G H:=E.sub
 have hbH:Same Hb H:=fun b o z=>er_same b o (e.ext.hh b o z)
 have hbHp:Same Hb Hp':=fun b o z=>by
  by_cases q:sp b
  ·rw[hI b q];exact hbH b o z
  ·rw[hO b q];exact z
 have gbGp:Same Gb Gp':=fun b o z=>by
  by_cases q:sp b
  ·rw[gI b q];exact e.ext.gg b o z
  ·rw[gO b q];exact z
 have E0:EnvD X.K Gp' Hp' G H σ ρ:=by
  refine⟨⟨fun b o z=>?_,fun b o z=>?_,sub,fun b o z1 z2=>?_,fun b C' dx fs z=>?_⟩,e.len,e.dat,fun i d z=>?_,fun i d z=>?_,e.apart,fun i rows z=>?_⟩
  ·by_cases q:sp b
   ·rw[hI b q] at z;exact z
   ·rw[hO b q] at z;exact hbH b o z
  ·by_cases q:sp b
   ·rw[gI b q] at z;exact z
   ·rw[gO b q] at z;exact e.ext.gg b o z
  ·by_cases q:sp b
   ·rw[gI b q] at z1;exact z1
   ·rw[gO b q] at z1;rw[hO b q] at z2;exact e.ext.nw b o z1 z2
  ·have q:¬ sp b:=fun q=>spG b q C' dx fs z
   rw[hO b q]
   exact e.ext.ni b C' dx fs (by rw[er_out fun m=>q (.inl m)];exact z)
  ·obtain⟨v,a1,a2⟩:=e.lent i d z
   exact⟨v,a1,(a2.monoH hbHp).monoG gbGp⟩
  ·obtain⟨q,a1,a2,a3,a4⟩:=e.own i d z
   obtain⟨oo,ho⟩:=a4.some
   have nq:¬ sp q:=fun z=>by
    rcases z with z|z
    ·exact (er_some ho).1 z
    ·rcases a4 with⟨_,_,_,y,_⟩|⟨_,_,_,y,_⟩<;>(rw[(er_some y).2] at z;cases z)
   refine⟨q,a1,a2,by rw[hO q nq];exact a3,?_⟩
   rcases a4 with⟨ds,vs,y1,y2,y3⟩|⟨ds,vs,y1,y2,y3⟩
   ·exact .inl ⟨ds,vs,y1,er_same _ _ y2,y3⟩
   ·exact .inr ⟨ds,vs,y1,er_same _ _ y2,y3⟩
  ·obtain⟨⟨q,a1,qs,b1,b2,b3,b4,b5,b6⟩,c1⟩:=e.deep i rows z
   have nq:∀{q:Addr} {vs:List V},er H (parts dd) q=some (.lst vs)→¬ sp q:=fun {q vs} y z=>by
    rcases z with z|z
    ·exact (er_some y).1 z
    ·rw[(er_some y).2] at z;cases z
   refine⟨⟨q,a1,qs,er_same _ _ b1,b2,by rw[hO q (nq b1)];exact b3,b4,b5,fun k row q' z1 z2=>?_⟩,c1⟩
   obtain⟨y1,y2,vs,y3,y4⟩:=b6 k row q' z1 z2
   exact⟨y1,by rw[hO q' (nq y3)];exact y2,vs,er_same _ _ y3,y4⟩
 refine h pins s σ H F I ⟨Gp',Hp',G,E0,fun G' H' σ' e' g=>R G' H' dd σ' ?_ g⟩
 have ns:∀b,sp b→H' b=H b:=fun b z=>by
  obtain⟨o,ho⟩:=spH b z
  rw[ho];exact e'.ext.hh b o (by rw[hI b z];exact ho)
 have pG:∀b∈parts dd,G' b=none:=fun b hb=>by
  obtain⟨o,ho⟩:=E.vs.part hb
  exact e'.ext.nw b o (by rw[gI b (.inl hb)];exact E.vs.out b hb) (by rw[hI b (.inl hb)];exact ho)
 have lst_nsp:∀{q:Addr} {o:HO},H' q=some o→Hp' q=none→¬ sp q:=fun {q o} y z m=>by
  obtain⟨o',ho⟩:=spH q m
  rw[hI q m,ho] at z;cases z
 refine⟨⟨Gb,Hb,s1,s2,⟨⟨fun b o z=>?_,gbGp.trans e'.ext.gg,fun b o z=>?_,fun b o z1 z2=>?_,fun b C' dx fs z=>?_⟩,e'.len,e'.dat,fun i d z=>?_,fun i d z=>?_,e'.apart,fun i rows z=>?_⟩⟩,fun b o z1 z2=>?_,E.pre,?_⟩
 ·have np:b∉parts dd:=(er_some (e.ext.hh b o z)).1
  rw[er_out np];exact e'.ext.hh b o (hbHp b o z)
 ·have np:b∉parts dd:=fun m=>by rw[pG b m] at z;cases z
  rw[er_out np];exact e'.ext.gh b o z
 ·by_cases q:sp b
  ·exact e'.ext.nw b o (by rw[gI b q];exact e.ext.nw b o z1 z2) (hbHp b o z2)
  ·exact e'.ext.nw b o (by rw[gO b q];exact z1) (hbHp b o z2)
 ·obtain⟨n1,n2⟩:=er_some z
  have:=e'.ext.ni b C' dx fs n2
  have q:¬ sp b:=fun q=>by rw[hI b q] at this;exact spG b q C' dx fs this
  rw[hO b q] at this;exact this
 ·obtain⟨v,a1,a2⟩:=e'.lent i d z
  have lo:=hl _ (List.mem_of_getElem? z)
  have gB:∀{q:Addr} {o:HO},Gp' q=some o→isOwnO (some o)=false→Gb q=some o:=fun {q o} y z=>by
   have nq:¬ sp q:=fun m=>by
    rw[gI q m] at y
    rcases m with m|m
    ·rw[E.vs.out q m] at y;cases y
    ·rw[sub q o y,z] at m;cases m
   rw[gO q nq] at y;exact y
  refine⟨v,a1,?_⟩
  cases d with
  |scr ns=>
   cases a2 with
   |of y=>
    cases y with
    |scr y=>
     refine .of (.scr ?_)
     rcases y with y|y
     ·left
      rcases y with y|⟨o,y⟩
      ·exact .inl (gB y rfl)
      ·exact .inr ⟨o,gB y rfl⟩
     ·exact .inr y
  |_=>cases lo
 ·obtain⟨q,a1,a2,a3,a4⟩:=e'.own i d z
  obtain⟨oo,ho⟩:=a4.some
  have nq:=lst_nsp ho a3
  refine⟨q,a1,a2,by rw[hO q nq] at a3;exact a3,?_⟩
  rcases a4 with⟨ds,vs,y1,y2,y3⟩|⟨ds,vs,y1,y2,y3⟩
  ·exact .inl ⟨ds,vs,y1,by rw[er_out fun m=>nq (.inl m)];exact y2,y3⟩
  ·exact .inr ⟨ds,vs,y1,by rw[er_out fun m=>nq (.inl m)];exact y2,y3⟩
 ·obtain⟨⟨q,a1,qs,b1,b2,b3,b4,b5,b6⟩,c1⟩:=e'.deep i rows z
  have nq:=lst_nsp b1 b3
  refine⟨⟨q,a1,qs,by rw[er_out fun m=>nq (.inl m)];exact b1,b2,by rw[hO q nq] at b3;exact b3,b4,b5,fun k row q' z1 z2=>?_⟩,c1⟩
  obtain⟨y1,y2,vs,y3,y4⟩:=b6 k row q' z1 z2
  have nq':=lst_nsp y3 y2
  exact⟨y1,by rw[hO q' nq'] at y2;exact y2,vs,by rw[er_out fun m=>nq' (.inl m)];exact y3,y4⟩
 ·have gn:=E.nw b o z1 z2
  obtain⟨o',ho⟩:=E.start.st b o z2
  by_cases q:sp b
  ·exact e'.ext.nw b o' (by rw[gI b q];exact gn) (by rw[hI b q];exact ho)
  ·have np:b∉parts d0:=fun m=>q (.inl (parts_pre E.pre m))
   have hb:Hb b=some o:=s2.1 b o (by rw[er_out np];exact z2)
   refine e'.ext.nw b o ?_ (by rw[hO b q];exact hb)
   rw[gO b q]
   cases y:Gb b with
   |none=>rfl
   |some o''=>have:=e.ext.gg b o'' y;rw[gn] at this;cases this
 ·refine⟨E.vs.len,E.vs.nd,fun h a l n q=>?_,fun a C' dx fs z=>?_,pG⟩
  ·obtain⟨dx,objs,h1,h2,h3,as,h4,h5,h6,h7⟩:=E.vs.at' h a l n q
   have m:=mem_parts q
   exact⟨dx,objs,h1,g _ _ h2,by rw[ns dx (.inr (by rw[h3];rfl))];exact h3,as,by rw[ns l (.inl m.1)];exact h4,h5.mono g,by rw[ns n (.inl m.2)];exact h6,h7⟩
  ·have:=e'.ext.ni a C' dx fs z
   have q:¬ sp a:=fun q=>by rw[hI a q] at this;exact spG a q C' dx fs this
   rw[hO a q] at this
   exact E.vs.uni a C' dx fs (hbH _ _ this)
end
section
variable {P:Program}{w:World}{K:Fg}{C:Addr}{G0 H0 G H G1 H1:Hp}{d0 d d1:Vd}{σ:St}{ρ:List Sl}{U:List (List D)}{q:Addr}
theorem EnvM.blk (E:EnvM P w K C G0 H0 d0 G H d σ ρ U){tn:List Str}{js:List Nat}:EnvM P w K C G H d G H d (blkS tn js σ) (SI.blk tn.length js ρ) U:=by
 obtain⟨Gb,Hb,s1,s2,e⟩:=E.bas
 exact⟨⟨G,er H (parts d),Same.refl _,⟨Same.refl _,fun _ _ h _=>h⟩,e.blk⟩,fun _ _ h _=>h,List.prefix_refl _,E.vs⟩
theorem EnvM.touch {o:HO}(E:EnvM P w K C G0 H0 d0 G H d σ ρ U)(hn:NoOwn ρ)(hg:G q=none)(h0:H0 q=none)(hH:H q=none∨∃ys,H q=some (.lst ys))(hp:q∉parts d)(ho:notIns o=true):EnvM P w K C G0 H0 d0 G (upd H q o) d σ ρ U:=by
 obtain⟨Gb,Hb,s1,s2,e⟩:=E.bas
 have hb:Hb q=none:=by
  cases z:Hb q with
  |none=>rfl
  |some o'=>
   cases y:notIns o' with
   |true=>have:=(er_some (s2.2 q o' z y)).2;rw[h0] at this;cases this
   |false=>
    have:=(er_some (e.ext.hh q o' z)).2
    rcases hH with x|⟨ys,x⟩<;>rw[x] at this
    ·cases this
    ·cases this;cases y
 refine⟨⟨Gb,Hb,s1,s2,?_⟩,E.nw,E.pre,E.vs.touch hp (fun a z=>?_) ho⟩
 ·rw[er_upd hp];exact e.touch hn hg hb ho
 ·rcases hH with x|⟨ys,x⟩<;>(rw[x] at z;cases z)
theorem EnvM.forget {ρ':List Sl}(E:EnvM P w K C G0 H0 d0 G H d σ ρ U)(hl:ρ'.length=ρ.length)(h:∀(i:Nat) sl,ρ'[i]?=some sl→sl=.no∨ρ[i]?=some sl):EnvM P w K C G0 H0 d0 G H d σ ρ' U:=by
 obtain⟨Gb,Hb,s1,s2,e⟩:=E.bas
 exact⟨⟨Gb,Hb,s1,s2,e.forget hl h⟩,E.nw,E.pre,E.vs⟩
theorem MExt.show {ys:List V}(m:MExt G H d G1 H1 d1)(hq:H q=none)(hg:G1 q=none)(h1:H1 q=some (.lst ys))(hp:q∉parts d1):MExt G H d (upd G1 q (.lst ys)) H1 d1:=
 ⟨m.gg.trans (same_upd hg),m.hh,fun b o e=>by
  by_cases z:b=q
  ·subst z;rw[upd_same] at e;cases e;rw[er_out hp];exact h1
  ·rw[upd_ne z] at e;exact m.gh b o e,fun b o e1 e2=>by
  have z:b≠q:=fun z=>by rw[z,hq] at e2;cases e2
  rw[upd_ne z];exact m.nw b o e1 e2,m.pre,m.st⟩
theorem VS.show {ys:List V}(v:VS P w K C G H d U)(hg:G q=none)(hp:q∉parts d):VS P w K C (upd G q (.lst ys)) H d U:=
 ⟨v.len,v.nd,fun h a l n e=>by
  obtain⟨dx,objs,h1,h2,h3,as,h4,h5,h6,h7⟩:=v.at' h a l n e
  exact⟨dx,objs,h1,same_upd hg _ _ h2,h3,as,h4,h5.mono (same_upd hg),h6,h7⟩,v.uni,fun b hb=>by
  have nb:b≠q:=fun z=>hp (by rw[←z];exact hb)
  rw[upd_ne nb];exact v.out b hb⟩
end
noncomputable def compM (f:D→List (List D)→Option (D×List (List D))):List D→List (List D)→Option (List D×List (List D))
 |[],U=>some ([],U)
 |d::r,U=>(f d U).bind fun z=>(compM f r z.2).map fun q=>(z.1::q.1,q.2)
section
variable {X:Cx}{C:Addr}{ρ:List Sl}{U U1 U2:List (List D)}{elt iter tg:Expr}{pos:Pos}{ds out:List D}{scope:Scope}{tn:List Str}{js:List Nat}{t:Tg}
theorem evM_comp {f:List Sl→List (List D)→Option (D×List (List D))}(B:BlkOk X scope js)(hcalm:X.calm=true)(hi:EvM X C ρ U iter (.ok (.list ds)) U1)
  (ht:∀(A:Addr) (s:Shared) (H:Hp) (fp:List Addr),TgM (L2.C.blk X scope (blkN X tn js) A s H fp) tg t) (hlt:tgLt t tn.length=true)
  (he:∀(A:Addr) (s:Shared) (H:Hp) (fp:List Addr) ρ' U' e U3,f ρ' U'=some (e,U3)→EvM (L2.C.blk X scope (blkN X tn js) A s H fp) C ρ' U' elt (.ok e) U3) (hz:ds.length<sizeLine)
  (hrun:compM (fun d U'=>(bindTg t d (SI.blk tn.length js ρ)).bind fun ρ'=>f ρ' U') ds U1=some (out,U2)) (hs:∀x,foldedSetIterable iter X.env x=pure x):EvM X C ρ U (.ListComp elt [⟨tg,iter,[],0⟩] scope pos) (.ok (.list out)) U2:=by
 intro pins s σ H Q I h0
 obtain⟨G0,H0,d0,G,dd,E,k⟩:=h0
 refine pe_comp (tn:=tn) (js:=js) (g:=tgC X scope (blkN X tn js) tg) (tc:=tcC X scope (blkN X tn js) []) (te:=teC X scope (blkN X tn js) elt) B hcalm (pi_list hi)
  (fun C s H fp pins s' σ' H' v u Q' I' r h=>h C s H fp pins s' u I' r) (fun C s H fp pins s' σ' H' Q' I' h=>h C s H fp pins s' I') (fun C s H fp pins s' σ' H' Q' I' h=>h C s H fp pins s' I') hs pins s σ H Q I ?_
 refine⟨G0,H0,d0,G,dd,E,fun v G1 H1 d1 m1 v1 r1=>?_⟩
 cases r1 with
 |@list src vs _ hq r=>
 refine⟨src,rfl,⟨_,SqL.of ((m1.gh.trans er_same) _ _ hq)⟩,fun q hq0=>?_⟩
 have E1:=E.go m1 v1
 have noB:NoOwn (SI.blk tn.length js ρ):=blk_noOwn
 have gq0:G1 q=none:=(m1.gh.trans er_same).free hq0
 have np0:q∉parts d1:=fun m=>by obtain⟨o,ho⟩:=v1.part m;rw[hq0] at ho;cases ho
 have src_ok:SrcOk X.K G1 (fun _=>none) (Itl X.K src) ds:=src_list (fun H' g _=>SqL.of (g _ _ hq)) r
 have nn:∀{H':Hp},Same (fun _=>(none:Option HO)) H':=fun {H'} b o z=>by cases z
 refine⟨fun i m σ' H'=>m=ds.length-i∧i≤ds.length∧∃G' d' U' ys outs rest,EnvM X.prog X.w X.K C G1 H1 d1 G' H' d' σ' (SI.blk tn.length js ρ) U'∧H' q=some (.lst ys)∧G' q=none∧q∉parts d'∧Dps X.K G' outs ys∧outs.length=i∧
   compM (fun d U'=>(bindTg t d (SI.blk tn.length js ρ)).bind fun ρ'=>f ρ' U') (ds.drop i) U'=some (rest,U2)∧outs++rest=out,
  ⟨ds.length,by simp,Nat.zero_le _,G1,d1,U1,[],[],out,E1.blk.touch noB gq0 hq0 (.inl hq0) np0 rfl,upd_same,gq0,np0,.nil,rfl,hrun,rfl⟩,?_⟩
 rintro i m σ' H' ⟨rfl,hil,G',d',U',ys,outs,rest,E',hq',hg',np',r',ol,hc',oe⟩
 have gg:Same G1 G':=E'.gg
 have sm:Same G1 H':=gg.trans E'.sub
 by_cases hlt':i<ds.length
 ·refine .inr ⟨src_ok.go i H' hlt' sm nn,fun v H2 y=>?_⟩
  have hb:ds[i]?=some ds[i]:=ge0 hlt'
  rw[List.drop_eq_getElem_cons hlt'] at hc'
  generalize ds[i]=dd' at hb hc'
  obtain⟨z,hz1,hz2⟩:=bx0 (show ((bindTg t dd' (SI.blk tn.length js ρ)).bind fun ρ'=>f ρ' U').bind _=some (rest,U2) from hc')
  obtain⟨ρ1,hb1,hf⟩:=bx0 hz1
  obtain⟨rest',hc2,hr⟩:=mx0 hz2
  obtain⟨ev',U3⟩:=z
  cases hr
  obtain⟨l1,l2,l3⟩:=bindTg_at hlt hb1
  obtain⟨G2,e2,d2⟩:=src_ok.yld i G' H' v H2 dd' hb gg E'.sub nn y
  have m2:=E'.vs.mext E'.sub' e2
  have E2:=E'.go m2 (E'.vs.step e2)
  have hq2:H2 q=some (.lst ys):=e2.hh _ _ hq'
  have hg2:G2 q=none:=e2.nw _ _ hg' hq'
  have back:∀{G3 H3:Hp} {d3:Vd} {σ3:St} {U4:List (List D)},EnvM X.prog X.w X.K C G1 H1 d1 G3 H3 d3 σ3 ρ1 U4→EnvM X.prog X.w X.K C G1 H1 d1 G3 H3 d3 σ3 (SI.blk tn.length js ρ) U4:=fun E3=>E3.forget l1.symm fun j sl hj=>by
   by_cases hjn:j<tn.length
   ·left
    rcases blk_at hj with z|⟨_,_,z,_⟩
    ·exact z
    ·omega
   ·right;rw[l2 j (by omega)];exact hj
  intro A s0 H0' fp pins s u I rv
  refine ht A s0 H0' fp dd' pins s σ' H2 v u _ I rv ⟨fun σ3 ρ3=>EnvM X.prog X.w X.K C G1 H1 d1 G2 H2 d' σ3 ρ3 U',G2,_,ρ1,E2,fun σ3 ρ3 i e u E3 hi de=>E3.set hi de,E2.sub,d2,hb1,fun σ2 en2=>?_⟩
  intro A s0 H0' fp pins s I
  refine pcs_nil pins s _ H2 _ I (iteT ?_)
  intro A s0 H0' fp pins s I
  refine he A s0 H0' fp ρ1 U' ev' U3 hf pins s _ H2 _ I ⟨G1,H1,d1,G2,d',en2,fun x G4 H4 d4 m4 v4 r4=>?_⟩
  have E4:=back (en2.go m4 v4)
  have hq4:er H4 (parts d4) q=some (.lst ys):=m4.hh q _ (by rw[er_out np'];exact hq2)
  obtain⟨np4,hq4⟩:=er_some hq4
  have hg4:G4 q=none:=m4.nw q _ hg2 hq2
  refine⟨ys,hq4,by rw[←r'.length,ol];omega,ds.length-(i+1),by omega,rfl,hlt',G4,d4,U3,ys++[x],outs++[ev'],rest'.1,E4.touch noB hg4 hq0 (.inr ⟨_,hq4⟩) np4 rfl,upd_same,hg4,np4,((r'.mono (e2.gg.trans m4.gg)).append (.one r4)),by rw[List.length_append,ol];rfl,hc2,by rw[←oe,List.append_assoc];rfl⟩
 ·have e:i=ds.length:=by omega
  subst e
  rw[List.drop_length] at hc'
  cases hc'
  rw[List.append_nil] at oe
  subst oe
  have mm:=m1.trans E'.start
  have hqH:H q=none:=by
   cases z:H q with
   |none=>rfl
   |some o=>obtain⟨o',z'⟩:=m1.st q o z;rw[hq0] at z';cases z'
  exact .inl ⟨src_ok.stop H' sm nn,k _ _ H' d' (mm.show hqH hg' hq' np') (E'.vs.show hg' np') (.list upd_same (r'.mono (same_upd hg')))⟩
end
mutual
inductive M where
 |p (e:E)
 |call (f:Str) (as:Ms)
 |meth (m:Str) (i:Nat) (as:Ms)
 |new
 |and (a b:M)
 |tup (as:Ms)
 |lst (a:M)
 |comp (nt:Nat) (js:List Nat) (tg:Tg) (src elt:M)
inductive Ms where
 |nil
 |va (i:Nat) (r:Ms)
 |ex (a:M) (r:Ms)
end
mutual
inductive SM where
 |set (i:Nat) (e:M)
 |expr (e:M)
 |ret (e:M)
 |ifs (c:E) (a b:SMs)
 |fors (tg:Tg) (src:I) (body:SMs)
 |raise (c:Nat) (as:Ms)
 |try1 (tab:List (Nat×Bool)) (i j:Nat) (body:SMs)
 |pass
 |pure (s:S)
 |ext (i:Nat) (e:M)
 |form (tg:Tg) (src:M) (body:SMs)
inductive SMs where
 |nil
 |cons (s:SM) (r:SMs)
end
noncomputable abbrev Ust:=List (List D)
noncomputable abbrev FsM:=Str→Option FnM
noncomputable def hdlOf:Option Sl→Option Nat
 |some (.dat (.hdl h))=>some h
 |_=>none
noncomputable def vaOf:Bool→Option Sl→Option D
 |true,some sl=>datsOf .read sl
 |false,some (.dat d)=>some d
 |_,_=>none
@[simp] noncomputable def consR (d:D):Rs→Rs
 |.ok ds=>.ok (d::ds)
 |.exc c=>.exc c
noncomputable def lstD:D→Option (List D)
 |.list ds=>some ds
 |.tuple ds=>some ds
 |_=>none
noncomputable def okR:R×Ust→Option (D×Ust)
 |(.ok d,U)=>some (d,U)
 |_=>none
noncomputable def goR (z:R×Ust)(f:D→Ust→Option (R×Ust)):Option (R×Ust):=match z.1 with
 |.ok d=>f d z.2
 |.exc x=>some (.exc x,z.2)
noncomputable def okL:R×Ust→Option (List D×Ust)
 |(.ok (.list ds),U)=>some (ds,U)
 |_=>none
noncomputable def tupR (q:Rs×Ust):Option (R×Ust):=match q.1 with
 |.ok ds=>if ds.length≤1000 then some (.ok (.tuple ds),q.2) else none
 |.exc _=>none
section
variable (Φ:Fs)(Ψ:FsM)(Γ:List (Str×D))(c:Nat)
mutual
@[simp] noncomputable def evM (ρ:List Sl)(U:Ust):M→Option (R×Ust)
 |.p e=>(ev Φ Γ .val (ρ.map (vE c U)) e).map fun d=>(.ok d,U)
 |.call f as=>(Ψ f).bind fun φ=>(evMs φ.lent ρ U as).bind fun q=>(RsGo φ.run q.1 q.2).map fun z=>(z.2,z.1)
 |.meth m i as=>(Ψ (vname m)).bind fun φ=>(hdlOf ρ[i]?).bind fun h=>(evMs φ.lent.tail ρ U as).bind fun q=>match q.1 with
  |.ok ds=>(φ.run q.2 (.hdl h::ds)).map fun z=>(z.2,z.1)
  |.exc _=>none
 |.new=>some (.ok (.hdl U.length),U++[[]])
 |.and a b=>(evM ρ U a).bind fun z=>goR z fun d U'=>(asB d).bind fun t=>if t then evM ρ U' b else some (.ok (.bool false),U')
 |.tup as=>(evMs [] ρ U as).bind tupR
 |.lst a=>(evM ρ U a).bind fun z=>goR z fun d U'=>(lstD d).map fun ds=>(.ok (.list ds),U')
 |.comp nt js tg src elt=>(evM ρ U src).bind fun z=>(okL z).bind fun z=>if z.1.length<big then (compM (fun d U'=>(bindTg tg d (blk nt js ρ)).bind fun ρ'=>(evM ρ' U' elt).bind okR) z.1 z.2).map fun q=>(.ok (.list q.1),q.2) else none
@[simp] noncomputable def evMs (fl:List Bool)(ρ:List Sl)(U:Ust):Ms→Option (Rs×Ust)
 |.nil=>some (.ok [],U)
 |.va i r=>(vaOf (fl.headD false) ρ[i]?).bind fun d=>(evMs fl.tail ρ U r).map fun q=>(consR d q.1,q.2)
 |.ex a r=>(evM ρ U a).bind fun z=>match z.1 with
  |.ok d=>(evMs fl.tail ρ z.2 r).map fun q=>(consR d q.1,q.2)
  |.exc x=>some (.exc x,z.2)
end
noncomputable def setR (f:D→OM)(ρ:List Sl):R→OM
 |.ok d=>f d
 |.exc x=>.exc x ρ
noncomputable def tryR (tab:List (Nat×Bool))(i j:Nat)(U:Ust):OM→Option (OM×Ust)
 |.exc x ρ=>if tab.lookup x=some true then some (.nx ((ρ.set i (.dat (.exc x))).set j .no),U) else none
 |o=>some (o,U)
noncomputable def pureR (o:Out)(U:Ust):Option (OM×Ust):=match o with
 |.nx ρ=>if ρ.all lentOk then some (.nx ρ,U) else none
 |.rt _=>none
noncomputable def lisD:D→Option (List D)
 |.list ds=>some ds
 |_=>none
noncomputable def extR (s:Option Sl)(ds:List D)(k:D→OM×Ust):Option (OM×Ust):=match s with
 |some (.own (.list es))=>if es.length+ds.length≤big then some (k (.list (es++ds))) else none
 |_=>none
mutual
@[simp] noncomputable def exM (ρ:List Sl)(U:Ust):SM→Option (OM×Ust)
 |.set i e=>(evM Φ Ψ Γ c ρ U e).map fun z=>(setR (fun d=>.nx (ρ.set i (.dat d))) ρ z.1,z.2)
 |.expr e=>(evM Φ Ψ Γ c ρ U e).map fun z=>(setR (fun _=>.nx ρ) ρ z.1,z.2)
 |.ret e=>(evM Φ Ψ Γ c (ρ.map freeze) U e).map fun z=>(setR .rt (ρ.map freeze) z.1,z.2)
 |.ifs t a b=>(ev Φ Γ .test (ρ.map (vE c U)) t).bind fun d=>(asB d).bind fun t=>if t then exMs ρ U a else exMs ρ U b
 |.fors tg src body=>(evI Φ Γ .walk ρ src).bind fun ds=>forM (bindTg tg) (fun ρ' U'=>exMs ρ' U' body) ds ρ U
 |.raise x as=>(evMs Φ Ψ Γ c [] ρ U as).bind fun q=>match q.1 with
  |.ok ds=>if ds.length≤1000 then some (.exc x ρ,q.2) else none
  |.exc _=>none
 |.try1 tab i j body=>(exMs ρ U body).bind fun q=>tryR tab i j q.2 q.1
 |.pass=>some (.nx ρ,U)
 |.pure s=>(ex Φ Γ ρ s).bind fun o=>pureR o U
 |.ext i e=>(evM Φ Ψ Γ c ρ U e).bind fun z=>(okL z).bind fun z=>extR ρ[i]? z.1 fun d=>(.nx (ρ.set i (.own d)),z.2)
 |.form tg src body=>(evM Φ Ψ Γ c ρ U src).bind fun z=>match z.1 with
  |.ok d=>(lisD d).bind fun ds=>forM (bindTg tg) (fun ρ' U'=>exMs ρ' U' body) ds ρ z.2
  |.exc x=>some (.exc x ρ,z.2)
@[simp] noncomputable def exMs (ρ:List Sl)(U:Ust):SMs→Option (OM×Ust)
 |.nil=>some (.nx ρ,U)
 |.cons s r=>(exM ρ U s).bind fun q=>q.1.andThen (fun ρ'=>exMs ρ' q.2 r) q.2
end
end
structure DefM where
 lent:List Bool
 slots:Nat
 body:SMs
noncomputable def outM:OM→R
 |.nx _=>.ok .none
 |.rt d=>.ok d
 |.exc c _=>.exc c
@[simp] noncomputable def startM (d:DefM)(ds:List D):List Sl:=startR ⟨d.lent,d.slots,.nil⟩ ds
noncomputable def runM (Φ:Fs)(Ψ:FsM)(Γ:List (Str×D))(c:Nat)(d:DefM):FnM:=⟨d.lent,fun U ds=>if ds.length=d.lent.length then (exMs Φ Ψ Γ c (startM d ds) U d.body).map fun q=>(q.2,outM q.1) else none⟩
noncomputable def denM (Ψ0:FsM)(prog:List (Str×Def))(progM:List (Str×DefM))(Γ:List (Str×D))(c:Nat):Nat→FsM
 |0,f=>Ψ0 f
 |k+1,f=>match Ψ0 f with
  |some φ=>some φ
  |none=>(progM.lookup f).map (runM (den prog Γ k) (denM Ψ0 prog progM Γ c k) Γ c)
structure Cm where
 cs:Cs
 c:Nat
 mfs:List Str
 mms:List Str
 vn:Str
 xks:List (Str×Nat)
noncomputable def isMc (C:Cm):Expr→Bool
 |.Call (.Name f _) _ _ _=>C.mfs.contains f||f==C.vn
 |.Call (.Attribute (.Name _ _) m _) _ _ _=>C.mms.contains m
 |_=>false
noncomputable def isMt (C:Cm):Expr→Bool
 |.Tuple es _ _=>es.any (isMc C)
 |e=>isMc C e
noncomputable def andOf:Expr→Option (Expr×Expr)
 |.BoolOp .And [a,b] _=>some (a,b)
 |_=>none
noncomputable def compOf:Expr→Option (Expr×Expr×Expr×Scope)
 |.ListComp elt [⟨tg,iter,[],0⟩] sc _=>some (elt,tg,iter,sc)
 |_=>none
mutual
noncomputable def cM:Nat→Cm→Expr→Option M
 |0,_,_=>none
 |n+1,C,e=>match e with
  |.Call (.Name f _) as [] _=>if isGlob C.cs f&&C.mfs.contains f&&!as.isEmpty then (cMs n C as).map fun as'=>.call f as'
   else if f=C.vn then (if isGlob C.cs f&&as.isEmpty then some .new else none)
   else if f=("list":Str) then (match oneA as with
    |some a=>if isMc C a then (if isGlob C.cs f&&!isStar a then (cM n C a).map .lst else none) else (cE n C.cs e).map .p
    |none=>none) else (cE n C.cs e).map .p
  |.Call (.Attribute (.Name x _) m apos) as [] pos=>if C.mms.contains m then (if (apos.endLine==pos.line)&&!as.isEmpty&&decide (as.length≤20) then (cSlot C.cs x).bind fun i=>(cMs n C as).map fun as'=>.meth m i as' else none) else (cE n C.cs e).map .p
  |.BoolOp _ _ _=>(match andOf e with
   |some q=>if isMc C q.1||isMc C q.2 then (cM n C q.1).bind fun a=>(cM n C q.2).map fun b=>.and a b else (cE n C.cs e).map .p
   |none=>(cE n C.cs e).map .p)
  |.Tuple es _ _=>if es.any (isMc C) then (cMs n C es).map .tup else (cE n C.cs e).map .p
  |.ListComp _ _ _ _=>(match compOf e with
   |some q=>if isMt C q.1 then cComp n C q.1 q.2.1 q.2.2.1 q.2.2.2 else (cE n C.cs e).map .p
   |none=>(cE n C.cs e).map .p)
  |_=>(cE n C.cs e).map .p
noncomputable def cComp:Nat→Cm→Expr→Expr→Expr→Scope→Option M
 |0,_,_,_,_,_=>none
 |n+1,C,elt,tg,iter,sc=>(cM n C iter).bind fun src=>(cBlk C.cs sc tg).bind fun q=>(cTg q.1 tg).bind fun t=>if !tgLt t q.2.1||isSet iter then none else (cM n {C with cs:=q.1} elt).map fun e'=>.comp q.2.1 q.2.2 t src e'
noncomputable def cMs:Nat→Cm→List Expr→Option Ms
 |0,_,_=>none
 |n+1,C,[]=>some .nil
 |n+1,C,e::r=>if isStar e then none else match slotOf C.cs e with
  |some i=>(cMs n C r).map fun r'=>.va i r'
  |none=>(cM n C e).bind fun a=>(cMs n C r).map fun r'=>.ex a r'
noncomputable def slotOf (C:Cs):Expr→Option Nat
 |.Name x _=>cSlot C x
 |_=>none
end
noncomputable def mutOf (C:Cs):Expr→Option (Nat×Str×Expr×Bool)
 |.Call (.Attribute (.Name x _) m apos) [a] [] pos=>(cSlot C x).bind fun i=>if C.mts.contains i then some (i,m,a,apos.endLine==pos.line) else none
 |_=>none
noncomputable def raiseOf:Option Expr→Option Expr→Option (Str×List Expr)
 |some (.Call (.Name x _) as [] _),none=>some (x,as)
 |_,_=>none
noncomputable def tryOf:List ExceptHandler→Option (Str×Str×Str)
 |[.ExceptHandler (some (.Name x _)) (some n) [.Assign [.Name k _] (.Name n' _) _] _]=>if n'=n then some (x,n,k) else none
 |_=>none
mutual
noncomputable def cSM:Nat→Cm→Stmt→Option SM
 |0,_,_=>none
 |n+1,C,s=>match s with
  |.Assign [.Name y _] v _=>(cLoc C.cs y).bind fun j=>if C.cs.mts.contains j then (cS n C.cs s).map .pure else if isComp v then none else (cM n C v).map fun e=>.set j e
  |.Expr v _=>(match mutOf C.cs v with
   |some q=>if q.2.1=("extend":Str)&&isMc C q.2.2.1 then (if q.2.2.2&&!isStar q.2.2.1 then (cM n C q.2.2.1).map fun e=>.ext q.1 e else none) else (cS n C.cs s).map .pure
   |none=>if isComp v then none else (cM n C v).map .expr)
  |.Return (some e) _=>(cM n C e).map .ret
  |.If t a b _=>(cE n C.cs t).bind fun t'=>(cSMs n C a).bind fun a'=>(cSMs n C b).map fun b'=>.ifs t' a' b'
  |.For tg iter body [] _=>(cTg C.cs tg).bind fun t=>if isMc C iter then (cM n C iter).bind fun src=>(cSMs n C body).map fun b=>.form t src b else (cI n C.cs iter).bind fun src=>(cSMs n C body).map fun b=>.fors t src b
  |.Raise e f _=>(raiseOf e f).bind fun q=>if isGlob C.cs q.1&&!q.2.isEmpty then (C.xks.lookup q.1).bind fun x=>(cMs n C q.2).map fun as=>.raise x as else none
  |.Try body hs [] [] _=>(tryOf hs).bind fun q=>if isGlob C.cs q.1&&kindIs C.cs q.2.1 .local&&plainName q.2.1 then (C.cs.xcs.lookup q.1).bind fun z=>(cLoc C.cs q.2.1).bind fun j=>(cLoc C.cs q.2.2).bind fun i=>if i=j then none else (cSMs n C body).map fun b=>.try1 z.2 i j b else none
  |.Pass _=>some .pass
  |_=>none
noncomputable def cSMs:Nat→Cm→List Stmt→Option SMs
 |0,_,_=>none
 |n+1,C,[]=>some .nil
 |n+1,C,s::r=>(cSM n C s).bind fun s'=>(cSMs n C r).map fun r'=>.cons s' r'
end
structure Env1 where
 fns:List Str
 cst:List Str
 c:Nat
 vms:List Str
 xcs:List (Str×Nat×List (Nat×Bool))
 mfs:List Str
 mms:List Str
 vn:Str
 xks:List (Str×Nat)
noncomputable def cmOf (V:Env1)(ps:List Str)(body:List Stmt)(sc:Scope):Cm:=⟨csOf V.fns V.cst ps body sc (some V.c) V.vms V.xcs,V.c,V.mfs,V.mms,V.vn,V.xks⟩
noncomputable def cDefM (V:Env1)(lent:List Bool)(st:Stmt):Option DefM:=
 (defParts st).bind fun (ps,body,sc)=>(cSMs 60 (cmOf V ps body sc) body).map fun b=>{lent,slots:=(ps++localsOf sc ps).length,body:=b}
structure WzM (X:Cx)(Φ:Fs)(Ψ:FsM)(Γ:List (Str×D))(C:Cm)(k:Nat):Prop where
 w:Wz X Φ Γ C.cs k
 fm:∀x,C.mfs.contains x=true→∀φ,Ψ x=some φ→FnZm X.prog X.w X.K X.mg X.base C.c k x φ
 vm:∀m,C.mms.contains m=true→∀φ,Ψ (vname m)=some φ→FnVm X.prog X.w X.K X.mg X.base C.c k m φ∧φ.lent.headD false=false∧m≠"objects"∧m≠"numbers"
 nw:∀X':Cx,X'.prog=X.prog→X'.w=X.w→X'.K=X.K→X'.mg=X.mg→X'.base=X.base→Room k X'.A→Gl X' C.vn→∀ρ U p pos,EvM X' C.c ρ U (.Call (.Name C.vn p) [] [] pos) (.ok (.hdl U.length)) (U++[[]])
structure WzT (X:Cx)(Φ:Fs)(Ψ:FsM)(Γ:List (Str×D))(C:Cm)(k:Nat):Prop where
 m:WzM X Φ Ψ Γ C k
 xk:∀t x,C.xks.lookup t=some x→ExcK X t x
 tr:∀t x tab,C.cs.xcs.lookup t=some (x,tab)→∀e,tab.lookup e=some true→∃newId newIdT,PySem.W.excIn X.K e veMro newId=true∧PySem.W.excIn X.K x veMro newIdT=true∧belowK X.K e x=true
 lcl:∀x,C.cs.sc.names.lookup x=some .local→X.env.kindOf x=some .local
 fc:FnCx X
theorem CxC.tri {X:Cx}{C:Cs}(c:CxC X C){E:Value→Shared→Prop}{pn:List (Addr×Obj)}:CxC (tri X E pn) C:=⟨c.N,c.nd,c.vis,c.loc,c.cell,c.glob,c.calm,c.kind⟩
theorem Wz.tri {X:Cx}{Φ:Fs}{Γ:List (Str×D)}{C:Cs}{k:Nat}(w:Wz X Φ Γ C k){E:Value→Shared→Prop}{pn:List (Addr×Obj)}:Wz (tri X E pn) Φ Γ C k:=⟨w.blt,w.fns,w.gl,w.room,w.vc,w.vf,w.xc⟩
theorem WzT.tri {X:Cx}{Φ:Fs}{Ψ:FsM}{Γ:List (Str×D)}{C:Cm}{k:Nat}(w:WzT X Φ Ψ Γ C k){E:Value→Shared→Prop}{pn:List (Addr×Obj)}:WzT (tri X E pn) Φ Ψ Γ C k:=
 ⟨⟨w.m.w.tri,w.m.fm,w.m.vm,w.m.nw⟩,fun t x h=>⟨(w.xk t x h).mg,(w.xk t x h).ex⟩,w.tr,w.lcl,⟨w.fc.stk,w.fc.fr,w.fc.ex⟩⟩
theorem WzM.blk {X:Cx}{Φ:Fs}{Ψ:FsM}{Γ:List (Str×D)}{C:Cm}{k:Nat}(w:WzM X Φ Ψ Γ C k){B:Cs}{sc:Scope}{N:List Str}(h:B.fns=C.cs.fns∧B.cst=C.cs.cst∧B.vc=C.cs.vc∧B.vms=C.cs.vms∧B.xcs=C.cs.xcs)(A:Addr)(s:Shared)(H:Hp)(fp:List Addr):
  WzM (L2.C.blk X sc N A s H fp) Φ Ψ Γ {C with cs:=B} k:=⟨w.w.blk h A s H fp,w.fm,w.vm,w.nw⟩
section
variable {X:Cx}{C:Addr}{ρ:List Sl}{U U1 U2:Ust}{es:List Expr}{e:Expr}{x:Str}{p:Pos}{d:D}{fl:List Bool}{rs:Rs}{c:Nat}
theorem eaM_cons' (he:EvM X C ρ U e (.ok d) U1)(hr:EaM X C ρ U1 fl.tail es rs U2)(hs:isStar e=false):EaM X C ρ U fl (e::es) (consR d rs) U2:=by
 have:=eaM_cons (fl:=fl) he hr hs
 cases rs<;>exact this
theorem eaM_va {i:Nat}(V:VarOk X x i)(h:vaOf (fl.headD false) ρ[i]?=some d)(hr:EaM X C ρ U fl.tail es rs U2):EaM X C ρ U fl (.Name x p::es) (consR d rs) U2:=by
 cases hf:fl.headD false with
 |true=>
  rw[hf] at h
  cases q:ρ[i]? with
  |none=>rw[q] at h;cases h
  |some sl=>
   rw[q] at h
   have:=eaM_consR (p:=p) i q h hf V.at' V.vis V.d V.cd hr
   cases rs<;>exact this
 |false=>
  rw[hf] at h
  cases q:ρ[i]? with
  |none=>rw[q] at h;cases h
  |some sl=>
   rw[q] at h
   cases sl with
   |dat d'=>cases h;exact eaM_cons' (evM_var i q V.at' V.vis V.d V.cd) hr rfl
   |_=>cases h
end
structure SndM (Φ:Fs)(Ψ:FsM)(Γ:List (Str×D))(k n:Nat):Prop where
 E:∀C e M',cM n C e=some M'→∀X,CxC X C.cs→WzM X Φ Ψ Γ C k→∀ρ U r U',evM Φ Ψ Γ C.c ρ U M'=some (r,U')→EvM X C.c ρ U e r U'
 A:∀C es as,cMs n C es=some as→∀X,CxC X C.cs→WzM X Φ Ψ Γ C k→noStars es∧∀fl ρ U rs U',evMs Φ Ψ Γ C.c fl ρ U as=some (rs,U')→EaM X C.c ρ U fl es rs U'
 L:∀C elt tg iter sc M',cComp n C elt tg iter sc=some M'→∀X,CxC X C.cs→WzM X Φ Ψ Γ C k→∀ρ U r U' pos,evM Φ Ψ Γ C.c ρ U M'=some (r,U')→EvM X C.c ρ U (.ListComp elt [⟨tg,iter,[],0⟩] sc pos) r U'
section
variable {Φ:Fs}{Ψ:FsM}{Γ:List (Str×D)}{k n:Nat}{C:Cm}{X:Cx}
theorem oneA_ok {as:List Expr}{a:Expr}(h:oneA as=some a):as=[a]:=by
 unfold oneA at h
 split at h
 ·cases h;rfl
 ·cases h
theorem andOf_ok {op:BoolOp}{vs:List Expr}{pos:Pos}{z:Expr×Expr}(h:andOf (.BoolOp op vs pos)=some z):op=.And∧vs=[z.1,z.2]:=by
 unfold andOf at h
 split at h
 ·rename_i e;cases h;cases e;exact⟨rfl,rfl⟩
 ·cases h
theorem compOf_ok {elt:Expr}{gens:List Comprehension}{sc:Scope}{pos:Pos}{elt' tg iter:Expr}{sc':Scope}(h:compOf (.ListComp elt gens sc pos)=some (elt',tg,iter,sc')):elt'=elt∧sc'=sc∧gens=[⟨tg,iter,[],0⟩]:=by
 unfold compOf at h
 split at h
 ·rename_i e;cases h;cases e;exact⟨rfl,rfl,rfl⟩
 ·cases h
theorem stepM (ih:SndM Φ Ψ Γ k n){e:Expr}{M':M}(h:cM (n+1) C e=some M')(c:CxC X C.cs)(w:WzM X Φ Ψ Γ C k){ρ:List Sl}{U U':Ust}{r:R}(q:evM Φ Ψ Γ C.c ρ U M'=some (r,U')):EvM X C.c ρ U e r U':=by
 have pure_:∀M',(cE n C.cs e).map M.p=some M'→evM Φ Ψ Γ C.c ρ U M'=some (r,U')→EvM X C.c ρ U e r U':=fun M' h q=>by
  obtain⟨e',h1,rfl⟩:=mx0 h
  obtain⟨d,q1,q2⟩:=mx0 (show (ev Φ Γ .val (ρ.map (vE C.c U)) e').map _=some (r,U') from q)
  cases q2
  exact evM_pure (((snd Φ Γ k n).E _ _ _ h1 X c w.w).1 _ d q1)
 cases e with
 |Call ef as ks pos=>
  cases ef with
  |Name f p=>
   cases ks with
   |cons _ _=>exact pure_ M' h q
   |nil=>
    have h:(if isGlob C.cs f&&C.mfs.contains f&&!as.isEmpty then (cMs n C as).map fun as'=>M.call f as'
     else if f=C.vn then (if isGlob C.cs f&&as.isEmpty then some M.new else Option.none)
     else if f=("list":Str) then (match oneA as with
      |some a=>if isMc C a then (if isGlob C.cs f&&!isStar a then (cM n C a).map M.lst else Option.none) else (cE n C.cs (.Call (.Name f p) as [] pos)).map M.p
      |Option.none=>Option.none) else (cE n C.cs (.Call (.Name f p) as [] pos)).map M.p)=some M':=h
    split at h
    ·rename_i hq
     simp only[be0,Bool.not_eq_true'] at hq
     obtain⟨as',h1,rfl⟩:=mx0 h
     obtain⟨S1,S2⟩:=ih.A _ _ _ h1 X c w
     obtain⟨φ,q1,q2⟩:=bx0 (show (Ψ f).bind _=some (r,U') from q)
     obtain⟨⟨rs,U1⟩,q3,q4⟩:=bx0 q2
     obtain⟨⟨U2,r2⟩,q5,q6⟩:=mx0 q4
     cases q6
     cases as with
     |nil=>cases hq.2
     |cons e es=>exact evM_call (w.fm f hq.1.2 φ q1) w.w.room (glob_ok c hq.1.1).1 (glob_ok c hq.1.1).2.2 (S2 _ ρ U rs U1 q3) q5 S1
    split at h
    ·rename_i hv
     split at h
     ·rename_i hq
      rw[be0] at hq
      cases h
      cases as with
      |nil=>
       cases q
       subst hv
       exact w.nw X rfl rfl rfl rfl rfl w.w.room (glob_ok c hq.1).1 ρ U p pos
      |cons _ _=>cases hq.2
     ·cases h
    split at h
    ·rename_i hl
     split at h
     ·rename_i a ha
      split at h
      ·rename_i hm
       split at h
       ·rename_i hq
        rw[be0,Bool.not_eq_true'] at hq
        obtain⟨a',h1,rfl⟩:=mx0 h
        obtain⟨⟨r1,U1⟩,q1,q2⟩:=bx0 (show (evM Φ Ψ Γ C.c ρ U a').bind _=some (r,U') from q)
        have A:=ih.E _ _ _ h1 X c w ρ U r1 U1 q1
        have Bl:=blt_ok c w.w hq.1 (by subst hl;simp[bltNames])
        obtain rfl:=oneA_ok ha
        subst hl
        cases r1 with
        |exc x=>cases q2;exact evM_listX Bl A hq.2
        |ok d=>
         obtain⟨ds,q3,q4⟩:=mx0 (show (lstD d).map _=some (r,U') from q2)
         cases q4
         refine evM_list Bl A ?_ hq.2
         cases d with
         |list ls=>cases q3;exact .inl rfl
         |tuple ls=>cases q3;exact .inr rfl
         |_=>cases q3
       ·cases h
      ·exact pure_ M' h q
     ·cases h
    ·exact pure_ M' h q
  |Attribute o m apos=>
   cases o with
   |Name x p=>
    cases ks with
    |cons _ _=>exact pure_ M' h q
    |nil=>
     have h:(if C.mms.contains m then (if (apos.endLine==pos.line)&&!as.isEmpty&&decide (as.length≤20) then (cSlot C.cs x).bind fun i=>(cMs n C as).map fun as'=>M.meth m i as' else Option.none) else (cE n C.cs (.Call (.Attribute (.Name x p) m apos) as [] pos)).map M.p)=some M':=h
     split at h
     ·rename_i hm
      split at h
      ·rename_i hq
       simp only[be0,Bool.not_eq_true',decide_eq_true_eq] at hq
       obtain⟨i,as',h1,h2,rfl⟩:=bind2 h
       obtain⟨S1,S2⟩:=ih.A _ _ _ h2 X c w
       have V:=slot_ok c h1
       obtain⟨φ,q1,q2⟩:=bx0 (show (Ψ (vname m)).bind _=some (r,U') from q)
       obtain⟨hh,q3,q4⟩:=bx0 q2
       obtain⟨⟨rs,U1⟩,q5,q6⟩:=bx0 q4
       cases rs with
       |exc _=>cases q6
       |ok ds=>
        obtain⟨⟨U2,r2⟩,q7,q8⟩:=mx0 (show (φ.run U1 (.hdl hh::ds)).map _=some (r,U') from q6)
        cases q8
        obtain⟨F,f1,f2⟩:=w.vm m hm φ q1
        have hslot:ρ[i]?=some (.dat (.hdl hh)):=by
         cases z:ρ[i]? with
         |none=>rw[z] at q3;cases q3
         |some sl=>
          rw[z] at q3
          cases sl with
          |dat d=>cases d with
           |hdl h'=>cases q3;rfl
           |_=>cases q3
          |_=>cases q3
        cases as with
        |nil=>cases hq.1.2
        |cons e es=>exact evM_meth F f1 f2 w.w.room (evM_var i hslot V.at' V.vis V.d V.cd) (S2 _ ρ U _ U1 q5) q7 S1 (meth_tree rfl S1 hq.2 hq.1.1)
      ·cases h
     ·exact pure_ M' h q
   |_=>exact pure_ M' h q
  |_=>exact pure_ M' h q
 |BoolOp op vs pos=>
  have h:(match andOf (.BoolOp op vs pos) with
   |some z=>if isMc C z.1||isMc C z.2 then (cM n C z.1).bind fun a=>(cM n C z.2).map fun b=>M.and a b else (cE n C.cs (.BoolOp op vs pos)).map M.p
   |Option.none=>(cE n C.cs (.BoolOp op vs pos)).map M.p)=some M':=h
  split at h
  ·rename_i z hz
   split at h
   ·obtain⟨a',b',h1,h2,rfl⟩:=bind2 h
    obtain⟨rfl,rfl⟩:=andOf_ok hz
    obtain⟨⟨r1,U1⟩,q1,q2⟩:=bx0 (show (evM Φ Ψ Γ C.c ρ U a').bind _=some (r,U') from q)
    have A:=ih.E _ _ _ h1 X c w ρ U r1 U1 q1
    cases r1 with
    |exc x=>cases q2;exact evM_andX A
    |ok d=>
     obtain⟨t,q3,q4⟩:=bx0 (show (asB d).bind _=some (r,U') from q2)
     cases d with
     |bool t'=>
      cases q3
      cases t with
      |true=>exact evM_andT A (ih.E _ _ _ h2 X c w ρ U1 r U' q4)
      |false=>cases q4;exact evM_andF A
     |_=>cases q3
   ·exact pure_ M' h q
  ·exact pure_ M' h q
 |Tuple es ek pos=>
  have h:(if es.any (isMc C) then (cMs n C es).map M.tup else (cE n C.cs (.Tuple es ek pos)).map M.p)=some M':=h
  split at h
  ·obtain⟨as',h1,rfl⟩:=mx0 h
   obtain⟨S1,S2⟩:=ih.A _ _ _ h1 X c w
   obtain⟨⟨rs,U1⟩,q1,q2⟩:=bx0 (show (evMs Φ Ψ Γ C.c [] ρ U as').bind tupR=some (r,U') from q)
   cases rs with
   |exc x=>exact nomatch (show (Option.none:Option (R×Ust))=some (r,U') from q2)
   |ok ds=>
    have q2:(if ds.length≤1000 then some (R.ok (.tuple ds),U1) else Option.none)=some (r,U'):=q2
    split at q2
    ·rename_i hz;cases q2;exact evM_tup (S2 _ ρ U _ _ q1) hz
    ·cases q2
  ·exact pure_ M' h q
 |ListComp elt gens sc pos=>
  have h:(match compOf (.ListComp elt gens sc pos) with
   |some z=>if isMt C z.1 then cComp n C z.1 z.2.1 z.2.2.1 z.2.2.2 else (cE n C.cs (.ListComp elt gens sc pos)).map M.p
   |Option.none=>(cE n C.cs (.ListComp elt gens sc pos)).map M.p)=some M':=h
  split at h
  ·rename_i z hz
   obtain⟨elt',tg,iter,sc'⟩:=z
   split at h
   ·obtain⟨e1,e2,e3⟩:=compOf_ok hz
    have L:=ih.L _ _ _ _ _ _ h X c w ρ U r U' pos q
    rw[e3,←e1,←e2]
    exact L
   ·exact pure_ M' h q
  ·exact pure_ M' h q
 |_=>exact pure_ M' h q
theorem stepL (ih:SndM Φ Ψ Γ k n){elt tg iter:Expr}{sc:Scope}{M':M}(h:cComp (n+1) C elt tg iter sc=some M')(c:CxC X C.cs)(w:WzM X Φ Ψ Γ C k){ρ:List Sl}{U U':Ust}{r:R}{pos:Pos}(q:evM Φ Ψ Γ C.c ρ U M'=some (r,U')):EvM X C.c ρ U (.ListComp elt [⟨tg,iter,[],0⟩] sc pos) r U':=by
 have h:((cM n C iter).bind fun src=>(cBlk C.cs sc tg).bind fun q=>(cTg q.1 tg).bind fun t=>if !tgLt t q.2.1||isSet iter then Option.none else (cM n {C with cs:=q.1} elt).map fun e'=>M.comp q.2.1 q.2.2 t src e')=some M':=h
 obtain⟨src,h1,h⟩:=bx0 h
 obtain⟨⟨B,nt,js⟩,h2,h⟩:=bx0 h
 obtain⟨t,h3,h⟩:=bx0 h
 split at h
 ·cases h
 ·rename_i hlt
  rw[Bool.not_eq_true,Bool.or_eq_false_iff] at hlt
  have hlt1:tgLt t nt=true:=by simpa using hlt.1
  obtain⟨e',h4,rfl⟩:=mx0 h
  have Bk:=blk_ok' c h2
  obtain⟨z1,q1,q⟩:=bx0 (show (evM Φ Ψ Γ C.c ρ U src).bind _=some (r,U') from q)
  obtain⟨⟨ds,U1⟩,q2,q⟩:=bx0 q
  have e1:z1=(.ok (.list ds),U1):=by
   obtain⟨r1,U2⟩:=z1
   cases r1 with
   |exc _=>cases q2
   |ok d=>cases d with
    |list ls=>cases q2;rfl
    |_=>cases q2
  subst e1
  have A:=ih.E _ _ _ h1 X c w ρ U _ _ q1
  have q:(if ds.length<big then (compM (fun d U'=>(bindTg t d (blk nt js ρ)).bind fun ρ'=>(evM Φ Ψ Γ C.c ρ' U' e').bind okR) ds U1).map fun q=>(R.ok (.list q.1),q.2) else Option.none)=some (r,U'):=q
  split at q
  ·rename_i hz
   obtain⟨⟨out,U2⟩,q3,q4⟩:=mx0 q
   cases q4
   have hnt:=Bk.nt
   subst hnt
   refine evM_comp (f:=fun ρ' U'=>(evM Φ Ψ Γ C.c ρ' U' e').bind okR) Bk.ok c.calm A (fun A s H fp=>tgM_ok (Bk.cx A s H fp) h3) hlt1 (fun A s H fp ρ' U' e U3 hf=>?_) (by rw[←big_eq];exact hz) q3 (fold_ok hlt.2)
   obtain⟨⟨r2,U4⟩,q5,q6⟩:=bx0 hf
   cases r2 with
   |exc _=>cases q6
   |ok d=>cases q6;exact ih.E _ _ _ h4 _ (Bk.cx A s H fp) (w.blk Bk.same A s H fp) ρ' U' _ _ q5
  ·cases q
theorem stepMs (ih:SndM Φ Ψ Γ k n){es:List Expr}{as:Ms}(h:cMs (n+1) C es=some as)(c:CxC X C.cs)(w:WzM X Φ Ψ Γ C k):noStars es∧∀fl ρ U rs U',evMs Φ Ψ Γ C.c fl ρ U as=some (rs,U')→EaM X C.c ρ U fl es rs U':=by
 cases es with
 |nil=>cases h;exact⟨(fun _ z=>by cases z),(fun fl ρ U rs U' q=>by cases q;exact eaM_nil)⟩
 |cons e r=>
  have h:(if isStar e then Option.none else match slotOf C.cs e with
   |some i=>(cMs n C r).map fun r'=>Ms.va i r'
   |Option.none=>(cM n C e).bind fun a=>(cMs n C r).map fun r'=>Ms.ex a r')=some as:=h
  split at h
  ·cases h
  ·rename_i hs
   have hs:=Bool.eq_false_iff.mpr hs
   split at h
   ·rename_i i hi
    obtain⟨r',h1,rfl⟩:=mx0 h
    obtain⟨S1,S2⟩:=ih.A _ _ _ h1 X c w
    refine⟨fun x hx=>(List.mem_cons.mp hx).elim (fun z=>z▸hs) (S1 x),fun fl ρ U rs U' q=>?_⟩
    obtain⟨d,q1,q2⟩:=bx0 (show (vaOf (fl.headD false) ρ[i]?).bind _=some (rs,U') from q)
    obtain⟨⟨rs1,U1⟩,q3,q4⟩:=mx0 q2
    cases q4
    cases e with
    |Name x p=>exact eaM_va (slot_ok c hi) q1 (S2 _ ρ U rs1 _ q3)
    |_=>cases hi
   ·obtain⟨a,r',h1,h2,rfl⟩:=bind2 h
    obtain⟨S1,S2⟩:=ih.A _ _ _ h2 X c w
    refine⟨fun x hx=>(List.mem_cons.mp hx).elim (fun z=>z▸hs) (S1 x),fun fl ρ U rs U' q=>?_⟩
    obtain⟨⟨r1,U1⟩,q1,q2⟩:=bx0 (show (evM Φ Ψ Γ C.c ρ U a).bind _=some (rs,U') from q)
    have A:=ih.E _ _ _ h1 X c w ρ U r1 U1 q1
    cases r1 with
    |ok d=>
     obtain⟨⟨rs1,U2⟩,q3,q4⟩:=mx0 (show (evMs Φ Ψ Γ C.c fl.tail ρ U1 r').map _=some (rs,U') from q2)
     cases q4
     exact eaM_cons' A (S2 _ ρ U1 rs1 _ q3) hs
    |exc x=>cases q2;exact eaM_consX A hs
theorem sndM (Φ:Fs)(Ψ:FsM)(Γ:List (Str×D))(k:Nat):∀n,SndM Φ Ψ Γ k n
 |0=>⟨fun _ _ _ h=>(nomatch (show (Option.none:Option M)=some _ from h)),fun _ _ _ h=>(nomatch (show (Option.none:Option Ms)=some _ from h)),fun _ _ _ _ _ _ h=>(nomatch (show (Option.none:Option M)=some _ from h))⟩
 |n+1=>⟨fun C e M' h X c w ρ U r U' q=>stepM (sndM Φ Ψ Γ k n) h c w q,fun C es as h X c w=>stepMs (sndM Φ Ψ Γ k n) h c w,fun C elt tg iter sc M' h X c w ρ U r U' pos q=>stepL (sndM Φ Ψ Γ k n) h c w q⟩
theorem tryOf_ok {hs:List ExceptHandler}{x nm k:Str}(h:tryOf hs=some (x,nm,k)):∃tp kp np ap hp,hs=[.ExceptHandler (some (.Name x tp)) (some nm) [.Assign [.Name k kp] (.Name nm np) ap] hp]:=by
 unfold tryOf at h
 split at h
 ·split at h
  ·rename_i e;subst e;cases h;exact⟨_,_,_,_,_,rfl⟩
  ·cases h
 ·cases h
theorem raiseOf_ok {e f:Option Expr}{x:Str}{as:List Expr}(h:raiseOf e f=some (x,as)):∃np cpos,e=some (.Call (.Name x np) as [] cpos)∧f=Option.none:=by
 unfold raiseOf at h
 split at h
 ·cases h;exact⟨_,_,rfl,rfl⟩
 ·cases h
structure SndMS (Φ:Fs)(Ψ:FsM)(Γ:List (Str×D))(k n:Nat):Prop where
 S:∀C st S',cSM n C st=some S'→∀X,CxC X C.cs→WzT X Φ Ψ Γ C k→PassesOwn (model X.prog X.w) X.A X.env X.xe→∀ρ U o U',exM Φ Ψ Γ C.c ρ U S'=some (o,U')→S1M X C.c ρ U st o U'
 Ss:∀C sts S',cSMs n C sts=some S'→∀X,CxC X C.cs→WzT X Φ Ψ Γ C k→PassesOwn (model X.prog X.w) X.A X.env X.xe→∀ρ U o U',exMs Φ Ψ Γ C.c ρ U S'=some (o,U')→SsM X C.c ρ U sts o U'
theorem mutOf_ok {C:Cs}{v a:Expr}{i:Nat}{m:Str}{bl:Bool}(h:mutOf C v=some (i,m,a,bl)):∃x px apos cpos,v=.Call (.Attribute (.Name x px) m apos) [a] [] cpos∧cSlot C x=some i∧bl=(apos.endLine==cpos.line):=by
 unfold mutOf at h
 split at h
 ·obtain⟨j,h1,h2⟩:=bx0 h
  split at h2
  ·cases h2;exact⟨_,_,_,_,rfl,h1,rfl⟩
  ·cases h2
 ·cases h
theorem stepSM (ih:SndMS Φ Ψ Γ k n){st:Stmt}{S':SM}{o:OM}{ρ:List Sl}{U U':Ust}(h:cSM (n+1) C st=some S')(c:CxC X C.cs)(w:WzT X Φ Ψ Γ C k)(po:PassesOwn (model X.prog X.w) X.A X.env X.xe)(q:exM Φ Ψ Γ C.c ρ U S'=some (o,U')):S1M X C.c ρ U st o U':=by
 have ee:=sndM Φ Ψ Γ k n
 have pp:=snd Φ Γ k n
 have pureS:∀{S':SM},(cS n C.cs st).map SM.pure=some S'→exM Φ Ψ Γ C.c ρ U S'=some (o,U')→S1M X C.c ρ U st o U':=fun {S'} h q=>by
  obtain⟨s',h1,rfl⟩:=mx0 h
  obtain⟨o1,q1,q2⟩:=bx0 (show (ex Φ Γ ρ s').bind _=some (o,U') from q)
  have A:=(sndS Φ Γ k n).S _ _ _ h1 X c w.m.w po ρ o1 q1
  cases o1 with
  |rt d=>exact nomatch (show (Option.none:Option (OM×Ust))=some (o,U') from q2)
  |nx ρ1=>
   have q2:(if ρ1.all lentOk then some (OM.nx ρ1,U) else Option.none)=some (o,U'):=q2
   split at q2
   ·rename_i hl;cases q2;exact s1M_pureS A fun sl hs=>List.all_eq_true.mp hl sl hs
   ·cases q2
 cases st with
 |Assign ts v pos=>
  cases ts with
  |nil=>exact nomatch (show (Option.none:Option SM)=some S' from h)
  |cons t r=>
   cases r with
   |cons _ _=>cases t<;>exact nomatch (show (Option.none:Option SM)=some S' from h)
   |nil=>
    cases t with
    |Name y py=>
     have h:((cLoc C.cs y).bind fun j=>if C.cs.mts.contains j then (cS n C.cs (.Assign [.Name y py] v pos)).map SM.pure else if isComp v then Option.none else (cM n C v).map fun e=>SM.set j e)=some S':=h
     obtain⟨j,h1,h⟩:=bx0 h
     split at h
     ·exact pureS h q
     split at h
     ·cases h
     ·rename_i hc
      obtain⟨e,h2,rfl⟩:=mx0 h
      have S:=sto_ok c h1
      obtain⟨⟨r,U1⟩,q1,q2⟩:=mx0 (show (evM Φ Ψ Γ C.c ρ U e).map _=some (o,U') from q)
      have A:=ee.E _ _ _ h2 X c w.m ρ U r U1 q1
      cases q2
      cases r with
      |ok d=>exact s1M_set S A (swaps_no (Bool.eq_false_iff.mpr hc))
      |exc x=>exact s1M_setX S A (swaps_no (Bool.eq_false_iff.mpr hc))
    |_=>exact nomatch (show (Option.none:Option SM)=some S' from h)
 |Expr v pos=>
  have h:(match mutOf C.cs v with
   |some z=>if z.2.1=("extend":Str)&&isMc C z.2.2.1 then (if z.2.2.2&&!isStar z.2.2.1 then (cM n C z.2.2.1).map fun e=>SM.ext z.1 e else Option.none) else (cS n C.cs (.Expr v pos)).map SM.pure
   |Option.none=>if isComp v then Option.none else (cM n C v).map SM.expr)=some S':=h
  split at h
  ·rename_i z hz
   split at h
   ·rename_i hm
    rw[be0] at hm
    split at h
    ·rename_i hq
     rw[be0,Bool.not_eq_true'] at hq
     obtain⟨e,h2,rfl⟩:=mx0 h
     obtain⟨i,m,a,bl⟩:=z
     obtain⟨x,px,apos,cpos,e1,e2,e3⟩:=mutOf_ok hz
     have hm1:m="extend":=of_decide_eq_true hm.1
     subst e1 e3 hm1
     obtain⟨z1,q1,q⟩:=bx0 (show (evM Φ Ψ Γ C.c ρ U e).bind _=some (o,U') from q)
     obtain⟨⟨ds,U1⟩,q2,q⟩:=bx0 q
     have e4:z1=(.ok (.list ds),U1):=by
      obtain⟨r1,U2⟩:=z1
      cases r1 with
      |exc _=>cases q2
      |ok d=>cases d with
       |list ls=>cases q2;rfl
       |_=>cases q2
     subst e4
     have A:=ee.E _ _ _ h2 X c w.m ρ U _ _ q1
     have q:extR ρ[i]? ds (fun d=>(OM.nx (ρ.set i (.own d)),U1))=some (o,U'):=q
     unfold extR at q
     split at q
     ·rename_i es ho
      split at q
      ·rename_i hl
       cases q
       exact s1M_ext (slot_ok c e2) A hq.2 ho (by rw[←big_eq];exact hl) hq.1
      ·cases q
     ·cases q
    ·cases h
   ·exact pureS h q
  split at h
  ·cases h
  ·rename_i hc
   obtain⟨e,h2,rfl⟩:=mx0 h
   obtain⟨⟨r,U1⟩,q1,q2⟩:=mx0 (show (evM Φ Ψ Γ C.c ρ U e).map _=some (o,U') from q)
   have A:=ee.E _ _ _ h2 X c w.m ρ U r U1 q1
   cases q2
   cases r with
   |ok d=>exact s1M_expr A (swaps_no (Bool.eq_false_iff.mpr hc))
   |exc x=>exact s1M_exprX A (swaps_no (Bool.eq_false_iff.mpr hc))
 |Return v pos=>
  cases v with
  |none=>exact nomatch (show (Option.none:Option SM)=some S' from h)
  |some e=>
   obtain⟨e',h2,rfl⟩:=mx0 (show (cM n C e).map SM.ret=some S' from h)
   obtain⟨⟨r,U1⟩,q1,q2⟩:=mx0 (show (evM Φ Ψ Γ C.c (ρ.map freeze) U e').map _=some (o,U') from q)
   have A:=ee.E _ _ _ h2 X c w.m (ρ.map freeze) U r U1 q1
   cases q2
   cases r with
   |ok d=>exact s1M_ret A
   |exc x=>exact s1M_retX A
 |If t a b pos=>
  have h:((cE n C.cs t).bind fun t'=>(cSMs n C a).bind fun a'=>(cSMs n C b).map fun b'=>SM.ifs t' a' b')=some S':=h
  obtain⟨t',h1,h⟩:=bx0 h
  obtain⟨a',b',h2,h3,rfl⟩:=bind2 h
  obtain⟨d,q1,q2⟩:=bx0 (show (ev Φ Γ .test (ρ.map (vE C.c U)) t').bind _=some (o,U') from q)
  obtain⟨bb,q3,q4⟩:=bx0 q2
  obtain⟨t2,rfl,ht⟩:=(pp.E _ _ _ h1 X c w.m.w).2.2.2.1 _ d q1
  cases q3
  cases bb with
  |true=>exact s1M_ifT (etM_pure ht) (ih.Ss _ _ _ h2 X c w po ρ U o U' q4)
  |false=>exact s1M_ifF (etM_pure ht) (ih.Ss _ _ _ h3 X c w po ρ U o U' q4)
 |For tg iter body orelse pos=>
  cases orelse with
  |cons _ _=>exact nomatch (show (Option.none:Option SM)=some S' from h)
  |nil=>
   have h:((cTg C.cs tg).bind fun t=>if isMc C iter then (cM n C iter).bind fun src=>(cSMs n C body).map fun b=>SM.form t src b else (cI n C.cs iter).bind fun src=>(cSMs n C body).map fun b=>SM.fors t src b)=some S':=h
   obtain⟨t,h1,h⟩:=bx0 h
   split at h
   ·rename_i hm
    obtain⟨src,b,h2,h3,rfl⟩:=bind2 h
    obtain⟨⟨r1,U1⟩,q1,q2⟩:=bx0 (show (evM Φ Ψ Γ C.c ρ U src).bind _=some (o,U') from q)
    have A:=ee.E _ _ _ h2 X c w.m ρ U r1 U1 q1
    have hset:isSet iter=false:=by cases iter<;>first|rfl|cases hm
    cases r1 with
    |exc x=>cases q2;exact s1M_forX A c.calm po (fold_ok hset)
    |ok d=>
     obtain⟨ds,q3,q4⟩:=bx0 (show (lisD d).bind _=some (o,U') from q2)
     cases d with
     |list ls=>
      cases q3
      exact s1M_for (siM_list A) (tgM_ok c h1) (fun ρ' U1 o' U2 q'=>ih.Ss _ _ _ h3 X c w po ρ' U1 o' U2 q') q4 c.calm po (fold_ok hset)
     |_=>cases q3
   obtain⟨src,b,h2,h3,rfl⟩:=bind2 h
   obtain⟨ds,q1,q2⟩:=bx0 (show (evI Φ Γ .walk ρ src).bind _=some (o,U') from q)
   obtain⟨S1,S2,S3⟩:=pp.I _ _ _ h2 X c w.m.w
   exact s1M_for (siM_pure (S1 ρ ds q1)) (tgM_ok c h1) (fun ρ' U1 o' U2 q'=>ih.Ss _ _ _ h3 X c w po ρ' U1 o' U2 q') q2 c.calm po (fold_ok S3)
 |Raise e f pos=>
  have h:((raiseOf e f).bind fun q=>if isGlob C.cs q.1&&!q.2.isEmpty then (C.xks.lookup q.1).bind fun x=>(cMs n C q.2).map fun as=>SM.raise x as else Option.none)=some S':=h
  obtain⟨⟨x,as⟩,h1,hh⟩:=bx0 h
  obtain⟨np,cpos,e1,e2⟩:=raiseOf_ok h1
  subst e1 e2
  clear h
  have h:=hh
  clear hh
  split at h
  ·rename_i hq
   rw[be0] at hq
   obtain⟨xc,as',h2,h3,rfl⟩:=bind2 h
   obtain⟨S1,S2⟩:=ee.A _ _ _ h3 X c w.m
   obtain⟨⟨rs,U1⟩,q1,q2⟩:=bx0 (show (evMs Φ Ψ Γ C.c [] ρ U as').bind _=some (o,U') from q)
   have A:=S2 _ ρ U rs U1 q1
   cases rs with
   |exc _=>cases q2
   |ok ds=>
    have q2:(if ds.length≤1000 then some (OM.exc xc ρ,U1) else Option.none)=some (o,U'):=q2
    split at q2
    ·rename_i hl
     cases q2
     cases as with
     |nil=>cases hq.2
     |cons e es=>exact s1M_raise (w.xk x xc h2) (glob_ok c hq.1).1 (glob_ok c hq.1).2.2 c.calm A hl S1
    ·cases q2
  ·cases h
 |Try body hs orelse fin pos=>
  cases orelse with
  |cons _ _=>exact nomatch (show (Option.none:Option SM)=some S' from h)
  |nil=>
   cases fin with
   |cons _ _=>exact nomatch (show (Option.none:Option SM)=some S' from h)
   |nil=>
    have h:((tryOf hs).bind fun q=>if isGlob C.cs q.1&&kindIs C.cs q.2.1 .local&&plainName q.2.1 then (C.cs.xcs.lookup q.1).bind fun z=>(cLoc C.cs q.2.1).bind fun j=>(cLoc C.cs q.2.2).bind fun i=>if i=j then Option.none else (cSMs n C body).map fun b=>SM.try1 z.2 i j b else Option.none)=some S':=h
    obtain⟨⟨x,nm,kk⟩,h1,hh⟩:=bx0 h
    obtain⟨tp,kp,np,ap,hp,e1⟩:=tryOf_ok h1
    subst e1
    clear h
    have h:=hh
    clear hh
    split at h
    ·rename_i hq
     simp only[be0] at hq
     obtain⟨⟨ct,tab⟩,h2,h⟩:=bx0 h
     obtain⟨j,h3,h⟩:=bx0 h
     obtain⟨i,h4,h⟩:=bx0 h
     split at h
     ·cases h
     ·rename_i hij
      obtain⟨b,h5,rfl⟩:=mx0 h
      obtain⟨⟨o1,U1⟩,q1,q2⟩:=bx0 (show (exMs Φ Ψ Γ C.c ρ U b).bind _=some (o,U') from q)
      have B:∀E pn,PassesOwn (model X.prog X.w) X.A X.env E→SsM (tri X E pn) C.c ρ U body o1 U1:=fun E pn po'=>ih.Ss _ _ _ h5 (tri X E pn) c.tri w.tri po' ρ U o1 U1 q1
      have hpl:=hq.2
      unfold plainName at hpl
      rw[be0,be0] at hpl
      have hX:=w.m.w.xc x ct tab h2
      cases o1 with
      |nx ρ1=>cases q2;exact s1M_tryN B (fun _ _ z=>by cases z)
      |rt d=>cases q2;exact s1M_tryN B (fun _ _ z=>by cases z)
      |exc xc ρ1=>
       have q2:(if tab.lookup xc=some true then some (OM.nx ((ρ1.set i (.dat (.exc xc))).set j .no),U1) else Option.none)=some (o,U'):=q2
       split at q2
       ·rename_i ht
        cases q2
        obtain⟨newId,newIdT,t1,t2,t3⟩:=w.tr x ct tab h2 xc ht
        exact s1M_tryX w.fc B (glob_ok c hq.1.1).1 (glob_ok c hq.1.1).2.2 hX.mg t1 t2 (by decide) t3 (sto_ok c h3) (w.lcl nm (eq_of_beq hq.1.2)) (by simpa using hpl.1.1) (by simpa using hpl.1.2) (sto_ok c h4) hij rfl
       ·cases q2
    ·cases h
 |Pass pos=>cases h;cases q;exact s1M_pass
 |_=>exact nomatch (show (Option.none:Option SM)=some S' from h)
theorem sndMS (Φ:Fs)(Ψ:FsM)(Γ:List (Str×D))(k:Nat):∀n,SndMS Φ Ψ Γ k n
 |0=>⟨fun _ _ _ h=>(nomatch (show (Option.none:Option SM)=some _ from h)),fun _ _ _ h=>(nomatch (show (Option.none:Option SMs)=some _ from h))⟩
 |n+1=>by
  have ih:=sndMS Φ Ψ Γ k n
  refine⟨fun C st S' h X c w po ρ U o U' q=>stepSM ih h c w po q,fun C sts S' h X c w po ρ U o U' q=>?_⟩
  cases sts with
  |nil=>cases h;cases q;exact ssM_nil
  |cons st r=>
   obtain⟨s',r',h1,h2,rfl⟩:=bind2 (show ((cSM n C st).bind fun s'=>(cSMs n C r).map fun r'=>SMs.cons s' r')=some S' from h)
   obtain⟨⟨o1,U1⟩,q1,q2⟩:=bx0 (show (exM Φ Ψ Γ C.c ρ U s').bind _=some (o,U') from q)
   have A:=ih.S _ _ _ h1 X c w po ρ U o1 U1 q1
   cases o1 with
   |nx ρ1=>exact ssM_consN A (ih.Ss _ _ _ h2 X c w po ρ1 U1 o U' q2)
   |rt d=>cases q2;exact ssM_consR A
   |exc x ρ1=>cases q2;exact ssM_consX A
end
section
variable {P:Program}{w:World}{K:Fg}{mg:Str→Option Value}{base:Heap}{Φ:Fs}{Ψ:FsM}{Γ:List (Str×D)}{k:Nat}{V:Env1}
structure ModM (P:Program)(w:World)(K:Fg)(mg:Str→Option Value)(base:Heap)(Φ:Fs)(Ψ:FsM)(Γ:List (Str×D))(V:Env1)(k:Nat):Prop where
 m:ModZ P w K mg base Φ Γ V.fns (some V.c) V.vms V.xcs k
 fm:∀x,V.mfs.contains x=true→∀φ,Ψ x=some φ→FnZm P w K mg base V.c k x φ
 vm:∀m,V.mms.contains m=true→∀φ,Ψ (vname m)=some φ→FnVm P w K mg base V.c k m φ∧φ.lent.headD false=false∧m≠"objects"∧m≠"numbers"
 nw:∀X:Cx,X.prog=P→X.w=w→X.K=K→X.mg=mg→X.base=base→Room k X.A→Gl X V.vn→∀ρ U p pos,EvM X V.c ρ U (.Call (.Name V.vn p) [] [] pos) (.ok (.hdl U.length)) (U++[[]])
 xk:∀t x,V.xks.lookup t=some x→mg t=some (.ref x)∧∃newId initId,ExcBaseFacts "ValueError" newId initId veMro∧PySem.W.excIn K x veMro newId=true
 tr:∀t x tab,V.xcs.lookup t=some (x,tab)→∀e,tab.lookup e=some true→∃newId newIdT,PySem.W.excIn K e veMro newId=true∧PySem.W.excIn K x veMro newIdT=true∧belowK K e x=true
theorem envM_start {G H:Hp}{d:Vd}{U:Ust}{N:List Str}{dfn:DefM}{ds:List D}{vs:List L2.V}{C:Addr}(s:Same G (er H (parts d)))(r:Das K G (er H (parts d)) dfn.lent ds vs)(hl:ds.length=dfn.lent.length)(hs:dfn.slots=N.length)(hn:vs.length≤N.length)(v:VS P w K C G H d U):
  EnvM P w K C G H d G H d (start N vs) (startM dfn ds) U:=
 ⟨⟨G,er H (parts d),Same.refl _,⟨Same.refl _,fun _ _ h _=>h⟩,env_start (dfn:=⟨dfn.lent,dfn.slots,.nil⟩) s r hl hs hn⟩,fun _ _ h _=>h,List.prefix_refl _,v⟩
theorem fnM_ok {x qual:Str}{st:Stmt}{f:Addr}{fd:FuncData}{ps:List Str}{lent:List Bool}{dfn:DefM}(F:Fun K x qual st f fd)(S:FnScope (ps++localsOf (defScope st) ps) ps (defScope st))(hp:defParts st=some (ps,defBody st,defScope st))(hd:cDefM V lent st=some dfn)(hlen:lent.length=ps.length)
  (M:ModM P w K mg base Φ Ψ Γ V k):FnOk P w K mg base (CX1 P w) (k+1) f fd ps (Mur P w K V.c (runM Φ Ψ Γ V.c dfn)):=by
 unfold cDefM at hd
 rw[hp,bs0] at hd
 obtain⟨b,hb,rfl⟩:=mx0 (show (cSMs 60 (cmOf V ps (defBody st) (defScope st)) (defBody st)).map _=some dfn from hd)
 obtain⟨oc,od,kV,doc,pm,an,cdv,ct,osl,rfl,lk,hcd⟩:=F.ex
 refine fn_of (CX:=CX1 P w) lk hcd S (fun vs H Q E h=>?_) (fun A outer s H vs Q E hr h=>?_)
 ·obtain⟨ds,U,U',r,G,d,h1,_,das,_⟩:=h
  have h1:(if ds.length=lent.length then _ else Option.none)=some (U',r):=h1
  split at h1
  ·rename_i hl;rw[←das.length,hl,hlen]
  ·cases h1
 ·obtain⟨ds,U,U',r,G,d,h1,sm,das,vs',kq⟩:=h
  have h1:(if ds.length=lent.length then (exMs Φ Ψ Γ V.c (startM ⟨lent,(ps++localsOf (defScope st) ps).length,b⟩ ds) U b).map fun q=>(q.2,outM q.1) else Option.none)=some (U',r):=h1
  split at h1
  ·rename_i hl
   obtain⟨⟨o,U1⟩,h2,h3⟩:=mx0 h1
   have hpre:=congrArg List.length S.pre
   rw[List.length_take] at hpre
   have C:CxC (cxOf (CX1 P w) P w K mg base (ps++localsOf (defScope st) ps) qual (defScope st) f cdv A outer s H E) (cmOf V ps (defBody st) (defScope st)).cs:=by
    refine⟨rfl,S.nd,fun y kd e ek=>?_,fun y kd e ek=>⟨?_,.inl rfl⟩,fun y e=>e,fun y e=>e,rfl,S.kind⟩
    ·rcases ek with rfl|rfl|rfl
     ·exact .inl e
     ·exact .inr (.inl e)
     ·exact .inr (.inr e)
    ·rcases ek with rfl|rfl
     ·exact .inl e
     ·exact .inr e
   have W:WzT (cxOf (CX1 P w) P w K mg base (ps++localsOf (defScope st) ps) qual (defScope st) f cdv A outer s H E) Φ Ψ Γ (cmOf V ps (defBody st) (defScope st)) k:=
    ⟨⟨⟨M.m.blt,M.m.fns,M.m.gl,hr,M.m.vcl,M.m.vf,M.m.xc⟩,M.fm,M.vm,M.nw⟩,fun t x h=>⟨(M.xk t x h).1,(M.xk t x h).2⟩,M.tr,fun y e=>e,⟨rfl,rfl,rfl⟩⟩
   have body:=(sndMS Φ Ψ Γ k 60).Ss _ _ _ hb _ C W PassesOwn.leaving _ U o U1 h2
   refine⟨_,body,G,H,d,G,d,envM_start (N:=ps++localsOf (defScope st) ps) (dfn:=⟨lent,(ps++localsOf (defScope st) ps).length,b⟩) sm das hl rfl (by rw[←das.length,hl,hlen];omega) vs',?_⟩
   cases h3
   cases o with
   |nx ρ'=>exact fun G' H' d' σ' env _=>kq .non G' H' d' env.start env.vs .none
   |rt e=>exact fun v G' H' d' m v' dv=>kq v G' H' d' m v' dv
   |exc x ρ'=>exact fun G' H' d' σ' env _ pins ea s' I fl=>fl_leaves I fl (kq G' H' d' env.start env.vs)
  ·cases h1
structure DefZm (K:Fg)(mg:Str→Option Value)(V:Env1)(x:Str)(d:DefM):Prop where
 ex:∃st f fd ps,Fun K x x st f fd∧mg x=some (.ref f)∧Binds K fd ps []∧FnScope (ps++localsOf (defScope st) ps) ps (defScope st)∧defParts st=some (ps,defBody st,defScope st)∧cDefM V d.lent st=some d∧d.lent.length=ps.length
structure MetZm (K:Fg)(V:Env1)(m:Str)(d:DefM):Prop where
 nm:m≠"objects"∧m≠"numbers"
 hd:d.lent.headD false=false
 ex:∃st f fd ps qual,Fun K m qual st f fd∧Cls K V.c∧Meth K V.c m f∧Binds K fd ps []∧FnScope (ps++localsOf (defScope st) ps) ps (defScope st)∧defParts st=some (ps,defBody st,defScope st)∧cDefM V d.lent st=some d∧d.lent.length=ps.length
theorem FnZ.mono {x:Str}{φ:Fn}{j:Nat}(F:FnZ P w K mg base j x φ)(h:j≤k):FnZ P w K mg base k x φ:=by
 obtain⟨f,fd,ps,h1,h2,h3,h4⟩:=F.ex
 exact⟨⟨f,fd,ps,h1,h2,h3,h4.mono h⟩⟩
theorem FnZv.mono {c:Addr}{m:Str}{φ:Fn}{j:Nat}(F:FnZv P w K mg base j c m φ)(h:j≤k):FnZv P w K mg base k c m φ:=by
 obtain⟨f,fd,ps,h1,h2,h3⟩:=F.ex
 exact⟨F.nm,⟨f,fd,ps,h1,h2,h3.mono h⟩⟩
theorem FnVm.mono {c:Addr}{m:Str}{φ:FnM}{j:Nat}(F:FnVm P w K mg base c j m φ)(h:j≤k):FnVm P w K mg base c k m φ:=by
 obtain⟨f,fd,ps,h1,h2,h3,h4⟩:=F.ex
 exact⟨⟨f,fd,ps,h1,h2,h3,h4.mono h⟩⟩
structure BaseM (P:Program)(w:World)(K:Fg)(mg:Str→Option Value)(base:Heap)(Ψ0:FsM)(V:Env1):Prop where
 nw:∀X:Cx,X.prog=P→X.w=w→X.K=K→X.mg=mg→X.base=base→Room 2 X.A→Gl X V.vn→∀ρ U p pos,EvM X V.c ρ U (.Call (.Name V.vn p) [] [] pos) (.ok (.hdl U.length)) (U++[[]])
 vm:∀m φ,Ψ0 (vname m)=some φ→FnVm P w K mg base V.c 2 m φ∧φ.lent.headD false=false∧m≠"objects"∧m≠"numbers"
 nf:∀x,V.mfs.contains x=true→Ψ0 x=Option.none
 xk:∀t x,V.xks.lookup t=some x→mg t=some (.ref x)∧∃newId initId,ExcBaseFacts "ValueError" newId initId veMro∧PySem.W.excIn K x veMro newId=true
 tr:∀t x tab,V.xcs.lookup t=some (x,tab)→∀e,tab.lookup e=some true→∃newId newIdT,PySem.W.excIn K e veMro newId=true∧PySem.W.excIn K x veMro newIdT=true∧belowK K e x=true
theorem progM_ok {prog:List (Str×Def)}{progM:List (Str×DefM)}{Ψ0:FsM}(B:Base K mg Γ (some V.c) V.xcs)(BM:BaseM P w K mg base Ψ0 V)
  (defs:∀x d,V.fns.contains x=true→prog.lookup x=some d→DefZ K mg V.fns V.cst (some V.c) V.vms V.xcs x d)
  (mets:∀c m d,some V.c=some c→V.vms.contains m=true→prog.lookup (vname m)=some d→MetZ K V.fns V.cst c V.vms V.xcs m d)
  (defm:∀x d,V.mfs.contains x=true→progM.lookup x=some d→DefZm K mg V x d)
  (metm:∀m d,V.mms.contains m=true→progM.lookup (vname m)=some d→MetZm K V m d):
  ∀k x φ,denM Ψ0 prog progM Γ V.c k x=some φ→(V.mfs.contains x=true→FnZm P w K mg base V.c (k+2) x φ)∧∀m,x=vname m→V.mms.contains m=true→FnVm P w K mg base V.c (k+2) m φ∧φ.lent.headD false=false∧m≠"objects"∧m≠"numbers"
 |0,x,φ,h=>by
  have h:Ψ0 x=some φ:=h
  refine⟨fun hx=>(by rw[BM.nf x hx] at h;cases h),fun m e hm=>?_⟩
  subst e
  exact BM.vm m φ h
 |k+1,x,φ,h=>by
  have h:(match Ψ0 x with|some φ=>some φ|Option.none=>(progM.lookup x).map (runM (den prog Γ k) (denM Ψ0 prog progM Γ V.c k) Γ V.c))=some φ:=h
  cases q:Ψ0 x with
  |some φ'=>
   rw[q] at h
   cases h
   refine⟨fun hx=>(by rw[BM.nf x hx] at q;cases q),fun m e hm=>?_⟩
   subst e
   obtain⟨h1,h2⟩:=BM.vm m φ q
   exact⟨h1.mono (by omega),h2⟩
  |none=>
   rw[q] at h
   obtain⟨d,h1,rfl⟩:=mx0 h
   have M:ModM P w K mg base (den prog Γ k) (denM Ψ0 prog progM Γ V.c k) Γ V (k+2):=
    ⟨⟨B.blt,fun y hy φ' q=>((prog_ok B defs mets k y φ' q).1 hy).mono (by omega),B.gl,B.vcl,fun c m hc hm φ' q=>((prog_ok B defs mets k _ φ' q).2 c m rfl hc hm).mono (by omega),B.xc⟩,
     fun y hy φ' q=>(progM_ok B BM defs mets defm metm k y φ' q).1 hy,fun m hm φ' q=>(progM_ok B BM defs mets defm metm k _ φ' q).2 m rfl hm,fun X e1 e2 e3 e4 e5 r g=>BM.nw X e1 e2 e3 e4 e5 (r.mono (by omega)) g,BM.xk,BM.tr⟩
   refine⟨fun hx=>?_,fun m e hm=>?_⟩
   ·obtain⟨st,f,fd,ps,F,hm,hb,S,hp,hd,hl⟩:=(defm x d hx h1).ex
    exact⟨⟨f,fd,ps,hm,F.kp,hb,fnM_ok F S hp hd hl M⟩⟩
   ·subst e
    have Z:=metm m d hm h1
    obtain⟨st,f,fd,ps,qual,F,hc,hme,hb,S,hp,hd,hl⟩:=Z.ex
    exact⟨⟨⟨f,fd,ps,hc,hme,hb,fnM_ok F S hp hd hl M⟩⟩,Z.hd,Z.nm⟩
theorem modM_ok {prog:List (Str×Def)}{progM:List (Str×DefM)}{Ψ0:FsM}(B:Base K mg Γ (some V.c) V.xcs)(BM:BaseM P w K mg base Ψ0 V)
  (defs:∀x d,V.fns.contains x=true→prog.lookup x=some d→DefZ K mg V.fns V.cst (some V.c) V.vms V.xcs x d)
  (mets:∀c m d,some V.c=some c→V.vms.contains m=true→prog.lookup (vname m)=some d→MetZ K V.fns V.cst c V.vms V.xcs m d)
  (defm:∀x d,V.mfs.contains x=true→progM.lookup x=some d→DefZm K mg V x d)
  (metm:∀m d,V.mms.contains m=true→progM.lookup (vname m)=some d→MetZm K V m d) (k:Nat):ModM P w K mg base (den prog Γ k) (denM Ψ0 prog progM Γ V.c k) Γ V (k+2):=
 ⟨⟨B.blt,fun y hy φ' q=>((prog_ok B defs mets k y φ' q).1 hy).mono (by omega),B.gl,B.vcl,fun c m hc hm φ' q=>((prog_ok B defs mets k _ φ' q).2 c m rfl hc hm).mono (by omega),B.xc⟩,
  fun y hy φ' q=>(progM_ok B BM defs mets defm metm k y φ' q).1 hy,fun m hm φ' q=>(progM_ok B BM defs mets defm metm k _ φ' q).2 m rfl hm,fun X e1 e2 e3 e4 e5 r g=>BM.nw X e1 e2 e3 e4 e5 (r.mono (by omega)) g,BM.xk,BM.tr⟩
end
noncomputable def spLawM (K:Fg):Sp:=fun vs H Q E=>spLaw K vs H Q E∧∀a C dx fs,H a≠some (.ins C dx fs)
theorem lawM_ok {P:Program}{w:World}{K:Fg}{mg:Str→Option Value}{base:Heap}{k:Nat}{f C:Addr}{fd:FuncData}{ps:List Str}{φ:FnM}(F:FnOk P w K mg base (CX1 P w) k f fd ps (Mur P w K C φ))(hfl:φ.lent=[true])
  (h:∀ns:List Int,ns.length≤63→∃U,φ.run [] [.scr ns]=some (U,.ok (.bool true))):FnOk P w K mg base CX0 k f fd ps (spLawM K):=by
 have key:∀vs H Q (E:XK),(spLaw K vs H Q E∧∀a C dx fs,H a≠some (.ins C dx fs))→Mur P w K C φ vs H Q E0:=fun vs H Q E q=>by
  obtain⟨⟨a,ns,rfl,hS,hl,q⟩,ni⟩:=q
  obtain⟨U,hU⟩:=h ns hl
  have he:er H (parts [])=H:=by funext b;exact er_out (by simp[parts])
  refine⟨[.scr ns],[],U,_,H,[],hU,by rw[he];exact Same.refl _,by rw[hfl,he];exact .cons (fun z=>by cases z) (.of (.scr hS)) .nil,⟨rfl,by simp[parts],fun h a l n z=>by simp at z,fun a C' dx fs z=>(ni a C' dx fs z).elim,fun b hb=>by simp[parts] at hb⟩,?_⟩
  exact fun v G' H' d' _ _ r=>by cases r;exact q H'
 refine⟨fun vs H Q E q=>F.len vs H Q E0 (key vs H Q E q),fun A outer s H args us vs Q E hr e0 hb r q=>?_⟩
 refine codeAny_mono (F.run A outer s H args us vs Q E0 hr e0 hb r (key vs H Q E q)) fun r s' z=>?_
 cases r with
 |ok fl=>cases fl<;>exact z
 |error e=>
  obtain⟨_,_,_,_,_,_,_,_,_,_,_,_,_,z⟩:=(show CX1 P w outer H s E0 e s' from z)
  exact z
section
variable {X:Cx}{pins:List (Addr×Obj)}{σ:St}{H G:Hp}{s:Shared}
theorem isKs_of (I:Inv X pins σ H s){n:Nat}(ih:∀(d:D) (v:V) (u:Value),Dp X.K G d v→RelV v u→okK n d=true→IsK s.heap n d u):
  ∀{vs:List V} {us:List Value} {ds:List D},Vals vs us→Dps X.K G ds vs→ds.all (okK n)=true→IsKs s.heap n ds us:=by
 intro vs us ds r
 induction r generalizing ds with
 |nil=>intro q _;cases q;exact .nil
 |cons r1 _ ih2=>
  intro q z
  cases q with
  |cons q1 q2=>
   rw[List.all_cons,be0] at z
   exact .cons (ih _ _ _ q1 r1 z.1) (ih2 q2 z.2)
theorem isK_of (I:Inv X pins σ H s)(sm:Same G H):∀(n:Nat) (d:D) (v:V) (u:Value),Dp X.K G d v→RelV v u→okK n d=true→IsK s.heap n d u:=by
 intro n
 induction n with
 |zero=>
  intro d v u h r o
  cases h with
  |int i=>obtain⟨t,rfl⟩:=r;exact .int i t
  |str x hx=>obtain⟨t,rfl⟩:=r;exact .str x t hx
  |_=>cases o
 |succ n ih=>
  intro d v u h r o
  cases h with
  |int i=>obtain⟨t,rfl⟩:=r;exact .int i t
  |str x hx=>obtain⟨t,rfl⟩:=r;exact .str x t hx
  |tuple q p=>
   cases r
   obtain⟨its,rv,⟨ob,e1,e2,m,e3⟩,_⟩:=I.tuple (SqT.of (sm _ _ q))
   exact .tup e1 e2 e3 (isKs_of I ih rv p o)
  |_=>cases o
theorem numXs_len:∀{k:Nat} {xs:List (D×Addr×Value)} {as:List Addr} {ds:List D},NumXs k xs as ds→xs.length=ds.length∧as.length=ds.length
 |_,_,_,_,.nil=>⟨rfl,rfl⟩
 |_,_,_,_,.cons r=>⟨by rw[lc0,lc0,(numXs_len r).1],by rw[lc0,lc0,(numXs_len r).2]⟩
theorem numXs_is {h:Heap}{G:Hp}{K:Fg}(one:∀(d:D) (a:Addr),Dp K G d (.ref a)→okK 8 d=true→IsK h 8 d (.ref a)):∀{k:Nat} {xs:List (D×Addr×Value)} {as:List Addr} {ds:List D},NumXs k xs as ds→Dps K G ds (as.map .ref)→(∀d∈ds,okK 8 d=true∧isTp d=true)→∀x∈xs,IsK h 8 x.1 (.ref x.2.1)
 |_,_,_,_,.nil,_,_=>fun _ z=>by cases z
 |_,_,_,_,.cons r,.cons d1 d2,hk=>fun x hx=>by
  rcases List.mem_cons.mp hx with rfl|hx
  ·exact one _ _ d1 (hk _ ms0).1
  ·exact numXs_is one r d2 (fun d hd=>hk d (mc0 _ hd)) x hx
theorem numXs_at {d:D}:∀{k:Nat} {xs:List (D×Addr×Value)} {as:List Addr} {ds:List D},NumXs k xs as ds→(ds.idxOf? d=Option.none∧atKey xs d=Option.none)∨∃j a t,ds.idxOf? d=some j∧atKey xs d=some (a,.int ((k+j:Nat):Int) t)
 |_,_,_,_,.nil=>.inl ⟨rfl,rfl⟩
 |k,_,_,_,.cons (d:=e) (a:=a) (t:=t) (xs:=xs) (ds:=ds) r=>by
  unfold atKey
  rw[List.find?_cons,List.idxOf?_cons]
  by_cases c:e=d
  ·subst c
   simp only[decide_true,beq_self_eq_true,if_true,Option.map_some]
   exact .inr ⟨0,a,t,rfl,by simp⟩
  ·rw[decide_eq_false c,beq_eq_false_iff_ne.mpr c]
   simp only[Bool.false_eq_true,if_false]
   rcases numXs_at (d:=d) r with⟨q1,q2⟩|⟨j,a',t',q1,q2⟩
   ·exact .inl ⟨by rw[q1];rfl,q2⟩
   ·refine .inr ⟨j+1,a',t',by rw[q1];rfl,?_⟩
    rw[show k+(j+1)=k+1+j by omega]
    exact q2
theorem numXs_add {d:D}{a:Addr}{t:Tok}:∀{k:Nat} {xs:List (D×Addr×Value)} {as:List Addr} {ds:List D},NumXs k xs as ds→NumXs k (xs++[(d,a,.int ((k+ds.length:Nat):Int) t)]) (as++[a]) (ds++[d])
 |k,_,_,_,.nil=>.cons .nil
 |k,_,_,_,.cons (ds:=ds) r=>by
  have:=numXs_add (d:=d) (a:=a) (t:=t) r
  rw[show k+1+ds.length=k+(ds.length+1) by omega] at this
  exact .cons this
theorem num_dict {n:Addr}{as:List Addr}{objs:List D}(I:Inv X pins σ H s)(sm:Same G H)(hn:H n=some (.ext (NumAt X.prog X.w n as objs)))(dp:Dps X.K G objs (as.map .ref))(hk:∀d∈objs,okK 8 d=true∧isTp d=true):
  (n==sysModules)=false∧objs.length≤1000000∧∃xs,NumXs 0 xs as objs∧s.heap.DictOfH (treeKind X.prog X.w) n xs:=by
 obtain⟨⟨h1,xs,nx,hl,o,es,ep,ho,hx,hd,he,nd⟩,_⟩:=(show ObjOk X.prog X.w H s.heap n (.ext (NumAt X.prog X.w n as objs)) from I.hok n _ hn)
 exact⟨h1,hl,xs,nx,o,es,ep,ho,hx,hd,he,numXs_is (fun d a q o=>isK_of I sm 8 d _ _ q rfl o) nx dp hk,nd⟩
noncomputable def Vat (X:Cx)(G H:Hp)(x y:V)(d:D)(n:Addr)(as:List Addr)(objs:List D):Prop:=
 y=.ref n∧Same G H∧Dp X.K G d x∧okK 8 d=true∧isTp d=true∧H n=some (.ext (NumAt X.prog X.w n as objs))∧Dps X.K G objs (as.map .ref)∧∀d∈objs,okK 8 d=true∧isTp d=true
theorem isTp_ref {K:Fg}{d:D}{x:V}(h:Dp K G d x)(t:isTp d=true):∃a,x=.ref a:=by
 cases h<;>first|exact⟨_,rfl⟩|cases t
theorem op_vNotIn (hu:X.A.units+100<cLine):OpR X (compareOp .NotIn) (fun x y H Q=>∃G d n as objs,Vat X G H x y d n as objs∧Q (.bl (objs.idxOf? d).isNone) H):=by
 intro pins s σ H x y v u Q I rx ry h
 obtain⟨G,d,n,as,objs,⟨rfl,sm,dx,ok,tp,hn,dp,hk⟩,q⟩:=h
 obtain⟨a,rfl⟩:=isTp_ref dx tp
 cases ry
 cases rx
 obtain⟨h1,hl,xs,nx,dd⟩:=num_dict I sm hn dp hk
 refine wpAny_notIn_heap (show X.A.units+1+64<cLine by omega) (isK_of I sm 8 d _ _ dx rfl ok) h1 dd ⟨.bl (!(atKey xs d).isSome),H,I.tok _,rfl,?_⟩
 rcases numXs_at (d:=d) nx with⟨q1,q2⟩|⟨j,a',t,q1,q2⟩
 ·rw[q1] at q;rw[q2];exact q
 ·rw[q1] at q;rw[q2];exact q
theorem ix_v (hu:X.A.units+100<cLine):IxR X (fun x y H Q=>∃G d n as objs j,Vat X G H y x d n as objs∧objs.idxOf? d=some j∧Q (.int (j:Nat)) H):=by
 intro value slice pins s σ H x y v u Q I rx ry h hs
 obtain⟨G,d,n,as,objs,j,⟨rfl,sm,dx,ok,tp,hn,dp,hk⟩,hj,q⟩:=h
 obtain⟨a,rfl⟩:=isTp_ref dx tp
 cases ry
 cases rx
 obtain⟨h1,hl,xs,nx,dd⟩:=num_dict I sm hn dp hk
 rcases numXs_at (d:=d) nx with⟨q1,q2⟩|⟨j',a',t,q1,q2⟩
 ·rw[hj] at q1;cases q1
 ·rw[hj] at q1
  cases q1
  refine tail_any dd.typeIs PySem.F.slot_dict_getitem.lookup (wpAny_getItem_heap (show X.A.units+1+64<cLine by omega) (isK_of I sm 8 d _ _ dx rfl ok) dd q2 ⟨.int (j:Nat),H,I.tok _,⟨t,?_⟩,q⟩) hs
  rw[Nat.zero_add]
theorem set_v (hu:X.A.units+100<cLine):PSet X (fun o i v H Q=>∃G d n as objs a,Vat X G H i o d n as objs∧i=.ref a∧objs.idxOf? d=Option.none∧objs.length<1000000∧v=.int (objs.length:Nat)∧Q (upd H n (.ext (NumAt X.prog X.w n (as++[a]) (objs++[d]))))):=by
 intro pins s σ H o i v ov iv u Q I ro ri rv h
 obtain⟨G,d,n,as,objs,a,⟨rfl,sm,dx,ok,tp,hn,dp,hk⟩,rfl,hj,hlt,rfl,q⟩:=h
 cases ro
 cases ri
 obtain⟨t,rfl⟩:=rv
 obtain⟨h1,hl,xs,nx,dd⟩:=num_dict I sm hn dp hk
 have hz:xs.length≤sizeLine:=by rw[(numXs_len nx).1,sizeLine_eq];omega
 rcases numXs_at (d:=d) nx with⟨q1,q2⟩|⟨j',a',t',q1,q2⟩
 ·refine wpAny_setItem_heap (hsz:=hz) (show X.A.units+1+64<cLine by omega) (isK_of I sm 8 d _ _ dx rfl ok) dd fun h' dd' hs=>⟨_,?_,q⟩
  obtain⟨ob,es,ep,hq,h2,h3,h4,_,h5⟩:=dd'
  rw[storedH_new q2] at h4 h5
  have nx':=numXs_add (d:=d) (a:=a) (t:=t) nx
  rw[Nat.zero_add] at nx'
  exact I.write (t':=_) (by rw[hn];exact True.intro) (.inl rfl) (fun b w hb e=>(hs.2 b hb).trans e) ⟨ob,hq⟩ ⟨⟨h1,_,nx',by simp;omega,ob,es,ep,hq,h2,h3,h4,h5⟩,⟨ob,hq⟩,fun h1' h2' ⟨y1,ys,y2,y3,yo,yes,yep,y4,y5⟩ k=>⟨y1,ys,y2,y3,yo,yes,yep,k yo y4,y5⟩⟩
 ·rw[hj] at q1;cases q1
end
noncomputable def putF1 (U:Ust):List D→Option (Ust×R)
 |[.hdl h,d]=>(U[h]?).bind fun objs=>if okK 8 d&&isTp d&&decide (objs.length<1000000) then (match objs.idxOf? d with
  |some j=>some (U,.ok (.int (j:Nat)))
  |none=>some (U.set h (objs++[d]),.ok (.int (objs.length:Nat)))) else none
 |_=>none
noncomputable def putFn:FnM:=⟨[false,false],putF1⟩
theorem idxOf_add {d:D}:∀{os:List D},os.idxOf? d=Option.none→(os++[d]).idxOf? d=some os.length
 |[],_=>by simp[List.idxOf?_cons]
 |o::r,h=>by
  rw[List.idxOf?_cons] at h
  rw[List.cons_append,List.idxOf?_cons]
  split at h
  ·cases h
  ·rename_i c
   rw[if_neg c]
   cases q:r.idxOf? d with
   |some j=>rw[q] at h;cases h
   |none=>rw[idxOf_add q];rfl
theorem VS.put {P:Program}{w:World}{K:Fg}{C:Addr}{G H:Hp}{dd:Vd}{U:Ust}(v:VS P w K C G H dd U)(sm:Same G (er H (parts dd))){h:Nat}{a l n dx b:Addr}{objs:List D}{as:List Addr}{d:D}(e:dd[h]?=some (a,l,n))(hU:U[h]?=some objs)(hl:H l=some (.lst (as.map .ref)))
  (hn:H n=some (.ext (NumAt P w n as objs))) (dp:Dps K G objs (as.map .ref)) (hk:∀d∈objs,okK 8 d=true∧isTp d=true) (dv:Dp K G d (.ref b)) (ok:okK 8 d=true) (tp:isTp d=true):
  MExt G H dd G (upd (upd H n (.ext (NumAt P w n (as++[b]) (objs++[d])))) l (.lst ((as++[b]).map .ref))) dd∧VS P w K C G (upd (upd H n (.ext (NumAt P w n (as++[b]) (objs++[d])))) l (.lst ((as++[b]).map .ref))) dd (U.set h (objs++[d])):=by
 obtain⟨ml,mn⟩:=mem_parts e
 have nln:n≠l:=fun z=>by subst z;rw[hl] at hn;cases hn
 have out:∀c,c∉parts dd→upd (upd H n (.ext (NumAt P w n (as++[b]) (objs++[d])))) l (.lst ((as++[b]).map .ref)) c=H c:=fun c hc=>by
  have c1:c≠l:=fun z=>hc (by rw[z];exact ml)
  have c2:c≠n:=fun z=>hc (by rw[z];exact mn)
  rw[upd_ne c1,upd_ne c2]
 have ere:er (upd (upd H n (.ext (NumAt P w n (as++[b]) (objs++[d])))) l (.lst ((as++[b]).map .ref))) (parts dd)=er H (parts dd):=by
  funext c
  by_cases hc:c∈parts dd
  ·rw[er_in hc,er_in hc]
  ·rw[er_out hc,er_out hc,out c hc]
 have hlen:=(List.getElem?_eq_some_iff.mp hU).1
 refine⟨⟨Same.refl _,by rw[ere];exact Same.refl _,by rw[ere];exact sm,fun _ _ h _=>h,List.prefix_refl _,fun c o hc=>?_⟩,⟨by rw[v.len];simp,v.nd,fun h' a' l' n' e'=>?_,fun c C' dx' fs q=>?_,v.out⟩⟩
 ·by_cases c1:c=l
  ·subst c1;exact⟨_,upd_same⟩
  ·rw[upd_ne c1]
   by_cases c2:c=n
   ·subst c2;exact⟨_,upd_same⟩
   ·rw[upd_ne c2];exact⟨o,hc⟩
 ·obtain⟨dx',objs',q1,q2,q3,as',q4,q5,q6,q7⟩:=v.at' h' a' l' n' e'
  have hdx:upd (upd H n (.ext (NumAt P w n (as++[b]) (objs++[d])))) l (.lst ((as++[b]).map .ref)) dx'=some (.own a'):=by
   have c1:dx'≠l:=fun z=>by rw[z,hl] at q3;cases q3
   have c2:dx'≠n:=fun z=>by rw[z,hn] at q3;cases q3
   rw[upd_ne c1,upd_ne c2];exact q3
  by_cases hh:h'=h
  ·subst hh
   rw[e] at e'
   cases e'
   rw[hU] at q1;cases q1
   rw[hl] at q4
   have eas:as'=as:=by
    have z:as.map V.ref=as'.map V.ref:=HO.lst.inj (Option.some.inj q4)
    exact (List.map_inj_right (fun _ _ z=>V.ref.inj z)).mp z.symm
   subst eas
   refine⟨dx',objs++[d],by rw[List.getElem?_set_self hlen],q2,hdx,as'++[b],upd_same,by rw[List.map_append];exact q5.append (.one dv),by rw[upd_ne nln];exact upd_same,fun y hy=>?_⟩
   rcases List.mem_append.mp hy with hy|hy
   ·exact hk y hy
   ·obtain rfl:y=d:=by simpa using hy
    exact⟨ok,tp⟩
  ·have ap:l'≠l∧l'≠n∧n'≠l∧n'≠n:=by
    have key:∀(dd:Vd) (i j:Nat) (p q:Addr×Addr×Addr),(parts dd).Nodup→i<j→dd[i]?=some p→dd[j]?=some q→∀x∈[p.2.1,p.2.2],∀y∈[q.2.1,q.2.2],x≠y:=by
     intro dd
     induction dd with
     |nil=>intro i j p q _ _ h1;simp at h1
     |cons r rs ih=>
      intro i j p q nd hij h1 h2 x hx y hy
      have nd2:([r.2.1,r.2.2]++parts rs).Nodup:=nd
      obtain⟨n1,n2,n3⟩:=List.nodup_append.mp nd2
      cases i with
      |zero=>
       cases j with
       |zero=>exact absurd hij (Nat.lt_irrefl _)
       |succ j=>
        simp at h1;subst h1
        exact n3 x hx y (List.mem_flatMap.mpr ⟨q,List.mem_of_getElem? (by simpa using h2),hy⟩)
      |succ i=>
       cases j with
       |zero=>exact absurd hij (Nat.not_lt_zero _)
       |succ j=>exact ih i j p q n2 (by omega) (by simpa using h1) (by simpa using h2) x hx y hy
    rcases Nat.lt_or_gt_of_ne hh with c|c
    ·have k2:=key dd h' h _ _ v.nd c e' e
     exact⟨k2 _ (by simp) _ (by simp),k2 _ (by simp) _ (by simp),k2 _ (by simp) _ (by simp),k2 _ (by simp) _ (by simp)⟩
    ·have k2:=key dd h h' _ _ v.nd c e e'
     exact⟨(k2 _ (by simp) _ (by simp)).symm,(k2 _ (by simp) _ (by simp)).symm,(k2 _ (by simp) _ (by simp)).symm,(k2 _ (by simp) _ (by simp)).symm⟩
   obtain⟨a1,a2,a3,a4⟩:=ap
   exact⟨dx',objs',by rw[gn0 (Ne.symm hh)];exact q1,q2,hdx,as',by rw[upd_ne a1,upd_ne a2];exact q4,q5,by rw[upd_ne a3,upd_ne a4];exact q6,q7⟩
 ·have:H c=some (.ins C' dx' fs):=by
   by_cases c1:c=l
   ·subst c1;rw[upd_same] at q;cases q
   ·rw[upd_ne c1] at q
    by_cases c2:c=n
    ·subst c2;rw[upd_same] at q;cases q
    ·rw[upd_ne c2] at q;exact q
  exact v.uni c C' dx' fs this
structure PutTxt (st:Stmt):Prop where
 ex:∃p1 p2 p3 p4 p5 p6 p7 p8 p9 p10 p11 p12 p13 p14 p15 p16 p17 p18 p19 p20 p21 p22 p23 p24 p25:Pos,(p16.endLine==p18.line)=true∧defBody st =
  [.If (.Compare (.Name "made" p1) [.NotIn] [.Attribute (.Name "self" p2) "numbers" p3] p4)
   [.Assign [.Subscript (.Attribute (.Name "self" p5) "numbers" p6) (.Name "made" p7) p8] (.Call (.Name "len" p9) [.Attribute (.Name "self" p10) "objects" p11] [] p12) p13,
    .Expr (.Call (.Attribute (.Attribute (.Name "self" p14) "objects" p15) "append" p16) [.Name "made" p17] [] p18) p19] [] p20,
   .Return (some (.Subscript (.Attribute (.Name "self" p21) "numbers" p22) (.Name "made" p23) p24)) p25]
 gl:(defScope st).names.lookup ("len":Str)=some NameKind.globalImplicit
theorem put_ok {P:Program}{w:World}{K:Fg}{mg:Str→Option Value}{base:Heap}{C:Addr}{x qual:Str}{st:Stmt}{f:Addr}{fd:FuncData}(F:Fun K x qual st f fd)(S:FnScope ["self","made"] ["self","made"] (defScope st))(T:PutTxt st)(hlen:mg "len"=none)(hc:Cls K C)(h1:NoAttr K C "objects")(h2:NoAttr K C "numbers"):
  FnOk P w K mg base (CX1 P w) 2 f fd ["self","made"] (Mur P w K C putFn):=by
 obtain⟨oc,od,kV,doc,pm,an,cdv,ct,osl,rfl,lk,hcd⟩:=F.ex
 obtain⟨p1,p2,p3,p4,p5,p6,p7,p8,p9,p10,p11,p12,p13,p14,p15,p16,p17,p18,p19,p20,p21,p22,p23,p24,p25,hline,hbody⟩:=T.ex
 refine fn_of (CX:=CX1 P w) lk hcd S (fun vs H Q E h=>?_) (fun A outer s H vs Q E hr h=>?_)
 ·obtain⟨ds,U,U',r,G,d,h1,_,das,_⟩:=h
  have:ds.length=2:=by
   match ds,h1 with
   |[.hdl h,d],_=>rfl
  rw[←das.length,this];rfl
 ·obtain⟨ds,U,U',r,G,dd,hrun,sm,das,v,kq⟩:=h
  have sm':Same G H:=sm.trans er_same
  have hu:(cxOf (CX1 P w) P w K mg base ["self","made"] qual (defScope st) f cdv A outer s H E).A.units+100<cLine:=by have:=hr.un;show (A.deeper _).units+100<_;omega
  have vself:∀p:Pos,PE (cxOf (CX1 P w) P w K mg base ["self","made"] qual (defScope st) f cdv A outer s H E) (.Name "self" p) (tVar 0):=fun p=>pe_var rfl ((S.par "self" (by simp)).elim .inl fun z=>.inr (.inl z))
  have vmade:∀p:Pos,PE (cxOf (CX1 P w) P w K mg base ["self","made"] qual (defScope st) f cdv A outer s H E) (.Name "made" p) (tVar 1):=fun p=>pe_var rfl ((S.par "made" (by simp)).elim .inl fun z=>.inr (.inl z))
  have num:=fun (p q:Pos)=>pe_fld (pos:=q) (f:="numbers") (vself p) rfl
  have obs:=fun (p q:Pos)=>pe_fld (pos:=q) (f:="objects") (vself p) rfl
  rw[hbody]
  refine⟨_,pss_cons (ps_if (pos:=p20) (pt_cmpR (pos:=p4) (op_vNotIn hu) (vmade p1) (num p2 p3) rfl)
   (pss_cons (ps_asg (pos:=p13) (pe_callB (p:=p9) (pos:=p12) call_len_seq T.gl hlen PySem.boot_len (pa_cons (obs p10 p11) pa_nil)) (pg_sub (pos:=p8) (num p5 p6) (vmade p7) (set_v hu)))
    (pss_cons (ps_expr (pos:=p19) (pe_bm (apos:=p16) (cpos:=p18) PySem.F.plainAttrs_list PySem.F.slot_list_append PySem.F.type_list_append mt_append (obs p14 p15) (pa_cons (vmade p17) pa_nil) rfl rfl hline)) pss_nil)) pss_nil)
   (pss_cons (ps_ret (pos:=p25) (pe_ix (pos:=p24) (ix_v hu) (num p21 p22) (vmade p23) fun _ _=>rfl)) pss_nil),?_⟩
  match ds,hrun,das with
  |[.hdl h,d],hrun,das=>
   obtain⟨va,vb,rfl,da,db⟩:=das.two
   have da:Dp K G (.hdl h) va:=da.dp rfl
   obtain⟨objs,hU,hrun⟩:=bx0 (show (U[h]?).bind _=some (U',r) from hrun)
   split at hrun
   ·rename_i hq
    simp only[be0,decide_eq_true_eq] at hq
    obtain⟨⟨ok,tp⟩,hlt⟩:=hq
    have db:Dp K G d vb:=db.dp (by cases d<;>first|rfl|cases tp)
    obtain⟨b,rfl⟩:=isTp_ref db tp
    obtain⟨a,l,n,dx,objs',rfl,e,hU',hG,hdx,as,hl,dp,hn,hk⟩:=v.hdl sm' da
    rw[hU] at hU';cases hU'
    have hlo:(vfs l n h).lookup ("objects":Str)=some (V.ref l):=rfl
    have hln:(vfs l n h).lookup ("numbers":Str)=some (V.ref n):=rfl
    have fself:(start ["self","made"] [V.ref a,V.ref b])[0]?=some (some (.ref a)):=rfl
    have fmade:(start ["self","made"] [V.ref a,V.ref b])[1]?=some (some (.ref b)):=rfl
    have aslen:as.length=objs.length:=by have:=dp.length;simpa using this.symm
    refine⟨.ref b,fmade,.ref a,fself,a,C,dx,_,_,rfl,sm' _ _ hG,hc,h2,hln,G,d,n,as,objs,⟨rfl,sm',db,ok,tp,hn,dp,hk⟩,?_⟩
    cases hj:objs.idxOf? d with
    |some j=>
     rw[hj] at hrun
     cases hrun
     refine⟨false,rfl,iteF ⟨.ref a,fself,a,C,dx,_,_,rfl,sm' _ _ hG,hc,h2,hln,.ref b,fmade,G,d,n,as,objs,j,⟨rfl,sm',db,ok,tp,hn,dp,hk⟩,hj,?_⟩⟩
     exact kq _ G H dd (.refl sm) v (.int _)
    |none=>
     rw[hj] at hrun
     cases hrun
     have nln:n≠l:=fun z=>by subst z;rw[hl] at hn;cases hn
     have anl:a≠l:=fun z=>by rw[z] at hG;rw[sm' _ _ hG] at hl;cases hl
     have ann:a≠n:=fun z=>by rw[z] at hG;rw[sm' _ _ hG] at hn;cases hn
     refine⟨true,rfl,iteT ?_⟩
     refine⟨.ref a,fself,a,C,dx,_,_,rfl,sm' _ _ hG,hc,h1,hlo,l,as.map .ref,rfl,.inl (SqL.of hl),.ref a,fself,a,C,dx,_,_,rfl,sm' _ _ hG,hc,h2,hln,.ref b,fmade,G,d,n,as,objs,b,⟨rfl,sm',db,ok,tp,hn,dp,hk⟩,rfl,hj,hlt,by rw[lm0,aslen],?_⟩
     obtain⟨mx,v2⟩:=v.put sm (dx:=dx) e hU hl hn dp hk db ok tp
     refine⟨.ref a,fself,a,C,dx,_,_,rfl,by rw[upd_ne ann];exact sm' _ _ hG,hc,h1,hlo,.inl ⟨rfl,as.map .ref,SqL.of (by rw[upd_ne (Ne.symm nln)];exact hl)⟩,.ref b,fmade,l,as.map .ref,.ref b,rfl,rfl,by rw[upd_ne (Ne.symm nln)];exact hl,by rw[lm0,aslen,sizeLine_eq];omega,?_⟩
     have eas:(as.map V.ref++[V.ref b])=(as++[b]).map V.ref:=by simp
     rw[eas]
     have sm2:=mx.gh.trans er_same
     refine⟨.ref a,fself,a,C,dx,_,_,rfl,sm2 _ _ hG,hc,h2,hln,.ref b,fmade,G,d,n,as++[b],objs++[d],objs.length,⟨rfl,sm2,db,ok,tp,by rw[upd_ne nln];exact upd_same,by rw[List.map_append];exact dp.append (.one db),fun y hy=>?_⟩,idxOf_add hj,kq _ G _ dd mx v2 (.int _)⟩
     rcases List.mem_append.mp hy with hy|hy
     ·exact hk y hy
     ·obtain rfl:y=d:=by simpa using hy
      exact⟨ok,tp⟩
   ·cases hrun
noncomputable def insO (C dx l n:Addr):HO:=.ins C dx [("objects",.ref l),("numbers",.ref n)]
noncomputable def initH (C x dx l n:Addr)(H:Hp):Hp:=upd (upd (upd (upd H l (.lst [])) x (.ins C dx [("objects",.ref l)])) n (.dK [])) x (insO C dx l n)
noncomputable def spInit (C:Addr):Sp:=fun vs H Q _=>∃x dx,vs=[.ref x]∧H x=some (.ins C dx [])∧∀l n,H l=none→H n=none→l≠n→Q .non (initH C x dx l n H)
structure InitTxt (st:Stmt):Prop where
 ex:∃p1 p2 p3 p4 p5 p6 p7 p8:Pos,defBody st=[.Assign [.Attribute (.Name "self" p1) "objects" p2] (.List [] p3) p4,.Assign [.Attribute (.Name "self" p5) "numbers" p6] (.Dict [] [] p7) p8]
theorem init_ok {P:Program}{w:World}{K:Fg}{mg:Str→Option Value}{base:Heap}{C:Addr}{x qual:Str}{st:Stmt}{f:Addr}{fd:FuncData}(F:Fun K x qual st f fd)(S:FnScope ["self"] ["self"] (defScope st))(T:InitTxt st)(hc:Cls K C)(h1:NoAttr K C "objects")(h2:NoAttr K C "numbers"):
  FnOk P w K mg base CX0 1 f fd ["self"] (spInit C):=by
 obtain⟨p1,p2,p3,p4,p5,p6,p7,p8,hbody⟩:=T.ex
 refine F.ok S (fun vs H Q E h=>?_) (fun cdv A outer s H vs Q E hr h=>?_)
 ·obtain⟨x,dx,rfl,_⟩:=h;rfl
 ·obtain⟨x,dx,rfl,hx,q⟩:=h
  have vself:∀p:Pos,PE (cxOf CX0 P w K mg base ["self"] qual (defScope st) f cdv A outer s H E).nox (.Name "self" p) (tVar 0):=fun p=>pe_var rfl ((S.par "self" (by simp)).elim .inl fun z=>.inr (.inl z))
  rw[hbody]
  refine⟨_,pss_cons (ps_fld (pos:=p4) (pos':=p2) (f:="objects") (vself p1) (pe_lst (pos:=p3) pa_nil) rfl) (pss_cons (ps_fld (pos:=p8) (pos':=p6) (f:="numbers") (vself p5) (pe_dnewK (pos:=p7)) rfl) pss_nil),?_⟩
  refine⟨Nat.zero_le _,fun l hl=>⟨.ref x,rfl,x,C,dx,[],rfl,?_,hc,h1,by decide,fun n hn=>⟨.ref x,rfl,x,C,dx,[("objects",.ref l)],rfl,?_,hc,h2,(show 1<1000 by decide),?_⟩⟩⟩
  ·rw[upd_ne (ne_of_none hx hl)];exact hx
  ·have nx:n≠x:=fun z=>by subst z;rw[upd_same] at hn;cases hn
   rw[upd_ne (Ne.symm nx)];exact upd_same
  ·have nx:n≠x:=fun z=>by subst z;rw[upd_same] at hn;cases hn
   rw[upd_ne nx] at hn
   have nl:n≠l:=fun z=>by subst z;rw[upd_same] at hn;cases hn
   rw[upd_ne nl] at hn
   exact q l n hl hn (Ne.symm nl)
theorem vfs_look (l n:Addr)(h:Nat)(f:Str):(vfs l n h).lookup f=([("objects",.ref l),("numbers",.ref n)]:List (Str×V)).lookup f:=by
 unfold vfs
 simp only[List.lookup_cons]
 cases c:f==("objects":Str) with
 |true=>rfl
 |false=>
  cases c2:f==("numbers":Str) with
  |true=>rfl
  |false=>rfl
structure VaultZ (P:Program)(w:World)(K:Fg)(mg:Str→Option Value)(base:Heap)(C:Addr)(vn:Str):Prop where
 ex:∃f fd,Mk K C f∧mg vn=some (.ref C)∧(vn==("__debug__":Str))=false∧Binds K fd ["self"] []∧FnOk P w K mg base CX0 1 f fd ["self"] (spInit C)
theorem evM_new {X:Cx}{C:Addr}{vn:Str}{ρ:List Sl}{U:Ust}{p pos:Pos}(Z:VaultZ X.prog X.w X.K X.mg X.base C vn)(hr:Room 2 X.A)(hg:Gl X vn):EvM X C ρ U (.Call (.Name vn p) [] [] pos) (.ok (.hdl U.length)) (U++[[]]):=by
 obtain⟨f,fd,hM,hm,hdb,hb,F⟩:=Z.ex
 intro pins s σ H Q I h0
 obtain⟨G0,H0,d0,G,d,E,kq⟩:=h0
 refine thn (pe_make0 (p:=p) (pos:=pos) hM F hr hg hm hb .nil pass0 hdb pins s σ H (fun v H2=>∃x dx l n,v=.ref x∧H x=none∧H dx=none∧dx≠x∧l≠x∧n≠x∧l≠dx∧n≠dx∧l≠n∧H l=none∧H n=none∧H2=initH C x dx l n (upd (upd H dx (.own x)) x (.ins C dx []))) I ?_) fun u s2 hq=>?_
 ·intro x dx hx hdx hne
  refine⟨x,dx,rfl,upd_same,fun l n hl hn hln=>⟨rfl,x,dx,l,n,rfl,hx,hdx,hne,?_⟩⟩
  have l1:l≠x:=fun z=>by subst z;rw[upd_same] at hl;cases hl
  rw[upd_ne l1] at hl
  have l2:l≠dx:=fun z=>by subst z;rw[upd_same] at hl;cases hl
  rw[upd_ne l2] at hl
  have n1:n≠x:=fun z=>by subst z;rw[upd_same] at hn;cases hn
  rw[upd_ne n1] at hn
  have n2:n≠dx:=fun z=>by subst z;rw[upd_same] at hn;cases hn
  rw[upd_ne n2] at hn
  exact⟨l1,n1,l2,n2,hln,hl,hn,rfl⟩
 ·obtain⟨v,H2,I2,rv,x,dx,l,n,rfl,hx,hdx,hne,l1,n1,l2,n2,hln,hl,hn,rfl⟩:=hq
  generalize hH2:initH C x dx l n (upd (upd H dx (.own x)) x (.ins C dx []))=H2 at I2
  have at_x:H2 x=some (insO C dx l n):=by rw[←hH2];exact upd_same
  have at_n:H2 n=some (.dK []):=by rw[←hH2];unfold initH;rw[upd_ne n1];exact upd_same
  have at_l:H2 l=some (.lst []):=by rw[←hH2];unfold initH;rw[upd_ne l1,upd_ne hln,upd_ne l1];exact upd_same
  have at_dx:H2 dx=some (.own x):=by rw[←hH2];unfold initH;rw[upd_ne hne,upd_ne (Ne.symm n2),upd_ne hne,upd_ne (Ne.symm l2),upd_ne hne];exact upd_same
  have other:∀b,b≠x→b≠dx→b≠l→b≠n→H2 b=H b:=fun b b1 b2 b3 b4=>by rw[←hH2];unfold initH;rw[upd_ne b1,upd_ne b4,upd_ne b1,upd_ne b3,upd_ne b1,upd_ne b2]
  obtain⟨_,hsm,vs,kv,⟨o,es,ep,ho,hex,hdt,_,hpr,_⟩⟩:=(show ObjOk X.prog X.w H2 s2.heap n (.dK []) from I2.hok n _ at_n)
  have hvs:vs=[]:=by cases kv;rfl
  subst hvs
  have hes:es.toList=[]:=by cases q:es.toList with|nil=>rfl|cons a r=>rw[q] at hpr;cases hpr
  have num:NumAt X.prog X.w n [] [] s2.heap:=⟨hsm,[],.nil,by decide,o,es,ep,ho,hex,hdt,hes,List.nodup_nil⟩
  have I3:Inv X pins σ (upd H2 n (.ext (NumAt X.prog X.w n [] []))) {s2 with heap:=s2.heap,toks:=s2.toks}:=I2.write (x:=n) (e:=n) (by rw[at_n];exact True.intro) (.inl rfl) (fun b w _ e=>e) ⟨o,ho⟩
   ⟨num,⟨o,ho⟩,fun h1' h2' ⟨y1,ys,y2,y3,yo,yes,yep,y4,y5⟩ k=>⟨y1,ys,y2,y3,yo,yes,yep,k yo y4,y5⟩⟩
  generalize hH3:upd H2 n (.ext (NumAt X.prog X.w n [] []))=H3 at I3
  have b_x:H3 x=some (insO C dx l n):=by rw[←hH3,upd_ne (Ne.symm n1)];exact at_x
  have b_dx:H3 dx=some (.own x):=by rw[←hH3,upd_ne (Ne.symm n2)];exact at_dx
  obtain⟨z1,z2,z3,z4,mA,z5,z6,z7⟩:=(show ObjOk X.prog X.w H3 s2.heap x (insO C dx l n) from I3.hok x _ b_x)
  have I4:Inv X pins σ (upd H3 x (.ins C dx (vfs l n U.length))) {s2 with heap:=s2.heap,toks:=s2.toks}:=I3.write (x:=x) (e:=x) (by rw[b_x];exact True.intro) (.inl rfl) (fun b w _ e=>e) ⟨_,z4⟩
   ⟨by rw[upd_ne hne];exact b_dx,(show 3≤1000 by decide),z3,z4,mA,z5,fun f=>by rw[vfs_look];exact z6 f,fun f hf=>by
    have:=z7 f hf
    simp only[List.map_cons,List.map_nil,List.mem_cons,List.not_mem_nil,or_false] at this
    unfold vfs
    rcases this with z|z
    ·exact List.mem_cons.mpr (.inl z)
    ·exact mc0 _ (List.mem_cons.mpr (.inl z))⟩
  generalize hH4:upd H3 x (.ins C dx (vfs l n U.length))=H4 at I4
  have c_x:H4 x=some (.ins C dx (vfs l n U.length)):=by rw[←hH4];exact upd_same
  have c_dx:H4 dx=some (.own x):=by rw[←hH4,upd_ne hne];exact b_dx
  have c_n:H4 n=some (.ext (NumAt X.prog X.w n [] [])):=by rw[←hH4,upd_ne n1,←hH3];exact upd_same
  have c_l:H4 l=some (.lst []):=by rw[←hH4,upd_ne l1,←hH3,upd_ne hln];exact at_l
  have c_o:∀b,b≠x→b≠dx→b≠l→b≠n→H4 b=H b:=fun b b1 b2 b3 b4=>by rw[←hH4,upd_ne b1,←hH3,upd_ne b4];exact other b b1 b2 b3 b4
  have keep:∀b o,H b=some o→H4 b=some o:=fun b o e=>by
   rw[c_o b (ne_of_none e hx) (ne_of_none e hdx) (ne_of_none e hl) (ne_of_none e hn)];exact e
  have hlen:=E.vs.len
  let G':Hp:=upd G x (.ins C dx (vfs l n U.length))
  have gx:∀b,H b=none→G b=none:=fun b hb=>E.sub.free hb
  have gg:Same G G':=same_upd (gx x hx)
  have pd:parts (d++[(x,l,n)])=parts d++[l,n]:=by unfold parts;rw[List.flatMap_append];rfl
  have nl:∀b,H b=none→b∉parts d:=fun b hb z=>by
   obtain⟨o,ho⟩:=E.vs.part z
   rw[hb] at ho;cases ho
  have hh:Same (er H (parts d)) (er H4 (parts (d++[(x,l,n)]))):=fun b o e=>by
   obtain⟨e1,e2⟩:=er_some e
   rw[er_out (by
           rw[pd];intro z;rcases List.mem_append.mp z with z|z
           ·exact e1 z
           ·simp only[List.mem_cons,List.not_mem_nil,or_false] at z
            rcases z with rfl|rfl
            ·rw[hl] at e2;cases e2
            ·rw[hn] at e2;cases e2)]
   exact keep b o e2
  have mx:MExt G H d G' H4 (d++[(x,l,n)]):=by
   refine⟨gg,hh,fun b o e=>?_,fun b o e1 e2=>?_,List.prefix_append _ _,fun b o e=>⟨o,keep b o e⟩⟩
   ·by_cases c:b=x
    ·subst c
     have e:upd G b (.ins C dx (vfs l n U.length)) b=some o:=e
     rw[upd_same] at e
     cases e
     rw[er_out (by
             rw[pd];intro z;rcases List.mem_append.mp z with z|z
             ·exact nl b hx z
             ·simp only[List.mem_cons,List.not_mem_nil,or_false] at z
              rcases z with z|z
              ·exact l1 z.symm
              ·exact n1 z.symm)]
     exact c_x
    ·have e:upd G x (.ins C dx (vfs l n U.length)) b=some o:=e
     rw[upd_ne c] at e
     exact hh b o (E.sub' b o e)
   ·show upd G x (.ins C dx (vfs l n U.length)) b=none
    rw[upd_ne (ne_of_none e2 hx)];exact e1
  have v':VS X.prog X.w X.K C G' H4 (d++[(x,l,n)]) (U++[[]]):=by
   refine⟨by simp[hlen],?_,fun h a l' n' e=>?_,fun a C' dx' fs q=>?_,fun b hb=>?_⟩
   ·rw[pd]
    refine List.nodup_append.mpr ⟨E.vs.nd,by simp[hln],fun a ha b hb z=>?_⟩
    subst z
    simp only[List.mem_cons,List.not_mem_nil,or_false] at hb
    rcases hb with rfl|rfl
    ·exact nl _ hl ha
    ·exact nl _ hn ha
   ·by_cases hlt:h<d.length
    ·rw[List.getElem?_append_left hlt] at e
     obtain⟨dx',objs,q1,q2,q3,as,q4,q5,q6,q7⟩:=E.vs.at' h a l' n' e
     exact⟨dx',objs,by rw[List.getElem?_append_left (by rw[←hlen];exact hlt)];exact q1,gg _ _ q2,keep _ _ q3,as,keep _ _ q4,q5.mono gg,keep _ _ q6,q7⟩
    ·rw[List.getElem?_append_right (by omega)] at e
     have h0:h-d.length=0:=by
      have:=(List.getElem?_eq_some_iff.mp e).1
      simp at this;omega
     rw[h0] at e
     cases e
     have eh:h=U.length:=by omega
     subst eh
     refine⟨dx,[],by simp,upd_same,c_dx,[],c_l,.nil,c_n,fun _ z=>by cases z⟩
   ·by_cases c:a=x
    ·subst c
     exact⟨d.length,l,n,by simp⟩
    ·have q':H a=some (.ins C' dx' fs):=by
      by_cases c1:a=dx
      ·subst c1;rw[c_dx] at q;cases q
      by_cases c2:a=l
      ·subst c2;rw[c_l] at q;cases q
      by_cases c3:a=n
      ·subst c3;rw[c_n] at q;cases q
      rw[c_o a c c1 c2 c3] at q;exact q
     obtain⟨h,l',n',e⟩:=E.vs.uni a C' dx' fs q'
     exact⟨h,l',n',by rw[List.getElem?_append_left (List.getElem?_eq_some_iff.mp e).1];exact e⟩
   ·show upd G x (.ins C dx (vfs l n U.length)) b=none
    rw[pd] at hb
    rcases List.mem_append.mp hb with hb|hb
    ·rw[upd_ne (fun z=>by subst z;exact nl _ hx hb)];exact E.vs.out b hb
    ·simp only[List.mem_cons,List.not_mem_nil,or_false] at hb
     rcases hb with rfl|rfl
     ·rw[upd_ne l1];exact gx _ hl
     ·rw[upd_ne n1];exact gx _ hn
  exact⟨.ref x,H4,I4,rv,kq (.ref x) G' H4 _ mx v' (.hdl (show upd G x (.ins C dx (vfs l n U.length)) x=_ from upd_same))⟩
end L2.Z
namespace M1
open PySem PySem.Builtin PySem.Builtin.Str
theorem ext {a b:Str}(h:a.cps.toList=b.cps.toList):a=b:=by
 cases a;cases b
 congr 1
 exact Array.toList_inj.mp h
theorem toL_append (a b:Str):(a++b).cps.toList=a.cps.toList++b.cps.toList:=by
 show (a.cps++b.cps).toList=_
 simp
theorem toL_join (c:Nat)(x y:Str)(r:List Str):(Str.join ⟨#[c]⟩ (x::y::r)).cps.toList=x.cps.toList++c::(Str.join ⟨#[c]⟩ (y::r)).cps.toList:=by
 show (x++⟨#[c]⟩++Str.join ⟨#[c]⟩ (y::r)).cps.toList=_
 rw[toL_append,toL_append]
 simp
theorem cut {c:Nat}:∀{a b r s:List Nat},c∉a→c∉b→a++c::r=b++c::s→a=b∧r=s
 |[],[],_,_,_,_,h=>by simpa using h
 |[],b::bs,_,_,_,hb,h=>by
  simp at h
  exact absurd (h.1▸ms0) hb
 |a::as,[],_,_,ha,_,h=>by
  simp at h
  exact absurd (h.1▸ms0) ha
 |a::as,b::bs,r,s,ha,hb,h=>by
  simp only[List.cons_append,List.cons.injEq] at h
  obtain⟨h1,h2⟩:=cut (fun z=>ha (mc0 _ z)) (fun z=>hb (mc0 _ z)) h.2
  exact⟨by rw[h.1,h1],h2⟩
theorem join_unique (c:Nat):∀ys zs:List Str,ys≠[]→zs≠[]→(∀p∈ys,c∉p.cps.toList)→(∀p∈zs,c∉p.cps.toList)→Str.join ⟨#[c]⟩ ys=Str.join ⟨#[c]⟩ zs→ys=zs
 |[],_,h,_,_,_,_=>absurd rfl h
 |_,[],_,h,_,_,_=>absurd rfl h
 |[y],[z],_,_,_,_,h=>by rw[show y=z from h]
 |[y],z::z2::zs,_,_,hy,hz,h=>by
  exfalso
  have e:=congrArg (fun t:Str=>t.cps.toList) h
  simp only[toL_join] at e
  have e':y.cps.toList=z.cps.toList++c::(Str.join ⟨#[c]⟩ (z2::zs)).cps.toList:=e
  refine hy y ms0 ?_
  rw[e'];simp
 |y::y2::ys,[z],_,_,hy,hz,h=>by
  exfalso
  have e:=congrArg (fun t:Str=>t.cps.toList) h
  simp only[toL_join] at e
  have e':y.cps.toList++c::(Str.join ⟨#[c]⟩ (y2::ys)).cps.toList=z.cps.toList:=e
  refine hz z ms0 ?_
  rw[←e'];simp
 |y::y2::ys,z::z2::zs,_,_,hy,hz,h=>by
  have e:=congrArg (fun t:Str=>t.cps.toList) h
  simp only[toL_join] at e
  obtain⟨e1,e2⟩:=cut (hy y ms0) (hz z ms0) e
  have:=join_unique c (y2::ys) (z2::zs) (by simp) (by simp) (fun p hp=>hy p (mc0 _ hp)) (fun p hp=>hz p (mc0 _ hp)) (ext e2)
  rw[ext e1,this]
theorem split_ne (x:Str)(c:Nat):Txt.split x ⟨#[c]⟩≠[]:=by
 unfold Txt.split
 split
 ·simp
 ·split
  ·simp
  ·rw[StrLaws.partsBetween_eq]
   obtain⟨p,r,e⟩:=StrLaws.partsFrom_ne x (⟨#[c]⟩:Str).length 0 (occurrences x ⟨#[c]⟩ 0 x.length (x.length+1))
   rw[e];simp
theorem split_join (c:Nat)(zs:List Str)(hz:zs≠[])(hf:∀p∈zs,c∉p.cps.toList):Txt.split (Str.join ⟨#[c]⟩ zs) ⟨#[c]⟩=zs:=
 join_unique c _ zs (split_ne _ c) hz (StrLaws.split_free _ c) hf (StrLaws.join_split _ _)
noncomputable def nl:Str:=⟨#[10]⟩
theorem join_empty:∀ls:List Str,(Txt.join Str.empty ls).cps.toList=(ls.map fun p=>p.cps.toList).flatten:=by
 intro ls
 show (glued Str.empty ls).cps.toList=_
 rw[StrLaws.glued_eq_join]
 induction ls with
 |nil=>rfl
 |cons x r ih=>
  cases r with
  |nil=>show x.cps.toList=_;simp
  |cons y r=>
   show (x++Str.empty++Str.join Str.empty (y::r)).cps.toList=_
   rw[toL_append,toL_append,ih]
   show x.cps.toList++[]++_=_
   simp
end M1
set_option maxRecDepth 10000
namespace TX
open PySem SI
noncomputable def d_l_cell:Def:=⟨[true,true],2,(.cons (.ifs (.v 0) (.cons (.ret (.idx (.v 0) (.op .mod (.v 1) (.bi .len (.cons (.v 0) .nil))))) .nil) .nil) (.cons (.ret (.k (.int 0))) .nil))⟩
noncomputable def d_l_mix:Def:=⟨[true,true],3,(.cons (.set 2 (.op .mod (.op .add (.call "_law_cell" (.cons (.v 0) (.cons (.v 1) .nil))) (.op .mul (.k (.int 104729)) (.op .add (.v 1) (.k (.int 1))))) (.k (.int 4294967291)))) (.cons (.set 2 (.op .mod (.op .mul (.v 2) (.k (.int 48271))) (.k (.int 4294967279)))) (.cons (.ret (.op .mod (.op .add (.op .mul (.op .fdiv (.v 2) (.k (.int 64))) (.k (.int 69621))) (.v 2)) (.k (.int 4294967231)))) .nil)))⟩
noncomputable def d_l_sign:Def:=⟨[true],3,(.cons (.set 1 (.k (.str ⟨#[32,33,34,35,36,38,39,40,41,42,43,44,45,46,47,48,49,50,51,52,53,54,55,56,57,58,59,60,61,62,63,64,65,66,67,68,69,70,71,72,73,74,75,76,77,78,79]⟩))) (.cons (.set 2 (.k (.str ⟨#[80,81,82,83,84,85,86,87,88,89,90,91,92,93,94,95,96,97,98,99,100,101,102,103,104,105,106,107,108,109,110,111,112,113,114,115,116,117,118,119,120,121,122,123,124,125,126]⟩))) (.cons (.ret (.idx (.op .add (.v 1) (.v 2)) (.op .mod (.v 0) (.k (.int 94))))) .nil)))⟩
noncomputable def d_l_line:Def:=⟨[true,true],3,(.cons (.set 2 (.call "_law_mix" (.cons (.v 0) (.cons (.v 1) .nil)))) (.cons (.ifs (.cmp .eq (.op .mod (.v 2) (.k (.int 4))) (.k (.int 3))) (.cons (.ret (.op .add (.call "_law_sign" (.cons (.op .fdiv (.v 2) (.k (.int 4))) .nil)) (.call "_law_sign" (.cons (.op .fdiv (.v 2) (.k (.int 376))) .nil)))) .nil) .nil) (.cons (.ret (.idx (.lst (.cons (.k (.str ⟨#[97]⟩)) (.cons (.k (.str ⟨#[98]⟩)) (.cons (.k (.str ⟨#[]⟩)) (.cons (.k (.str ⟨#[97,32,98]⟩)) (.cons (.k (.str ⟨#[124]⟩)) (.cons (.k (.str ⟨#[99]⟩)) .nil))))))) (.op .mod (.op .fdiv (.v 2) (.k (.int 4))) (.k (.int 6))))) .nil)))⟩
noncomputable def d_l_ends:Def:=⟨[true,true],3,(.cons (.new 2 (.comp 1 [] (.one 0) (.seq (.v 0)) .nil (.op .add (.v 0) (.k (.str ⟨#[10]⟩))))) (.cons (.ifs (.and (.v 1) (.and (.v 0) (.cmp .ne (.idx (.v 0) (.neg (.k (.int 1)))) (.k (.str ⟨#[]⟩))))) (.cons (.seti 2 (.neg (.k (.int 1))) (.idx (.v 0) (.neg (.k (.int 1))))) .nil) .nil) (.cons (.ret (.v 2)) .nil)))⟩
noncomputable def d_l_row:Def:=⟨[true,true,true],3,(.cons (.ret (.comp 1 [1,0] (.one 0) (.rng (.v 2)) .nil (.call "_law_line" (.cons (.v 2) (.cons (.op .add (.v 1) (.v 0)) .nil))))) .nil)⟩
noncomputable def d_l_whole:Def:=⟨[true],1,(.cons (.ret (.and (.isi (.v 0) "int") (.not (.isi (.v 0) "bool")))) .nil)⟩
variable {Φ:Fs}{Γ:List (Str×D)}
noncomputable def ans (Φ:Fs)(Γ:List (Str×D))(d:Def)(ds:List D):Option D:=(exs Φ Γ (startR d ds) d.body).bind Out.val
noncomputable def Has (Φ:Fs)(f:Str)(fl:List Bool)(P:(List D→Option D)→Prop):Prop:=∃run,Φ f=some ⟨fl,run⟩∧P run
noncomputable def cellF (ns:List Int)(k:Int):Int:=if ns=[] then 0 else (ns[(k % ns.length).toNat]?).getD 0
theorem mod_len {ns:List Int}(h:ns≠[])(k:Int):0≤k % (ns.length:Int)∧k % (ns.length:Int)<ns.length:=by
 have:0<ns.length:=List.length_pos_iff.mpr h
 exact⟨Int.emod_nonneg _ (by omega),Int.emod_lt_of_pos _ (by omega)⟩
theorem atI_pos {α:Type}{xs:List α}{i:Int}(h0:0≤i)(h1:i<xs.length):atI xs i=xs[i.toNat]?:=by
 unfold atI ixN
 rw[if_pos h0,if_pos h1];rfl
theorem get_of_lt {α:Type}{xs:List α}{i:Nat}(d:α)(h:i<xs.length):xs[i]?=some (xs[i]?.getD d):=by
 rw[ge0 h];rfl
theorem cell_run (ns:List Int)(k:Int):ans Φ Γ d_l_cell [.scr ns,.int k]=some (.int (cellF ns k)):=by
 by_cases h:ns=[]
 ·subst h;simp[ans,d_l_cell,cellF]
 ·have hl:0<ns.length:=List.length_pos_iff.mpr h
  have hm:=mod_len h k
  have e:atI ns (k % (ns.length:Int))=some (cellF ns k):=by
   rw[atI_pos hm.1 hm.2,get_of_lt 0 (by omega)]
   simp[cellF,h]
  simp[ans,d_l_cell,h,hl,e]
end TX
namespace TX
open PySem SI M1
variable {Φ:Fs}{Γ:List (Str×D)}
noncomputable def mixF (ns:List Int)(k:Int):Int:=
 let a:=(cellF ns k+104729*(k+1)) % 4294967291
 let b:=a*48271 % 4294967279
 (b / 64*69621+b) % 4294967231
noncomputable abbrev HCell (Φ:Fs):Prop:=Has Φ "_law_cell" [true,true] fun run=>∀ns k,run [.scr ns,.int k]=some (.int (cellF ns k))
noncomputable abbrev HMix (Φ:Fs):Prop:=Has Φ "_law_mix" [true,true] fun run=>∀ns k,run [.scr ns,.int k]=some (.int (mixF ns k))
theorem cMul_r (i:Int)(j:Int)(h1:-(2 ^ 64)<j)(h2:j<2 ^ 64):cMul i j=true:=by
 unfold cMul;rw[decide_eq_true h1,decide_eq_true h2];simp
theorem cMul_l (i:Int)(j:Int)(h1:-(2 ^ 64)<i)(h2:i<2 ^ 64):cMul i j=true:=by
 unfold cMul;rw[decide_eq_true h1,decide_eq_true h2];simp
theorem mix_run (hc:HCell Φ)(ns:List Int)(k:Int):ans Φ Γ d_l_mix [.scr ns,.int k]=some (.int (mixF ns k)):=by
 obtain⟨run,h,hs⟩:=hc
 simp[ans,d_l_mix,h,hs,cMul_l 104729,cMul_r _ 48271,cMul_r _ 69621,mixF]
theorem mix_nonneg (ns:List Int)(k:Int):0≤mixF ns k:=Int.emod_nonneg _ (by decide)
theorem mix_mod (ns:List Int)(k:Int)(m:Int)(h:0<m):0≤mixF ns k % m∧mixF ns k % m<m:=⟨Int.emod_nonneg _ (by omega),Int.emod_lt_of_pos _ h⟩
noncomputable def tbl:List Nat:=[32,33,34,35,36,38,39,40,41,42,43,44,45,46,47,48,49,50,51,52,53,54,55,56,57,58,59,60,61,62,63,64,65,66,67,68,69,70,71,72,73,74,75,76,77,78,79,80,81,82,83,84,85,86,87,88,89,90,91,92,93,94,95,96,97,98,99,100,101,102,103,104,105,106,107,108,109,110,111,112,113,114,115,116,117,118,119,120,121,122,123,124,125,126]
noncomputable def codeF (n:Int):Nat:=(tbl[(n % 94).toNat]?).getD 0
noncomputable def signF (n:Int):Str:=⟨#[codeF n]⟩
theorem codeF_mem (n:Int):codeF n∈tbl:=by
 have h1:=Int.emod_nonneg n (b:=94) (by decide)
 have h2:=Int.emod_lt_of_pos n (b:=94) (by decide)
 have hl:(n % 94).toNat<tbl.length:=by
  have:tbl.length=94:=by decide
  omega
 unfold codeF
 rw[ge0 hl]
 exact List.getElem_mem hl
theorem tbl_ok:∀c∈tbl,32≤c∧c≤126∧c≠37:=by decide
noncomputable abbrev HSign (Φ:Fs):Prop:=Has Φ "_law_sign" [true] fun run=>∀n,run [.int n]=some (.str (signF n))
theorem sign_run (n:Int):ans Φ Γ d_l_sign [.int n]=some (.str (signF n)):=by
 have h1:=Int.emod_nonneg n (b:=94) (by decide)
 have h2:=Int.emod_lt_of_pos n (b:=94) (by decide)
 have e:atI tbl (n % 94)=some (codeF n):=by
  have hl:tbl.length=94:=by decide
  rw[atI_pos h1 (by rw[hl];exact_mod_cast h2),get_of_lt 0 (by omega)];rfl
 have e2:∀(x y:Str) (h:(x++y).cps.toList=tbl),atI (x++y).cps.toList (n % 94)=some (codeF n):=fun x y h=>by rw[h];exact e
 simp[ans,d_l_sign]
 rw[if_pos (by decide)]
 simp
 rw[if_pos (by decide),e2 _ _ (by decide)]
 rfl
variable {Φ:Fs}{Γ:List (Str×D)}
theorem compL_map {β:Type}{f:D→Option (Option D)}{inj g:β→D}:∀{xs:List β},(∀x∈xs,f (inj x)=some (some (g x)))→compL f (xs.map inj)=some (xs.map g)
 |[],_=>rfl
 |x::r,h=>by
  show (f (inj x)).bind _=_
  rw[h x ms0]
  show (compL f (r.map inj)).map _=_
  rw[compL_map fun y hy=>h y (mc0 _ hy)];rfl
theorem strsOf_map:∀ys:List Str,strsOf (ys.map .str)=some ys
 |[]=>rfl
 |y::r=>by show (strsOf (r.map .str)).map _=_;rw[strsOf_map r];rfl
theorem atI_some {α:Type}{xs:List α}{i:Int}(d:α)(h0:0≤i)(h1:i<xs.length):atI xs i=some (xs[i.toNat]?.getD d):=by
 rw[atI_pos h0 h1,←get_of_lt d (by omega)]
structure Clean (n:Nat)(x:Str):Prop where
 free:10∉x.cps.toList
 short:x.length≤n
theorem len_list' (x:Str):x.length=x.cps.toList.length:=by show x.cps.size=_;simp
theorem clean_sign (n:Int):Clean 1 (signF n):=⟨by
 show 10∉[codeF n]
 intro h
 have:=tbl_ok _ (codeF_mem n)
 rw[←List.mem_singleton.mp h] at this
 omega,nr0 _⟩
theorem Clean.append {n m:Nat}{x y:Str}(hx:Clean n x)(hy:Clean m y):Clean (n+m) (x++y):=⟨by
 rw[toL_append,List.mem_append]
 exact fun h=>h.elim hx.free hy.free,by rw[Str.length_append];have:=hx.short;have:=hy.short;omega⟩
theorem Clean.mono {n m:Nat}{x:Str}(h:Clean n x)(hm:n≤m):Clean m x:=⟨h.free,nt0 h.short hm⟩
noncomputable def menu:List Str:=[⟨#[97]⟩,⟨#[98]⟩,⟨#[]⟩,⟨#[97,32,98]⟩,⟨#[124]⟩,⟨#[99]⟩]
theorem menu_ok:∀x∈menu,Clean 3 x:=by
 intro x hx
 simp only[menu,List.mem_cons,List.not_mem_nil,or_false] at hx
 rcases hx with rfl|rfl|rfl|rfl|rfl|rfl<;>exact⟨by decide,by decide⟩
noncomputable def lineF (ns:List Int)(k:Int):Str:=
 if mixF ns k % 4=3 then signF (mixF ns k / 4)++signF (mixF ns k / 376) else (menu[(mixF ns k / 4 % 6).toNat]?).getD Str.empty
theorem line_clean (ns:List Int)(k:Int):Clean 3 (lineF ns k):=by
 unfold lineF
 split
 ·exact ((clean_sign _).append (clean_sign _)).mono (by omega)
 ·have h1:=Int.emod_nonneg (mixF ns k / 4) (b:=6) (by decide)
  have h2:=Int.emod_lt_of_pos (mixF ns k / 4) (b:=6) (by decide)
  have hl:(mixF ns k / 4 % 6).toNat<menu.length:=by show _<6;omega
  rw[ge0 hl]
  exact menu_ok _ (List.getElem_mem hl)
noncomputable abbrev HLine (Φ:Fs):Prop:=Has Φ "_law_line" [true,true] fun run=>∀ns k,run [.scr ns,.int k]=some (.str (lineF ns k))
theorem line_run (hm:HMix Φ)(hs:HSign Φ)(ns:List Int)(k:Int):ans Φ Γ d_l_line [.scr ns,.int k]=some (.str (lineF ns k)):=by
 obtain⟨r1,e1,h1⟩:=hm
 obtain⟨r2,e2,h2⟩:=hs
 have l1:=(clean_sign (mixF ns k / 4)).short
 have l2:=(clean_sign (mixF ns k / 376)).short
 by_cases c:mixF ns k % 4=3
 ·have hz:(signF (mixF ns k / 4)).length+(signF (mixF ns k / 376)).length≤big:=nt0 (Nat.add_le_add l1 l2) (by decide)
  simp[ans,d_l_line,e1,h1,e2,h2,c,hz,lineF]
 ·have g1:=Int.emod_nonneg (mixF ns k / 4) (b:=6) (by decide)
  have g2:=Int.emod_lt_of_pos (mixF ns k / 4) (b:=6) (by decide)
  have e:atI (menu.map D.str) (mixF ns k / 4 % 6)=some (.str ((menu[(mixF ns k / 4 % 6).toNat]?).getD Str.empty)):=by
   rw[atI_pos g1 (by show _<((6:Nat):Int);exact_mod_cast g2),List.getElem?_map,get_of_lt Str.empty (xs:=menu) (by show _<6;omega)];rfl
  have e':atI [D.str ⟨#[97]⟩,.str ⟨#[98]⟩,.str ⟨#[]⟩,.str ⟨#[97,32,98]⟩,.str ⟨#[124]⟩,.str ⟨#[99]⟩] (mixF ns k / 4 % 6)=some (.str ((menu[(mixF ns k / 4 % 6).toNat]?).getD Str.empty)):=e
  simp[ans,d_l_line,e1,h1,e2,h2,c,e',lineF]
noncomputable def rowF (ns:List Int)(b:Int)(n:Int):List Str:=(List.range n.toNat).map fun (k:Nat)=>lineF ns (b+k)
noncomputable abbrev HRow (Φ:Fs):Prop:=Has Φ "_law_row" [true,true,true] fun run=>∀ns b n,-1000≤n→n≤1000→run [.scr ns,.int b,.int n]=some (.list ((rowF ns b n).map .str))
theorem row_run (hl:HLine Φ)(ns:List Int)(b n:Int)(hn:-1000≤n)(hn2:n≤1000):ans Φ Γ d_l_row [.scr ns,.int b,.int n]=some (.list ((rowF ns b n).map .str)):=by
 obtain⟨r1,e1,h1⟩:=hl
 have hr:=rOk_of (n:=n) (by omega) (by omega)
 have hz:n.toNat≤big:=by unfold big;omega
 have key:=fun f h=>compL_map (f:=f) (inj:=fun k:Nat=>D.int k) (g:=fun k:Nat=>D.str (lineF ns (b+k))) (xs:=List.range n.toNat) h
 simp[ans,d_l_row,hr,hz]
 rw[key]
 ·simp[rowF]
 ·intro k _
  simp[e1,h1,blk]
variable {Φ:Fs}{Γ:List (Str×D)}
theorem empty_eq:(⟨#[]⟩:Str)=Str.empty:=rfl
noncomputable def lastF (row:List Str):Str:=row.getLastD Str.empty
noncomputable def endsF (row:List Str)(cut:Bool):List Str:=
 if cut=true∧row≠[]∧lastF row≠Str.empty then row.dropLast.map (·++nl)++[lastF row] else row.map (·++nl)
noncomputable abbrev HEnds (Φ:Fs):Prop:=Has Φ "_law_ends" [true,true] fun run=>∀(row:List Str) (b:Bool),row.length≤1000→(∀x∈row,x.length≤1000)→run [.list (row.map .str),.bool b]=some (.list ((endsF row b).map .str))
theorem atI_last {α:Type}{xs:List α}(h:xs≠[])(d:α):atI xs (-1)=some (xs.getLastD d):=by
 have hl:0<xs.length:=List.length_pos_iff.mpr h
 have e:ixN xs.length (-1)=some (xs.length-1):=by
  unfold ixN
  rw[if_neg (by decide),if_pos (by omega)]
  congr 1;omega
 unfold atI
 rw[e]
 show xs[xs.length-1]?=_
 rw[←List.getLast?_eq_getElem?,List.getLastD_eq_getLast?]
 cases q:xs.getLast? with
 |none=>rw[List.getLast?_eq_none_iff] at q;exact absurd q h
 |some v=>rfl
theorem ix_last {n:Nat}(h:0<n):ixN n (-1)=some (n-1):=by
 unfold ixN
 rw[if_neg (by decide),if_pos (by omega)]
 congr 1;omega
theorem set_last {α:Type}{xs:List α}(h:xs≠[])(v:α):xs.set (xs.length-1) v=xs.dropLast++[v]:=by
 induction xs with
 |nil=>exact absurd rfl h
 |cons a r ih=>
  cases r with
  |nil=>rfl
  |cons b q=>
   have e:(a::b::q).length-1=((b::q).length-1)+1:=by simp
   rw[e,List.set_cons_succ,ih (by simp)];rfl
theorem map_dropLast {α β:Type}(f:α→β)(xs:List α):(xs.map f).dropLast=xs.dropLast.map f:=by
 rw[List.dropLast_eq_take,List.dropLast_eq_take,lm0,List.map_take]
theorem map_getLastD {α β:Type}(f:α→β)(xs:List α)(d:α):(xs.map f).getLastD (f d)=f (xs.getLastD d):=by
 rw[List.getLastD_eq_getLast?,List.getLastD_eq_getLast?,List.getLast?_map]
 cases xs.getLast?<;>rfl
theorem add_nl {row:List Str}(hl:∀x∈row,x.length≤1000)(x:Str)(hx:x∈row):x.length+(⟨#[10]⟩:Str).length≤big:=by
 have:=hl x hx
 have e:(⟨#[10]⟩:Str).length=1:=rfl
 unfold big;omega
theorem ends_run (row:List Str)(b:Bool)(h1:row.length≤1000)(h2:∀x∈row,x.length≤1000):ans Φ Γ d_l_ends [.list (row.map .str),.bool b]=some (.list ((endsF row b).map .str)):=by
 have hz:row.length≤big:=by unfold big;omega
 have key:=fun f h=>compL_map (f:=f) (inj:=D.str) (g:=fun x=>D.str (x++nl)) (xs:=row) h
 simp[ans,d_l_ends,hz]
 rw[key]
 ·cases b with
  |false=>simp[endsF]
  |true=>
   by_cases he:row=[]
   ·subst he;simp[endsF]
   ·have e:=atI_last (xs:=row.map D.str) (by simpa using he) (.str Str.empty)
    rw[map_getLastD] at e
    have e:atI (row.map D.str) (-1)=some (.str (lastF row)):=e
    have hl:0<row.length:=List.length_pos_iff.mpr he
    have e3:=set_last (xs:=row.map fun x=>D.str (x++nl)) (by simpa using he) (.str (lastF row))
    rw[lm0,map_dropLast] at e3
    unfold endsF
    generalize lastF row=t at e e3
    by_cases ht:t=Str.empty
    ·simp[he,e,ht,empty_eq]
    ·simp only[e,ht,empty_eq,ix_last hl,e3,he,ne_eq,not_false_eq_true,and_self,and_true,if_true,List.map_append,List.map_map]
     simp[he,e,ht,empty_eq,ix_last hl,e3]
     rfl
 ·intro x hx
  simp[add_nl h2 x hx]
  rfl
variable {Φ:Fs}{Γ:List (Str×D)}
theorem row_clean (ns:List Int)(b n:Int):∀x∈rowF ns b n,Clean 3 x:=by
 intro x hx
 obtain⟨k,_,rfl⟩:=List.mem_map.mp hx
 exact line_clean ns _
theorem row_len (ns:List Int)(b n:Int):(rowF ns b n).length=n.toNat:=by unfold rowF;simp
theorem lastF_mem {row:List Str}(h:row≠[]):lastF row∈row:=by
 unfold lastF
 rw[List.getLastD_eq_getLast?,List.getLast?_eq_some_getLast h]
 exact List.getLast_mem h
theorem ends_len (row:List Str)(b:Bool):(endsF row b).length=row.length:=by
 unfold endsF
 split
 ·rename_i c
  have:=List.length_pos_iff.mpr c.2.1
  simp;omega
 ·simp
theorem ends_short {n:Nat}{row:List Str}(h:∀x∈row,x.length≤n)(b:Bool):∀x∈endsF row b,x.length≤n+1:=by
 intro x hx
 have one:∀y∈row.map (·++nl),y.length≤n+1:=fun y hy=>by
  obtain⟨z,hz,rfl⟩:=List.mem_map.mp hy
  rw[Str.length_append]
  have:=h z hz
  have e:nl.length=1:=rfl
  omega
 unfold endsF at hx
 split at hx
 ·rename_i c
  rcases List.mem_append.mp hx with hx|hx
  ·rw[←map_dropLast] at hx
   exact one x (List.dropLast_subset _ hx)
  ·rw[List.mem_singleton.mp hx]
   exact Nat.le_succ_of_le (h _ (lastF_mem c.2.1))
 ·exact one x hx
theorem sum_le {α:Type}{f:α→Nat}{n:Nat}:∀{xs:List α},(∀x∈xs,f x≤n)→(xs.map f).sum≤xs.length*n
 |[],_=>by simp
 |x::r,h=>by
  have h1:=h x ms0
  have h2:=sum_le (f:=f) (xs:=r) fun y hy=>h y (mc0 _ hy)
  simp only[List.map_cons,List.sum_cons,lc0,Nat.succ_mul]
  omega
theorem join_len (ys:List Str):(Txt.join Str.empty ys).length≤(ys.map (·.length)).sum:=by
 have h:=StrLaws.join_length_le Str.empty ys
 have e:Txt.join Str.empty ys=Str.join Str.empty ys:=StrLaws.glued_eq_join _ _
 rw[e]
 have z:Str.empty.length=0:=rfl
 rw[z,Nat.mul_zero,Nat.add_zero] at h
 exact h
end TX
namespace L2.Z
open PySem PySem.Spec PyProof.Rows L2 L2.C SI
theorem run_eq {Φ:Fs}{Γ:List (Str×D)}{d:Def}{ds:List D}(h:ds.length=d.lent.length):(runD Φ Γ d).run ds=TX.ans Φ Γ d ds:=if_pos h
theorem has_of {prog:List (Str×Def)}{Γ:List (Str×D)}{k:Nat}{x:Str}{d:Def}{P:(List D→Option D)→Prop}(h:prog.lookup x=some d)(hP:P (runD (den prog Γ k) Γ d).run):TX.Has (den prog Γ (k+1)) x d.lent P:=
 ⟨_,by show (prog.lookup x).map _=_;rw[h];rfl,hP⟩
theorem walk {l:PySem.W.OpenLaw}{q:Program}{loose:List Str}{XP:(Str→Option Value)→Heap→Prop}{YP:World→Heap→Prop}{d:DefRec}{K:Params→PySem.W.Frag}(hn:l.most=some 63)(hdf:d.params.defaults=[])
  (hY:∀(w:World) (h:Heap),YP w h→(K w.params).In h)
  (F:∀(w:World) (mg:Str→Option Value) (fa:Addr) (h:Heap),(K w.params).In h→h.Ns mainGlobals mg→mg d.name=some (.ref fa)→
   ∃fd:FuncData,(∀(s:Shared) (u:Value),BindsTo s fd ⟨[u],[]⟩ [("_law_script",u)])∧∀base:Heap,(K w.params).In base→base.Ns mainGlobals mg→FnOk l.prog w (K w.params) mg base CX0 40 fa fd ["_law_script"] (spLaw (K w.params))):
  PySem.W.WalkO q loose XP YP l.row.toRowW d [] (fun f vs=>PySem.call f vs):=
 L2.walk_of (n:=63) (k:=40) (x:="_law_script") (CX:=fun _=>CX0) (sp:=fun w=>spLaw (K w.params)) hn (by decide) hdf ⟨rfl,by decide,by decide⟩ hY F (fun _ _ a ns hl _ hS=>⟨a,ns,rfl,hS,hl,fun _=>rfl⟩) fun _ _ _ _ _ z=>z
noncomputable def allN (Q:Str→Prop):List Str→Prop
 |[]=>True
 |x::r=>Q x∧allN Q r
theorem allN_at {Q:Str→Prop}:∀{xs:List Str},allN Q xs→∀x∈xs,Q x
 |[],_,x,h=>by cases h
 |y::r,hq,x,h=>(List.mem_cons.mp h).elim (fun e=>e▸hq.1) (allN_at hq.2 x)
noncomputable def allG (Q:Str→D→Prop):List (Str×D)→Prop
 |[]=>True
 |p::r=>Q p.1 p.2∧allG Q r
theorem allG_at {Q:Str→D→Prop}:∀{prog:List (Str×D)},allG Q prog→∀x d,prog.lookup x=some d→Q x d
 |[],_,x,d,h=>by cases h
 |(y,e)::r,hq,x,d,h=>by
  rw[List.lookup_cons] at h
  cases hxy:x==y with
  |true=>
   rw[hxy] at h
   have:=eq_of_beq hxy
   subst this
   cases h
   exact hq.1
  |false=>rw[hxy] at h;exact allG_at hq.2 x d h
theorem len1 {P:List Value→Prop}(h:∀a,P [a]):∀us,us.length=1→P us
 |[a],_=>h a
theorem len2 {P:List Value→Prop}(h:∀a b,P [a,b]):∀us,us.length=2→P us
 |[a,b],_=>h a b
theorem len3 {P:List Value→Prop}(h:∀a b c,P [a,b,c]):∀us,us.length=3→P us
 |[a,b,c],_=>h a b c
theorem walkX {q:Program}{loose:List Str}{XP:(Str→Option Value)→Heap→Prop}{K:Params→PySem.W.Frag}{ads:List Addr}{n t:Nat}{r:PySem.W.RowW}{d:DefRec}{kwd:List (Str×Expr)}{run:Value→List Value→Sem Value}
  (e:∀P:Params,ads=(K P).map (·.1)) (h:PySem.W.WalkO q loose XP (fun w h=>(K w.params).In h) r d kwd run):PySem.W.WalkX q loose XP (PySem.W.X.obsZ ads) (PySem.W.X.valZ K n t) r d kwd run:=
 fun w s₀ s₁ mg mb G y a o pm cd doc dV kV ho hd hcd hD hmg hg args vals as L hpre hlay hrd hwl hlo=>
  h w s₀ s₁ mg mb G (fun b o e'=>L.keeps b o ((PySem.W.X.z_facts e y).2.1 b o e')) a o pm cd doc dV kV ho hd hcd hD hmg hg args vals as hpre hlay hrd hwl hlo
end L2.Z
set_option maxRecDepth 10000
namespace TX
open PySem SI L2.Z
noncomputable def d_is_name_sign:Def:=⟨[true],1,(.cons (.ifs (.or (.chain .le .le (.k (.str ⟨#[97]⟩)) (.v 0) (.k (.str ⟨#[122]⟩))) (.or (.chain .le .le (.k (.str ⟨#[65]⟩)) (.v 0) (.k (.str ⟨#[90]⟩))) (.chain .le .le (.k (.str ⟨#[48]⟩)) (.v 0) (.k (.str ⟨#[57]⟩))))) (.cons (.ret (.k (.bool true))) .nil) .nil) (.cons (.ret (.cmp .isin (.v 0) (.k (.str ⟨#[46,95,45]⟩)))) .nil))⟩
noncomputable def d_is_name:Def:=⟨[true],1,(.cons (.ifs (.not (.chain .le .le (.k (.int 1)) (.bi .len (.cons (.v 0) .nil)) (.g "LONGEST_NAME"))) (.cons (.ret (.k (.bool false))) .nil) .nil) (.cons (.ifs (.or (.cmp .eq (.v 0) (.k (.str ⟨#[46]⟩))) (.cmp .eq (.v 0) (.k (.str ⟨#[46,46]⟩)))) (.cons (.ret (.k (.bool false))) .nil) .nil) (.cons (.ret (.bi .all (.cons (.comp 1 [] (.one 0) (.seq (.v 0)) .nil (.call "is_name_sign" (.cons (.v 0) .nil))) .nil))) .nil)))⟩
noncomputable def d_names_rise:Def:=⟨[true],1,(.cons (.ret (.bi .all (.cons (.comp 2 [] (.tup [0,1]) (.zip (.cons (.v 0) (.cons (.sl (.v 0) (.cons (.k (.int 1)) .nil) .nil) .nil))) .nil (.cmp .lt (.v 0) (.v 1))) .nil))) .nil)⟩
noncomputable def d_v_size (cV:Nat):Def:=⟨[true],1,(.cons (.ret (.bi .len (.cons (.vob cV (.v 0)) .nil))) .nil)⟩
noncomputable def d_v_kind (cV:Nat):Def:=⟨[true,true],2,(.cons (.ret (.idx (.vcall cV "held" (.v 0) (.cons (.v 1) .nil)) (.k (.int 0)))) .nil)⟩
noncomputable def d_v_held (cV:Nat):Def:=⟨[true,true],2,(.cons (.ifs (.not (.chain .le .lt (.k (.int 0)) (.v 1) (.bi .len (.cons (.vob cV (.v 0)) .nil)))) (.cons .stuck .nil) .nil) (.cons (.ret (.idx (.vob cV (.v 0)) (.v 1))) .nil))⟩
noncomputable def d_v_content (cV:Nat):Def:=⟨[true,true,true],4,(.cons (.set 3 (.vcall cV "held" (.v 0) (.cons (.v 1) .nil))) (.cons (.ifs (.cmp .ne (.idx (.v 3) (.k (.int 0))) (.v 2)) (.cons .stuck .nil) .nil) (.cons (.ret (.idx (.v 3) (.k (.int 1)))) .nil)))⟩
noncomputable def d_blob:DefM:=⟨[false,false],2,(.cons (.ret (.meth "put" 0 (.ex (.p (.tup (.cons (.k (.str ⟨#[98,108,111,98]⟩)) (.cons (.v 1) .nil)))) .nil))) .nil)⟩
noncomputable def d_tree (cV:Nat)(cBT:Nat):DefM:=⟨[false,false],4,(.cons (.expr (.call "refuse_wrong_names" (.ex (.p (.comp 2 [] (.tup [0,1]) (.seq (.v 1)) .nil (.v 0))) .nil))) (.cons (.fors (.tup [2,3]) (.seq (.v 1)) (.cons (.ifs (.cmp .eq (.vcall cV "kind" (.v 0) (.cons (.v 3) .nil)) (.k (.str ⟨#[99,111,109,109,105,116]⟩))) (.cons (.raise cBT (.ex (.p (.k (.str ⟨#[97,110,32,101,110,116,114,121,32,110,97,109,101,115,32,97,32,99,111,109,109,105,116]⟩))) .nil)) .nil) .nil) .nil)) (.cons (.ret (.meth "put" 0 (.ex (.p (.tup (.cons (.k (.str ⟨#[116,114,101,101]⟩)) (.cons (.bi .tuple (.cons (.comp 2 [] (.tup [0,1]) (.seq (.v 1)) .nil (.tup (.cons (.v 0) (.cons (.v 1) .nil)))) .nil)) .nil)))) .nil))) .nil)))⟩
noncomputable def d_refuse_wrong_names (cBT:Nat):DefM:=⟨[false],2,(.cons (.fors (.one 1) (.seq (.v 0)) (.cons (.ifs (.not (.call "is_name" (.cons (.v 1) .nil))) (.cons (.raise cBT (.ex (.p (.k (.str ⟨#[97,110,32,101,110,116,114,121,39,115,32,110,97,109,101,32,105,115,32,110,111,110,101]⟩))) .nil)) .nil) .nil) .nil)) (.cons (.ifs (.not (.call "names_rise" (.cons (.v 0) .nil))) (.cons (.raise cBT (.ex (.p (.k (.str ⟨#[116,104,101,32,110,97,109,101,115,32,100,111,110,39,116,32,114,105,115,101]⟩))) .nil)) .nil) .nil) .nil))⟩
end TX
namespace TX
open PySem SI M1 L2.Z
variable {Φ:Fs}{Γ:List (Str×D)}
noncomputable def signs65:List Nat:=[97,98,99,100,101,102,103,104,105,106,107,108,109,110,111,112,113,114,115,116,117,118,119,120,121,122,65,66,67,68,69,70,71,72,73,74,75,76,77,78,79,80,81,82,83,84,85,86,87,88,89,90,48,49,50,51,52,53,54,55,56,57,46,95,45]
noncomputable def signOk (c:Nat):Bool:=decide (c∈signs65)
theorem has_one (c:Nat)(y:Str):hasSub ⟨#[c]⟩ y=decide (c∈y.cps.toList):=PySem.StrLaws.found_one y c
theorem lt_one (a b:Nat):decide ([a]<[b])=decide (a<b):=by
 by_cases h:a<b
 ·rw[decide_eq_true h,decide_eq_true]
  exact List.Lex.rel h
 ·rw[decide_eq_false h,decide_eq_false]
  intro z
  cases z with
  |rel h'=>exact h h'
  |cons h'=>cases h'
theorem signOk_eq (c:Nat):signOk c=((!decide (c<97)&&!decide (122<c))||((!decide (c<65)&&!decide (90<c))||(!decide (c<48)&&!decide (57<c)))||decide (c∈[46,95,45])):=by
 by_cases h:c<128
 ·have key:∀c<128,signOk c=((!decide (c<97)&&!decide (122<c))||((!decide (c<65)&&!decide (90<c))||(!decide (c<48)&&!decide (57<c)))||decide (c∈[46,95,45])):=by decide
  exact key c h
 ·have h1:signOk c=false:=by
   unfold signOk
   refine decide_eq_false fun z=>h ?_
   have:∀c∈signs65,c<128:=by decide
   exact this c z
  have h2:decide (c∈[46,95,45])=false:=decide_eq_false (by simp;omega)
  rw[h1,h2,decide_eq_true (show 122<c by omega),decide_eq_true (show 90<c by omega),decide_eq_true (show 57<c by omega)]
  simp
noncomputable abbrev HSignOk (Φ:Fs):Prop:=Has Φ "is_name_sign" [true] fun run=>∀c,run [.str ⟨#[c]⟩]=some (.bool (signOk c))
theorem sign_ok_run (c:Nat):ans Φ Γ d_is_name_sign [.str ⟨#[c]⟩]=some (.bool (signOk c)):=by
 rw[signOk_eq]
 have l1:=lt_one c 97
 have l2:=lt_one 122 c
 have l3:=lt_one c 65
 have l4:=lt_one 90 c
 have l5:=lt_one c 48
 have l6:=lt_one 57 c
 have l7:=has_one c ⟨#[46,95,45]⟩
 have e7:(⟨#[46,95,45]⟩:Str).cps.toList=[46,95,45]:=rfl
 rw[e7] at l7
 have chain:∀(a b:Str) (ρ:List Sl),ρ[0]?=some (.lent (.str ⟨#[c]⟩))→ev Φ Γ .test ρ (.chain .le .le (.k (.str a)) (.v 0) (.k (.str b)))=some (.bool (!decide ([c]<a.cps.toList)&&!decide (b.cps.toList<[c]))):=fun a b ρ h=>by
  simp only[ev,fin_read,fin_test,h,bs0,dats_lentR,cmp_leS]
  cases decide ([c]<a.cps.toList)<;>rfl
 have c1:=chain ⟨#[97]⟩ ⟨#[122]⟩ [.lent (.str ⟨#[c]⟩)] rfl
 have c2:=chain ⟨#[65]⟩ ⟨#[90]⟩ [.lent (.str ⟨#[c]⟩)] rfl
 have c3:=chain ⟨#[48]⟩ ⟨#[57]⟩ [.lent (.str ⟨#[c]⟩)] rfl
 have c1:ev Φ Γ .test [.lent (.str ⟨#[c]⟩)] (.chain .le .le (.k (.str ⟨#[97]⟩)) (.v 0) (.k (.str ⟨#[122]⟩)))=some (.bool (!decide (c<97)&&!decide (122<c))):=by rw[←l1,←l2];exact c1
 have c2:ev Φ Γ .test [.lent (.str ⟨#[c]⟩)] (.chain .le .le (.k (.str ⟨#[65]⟩)) (.v 0) (.k (.str ⟨#[90]⟩)))=some (.bool (!decide (c<65)&&!decide (90<c))):=by rw[←l3,←l4];exact c2
 have c3:ev Φ Γ .test [.lent (.str ⟨#[c]⟩)] (.chain .le .le (.k (.str ⟨#[48]⟩)) (.v 0) (.k (.str ⟨#[57]⟩)))=some (.bool (!decide (c<48)&&!decide (57<c))):=by rw[←l5,←l6];exact c3
 generalize (!decide (c<97)&&!decide (122<c))=t1 at c1 ⊢
 generalize (!decide (c<65)&&!decide (90<c))=t2 at c2 ⊢
 generalize (!decide (c<48)&&!decide (57<c))=t3 at c3 ⊢
 have cc:ev Φ Γ .test [.lent (.str ⟨#[c]⟩)] (.or (.chain .le .le (.k (.str ⟨#[97]⟩)) (.v 0) (.k (.str ⟨#[122]⟩))) (.or (.chain .le .le (.k (.str ⟨#[65]⟩)) (.v 0) (.k (.str ⟨#[90]⟩))) (.chain .le .le (.k (.str ⟨#[48]⟩)) (.v 0) (.k (.str ⟨#[57]⟩)))))=some (.bool (t1||(t2||t3))):=by
  rw[ev,bm_test,c1,ev,bm_test,c2,c3]
  cases t1<;>cases t2<;>rfl
 have st:startR d_is_name_sign [.str ⟨#[c]⟩]=[.lent (.str ⟨#[c]⟩)]:=rfl
 have hin:ev Φ Γ .val [.lent (.str ⟨#[c]⟩)] (.cmp .isin (.v 0) (.k (.str ⟨#[46,95,45]⟩)))=some (.bool (decide (c∈[46,95,45]))):=by
  have:ev Φ Γ .val [.lent (.str ⟨#[c]⟩)] (.cmp .isin (.v 0) (.k (.str ⟨#[46,95,45]⟩)))=some (.bool (hasSub ⟨#[c]⟩ ⟨#[46,95,45]⟩)):=rfl
  rw[this,l7]
 unfold ans
 rw[st]
 unfold d_is_name_sign
 simp only[exs,ex,cc,bs0,asB_bool]
 cases t1||(t2||t3) with
 |true=>rfl
 |false=>
  rw[if_neg fx0]
  simp only[bs0,then_nx,List.map_cons,List.map_nil,freeze_lent,hin,Option.map_some,then_rt,val_rt,Bool.false_or]
noncomputable def dot:Str:=⟨#[46]⟩
noncomputable def dots:Str:=⟨#[46,46]⟩
noncomputable def nameF (x:Str):Bool:=decide (1≤x.length)&&decide (x.length≤12)&&!decide (x=dot)&&!decide (x=dots)&&x.cps.toList.all signOk
theorem all_signs {f:D→Option (Option D)}(l:List Nat)(p:Nat→Bool)(h:∀c∈l,f (.str ⟨#[c]⟩)=some (some (.bool (p c)))):(compL f (l.map fun c=>D.str ⟨#[c]⟩)).map D.list=some (.list ((l.map p).map .bool)):=by
 rw[compL_map (inj:=fun c=>D.str ⟨#[c]⟩) (g:=fun c=>D.bool (p c)) h]
 simp
theorem all_id (l:List Nat)(p:Nat→Bool):(l.map p).all id=l.all p:=by
 rw[List.all_map];rfl
noncomputable abbrev HIsName (Φ:Fs):Prop:=Has Φ "is_name" [true] fun run=>∀x:Str,x.length≤1000→run [.str x]=some (.bool (nameF x))
theorem str_dec (x y:Str):eqD (.str x) (.str y)=some (decide (x=y)):=eq_str
theorem is_name_run (hs:HSignOk Φ)(hg:Γ.lookup ("LONGEST_NAME":Str)=some (D.int 12))(x:Str)(hx:x.length≤1000):ans Φ Γ d_is_name [.str x]=some (.bool (nameF x)):=by
 obtain⟨r1,e1,h1⟩:=hs
 have hz:x.length≤big:=by unfold big;omega
 have hz2:x.cps.toList.length≤big:=by rw[←len_list'];exact hz
 have key:=fun f h=>all_signs (f:=f) x.cps.toList signOk h
 have l1:decide ((1:Int)≤(x.length:Int))=decide (1≤x.length):=by
  by_cases c:1≤x.length
  ·rw[decide_eq_true c,decide_eq_true (by omega)]
  ·rw[decide_eq_false c,decide_eq_false (by omega)]
 have l2:decide ((x.length:Int)≤12)=decide (x.length≤12):=by
  by_cases c:x.length≤12
  ·rw[decide_eq_true c,decide_eq_true (by omega)]
  ·rw[decide_eq_false c,decide_eq_false (by omega)]
 have st:startR d_is_name [.str x]=[.lent (.str x)]:=rfl
 have t1:ev Φ Γ .test [.lent (.str x)] (.not (.chain .le .le (.k (.int 1)) (.bi .len (.cons (.v 0) .nil)) (.g "LONGEST_NAME")))=some (.bool (!(decide (1≤x.length)&&decide (x.length≤12)))):=by
  simp only[ev,evs,fin_read,fin_test,bm_test,List.headD_cons,if_true,List.getElem?_cons_zero,bs0,dats_lentR,Option.map_some,len_str,if_pos hz,cmp_leI,l1,l2,hg]
  cases decide (1≤x.length)<;>rfl
 have t2:ev Φ Γ .test [.lent (.str x)] (.or (.cmp .eq (.v 0) (.k (.str ⟨#[46]⟩))) (.cmp .eq (.v 0) (.k (.str ⟨#[46,46]⟩))))=some (.bool (decide (x=dot)||decide (x=dots))):=by
  simp only[ev,fin_read,fin_test,bm_test,List.getElem?_cons_zero,bs0,dats_lentR,cmp_eq,eq_str,Option.map_some,truD_bool,asB_bool]
  show (if decide (x=dot)=true then _ else some (D.bool (decide (x=dots))))=_
  cases decide (x=dot)<;>rfl
 have t3:ev Φ Γ .val [.lent (.str x)] (.bi .all (.cons (.comp 1 [] (.one 0) (.seq (.v 0)) .nil (.call "is_name_sign" (.cons (.v 0) .nil))) .nil))=some (.bool (x.cps.toList.all signOk)):=by
  simp only[ev,evs,evI,fin_val,fin_read,List.headD_cons,if_true,List.getElem?_cons_zero,bs0,dats_lentR,items_str,if_pos hz,lm0,if_pos hz2]
  rw[key]
  ·simp only[bs0,Option.map_some,all_list,bools_map,all_id]
  ·intro c _
   simp[e1,h1]
 unfold ans
 rw[st]
 unfold d_is_name
 simp only[exs,ex,t1,bs0,asB_bool]
 unfold nameF
 cases decide (1≤x.length)&&decide (x.length≤12) with
 |false=>rfl
 |true=>
  rw[if_neg (by decide)]
  simp only[bs0,then_nx,t2,asB_bool,Bool.true_and]
  cases decide (x=dot) with
  |true=>rfl
  |false=>
   cases decide (x=dots) with
   |true=>rfl
   |false=>
    rw[if_neg (by decide)]
    simp only[bs0,then_nx,List.map_cons,List.map_nil,freeze_lent,t3,Option.map_some,then_rt,val_rt,Bool.not_false,Bool.true_and]
variable {Φ:Fs}{Γ:List (Str×D)}
theorem go_nx {ρ ρ':List Sl}{s:S}{r:Ss}{P:Option D→Prop}(h:ex Φ Γ ρ s=some (.nx ρ'))(k:P ((exs Φ Γ ρ' r).bind Out.val)):P ((exs Φ Γ ρ (.cons s r)).bind Out.val):=by
 rw[exs,h];exact k
variable {Φ:Fs}{Γ:List (Str×D)}
variable {Φ:Fs}{Ψ:FsM}{Γ:List (Str×D)}{c:Nat}
noncomputable def HasM (Ψ:FsM)(f:Str)(fl:List Bool)(P:(Ust→List D→Option (Ust×R))→Prop):Prop:=∃run,Ψ f=some ⟨fl,run⟩∧P run
@[simp] theorem isVlt_self {h:Nat}{os:List D}:isVlt c (.vlt c h os)=true:=by simp[isVlt]
@[simp] theorem vobs_vlt {h:Nat}{os:List D}:vobs (.vlt c h os)=os:=rfl
@[simp] theorem roM_read {o:Option D}:roM .read o=o:=rfl
@[simp] theorem roM_test {o:Option D}:roM .test o=o:=rfl
@[simp] theorem vE_hdl {os:List D}:vE c [os] (.dat (.hdl 0))=.lent (.vlt c 0 os):=rfl
@[simp] theorem vE_str {U:Ust}{x:Str}:vE c U (.dat (.str x))=.dat (.str x):=rfl
@[simp] theorem vE_int {U:Ust}{x:Int}:vE c U (.dat (.int x))=.dat (.int x):=rfl
@[simp] theorem vE_bool {U:Ust}{x:Bool}:vE c U (.dat (.bool x))=.dat (.bool x):=rfl
@[simp] theorem vE_list {U:Ust}{x:List D}:vE c U (.dat (.list x))=.dat (.list x):=rfl
@[simp] theorem vE_none {U:Ust}:vE c U (.dat .none)=.dat .none:=rfl
@[simp] theorem vE_exc {U:Ust}{x:Nat}:vE c U (.dat (.exc x))=.dat (.exc x):=rfl
@[simp] theorem vE_no {U:Ust}:vE c U .no=.no:=rfl
@[simp] theorem vE_lent {U:Ust}{d:D}:vE c U (.lent d)=.lent d:=rfl
noncomputable abbrev kBlob:Str:=⟨#[98,108,111,98]⟩
noncomputable abbrev kTree:Str:=⟨#[116,114,101,101]⟩
noncomputable abbrev kCommit:Str:=⟨#[99,111,109,109,105,116]⟩
noncomputable abbrev HSize (Φ:Fs)(c:Nat):Prop:=Has Φ (vname "size") [true] fun run=>∀h os,run [.vlt c h os]=some (.int os.length)
noncomputable abbrev HHeld (Φ:Fs)(c:Nat):Prop:=Has Φ (vname "held") [true,true] fun run=>∀(h:Nat) (os:List D) (n:Nat) (d:D),os[n]?=some d→run [.vlt c h os,.int n]=some d
noncomputable abbrev HKind (Φ:Fs)(c:Nat):Prop:=Has Φ (vname "kind") [true,true] fun run=>∀(h:Nat) (os:List D) (n:Nat) (k:Str) (ds:List D),os[n]?=some (.tuple (.str k::ds))→run [.vlt c h os,.int n]=some (.str k)
noncomputable abbrev HContent (Φ:Fs)(c:Nat):Prop:=Has Φ (vname "content") [true,true,true] fun run=>∀(h:Nat) (os:List D) (n:Nat) (k:Str) (d:D),os[n]?=some (.tuple [.str k,d])→run [.vlt c h os,.int n,.str k]=some d
theorem size_run (h:Nat)(os:List D):ans Φ Γ (d_v_size c) [.vlt c h os]=some (.int os.length):=by
 simp[ans,d_v_size]
theorem held_run (h:Nat)(os:List D)(n:Nat)(d:D)(hd:os[n]?=some d):ans Φ Γ (d_v_held c) [.vlt c h os,.int n]=some d:=by
 have hn:=(List.getElem?_eq_some_iff.mp hd).1
 have e:atI os (n:Int)=some d:=by rw[atI_pos (by omega) (by omega)];simpa using hd
 have l1:(0:Int)≤(n:Int):=by omega
 have l2:(n:Int)<(os.length:Int):=by omega
 simp[ans,d_v_held,e,l1,hn]
theorem kind_run (hh:HHeld Φ c)(h:Nat)(os:List D)(n:Nat)(k:Str)(ds:List D)(hd:os[n]?=some (.tuple (.str k::ds))):ans Φ Γ (d_v_kind c) [.vlt c h os,.int n]=some (.str k):=by
 obtain⟨r1,e1,h1⟩:=hh
 have q:=h1 h os n _ hd
 have e:atI (D.str k::ds) 0=some (.str k):=by rw[atI_pos (by omega) (by simp)];rfl
 simp[ans,d_v_kind,e1,q,e]
theorem content_run (hh:HHeld Φ c)(h:Nat)(os:List D)(n:Nat)(k:Str)(d:D)(hd:os[n]?=some (.tuple [.str k,d])):ans Φ Γ (d_v_content c) [.vlt c h os,.int n,.str k]=some d:=by
 obtain⟨r1,e1,h1⟩:=hh
 have q:=h1 h os n _ hd
 have e:atI [D.str k,d] 0=some (.str k):=rfl
 have e':atI [D.str k,d] 1=some d:=rfl
 simp[ans,d_v_content,e1,q,e,e']
noncomputable def ansM (Φ:Fs)(Ψ:FsM)(Γ:List (Str×D))(c:Nat)(d:DefM)(U:Ust)(ds:List D):Option (Ust×R):=(exMs Φ Ψ Γ c (startM d ds) U d.body).map fun q=>(q.2,outM q.1)
theorem goM {ρ ρ':List Sl}{U U':Ust}{s:SM}{r:SMs}{P:Option (Ust×R)→Prop}(h:exM Φ Ψ Γ c ρ U s=some (.nx ρ',U'))(k:P ((exMs Φ Ψ Γ c ρ' U' r).map fun q=>(q.2,outM q.1))):P ((exMs Φ Ψ Γ c ρ U (.cons s r)).map fun q=>(q.2,outM q.1)):=by
 rw[exMs,h];exact k
noncomputable abbrev HPut (Ψ:FsM):Prop:=Ψ (vname "put")=some putFn
variable {Φ:Fs}{Ψ:FsM}{Γ:List (Str×D)}{c cNO cBT:Nat}
noncomputable abbrev refBody (cBT:Nat):SMs:=.cons (.ifs (.not (.call "is_name" (.cons (.v 1) .nil))) (.cons (.raise cBT (.ex (.p (.k (.str ⟨#[97,110,32,101,110,116,114,121,39,115,32,110,97,109,101,32,105,115,32,110,111,110,101]⟩))) .nil)) .nil) .nil) .nil
theorem ref_loop (hn:HIsName Φ)(U:Ust)(l:List D):∀(es:List Str) (s1:Sl),(∀x∈es,x.length≤1000)→
  ∃s2,forM (bindTg (.one 1)) (fun ρ' U'=>exMs Φ Ψ Γ c ρ' U' (refBody cBT)) (es.map .str) [.dat (.list l),s1] U=some (if es.all nameF then .nx [.dat (.list l),s2] else .exc cBT [.dat (.list l),s2],U):=by
 intro es
 obtain⟨r1,e1,h1⟩:=hn
 induction es with
 |nil=>intro s1 _;exact⟨s1,rfl⟩
 |cons x r ih=>
  intro s1 hx
  have q:=h1 x (hx x ms0)
  have t:ev Φ Γ .test ([Sl.dat (.list l),.dat (.str x)].map (vE c U)) (.not (.call "is_name" (.cons (.v 1) .nil)))=some (.bool (!nameF x)):=by
   simp[e1,q]
  have bd:exMs Φ Ψ Γ c [.dat (.list l),.dat (.str x)] U (refBody cBT)=some (if nameF x then .nx [.dat (.list l),.dat (.str x)] else .exc cBT [.dat (.list l),.dat (.str x)],U):=by
   rw[exMs,exM,t,bs0,asB_bool,bs0]
   cases nameF x<;>rfl
  show ∃s2,((exMs Φ Ψ Γ c [.dat (.list l),.dat (.str x)] U (refBody cBT)).bind _)=_
  rw[bd,bs0]
  cases hb:nameF x with
  |false=>exact⟨.dat (.str x),by rw[List.all_cons,hb];rfl⟩
  |true=>
   obtain⟨s2,hs⟩:=ih (.dat (.str x)) fun y hy=>hx y (mc0 _ hy)
   refine⟨s2,?_⟩
   rw[List.all_cons,hb,Bool.true_and]
   exact hs
noncomputable abbrev treeBody (c cBT:Nat):SMs:=.cons (.ifs (.cmp .eq (.vcall c "kind" (.v 0) (.cons (.v 3) .nil)) (.k (.str kCommit))) (.cons (.raise cBT (.ex (.p (.k (.str ⟨#[97,110,32,101,110,116,114,121,32,110,97,109,101,115,32,97,32,99,111,109,109,105,116]⟩))) .nil)) .nil) .nil) .nil
theorem idxOf_get? {d:D}:∀{os:List D} {j:Nat},os.idxOf? d=some j→os[j]?=some d
 |[],j,h=>by simp at h
 |o::r,j,h=>by
  rw[List.idxOf?_cons] at h
  split at h
  ·rename_i e
   cases h
   simp[eq_of_beq e]
  ·obtain⟨i,h1,rfl⟩:=mx0 h
   simpa using idxOf_get? h1
variable {Φ:Fs}{Ψ:FsM}{Γ:List (Str×D)}{c cNO cBT:Nat}
end TX
namespace L2.Z
open PySem PySem.Spec PyProof.Rows L2 L2.C SI
theorem run_eqM {Φ:Fs}{Ψ:FsM}{Γ:List (Str×D)}{c:Nat}{d:DefM}{U:Ust}{ds:List D}(h:ds.length=d.lent.length):(runM Φ Ψ Γ c d).run U ds=TX.ansM Φ Ψ Γ c d U ds:=if_pos h
theorem hasM_of {Ψ0:FsM}{prog:List (Str×Def)}{progM:List (Str×DefM)}{Γ:List (Str×D)}{c k:Nat}{x:Str}{d:DefM}{P:(Ust→List D→Option (Ust×R))→Prop}(h0:Ψ0 x=Option.none)(h:progM.lookup x=some d)(hP:P (runM (den prog Γ k) (denM Ψ0 prog progM Γ c k) Γ c d).run):
  TX.HasM (denM Ψ0 prog progM Γ c (k+1)) x d.lent P:=
 ⟨_,by show (match Ψ0 x with|some φ=>some φ|Option.none=>(progM.lookup x).map (runM (den prog Γ k) (denM Ψ0 prog progM Γ c k) Γ c))=_;rw[h0,h];rfl,hP⟩
noncomputable def psi0:FsM:=fun f=>if f=vname "put" then some putFn else Option.none
theorem psi0_put:psi0 (vname "put")=some putFn:=if_pos rfl
theorem put_den {prog:List (Str×Def)}{progM:List (Str×DefM)}{Γ:List (Str×D)}{c:Nat}(k:Nat):TX.HPut (denM psi0 prog progM Γ c k):=by
 unfold TX.HPut
 cases k with
 |zero=>exact psi0_put
 |succ k=>rw[denM,psi0_put]
theorem psi0_is {m:Str}{φ:FnM}(h:psi0 (vname m)=some φ):vname m=vname "put"∧φ=putFn:=by
 unfold psi0 at h
 split at h
 ·rename_i e;cases h;exact⟨e,rfl⟩
 ·cases h
theorem vname_inj {a b:Str}(h:vname a=vname b):a=b:=by
 unfold vname at h
 have e:=congrArg (fun s:Str=>s.cps.toList) h
 simp only[M1.toL_append] at e
 exact M1.ext (List.append_cancel_left e)
theorem walkM {l:PySem.W.OpenLaw}{q:Program}{loose:List Str}{XP:(Str→Option Value)→Heap→Prop}{YP:World→Heap→Prop}{d:DefRec}{K:Params→PySem.W.Frag}(hn:l.most=some 63)(hdf:d.params.defaults=[])
  (hY:∀(w:World) (h:Heap),YP w h→(K w.params).In h)
  (F:∀(w:World) (mg:Str→Option Value) (fa:Addr) (h:Heap),(K w.params).In h→h.Ns mainGlobals mg→mg d.name=some (.ref fa)→
   ∃fd:FuncData,(∀(s:Shared) (u:Value),BindsTo s fd ⟨[u],[]⟩ [("_law_script",u)])∧∀base:Heap,(K w.params).In base→base.Ns mainGlobals mg→FnOk l.prog w (K w.params) mg base CX0 40 fa fd ["_law_script"] (spLawM (K w.params))):
  PySem.W.WalkO q loose XP YP l.row.toRowW d [] (fun f vs=>PySem.call f vs):=
 L2.walk_of (n:=63) (k:=40) (x:="_law_script") (CX:=fun _=>CX0) (sp:=fun w=>spLawM (K w.params)) hn (by decide) hdf ⟨rfl,by decide,by decide⟩ hY F (fun _ _ a ns hl hO hS=>⟨⟨a,ns,rfl,hS,hl,fun _=>rfl⟩,fun b C dx fs e=>by
  rcases hO b with z|⟨o,xs,z⟩
  ·rw[z] at e;cases e
  ·rw[z] at e;cases e⟩) fun _ _ _ _ _ z=>z
theorem lookup2 {a b:Nat}{x y t:Bool}{e:Nat}(h:List.lookup e [(a,x),(b,y)]=some t):(e=a∧t=x)∨(e=b∧t=y):=by
 rw[List.lookup_cons] at h
 cases q:e==a with
 |true=>rw[q] at h;cases h;exact .inl ⟨eq_of_beq q,rfl⟩
 |false=>
  rw[q] at h
  dsimp only at h
  rw[List.lookup_cons] at h
  cases q2:e==b with
  |true=>rw[q2] at h;cases h;exact .inr ⟨eq_of_beq q2,rfl⟩
  |false=>rw[q2] at h;cases h
theorem lookup3 {a b d:Nat}{x y u t:Bool}{e:Nat}(h:List.lookup e [(a,x),(b,y),(d,u)]=some t):(e=a∧t=x)∨(e=b∧t=y)∨(e=d∧t=u):=by
 rw[List.lookup_cons] at h
 cases q:e==a with
 |true=>rw[q] at h;cases h;exact .inl ⟨eq_of_beq q,rfl⟩
 |false=>rw[q] at h;exact .inr (lookup2 h)
theorem kit_self {K:Fg}(c:Addr):PySem.W.kitOne K (.ref c) (.ref c)=some true:=by
 unfold PySem.W.kitOne;rw[if_pos (by simp)]
noncomputable def allA {α:Type}(Q:Str→α→Prop):List (Str×α)→Prop
 |[]=>True
 |p::r=>Q p.1 p.2∧allA Q r
theorem allA_at {α:Type}{Q:Str→α→Prop}:∀{prog:List (Str×α)},allA Q prog→∀x d,prog.lookup x=some d→Q x d
 |[],_,x,d,h=>by cases h
 |(y,e)::r,hq,x,d,h=>by
  rw[List.lookup_cons] at h
  cases hxy:x==y with
  |true=>
   rw[hxy] at h
   have:=eq_of_beq hxy
   subst this
   cases h
   exact hq.1
  |false=>rw[hxy] at h;exact allA_at hq.2 x d h
theorem not_v {vms:List Str}{x:Str}(h:(vms.all fun m=>!(x==vname m))=true){m:Str}(e:x=vname m)(hm:vms.contains m=true):False:=by
 have:=List.all_eq_true.mp h m (List.contains_iff_mem.mp hm)
 rw[e] at this
 simp at this
end L2.Z
set_option maxRecDepth 10000
namespace TX
open PySem SI L2.Z
noncomputable def d_joined:Def:=⟨[true,true],2,(.cons (.ret (.ite (.cmp .eq (.v 0) (.k (.str ⟨#[]⟩))) (.v 1) (.op .add (.op .add (.v 0) (.k (.str ⟨#[47]⟩))) (.v 1)))) .nil)⟩
noncomputable def d_text_of (cV:Nat):Def:=⟨[true,true],2,(.cons (.ret (.vcall cV "content" (.v 0) (.cons (.v 1) (.cons (.k (.str ⟨#[98,108,111,98]⟩)) .nil)))) .nil)⟩
noncomputable def d_l_name:Def:=⟨[true,true],5,(.cons (.set 2 (.call "_law_mix" (.cons (.v 0) (.cons (.v 1) .nil)))) (.cons (.ifs (.cmp .gt (.op .mod (.v 2) (.k (.int 3))) (.k (.int 0))) (.cons (.ret (.idx (.lst (.cons (.k (.str ⟨#[97]⟩)) (.cons (.k (.str ⟨#[98]⟩)) (.cons (.k (.str ⟨#[97,98]⟩)) (.cons (.k (.str ⟨#[97,46,98]⟩)) (.cons (.k (.str ⟨#[66]⟩)) (.cons (.k (.str ⟨#[48]⟩)) (.cons (.k (.str ⟨#[97,45]⟩)) (.cons (.k (.str ⟨#[95]⟩)) .nil))))))))) (.op .mod (.op .fdiv (.v 2) (.k (.int 3))) (.k (.int 8))))) .nil) .nil) (.cons (.set 3 (.k (.str ⟨#[97,98,99,100,101,102,103,104,105,106,107,108,109,110,111,112,113,114,115,116,117,118,119,120,121,122,65,66,67,68,69,70,71,72,73,74,75,76,77,78,79,80,81,82,83,84,85,86,87,88,89,90,48,49,50,51,52,53,54,55,56,57,46,95,45]⟩))) (.cons (.set 4 (.me .join (.k (.str ⟨#[]⟩)) (.cons (.comp 1 [1,0,3] (.one 0) (.rng (.op .add (.k (.int 1)) (.op .mod (.op .fdiv (.v 2) (.k (.int 3))) (.k (.int 12))))) .nil (.idx (.v 3) (.op .mod (.op .fdiv (.call "_law_mix" (.cons (.v 2) (.cons (.op .add (.v 1) (.op .mul (.k (.int 7)) (.v 0))) .nil))) (.k (.int 5))) (.k (.int 65))))) .nil))) (.cons (.ret (.op .add (.v 4) (.op .mul (.k (.str ⟨#[97]⟩)) (.bi .int (.cons (.cmp .isin (.v 4) (.tup (.cons (.k (.str ⟨#[46]⟩)) (.cons (.k (.str ⟨#[46,46]⟩)) .nil)))) .nil))))) .nil)))))⟩
noncomputable def d_l_node:Def:=⟨[true,true,true],5,(.cons (.set 3 (.call "_law_mix" (.cons (.v 0) (.cons (.op .add (.v 1) (.k (.int 1))) .nil)))) (.cons (.ifs (.and (.cmp .gt (.v 2) (.k (.int 0))) (.cmp .lt (.op .mod (.v 3) (.k (.int 5))) (.k (.int 2)))) (.cons (.ret (.call "_law_folder" (.cons (.v 0) (.cons (.v 1) (.cons (.v 2) .nil))))) .nil) .nil) (.cons (.set 4 (.call "_law_row" (.cons (.v 0) (.cons (.op .add (.v 1) (.k (.int 2))) (.cons (.op .mod (.op .fdiv (.v 3) (.k (.int 5))) (.k (.int 4))) .nil))))) (.cons (.ret (.tup (.cons (.k (.str ⟨#[98,108,111,98]⟩)) (.cons (.me .join (.k (.str ⟨#[]⟩)) (.cons (.call "_law_ends" (.cons (.v 4) (.cons (.cmp .eq (.op .mod (.v 3) (.k (.int 3))) (.k (.int 0))) .nil))) .nil)) .nil)))) .nil))))⟩
noncomputable def d_l_folder:Def:=⟨[true,true,true],4,(.cons (.set 3 (.bi .srt (.cons (.comp 1 [1,0] (.one 0) (.rng (.op .mod (.call "_law_mix" (.cons (.v 0) (.cons (.v 1) .nil))) (.k (.int 4)))) .nil (.call "_law_name" (.cons (.v 2) (.cons (.op .add (.op .add (.v 1) (.k (.int 3))) (.v 0)) .nil)))) .nil))) (.cons (.ret (.tup (.cons (.k (.str ⟨#[116,114,101,101]⟩)) (.cons (.comp 1 [2,1,3,0] (.one 0) (.rng (.bi .len (.cons (.v 3) .nil))) .nil (.tup (.cons (.idx (.v 3) (.v 0)) (.cons (.call "_law_node" (.cons (.v 4) (.cons (.op .add (.op .add (.op .mul (.k (.int 4)) (.v 2)) (.k (.int 5))) (.v 0)) (.cons (.op .sub (.v 1) (.k (.int 1))) .nil)))) .nil)))) .nil)))) .nil))⟩
noncomputable def d_l_texts:Def:=⟨[true,true],6,(.cons (.new 2 (.lst .nil)) (.cons (.fors (.tup [3,4]) (.seq (.idx (.v 1) (.k (.int 1)))) (.cons (.set 5 (.ite (.cmp .eq (.v 0) (.k (.str ⟨#[]⟩))) (.v 3) (.op .add (.op .add (.v 0) (.k (.str ⟨#[47]⟩))) (.v 3)))) (.cons (.ifs (.cmp .eq (.idx (.v 4) (.k (.int 0))) (.k (.str ⟨#[116,114,101,101]⟩))) (.cons (.new 2 (.op .add (.v 2) (.call "_law_texts" (.cons (.v 5) (.cons (.v 4) .nil))))) .nil) (.cons (.app 2 (.tup (.cons (.v 5) (.cons (.idx (.v 4) (.k (.int 1))) .nil)))) .nil)) .nil))) (.cons (.ret (.v 2)) .nil)))⟩
noncomputable def d_entries_ofM:DefM:=⟨[false,false],2,(.cons (.ret (.lst (.meth "content" 0 (.va 1 (.ex (.p (.k (.str ⟨#[116,114,101,101]⟩))) .nil))))) .nil)⟩
noncomputable def d_files:DefM:=⟨[false,false,false],3,(.cons (.expr (.call "names_of" (.va 2 .nil))) (.cons (.ret (.call "blobs_below" (.va 0 (.va 1 (.va 2 .nil))))) .nil))⟩
noncomputable def d_names_of (cNP:Nat):DefM:=⟨[false],2,(.cons (.ifs (.cmp .eq (.v 0) (.k (.str ⟨#[]⟩))) (.cons (.ret (.p (.lst .nil))) .nil) .nil) (.cons (.set 1 (.p (.me .split (.v 0) (.cons (.k (.str ⟨#[47]⟩)) .nil)))) (.cons (.ifs (.or (.cmp .gt (.bi .len (.cons (.v 1) .nil)) (.g "MOST_NAMES")) (.not (.bi .all (.cons (.comp 1 [] (.one 0) (.seq (.v 1)) .nil (.call "is_name" (.cons (.v 0) .nil))) .nil)))) (.cons (.raise cNP (.ex (.p (.k (.str ⟨#[116,104,105,115,32,105,115,32,110,111,32,112,97,116,104]⟩))) .nil)) .nil) .nil) (.cons (.ret (.p (.v 1))) .nil))))⟩
noncomputable def d_blobs_below (cV:Nat):DefM:=⟨[false,false,false],7,(.cons (.pure (.new 3 (.lst .nil))) (.cons (.form (.tup [4,5]) (.call "entries_of" (.va 0 (.va 1 .nil))) (.cons (.set 6 (.p (.call "joined" (.cons (.v 2) (.cons (.v 4) .nil))))) (.cons (.ifs (.cmp .eq (.vcall cV "kind" (.v 0) (.cons (.v 5) .nil)) (.k (.str ⟨#[98,108,111,98]⟩))) (.cons (.pure (.app 3 (.tup (.cons (.v 6) (.cons (.v 5) .nil))))) .nil) (.cons (.ext 3 (.call "blobs_below" (.va 0 (.va 5 (.va 6 .nil))))) .nil)) .nil))) (.cons (.ret (.p (.v 3))) .nil)))⟩
noncomputable def d_l_store:DefM:=⟨[false,false],2,(.cons (.ifs (.cmp .eq (.idx (.v 1) (.k (.int 0))) (.k (.str ⟨#[98,108,111,98]⟩))) (.cons (.ret (.call "blob" (.va 0 (.ex (.p (.idx (.v 1) (.k (.int 1)))) .nil)))) .nil) .nil) (.cons (.ret (.call "tree" (.va 0 (.ex (.comp 2 [0] (.tup [0,1]) (.p (.idx (.v 1) (.k (.int 1)))) (.tup (.va 0 (.ex (.call "_law_store" (.va 2 (.va 1 .nil))) .nil)))) .nil)))) .nil))⟩
noncomputable def d_l_wrong (cNO:Nat)(cBT:Nat)(cNP:Nat):DefM:=⟨[false,false],4,(.cons (.set 2 (.p (.k .none))) (.cons (.try1 [(cNO,true),(cBT,true),(cNP,true)] 2 3 (.cons (.expr (.call "files" (.va 0 (.va 1 (.ex (.p (.k (.str ⟨#[]⟩))) .nil))))) .nil)) (.cons (.ret (.p (.and (.isx (.v 2) cNO [(cNO,true),(cBT,false),(cNP,false)]) (.not (.isx (.v 2) cNP [(cNO,false),(cBT,false),(cNP,true)]))))) .nil)))⟩
noncomputable def d_law_k51 (cV:Nat):DefM:=⟨[true],7,(.cons (.set 1 (.p (.call "_law_folder" (.cons (.v 0) (.cons (.op .mod (.call "_law_mix" (.cons (.v 0) (.cons (.k (.int 60)) .nil))) (.k (.int 7))) (.cons (.k (.int 3)) .nil)))))) (.cons (.set 2 .new) (.cons (.set 3 (.call "blob" (.va 2 (.ex (.p (.k (.str ⟨#[98]⟩))) .nil)))) (.cons (.set 4 (.call "_law_store" (.va 2 (.va 1 .nil)))) (.cons (.set 5 (.p (.me .join (.k (.str ⟨#[47]⟩)) (.cons (.comp 1 [0] (.one 0) (.rng (.op .mod (.call "_law_mix" (.cons (.v 0) (.cons (.k (.int 61)) .nil))) (.k (.int 3)))) .nil (.call "_law_name" (.cons (.v 1) (.cons (.op .add (.k (.int 50)) (.v 0)) .nil)))) .nil)))) (.cons (.set 6 (.call "files" (.va 2 (.va 4 (.va 5 .nil))))) (.cons (.ifs (.or (.not (.isi (.v 6) "list")) (.not (.bi .all (.cons (.comp 1 [] (.one 0) (.seq (.v 6)) .nil (.and (.isi (.v 0) "tuple") (.cmp .eq (.bi .len (.cons (.v 0) .nil)) (.k (.int 2))))) .nil)))) (.cons (.ret (.p (.k (.bool false)))) .nil) .nil) (.cons (.ifs (.not (.bi .all (.cons (.comp 1 [] (.one 0) (.seq (.v 6)) .nil (.call "_law_whole" (.cons (.idx (.v 0) (.k (.int 1))) .nil))) .nil))) (.cons (.ret (.p (.k (.bool false)))) .nil) .nil) (.cons (.ifs (.cmp .ne (.comp 2 [2] (.tup [0,1]) (.seq (.v 6)) .nil (.tup (.cons (.v 0) (.cons (.call "text_of" (.cons (.v 2) (.cons (.v 1) .nil))) .nil)))) (.call "_law_texts" (.cons (.v 5) (.cons (.v 1) .nil)))) (.cons (.ret (.p (.k (.bool false)))) .nil) .nil) (.cons (.ret (.and (.call "_law_wrong" (.va 2 (.va 3 .nil))) (.call "_law_wrong" (.va 2 (.ex (.p (.idx (.lst (.cons (.neg (.k (.int 1))) (.cons (.vcall cV "size" (.v 2) .nil) .nil))) (.op .mod (.call "_law_mix" (.cons (.v 0) (.cons (.k (.int 62)) .nil))) (.k (.int 2))))) .nil))))) .nil))))))))))⟩
noncomputable def d_vm_held (cV:Nat)(cNO:Nat):DefM:=⟨[false,false],2,(.cons (.ifs (.not (.chain .le .lt (.k (.int 0)) (.v 1) (.bi .len (.cons (.vob cV (.v 0)) .nil)))) (.cons (.raise cNO (.ex (.p (.k (.str ⟨#[110,111,32,111,98,106,101,99,116,32,104,97,115,32,116,104,105,115,32,110,117,109,98,101,114]⟩))) .nil)) .nil) .nil) (.cons (.ret (.p (.idx (.vob cV (.v 0)) (.v 1)))) .nil))⟩
noncomputable def d_vm_content (cNO:Nat):DefM:=⟨[false,false,false],4,(.cons (.set 3 (.meth "held" 0 (.va 1 .nil))) (.cons (.ifs (.cmp .ne (.idx (.v 3) (.k (.int 0))) (.v 2)) (.cons (.raise cNO (.ex (.p (.bi .fst (.cons (.k (.str ⟨#[116,104,101,32,111,98,106,101,99,116,32,119,105,116,104,32,116,104,105,115,32,110,117,109,98,101,114,32,105,115,32,110,111,32]⟩)) (.cons (.v 2) .nil)))) .nil)) .nil) .nil) (.cons (.ret (.p (.idx (.v 3) (.k (.int 1))))) .nil)))⟩
end TX
namespace TX
open PySem SI M1
variable {Φ:Fs}{Γ:List (Str×D)}
noncomputable abbrev IsNm (o:Option D):Prop:=∃t:Str,o=some (.str t)∧nameF t=true
noncomputable abbrev HName (Φ:Fs):Prop:=Has Φ "_law_name" [true,true] fun run=>∀ns k,IsNm (run [.scr ns,.int k])
theorem nameF_len {t:Str}(h:nameF t=true):1≤t.length∧t.length≤12:=by
 unfold nameF at h
 simp only[be0,decide_eq_true_eq] at h
 exact⟨h.1.1.1.1,h.1.1.1.2⟩
theorem nameF_sign {t:Str}(h:nameF t=true):∀c∈t.cps.toList,signOk c=true:=by
 unfold nameF at h
 simp only[be0] at h
 exact List.all_eq_true.mp h.2
noncomputable def menu8:List Str:=[⟨#[97]⟩,⟨#[98]⟩,⟨#[97,98]⟩,⟨#[97,46,98]⟩,⟨#[66]⟩,⟨#[48]⟩,⟨#[97,45]⟩,⟨#[95]⟩]
theorem menu8_ok:∀x∈menu8,nameF x=true:=by decide
noncomputable def sgn7 (ns:List Int)(b:Int)(k:Nat):Nat:=(signs65[(mixF ns (b+7*(k:Int)) / 5 % 65).toNat]?).getD 0
theorem sgn7_ok (ns:List Int)(b:Int)(k:Nat):signOk (sgn7 ns b k)=true:=by
 have q1:=Int.emod_nonneg (mixF ns (b+7*(k:Int)) / 5) (b:=65) (by decide)
 have q2:=Int.emod_lt_of_pos (mixF ns (b+7*(k:Int)) / 5) (b:=65) (by decide)
 have hl:(mixF ns (b+7*(k:Int)) / 5 % 65).toNat<signs65.length:=by show _<65;omega
 unfold sgn7 signOk
 rw[ge0 hl]
 exact decide_eq_true (List.getElem_mem hl)
theorem join_one (l:List Nat):Txt.join Str.empty (l.map fun c=>(⟨#[c]⟩:Str))=⟨l.toArray⟩:=by
 apply str_ext
 rw[join_empty,List.map_map]
 show _=l
 induction l with
 |nil=>rfl
 |cons c r ih=>rw[List.map_cons,List.flatten_cons,ih];rfl
theorem name_run (hm:HMix Φ)(ns:List Int)(b:Int):IsNm (ans Φ Γ d_l_name [.scr ns,.int b]):=by
 obtain⟨r1,e1,h1⟩:=hm
 let S:Str:=⟨signs65.toArray⟩
 generalize hN:mixF ns b=N
 have N0:0≤N:=by rw[←hN];exact mix_nonneg _ _
 unfold ans
 rw[show startR d_l_name [.scr ns,.int b]=[.lent (.scr ns),.lent (.int b),.no,.no,.no] from rfl]
 refine go_nx (P:=IsNm) (ρ':=[.lent (.scr ns),.lent (.int b),.dat (.int N),.no,.no]) (by simp[e1,h1,hN]) ?_
 by_cases c0:0<N % 3
 ·have g1:=Int.emod_nonneg (N / 3) (b:=8) (by decide)
  have g2:=Int.emod_lt_of_pos (N / 3) (b:=8) (by decide)
  have e:atI (menu8.map D.str) (N / 3 % 8)=some (.str ((menu8[(N / 3 % 8).toNat]?).getD Str.empty)):=by
   rw[atI_pos g1 (by show _<((8:Nat):Int);exact_mod_cast g2),List.getElem?_map,get_of_lt Str.empty (xs:=menu8) (by show _<8;omega)];rfl
  have e':atI [D.str ⟨#[97]⟩,.str ⟨#[98]⟩,.str ⟨#[97,98]⟩,.str ⟨#[97,46,98]⟩,.str ⟨#[66]⟩,.str ⟨#[48]⟩,.str ⟨#[97,45]⟩,.str ⟨#[95]⟩] (N / 3 % 8)=some (.str ((menu8[(N / 3 % 8).toNat]?).getD Str.empty)):=e
  refine⟨(menu8[(N / 3 % 8).toNat]?).getD Str.empty,by simp[c0,e'],?_⟩
  have hl:(N / 3 % 8).toNat<menu8.length:=by show _<8;omega
  rw[ge0 hl]
  exact menu8_ok _ (List.getElem_mem hl)
 refine go_nx (P:=IsNm) (ρ':=[.lent (.scr ns),.lent (.int b),.dat (.int N),.no,.no]) (by simp[c0]) ?_
 refine go_nx (P:=IsNm) (ρ':=[.lent (.scr ns),.lent (.int b),.dat (.int N),.dat (.str S),.no]) rfl ?_
 have m1:=Int.emod_nonneg (N / 3) (b:=12) (by decide)
 have m2:=Int.emod_lt_of_pos (N / 3) (b:=12) (by decide)
 generalize hM:1+N / 3 % 12=M at *
 have M1:1≤M∧M≤12:=by omega
 let cs:List Nat:=(List.range M.toNat).map (sgn7 ns b)
 let T:Str:=⟨cs.toArray⟩
 have hS:S.length≤big:=by decide
 have hcomp:ev Φ Γ .read [.lent (.scr ns),.lent (.int b),.dat (.int N),.dat (.str S),.no] (.comp 1 [1,0,3] (.one 0) (.rng (.op .add (.k (.int 1)) (.op .mod (.op .fdiv (.v 2) (.k (.int 3))) (.k (.int 12))))) .nil (.idx (.v 3) (.op .mod (.op .fdiv (.call "_law_mix" (.cons (.v 2) (.cons (.op .add (.v 1) (.op .mul (.k (.int 7)) (.v 0))) .nil))) (.k (.int 5))) (.k (.int 65)))))=some (.list ((cs.map fun c=>(⟨#[c]⟩:Str)).map .str)):=by
  have hr:=rOk_of (n:=M) (by omega) (by omega)
  have hz:M.toNat≤big:=by unfold big;omega
  have key:=fun f h=>compL_map (f:=f) (inj:=fun k:Nat=>D.int k) (g:=fun k:Nat=>D.str ⟨#[sgn7 ns b k]⟩) (xs:=List.range M.toNat) h
  have src:evI Φ Γ .read [.lent (.scr ns),.lent (.int b),.dat (.int N),.dat (.str S),.no] (.rng (.op .add (.k (.int 1)) (.op .mod (.op .fdiv (.v 2) (.k (.int 3))) (.k (.int 12)))))=some ((List.range M.toNat).map fun k:Nat=>D.int k):=by
   simp[hM,hr]
  rw[ev,fin_read,src,bs0,if_pos (by simpa using hz),key]
  ·simp[cs]
  ·intro k _
   have q1:=Int.emod_nonneg (mixF ns (b+7*(k:Int)) / 5) (b:=65) (by decide)
   have q2:=Int.emod_lt_of_pos (mixF ns (b+7*(k:Int)) / 5) (b:=65) (by decide)
   have q3:atI S.cps.toList (mixF ns (b+7*(k:Int)) / 5 % 65)=some (sgn7 ns b k):=atI_some (xs:=signs65) 0 q1 q2
   simp[e1,h1,q3,hS,cMul_l 7]
 have hj:((((cs.map fun c=>(⟨#[c]⟩:Str)).map (·.length)).sum+(cs.map fun c=>(⟨#[c]⟩:Str)).length*(⟨#[]⟩:Str).length≤big)):=by
  have:((fun x:Str=>x.length) ∘ fun c:Nat=>(⟨#[c]⟩:Str))=fun _=>1:=by funext k;rfl
  rw[List.map_map,this,List.map_const',List.sum_replicate_nat]
  have:(⟨#[]⟩:Str).length=0:=rfl
  rw[this]
  simp only[cs,lm0,List.length_range]
  unfold big
  omega
 refine go_nx (P:=IsNm) (ρ':=[.lent (.scr ns),.lent (.int b),.dat (.int N),.dat (.str S),.dat (.str T)]) ?_ ?_
 ·rw[ex,ev,fin_val,ev,fin_read,bs0,evs,List.headD_cons,if_pos rfl,hcomp,bs0,evs,Option.map_some,bs0,me_join,strsOf_map,bs0,if_pos hj]
  rw[show (⟨#[]⟩:Str)=Str.empty from rfl,join_one]
  rfl
 have hT:T.length=M.toNat:=by show cs.toArray.size=_;simp[cs]
 have signs:∀c∈T.cps.toList,signOk c=true:=by
  intro c hc
  have hc:c∈cs:=hc
  obtain⟨k,_,rfl⟩:=List.mem_map.mp hc
  exact sgn7_ok ns b k
 let ρ:List Sl:=[.lent (.scr ns),.lent (.int b),.dat (.int N),.dat (.str S),.dat (.str T)]
 have isin:ev Φ Γ .read ρ (.cmp .isin (.v 4) (.tup (.cons (.k (.str ⟨#[46]⟩)) (.cons (.k (.str ⟨#[46,46]⟩)) .nil))))=some (.bool (decide (D.str dot=D.str T)||(decide (D.str dots=D.str T)||false))):=rfl
 generalize hb:(decide (D.str dot=D.str T)||(decide (D.str dots=D.str T)||false))=bb at isin
 have h2:ev Φ Γ .read ρ (.bi .int (.cons (.cmp .isin (.v 4) (.tup (.cons (.k (.str ⟨#[46]⟩)) (.cons (.k (.str ⟨#[46,46]⟩)) .nil)))) .nil))=some (.int (if bb then 1 else 0)):=by
  rw[ev,fin_read,evs,List.headD_cons,if_pos rfl,isin,bs0,evs,Option.map_some,bs0];rfl
 have h3:ev Φ Γ .read ρ (.op .mul (.k (.str ⟨#[97]⟩)) (.bi .int (.cons (.cmp .isin (.v 4) (.tup (.cons (.k (.str ⟨#[46]⟩)) (.cons (.k (.str ⟨#[46,46]⟩)) .nil)))) .nil)))=some (.str (if bb then⟨#[97]⟩ else Str.empty)):=by
  rw[ev,fin_read,h2]
  cases bb<;>rfl
 have h4:ev Φ Γ .val ρ (.op .add (.v 4) (.op .mul (.k (.str ⟨#[97]⟩)) (.bi .int (.cons (.cmp .isin (.v 4) (.tup (.cons (.k (.str ⟨#[46]⟩)) (.cons (.k (.str ⟨#[46,46]⟩)) .nil)))) .nil))))=some (.str (T++(if bb then⟨#[97]⟩ else Str.empty))):=by
  rw[ev,fin_val,h3]
  show (if T.length+(if bb then (⟨#[97]⟩:Str) else Str.empty).length≤big then some (D.str (T++(if bb then⟨#[97]⟩ else Str.empty))) else Option.none)=_
  have:(if bb then (⟨#[97]⟩:Str) else Str.empty).length≤1:=by cases bb<;>decide
  exact if_pos (nt0 (Nat.add_le_add (Nat.le_of_eq hT) this) (by unfold big;omega))
 have fin:(exs Φ Γ ρ (.cons (.ret (.op .add (.v 4) (.op .mul (.k (.str ⟨#[97]⟩)) (.bi .int (.cons (.cmp .isin (.v 4) (.tup (.cons (.k (.str ⟨#[46]⟩)) (.cons (.k (.str ⟨#[46,46]⟩)) .nil)))) .nil))))) .nil)).bind Out.val=some (.str (T++(if bb then⟨#[97]⟩ else Str.empty))):=by
  rw[exs,ex,show ρ.map freeze=ρ from rfl,h4];rfl
 refine⟨_,fin,?_⟩
 cases bb with
 |true=>
  simp only[Bool.or_false,Bool.or_eq_true,decide_eq_true_eq] at hb
  rcases hb with hb|hb
  ·injection hb with hb;rw[←hb];decide
  ·injection hb with hb;rw[←hb];decide
 |false=>
  simp only[Bool.or_false,Bool.or_eq_false_iff,decide_eq_false_iff_not] at hb
  have e:T++(if false=true then (⟨#[97]⟩:Str) else Str.empty)=T:=str_ext (by show (T.cps++#[]).toList=_;simp)
  rw[e]
  unfold nameF
  rw[decide_eq_true (by omega:1≤T.length),decide_eq_true (by omega:T.length≤12),decide_eq_false (fun z=>hb.1 (by rw[z])),decide_eq_false (fun z=>hb.2 (by rw[z])),List.all_eq_true.mpr signs]
  rfl
mutual
inductive Nd where
 |blob (t:Str)
 |tree (es:Nds)
inductive Nds where
 |nil
 |cons (x:Str) (n:Nd) (r:Nds)
end
mutual
noncomputable def Nd.d:Nd→D
 |.blob t=>.tuple [.str kBlob,.str t]
 |.tree es=>.tuple [.str kTree,.list es.ds]
noncomputable def Nds.ds:Nds→List D
 |.nil=>[]
 |.cons x n r=>.tuple [.str x,n.d]::r.ds
end
noncomputable def Nds.names:Nds→List Str
 |.nil=>[]
 |.cons x _ r=>x::r.names
mutual
noncomputable def Nd.ok:Nat→Nd→Prop
 |_,.blob t=>t.length≤100
 |0,.tree _=>False
 |k+1,.tree es=>RiseS es.names∧(∀x∈es.names,nameF x=true)∧es.names.length≤3∧es.ok k
noncomputable def Nds.ok:Nat→Nds→Prop
 |_,.nil=>True
 |k,.cons _ n r=>n.ok k∧r.ok k
end
theorem Nds.len:∀es:Nds,es.ds.length=es.names.length
 |.nil=>rfl
 |.cons x n r=>by rw[Nds.ds,Nds.names,lc0,lc0,Nds.len r]
variable {Φ:Fs}{Γ:List (Str×D)}
noncomputable abbrev HFold (Φ:Fs)(m:Nat):Prop:=Has Φ "_law_folder" [true,true,true] fun run=>∀ns k,∃es,(Nd.tree es).ok (m+1)∧run [.scr ns,.int k,.int m]=some (Nd.tree es).d
noncomputable abbrev HNode (Φ:Fs)(m:Nat):Prop:=Has Φ "_law_node" [true,true,true] fun run=>∀ns k,∃n:Nd,n.ok (m+1)∧run [.scr ns,.int k,.int m]=some n.d
theorem compL_names {f:D→Option (Option D)}{P:Str→Prop}:∀xs:List D,(∀x∈xs,∃t:Str,P t∧f x=some (some (.str t)))→∃ts:List Str,ts.length=xs.length∧(∀t∈ts,P t)∧compL f xs=some (ts.map .str)
 |[],_=>⟨[],rfl,(fun _ h=>by cases h),rfl⟩
 |x::r,h=>by
  obtain⟨t,p,e⟩:=h x ms0
  obtain⟨ts,l,q,e2⟩:=compL_names r fun y hy=>h y (mc0 _ hy)
  refine⟨t::ts,by rw[lc0,l,lc0],fun u hu=>?_,?_⟩
  ·rcases List.mem_cons.mp hu with z|z
   ·rw[z];exact p
   ·exact q u z
  ·rw[compL,e,bs0,e2];rfl
theorem compL_nodes {f:D→Option (Option D)}{m:Nat}:∀(zs:List Str) (i:Nat),(∀(j:Nat) (z:Str),zs[j]?=some z→∃n:Nd,n.ok m∧f (.int ((i+j:Nat):Int))=some (some (.tuple [.str z,n.d])))→∃es:Nds,es.names=zs∧es.ok m∧compL f ((List.range' i zs.length).map fun k:Nat=>D.int k)=some es.ds
 |[],i,_=>⟨.nil,rfl,trivial,rfl⟩
 |z::r,i,h=>by
  obtain⟨n,p,e⟩:=h 0 z rfl
  obtain⟨es,a,b,c⟩:=compL_nodes r (i+1) fun j y hy=>by
   obtain⟨n,p,e⟩:=h (j+1) y (by simpa using hy)
   exact⟨n,p,by rw[←e];congr 2;omega⟩
  refine⟨.cons z n es,by rw[Nds.names,a],⟨p,b⟩,?_⟩
  rw[lc0,List.range'_succ,List.map_cons,compL,show f (D.int (i:Int))=some (some (.tuple [.str z,n.d])) from e,bs0,c]
  rfl
theorem node_run (hm:HMix Φ)(hr:HRow Φ)(he:HEnds Φ)(m:Nat)(hf:0<m→HFold Φ m)(ns:List Int)(k:Int):∃n:Nd,n.ok (m+1)∧ans Φ Γ d_l_node [.scr ns,.int k,.int m]=some n.d:=by
 obtain⟨r1,e1,h1⟩:=hm
 obtain⟨r2,e2,h2⟩:=hr
 obtain⟨r3,e3,h3⟩:=he
 generalize hN:mixF ns (k+1)=N
 have N0:0≤N:=by rw[←hN];exact mix_nonneg _ _
 let P:Option D→Prop:=fun o=>∃n:Nd,n.ok (m+1)∧o=some n.d
 show P (ans Φ Γ d_l_node [.scr ns,.int k,.int m])
 unfold ans
 rw[show startR d_l_node [.scr ns,.int k,.int m]=[.lent (.scr ns),.lent (.int k),.lent (.int m),.no,.no] from rfl]
 refine go_nx (P:=P) (ρ':=[.lent (.scr ns),.lent (.int k),.lent (.int m),.dat (.int N),.no]) (by simp[e1,h1,hN]) ?_
 have blob:P ((exs Φ Γ [.lent (.scr ns),.lent (.int k),.lent (.int m),.dat (.int N),.no] (.cons (.set 4 (.call "_law_row" (.cons (.v 0) (.cons (.op .add (.v 1) (.k (.int 2))) (.cons (.op .mod (.op .fdiv (.v 3) (.k (.int 5))) (.k (.int 4))) .nil))))) (.cons (.ret (.tup (.cons (.k (.str ⟨#[98,108,111,98]⟩)) (.cons (.me .join (.k (.str ⟨#[]⟩)) (.cons (.call "_law_ends" (.cons (.v 4) (.cons (.cmp .eq (.op .mod (.v 3) (.k (.int 3))) (.k (.int 0))) .nil))) .nil)) .nil)))) .nil))).bind Out.val):=by
  have g1:=Int.emod_nonneg (N / 5) (b:=4) (by decide)
  have g2:=Int.emod_lt_of_pos (N / 5) (b:=4) (by decide)
  generalize hM:N / 5 % 4=M at g1 g2
  let row:=rowF ns (k+2) M
  have rc:∀x∈row,Clean 3 x:=row_clean _ _ _
  have rl:row.length=M.toNat:=row_len _ _ _
  let L:=endsF row (decide (N % 3=0))
  have ll:L.length≤3:=by show (endsF row _).length≤3;rw[ends_len,rl];omega
  have ls:∀x∈L,x.length≤4:=ends_short (fun x hx=>(rc x hx).short) _
  have hsum:(L.map (·.length)).sum≤12:=nt0 (sum_le ls) (by omega)
  have hj:(L.map (·.length)).sum+L.length*(⟨#[]⟩:Str).length≤big:=by
   have:(⟨#[]⟩:Str).length=0:=rfl
   rw[this];unfold big;omega
  refine go_nx (P:=P) (ρ':=[.lent (.scr ns),.lent (.int k),.lent (.int m),.dat (.int N),.dat (.list (row.map .str))]) ?_ ?_
  ·have:=h2 ns (k+2) M (by omega) (by omega)
   simp[e2,hM,this,row]
  ·have hend:ev Φ Γ .read [.lent (.scr ns),.lent (.int k),.lent (.int m),.dat (.int N),.dat (.list (row.map .str))] (.call "_law_ends" (.cons (.v 4) (.cons (.cmp .eq (.op .mod (.v 3) (.k (.int 3))) (.k (.int 0))) .nil)))=some (.list (L.map .str)):=by
    have:=h3 row (decide (N % 3=0)) (by omega) (fun x hx=>nt0 (rc x hx).short (by omega))
    simp[e3,this,L]
   have hjoin:ev Φ Γ .val [.lent (.scr ns),.lent (.int k),.lent (.int m),.dat (.int N),.dat (.list (row.map .str))] (.me .join (.k (.str ⟨#[]⟩)) (.cons (.call "_law_ends" (.cons (.v 4) (.cons (.cmp .eq (.op .mod (.v 3) (.k (.int 3))) (.k (.int 0))) .nil))) .nil))=some (.str (Txt.join Str.empty L)):=by
    rw[ev,fin_val,ev,fin_read,bs0,evs,List.headD_cons,if_pos rfl,hend,bs0,evs,Option.map_some,bs0,me_join,strsOf_map,bs0,if_pos hj]
    rfl
   refine⟨.blob (Txt.join Str.empty L),nt0 (join_len L) (by omega),?_⟩
   rw[exs,ex,show List.map freeze [Sl.lent (.scr ns),.lent (.int k),.lent (.int m),.dat (.int N),.dat (.list (row.map .str))]=[.lent (.scr ns),.lent (.int k),.lent (.int m),.dat (.int N),.dat (.list (row.map .str))] from rfl,ev,fin_val,evs,evs]
   simp only[List.headD_nil,Bool.false_eq_true,if_false,List.tail_nil,hjoin]
   rfl
 by_cases c0:0<m∧N % 5<2
 ·obtain⟨r4,e4,h4⟩:=hf c0.1
  obtain⟨es,p,e⟩:=h4 ns k
  refine⟨.tree es,p,?_⟩
  simp[c0.1,c0.2,e4,e]
 ·refine go_nx (P:=P) (ρ':=[.lent (.scr ns),.lent (.int k),.lent (.int m),.dat (.int N),.no]) ?_ blob
  by_cases c1:0<m
  ·have c2:¬ N % 5<2:=fun z=>c0 ⟨c1,z⟩
   simp[c1,c2]
  ·simp[c1]
theorem src_len {a b c:Sl}{L:List D}(h:L.length≤1000):evI Φ Γ .read [a,b,c,.dat (.list L)] (.rng (.bi .len (.cons (.v 3) .nil)))=some ((List.range L.length).map fun k:Nat=>D.int k):=by
 have e:ev Φ Γ .val [a,b,c,.dat (.list L)] (.bi .len (.cons (.v 3) .nil))=some (.int (L.length:Int)):=rfl
 generalize L.length=n at e h
 have hr:=rOk_of (n:=(n:Int)) (by omega) (by omega)
 rw[evI,e,bs0,asI_int,bs0,if_pos hr,Int.toNat_natCast]
theorem folder_run (hm:HMix Φ)(hn:HName Φ)(m:Nat)(hd:HNode Φ m)(ns:List Int)(k:Int):∃es,(Nd.tree es).ok (m+2)∧ans Φ Γ d_l_folder [.scr ns,.int k,.int ((m+1:Nat):Int)]=some (Nd.tree es).d:=by
 obtain⟨r1,e1,h1⟩:=hm
 obtain⟨r2,e2,h2⟩:=hn
 obtain⟨r3,e3,h3⟩:=hd
 have g:=mix_mod ns k 4 (by decide)
 generalize hM:mixF ns k % 4=M at g
 let P:Option D→Prop:=fun o=>∃es,(Nd.tree es).ok (m+2)∧o=some (Nd.tree es).d
 show P (ans Φ Γ d_l_folder [.scr ns,.int k,.int ((m+1:Nat):Int)])
 unfold ans
 rw[show startR d_l_folder [.scr ns,.int k,.int ((m+1:Nat):Int)]=[.lent (.scr ns),.lent (.int k),.lent (.int ((m+1:Nat):Int)),.no] from rfl]
 generalize hm1:((m+1:Nat):Int)=m1
 obtain⟨ts,tl,tp,te⟩:∃ts:List Str,ts.length=M.toNat∧(∀t∈ts,nameF t=true)∧ev Φ Γ .read [.lent (.scr ns),.lent (.int k),.lent (.int m1),.no] (.comp 1 [1,0] (.one 0) (.rng (.op .mod (.call "_law_mix" (.cons (.v 0) (.cons (.v 1) .nil))) (.k (.int 4)))) .nil (.call "_law_name" (.cons (.v 2) (.cons (.op .add (.op .add (.v 1) (.k (.int 3))) (.v 0)) .nil))))=some (.list (ts.map .str)):=by
  have hr:=rOk_of (n:=M) (by omega) (by omega)
  have hz:M.toNat≤big:=by unfold big;omega
  have src:evI Φ Γ .read [.lent (.scr ns),.lent (.int k),.lent (.int m1),.no] (.rng (.op .mod (.call "_law_mix" (.cons (.v 0) (.cons (.v 1) .nil))) (.k (.int 4))))=some ((List.range M.toNat).map fun k:Nat=>D.int k):=by
   simp[e1,h1,hM,hr]
  obtain⟨ts,tl,tp,te⟩:=compL_names (P:=fun t=>nameF t=true) (f:=fun d=>(bindTg (.one 0) d (SI.blk 1 [1,0] [.lent (.scr ns),.lent (.int k),.lent (.int m1),.no])).bind fun ρ'=>(evC Φ Γ ρ' .nil).bind fun t=>if t then (ev Φ Γ .val ρ' (.call "_law_name" (.cons (.v 2) (.cons (.op .add (.op .add (.v 1) (.k (.int 3))) (.v 0)) .nil)))).map some else some Option.none) ((List.range M.toNat).map fun k:Nat=>D.int k) (fun x hx=>by
   obtain⟨j,_,rfl⟩:=List.mem_map.mp hx
   obtain⟨t,a,b⟩:=h2 ns (k+3+j)
   exact⟨t,b,by simp[e2,a]⟩)
  refine⟨ts,by rw[tl];simp,tp,?_⟩
  rw[ev,fin_read,src,bs0,if_pos (by rw[lm0,List.length_range];exact hz),te]
  rfl
 let zs:=srtS ts
 have zl:zs.length≤3:=nt0 (srtS_len ts) (by omega)
 have zp:∀t∈zs,nameF t=true:=fun t ht=>tp t ((mem_srtS ts t).mp ht)
 refine go_nx (P:=P) (ρ':=[.lent (.scr ns),.lent (.int k),.lent (.int m1),.dat (.list (zs.map .str))]) ?_ ?_
 ·rw[ex,ev,fin_val,evs,List.headD_cons,if_pos rfl,te,bs0,evs,Option.map_some,bs0]
  show (((strsOf (ts.map .str)).bind fun ss=>if ss.length<64 then some (D.list ((srtS ss).map .str)) else Option.none).map fun d=>Out.nx _)=_
  rw[strsOf_map,bs0,if_pos (by omega)]
  rfl
 obtain⟨es,en,eo,ee⟩:=compL_nodes (m:=m+1) (f:=fun d=>(bindTg (.one 0) d (SI.blk 1 [2,1,3,0] [.lent (.scr ns),.lent (.int k),.lent (.int m1),.dat (.list (zs.map .str))])).bind fun ρ'=>(evC Φ Γ ρ' .nil).bind fun t=>if t then (ev Φ Γ .val ρ' (.tup (.cons (.idx (.v 3) (.v 0)) (.cons (.call "_law_node" (.cons (.v 4) (.cons (.op .add (.op .add (.op .mul (.k (.int 4)) (.v 2)) (.k (.int 5))) (.v 0)) (.cons (.op .sub (.v 1) (.k (.int 1))) .nil)))) .nil)))).map some else some Option.none) zs 0 (fun j z hz=>by
  obtain⟨n,a,b⟩:=h3 ns (4*k+5+j)
  refine⟨n,a,?_⟩
  have hj:j<zs.length:=by
   rcases Nat.lt_or_ge j zs.length with h|h
   ·exact h
   ·rw[List.getElem?_eq_none h] at hz;cases hz
  have ea:atI (zs.map D.str) (j:Int)=some (.str z):=by
   rw[atI_pos (by omega) (by rw[lm0];exact_mod_cast hj),Int.toNat_natCast,List.getElem?_map,hz];rfl
  have em:m1-1=(m:Int):=by omega
  simp[e3,b,ea,em,cMul_l 4])
 refine⟨es,⟨by rw[en];exact rise_srtS ts,by rw[en];exact zp,by rw[en];exact zl,eo⟩,?_⟩
 have hcomp:ev Φ Γ .val [.lent (.scr ns),.lent (.int k),.lent (.int m1),.dat (.list (zs.map .str))] (.comp 1 [2,1,3,0] (.one 0) (.rng (.bi .len (.cons (.v 3) .nil))) .nil (.tup (.cons (.idx (.v 3) (.v 0)) (.cons (.call "_law_node" (.cons (.v 4) (.cons (.op .add (.op .add (.op .mul (.k (.int 4)) (.v 2)) (.k (.int 5))) (.v 0)) (.cons (.op .sub (.v 1) (.k (.int 1))) .nil)))) .nil))))=some (.list es.ds):=by
  have src:evI Φ Γ .read [.lent (.scr ns),.lent (.int k),.lent (.int m1),.dat (.list (zs.map .str))] (.rng (.bi .len (.cons (.v 3) .nil)))=some ((List.range zs.length).map fun k:Nat=>D.int k):=by
   have:=src_len (Φ:=Φ) (Γ:=Γ) (a:=.lent (.scr ns)) (b:=.lent (.int k)) (c:=.lent (.int m1)) (L:=zs.map .str) (by rw[lm0];omega)
   rw[lm0] at this;exact this
  have hz:zs.length≤big:=nt0 zl (by decide)
  rw[ev,fin_val,src,bs0,if_pos (by rw[lm0,List.length_range];exact hz),List.range_eq_range',ee]
  rfl
 rw[exs,ex,show List.map freeze [Sl.lent (.scr ns),.lent (.int k),.lent (.int m1),.dat (.list (zs.map .str))]=[.lent (.scr ns),.lent (.int k),.lent (.int m1),.dat (.list (zs.map .str))] from rfl,ev,fin_val,evs,evs]
 simp only[List.headD_nil,Bool.false_eq_true,if_false,List.tail_nil,hcomp]
 rfl
end TX
namespace TX
open PySem SI M1 L2.Z
variable {Φ:Fs}{Ψ:FsM}{Γ:List (Str×D)}{c cNO cBT cNP:Nat}
noncomputable def Ex (os os':List D):Prop:=∀(i:Nat) d,os[i]?=some d→os'[i]?=some d
theorem Ex.refl (os:List D):Ex os os:=fun _ _ h=>h
theorem Ex.trans {a b d:List D}(h:Ex a b)(k:Ex b d):Ex a d:=fun i x e=>k i x (h i x e)
noncomputable def entN (p:Str×Nat):D:=.tuple [.str p.1,.int (p.2:Int)]
noncomputable abbrev blobD (t:Str):D:=.tuple [.str kBlob,.str t]
noncomputable def treeN (ps:List (Str×Nat)):D:=.tuple [.str kTree,.tuple (ps.map entN)]
mutual
noncomputable def Nd.rep (os:List D):Nat→Nd→Prop
 |i,.blob t=>os[i]?=some (blobD t)
 |i,.tree es=>∃ps:List (Str×Nat),ps.map (·.1)=es.names∧os[i]?=some (treeN ps)∧es.rep os (ps.map (·.2))
noncomputable def Nds.rep (os:List D):List Nat→Nds→Prop
 |[],.nil=>True
 |i::is,.cons _ n r=>n.rep os i∧r.rep os is
 |_,_=>False
end
mutual
theorem Nd.rep_ex {os os':List D}(h:Ex os os'):∀(n:Nd) (i:Nat),n.rep os i→n.rep os' i
 |.blob t,i,e=>h i _ e
 |.tree es,i,e=>by
  rw[Nd.rep] at e ⊢
  obtain⟨ps,a,b,c⟩:=e
  exact⟨ps,a,h i _ b,Nds.rep_ex h es _ c⟩
theorem Nds.rep_ex {os os':List D}(h:Ex os os'):∀(es:Nds) (is:List Nat),es.rep os is→es.rep os' is
 |.nil,[],e=>by rw[Nds.rep];trivial
 |.nil,_::_,e=>by rw[Nds.rep] at e;exact e.elim;all_goals simp
 |.cons x n r,[],e=>by rw[Nds.rep] at e;exact e.elim;all_goals simp
 |.cons x n r,i::is,e=>by
  rw[Nds.rep] at e ⊢
  exact⟨Nd.rep_ex h n i e.1,Nds.rep_ex h r is e.2⟩
end
mutual
noncomputable def Nd.cnt:Nd→Nat
 |.blob _=>1
 |.tree es=>es.cnt+1
noncomputable def Nds.cnt:Nds→Nat
 |.nil=>0
 |.cons _ n r=>n.cnt+r.cnt
end
noncomputable abbrev HRise3 (Φ:Fs):Prop:=Has Φ "names_rise" [true] fun run=>∀xs:List Str,RiseS xs→xs.length≤3→run [.list (xs.map .str)]=some (.bool true)
theorem rise_run3 (xs:List Str)(h:RiseS xs)(hl:xs.length≤3):ans Φ Γ d_names_rise [.list (xs.map .str)]=some (.bool true):=by
 match xs,h,hl with
 |[],_,_=>rfl
 |[x],_,_=>rfl
 |[x,y],h,_=>
  have e:ans Φ Γ d_names_rise [.list [.str x,.str y]]=some (.bool ([ltS x y].all id)):=rfl
  have:=(List.pairwise_cons.mp h).1 y (by simp)
  show ans Φ Γ d_names_rise [.list [.str x,.str y]]=_
  rw[e,this];rfl
 |[x,y,z],h,_=>
  have e:ans Φ Γ d_names_rise [.list [.str x,.str y,.str z]]=some (.bool ([ltS x y,ltS y z].all id)):=rfl
  have h1:=(List.pairwise_cons.mp h).1 y (by simp)
  have h2:=(List.pairwise_cons.mp (List.pairwise_cons.mp h).2).1 z (by simp)
  show ans Φ Γ d_names_rise [.list [.str x,.str y,.str z]]=_
  rw[e,h1,h2];rfl
noncomputable abbrev HRef3 (Ψ:FsM):Prop:=HasM Ψ "refuse_wrong_names" [false] fun run=>∀(U:Ust) (xs:List Str),RiseS xs→xs.length≤3→(∀x∈xs,nameF x=true)→run U [.list (xs.map .str)]=some (U,.ok .none)
theorem refuse_run3 (hn:HIsName Φ)(hr:HRise3 Φ)(U:Ust)(xs:List Str)(h:RiseS xs)(hl:xs.length≤3)(hx:∀x∈xs,nameF x=true):ansM Φ Ψ Γ c (d_refuse_wrong_names cBT) U [.list (xs.map .str)]=some (U,.ok .none):=by
 obtain⟨s2,h1⟩:=ref_loop (Ψ:=Ψ) (Γ:=Γ) (c:=c) (cBT:=cBT) hn U (xs.map .str) xs .no fun x hx'=>nt0 (nameF_len (hx x hx')).2 (by omega)
 rw[if_pos (List.all_eq_true.mpr hx)] at h1
 obtain⟨r2,e2,h2⟩:=hr
 have q:=h2 xs h hl
 have rise:ev Φ Γ .test ([Sl.dat (.list (xs.map .str)),s2].map (vE c U)) (.not (.call "names_rise" (.cons (.v 0) .nil)))=some (.bool false):=by
  simp[e2,q]
 have s1:exM Φ Ψ Γ c [.dat (.list (xs.map .str)),.no] U (.fors (.one 1) (.seq (.v 0)) (refBody cBT))=some (.nx [.dat (.list (xs.map .str)),s2],U):=h1
 show ((exMs Φ Ψ Γ c [.dat (.list (xs.map .str)),.no] U (.cons (.fors (.one 1) (.seq (.v 0)) (refBody cBT)) _)).map _)=_
 rw[exMs,s1,bs0]
 show ((exMs Φ Ψ Γ c [.dat (.list (xs.map .str)),s2] U (.cons (.ifs (.not (.call "names_rise" (.cons (.v 0) .nil))) _ _) .nil)).map _)=_
 rw[exMs,exM,rise];rfl
theorem put_any (os:List D)(d:D)(hd:okK 8 d=true)(ht:isTp d=true)(hz:os.length<1000000):∃os' j,putF1 [os] [.hdl 0,d]=some ([os'],.ok (.int (j:Nat)))∧os'[j]?=some d∧Ex os os'∧os'.length≤os.length+1:=by
 have e:putF1 [os] [.hdl 0,d]=(match os.idxOf? d with
  |some j=>some ([os],.ok (.int (j:Nat)))
  |none=>some ([os++[d]],.ok (.int (os.length:Nat)))):=by
  show (if okK 8 d&&isTp d&&decide (os.length<1000000) then _ else _)=_
  rw[hd,ht,decide_eq_true hz];rfl
 rw[e]
 cases h:os.idxOf? d with
 |some j=>exact⟨os,j,rfl,idxOf_get? h,Ex.refl _,by omega⟩
 |none=>exact⟨os++[d],os.length,rfl,by simp,fun i x hx=>by rw[List.getElem?_append_left (List.getElem?_eq_some_iff.mp hx).1];exact hx,by simp⟩
noncomputable abbrev HBlobN (Ψ:FsM):Prop:=HasM Ψ "blob" [false,false] fun run=>∀(os:List D) (x:Str),os.length<1000000→∃os' j,run [os] [.hdl 0,.str x]=some ([os'],.ok (.int (j:Nat)))∧os'[j]?=some (blobD x)∧Ex os os'∧os'.length≤os.length+1
theorem blob_runN (hp:HPut Ψ)(os:List D)(x:Str)(hz:os.length<1000000):∃os' j,ansM Φ Ψ Γ c d_blob [os] [.hdl 0,.str x]=some ([os'],.ok (.int (j:Nat)))∧os'[j]?=some (blobD x)∧Ex os os'∧os'.length≤os.length+1:=by
 obtain⟨os',j,a,b⟩:=put_any os (blobD x) rfl rfl hz
 refine⟨os',j,?_,b⟩
 have pt:evM Φ Ψ Γ c [Sl.dat (.hdl 0),.dat (.str x)] [os] (.meth "put" 0 (.ex (.p (.tup (.cons (.k (.str kBlob)) (.cons (.v 1) .nil)))) .nil))=some (.ok (.int (j:Nat)),[os']):=by
  have tup:ev Φ Γ .val ([Sl.dat (.hdl 0),.dat (.str x)].map (vE c [os])) (.tup (.cons (.k (.str kBlob)) (.cons (.v 1) .nil)))=some (blobD x):=rfl
  rw[evM,hp,bs0,show hdlOf [Sl.dat (.hdl 0),.dat (.str x)][0]?=some 0 from rfl,bs0,evMs,evM,tup]
  show ((putF1 [os] [.hdl 0,blobD x]).map _)=_
  rw[a];rfl
 show ((exMs Φ Ψ Γ c [Sl.dat (.hdl 0),.dat (.str x)] [os] (.cons (.ret _) .nil)).map _)=_
 rw[exMs,exM,show List.map freeze [Sl.dat (.hdl 0),.dat (.str x)]=[Sl.dat (.hdl 0),.dat (.str x)] from rfl,pt];rfl
theorem treeN_ok (ps:List (Str×Nat)):okK 8 (treeN ps)=true:=by
 have h:(ps.map entN).all (okK 6)=true:=by
  rw[List.all_eq_true]
  intro d hd
  obtain⟨x,_,rfl⟩:=List.mem_map.mp hd
  rfl
 show (true&&((ps.map entN).all (okK 6)&&true))=true
 rw[h];rfl
noncomputable abbrev Kinds (os:List D)(is:List Nat):Prop:=∀i∈is,∃(k:Str) (ds:List D),os[i]?=some (.tuple (.str k::ds))∧k≠kCommit
theorem tree_loopN (hk:HKind Φ c)(os l:List D):∀(ps:List (Str×Nat)) (s2 s3:Sl),Kinds os (ps.map (·.2))→
  ∃s4 s5,forM (bindTg (.tup [2,3])) (fun ρ' U'=>exMs Φ Ψ Γ c ρ' U' (treeBody c cBT)) (ps.map entN) [.dat (.hdl 0),.dat (.list l),s2,s3] [os]=some (.nx [.dat (.hdl 0),.dat (.list l),s4,s5],[os]):=by
 intro ps
 obtain⟨r1,e1,h1⟩:=hk
 induction ps with
 |nil=>intro s2 s3 _;exact⟨s2,s3,rfl⟩
 |cons x r ih=>
  intro s2 s3 hK
  obtain⟨k,ds,hk,hne⟩:=hK x.2 (by simp)
  have q:=h1 0 os x.2 k ds hk
  have t:ev Φ Γ .test ([Sl.dat (.hdl 0),.dat (.list l),.dat (.str x.1),.dat (.int (x.2:Int))].map (vE c [os])) (.cmp .eq (.vcall c "kind" (.v 0) (.cons (.v 3) .nil)) (.k (.str kCommit)))=some (.bool false):=by
   simp[e1,q,hne]
  have bd:exMs Φ Ψ Γ c [.dat (.hdl 0),.dat (.list l),.dat (.str x.1),.dat (.int (x.2:Int))] [os] (treeBody c cBT)=some (.nx [.dat (.hdl 0),.dat (.list l),.dat (.str x.1),.dat (.int (x.2:Int))],[os]):=by
   rw[exMs,exM,t];rfl
  obtain⟨s4,s5,hs⟩:=ih (.dat (.str x.1)) (.dat (.int (x.2:Int))) fun i hi=>hK i (mc0 _ hi)
  refine⟨s4,s5,?_⟩
  show ((exMs Φ Ψ Γ c [.dat (.hdl 0),.dat (.list l),.dat (.str x.1),.dat (.int (x.2:Int))] [os] (treeBody c cBT)).bind _)=_
  rw[bd]
  exact hs
noncomputable abbrev HTreeN (Ψ:FsM):Prop:=HasM Ψ "tree" [false,false] fun run=>∀(os:List D) (ps:List (Str×Nat)),RiseS (ps.map (·.1))→ps.length≤3→(∀x∈ps.map (·.1),nameF x=true)→Kinds os (ps.map (·.2))→os.length<1000000→
 ∃os' j,run [os] [.hdl 0,.list (ps.map entN)]=some ([os'],.ok (.int (j:Nat)))∧os'[j]?=some (treeN ps)∧Ex os os'∧os'.length≤os.length+1
theorem tree_runN (hf:HRef3 Ψ)(hk:HKind Φ c)(hp:HPut Ψ)(os:List D)(ps:List (Str×Nat))(h:RiseS (ps.map (·.1)))(hl:ps.length≤3)(hx:∀x∈ps.map (·.1),nameF x=true)(hK:Kinds os (ps.map (·.2)))(hz:os.length<1000000):
  ∃os' j,ansM Φ Ψ Γ c (d_tree c cBT) [os] [.hdl 0,.list (ps.map entN)]=some ([os'],.ok (.int (j:Nat)))∧os'[j]?=some (treeN ps)∧Ex os os'∧os'.length≤os.length+1:=by
 obtain⟨r1,e1,h1⟩:=hf
 have hr:=h1 [os] (ps.map (·.1)) h (by rw[lm0];exact hl) hx
 have hbig:ps.length≤big:=nt0 hl (by decide)
 have names:ev Φ Γ .val ([Sl.dat (.hdl 0),.dat (.list (ps.map entN)),.no,.no].map (vE c [os])) (.comp 2 [] (.tup [0,1]) (.seq (.v 1)) .nil (.v 0))=some (.list ((ps.map (·.1)).map .str)):=by
  have key:=fun f h=>compL_map (f:=f) (inj:=entN) (g:=fun p:Str×Nat=>D.str p.1) (xs:=ps) h
  simp[hbig]
  rw[key]
  ·rfl
  ·intro x _;rfl
 have ref:evM Φ Ψ Γ c [.dat (.hdl 0),.dat (.list (ps.map entN)),.no,.no] [os] (.call "refuse_wrong_names" (.ex (.p (.comp 2 [] (.tup [0,1]) (.seq (.v 1)) .nil (.v 0))) .nil))=some (.ok .none,[os]):=by
  rw[evM,e1,bs0,evMs,evM,names]
  show ((r1 [os] [.list ((ps.map (·.1)).map .str)]).map _)=_
  rw[hr];rfl
 have s1:exM Φ Ψ Γ c [.dat (.hdl 0),.dat (.list (ps.map entN)),.no,.no] [os] (.expr (.call "refuse_wrong_names" (.ex (.p (.comp 2 [] (.tup [0,1]) (.seq (.v 1)) .nil (.v 0))) .nil)))=some (.nx [.dat (.hdl 0),.dat (.list (ps.map entN)),.no,.no],[os]):=by
  rw[exM,ref];rfl
 obtain⟨s4,s5,hloop⟩:=tree_loopN (Ψ:=Ψ) (Γ:=Γ) (cBT:=cBT) hk os (ps.map entN) ps .no .no hK
 obtain⟨os',j,p1,p2⟩:=put_any os (treeN ps) (treeN_ok ps) rfl hz
 refine⟨os',j,?_,p2⟩
 have s2:exM Φ Ψ Γ c [.dat (.hdl 0),.dat (.list (ps.map entN)),.no,.no] [os] (.fors (.tup [2,3]) (.seq (.v 1)) (treeBody c cBT))=some (.nx [.dat (.hdl 0),.dat (.list (ps.map entN)),s4,s5],[os]):=hloop
 have tup:ev Φ Γ .val (([Sl.dat (.hdl 0),.dat (.list (ps.map entN)),s4,s5].map freeze).map (vE c [os])) (.tup (.cons (.k (.str kTree)) (.cons (.bi .tuple (.cons (.comp 2 [] (.tup [0,1]) (.seq (.v 1)) .nil (.tup (.cons (.v 0) (.cons (.v 1) .nil)))) .nil)) .nil)))=some (treeN ps):=by
  have key:=fun f h=>compL_map (f:=f) (inj:=entN) (g:=entN) (xs:=ps) h
  simp[hbig]
  rw[key]
  ·simp[hbig,treeN]
  ·intro x _;rfl
 have pt:evM Φ Ψ Γ c ([Sl.dat (.hdl 0),.dat (.list (ps.map entN)),s4,s5].map freeze) [os] (.meth "put" 0 (.ex (.p (.tup (.cons (.k (.str kTree)) (.cons (.bi .tuple (.cons (.comp 2 [] (.tup [0,1]) (.seq (.v 1)) .nil (.tup (.cons (.v 0) (.cons (.v 1) .nil)))) .nil)) .nil)))) .nil))=some (.ok (.int (j:Nat)),[os']):=by
  rw[evM,hp,bs0]
  show ((evMs Φ Ψ Γ c [false] _ [os] _).bind _)=_
  rw[evMs,evM,tup]
  show ((putF1 [os] [.hdl 0,treeN ps]).map _)=_
  rw[p1];rfl
 refine goM (P:=fun o=>o=_) s1 (goM (P:=fun o=>o=_) s2 ?_)
 rw[exMs,exM,pt];rfl
variable {Φ:Fs}{Ψ:FsM}{Γ:List (Str×D)}{c cNO cBT cNP:Nat}
theorem Nd.kind_of {os:List D}{n:Nd}{i:Nat}(h:n.rep os i):∃(k:Str) (ds:List D),os[i]?=some (.tuple (.str k::ds))∧k≠kCommit:=by
 cases n with
 |blob t=>rw[Nd.rep] at h;exact⟨kBlob,_,h,by decide⟩
 |tree es=>rw[Nd.rep] at h;obtain⟨ps,_,b,_⟩:=h;exact⟨kTree,_,b,by decide⟩
theorem Nds.kinds {os:List D}:∀{es:Nds} {is:List Nat},es.rep os is→Kinds os is∧is.length=es.names.length
 |.nil,[],_=>⟨(fun i h=>by cases h),rfl⟩
 |.nil,_::_,h=>by rw[Nds.rep] at h;exact h.elim;all_goals simp
 |.cons x n r,[],h=>by rw[Nds.rep] at h;exact h.elim;all_goals simp
 |.cons x n r,i::is,h=>by
  rw[Nds.rep] at h
  obtain⟨a,b⟩:=Nds.kinds h.2
  refine⟨fun j hj=>?_,by rw[lc0,b,Nds.names,lc0]⟩
  rcases List.mem_cons.mp hj with e|hj
  ·rw[e];exact Nd.kind_of h.1
  ·exact a j hj
noncomputable abbrev HStore (Ψ:FsM)(m:Nat):Prop:=HasM Ψ "_law_store" [false,false] fun run=>∀(os:List D) (n:Nd),n.ok m→os.length+n.cnt≤900000→∃os' i,run [os] [.hdl 0,n.d]=some ([os'],.ok (.int (i:Nat)))∧n.rep os' i∧Ex os os'∧os'.length≤os.length+n.cnt
noncomputable abbrev storeF (Φ:Fs)(Ψ:FsM)(Γ:List (Str×D))(c:Nat)(d:D)(U:Ust):Option (D×Ust):=(bindTg (.tup [0,1]) d [.no,.no,.dat (.hdl 0)]).bind fun ρ'=>(evM Φ Ψ Γ c ρ' U (.tup (.va 0 (.ex (.call "_law_store" (.va 2 (.va 1 .nil))) .nil)))).bind okR
theorem store_loop {k:Nat}(hs:HStore Ψ k):∀(es:Nds) (os:List D),es.ok k→os.length+es.cnt≤900000→
  ∃os' is,compM (storeF Φ Ψ Γ c) es.ds [os]=some ((es.names.zip is).map entN,[os'])∧es.rep os' is∧Ex os os'∧os'.length≤os.length+es.cnt
 |.nil,os,_,_=>⟨os,[],rfl,by rw[Nds.rep];trivial,Ex.refl _,nr0 _⟩
 |.cons x n r,os,h,hz=>by
  rw[Nds.ok] at h
  rw[Nds.cnt] at hz
  obtain⟨run,e1,h1⟩:=id hs
  obtain⟨os1,i,a1,a2,a3,a4⟩:=h1 os n h.1 (by omega)
  obtain⟨os2,is,b1,b2,b3,b4⟩:=store_loop hs r os1 h.2 (by omega)
  refine⟨os2,i::is,?_,?_,a3.trans b3,by rw[Nds.cnt];omega⟩
  ·have call:evM Φ Ψ Γ c [.dat (.str x),.dat n.d,.dat (.hdl 0)] [os] (.call "_law_store" (.va 2 (.va 1 .nil)))=some (.ok (.int (i:Nat)),[os1]):=by
    rw[evM,e1,bs0]
    show ((run [os] [.hdl 0,n.d]).map _)=_
    rw[a1];rfl
   have one:storeF Φ Ψ Γ c (.tuple [.str x,n.d]) [os]=some (entN (x,i),[os1]):=by
    show ((evM Φ Ψ Γ c [.dat (.str x),.dat n.d,.dat (.hdl 0)] [os] (.tup (.va 0 (.ex (.call "_law_store" (.va 2 (.va 1 .nil))) .nil)))).bind okR)=_
    rw[evM,evMs,evMs,call];rfl
   rw[Nds.ds,compM,one,bs0,b1];rfl
  ·rw[Nds.rep];exact⟨Nd.rep_ex b3 n i a2,b2⟩
theorem store_run (hb:HBlobN Ψ)(ht:HTreeN Ψ)(m:Nat)(hs:∀k,m=k+1→HStore Ψ k)(os:List D)(n:Nd)(hn:n.ok m)(hz:os.length+n.cnt≤900000):
  ∃os' i,ansM Φ Ψ Γ c d_l_store [os] [.hdl 0,n.d]=some ([os'],.ok (.int (i:Nat)))∧n.rep os' i∧Ex os os'∧os'.length≤os.length+n.cnt:=by
 obtain⟨r1,e1,h1⟩:=hb
 obtain⟨r2,e2,h2⟩:=ht
 have start:startM d_l_store [.hdl 0,n.d]=[.dat (.hdl 0),.dat n.d]:=rfl
 cases n with
 |blob t=>
  rw[Nd.cnt] at hz
  obtain⟨os',i,a1,a2,a3,a4⟩:=h1 os t (by omega)
  refine⟨os',i,?_,by rw[Nd.rep];exact a2,a3,by rw[Nd.cnt];exact a4⟩
  have tst:ev Φ Γ .test ([Sl.dat (.hdl 0),.dat (Nd.blob t).d].map (vE c [os])) (.cmp .eq (.idx (.v 1) (.k (.int 0))) (.k (.str kBlob)))=some (.bool true):=rfl
  have arg:ev Φ Γ .val ([Sl.dat (.hdl 0),.dat (Nd.blob t).d].map (vE c [os])) (.idx (.v 1) (.k (.int 1)))=some (.str t):=rfl
  have call:evM Φ Ψ Γ c [.dat (.hdl 0),.dat (Nd.blob t).d] [os] (.call "blob" (.va 0 (.ex (.p (.idx (.v 1) (.k (.int 1)))) .nil)))=some (.ok (.int (i:Nat)),[os']):=by
   rw[evM,e1,bs0,evMs,evMs,evM,arg]
   show ((r1 [os] [.hdl 0,.str t]).map _)=_
   rw[a1];rfl
  unfold ansM
  rw[start]
  show ((exMs Φ Ψ Γ c [.dat (.hdl 0),.dat (Nd.blob t).d] [os] (.cons (.ifs (.cmp .eq (.idx (.v 1) (.k (.int 0))) (.k (.str kBlob))) (.cons (.ret (.call "blob" (.va 0 (.ex (.p (.idx (.v 1) (.k (.int 1)))) .nil)))) .nil) .nil) _)).map _)=_
  rw[exMs,exM,tst,bs0,asB_bool,bs0,if_pos rfl,exMs,exM,show List.map freeze [Sl.dat (.hdl 0),.dat (Nd.blob t).d]=[.dat (.hdl 0),.dat (Nd.blob t).d] from rfl,call]
  rfl
 |tree es=>
  cases m with
  |zero=>exact hn.elim
  |succ k=>
   rw[Nd.ok] at hn
   obtain⟨n1,n2,n3,n4⟩:=hn
   rw[Nd.cnt] at hz
   obtain⟨os1,is,a1,a2,a3,a4⟩:=store_loop (Φ:=Φ) (Γ:=Γ) (c:=c) (hs k rfl) es os n4 (by omega)
   obtain⟨kd,il⟩:=Nds.kinds a2
   have f1:(es.names.zip is).map (·.1)=es.names:=List.map_fst_zip (by omega)
   have f2:(es.names.zip is).map (·.2)=is:=List.map_snd_zip (by omega)
   have zl:(es.names.zip is).length≤3:=by rw[List.length_zip];omega
   obtain⟨os2,i,b1,b2,b3,b4⟩:=h2 os1 (es.names.zip is) (by rw[f1];exact n1) zl (by rw[f1];exact n2) (by rw[f2];exact kd) (by omega)
   refine⟨os2,i,?_,by rw[Nd.rep];exact⟨_,f1,b2,by rw[f2];exact Nds.rep_ex b3 es is a2⟩,a3.trans b3,by rw[Nd.cnt];omega⟩
   have tst:ev Φ Γ .test ([Sl.dat (.hdl 0),.dat (Nd.tree es).d].map (vE c [os])) (.cmp .eq (.idx (.v 1) (.k (.int 0))) (.k (.str kBlob)))=some (.bool false):=rfl
   have arg:ev Φ Γ .val ([Sl.dat (.hdl 0),.dat (Nd.tree es).d].map (vE c [os])) (.idx (.v 1) (.k (.int 1)))=some (.list es.ds):=rfl
   have dl:es.ds.length<big:=by rw[Nds.len];exact Nat.lt_of_le_of_lt n3 (by decide)
   have comp:evM Φ Ψ Γ c [.dat (.hdl 0),.dat (Nd.tree es).d] [os] (.comp 2 [0] (.tup [0,1]) (.p (.idx (.v 1) (.k (.int 1)))) (.tup (.va 0 (.ex (.call "_law_store" (.va 2 (.va 1 .nil))) .nil))))=some (.ok (.list ((es.names.zip is).map entN)),[os1]):=by
    rw[evM,evM,arg,Option.map_some,bs0,show okL (R.ok (.list es.ds),[os])=some (es.ds,[os]) from rfl,bs0,if_pos dl]
    show ((compM (storeF Φ Ψ Γ c) es.ds [os]).map _)=_
    rw[a1];rfl
   have call:evM Φ Ψ Γ c [.dat (.hdl 0),.dat (Nd.tree es).d] [os] (.call "tree" (.va 0 (.ex (.comp 2 [0] (.tup [0,1]) (.p (.idx (.v 1) (.k (.int 1)))) (.tup (.va 0 (.ex (.call "_law_store" (.va 2 (.va 1 .nil))) .nil)))) .nil)))=some (.ok (.int (i:Nat)),[os2]):=by
    rw[evM,e2,bs0,evMs,evMs,comp]
    show ((r2 [os1] [.hdl 0,.list ((es.names.zip is).map entN)]).map _)=_
    rw[b1];rfl
   unfold ansM
   rw[start]
   refine goM (P:=fun o=>o=_) (ρ':=[.dat (.hdl 0),.dat (Nd.tree es).d]) (U':=[os]) ?_ ?_
   ·rw[exM,tst];rfl
   ·rw[exMs,exM,show List.map freeze [Sl.dat (.hdl 0),.dat (Nd.tree es).d]=[.dat (.hdl 0),.dat (Nd.tree es).d] from rfl,call]
    rfl
mutual
theorem Nd.cnt_le:∀(n:Nd) (m:Nat),n.ok m→n.cnt≤4 ^ m
 |.blob t,m,_=>by rw[Nd.cnt];exact Nat.one_le_pow _ _ (by omega)
 |.tree es,0,h=>h.elim
 |.tree es,m+1,h=>by
  rw[Nd.ok] at h
  have:=Nds.cnt_le es m h.2.2.2
  have h3:=h.2.2.1
  have h1:1≤4 ^ m:=Nat.one_le_pow _ _ (by omega)
  rw[Nd.cnt,Nat.pow_succ]
  have:es.names.length*4 ^ m≤3*4 ^ m:=Nat.mul_le_mul_right _ h3
  omega
theorem Nds.cnt_le:∀(es:Nds) (m:Nat),es.ok m→es.cnt≤es.names.length*4 ^ m
 |.nil,m,_=>Nat.zero_le _
 |.cons x n r,m,h=>by
  rw[Nds.ok] at h
  have h1:=Nd.cnt_le n m h.1
  have h2:=Nds.cnt_le r m h.2
  rw[Nds.cnt,Nds.names,lc0,Nat.succ_mul]
  omega
end
variable {Φ:Fs}{Ψ:FsM}{Γ:List (Str×D)}{c cNO cBT cNP:Nat}
noncomputable abbrev Off (os:List D)(i:Int):Prop:=i<0∨(os.length:Int)≤i
noncomputable abbrev HHeldM (Ψ:FsM)(cNO:Nat):Prop:=HasM Ψ (vname "held") [false,false] fun run=>(∀(os:List D) (i:Nat) (d:D),os[i]?=some d→run [os] [.hdl 0,.int (i:Int)]=some ([os],.ok d))∧∀(os:List D) (i:Int),Off os i→run [os] [.hdl 0,.int i]=some ([os],.exc cNO)
noncomputable abbrev heldTest (c:Nat):E:=.not (.chain .le .lt (.k (.int 0)) (.v 1) (.bi .len (.cons (.vob c (.v 0)) .nil)))
theorem held_test (os:List D)(i:Int):ev Φ Γ .test ([Sl.dat (.hdl 0),.dat (.int i)].map (vE c [os])) (heldTest c)=some (.bool (!(decide (0≤i)&&decide (i<(os.length:Int))))):=by
 generalize hn:(os.length:Int)=n
 by_cases h:0≤i
 ·by_cases h2:i<n<;>simp[h,h2,hn]
 ·simp[h,hn]
theorem held_runM (os:List D)(i:Nat)(d:D)(h:os[i]?=some d):ansM Φ Ψ Γ c (d_vm_held c cNO) [os] [.hdl 0,.int (i:Int)]=some ([os],.ok d):=by
 have hn:=(List.getElem?_eq_some_iff.mp h).1
 have e:atI os (i:Int)=some d:=by rw[atI_pos (by omega) (by omega)];simpa using h
 have t:=held_test (Φ:=Φ) (Γ:=Γ) (c:=c) os (i:Int)
 rw[decide_eq_true (by omega:(0:Int)≤i),decide_eq_true (by omega:(i:Int)<os.length)] at t
 have v:ev Φ Γ .val ([Sl.dat (.hdl 0),.dat (.int (i:Int))].map (vE c [os])) (.idx (.vob c (.v 0)) (.v 1))=some d:=by
  simp[e]
 show ((exMs Φ Ψ Γ c [.dat (.hdl 0),.dat (.int (i:Int))] [os] (.cons (.ifs (heldTest c) _ _) _)).map _)=_
 rw[exMs,exM,t]
 show ((exMs Φ Ψ Γ c [.dat (.hdl 0),.dat (.int (i:Int))] [os] (.cons (.ret (.p (.idx (.vob c (.v 0)) (.v 1)))) .nil)).map _)=_
 rw[exMs,exM,show List.map freeze [Sl.dat (.hdl 0),.dat (.int (i:Int))]=[.dat (.hdl 0),.dat (.int (i:Int))] from rfl,evM,v]
 rfl
theorem held_runX (os:List D)(i:Int)(h:Off os i):ansM Φ Ψ Γ c (d_vm_held c cNO) [os] [.hdl 0,.int i]=some ([os],.exc cNO):=by
 have t:=held_test (Φ:=Φ) (Γ:=Γ) (c:=c) os i
 have b:(decide (0≤i)&&decide (i<(os.length:Int)))=false:=by
  rcases h with h|h
  ·rw[decide_eq_false (by omega)];rfl
  ·rw[decide_eq_false (by omega:¬ i<(os.length:Int)),Bool.and_false]
 rw[b] at t
 show ((exMs Φ Ψ Γ c [.dat (.hdl 0),.dat (.int i)] [os] (.cons (.ifs (heldTest c) _ _) _)).map _)=_
 rw[exMs,exM,t]
 rfl
noncomputable abbrev HContM (Ψ:FsM)(cNO:Nat):Prop:=HasM Ψ (vname "content") [false,false,false] fun run=>(∀(os:List D) (i:Nat) (k:Str) (d:D),os[i]?=some (.tuple [.str k,d])→run [os] [.hdl 0,.int (i:Int),.str k]=some ([os],.ok d))∧
 (∀(os:List D) (i:Nat) (k k':Str) (d:D),os[i]?=some (.tuple [.str k',d])→k'≠k→k.length≤100→run [os] [.hdl 0,.int (i:Int),.str k]=some ([os],.exc cNO))∧
 ∀(os:List D) (i:Int) (k:Str),Off os i→run [os] [.hdl 0,.int i,.str k]=some ([os],.exc cNO)
noncomputable abbrev contTest:E:=.cmp .ne (.idx (.v 3) (.k (.int 0))) (.v 2)
theorem cont_runM (hh:HHeldM Ψ cNO):(∀(os:List D) (i:Nat) (k:Str) (d:D),os[i]?=some (.tuple [.str k,d])→ansM Φ Ψ Γ c (d_vm_content cNO) [os] [.hdl 0,.int (i:Int),.str k]=some ([os],.ok d))∧
  (∀(os:List D) (i:Nat) (k k':Str) (d:D),os[i]?=some (.tuple [.str k',d])→k'≠k→k.length≤100→ansM Φ Ψ Γ c (d_vm_content cNO) [os] [.hdl 0,.int (i:Int),.str k]=some ([os],.exc cNO))∧
  ∀(os:List D) (i:Int) (k:Str),Off os i→ansM Φ Ψ Γ c (d_vm_content cNO) [os] [.hdl 0,.int i,.str k]=some ([os],.exc cNO):=by
 obtain⟨r1,e1,h1,h2⟩:=hh
 have held:∀(os:List D) (i:Int) (k:Str) (o:Ust×R),r1 [os] [.hdl 0,.int i]=some o→evM Φ Ψ Γ c [.dat (.hdl 0),.dat (.int i),.dat (.str k),.no] [os] (.meth "held" 0 (.va 1 .nil))=some (o.2,o.1):=fun os i k o ho=>by
  rw[evM,e1,bs0]
  show ((r1 [os] [.hdl 0,.int i]).map _)=_
  rw[ho];rfl
 have test:∀(os:List D) (i:Int) (k k':Str) (d:D),ev Φ Γ .test ([Sl.dat (.hdl 0),.dat (.int i),.dat (.str k),.dat (.tuple [.str k',d])].map (vE c [os])) contTest=some (.bool (decide (k'≠k))):=fun os i k k' d=>by
  have e:atI [D.str k',d] 0=some (.str k'):=rfl
  simp[vE,e]
 refine⟨fun os i k d h=>?_,fun os i k k' d h hne hl=>?_,fun os i k h=>?_⟩
 ·have a:=held os i k _ (h1 os i _ h)
  have t:=test os i k k d
  refine goM (P:=fun o=>o=_) (ρ:=[.dat (.hdl 0),.dat (.int (i:Int)),.dat (.str k),.no]) (ρ':=[.dat (.hdl 0),.dat (.int (i:Int)),.dat (.str k),.dat (.tuple [.str k,d])]) (U':=[os]) (by rw[exM,a];rfl) ?_
  refine goM (P:=fun o=>o=_) (ρ':=[.dat (.hdl 0),.dat (.int (i:Int)),.dat (.str k),.dat (.tuple [.str k,d])]) (U':=[os]) (by rw[exM,t,decide_eq_false (by simp)];rfl) ?_
  rfl
 ·have a:=held os i k _ (h1 os i _ h)
  have t:=test os i k k' d
  refine goM (P:=fun o=>o=_) (ρ:=[.dat (.hdl 0),.dat (.int (i:Int)),.dat (.str k),.no]) (ρ':=[.dat (.hdl 0),.dat (.int (i:Int)),.dat (.str k),.dat (.tuple [.str k',d])]) (U':=[os]) (by rw[exM,a];rfl) ?_
  have f:ev Φ Γ .val ([Sl.dat (.hdl 0),.dat (.int (i:Int)),.dat (.str k),.dat (.tuple [.str k',d])].map (vE c [os])) (.bi .fst (.cons (.k (.str ⟨#[116,104,101,32,111,98,106,101,99,116,32,119,105,116,104,32,116,104,105,115,32,110,117,109,98,101,114,32,105,115,32,110,111,32]⟩)) (.cons (.v 2) .nil)))=some (.str (⟨#[116,104,101,32,111,98,106,101,99,116,32,119,105,116,104,32,116,104,105,115,32,110,117,109,98,101,114,32,105,115,32,110,111,32]⟩++k)):=by
   show (if _+k.length≤big then _ else _)=_
   exact if_pos (nt0 (Nat.add_le_add_left hl _) (by decide))
  rw[exMs,exM,t,decide_eq_true hne,bs0,asB_bool,bs0,if_pos rfl,exMs,exM,evMs,evM,f]
  rfl
 ·have a:=held os i k _ (h2 os i h)
  show ((exMs Φ Ψ Γ c [.dat (.hdl 0),.dat (.int i),.dat (.str k),.no] [os] (.cons (.set 3 (.meth "held" 0 (.va 1 .nil))) _)).map _)=_
  rw[exMs,exM,a]
  rfl
noncomputable abbrev HEntM (Ψ:FsM)(cNO:Nat):Prop:=HasM Ψ "entries_of" [false,false] fun run=>(∀(os:List D) (i:Nat) (ps:List (Str×Nat)),os[i]?=some (treeN ps)→run [os] [.hdl 0,.int (i:Int)]=some ([os],.ok (.list (ps.map entN))))∧
 (∀(os:List D) (i:Nat) (t:Str),os[i]?=some (blobD t)→run [os] [.hdl 0,.int (i:Int)]=some ([os],.exc cNO))∧∀(os:List D) (i:Int),Off os i→run [os] [.hdl 0,.int i]=some ([os],.exc cNO)
theorem ent_runM (hc:HContM Ψ cNO):(∀(os:List D) (i:Nat) (ps:List (Str×Nat)),os[i]?=some (treeN ps)→ansM Φ Ψ Γ c d_entries_ofM [os] [.hdl 0,.int (i:Int)]=some ([os],.ok (.list (ps.map entN))))∧
  (∀(os:List D) (i:Nat) (t:Str),os[i]?=some (blobD t)→ansM Φ Ψ Γ c d_entries_ofM [os] [.hdl 0,.int (i:Int)]=some ([os],.exc cNO))∧∀(os:List D) (i:Int),Off os i→ansM Φ Ψ Γ c d_entries_ofM [os] [.hdl 0,.int i]=some ([os],.exc cNO):=by
 obtain⟨r1,e1,h1,h2,h3⟩:=hc
 have cont:∀(os:List D) (i:Int) (o:Ust×R),r1 [os] [.hdl 0,.int i,.str kTree]=some o→evM Φ Ψ Γ c [.dat (.hdl 0),.dat (.int i)] [os] (.meth "content" 0 (.va 1 (.ex (.p (.k (.str kTree))) .nil)))=some (o.2,o.1):=fun os i o ho=>by
  rw[evM,e1,bs0]
  show ((r1 [os] [.hdl 0,.int i,.str kTree]).map _)=_
  rw[ho];rfl
 have go:∀(os:List D) (i:Int),ansM Φ Ψ Γ c d_entries_ofM [os] [.hdl 0,.int i]=((exMs Φ Ψ Γ c [.dat (.hdl 0),.dat (.int i)] [os] (.cons (.ret (.lst (.meth "content" 0 (.va 1 (.ex (.p (.k (.str kTree))) .nil))))) .nil)).map fun q=>(q.2,outM q.1)):=fun _ _=>rfl
 refine⟨fun os i ps h=>?_,fun os i t h=>?_,fun os i h=>?_⟩
 ·rw[go,exMs,exM,show List.map freeze [Sl.dat (.hdl 0),.dat (.int (i:Int))]=[.dat (.hdl 0),.dat (.int (i:Int))] from rfl,evM,cont _ _ _ (h1 os i kTree _ h)];rfl
 ·rw[go,exMs,exM,show List.map freeze [Sl.dat (.hdl 0),.dat (.int (i:Int))]=[.dat (.hdl 0),.dat (.int (i:Int))] from rfl,evM,cont _ _ _ (h2 os i kTree kBlob _ h (by decide) (by decide))];rfl
 ·rw[go,exMs,exM,show List.map freeze [Sl.dat (.hdl 0),.dat (.int i)]=[.dat (.hdl 0),.dat (.int i)] from rfl,evM,cont _ _ _ (h3 os i kTree h)];rfl
noncomputable abbrev sl:Str:=⟨#[47]⟩
noncomputable def joinP (p x:Str):Str:=if p=Str.empty then x else p++sl++x
theorem str_len (x y:Str):(x++y).length=x.length+y.length:=by show (x.cps++y.cps).size=_;rw[Array.size_append];rfl
theorem joinP_len (p x:Str):(joinP p x).length≤p.length+x.length+1:=by
 unfold joinP
 split
 ·omega
 ·rw[str_len,str_len]
  have:sl.length=1:=rfl
  omega
noncomputable abbrev HJoined (Φ:Fs):Prop:=Has Φ "joined" [true,true] fun run=>∀p x:Str,p.length≤1000→x.length≤1000→run [.str p,.str x]=some (.str (joinP p x))
noncomputable abbrev joinE (a b:E):E:=.ite (.cmp .eq a (.k (.str ⟨#[]⟩))) b (.op .add (.op .add a (.k (.str ⟨#[47]⟩))) b)
theorem add_str (x y:Str)(h:x.length+y.length≤10000):opD .add (.str x) (.str y)=some (.str (x++y)):=by
 show (if x.length+y.length≤big then _ else _)=_
 exact if_pos (nt0 h (by decide))
theorem joinE_val {ρ:List Sl}{a b:E}{p x:Str}(a1:ev Φ Γ .val ρ a=some (.str p))(a2:ev Φ Γ .read ρ a=some (.str p))(b1:ev Φ Γ .val ρ b=some (.str x))(b2:ev Φ Γ .read ρ b=some (.str x))(hp:p.length≤1000)(hx:x.length≤1000):ev Φ Γ .val ρ (joinE a b)=some (.str (joinP p x)):=by
 have t:ev Φ Γ .test ρ (.cmp .eq a (.k (.str ⟨#[]⟩)))=some (.bool (decide (p=Str.empty))):=by
  rw[ev,a2,bs0,ev,fin_read,bs0]
  show (((eqD (.str p) (.str Str.empty)).map D.bool).bind _)=_
  rw[str_dec];rfl
 have s1:ev Φ Γ .read ρ (.op .add a (.k (.str ⟨#[47]⟩)))=some (.str (p++sl)):=by
  rw[ev,fin_read,a2,bs0,ev,fin_read,bs0,add_str _ _ (by have:(⟨#[47]⟩:Str).length=1:=rfl;omega)]
 have s2:ev Φ Γ .val ρ (.op .add (.op .add a (.k (.str ⟨#[47]⟩))) b)=some (.str (p++sl++x)):=by
  rw[ev,fin_val,s1,bs0,b2,bs0,add_str _ _ (by rw[str_len];have:sl.length=1:=rfl;omega)]
 rw[ev,t,bs0,asB_bool,bs0,b1,s2]
 unfold joinP
 by_cases h:p=Str.empty
 ·rw[decide_eq_true h,if_pos rfl,if_pos h];rfl
 ·rw[decide_eq_false h,if_neg fx0,if_neg h];rfl
theorem joined_run (p x:Str)(hp:p.length≤1000)(hx:x.length≤1000):ans Φ Γ d_joined [.str p,.str x]=some (.str (joinP p x)):=by
 have e:=joinE_val (Φ:=Φ) (Γ:=Γ) (ρ:=[.lent (.str p),.lent (.str x)]) (a:=.v 0) (b:=.v 1) (p:=p) (x:=x) rfl rfl rfl rfl hp hx
 show ((exs Φ Γ [.lent (.str p),.lent (.str x)] (.cons (.ret (joinE (.v 0) (.v 1))) .nil)).bind Out.val)=_
 rw[exs,ex,show List.map freeze [Sl.lent (.str p),.lent (.str x)]=[.lent (.str p),.lent (.str x)] from rfl,e]
 rfl
variable {Φ:Fs}{Ψ:FsM}{Γ:List (Str×D)}{c cNO cBT cNP:Nat}
theorem join_is {xs:List Str}(h:xs.length≤2):Txt.join sl xs=Str.join sl xs:=by
 match xs,h with
 |[],_=>rfl
 |[x],_=>rfl
 |[x,y],_=>rfl
theorem no_sl {x:Str}(h:nameF x=true):47∉x.cps.toList:=fun m=>absurd (nameF_sign h 47 m) (by decide)
theorem name_ne {x:Str}(h:nameF x=true):x≠Str.empty:=fun e=>by
 have:=(nameF_len h).1
 rw[e] at this
 exact absurd this (by decide)
noncomputable abbrev Pth (xs:List Str):Prop:=xs.length≤2∧∀x∈xs,nameF x=true
theorem pth_len {xs:List Str}(h:Pth xs):(Txt.join sl xs).length≤25:=by
 obtain⟨h1,h2⟩:=h
 match xs,h1,h2 with
 |[],_,_=>decide
 |[x],_,h2=>exact nt0 (nameF_len (h2 x (by simp))).2 (by omega)
 |[x,y],_,h2=>
  show (x++sl++y).length≤25
  rw[str_len,str_len]
  have a:=(nameF_len (h2 x (by simp))).2
  have b:=(nameF_len (h2 y (by simp))).2
  have:sl.length=1:=rfl
  omega
theorem pth_ne {xs:List Str}(h:Pth xs)(hn:xs≠[]):Txt.join sl xs≠Str.empty:=by
 obtain⟨h1,h2⟩:=h
 match xs,h1,h2 with
 |[],_,_=>exact absurd rfl hn
 |[x],_,h2=>exact name_ne (h2 x (by simp))
 |[x,y],_,h2=>
  intro e
  have:=congrArg Str.length e
  have e2:(Txt.join sl [x,y]).length=x.length+sl.length+y.length:=by show (x++sl++y).length=_;rw[str_len,str_len]
  rw[e2] at this
  have a:=(nameF_len (h2 x (by simp))).1
  have z:Str.empty.length=0:=rfl
  omega
noncomputable abbrev HNamesOf (Ψ:FsM):Prop:=HasM Ψ "names_of" [false] fun run=>∀(U:Ust) (xs:List Str),Pth xs→run U [.str (Txt.join sl xs)]=some (U,.ok (.list (xs.map .str)))
theorem names_of_run (hn:HIsName Φ)(hg:Γ.lookup ("MOST_NAMES":Str)=some (D.int 20))(U:Ust)(xs:List Str)(h:Pth xs):ansM Φ Ψ Γ c (d_names_of cNP) U [.str (Txt.join sl xs)]=some (U,.ok (.list (xs.map .str))):=by
 by_cases h0:xs=[]
 ·subst h0;rfl
 obtain⟨r1,e1,h1⟩:=hn
 generalize hp:Txt.join sl xs=path
 have ne:path≠Str.empty:=hp▸pth_ne h h0
 have pl:path.length≤25:=hp▸pth_len h
 have sp:Txt.split path sl=xs:=by rw[←hp,join_is h.1];exact split_join 47 xs h0 fun p hp=>no_sl (h.2 p hp)
 have t0:ev Φ Γ .test ([Sl.dat (.str path),.no].map (vE c U)) (.cmp .eq (.v 0) (.k (.str ⟨#[]⟩)))=some (.bool false):=by
  have:path≠(⟨#[]⟩:Str):=ne
  simp[this]
 have s1:ev Φ Γ .val ([Sl.dat (.str path),.no].map (vE c U)) (.me .split (.v 0) (.cons (.k (.str ⟨#[47]⟩)) .nil))=some (.list (xs.map .str)):=by
  show (if (sl.length==0)=false∧path.length+2≤big then some (D.list ((Txt.split path sl).map .str)) else Option.none)=_
  rw[if_pos ⟨rfl,nt0 (Nat.add_le_add_right pl 2) (by decide)⟩,sp]
 have cl:ev Φ Γ .read ([Sl.dat (.str path),.dat (.list (xs.map .str))].map (vE c U)) (.comp 1 [] (.one 0) (.seq (.v 1)) .nil (.call "is_name" (.cons (.v 0) .nil)))=some (.list ((xs.map fun _=>true).map .bool)):=by
  have key:=fun f h=>compL_map (f:=f) (inj:=D.str) (g:=fun _=>D.bool true) (xs:=xs) h
  have hb:xs.length≤big:=nt0 h.1 (by decide)
  have src:evI Φ Γ .read ([Sl.dat (.str path),.dat (.list (xs.map .str))].map (vE c U)) (.seq (.v 1))=some (xs.map .str):=rfl
  rw[ev,fin_read,src,bs0,if_pos (by rw[lm0];exact hb),key]
  ·rw[List.map_map];rfl
  ·intro x hx
   have q:=h1 x (nt0 (nameF_len (h.2 x hx)).2 (by omega))
   rw[h.2 x hx] at q
   simp[e1,q]
 have al:ev Φ Γ .test ([Sl.dat (.str path),.dat (.list (xs.map .str))].map (vE c U)) (.bi .all (.cons (.comp 1 [] (.one 0) (.seq (.v 1)) .nil (.call "is_name" (.cons (.v 0) .nil))) .nil))=some (.bool true):=by
  have bo:∀l:List Str,boolsOf ((l.map fun _=>true).map .bool)=some (l.map fun _=>true):=by
   intro l
   induction l with
   |nil=>rfl
   |cons x r ih=>show (boolsOf ((r.map fun _=>true).map .bool)).map _=_;rw[ih];rfl
  have ba:∀l:List Str,((l.map fun _=>true).all id)=true:=by
   intro l
   induction l with
   |nil=>rfl
   |cons x r ih=>exact ih
  rw[ev,evs,List.headD_cons,if_pos rfl,cl,bs0,evs,Option.map_some,bs0]
  show (((boolsOf ((xs.map fun _=>true).map .bool)).map fun bs=>D.bool (bs.all id)).bind _)=_
  rw[bo,Option.map_some,ba];rfl
 have ln:ev Φ Γ .test ([Sl.dat (.str path),.dat (.list (xs.map .str))].map (vE c U)) (.cmp .gt (.bi .len (.cons (.v 1) .nil)) (.g "MOST_NAMES"))=some (.bool false):=by
  have e:ev Φ Γ .read ([Sl.dat (.str path),.dat (.list (xs.map .str))].map (vE c U)) (.bi .len (.cons (.v 1) .nil))=some (.int ((xs.map D.str).length:Int)):=rfl
  rw[ev,e,bs0,ev,fin_read,hg,bs0,lm0]
  have:xs.length≤2:=h.1
  generalize xs.length=n at this
  match n,this with
  |0,_=>rfl
  |1,_=>rfl
  |2,_=>rfl
 have t2:ev Φ Γ .test ([Sl.dat (.str path),.dat (.list (xs.map .str))].map (vE c U)) (.or (.cmp .gt (.bi .len (.cons (.v 1) .nil)) (.g "MOST_NAMES")) (.not (.bi .all (.cons (.comp 1 [] (.one 0) (.seq (.v 1)) .nil (.call "is_name" (.cons (.v 0) .nil))) .nil))))=some (.bool false):=by
  rw[ev]
  show ((ev Φ Γ .test _ _).bind _)=_
  rw[ln,bs0,asB_bool,bs0,if_neg fx0,ev]
  show ((ev Φ Γ .test _ _).bind _)=_
  rw[al];rfl
 refine goM (P:=fun o=>o=_) (ρ:=[.dat (.str path),.no]) (ρ':=[.dat (.str path),.no]) (U':=U) (by rw[exM,t0];rfl) ?_
 refine goM (P:=fun o=>o=_) (ρ':=[.dat (.str path),.dat (.list (xs.map .str))]) (U':=U) (by rw[exM,evM,s1];rfl) ?_
 refine goM (P:=fun o=>o=_) (ρ':=[.dat (.str path),.dat (.list (xs.map .str))]) (U':=U) (by rw[exM,t2];rfl) ?_
 rfl
variable {Φ:Fs}{Ψ:FsM}{Γ:List (Str×D)}{c cNO cBT cNP:Nat}
mutual
noncomputable def Nd.txts:Nd→Str→List (Str×Str)
 |.blob t,p=>[(p,t)]
 |.tree es,p=>es.txts p
noncomputable def Nds.txts:Nds→Str→List (Str×Str)
 |.nil,_=>[]
 |.cons x n r,p=>n.txts (joinP p x)++r.txts p
end
mutual
theorem Nd.txts_len:∀(n:Nd) (p:Str),(n.txts p).length≤n.cnt
 |.blob t,p=>nr0 _
 |.tree es,p=>by rw[Nd.txts,Nd.cnt];exact Nat.le_succ_of_le (Nds.txts_len es p)
theorem Nds.txts_len:∀(es:Nds) (p:Str),(es.txts p).length≤es.cnt
 |.nil,p=>nr0 _
 |.cons x n r,p=>by rw[Nds.txts,Nds.cnt,List.length_append];exact Nat.add_le_add (Nd.txts_len n _) (Nds.txts_len r p)
end
noncomputable def prD (q:Str×Str):D:=.tuple [.str q.1,.str q.2]
noncomputable abbrev HTexts (Φ:Fs)(k:Nat):Prop:=Has Φ "_law_texts" [true,true] fun run=>∀(p:Str) (es:Nds),(Nd.tree es).ok k→p.length+13*k≤900→es.cnt≤10000→run [.str p,(Nd.tree es).d]=some (.list ((es.txts p).map prD))
noncomputable abbrev txBody:Ss:=.cons (.set 5 (joinE (.v 0) (.v 3))) (.cons (.ifs (.cmp .eq (.idx (.v 4) (.k (.int 0))) (.k (.str kTree))) (.cons (.new 2 (.op .add (.v 2) (.call "_law_texts" (.cons (.v 5) (.cons (.v 4) .nil))))) .nil) (.cons (.app 2 (.tup (.cons (.v 5) (.cons (.idx (.v 4) (.k (.int 1))) .nil)))) .nil)) .nil)
theorem add_list (a b:List D)(h:a.length+b.length≤100000):opD .add (.list a) (.list b)=some (.list (a++b)):=by
 show (if a.length+b.length≤big then _ else _)=_
 exact if_pos (nt0 h (by decide))
theorem texts_loop {k:Nat}(hs:0<k→HTexts Φ k)(p:Str)(hp:p.length+13*(k+1)≤900)(w:Sl):∀(es:Nds) (l:List D) (s3 s4 s5:Sl),es.ok k→(∀x∈es.names,nameF x=true)→l.length+es.cnt≤90000→es.cnt≤10000→notDeep w=true→notDeep s3=true→notDeep s4=true→notDeep s5=true→
  ∃s3' s4' s5',forL (bindTg (.tup [3,4])) (fun ρ'=>exs Φ Γ ρ' txBody) es.ds [.lent (.str p),w,.own (.list l),s3,s4,s5]=some (.nx [.lent (.str p),w,.own (.list (l++(es.txts p).map prD)),s3',s4',s5'])
 |.nil,l,s3,s4,s5,_,_,_,_,_,_,_,_=>⟨s3,s4,s5,by rw[Nds.ds,Nds.txts,List.map_nil,List.append_nil];rfl⟩
 |.cons x n r,l,s3,s4,s5,ho,hn,hz,hz2,nw,n3,n4,n5=>by
  rw[Nds.ok] at ho
  rw[Nds.cnt] at hz hz2
  have hx:nameF x=true:=hn x (by rw[Nds.names];exact ms0)
  have xl:=(nameF_len hx).2
  generalize hq:joinP p x=q
  have ql:q.length≤p.length+13:=by rw[←hq];have:=joinP_len p x;omega
  have j1:ev Φ Γ .val [.lent (.str p),w,.own (.list l),.dat (.str x),.dat n.d,s5] (joinE (.v 0) (.v 3))=some (.str q):=by
   rw[←hq];exact joinE_val rfl rfl rfl rfl (by omega) (by omega)
  have step:exs Φ Γ [.lent (.str p),w,.own (.list l),.dat (.str x),.dat n.d,s5] txBody=some (.nx [.lent (.str p),w,.own (.list (l++(n.txts q).map prD)),.dat (.str x),.dat n.d,.dat (.str q)]):=by
   rw[exs,ex,j1,Option.map_some,bs0]
   show ((exs Φ Γ [.lent (.str p),w,.own (.list l),.dat (.str x),.dat n.d,.dat (.str q)] (.cons (.ifs (.cmp .eq (.idx (.v 4) (.k (.int 0))) (.k (.str kTree))) _ _) .nil)))=_
   cases n with
   |blob t=>
    have tst:ev Φ Γ .test [.lent (.str p),w,.own (.list l),.dat (.str x),.dat (Nd.blob t).d,.dat (.str q)] (.cmp .eq (.idx (.v 4) (.k (.int 0))) (.k (.str kTree)))=some (.bool false):=rfl
    have v:ev Φ Γ .val [.lent (.str p),w,.own (.list l),.dat (.str x),.dat (Nd.blob t).d,.dat (.str q)] (.tup (.cons (.v 5) (.cons (.idx (.v 4) (.k (.int 1))) .nil)))=some (prD (q,t)):=rfl
    have ap:ex Φ Γ [.lent (.str p),w,.own (.list l),.dat (.str x),.dat (Nd.blob t).d,.dat (.str q)] (.app 2 (.tup (.cons (.v 5) (.cons (.idx (.v 4) (.k (.int 1))) .nil))))=some (.nx [.lent (.str p),w,.own (.list (l++[prD (q,t)])),.dat (.str x),.dat (Nd.blob t).d,.dat (.str q)]):=by
     rw[ex,v,bs0]
     show (if l.length<big then _ else _)=_
     exact if_pos (Nat.lt_of_le_of_lt (nt0 (Nat.le_add_right _ _) hz) (by decide))
    rw[exs,ex,tst,bs0,asB_bool,bs0,if_neg fx0,exs,ap]
    rfl
   |tree es'=>
    have k0:0<k:=by
     cases k with
     |zero=>exact ho.1.elim
     |succ j=>omega
    obtain⟨r1,e1,h1⟩:=hs k0
    rw[Nd.cnt] at hz hz2
    have run:=h1 q es' ho.1 (by omega) (by omega)
    have tst:ev Φ Γ .test [.lent (.str p),w,.own (.list l),.dat (.str x),.dat (Nd.tree es').d,.dat (.str q)] (.cmp .eq (.idx (.v 4) (.k (.int 0))) (.k (.str kTree)))=some (.bool true):=rfl
    have call:ev Φ Γ .read [.lent (.str p),w,.own (.list l),.dat (.str x),.dat (Nd.tree es').d,.dat (.str q)] (.call "_law_texts" (.cons (.v 5) (.cons (.v 4) .nil)))=some (.list ((es'.txts q).map prD)):=by
     rw[ev,fin_read,e1,bs0]
     show (r1 [.str q,(Nd.tree es').d])=_
     exact run
    have add:ev Φ Γ .val [.lent (.str p),w,.own (.list l),.dat (.str x),.dat (Nd.tree es').d,.dat (.str q)] (.op .add (.v 2) (.call "_law_texts" (.cons (.v 5) (.cons (.v 4) .nil))))=some (.list (l++(es'.txts q).map prD)):=by
     rw[ev,fin_val,call]
     show (opD .add (.list l) (.list ((es'.txts q).map prD)))=_
     refine add_list _ _ ?_
     rw[lm0]
     have:=Nds.txts_len es' q
     omega
    have nw':([.lent (.str p),w,.own (.list l),.dat (.str x),.dat (Nd.tree es').d,.dat (.str q)]:List Sl).all notDeep=true:=by
     show (true&&(notDeep w&&_))=true
     rw[nw];rfl
    have ap:ex Φ Γ [.lent (.str p),w,.own (.list l),.dat (.str x),.dat (Nd.tree es').d,.dat (.str q)] (.new 2 (.op .add (.v 2) (.call "_law_texts" (.cons (.v 5) (.cons (.v 4) .nil)))))=some (.nx [.lent (.str p),w,.own (.list (l++(es'.txts q).map prD)),.dat (.str x),.dat (Nd.tree es').d,.dat (.str q)]):=by
     rw[ex,nw',add];rfl
    rw[exs,ex,tst,bs0,asB_bool,bs0,if_pos rfl,exs,ap]
    rfl
  obtain⟨a,b,d,e⟩:=texts_loop hs p hp w r (l++(n.txts q).map prD) (.dat (.str x)) (.dat n.d) (.dat (.str q)) ho.2 (fun y hy=>hn y (by rw[Nds.names];exact mc0 _ hy)) (by rw[List.length_append,lm0];have:=Nd.txts_len n q;omega) (by omega) nw rfl rfl rfl
  refine⟨a,b,d,?_⟩
  rw[Nds.ds,forL]
  show ((exs Φ Γ [.lent (.str p),w,.own (.list l),.dat (.str x),.dat n.d,s5] txBody).bind _)=_
  rw[step,bs0]
  show forL _ _ r.ds _=_
  rw[e,Nds.txts,hq,List.map_append,List.append_assoc]
theorem texts_run {k:Nat}(hs:0<k→HTexts Φ k)(p:Str)(es:Nds)(h:(Nd.tree es).ok (k+1))(hp:p.length+13*(k+1)≤900)(hz:es.cnt≤10000):ans Φ Γ d_l_texts [.str p,(Nd.tree es).d]=some (.list ((es.txts p).map prD)):=by
 rw[Nd.ok] at h
 obtain⟨s3,s4,s5,e⟩:=texts_loop (Γ:=Γ) hs p hp (.lent (Nd.tree es).d) es [] .no .no .no h.2.2.2 h.2.1 (by simp;omega) hz rfl rfl rfl rfl
 rw[List.nil_append] at e
 refine go_nx (P:=fun o=>o=_) (ρ:=[.lent (.str p),.lent (Nd.tree es).d,.no,.no,.no,.no]) (ρ':=[.lent (.str p),.lent (Nd.tree es).d,.own (.list []),.no,.no,.no]) rfl ?_
 refine go_nx (P:=fun o=>o=_) (ρ':=[.lent (.str p),.lent (Nd.tree es).d,.own (.list ((es.txts p).map prD)),s3,s4,s5]) e ?_
 rfl
variable {Φ:Fs}{Ψ:FsM}{Γ:List (Str×D)}{c cNO cBT cNP:Nat}
noncomputable def Mt (os:List D):List (Str×Nat)→List (Str×Str)→Prop
 |[],[]=>True
 |a::L,b::T=>a.1=b.1∧os[a.2]?=some (blobD b.2)∧Mt os L T
 |_,_=>False
theorem Mt.append {os:List D}:∀{L:List (Str×Nat)} {T:List (Str×Str)} {L':List (Str×Nat)} {T':List (Str×Str)},Mt os L T→Mt os L' T'→Mt os (L++L') (T++T')
 |[],[],_,_,_,h=>h
 |a::L,b::T,_,_,h,k=>⟨h.1,h.2.1,Mt.append h.2.2 k⟩
 |[],_::_,_,_,h,_=>h.elim
 |_::_,[],_,_,h,_=>h.elim
theorem Mt.len {os:List D}:∀{L:List (Str×Nat)} {T:List (Str×Str)},Mt os L T→L.length=T.length
 |[],[],_=>rfl
 |a::L,b::T,h=>by rw[lc0,Mt.len h.2.2,lc0]
 |[],_::_,h=>h.elim
 |_::_,[],h=>h.elim
theorem zip_fs {α β:Type}:∀ps:List (α×β),(ps.map (·.1)).zip (ps.map (·.2))=ps
 |[]=>rfl
 |a::r=>by rw[List.map_cons,List.map_cons,List.zip_cons_cons,zip_fs r]
noncomputable abbrev HBelow (Ψ:FsM)(k:Nat):Prop:=HasM Ψ "blobs_below" [false,false,false] fun run=>∀(os:List D) (i:Nat) (p:Str) (es:Nds),(Nd.tree es).ok k→(Nd.tree es).rep os i→p.length+13*k≤900→es.cnt≤10000→∃L,Mt os L (es.txts p)∧run [os] [.hdl 0,.int (i:Int),.str p]=some ([os],.ok (.list (L.map entN)))
noncomputable abbrev HBelowX (Ψ:FsM)(cNO:Nat):Prop:=HasM Ψ "blobs_below" [false,false,false] fun run=>(∀(os:List D) (i:Nat) (t p:Str),os[i]?=some (blobD t)→run [os] [.hdl 0,.int (i:Int),.str p]=some ([os],.exc cNO))∧∀(os:List D) (i:Int) (p:Str),Off os i→run [os] [.hdl 0,.int i,.str p]=some ([os],.exc cNO)
noncomputable abbrev bbBody (c:Nat):SMs:=.cons (.set 6 (.p (.call "joined" (.cons (.v 2) (.cons (.v 4) .nil))))) (.cons (.ifs (.cmp .eq (.vcall c "kind" (.v 0) (.cons (.v 5) .nil)) (.k (.str kBlob))) (.cons (.pure (.app 3 (.tup (.cons (.v 6) (.cons (.v 5) .nil))))) .nil) (.cons (.ext 3 (.call "blobs_below" (.va 0 (.va 5 (.va 6 .nil))))) .nil)) .nil)
theorem bb_loop {k:Nat}(hj:HJoined Φ)(hk:HKind Φ c)(hs:0<k→HBelow Ψ k)(os:List D)(i:Int)(p:Str)(hp:p.length+13*(k+1)≤900):∀(es:Nds) (is:List Nat) (l:List D) (s4 s5 s6:Sl),es.ok k→es.rep os is→(∀x∈es.names,nameF x=true)→l.length+es.cnt≤90000→es.cnt≤10000→
  ∃L s4' s5' s6',Mt os L (es.txts p)∧forM (bindTg (.tup [4,5])) (fun ρ' U'=>exMs Φ Ψ Γ c ρ' U' (bbBody c)) ((es.names.zip is).map entN) [.dat (.hdl 0),.dat (.int i),.dat (.str p),.own (.list l),s4,s5,s6] [os]=some (.nx [.dat (.hdl 0),.dat (.int i),.dat (.str p),.own (.list (l++L.map entN)),s4',s5',s6'],[os])
 |.nil,is,l,s4,s5,s6,_,hr,_,_,_=>by
  refine⟨[],s4,s5,s6,trivial,?_⟩
  rw[Nds.names,List.zip_nil_left,List.map_nil,List.append_nil];rfl
 |.cons x n r,[],l,s4,s5,s6,_,hr,_,_,_=>by rw[Nds.rep] at hr;exact hr.elim;all_goals simp
 |.cons x n r,j::is,l,s4,s5,s6,ho,hr,hn,hz,hz2=>by
  rw[Nds.ok] at ho
  rw[Nds.rep] at hr
  rw[Nds.cnt] at hz hz2
  have hx:nameF x=true:=hn x (by rw[Nds.names];exact ms0)
  have xl:=(nameF_len hx).2
  generalize hq:joinP p x=q
  have ql:q.length≤p.length+13:=by rw[←hq];have:=joinP_len p x;omega
  obtain⟨r1,e1,h1⟩:=hj
  obtain⟨r2,e2,h2⟩:=hk
  have j1:evM Φ Ψ Γ c [.dat (.hdl 0),.dat (.int i),.dat (.str p),.own (.list l),.dat (.str x),.dat (.int (j:Int)),s6] [os] (.p (.call "joined" (.cons (.v 2) (.cons (.v 4) .nil))))=some (.ok (.str q),[os]):=by
   have:=h1 p x (by omega) (by omega)
   rw[hq] at this
   rw[evM,ev,fin_val,e1,bs0]
   show ((r1 [.str p,.str x]).map _)=_
   rw[this];rfl
  let ρ:List Sl:=[.dat (.hdl 0),.dat (.int i),.dat (.str p),.own (.list l),.dat (.str x),.dat (.int (j:Int)),.dat (.str q)]
  have step:∃L,Mt os L (n.txts q)∧exMs Φ Ψ Γ c [.dat (.hdl 0),.dat (.int i),.dat (.str p),.own (.list l),.dat (.str x),.dat (.int (j:Int)),s6] [os] (bbBody c)=some (.nx [.dat (.hdl 0),.dat (.int i),.dat (.str p),.own (.list (l++L.map entN)),.dat (.str x),.dat (.int (j:Int)),.dat (.str q)],[os]):=by
   rw[exMs,exM,j1,Option.map_some,bs0]
   show ∃L,_∧exMs Φ Ψ Γ c ρ [os] (.cons (.ifs (.cmp .eq (.vcall c "kind" (.v 0) (.cons (.v 5) .nil)) (.k (.str kBlob))) _ _) .nil)=_
   have kind:∀(kk:Str) (ds:List D),os[j]?=some (.tuple (.str kk::ds))→ev Φ Γ .test (ρ.map (vE c [os])) (.cmp .eq (.vcall c "kind" (.v 0) (.cons (.v 5) .nil)) (.k (.str kBlob)))=some (.bool (decide (kk=kBlob))):=fun kk ds hd=>by
    have:=h2 0 os j kk ds hd
    simp[ρ,e2,this]
   cases n with
   |blob t=>
    rw[Nd.rep] at hr
    have tst:=kind kBlob _ hr.1
    rw[decide_eq_true rfl] at tst
    refine⟨[(q,j)],⟨rfl,hr.1,trivial⟩,?_⟩
    have v:ev Φ Γ .val ρ (.tup (.cons (.v 6) (.cons (.v 5) .nil)))=some (entN (q,j)):=rfl
    have ap:exM Φ Ψ Γ c ρ [os] (.pure (.app 3 (.tup (.cons (.v 6) (.cons (.v 5) .nil)))))=some (.nx [.dat (.hdl 0),.dat (.int i),.dat (.str p),.own (.list (l++[entN (q,j)])),.dat (.str x),.dat (.int (j:Int)),.dat (.str q)],[os]):=by
     rw[exM,ex,v,bs0]
     have hl:l.length<big:=Nat.lt_of_le_of_lt (nt0 (Nat.le_add_right _ _) hz) (by decide)
     show ((if l.length<big then some (Out.nx (ρ.set 3 (.own (.list (l++[entN (q,j)]))))) else Option.none).bind fun o=>pureR o [os])=_
     rw[if_pos hl];rfl
    rw[exMs,exM,tst,bs0,asB_bool,bs0,if_pos rfl,exMs,ap]
    rfl
   |tree es'=>
    have k0:0<k:=by
     cases k with
     |zero=>exact ho.1.elim
     |succ j=>omega
    obtain⟨r3,e3,h3⟩:=hs k0
    rw[Nd.cnt] at hz hz2
    obtain⟨L,m,run⟩:=h3 os j q es' ho.1 hr.1 (by omega) (by omega)
    have hr1:=hr.1
    rw[Nd.rep] at hr1
    obtain⟨ps,_,hd,_⟩:=hr1
    have tst:=kind kTree _ hd
    rw[decide_eq_false (by decide)] at tst
    refine⟨L,m,?_⟩
    have call:evM Φ Ψ Γ c ρ [os] (.call "blobs_below" (.va 0 (.va 5 (.va 6 .nil))))=some (.ok (.list (L.map entN)),[os]):=by
     rw[evM,e3,bs0]
     show ((r3 [os] [.hdl 0,.int (j:Int),.str q]).map _)=_
     rw[run];rfl
    have ap:exM Φ Ψ Γ c ρ [os] (.ext 3 (.call "blobs_below" (.va 0 (.va 5 (.va 6 .nil)))))=some (.nx [.dat (.hdl 0),.dat (.int i),.dat (.str p),.own (.list (l++L.map entN)),.dat (.str x),.dat (.int (j:Int)),.dat (.str q)],[os]):=by
     rw[exM,call,bs0,show okL (R.ok (.list (L.map entN)),[os])=some (L.map entN,[os]) from rfl,bs0]
     have hl:l.length+(L.map entN).length≤big:=by
      rw[lm0,m.len]
      have:=Nds.txts_len es' q
      exact nt0 (by omega:_≤90000) (by decide)
     show (if l.length+(L.map entN).length≤big then _ else _)=_
     rw[if_pos hl];rfl
    rw[exMs,exM,tst,bs0,asB_bool,bs0,if_neg fx0,exMs,ap]
    rfl
  obtain⟨L,m,st⟩:=step
  have cl:=Nd.txts_len n q
  obtain⟨L',a,b,d,m',e⟩:=bb_loop ⟨r1,e1,h1⟩ ⟨r2,e2,h2⟩ hs os i p hp r is (l++L.map entN) (.dat (.str x)) (.dat (.int (j:Int))) (.dat (.str q)) ho.2 hr.2 (fun y hy=>hn y (by rw[Nds.names];exact mc0 _ hy)) (by rw[List.length_append,lm0,m.len];omega) (by omega)
  refine⟨L++L',a,b,d,by rw[Nds.txts,hq];exact m.append m',?_⟩
  rw[Nds.names,List.zip_cons_cons,List.map_cons,L2.Z.forM]
  show ((exMs Φ Ψ Γ c [.dat (.hdl 0),.dat (.int i),.dat (.str p),.own (.list l),.dat (.str x),.dat (.int (j:Int)),s6] [os] (bbBody c)).bind _)=_
  rw[st,bs0]
  show L2.Z.forM _ _ ((r.names.zip is).map entN) _ _=_
  rw[e,List.map_append,List.append_assoc]
noncomputable abbrev bbStart (i:Int)(p:Str):List Sl:=[.dat (.hdl 0),.dat (.int i),.dat (.str p),.no,.no,.no,.no]
theorem bb_new (os:List D)(i:Int)(p:Str):exM Φ Ψ Γ c (bbStart i p) [os] (.pure (.new 3 (.lst .nil)))=some (.nx [.dat (.hdl 0),.dat (.int i),.dat (.str p),.own (.list []),.no,.no,.no],[os]):=rfl
theorem bb_run {k:Nat}(hj:HJoined Φ)(hk:HKind Φ c)(he:HEntM Ψ cNO)(hs:0<k→HBelow Ψ k)(os:List D)(i:Nat)(p:Str)(es:Nds)(h:(Nd.tree es).ok (k+1))(hr:(Nd.tree es).rep os i)(hp:p.length+13*(k+1)≤900)(hz:es.cnt≤10000):
  ∃L,Mt os L (es.txts p)∧ansM Φ Ψ Γ c (d_blobs_below c) [os] [.hdl 0,.int (i:Int),.str p]=some ([os],.ok (.list (L.map entN))):=by
 rw[Nd.ok] at h
 rw[Nd.rep] at hr
 obtain⟨ps,f1,hd,hr⟩:=hr
 obtain⟨L,s4,s5,s6,m,e⟩:=bb_loop (Γ:=Γ) (Ψ:=Ψ) hj hk hs os (i:Int) p hp es (ps.map (·.2)) [] .no .no .no h.2.2.2 hr h.2.1 (by simp;omega) hz
 have pz:es.names.zip (ps.map (·.2))=ps:=by
  rw[←f1];exact zip_fs ps
 rw[pz,List.nil_append] at e
 obtain⟨r1,e1,h1,_⟩:=he
 refine⟨L,m,?_⟩
 have call:evM Φ Ψ Γ c [.dat (.hdl 0),.dat (.int (i:Int)),.dat (.str p),.own (.list []),.no,.no,.no] [os] (.call "entries_of" (.va 0 (.va 1 .nil)))=some (.ok (.list (ps.map entN)),[os]):=by
  rw[evM,e1,bs0]
  show ((r1 [os] [.hdl 0,.int (i:Int)]).map _)=_
  rw[h1 os i ps hd];rfl
 refine goM (P:=fun o=>o=_) (bb_new os (i:Int) p) ?_
 refine goM (P:=fun o=>o=_) (ρ':=[.dat (.hdl 0),.dat (.int (i:Int)),.dat (.str p),.own (.list (L.map entN)),s4,s5,s6]) (U':=[os]) ?_ ?_
 ·rw[exM,call,bs0]
  exact e
 ·rfl
theorem bb_runX (he:HEntM Ψ cNO):(∀(os:List D) (i:Nat) (t p:Str),os[i]?=some (blobD t)→ansM Φ Ψ Γ c (d_blobs_below c) [os] [.hdl 0,.int (i:Int),.str p]=some ([os],.exc cNO))∧∀(os:List D) (i:Int) (p:Str),Off os i→ansM Φ Ψ Γ c (d_blobs_below c) [os] [.hdl 0,.int i,.str p]=some ([os],.exc cNO):=by
 obtain⟨r1,e1,_,h2,h3⟩:=he
 have key:∀(os:List D) (i:Int) (p:Str),r1 [os] [.hdl 0,.int i]=some ([os],.exc cNO)→ansM Φ Ψ Γ c (d_blobs_below c) [os] [.hdl 0,.int i,.str p]=some ([os],.exc cNO):=fun os i p h=>by
  have call:evM Φ Ψ Γ c [.dat (.hdl 0),.dat (.int i),.dat (.str p),.own (.list []),.no,.no,.no] [os] (.call "entries_of" (.va 0 (.va 1 .nil)))=some (.exc cNO,[os]):=by
   rw[evM,e1,bs0]
   show ((r1 [os] [.hdl 0,.int i]).map _)=_
   rw[h];rfl
  refine goM (P:=fun o=>o=_) (bb_new os i p) ?_
  rw[exMs,exM,call]
  rfl
 exact⟨fun os i t p h=>key os i p (h2 os i t h),fun os i p h=>key os i p (h3 os i h)⟩
variable {Φ:Fs}{Ψ:FsM}{Γ:List (Str×D)}{c cNO cBT cNP:Nat}
noncomputable abbrev HFiles (Ψ:FsM)(cNO:Nat):Prop:=HasM Ψ "files" [false,false,false] fun run=>(∀(os:List D) (i:Nat) (xs:List Str) (es:Nds),Pth xs→(Nd.tree es).ok 4→(Nd.tree es).rep os i→es.cnt≤10000→∃L,Mt os L (es.txts (Txt.join sl xs))∧run [os] [.hdl 0,.int (i:Int),.str (Txt.join sl xs)]=some ([os],.ok (.list (L.map entN))))∧
 (∀(os:List D) (i:Nat) (t:Str),os[i]?=some (blobD t)→run [os] [.hdl 0,.int (i:Int),.str Str.empty]=some ([os],.exc cNO))∧∀(os:List D) (i:Int),Off os i→run [os] [.hdl 0,.int i,.str Str.empty]=some ([os],.exc cNO)
theorem files_run (hn:HNamesOf Ψ)(hb:HBelow Ψ 4)(hx:HBelowX Ψ cNO):(∀(os:List D) (i:Nat) (xs:List Str) (es:Nds),Pth xs→(Nd.tree es).ok 4→(Nd.tree es).rep os i→es.cnt≤10000→∃L,Mt os L (es.txts (Txt.join sl xs))∧ansM Φ Ψ Γ c d_files [os] [.hdl 0,.int (i:Int),.str (Txt.join sl xs)]=some ([os],.ok (.list (L.map entN))))∧
  (∀(os:List D) (i:Nat) (t:Str),os[i]?=some (blobD t)→ansM Φ Ψ Γ c d_files [os] [.hdl 0,.int (i:Int),.str Str.empty]=some ([os],.exc cNO))∧∀(os:List D) (i:Int),Off os i→ansM Φ Ψ Γ c d_files [os] [.hdl 0,.int i,.str Str.empty]=some ([os],.exc cNO):=by
 obtain⟨r1,e1,h1⟩:=hn
 obtain⟨r2,e2,h2⟩:=hb
 obtain⟨r3,e3,h3,h4⟩:=hx
 have e:r3=r2:=by rw[e2] at e3;injection e3 with e3;injection e3 with _ e3;exact e3.symm
 subst e
 have go:∀(os:List D) (i:Int) (xs:List Str) (o:R),Pth xs→r3 [os] [.hdl 0,.int i,.str (Txt.join sl xs)]=some ([os],o)→ansM Φ Ψ Γ c d_files [os] [.hdl 0,.int i,.str (Txt.join sl xs)]=some ([os],o):=fun os i xs o hp ho=>by
  generalize hq:Txt.join sl xs=p at ho
  have n1:=h1 [os] xs hp
  rw[hq] at n1
  have c1:evM Φ Ψ Γ c [.dat (.hdl 0),.dat (.int i),.dat (.str p)] [os] (.call "names_of" (.va 2 .nil))=some (.ok (.list (xs.map .str)),[os]):=by
   rw[evM,e1,bs0]
   show ((r1 [os] [.str p]).map _)=_
   rw[n1];rfl
  have c2:evM Φ Ψ Γ c [.dat (.hdl 0),.dat (.int i),.dat (.str p)] [os] (.call "blobs_below" (.va 0 (.va 1 (.va 2 .nil))))=some (o,[os]):=by
   rw[evM,e2,bs0]
   show ((r3 [os] [.hdl 0,.int i,.str p]).map _)=_
   rw[ho];rfl
  refine goM (P:=fun z=>z=_) (ρ:=[.dat (.hdl 0),.dat (.int i),.dat (.str p)]) (ρ':=[.dat (.hdl 0),.dat (.int i),.dat (.str p)]) (U':=[os]) (by rw[exM,c1];rfl) ?_
  rw[exMs,exM,show List.map freeze [Sl.dat (.hdl 0),.dat (.int i),.dat (.str p)]=[.dat (.hdl 0),.dat (.int i),.dat (.str p)] from rfl,c2]
  cases o<;>rfl
 have p0:Pth []:=⟨by simp,by simp⟩
 refine⟨fun os i xs es hp ho hr hz=>?_,fun os i t h=>go os i [] _ p0 (h3 os i t _ h),fun os i h=>go os i [] _ p0 (h4 os i _ h)⟩
 obtain⟨L,m,run⟩:=h2 os i (Txt.join sl xs) es ho hr (by have:=pth_len hp;omega) hz
 exact⟨L,m,go os i xs _ hp run⟩
noncomputable abbrev Bad (os:List D)(i:Int):Prop:=Off os i∨∃(j:Nat) (t:Str),i=(j:Int)∧os[j]?=some (blobD t)
noncomputable abbrev HWrong (Ψ:FsM):Prop:=HasM Ψ "_law_wrong" [false,false] fun run=>∀(os:List D) (i:Int),Bad os i→run [os] [.hdl 0,.int i]=some ([os],.ok (.bool true))
theorem wrong_run (hf:HFiles Ψ cNO)(os:List D)(i:Int)(h:Bad os i):ansM Φ Ψ Γ c (d_l_wrong cNO cBT cNP) [os] [.hdl 0,.int i]=some ([os],.ok (.bool true)):=by
 obtain⟨r1,e1,_,h2,h3⟩:=hf
 have run:r1 [os] [.hdl 0,.int i,.str Str.empty]=some ([os],.exc cNO):=by
  rcases h with h|⟨j,t,rfl,h⟩
  ·exact h3 os i h
  ·exact h2 os j t h
 have call:evM Φ Ψ Γ c [.dat (.hdl 0),.dat (.int i),.dat .none,.no] [os] (.call "files" (.va 0 (.va 1 (.ex (.p (.k (.str ⟨#[]⟩))) .nil))))=some (.exc cNO,[os]):=by
  rw[evM,e1,bs0]
  show ((r1 [os] [.hdl 0,.int i,.str Str.empty]).map _)=_
  rw[run];rfl
 have tab:∀a b d:Bool,List.lookup cNO [(cNO,a),(cBT,b),(cNP,d)]=some a:=fun a b d=>by simp[List.lookup_cons]
 have tr:exM Φ Ψ Γ c [.dat (.hdl 0),.dat (.int i),.dat .none,.no] [os] (.try1 [(cNO,true),(cBT,true),(cNP,true)] 2 3 (.cons (.expr (.call "files" (.va 0 (.va 1 (.ex (.p (.k (.str ⟨#[]⟩))) .nil))))) .nil))=some (.nx [.dat (.hdl 0),.dat (.int i),.dat (.exc cNO),.no],[os]):=by
  rw[exM,exMs,exM,call]
  show (if List.lookup cNO [(cNO,true),(cBT,true),(cNP,true)]=some true then _ else _)=_
  rw[if_pos (tab _ _ _)];rfl
 have v:ev Φ Γ .val ([Sl.dat (.hdl 0),.dat (.int i),.dat (.exc cNO),.no].map (vE c [os])) (.and (.isx (.v 2) cNO [(cNO,true),(cBT,false),(cNP,false)]) (.not (.isx (.v 2) cNP [(cNO,false),(cBT,false),(cNP,true)])))=some (.bool true):=by
  simp[isxD,tab]
 refine goM (P:=fun z=>z=_) (ρ:=[.dat (.hdl 0),.dat (.int i),.no,.no]) (ρ':=[.dat (.hdl 0),.dat (.int i),.dat .none,.no]) (U':=[os]) rfl ?_
 refine goM (P:=fun z=>z=_) tr ?_
 rw[exMs,exM,show List.map freeze [Sl.dat (.hdl 0),.dat (.int i),.dat (.exc cNO),.no]=[.dat (.hdl 0),.dat (.int i),.dat (.exc cNO),.no] from rfl,evM,v]
 rfl
noncomputable abbrev HTextOf (Φ:Fs)(c:Nat):Prop:=Has Φ "text_of" [true,true] fun run=>∀(os:List D) (j:Nat) (t:Str),os[j]?=some (blobD t)→run [.vlt c 0 os,.int (j:Int)]=some (.str t)
theorem text_of_run (hc:HContent Φ c)(os:List D)(j:Nat)(t:Str)(h:os[j]?=some (blobD t)):ans Φ Γ (d_text_of c) [.vlt c 0 os,.int (j:Int)]=some (.str t):=by
 obtain⟨r1,e1,h1⟩:=hc
 have q:=h1 0 os j kBlob _ h
 simp[ans,d_text_of,e1,q]
noncomputable abbrev HWhole (Φ:Fs):Prop:=Has Φ "_law_whole" [true] fun run=>∀i:Int,run [.int i]=some (.bool true)
theorem whole_run (i:Int):ans Φ Γ d_l_whole [.int i]=some (.bool true):=rfl
variable {Φ:Fs}{Ψ:FsM}{Γ:List (Str×D)}{c cNO cBT cNP:Nat}
theorem bools_all (l:List Bool)(h:∀b∈l,b=true):boolsOf (l.map .bool)=some l∧l.all id=true:=by
 induction l with
 |nil=>exact⟨rfl,rfl⟩
 |cons b r ih=>
  obtain⟨a1,a2⟩:=ih fun x hx=>h x (mc0 _ hx)
  refine⟨by show (boolsOf (r.map .bool)).map _=_;rw[a1];rfl,?_⟩
  rw[List.all_cons,a2,h b ms0];rfl
theorem ev_allT {ρ:List Sl}{e:E}{n:Nat}(h:ev Φ Γ .read ρ e=some (.list ((List.replicate n true).map .bool))):ev Φ Γ .test ρ (.bi .all (.cons e .nil))=some (.bool true):=by
 obtain⟨a1,a2⟩:=bools_all (List.replicate n true) fun b hb=>List.eq_of_mem_replicate hb
 rw[ev,evs,List.headD_cons,if_pos rfl,h,bs0,evs,Option.map_some,bs0]
 show (((boolsOf ((List.replicate n true).map .bool)).map fun bs=>D.bool (bs.all id)).bind _)=_
 rw[a1,Option.map_some,a2];rfl
theorem compL_step {f:D→Option (Option D)}{d x:D}{r ys:List D}(h:f d=some (some x))(h2:compL f r=some ys):compL f (d::r)=some (x::ys):=by
 rw[compL,h,bs0,h2];rfl
theorem pr_okS (T:List (Str×Str)):okS 8 (.list (T.map prD))=true:=by
 show (T.map prD).all (okS 7)=true
 rw[List.all_eq_true]
 intro d hd
 obtain⟨x,_,rfl⟩:=List.mem_map.mp hd
 rfl
theorem law_k51_run (hm:HMix Φ)(hf:HFold Φ 3)(hnm:HName Φ)(ht:HTexts Φ 4)(hto:HTextOf Φ c)(hwh:HWhole Φ)(hsz:HSize Φ c)(hb:HBlobN Ψ)(hs:HStore Ψ 4)(hfi:HFiles Ψ cNO)(hwr:HWrong Ψ)(ns:List Int):
  ∃U,ansM Φ Ψ Γ c (d_law_k51 c) [] [.scr ns]=some (U,.ok (.bool true)):=by
 obtain⟨rm,em,km⟩:=hm
 obtain⟨rf,ef,kf⟩:=hf
 obtain⟨rn,en,kn⟩:=hnm
 obtain⟨rt,et,kt⟩:=ht
 obtain⟨ro,eo,ko⟩:=hto
 obtain⟨rw',ew,kw⟩:=hwh
 obtain⟨rz,ez,kz⟩:=hsz
 obtain⟨rb,eb,kb⟩:=hb
 obtain⟨rs,es',ks⟩:=hs
 obtain⟨ri,ei,ki,_⟩:=hfi
 obtain⟨rr,er',kr⟩:=hwr
 obtain⟨es,ok,fold⟩:=kf ns (mixF ns 60 % 7)
 have cnt:(Nd.tree es).cnt≤256:=Nd.cnt_le (Nd.tree es) 4 ok
 have cnt2:es.cnt≤10000:=by rw[Nd.cnt] at cnt;omega
 obtain⟨os1,j0,b1,b2,b3,b4⟩:=kb [] ⟨#[98]⟩ (by decide)
 obtain⟨os2,i,s1,s2,s3,s4⟩:=ks os1 (Nd.tree es) ok (by have:([]:List D).length=0:=rfl;omega)
 have other:os2[j0]?=some (blobD ⟨#[98]⟩):=s3 _ _ b2
 have g:=mix_mod ns 61 3 (by decide)
 generalize hM:mixF ns 61 % 3=M at g
 let A:List Sl:=[.lent (.scr ns),.dat (Nd.tree es).d,.dat (.hdl 0),.dat (.int (j0:Int)),.dat (.int (i:Int)),.no,.no]
 have hA:A.map (vE c [os2])=[.lent (.scr ns),.dat (Nd.tree es).d,.lent (.vlt c 0 os2),.dat (.int (j0:Int)),.dat (.int (i:Int)),.no,.no]:=rfl
 obtain⟨xs,xl,xp,xe⟩:∃xs:List Str,xs.length=M.toNat∧(∀t∈xs,nameF t=true)∧ev Φ Γ .read (A.map (vE c [os2])) (.comp 1 [0] (.one 0) (.rng (.op .mod (.call "_law_mix" (.cons (.v 0) (.cons (.k (.int 61)) .nil))) (.k (.int 3)))) .nil (.call "_law_name" (.cons (.v 1) (.cons (.op .add (.k (.int 50)) (.v 0)) .nil))))=some (.list (xs.map .str)):=by
  have hr:=rOk_of (n:=M) (by omega) (by omega)
  have hz:M.toNat≤big:=by unfold big;omega
  have src:evI Φ Γ .read (A.map (vE c [os2])) (.rng (.op .mod (.call "_law_mix" (.cons (.v 0) (.cons (.k (.int 61)) .nil))) (.k (.int 3))))=some ((List.range M.toNat).map fun k:Nat=>D.int k):=by
   rw[hA];simp[em,km,hM,hr]
  obtain⟨ts,tl,tp,te⟩:=compL_names (P:=fun t=>nameF t=true) (f:=fun d=>(bindTg (.one 0) d (SI.blk 1 [0] (A.map (vE c [os2])))).bind fun ρ'=>(evC Φ Γ ρ' .nil).bind fun t=>if t then (ev Φ Γ .val ρ' (.call "_law_name" (.cons (.v 1) (.cons (.op .add (.k (.int 50)) (.v 0)) .nil)))).map some else some Option.none) ((List.range M.toNat).map fun k:Nat=>D.int k) (fun x hx=>by
   obtain⟨j,_,rfl⟩:=List.mem_map.mp hx
   obtain⟨t,a,b⟩:=kn ns (50+j)
   refine⟨t,b,?_⟩
   rw[hA]
   simp[en,a])
  refine⟨ts,by rw[tl];simp,tp,?_⟩
  rw[ev,fin_read,src,bs0,if_pos (by rw[lm0,List.length_range];exact hz),te]
  rfl
 have pth:Pth xs:=⟨by omega,xp⟩
 have plen:=pth_len pth
 obtain⟨L,mt,run⟩:=ki os2 i xs es pth ok s2 cnt2
 generalize hp:Txt.join sl xs=path at mt run plen
 have jn:ev Φ Γ .val (A.map (vE c [os2])) (.me .join (.k (.str ⟨#[47]⟩)) (.cons (.comp 1 [0] (.one 0) (.rng (.op .mod (.call "_law_mix" (.cons (.v 0) (.cons (.k (.int 61)) .nil))) (.k (.int 3)))) .nil (.call "_law_name" (.cons (.v 1) (.cons (.op .add (.k (.int 50)) (.v 0)) .nil)))) .nil))=some (.str path):=by
  have hj:(xs.map (·.length)).sum+xs.length*(⟨#[47]⟩:Str).length≤big:=by
   have h1:(xs.map (·.length)).sum≤xs.length*12:=sum_le fun x hx=>(nameF_len (xp x hx)).2
   have h2:(⟨#[47]⟩:Str).length=1:=rfl
   rw[h2]
   exact nt0 (by omega:_≤100) (by decide)
  rw[ev,fin_val,ev,fin_read,bs0,evs,List.headD_cons,if_pos rfl,xe,bs0,evs,Option.map_some,bs0,me_join,strsOf_map,bs0,if_pos hj,hp]
 have Ll:L.length≤10000:=by rw[mt.len];exact nt0 (Nds.txts_len es path) cnt2
 let B:List Sl:=[.lent (.scr ns),.dat (Nd.tree es).d,.dat (.hdl 0),.dat (.int (j0:Int)),.dat (.int (i:Int)),.dat (.str path),.dat (.list (L.map entN))]
 have hB:B.map (vE c [os2])=[.lent (.scr ns),.dat (Nd.tree es).d,.lent (.vlt c 0 os2),.dat (.int (j0:Int)),.dat (.int (i:Int)),.dat (.str path),.dat (.list (L.map entN))]:=rfl
 have lb:(L.map entN).length≤big:=by rw[lm0];exact nt0 Ll (by decide)
 have srcL:evI Φ Γ .read (B.map (vE c [os2])) (.seq (.v 6))=some (L.map entN):=rfl
 have rep:∀n:Nat,(List.replicate n true).map D.bool=List.replicate n (D.bool true):=fun n=>List.map_replicate ..
 have c1:ev Φ Γ .read (B.map (vE c [os2])) (.comp 1 [] (.one 0) (.seq (.v 6)) .nil (.and (.isi (.v 0) "tuple") (.cmp .eq (.bi .len (.cons (.v 0) .nil)) (.k (.int 2)))))=some (.list ((List.replicate L.length true).map .bool)):=by
  have key:=fun f h=>compL_map (f:=f) (inj:=entN) (g:=fun _=>D.bool true) (xs:=L) h
  rw[ev,fin_read,srcL,bs0,if_pos lb,key]
  ·rw[rep,List.map_const'];rfl
  ·intro x _;rfl
 have c2:ev Φ Γ .read (B.map (vE c [os2])) (.comp 1 [] (.one 0) (.seq (.v 6)) .nil (.call "_law_whole" (.cons (.idx (.v 0) (.k (.int 1))) .nil)))=some (.list ((List.replicate L.length true).map .bool)):=by
  have key:=fun f h=>compL_map (f:=f) (inj:=entN) (g:=fun _=>D.bool true) (xs:=L) h
  rw[ev,fin_read,srcL,bs0,if_pos lb,key]
  ·rw[rep,List.map_const'];rfl
  ·intro x _
   have q:=kw (x.2:Int)
   have at1:atI [D.str x.1,.int (x.2:Int)] 1=some (.int (x.2:Int)):=rfl
   simp[entN,ew,q,at1]
 have c3:ev Φ Γ .read (B.map (vE c [os2])) (.comp 2 [2] (.tup [0,1]) (.seq (.v 6)) .nil (.tup (.cons (.v 0) (.cons (.call "text_of" (.cons (.v 2) (.cons (.v 1) .nil))) .nil))))=some (.list ((es.txts path).map prD)):=by
  rw[ev,fin_read,srcL,bs0,if_pos lb]
  have go:∀{L:List (Str×Nat)} {T:List (Str×Str)},Mt os2 L T→compL (fun d=>(bindTg (.tup [0,1]) d (SI.blk 2 [2] (B.map (vE c [os2])))).bind fun ρ'=>(evC Φ Γ ρ' .nil).bind fun t=>if t then (ev Φ Γ .val ρ' (.tup (.cons (.v 0) (.cons (.call "text_of" (.cons (.v 2) (.cons (.v 1) .nil))) .nil)))).map some else some Option.none) (L.map entN)=some (T.map prD):=by
   intro L
   induction L with
   |nil=>
    intro T h
    cases T with
    |nil=>rfl
    |cons _ _=>exact h.elim
   |cons a r ih=>
    intro T h
    cases T with
    |nil=>exact h.elim
    |cons b T=>
     obtain⟨h1,h2,h3⟩:=h
     have q:=ko os2 a.2 b.2 h2
     have one:(bindTg (.tup [0,1]) (entN a) (SI.blk 2 [2] (B.map (vE c [os2])))).bind (fun ρ'=>(evC Φ Γ ρ' .nil).bind fun t=>if t then (ev Φ Γ .val ρ' (.tup (.cons (.v 0) (.cons (.call "text_of" (.cons (.v 2) (.cons (.v 1) .nil))) .nil)))).map some else some Option.none)=some (some (prD b)):=by
      have tx:ev Φ Γ .val [.dat (.str a.1),.dat (.int (a.2:Int)),.lent (.vlt c 0 os2)] (.call "text_of" (.cons (.v 2) (.cons (.v 1) .nil)))=some (.str b.2):=by
       rw[ev,fin_val,eo,bs0]
       exact q
      show ((ev Φ Γ .val [.dat (.str a.1),.dat (.int (a.2:Int)),.lent (.vlt c 0 os2)] (.tup (.cons (.v 0) (.cons (.call "text_of" (.cons (.v 2) (.cons (.v 1) .nil))) .nil)))).map some)=_
      rw[ev,fin_val,evs,evs]
      simp only[List.headD_nil,Bool.false_eq_true,if_false,List.tail_nil,tx]
      show some (some (D.tuple [.str a.1,.str b.2]))=_
      rw[h1];rfl
     exact compL_step one (ih h3)
  rw[go mt];rfl
 have c4:ev Φ Γ .read (B.map (vE c [os2])) (.call "_law_texts" (.cons (.v 5) (.cons (.v 1) .nil)))=some (.list ((es.txts path).map prD)):=by
  rw[ev,fin_read,et,bs0]
  exact kt path es ok (by omega) cnt2
 have t1:ev Φ Γ .test (B.map (vE c [os2])) (.or (.not (.isi (.v 6) "list")) (.not (.bi .all (.cons (.comp 1 [] (.one 0) (.seq (.v 6)) .nil (.and (.isi (.v 0) "tuple") (.cmp .eq (.bi .len (.cons (.v 0) .nil)) (.k (.int 2))))) .nil))))=some (.bool false):=by
  have n1:ev Φ Γ .test (B.map (vE c [os2])) (.not (.isi (.v 6) "list"))=some (.bool false):=rfl
  have n2:ev Φ Γ .test (B.map (vE c [os2])) (.not (.bi .all (.cons (.comp 1 [] (.one 0) (.seq (.v 6)) .nil (.and (.isi (.v 0) "tuple") (.cmp .eq (.bi .len (.cons (.v 0) .nil)) (.k (.int 2))))) .nil)))=some (.bool false):=by
   rw[ev]
   show ((ev Φ Γ .test _ _).bind _)=_
   rw[ev_allT c1];rfl
  rw[ev]
  show ((ev Φ Γ .test _ _).bind _)=_
  rw[n1,bs0,asB_bool,bs0,if_neg fx0]
  exact n2
 have t2:ev Φ Γ .test (B.map (vE c [os2])) (.not (.bi .all (.cons (.comp 1 [] (.one 0) (.seq (.v 6)) .nil (.call "_law_whole" (.cons (.idx (.v 0) (.k (.int 1))) .nil))) .nil)))=some (.bool false):=by
  rw[ev]
  show ((ev Φ Γ .test _ _).bind _)=_
  rw[ev_allT c2];rfl
 have t3:ev Φ Γ .test (B.map (vE c [os2])) (.cmp .ne (.comp 2 [2] (.tup [0,1]) (.seq (.v 6)) .nil (.tup (.cons (.v 0) (.cons (.call "text_of" (.cons (.v 2) (.cons (.v 1) .nil))) .nil)))) (.call "_law_texts" (.cons (.v 5) (.cons (.v 1) .nil))))=some (.bool false):=by
  rw[ev,c3,bs0,c4,bs0]
  show ((((eqD (.list ((es.txts path).map prD)) (.list ((es.txts path).map prD))).map fun b=>!b).map D.bool).bind _)=_
  rw[eq_ok (pr_okS _) (pr_okS _),decide_eq_true rfl];rfl
 have w1:evM Φ Ψ Γ c B [os2] (.call "_law_wrong" (.va 2 (.va 3 .nil)))=some (.ok (.bool true),[os2]):=by
  rw[evM,er',bs0]
  show ((rr [os2] [.hdl 0,.int (j0:Int)]).map _)=_
  rw[kr os2 (j0:Int) (.inr ⟨j0,_,rfl,other⟩)];rfl
 obtain⟨z,zb,zo⟩:∃z:Int,Bad os2 z∧ev Φ Γ .val (B.map (vE c [os2])) (.idx (.lst (.cons (.neg (.k (.int 1))) (.cons (.vcall c "size" (.v 2) .nil) .nil))) (.op .mod (.call "_law_mix" (.cons (.v 0) (.cons (.k (.int 62)) .nil))) (.k (.int 2))))=some (.int z):=by
  have gz:=mix_mod ns 62 2 (by decide)
  have sz:ev Φ Γ .val (B.map (vE c [os2])) (.vcall c "size" (.v 2) .nil)=some (.int (os2.length:Int)):=by
   rw[hB];simp[ez,kz]
  have ls:ev Φ Γ .read (B.map (vE c [os2])) (.lst (.cons (.neg (.k (.int 1))) (.cons (.vcall c "size" (.v 2) .nil) .nil)))=some (.list [.int (-1),.int (os2.length:Int)]):=by
   rw[ev,fin_read,evs,evs]
   simp only[List.headD_nil,Bool.false_eq_true,if_false,List.tail_nil,sz]
   rfl
  have ix:ev Φ Γ .val (B.map (vE c [os2])) (.op .mod (.call "_law_mix" (.cons (.v 0) (.cons (.k (.int 62)) .nil))) (.k (.int 2)))=some (.int (mixF ns 62 % 2)):=by
   rw[hB];simp[em,km]
  have:mixF ns 62 % 2=0∨mixF ns 62 % 2=1:=by omega
  rcases this with h|h
  ·refine⟨-1,.inl (.inl (by omega)),?_⟩
   rw[ev,fin_val,ls,bs0,ix,h];rfl
  ·refine⟨os2.length,.inl (.inr (Int.le_refl _)),?_⟩
   rw[ev,fin_val,ls,bs0,ix,h];rfl
 have w2:evM Φ Ψ Γ c B [os2] (.call "_law_wrong" (.va 2 (.ex (.p (.idx (.lst (.cons (.neg (.k (.int 1))) (.cons (.vcall c "size" (.v 2) .nil) .nil))) (.op .mod (.call "_law_mix" (.cons (.v 0) (.cons (.k (.int 62)) .nil))) (.k (.int 2))))) .nil)))=some (.ok (.bool true),[os2]):=by
  rw[evM,er',bs0,evMs,evMs,evM,zo]
  show ((rr [os2] [.hdl 0,.int z]).map _)=_
  rw[kr os2 z zb];rfl
 refine⟨[os2],?_⟩
 have a1:exM Φ Ψ Γ c [.lent (.scr ns),.no,.no,.no,.no,.no,.no] [] (.set 1 (.p (.call "_law_folder" (.cons (.v 0) (.cons (.op .mod (.call "_law_mix" (.cons (.v 0) (.cons (.k (.int 60)) .nil))) (.k (.int 7))) (.cons (.k (.int 3)) .nil))))))=some (.nx [.lent (.scr ns),.dat (Nd.tree es).d,.no,.no,.no,.no,.no],[]):=by
  have e:ev Φ Γ .val ([Sl.lent (.scr ns),.no,.no,.no,.no,.no,.no].map (vE c [])) (.call "_law_folder" (.cons (.v 0) (.cons (.op .mod (.call "_law_mix" (.cons (.v 0) (.cons (.k (.int 60)) .nil))) (.k (.int 7))) (.cons (.k (.int 3)) .nil))))=some (Nd.tree es).d:=by
   have f':rf [.scr ns,.int (mixF ns 60 % 7),.int 3]=some (Nd.tree es).d:=fold
   simp[ef,em,km,f']
  rw[exM,evM,e];rfl
 have a2:exM Φ Ψ Γ c [.lent (.scr ns),.dat (Nd.tree es).d,.no,.no,.no,.no,.no] [] (.set 2 .new)=some (.nx [.lent (.scr ns),.dat (Nd.tree es).d,.dat (.hdl 0),.no,.no,.no,.no],[[]]):=rfl
 have a3:exM Φ Ψ Γ c [.lent (.scr ns),.dat (Nd.tree es).d,.dat (.hdl 0),.no,.no,.no,.no] [[]] (.set 3 (.call "blob" (.va 2 (.ex (.p (.k (.str ⟨#[98]⟩))) .nil))))=some (.nx [.lent (.scr ns),.dat (Nd.tree es).d,.dat (.hdl 0),.dat (.int (j0:Int)),.no,.no,.no],[os1]):=by
  rw[exM,evM,eb,bs0]
  show (((rb [[]] [.hdl 0,.str ⟨#[98]⟩]).map _).map _)=_
  rw[b1];rfl
 have a4:exM Φ Ψ Γ c [.lent (.scr ns),.dat (Nd.tree es).d,.dat (.hdl 0),.dat (.int (j0:Int)),.no,.no,.no] [os1] (.set 4 (.call "_law_store" (.va 2 (.va 1 .nil))))=some (.nx A,[os2]):=by
  rw[exM,evM,es',bs0]
  show (((rs [os1] [.hdl 0,(Nd.tree es).d]).map _).map _)=_
  rw[s1];rfl
 have a5:exM Φ Ψ Γ c A [os2] (.set 5 (.p (.me .join (.k (.str ⟨#[47]⟩)) (.cons (.comp 1 [0] (.one 0) (.rng (.op .mod (.call "_law_mix" (.cons (.v 0) (.cons (.k (.int 61)) .nil))) (.k (.int 3)))) .nil (.call "_law_name" (.cons (.v 1) (.cons (.op .add (.k (.int 50)) (.v 0)) .nil)))) .nil))))=some (.nx [.lent (.scr ns),.dat (Nd.tree es).d,.dat (.hdl 0),.dat (.int (j0:Int)),.dat (.int (i:Int)),.dat (.str path),.no],[os2]):=by
  rw[exM,evM,jn];rfl
 have a6:exM Φ Ψ Γ c [.lent (.scr ns),.dat (Nd.tree es).d,.dat (.hdl 0),.dat (.int (j0:Int)),.dat (.int (i:Int)),.dat (.str path),.no] [os2] (.set 6 (.call "files" (.va 2 (.va 4 (.va 5 .nil)))))=some (.nx B,[os2]):=by
  rw[exM,evM,ei,bs0]
  show (((ri [os2] [.hdl 0,.int (i:Int),.str path]).map _).map _)=_
  rw[run];rfl
 refine goM (P:=fun z=>z=_) a1 (goM (P:=fun z=>z=_) a2 (goM (P:=fun z=>z=_) a3 (goM (P:=fun z=>z=_) a4 (goM (P:=fun z=>z=_) a5 (goM (P:=fun z=>z=_) a6 ?_)))))
 refine goM (P:=fun z=>z=_) (ρ':=B) (U':=[os2]) (by rw[exM,t1];rfl) ?_
 refine goM (P:=fun z=>z=_) (ρ':=B) (U':=[os2]) (by rw[exM,t2];rfl) ?_
 refine goM (P:=fun z=>z=_) (ρ':=B) (U':=[os2]) (by rw[exM,t3];rfl) ?_
 rw[exMs,exM,show List.map freeze B=B from rfl,evM,w1,bs0]
 show (((((evM Φ Ψ Γ c B [os2] (.call "_law_wrong" (.va 2 (.ex (.p (.idx (.lst (.cons (.neg (.k (.int 1))) (.cons (.vcall c "size" (.v 2) .nil) .nil))) (.op .mod (.call "_law_mix" (.cons (.v 0) (.cons (.k (.int 62)) .nil))) (.k (.int 2))))) .nil)))).map _).bind _)).map _)=_
 rw[w2];rfl
end TX
namespace K51
open PySem L2 L2.Z SI
noncomputable abbrev cV:Nat:=153
noncomputable abbrev cSE:Nat:=31
noncomputable abbrev cNO:Nat:=44
noncomputable abbrev cBT:Nat:=56
noncomputable abbrev cNP:Nat:=68
noncomputable def top (i:Nat):Stmt:=PySem.Challenge.pw_strata_k51_files.main.body.getD i (.Pass ⟨0,0,0,0⟩)
noncomputable def met (j:Nat):Stmt:=match top 13 with|.ClassDef _ _ _ b ..=>b.getD j (.Pass ⟨0,0,0,0⟩)|_=>.Pass ⟨0,0,0,0⟩
noncomputable def gam:List (Str×D):=[("LONGEST_NAME",.int 12),("MOST_NAMES",.int 20)]
noncomputable def env:Env1:={fns:=["is_name_sign","is_name","names_rise","joined","text_of","_law_cell","_law_mix","_law_whole","_law_sign","_law_line","_law_ends","_law_row","_law_name","_law_node","_law_folder","_law_texts"],cst:=["LONGEST_NAME","MOST_NAMES"],c:=cV,vms:=["size","kind","held","content"],xcs:=[("StrataError",cSE,[(cNO,true),(cBT,true),(cNP,true)]),("NoObject",cNO,[(cNO,true),(cBT,false),(cNP,false)]),("BadTree",cBT,[(cNO,false),(cBT,true),(cNP,false)]),("NoPath",cNP,[(cNO,false),(cBT,false),(cNP,true)])],mfs:=["blob","tree","entries_of","refuse_wrong_names","files","names_of","blobs_below","_law_store","_law_wrong","law"],mms:=["put","held","content"],vn:="Vault",xks:=[("BadTree",cBT),("NoObject",cNO),("NoPath",cNP)]}
noncomputable def prog:List (Str×Def):=[("is_name_sign",TX.d_is_name_sign),("is_name",TX.d_is_name),("names_rise",TX.d_names_rise),("joined",TX.d_joined),("text_of",(TX.d_text_of cV)),("_law_cell",TX.d_l_cell),("_law_mix",TX.d_l_mix),("_law_whole",TX.d_l_whole),("_law_sign",TX.d_l_sign),("_law_line",TX.d_l_line),("_law_ends",TX.d_l_ends),("_law_row",TX.d_l_row),("_law_name",TX.d_l_name),("_law_node",TX.d_l_node),("_law_folder",TX.d_l_folder),("_law_texts",TX.d_l_texts),(vname "size",(TX.d_v_size cV)),(vname "kind",(TX.d_v_kind cV)),(vname "held",(TX.d_v_held cV)),(vname "content",(TX.d_v_content cV))]
noncomputable def progM:List (Str×DefM):=[("blob",TX.d_blob),("tree",(TX.d_tree cV cBT)),("entries_of",TX.d_entries_ofM),("refuse_wrong_names",(TX.d_refuse_wrong_names cBT)),("files",TX.d_files),("names_of",(TX.d_names_of cNP)),("blobs_below",(TX.d_blobs_below cV)),("_law_store",TX.d_l_store),("_law_wrong",(TX.d_l_wrong cNO cBT cNP)),("law",(TX.d_law_k51 cV)),(vname "held",(TX.d_vm_held cV cNO)),(vname "content",(TX.d_vm_content cNO))]
theorem ti:InitTxt (met 0):=⟨⟨_,_,_,_,_,_,_,_,rfl⟩⟩
theorem tp:PutTxt (met 5):=⟨⟨_,_,_,_,_,_,_,_,_,_,_,_,_,_,_,_,_,_,_,_,_,_,_,_,_,rfl,rfl⟩,by decide +kernel⟩
noncomputable abbrev m0:Value:=.str "strata.names" 262
noncomputable abbrev m1:Value:=.str "strata.vaults" 293
noncomputable abbrev m2:Value:=.str "law_strata_k51_files" 442
noncomputable abbrev m3:Value:=.str "strata.walking" 410
noncomputable abbrev fo (n q:Str)(st:Stmt)(pm:Value)(cd:Addr):Obj:=⟨.type "function",none,.func (PySem.W.fnOf n q (defArgs st) (defBody st) (defScope st) .none .none .none pm none (.ref cd) .none),#[]⟩
noncomputable def kE (P:Params)(k:Str)(t:Nat)(v:Value):DictEntry:=⟨PyData.keyHash P k,.str k t,v⟩
noncomputable def dO (n:Nat)(es:List DictEntry):Obj:=⟨.type "dict",none,.dict es.toArray n,#[]⟩
noncomputable def cO (n:Str)(bs mro:List Value)(ns:Addr)(subs:List Value)(sl:List (Option Value)):Obj:=⟨.type "type",none,.cls {name:=n,bases:=bs,mro:=mro,ns:=ns,qualname:=n,subclasses:=subs},sl.toArray⟩
noncomputable def kO (n q:Str)(t l p e cd:Nat)(w:Bool):Obj:=⟨.type "code",none,.fields #[.str n t,.str q (t+1),.str "/claim/cut.py" (t+2),.int l 0,.int p 0,.int 0 0,.int 0 0,.int 3 0,.ref (cd-(if w then 5 else 3)),.bool true,.int 181 0,.ref (cd-(if w then 4 else 2)),.none,if w then .ref (cd-3) else .none,if w then .ref (cd-2) else .none,.ref (cd-1),.int (t+e-1:Nat) 0,.int l 0,.str "/claim/cut.py" (t+e)],#[]⟩
noncomputable def kk (P:Params):PySem.W.Frag:=[(3,dO 45 [kE P "__name__" 165 (.str "law_strata_k51_files" 442),kE P "__doc__" 166 (.none),kE P "__package__" 167 (.none),kE P "__loader__" 168 (.builtin "__main__.__loader__#opaque"),kE P "__spec__" 169 (.none),kE P "__annotations__" 170 (.ref 6),kE P "__builtins__" 171 (.ref 4),kE P "__file__" 173 (.str "/claim/cut.py" 172),kE P "__cached__" 174 (.none),kE P "_wall" 193 (.ref 21),kE P "StrataError" 213 (.ref 31),kE P "NoObject" 229 (.ref 44),kE P "BadTree" 245 (.ref 56),kE P "NoPath" 261 (.ref 68),kE P "LONGEST_NAME" 265 (.int 12 264),kE P "is_name_sign" 272 (.ref 77),kE P "is_name" 278 (.ref 82),kE P "names_rise" 284 (.ref 87),kE P "joined" 292 (.ref 94),kE P "Vault" 371 (.ref 153),kE P "blob" 379 (.ref 164),kE P "tree" 385 (.ref 169),kE P "text_of" 393 (.ref 176),kE P "entries_of" 401 (.ref 183),kE P "refuse_wrong_names" 409 (.ref 190),kE P "MOST_NAMES" 413 (.int 20 412),kE P "files" 422 (.ref 197),kE P "names_of" 428 (.ref 202),kE P "blobs_below" 441 (.ref 209),kE P "_law_cell" 451 (.ref 216),kE P "_law_mix" 460 (.ref 223),kE P "_law_whole" 467 (.ref 230),kE P "_law_sign" 476 (.ref 237),kE P "_law_line" 485 (.ref 244),kE P "_law_ends" 491 (.ref 249),kE P "_law_row" 497 (.ref 254),kE P "_law_edited" 512 (.ref 261),kE P "_law_name" 518 (.ref 266),kE P "_law_lines" 524 (.ref 271),kE P "_law_node" 535 (.ref 278),kE P "_law_folder" 541 (.ref 283),kE P "_law_store" 547 (.ref 288),kE P "_law_texts" 559 (.ref 295),kE P "_law_wrong" 569 (.ref 302),kE P "law" 575 (.ref 307)]),
 (30,dO 3 [kE P "__module__" 203 (.str "strata.errors" 194),kE P "__firstlineno__" 207 (.int 5 206),kE P "__static_attributes__" 208 (.ref 29),kE P "__weakref__" 210 (.ref 32),kE P "__doc__" 211 (.none)]),
 (31,cO "StrataError" [.type "ValueError"] [.ref 31,.type "ValueError",.type "Exception",.type "BaseException",.type "object"] 30 [.ref 44,.ref 56,.ref 68] [some (.ref 22),none,some (.str "StrataError" 196),some (.str "StrataError" 204),some (.builtin "ValueError.__new__"),some (.bool true)]),
 (43,dO 2 [kE P "__module__" 221 (.str "strata.errors" 194),kE P "__firstlineno__" 225 (.int 7 224),kE P "__static_attributes__" 226 (.ref 42),kE P "__doc__" 227 (.none)]),
 (44,cO "NoObject" [.ref 31] [.ref 44,.ref 31,.type "ValueError",.type "Exception",.type "BaseException",.type "object"] 43 [] [some (.ref 35),none,some (.str "NoObject" 214),some (.str "NoObject" 222),some (.builtin "ValueError.__new__"),some (.bool true)]),
 (55,dO 2 [kE P "__module__" 237 (.str "strata.errors" 194),kE P "__firstlineno__" 241 (.int 9 240),kE P "__static_attributes__" 242 (.ref 54),kE P "__doc__" 243 (.none)]),
 (56,cO "BadTree" [.ref 31] [.ref 56,.ref 31,.type "ValueError",.type "Exception",.type "BaseException",.type "object"] 55 [] [some (.ref 47),none,some (.str "BadTree" 230),some (.str "BadTree" 238),some (.builtin "ValueError.__new__"),some (.bool true)]),
 (67,dO 2 [kE P "__module__" 253 (.str "strata.errors" 194),kE P "__firstlineno__" 257 (.int 11 256),kE P "__static_attributes__" 258 (.ref 66),kE P "__doc__" 259 (.none)]),
 (68,cO "NoPath" [.ref 31] [.ref 68,.ref 31,.type "ValueError",.type "Exception",.type "BaseException",.type "object"] 67 [] [some (.ref 59),none,some (.str "NoPath" 246),some (.str "NoPath" 254),some (.builtin "ValueError.__new__"),some (.bool true)]),
 (76,kO "is_name_sign" "is_name_sign" 266 15 1 5 76 true),
 (77,fo "is_name_sign" "is_name_sign" (top 8) m0 76),
 (81,kO "is_name" "is_name" 273 19 1 4 81 false),
 (82,fo "is_name" "is_name" (top 9) m0 81),
 (86,kO "names_rise" "names_rise" 279 25 1 4 86 false),
 (87,fo "names_rise" "names_rise" (top 10) m0 86),
 (93,kO "joined" "joined" 285 27 2 6 93 true),
 (94,fo "joined" "joined" (top 11) m0 93),
 (107,kO "__init__" "Vault.__init__" 307 32 1 5 107 true),
 (108,fo "__init__" "Vault.__init__" (met 0) m1 107),
 (114,kO "size" "Vault.size" 314 36 1 5 114 true),
 (115,fo "size" "Vault.size" (met 1) m1 114),
 (121,kO "kind" "Vault.kind" 321 39 2 6 121 true),
 (122,fo "kind" "Vault.kind" (met 2) m1 121),
 (128,kO "held" "Vault.held" 329 42 2 6 128 true),
 (129,fo "held" "Vault.held" (met 3) m1 128),
 (135,kO "content" "Vault.content" 337 47 3 8 135 true),
 (136,fo "content" "Vault.content" (met 4) m1 135),
 (142,kO "put" "Vault.put" 347 53 2 6 142 true),
 (143,fo "put" "Vault.put" (met 5) m1 142),
 (152,dO 4 [kE P "__module__" 302 (.str "strata.vaults" 293),kE P "__firstlineno__" 306 (.int 30 305),kE P "__init__" 313 (.ref 108),kE P "size" 320 (.ref 115),kE P "kind" 328 (.ref 122),kE P "held" 336 (.ref 129),kE P "content" 346 (.ref 136),kE P "put" 354 (.ref 143),kE P "copied" 361 (.ref 150),kE P "__static_attributes__" 364 (.ref 151),kE P "__dict__" 366 (.ref 154),kE P "__weakref__" 368 (.ref 155),kE P "__doc__" 369 (.none)]),
 (153,cO "Vault" [.type "object"] [.ref 153,.type "object"] 152 [] [none,none,some (.str "Vault" 295),some (.str "Vault" 303),some (.builtin "object.__new__"),some (.bool true)]),
 (163,kO "blob" "blob" 372 61 2 6 163 true),
 (164,fo "blob" "blob" (top 14) m1 163),
 (168,kO "tree" "tree" 380 63 2 4 168 false),
 (169,fo "tree" "tree" (top 15) m1 168),
 (175,kO "text_of" "text_of" 386 69 2 6 175 true),
 (176,fo "text_of" "text_of" (top 16) m1 175),
 (182,kO "entries_of" "entries_of" 394 71 2 6 182 true),
 (183,fo "entries_of" "entries_of" (top 17) m1 182),
 (189,kO "refuse_wrong_names" "refuse_wrong_names" 402 73 1 6 189 true),
 (190,fo "refuse_wrong_names" "refuse_wrong_names" (top 18) m1 189),
 (196,kO "files" "files" 414 81 3 7 196 true),
 (197,fo "files" "files" (top 21) m3 196),
 (201,kO "names_of" "names_of" 423 84 1 4 201 false),
 (202,fo "names_of" "names_of" (top 22) m3 201),
 (208,kO "blobs_below" "blobs_below" 429 91 3 11 208 true),
 (209,fo "blobs_below" "blobs_below" (top 23) m3 208),
 (215,kO "_law_cell" "_law_cell" 444 101 2 6 215 true),
 (216,fo "_law_cell" "_law_cell" (top 25) m2 215),
 (222,kO "_law_mix" "_law_mix" 452 105 2 7 222 true),
 (223,fo "_law_mix" "_law_mix" (top 26) m2 222),
 (229,kO "_law_whole" "_law_whole" 461 109 1 5 229 true),
 (230,fo "_law_whole" "_law_whole" (top 27) m2 229),
 (236,kO "_law_sign" "_law_sign" 468 111 1 7 236 true),
 (237,fo "_law_sign" "_law_sign" (top 28) m2 236),
 (243,kO "_law_line" "_law_line" 477 115 2 7 243 true),
 (244,fo "_law_line" "_law_line" (top 29) m2 243),
 (248,kO "_law_ends" "_law_ends" 486 120 2 4 248 false),
 (249,fo "_law_ends" "_law_ends" (top 30) m2 248),
 (253,kO "_law_row" "_law_row" 492 125 3 4 253 false),
 (254,fo "_law_row" "_law_row" (top 31) m2 253),
 (265,kO "_law_name" "_law_name" 513 136 2 4 265 false),
 (266,fo "_law_name" "_law_name" (top 33) m2 265),
 (277,kO "_law_node" "_law_node" 525 148 3 9 277 true),
 (278,fo "_law_node" "_law_node" (top 35) m2 277),
 (282,kO "_law_folder" "_law_folder" 536 154 3 4 282 false),
 (283,fo "_law_folder" "_law_folder" (top 36) m2 282),
 (287,kO "_law_store" "_law_store" 542 157 2 4 287 false),
 (288,fo "_law_store" "_law_store" (top 37) m2 287),
 (294,kO "_law_texts" "_law_texts" 548 161 2 10 294 true),
 (295,fo "_law_texts" "_law_texts" (top 38) m2 294),
 (301,kO "_law_wrong" "_law_wrong" 560 170 2 8 301 true),
 (302,fo "_law_wrong" "_law_wrong" (top 39) m2 301),
 (306,kO "law" "law" 570 177 1 4 306 false),
 (307,fo "law" "law" (top 40) m2 306)]
noncomputable def ads:List Addr:=[3,30,31,43,44,55,56,67,68,76,77,81,82,86,87,93,94,107,108,114,115,121,122,128,129,135,136,142,143,152,153,163,164,168,169,175,176,182,183,189,190,196,197,201,202,208,209,215,216,222,223,229,230,236,237,243,244,248,249,253,254,265,266,277,278,282,283,287,288,294,295,301,302,306,307]
noncomputable def lo:List Str:=(["_wall","StrataError","NoObject","BadTree","NoPath","LONGEST_NAME","is_name_sign","is_name","names_rise","joined","Vault","blob","tree","text_of","entries_of","refuse_wrong_names","MOST_NAMES","files","names_of","blobs_below"]:List Str)++(["_law_cell","_law_mix","_law_whole","_law_sign","_law_line","_law_ends","_law_row","_law_edited","_law_name","_law_lines","_law_node","_law_folder","_law_store","_law_texts","_law_wrong"]:List Str)
noncomputable def posOf:Stmt→Pos
 |.FunctionDef _ _ _ _ _ _ _ _ _ p=>p
 |_=>⟨0,0,0,0⟩
noncomputable def lawRec:DefRec:=⟨"law",defArgs (top 40),defBody (top 40),defScope (top 40),posOf (top 40)⟩
noncomputable def vw:Program:={PySem.Challenge.pw_strata_k51_files with main:={PySem.Challenge.pw_strata_k51_files.main with body:=[top 40]}}
open PySem.W PySem.W.X in
theorem hl:LeftO PySem.Challenge.pw_strata_k51_files vw lo (fun s=>xlAt vw [] s&&recOk (RowW.records (OpenRow.toRowW PySem.Challenge.rw_strata_k51_files.row)) s) (obsZ ads) (valZ kk 308 576) 4426:=by intro w;kernel_rfl
noncomputable def scB (ps:List Str)(st:Stmt):Bool:=decide ((defScope st).kind=.function∧(defScope st).isCoroutine=false∧(defScope st).isGenerator=false∧(ps++localsOf (defScope st) ps).Nodup∧(ps++localsOf (defScope st) ps).take ps.length=ps∧(∀x∈ps,(defScope st).names.lookup x=some .local∨(defScope st).names.lookup x=some .cell)∧∀y∈(defScope st).names,y.2≠.free)
theorem scOf {ps:List Str}{st:Stmt}(h:scB ps st=true):FnScope (ps++localsOf (defScope st) ps) ps (defScope st):=
 have⟨a,b,c,d,e,f,g⟩:=of_decide_eq_true h
 ⟨a,b,c,d,e,f,g⟩
structure FF (x q:Str)(st:Stmt)(f cd:Addr)(pm:Value)(ps:List Str):Prop where
 l:∀P,(kk P).lookup f=some (fo x q st pm cd)
 c:∀P,(PySem.W.codeIn (kk P) (.ref cd) q&&PySem.W.keepIn (kk P) (.ref f))=true
 s:scB ps st=true
 d:defParts st=some (ps,defBody st,defScope st)
 b:∀(kV doc pm:Value) (an:Option Addr) (cdv ct:Value) (us:List Value),us.length=ps.length→bindArgs (PySem.W.fnOf x q (defArgs st) (defBody st) (defScope st) .none kV doc pm an cdv ct) ⟨us,[]⟩=pure (ps.zip us)
section
variable {x q:Str}{st:Stmt}{f cd:Addr}{pm:Value}{ps:List Str}{P:Params}{mg:Str→Option Value}{h:Heap}
theorem FF.fn (F:FF x q st f cd pm ps)(P:Params):Fun (kk P) x q st f (PySem.W.fnOf x q (defArgs st) (defBody st) (defScope st) .none .none .none pm none (.ref cd) .none):=fun_mk (F.l P) (ax0 (F.c P)).1 (ax0 (F.c P)).2
theorem mkD {d:Def}(F:FF x x st f cd pm ps)(X:(kk P).In h)(G:h.Ns mainGlobals mg)(a:PySem.W.nsIn (kk P) mainGlobals x=some (some (.ref f)))(c:cDef env.fns env.cst d.lent st (some env.c) env.vms env.xcs=some d)(e:d.lent.length=ps.length):DefZ (kk P) mg env.fns env.cst (some env.c) env.vms env.xcs x d:=
 ⟨⟨st,f,_,ps,F.fn P,PySem.W.mg_of X G a,(F.fn P).binds F.b,scOf F.s,F.d,c,e⟩⟩
theorem mkM {d:DefM}(F:FF x x st f cd pm ps)(X:(kk P).In h)(G:h.Ns mainGlobals mg)(a:PySem.W.nsIn (kk P) mainGlobals x=some (some (.ref f)))(c:cDefM env d.lent st=some d)(e:d.lent.length=ps.length):DefZm (kk P) mg env x d:=
 ⟨⟨st,f,_,ps,F.fn P,PySem.W.mg_of X G a,(F.fn P).binds F.b,scOf F.s,F.d,c,e⟩⟩
theorem mkT (F:FF x q st f cd pm ps)(a:PySem.W.findIn (kk P) (.ref cV) x=some (some (.ref f)))(n:PySem.W.isFn (kk P) (.ref f)=true):Meth (kk P) cV x f:=⟨a,n,(ax0 (F.c P)).2⟩
theorem mkV {d:Def}(F:FF x (vname x) st f cd pm ps)(T:Meth (kk P) cV x f)(n:x≠"objects"∧x≠"numbers")(c:cDef env.fns env.cst d.lent st (some env.c) env.vms env.xcs=some d)(e:d.lent.length=ps.length):MetZ (kk P) env.fns env.cst env.c env.vms env.xcs x d:=
 ⟨n,⟨st,f,_,ps,F.fn P,T,(F.fn P).binds F.b,scOf F.s,F.d,c,e⟩⟩
theorem mkW {d:DefM}(C:Cls (kk P) cV)(F:FF x q st f cd pm ps)(T:Meth (kk P) cV x f)(n:x≠"objects"∧x≠"numbers")(c:cDefM env d.lent st=some d)(e:d.lent.length=ps.length)(e':d.lent.headD false=false):MetZm (kk P) env x d:=
 ⟨n,e',⟨st,f,_,ps,q,F.fn P,C,T,(F.fn P).binds F.b,scOf F.s,F.d,c,e⟩⟩
end
theorem F8:FF "is_name_sign" "is_name_sign" (top 8) 77 76 m0 ["sign"]:=⟨fun _=>by kernel_rfl,fun _=>by kernel_rfl,by kernel_rfl,rfl,fun _ _ _ _ _ _=>len1 fun _=>rfl⟩
theorem F9:FF "is_name" "is_name" (top 9) 82 81 m0 ["text"]:=⟨fun _=>by kernel_rfl,fun _=>by kernel_rfl,by kernel_rfl,rfl,fun _ _ _ _ _ _=>len1 fun _=>rfl⟩
theorem F10:FF "names_rise" "names_rise" (top 10) 87 86 m0 ["names"]:=⟨fun _=>by kernel_rfl,fun _=>by kernel_rfl,by kernel_rfl,rfl,fun _ _ _ _ _ _=>len1 fun _=>rfl⟩
theorem F11:FF "joined" "joined" (top 11) 94 93 m0 ["path","name"]:=⟨fun _=>by kernel_rfl,fun _=>by kernel_rfl,by kernel_rfl,rfl,fun _ _ _ _ _ _=>len2 fun _ _=>rfl⟩
theorem F16:FF "text_of" "text_of" (top 16) 176 175 m1 ["vault","number"]:=⟨fun _=>by kernel_rfl,fun _=>by kernel_rfl,by kernel_rfl,rfl,fun _ _ _ _ _ _=>len2 fun _ _=>rfl⟩
theorem F25:FF "_law_cell" "_law_cell" (top 25) 216 215 m2 ["_law_script","_law_k"]:=⟨fun _=>by kernel_rfl,fun _=>by kernel_rfl,by kernel_rfl,rfl,fun _ _ _ _ _ _=>len2 fun _ _=>rfl⟩
theorem F26:FF "_law_mix" "_law_mix" (top 26) 223 222 m2 ["_law_script","_law_k"]:=⟨fun _=>by kernel_rfl,fun _=>by kernel_rfl,by kernel_rfl,rfl,fun _ _ _ _ _ _=>len2 fun _ _=>rfl⟩
theorem F27:FF "_law_whole" "_law_whole" (top 27) 230 229 m2 ["_law_found"]:=⟨fun _=>by kernel_rfl,fun _=>by kernel_rfl,by kernel_rfl,rfl,fun _ _ _ _ _ _=>len1 fun _=>rfl⟩
theorem F28:FF "_law_sign" "_law_sign" (top 28) 237 236 m2 ["_law_number"]:=⟨fun _=>by kernel_rfl,fun _=>by kernel_rfl,by kernel_rfl,rfl,fun _ _ _ _ _ _=>len1 fun _=>rfl⟩
theorem F29:FF "_law_line" "_law_line" (top 29) 244 243 m2 ["_law_script","_law_k"]:=⟨fun _=>by kernel_rfl,fun _=>by kernel_rfl,by kernel_rfl,rfl,fun _ _ _ _ _ _=>len2 fun _ _=>rfl⟩
theorem F30:FF "_law_ends" "_law_ends" (top 30) 249 248 m2 ["_law_row_here","_law_cut"]:=⟨fun _=>by kernel_rfl,fun _=>by kernel_rfl,by kernel_rfl,rfl,fun _ _ _ _ _ _=>len2 fun _ _=>rfl⟩
theorem F31:FF "_law_row" "_law_row" (top 31) 254 253 m2 ["_law_script","_law_base","_law_many"]:=⟨fun _=>by kernel_rfl,fun _=>by kernel_rfl,by kernel_rfl,rfl,fun _ _ _ _ _ _=>len3 fun _ _ _=>rfl⟩
theorem F33:FF "_law_name" "_law_name" (top 33) 266 265 m2 ["_law_script","_law_k"]:=⟨fun _=>by kernel_rfl,fun _=>by kernel_rfl,by kernel_rfl,rfl,fun _ _ _ _ _ _=>len2 fun _ _=>rfl⟩
theorem F35:FF "_law_node" "_law_node" (top 35) 278 277 m2 ["_law_script","_law_k","_law_deep"]:=⟨fun _=>by kernel_rfl,fun _=>by kernel_rfl,by kernel_rfl,rfl,fun _ _ _ _ _ _=>len3 fun _ _ _=>rfl⟩
theorem F36:FF "_law_folder" "_law_folder" (top 36) 283 282 m2 ["_law_script","_law_k","_law_deep"]:=⟨fun _=>by kernel_rfl,fun _=>by kernel_rfl,by kernel_rfl,rfl,fun _ _ _ _ _ _=>len3 fun _ _ _=>rfl⟩
theorem F38:FF "_law_texts" "_law_texts" (top 38) 295 294 m2 ["_law_path","_law_node_here"]:=⟨fun _=>by kernel_rfl,fun _=>by kernel_rfl,by kernel_rfl,rfl,fun _ _ _ _ _ _=>len2 fun _ _=>rfl⟩
theorem F14:FF "blob" "blob" (top 14) 164 163 m1 ["vault","text"]:=⟨fun _=>by kernel_rfl,fun _=>by kernel_rfl,by kernel_rfl,rfl,fun _ _ _ _ _ _=>len2 fun _ _=>rfl⟩
theorem F15:FF "tree" "tree" (top 15) 169 168 m1 ["vault","entries"]:=⟨fun _=>by kernel_rfl,fun _=>by kernel_rfl,by kernel_rfl,rfl,fun _ _ _ _ _ _=>len2 fun _ _=>rfl⟩
theorem F17:FF "entries_of" "entries_of" (top 17) 183 182 m1 ["vault","number"]:=⟨fun _=>by kernel_rfl,fun _=>by kernel_rfl,by kernel_rfl,rfl,fun _ _ _ _ _ _=>len2 fun _ _=>rfl⟩
theorem F18:FF "refuse_wrong_names" "refuse_wrong_names" (top 18) 190 189 m1 ["names"]:=⟨fun _=>by kernel_rfl,fun _=>by kernel_rfl,by kernel_rfl,rfl,fun _ _ _ _ _ _=>len1 fun _=>rfl⟩
theorem F21:FF "files" "files" (top 21) 197 196 m3 ["vault","top","path"]:=⟨fun _=>by kernel_rfl,fun _=>by kernel_rfl,by kernel_rfl,rfl,fun _ _ _ _ _ _=>len3 fun _ _ _=>rfl⟩
theorem F22:FF "names_of" "names_of" (top 22) 202 201 m3 ["path"]:=⟨fun _=>by kernel_rfl,fun _=>by kernel_rfl,by kernel_rfl,rfl,fun _ _ _ _ _ _=>len1 fun _=>rfl⟩
theorem F23:FF "blobs_below" "blobs_below" (top 23) 209 208 m3 ["vault","top","path"]:=⟨fun _=>by kernel_rfl,fun _=>by kernel_rfl,by kernel_rfl,rfl,fun _ _ _ _ _ _=>len3 fun _ _ _=>rfl⟩
theorem F37:FF "_law_store" "_law_store" (top 37) 288 287 m2 ["_law_vault","_law_node_here"]:=⟨fun _=>by kernel_rfl,fun _=>by kernel_rfl,by kernel_rfl,rfl,fun _ _ _ _ _ _=>len2 fun _ _=>rfl⟩
theorem F39:FF "_law_wrong" "_law_wrong" (top 39) 302 301 m2 ["_law_vault","_law_number"]:=⟨fun _=>by kernel_rfl,fun _=>by kernel_rfl,by kernel_rfl,rfl,fun _ _ _ _ _ _=>len2 fun _ _=>rfl⟩
theorem F40:FF "law" "law" (top 40) 307 306 m2 ["_law_script"]:=⟨fun _=>by kernel_rfl,fun _=>by kernel_rfl,by kernel_rfl,rfl,fun _ _ _ _ _ _=>len1 fun _=>rfl⟩
theorem Fm0:FF "__init__" "Vault.__init__" (met 0) 108 107 m1 ["self"]:=⟨fun _=>by kernel_rfl,fun _=>by kernel_rfl,by kernel_rfl,rfl,fun _ _ _ _ _ _=>len1 fun _=>rfl⟩
theorem Fm5:FF "put" "Vault.put" (met 5) 143 142 m1 ["self","made"]:=⟨fun _=>by kernel_rfl,fun _=>by kernel_rfl,by kernel_rfl,rfl,fun _ _ _ _ _ _=>len2 fun _ _=>rfl⟩
theorem Fm1:FF "size" "Vault.size" (met 1) 115 114 m1 ["self"]:=⟨fun _=>by kernel_rfl,fun _=>by kernel_rfl,by kernel_rfl,rfl,fun _ _ _ _ _ _=>len1 fun _=>rfl⟩
theorem Fm2:FF "kind" "Vault.kind" (met 2) 122 121 m1 ["self","number"]:=⟨fun _=>by kernel_rfl,fun _=>by kernel_rfl,by kernel_rfl,rfl,fun _ _ _ _ _ _=>len2 fun _ _=>rfl⟩
theorem Fm3:FF "held" "Vault.held" (met 3) 129 128 m1 ["self","number"]:=⟨fun _=>by kernel_rfl,fun _=>by kernel_rfl,by kernel_rfl,rfl,fun _ _ _ _ _ _=>len2 fun _ _=>rfl⟩
theorem Fm4:FF "content" "Vault.content" (met 4) 136 135 m1 ["self","number","wanted"]:=⟨fun _=>by kernel_rfl,fun _=>by kernel_rfl,by kernel_rfl,rfl,fun _ _ _ _ _ _=>len3 fun _ _ _=>rfl⟩
noncomputable abbrev dn (k:Nat):Fs:=den (prog) gam k
noncomputable abbrev dm (k:Nat):FsM:=denM psi0 (prog) (progM) gam cV k
theorem hCell (k:Nat):TX.HCell (dn (k+1)):=has_of (d:=TX.d_l_cell) rfl fun ns j=>by rw[run_eq rfl];exact TX.cell_run ns j
theorem hMix (k:Nat):TX.HMix (dn (k+2)):=has_of (d:=TX.d_l_mix) rfl fun ns j=>by rw[run_eq rfl];exact TX.mix_run (hCell k) ns j
theorem hSign (k:Nat):TX.HSign (dn (k+1)):=has_of (d:=TX.d_l_sign) rfl fun n=>by rw[run_eq rfl];exact TX.sign_run n
theorem hLine (k:Nat):TX.HLine (dn (k+3)):=has_of (d:=TX.d_l_line) rfl fun ns j=>by rw[run_eq rfl];exact TX.line_run (hMix k) (hSign (k+1)) ns j
theorem hRow (k:Nat):TX.HRow (dn (k+4)):=has_of (d:=TX.d_l_row) rfl fun ns b n h1 h2=>by rw[run_eq rfl];exact TX.row_run (hLine k) ns b n h1 h2
theorem hEnds (k:Nat):TX.HEnds (dn (k+1)):=has_of (d:=TX.d_l_ends) rfl fun row b h1 h2=>by rw[run_eq rfl];exact TX.ends_run row b h1 h2
theorem hWhole (k:Nat):TX.HWhole (dn (k+1)):=has_of (d:=TX.d_l_whole) rfl fun i=>by rw[run_eq rfl];exact TX.whole_run i
theorem hName (k:Nat):TX.HName (dn (k+3)):=has_of (d:=TX.d_l_name) rfl fun ns j=>by rw[run_eq rfl];exact TX.name_run (hMix k) ns j
theorem hNode0 (k:Nat):TX.HNode (dn (k+5)) 0:=has_of (d:=TX.d_l_node) rfl fun ns j=>by rw[run_eq rfl];exact TX.node_run (hMix (k+2)) (hRow k) (hEnds (k+3)) 0 (fun z=>absurd z (Nat.lt_irrefl _)) ns j
theorem hFold1 (k:Nat):TX.HFold (dn (k+6)) 1:=has_of (d:=TX.d_l_folder) rfl fun ns j=>by rw[run_eq rfl];exact TX.folder_run (hMix (k+3)) (hName (k+2)) 0 (hNode0 k) ns j
theorem hNode1 (k:Nat):TX.HNode (dn (k+7)) 1:=has_of (d:=TX.d_l_node) rfl fun ns j=>by rw[run_eq rfl];exact TX.node_run (hMix (k+4)) (hRow (k+2)) (hEnds (k+5)) 1 (fun _=>(hFold1 k)) ns j
theorem hFold2 (k:Nat):TX.HFold (dn (k+8)) 2:=has_of (d:=TX.d_l_folder) rfl fun ns j=>by rw[run_eq rfl];exact TX.folder_run (hMix (k+5)) (hName (k+4)) 1 (hNode1 k) ns j
theorem hNode2 (k:Nat):TX.HNode (dn (k+9)) 2:=has_of (d:=TX.d_l_node) rfl fun ns j=>by rw[run_eq rfl];exact TX.node_run (hMix (k+6)) (hRow (k+4)) (hEnds (k+7)) 2 (fun _=>(hFold2 k)) ns j
theorem hFold3 (k:Nat):TX.HFold (dn (k+10)) 3:=has_of (d:=TX.d_l_folder) rfl fun ns j=>by rw[run_eq rfl];exact TX.folder_run (hMix (k+7)) (hName (k+6)) 2 (hNode2 k) ns j
theorem hTexts1 (k:Nat):TX.HTexts (dn (k+1)) 1:=has_of (d:=TX.d_l_texts) rfl fun p es h1 h2 h3=>by rw[run_eq rfl];exact TX.texts_run (fun z=>absurd z (Nat.lt_irrefl _)) p es h1 h2 h3
theorem hTexts2 (k:Nat):TX.HTexts (dn (k+2)) 2:=has_of (d:=TX.d_l_texts) rfl fun p es h1 h2 h3=>by rw[run_eq rfl];exact TX.texts_run (fun _=>(hTexts1 k)) p es h1 h2 h3
theorem hTexts3 (k:Nat):TX.HTexts (dn (k+3)) 3:=has_of (d:=TX.d_l_texts) rfl fun p es h1 h2 h3=>by rw[run_eq rfl];exact TX.texts_run (fun _=>(hTexts2 k)) p es h1 h2 h3
theorem hTexts4 (k:Nat):TX.HTexts (dn (k+4)) 4:=has_of (d:=TX.d_l_texts) rfl fun p es h1 h2 h3=>by rw[run_eq rfl];exact TX.texts_run (fun _=>(hTexts3 k)) p es h1 h2 h3
theorem hSignOk (k:Nat):TX.HSignOk (dn (k+1)):=has_of (d:=TX.d_is_name_sign) rfl fun c=>by rw[run_eq rfl];exact TX.sign_ok_run c
theorem hIsName (k:Nat):TX.HIsName (dn (k+2)):=has_of (d:=TX.d_is_name) rfl fun x h=>by rw[run_eq rfl];exact TX.is_name_run (hSignOk k) rfl x h
theorem hRise3 (k:Nat):TX.HRise3 (dn (k+1)):=has_of (d:=TX.d_names_rise) rfl fun xs h1 h2=>by rw[run_eq rfl];exact TX.rise_run3 xs h1 h2
theorem hJoined (k:Nat):TX.HJoined (dn (k+1)):=has_of (d:=TX.d_joined) rfl fun p x h1 h2=>by rw[run_eq rfl];exact TX.joined_run p x h1 h2
theorem hSize (k:Nat):TX.HSize (dn (k+1)) cV:=has_of (d:=(TX.d_v_size cV)) rfl fun h os=>by rw[run_eq rfl];exact TX.size_run h os
theorem hHeld (k:Nat):TX.HHeld (dn (k+1)) cV:=has_of (d:=(TX.d_v_held cV)) rfl fun h os n d hd=>by rw[run_eq rfl];exact TX.held_run h os n d hd
theorem hKind (k:Nat):TX.HKind (dn (k+2)) cV:=has_of (d:=(TX.d_v_kind cV)) rfl fun h os n kk ds hd=>by rw[run_eq rfl];exact TX.kind_run (hHeld k) h os n kk ds hd
theorem hContent (k:Nat):TX.HContent (dn (k+2)) cV:=has_of (d:=(TX.d_v_content cV)) rfl fun h os n kk d hd=>by rw[run_eq rfl];exact TX.content_run (hHeld k) h os n kk d hd
theorem hTextOf (k:Nat):TX.HTextOf (dn (k+3)) cV:=has_of (d:=(TX.d_text_of cV)) rfl fun os j t hd=>by rw[run_eq rfl];exact TX.text_of_run (hContent k) os j t hd
theorem hBlobN (k:Nat):TX.HBlobN (dm (k+1)):=hasM_of (d:=TX.d_blob) rfl rfl fun os x hz=>by rw[run_eqM rfl];exact TX.blob_runN (put_den k) os x hz
theorem hRef3 (k:Nat):TX.HRef3 (dm (k+3)):=hasM_of (d:=(TX.d_refuse_wrong_names cBT)) rfl rfl fun U xs h1 h2 h3=>by rw[run_eqM rfl];exact TX.refuse_run3 (hIsName k) (hRise3 (k+1)) U xs h1 h2 h3
theorem hTreeN (k:Nat):TX.HTreeN (dm (k+4)):=hasM_of (d:=(TX.d_tree cV cBT)) rfl rfl fun os ps h1 h2 h3 h4 h5=>by rw[run_eqM rfl];exact TX.tree_runN (hRef3 k) (hKind (k+1)) (put_den _) os ps h1 h2 h3 h4 h5
theorem hStore0 (k:Nat):TX.HStore (dm (k+5)) 0:=hasM_of (d:=TX.d_l_store) rfl rfl fun os n h1 h2=>by rw[run_eqM rfl];exact TX.store_run (hBlobN (k+3)) (hTreeN k) 0 (fun j z=>by cases z) os n h1 h2
theorem hStore1 (k:Nat):TX.HStore (dm (k+6)) 1:=hasM_of (d:=TX.d_l_store) rfl rfl fun os n h1 h2=>by rw[run_eqM rfl];exact TX.store_run (hBlobN (k+4)) (hTreeN (k+1)) 1 (fun j z=>by cases z;exact (hStore0 k)) os n h1 h2
theorem hStore2 (k:Nat):TX.HStore (dm (k+7)) 2:=hasM_of (d:=TX.d_l_store) rfl rfl fun os n h1 h2=>by rw[run_eqM rfl];exact TX.store_run (hBlobN (k+5)) (hTreeN (k+2)) 2 (fun j z=>by cases z;exact (hStore1 k)) os n h1 h2
theorem hStore3 (k:Nat):TX.HStore (dm (k+8)) 3:=hasM_of (d:=TX.d_l_store) rfl rfl fun os n h1 h2=>by rw[run_eqM rfl];exact TX.store_run (hBlobN (k+6)) (hTreeN (k+3)) 3 (fun j z=>by cases z;exact (hStore2 k)) os n h1 h2
theorem hStore4 (k:Nat):TX.HStore (dm (k+9)) 4:=hasM_of (d:=TX.d_l_store) rfl rfl fun os n h1 h2=>by rw[run_eqM rfl];exact TX.store_run (hBlobN (k+7)) (hTreeN (k+4)) 4 (fun j z=>by cases z;exact (hStore3 k)) os n h1 h2
theorem hHeldM (k:Nat):TX.HHeldM (dm (k+1)) cNO:=hasM_of (d:=(TX.d_vm_held cV cNO)) rfl rfl ⟨fun os i d hd=>by rw[run_eqM rfl];exact TX.held_runM os i d hd,fun os i hd=>by rw[run_eqM rfl];exact TX.held_runX os i hd⟩
theorem hContM (k:Nat):TX.HContM (dm (k+2)) cNO:=hasM_of (d:=(TX.d_vm_content cNO)) rfl rfl ⟨fun os i kk d hd=>by rw[run_eqM rfl];exact (TX.cont_runM (hHeldM k)).1 os i kk d hd,fun os i kk k' d h1 h2 h3=>by rw[run_eqM rfl];exact (TX.cont_runM (hHeldM k)).2.1 os i kk k' d h1 h2 h3,fun os i kk hd=>by rw[run_eqM rfl];exact (TX.cont_runM (hHeldM k)).2.2 os i kk hd⟩
theorem hEntM (k:Nat):TX.HEntM (dm (k+3)) cNO:=hasM_of (d:=TX.d_entries_ofM) rfl rfl ⟨fun os i ps hd=>by rw[run_eqM rfl];exact (TX.ent_runM (hContM k)).1 os i ps hd,fun os i t hd=>by rw[run_eqM rfl];exact (TX.ent_runM (hContM k)).2.1 os i t hd,fun os i hd=>by rw[run_eqM rfl];exact (TX.ent_runM (hContM k)).2.2 os i hd⟩
theorem hNamesOf (k:Nat):TX.HNamesOf (dm (k+3)):=hasM_of (d:=(TX.d_names_of cNP)) rfl rfl fun U xs hp=>by rw[run_eqM rfl];exact TX.names_of_run (hIsName k) rfl U xs hp
theorem hBelow1 (k:Nat):TX.HBelow (dm (k+4)) 1:=hasM_of (d:=(TX.d_blobs_below cV)) rfl rfl fun os i p es h1 h2 h3 h4=>by rw[run_eqM rfl];exact TX.bb_run (hJoined (k+2)) (hKind (k+1)) (hEntM k) (fun z=>absurd z (Nat.lt_irrefl _)) os i p es h1 h2 h3 h4
theorem hBelow2 (k:Nat):TX.HBelow (dm (k+5)) 2:=hasM_of (d:=(TX.d_blobs_below cV)) rfl rfl fun os i p es h1 h2 h3 h4=>by rw[run_eqM rfl];exact TX.bb_run (hJoined (k+3)) (hKind (k+2)) (hEntM (k+1)) (fun _=>(hBelow1 k)) os i p es h1 h2 h3 h4
theorem hBelow3 (k:Nat):TX.HBelow (dm (k+6)) 3:=hasM_of (d:=(TX.d_blobs_below cV)) rfl rfl fun os i p es h1 h2 h3 h4=>by rw[run_eqM rfl];exact TX.bb_run (hJoined (k+4)) (hKind (k+3)) (hEntM (k+2)) (fun _=>(hBelow2 k)) os i p es h1 h2 h3 h4
theorem hBelow4 (k:Nat):TX.HBelow (dm (k+7)) 4:=hasM_of (d:=(TX.d_blobs_below cV)) rfl rfl fun os i p es h1 h2 h3 h4=>by rw[run_eqM rfl];exact TX.bb_run (hJoined (k+5)) (hKind (k+4)) (hEntM (k+3)) (fun _=>(hBelow3 k)) os i p es h1 h2 h3 h4
theorem hBelowX (k:Nat):TX.HBelowX (dm (k+4)) cNO:=hasM_of (d:=(TX.d_blobs_below cV)) rfl rfl ⟨fun os i t p hd=>by rw[run_eqM rfl];exact (TX.bb_runX (hEntM k)).1 os i t p hd,fun os i p hd=>by rw[run_eqM rfl];exact (TX.bb_runX (hEntM k)).2 os i p hd⟩
theorem hFiles (k:Nat):TX.HFiles (dm (k+8)) cNO:=hasM_of (d:=TX.d_files) rfl rfl ⟨fun os i xs es h1 h2 h3 h4=>by rw[run_eqM rfl];exact (TX.files_run (hNamesOf (k+4)) (hBelow4 k) (hBelowX (k+3))).1 os i xs es h1 h2 h3 h4,fun os i t hd=>by rw[run_eqM rfl];exact (TX.files_run (hNamesOf (k+4)) (hBelow4 k) (hBelowX (k+3))).2.1 os i t hd,fun os i hd=>by rw[run_eqM rfl];exact (TX.files_run (hNamesOf (k+4)) (hBelow4 k) (hBelowX (k+3))).2.2 os i hd⟩
theorem hWrong (k:Nat):TX.HWrong (dm (k+9)):=hasM_of (d:=(TX.d_l_wrong cNO cBT cNP)) rfl rfl fun os i hb=>by rw[run_eqM rfl];exact TX.wrong_run (hFiles k) os i hb
theorem holds (ns:List Int)(hl:ns.length≤63):∃U,TX.ansM (dn 37) (dm 37) gam cV (TX.d_law_k51 cV) [] [.scr ns]=some (U,.ok (.bool true)):=TX.law_k51_run (hMix 35) (hFold3 27) (hName 34) (hTexts4 33) (hTextOf 34) (hWhole 36) (hSize 36) (hBlobN 36) (hStore4 28) (hFiles 29) (hWrong 28) ns
set_option maxHeartbeats 0 in
theorem all_mk {w:World}{h:Heap}{mg:Str→Option Value}{fa:Addr}(P:Params)(X:(kk P).In h)(G:h.Ns mainGlobals mg)(hfa:mg "law"=some (.ref fa)):
  ∃fd:FuncData,(∀(s:Shared) (v:Value),BindsTo s fd ⟨[v],[]⟩ [("_law_script",v)])∧∀base:Heap,(kk P).In base→base.Ns mainGlobals mg→FnOk PySem.Challenge.pw_strata_k51_files w (kk P) mg base CX0 40 fa fd ["_law_script"] (spLawM (kk P)):=by
 have e:=hfa.symm.trans (PySem.W.mg_of X G (by kernel_rfl:PySem.W.nsIn (kk P) mainGlobals "law"=some (some (.ref 307))))
 cases e
 have cls:Cls (kk P) cV:=⟨(by kernel_rfl),(by kernel_rfl),(by kernel_rfl),(by kernel_rfl)⟩
 have v5:PySem.W.findIn (kk P) (.ref cV) "objects"=some none:=by kernel_rfl
 have v6:PySem.W.findIn (kk P) (.ref cV) "numbers"=some none:=by kernel_rfl
 have T0:=mkT (P:=P) Fm0 (by kernel_rfl) (by kernel_rfl)
 have T5:=mkT (P:=P) Fm5 (by kernel_rfl) (by kernel_rfl)
 have T1:=mkT (P:=P) Fm1 (by kernel_rfl) (by kernel_rfl)
 have T2:=mkT (P:=P) Fm2 (by kernel_rfl) (by kernel_rfl)
 have T3:=mkT (P:=P) Fm3 (by kernel_rfl) (by kernel_rfl)
 have T4:=mkT (P:=P) Fm4 (by kernel_rfl) (by kernel_rfl)
 have defs:∀x d,env.fns.contains x=true→prog.lookup x=some d→DefZ (kk P) mg env.fns env.cst (some env.c) env.vms env.xcs x d:=fun x d hx hl=>allA_at (Q:=fun x d=>env.fns.contains x=true→DefZ (kk P) mg env.fns env.cst (some env.c) env.vms env.xcs x d) (prog:=prog) ⟨fun _=>mkD F8 X G (by kernel_rfl) (by kernel_rfl) rfl,fun _=>mkD F9 X G (by kernel_rfl) (by kernel_rfl) rfl,fun _=>mkD F10 X G (by kernel_rfl) (by kernel_rfl) rfl,fun _=>mkD F11 X G (by kernel_rfl) (by kernel_rfl) rfl,fun _=>mkD F16 X G (by kernel_rfl) (by kernel_rfl) rfl,fun _=>mkD F25 X G (by kernel_rfl) (by kernel_rfl) rfl,fun _=>mkD F26 X G (by kernel_rfl) (by kernel_rfl) rfl,fun _=>mkD F27 X G (by kernel_rfl) (by kernel_rfl) rfl,fun _=>mkD F28 X G (by kernel_rfl) (by kernel_rfl) rfl,fun _=>mkD F29 X G (by kernel_rfl) (by kernel_rfl) rfl,fun _=>mkD F30 X G (by kernel_rfl) (by kernel_rfl) rfl,fun _=>mkD F31 X G (by kernel_rfl) (by kernel_rfl) rfl,fun _=>mkD F33 X G (by kernel_rfl) (by kernel_rfl) rfl,fun _=>mkD F35 X G (by kernel_rfl) (by kernel_rfl) rfl,fun _=>mkD F36 X G (by kernel_rfl) (by kernel_rfl) rfl,fun _=>mkD F38 X G (by kernel_rfl) (by kernel_rfl) rfl,fun z=>absurd (Eq.trans (by kernel_rfl:false=env.fns.contains (vname "size")) z) fx0,fun z=>absurd (Eq.trans (by kernel_rfl:false=env.fns.contains (vname "kind")) z) fx0,fun z=>absurd (Eq.trans (by kernel_rfl:false=env.fns.contains (vname "held")) z) fx0,fun z=>absurd (Eq.trans (by kernel_rfl:false=env.fns.contains (vname "content")) z) fx0,trivial⟩ x d hl hx
 have mets:∀c m d,some env.c=some c→env.vms.contains m=true→prog.lookup (vname m)=some d→MetZ (kk P) env.fns env.cst c env.vms env.xcs m d:=fun c m d hc hm hl=>by
  cases hc
  exact allA_at (Q:=fun x d=>∀m,x=vname m→env.vms.contains m=true→MetZ (kk P) env.fns env.cst env.c env.vms env.xcs m d) (prog:=prog) ⟨fun m z hm=>(not_v (by kernel_rfl) z hm).elim,fun m z hm=>(not_v (by kernel_rfl) z hm).elim,fun m z hm=>(not_v (by kernel_rfl) z hm).elim,fun m z hm=>(not_v (by kernel_rfl) z hm).elim,fun m z hm=>(not_v (by kernel_rfl) z hm).elim,fun m z hm=>(not_v (by kernel_rfl) z hm).elim,fun m z hm=>(not_v (by kernel_rfl) z hm).elim,fun m z hm=>(not_v (by kernel_rfl) z hm).elim,fun m z hm=>(not_v (by kernel_rfl) z hm).elim,fun m z hm=>(not_v (by kernel_rfl) z hm).elim,fun m z hm=>(not_v (by kernel_rfl) z hm).elim,fun m z hm=>(not_v (by kernel_rfl) z hm).elim,fun m z hm=>(not_v (by kernel_rfl) z hm).elim,fun m z hm=>(not_v (by kernel_rfl) z hm).elim,fun m z hm=>(not_v (by kernel_rfl) z hm).elim,fun m z hm=>(not_v (by kernel_rfl) z hm).elim,fun m z _=>vname_inj z▸mkV Fm1 T1 ⟨by decide,by decide⟩ (by kernel_rfl) rfl,fun m z _=>vname_inj z▸mkV Fm2 T2 ⟨by decide,by decide⟩ (by kernel_rfl) rfl,fun m z _=>vname_inj z▸mkV Fm3 T3 ⟨by decide,by decide⟩ (by kernel_rfl) rfl,fun m z _=>vname_inj z▸mkV Fm4 T4 ⟨by decide,by decide⟩ (by kernel_rfl) rfl,trivial⟩ _ d hl m rfl hm
 have defm:∀x d,env.mfs.contains x=true→progM.lookup x=some d→DefZm (kk P) mg env x d:=fun x d hx hl=>allA_at (Q:=fun x d=>env.mfs.contains x=true→DefZm (kk P) mg env x d) (prog:=progM) ⟨fun _=>mkM F14 X G (by kernel_rfl) (by kernel_rfl) rfl,fun _=>mkM F15 X G (by kernel_rfl) (by kernel_rfl) rfl,fun _=>mkM F17 X G (by kernel_rfl) (by kernel_rfl) rfl,fun _=>mkM F18 X G (by kernel_rfl) (by kernel_rfl) rfl,fun _=>mkM F21 X G (by kernel_rfl) (by kernel_rfl) rfl,fun _=>mkM F22 X G (by kernel_rfl) (by kernel_rfl) rfl,fun _=>mkM F23 X G (by kernel_rfl) (by kernel_rfl) rfl,fun _=>mkM F37 X G (by kernel_rfl) (by kernel_rfl) rfl,fun _=>mkM F39 X G (by kernel_rfl) (by kernel_rfl) rfl,fun _=>mkM F40 X G (by kernel_rfl) (by kernel_rfl) rfl,fun z=>absurd (Eq.trans (by kernel_rfl:false=env.mfs.contains (vname "held")) z) fx0,fun z=>absurd (Eq.trans (by kernel_rfl:false=env.mfs.contains (vname "content")) z) fx0,trivial⟩ x d hl hx
 have metm:∀m d,env.mms.contains m=true→progM.lookup (vname m)=some d→MetZm (kk P) env m d:=fun m d hm hl=>allA_at (Q:=fun x d=>∀m,x=vname m→env.mms.contains m=true→MetZm (kk P) env m d) (prog:=progM) ⟨fun m z hm=>(not_v (by kernel_rfl) z hm).elim,fun m z hm=>(not_v (by kernel_rfl) z hm).elim,fun m z hm=>(not_v (by kernel_rfl) z hm).elim,fun m z hm=>(not_v (by kernel_rfl) z hm).elim,fun m z hm=>(not_v (by kernel_rfl) z hm).elim,fun m z hm=>(not_v (by kernel_rfl) z hm).elim,fun m z hm=>(not_v (by kernel_rfl) z hm).elim,fun m z hm=>(not_v (by kernel_rfl) z hm).elim,fun m z hm=>(not_v (by kernel_rfl) z hm).elim,fun m z hm=>(not_v (by kernel_rfl) z hm).elim,fun m z _=>vname_inj z▸mkW cls Fm3 T3 ⟨by decide,by decide⟩ (by kernel_rfl) rfl rfl,fun m z _=>vname_inj z▸mkW cls Fm4 T4 ⟨by decide,by decide⟩ (by kernel_rfl) rfl rfl,trivial⟩ _ d hl m rfl hm
 have blt:∀x∈bltNames,mg x=none:=allN_at (xs:=bltNames) ⟨PySem.W.mg_none_of X G (by kernel_rfl),PySem.W.mg_none_of X G (by kernel_rfl),PySem.W.mg_none_of X G (by kernel_rfl),PySem.W.mg_none_of X G (by kernel_rfl),PySem.W.mg_none_of X G (by kernel_rfl),PySem.W.mg_none_of X G (by kernel_rfl),PySem.W.mg_none_of X G (by kernel_rfl),PySem.W.mg_none_of X G (by kernel_rfl),PySem.W.mg_none_of X G (by kernel_rfl),PySem.W.mg_none_of X G (by kernel_rfl),PySem.W.mg_none_of X G (by kernel_rfl),PySem.W.mg_none_of X G (by kernel_rfl),PySem.W.mg_none_of X G (by kernel_rfl),PySem.W.mg_none_of X G (by kernel_rfl),PySem.W.mg_none_of X G (by kernel_rfl),PySem.W.mg_none_of X G (by kernel_rfl),PySem.W.mg_none_of X G (by kernel_rfl),trivial⟩
 have gl:∀x d,gam.lookup x=some d→∃u v,mg x=some u∧RelV v u∧∀G,Dp (kk P) G d v:=allG_at (prog:=gam) ⟨⟨.int 12 264,.int 12,PySem.W.mg_of X G (by kernel_rfl),⟨_,rfl⟩,fun _=>.int _⟩,⟨.int 20 412,.int 20,PySem.W.mg_of X G (by kernel_rfl),⟨_,rfl⟩,fun _=>.int _⟩,trivial⟩
 have INoObject:PySem.W.ExcI (kk P) cNO:=⟨(by kernel_rfl),(by kernel_rfl),(by kernel_rfl),(by kernel_rfl),(by kernel_rfl),(by kernel_rfl)⟩
 have IBadTree:PySem.W.ExcI (kk P) cBT:=⟨(by kernel_rfl),(by kernel_rfl),(by kernel_rfl),(by kernel_rfl),(by kernel_rfl),(by kernel_rfl)⟩
 have INoPath:PySem.W.ExcI (kk P) cNP:=⟨(by kernel_rfl),(by kernel_rfl),(by kernel_rfl),(by kernel_rfl),(by kernel_rfl),(by kernel_rfl)⟩
 have yStrataError:PySem.W.excIn (kk P) cSE veMro "ValueError.__new__"=true:=by kernel_rfl
 have yNoObject:PySem.W.excIn (kk P) cNO veMro "ValueError.__new__"=true:=by kernel_rfl
 have yBadTree:PySem.W.excIn (kk P) cBT veMro "ValueError.__new__"=true:=by kernel_rfl
 have yNoPath:PySem.W.excIn (kk P) cNP veMro "ValueError.__new__"=true:=by kernel_rfl
 have xc:∀t c tab,env.xcs.lookup t=some (c,tab)→XcZ (kk P) mg t c tab:=fun t c tab hl=>allA_at (Q:=fun t (p:Nat×List (Nat×Bool))=>XcZ (kk P) mg t p.1 p.2) (prog:=env.xcs) ⟨⟨PySem.W.mg_of X G (by kernel_rfl),(by kernel_rfl),fun e b hq=>(lookup3 hq).elim (fun z=>by obtain⟨z1,z2⟩:=z;subst z1 z2;exact⟨INoObject,(by kernel_rfl)⟩) fun z=>z.elim (fun z=>by obtain⟨z1,z2⟩:=z;subst z1 z2;exact⟨IBadTree,(by kernel_rfl)⟩) (fun z=>by obtain⟨z1,z2⟩:=z;subst z1 z2;exact⟨INoPath,(by kernel_rfl)⟩)⟩,⟨PySem.W.mg_of X G (by kernel_rfl),(by kernel_rfl),fun e b hq=>(lookup3 hq).elim (fun z=>by obtain⟨z1,z2⟩:=z;subst z1 z2;exact⟨INoObject,kit_self _⟩) fun z=>z.elim (fun z=>by obtain⟨z1,z2⟩:=z;subst z1 z2;exact⟨IBadTree,(by kernel_rfl)⟩) (fun z=>by obtain⟨z1,z2⟩:=z;subst z1 z2;exact⟨INoPath,(by kernel_rfl)⟩)⟩,⟨PySem.W.mg_of X G (by kernel_rfl),(by kernel_rfl),fun e b hq=>(lookup3 hq).elim (fun z=>by obtain⟨z1,z2⟩:=z;subst z1 z2;exact⟨INoObject,(by kernel_rfl)⟩) fun z=>z.elim (fun z=>by obtain⟨z1,z2⟩:=z;subst z1 z2;exact⟨IBadTree,kit_self _⟩) (fun z=>by obtain⟨z1,z2⟩:=z;subst z1 z2;exact⟨INoPath,(by kernel_rfl)⟩)⟩,⟨PySem.W.mg_of X G (by kernel_rfl),(by kernel_rfl),fun e b hq=>(lookup3 hq).elim (fun z=>by obtain⟨z1,z2⟩:=z;subst z1 z2;exact⟨INoObject,(by kernel_rfl)⟩) fun z=>z.elim (fun z=>by obtain⟨z1,z2⟩:=z;subst z1 z2;exact⟨IBadTree,(by kernel_rfl)⟩) (fun z=>by obtain⟨z1,z2⟩:=z;subst z1 z2;exact⟨INoPath,kit_self _⟩)⟩,trivial⟩ t (c,tab) hl
 have tr:∀t x tab,env.xcs.lookup t=some (x,tab)→∀e,tab.lookup e=some true→∃newId newIdT,PySem.W.excIn (kk P) e veMro newId=true∧PySem.W.excIn (kk P) x veMro newIdT=true∧belowK (kk P) e x=true:=fun t x tab hl=>allA_at (Q:=fun t (p:Nat×List (Nat×Bool))=>∀e,p.2.lookup e=some true→∃newId newIdT,PySem.W.excIn (kk P) e veMro newId=true∧PySem.W.excIn (kk P) p.1 veMro newIdT=true∧belowK (kk P) e p.1=true) (prog:=env.xcs) ⟨fun e hq=>(lookup3 hq).elim (fun z=>by obtain⟨z1,z2⟩:=z;subst z1;exact⟨_,_,yNoObject,yStrataError,(by kernel_rfl)⟩) fun z=>z.elim (fun z=>by obtain⟨z1,z2⟩:=z;subst z1;exact⟨_,_,yBadTree,yStrataError,(by kernel_rfl)⟩) (fun z=>by obtain⟨z1,z2⟩:=z;subst z1;exact⟨_,_,yNoPath,yStrataError,(by kernel_rfl)⟩),fun e hq=>(lookup3 hq).elim (fun z=>by obtain⟨z1,z2⟩:=z;subst z1;exact⟨_,_,yNoObject,yNoObject,(by kernel_rfl)⟩) fun z=>z.elim (fun z=>by cases z.2) (fun z=>by cases z.2),fun e hq=>(lookup3 hq).elim (fun z=>by cases z.2) fun z=>z.elim (fun z=>by obtain⟨z1,z2⟩:=z;subst z1;exact⟨_,_,yBadTree,yBadTree,(by kernel_rfl)⟩) (fun z=>by cases z.2),fun e hq=>(lookup3 hq).elim (fun z=>by cases z.2) fun z=>z.elim (fun z=>by cases z.2) (fun z=>by obtain⟨z1,z2⟩:=z;subst z1;exact⟨_,_,yNoPath,yNoPath,(by kernel_rfl)⟩),trivial⟩ t (x,tab) hl
 have B:Base (kk P) mg gam (some env.c) env.xcs:=⟨blt,gl,fun c hc=>by cases hc;exact⟨cls,v5⟩,xc⟩
 refine⟨PySem.W.fnOf "law" "law" (defArgs (top 40)) (defBody (top 40)) (defScope (top 40)) .none .none .none m2 none (.ref 306) .none,fun s v=>.of_eq rfl,fun base _ _=>?_⟩
 have VZ:VaultZ PySem.Challenge.pw_strata_k51_files w (kk P) mg base cV "Vault":=⟨⟨_,_,⟨(by kernel_rfl),T0.1,T0.2,(by kernel_rfl)⟩,PySem.W.mg_of X G (by kernel_rfl),by decide,(Fm0.fn P).binds Fm0.b,init_ok (Fm0.fn P) (scOf Fm0.s) ti cls v5 v6⟩⟩
 have BM:BaseM PySem.Challenge.pw_strata_k51_files w (kk P) mg base psi0 env:=⟨fun X e1 e2 e3 e4 e5 r g ρ U p pos=>evM_new (by rw[e1,e2,e3,e4,e5];exact VZ) r g,fun m φ h=>by
   obtain⟨h1,rfl⟩:=psi0_is h
   obtain rfl:=vname_inj h1
   exact⟨⟨⟨_,_,_,cls,T5,(Fm5.fn P).binds Fm5.b,put_ok (Fm5.fn P) (scOf Fm5.s) tp (PySem.W.mg_none_of X G (by kernel_rfl)) cls v5 v6⟩⟩,rfl,by decide,by decide⟩,
  fun x hx=>if_neg fun z=>by
   subst z
   exact absurd (Eq.trans (by kernel_rfl:false=env.mfs.contains (vname "put")) hx) fx0,
  fun t x hl=>allA_at (Q:=fun t x=>mg t=some (.ref x)∧∃newId initId,ExcBaseFacts "ValueError" newId initId veMro∧PySem.W.excIn (kk P) x veMro newId=true) (prog:=env.xks) ⟨⟨PySem.W.mg_of X G (by kernel_rfl),_,_,PySem.F.excBase_ValueError,yBadTree⟩,⟨PySem.W.mg_of X G (by kernel_rfl),_,_,PySem.F.excBase_ValueError,yNoObject⟩,⟨PySem.W.mg_of X G (by kernel_rfl),_,_,PySem.F.excBase_ValueError,yNoPath⟩,trivial⟩ t x hl,tr⟩
 have M:=modM_ok (P:=PySem.Challenge.pw_strata_k51_files) (w:=w) (base:=base) (Γ:=gam) (prog:=prog) (progM:=progM) B BM defs mets defm metm 37
 exact lawM_ok (fnM_ok (F40.fn P) (scOf F40.s) F40.d (by kernel_rfl:cDefM env [true] (top 40)=some (TX.d_law_k51 cV)) rfl M) rfl fun ns hl=>by
  obtain⟨U,hU⟩:=holds ns hl
  exact⟨U,by rw[run_eqM rfl];exact hU⟩
end K51
open PySem PySem.W PySem.W.X PyProof.Rows K51
set_option maxRecDepth 100000 in
set_option maxHeartbeats 0 in
theorem PySem.Challenge.cw_strata_k51_files_holds : PySem.Challenge.rw_strata_k51_files.Holds := by
 w_on
 refine PySem.W.holds_law (by decide +kernel) fun said=>?_
 refine PySem.W.holds_openX (q:=vw) (loose:=lo) (Xt:=fun s=>xlAt vw [] s&&recOk (RowW.records (OpenRow.toRowW PySem.Challenge.rw_strata_k51_files.row)) s) (XP:=XL vw []) (Yf:=obsZ ads) (Ya:=valZ kk 308 576) (d:=lawRec) (kwd:=[]) (N:=4426) hl (fun s e=>xl_of s (ax0 e).1) XL.keeps (by kernel_rfl) (by kernel_rfl) (by kernel_rfl) (fun s e=>recFacts_of (ax0 e).2) (by rfl) said (by decide +kernel) ⟨rfl,rfl,rfl,rfl,rfl,by decide +kernel⟩ ?hw ?hc
 case hw=>w_witness2
 case hc=>exact L2.Z.walkX (fun P=>by kernel_rfl) (L2.Z.walkM (l:=PySem.Challenge.rw_strata_k51_files) rfl rfl (fun w h Y=>Y) fun w mg fa h KX G hmg=>K51.all_mk w.params KX G hmg)

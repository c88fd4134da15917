import PyProof.Rows.All
import Wide.All
import OpenK.AllK
import Wide.FinOn
import PySem.Challenge.RW_strata_k11_refused
set_option tactic.hygienic false
set_option genSizeOf false
set_option compiler.extract_closed false
set_option Elab.async false
set_option linter.all false
set_option maxRecDepth 100000
noncomputable section
theorem bx0 {α β:Type}{f:α->Option β}{b:β}{x:Option α}:x.bind f=some b->∃a,x=some a/\f a=some b:=Option.bind_eq_some_iff.1
theorem mx0 {α β:Type}{f:α->β}{b:β}{x:Option α}:x.map f=some b->∃a,x=some a/\f a=b:=Option.map_eq_some_iff.1
theorem ax0 {a b:Bool}:(a&&b)=true->a=true/\b=true:=Bool.and_eq_true_iff.1
theorem fx0:false≠true:=Bool.false_ne_true
theorem mm0 {α β:Type}{f:α->β}{l:List α}{b:β}:b∈l.map f->∃a,a∈l/\f a=b:=List.mem_map.1
theorem ma0 {α:Type}{a:α}{s t:List α}:a∈s++t->a∈s\/a∈t:=List.mem_append.1
theorem mq0 {α:Type}{a b:α}{l:List α}:a∈b::l->a=b\/a∈l:=List.mem_cons.1
abbrev bs0:=@Option.bind_some
abbrev mc0:=@List.mem_cons_of_mem
abbrev ps0:=@PySem.Heap.get?_push_of_some
abbrev ms0:=@List.mem_cons_self
abbrev lm0:=@List.length_map
abbrev ls0:=@List.size_toArray
abbrev ge0:=@List.getElem?_eq_getElem
abbrev hs0:=@PySem.Heap.lt_size
abbrev nr0:=@Nat.le_refl
abbrev nl0:=@Nat.lt_of_lt_of_le
abbrev pz0:=@PySem.Heap.get?_push_size
abbrev lc0:=@List.length_cons
abbrev nt0:=@Nat.le_trans
abbrev gn0:=@List.getElem?_set_ne
abbrev nn0:=@Nat.ne_of_lt
abbrev be0:=@Bool.and_eq_true
abbrev df0:=@decide_eq_false
abbrev dt0:=@decide_eq_true
abbrev od0:=@of_decide_eq_true
abbrev gm0:=@List.getElem?_map
abbrev lk0:=@List.lookup_cons
abbrev mo0:=@Option.map_some
abbrev mk0:=@List.map_cons
abbrev li0:=@Nat.lt_irrefl
abbrev al0:=@Array.length_toList
abbrev la0:=@List.length_append
abbrev mr0:=@List.mem_append_right
abbrev gs0:=@List.getElem?_set_self
abbrev mg0:=@List.mem_of_getElem?
abbrev gl0:=@List.getElem?_append_left
abbrev el0:=@Int.emod_lt_of_pos
abbrev en0:=@Int.emod_nonneg
abbrev lr0:=@List.length_range
namespace L2
open PySem PySem.Spec PyProof.Rows
abbrev Key:=Sum Int Str
noncomputable def Bt:Key->Value->Bool
 |.inl k,v=>Value.isInt k v
 |.inr x,v=>Value.isStrOf x v
noncomputable def Iw (w:World):Key->Int
 |.inl k=>hashInt k
 |.inr x=>hashStr w x
theorem keyIs_shape:∀{k:Key} {v:Value},Bt k v=true->(∃i t,k=Sum.inl i/\v=Value.int i t)\/(∃x t,k=Sum.inr x/\v=Value.str x t)
 |.inl i,v,h=>by
  obtain⟨t,e⟩:=Value.isInt_shape h;exact .inl ⟨i,t,rfl,e⟩
 |.inr x,v,h=>by
  obtain⟨t,e⟩:=Value.isStrOf_shape h;exact .inr ⟨x,t,rfl,e⟩
theorem CB (a b:Int):decide ((Sum.inl a:Key)=Sum.inl b)=(a==b):=by
 by_cases e:a=b<;>simp_all
theorem CC (a b:Str):decide ((Sum.inr a:Key)=Sum.inr b)=decide (a=b):=by
 simp
theorem CD (a:Int)(b:Str):decide ((Sum.inl a:Key)=Sum.inr b)=false:=df0 (fun q=>nomatch q)
theorem CF (a:Str)(b:Int):decide ((Sum.inr a:Key)=Sum.inl b)=false:=df0 (fun q=>nomatch q)
noncomputable def km (prog:Program)(w:World):PySem.KeyKind prog w Key where
 is:=Bt
 hash:=Iw w
 inj:=fun v a b ha hb=>by
  rcases keyIs_shape ha with⟨i,t,rfl,rfl⟩|⟨x,t,rfl,rfl⟩
  ·rcases keyIs_shape hb with⟨j,u,rfl,e⟩|⟨y,u,rfl,e⟩
   ·injection e with e1 _;rw[e1]
   ·exact nomatch e
  ·rcases keyIs_shape hb with⟨j,u,rfl,e⟩|⟨y,u,rfl,e⟩
   ·exact nomatch e
   ·injection e with e1 _;rw[e1]
 byValue:=fun k v h=>by
  rcases keyIs_shape h with⟨i,t,rfl,rfl⟩|⟨x,t,rfl,rfl⟩<;>rfl
 pyHash:=fun hv h=>by
  rcases keyIs_shape hv with⟨i,t,rfl,rfl⟩|⟨x,t,rfl,rfl⟩
  ·exact wpAny_pyHash_int h
  ·exact wpAny_pyHash_str h
 eqBool:=fun hu hv h=>by
  rcases keyIs_shape hu with⟨i,t,rfl,rfl⟩|⟨x,t,rfl,rfl⟩
  ·rcases keyIs_shape hv with⟨j,u,rfl,rfl⟩|⟨y,u,rfl,rfl⟩
   ·rw[CB] at h;exact wpAny_eqBool_int h
   ·rw[CD] at h;exact SeqAt.EqAt.int_str i t y u _ _ _ _ h
  ·rcases keyIs_shape hv with⟨j,u,rfl,rfl⟩|⟨y,u,rfl,rfl⟩
   ·rw[CF] at h;exact SeqAt.EqAt.str_int x t j u _ _ _ _ h
   ·rw[CC] at h;exact wpAny_eqBool_str h
 «strs»:=fun k x t v h=>by
  rcases keyIs_shape h with⟨i,u,rfl,e⟩|⟨y,u,rfl,e⟩
  ·exact nomatch e
  ·injection e with e1 _
   subst e1;cases v<;>rfl
inductive V where
 |non|bl (b:Bool)|int (i:Int)|str (x:Str)|byt (b:Array UInt8)|flt (b:UInt64)|ref (a:Addr)|ty (n:String)
 deriving DecidableEq
def RelV:V->Value->Prop
 |.non,u=>u=Value.none
 |.bl b,u=>u=Value.bool b
 |.int i,u=>∃t,u=Value.int i t
 |.str x,u=>∃t,u=Value.str x t
 |.byt b,u=>∃t,u=Value.bytes b t
 |.flt b,u=>∃t,u=Value.float b t
 |.ref a,u=>u=Value.ref a
 |.ty n,u=>u=Value.type n
abbrev Vals:List V->List Value->Prop:=Paired RelV
theorem Vals.length {xs:List V}{us:List Value}(r:Vals xs us):xs.length=us.length:=Paired.length r
theorem Vals.get:∀{xs:List V} {us:List Value} {i:Nat} {x:V},Vals xs us->xs[i]?=some x->∃u,us[i]?=some u/\RelV x u
 |_,_,_,_,.nil,e=>by simp at e
 |_,_,0,_,.cons r _,e=>by simp at e;subst e;exact⟨_,rfl,r⟩
 |_,_,i+1,x,.cons _ t,e=>by
  obtain⟨u,h1,h2⟩:=Vals.get t (by simpa using e);exact⟨u,by simpa using h1,h2⟩
theorem Vals.set {x:V}{u:Value}(r:RelV x u):∀{xs:List V} {us:List Value} (i:Nat),Vals xs us->Vals (xs.set i x) (us.set i u)
 |_,_,_,.nil=>.nil
 |_,_,0,.cons _ t=>.cons r t
 |_,_,i+1,.cons q t=>.cons q (Vals.set r i t)
theorem Vals.append:∀{xs ys:List V} {us ws:List Value},Vals xs us->Vals ys ws->Vals (xs++ys) (us++ws)
 |_,_,_,_,.nil,s=>s
 |_,_,_,_,.cons r t,s=>.cons r (Vals.append t s)
theorem Vals.take:∀{xs:List V} {us:List Value} (n:Nat),Vals xs us->Vals (xs.take n) (us.take n)
 |_,_,0,_=>.nil
 |_,_,_+1,.nil=>.nil
 |_,_,n+1,.cons r t=>.cons r (Vals.take n t)
theorem Vals.drop:∀{xs:List V} {us:List Value} (n:Nat),Vals xs us->Vals (xs.drop n) (us.drop n)
 |_,_,0,r=>r
 |_,_,_+1,.nil=>.nil
 |_,_,n+1,.cons _ t=>Vals.drop n t
theorem Vals.none_of:∀{xs:List V} {us:List Value} {i:Nat},Vals xs us->xs[i]?=none->us[i]?=none:=fun {xs us i} r e=>by
 have h1:=r.length;have h2:xs.length≤i:=List.getElem?_eq_none_iff.mp e;exact List.getElem?_eq_none_iff.mpr (by omega)
def RelO:Option V->Option Value->Prop
 |some v,some u=>RelV v u
 |none,none=>True
 |_,_=>False
def KV {κ:Type}:List (κ×V)->List (κ×Value)->Prop:=Paired fun (p:κ×V) (q:κ×Value)=>p.1=q.1/\RelV p.2 q.2
noncomputable def kV:Key->V
 |.inl i=>.int i
 |.inr x=>.str x
inductive HO where
 |lst (xs:List V)
 |tup (xs:List V)
 |dK (kvs:List (Key×V))|dT (kvs:List (List Key×V))
 |set (S:Int->Bool) (n:Nat)
 |ins (C dx:Addr) (fs:List (Str×V))
 |own (x:Addr)
 |xd (fs:List (Str×V))
 |met (f x:Addr)
 |rng (lo hi:Int)
 |frz (o:Obj) (u:HO)
 |tbl (ps:Array Value)
 |ext (φ:Heap->Prop)
abbrev Hp:=Addr->Option HO
def upd (H:Hp)(a:Addr)(o:HO):Hp:=fun b=>if b=a then some o else H b
theorem ae {H:Hp}{a:Addr}{o:HO}:upd H a o a=some o:=by unfold upd;simp
theorem aa {H:Hp}{a b:Addr}{o:HO}(h:b≠a):upd H a o b=H b:=by unfold upd;rw[if_neg h]
theorem aq {H:Hp}{a b:Addr}{o:HO}(h:H a=some o)(h':H b=none):a≠b:=by
 intro e;simp_all
section
variable (P:Program)(w:World)
def ObjOk (H:Hp)(h:Heap)(a:Addr):HO->Prop
 |.lst xs=>xs.length≤sizeLine/\∃(its:List Value) (n:Nat),Vals xs its/\h.get? a=some {cls:=.type "list",data:=.seq its.toArray n}
 |.tup xs=>xs.length≤sizeLine/\∃its:List Value,Vals xs its/\IsTup h a its.toArray
 |.dK kvs=>kvs.length≤sizeLine/\(a==sysModules)=false/\∃vs,KV kvs vs/\h.DictOf (km P w) a vs
 |.dT kvs=>kvs.length≤sizeLine/\(a==sysModules)=false/\∃xs:List (List Key×Addr×Value),
   Paired (fun (p:List Key×V) (q:List Key×Addr×Value)=>p.1=q.1/\H q.2.1=some (.tup (p.1.map kV))/\RelV p.2 q.2.2) kvs xs/\
   ∃o es ep,h.get? a=some o/\o.ExactDict/\o.data=.dict es ep/\es.toList=xs.map (entryOfKey (tupleKind (km P w)))/\(xs.map (·.1)).Nodup
 |.set S n=>h.SetOf (intKind P w) a S n
 |.ins C dx fs=>H dx=some (.own a)/\fs.length≤1000/\dx≠a/\h.get? a=some (PySem.W.instObj C dx)/\
   ∃mA,h.Ns1 dx mA/\(∀f,RelO (fs.lookup f) (mA f))/\PySem.Within mA (fs.map (·.1))
 |.own _=>∃o,h.get? a=some o
 |.xd fs=>∃mA,h.Ns1 a mA/\∀f,RelO (fs.lookup f) (mA f)
 |.rng lo hi=>∃t u v,h.get? a=some {cls:=.type "range",data:=.fields #[.int lo t,.int hi u,.int 1 v]}
 |.frz o u=>h.get? a=some o/\ObjOk H h a u
 |.tbl ps=>h.get? a=some {cls:=.none,data:=.fields ps}
 |.met f x=>h.get? a=some (PySem.W.methodObj (.ref f) (.ref x))
 |.ext φ=>φ h/\(∃o,h.get? a=some o)/\∀h1 h2:Heap,φ h1->(∀o,h1.get? a=some o->h2.get? a=some o)->φ h2
def HOk (H:Hp)(h:Heap):Prop:=∀a o,H a=some o->ObjOk P w H h a o
end
section
variable {P:Program}{w:World}{H H':Hp}{h h':Heap}{a:Addr}{o:HO}
theorem ObjOk.lt (x:ObjOk P w H h a o):a<h.objs.size:=by
 cases o with
 |lst xs=>obtain⟨_,_,_,_,e⟩:=x;exact hs0 e
 |tup xs=>obtain⟨_,_,_,p⟩:=x;exact p.lt
 |dK kvs=>obtain⟨_,_,_,_,o,_,_,e,_⟩:=x;exact hs0 e
 |dT kvs=>obtain⟨_,_,_,_,o,_,_,e,_⟩:=x;exact hs0 e
 |set S n=>obtain⟨o,_,_,_,e,_⟩:=x;exact hs0 e
 |ins C dx fs=>obtain⟨_,_,_,e,_⟩:=x;exact hs0 e
 |own y=>obtain⟨_,e⟩:=x;exact hs0 e
 |xd fs=>obtain⟨_,⟨_,_,_,e,_⟩,_⟩:=x;exact hs0 e
 |rng lo hi=>obtain⟨_,_,_,e⟩:=x;exact hs0 e
 |frz ob u=>obtain⟨e,_⟩:=x;exact hs0 e
 |tbl ps=>exact hs0 (x)
 |met f y=>exact hs0 (x)
 |ext φ=>obtain⟨_,⟨_,e⟩,_⟩:=x;exact hs0 e
theorem Paired.mapP {α β:Type}{F G:α->β->Prop}:∀{l₁:List α} {l₂:List β},Paired F l₁ l₂->(∀a b,F a b->G a b)->Paired G l₁ l₂
 |_,_,.nil,_=>.nil
 |_,_,.cons r t,f=>.cons (f _ _ r) (Paired.mapP t f)
theorem ObjOk.stay (x:ObjOk P w H h a o)(k:∀b u,(b=a\/H b=some (.own a))->h.get? b=some u->h'.get? b=some u)
  (ho:∀b,H b=some (.own a)->H' b=some (.own a)) (ht:∀b xs,H b=some (.tup xs)->H' b=some (.tup xs)):ObjOk P w H' h' a o:=by
 induction o with
 |lst xs=>obtain⟨z,its,n,r,e⟩:=x;exact⟨z,its,n,r,k _ _ (.inl rfl) e⟩
 |tup xs=>obtain⟨z,its,r,ob,e,c⟩:=x;exact⟨z,its,r,ob,k _ _ (.inl rfl) e,c⟩
 |dK kvs=>obtain⟨z,y,vs,r,ob,es,ep,e,c⟩:=x;exact⟨z,y,vs,r,ob,es,ep,k _ _ (.inl rfl) e,c⟩
 |dT kvs=>
  obtain⟨z,y,xs,r,ob,es,ep,e,c⟩:=x;exact⟨z,y,xs,Paired.mapP r fun p q z=>⟨z.1,ht _ _ z.2.1,z.2.2⟩,ob,es,ep,k _ _ (.inl rfl) e,c⟩
 |set S n=>obtain⟨ob,es,ep,t,e,c⟩:=x;exact⟨ob,es,ep,t,k _ _ (.inl rfl) e,c⟩
 |ins C dx fs=>
  obtain⟨d,z,ne,e,mA,⟨od,es,ep,e2,c⟩,r⟩:=x;exact⟨ho _ d,z,ne,k _ _ (.inl rfl) e,mA,⟨od,es,ep,k _ _ (.inr d) e2,c⟩,r⟩
 |own y=>obtain⟨ob,e⟩:=x;exact⟨ob,k _ _ (.inl rfl) e⟩
 |xd fs=>obtain⟨mA,⟨od,es,ep,e,c⟩,r⟩:=x;exact⟨mA,⟨od,es,ep,k _ _ (.inl rfl) e,c⟩,r⟩
 |rng lo hi=>obtain⟨t,u,v,e⟩:=x;exact⟨t,u,v,k _ _ (.inl rfl) e⟩
 |frz ob u ih=>obtain⟨e,q⟩:=x;exact⟨k _ _ (.inl rfl) e,ih q⟩
 |tbl ps=>
  have e:=x;exact k a _ (.inl rfl) e
 |met f y=>
  have e:=x;exact k a _ (.inl rfl) e
 |ext φ=>obtain⟨p,⟨o,e⟩,st⟩:=x;exact⟨st _ _ p fun o q=>k _ _ (.inl rfl) q,⟨o,k _ _ (.inl rfl) e⟩,st⟩
theorem HOk.lt (x:HOk P w H h)(e:H a=some o):a<h.objs.size:=(x a o e).lt
theorem HOk.fresh (x:HOk P w H h)(e:h.objs.size≤a):H a=none:=by
 cases q:H a with
 |none=>rfl
 |some u=>exact absurd (nl0 (x.lt q) e) (li0 _)
theorem HOk.kept (x:HOk P w H h)(k:∀b u,h.get? b=some u->h'.get? b=some u):HOk P w H h':=fun a o e=>
 (x a o e).stay (fun b u c q=>k b u q) (fun c q=>q) fun c c q=>q
theorem HOk.laid (x:HOk P w H h)(k:∀b u,h.get? b=some u->h'.get? b=some u)(hp:h.objs.size≤a)(new:ObjOk P w (upd H a o) h' a o):HOk P w (upd H a o) h':=fun b u e=>by
 have hn:=x.fresh hp
 by_cases hb:b=a
 ·subst hb;rw[ae] at e;simp_all
 ·rw[aa hb] at e
  exact (x b u e).stay (fun c v d q=>k c v q) (fun c q=>by rwa [aa (aq q hn)]) fun c xs q=>by rwa [aa (aq q hn)]
end
def Rd (H:Hp)(a:Addr)(u:HO):Prop:=H a=some u\/∃o,H a=some (.frz o u)
theorem Rd.ok {P:Program}{w:World}{H:Hp}{h:Heap}{a:Addr}{u:HO}(r:Rd H a u)(x:HOk P w H h):ObjOk P w H h a u:=by
 rcases r with r|⟨o,r⟩
 ·exact x a u r
 ·obtain⟨_,q⟩:=x a _ r
  exact q
def Mut:Option HO->Prop
 |some (.lst _)=>True
 |some (.dK _)=>True
 |some (.dT _)=>True
 |some (.set _ _)=>True
 |some (.ins _ _ _)=>True
 |some (.ext _)=>True
 |_=>False
section
variable {P:Program}{w:World}{H:Hp}{h h':Heap}{x e:Addr}{o':HO}
theorem HOk.write (ok:HOk P w H h)(mu:Mut (H x))(he:e=x\/H e=some (.own x))(k:∀b u,b≠e->h.get? b=some u->h'.get? b=some u)(heo:∃u,h'.get? e=some u)
  (new:ObjOk P w (upd H x o') h' x o'):HOk P w (upd H x o') h':=fun b u q=>by
 have nown:∀c y,H c=some (.own y)->c≠x:=fun c y r z=>by subst z;rw[r] at mu;exact mu
 have ntup:∀c xs,H c=some (.tup xs)->c≠x:=fun c xs r z=>by subst z;rw[r] at mu;exact mu
 by_cases hb:b=x
 ·subst hb;rw[ae] at q;simp_all
 ·rw[aa hb] at q
  by_cases hbe:b=e
  ·have q':H b=some (.own x):=by
    rcases he with z|z
    ·exact absurd (hbe.trans z) hb
    ·rw[hbe];exact z
   rw[q] at q';cases q';obtain⟨v,hv⟩:=heo;exact⟨v,by rwa [hbe]⟩
  ·refine (ok b u q).stay (fun c v hc r=>k c v ?_ r) (fun c r=>by rw[aa (nown c b r)];exact r) fun c xs r=>by rw[aa (ntup c xs r)];exact r
   grind
end
structure Un (fs ex:List Addr)(H H':Hp)(h h':Heap):Prop where
 keep:∀b o,h.get? b=some o->H b=none->b∉fs->b∉ex->h'.get? b=some o
 slot:∀b o,h.get? b=some o->H b=none->b∈fs->b∉ex->∃sl,h'.get? b=some {o with slots:=sl}
 free:∀b o,h.get? b=some o->H b=none->b∉ex->H' b=none
 there:∀b o,h.get? b=some o->b∉ex->∃o',h'.get? b=some o'
 tups:∀b xs,H b=some (.tup xs)->H' b=some (.tup xs)
 frzs:∀b o u,H b=some (.frz o u)->H' b=some (.frz o u)
 tbls:∀b ps,H b=some (.tbl ps)->∃more,H' b=some (.tbl (ps++more))
section
variable {fs fs' ex ex':List Addr}{H H1 H2:Hp}{h h1 h2 h':Heap}{a x e:Addr}{o:HO}
theorem Un.any (u:Un fs ex H H1 h h1){b:Addr}{ob:Obj}(q:h.get? b=some ob)(n:H b=none)(hx:b∉ex):∃sl,h1.get? b=some {ob with slots:=sl}:=by
 by_cases hb:b∈fs
 ·exact u.slot b ob q n hb hx
 ·exact⟨_,u.keep b ob q n hb hx⟩
theorem Un.kept (k:∀b u,h.get? b=some u->h'.get? b=some u):Un fs ex H H h h':=
 ⟨fun b ob q a a a=>k b ob q,fun b ob q a a a=>⟨_,k b ob q⟩,fun a a a n a=>n,fun b ob q a=>⟨ob,k b ob q⟩,fun a a q=>q,fun a a a q=>q,fun a ps q=>⟨#[],by simp_all⟩⟩
theorem Un.refl:Un fs ex H H h h:=Un.kept fun a a q=>q
theorem Un.laid (k:∀b u,h.get? b=some u->h'.get? b=some u)(hp:h.objs.size≤a)(hn:H a=none):Un fs ex H (upd H a o) h h' where
 keep:=fun b u q c c c=>k b u q
 slot:=fun b u q c c c=>⟨_,k b u q⟩
 free:=fun b u q n c=>by rwa [aa (nn0 (nl0 (hs0 q) hp))]
 there:=fun b u q c=>⟨u,k b u q⟩
 tups:=fun b xs q=>by rwa [aa (aq q hn)]
 frzs:=fun b u xs q=>by rwa [aa (aq q hn)]
 tbls:=fun b ps q=>⟨#[],by rw[aa (aq q hn),q];simp⟩
theorem Un.write (mu:Mut (H x))(he:e=x\/H e=some (.own x))(k:∀b u,b≠e->h.get? b=some u->h'.get? b=some u)(heo:∃u,h'.get? e=some u):Un fs ex H (upd H x o) h h':=by
 have hx:∀b,H b=none->b≠x:=fun b n z=>by subst z;rwa [n] at mu
 have hb:∀b,H b=none->b≠e:=fun b n z=>by
  simp_all
 have hm:∀b u,H b=some u->¬ Mut (some u)->b≠x:=fun b u q nm z=>by simp_all
 refine⟨fun b u q n a a=>k b u (hb b n) q,fun b u q n a a=>⟨u.slots,k b u (hb b n) q⟩,fun b u q n a=>by rw[aa (hx b n)];exact n,fun b u q a=>?_,
  fun b xs q=>by rw[aa (hm b _ q fun z=>z)];exact q,fun b u xs q=>by rwa [aa (hm b _ q fun z=>z)],fun b ps q=>⟨#[],by rw[aa (hm b _ q fun z=>z),q];simp⟩⟩
 by_cases hbe:b=e
 ·simp_all
 ·exact⟨u,k b u hbe q⟩
end
def trk (h:Heap)(H:Hp):List Addr:=(List.range h.objs.size).filter fun a=>(H a).isSome
noncomputable def kn (h:Heap)(H:Hp):Heap:=PySem.W.hideAll h (trk h H)
theorem rH (h:Heap)(H:Hp):(kn h H).objs.size=h.objs.size:=PySem.W.hideAll_size _ _
theorem uy {h:Heap}{H:Hp}{b:Addr}{o:Obj}(e:h.get? b=some o)(n:H b=none):(kn h H).get? b=some o:=
 PySem.W.hideAll_get _ e fun hm=>by
  have q:=(List.mem_filter.mp hm).2
  simp_all
theorem yV {h:Heap}{H:Hp}{b:Addr}{o:Obj}(e:(kn h H).get? b=some o):h.get? b=some o/\H b=none:=by
 have e':=PySem.W.of_hideAll _ e;refine⟨e',?_⟩;cases q:H b with
 |none=>rfl
 |some x=>
  have hm:b∈trk h H:=List.mem_filter.mpr ⟨List.mem_range.mpr (hs0 e'),by simp[q]⟩;have z:(kn h H).get? b=none:=PySem.W.hideAll_none _ hm
  simp_all
noncomputable def yW (g h:Heap)(L:Addr):List (Addr×Obj):=(List.range h.objs.size).filterMap fun a=>if a=L\/(g.get? a).isSome=true then none else (h.get? a).map fun o=>(a,o)
noncomputable def rest (g h:Heap)(L d:Addr):List (Addr×Obj):=(yW g h L).filter fun p=>decide (p.1≠d)
structure Mod (K:PySem.W.Frag)(mg:Str->Option Value)(base:Heap):Prop where
 kin:K.In base
 glob:base.Ns mainGlobals mg
 blt:∃mb,base.Ns builtinsNs mb/\∀x:Str,x≠"__name__"->mb x=bootBuiltins x
 nolimit:base.NoLimit
structure Cx where
 prog:Program
 w:World
 K:PySem.W.Frag
 mg:Str->Option Value
 base:Heap
 A:Around
 N:List Str
 s₀:Shared
 H₀:Hp
 env:Env
 outer:List Env
 stack:List Env
 ex:List Addr
 fn:Str->Bool
 calm:Bool
 pn:List (Addr×Obj)
 xe:Value->Shared->Prop
def frs (l:List Env):List Addr:=l.filterMap (·.frame)
abbrev Cx.fs (X:Cx):List Addr:=frs X.outer
def Vis (sc:Scope)(x:Str):Prop:=sc.names.lookup x=some .local\/sc.names.lookup x=some .cell\/sc.names.lookup x=some .free
def Loc (sc:Scope)(x:Str):Prop:=sc.names.lookup x=some .local\/sc.names.lookup x=some .cell
def Look (env:Env)(h:Heap)(m:Str->Option Value)(x:Str)(u:Value):Prop:=
 (env.kindOf x=some .local/\m x=some u)\/((env.kindOf x=some .cell\/env.kindOf x=some .free)/\∃c,env.cells.lookup x=some c/\h.IsCell c (some u))
structure Cx.Ok (X:Cx):Prop where
 mod:Mod X.K X.mg X.base
 kind:X.env.scope.kind=.function
 glob:X.env.globals=mainGlobals
 blt:X.env.builtins=builtinsNs
 above:X.s₀.heap.objs.size≤X.env.locals
 inj:∀x y c,X.env.cells.lookup x=some c->X.env.cells.lookup y=some c->x=y
 has:∀x,(X.env.kindOf x=some .cell\/X.env.kindOf x=some .free)->∃c,X.env.cells.lookup x=some c
 cab:∀x c,X.fn x=true->X.env.cells.lookup x=some c->X.s₀.heap.objs.size≤c
 hd:X.calm=true->X.A.handled=none
 frames:X.A.frames=some X.stack
 stk:X.stack=X.outer\/(X.stack=X.env::X.outer/\X.env.frame=some X.env.locals)
 exf:∀b∈X.ex,b≠X.env.locals/\∀x c,X.env.cells.lookup x=some c->c≠b
 bs:∀b o,X.base.get? b=some o->X.s₀.heap.get? b=some o/\X.H₀ b=none
 bsz:X.base.objs.size≤X.s₀.heap.objs.size
 noex:∀b o,X.base.get? b=some o->b∉X.ex
 exfs:∀b∈X.ex,b∉X.fs
 funs:X.s₀.heap.FunFrames X.base X.outer
 frf:∀b∈X.fs,X.H₀ b=none
structure Inv (X:Cx)(pins:List (Addr×Obj))(σ:List (Option V))(H:Hp)(s:Shared):Prop where
 ok:X.Ok
 os:s.os=X.s₀.os
 bare:AllBare s.gens
 base:Un X.fs X.ex X.H₀ H X.s₀.heap s.heap
 loc:∃m,s.heap.Ns X.env.locals m/\∀(i:Nat) (x:Str) (v:V),X.N[i]?=some x->σ[i]?=some (some v)->Vis X.env.scope x->∃u,RelV v u/\Look X.env s.heap m x u
 cell:∀x c,X.env.cells.lookup x=some c->∃v,s.heap.IsCell c v
 free:H X.env.locals=none
 freeC:∀x c,X.env.cells.lookup x=some c->H c=none
 pin:∀p∈X.pn++pins,s.heap.get? p.1=some p.2/\H p.1=none/\p.1≠X.env.locals/\p.1∉X.fs/\∀v,p.2.data≠.cell v
 hok:HOk X.prog X.w H s.heap
 len:σ.length=X.N.length
section
variable {X:Cx}{pins:List (Addr×Obj)}{σ:List (Option V)}{H H':Hp}{s:Shared}{h':Heap}
theorem Cx.Ok.nofr (ok:X.Ok){b:Addr}{o:Obj}(e:X.base.get? b=some o):b∉X.fs:=fun hb=>by
 have:=(ok.funs.mem hb).1
 grind
theorem Inv.bs (I:Inv X pins σ H s):∀b o,X.base.get? b=some o->s.heap.get? b=some o/\H b=none:=fun b o e=>
 ⟨I.base.keep b o (I.ok.bs b o e).1 (I.ok.bs b o e).2 (I.ok.nofr e) (I.ok.noex b o e),I.base.free b o (I.ok.bs b o e).1 (I.ok.bs b o e).2 (I.ok.noex b o e)⟩
theorem Inv.bk (I:Inv X pins σ H s):∀b o,X.base.get? b=some o->s.heap.get? b=some o:=fun b o e=>(I.bs b o e).1
theorem Inv.mod (I:Inv X pins σ H s):Mod X.K X.mg X.base:=I.ok.mod
theorem Inv.kIn (I:Inv X pins σ H s):X.K.In s.heap:=I.ok.mod.kin.keeps I.bk
theorem Inv.lt (I:Inv X pins σ H s):X.env.locals<s.heap.objs.size:=let ⟨_,hn,_⟩:=I.loc;hn.lt
theorem Inv.sz (I:Inv X pins σ H s):X.s₀.heap.objs.size≤s.heap.objs.size:=nt0 I.ok.above (Nat.le_of_lt I.lt)
theorem Inv.nofs (I:Inv X pins σ H s){a:Addr}(h:s.heap.objs.size≤a):a∉X.fs:=fun hb=>by
 obtain⟨_,o,ho,_⟩:=I.ok.funs.mem hb;exact absurd (nl0 (hs0 ho) (nt0 I.sz h)) (li0 _)
theorem Inv.cne (I:Inv X pins σ H s):∀x c,X.env.cells.lookup x=some c->c≠X.env.locals:=fun x c e z=>by
 obtain⟨v,o,ho,hd⟩:=I.cell x c e;obtain⟨m,⟨o',es,ep,ho',hd',_⟩,_⟩:=I.loc<;>grind
theorem Inv.funs (I:Inv X pins σ H s):s.heap.FunFrames X.base X.outer:=by
 have all:∀(l:List _),(∀b∈frs l,b∈X.fs)->X.s₀.heap.FunFrames X.base l->s.heap.FunFrames X.base l:=by
  intro l
  induction l with
  |nil=>intro _ _;trivial
  |cons env r ih=>
   intro hs hl;obtain⟨hk,⟨L,o,hf,hn,ho,hd⟩,hr⟩:=hl;have hL:=hs L (by unfold frs;rw[List.filterMap_cons,hf];exact ms0);obtain⟨sl,e⟩:=I.base.slot L o ho (I.ok.frf L hL) hL fun z=>I.ok.exfs L z hL
   exact⟨hk,⟨L,_,hf,hn,e,hd⟩,ih (fun b hb=>hs b (by unfold frs;rw[List.filterMap_cons,hf];exact mc0 _ hb)) hr⟩
 exact all _ (fun a hb=>hb) I.ok.funs
theorem Inv.stack (I:Inv X pins σ H s):s.heap.FunFrames X.base X.stack:=by
 rcases I.ok.stk with e|⟨e,hf⟩
 ·rw[e];exact I.funs
 ·rw[e]
  obtain⟨m,hn,_⟩:=I.loc;exact .cons (by rw[I.ok.kind];decide) hf hn (Heap.get?_none_of_le (nt0 I.ok.bsz I.ok.above)) I.funs
theorem Inv.stkSub (I:Inv X pins σ H s):∀b∈frs X.stack,b∈X.env.locals::X.fs:=fun b hb=>by
 rcases I.ok.stk with e|⟨e,hf⟩
 ·rw[e] at hb;exact mc0 _ hb
 ·rw[e] at hb
  unfold frs at hb
  rwa [List.filterMap_cons,hf] at hb
theorem Inv.stkFree (I:Inv X pins σ H s):∀b∈frs X.stack,H b=none:=fun b hb=>by
 rcases mq0 (I.stkSub b hb) with e|hb
 ·rw[e];exact I.free
 ·obtain⟨_,o,ho,_⟩:=I.ok.funs.mem hb
  exact I.base.free b o ho (I.ok.frf b hb) fun z=>I.ok.exfs b z hb
theorem Inv.step {g':Array GenState}{t':Nat}{d':Drawn}{ch:List Addr}(I:Inv X pins σ H s)
  (hch:∀b∈ch,(b∈X.ex\/X.s₀.heap.objs.size≤b)/\b≠X.env.locals/\(∀x c,X.env.cells.lookup x=some c->c≠b)/\∀p∈X.pn++pins,p.1≠b)
  (keep:∀b o,b≠X.env.locals->b∉X.fs->b∉ch->s.heap.get? b=some o->H b=none->h'.get? b=some o)
  (slot:∀b o,b≠X.env.locals->b∈X.fs->b∉ch->s.heap.get? b=some o->H b=none->∃sl,h'.get? b=some {o with slots:=sl}) (free:∀b o,b∉ch->s.heap.get? b=some o->H b=none->H' b=none)
  (there:∀b o,b∉ch->s.heap.get? b=some o->∃o',h'.get? b=some o')
  (tups:∀b xs,H b=some (.tup xs)->H' b=some (.tup xs)) (frzs:∀b o u,H b=some (.frz o u)->H' b=some (.frz o u)) (tbls:∀b ps,H b=some (.tbl ps)->∃more,H' b=some (.tbl (ps++more)))
  (ns:∀m,s.heap.Ns X.env.locals m->h'.Ns X.env.locals m) (hok:HOk X.prog X.w H' h') (hg:AllBare g'):
  Inv X pins σ H' {s with heap:=h',gens:=g',drawn:=d',toks:=t'}:=by
 have neL:∀b o,X.s₀.heap.get? b=some o->b≠X.env.locals:=fun b o e=>nn0 (nl0 (hs0 e) I.ok.above)
 have neC:∀b o,X.s₀.heap.get? b=some o->b∉X.ex->b∉ch:=fun b o e hx hb=>by
  rcases (hch b hb).1 with z|z
  ·exact hx z
  ·exact absurd (nl0 (hs0 e) z) (li0 _)
 have cellK:∀x c,X.env.cells.lookup x=some c->∀v,s.heap.IsCell c v->h'.IsCell c v:=fun x c e v ⟨o,ho,hd⟩=>by
  have nch:c∉ch:=fun z=>(hch c z).2.2.1 x c e rfl
  by_cases hc:c∈X.fs
  ·obtain⟨sl,q⟩:=slot c o (I.cne x c e) hc nch ho (I.freeC x c e)
   exact⟨_,q,hd⟩
  ·exact⟨o,keep c o (I.cne x c e) hc nch ho (I.freeC x c e),hd⟩
 refine⟨I.ok,I.os,hg,⟨fun b o e n hb hx=>?_,fun b o e n hb hx=>?_,fun b o e n hx=>?_,fun b o e hx=>?_,fun b xs e=>tups b xs (I.base.tups b xs e),fun b o xs e=>frzs b o xs (I.base.frzs b o xs e),fun b ps e=>?_⟩,?_,fun x c e=>?_,?_,fun x c e=>?_,fun p hp=>?_,hok,I.len⟩
 ·exact keep b o (neL b o e) hb (neC b o e hx) (I.base.keep b o e n hb hx) (I.base.free b o e n hx)
 ·obtain⟨sl,e1⟩:=I.base.slot b o e n hb hx
  obtain⟨sl',e2⟩:=slot b _ (neL b o e) hb (neC b o e hx) e1 (I.base.free b o e n hx);exact⟨sl',e2⟩
 ·obtain⟨o',e1⟩:=I.base.there b o e hx
  exact free b o' (neC b o e hx) e1 (I.base.free b o e n hx)
 ·obtain⟨o',e1⟩:=I.base.there b o e hx
  exact there b o' (neC b o e hx) e1
 ·obtain⟨m1,e1⟩:=I.base.tbls b ps e
  obtain⟨m2,e2⟩:=tbls b _ e1;exact⟨m1++m2,by rw[e2,Array.append_assoc]⟩
 ·obtain⟨m,hn,hl⟩:=I.loc
  refine⟨m,ns m hn,fun i x v e1 e2 e3=>?_⟩;obtain⟨u,r,l⟩:=hl i x v e1 e2 e3;refine⟨u,r,?_⟩;rcases l with l|⟨k,c,e,z⟩
  ·exact .inl l
  ·exact .inr ⟨k,c,e,cellK x c e _ z⟩
 ·obtain⟨v,z⟩:=I.cell x c e
  exact⟨v,cellK x c e v z⟩
 ·obtain⟨m,⟨o,_,_,ho,_⟩,_⟩:=I.loc
  exact free _ o (fun z=>(hch _ z).2.1 rfl) ho I.free
 ·obtain⟨v,o,ho,hd⟩:=I.cell x c e
  exact free c o (fun z=>(hch c z).2.2.1 x c e rfl) ho (I.freeC x c e)
 ·obtain⟨e,n,ne,nf,d⟩:=I.pin p hp
  have nch:p.1∉ch:=fun z=>(hch p.1 z).2.2.2 p hp rfl
  exact⟨keep p.1 p.2 ne nf nch e n,free p.1 p.2 nch e n,ne,nf,d⟩
theorem Inv.un {t':Nat}(I:Inv X pins σ H s)(u:Un X.fs [] H H' s.heap h')(hok:HOk X.prog X.w H' h'):Inv X pins σ H' {s with heap:=h',toks:=t'}:=by
 obtain⟨m,⟨o,es,ep,ho,r⟩,_⟩:=id I.loc;obtain⟨sl,hL⟩:=u.any ho I.free (by simp);exact I.step (ch:=[]) (fun a z=>nomatch z) (fun b o a hb a e n=>u.keep b o e n hb (by simp)) (fun b o a hb a e n=>u.slot b o e n hb (by simp)) (fun b o a e n=>u.free b o e n (by simp)) (fun b o a e=>u.there b o e (by simp)) u.tups u.frzs u.tbls (fun m' hm=>by
  obtain⟨o',es',ep',ho',r'⟩:=hm;rw[ho] at ho';cases ho';exact⟨_,_,_,hL,r'⟩) hok I.bare
theorem Inv.call {g':Array GenState}{t':Nat}{d':Drawn}{ch:List Addr}(I:Inv X pins σ H s)(u:Un (frs X.stack) ch H H' s.heap h')(hok:HOk X.prog X.w H' h')(hg:AllBare g')
  (hch:∀b∈ch,(b∈X.ex\/X.s₀.heap.objs.size≤b)/\b≠X.env.locals/\(∀x c,X.env.cells.lookup x=some c->c≠b)/\∀p∈X.pn++pins,p.1≠b):
  Inv X pins σ H' {s with heap:=h',gens:=g',drawn:=d',toks:=t'}:=by
 obtain⟨m,⟨o,es,ep,ho,r⟩,_⟩:=id I.loc;obtain⟨sl,hL⟩:=u.any ho I.free fun z=>(hch _ z).2.1 rfl
 exact I.step hch (fun b o hL hb hc e n=>u.keep b o e n (fun z=>(mq0 (I.stkSub b z)).elim hL hb) hc) (fun b o a a hc e n=>u.any e n hc) (fun b o hc e n=>u.free b o e n hc) (fun b o hc e=>u.there b o e hc) u.tups u.frzs u.tbls (fun m' hm=>by
  obtain⟨o',es',ep',ho',r'⟩:=hm;rw[ho] at ho';cases ho';exact⟨_,_,_,hL,r'⟩) hok hg
theorem Inv.turned {t':Nat}{it:Addr}(I:Inv X pins σ H s)(k:∀b o,b≠it->s.heap.get? b=some o->h'.get? b=some o)(hn:H it=none)(hL:it≠X.env.locals)
  (h1:it∈X.ex\/X.s₀.heap.objs.size≤it) (h2:∀x c,X.env.cells.lookup x=some c->c≠it) (h3:∀p∈X.pn++pins,p.1≠it):Inv X pins σ H {s with heap:=h',toks:=t'}:=by
 have nit:∀b u,H b=some u->b≠it:=fun b u e z=>by simp_all
 refine I.step (ch:=[it]) (fun b hb=>?_) (fun b o a a hc e a=>k b o (fun z=>hc (by simp[z])) e) (fun b o a a hc e a=>⟨_,k b o (fun z=>hc (by simp[z])) e⟩) (fun a a a a n=>n)
  (fun b o hc e=>⟨o,k b o (fun z=>hc (by simp[z])) e⟩) (fun a a e=>e) (fun a a a e=>e) (fun b ps e=>⟨#[],by simp_all⟩) (fun m hm=>?_) (fun b u e=>?_) I.bare
 ·have e:=by simpa using hb
  subst e;exact⟨h1,hL,h2,h3⟩
 ·obtain⟨o,es,ep,ho,r⟩:=hm
  exact⟨o,es,ep,k _ o (Ne.symm hL) ho,r⟩
 ·refine (I.hok b u e).stay (fun c v hc q=>k c v ?_ q) (fun a q=>q) fun a a q=>q
  rcases hc with z|z
  ·rw[z];exact nit b u e
  ·exact nit c _ z
theorem Inv.tok (I:Inv X pins σ H s)(t:Nat):Inv X pins σ H {s with toks:=t}:=I.un Un.refl I.hok
theorem Inv.kept {t':Nat}(I:Inv X pins σ H s)(k:∀b u,s.heap.get? b=some u->h'.get? b=some u):Inv X pins σ H {s with heap:=h',toks:=t'}:=I.un (Un.kept k) (I.hok.kept k)
theorem Inv.laid {a:Addr}{o:HO}{t':Nat}(I:Inv X pins σ H s)(k:∀b u,s.heap.get? b=some u->h'.get? b=some u)(hp:s.heap.objs.size≤a)(new:ObjOk X.prog X.w (upd H a o) h' a o):
  Inv X pins σ (upd H a o) {s with heap:=h',toks:=t'}:=I.un (Un.laid k hp (I.hok.fresh hp)) (I.hok.laid k hp new)
theorem Inv.write {x e:Addr}{o:HO}{t':Nat}(I:Inv X pins σ H s)(mu:Mut (H x))(he:e=x\/H e=some (.own x))(k:∀b u,b≠e->s.heap.get? b=some u->h'.get? b=some u)(heo:∃u,h'.get? e=some u)
  (new:ObjOk X.prog X.w (upd H x o) h' x o):Inv X pins σ (upd H x o) {s with heap:=h',toks:=t'}:=I.un (Un.write mu he k heo) (I.hok.write mu he k heo new)
theorem Inv.pins_of {pins':List (Addr×Obj)}(I:Inv X pins σ H s)(h:∀p∈pins',s.heap.get? p.1=some p.2/\H p.1=none/\p.1≠X.env.locals/\p.1∉X.fs/\∀v,p.2.data≠.cell v):Inv X pins' σ H s:=
 ⟨I.ok,I.os,I.bare,I.base,I.loc,I.cell,I.free,I.freeC,fun p hp=>(ma0 hp).elim (fun z=>I.pin p (List.mem_append_left _ z)) (h p),I.hok,I.len⟩
theorem hW {N:List Str}(hN:N.Nodup){i j:Nat}{x:Str}(a:N[i]?=some x)(b:N[j]?=some x):i=j:=by
 obtain⟨h1,e1⟩:=List.getElem?_eq_some_iff.mp a;obtain⟨h2,e2⟩:=List.getElem?_eq_some_iff.mp b;exact (List.getElem_inj hN).mp (e1.trans e2.symm)
theorem store_ok2 {M:Model}{A:Around}{E:Value->Shared->Prop}{i:Nat}{x:Str}{v:V}{u:Value}{Q:Unit->Shared->Prop}(I:Inv X pins σ H s)(hN:X.N.Nodup)(hi:X.N[i]?=some x)(hx:Loc X.env.scope x)(r:RelV v u)
  (h:∀s',Inv X pins (σ.set i (some v)) H s'->(∃a,Heap.SameBut a s.heap s'.heap/\(a=X.env.locals\/X.env.cells.lookup x=some a))->Q () s') (hf:X.fn x=true\/X.env.scope.names.lookup x=some .local:=by first|exact .inl rfl|exact .inr rfl|assumption):wpAny M A (storeName X.env x u) Q E s:=by
 obtain⟨m,hn,hl⟩:=id I.loc;have hcls:(X.env.scope.kind==.class||(X.env.scope.kind==.module&&X.env.locals != X.env.globals))=false:=by rw[I.ok.kind];rfl
 have hiσ:i<σ.length:=by rw[I.len];exact (List.getElem?_eq_some_iff.mp hi).1
 have cne:=I.cne;have tracked:∀{a:Addr} {h':Heap},(∃o,s.heap.get? a=some o/\H a=none)->Heap.SameBut a s.heap h'->HOk X.prog X.w H h':=fun {a h'} ha hs b ob e=>by
  obtain⟨_,_,hfree⟩:=ha;refine (I.hok b ob e).stay (fun c w' hc q=>(hs.2 c ?_).trans q) (fun f q=>q) fun f f q=>q
  rintro rfl
  rcases hc with rfl|hc
  ·rw[hfree] at e;cases e
  ·rw[hfree] at hc;cases hc
 rcases hx with hk|hk
 ·refine wpAny_storeName_local hk hn (fun h' hn' hs=>?_) hcls
  obtain⟨oL,_,_,hoL,_⟩:=id hn;refine h _ ⟨I.ok,I.os,I.bare,⟨fun b o e n hb hx=>?_,fun b o e n hb hx=>?_,I.base.free,fun b o e hx=>?_,I.base.tups,I.base.frzs,I.base.tbls⟩,⟨_,hn',fun j y v' e1 e2 e3=>?_⟩,fun y c e=>?_,I.free,I.freeC,fun p hp=>?_,tracked ⟨oL,hoL,I.free⟩ hs,by simpa using I.len⟩ ⟨_,hs,.inl rfl⟩
  ·exact (hs.2 b (nn0 (nl0 (hs0 e) I.ok.above))).trans (I.base.keep b o e n hb hx)
  ·obtain⟨sl,e1⟩:=I.base.slot b o e n hb hx
   exact⟨sl,(hs.2 b (nn0 (nl0 (hs0 e) I.ok.above))).trans e1⟩
  ·obtain⟨o',e1⟩:=I.base.there b o e hx
   exact⟨o',(hs.2 b (nn0 (nl0 (hs0 e) I.ok.above))).trans e1⟩
  ·by_cases hj:j=i
   ·subst hj
    rw[hi] at e1;cases e1;rw[gs0 hiσ] at e2;cases e2;exact⟨u,r,.inl ⟨hk,by simp⟩⟩
   ·rw[gn0 (Ne.symm hj)] at e2
    obtain⟨u',r',q⟩:=hl j y v' e1 e2 e3;refine⟨u',r',?_⟩;rcases q with⟨k,e⟩|⟨k,c,e,z⟩
    ·refine .inl ⟨k,?_⟩
     have:y≠x:=fun e=>hj (hW hN e1 (e▸hi))
     simp[this,e]
    ·exact .inr ⟨k,c,e,z.sameBut hs (cne y c e)⟩
  ·obtain⟨w',z⟩:=I.cell y c e
   exact⟨w',z.sameBut hs (cne y c e)⟩
  ·obtain⟨e,n,ne,nf,d⟩:=I.pin p hp
   exact⟨(hs.2 p.1 ne).trans e,n,ne,nf,d⟩
 ·have hfn:X.fn x=true:=by
   rcases hf with z|z
   ·exact z
   ·rw[z] at hk;cases hk
  obtain⟨c,hc⟩:=I.ok.has x (.inl hk);obtain⟨w',z⟩:=I.cell x c hc;refine wpAny_storeName_cell I.ok.kind hk hc z (fun h' hc' hs=>?_);obtain⟨oc,hoc,hocd⟩:=id z;refine h {s with heap:=h'} ⟨I.ok,I.os,I.bare,⟨fun b o e n hb hx=>?_,fun b o e n hb hx=>?_,I.base.free,fun b o e hx=>?_,I.base.tups,I.base.frzs,I.base.tbls⟩,⟨m,hn.sameBut hs (Ne.symm (cne x c hc)),fun j y v' e1 e2 e3=>?_⟩,fun y c' e=>?_,I.free,I.freeC,fun p hp=>?_,tracked ⟨oc,hoc,I.freeC x c hc⟩ hs,by simpa using I.len⟩ ⟨c,hs,.inr hc⟩
  ·exact (hs.2 b (nn0 (nl0 (hs0 e) (I.ok.cab x c hfn hc)))).trans (I.base.keep b o e n hb hx)
  ·obtain⟨sl,e1⟩:=I.base.slot b o e n hb hx
   exact⟨sl,(hs.2 b (nn0 (nl0 (hs0 e) (I.ok.cab x c hfn hc)))).trans e1⟩
  ·obtain⟨o',e1⟩:=I.base.there b o e hx
   exact⟨o',(hs.2 b (nn0 (nl0 (hs0 e) (I.ok.cab x c hfn hc)))).trans e1⟩
  ·by_cases hj:j=i
   ·subst hj
    rw[hi] at e1;cases e1;rw[gs0 hiσ] at e2;cases e2;exact⟨u,r,.inr ⟨.inl hk,c,hc,hc'⟩⟩
   ·rw[gn0 (Ne.symm hj)] at e2
    obtain⟨u',r',q⟩:=hl j y v' e1 e2 e3;refine⟨u',r',?_⟩;rcases q with q|⟨k,c',e,z'⟩
    ·exact .inl q
    ·refine .inr ⟨k,c',e,z'.sameBut hs ?_⟩
     rintro rfl
     exact hj (hW hN e1 (I.ok.inj _ _ _ e hc▸hi))
  ·by_cases hcc:c'=c
   ·subst hcc;exact⟨_,hc'⟩
   ·obtain⟨w2,z2⟩:=I.cell y c' e
    exact⟨w2,z2.sameBut hs hcc⟩
  ·obtain⟨e,n,ne,nf,d⟩:=I.pin p hp
   refine⟨(hs.2 p.1 ?_).trans e,n,ne,nf,d⟩;intro q;rw[q,hoc] at e;have q':oc=p.2:=Option.some.inj e;exact d w' (by rw[←q'];exact hocd)
theorem hZ {M:Model}{A:Around}{E:Value->Shared->Prop}{i:Nat}{x:Str}{v:V}{u:Value}{Q:Unit->Shared->Prop}(I:Inv X pins σ H s)(hN:X.N.Nodup)(hi:X.N[i]?=some x)(hx:Loc X.env.scope x)(r:RelV v u)
  (h:∀s',Inv X pins (σ.set i (some v)) H s'->Q () s') (hf:X.fn x=true\/X.env.scope.names.lookup x=some .local:=by first|exact .inl rfl|exact .inr rfl|assumption):wpAny M A (storeName X.env x u) Q E s:=
 store_ok2 I hN hi hx r (fun s' I' a=>h s' I') hf
theorem Inv.call' {s':Shared}{ch:List Addr}(I:Inv X pins σ H s)(ho:s'.os=s.os)(u:Un (frs X.stack) ch H H' s.heap s'.heap)(hok:HOk X.prog X.w H' s'.heap)(hg:AllBare s'.gens)
  (hch:∀b∈ch,(b∈X.ex\/X.s₀.heap.objs.size≤b)/\b≠X.env.locals/\(∀x c,X.env.cells.lookup x=some c->c≠b)/\∀p∈X.pn++pins,p.1≠b):Inv X pins σ H' s':=by
 obtain⟨h',g',d',t',o'⟩:=s';subst ho;exact I.call u hok hg hch
end
abbrev XK:=Value->Option Addr->Hp->Prop
abbrev St:=List (Option V)
abbrev VK:=V->Hp->Prop
abbrev TE:=St->Hp->VK->Prop
abbrev TT:=St->Hp->(Bool->Hp->Prop)->Prop
abbrev TA:=St->Hp->(List V->Hp->Prop)->Prop
structure Ends where
 nx:St->Hp->Prop
 rt:VK
 bk:St->Hp->Prop:=fun a a=>False
 ct:St->Hp->Prop:=fun a a=>False
abbrev TS:=Ends->St->Hp->Prop
def EP (X:Cx)(pins:List (Addr×Obj))(σ:St)(Q:VK)(u:Value)(s':Shared):Prop:=∃v H',Inv X pins σ H' s'/\RelV v u/\Q v H'
def TP (X:Cx)(pins:List (Addr×Obj))(σ:St)(Q:Bool->Hp->Prop)(b:Bool)(s':Shared):Prop:=∃H',Inv X pins σ H' s'/\Q b H'
def AP (X:Cx)(pins:List (Addr×Obj))(σ:St)(Q:List V->Hp->Prop)(us:List Value)(s':Shared):Prop:=∃vs H',Inv X pins σ H' s'/\Vals vs us/\Q vs H'
def SP (X:Cx)(pins:List (Addr×Obj))(D:Ends)(f:Flow)(s':Shared):Prop:=
 match f with
 |.next=>∃σ' H',Inv X pins σ' H' s'/\D.nx σ' H'
 |.brk=>∃σ' H',Inv X pins σ' H' s'/\D.bk σ' H'
 |.cont=>∃σ' H',Inv X pins σ' H' s'/\D.ct σ' H'
 |.ret u=>∃v σ' H',Inv X pins σ' H' s'/\RelV v u/\D.rt v H'
def PE (X:Cx)(e:Expr)(t:TE):Prop:=
 ∀(pins:List (Addr×Obj)) (s:Shared) (σ:St) (H:Hp) (Q:VK),Inv X pins σ H s->t σ H Q->wpAny (model X.prog X.w) X.A (eval e X.env) (EP X pins σ Q) X.xe s
def PT (X:Cx)(e:Expr)(t:TT):Prop:=
 ∀(pins:List (Addr×Obj)) (s:Shared) (σ:St) (H:Hp) (Q:Bool->Hp->Prop),Inv X pins σ H s->t σ H Q->wpAny (model X.prog X.w) X.A (isTrue e X.env (eval e X.env)) (TP X pins σ Q) X.xe s
def PW (X:Cx)(e:Expr)(t:TT):Prop:=
 ∀(whole:Sem Value) (pins:List (Addr×Obj)) (s:Shared) (σ:St) (H:Hp) (Q:Bool->Hp->Prop),Inv X pins σ H s->t σ H Q->wpAny (model X.prog X.w) X.A (isTrue e X.env whole) (TP X pins σ Q) X.xe s
theorem PW.pt {X:Cx}{e:Expr}{t:TT}(h:PW X e t):PT X e t:=h _
def PA (X:Cx)(es:List Expr)(t:TA):Prop:=
 ∀(pos:Pos) (pins:List (Addr×Obj)) (s:Shared) (σ:St) (H:Hp) (Q:List V->Hp->Prop),Inv X pins σ H s->t σ H Q->wpAny (model X.prog X.w) X.A (spliced (backTo pos (starEach es X.env))) (AP X pins σ Q) X.xe s
def PS (X:Cx)(st:Stmt)(t:TS):Prop:=
 ∀(pins:List (Addr×Obj)) (s:Shared) (σ:St) (H:Hp) (D:Ends),Inv X pins σ H s->t D σ H->wpAny (model X.prog X.w) X.A (exec st X.env) (SP X pins D) X.xe s
def PSs (X:Cx)(st:List Stmt)(t:TS):Prop:=
 ∀(pins:List (Addr×Obj)) (s:Shared) (σ:St) (H:Hp) (D:Ends),Inv X pins σ H s->t D σ H->wpAny (model X.prog X.w) X.A (execs st X.env) (SP X pins D) X.xe s
theorem thn {α:Type}{t:Sem α}{Q Q':α->Shared->Prop}{M:Model}{A:Around}{E:Value->Shared->Prop}{s:Shared}(h:wpAny M A t Q E s)(hQ:∀a s,Q a s->Q' a s):wpAny M A t Q' E s:=wpAny_mono h hQ fun b b x=>x
section
variable {X:Cx}
theorem bin {a b:Expr}{ta tb:TE}(ha:PE X a ta)(hb:PE X b tb){pins:List (Addr×Obj)}{s:Shared}{σ:St}{H:Hp}{R:V->V->Hp->Prop}(I:Inv X pins σ H s)(h:ta σ H fun x H1=>tb σ H1 fun y H2=>R x y H2)
  {α:Type} {Q:α->Shared->Prop} {f:Value->Value->Sem α}
  (hf:∀v u s2 x y H2,Inv X pins σ H2 s2->RelV x v->RelV y u->R x y H2->wpAny (model X.prog X.w) X.A (f v u) Q X.xe s2):
  wpAny (model X.prog X.w) X.A (eval a X.env) (fun v s₁=>wpAny (model X.prog X.w) X.A (eval b X.env) (fun u s₂=>wpAny (model X.prog X.w) X.A (f v u) Q X.xe s₂) X.xe s₁) X.xe s:=by
 refine thn (ha pins s σ H _ I h) ?_;rintro v s1 ⟨x,H1,I1,r1,q1⟩;refine thn (hb pins s1 σ H1 _ I1 q1) ?_;rintro u s2 ⟨y,H2,I2,r2,q2⟩;exact hf v u s2 x y H2 I2 r1 r2 q2
def uz (i:Nat):TE:=fun σ H Q=>∃v,σ[i]?=some (some v)/\Q v H
def tC (v:V):TE:=fun a H Q=>Q v H
theorem cq {i:Nat}{x:Str}{pos:Pos}(hN:X.N[i]?=some x)(hv:Vis X.env.scope x)(hd:(x==("__debug__":Str))=false:=by decide)(hcd:(x==("__classdict__":Str))=false:=by decide):PE X (.Name x pos) (uz i):=by
 intro pins s σ H Q I h;obtain⟨v,e,h⟩:=h;obtain⟨m,hn,hl⟩:=I.loc;obtain⟨u,r,l⟩:=hl i x v hN e hv;have fin:EP X _ σ Q u s:=⟨v,H,I,r,h⟩;rcases l with⟨hk,hm⟩|⟨hk,c,hc,hcell⟩
 ·exact wpAny_Name (wpAny_loadName_local I.ok.kind hk hn hm fin) hd
 ·rcases hk with hk|hk
  ·exact wpAny_Name (wpAny_loadName_cell I.ok.kind hk hc hcell fin) hd
  ·exact wpAny_Name (wpAny_loadName_free I.ok.kind hk hc hcell fin hcd) hd
theorem ko {i j pos}:PE X (.Constant (.int i) j pos) (tC (.int i)):=fun a a a H a I h=>wpAny_Constant_int ⟨.int i,H,I.tok _,⟨_,rfl⟩,h⟩
theorem FJ {b j pos}:PE X (.Constant (.bool b) j pos) (tC (.bl b)):=fun a a a H a I h=>Constant_bool ⟨.bl b,H,I,rfl,h⟩
theorem CG {j pos}:PE X (.Constant .none j pos) (tC .non):=fun a a a H a I h=>Constant_none ⟨.non,H,I,rfl,h⟩
theorem nQ {x j pos}:PE X (.Constant (.str x) j pos) (tC (.str x)):=fun a a a H a I h=>Calls.Constant_str ⟨.str x,H,I.tok _,⟨_,rfl⟩,h⟩
def Gl (X:Cx)(x:Str):Prop:=X.env.kindOf x=some .globalImplicit
theorem dz {E:Value->Shared->Prop}{pins:List (Addr×Obj)}{s:Shared}{σ:St}{H:Hp}{x:Str}{u:Value}{pos:Pos}{Q:Value->Shared->Prop}(I:Inv X pins σ H s)(hg:Gl X x)(hm:X.mg x=some u)(h:Q u s)
  (hd:(x==("__debug__":Str))=false:=by decide):wpAny (model X.prog X.w) X.A (eval (.Name x pos) X.env) Q E s:=
 Calls.Name_function_global I.ok.kind hg (Calls.loadGlobal_global (by rw[I.ok.glob];exact I.mod.glob.keeps I.bk) hm h) hd
theorem ld_blt {E:Value->Shared->Prop}{pins:List (Addr×Obj)}{s:Shared}{σ:St}{H:Hp}{x:Str}{u:Value}{pos:Pos}{Q:Value->Shared->Prop}(I:Inv X pins σ H s)(hg:Gl X x)(hm:X.mg x=none)(hv:bootBuiltins x=some u)(h:Q u s)
  (hn:x≠"__name__":=by decide) (hd:(x==("__debug__":Str))=false:=by decide):wpAny (model X.prog X.w) X.A (eval (.Name x pos) X.env) Q E s:=by
 obtain⟨mb,h1,h2⟩:=I.mod.blt;exact Calls.Name_function_global I.ok.kind hg (Calls.loadGlobal_builtin (by rw[I.ok.glob];exact I.mod.glob.keeps I.bk) hm (by rw[I.ok.blt];exact h1.keeps I.bk) ((h2 x hn).trans hv) h) hd
theorem pV {x:Str}{v:V}{u:Value}{pos:Pos}(hg:Gl X x)(hm:X.mg x=some u)(r:RelV v u)(hd:(x==("__debug__":Str))=false:=by decide):PE X (.Name x pos) (tC v):=
 fun a a a H a I h=>dz I hg hm ⟨v,H,I,r,h⟩ hd
theorem pW {x:Str}{v:V}{u:Value}{pos:Pos}(hg:Gl X x)(hm:X.mg x=none)(hv:bootBuiltins x=some u)(r:RelV v u)(hn:x≠"__name__":=by decide)(hd:(x==("__debug__":Str))=false:=by decide):PE X (.Name x pos) (tC v):=
 fun a a a H a I h=>ld_blt I hg hm hv ⟨v,H,I,r,h⟩ hn hd
variable {a b:Expr}{ta tb:TE}{pos:Pos}
variable {tA tB':TT}{rest:List Expr}
def Iy (t u:TT):TT:=fun σ H Q=>t σ H fun c H1=>if c=true then u σ H1 Q else Q false H1
def tOr (t u:TT):TT:=fun σ H Q=>t σ H fun c H1=>if c=true then Q true H1 else u σ H1 Q
def Iz (t:TT):TT:=fun σ H Q=>t σ H fun c H1=>Q (!c) H1
theorem yX (ha:PT X a tA):PW X (.BoolOp .And [a] pos) tA:=by
 intro wh pins s σ H Q I h;refine isTrue_and (thn (ha _ s σ H Q I h) fun c s1 e=>?_);cases c with
 |true=>exact isTrue_and_nil e
 |false=>exact e
theorem CH (ha:PT X a tA):PW X (.BoolOp .Or [a] pos) tA:=by
 intro wh pins s σ H Q I h;refine isTrue_or (thn (ha _ s σ H Q I h) fun c s1 e=>?_);cases c with
 |false=>exact isTrue_or_nil e
 |true=>exact e
theorem uA (ha:PT X a tA)(hb:PW X (.BoolOp .And (b::rest) pos) tB'):PW X (.BoolOp .And (a::b::rest) pos) (Iy tA tB'):=by
 intro wh pins s σ H Q I h;refine isTrue_and (thn (ha pins s σ H _ I h) ?_);rintro c s1 ⟨H1,I1,q1⟩;cases c with
 |true=>exact hb wh pins s1 σ H1 Q I1 q1
 |false=>exact⟨H1,I1,q1⟩
theorem Bu (ha:PT X a tA)(hb:PW X (.BoolOp .Or (b::rest) pos) tB'):PW X (.BoolOp .Or (a::b::rest) pos) (tOr tA tB'):=by
 intro wh pins s σ H Q I h;refine isTrue_or (thn (ha pins s σ H _ I h) ?_);rintro c s1 ⟨H1,I1,q1⟩;cases c with
 |true=>exact⟨H1,I1,q1⟩
 |false=>exact hb wh pins s1 σ H1 Q I1 q1
theorem CI (ha:PT X a tA):PT X (.UnaryOp .Not a pos) (Iz tA):=by
 exact fun pins s σ H Q I h=>isTrue_not (ha _ s σ H _ I h)
def FK (ta tb:TE):TE:=fun σ H Q=>ta σ H fun x H1=>∃c,x=.bl c/\if c=true then tb σ H1 Q else Q (.bl false) H1
def IA (ta tb:TE):TE:=fun σ H Q=>ta σ H fun x H1=>∃c,x=.bl c/\if c=true then Q (.bl true) H1 else tb σ H1 Q
def FL (ta:TE):TE:=fun σ H Q=>ta σ H fun x H1=>∃c,x=.bl c/\Q (.bl (!c)) H1
theorem CJ {op}{t:TE}(h:PE X a t):PE X (.BoolOp op [a] pos) t:=fun pins s σ H Q I hw=>BoolOp_one (h _ s σ H Q I hw)
theorem nR (ha:PE X a ta)(hb:PE X (.BoolOp .And (b::rest) pos) tb):PE X (.BoolOp .And (a::b::rest) pos) (FK ta tb):=by
 intro pins s σ H Q I h;refine BoolOp_and (thn (ha pins s σ H _ I h) ?_);rintro v s1 ⟨x,H1,I1,r1,q1⟩;obtain⟨c,rfl,q1⟩:=q1;cases r1;refine wpAny_truthy_bool ?_;cases c with
 |true=>exact hb pins s1 σ H1 Q I1 q1
 |false=>exact⟨.bl false,H1,I1,rfl,q1⟩
theorem Bv (ha:PE X a ta)(hb:PE X (.BoolOp .Or (b::rest) pos) tb):PE X (.BoolOp .Or (a::b::rest) pos) (IA ta tb):=by
 intro pins s σ H Q I h;refine BoolOp_or (thn (ha pins s σ H _ I h) ?_);rintro v s1 ⟨x,H1,I1,r1,q1⟩;obtain⟨c,rfl,q1⟩:=q1;cases r1;refine wpAny_truthy_bool ?_;cases c with
 |false=>exact hb pins s1 σ H1 Q I1 q1
 |true=>exact⟨.bl true,H1,I1,rfl,q1⟩
theorem CK (ha:PE X a ta):PE X (.UnaryOp .Not a pos) (FL ta):=by
 intro pins s σ H Q I h;refine UnaryOp_ (thn (ha pins s σ H _ I h) ?_);rintro v s1 ⟨x,H1,I1,r1,q1⟩;obtain⟨c,rfl,q1⟩:=q1;cases r1;exact not_of (wpAny_truthy_bool ⟨.bl (!c),H1,I1,rfl,q1⟩)
def tIf (t:TT)(ta tb:TE):TE:=fun σ H Q=>t σ H fun c H1=>if c=true then ta σ H1 Q else tb σ H1 Q
theorem ly {c:Expr}(hc:PT X c tA)(ha:PE X a ta)(hb:PE X b tb):PE X (.IfExp c a b pos) (tIf tA ta tb):=by
 intro pins s σ H Q I h;refine wpAny_IfExp (thn (hc pins s σ H _ I h) ?_);rintro d s1 ⟨H1,I1,q1⟩;cases d with
 |true=>exact ha pins s1 σ H1 Q I1 q1
 |false=>exact hb pins s1 σ H1 Q I1 q1
end
def SqL (K:PySem.W.Frag)(H:Hp)(a:Addr)(xs:List V):Prop:=
 Rd H a (.lst xs)\/
  ∃(o:Obj) (its:Array Value) (n:Nat),K.lookup a=some o/\o.cls=.type "list"/\o.dict=none/\o.data=.seq its n/\its.size≤sizeLine/\Vals xs its.toList
def SqT (K:PySem.W.Frag)(H:Hp)(a:Addr)(xs:List V):Prop:=
 Rd H a (.tup xs)\/
  ∃(o:Obj) (its:Array Value) (n:Nat),K.lookup a=some o/\o.cls=.type "tuple"/\o.data=.seq its n/\its.size≤sizeLine/\Vals xs its.toList
noncomputable def IB:Value->Option V
 |.none=>some .non
 |.bool b=>some (.bl b)
 |.int i _=>some (.int i)
 |.str x _=>some (.str x)
 |.bytes b _=>some (.byt b)
 |.float b _=>some (.flt b)
 |.ref a=>some (.ref a)
 |.type n=>some (.ty n)
 |_=>none
theorem RelV.abs {x:V}{u:Value}(r:RelV x u):IB u=some x:=by
 cases x with
 |non=>cases r;rfl
 |bl _=>cases r;rfl
 |int _=>obtain⟨t,rfl⟩:=r;rfl
 |str _=>obtain⟨t,rfl⟩:=r;rfl
 |byt _=>obtain⟨t,rfl⟩:=r;rfl
 |flt _=>obtain⟨t,rfl⟩:=r;rfl
 |ref _=>cases r;rfl
 |ty _=>cases r;rfl
theorem RelV.inj {x y:V}{u:Value}(r:RelV x u)(q:RelV y u):x=y:=Option.some.inj (r.abs.symm.trans q.abs)
theorem Vals.inj:∀{xs ys:List V} {us:List Value},Vals xs us->Vals ys us->xs=ys
 |_,_,_,.nil,.nil=>rfl
 |_,_,_,.cons r t,.cons r' t'=>by rw[r.inj r',Vals.inj t t']
section
variable {X:Cx}{pins:List (Addr×Obj)}{σ:St}{H:Hp}{s:Shared}{a:Addr}{xs ys:List V}
theorem SqL.of {K:PySem.W.Frag}(h:H a=some (.lst xs)):SqL K H a xs:=.inl (.inl h)
theorem SqT.of {K:PySem.W.Frag}(h:H a=some (.tup xs)):SqT K H a xs:=.inl (.inl h)
theorem Inv.list (I:Inv X pins σ H s)(h:SqL X.K H a xs):∃its:List Value,Vals xs its/\PlainL s.heap a its.toArray/\xs.length≤sizeLine:=by
 rcases h with h|⟨o,its,n,hk,hc,hd,hs,hz,r⟩
 ·obtain⟨z,its,n,r,e⟩:=h.ok I.hok
  exact⟨_,r,⟨_,n,e,rfl,rfl,rfl⟩,z⟩
 ·refine⟨_,r,⟨o,n,I.kIn a o hk,hc,hd,by omega⟩,?_⟩
  have e:=r.length
  grind
theorem Inv.tuple (I:Inv X pins σ H s)(h:SqT X.K H a xs):∃its:List Value,Vals xs its/\IsTup s.heap a its.toArray/\xs.length≤sizeLine:=by
 rcases h with h|⟨o,its,n,hk,hc,hs,hz,r⟩
 ·obtain⟨z,its,r,p⟩:=h.ok I.hok
  exact⟨_,r,p,z⟩
 ·refine⟨_,r,⟨o,I.kIn a o hk,hc,n,by omega⟩,?_⟩
  have e:=r.length
  simp_all
theorem Inv.list_inj (I:Inv X pins σ H s)(h:SqL X.K H a xs)(h':SqL X.K H a ys):xs=ys:=by
 obtain⟨its,r,⟨o,n,e,_,_,d⟩,_⟩:=I.list h;obtain⟨its',r',⟨o',n',e',_,_,d'⟩,_⟩:=I.list h';rw[e] at e';cases e';rw[d] at d';injection d' with d1 _
 have:=by simpa using congrArg Array.toList d1
 subst this;exact r.inj r'
theorem Inv.tuple_inj (I:Inv X pins σ H s)(h:SqT X.K H a xs)(h':SqT X.K H a ys):xs=ys:=by
 obtain⟨its,r,⟨o,e,_,n,d⟩,_⟩:=I.tuple h;obtain⟨its',r',⟨o',e',_,n',d'⟩,_⟩:=I.tuple h';rw[e] at e';cases e';rw[d] at d';injection d' with d1 _
 have:=by simpa using congrArg Array.toList d1
 subst this;exact r.inj r'
end
noncomputable abbrev Cx.wish (X:Cx)(E:Value->Shared->Prop):Cx:={X with xe:=E}
abbrev Cx.nox (X:Cx):Cx:=X.wish fun a a=>False
theorem Cx.Ok.wish {X:Cx}(ok:X.Ok)(E:Value->Shared->Prop):(X.wish E).Ok:=
 ⟨ok.mod,ok.kind,ok.glob,ok.blt,ok.above,ok.inj,ok.has,ok.cab,ok.hd,ok.frames,ok.stk,ok.exf,ok.bs,ok.bsz,ok.noex,ok.exfs,ok.funs,ok.frf⟩
theorem Cx.Ok.unwish {X:Cx}{E:Value->Shared->Prop}(ok:(X.wish E).Ok):X.Ok:=
 ⟨ok.mod,ok.kind,ok.glob,ok.blt,ok.above,ok.inj,ok.has,ok.cab,ok.hd,ok.frames,ok.stk,ok.exf,ok.bs,ok.bsz,ok.noex,ok.exfs,ok.funs,ok.frf⟩
section
variable {X:Cx}{pins:List (Addr×Obj)}{σ:St}{H:Hp}{s:Shared}{E:Value->Shared->Prop}
theorem Inv.wish (I:Inv X pins σ H s)(E:Value->Shared->Prop):Inv (X.wish E) pins σ H s:=⟨I.ok.wish E,I.os,I.bare,I.base,I.loc,I.cell,I.free,I.freeC,I.pin,I.hok,I.len⟩
theorem Inv.unwish (I:Inv (X.wish E) pins σ H s):Inv X pins σ H s:=⟨I.ok.unwish,I.os,I.bare,I.base,I.loc,I.cell,I.free,I.freeC,I.pin,I.hok,I.len⟩
theorem SP.unwish {D:Ends}{f:Flow}{s':Shared}(h:SP (X.wish E) pins D f s'):SP X pins D f s':=by
 cases f with
 |next=>obtain⟨σ',H',I,q⟩:=h;exact⟨_,H',I.unwish,q⟩
 |brk=>obtain⟨σ',H',I,q⟩:=h;exact⟨_,H',I.unwish,q⟩
 |cont=>obtain⟨σ',H',I,q⟩:=h;exact⟨_,H',I.unwish,q⟩
 |ret u=>obtain⟨v,σ',H',I,r,q⟩:=h;exact⟨v,_,H',I.unwish,r,q⟩
theorem PSs.nox {st:List Stmt}{t:TS}(h:PSs X.nox st t):PSs X st t:=fun pins s σ H D I hw=>
 wpAny_mono (h _ s σ H D (I.wish _) hw) (fun a a q=>q.unwish) fun a a z=>False.elim z
end
section
variable {X:Cx}{st:Stmt}{rest:List Stmt}{t u:TS}{e:Expr}{te:TE}{pos:Pos}
def Bw:TS:=fun D σ H=>D.nx σ H
def IC (t u:TS):TS:=fun D σ H=>t {D with nx:=u D} σ H
theorem dA:PSs X [] Bw:=fun a a σ H a I h=>wpAny_execs_nil ⟨σ,H,I,h⟩
theorem aT (h1:PS X st t)(h2:PSs X rest u):PSs X (st::rest) (IC t u):=by
 intro pins s σ H D I h;refine wpAny_execs_cons (thn (h1 _ s σ H _ I h) fun f s1 q=>?_);cases f with
 |next=>
  obtain⟨σ',H',I',q⟩:=q;exact h2 _ s1 _ H' D I' q
 |ret v=>exact q
 |brk=>exact q
 |cont=>exact q
theorem pX:PS X (.Pass pos) Bw:=fun a a σ H a I h=>wpAny_Pass ⟨σ,H,I,h⟩
theorem Inv.quiet {pins:List (Addr×Obj)}{σ:St}{H:Hp}{s:Shared}(I:Inv X pins σ H s):interactive X.env=false:=by simp[interactive,I.ok.kind]
def FM (te:TE):TS:=fun D σ H=>te σ H fun a H1=>D.nx σ H1
theorem gH (he:PE X e te)(hs:swapsWith e none pos.line X.env=pure false:=by rfl):PS X (.Expr e pos) (FM te):=by
 exact fun pins s σ H D I h=>wpAny_Expr_any (thn (he _ s σ H _ I h) fun v s1 ⟨x,H1,I1,r1,q1⟩=>⟨σ,H1,I1,q1⟩) I.quiet hs
def ID (te:TE):TS:=fun D σ H=>te σ H D.rt
theorem kr (he:PE X e te):PS X (.Return (some e) pos) (ID te):=by
 exact fun pins s σ H D I h=>wpAny_Return_some (thn (he _ s σ H _ I h) fun v s1 ⟨x,H1,I1,r1,q1⟩=>⟨x,σ,H1,I1,r1,q1⟩)
def IE (c:TT)(t u:TS):TS:=fun D σ H=>c σ H fun b H1=>if b=true then t D σ H1 else u D σ H1
theorem jk {c:Expr}{a b:List Stmt}{tc:TT}(hc:PT X c tc)(ha:PSs X a t)(hb:PSs X b u):PS X (.If c a b pos) (IE tc t u):=by
 intro pins s σ H D I h;refine wpAny_If (thn (hc pins s σ H _ I h) ?_);rintro d s1 ⟨H1,I1,q1⟩;cases d with
 |true=>exact ha pins s1 σ H1 D I1 q1
 |false=>exact hb pins s1 σ H1 D I1 q1
end
abbrev TG:=V->St->Hp->(St->Hp->Prop)->Prop
abbrev TGs:=List V->St->Hp->(St->Hp->Prop)->Prop
def PG (X:Cx)(target:Expr)(t:TG):Prop:=
 ∀(pins:List (Addr×Obj)) (s:Shared) (σ:St) (H:Hp) (v:V) (u:Value) (Q:St->Hp->Prop),Inv X pins σ H s->RelV v u->t v σ H Q->
  wpAny (model X.prog X.w) X.A (assign target X.env u) (fun a s'=>∃σ' H',Inv X pins σ' H' s'/\Q σ' H') X.xe s
def PGs (X:Cx)(ts:List Expr)(t:TGs):Prop:=
 ∀(pins:List (Addr×Obj)) (s:Shared) (σ:St) (H:Hp) (vs:List V) (us:List Value) (Q:St->Hp->Prop),Inv X pins σ H s->Vals vs us->t vs σ H Q->
  wpAny (model X.prog X.w) X.A (assignInOrder ((assignEach ts X.env).map (·.2)) us) (fun a s'=>∃σ' H',Inv X pins σ' H' s'/\Q σ' H') X.xe s
abbrev CL:=V->V->V->Hp->(Hp->Prop)->Prop
def CM (X:Cx)(t:CL):Prop:=
 ∀(pins:List (Addr×Obj)) (s:Shared) (σ:St) (H:Hp) (o i v:V) (ov iv u:Value) (Q:Hp->Prop),Inv X pins σ H s->RelV o ov->RelV i iv->RelV v u->t o i v H Q->
  wpAny (model X.prog X.w) X.A (setItem ov iv u) (fun a s'=>∃H',Inv X pins σ H' s'/\Q H') X.xe s
section
variable {X:Cx}{pos:Pos}
def By (i:Nat):TG:=fun v σ H Q=>Q (σ.set i (some v)) H
theorem pY {i:Nat}{x:Str}(hN:X.N.Nodup)(hi:X.N[i]?=some x)(hx:Loc X.env.scope x)(hf:X.fn x=true\/X.env.scope.names.lookup x=some .local:=by first|exact .inl rfl|exact .inr rfl|assumption):PG X (.Name x pos) (By i):=by
 exact fun pins s σ H v u Q I r h=>wpAny_assign_Name (hZ I hN hi hx r (fun s' I'=>⟨_,H,I',h⟩) hf)
def IF:TGs:=fun vs σ H Q=>vs=[]/\Q σ H
def FN (t:TG)(u:TGs):TGs:=fun vs σ H Q=>∃v r,vs=v::r/\t v σ H fun σ' H'=>u r σ' H' Q
theorem pZ:PGs X [] IF:=by
 intro pins s σ H vs us Q I r h;obtain⟨e,h⟩:=h;subst e;exact assignInOrder_nil ⟨σ,H,I,h⟩
theorem lA {e:Expr}{es:List Expr}{t:TG}{u:TGs}(h1:PG X e t)(h2:PGs X es u)
  (hs:(assignEach (e::es) X.env).map (·.2)=assign e X.env::(assignEach es X.env).map (·.2):=by rfl):PGs X (e::es) (FN t u):=by
 intro pins s σ H vs us Q I r h;obtain⟨v,vr,e1,h⟩:=h;subst e1;cases r with
 |cons r rr=>
  rw[hs];refine assignInOrder_cons (thn (h1 pins s σ H _ _ _ I r h) ?_);rintro _ s1 ⟨σ1,H1,I1,q1⟩;exact h2 pins s1 σ1 H1 _ _ Q I1 rr q1
def IG (K:PySem.W.Frag)(n:Nat)(t:TGs):TG:=fun v σ H Q=>∃a xs,v=.ref a/\SqT K H a xs/\xs.length=n/\t xs σ H Q
theorem uB {es:List Expr}{k:Nat}{t:TGs}{n:Nat}(hc:X.calm=true)(h:PGs X es t)
  (hn:(assignEach es X.env).length=n:=by rfl) (hst:(assignEach es X.env).findIdx? (·.1)=none:=by rfl):PG X (.Tuple es k pos) (IG X.K n t):=by
 intro pins s σ H v u Q I r hw;obtain⟨a,xs,e1,hq,hl,hw⟩:=hw;subst e1;cases r;obtain⟨its,rv,ht,hz⟩:=I.tuple hq;exact assign_Tuple_tuple (I.ok.hd hc) ht (by simp[hn,←hl,rv.length]) hst fun h' hx=>h _ _ σ H xs _ Q (I.kept fun b o e=>hx b o (nn0 (hs0 e)) e) (by omega) hw
def IH (to ti:TE)(t:CL):TG:=fun v σ H Q=>to σ H fun o H1=>ti σ H1 fun i H2=>t o i v H2 fun H3=>Q σ H3
theorem uC {o i:Expr}{to ti:TE}{t:CL}(ho:PE X o to)(hi:PE X i ti)(hs:CM X t)
  (ha:∀v,assign (.Subscript o i pos) X.env v=(do
   let ov ←holding [v] (eval o X.env)
   let iv ←holding [v,ov] (eval i X.env)
   standAt pos
   holding [v,ov,iv] (setItem ov iv v)
   release [v,ov,iv] []):=by intro _;rfl):PG X (.Subscript o i pos) (IH to ti t):=by
 intro pins s σ H v u Q I r h;rw[ha];refine wpAny_bind (wpAny_holding (thn (ho pins s σ H _ I h) ?_));rintro ov s1 ⟨x,H1,I1,r1,q1⟩;refine wpAny_bind (wpAny_holding (thn (hi pins s1 σ H1 _ I1 q1) ?_));rintro iv s2 ⟨y,H2,I2,r2,q2⟩;refine wpAny_bind (wpAny_standAt (wpAny_bind (wpAny_holding (thn (hs pins s2 σ H2 x y v ov iv u _ I2 r1 r2 r q2) ?_))));rintro _ s3 ⟨H3,I3,q3⟩;exact wpAny_release ⟨σ,H3,I3,q3⟩
def FO (te:TE)(g:TG):TS:=fun D σ H=>te σ H fun x H1=>g x σ H1 D.nx
theorem uD {tg e:Expr}{te:TE}{g:TG}(he:PE X e te)(hg:PG X tg g)(hs:swapsWithSole [tg] e pos.line X.env=pure false:=by rfl)(hw:swappedStores [tg] e X.env=pure none:=by rfl)
  (h1:(assignEach [tg] X.env).map (·.2)=[assign tg X.env]:=by rfl):PS X (.Assign [tg] e pos) (FO te g):=by
 intro pins s σ H D I h;refine wpAny_Assign_stores (thn (he pins s σ H _ I h) ?_) hs hw;rintro v s1 ⟨x,H1,I1,r1,q1⟩;rw[h1];exact thn (hg pins s1 σ H1 x v _ I1 r1 q1) fun a s2 q=>q
theorem ia {i:Nat}{x:Str}{e:Expr}{te:TE}{pos':Pos}(hN:X.N.Nodup)(hi:X.N[i]?=some x)(hx:Loc X.env.scope x)(he:PE X e te)(hs:swapsWith e (some (.Name x pos')) pos.line X.env=pure false:=by rfl)(hf:X.fn x=true\/X.env.scope.names.lookup x=some .local:=by first|exact .inl rfl|exact .inr rfl|assumption):
  PS X (.Assign [.Name x pos'] e pos) (FO te (By i)):=by
 intro pins s σ H D I h;refine wpAny_Assign_Name (thn (he pins s σ H _ I h) ?_) hs;rintro v s1 ⟨y,H1,I1,r1,q1⟩;exact hZ I1 hN hi hx r1 (fun s2 I2=>⟨_,H1,I2,q1⟩) hf
end
section
variable {X:Cx}{pos:Pos}
end
structure It where
 go:Nat->Hp->Prop
 yld:Nat->Hp->V->Hp->Prop
 stop:Nat->Hp->Prop
def eE (X:Cx)(pins:List (Addr×Obj))(H:Hp)(b:Addr):Prop:=
 H b=none/\b≠X.env.locals/\b∉X.fs/\(b∈X.ex\/X.s₀.heap.objs.size≤b)/\(∀x c,X.env.cells.lookup x=some c->c≠b)/\∀p∈X.pn++pins,p.1≠b
theorem Inv.fpOk {X:Cx}{pins:List (Addr×Obj)}{σ:St}{H H':Hp}{s:Shared}{b:Addr}(I:Inv X pins σ H s)(hb:s.heap.objs.size≤b)(hn:H' b=none):eE X pins H' b:=by
 refine⟨hn,Nat.ne_of_gt (nl0 I.lt hb),I.nofs hb,.inr (nt0 I.sz hb),fun x c e z=>?_,fun p hp z=>?_⟩
 ·obtain⟨v,q⟩:=I.cell x c e
  exact absurd (nl0 q.lt (by rwa [z])) (li0 _)
 ·exact absurd (nl0 (hs0 (I.pin p hp).1) (by rwa [z])) (li0 _)
structure Turn (P:Program)(w:World)(K:PySem.W.Frag)(tg:Expr)(J:It)(fp:List Addr)(it:Addr)(tn:Nat->Heap->Prop):Prop where
 mem:it∈fp
 obj:∀i h,tn i h->∀b∈fp,∃o,h.get? b=some o/\∀v,o.data≠.cell v
 keep:∀i h h',tn i h->(∀b∈fp,∀o,h.get? b=some o->h'.get? b=some o)->tn i h'
 item:∀(X:Cx),X.prog=P->X.w=w->X.K=K->X.calm=true->∀(i:Nat) (pins:List (Addr×Obj)) (s:Shared) (σ:St) (H:Hp) (E:Value->Shared->Prop),Inv X pins σ H s->(∀b∈fp,eE X pins H b)->tn i s.heap->J.go i H->
  wpAny (model P w) X.A (pyNext (.ref it)) (fun r s1=>∃u,r=some u/\
   wpAny (model P w) X.A (letOwnedTupleGo tg (.ref it) u) (fun a s2=>∃x H',Inv X pins σ H' s2/\RelV x u/\J.yld i H x H'/\tn (i+1) s2.heap/\∀b∈fp,H' b=none) E s1) E s
 done:∀(X:Cx),X.prog=P->X.w=w->X.K=K->X.calm=true->∀(i:Nat) (pins:List (Addr×Obj)) (s:Shared) (σ:St) (H:Hp) (E:Value->Shared->Prop),Inv X pins σ H s->(∀b∈fp,eE X pins H b)->tn i s.heap->J.stop i H->
  wpAny (model P w) X.A (pyNext (.ref it)) (fun r s1=>r=none/\Inv X pins σ H s1) E s
 self:∀(A:Around) (i:Nat) (s:Shared) (Q:Value->Shared->Prop) (E:Value->Shared->Prop),tn i s.heap->Q (.ref it) s->wpAny (model P w) A (pyIter (.ref it)) Q E s
abbrev TI:=St->Hp->(It->Hp->Prop)->Prop
def PIE (X:Cx)(pins:List (Addr×Obj))(σ:St)(tg:Expr)(R:It->Hp->Prop)(itv:Value)(s2:Shared):Prop:=
 ∃(it:Addr) (fp:List Addr) (tn:Nat->Heap->Prop) (J:It) (H':Hp),itv=.ref it/\Inv X pins σ H' s2/\Turn X.prog X.w X.K tg J fp it tn/\tn 0 s2.heap/\(∀b∈fp,eE X pins H' b)/\R J H'
def PI (X:Cx)(tg iter:Expr)(wi:TI):Prop:=
 ∀(pins:List (Addr×Obj)) (s:Shared) (σ:St) (H:Hp) (R:It->Hp->Prop),Inv X pins σ H s->wi σ H R->
  wpAny (model X.prog X.w) X.A (eval iter X.env) (fun v s1=>wpAny (model X.prog X.w) X.A (pyIter v) (PIE X pins σ tg R) X.xe s1) X.xe s
theorem qa {M:Model}{A:Around}{E:Value->Shared->Prop}{s:Shared}{tg:Expr}{it:Addr}{u:Value}{o:Obj}{n:String}{vs:Array Value}{Q:Unit->Shared->Prop}(ho:s.heap.get? it=some o)(hc:o.cls=.type n)(hd:o.data=.fields vs)
  (hn:["enumerate","zip","dict_itemiterator","dict_reverseitemiterator","odict_iterator","itertools.zip_longest","itertools.pairwise"].contains n=false) (hQ:Q () s):wpAny M A (letOwnedTupleGo tg (.ref it) u) Q E s:=by
 cases tg<;>first
  |exact wpAny_pure hQ
  |(cases u<;>first
    |exact wpAny_pure hQ
    |(refine wpAny_bind (wpAny_load ho ?_)
      rw[hc,hd];show wpAny M A (if (["enumerate","zip","dict_itemiterator",_,"odict_iterator","itertools.zip_longest","itertools.pairwise"].contains n&&vs[0]?==some (rawInt _))=true then _ else _) Q E s;rw[if_neg (by intro h;rw[hn,Bool.false_and] at h;cases h)];exact wpAny_pure hQ))
def Itl (K:PySem.W.Frag)(a:Addr):It:=
 ⟨fun i H=>∃xs x,SqL K H a xs/\xs[i]?=some x,fun i H x H'=>H'=H/\∀xs,SqL K H a xs->xs[i]?=some x,fun i H=>∃xs,SqL K H a xs/\xs.length≤i⟩
def Itt (K:PySem.W.Frag)(a:Addr):It:=
 ⟨fun i H=>∃xs x,SqT K H a xs/\xs[i]?=some x,fun i H x H'=>H'=H/\∀xs,SqT K H a xs->xs[i]?=some x,fun i H=>∃xs,SqT K H a xs/\xs.length≤i⟩
def Itr (lo:Int)(n:Nat):It:=⟨fun i a=>i<n,fun i H x H'=>H'=H/\x=.int (lo+i),fun i a=>n≤i⟩
theorem rJ {P:Program}{w:World}{K:PySem.W.Frag}{tg:Expr}(a it:Addr):Turn P w K tg (Itl K a) [it] it (fun i h=>h.IsListIter it a i) where
 mem:=by simp
 obj:=fun i h st b hb=>by
  have e:b=it:=by simpa using hb
  subst e;obtain⟨o,e,c,d⟩:=st;exact⟨o,e,fun v z=>by rw[d] at z;cases z⟩
 keep:=fun i h h' st k=>st.at fun o e=>k it (by simp) o e
 item:=by
  intro X hP hw hK hc i pins s σ H E I hf st hg;subst hP hw hK;obtain⟨xs,x,hq,hx⟩:=hg;obtain⟨its,rv,p,hz⟩:=I.list hq;obtain⟨u,hu,ru⟩:=rv.get hx;obtain⟨f0,f1,f2,f3,f4,f5⟩:=hf it (by simp);refine wpAny_pyNext_list_item st p.isList (x:=u) (by simpa using hu) fun h' st' sb=>?_
  have I1:Inv X pins σ H {s with heap:=h'}:=I.turned (t':=s.toks) (fun b o hb e=>(sb.2 b hb).trans e) f0 f1 f3 f4 f5;obtain⟨o,e,c,d⟩:=id st';exact⟨u,rfl,qa (s:={s with heap:=h'}) e c d (by decide) ⟨x,H,I1,ru,⟨rfl,fun ys hy=>by rw[I.list_inj hy hq];exact hx⟩,st',fun b hb=>(hf b hb).1⟩⟩
 done:=by
  intro X hP hw hK hc i pins s σ H E I hf st hg;subst hP hw hK;obtain⟨xs,hq,hx⟩:=hg;obtain⟨its,rv,p,hz⟩:=I.list hq;obtain⟨f0,f1,f2,f3,f4,f5⟩:=hf it (by simp);have hl:=rv.length;exact wpAny_pyNext_list_end (I.ok.hd hc) st p.isList (by simp;simp_all) fun h' eb=>⟨rfl,I.turned (t':=s.toks) (fun b o hb e=>eb b o hb e) f0 f1 f3 f4 f5⟩
 self:=fun f f f f f st h=>wpAny_pyIter_listiter st h
theorem nS {P:Program}{w:World}{K:PySem.W.Frag}{tg:Expr}(a it:Addr):Turn P w K tg (Itt K a) [it] it (fun i h=>h.IsTupleIter it a i) where
 mem:=by simp
 obj:=fun i h st b hb=>by
  have e:b=it:=by simpa using hb
  subst e;obtain⟨o,e,c,d⟩:=st;exact⟨o,e,fun v z=>by rw[d] at z;cases z⟩
 keep:=fun i h h' st k=>st.at fun o e=>k it (by simp) o e
 item:=by
  intro X hP hw hK hc i pins s σ H E I hf st hg;subst hP hw hK;obtain⟨xs,x,hq,hx⟩:=hg;obtain⟨its,rv,p,hz⟩:=I.tuple hq;obtain⟨u,hu,ru⟩:=rv.get hx;obtain⟨f0,f1,f2,f3,f4,f5⟩:=hf it (by simp);refine wpAny_pyNext_tuple_item st (show s.heap.IsTuple a its.toArray from p) (x:=u) (by simpa using hu) fun h' st' sb=>?_
  have I1:Inv X pins σ H {s with heap:=h'}:=I.turned (t':=s.toks) (fun b o hb e=>(sb.2 b hb).trans e) f0 f1 f3 f4 f5;obtain⟨o,e,c,d⟩:=id st';exact⟨u,rfl,qa (s:={s with heap:=h'}) e c d (by decide) ⟨x,H,I1,ru,⟨rfl,fun ys hy=>by rw[I.tuple_inj hy hq];exact hx⟩,st',fun b hb=>(hf b hb).1⟩⟩
 done:=by
  intro X hP hw hK hc i pins s σ H E I hf st hg;subst hP hw hK;obtain⟨xs,hq,hx⟩:=hg;obtain⟨its,rv,p,hz⟩:=I.tuple hq;obtain⟨f0,f1,f2,f3,f4,f5⟩:=hf it (by simp);have hl:=rv.length;exact wpAny_pyNext_tuple_end (I.ok.hd hc) st (show s.heap.IsTuple a its.toArray from p) (by simp;omega) fun h' eb=>⟨rfl,I.turned (t':=s.toks) (fun b o hb e=>eb b o hb e) f0 f1 f3 f4 f5⟩
 self:=fun f f f f f st h=>wpAny_pyIter_tupleiter st h
theorem nU {P:Program}{w:World}{K:PySem.W.Frag}{tg:Expr}(it:Addr)(lo:Int)(n:Nat):Turn P w K tg (Itr lo n) [it] it (fun i h=>IsRangeIter h it (lo+(i:Nat)*1) ((n:Int)-(i:Nat)) 1) where
 mem:=by simp
 obj:=fun i h st b hb=>by
  simp_all
 keep:=fun i h h' st k=>k it (by simp) _ st
 item:=by
  intro X hP hw hK hc i pins s σ H E I hf st hg;subst hP hw hK;obtain⟨f0,f1,f2,f3,f4,f5⟩:=hf it (by simp);have W:=Walks.range (prog:=X.prog) (w:=X.w) (I.ok.hd hc) it lo 1 n;refine W.item i s _ _ hg st fun v h' tk hv st' kk=>?_
  obtain⟨t,rfl⟩:=hv;have I1:Inv X pins σ H {s with heap:=h',toks:=tk}:=I.turned (fun b o hb e=>kk b o (by simpa using hb) e) f0 f1 f3 f4 f5;refine⟨_,rfl,qa (n:="range_iterator") st' rfl rfl (by decide) ⟨.int (lo+i),H,I1,⟨t,?_⟩,⟨rfl,rfl⟩,st',fun b hb=>(hf b hb).1⟩⟩;rw[Int.mul_one]
 done:=by
  intro X hP hw hK hc i pins s σ H E I hf st hg;subst hP hw hK;obtain⟨f0,f1,f2,f3,f4,f5⟩:=hf it (by simp);exact wpAny_pyNext_range_end (I.ok.hd hc) st (by have:n≤i:=hg;omega) fun h' eb=>⟨rfl,I.turned (t':=s.toks) (fun b o hb e=>eb b o hb e) f0 f1 f3 f4 f5⟩
 self:=fun a a a a a st h=>wpAny_pyIter_rangeiter st h
section
variable {X:Cx}{tg:Expr}
def FP (K:PySem.W.Frag)(tl:TE):TI:=fun σ H R=>tl σ H fun x H1=>∃a,x=.ref a/\(∃xs,SqL K H1 a xs)/\R (Itl K a) H1
def II (K:PySem.W.Frag)(tl:TE):TI:=fun σ H R=>tl σ H fun x H1=>∃a,x=.ref a/\(∃xs,SqT K H1 a xs)/\R (Itt K a) H1
theorem gJ {l:Expr}{tl:TE}(hl:PE X l tl):PI X tg l (FP X.K tl):=by
 intro pins s σ H R I h;refine thn (hl pins s σ H _ I h) ?_;rintro v s1 ⟨x,H1,I1,r1,q1⟩;obtain⟨a,e,⟨xs,hq⟩,q⟩:=q1;subst e;cases r1;obtain⟨its,rv,p,hz⟩:=I1.list hq;refine wpAny_pyIter_list p.isList ?_;refine⟨s1.heap.objs.size,[s1.heap.objs.size],_,_,H1,rfl,I1.kept (t':=s1.toks) fun b o e=>ps0 _ e,rJ a _,⟨_,pz0 _ rfl,rfl,rfl⟩,fun b hb=>?_,q⟩;have e:b=s1.heap.objs.size:=by simpa using hb
 subst e;exact I1.fpOk (nr0 _) (I1.hok.fresh (nr0 _))
theorem uE {l:Expr}{tl:TE}(hl:PE X l tl):PI X tg l (II X.K tl):=by
 intro pins s σ H R I h;refine thn (hl _ s σ H _ I h) fun v s1 ⟨x,H1,I1,r1,q1⟩=>?_
 obtain⟨a,e,⟨xs,hq⟩,q⟩:=q1;subst e;cases r1;obtain⟨its,rv,p,hz⟩:=I1.tuple hq;refine wpAny_pyIter_tuple (p) ?_;refine⟨_,_,_,_,H1,rfl,I1.kept fun b o e=>ps0 _ e,nS a _,⟨_,pz0 _ rfl,rfl,rfl⟩,fun b hb=>?_,q⟩;have e:=by simpa using hb
 subst e;exact I1.fpOk (nr0 _) (I1.hok.fresh (nr0 _))
theorem uF {pins:List (Addr×Obj)}{σ:St}{H:Hp}{s:Shared}{R:It->Hp->Prop}{E:Value->Shared->Prop}{lo hi:Int}{t u v:Tok}{tk:Nat}(I:Inv X pins σ H s)(h1:-(2 ^ 62)≤lo)(h2:lo<2 ^ 62)(h3:-(2 ^ 62)≤hi)(h4:hi<2 ^ 62)
  (q:R (Itr lo (hi-lo).toNat) H):wpAny (model X.prog X.w) X.A (pyIter (.ref s.heap.objs.size)) (PIE X pins σ tg R) E {s with heap:=s.heap.push {cls:=.type "range",data:=.fields #[.int lo t,.int hi u,.int 1 v]},toks:=tk}:=by
 refine wpAny_pyIter_range (IsRange.new ..) (small_one h1 h2 h3 h4) ?_;have I1:Inv X pins σ H {s with heap:=s.heap.push {cls:=.type "range",data:=.fields #[.int lo t,.int hi u,.int 1 v]},toks:=tk}:=I.kept fun b o e=>ps0 _ e
 refine⟨_,_,_,_,H,rfl,
  I1.kept fun b o e=>ps0 _ e,nU _ lo _,?_,fun b hb=>?_,q⟩
 ·have e1:lo+((0:Nat):Int)*1=lo:=by simp
  have e2:(((hi-lo).toNat:Nat):Int)-((0:Nat):Int)=Builtin.Range.rangeSize lo hi 1:=by rw[rangeSize_one];grind
  rw[e1,e2];exact pz0 _ rfl
 ·have e:b=(s.heap.push {cls:=.type "range",data:=.fields #[.int lo t,.int hi u,.int 1 v]}).objs.size:=by simpa using hb
  subst e;exact I1.fpOk (nr0 _) (I1.hok.fresh (nr0 _))
def FQ (ta:TA):TI:=fun σ H R=>ta σ H fun vs H1=>∃j:Int,vs=[.int j]/\ -(2 ^ 62)≤j/\j<2 ^ 62/\R (Itr 0 j.toNat) H1
theorem rK {a:Expr}{ta:TA}{p pos:Pos}(hg:Gl X "range")(hm:X.mg "range"=none)(ha:PA X [a] ta)(hs:starEach [a] X.env=[(false,eval a X.env)]:=by rfl):PI X tg (.Call (.Name "range" p) [a] [] pos) (FQ ta):=by
 intro pins s σ H R I h;refine Call_ (ld_blt I hg hm boot_range (PyProof.Rows.callWith_type1 (thn (ha pos pins s σ H _ I h) ?_) hs rfl));rintro us s1 ⟨vs,H1,I1,r1,q1⟩;obtain⟨j,e,q1,q2,q⟩:=q1;subst e;cases r1 with
 |cons r rr=>
  cases rr;obtain⟨t,rfl⟩:=r;exact call_range_1 (uF I1 (by simp_all) (by simp_all) q1 q2 (by simpa using q))
def IJ (wi:TI)(g:TG)(tb:TS):TS:=fun D σ H=>wi σ H fun J H1=>∃W:Nat->Nat->St->Hp->Prop,(∃m,W 0 m σ H1)/\∀i m σ H,W i m σ H->
 (J.stop i H/\D.nx σ H)\/(J.go i H/\∃N:St->Hp->Prop,(∀σ' H',N σ' H'->∃m',m'<m/\W (i+1) m' σ' H')/\∀x H',J.yld i H x H'->g x σ H' fun σ2 H2=>tb {D with nx:=N,ct:=N,bk:=D.nx} σ2 H2)
noncomputable def ib (fp:List Addr)(h:Heap):List (Addr×Obj):=fp.filterMap fun b=>(h.get? b).map fun o=>(b,o)
theorem cG {fp:List Addr}{h:Heap}{b:Addr}{o:Obj}(hb:b∈fp)(e:h.get? b=some o):(b,o)∈ib fp h:=List.mem_filterMap.mpr ⟨b,hb,by rw[e];rfl⟩
theorem rL {fp:List Addr}{h:Heap}{p:Addr×Obj}(hp:p∈ib fp h):p.1∈fp/\h.get? p.1=some p.2:=by
 obtain⟨b,hb,e⟩:=List.mem_filterMap.mp hp;cases q:h.get? b with
 |none=>simp_all
 |some o=>
  rw[q] at e;have e':=Option.some.inj e;subst e';exact⟨hb,q⟩
theorem Inv.pinned {pins:List (Addr×Obj)}{σ:St}{H:Hp}{s:Shared}{fp:List Addr}(I:Inv X pins σ H s)(hf:∀b∈fp,eE X pins H b)(ho:∀b∈fp,∃o,s.heap.get? b=some o/\∀v,o.data≠.cell v):Inv X (pins++ib fp s.heap) σ H s:=
 I.pins_of fun p hp=>(ma0 hp).elim (fun z=>I.pin p (mr0 _ z)) fun z=>by
  obtain⟨hb,e⟩:=rL z;obtain⟨f0,f1,f2,_⟩:=hf _ hb;obtain⟨o,e',d⟩:=ho _ hb<;>simp_all
theorem Inv.unpinned {pins pl:List (Addr×Obj)}{σ:St}{H:Hp}{s:Shared}(I:Inv X (pins++pl) σ H s):Inv X pins σ H s:=I.pins_of fun p hp=>I.pin p (mr0 _ (List.mem_append_left _ hp))
theorem uG {iter:Expr}{body:List Stmt}{wi:TI}{g:TG}{tb:TS}{pos:Pos}(hp:PassesOwn (model X.prog X.w) X.A X.env X.xe)(hc:X.calm=true)(hi:PI X tg iter wi)(hg:PG X tg g)(hb:PSs X body tb)
  (hs:∀x,foldedSetIterable iter X.env x=pure x:=by intro _;rfl):PS X (.For tg iter body [] pos) (IJ wi g tb):=by
 intro pins s σ H D I h;refine wpAny_For (thn (hi pins s σ H _ I h) fun v s1 h1=>thn h1 fun itv s2 h2=>?_) hs;obtain⟨it,fp,tn,J,H2,e,I2,T,st2,f2,W,⟨m0,w0⟩,turn⟩:=h2;subst e;have stat:∀{H':Hp},(∀b∈fp,H' b=none)->∀b∈fp,eE X pins H' b:=fun hn b hb=>⟨hn b hb,(f2 b hb).2⟩
 refine codeAny_forLoop_any (fun n s'=>∃i σ' H',Inv X pins σ' H' s'/\tn i s'.heap/\(∀b∈fp,H' b=none)/\W i n σ' H') ?_ m0 ⟨0,σ,H2,I2,st2,fun b hb=>(f2 b hb).1,w0⟩
 rintro n s3 ⟨i,σ3,H3,I3,st3,fr3,w3⟩
 rcases turn i n σ3 H3 w3 with⟨stop,qn⟩|⟨go,N,hN,step⟩
 ·refine wpAny_passesOwn hp (thn (T.done X rfl rfl rfl hc i pins s3 σ3 H3 X.xe I3 (stat fr3) st3 stop) ?_);rintro r s4 ⟨hr,I4⟩
  subst hr;exact wpAny_execs_nil ⟨σ3,H3,I4,qn⟩
 ·refine wpAny_passesOwn hp (thn (T.item X rfl rfl rfl hc i pins s3 σ3 H3 X.xe I3 (stat fr3) st3 go) ?_);rintro r s4 ⟨u,hr,h4⟩
  subst hr;refine wpAny_passesOwn hp (thn h4 ?_);rintro _ s5 ⟨x,H5,I5,r5,y5,st5,fr5⟩;have I5':=I5.pinned (stat fr5) (T.obj _ _ st5);refine wpAny_passesOwn hp (thn (hg _ s5 σ3 H5 x u _ I5' r5 (step x H5 y5)) ?_);rintro _ s6 ⟨σ6,H6,I6,q6⟩;refine wpAny_passesOwn hp (thn (hb _ s6 σ6 H6 _ I6 q6) fun f s7 q7=>?_);have again:∀{σ7:St} {H7:Hp},Inv X (pins++ib fp s5.heap) σ7 H7 s7->N σ7 H7->∃m,m<n/\∃i σ' H',Inv X pins σ' H' s7/\tn i s7.heap/\(∀b∈fp,H' b=none)/\W i m σ' H':=fun {σ7 H7} I7 n7=>by
   obtain⟨m',hm,w7⟩:=hN σ7 H7 n7;refine⟨m',hm,i+1,σ7,H7,I7.unpinned,T.keep _ _ _ st5 fun b hb o e=>(I7.pin (b,o) (mr0 _ (mr0 _ (cG hb e)))).1,fun b hb=>?_,w7⟩;obtain⟨o,e,d⟩:=T.obj _ _ st5 b hb;exact (I7.pin (b,o) (mr0 _ (mr0 _ (cG hb e)))).2.1
  cases f with
  |next=>obtain⟨σ7,H7,I7,n7⟩:=q7;exact again I7 n7
  |cont=>obtain⟨σ7,H7,I7,n7⟩:=q7;exact again I7 n7
  |brk=>obtain⟨σ7,H7,I7,q7⟩:=q7;exact⟨σ7,H7,I7.unpinned,q7⟩
  |ret v=>obtain⟨x7,σ7,H7,I7,r7,q7⟩:=q7;exact⟨x7,σ7,H7,I7.unpinned,r7,q7⟩
end
abbrev R2:=V->V->Hp->VK->Prop
def OpR (X:Cx)(f:Value->Value->Sem Value)(r:R2):Prop:=
 ∀(pins:List (Addr×Obj)) (s:Shared) (σ:St) (H:Hp) (x y:V) (v u:Value) (Q:VK),Inv X pins σ H s->RelV x v->RelV y u->r x y H Q->
  wpAny (model X.prog X.w) X.A (f v u) (EP X pins σ Q) X.xe s
def UnR (X:Cx)(f:Value->Sem Value)(r:V->Hp->VK->Prop):Prop:=
 ∀(pins:List (Addr×Obj)) (s:Shared) (σ:St) (H:Hp) (x:V) (v:Value) (Q:VK),Inv X pins σ H s->RelV x v->r x H Q->
  wpAny (model X.prog X.w) X.A (f v) (EP X pins σ Q) X.xe s
def ba (X:Cx)(f:Value)(r:List V->Hp->VK->Prop):Prop:=
 ∀(pins:List (Addr×Obj)) (s:Shared) (σ:St) (H:Hp) (xs:List V) (us:List Value) (Q:VK),Inv X pins σ H s->Vals xs us->r xs H Q->
  wpAny (model X.prog X.w) X.A (call f us) (EP X pins σ Q) X.xe s
def IK (X:Cx)(r:V->Hp->(Bool->Hp->Prop)->Prop):Prop:=
 ∀(pins:List (Addr×Obj)) (s:Shared) (σ:St) (H:Hp) (x:V) (v:Value) (Q:Bool->Hp->Prop),Inv X pins σ H s->RelV x v->r x H Q->
  wpAny (model X.prog X.w) X.A (truthy v) (TP X pins σ Q) X.xe s
def tOp (r:R2)(ta tb:TE):TE:=fun σ H Q=>ta σ H fun x H1=>tb σ H1 fun y H2=>r x y H2 Q
def tUn (r:V->Hp->VK->Prop)(ta:TE):TE:=fun σ H Q=>ta σ H fun x H1=>r x H1 Q
def rI (C:Int->Int->Prop)(g:Int->Int->V):R2:=fun x y H Q=>∃i j,x=.int i/\y=.int j/\C i j/\Q (g i j) H
def rI0 (g:Int->Int->V):R2:=fun x y H Q=>∃i j,x=.int i/\y=.int j/\Q (g i j) H
def rU (g:Int->V):V->Hp->VK->Prop:=fun x H Q=>∃i,x=.int i/\Q (g i) H
section
variable {X:Cx}{a b c:Expr}{ta tb tc:TE}{pos:Pos}
theorem CN (ha:PE X a ta)(hb:PE X b tb){pins:List (Addr×Obj)}{s:Shared}{σ:St}{H:Hp}{R:V->V->Hp->Prop}(I:Inv X pins σ H s)
  (h:ta σ H fun x H1=>tb σ H1 fun y H2=>R x y H2) {Q:Value->Shared->Prop} {f:Value->Value->Sem Value}
  (hf:∀v u s2 x y H2,Inv X pins σ H2 s2->RelV x v->RelV y u->R x y H2->wpAny (model X.prog X.w) X.A (f v u) Q X.xe s2):
  wpAny (model X.prog X.w) X.A (eval a X.env) (fun v s₁=>wpAny (model X.prog X.w) X.A (eval b X.env) (fun u s₂=>wpAny (model X.prog X.w) X.A (f v u) Q X.xe s₂) X.xe s₁) X.xe s:=by
 exact thn (ha _ s σ H _ I h) fun v s1 ⟨x,H1,I1,r1,q1⟩=>thn (hb _ s1 σ H1 _ I1 q1) fun u s2 ⟨y,H2,I2,r2,q2⟩=>hf v u s2 x y H2 I2 r1 r2 q2
theorem Bz {op:Operator}{r:R2}(ho:OpR X (binaryOp op) r)(ha:PE X a ta)(hb:PE X b tb):PE X (.BinOp a op b pos) (tOp r ta tb):=by
 exact fun pins s σ H Q I h=>wpAny_BinOp (CN ha hb I h fun v u s2 x y H2 I2 rx ry q=>ho _ s2 σ H2 x y v u Q I2 rx ry q)
theorem BA {op:UnaryOp}{r:V->Hp->VK->Prop}(ho:UnR X (unaryOp op) r)(ha:PE X a ta):PE X (.UnaryOp op a pos) (tUn r ta):=by
 exact fun pins s σ H Q I h=>UnaryOp_ (thn (ha _ s σ H _ I h) fun v s1 ⟨x,H1,I1,r1,q1⟩=>ho _ s1 σ H1 x v Q I1 r1 q1)
theorem opI {f:Value->Value->Sem Value}{C:Int->Int->Prop}{g:Int->Int->Int}
  (rule:∀(i j:Int) (t u:Tok) (s:Shared) (Q:Value->Shared->Prop) (E:Value->Shared->Prop),C i j->Q (.int (g i j) s.toks) {s with toks:=s.toks+1}->wpAny (model X.prog X.w) X.A (f (.int i t) (.int j u)) Q E s):
  OpR X f (rI C fun i j=>.int (g i j)):=by
 intro pins s σ H x y v u Q I rx ry h;obtain⟨i,j,rfl,rfl,hc,q⟩:=h;obtain⟨t,rfl⟩:=rx;obtain⟨t',rfl⟩:=ry;exact rule i j t t' s _ _ hc ⟨.int _,H,I.tok _,⟨_,rfl⟩,q⟩
theorem FR {f:Value->Value->Sem Value}{g:Int->Int->Int}
  (rule:∀(i j:Int) (t u:Tok) (s:Shared) (Q:Value->Shared->Prop) (E:Value->Shared->Prop),Q (.int (g i j) s.toks) {s with toks:=s.toks+1}->wpAny (model X.prog X.w) X.A (f (.int i t) (.int j u)) Q E s):
  OpR X f (rI0 fun i j=>.int (g i j)):=by
 intro pins s σ H x y v u Q I rx ry h;obtain⟨i,j,rfl,rfl,q⟩:=h;obtain⟨t,rfl⟩:=rx;obtain⟨t',rfl⟩:=ry;exact rule i j t t' s _ _ ⟨.int _,H,I.tok _,⟨_,rfl⟩,q⟩
theorem yY {f:Value->Value->Sem Value}{g:Int->Int->Bool}
  (rule:∀(i j:Int) (t u:Tok) (s:Shared) (Q:Value->Shared->Prop) (E:Value->Shared->Prop),Q (.bool (g i j)) s->wpAny (model X.prog X.w) X.A (f (.int i t) (.int j u)) Q E s):
  OpR X f (rI0 fun i j=>.bl (g i j)):=by
 intro pins s σ H x y v u Q I rx ry h;obtain⟨i,j,rfl,rfl,q⟩:=h;obtain⟨t,rfl⟩:=rx;obtain⟨t',rfl⟩:=ry;exact rule i j t t' s _ _ ⟨.bl _,H,I,rfl,q⟩
def IL (i j:Int):Prop:=0<j/\j<1073741824
def CMul (i j:Int):Prop:=(-(2 ^ 64)<i/\i<2 ^ 64)\/(-(2 ^ 64)<j/\j<2 ^ 64)
theorem CMul.ok {i j:Int}(h:CMul i j):IntMulOk i j:=by
 rcases h with⟨h1,h2⟩|⟨h1,h2⟩
 ·exact .of_left (intBits_le_64 h1 h2)
 ·exact .of_right (intBits_le_64 h1 h2)
theorem CO:OpR X (binaryOp .Add) (rI0 fun i j=>.int (i+j)):=FR fun a a a a a a a q=>add_int q
theorem CP:OpR X (binaryOp .Sub) (rI0 fun i j=>.int (i-j)):=FR fun a a a a a a a q=>sub_int q
theorem op_mul:OpR X (binaryOp .Mult) (rI CMul fun i j=>.int (i*j)):=opI fun a a a a a a a hc q=>mul_int q hc.ok
theorem op_fdiv:OpR X (binaryOp .FloorDiv) (rI IL fun i j=>.int (i / j)):=opI fun i j a a a a a hc q=>by
 have h1:(0:Int)<j:=hc.1;have h2:j<1073741824:=hc.2;exact floordiv_int (by grind) (by rw[Int.fdiv_eq_ediv_of_nonneg i (by grind)];exact q) (.inl (PyProof.noPylong_small (by omega)))
theorem op_mod:OpR X (binaryOp .Mod) (rI (fun a j=>0<j) fun i j=>.int (i % j)):=opI fun i j a a a a a hc q=>by
 exact mod_int' (by omega) (by rwa [Int.fmod_eq_emod_of_nonneg i (by omega)])
theorem unI {f:Value->Sem Value}{g:Int->Int}
  (rule:∀(i:Int) (t:Tok) (s:Shared) (Q:Value->Shared->Prop) (E:Value->Shared->Prop),Q (.int (g i) s.toks) {s with toks:=s.toks+1}->wpAny (model X.prog X.w) X.A (f (.int i t)) Q E s):
  UnR X f (rU fun i=>.int (g i)):=by
 intro pins s σ H x v Q I rx h;obtain⟨i,rfl,q⟩:=h;obtain⟨t,rfl⟩:=rx;exact rule i t s _ _ ⟨.int _,H,I.tok _,⟨_,rfl⟩,q⟩
theorem uH:UnR X (unaryOp .USub) (rU fun i=>.int (-i)):=unI fun a a a a a q=>neg_int q
end
def FS:V->V->Bool
 |.non,.non=>true|.non,.int _=>true|.int _,.non=>true|.non,.bl _=>true|.bl _,.non=>true|.non,.str _=>true|.str _,.non=>true
 |.int _,.int _=>true|.bl _,.bl _=>true|.str _,.str _=>true|.byt _,.byt _=>true
 |.int _,.str _=>true|.str _,.int _=>true|.bl _,.str _=>true|.str _,.bl _=>true
 |_,_=>false
def rEq:R2:=fun x y H Q=>FS x y=true/\Q (.bl (decide (x=y))) H
def rNe:R2:=fun x y H Q=>FS x y=true/\Q (.bl (!decide (x=y))) H
theorem qb {i j:Int}:decide (V.int i=V.int j)=(i==j):=by
 rw[Bool.eq_iff_iff];simp
theorem nV {i j:Bool}:decide (V.bl i=V.bl j)=(i==j):=by
 rw[Bool.eq_iff_iff];simp
theorem qc {i j:Str}:decide (V.str i=V.str j)=(i==j):=by
 rw[Bool.eq_iff_iff];simp
theorem qd {i j:Array UInt8}:decide (V.byt i=V.byt j)=(i.toList==j.toList):=by
 rw[Bool.eq_iff_iff];simp
section
variable {X:Cx}{a b c:Expr}{ta tb tc:TE}{pos:Pos}
theorem ai {pins:List (Addr×Obj)}{σ:St}{H:Hp}{s:Shared}{Q:VK}{k k':Bool}(I:Inv X pins σ H s)(q:Q (.bl k) H)(e:k=k'):EP X pins σ Q (.bool k') s:=by
 subst e;exact⟨.bl k,H,I,rfl,q⟩
theorem uI:OpR X (compareOp .Eq) rEq:=by
 intro pins s σ H x y v u Q I rx ry h;obtain⟨hs,q⟩:=h;cases x with
 |non=>
  cases rx;cases y with
  |non=>cases ry;exact PySem.EqNone.eq_none_none (ai I q (by simp))
  |bl j=>cases ry;exact PySem.EqNone.eq_none_bool (ai I q (by simp))
  |int j=>obtain⟨t',rfl⟩:=ry;exact PySem.EqNone.eq_none_int (ai I q (by simp))
  |str j=>obtain⟨t',rfl⟩:=ry;exact PySem.EqNone.eq_none_str (ai I q (by simp))
  |_=>exact absurd (show false=true from hs) fx0
 |bl i=>
  cases rx;cases y with
  |non=>cases ry;exact PySem.EqNone.eq_bool_none (ai I q (by simp))
  |bl j=>cases ry;exact eq_bool (ai I q nV)
  |str j=>obtain⟨t',rfl⟩:=ry;exact PySem.EqMixed.eq_bool_str (ai I q (by simp))
  |_=>exact absurd (show false=true from hs) fx0
 |int i=>
  obtain⟨t,rfl⟩:=rx;cases y with
  |non=>cases ry;exact PySem.EqNone.eq_int_none (ai I q (by simp))
  |int j=>obtain⟨t',rfl⟩:=ry;exact eq_int (ai I q qb)
  |str j=>obtain⟨t',rfl⟩:=ry;exact PySem.EqMixed.eq_int_str (ai I q (by simp))
  |_=>exact absurd (show false=true from hs) fx0
 |str i=>
  obtain⟨t,rfl⟩:=rx;cases y with
  |non=>cases ry;exact PySem.EqNone.eq_str_none (ai I q (by simp))
  |bl j=>cases ry;exact PySem.EqMixed.eq_str_bool (ai I q (by simp))
  |int j=>obtain⟨t',rfl⟩:=ry;exact PySem.EqMixed.eq_str_int (ai I q (by simp))
  |str j=>obtain⟨t',rfl⟩:=ry;exact eq_str (ai I q qc)
  |_=>exact absurd (show false=true from hs) fx0
 |byt i=>
  obtain⟨t,rfl⟩:=rx;cases y with
  |byt j=>obtain⟨t',rfl⟩:=ry;exact PySem.W.eq_bytes (ai I q qd)
  |_=>exact absurd (show false=true from hs) fx0
 |_=>cases y<;>exact absurd (show false=true from hs) fx0
theorem FT:OpR X (compareOp .NotEq) rNe:=by
 intro pins s σ H x y v u Q I rx ry h;obtain⟨hs,q⟩:=h;cases x with
 |non=>
  cases rx;cases y with
  |non=>cases ry;exact PySem.EqNone.ne_none_none (ai I q (by simp))
  |bl j=>cases ry;exact PySem.EqNone.ne_none_bool (ai I q (by simp))
  |int j=>obtain⟨t',rfl⟩:=ry;exact PySem.EqNone.ne_none_int (ai I q (by simp))
  |str j=>obtain⟨t',rfl⟩:=ry;exact PySem.EqNone.ne_none_str (ai I q (by simp))
  |_=>exact absurd (show false=true from hs) fx0
 |bl i=>
  cases rx;cases y with
  |non=>cases ry;exact PySem.EqNone.ne_bool_none (ai I q (by simp))
  |bl j=>cases ry;exact ne_bool (ai I q (congrArg not nV))
  |str j=>obtain⟨t',rfl⟩:=ry;exact PySem.EqMixed.ne_bool_str (ai I q (by simp))
  |_=>exact absurd (show false=true from hs) fx0
 |int i=>
  obtain⟨t,rfl⟩:=rx;cases y with
  |non=>cases ry;exact PySem.EqNone.ne_int_none (ai I q (by simp))
  |int j=>obtain⟨t',rfl⟩:=ry;exact ne_int (ai I q (congrArg not qb))
  |str j=>obtain⟨t',rfl⟩:=ry;exact PySem.EqMixed.ne_int_str (ai I q (by simp))
  |_=>exact absurd (show false=true from hs) fx0
 |str i=>
  obtain⟨t,rfl⟩:=rx;cases y with
  |non=>cases ry;exact PySem.EqNone.ne_str_none (ai I q (by simp))
  |bl j=>cases ry;exact PySem.EqMixed.ne_str_bool (ai I q (by simp))
  |int j=>obtain⟨t',rfl⟩:=ry;exact PySem.EqMixed.ne_str_int (ai I q (by simp))
  |str j=>obtain⟨t',rfl⟩:=ry;exact ne_str (ai I q (congrArg not qc))
  |_=>exact absurd (show false=true from hs) fx0
 |byt i=>
  obtain⟨t,rfl⟩:=rx;cases y with
  |byt j=>obtain⟨t',rfl⟩:=ry;exact PySem.W.ne_bytes (ai I q (congrArg not qd))
  |_=>exact absurd (show false=true from hs) fx0
 |_=>cases y<;>exact absurd (show false=true from hs) fx0
theorem FU:OpR X (compareOp .Lt) (rI0 fun i j=>.bl (decide (i<j))):=yY fun a a a a a a a q=>lt_int q
theorem FV:OpR X (compareOp .LtE) (rI0 fun i j=>.bl (decide (i≤j))):=yY fun a a a a a a a q=>le_int q
theorem FW:OpR X (compareOp .Gt) (rI0 fun i j=>.bl (decide (j<i))):=yY fun a a a a a a a q=>gt_int q
theorem FX:OpR X (compareOp .GtE) (rI0 fun i j=>.bl (decide (j≤i))):=yY fun a a a a a a a q=>ge_int q
theorem rM:OpR X (compareOp .Lt) (fun x y H Q=>∃i j,x=.str i/\y=.str j/\Q (.bl (decide (i.cps.toList<j.cps.toList))) H):=by
 intro pins s σ H x y v u Q I rx ry h;obtain⟨i,j,rfl,rfl,q⟩:=h;obtain⟨t,rfl⟩:=rx;obtain⟨t',rfl⟩:=ry;exact lt_str (ai I q rfl)
theorem rN:OpR X (compareOp .In) (fun x y H Q=>∃i j,x=.str i/\y=.str j/\Q (.bl (!(Builtin.Str.occurrences j i 0 j.length 1).isEmpty)) H):=by
 intro pins s σ H x y v u Q I rx ry h;obtain⟨i,j,rfl,rfl,q⟩:=h;obtain⟨t,rfl⟩:=rx;obtain⟨t',rfl⟩:=ry;exact in_str (ai I q rfl)
theorem CQ:OpR X (compareOp .Is) (fun x y H Q=>y=.non/\Q (.bl (decide (x=.non))) H):=by
 intro pins s σ H x y v u Q I rx ry h;obtain⟨rfl,q⟩:=h;cases ry;refine is_none_gen (ai I q ?_);cases x<;>first
  |rfl
  |(obtain⟨t,rfl⟩:=rx;rfl)
theorem yZ:OpR X (compareOp .IsNot) (fun x y H Q=>y=.non/\Q (.bl (!decide (x=.non))) H):=by
 intro pins s σ H x y v u Q I rx ry h;obtain⟨rfl,q⟩:=h;cases ry;refine isnot_none_gen (ai I q ?_);cases x<;>first
  |rfl
  |(obtain⟨t,rfl⟩:=rx;rfl)
theorem uJ (b:Expr){op:CmpOp}(h:op≠.In:=by decide)(h2:op≠.NotIn:=by decide):behindInMarks op b=false:=by
 have e1:(op==CmpOp.In)=false:=by grind
 have e2:(op==CmpOp.NotIn)=false:=by grind
 cases b<;>simp[behindInMarks,e1,e2]
theorem za {op:CmpOp}{r:R2}(ho:OpR X (compareOp op) r)(ha:PE X a ta)(hb:PE X b tb)(hm:behindInMarks op b=false):PE X (.Compare a [op] [b] pos) (tOp r ta tb):=by
 exact fun pins s σ H Q I h=>wpAny_Compare1 (CN ha hb I h fun v u s2 x y H2 I2 rx ry q=>ho _ s2 σ H2 x y v u Q I2 rx ry q) hm
def BB (t:TE):TT:=fun σ H Q=>t σ H fun x H'=>∃k,x=.bl k/\Q k H'
theorem gK {op:CmpOp}{r:R2}(ho:OpR X (compareOp op) r)(ha:PE X a ta)(hb:PE X b tb)(hm:behindInMarks op b=false):PT X (.Compare a [op] [b] pos) (BB (tOp r ta tb)):=by
 intro pins s σ H Q I h;refine wpAny_isTrue_Compare1 (thn (ha pins s σ H _ I h) fun v s1 ⟨x,H1,I1,r1,q1⟩=>thn (hb pins s1 σ H1 _ I1 q1) fun u s2 ⟨y,H2,I2,r2,q2⟩=>
  thn (ho pins s2 σ H2 x y v u _ I2 r1 r2 q2) ?_) hm;rintro c s3 ⟨z,H3,I3,r3,k,e,q3⟩
 subst e;cases r3;exact wpAny_truthy_bool ⟨H3,I3,q3⟩
def nW (r r':R2)(ta tb tc:TE):TE:=fun σ H Q=>ta σ H fun x H1=>tb σ H1 fun y H2=>r x y H2 fun z H3=>∃k,z=.bl k/\
 (if k=true then tc σ H3 fun w' H4=>r' y w' H4 Q else Q (.bl false) H3)
theorem lB {op op':CmpOp}{r r':R2}(ho:OpR X (compareOp op) r)(ho':OpR X (compareOp op') r')(ha:PE X a ta)(hb:PE X b tb)(hc:PE X c tc)
  (hm:lastMarks [op,op'] [b,c]=false:=by with_unfolding_all rfl):PE X (.Compare a [op,op'] [b,c] pos) (nW r r' ta tb tc):=by
 intro pins s σ H Q I h;refine Compare_chain (thn (ha pins s σ H _ I h) fun v s1 ⟨x,H1,I1,r1,q1⟩=>chain_link (thn (hb pins s1 σ H1 _ I1 q1) fun u s2 ⟨y,H2,I2,r2,q2⟩=>
  thn (ho pins s2 σ H2 x y v u _ I2 r1 r2 q2) ?_)) hm;rintro d s3 ⟨z,H3,I3,r3,k,e,q3⟩
 subst e;cases r3;refine wpAny_truthy_bool ?_;cases k with
 |false=>exact ite_ff ⟨.bl false,H3,I3,rfl,q3⟩
 |true=>exact ite_tt (chain_last (thn (hc pins s3 σ H3 _ I3 q3) fun w' s4 ⟨z',H4,I4,r4,q4⟩=>ho' pins s4 σ H4 y z' u w' Q I4 r2 r4 q4))
theorem lC {op op':CmpOp}{r r':R2}(ho:OpR X (compareOp op) r)(ho':OpR X (compareOp op') r')(ha:PE X a ta)(hb:PE X b tb)(hc:PE X c tc)
  (hm:lastMarks [op,op'] [b,c]=false:=by with_unfolding_all rfl):PT X (.Compare a [op,op'] [b,c] pos) (BB (nW r r' ta tb tc)):=by
 intro pins s σ H Q I h;refine isTrue_chain (thn (ha pins s σ H _ I h) fun v s1 ⟨x,H1,I1,r1,q1⟩=>test_link (thn (hb pins s1 σ H1 _ I1 q1) fun u s2 ⟨y,H2,I2,r2,q2⟩=>
  thn (ho pins s2 σ H2 x y v u _ I2 r1 r2 q2) ?_)) hm;rintro d s3 ⟨z,H3,I3,r3,k,e,q3⟩
 subst e;cases r3;refine wpAny_truthy_bool ?_;cases k with
 |false=>
  obtain⟨k',e',q'⟩:=q3;cases e';exact ite_ff ⟨H3,I3,q'⟩
 |true=>
  refine ite_tt (test_last (thn (hc pins s3 σ H3 _ I3 q3) fun w' s4 ⟨z',H4,I4,r4,q4⟩=>thn (ho' pins s4 σ H4 y z' u w' _ I4 r2 r4 q4) fun d' s5 ⟨z2,H5,I5,r5,k2,e2,q5⟩=>?_));subst e2;cases r5;exact wpAny_truthy_bool ⟨H5,I5,q5⟩
def CS (K:PySem.W.Frag)(x:V)(H:Hp)(k:Bool):Prop:=
 match x with
 |.non=>k=false
 |.bl b=>k=b
 |.int i=>k=(i != 0)
 |.str y=>y.length≤sizeLine/\k=((y.length:Int) != 0)
 |.byt y=>y.size≤sizeLine/\k=((y.size:Int) != 0)
 |.ref p=>(∃xs,SqL K H p xs/\k=!xs.isEmpty)\/(∃xs,SqT K H p xs/\k=!xs.isEmpty)\/∃kvs,H p=some (.dK kvs)/\k=!kvs.isEmpty
 |_=>False
theorem nX {κ:Type}{kvs:List (κ×V)}{vs:List (κ×Value)}(r:KV kvs vs):(!vs.isEmpty)=!kvs.isEmpty:=by
 cases r<;>rfl
theorem ic {xs:List V}{its:List Value}(r:Vals xs its):(!its.toArray.isEmpty)=!xs.isEmpty:=by
 cases r<;>simp
theorem fD:(sizeLine:Nat)<2 ^ 63:=by decide
theorem CT:IK X (fun x H Q=>∃k,CS X.K x H k/\Q k H):=by
 intro pins s σ H x v Q I rx h;obtain⟨k,e,q⟩:=h;have hl:=fD;have hs:sizeLine=16777216:=sizeLine_eq;cases x with
 |non=>
  cases rx;have e':k=false:=e;subst e';exact truthy_none ⟨H,I,q⟩
 |bl b=>
  cases rx;have e':k=b:=e;subst e';exact wpAny_truthy_bool ⟨H,I,q⟩
 |int i=>
  obtain⟨t,rfl⟩:=rx;have e':k=(i != 0):=e;subst e';exact PySem.P.truthy_int ⟨H,I,q⟩
 |str y=>
  obtain⟨t,rfl⟩:=rx;obtain⟨hy,e'⟩:y.length≤sizeLine/\k=((y.length:Int) != 0):=e;subst e';exact PySem.P.truthy_str (by grind) ⟨H,I.tok _,q⟩
 |byt y=>
  obtain⟨t,rfl⟩:=rx;obtain⟨hy,e'⟩:y.size≤sizeLine/\k=((y.size:Int) != 0):=e;subst e';exact PySem.W.truthy_bytes (by omega) ⟨H,I.tok _,q⟩
 |ref p=>
  cases rx;have e':(∃xs,SqL X.K H p xs/\k=!xs.isEmpty)\/(∃xs,SqT X.K H p xs/\k=!xs.isEmpty)\/∃kvs,H p=some (.dK kvs)/\k=!kvs.isEmpty:=e;rcases e' with⟨xs,hx,e'⟩|⟨xs,hx,e'⟩|⟨kvs,hx,e'⟩
  ·subst e'
   obtain⟨its,r,pl,hz⟩:=I.list hx;have hlen:=r.length;exact wpAny_truthy_list pl.isList (by simp only[ls0];omega) ⟨H,I.tok _,by rw[ic r];exact q⟩
  ·subst e'
   obtain⟨its,r,pl,hz⟩:=I.tuple hx;have hlen:=r.length;exact truthy_tuple pl (by simp only[ls0];omega) ⟨H,I.tok _,by rw[ic r];exact q⟩
  ·subst e'
   obtain⟨hz,hS,vs,r,m⟩:kvs.length≤sizeLine/\(p==sysModules)=false/\∃vs,KV kvs vs/\s.heap.DictOf (km X.prog X.w) p vs:=I.hok p _ hx;have hlen:kvs.length=vs.length:=Paired.length r;exact wpAny_truthy_dict hS m (by omega) ⟨H,I.tok _,by rw[nX r];exact q⟩
 |_=>exact (show False from e).elim
theorem uK (ha:PE X a ta)(he:∀whole,isTrue a X.env whole=(do let v ←whole;standAt a.pos;holding [v] (truthy v))):
  PT X a (fun σ H Q=>ta σ H fun x H'=>∃k,CS X.K x H' k/\Q k H'):=by
 exact fun pins s σ H Q I h=>isTrue_plain (thn (ha _ s σ H _ I h) fun v s1 ⟨x,H1,I1,r1,q1⟩=>CT _ s1 σ H1 x v Q I1 r1 q1) (he _)
theorem op_add_str:OpR X (binaryOp .Add) (fun x y H Q=>∃i j,x=.str i/\y=.str j/\i.length+j.length≤sizeLine/\Q (.str (i++j)) H):=by
 intro pins s σ H x y v u Q I rx ry h;obtain⟨i,j,rfl,rfl,hz,q⟩:=h;obtain⟨t,rfl⟩:=rx;obtain⟨t',rfl⟩:=ry;exact add_str (fun t' tk=>⟨.str _,H,I.tok _,⟨_,rfl⟩,q⟩) hz
theorem vals1 {x:V}{us:List Value}(r:Vals [x] us):∃u,us=[u]/\RelV x u:=by
 cases r with
 |cons r1 r2=>cases r2;exact⟨_,rfl,r1⟩
theorem vals2 {x y:V}{us:List Value}(r:Vals [x,y] us):∃u w',us=[u,w']/\RelV x u/\RelV y w':=by
 cases r with
 |cons r1 r2=>
  cases r2 with
  |cons r3 r4=>cases r4;exact⟨_,_,rfl,r1,r3⟩
theorem rO (hc:X.calm=true):ba X (.builtin "min") (fun xs H Q=>∃i j,xs=[.int i,.int j]/\Q (.int (if j<i then j else i)) H):=by
 intro pins s σ H xs us Q I r h;obtain⟨i,j,rfl,q⟩:=h;obtain⟨u,w',rfl,⟨t,rfl⟩,⟨t',rfl⟩⟩:=vals2 r;refine min_two_ints (I.ok.hd hc) fun h' tk k=>⟨_,H,I.kept k,?_,q⟩
 by_cases hj:j<i
 ·rw[if_pos hj,if_pos hj];exact⟨_,rfl⟩
 ·rw[if_neg hj,if_neg hj];exact⟨_,rfl⟩
theorem jl:ba X (.type "int") (fun xs H Q=>(∃i,xs=[.int i]/\Q (.int i) H)\/∃k,xs=[.bl k]/\Q (.int (if k then 1 else 0)) H):=by
 intro pins s σ H xs us Q I r h;rcases h with⟨i,rfl,q⟩|⟨k,rfl,q⟩
 ·obtain⟨u,rfl,t,rfl⟩:=vals1 r
  exact call_int_int ⟨.int i,H,I,⟨_,rfl⟩,q⟩
 ·obtain⟨u,rfl,r1⟩:=vals1 r
  cases r1;exact call_int_bool ⟨.int _,H,I.tok _,⟨_,rfl⟩,q⟩
def IM (K:PySem.W.Frag)(x:V)(H:Hp)(n:Nat):Prop:=
 match x with
 |.str y=>y.length≤sizeLine/\n=y.length
 |.byt y=>y.size≤sizeLine/\n=y.size
 |.ref p=>(∃xs,SqL K H p xs/\n=xs.length)\/∃xs,SqT K H p xs/\n=xs.length
 |_=>False
theorem eF:ba X (.builtin "len") (fun xs H Q=>∃x n,xs=[x]/\IM X.K x H n/\Q (.int n) H):=by
 intro pins s σ H xs us Q I r h;obtain⟨x,n,rfl,e,q⟩:=h;obtain⟨u,rfl,rx⟩:=vals1 r;have hs:=sizeLine_eq;cases x with
 |str y=>
  obtain⟨t,rfl⟩:=rx;obtain⟨hy,e'⟩:y.length≤sizeLine/\n=y.length:=e;subst e';exact len_str (by omega) ⟨.int _,H,I.tok _,⟨_,rfl⟩,q⟩
 |byt y=>
  obtain⟨t,rfl⟩:=rx;obtain⟨hy,e'⟩:y.size≤sizeLine/\n=y.size:=e;subst e';exact PySem.W.len_bytes (by omega) ⟨.int _,H,I.tok _,⟨_,rfl⟩,q⟩
 |ref p=>
  cases rx;have e':=e;rcases e' with⟨xs,hx,e'⟩|⟨xs,hx,e'⟩
  ·subst e'
   obtain⟨its,r',pl,hz⟩:=I.list hx;have hlen:=r'.length;exact Calls.call_len_list pl.isList (by simp only[ls0];omega) ⟨.int xs.length,H,I.tok _,⟨_,by simp only[ls0];rw[hlen]⟩,q⟩
  ·subst e'
   obtain⟨its,r',pl,hz⟩:=I.tuple hx;have hlen:=r'.length;exact len_tuple pl (by simp only[ls0];omega) ⟨.int xs.length,H,I.tok _,⟨_,by simp only[ls0];rw[hlen]⟩,q⟩
 |_=>exact (show False from e).elim
end
structure ObjM (h:Heap)(x dx C:Addr)(mA:Str->Option Value):Prop where
 obj:h.get? x=some (PySem.W.instObj C dx)
 ns:h.Ns1 dx mA
 ne:dx≠x
set_option tactic.hygienic true in
theorem rP {h:Heap}{dx:Addr}{mA:Str->Option Value}(n:h.Ns1 dx mA):∃od,h.get? dx=some od/\∀name,PySem.W.lookIn name od=some (mA name):=by
 obtain⟨o,es,ep,ho,hd,hk,_,hm⟩:=n;refine⟨o,ho,fun name=>?_⟩;have e:=hm name;unfold nsFind findBy at e;rw[←Array.find?_toList] at e;unfold PySem.W.lookIn;rw[hd];dsimp only;split
 ·simp_all
 ·rename_i q
  rw[q] at e;have a:es.toList.any (·.refKey)=false:=by
   rw[List.any_eq_false];intro y hy;obtain⟨z,t,hkey⟩:=hk y (Array.mem_toList_iff.mp hy);simp[DictEntry.refKey,hkey]
  have a':¬ es.toList.any (·.refKey)=true:=by rw[a];simp
  rw[if_neg a'];exact congrArg _ e
theorem ObjM.look {h:Heap}{x dx C:Addr}{mA:Str->Option Value}(I:ObjM h x dx C mA):∃od,PySem.W.InstAt h x (PySem.W.instObj C dx) C (some od)/\∀name,PySem.W.lookIn name od=some (mA name):=
 let ⟨od,ho,hl⟩:=rP I.ns
 ⟨od,⟨I.obj,rfl,rfl,ho⟩,hl⟩
section
variable {prog:Program}{w:World}{A:Around}{E:Value->Shared->Prop}{s:Shared}{K:PySem.W.Frag}{x dx C f:Addr}{mA:Str->Option Value}{name:Str}{v:Value}
theorem get_map {expr:Bool}{Q:Value->Shared->Prop}(X:K.In s.heap)(I:ObjM s.heap x dx C mA)(hg:PySem.W.plainGet K C name=true)(hh:PySem.W.hasDictIn K C=true)
  (ha:PySem.W.findIn K (.ref C) name=some none) (hv:mA name=some v) (hv':PySem.W.handedIn v=true) (h:Q v {s with toks:=s.toks+1}):
  wpAny (model prog w) A (getAttr (.ref x) name expr) Q E s:=by
 obtain⟨od,J,hl⟩:=I.look;exact PySem.W.get_value X J (PySem.W.plainGet_of hg).1 (PySem.W.findObj_own hh ha rfl (by rw[hl,hv])) hv' h
theorem uL {pl:Sem Bool}{Q:Value×List Value->Shared->Prop}(X:K.In s.heap)(I:ObjM s.heap x dx C mA)(hg:PySem.W.plainGet K C name=true)
  (hf:PySem.W.findIn K (.ref C) name=some (some (.ref f))) (ht:PySem.W.isFn K (.ref f)=true) (hv:mA name=none) (h:Q (.ref f,[.ref x]) s):
  wpAny (model prog w) A (getMethod (.ref x) name pl) Q E s:=by
 obtain⟨od,J,hl⟩:=I.look;exact PySem.W.method_fn X J (PySem.W.plainGet_of hg).1 (PySem.W.plainGet_of hg).2 hf (beq_iff_eq.mp ht) (by show (PySem.W.lookIn _ od).map _=some _;simp_all) h
theorem zb {ns:List Str}{Q:Unit->Shared->Prop}(X:K.In s.heap)(I:ObjM s.heap x dx C mA)
  (hs:PySem.W.findIn K (.ref C) "__setattr__"=some (some (.builtin "object.__setattr__"))) (hp:PySem.W.plainOver K C=true) (ht:PySem.W.takerIn K C name=some none) (hh:PySem.W.hasDictIn K C=true)
  (hw:PySem.Within mA ns) (hsz:ns.length≤sizeLine)
  (h:∀h',ObjM h' x dx C (fun y=>if y=name then some v else mA y)->Heap.SameBut dx s.heap h'->Q () {s with heap:=h',toks:=s.toks+2}):
  wpAny (model prog w) A (setAttr (.ref x) name v) Q E s:=by
 obtain⟨od,J,hl⟩:=I.look;refine PySem.W.set_plain X J hs (PySem.W.osa_open (r:=none) X J hp ht fun b=>?_);obtain⟨cd,hc,hd'⟩:=PySem.W.any_some hh;have hx:=I.obj;refine wpAny_bind (wpAny_pure (wpAny_bind (wpAny_bind (wpAny_loadPart hx (wpAny_bind (PySem.W.Looks.here (PySem.W.looks_clsIn X hc) ?_))))));rw[hd'];refine wpAny_pure (a:=some dx) (wpAny_bind (wpAny_pure (wpAny_bind ?_)));refine wpAny_nsSet1 I.ns fun h' hn2 hs2=>?_
 obtain⟨oD,esD,epD,hoD,hdD,hcD⟩:=hn2.count (PySem.Within.cons name v hw);refine wpAny_bind (wpAny_lookBehind hoD (by rw[hdD];exact pastItsLine_dict (nt0 hcD (by rw[lc0];omega))) ?_);exact wpAny_pure (h _ ⟨(hs2.2 _ (Ne.symm I.ne)).trans I.obj,hn2,I.ne⟩ hs2)
theorem uM {R:Result->Shared->Prop}{vs:List Value}{kw:List (Str×Value)}(X:K.In s.heap)(hm:PySem.W.makesIn K C=true)
  (hi:PySem.W.findIn K (.ref C) "__init__"=some (some (.ref f))) (hf:PySem.W.typeIn K (.ref f)=some (.type "function"))
  (h:codeAny (model prog w) (A.under (.builtin "type.__call__" ⟨.ref C::vs,kw⟩)) (.call (.ref f) ⟨.ref (s.heap.objs.size+1)::vs,kw⟩) (PySem.W.InitBack (s.heap.objs.size+1) R)
   {s with heap:=(s.heap.push PySem.W.emptyDict).push (PySem.W.instObj C s.heap.objs.size)}):
  codeAny (model prog w) A (.call (.ref C) ⟨vs,kw⟩) R s:=by
 exact PySem.W.make_core (PySem.W.makes_of X hm) (PySem.W.looks_findIn X hi) (fun self=>PySem.W.bind_fn X _ hf) (.inl rfl) h
end
noncomputable def dZ (f:Str)(v:V):List (Str×V)->List (Str×V)
 |[]=>[(f,v)]
 |(g,x)::r=>if g=f then (g,v)::r else (g,x)::dZ f v r
theorem gd (f g:Str)(v:V):∀fs:List (Str×V),(dZ f v fs).lookup g=if g=f then some v else fs.lookup g
 |[]=>by
  show List.lookup g [(f,v)]=_
  by_cases h:g=f
  ·simp_all
  ·have hb:=beq_eq_false_iff_ne.mpr h
   simp only[List.lookup,hb,if_neg h]
 |(k,x)::r=>by
  have ih:=gd f g v r;rw[show dZ f v ((k,x)::r)=(if k=f then (k,v)::r else (k,x)::dZ f v r) from rfl]
  by_cases hk:k=f
  ·rw[if_pos hk]
   by_cases h:g=k
   ·simp_all
   ·have hb:=beq_eq_false_iff_ne.mpr h
    simp only[List.lookup,hb,if_neg (fun e:g=f=>h (e.trans hk.symm))]
  ·rw[if_neg hk]
   by_cases h:g=k
   ·simp_all
   ·have hb:=beq_eq_false_iff_ne.mpr h
    simp only[List.lookup,hb];exact ih
theorem fE (f:Str)(v:V):∀fs:List (Str×V),f∈(dZ f v fs).map (·.1)/\∀g,g∈fs.map (·.1)->g∈(dZ f v fs).map (·.1)
 |[]=>⟨by simp[dZ],fun g h=>by simp at h⟩
 |(k,x)::r=>by
  obtain⟨i1,i2⟩:=fE f v r;rw[show dZ f v ((k,x)::r)=(if k=f then (k,v)::r else (k,x)::dZ f v r) from rfl]
  by_cases hk:k=f
  ·rw[if_pos hk]
   subst hk;exact⟨by simp,fun g h=>by simpa using h⟩
  ·rw[if_neg hk]
   refine⟨?_,fun g h=>?_⟩
   ·rw[mk0]
    exact mc0 _ i1
   ·rw[mk0] at h ⊢
    rcases mq0 h with e|e
    ·exact List.mem_cons.mpr (.inl e)
    ·exact mc0 _ (i2 g e)
theorem gf (f:Str)(v:V):∀fs:List (Str×V),(dZ f v fs).length≤fs.length+1
 |[]=>by simp[dZ]
 |(k,x)::r=>by
  have ih:=gf f v r;rw[show dZ f v _=(if k=f then (k,v)::r else (k,x)::dZ f v r) from rfl]
  grind
theorem RelO.some_of {v:V}{o:Option Value}(r:RelO (some v) o):∃u,o=some u/\RelV v u:=by
 cases o with
 |none=>exact (r).elim
 |some u=>exact⟨u,rfl,r⟩
theorem RelO.none_of {o:Option Value}(r:RelO none o):o=none:=by
 cases o with
 |none=>rfl
 |some u=>exact (r).elim
theorem rQ {v:V}{u:Value}(r:RelV v u):PySem.W.handedIn u=true:=by
 cases v with
 |non=>cases (r);rfl
 |bl b=>cases (r);rfl
 |int i=>obtain⟨t,e⟩:=(r);cases e;rfl
 |str x=>obtain⟨t,e⟩:=(r);cases e;rfl
 |byt b=>obtain⟨t,e⟩:=(r);cases e;rfl
 |flt b=>obtain⟨t,e⟩:=(r);cases e;rfl
 |ref a=>cases (r);rfl
 |ty n=>cases (r);rfl
section
variable {P:Program}{w:World}{H H':Hp}{h h':Heap}{a C dx:Addr}{fs fs':List (Str×V)}
theorem gL (hok:HOk P w H h)(e:H a=some (.ins C dx fs)):∃mA,ObjM h a dx C mA/\(∀f,RelO (fs.lookup f) (mA f))/\PySem.Within mA (fs.map (·.1))/\fs.length≤1000/\H dx=some (.own a):=by
 obtain⟨d,z,ne,ob,mA,n,r,q⟩:=(hok a _ e);exact⟨mA,⟨ob,n,ne⟩,r,q,z,d⟩
end
structure Cls (K:PySem.W.Frag)(C:Addr):Prop where
 pg:PySem.W.plainGet K C Str.empty=true
 hd:PySem.W.hasDictIn K C=true
 po:PySem.W.plainOver K C=true
 sa:PySem.W.findIn K (.ref C) "__setattr__"=some (some (.builtin "object.__setattr__"))
theorem Cls.get {K:PySem.W.Frag}{C:Addr}(c:Cls K C)(f:Str):PySem.W.plainGet K C f=true:=c.pg
def NoAttr (K:PySem.W.Frag)(C:Addr)(f:Str):Prop:=PySem.W.findIn K (.ref C) f=some none
theorem NoAttr.taker {K:PySem.W.Frag}{C:Addr}{f:Str}(n:NoAttr K C f):PySem.W.takerIn K C f=some none:=by
 unfold PySem.W.takerIn;rw[n];rfl
structure ie (K:PySem.W.Frag)(C:Addr)(m:Str)(f:Addr):Prop where
 at_:PySem.W.findIn K (.ref C) m=some (some (.ref f))
 fn:PySem.W.isFn K (.ref f)=true
 kp:PySem.W.keepIn K (.ref f)=true
section
variable {X:Cx}{pins:List (Addr×Obj)}{σ:St}{H:Hp}{s:Shared}{a C dx:Addr}{fs:List (Str×V)}{f:Str}{v:V}{A:Around}{E:Value->Shared->Prop}
theorem nY {b:Bool}{Q:Value->Shared->Prop}(I:Inv X pins σ H s)(e:H a=some (.ins C dx fs))(c:Cls X.K C)(n:NoAttr X.K C f)(l:fs.lookup f=some v)
  (h:∀u s',Inv X pins σ H s'->RelV v u->Q u s'):wpAny (model X.prog X.w) A (getAttr (.ref a) f b) Q E s:=by
 obtain⟨mA,O,r,_,_,_⟩:=gL I.hok e;obtain⟨u,hu,ru⟩:=RelO.some_of (by rw[←l];exact r f);exact get_map I.kIn O (c.get f) c.hd n hu (rQ ru) (h u _ (I.tok _) ru)
theorem cH {m:Str}{g:Addr}{pl:Sem Bool}{Q:Value×List Value->Shared->Prop}(I:Inv X pins σ H s)(e:H a=some (.ins C dx fs))(c:Cls X.K C)(k:ie X.K C m g)(l:fs.lookup m=none)
  (h:Q (.ref g,[.ref a]) s):wpAny (model X.prog X.w) A (getMethod (.ref a) m pl) Q E s:=by
 obtain⟨mA,O,r,_,_,_⟩:=gL I.hok e;exact uL I.kIn O (c.get m) k.at_ k.fn (RelO.none_of (by rw[←l];exact r m)) h
theorem nZ {y:V}{u:Value}{Q:Unit->Shared->Prop}(I:Inv X pins σ H s)(e:H a=some (.ins C dx fs))(c:Cls X.K C)(n:NoAttr X.K C f)(hl:fs.length<1000)(ry:RelV y u)
  (h:∀s',Inv X pins σ (upd H a (.ins C dx (dZ f y fs))) s'->Q () s'):wpAny (model X.prog X.w) A (setAttr (.ref a) f u) Q E s:=by
 obtain⟨mA,O,r,wi,_,ho⟩:=gL I.hok e;have hz:(fs.map (·.1)).length≤sizeLine:=by rw[lm0,sizeLine_eq];omega
 refine zb I.kIn O c.sa c.po n.taker c.hd wi hz fun h' O' sb=>h _ ?_
 have hd:∃o,h'.get? dx=some o:=let ⟨o,_,_,e',_⟩:=O'.ns;⟨o,e'⟩
 refine I.write (x:=a) (e:=dx) (by rw[e];exact True.intro) (.inr ho) (fun b q hb z=>(sb.2 b hb).trans z) hd ?_;refine⟨by rw[aa O.ne];exact ho,?_,O.ne,O'.obj,_,O'.ns,fun g=>?_,fun g hg=>?_⟩
 ·have:=gf f y fs;omega
 ·rw[gd]
  by_cases q:g=f
  ·rw[if_pos q,if_pos q];exact ry
  ·rw[if_neg q,if_neg q];exact r g
 ·by_cases q:g=f
  ·rw[q];exact (fE f y fs).1
  ·refine (fE f y fs).2 g (wi g fun z=>hg ?_)
   simp_all
theorem Inv.made (I:Inv X pins σ H s):Inv X pins σ (upd (upd H s.heap.objs.size (.own (s.heap.objs.size+1))) (s.heap.objs.size+1) (.ins C s.heap.objs.size []))
  {s with heap:=(s.heap.push PySem.W.emptyDict).push (PySem.W.instObj C s.heap.objs.size)}:=by
 have e1:(s.heap.push PySem.W.emptyDict).get? _=some _:=pz0 _ rfl;have e2:=by
  have:=pz0 (s.heap.push PySem.W.emptyDict) (o:=PySem.W.instObj C s.heap.objs.size) rfl
  rwa [Heap.size_push] at this
 have e3:(s.heap.push _).Ns _ _:=⟨_,_,_,e1,rfl,(fun e he=>absurd he (by simp)),fun a=>rfl⟩;refine (I.laid (o:=.own _) (t':=s.toks) (fun b u q=>ps0 _ q) (nr0 _) ⟨_,e1⟩).laid (fun b u q=>ps0 _ q) (Nat.le_of_eq (Heap.size_push _ _)) ?_;have ne:s.heap.objs.size≠s.heap.objs.size+1:=nn0 (Nat.lt_succ_self _);refine⟨by rw[aa ne,ae],Nat.zero_le _,ne,e2,_,(Heap.Ns1.of_empty e3).at fun o q=>ps0 _ q,fun a=>True.intro,fun y hy=>absurd rfl hy⟩
theorem attr_of {prog:Program}{w:World}{env:Env}{e:Expr}{f:Str}{pos:Pos}{s:Shared}{Q:Value->Shared->Prop}(hb:attributeBase e f env (eval e env)=eval e env)
  (h:wpAny (model prog w) A (eval e env) (fun o s₁=>wpAny (model prog w) A (getAttr o f true) Q E s₁) E s):wpAny (model prog w) A (eval (.Attribute e f pos) env) Q E s:=
 Attribute_any_ h (by rw[arm_eval_Attribute,hb])
end
def IP (K:PySem.W.Frag)(ta:TE)(f:Str):TE:=fun σ H Q=>ta σ H fun x H1=>∃a C dx fs v,x=.ref a/\H1 a=some (.ins C dx fs)/\Cls K C/\NoAttr K C f/\fs.lookup f=some v/\Q v H1
def IQ (K:PySem.W.Frag)(ta tv:TE)(f:Str):TS:=fun D σ H=>tv σ H fun y H1=>ta σ H1 fun x H2=>∃a C dx fs,x=.ref a/\H2 a=some (.ins C dx fs)/\Cls K C/\NoAttr K C f/\fs.length<1000/\
 D.nx σ (upd H2 a (.ins C dx (dZ f y fs)))
section
variable {X:Cx}{o e value:Expr}{f:Str}{pos pos' tpos:Pos}{ta tv:TE}
theorem oa (he:PE X e ta)(hb:attributeBase e f X.env (eval e X.env)=eval e X.env):PE X (.Attribute e f pos) (IP X.K ta f):=by
 intro pins s σ H Q I h;refine attr_of hb (thn (he pins s σ H _ I h) ?_);rintro u s1 ⟨x,H1,I1,rx,a,C,dx,fs,v,ex,ea,c,n,l,q⟩;subst ex;obtain rfl:u=Value.ref a:=rx;exact nY I1 ea c n l fun u' s2 I2 ru=>⟨v,H1,I2,ru,q⟩
theorem uN (ha:PE X o ta)(hv:PE X value tv)(hs:swapsWith value (some (.Attribute o f pos')) pos.line X.env=pure false):PS X (.Assign [.Attribute o f pos'] value pos) (IQ X.K ta tv f):=by
 intro pins s σ H D I h;refine plainObj_wpAny_Assign_Attribute (thn (hv pins s σ H _ I h) fun u s1 ⟨y,H1,I1,ry,q⟩=>thn (ha pins s1 σ H1 _ I1 q) ?_) hs;rintro ov s2 ⟨x,H2,I2,rx,a,C,dx,fs,ex,ea,c,n,l,q2⟩;subst ex;obtain rfl:ov=Value.ref a:=rx;exact nZ I2 ea c n l ry fun s3 I3=>⟨σ,_,I3,q2⟩
theorem BC {pl:Sem Bool}{m:Str}{apos:Pos}{args:List Expr}{pins:List (Addr×Obj)}{s:Shared}{σ:St}{H:Hp}{Q:Value->Shared->Prop}{te:TE}(he:PE X e te)(I:Inv X pins σ H s)
  (h:te σ H fun x H1=>∃a C dx fs g,x=.ref a/\H1 a=some (.ins C dx fs)/\Cls X.K C/\ie X.K C m g/\fs.lookup m=none/\
   ∀s1,Inv X pins σ H1 s1->wpAny (model X.prog X.w) X.A (callWith pos (.ref g) [.ref a] (backTo pos (starEach args X.env)) (backToKw pos (keywordEach [] X.env))) Q X.xe s1)
  (ht:eval (.Call (.Attribute e m apos) args [] pos) X.env=(do
   let ov ←eval e X.env
   standAt apos.atName
   let (f,first) ←holding [ov] (getMethod ov m pl)
   callWith pos f first (backTo pos (starEach args X.env)) (backToKw pos (keywordEach [] X.env)))):
  wpAny (model X.prog X.w) X.A (eval (.Call (.Attribute e m apos) args [] pos) X.env) Q X.xe s:=by
 refine PySem.W.methodCall_KW (pl:=pl) (thn (he pins s σ H _ I h) ?_) ht;rintro u s1 ⟨x,H1,I1,rx,a,C,dx,fs,g,ex,ea,c,k,l,q⟩;subst ex;obtain rfl:u=Value.ref a:=rx;exact cH I1 ea c k l (q s1 I1)
end
section
variable {X:Cx}{pins:List (Addr×Obj)}{σ:St}{H:Hp}{s:Shared}{A:Around}{E:Value->Shared->Prop}{Q:Value->Shared->Prop}{c:Value}{b:Bool}
inductive eG (K:PySem.W.Frag)(H:Hp):V->Value->Prop where
 |non:eG K H .non (.type "NoneType")
 |bl (x:Bool):eG K H (.bl x) (.type "bool")
 |int (i:Int):eG K H (.int i) (.type "int")
 |str (x:Str):eG K H (.str x) (.type "str")
 |flt (x:UInt64):eG K H (.flt x) (.type "float")
 |lst {a:Addr} {xs:List V} (e:H a=some (.lst xs)):eG K H (.ref a) (.type "list")
 |frz {a:Addr} {o:Obj} {xs:List V} (e:H a=some (.frz o (.lst xs))):eG K H (.ref a) (.type "list")
 |tup {a:Addr} {xs:List V} (e:H a=some (.tup xs)):eG K H (.ref a) (.type "tuple")
 |dK {a:Addr} {kvs:List (Key×V)} (e:H a=some (.dK kvs)):eG K H (.ref a) (.type "dict")
 |dT {a:Addr} {kvs:List (List Key×V)} (e:H a=some (.dT kvs)):eG K H (.ref a) (.type "dict")
 |ins {a C dx:Addr} {fs:List (Str×V)} (e:H a=some (.ins C dx fs)) (cl:Cls K C) (ha:PySem.W.findIn K (.ref C) "__class__"=some (some (.builtin "object.__class__")))
   (hn:PySem.W.specialIn K (.builtin "object.__class__") "__get__"=some (some (.builtin "getset_descriptor.__get__"))) (htk:PySem.W.takesIn K (.builtin "object.__class__")=some true)
   (hm:PySem.W.mroIn K C (.type "object")=some true):eG K H (.ref a) (.ref C)
theorem rR {x:V}{u t:Value}(I:Inv X pins σ H s)(rx:RelV x u)(ty:eG X.K H x t)(e:PySem.W.kitOne X.K t c=some b)(h:∀tk,Q (.bool b) {s with toks:=tk}):
  wpAny (model X.prog X.w) A (call (.builtin "isinstance") [u,c]) Q E s:=by
 cases ty with
 |non=>cases (show u=Value.none from rx);exact PySem.W.kia_one PySem.W.kitx_none I.kIn True.intro e (fun z=>nomatch z) h
 |bl y=>cases (show u=Value.bool y from rx);exact PySem.W.kia_one PySem.W.kitx_bool I.kIn True.intro e (fun z=>nomatch z) h
 |int i=>obtain⟨t,q⟩:=(show ∃t,u=Value.int i t from rx);cases q;exact PySem.W.kia_one PySem.W.kitx_int I.kIn True.intro e (fun z=>nomatch z) h
 |str y=>obtain⟨t,q⟩:=(show ∃t,u=Value.str y t from rx);cases q;exact PySem.W.kia_one PySem.W.kitx_str I.kIn True.intro e (fun z=>nomatch z) h
 |flt y=>obtain⟨t,q⟩:=(show ∃t,u=Value.float y t from rx);cases q;exact PySem.W.kia_one PySem.W.kitx_float I.kIn True.intro e (fun z=>nomatch z) h
 |@lst a xs ea=>
  cases (show u=Value.ref a from rx);obtain⟨_,_,n,_,h1⟩:=(show ObjOk X.prog X.w H s.heap a (.lst xs) from I.hok a _ ea);exact PySem.W.kia_one PySem.W.kitx_list I.kIn ⟨_,h1,rfl⟩ e (fun z=>nomatch z) h
 |@frz a ob xs ea=>
  cases (show u=Value.ref a from rx);obtain⟨_,_,_,n,_,h1⟩:=(show ObjOk X.prog X.w H s.heap a (.frz ob (.lst xs)) from I.hok a _ ea);exact PySem.W.kia_one PySem.W.kitx_list I.kIn ⟨_,h1,rfl⟩ e (fun z=>nomatch z) h
 |@tup a xs ea=>
  cases (show u=Value.ref a from rx);obtain⟨_,_,_,p⟩:=(show ObjOk X.prog X.w H s.heap a (.tup xs) from I.hok a _ ea);obtain⟨o,h1,h2,_⟩:=p;exact PySem.W.kia_one PySem.W.kitx_tuple I.kIn ⟨o,h1,h2⟩ e (fun z=>nomatch z) h
 |@dK a kvs ea=>
  cases (show u=Value.ref a from rx);obtain⟨_,_,vs,_,p⟩:=(show ObjOk X.prog X.w H s.heap a (.dK kvs) from I.hok a _ ea);obtain⟨o,es,ep,h1,h2,_⟩:=p;exact PySem.W.kia_one PySem.W.kitx_dict I.kIn ⟨o,h1,h2.1⟩ e (fun z=>nomatch z) h
 |@dT a kvs ea=>
  cases (show u=Value.ref a from rx);obtain⟨_,_,xs,_,o,es,ep,h1,h2,_⟩:=(show ObjOk X.prog X.w H s.heap a (.dT kvs) from I.hok a _ ea);exact PySem.W.kia_one PySem.W.kitx_dict I.kIn ⟨o,h1,h2.1⟩ e (fun z=>nomatch z) h
 |@ins a C dx fs ea cl ha hn htk hm=>
  cases (show u=Value.ref a from rx);obtain⟨mA,O,_⟩:=gL I.hok ea;obtain⟨od,J,_⟩:=O.look;exact PySem.W.kia_one (PySem.W.kitx_own (cl.get _) cl.hd ha hn htk hm) I.kIn J e (fun z=>nomatch z) h
end
structure Room (k:Nat)(A:Around):Prop where
 hd:A.handled=none
 dp:A.depth+3*k+5<recursionLimit
 un:A.units+16*k+200<cLine
theorem Room.mono {j k:Nat}{A:Around}(r:Room k A)(h:j≤k):Room j A:=⟨r.hd,by have:=r.dp;grind,by have:=r.un;grind⟩
theorem Room.deeper {k:Nat}{A:Around}(r:Room (k+1) A)(env:Env):Room k (A.deeper env):=
 ⟨r.hd,by have:=r.dp;show A.depth+1+3*k+5<_;grind,by have:=r.un;show A.units+3+16*k+200<_;grind⟩
theorem og {A:Around}{C:Addr}{us:List Value}{kw:List (Str×Value)}:(A.under (.builtin "type.__call__" ⟨.ref C::us,kw⟩)).depth=A.depth+1:=rfl
theorem oh {A:Around}{C:Addr}{us:List Value}{kw:List (Str×Value)}:(A.under (.builtin "type.__call__" ⟨.ref C::us,kw⟩)).units=A.units+1:=rfl
theorem Room.make {k:Nat}{A:Around}(r:Room (k+1) A)(C:Addr)(us:List Value)(kw:List (Str×Value)):Room k (A.under (.builtin "type.__call__" ⟨.ref C::us,kw⟩)):=
 ⟨r.hd,by have:=r.dp;rw[og];grind,by have:=r.un;rw[oh];grind⟩
theorem Room.depth {k:Nat}{A:Around}(r:Room k A):A.depth<recursionLimit:=by have:=r.dp;grind
theorem Room.units {k:Nat}{A:Around}(r:Room k A):A.units+64<cLine:=by have:=r.un;grind
def CU:TA:=fun a H Q=>Q [] H
def FY (ta:TE)(tr:TA):TA:=fun σ H Q=>ta σ H fun x H1=>tr σ H1 fun xs H2=>Q (x::xs) H2
section
variable {X:Cx}{e:Expr}{es:List Expr}{te:TE}{t:TA}{pos:Pos}
theorem aU:PA X [] CU:=fun a a a a H Q I h=>Calls.spliced_nil ⟨[],H,I,.nil,h⟩
theorem aA (ha:PE X e te)(hr:PA X es t)(hs:starEach (e::es) X.env=(false,eval e X.env)::starEach es X.env:=by rfl):PA X (e::es) (FY te t):=by
 intro pos pins s σ H Q I h;rw[hs];show wpAny _ _ (spliced ((false,eval e X.env)::backTo pos (starEach es X.env))) _ _ s;refine Calls.spliced_cons (thn (ha pins s σ H _ I h) ?_);rintro u s1 ⟨x,H1,I1,r1,q1⟩;exact thn (hr pos pins s1 σ H1 _ I1 q1) fun us s2 ⟨xs,H2,I2,r2,q2⟩=>⟨x::xs,H2,I2,.cons r1 r2,q2⟩
def IR (t:TA):TE:=fun σ H Q=>t σ H fun xs H1=>xs.length≤sizeLine/\∀p,H1 p=none->Q (.ref p) (upd H1 p (.tup xs))
def IS (t:TA):TE:=fun σ H Q=>t σ H fun xs H1=>xs.length≤sizeLine/\∀p,H1 p=none->Q (.ref p) (upd H1 p (.lst xs))
theorem CV {x1}(h:PA X es t):PE X (.Tuple es x1 pos) (IR t):=by
 intro pins s σ H Q I hq;refine wpAny_Tuple_spliced (thn (h _ _ s σ H _ I hq) fun us s1 ⟨xs,H1,I1,r,z,q⟩=>⟨by rwa [←r.length],?_⟩);refine⟨.ref _,_,I1.laid (fun b u e=>ps0 _ e) (nr0 _) ?_,rfl,q _ (I1.hok.fresh (nr0 _))⟩;exact⟨z,us,r,⟨_,pz0 _ rfl,rfl,_,rfl⟩⟩
theorem uO (h:PA X es t):PE X (.List es pos) (IS t):=by
 intro pins s σ H Q I hq;refine wpAny_List_spliced (thn (h _ _ s σ H _ I hq) fun us s1 ⟨xs,H1,I1,r,z,q⟩=>⟨by rwa [←r.length],?_⟩);refine⟨.ref _,_,I1.laid (fun b u e=>ps0 _ e) (nr0 _) ?_,rfl,q _ (I1.hok.fresh (nr0 _))⟩;exact⟨z,us,0,r,pz0 _ rfl⟩
end
abbrev Sp:=List V->Hp->VK->XK->Prop
abbrev CXT:=List Env->Hp->Shared->XK->Value->Shared->Prop
structure Env0 (P:Program)(w:World)(K:PySem.W.Frag)(mg:Str->Option Value)(base:Heap)(A:Around)(outer:List Env)(s:Shared)(H:Hp):Prop where
 frames:A.frames=some outer
 mod:Mod K mg base
 bs:∀b o,base.get? b=some o->s.heap.get? b=some o/\H b=none
 bsz:base.objs.size≤s.heap.objs.size
 funs:s.heap.FunFrames base outer
 frf:∀b∈frs outer,H b=none
 hok:HOk P w H s.heap
 bare:AllBare s.gens
def CE (outer:List Env)(P:Program)(w:World)(H:Hp)(s:Shared)(Q:VK)(u:Value)(s':Shared):Prop:=
 ∃v H',s'.os=s.os/\AllBare s'.gens/\Un (frs outer) [] H H' s.heap s'.heap/\HOk P w H' s'.heap/\RelV v u/\Q v H'
def CR (CX:CXT)(outer:List Env)(P:Program)(w:World)(H:Hp)(s:Shared)(Q:VK)(E:XK)(r:Result)(s':Shared):Prop:=
 match r with
 |.ok (.ret u)=>CE outer P w H s Q u s'
 |.ok _=>False
 |.error e=>CX outer H s E e s'
structure FnOk (P:Program)(w:World)(K:PySem.W.Frag)(mg:Str->Option Value)(base:Heap)(CX:CXT)(k:Nat)(f:Addr)(fd:FuncData)(ps:List Str)(sp:Sp):Prop where
 len:∀vs H Q E,sp vs H Q E->vs.length=ps.length
 run:∀(A:Around) (outer:List Env) (s:Shared) (H:Hp) (args:Args) (us:List Value) (vs:List V) (Q:VK) (E:XK),Room k A->Env0 P w K mg base A outer s H->BindsTo s fd args (ps.zip us)->Vals vs us->sp vs H Q E->
  codeAny (model P w) A (.call (.ref f) args) (CR CX outer P w H s Q E) s
theorem FnOk.mono {P:Program}{w:World}{K:PySem.W.Frag}{mg:Str->Option Value}{base:Heap}{CX:CXT}{j k:Nat}{f:Addr}{fd:FuncData}{ps:List Str}{sp:Sp}(F:FnOk P w K mg base CX j f fd ps sp)(h:j≤k):
  FnOk P w K mg base CX k f fd ps sp:=⟨F.len,fun A outer s H args us vs Q E hr=>F.run A _ s H _ us vs Q E (hr.mono h)⟩
theorem Env0.make {P:Program}{w:World}{K:PySem.W.Frag}{mg:Str->Option Value}{base:Heap}{A:Around}{outer:List Env}{s:Shared}{H:Hp}(e:Env0 P w K mg base A outer s H)(C:Addr)(us:List Value)(kw:List (Str×Value)):
  Env0 P w K mg base (A.under (.builtin "type.__call__" ⟨.ref C::us,kw⟩)) outer s H:=⟨by first|exact e.frames|rfl,e.mod,e.bs,e.bsz,e.funs,e.frf,e.hok,e.bare⟩
section
variable {X:Cx}{pins:List (Addr×Obj)}{σ:St}{H:Hp}{s s':Shared}
theorem Inv.env0 (I:Inv X pins σ H s):Env0 X.prog X.w X.K X.mg X.base X.A X.stack s H:=
 ⟨I.ok.frames,I.ok.mod,I.bs,nt0 I.ok.bsz I.sz,I.stack,I.stkFree,I.hok,I.bare⟩
theorem Inv.after {Q:VK}{u:Value}(I:Inv X pins σ H s)(h:CE X.stack X.prog X.w H s Q u s'):EP X pins σ Q u s':=by
 obtain⟨v,H',os,bare,un,hok,r,q⟩:=h;obtain⟨hh,g,d,t,os'⟩:=s';obtain rfl:os'=s.os:=os;exact⟨v,H',I.call un hok bare (fun b z=>absurd z (by simp)),r,q⟩
end
def FZ (sp:Sp)(dvs:List V)(E:XK)(t:TA):TE:=fun σ H Q=>t σ H fun vs H1=>sp (vs++dvs) H1 Q E
def BD (C:Addr)(m:Str)(sp:Sp)(dvs:List V)(E:XK)(ta:TE)(t:TA):TE:=fun σ H Q=>ta σ H fun x H1=>∃a dx fs,x=.ref a/\H1 a=some (.ins C dx fs)/\fs.lookup m=none/\
 t σ H1 fun vs H2=>sp (x::(vs++dvs)) H2 Q E
def Ga (C:Addr)(sp:Sp)(dvs:List V)(E:XK)(t:TA):TE:=fun σ H Q=>t σ H fun vs H1=>∀x dx,H1 x=none->H1 dx=none->dx≠x->
 sp (.ref x::(vs++dvs)) (upd (upd H1 dx (.own x)) x (.ins C dx [])) (fun v H2=>v=.non/\Q (.ref x) H2) E
def Binds (K:PySem.W.Frag)(fd:FuncData)(ps:List Str)(ds:List Value):Prop:=
 ∀(s:Shared) (us:List Value),K.In s.heap->(us++ds).length=ps.length->BindsTo s fd ⟨us,[]⟩ (ps.zip (us++ds))
theorem Binds.all {K:PySem.W.Frag}{fd:FuncData}{ps:List Str}(h:∀us:List Value,us.length=ps.length->bindArgs fd ⟨us,[]⟩=pure (ps.zip us)):Binds K fd ps []:=fun s us a hl=>by
 rw[List.append_nil] at hl ⊢;exact .of_eq (h us hl)
def eg (CX:CXT)(X:Cx)(E:XK):Prop:=∀(pins:List (Addr×Obj)) (σ:St) (H:Hp) (s:Shared) (e:Value) (s':Shared),Inv X pins σ H s->CX X.stack H s E e s'->X.xe e s'
section
variable {X:Cx}{CX:CXT}{k:Nat}{f C:Addr}{fd:FuncData}{ps:List Str}{sp:Sp}{dvs:List V}{ds:List Value}{E:XK}{x m:Str}{p pos apos:Pos}{e o:Expr}{es:List Expr}{ta:TE}{t:TA}
theorem oj {pins:List (Addr×Obj)}{σ:St}{H:Hp}{s:Shared}{Q:VK}{us:List Value}{vs:List V}(F:FnOk X.prog X.w X.K X.mg X.base CX k f fd ps sp)(hr:Room k X.A)(hb:Binds X.K fd ps ds)(hd:Vals dvs ds)(hx:eg CX X E)
  (I:Inv X pins σ H s) (r:Vals vs us) (h:sp (vs++dvs) H Q E):wpAny (model X.prog X.w) X.A (call (.ref f) us) (EP X pins σ Q) X.xe s:=by
 have r2:=r.append hd;have hl:(us++ds).length=ps.length:=by rw[←r2.length];exact F.len _ _ _ _ h
 refine wpAny_call (codeAny_mono (F.run _ _ s H _ _ _ Q E hr I.env0 (hb s us I.kIn hl) r2 h) fun r s' hq=>?_);cases r with
 |error e=>exact hx _ σ H s e s' I hq
 |ok fl=>
  cases fl with
  |ret u=>exact I.after hq
  |next=>exact False.elim hq
  |brk=>exact False.elim hq
  |cont=>exact False.elim hq
theorem zc (F:FnOk X.prog X.w X.K X.mg X.base CX k f fd ps sp)(hr:Room k X.A)(hg:Gl X x)(hm:X.mg x=some (.ref f))(hk:PySem.W.keepIn X.K (.ref f)=true)(hb:Binds X.K fd ps ds)(hd:Vals dvs ds)(hx:eg CX X E)
  (ha:PA X (e::es) t) (hdb:(x==("__debug__":Str))=false:=by decide) (he:starEach (e::es) X.env=(false,eval e X.env)::starEach es X.env:=by rfl) (hpl:(backTo pos (starEach es X.env)).any (·.1)=false:=by rfl):
  PE X (.Call (.Name x p) (e::es) [] pos) (FZ sp dvs E t):=by
 exact fun pins s σ H Q I h=>wpAny_Call_Name_kw (dz I hg hm (PySem.W.callWith_K I.ok.mod.kin hk (thn (ha _ _ s σ H _ I h) fun us s1 ⟨vs,H1,I1,r,q⟩=>⟨I1.kIn,oj F hr hb hd hx I1 r q⟩) he hpl) hdb)
theorem zd {pl:Sem Bool}(he:PE X o ta)(c:Cls X.K C)(hm:ie X.K C m f)(F:FnOk X.prog X.w X.K X.mg X.base CX k f fd ps sp)(hr:Room k X.A)(hb:Binds X.K fd ps ds)(hd:Vals dvs ds)(hx:eg CX X E)(ha:PA X (e::es) t)
  (hst:starEach (e::es) X.env=(false,eval e X.env)::starEach es X.env:=by rfl) (hpl:(backTo pos (starEach es X.env)).any (·.1)=false:=by rfl)
  (ht:eval (.Call (.Attribute o m apos) (e::es) [] pos) X.env=(do
   let ov ←eval o X.env
   standAt apos.atName
   let (f,first) ←holding [ov] (getMethod ov m pl)
   callWith pos f first (backTo pos (starEach (e::es) X.env)) (backToKw pos (keywordEach [] X.env))):=by rfl):
  PE X (.Call (.Attribute o m apos) (e::es) [] pos) (BD C m sp dvs E ta t):=by
 intro pins s σ H Q I h;refine PySem.W.methodCall_KW (pl:=pl) (thn (he pins s σ H _ I h) ?_) ht;rintro u s1 ⟨x,H1,I1,rx,a,dx,fs,ex,ea,l,q⟩;subst ex;obtain rfl:u=Value.ref a:=rx;refine cH I1 ea c hm l ?_;refine PySem.W.callWith_K (first:=[.ref a]) (h₀:=X.base) I.ok.mod.kin hm.kp (thn (ha pos pins s1 σ H1 _ I1 q) fun us s2 ⟨vs,H2,I2,r,q2⟩=>⟨I2.kIn,?_⟩) hst hpl;exact oj (us:=.ref a::us) (vs:=.ref a::vs) F hr hb hd hx I2 (.cons rfl r) q2
theorem uP {pl:Sem Bool}(he:PE X o ta)(c:Cls X.K C)(hm:ie X.K C m f)(F:FnOk X.prog X.w X.K X.mg X.base CX k f fd ps sp)(hr:Room k X.A)(hb:Binds X.K fd ps ds)(hd:Vals dvs ds)(hx:eg CX X E)
  (ht:eval (.Call (.Attribute o m apos) [] [] pos) X.env=(do
   let ov ←eval o X.env
   standAt apos.atName
   let (f,first) ←holding [ov] (getMethod ov m pl)
   callWith pos f first (backTo pos (starEach [] X.env)) (backToKw pos (keywordEach [] X.env))):=by rfl):
  PE X (.Call (.Attribute o m apos) [] [] pos) (BD C m sp dvs E ta CU):=by
 intro pins s σ H Q I h;refine PySem.W.methodCall_KW (pl:=pl) (thn (he pins s σ H _ I h) ?_) ht;rintro u s1 ⟨x,H1,I1,rx,a,dx,fs,ex,ea,l,q⟩;subst ex;obtain rfl:u=Value.ref a:=rx;refine cH I1 ea c hm l ?_;exact PySem.W.callWith_K0 (first:=[.ref a]) I1.kIn hm.kp (oj (us:=[.ref a]) (vs:=[.ref a]) F hr hb hd hx I1 (.cons rfl .nil) q)
structure Mk (K:PySem.W.Frag)(C f:Addr):Prop where
 makes:PySem.W.makesIn K C=true
 init:PySem.W.findIn K (.ref C) "__init__"=some (some (.ref f))
 fn:PySem.W.isFn K (.ref f)=true
 kp:PySem.W.keepIn K (.ref C)=true
theorem uQ {pins:List (Addr×Obj)}{σ:St}{H:Hp}{s:Shared}{Q:VK}{us:List Value}{vs:List V}(M:Mk X.K C f)(F:FnOk X.prog X.w X.K X.mg X.base CX k f fd ps sp)(hr:Room (k+1) X.A)(hb:Binds X.K fd ps ds)(hd:Vals dvs ds)
  (hx:eg CX X E) (I:Inv X pins σ H s) (r:Vals vs us)
  (h:∀x dx,H x=none->H dx=none->dx≠x->sp (.ref x::(vs++dvs)) (upd (upd H dx (.own x)) x (.ins C dx [])) (fun v H2=>v=.non/\Q (.ref x) H2) E):
  wpAny (model X.prog X.w) X.A (call (.ref C) us) (EP X pins σ Q) X.xe s:=by
 have hq:=h _ s.heap.objs.size (I.hok.fresh (Nat.le_succ _)) (I.hok.fresh (nr0 _)) (nn0 (Nat.lt_succ_self _));have I2:=Inv.made (C:=C) I;have r2:Vals (V.ref (s.heap.objs.size+1)::(vs++dvs)) _:=.cons rfl (r.append hd);have hl:=by
  have e:=r2.length;rw[F.len _ _ _ _ hq] at e;exact e.symm
 refine wpAny_call (uM (f:=f) I.kIn M.makes M.init (beq_iff_eq.mp M.fn) (codeAny_mono (F.run _ X.stack _ _ _ _ _ _ E (hr.make C us [])
  (I2.env0.make C us []) (hb _ _ I2.kIn hl) r2 hq) fun r s' hq'=>?_))
 cases r with
 |error e=>exact hx pins σ _ _ e s' I2 hq'
 |ok fl=>
  cases fl with
  |ret u=>
   obtain⟨v,H',I3,rv,ev,q3⟩:=I2.after hq';subst ev;exact⟨rv,⟨V.ref (s.heap.objs.size+1),H',I3,rfl,q3⟩⟩
  |next=>exact False.elim hq'
  |brk=>exact False.elim hq'
  |cont=>exact False.elim hq'
theorem uR (M:Mk X.K C f)(F:FnOk X.prog X.w X.K X.mg X.base CX k f fd ps sp)(hr:Room (k+1) X.A)(hg:Gl X x)(hm:X.mg x=some (.ref C))(hb:Binds X.K fd ps ds)(hd:Vals dvs ds)(hx:eg CX X E)
  (hdb:(x==("__debug__":Str))=false:=by decide):PE X (.Call (.Name x p) [] [] pos) (Ga C sp dvs E CU):=by
 exact fun pins s σ H Q I h=>wpAny_Call_Name_kw (dz I hg hm (PySem.W.callWith_K0 I.kIn M.kp (uQ (us:=[]) M F hr hb hd hx I .nil h)) hdb)
end
section
variable {X:Cx}{CX:CXT}{k:Nat}{f C:Addr}{fd:FuncData}{ps ks:List Str}{sp:Sp}{E:XK}{x m:Str}{p pos apos kpos:Pos}{e o:Expr}{es:List Expr}{kws:List Keyword}{te ta:TE}{t tk:TA}{nm:Option Str}
variable {g:List Value->List Value->List Value}{gV:List V->List V->List V}
end
structure bh (N P:List Str)(sc:Scope):Prop where
 kind:sc.kind=.function
 co:sc.isCoroutine=false
 gen:sc.isGenerator=false
 nd:N.Nodup
 pre:N.take P.length=P
 par:∀x∈P,sc.names.lookup x=some .local\/sc.names.lookup x=some .cell
 nofree:∀y∈sc.names,y.2≠.free
theorem jm {kindOf:Str->Option NameKind}{x:Str}:∀{binds:List (Str×Value)} {m:Str->Option Value},(∀v,(x,v)∉binds)->bindL kindOf binds m x=m x
 |[],_,_=>rfl
 |(n,v)::r,m,h=>by
  unfold bindL;rw[jm fun w hw=>h w (mc0 _ hw)];split
  ·have:x≠n:=by rintro rfl;exact h v ms0
   simp[this]
  ·rfl
theorem jn {kindOf:Str->Option NameKind}{x:Str}:∀{binds:List (Str×Value)} {m:Str->Option Value},(∀v,(x,v)∉binds)->bindC kindOf binds m x=m x
 |[],_,_=>rfl
 |(n,v)::r,m,h=>by
  unfold bindC;rw[jn fun w hw=>h w (mc0 _ hw)];split
  ·rfl
  ·have:x≠n:=by rintro rfl;exact h v ms0
   simp[this]
theorem jo {kindOf:Str->Option NameKind}{x:Str}{v:Value}:∀{P:List Str} {vs:List Value} {i:Nat} {m:Str->Option Value},P.Nodup->P[i]?=some x->vs[i]?=some v->kindOf x=some .local->
  bindL kindOf (P.zip vs) m x=some v
 |[],_,_,_,_,h,_,_=>by simp at h
 |_::_,[],_,_,_,_,h,_=>by simp at h
 |p::P,w::vs,0,m,nd,h1,h2,hk=>by
  simp at h1 h2;subst h1;subst h2;show bindL _ ((p,w)::P.zip vs) m p=_;unfold bindL;rw[jm fun v hv=>(List.nodup_cons.mp nd).1 (List.of_mem_zip hv).1,if_pos hk];simp
 |p::P,w::vs,i+1,m,nd,h1,h2,hk=>by
  unfold bindL;exact jo (List.nodup_cons.mp nd).2 (by simpa using h1) (by simpa using h2) hk
theorem jq {kindOf:Str->Option NameKind}{x:Str}{v:Value}:∀{P:List Str} {vs:List Value} {i:Nat} {m:Str->Option Value},P.Nodup->P[i]?=some x->vs[i]?=some v->kindOf x≠some .local->
  bindC kindOf (P.zip vs) m x=some v
 |[],_,_,_,_,h,_,_=>by simp at h
 |_::_,[],_,_,_,_,h,_=>by simp at h
 |p::P,w::vs,0,m,nd,h1,h2,hk=>by
  simp at h1 h2;subst h1;subst h2;show bindC _ ((p,w)::P.zip vs) m p=_;unfold bindC;rw[jn fun v hv=>(List.nodup_cons.mp nd).1 (List.of_mem_zip hv).1,if_neg hk];simp
 |p::P,w::vs,i+1,m,nd,h1,h2,hk=>by
  unfold bindC;exact jq (List.nodup_cons.mp nd).2 (by simpa using h1) (by simpa using h2) hk
def start (N:List Str)(vs:List V):St:=vs.map some++List.replicate (N.length-vs.length) none
noncomputable def cY (CX:CXT)(P:Program)(w:World)(K:PySem.W.Frag)(mg:Str->Option Value)(base:Heap)(N:List Str)(qual:Str)(scope:Scope)(f:Addr)(cd:Value)(A:Around)(outer:List Env)(s:Shared)(H:Hp)(E:XK):Cx where
 prog:=P
 w:=w
 K:=K
 mg:=mg
 base:=base
 A:=A.deeper (envOfC qual scope s.heap.objs.size f cd)
 N:=N
 s₀:=s
 H₀:=H
 env:=envOfC qual scope s.heap.objs.size f cd
 outer:=outer
 stack:=envOfC qual scope s.heap.objs.size f cd::outer
 ex:=[]
 calm:=true
 fn:=fun a=>true
 pn:=[]
 xe:=fun e s'=>wpAny (model P w) (A.deeper (envOfC qual scope s.heap.objs.size f cd)) (leaving (envOfC qual scope s.heap.objs.size f cd) e) (fun a s''=>CX outer H s E e s'') (fun e' s''=>CX outer H s E e' s'') s'
theorem lD {sc:Scope}{n:Nat}{x:Str}(h:sc.names.lookup x=some .cell):∃c,(cellsFrom n sc.names []).lookup x=some c:=by
 exact Option.isSome_iff_exists.mp (PySem.W.cellsFrom_some _ n [] (.inl h))
theorem rS {CX:CXT}{P:Program}{w:World}{K:PySem.W.Frag}{mg:Str->Option Value}{base:Heap}{N ps:List Str}{qual:Str}{scope:Scope}{f:Addr}{cd:Value}{A:Around}{outer:List Env}{s s1:Shared}{H:Hp}{E:XK}{us:List Value}{vs:List V}
  (S:bh N ps scope) (hd:A.handled=none) (e0:Env0 P w K mg base A outer s H) (hl:vs.length=ps.length) (r:Vals vs us)
  (x:InCallC s s.heap.objs.size (bindL (envOfC qual scope s.heap.objs.size f cd).kindOf (ps.zip us) fun d=>none) (cellsFrom (s.heap.objs.size+1) scope.names []) (bindC (envOfC qual scope s.heap.objs.size f cd).kindOf (ps.zip us) fun d=>none) s1):
  Inv (cY CX P w K mg base N qual scope f cd A outer s H E) [] (start N vs) H s1:=by
 have hpl:ps.length≤N.length:=by have:=congrArg List.length S.pre;rw[List.length_take] at this;grind
 obtain⟨h1,tk,rfl,hk⟩:=x.done;have noA:∀b:Addr,b∉(cY CX P w K mg base N qual scope f cd A outer s H E).ex:=fun b z=>absurd (show b∈([]:List Addr) from z) (by simp)
 refine⟨⟨e0.mod,S.kind,rfl,rfl,nr0 _,fun y z c h1 h2=>?_,fun y hy=>?_,fun y c d h=>?_,fun d=>hd,Around.frames_deeper e0.frames,.inr ⟨rfl,rfl⟩,fun b z=>absurd z (noA b),e0.bs,e0.bsz,fun b d d=>noA b,fun b z=>absurd z (noA b),e0.funs,e0.frf⟩,
  rfl,e0.bare,Un.kept hk,⟨_,x.toInCall.ns,fun i y v h1 h2 h3=>?_⟩,fun y c h=>⟨_,x.cell y c h⟩,e0.hok.fresh (nr0 _),fun y c h=>?_,fun p hp=>absurd (show p∈([]:List (Addr×Obj)) from hp) (by simp),e0.hok.kept hk,?_⟩
 ·exact name_of_addr x.apart (PySem.mem_of_lookup h1) (PySem.mem_of_lookup h2)
 ·have hy:scope.names.lookup y=some .cell\/scope.names.lookup y=some .free:=hy
  rcases hy with hy|hy
  ·exact lD hy
  ·exact absurd rfl (S.nofree _ (PySem.mem_of_lookup hy))
 ·exact Nat.le_of_lt (x.above y c (PySem.mem_of_lookup h))
 ·have hi:i<vs.length:=by
   unfold start at h2
   by_cases hi:i<vs.length
   ·exact hi
   ·rw[List.getElem?_append_right (by simpa using hi)] at h2
    rw[List.getElem?_replicate] at h2;split at h2<;>cases h2
  have ha:vs[i]?=some v:=by
   unfold start at h2;rw[gl0 (by simpa using hi),gm0] at h2;cases e:vs[i]? with
   |none=>rw[e] at h2;cases h2
   |some a=>rw[e] at h2;cases h2;rfl
  obtain⟨u,hu,rv⟩:=r.get ha;have hp:ps[i]?=some y:=by
   rw[←S.pre,List.getElem?_take_of_lt (by simp_all)];exact h1
  have ndP:ps.Nodup:=by rw[←S.pre];exact S.nd.sublist (List.take_sublist _ _)
  refine⟨u,rv,?_⟩;rcases S.par y (mg0 hp) with k|k
  ·exact .inl ⟨k,jo ndP hp hu k⟩
  ·obtain⟨c,e⟩:=lD (n:=s.heap.objs.size+1) k
   refine .inr ⟨.inl k,c,e,?_⟩;have q:=x.cell y c e;rw[jq ndP hp hu (by show scope.names.lookup y≠_;rw[k];decide)] at q;exact q
 ·exact e0.hok.fresh (Nat.le_of_lt (x.above y c (PySem.mem_of_lookup h)))
 ·unfold start
  show _=N.length;rw[la0,lm0,List.length_replicate]
  simp_all
theorem uS {CX:CXT}{P:Program}{w:World}{K:PySem.W.Frag}{mg:Str->Option Value}{base:Heap}{k:Nat}{f:Addr}{name qual:Str}{params:Arguments}{body:List Stmt}{scope:Scope}{dV kV doc pm cdv ct oc:Value}{an od:Option Addr}
  {osl:Array (Option Value)} {N ps:List Str} {sp:Sp} (lk:K.lookup f=some ⟨oc,od,.func (PySem.W.fnOf name qual params body scope dV kV doc pm an cdv ct),osl⟩) (hcd:PySem.W.codeIn K cdv qual=true) (S:bh N ps scope)
  (len:∀vs H Q E,sp vs H Q E->vs.length=ps.length)
  (hbody:∀(A:Around) (outer:List Env) (s:Shared) (H:Hp) (vs:List V) (Q:VK) (E:XK),Room k (A.deeper (envOfC qual scope s.heap.objs.size f cdv))->sp vs H Q E->
   ∃t,PSs (cY CX P w K mg base N qual scope f cdv A outer s H E) body t/\t {nx:=fun a H'=>Q .non H',rt:=Q} (start N vs) H):
  FnOk P w K mg base CX (k+1) f (PySem.W.fnOf name qual params body scope dV kV doc pm an cdv ct) ps sp:=by
 refine⟨len,fun A outer s H args us vs Q E hr e0 hb r hsp=>?_⟩;have hl:=len _ _ _ _ hsp;have KX:K.In s.heap:=e0.mod.kin.keeps fun b o e=>(e0.bs b o e).1
 have lim:s.heap.NoLimit:=e0.mod.nolimit.keeps fun b o e=>(e0.bs b o e).1
 have hkind:∀y∈ps.zip us,scope.names.lookup y.1=some .local\/(scope.names.lookup y.1=some .cell/\((cellsFrom (s.heap.objs.size+1) scope.names []).lookup y.1).isSome=true):=fun⟨n,v⟩ hy=>by
  rcases S.par n (List.of_mem_zip hy).1 with q|q
  ·exact .inl q
  ·exact .inr ⟨q,PySem.W.cellsFrom_some _ _ _ (.inl q)⟩
 refine codeAny_call_function hr.depth (KX _ _ lk) rfl S.co S.gen rfl (PySem.W.codeRec_of KX hcd) (hb _ _ _ _ ?_);refine wpAny_newFunctionEnv_cells S.kind hkind fun env he s1 x=>?_
 subst he;refine⟨lim.keeps x.toInCall.keep,codeAny_func ?_⟩;obtain⟨t,ht,hq⟩:=hbody A outer s H vs Q E (hr.deeper _) hsp;have I:Inv (cY CX P w K mg base N qual scope f cdv A outer s H E) [] (start N vs) H s1:=rS S hr.hd e0 hl r x;refine wpAny_mono (ht [] s1 (start N vs) H _ I hq) (fun fl s' hs=>?_) fun e s' hs=>hs
 have fin:∀{σ':St} {H':Hp} {v:V} {u:Value},Inv (cY CX P w K mg base N qual scope f cdv A outer s H E) [] σ' H' s'->RelV v u->Q v H'->CE outer P w H s Q u s':=
  fun {σ' H' v u} J rv q=>⟨v,H',J.os,J.bare,J.base,J.hok,rv,q⟩
 cases fl with
 |ret u=>
  obtain⟨v,σ',H',J,rv,q⟩:=hs;exact fin J rv q
 |next=>
  obtain⟨σ',H',J,q⟩:=hs;exact fin (v:=V.non) J rfl q
 |brk=>
  obtain⟨_,_,_,q⟩:=hs;exact False.elim q
 |cont=>
  obtain⟨_,_,_,q⟩:=hs;exact False.elim q
section
variable {X:Cx}{x:Str}{p pos:Pos}{e:Expr}{es:List Expr}{t:TA}{id T:String}{r:List V->Hp->VK->Prop}
def tCB (r:List V->Hp->VK->Prop)(t:TA):TE:=fun σ H Q=>t σ H fun vs H1=>r vs H1 Q
theorem bT (hc:ba X (.builtin id) r)(hg:Gl X x)(hm:X.mg x=none)(hv:bootBuiltins x=some (.builtin id))(ha:PA X (e::es) t)(hn:x≠"__name__":=by decide)(hdb:(x==("__debug__":Str))=false:=by decide)
  (he:starEach (e::es) X.env=(false,eval e X.env)::starEach es X.env:=by rfl) (hpl:(backTo pos (starEach es X.env)).any (·.1)=false:=by rfl):PE X (.Call (.Name x p) (e::es) [] pos) (tCB r t):=by
 exact fun pins s σ H Q I h=>wpAny_Call_Name_kw (ld_blt I hg hm hv (PyProof.Rows.callWith_builtin1 (thn (ha _ _ s σ H _ I h) fun us s1 ⟨vs,H1,I1,r1,q1⟩=>hc _ s1 σ H1 vs us Q I1 r1 q1) he hpl) hn hdb)
theorem aX (hc:ba X (.type T) r)(hg:Gl X x)(hm:X.mg x=none)(hv:bootBuiltins x=some (.type T))(ha:PA X (e::es) t)(hn:x≠"__name__":=by decide)(hdb:(x==("__debug__":Str))=false:=by decide)
  (he:starEach (e::es) X.env=(false,eval e X.env)::starEach es X.env:=by rfl) (hpl:(backTo pos (starEach es X.env)).any (·.1)=false:=by rfl):PE X (.Call (.Name x p) (e::es) [] pos) (tCB r t):=by
 exact fun pins s σ H Q I h=>wpAny_Call_Name_kw (ld_blt I hg hm hv (PyProof.Rows.callWith_type1 (thn (ha _ _ s σ H _ I h) fun us s1 ⟨vs,H1,I1,r1,q1⟩=>hc _ s1 σ H1 vs us Q I1 r1 q1) he hpl) hn hdb)
end
end L2
namespace HT
open PySem PyProof.Rows
section
open PySem.SeqAt
open PySem.AutoSeq1 (wpAny_loadPart')
open PySem.MeetsSeq PySem.MeetsSeq2 PySem.MeetsSeq3
end
section
variable {prog:Program}{w:World}{A:Around}{E:Value->Shared->Prop}{s:Shared}
def sIx (n d:Nat):Option Int->Nat
 |none=>d
 |some v=>if v<0 then (v+(n:Int)).toNat else min v.toNat n
end
end HT
namespace L2
open PySem PySem.Spec PyProof.Rows
abbrev TO:=St->Hp->(Option Int->Hp->Prop)->Prop
def PO (X:Cx)(e:Option Expr)(t:TO):Prop:=
 ∀(pins:List (Addr×Obj)) (s:Shared) (σ:St) (H:Hp) (Q:Option Int->Hp->Prop),Inv X pins σ H s->t σ H Q->
  wpAny (model X.prog X.w) X.A (evalPart e X.env) (fun u s'=>∃o H',Inv X pins σ H' s'/\IsPart u o/\Q o H') X.xe s
def ze:TO:=fun a H Q=>Q none H
def Gc (t:TE):TO:=fun σ H Q=>t σ H fun x H1=>∃i,x=.int i/\Q (some i) H1
theorem intsAre_of {ns:List Int}:∀{us:List Value},Vals (ns.map V.int) us->IntsAre us ns:=by
 induction ns with
 |nil=>intro us r;cases r;exact .nil
 |cons n ns ih=>
  intro us r;cases r with
  |cons r1 r2=>
   obtain⟨t,e⟩:=r1;subst e;exact .cons n t (ih r2)
section
variable {X:Cx}{e:Expr}{te:TE}{lo hi:Option Expr}{tl th:TO}{pos p2:Pos}
theorem zf:PO X none ze:=by
 exact fun pins s σ H Q I h=>wpAny_pure ⟨_,H,I,.none,h⟩
theorem qe (h:PE X e te):PO X (some e) (Gc te):=by
 intro pins s σ H Q I hw;rw[evalPart_some];refine thn (h pins s σ H _ I hw) ?_;rintro u s1 ⟨x,H1,I1,r1,q1⟩;obtain⟨i,rfl,q⟩:=q1;obtain⟨t,rfl⟩:=r1;exact⟨some i,H1,I1,.int i t,q⟩
def SlR (X:Cx)(r:V->Option Int->Option Int->Hp->VK->Prop):Prop:=
 ∀(pins:List (Addr×Obj)) (s:Shared) (σ:St) (H:Hp) (x:V) (v vl vu:Value) (lo hi:Option Int) (sl:Addr) (Q:VK),Inv X pins σ H s->RelV x v->s.heap.IsSliceOf sl vl vu .none->IsPart vl lo->IsPart vu hi->r x lo hi H Q->
  ∃T id,typeLookup (.type T) "__getitem__"=pure (some (.builtin id))/\s.TypeIs v T/\wpAny (model X.prog X.w) X.A (getItem v (.ref sl)) (EP X pins σ Q) X.xe s
def tSl (r:V->Option Int->Option Int->Hp->VK->Prop)(te:TE)(tl th:TO):TE:=fun σ H Q=>te σ H fun x H1=>tl σ H1 fun l H2=>th σ H2 fun u H3=>r x l u H3 Q
theorem uT {r:V->Option Int->Option Int->Hp->VK->Prop}(hr:SlR X r)(he:PE X e te)(hl:PO X lo tl)(hu:PO X hi th):PE X (.Subscript e (.Slice lo hi none p2) pos) (tSl r te tl th):=by
 intro pins s σ H Q I h;refine Subscript_ (thn (he _ s σ H _ I h) fun v s1 ⟨x,H1,I1,r1,q1⟩=>?_);refine wpAny_Slice (thn (hl _ s1 σ H1 _ I1 q1) fun vl s2 ⟨l,H2,I2,pl,q2⟩=>thn (hu pins s2 σ H2 _ I2 q2) fun vu s3 ⟨u,H3,I3,pu,q3⟩=>?_);refine wpAny_pure ?_;have I4:Inv X _ σ H3 {s3 with heap:=s3.heap.push {cls:=.type "slice",data:=.fields #[vl,vu,.none]}}:=I3.kept fun b ob q=>ps0 _ q
 obtain⟨T,id,hT,ht,hg⟩:=hr pins _ σ H3 x v vl vu l u _ Q I4 r1 (Heap.IsSliceOf.new ..) pl pu q3;exact tail_any ht hT hg (rfl)
noncomputable def uU (xs:List V)(lo hi:Option Int):List V:=(xs.drop (HT.sIx xs.length 0 lo)).take (HT.sIx xs.length xs.length hi-HT.sIx xs.length 0 lo)
theorem lF (xs:List V)(lo hi:Option Int):(uU xs lo hi).length≤xs.length:=by
 unfold uU;rw[List.length_take,List.length_drop]
 grind
end
def ixN (n:Nat)(i:Int):Option Nat:=if 0≤i then (if i<n then some i.toNat else none) else if -(n:Int)≤i then some (i+n).toNat else none
noncomputable def atI {α:Type}(xs:List α)(i:Int):Option α:=(ixN xs.length i).bind fun j=>xs[j]?
theorem qf {n:Nat}{i:Int}{j:Nat}(h:ixN n i=some j):seqIndex? i n=some j/\j<n/\ -(n:Int)≤i/\i<n:=by
 unfold ixN at h
 by_cases h0:0≤i
 ·rw[if_pos h0] at h
  by_cases h1:i<n
  ·rw[if_pos h1] at h
   have e:i.toNat=j:=Option.some.inj h;exact⟨by rw[seqIndex_of h0 h1,e],by grind,by grind,h1⟩
  ·rw[if_neg h1] at h;cases h
 ·rw[if_neg h0] at h
  by_cases h1:-(n:Int)≤i
  ·rw[if_pos h1] at h
   have e:(i+n).toNat=j:=Option.some.inj h;exact⟨by rw[seqIndex_neg (by simp_all) h1,e],by grind,h1,by grind⟩
  ·rw[if_neg h1] at h;cases h
theorem gM {α:Type}{xs:List α}{i:Int}{v:α}(h:atI xs i=some v):∃j,seqIndex? i xs.length=some j/\xs[j]?=some v/\j<xs.length/\ -(xs.length:Int)≤i/\i<xs.length:=by
 unfold atI at h;cases e:ixN xs.length i with
 |none=>simp_all
 |some j=>
  rw[e] at h;obtain⟨h1,h2,h3,h4⟩:=qf e;exact⟨j,h1,h,h2,h3,h4⟩
theorem lH {α:Type}(xs:List α)(v:α):atI (xs++[v]) (-1)=some v:=by
 have hl:(xs++[v]).length=xs.length+1:=by simp
 have e:ixN (xs++[v]).length (-1)=some xs.length:=by
  unfold ixN;rw[hl,if_neg (by decide),if_pos (by omega)]
  congr 1
  omega
 unfold atI;rw[e];show (xs++[v])[xs.length]?=some v;simp
def zg (b:Expr):Prop:=∀o i,subscripted b false o i=operate [o,i] (getItem o i)
def IxR (X:Cx)(r:R2):Prop:=
 ∀(value slice:Expr) (pins:List (Addr×Obj)) (s:Shared) (σ:St) (H:Hp) (x y:V) (v u:Value) (Q:VK),Inv X pins σ H s->RelV x v->RelV y u->r x y H Q->
  subscripted slice false v u=operate [v,u] (getItem v u)->wpAny (model X.prog X.w) X.A (subscriptTail value slice v u) (EP X pins σ Q) X.xe s
def MtR (X:Cx)(id:String)(r:V->List V->Hp->VK->Prop):Prop:=
 ∀(pins:List (Addr×Obj)) (s:Shared) (σ:St) (H:Hp) (x:V) (xs:List V) (v:Value) (us:List Value) (Q:VK),Inv X pins σ H s->RelV x v->Vals xs us->r x xs H Q->
  wpAny (model X.prog X.w) X.A (call (.builtin id) (v::us)) (EP X pins σ Q) X.xe s
section
variable {X:Cx}{a b:Expr}{ta tb:TE}{pos:Pos}
theorem qg {r:R2}(hr:IxR X r)(ha:PE X a ta)(hb:PE X b tb)(hs:zg b):PE X (.Subscript a b pos) (tOp r ta tb):=by
 exact fun pins s σ H Q I h=>Subscript_ (CN ha hb I h fun v u s2 x y H2 I2 rx ry q=>hr a b _ s2 σ H2 x y v u Q I2 rx ry q (hs _ _))
def IT (K:PySem.W.Frag):R2:=fun x y H Q=>∃p xs i v,x=.ref p/\y=.int i/\SqL K H p xs/\atI xs i=some v/\Q v H
def IU (K:PySem.W.Frag):R2:=fun x y H Q=>∃p xs i v,x=.ref p/\y=.int i/\SqT K H p xs/\atI xs i=some v/\Q v H
def IV:R2:=fun x y H Q=>∃z i c,x=.str z/\y=.int i/\z.length≤sizeLine/\atI z.cps.toList i=some c/\Q (.str ⟨#[c]⟩) H
theorem qh:IxR X (IT X.K):=by
 intro value slice pins s σ H x y v u Q I rx ry h hs;obtain⟨p,xs,i,z,rfl,rfl,hq,he,q⟩:=h;cases rx;obtain⟨t,rfl⟩:=ry;obtain⟨its,r,pl,hz⟩:=I.list hq;obtain⟨j,h1,h2,h3,h4,h5⟩:=gM he;obtain⟨w,ew,rw'⟩:=r.get h2;have hl:=r.length;have hn:=fD;have fin:EP X pins σ Q w s:=⟨z,H,I,rw',q⟩
 by_cases h0:0≤i
 ·have hj:i.toNat=j:=by
   rw[seqIndex_of h0 h5] at h1;exact Option.some.inj h1
  exact item_listR pl.isList h0 (by grind) (by rw[hj];simpa using ew) fin hs
 ·have hj:(i+(its.toArray.size:Int)).toNat=j:=by
   rw[seqIndex_neg (by simp_all) h4] at h1;rw[ls0,←hl];exact Option.some.inj h1
  exact subscriptTail_builtinR (x:=w) pl.isList.typeIs slot_list_getitem.lookup
   (wpAny_getItem_list_neg (Q:=fun r s'=>r=w/\EP X pins σ Q r s') pl.isList (by simp_all) (by rw[ls0]<;>simp_all) (by grind) (by rw[hj];simpa using ew) ⟨rfl,fin⟩) hs
theorem om:IxR X (IU X.K):=by
 intro value slice pins s σ H x y v u Q I rx ry h hs;obtain⟨p,xs,i,z,rfl,rfl,hq,he,q⟩:=h;cases rx;obtain⟨t,rfl⟩:=ry;obtain⟨its,r,pl,hz⟩:=I.tuple hq;obtain⟨j,h1,h2,h3,h4,h5⟩:=gM he;obtain⟨w,ew,rw'⟩:=r.get h2;have hl:=r.length;have hn:=fD;have fin:EP X pins σ Q w s:=⟨z,H,I,rw',q⟩;exact subscriptTail_builtinR (x:=w) pl.typeIs slot_tuple_getitem.lookup
  (getItem_tuple (j:=j) (Q:=fun r s'=>r=w/\EP X pins σ Q r s') pl (by grind) (by grind) (by rw[ls0,←hl];exact h1) (by simpa using ew) ⟨rfl,fin⟩) hs
theorem CW:IxR X IV:=by
 intro value slice pins s σ H x y v u Q I rx ry h hs;obtain⟨z,i,c,rfl,rfl,hz,he,q⟩:=h;obtain⟨t,rfl⟩:=rx;obtain⟨t',rfl⟩:=ry;obtain⟨j,h1,h2,h3,h4,h5⟩:=gM he;have hl:z.cps.toList.length=z.length:=by simp[Str.length]
 rw[hl] at h1 h4 h5;have hn:=fD;exact tail_any (typeIs_str s z t) slot_str_getitem.lookup (getItem_str (c:=c) (by
  grind) (by rw[h1];simpa using h2) ⟨.str ⟨#[c]⟩,H,I.tok _,⟨_,rfl⟩,q⟩) hs
theorem oq (its:List Value)(n j:Nat)(u:Value):Obj.mapSeq (·.setIfInBounds j u) {cls:=.type "list",data:=.seq its.toArray n}={cls:=.type "list",data:=.seq (its.set j u).toArray n}:=by
 simp[Obj.mapSeq]
theorem Inv.lst {pins:List (Addr×Obj)}{σ:St}{H:Hp}{s:Shared}{p:Addr}{xs:List V}(I:Inv X pins σ H s)(h:H p=some (.lst xs)):
  ∃(its:List Value) (n:Nat),Vals xs its/\s.heap.get? p=some {cls:=.type "list",data:=.seq its.toArray n}/\xs.length≤sizeLine:=by
 obtain⟨z,its,n,r,e⟩:=I.hok p _ h;exact⟨_,n,r,e,z⟩
theorem Inv.lstUpd {pins:List (Addr×Obj)}{σ:St}{H:Hp}{s:Shared}{p:Addr}{xs ys:List V}{its its':List Value}{n n':Nat}{f:Obj->Obj}(I:Inv X pins σ H s)(h:H p=some (.lst xs))
  (ho:s.heap.get? p=some {cls:=.type "list",data:=.seq its.toArray n}) (hf:f {cls:=.type "list",data:=.seq its.toArray n}={cls:=.type "list",data:=.seq its'.toArray n'}) (r:Vals ys its') (hz:ys.length≤sizeLine) (t:Nat):
  Inv X pins σ (upd H p (.lst ys)) {s with heap:=s.heap.update p f,toks:=t}:=by
 have e:(s.heap.update p f).get? p=some {cls:=.type "list",data:=.seq its'.toArray n'}:=by
  rw[Heap.get?_update_self f ho (by rw[hf]<;>rfl),hf]
 refine I.write (by rw[h];trivial) (.inl rfl) (fun b u hb q=>(Heap.get?_update_other _ _ (Ne.symm hb)).trans q) ⟨_,e⟩ ?_;exact⟨hz,_,n',r,e⟩
def Gd:V->V->V->Hp->(Hp->Prop)->Prop:=fun o i v H Q=>∃p xs k j,o=.ref p/\i=.int k/\H p=some (.lst xs)/\ixN xs.length k=some j/\Q (upd H p (.lst (xs.set j v)))
theorem set_list:CM X Gd:=by
 intro pins s σ H o i v ov iv u Q I ro ri rv h;obtain⟨p,xs,k,j,rfl,rfl,hp,hj,q⟩:=h;cases ro;obtain⟨t,rfl⟩:=ri;obtain⟨its,n,r,ho,hz⟩:=I.lst hp;obtain⟨h1,h2,h3,h4⟩:=qf hj;have hl:=r.length;have hn:=fD;have I':Inv X pins σ (upd H p (.lst (xs.set j v))) {s with heap:=s.heap.update p (Obj.mapSeq (·.setIfInBounds j u))}:=
  I.lstUpd hp ho (oq its n j u) (r.set rv j) (by rw[List.length_set];exact hz) s.toks
 by_cases h0:0≤k
 ·have hk:k.toNat=j:=by
   rw[seqIndex_of h0 h4] at h1;exact Option.some.inj h1
  exact PySem.W.ki_setAt ho h0 (by grind) (by rw[ls0,←hl];exact h4) (by rw[hk];exact⟨_,I',q⟩)
 ·have hk:(k+(its.toArray.size:Int)).toNat=j:=by
   rw[seqIndex_neg (by simp_all) h3] at h1;rw[ls0,←hl];exact Option.some.inj h1
  exact PySem.W.ki_setBack ho (by simp_all) (by rw[ls0,←hl];exact h3) (by grind) (by rw[hk];exact⟨_,I',q⟩)
theorem ku (lo hi:Option Int)(n:Nat):(sliceBounds lo hi none n).1=((HT.sIx n 0 lo:Nat):Int)/\(sliceBounds lo hi none n).2.1=((HT.sIx n n hi:Nat):Int)/\(sliceBounds lo hi none n).2.2=1:=by
 refine⟨?_,?_,rfl⟩
 ·cases lo with
  |none=>rfl
  |some i=>
   simp only[sliceBounds,HT.sIx,Option.getD_none,show (1:Int)>0 by decide,if_true]
   by_cases h:i<0
   ·simp only[h,if_true]<;>omega
   ·simp only[h,if_false]<;>omega
 ·cases hi with
  |none=>rfl
  |some i=>
   simp only[sliceBounds,HT.sIx,Option.getD_none,show (1:Int)>0 by decide,if_true]
   by_cases h:i<0
   ·simp only[h,if_true]<;>omega
   ·simp only[h,if_false]<;>omega
theorem ja (its:List Value)(lo hi:Option Int):slicePick its.toArray lo hi none=((its.drop (HT.sIx its.length 0 lo)).take (HT.sIx its.length its.length hi-HT.sIx its.length 0 lo)).toArray:=by
 obtain⟨h1,h2,h3⟩:=ku lo hi _;unfold slicePick;rw[h1,h2,h3];simp only[sliceRange_one,pick_run]<;>rfl
def IW (K:PySem.W.Frag):V->Option Int->Option Int->Hp->VK->Prop:=fun x lo hi H Q=>∃a xs,x=.ref a/\SqL K H a xs/\∀p,H p=none->Q (.ref p) (upd H p (.lst (uU xs lo hi)))
theorem qi:SlR X (IW X.K):=by
 intro pins s σ H x v vl vu lo hi sl Q I rx hs pl pu h;obtain⟨a,xs,rfl,hx,q⟩:=h;cases rx;obtain⟨its,r,ht,hz⟩:=I.list hx;have hlen:=r.length;refine⟨_,_,slot_list_getitem.lookup,ht.isList.typeIs,?_⟩;refine wpAny_getItem_list_slice ht.isList hs pl pu .none (by simp) ?_ (by grind);rw[ja,←hlen];refine⟨.ref _,_,I.laid (fun b ob q=>ps0 _ q) (nr0 _) ?_,rfl,q _ (I.hok.fresh (nr0 _))⟩;exact⟨nt0 (lF xs lo hi) hz,_,0,(r.drop _).take _,pz0 _ rfl⟩
noncomputable def jr:V->Bool
 |.non=>true
 |.bl _=>true
 |.int _=>true
 |.str _=>true
 |_=>false
noncomputable def eqV:V->V->Bool
 |.non,.non=>true
 |.bl a,.bl b=>a==b
 |.bl a,.int b=>(if a then 1 else 0)==b
 |.int a,.bl b=>a==(if b then 1 else 0)
 |.int a,.int b=>a==b
 |.str a,.str b=>a==b
 |_,_=>false
theorem CY {A:Around}{s:Shared}{y x:V}{u v:Value}(ry:RelV y u)(rx:RelV x v)(fy:jr y=true)(fx:jr x=true):SeqAt.EqAt A s u v (eqV y x):=by
 cases y with
 |non=>
  cases ry;cases x with
  |non=>cases rx;exact SeqAt.EqAt.same _
  |bl b=>cases rx;exact SeqAt.EqAt.none_bool b
  |int b=>obtain⟨t,rfl⟩:=rx;exact SeqAt.EqAt.none_int b t
  |str b=>obtain⟨t,rfl⟩:=rx;exact SeqAt.EqAt.none_str b t
  |_=>exact absurd (show false=true from fx) fx0
 |bl a=>
  cases ry;cases x with
  |non=>cases rx;exact SeqAt.EqAt.bool_none a
  |bl b=>cases rx;exact SeqAt.EqAt.bool_bool a b
  |int b=>obtain⟨t,rfl⟩:=rx;exact SeqAt.EqAt.bool_int a b t
  |str b=>obtain⟨t,rfl⟩:=rx;exact SeqAt.EqAt.bool_str a b t
  |_=>exact absurd (show false=true from fx) fx0
 |int a=>
  obtain⟨t',rfl⟩:=ry;cases x with
  |non=>cases rx;exact SeqAt.EqAt.int_none a t'
  |bl b=>cases rx;exact SeqAt.EqAt.int_bool a t' b
  |int b=>obtain⟨t,rfl⟩:=rx;exact SeqAt.EqAt.int_int a t' b t
  |str b=>obtain⟨t,rfl⟩:=rx;exact SeqAt.EqAt.int_str a t' b t
  |_=>exact absurd (show false=true from fx) fx0
 |str a=>
  obtain⟨t',rfl⟩:=ry;cases x with
  |non=>cases rx;exact SeqAt.EqAt.str_none a t'
  |bl b=>cases rx;exact SeqAt.EqAt.str_bool a t' b
  |int b=>obtain⟨t,rfl⟩:=rx;exact SeqAt.EqAt.str_int a t' b t
  |str b=>obtain⟨t,rfl⟩:=rx;exact SeqAt.EqAt.str_str a t' b t
  |_=>exact absurd (show false=true from fx) fx0
 |_=>exact absurd (show false=true from fy) fx0
def eqU (x:V)(u:Value):Bool:=match u with
 |.none=>eqV .non x
 |.bool b=>eqV (.bl b) x
 |.int i _=>eqV (.int i) x
 |.str z _=>eqV (.str z) x
 |_=>false
theorem CZ {x y:V}{u:Value}(r:RelV y u)(f:jr y=true):eqU x u=eqV y x:=by
 cases y with
 |non=>cases r;rfl
 |bl b=>cases r;rfl
 |int i=>obtain⟨t,rfl⟩:=r;rfl
 |str z=>obtain⟨t,rfl⟩:=r;rfl
 |_=>exact absurd (f) fx0
theorem ig {A:Around}{s:Shared}{x:V}{v:Value}(rx:RelV x v)(fx:jr x=true):∀{xs:List V} {us:List Value},Vals xs us->xs.all jr=true->∀u∈us,SeqAt.EqAt A s u v (eqU x u)
 |_,_,.nil,_=>fun u hu=>by cases hu
 |y::xs,u::us,.cons r t,f=>fun u' hu=>by
  rw[List.all_cons,be0] at f;rcases mq0 hu with rfl|hu
  ·rw[CZ r f.1];exact CY r rx f.1 fx
  ·exact ig rx fx t f.2 u' hu
theorem ky:OpR X (compareOp .NotIn) (fun x y H Q=>∃i j,x=.str i/\y=.str j/\Q (.bl (!(!(Builtin.Str.occurrences j i 0 j.length 1).isEmpty))) H):=by
 intro pins s σ H x y v u Q I rx ry h;obtain⟨i,j,rfl,rfl,q⟩:=h;obtain⟨t,rfl⟩:=rx;obtain⟨t',rfl⟩:=ry;exact notIn_str ⟨.bl _,H,I,rfl,q⟩
theorem kz:ba X (.builtin "len") (fun xs H Q=>∃p ys,xs=[.ref p]/\(SqL X.K H p ys\/SqT X.K H p ys)/\Q (.int ys.length) H):=by
 intro pins s σ H xs us Q I r h;obtain⟨p,ys,rfl,hq,q⟩:=h;obtain⟨u,rfl,rx⟩:=vals1 r;cases rx;have hn:=fD;rcases hq with hq|hq
 ·obtain⟨its,r',pl,hz⟩:=I.list hq
  have hlen:=r'.length;exact Calls.call_len_list pl.isList (by simp only[ls0]<;>omega) ⟨.int _,H,I.tok _,⟨_,by rw[ls0,hlen]⟩,q⟩
 ·obtain⟨its,r',pl,hz⟩:=I.tuple hq
  have hlen:=r'.length;exact len_tuple pl (by simp only[ls0]<;>omega) ⟨.int _,H,I.tok _,⟨_,by rw[ls0,hlen]⟩,q⟩
theorem bI:ba X (.type "list") (fun xs H Q=>∃p ys,xs=[.ref p]/\(SqL X.K H p ys\/SqT X.K H p ys)/\∀l,H l=none->Q (.ref l) (upd H l (.lst ys))):=by
 intro pins s σ H xs us Q I r h;obtain⟨p,ys,rfl,hq,q⟩:=h;obtain⟨u,rfl,rx⟩:=vals1 r;cases rx;have fin:∀(its:List Value),Vals ys its->ys.length≤sizeLine->∀(h':Heap) (c':Nat),(∀b o',s.heap.get? b=some o'->h'.get? b=some o')->
   h'.get? s.heap.objs.size=some _->EP X pins σ Q _ _:=fun its r' hz h' c' kp e=>
  ⟨.ref _,_,I.laid (t':=s.toks) kp (nr0 _) (show ObjOk X.prog X.w _ h' _ (.lst ys) from⟨hz,its,c',r',e⟩),rfl,q _ (I.hok.fresh (nr0 _))⟩
 rcases hq with hq|hq
 ·obtain⟨its,r',pl,hz⟩:=I.list hq
  have hlen:=r'.length;obtain⟨o,ho,hc,n,hd⟩:=pl.isList;exact call_list_seq p (.inl rfl) ho hc hd (fun h' c' kp e=>fin its r' hz h' c' kp e) (by simp_all)
 ·obtain⟨its,r',pl,hz⟩:=I.tuple hq
  have hlen:=r'.length;obtain⟨o,ho,hc,n,hd⟩:=pl;exact call_list_seq p (.inr rfl) ho hc hd (fun h' c' kp e=>fin its r' hz h' c' kp e) (by simp_all)
theorem dQ:ba X (.type "tuple") (fun xs H Q=>∃p ys,xs=[.ref p]/\((SqL X.K H p ys/\∀l,H l=none->Q (.ref l) (upd H l (.tup ys)))\/(SqT X.K H p ys/\Q (.ref p) H))):=by
 intro pins s σ H xs us Q I r h;obtain⟨p,ys,rfl,h⟩:=h;obtain⟨u,rfl,rx⟩:=vals1 r;cases rx;rcases h with⟨hq,q⟩|⟨hq,q⟩
 ·obtain⟨its,r',pl,hz⟩:=I.list hq
  have hlen:=r'.length;refine call_tuple_list pl.isList (fun h' kp=>?_) (by simp only[ls0]<;>omega);have I1:Inv X pins σ H {s with heap:=h'}:=I.kept (t':=s.toks) kp;have I2:Inv X pins σ (upd H h'.objs.size (.tup ys)) {s with heap:=h'.push {cls:=.type "tuple",data:=.seq its.toArray}}:=
   I1.laid (t':=s.toks) (fun b o e=>ps0 _ e) (nr0 _) (show ObjOk X.prog X.w _ _ _ (.tup ys) from⟨hz,its,r',IsTup.new _ _⟩)
  exact⟨.ref h'.objs.size,_,I2,rfl,q _ (I1.hok.fresh (nr0 _))⟩
 ·obtain⟨its,r',pl,hz⟩:=I.tuple hq
  exact call_tuple_same pl ⟨.ref p,H,I,rfl,q⟩
def tyV (K:PySem.W.Frag)(T:String)(x:V)(H:Hp):Prop:=match x with
 |.str _=>T="str"
 |.int _=>T="int"
 |.ref p=>(T="list"/\∃xs,SqL K H p xs)\/(T="tuple"/\∃o,K.lookup p=some o/\o.cls=.type "tuple"/\o.dict=none)\/
   (T="dict"/\((∃kvs,H p=some (.dK kvs))\/∃kvs,H p=some (.dT kvs)))\/(T="set"/\∃S n,H p=some (.set S n))
 |_=>False
theorem Da {pins:List (Addr×Obj)}{σ:St}{H:Hp}{s:Shared}{T:String}{x:V}{v:Value}(I:Inv X pins σ H s)(r:RelV x v)(ty:tyV X.K T x H):
  s.TypeIs v T/\∀a,v=.ref a->∃ob,s.heap.get? a=some ob/\ob.dict=none:=by
 cases x with
 |str z=>
  obtain⟨t,rfl⟩:=r;cases (show T="str" from ty);exact⟨typeIs_str s z t,fun b e=>nomatch e⟩
 |int i=>
  obtain⟨t,rfl⟩:=r;cases (show T="int" from ty);exact⟨typeIs_int s i t,fun b e=>nomatch e⟩
 |ref p=>
  cases r;rcases ty with⟨rfl,xs,hq⟩|⟨rfl,o,hk,hc,hd⟩|⟨rfl,hk⟩|⟨rfl,S,n,hk⟩
  ·obtain⟨its,_,pl,_⟩:=I.list hq
   refine⟨pl.isList.typeIs,fun a e=>?_⟩;cases e;obtain⟨o,n,e,c,hd,_⟩:=pl;exact⟨o,e,hd⟩
  ·refine⟨⟨o,I.kIn p o hk,hc⟩,fun a e=>?_⟩
   cases e;exact⟨o,I.kIn _ o hk,hd⟩
  ·have z:∃o,s.heap.get? p=some o/\o.ExactDict:=by
    rcases hk with⟨kvs,hk⟩|⟨kvs,hk⟩
    ·obtain⟨_,_,_,_,o,_,_,e,ex,_⟩:=I.hok p _ hk
     exact⟨o,e,ex⟩
    ·obtain⟨_,_,_,_,o,_,_,e,ex,_⟩:=I.hok p _ hk
     exact⟨o,e,ex⟩
   obtain⟨o,e,ex⟩:=z;refine⟨⟨o,e,ex.1⟩,fun a e2=>?_⟩;cases e2;exact⟨o,e,ex.2.1⟩
  ·obtain⟨o,_,_,_,e,ex,_⟩:=I.hok p _ hk
   refine⟨⟨o,e,ex.1⟩,fun a e2=>?_⟩;cases e2;exact⟨o,e,ex.2.1⟩
 |_=>exact False.elim ty
def tBM (K:PySem.W.Frag)(T:String)(r:V->List V->Hp->VK->Prop)(to:TE)(t:TA):TE:=fun σ H Q=>to σ H fun x H1=>tyV K T x H1/\t σ H1 fun xs H2=>r x xs H2 Q
variable {o e:Expr}{es:List Expr}{to:TE}{t:TA}{name:Str}{apos cpos:Pos}{T id:String}{r:V->List V->Hp->VK->Prop}
theorem lI (pa:PlainAttrs T)(slot:Slot T name id)(hty:typeOf (.builtin id)=pure (.type "method_descriptor"))(hm:MtR X id r)(ho:PE X o to)(ha:PA X (e::es) t)
  (hbase:attributeBase o name X.env (eval o X.env)=eval o X.env:=by rfl)
  (hfew:((backTo cpos (starEach (e::es) X.env)).all (fun x=>!x.1)&&(backToKw cpos (keywordEach [] X.env)).all (fun x=>x.1.isSome)
   &&decide ((e::es).length+([]:List Keyword).length+(if ([]:List Keyword).isEmpty then 0 else 1)<30))=true:=by rfl)
  (hline:(apos.endLine==cpos.line)=true:=by rfl) (hs:starEach (e::es) X.env=(false,eval e X.env)::starEach es X.env:=by rfl) (hplain:(backTo cpos (starEach es X.env)).any (·.1)=false:=by rfl):
  PE X (.Call (.Attribute o name apos) (e::es) [] cpos) (tBM X.K T r to t):=by
 intro pins s σ H Q I h;refine wpAny_Call_method_late hbase hfew hline rfl (thn (ho pins s σ H _ I h) ?_);rintro v s1 ⟨x,H1,I1,r1,ty,q1⟩;obtain⟨h1,h2⟩:=Da I1 r1 ty;refine⟨T,id,pa,slot,hty,h1,h2,?_⟩;have hA:=ha cpos pins s1 σ H1 _ I1 q1;rw[hs] at hA ⊢;refine Calls.callWith_builtin (by show (false||(backTo cpos (starEach es X.env)).any (·.1))=false;rw[hplain]<;>rfl) (Calls.evalArgs_plain ?_);exact thn hA fun us s2 ⟨vs,H2,I2,r2,q2⟩=>hm pins s2 σ H2 x vs v us Q I2 r1 r2 q2
end
def MtM (X:Cx)(id:String)(r:V->List V->Hp->VK->Prop):Prop:=
 ∀(pins:List (Addr×Obj)) (s:Shared) (σ:St) (H:Hp) (x:V) (xs:List V) (v:Value) (us:List Value) (Q:VK),Inv X pins σ H s->RelV x v->Vals xs us->r x xs H Q->
  wpAny (model X.prog X.w) X.A (call (.builtin id) (v::us)) (EP X pins σ Q) X.xe s
theorem Vals.one:∀{x:V} {us:List Value},Vals [x] us->∃u,us=[u]/\RelV x u
 |_,_,.cons r .nil=>⟨_,rfl,r⟩
theorem Vals.reverse {xs:List V}{us:List Value}(h:Vals xs us):Vals xs.reverse us.reverse:=by
 induction h with
 |nil=>exact .nil
 |cons r t ih=>rw[List.reverse_cons,List.reverse_cons];exact Vals.append ih (.cons r .nil)
theorem Vals.rep {xs:List V}{us:List Value}(h:Vals xs us):∀k:Nat,Vals (List.replicate k xs).flatten (List.replicate k us).flatten
 |0=>.nil
 |k+1=>by
  exact Vals.append h (Vals.rep h k)
theorem foldl_rep (its:List Value):∀(k:Nat) (acc:List Value),
  List.foldl (fun x1 x2=>x1++x2) acc.toArray (List.replicate k its.toArray)=(acc++(List.replicate k its).flatten).toArray
 |0,acc=>by simp
 |k+1,acc=>by
  have e:acc.toArray++its.toArray=(acc++its).toArray:=by simp
  have e2:(acc++its)++(List.replicate k its).flatten=acc++(List.replicate (k+1) its).flatten:=by
   rw[List.replicate_succ,List.flatten_cons,List.append_assoc]
  rw[←e2,←foldl_rep its k (acc++its),←e,List.replicate_succ,List.foldl_cons]
section
variable {X:Cx}{pins:List (Addr×Obj)}{σ:St}{H:Hp}{s:Shared}{l b:Addr}{xs ys zs:List V}
theorem Inv.lset {its its':List Value}{n:Nat}{f:Array Value->Array Value}{t':Nat}(I:Inv X pins σ H s)(hH:H l=some (.lst xs))
  (e:s.heap.get? l=some {cls:=.type "list",data:=.seq its.toArray n}) (hf:f its.toArray=its'.toArray) (hv:Vals ys its') (hz:ys.length≤sizeLine):
  Inv X pins σ (upd H l (.lst ys)) {s with heap:=s.heap.update l (Obj.mapSeq f),toks:=t'}:=by
 have q:=PySem.IsL.update e f;rw[hf] at q;refine I.write (by rw[hH];exact trivial) (.inl rfl) (fun b' u hb hu=>(Heap.get?_update_other _ _ (Ne.symm hb)).trans hu) ⟨_,q⟩ ?_;exact⟨hz,_,_,hv,q⟩
theorem Inv.lnew {its:List Value}{t':Nat}(I:Inv X pins σ H s)(hv:Vals ys its)(hz:ys.length≤sizeLine):
  Inv X pins σ (upd H s.heap.objs.size (.lst ys)) {s with heap:=s.heap.push {cls:=.type "list",data:=.seq its.toArray},toks:=t'}:=
 I.laid (fun a a q=>ps0 _ q) (nr0 _) ⟨hz,_,0,hv,pz0 _ rfl⟩
theorem Inv.fresh (I:Inv X pins σ H s):H s.heap.objs.size=none:=I.hok.fresh (nr0 _)
theorem Inv.lstM (I:Inv X pins σ H s)(hH:H l=some (.lst xs)):xs.length≤sizeLine/\∃(its:List Value) (n:Nat),Vals xs its/\xs.length=its.length/\s.heap.get? l=some {cls:=.type "list",data:=.seq its.toArray n}:=by
 obtain⟨z,its,n,r,e⟩:=I.hok l _ hH;exact⟨z,its,n,r,r.length,e⟩
theorem lJ {n:Nat}(h:n≤sizeLine):Builtin.List.listTooLong n=false:=by
 unfold Builtin.List.listTooLong;exact df0 (by simp_all)
end
section
variable {X:Cx}
def zh:V->List V->Hp->VK->Prop:=fun x vs H Q=>∃l xs y,x=.ref l/\vs=[y]/\H l=some (.lst xs)/\xs.length<sizeLine/\Q .non (upd H l (.lst (xs++[y])))
theorem fF:MtM X "list.append" zh:=by
 intro pins s σ H x vs v us Q I rx rv h;obtain⟨l,xs,y,rfl,rfl,hH,hz,q⟩:=h;cases rx;obtain⟨u,rfl,ru⟩:=rv.one;obtain⟨z,its,n,r,hl,e⟩:=I.lstM hH;refine call_meets F.slot_list_append ⟨_,e,rfl⟩ F.entry_list_append (F.args_list_append_2 _ _) (PySem.list_append l its.toArray n u (by rw[ls0];simp_all)) ⟨e,?_⟩;refine⟨.non,_,I.lset (its':=its++[u]) hH e (by simp) (r.append (.cons ru .nil)) ?_,rfl,q⟩;rw[la0,List.length_singleton]
 assumption
def zi:V->List V->Hp->VK->Prop:=fun x vs H Q=>∃l b xs zs,x=.ref l/\vs=[.ref b]/\H l=some (.lst xs)/\H b=some (.lst zs)/\xs.length+zs.length≤sizeLine/\Q .non (upd H l (.lst (xs++zs)))
theorem Fq:MtM X "list.extend" zi:=by
 intro pins s σ H x vs v us Q I rx rv h;obtain⟨l,b,xs,zs,rfl,rfl,hH,hB,hz,q⟩:=h;cases rx;obtain⟨u,rfl,ru⟩:=rv.one;cases ru;obtain⟨z,its,n,r,hl,e⟩:=I.lstM hH;obtain⟨z2,its2,n2,r2,hl2,e2⟩:=I.lstM hB;have hsz:its.toArray.size+its2.toArray.size≤sizeLine:=by rw[ls0,ls0];simp_all
 have hlong:¬ (!its.toArray.isEmpty&&Builtin.List.listTooLong (its.toArray.size+its2.toArray.size))=true:=by
  rw[lJ hsz,Bool.and_false];exact fx0
 refine call_meets F.slot_list_extend ⟨_,e,rfl⟩ F.entry_list_extend (F.args_list_extend_2 _ _)
  (AutoSeq1.list_extend_list_list_0 l its.toArray n b its2.toArray n2 hlong (by rw[ls0];simp_all) (by exact Nat.le_succ_of_le ‹_›)) ⟨e,e2,?_⟩
 refine⟨.non,_,I.lset (its':=its++its2) hH e (by simp) (r.append r2) ?_,rfl,q⟩;rw[la0];omega
def Ge:R2:=fun x y H Q=>∃l b xs zs,x=.ref l/\y=.ref b/\H l=some (.lst xs)/\H b=some (.lst zs)/\xs.length+zs.length≤sizeLine/\∀p,H p=none->Q (.ref p) (upd H p (.lst (xs++zs)))
theorem op_cat:OpR X (binaryOp .Add) Ge:=by
 intro pins s σ H x y v u Q I rx ry h;obtain⟨l,b,xs,zs,rfl,rfl,hH,hB,hz,q⟩:=h;cases rx;cases ry;obtain⟨z,its,n,r,hl,e⟩:=I.lstM hH;obtain⟨z2,its2,n2,r2,hl2,e2⟩:=I.lstM hB;refine PySem.P.add_list e e2 ?_ (by simp_all);have ea:its.toArray++its2.toArray=(its++its2).toArray:=by simp
 rw[ea];exact⟨.ref _,_,I.lnew (r.append r2) (by rw[la0];omega),rfl,q _ I.fresh⟩
def Gf:R2:=fun x y H Q=>∃l k xs,x=.ref l/\y=.int k/\H l=some (.lst xs)/\ -(2 ^ 63)≤k/\k<2 ^ 63/\xs.length*k.toNat≤sizeLine/\
 ∀p,H p=none->Q (.ref p) (upd H p (.lst (List.replicate k.toNat xs).flatten))
theorem len_rep {α:Type}(xs:List α)(k:Nat):(List.replicate k xs).flatten.length=k*xs.length:=by
 simp
theorem Dc:OpR X (binaryOp .Mult) Gf:=by
 intro pins s σ H x y v u Q I rx ry h;obtain⟨l,k,xs,rfl,rfl,hH,h1,h2,hz,q⟩:=h;cases rx;obtain⟨t,rfl⟩:=ry;obtain⟨z,its,n,r,hl,e⟩:=I.lstM hH;have hlen:its.toArray.size*k.toNat≤sizeLine:=by rw[ls0,←hl];exact hz
 have hcap:¬ its.toArray.size*k.toNat>(2 ^ 63-1) / 8:=by
  have:(sizeLine:Nat)≤(2 ^ 63-1) / 8:=by decide
  grind
 have hfit:¬ (!Builtin.List.listFitsIndex k)=true:=by
  rw[fitsIndex_both h1 h2];exact fx0
 have hlong:¬ Builtin.List.listTooLong (its.toArray.size*k.toNat)=true:=by
  rw[lJ hlen];exact fx0
 have hnew:List.foldl (fun x1 x2=>x1++x2) #[] (List.replicate (if its.toArray.isEmpty=true then 0 else k.toNat) its.toArray)=(List.replicate k.toNat its).flatten.toArray:=by
  have f0:∀m:Nat,List.foldl (fun x1 x2=>x1++x2) #[] (List.replicate m its.toArray)=(List.replicate m its).flatten.toArray:=fun m=>by
   have:=foldl_rep its m [];rw[List.nil_append] at this;exact this
  rw[f0];cases its with
  |nil=>simp
  |cons a r'=>rw[if_neg (by simp)]
 refine wpAny_binaryOp_repeat_ref (T:="list") (U:="int") (by decide) ⟨_,e,rfl⟩ (fun s'=>typeIs_int s' k t) noFill_list_mul F.fills_int_mul F.slot_int_rmul repeat_list F.slot_int_index.lookup
  (call_meets F.slot_int_rmul (typeIs_int s k t) F.entry_int_rmul (F.args_int_rmul_2 _ _) (int___rmul___int_list k t l its.toArray n)
   ⟨e,rfl,⟨_,e,rfl⟩,call_meets F.slot_list_mul ⟨_,e,rfl⟩ F.entry_list_mul (F.args_list_mul_2 _ _) (AutoListH.list___mul___list_int_3 l its.toArray n k t hfit hcap hlong) ⟨e,?_⟩⟩)
 rw[hnew];exact⟨.ref _,_,I.lnew (t':=s.toks) (r.rep k.toNat) (by rw[len_rep,Nat.mul_comm];exact hz),rfl,q _ I.fresh⟩
end
section
variable {prog:Program}{w:World}{A:Around}{E:Value->Shared->Prop}{s:Shared}
end
section
variable {X:Cx}
end
end L2
namespace Att
open PySem PySem.W PySem.Calls PyProof.Rows
theorem gy {P:Params}{h:Heap}:∀(ns:List Int) (vs:List Value),WellAll P h vs (ns.map WData.int)->IntsAre vs ns:=by
 intro ns
 induction ns with
 |nil=>
  intro vs w;cases w;exact .nil
 |cons n ns ih=>
  intro vs w;cases w with
  |cons a b=>
   cases a;exact .cons _ _ (ih _ b)
theorem rT {l:OpenLaw}{n:Nat}(hn:l.most=some n){P:Params}{h:Heap}{args:List WData}{vals:List Value}
  (hpre:l.row.toRowW.claim.pre args=true) (hwl:WellAll P h vals args):
  ∃a vs ns,vals=[Value.ref a]/\args=[WData.list (ns.map WData.int)]/\h.get? a=some {cls:=.type "list",data:=.seq vs.toArray}/\IntsAre vs ns/\ns.length≤n:=by
 have hsh:WShape.hasAll [] args [.list .int]=true:=(pre_splitW hpre).1;have hc:l.pre.holds [] _=true:=(pre_splitW hpre).2;obtain⟨d,r,rfl,h1,h2⟩:=hasAllW_cons hsh;obtain rfl:=hasAllW_nil h2;obtain⟨xs,rfl,h3⟩:=hasW_list h1;obtain⟨ns,rfl⟩:=items_int h3;have hlen:ns.length≤n:=by
  have h4:=by
   have h4:=(holds_andW hc).1
   rwa [hn] at h4
  have h5:=condW_of h4 (w_not (w_lt w_lit (w_len_list (w_arg rfl))))
  simp_all
 cases hwl with
 |cons w1 w2=>
  cases w2;cases w1 with
  |list ho hall=>exact⟨_,_,ns,rfl,rfl,ho,gy ns _ hall,hlen⟩
theorem rV (l:OpenLaw)(args:List WData):l.row.toRowW.claim.post args (.bool true) args=true:=
 postW_of
  (rfl)
  (w_eq_bool (w_res rfl) w_lit) rfl
theorem attach_call {l:OpenLaw}{n:Nat}{q:Program}{loose:List Str}{XP:(Str->Option Value)->Heap->Prop}{YP:World->Heap->Prop}{d:DefRec}
  (hn:l.most=some n) (hdf:d.params.defaults=[])
  (call:∀(w:World) (s₀ s₁:Shared) (mg mb:Str->Option Value) (fa:Addr) (o:Obj) (pm cd doc:Value) (a:Addr) (vs:List Value) (ns:List Int),
   Ground q loose [] XP w s₀ mg mb s₁.heap->YP w s₁.heap->
   s₁.heap.get? fa=some o->o.data=.func (docDef d.name d.params d.body d.scope pm cd doc)->s₁.heap.CodeRec cd d.name->mg d.name=some (.ref fa)->
   s₁.heap.get? a=some {cls:=.type "list",data:=.seq vs.toArray}->IntsAre vs ns->ns.length≤n->s₁.gens=#[]->
   codeAny (model l.prog w) callerA (.call (.ref fa) ⟨[.ref a],[]⟩) (fun r s'=>r=.ok (.ret (.bool true))/\OldK s₁.heap s'.heap/\s'.os=s₁.os/\AllBare s'.gens) s₁):
  WalkO q loose XP YP l.row.toRowW d [] (fun f vs=>PySem.call f vs):=by
 intro w s₀ s₁ mg mb G Y fa o pm cd doc dV kV ho hd hcd hD hmg hg args vals as hpre hlay hrd hwl hlo;obtain rfl:dV=.none:=Dflts.none hD hdf;obtain rfl:kV=.none:=Dflts.noKw hD;obtain⟨a,vs,ns,rfl,rfl,hobj,hints,hlen⟩:=rT hn hpre hwl;refine enter_call (codeAny_mono (call w s₀ s₁ mg mb fa o pm cd doc a vs ns G Y ho (fd_plain hd) hcd hmg hobj hints hlen hg) fun r s' hq=>?_);obtain⟨rfl,h2,h3,h4⟩:=hq;exact⟨.inl ⟨.bool true,.bool true,[],rfl,fun b=>rfl,.bool true,rV l _,fun b=>⟨List.Pairwise.nil,fun b hm=>(nomatch hm)⟩⟩,h2,h3,h4⟩
section
variable {prog:Program}{w:World}{A:Around}{E:Value->Shared->Prop}{s:Shared}{K:Frag}
end
end Att
namespace L2
open PySem PySem.Spec PyProof.Rows
theorem dB:∀{vs:List Value} {ns:List Int},IntsAre vs ns->Vals (ns.map V.int) vs
 |_,_,.nil=>.nil
 |_,_,.cons n t h=>.cons ⟨t,rfl⟩ (dB h)
def Dd (H:Hp):Prop:=∀b,H b=none\/∃o xs,H b=some (.frz o (.lst xs))
theorem uV {P:Program}{w:World}{K:PySem.W.Frag}{mg mb:Str->Option Value}{CX:CXT}{k:Nat}{fa a:Addr}{fd:FuncData}{x:Str}{sp:Sp}{s₁:Shared}{vs:List Value}{ns:List Int}
  (KX:K.In s₁.heap) (hns:s₁.heap.Ns mainGlobals mg) (hb:s₁.heap.Ns builtinsNs mb) (hbb:∀x:Str,x≠"__name__"->mb x=bootBuiltins x) (hlim:s₁.heap.NoLimit) (hg:s₁.gens=#[])
  (ha:s₁.heap.get? a=some {cls:=.type "list",data:=.seq vs.toArray}) (hi:IntsAre vs ns) (hl:ns.length≤sizeLine) (hr:Room k callerA)
  (F:∀base:Heap,K.In base->base.Ns mainGlobals mg->FnOk P w K mg base CX k fa fd [x] sp) (hbind:∀(s:Shared) (u:Value),BindsTo s fd ⟨[u],[]⟩ [(x,u)])
  (hsp:∀H:Hp,Dd H->SqL K H a (ns.map V.int)->sp [.ref a] H (fun v c=>v=.bl true) fun c c c=>False)
  (hCX:∀H e s',CX [] H s₁ (fun c c c=>False) e s'->False):
  codeAny (model P w) callerA (.call (.ref fa) ⟨[.ref a],[]⟩) (fun r s'=>r=.ok (.ret (.bool true))/\OldK s₁.heap s'.heap/\s'.os=s₁.os/\AllBare s'.gens) s₁:=by
 have rv:=dB hi;have lenV:=hi.length;have core:∀H:Hp,Dd H->SqL K H a (ns.map V.int)->HOk P w H s₁.heap->(∀b,H b≠none->b=a)->(H a≠none->K.lookup a=none)->
   codeAny (model P w) callerA (.call (.ref fa) ⟨[.ref a],[]⟩) (fun r s'=>r=.ok (.ret (.bool true))/\OldK s₁.heap s'.heap/\s'.os=s₁.os/\AllBare s'.gens) s₁:=by
  intro H hO hS hok hA hK;have base_of:∀{b:Addr} {o:Obj},s₁.heap.get? b=some o->H b=none->(kn s₁.heap H).get? b=some o:=fun e n=>uy e n
  have noA:∀{b:Addr} {o:Obj} {es:Array DictEntry} {ep:Nat},s₁.heap.get? b=some o->o.data=.dict es ep->H b=none:=fun {b o es ep} e d=>by
   cases q:H b with
   |none=>rfl
   |some u=>
    have e':b=a:=hA b (by rw[q];simp);subst e';rw[ha] at e;cases e;have d':Data.seq vs.toArray _=Data.dict es ep:=d;cases d'
  have nsK:∀{b:Addr} {m:Str->Option Value},s₁.heap.Ns b m->(kn s₁.heap H).Ns b m:=fun {b m} ⟨o,es,ep,e,d,r⟩=>⟨o,es,ep,base_of e (noA e d),d,r⟩
  have hKb:K.In (kn s₁.heap H):=fun b o e=>base_of (KX b o e) (by
   cases q:H b with
   |none=>rfl
   |some u=>
    have e':b=a:=hA b (by rw[q];simp);subst e';rw[hK (by rw[q];simp)] at e;cases e)
  have hM:Mod K mg (kn s₁.heap H):=⟨hKb,nsK hns,⟨mb,nsK hb,hbb⟩,let ⟨mc,h1,h2⟩:=hlim;⟨mc,nsK h1,h2⟩⟩;have e0:Env0 P w K mg (kn s₁.heap H) callerA [] s₁ H:=⟨rfl,hM,fun b o e=>yV e,Nat.le_of_eq (rH _ _),trivial,fun b hb=>absurd (show b∈([]:List Addr) from hb) (by simp),hok,.of_eq hg⟩;refine codeAny_mono ((F _ hKb (nsK hns)).run callerA [] s₁ H ⟨[.ref a],[]⟩ [.ref a] [.ref a] _ _ hr e0 (hbind s₁ (.ref a)) (.cons rfl .nil) (hsp H hO hS)) fun r s' h=>?_
  cases r with
  |error e=>exact (hCX H e s' h).elim
  |ok fl=>
   cases fl with
   |next=>exact False.elim h
   |brk=>exact False.elim h
   |cont=>exact False.elim h
   |ret u=>
    obtain⟨v,H',os,bare,un,hok',r',q⟩:=h;have q':v=.bl true:=q;subst q';obtain rfl:u=Value.bool true:=r';refine⟨rfl,OldK.of_keep fun b o e=>?_,os,bare⟩;cases q:H b with
    |none=>exact un.keep b o e q (by intro z;exact absurd (show b∈([]:List Addr) from z) (by simp)) (by simp)
    |some u=>
     rcases hO b with z|⟨ob,xs,z⟩
     ·rw[q] at z;cases z
     ·have z2:=un.frzs b ob _ z
      obtain⟨e1,_⟩:=hok b _ z;obtain⟨e2,_⟩:=hok' b _ z2;rw[e] at e1;cases e1;exact e2
 cases hk:K.lookup a with
 |some o=>
  have e:=KX a o hk;rw[ha] at e;cases e;refine core (fun c=>none) (fun c=>.inl rfl) (.inr ⟨_,vs.toArray,_,hk,rfl,rfl,rfl,by rw[ls0,lenV];exact hl,by simpa using rv⟩) (fun b u z=>by have z':(none:Option HO)=some u:=z;cases z') (fun b z=>absurd rfl z) fun z=>absurd rfl z
 |none=>
  refine core (fun b=>if b=a then some (.frz {cls:=.type "list",data:=.seq vs.toArray} (.lst (ns.map V.int))) else none) (fun b=>?_) (.inl (.inr ⟨{cls:=.type "list",data:=.seq vs.toArray},if_pos rfl⟩)) (fun b u z=>?_) (fun b z=>?_) fun c=>hk
  ·by_cases hb:b=a
   ·exact .inr ⟨_,_,if_pos hb⟩
   ·exact .inl (if_neg hb)
  ·by_cases hb:b=a
   ·have z':=(if_pos hb).symm.trans z
    cases z';subst hb;exact⟨ha,by rw[lm0];exact hl,vs,_,rv,ha⟩
   ·have z':=(if_neg hb).symm.trans z
    cases z'
  ·by_cases hb:b=a
   ·exact hb
   ·exact absurd (if_neg hb) z
theorem qj {l:PySem.W.OpenLaw}{n k:Nat}{q:Program}{loose:List Str}{XP:(Str->Option Value)->Heap->Prop}{YP:World->Heap->Prop}{d:DefRec}{K:Params->PySem.W.Frag}{CX:World->CXT}{sp:World->Sp}{x:Str}
  (hn:l.most=some n) (hn2:n≤sizeLine) (hdf:d.params.defaults=[]) (hr:Room k callerA)
  (hY:∀(w:World) (h:Heap),YP w h->(K w.params).In h)
  (F:∀(w:World) (mg:Str->Option Value) (fa:Addr) (h:Heap),(K w.params).In h->h.Ns mainGlobals mg->mg d.name=some (.ref fa)->
   ∃fd:FuncData,(∀(s:Shared) (u:Value),BindsTo s fd ⟨[u],[]⟩ [(x,u)])/\
    ∀base:Heap,(K w.params).In base->base.Ns mainGlobals mg->FnOk l.prog w (K w.params) mg base (CX w) k fa fd [x] (sp w))
  (hsp:∀(w:World) (H:Hp) (a:Addr) (ns:List Int),ns.length≤n->Dd H->SqL (K w.params) H a (ns.map V.int)->sp w [.ref a] H (fun v c=>v=.bl true) fun c c c=>False)
  (hCX:∀(w:World) (H:Hp) (s:Shared) (e:Value) (s':Shared),CX w [] H s (fun c c c=>False) e s'->False):
  PySem.W.WalkO q loose XP YP l.row.toRowW d [] (fun f vs=>PySem.call f vs):=by
 refine Att.attach_call hn hdf fun w s₀ s₁ mg mb fa o pm cd doc a vs ns G Y ho hd hcd hmg hobj hints hlen hg=>?_
 have KX:=hY w _ Y;obtain⟨fd,hb,hF⟩:=F w mg fa _ KX G.T.g hmg;exact uV KX G.T.g G.T.b G.T.builtins G.T.nolimit hg hobj hints (nt0 hlen hn2) hr hF hb (fun H hO hS=>hsp w H a ns hlen hO hS) fun H e s'=>hCX w H s₁ e s'
noncomputable def defArgs (s:Stmt):Arguments:=match s with
 |.FunctionDef _ a _ _ _ _ _ _ _ _=>a
 |_=>{posonlyargs:=[],args:=[],vararg:=none,kwonlyargs:=[],kw_defaults:=[],kwarg:=none,defaults:=[]}
noncomputable def defBody (s:Stmt):List Stmt:=match s with
 |.FunctionDef _ _ b _ _ _ _ _ _ _=>b
 |_=>[]
noncomputable def defScope (s:Stmt):Scope:=match s with
 |.FunctionDef _ _ _ _ _ _ sc _ _ _=>sc
 |_=>{kind:=.function,names:=[],isGenerator:=false,isCoroutine:=false}
abbrev CX0:CXT:=fun a a a a a a=>False
abbrev E0:XK:=fun a a a=>False
theorem qk {X:Cx}:eg CX0 X E0:=fun a a a a a a a h=>h.elim
structure Fun (K:PySem.W.Frag)(x qual:Str)(st:Stmt)(f:Addr)(fd:FuncData):Prop where
 ex:∃(oc:Value) (od:Option Addr) (kV doc pm:Value) (an:Option Addr) (cdv ct:Value) (osl:Array (Option Value)),
  fd=PySem.W.fnOf x qual (defArgs st) (defBody st) (defScope st) .none kV doc pm an cdv ct/\K.lookup f=some ⟨oc,od,.func fd,osl⟩/\PySem.W.codeIn K cdv qual=true
 kp:PySem.W.keepIn K (.ref f)=true
section
variable {P:Program}{w:World}{K:PySem.W.Frag}{mg:Str->Option Value}{base:Heap}
theorem Fun.ok {x qual:Str}{st:Stmt}{f:Addr}{fd:FuncData}{N ps:List Str}{k:Nat}{sp:Sp}(F:Fun K x qual st f fd)(S:bh N ps (defScope st))(len:∀vs H Q E,sp vs H Q E->vs.length=ps.length)
  (hbody:∀(cdv:Value) (A:Around) (outer:List Env) (s:Shared) (H:Hp) (vs:List V) (Q:VK) (E:XK),Room k (A.deeper (envOfC qual (defScope st) s.heap.objs.size f cdv))->sp vs H Q E->
   ∃t,PSs (cY CX0 P w K mg base N qual (defScope st) f cdv A outer s H E).nox (defBody st) t/\t {nx:=fun a H'=>Q .non H',rt:=Q} (start N vs) H):FnOk P w K mg base CX0 (k+1) f fd ps sp:=by
 obtain⟨oc,od,kV,doc,pm,an,cdv,ct,osl,rfl,lk,hcd⟩:=F.ex;refine uS lk hcd S len fun A outer s H vs Q E hr hsp=>?_
 obtain⟨t,h,q⟩:=hbody _ A _ s H vs Q E hr hsp;exact⟨t,h.nox,q⟩
theorem Fun.binds {x qual:Str}{st:Stmt}{f:Addr}{fd:FuncData}{ps:List Str}(F:Fun K x qual st f fd)
  (h:∀(kV doc pm:Value) (an:Option Addr) (cdv ct:Value) (us:List Value),us.length=ps.length->bindArgs (PySem.W.fnOf x qual (defArgs st) (defBody st) (defScope st) .none kV doc pm an cdv ct) ⟨us,[]⟩=pure (ps.zip us)):Binds K fd ps []:=by
 obtain⟨oc,od,kV,doc,pm,an,cdv,ct,osl,rfl,lk,hcd⟩:=F.ex;exact .all (h kV doc pm an cdv ct)
theorem De {x qual:Str}{st:Stmt}{f:Addr}{oc:Value}{od an:Option Addr}{osl:Array (Option Value)}{kV doc pm cdv ct:Value}(l:K.lookup f=some ⟨oc,od,.func (PySem.W.fnOf x qual (defArgs st) (defBody st) (defScope st) .none kV doc pm an cdv ct),osl⟩)
  (c:PySem.W.codeIn K cdv qual=true) (k:PySem.W.keepIn K (.ref f)=true):Fun K x qual st f (PySem.W.fnOf x qual (defArgs st) (defBody st) (defScope st) .none kV doc pm an cdv ct):=⟨⟨oc,od,kV,_,pm,an,_,ct,_,rfl,l,c⟩,k⟩
end
theorem fG {n:Nat}(h:n≤1000):n<sizeLine:=Nat.lt_of_le_of_lt h (by decide)
section
variable {X:Cx}
end
theorem kA {A B:Prop}(h:B):if false=true then A else B:=by
 exact h
theorem kB {A B:Prop}(h:A):if true=true then A else B:=by
 rw[if_pos rfl];exact h
def Same (H H':Hp):Prop:=∀b o,H b=some o->H' b=some o
theorem Same.refl (H:Hp):Same H H:=fun a a h=>h
theorem Same.trans {H H1 H2:Hp}(a:Same H H1)(b:Same H1 H2):Same H H2:=fun c o h=>b c o (a c o h)
theorem Same.free {H H':Hp}(e:Same H H'){l:Addr}(h:H' l=Option.none):H l=Option.none:=by
 cases q:H l with
 |none=>rfl
 |some o=>
  rw[e l o q] at h;cases h
theorem Same.seq {K:PySem.W.Frag}{H H':Hp}{a:Addr}{xs:List V}(e:Same H H')(h:SqL K H a xs):SqL K H' a xs:=by
 rcases h with (h|⟨o,h⟩)|h
 ·exact .inl (.inl (e _ _ h))
 ·exact .inl (.inr ⟨o,e _ _ h⟩)
 ·exact .inr h
section
variable {κ:Type}[DecidableEq κ]
end
section
variable {P:Program}{w:World}{H:Hp}{h:Heap}{a:Addr}
end
section
variable {X:Cx}{pins:List (Addr×Obj)}{σ:St}{H:Hp}{s:Shared}{a:Addr}{y v:V}{u r:Value}{o:Option V}{A:Around}{E:Value->Shared->Prop}
theorem Inv.big (I:Inv X pins σ H s):sysModules<s.heap.objs.size:=by
 exact Nat.lt_trans (by decide) ((I.mod.glob.keeps I.bk).lt)
end
section
variable {X:Cx}{pins:List (Addr×Obj)}{σ:St}{H:Hp}{s:Shared}{a:Addr}{kvs:List (Key×V)}{k:Key}{u:Value}{A:Around}{E:Value->Shared->Prop}
end
section
variable {X:Cx}{o i e value:Expr}{pos pos' tpos:Pos}{td ty tv:TE}
end
theorem uW {P:Program}{w:World}{H:Hp}(h:Heap)(hb:sysModules<h.objs.size):ObjOk P w H (h.push {cls:=.type "dict",data:=.dict #[]}) h.objs.size (.dK []):=
 ⟨Nat.zero_le _,beq_eq_false_iff_ne.mpr (Ne.symm (nn0 hb)),[],.nil,Heap.DictOf.new h⟩
def Df:TE:=fun a H Q=>∀p,H p=none->Q (.ref p) (upd H p (.dK []))
section
variable {X:Cx}{pos:Pos}
theorem uX:PE X (.Dict [] [] pos) Df:=fun pins s σ H Q I h=>
 wpAny_Dict_empty ⟨.ref _,_,I.laid (fun a a q=>ps0 _ q) (nr0 _) (uW _ I.big),rfl,h _ (I.hok.fresh (nr0 _))⟩
end
section
variable {X:Cx}{pins:List (Addr×Obj)}{σ:St}{H:Hp}{s:Shared}{a:Addr}{y d:V}{u r:Value}{o:Option V}{A:Around}{E:Value->Shared->Prop}
end
section
variable {X:Cx}{o e f:Expr}{apos cpos:Pos}{td ty tx:TE}
end
section
variable {X:Cx}{pins:List (Addr×Obj)}{σ:St}{H:Hp}{s:Shared}{a:Addr}{kvs:List (Key×V)}{A:Around}{E:Value->Shared->Prop}
end
section
variable {X:Cx}{pins:List (Addr×Obj)}{σ:St}{H:Hp}{s:Shared}{a:Addr}{y:V}{u:Value}{A:Around}{E:Value->Shared->Prop}
end
section
variable {X:Cx}
end
section
variable {κ:Type}[DecidableEq κ]
end
end L2
namespace L2.C
open PySem PySem.Spec PyProof.Rows L2
noncomputable def fH (env:Env):List (Str×NameKind)->List (Str×Addr)->List (Str×Addr)
 |[],acc=>acc
 |(n,k)::r,acc=>if k==.free then fH env r ((n,(env.cells.lookup n).getD 0)::acc) else fH env r acc
theorem dR {env:Env}{scope:Scope}(h:∀x∈scope.names,x.2=.free->(env.cells.lookup x.1).isSome=true):
  closureFor scope env=pure (fH env scope.names []):=by
 simp only[closureFor];generalize scope.names=l at h ⊢;generalize ([]:List (Str×Addr))=acc
 induction l generalizing acc with
 |nil=>rfl
 |cons x r ih=>
  obtain⟨n,k⟩:=x;rw[List.forIn_cons]
  by_cases hk:k=.free
  ·subst hk
   have hc:=h (n,.free) ms0 rfl;obtain⟨c,hc⟩:=Option.isSome_iff_exists.mp hc;simp only[fH,cellOf,hc];have:=ih (fun y hy=>h y (mc0 _ hy)) ((n,c)::acc);exact this
  ·have hb:(k==NameKind.free)=false:=by simpa using hk
   simp only[fH,hb];exact ih (fun y hy=>h y (mc0 _ hy)) acc
theorem fI {env:Env}:∀(l:List (Str×NameKind)) (acc:List (Str×Addr)),(∀x∈l,x.2=.free->(env.cells.lookup x.1).isSome=true)->(∀x c,acc.lookup x=some c->env.cells.lookup x=some c)->
  ∀x c,(fH env l acc).lookup x=some c->env.cells.lookup x=some c
 |[],acc,_,ha,x,c,e=>ha x c e
 |(n,k)::r,acc,h,ha,x,c,e=>by
  unfold fH at e
  by_cases hk:k=.free
  ·subst hk
   obtain⟨c',hc⟩:=Option.isSome_iff_exists.mp (h _ ms0 rfl);refine fI r _ (fun y hy=>h y (mc0 _ hy)) (fun y d q=>?_) x c e;rw[lk0] at q;cases hy:y==n<;>simp_all
  ·have hb:(k==NameKind.free)=false:=by simpa using hk
   rw[if_neg (by simp_all)] at e;exact fI r acc (fun y hy=>h y (mc0 _ hy)) ha x c e
theorem eI {env:Env}:∀(l:List (Str×NameKind)) (acc:List (Str×Addr)) (x:Str),((x,NameKind.free)∈l\/∃c,acc.lookup x=some c)->∃c,(fH env l acc).lookup x=some c
 |[],acc,x,h=>by
  rcases h with h|h
  ·cases h
  ·exact h
 |(n,k)::r,acc,x,h=>by
  unfold fH
  by_cases hk:k=.free
  ·subst hk
   refine eI r _ x ?_;rcases h with h|⟨c,h⟩
   ·rcases mq0 h with h|h<;>simp_all
   ·right
    rw[lk0];cases hy:x==n with
    |true=>exact⟨_,rfl⟩
    |false=>exact⟨c,h⟩
  ·rw[if_neg (by simp_all)]
   refine eI r _ x ?_
   grind
theorem bg {env:Env}(hk:env.scope.kind=.function):∀{names:List (Str×NameKind)} {x:Str},names.lookup x=some .free->env.kindOf x=some .cell->
  (names.map fun (n,k)=>if (k==NameKind.free&&env.scope.kind==.function&&env.kindOf n==some .cell) then (n,NameKind.cell) else (n,k)).lookup x=some .cell
 |[],_,h,_=>by simp at h
 |(n,k)::r,x,h,hx=>by
  have ih:=@bg _ hk r x;show List.lookup x ((if (k==NameKind.free&&env.scope.kind==.function&&env.kindOf n==some _)=true then (n,NameKind.cell) else (n,k))::_)=_;cases hy:x==n with
  |true=>
   simp_all
  |false=>
   simp only[lk0,hy] at h
   by_cases hc:(k==NameKind.free&&env.scope.kind==.function&&env.kindOf n==some .cell)=true
   ·rw[if_pos hc];simp only[lk0,hy];exact ih h hx
   ·rw[if_neg hc];simp only[lk0,hy];exact ih h hx
section
variable {prog:Program}{w:World}{A:Around}{R:Result->Shared->Prop}{s:Shared}
abbrev kC (ifs:List Expr)(env:Env):Sem Bool:=
 forIn ifs true fun c r=>if r=true then do let ok ←isTrue c env (eval c env);pure (ForInStep.yield ok) else pure (ForInStep.yield r)
theorem lK {elt target iter:Expr}{ifs:List Expr}{scope:Scope}{pos:Pos}{it acc:Value}{env:Env}(I:Nat->Shared->Prop)
  (turn:∀n s,I n s->wpAny (model prog w) A (pyNext it) (fun r s1=>match r with
   |none=>R (.ok .next) s1
   |some v=>wpAny (model prog w) A (letOwnedTupleGo target it v) (fun a s2=>wpAny (model prog w) A (assign target env v) (fun a s3=>wpAny (model prog w) A (kC ifs env) (fun ok s4=>
     if ok=true then wpAny (model prog w) A (eval elt env) (fun x s5=>wpAny (model prog w) A (call (.builtin "list.append") [acc,x]) (fun a s6=>∃m,m<n/\I m s6) (fun a a=>False) s5) (fun a a=>False) s4
     else ∃m,m<n/\I m s4) (fun a a=>False) s3) (fun a a=>False) s2) (fun a a=>False) s1) (fun a a=>False) s)
  (n:Nat) (h:I n s):codeAny (model prog w) A (.compLoop (.ListComp elt [⟨target,iter,ifs,0⟩] scope pos) 0 it acc env) R s:=by
 have no:∀{E:Value->Shared->Prop} (x:Value) (s':Shared),False->E x s':=fun a a z=>z.elim
 refine codeAny_loop rfl I (fun n s hI=>?_) n h;show wpAny _ A _ _ _ s;refine wpAny_noted ?_;rw[compTurn_list];refine wpAny_bind (wpAny_standAt (wpAny_bind (wpAny_mono (turn n s hI) (fun r s1 h1=>?_) no)));cases r with
 |none=>exact wpAny_pure h1
 |some v=>
  refine wpAny_bind (wpAny_mono h1 (fun a s2 h2=>?_) no);refine wpAny_bind (wpAny_mono h2 (fun a s3 h3=>?_) no);refine wpAny_bind (wpAny_mono h3 (fun ok s4 h4=>?_) no);cases ok with
  |false=>exact wpAny_pure ⟨rfl,h4⟩
  |true=>
   refine wpAny_bind (wpAny_bind (wpAny_mono h4 (fun x s5 h5=>?_) no));exact wpAny_bind (wpAny_mono h5 (fun a s6 h6=>wpAny_pure (wpAny_pure ⟨rfl,h6⟩)) no)
end
noncomputable def blk (X:Cx)(scope:Scope)(N:List Str)(C:Addr)(s:Shared)(H:Hp)(fp:List Addr):Cx where
 prog:=X.prog
 w:=X.w
 K:=X.K
 mg:=X.mg
 base:=X.base
 A:=X.A
 N:=N
 s₀:=s
 H₀:=H
 env:=compEnvC scope (fH X.env scope.names []) C X.env
 outer:=X.stack
 stack:=X.stack
 ex:=fp
 fn:=fun a=>false
 calm:=X.calm
 pn:=[]
 xe:=fun a a=>False
noncomputable def aS (X:Cx)(tn:List Str)(js:List Nat):List Str:=tn++js.map fun j=>X.N.getD j Str.empty
noncomputable def gz (tn:List Str)(js:List Nat)(σ:St):St:=tn.map (fun a=>Option.none)++js.map fun j=>(σ[j]?).join
structure BlkOk (X:Cx)(scope:Scope)(js:List Nat):Prop where
 kind:scope.kind=.function
 free:∀y∈scope.names,y.2=.free->X.env.kindOf y.1=some .cell
 cell:∀y∈scope.names,y.2≠.cell
 loc:∀y∈scope.names,y.2=.local->scope.names.lookup y.1=some .local
 js:∀j∈js,∃x,X.N[j]?=some x/\scope.names.lookup x=some .free
section
variable {X:Cx}{pins:List (Addr×Obj)}{σ:St}{H:Hp}{s:Shared}{scope:Scope}{tn:List Str}{js:List Nat}{fp:List Addr}
theorem BlkOk.cells (B:BlkOk X scope js)(I:Inv X pins σ H s):∀x∈scope.names,x.2=.free->(X.env.cells.lookup x.1).isSome=true:=fun x hx hf=>by
 obtain⟨c,e⟩:=I.ok.has _ (.inl (B.free x hx hf));rw[e];rfl
theorem BlkOk.from (B:BlkOk X scope js)(I:Inv X pins σ H s){x:Str}{c:Addr}(e:(fH X.env scope.names []).lookup x=some c):X.env.cells.lookup x=some c:=
 fI _ [] (B.cells I) (fun a a z=>by cases z) x c e
theorem uY (B:BlkOk X scope js)(I:Inv X pins σ H s)(hf:∀b∈fp,eE X pins H b)(ho:∀b∈fp,∃o,s.heap.get? b=some o){C:Addr}(hC:s.heap.objs.size≤C):(blk X scope (aS X tn js) C s H fp).Ok where
 mod:=I.ok.mod
 kind:=B.kind
 glob:=I.ok.glob
 blt:=I.ok.blt
 above:=hC
 inj:=fun x y c h1 h2=>I.ok.inj x y c (B.from I h1) (B.from I h2)
 has:=fun x hx=>by
  refine eI scope.names [] x (.inl ?_);have hm:=hx.imp PySem.mem_of_lookup PySem.mem_of_lookup;have key:∀k,(x,k)∈(relabel scope X.env).names->k=.cell\/k=.free->(x,NameKind.free)∈scope.names:=fun k hk hkk=>by
   obtain⟨⟨n,k0⟩,hn,e⟩:=mm0 hk
   by_cases hc:(k0==NameKind.free&&X.env.scope.kind==.function&&X.env.kindOf n==some .cell)=true
   ·simp_all
   ·have e':(n,k0)=(x,k):=by rw[←e];exact (if_neg hc).symm
    cases e';rcases hkk with rfl|rfl
    ·exact absurd rfl (B.cell _ hn)
    ·exact hn
  rcases hm with hm|hm
  ·exact key _ hm (.inl rfl)
  ·exact key _ hm (.inr rfl)
 cab:=fun x c h a=>by cases h
 hd:=I.ok.hd
 frames:=I.ok.frames
 stk:=.inl rfl
 exf:=fun b hb=>⟨by
  obtain⟨o,e⟩:=ho b hb;exact nn0 (nl0 (hs0 e) hC),fun x c e=>(hf b hb).2.2.2.2.1 x c (B.from I e)⟩
 bs:=I.bs
 bsz:=nt0 I.ok.bsz I.sz
 noex:=fun b o e hb=>by
  rcases (hf b hb).2.2.2.1 with z|z
  ·exact I.ok.noex b o e z
  ·exact absurd (nl0 (hs0 e) (nt0 I.ok.bsz z)) (li0 _)
 exfs:=fun b hb z=>by
  obtain⟨_,h1,h2,_⟩:=hf b hb;exact (mq0 (I.stkSub b z)).elim h1 h2
 funs:=I.stack
 frf:=I.stkFree
theorem Dg (B:BlkOk X scope js)(I:Inv X pins σ H s)(hf:∀b∈fp,eE X pins H b)(ho:∀b∈fp,∃o,s.heap.get? b=some o){C:Addr}(hC:s.heap.objs.size≤C){H':Hp}(hn:∀b∈fp,H' b=none):
  ∀b∈fp,eE (blk X scope (aS X tn js) C s H fp) [] H' b:=fun b hb=>by
 have ok:=uY (tn:=tn) B I hf ho hC;exact⟨hn b hb,(ok.exf b hb).1,ok.exfs b hb,.inl hb,(ok.exf b hb).2,fun p hp=>absurd (show p∈[] from hp) (by simp)⟩
theorem zj (B:BlkOk X scope js)(I:Inv X pins σ H s)(hf:∀b∈fp,eE X pins H b)(ho:∀b∈fp,∃o,s.heap.get? b=some o){C D:Addr}(hD:s.heap.objs.size≤D)(hC:s.heap.objs.size≤C)(hCD:C≠D){h1:Heap}{tk:Nat}
  (k:∀b o,s.heap.get? b=some o->h1.get? b=some o) (hl:h1.get? D=some {cls:=.type "list",data:=.seq (#[]:Array Value) 0}) {m:Str->Option Value} (hns:h1.Ns C m):
  Inv (blk X scope (aS X tn js) C s H fp) [] (gz tn js σ) (upd H D (.lst [])) {s with heap:=h1,toks:=tk}:=by
 have hDn:H D=none:=I.hok.fresh hD;refine⟨uY B I hf ho hC,rfl,I.bare,Un.laid k hD hDn,⟨m,hns,fun i x v e1 e2 e3=>?_⟩,fun x c e=>?_,?_,fun x c e=>?_,fun p hp=>absurd (show p∈([]:List (Addr×Obj)) from hp) (by simp),I.hok.laid k hD ⟨by simp,[],0,.nil,by simpa using hl⟩,?_⟩
 ·have e1:(aS X tn js)[i]?=some x:=e1
  by_cases hi:i<tn.length
  ·unfold gz at e2
   rw[gl0 (by simpa using hi),gm0] at e2;cases q:tn[i]? with
   |none=>rw[q] at e2;cases e2
   |some y=>rw[q] at e2;cases e2
  ·unfold gz at e2
   unfold aS at e1;rw[List.getElem?_append_right (by simp;simp_all),gm0] at e2;rw[List.getElem?_append_right (by simp_all),gm0] at e1;rw[lm0] at e2;cases q:js[i-tn.length]? with
   |none=>rw[q] at e2;cases e2
   |some j=>
    rw[q] at e1 e2;have e2:(σ[j]?).join=some v:=Option.some.inj e2;obtain⟨y,hy,hyf⟩:=B.js j (mg0 q);have e1:X.N.getD j Str.empty=x:=Option.some.inj e1;have ey:y=x:=by rw[←e1,List.getD_eq_getElem?_getD,hy];rfl
    subst ey;have e2':σ[j]?=some (some v):=by
     cases r:σ[j]? with
     |none=>rw[r] at e2;cases e2
     |some o=>rw[r] at e2;cases o with
      |none=>cases e2
      |some v'=>cases e2;rfl
    have hk:=B.free _ (PySem.mem_of_lookup hyf) rfl;obtain⟨m0,_,hl0⟩:=I.loc;obtain⟨u,r,lk⟩:=hl0 j y v hy e2' (.inr (.inl hk));refine⟨u,r,?_⟩;rcases lk with⟨z,_⟩|⟨_,c,hc,z⟩
    ·rw[hk] at z;cases z
    ·obtain⟨c',hc'⟩:=eI (env:=X.env) scope.names [] y (.inl (PySem.mem_of_lookup hyf))
     have:c'=c:=by have:=B.from I hc';rw[hc] at this;exact (Option.some.inj this).symm
     subst this;refine .inr ⟨.inl (bg I.ok.kind hyf hk),c',hc',?_⟩;obtain⟨o,h2,h3⟩:=z;exact⟨o,k _ _ h2,h3⟩
 ·obtain⟨v,o,h2,h3⟩:=I.cell x c (B.from I e)
  exact⟨v,o,k _ _ h2,h3⟩
 ·show upd H D (.lst []) C=none
  rw[aa hCD];exact I.hok.fresh hC
 ·show upd H D (.lst []) c=none
  have e':=B.from I e;obtain⟨v,o,h2,h3⟩:=I.cell x c e';rw[aa (nn0 (nl0 (hs0 h2) hD))];exact I.freeC x c e'
 ·show (gz tn js σ).length=(aS X tn js).length
  unfold gz aS;simp
theorem zk {C:Addr}{σ':St}{H':Hp}{s':Shared}{N:List Str}{pl:List (Addr×Obj)}(I:Inv X pins σ H s)(hf:∀b∈fp,eE X pins H b)(J:Inv (blk X scope N C s H fp) pl σ' H' s'):Inv X pins σ H' s':=
 I.call' J.os J.base J.hok J.bare fun b hb=>⟨(hf b hb).2.2.2.1,(hf b hb).2.1,(hf b hb).2.2.2.2.1,(hf b hb).2.2.2.2.2⟩
end
def PCs (X:Cx)(ifs:List Expr)(t:TT):Prop:=
 ∀(pins:List (Addr×Obj)) (s:Shared) (σ:St) (H:Hp) (Q:Bool->Hp->Prop),Inv X pins σ H s->t σ H Q->wpAny (model X.prog X.w) X.A (kC ifs X.env) (TP X pins σ Q) X.xe s
theorem zm {X:Cx}:PCs X [] (fun a H Q=>Q true H):=fun a a a H a I h=>wpAny_tests_nil ⟨H,I,h⟩
theorem zo {X:Cx}{c:Expr}{t:TT}(h:PT X c t):PCs X [c] t:=fun pins s σ H Q I q=>wpAny_tests_one (h _ s σ H Q I q)
def BE (tn:List Str)(js:List Nat)(wi:TI)(g:TG)(tc:TT)(te:TE):TE:=fun σ H Q=>wi σ H fun J H1=>∀p,H1 p=none->∃W:Nat->Nat->St->Hp->Prop,(∃m,W 0 m (gz tn js σ) (upd H1 p (.lst [])))/\∀i m σ' H',W i m σ' H'->
 (J.stop i H'/\Q (.ref p) H')\/(J.go i H'/\∀x H2,J.yld i H' x H2->g x σ' H2 fun σ2 H3=>tc σ2 H3 fun b H4=>
  if b=true then te σ2 H4 fun y H5=>∃ys,H5 p=some (.lst ys)/\ys.length<sizeLine/\∃m',m'<m/\W (i+1) m' σ2 (upd H5 p (.lst (ys++[y]))) else ∃m',m'<m/\W (i+1) m' σ2 H4)
section
variable {X:Cx}{elt iter tg:Expr}{ifs:List Expr}{scope:Scope}{pos:Pos}{tn:List Str}{js:List Nat}{wi:TI}{g:TG}{tc:TT}{te:TE}
theorem jt {pins:List (Addr×Obj)}{σ:St}{s2:Shared}{E:Value->Shared->Prop}{RR:Value->Addr->Result->Shared->Prop}{Q:VK}{itv:Value}(B:BlkOk X scope js)(hcalm:X.calm=true)
  (hg:∀C s H fp,PG (blk X scope (aS X tn js) C s H fp) tg g) (hc:∀C s H fp,PCs (blk X scope (aS X tn js) C s H fp) ifs tc) (he:∀C s H fp,PE (blk X scope (aS X tn js) C s H fp) elt te)
  (h2:PIE X pins σ tg (fun J H1=>∀p,H1 p=none->∃W:Nat->Nat->St->Hp->Prop,(∃m,W 0 m (gz tn js σ) (upd H1 p (.lst [])))/\∀i m σ' H',W i m σ' H'->
   (J.stop i H'/\Q (.ref p) H')\/(J.go i H'/\∀x H2,J.yld i H' x H2->g x σ' H2 fun σ2 H3=>tc σ2 H3 fun b H4=>
    if b=true then te σ2 H4 fun y H5=>∃ys,H5 p=some (.lst ys)/\ys.length<sizeLine/\∃m',m'<m/\W (i+1) m' σ2 (upd H5 p (.lst (ys++[y]))) else ∃m',m'<m/\W (i+1) m' σ2 H4)) itv s2)
  (fin:∀(C D:Addr) (s':Shared) (H':Hp) (m:Str->Option Value),Inv X pins σ H' s'->s2.heap.objs.size≤C->C≠X.env.locals->(∀x c,X.env.cells.lookup x=some c->c≠C)->(∀p∈X.pn++pins,p.1≠C)->X.s₀.heap.objs.size≤C->H' C=none->s'.heap.Ns C m->
   Q (.ref D) H'->RR (.ref D) C (.ok .next) s'):
  wpAny (model X.prog X.w) X.A (newList []) (fun acc s3=>wpAny (model X.prog X.w) X.A (newFunctionEnv scope X.env.globals (fH X.env scope.names []) [] X.env.qual none .none (some X.env)) (fun cenv s4=>
   codeAny (model X.prog X.w) X.A (.compStart (.ListComp elt [⟨tg,iter,ifs,0⟩] scope pos) 0 itv acc {cenv with scope:=relabel scope X.env}) (RR acc cenv.locals) s4) E s3) E s2:=by
 obtain⟨it,fp,tnn,J,H2,e,I2,T,st2,f2,R⟩:=h2;subst e;refine wpAny_newObj_type (wpAny_newFunctionEnv B.cell (by intro y hy;simp at hy) (fun h1 hns hsb=>?_) B.kind);dsimp only at hns hsb ⊢;generalize hP:s2.heap.push {cls:=.type "list",dict:=none,data:=.seq ([]:List Value).toArray}=P2 at hns hsb ⊢;have hC:P2.objs.size=s2.heap.objs.size+1:=by rw[←hP,Heap.size_push]
 have hCle:s2.heap.objs.size≤P2.objs.size:=by simp_all
 have hCD:P2.objs.size≠s2.heap.objs.size:=by simp_all
 have old:∀b o,s2.heap.get? b=some o->h1.get? b=some o:=fun b o e=>
  hsb.extBut b o (nn0 (nl0 (hs0 e) hCle)) (ps0 _ (hP▸ps0 _ e))
 have hacc:h1.get? s2.heap.objs.size=some {cls:=.type "list",data:=.seq (#[]:Array Value) 0}:=
  hsb.extBut _ _ (Ne.symm hCD) (ps0 _ (hP▸pz0 _ rfl))
 have ho:∀b∈fp,∃o,s2.heap.get? b=some o:=fun b hb=>let ⟨o,e,_⟩:=T.obj 0 _ st2 b hb;⟨o,e⟩
 have hDn:H2 s2.heap.objs.size=none:=I2.hok.fresh (nr0 _);obtain⟨W,⟨m0,w0⟩,turn⟩:=R _ hDn;have I4:=zj (tn:=tn) (tk:=s2.toks+([]:List (Str×Value)).length) B I2 f2 ho (nr0 _) hCle hCD old hacc hns;have fpo:∀{H':Hp},(∀b∈fp,H' b=none)->∀b∈fp,eE (blk X scope (aS X tn js) P2.objs.size s2 H2 fp) [] H' b:=fun hn=>Dg (tn:=tn) B I2 f2 ho hCle hn
 have st4:tnn 0 h1:=T.keep _ _ _ st2 fun b hb o e=>old b o e
 have fr4:∀b∈fp,upd H2 s2.heap.objs.size (.lst []) b=none:=fun b hb=>by
  obtain⟨o,e⟩:=ho b hb;rw[aa (nn0 (hs0 e))];exact (f2 b hb).1
 have loop:∀s3:Shared,s3={s2 with heap:=h1,toks:=s2.toks+([]:List (Str×Value)).length}->
   codeAny (model X.prog X.w) X.A (.compLoop (.ListComp elt [⟨tg,iter,ifs,0⟩] scope pos) 0 (.ref it) (.ref s2.heap.objs.size) (compEnvC scope (fH X.env scope.names []) P2.objs.size X.env)) (RR (.ref s2.heap.objs.size) P2.objs.size) s3:=by
  rintro s3 rfl
  refine lK (fun n s'=>∃i σ' H',Inv (blk X scope (aS X tn js) P2.objs.size s2 H2 fp) [] σ' H' s'/\tnn i s'.heap/\(∀b∈fp,H' b=none)/\W i n σ' H') ?_ m0 ⟨0,_,_,I4,st4,fr4,w0⟩
  rintro n s3 ⟨i,σ3,H3,I3,st3,fr3,w3⟩
  rcases turn i n σ3 H3 w3 with⟨stop,qn⟩|⟨go,step⟩
  ·refine thn (T.done (blk X scope (aS X tn js) P2.objs.size s2 H2 fp) rfl rfl rfl hcalm i [] s3 σ3 H3 _ I3 (fpo fr3) st3 stop) ?_;rintro r s4 ⟨hr,I4'⟩
   subst hr;obtain⟨m,hm,_⟩:=I4'.loc;refine fin _ _ s4 H3 m (zk I2 f2 I4') hCle (Nat.ne_of_gt (nl0 I2.lt hCle)) (fun x c e=>?_) (fun p hp z=>?_) (nt0 I2.sz hCle) I4'.free hm qn
   ·obtain⟨v,q⟩:=I2.cell x c e
    exact nn0 (nl0 q.lt hCle)
   ·exact absurd (nl0 (hs0 (I2.pin p hp).1) (by rw[z];exact hCle)) (li0 _)
  ·refine thn (T.item (blk X scope (aS X tn js) P2.objs.size s2 H2 fp) rfl rfl rfl hcalm i [] s3 σ3 H3 _ I3 (fpo fr3) st3 go) ?_;rintro r s4 ⟨u,hr,h4⟩
   subst hr;refine thn h4 ?_;rintro _ s5 ⟨x,H5,I5,r5,y5,st5,fr5⟩;have I5':=I5.pinned (fpo fr5) (T.obj _ _ st5);refine thn (hg _ _ _ _ _ s5 σ3 H5 x u _ I5' r5 (step x H5 y5)) ?_;rintro _ s6 ⟨σ6,H6,I6,q6⟩;have again:∀{s7:Shared} {σ7:St} {H7:Hp},Inv (blk X scope (aS X tn js) P2.objs.size s2 H2 fp) ([]++ib fp s5.heap) σ7 H7 s7->(∃m',m'<n/\W (i+1) m' σ7 H7)->
     ∃m,m<n/\∃i σ' H',Inv (blk X scope (aS X tn js) P2.objs.size s2 H2 fp) [] σ' H' s7/\tnn i s7.heap/\(∀b∈fp,H' b=none)/\W i m σ' H':=fun {s7 σ7 H7} I7 ⟨m',hm,w7⟩=>by
    refine⟨m',hm,i+1,σ7,H7,I7.unpinned,T.keep _ _ _ st5 fun b hb o e=>(I7.pin (b,o) (mr0 _ (mr0 _ (cG hb e)))).1,fun b hb=>?_,w7⟩;obtain⟨o,e,d⟩:=T.obj _ _ st5 b hb;exact (I7.pin (b,o) (mr0 _ (mr0 _ (cG hb e)))).2.1
   refine thn (hc _ _ _ _ _ s6 σ6 H6 _ I6 q6) ?_;rintro ok s7 ⟨H7,I7,q7⟩;cases ok with
   |false=>
    rw[if_neg fx0] at q7 ⊢;exact again I7 q7
   |true=>
    rw[if_pos rfl] at q7 ⊢;refine thn (he _ _ _ _ _ s7 σ6 H7 _ I7 q7) ?_;rintro xv s8 ⟨y,H8,I8,r8,ys,hp,hz,q8⟩;refine thn (fF _ s8 σ6 H8 (.ref s2.heap.objs.size) [y] _ [xv] (fun a H'=>∃m',m'<n/\W (i+1) m' σ6 H') I8 rfl (.cons r8 .nil) ⟨_,ys,y,rfl,rfl,hp,hz,q8⟩) ?_;rintro _ s9 ⟨_,H9,I9,_,q9⟩;exact again I9 q9
 exact codeAny_compStart_list (loop _ rfl) (T.self _ 0 _ _ _ st4 (loop _ rfl))
theorem zp (B:BlkOk X scope js)(hcalm:X.calm=true)(hi:PI X tg iter wi)(hg:∀C s H fp,PG (blk X scope (aS X tn js) C s H fp) tg g)(hc:∀C s H fp,PCs (blk X scope (aS X tn js) C s H fp) ifs tc)
  (he:∀C s H fp,PE (blk X scope (aS X tn js) C s H fp) elt te) (hs:∀x,foldedSetIterable iter X.env x=pure x:=by intro _;rfl):PE X (.ListComp elt [⟨tg,iter,ifs,0⟩] scope pos) (BE tn js wi g tc te):=by
 exact fun pins s σ H Q I h=>wpAny_comprehension_free rfl hs (dR (B.cells I)) B.kind B.loc (thn (hi _ s σ H _ I h) fun v s1 h1=>thn h1 fun itv s2 h2=>jt B hcalm hg hc he h2 fun C D s' H' m I' h1 h2 h3 h4 h5 h6 hm q=>⟨m,hm,fun h'' sb=>⟨.ref D,H',I'.turned (fun b o hb e=>(sb.2 b hb).trans e) h6 h2 (.inr h5) h3 h4,rfl,q⟩⟩)
theorem ql {i:Nat}{y:Str}{py spos:Pos}(B:BlkOk X scope js)(hcalm:X.calm=true)(hi:PI X tg iter wi)(hg:∀C s H fp,PG (blk X scope (aS X tn js) C s H fp) tg g)(hc:∀C s H fp,PCs (blk X scope (aS X tn js) C s H fp) ifs tc)
  (he:∀C s H fp,PE (blk X scope (aS X tn js) C s H fp) elt te) (hN:X.N.Nodup) (hix:X.N[i]?=some y) (hy:X.env.scope.names.lookup y=some .local)
  (hsw:swapsWith (.ListComp elt [⟨tg,iter,ifs,0⟩] scope pos) (some (.Name y py)) spos.line X.env=pure true:=by rfl) (hs:∀x,foldedSetIterable iter X.env x=pure x:=by intro _;rfl):
  PS X (.Assign [.Name y py] (.ListComp elt [⟨tg,iter,ifs,0⟩] scope pos) spos) (fun F σ H=>BE tn js wi g tc te σ H fun v H'=>F.nx (σ.set i (some v)) H'):=by
 intro pins s σ H F I h;rw[exec_Assign_Name_used _ _ _ _ hsw];refine wpAny_bind (wpAny_standAt (wpAny_bind ?_));refine wpAny_bind (wpAny_mono (wpAny_comprehension_free (use:=some (assign (.Name y py) X.env)) (Q:=fun c s'=>SP X pins F .next s') rfl hs (dR (B.cells I)) B.kind B.loc
  (thn (hi pins s σ H _ I h) fun v s1 h1=>thn h1 fun itv s2 h2=>?_)) (fun c s' hq=>wpAny_pure (wpAny_pure hq)) fun c c e=>e)
 refine jt (Q:=fun v H'=>F.nx (σ.set i (some v)) H') B hcalm hg hc he h2 ?_;intro C D s' H' m I' h1 h2 h3 h4 h5 h6 hm q;refine wpAny_assign_Name (store_ok2 (v:=.ref D) I' hN hix (.inl hy) rfl (fun s'' I'' hb=>?_) (.inr hy));obtain⟨a,sb,ha⟩:=hb;have haC:C≠a:=by
  rcases ha with z|z
  ·rw[z];exact h2
  ·exact (h3 _ _ z).symm
 refine⟨m,hm.sameBut sb haC,fun h'' sb''=>?_⟩;exact⟨_,H',I''.turned (t':=s''.toks) (fun b o hb e=>(sb''.2 b hb).trans e) h6 h2 (.inr h5) h3 h4,q⟩
end
end L2.C
namespace K11
open PySem L2
abbrev cV:Nat:=177
abbrev cSE:Nat:=31
abbrev cNO:Nat:=44
abbrev cBT:Nat:=56
abbrev cBC:Nat:=68
abbrev cNP:Nat:=80
abbrev cBP:Nat:=99
noncomputable def top (i:Nat):Stmt:=PySem.Challenge.pw_strata_k11_refused.main.body.getD i (.Pass ⟨0,0,0,0⟩)
noncomputable def met (j:Nat):Stmt:=match top 15 with|.ClassDef _ _ _ b ..=>b.getD j (.Pass ⟨0,0,0,0⟩)|_=>.Pass ⟨0,0,0,0⟩
abbrev m0:Value:=.str "strata.names" 303
abbrev m1:Value:=.str "strata.vaults" 326
abbrev m2:Value:=.str "law_strata_k11_refused" 485
abbrev fo (n q:Str)(st:Stmt)(pm:Value)(cd:Addr):Obj:=⟨.type "function",none,.func (PySem.W.fnOf n q (defArgs st) (defBody st) (defScope st) .none .none .none pm none (.ref cd) .none),#[]⟩
noncomputable def kE (P:Params)(k:Str)(t:Nat)(v:Value):DictEntry:=⟨PyData.keyHash P k,.str k t,v⟩
noncomputable def dO (n:Nat)(es:List DictEntry):Obj:=⟨.type "dict",none,.dict es.toArray n,#[]⟩
noncomputable def cO (n:Str)(bs mro:List Value)(ns:Addr)(subs:List Value)(sl:List (Option Value)):Obj:=⟨.type "type",none,.cls {name:=n,bases:=bs,mro:=mro,ns:=ns,qualname:=n,subclasses:=subs},sl.toArray⟩
noncomputable def kO (n q:Str)(t l p e cd:Nat)(w:Bool):Obj:=⟨.type "code",none,.fields #[.str n t,.str q (t+1),.str "/claim/cut.py" (t+2),.int l 0,.int p 0,.int 0 0,.int 0 0,.int 3 0,.ref (cd-(if w then 5 else 3)),.bool true,.int 181 0,.ref (cd-(if w then 4 else 2)),.none,if w then .ref (cd-3) else .none,if w then .ref (cd-2) else .none,.ref (cd-1),.int (t+e-1:Nat) 0,.int l 0,.str "/claim/cut.py" (t+e)],#[]⟩
noncomputable def xD (P:Params)(t l s:Nat):Obj:=dO 2 [kE P "__module__" t (.str "strata.errors" 194),kE P "__firstlineno__" (t+4) (.int l (t+3)),kE P "__static_attributes__" (t+5) (.ref s),kE P "__doc__" (t+6) (.none)]
noncomputable def xC (n:Str)(a b t r:Nat):Obj:=cO n [.ref 31] [.ref a,.ref 31,.type "ValueError",.type "Exception",.type "BaseException",.type "object"] b [] [some (.ref r),none,some (.str n t),some (.str n (t+8)),some (.builtin "ValueError.__new__"),some (.bool true)]
noncomputable def kk (P:Params):PySem.W.Frag:=[(3,dO 52 [kE P "__name__" 165 (.str "law_strata_k11_refused" 485),kE P "__doc__" 166 (.none),kE P "__package__" 167 (.none),kE P "__loader__" 168 (.builtin "__main__.__loader__#opaque"),kE P "__spec__" 169 (.none),kE P "__annotations__" 170 (.ref 6),kE P "__builtins__" 171 (.ref 4),kE P "__file__" 173 (.str "/claim/cut.py" 172),kE P "__cached__" 174 (.none),kE P "_wall" 193 (.ref 21),kE P "StrataError" 213 (.ref 31),kE P "NoObject" 229 (.ref 44),kE P "BadTree" 245 (.ref 56),kE P "BadCommit" 261 (.ref 68),kE P "NoPath" 277 (.ref 80),kE P "BadPack" 302 (.ref 99),kE P "LONGEST_NAME" 306 (.int 12 305),kE P "is_name_sign" 313 (.ref 108),kE P "is_name" 319 (.ref 113),kE P "names_rise" 325 (.ref 118),kE P "MOST_PARENTS" 329 (.int 2 328),kE P "Vault" 406 (.ref 177),kE P "blob" 414 (.ref 188),kE P "tree" 420 (.ref 193),kE P "commit" 431 (.ref 200),kE P "text_of" 439 (.ref 207),kE P "entries_of" 447 (.ref 214),kE P "commit_of" 456 (.ref 221),kE P "refuse_wrong_names" 464 (.ref 228),kE P "refuse_what_is_no_tree" 472 (.ref 235),kE P "refuse_wrong_commit" 484 (.ref 242),kE P "_law_cell" 494 (.ref 249),kE P "_law_mix" 503 (.ref 256),kE P "_law_whole" 510 (.ref 263),kE P "_law_sign" 519 (.ref 270),kE P "_law_line" 528 (.ref 277),kE P "_law_ends" 534 (.ref 282),kE P "_law_row" 540 (.ref 287),kE P "_law_name" 546 (.ref 292),kE P "_law_thing" 552 (.ref 297),kE P "_law_things" 564 (.ref 304),kE P "_law_put" 572 (.ref 311),kE P "_law_is" 578 (.ref 316),kE P "_law_filled" 587 (.ref 323),kE P "_law_stays" 593 (.ref 328),kE P "_law_wild" 603 (.ref 335),kE P "_law_refusal" 611 (.ref 342),kE P "_law_is_name" 617 (.ref 347),kE P "_law_asked" 631 (.ref 354),kE P "_law_due_tree" 640 (.ref 361),kE P "_law_due" 646 (.ref 366),kE P "law" 652 (.ref 371)]),
 (30,dO 3 [kE P "__module__" 203 (.str "strata.errors" 194),kE P "__firstlineno__" 207 (.int 5 206),kE P "__static_attributes__" 208 (.ref 29),kE P "__weakref__" 210 (.ref 32),kE P "__doc__" 211 (.none)]),
 (31,cO "StrataError" [.type "ValueError"] [.ref 31,.type "ValueError",.type "Exception",.type "BaseException",.type "object"] 30 [.ref 44,.ref 56,.ref 68,.ref 80,.ref 99] [some (.ref 22),none,some (.str "StrataError" 196),some (.str "StrataError" 204),some (.builtin "ValueError.__new__"),some (.bool true)]),
 (43,xD P 221 7 42),
 (44,xC "NoObject" 44 43 214 35),
 (55,xD P 237 9 54),
 (56,xC "BadTree" 56 55 230 47),
 (67,xD P 253 11 66),
 (68,xC "BadCommit" 68 67 246 59),
 (79,xD P 269 13 78),
 (80,xC "NoPath" 80 79 262 71),
 (98,dO 2 [kE P "__module__" 285 (.str "strata.errors" 194),kE P "__firstlineno__" 289 (.int 15 288),kE P "__init__" 297 (.ref 96),kE P "__static_attributes__" 299 (.ref 97),kE P "__doc__" 300 (.none)]),
 (99,xC "BadPack" 99 98 278 83),
 (107,kO "is_name_sign" "is_name_sign" 307 21 1 5 107 true),
 (108,fo "is_name_sign" "is_name_sign" (top 10) m0 107),
 (112,kO "is_name" "is_name" 314 25 1 4 112 false),
 (113,fo "is_name" "is_name" (top 11) m0 112),
 (117,kO "names_rise" "names_rise" 320 31 1 4 117 false),
 (118,fo "names_rise" "names_rise" (top 12) m0 117),
 (131,kO "__init__" "Vault.__init__" 342 37 1 5 131 true),
 (132,fo "__init__" "Vault.__init__" (met 0) m1 131),
 (138,kO "size" "Vault.size" 349 41 1 5 138 true),
 (139,fo "size" "Vault.size" (met 1) m1 138),
 (145,kO "kind" "Vault.kind" 356 44 2 6 145 true),
 (146,fo "kind" "Vault.kind" (met 2) m1 145),
 (152,kO "held" "Vault.held" 364 47 2 6 152 true),
 (153,fo "held" "Vault.held" (met 3) m1 152),
 (159,kO "content" "Vault.content" 372 52 3 8 159 true),
 (160,fo "content" "Vault.content" (met 4) m1 159),
 (166,kO "put" "Vault.put" 382 58 2 6 166 true),
 (167,fo "put" "Vault.put" (met 5) m1 166),
 (176,dO 4 [kE P "__module__" 337 (.str "strata.vaults" 326),kE P "__firstlineno__" 341 (.int 35 340),kE P "__init__" 348 (.ref 132),kE P "size" 355 (.ref 139),kE P "kind" 363 (.ref 146),kE P "held" 371 (.ref 153),kE P "content" 381 (.ref 160),kE P "put" 389 (.ref 167),kE P "copied" 396 (.ref 174),kE P "__static_attributes__" 399 (.ref 175),kE P "__dict__" 401 (.ref 178),kE P "__weakref__" 403 (.ref 179),kE P "__doc__" 404 (.none)]),
 (177,cO "Vault" [.type "object"] [.ref 177,.type "object"] 176 [] [none,none,some (.str "Vault" 330),some (.str "Vault" 338),some (.builtin "object.__new__"),some (.bool true)]),
 (187,kO "blob" "blob" 407 66 2 6 187 true),
 (188,fo "blob" "blob" (top 16) m1 187),
 (192,kO "tree" "tree" 415 68 2 4 192 false),
 (193,fo "tree" "tree" (top 17) m1 192),
 (199,kO "commit" "commit" 421 74 5 9 199 true),
 (200,fo "commit" "commit" (top 18) m1 199),
 (206,kO "text_of" "text_of" 432 77 2 6 206 true),
 (207,fo "text_of" "text_of" (top 19) m1 206),
 (213,kO "entries_of" "entries_of" 440 79 2 6 213 true),
 (214,fo "entries_of" "entries_of" (top 20) m1 213),
 (220,kO "commit_of" "commit_of" 448 81 2 7 220 true),
 (221,fo "commit_of" "commit_of" (top 21) m1 220),
 (227,kO "refuse_wrong_names" "refuse_wrong_names" 457 84 1 6 227 true),
 (228,fo "refuse_wrong_names" "refuse_wrong_names" (top 22) m1 227),
 (234,kO "refuse_what_is_no_tree" "refuse_what_is_no_tree" 465 90 2 6 234 true),
 (235,fo "refuse_what_is_no_tree" "refuse_what_is_no_tree" (top 23) m1 234),
 (241,kO "refuse_wrong_commit" "refuse_wrong_commit" 473 92 5 10 241 true),
 (242,fo "refuse_wrong_commit" "refuse_wrong_commit" (top 24) m1 241),
 (248,kO "_law_cell" "_law_cell" 487 105 2 6 248 true),
 (249,fo "_law_cell" "_law_cell" (top 26) m2 248),
 (255,kO "_law_mix" "_law_mix" 495 109 2 7 255 true),
 (256,fo "_law_mix" "_law_mix" (top 27) m2 255),
 (262,kO "_law_whole" "_law_whole" 504 113 1 5 262 true),
 (263,fo "_law_whole" "_law_whole" (top 28) m2 262),
 (269,kO "_law_sign" "_law_sign" 511 115 1 7 269 true),
 (270,fo "_law_sign" "_law_sign" (top 29) m2 269),
 (276,kO "_law_line" "_law_line" 520 119 2 7 276 true),
 (277,fo "_law_line" "_law_line" (top 30) m2 276),
 (281,kO "_law_ends" "_law_ends" 529 124 2 4 281 false),
 (282,fo "_law_ends" "_law_ends" (top 31) m2 281),
 (286,kO "_law_row" "_law_row" 535 129 3 4 286 false),
 (287,fo "_law_row" "_law_row" (top 32) m2 286),
 (291,kO "_law_name" "_law_name" 541 131 2 4 291 false),
 (292,fo "_law_name" "_law_name" (top 33) m2 291),
 (296,kO "_law_thing" "_law_thing" 547 138 3 4 296 false),
 (297,fo "_law_thing" "_law_thing" (top 34) m2 296),
 (303,kO "_law_things" "_law_things" 553 157 3 10 303 true),
 (304,fo "_law_things" "_law_things" (top 35) m2 303),
 (310,kO "_law_put" "_law_put" 565 164 2 6 310 true),
 (311,fo "_law_put" "_law_put" (top 36) m2 310),
 (315,kO "_law_is" "_law_is" 573 170 3 4 315 false),
 (316,fo "_law_is" "_law_is" (top 37) m2 315),
 (322,kO "_law_filled" "_law_filled" 579 184 1 7 322 true),
 (323,fo "_law_filled" "_law_filled" (top 38) m2 322),
 (327,kO "_law_stays" "_law_stays" 588 189 2 4 327 false),
 (328,fo "_law_stays" "_law_stays" (top 39) m2 327),
 (334,kO "_law_wild" "_law_wild" 594 193 3 8 334 true),
 (335,fo "_law_wild" "_law_wild" (top 40) m2 334),
 (341,kO "_law_refusal" "_law_refusal" 604 198 1 6 341 true),
 (342,fo "_law_refusal" "_law_refusal" (top 41) m2 341),
 (346,kO "_law_is_name" "_law_is_name" 612 204 1 4 346 false),
 (347,fo "_law_is_name" "_law_is_name" (top 42) m2 346),
 (353,kO "_law_asked" "_law_asked" 618 207 5 12 353 true),
 (354,fo "_law_asked" "_law_asked" (top 43) m2 353),
 (360,kO "_law_due_tree" "_law_due_tree" 632 228 2 7 360 true),
 (361,fo "_law_due_tree" "_law_due_tree" (top 44) m2 360),
 (365,kO "_law_due" "_law_due" 641 236 5 4 365 false),
 (366,fo "_law_due" "_law_due" (top 45) m2 365),
 (370,kO "law" "law" 647 248 1 4 370 false),
 (371,fo "law" "law" (top 46) m2 370)]
noncomputable def ads:List Addr:=[3,30,31,43,44,55,56,67,68,79,80,98,99,107,108,112,113,117,118,131,132,138,139,145,146,152,153,159,160,166,167,176,177,187,188,192,193,199,200,206,207,213,214,220,221,227,228,234,235,241,242,248,249,255,256,262,263,269,270,276,277,281,282,286,287,291,292,296,297,303,304,310,311,315,316,322,323,327,328,334,335,341,342,346,347,353,354,360,361,365,366,370,371]
noncomputable def lo:List Str:=(["_wall","StrataError","NoObject","BadTree","BadCommit","NoPath","BadPack","LONGEST_NAME","is_name_sign","is_name","names_rise","MOST_PARENTS","Vault","blob","tree","commit","text_of","entries_of","commit_of","refuse_wrong_names"]:List Str)++(["refuse_what_is_no_tree","refuse_wrong_commit","_law_cell","_law_mix","_law_whole","_law_sign","_law_line","_law_ends","_law_row","_law_name","_law_thing","_law_things","_law_put","_law_is","_law_filled","_law_stays","_law_wild","_law_refusal","_law_is_name","_law_asked"]:List Str)++(["_law_due_tree","_law_due"]:List Str)
noncomputable def posOf:Stmt->Pos
 |.FunctionDef _ _ _ _ _ _ _ _ _ p=>p
 |_=>⟨0,0,0,0⟩
noncomputable def Dh:DefRec:=⟨"law",defArgs (top 46),defBody (top 46),defScope (top 46),posOf (top 46)⟩
noncomputable def vw:Program:={PySem.Challenge.pw_strata_k11_refused with main:={PySem.Challenge.pw_strata_k11_refused.main with body:=[top 46]}}
open PySem.W PySem.W.X in
theorem hl:LeftO PySem.Challenge.pw_strata_k11_refused vw lo (fun s=>xlAt vw [] s&&recOk (RowW.records (OpenRow.toRowW PySem.Challenge.rw_strata_k11_refused.row)) s) (obsZ ads) (valZ kk 372 653) 5616:=by intro w;kernel_rfl
end K11
namespace SI
open PySem
inductive D where
 |none
 |bool (b:Bool)
 |int (i:Int)
 |str (x:Str)
 |tuple (ds:List D)
 |list (ds:List D)
 |dict (kvs:List (Sum Int Str×D))
 |scr (ns:List Int)
 |vlt (C h:Nat) (objs:List D)
 |hdl (h:Nat)
 |exc (C:Nat)
noncomputable instance:DecidableEq D:=fun a a=>Classical.propDecidable _
inductive Sl where
 |no
 |dat (d:D)
 |lent (d:D)
 |own (d:D)
 |deep (rows:List (List D))
inductive Op2 where|add|sub|mul|mod|fdiv
inductive Cop where|lt|le|gt|ge|eq|ne|isin|notin|isN|notN
inductive Bf where|len|min|int|list|tuple|all|srt|fst|lzip|rvl|nset
inductive Mf where|join|count|index
inductive Tg where
 |one (i:Nat)
 |tup (is:List Nat)
inductive Md where|val|read|test|walk
mutual
inductive E where
 |k (d:D)
 |v (i:Nat)
 |g (x:Str)
 |op (o:Op2) (a b:E)
 |neg (a:E)
 |cmp (o:Cop) (a b:E)
 |chain (o o':Cop) (a b c:E)
 |and (a b:E)
 |or (a b:E)
 |not (a:E)
 |ite (c a b:E)
 |call (f:Str) (as:Es)
 |idx (a i:E)
 |sl (a:E) (lo hi:Es)
 |lst (as:Es)
 |tup (as:Es)
 |comp (nt:Nat) (js:List Nat) (tg:Tg) (src:I) (ifs:Es) (elt:E)
 |bi (f:Bf) (as:Es)
 |me (m:Mf) (o:E) (as:Es)
 |isi (a:E) (T:String)
 |isx (a:E) (c:Nat) (tab:List (Nat×Bool))
 |vob (c:Nat) (a:E)
 |vcall (c:Nat) (m:Str) (o:E) (as:Es)
inductive Es where
 |nil
 |cons (a:E) (as:Es)
inductive I where
 |seq (a:E)
 |rng (a:E)
 |zip (as:Es)
end
mutual
inductive S where
 |set (i:Nat) (e:E)
 |new (i:Nat) (e:E)
 |app (i:Nat) (e:E)
 |seti (i:Nat) (k e:E)
 |ifs (c:E) (a b:Ss)
 |fors (tg:Tg) (src:I) (body:Ss)
 |ret (e:E)
 |pass
 |stuck
inductive Ss where
 |nil
 |cons (s:S) (r:Ss)
end
def big:Nat:=16777216
noncomputable def ixN (n:Nat)(i:Int):Option Nat:=if 0≤i then (if i<n then some i.toNat else none) else if -(n:Int)≤i then some (i+n).toNat else none
noncomputable def atI {α:Type}(xs:List α)(i:Int):Option α:=(ixN xs.length i).bind fun j=>xs[j]?
def sIx (n d:Nat):Option Int->Nat
 |none=>d
 |some v=>if v<0 then (v+(n:Int)).toNat else min v.toNat n
noncomputable def cut {α:Type}(xs:List α)(lo hi:Option Int):List α:=(xs.drop (sIx xs.length 0 lo)).take (sIx xs.length xs.length hi-sIx xs.length 0 lo)
noncomputable def okS:Nat->D->Bool
 |_,.none=>true
 |_,.int _=>true
 |_,.str _=>true
 |n+1,.tuple ds=>ds.all (okS n)
 |n+1,.list ds=>ds.all (okS n)
 |_,_=>false
noncomputable def eJ:D->Option Bool
 |.none=>some false
 |.bool b=>some b
 |.int i=>some (i != 0)
 |.str x=>if x.length≤big then some ((x.length:Int) != 0) else none
 |.tuple ds=>some (!ds.isEmpty)
 |.list ds=>some (!ds.isEmpty)
 |.dict kvs=>some (!kvs.isEmpty)
 |.scr ns=>some (!ns.isEmpty)
 |_=>none
def asB:D->Option Bool
 |.bool b=>some b
 |_=>none
noncomputable def asI:D->Option Int
 |.int i=>some i
 |_=>none
def fin:Md->Option D->Option D
 |.test,d=>d.bind fun d=>(eJ d).map .bool
 |_,d=>d
noncomputable def bm:Md->Md
 |.test=>.test
 |_=>.val
def noT:Md->Option D->Option D
 |.test,_=>none
 |_,d=>d
def rOk (n:Int):Bool:=decide (-(2 ^ 62)≤n)&&decide (n<2 ^ 62)
def uZ (n:Nat)(j:Int):Bool:=decide (-(2 ^ 63)≤j)&&decide (j<2 ^ 63)&&decide (n*j.toNat≤big)
def lL (i j:Int):Bool:=(decide (-(2 ^ 64)<i)&&decide (i<2 ^ 64))||(decide (-(2 ^ 64)<j)&&decide (j<2 ^ 64))
theorem ot {n:Int}(h1:-1000000≤n)(h2:n≤1000000):rOk n=true:=by
 unfold rOk;rw[dt0 (by grind),dt0 (by omega)];rfl
noncomputable def opD:Op2->D->D->Option D
 |.add,.int i,.int j=>some (.int (i+j))
 |.add,.str x,.str y=>if x.length+y.length≤big then some (.str (x++y)) else none
 |.add,.list a,.list b=>if a.length+b.length≤big then some (.list (a++b)) else none
 |.sub,.int i,.int j=>some (.int (i-j))
 |.mul,.int i,.int j=>if lL i j then some (.int (i*j)) else none
 |.mul,.list a,.int j=>if uZ a.length j then some (.list (List.replicate j.toNat a).flatten) else none
 |.mul,.str x,.int j=>if -1000≤j/\j≤1000/\x.length≤1000 then some (.str ⟨((List.replicate j.toNat x.cps.toList).flatten).toArray⟩) else none
 |.mod,.int i,.int j=>if 0<j then some (.int (i % j)) else none
 |.fdiv,.int i,.int j=>if 0<j/\j<1073741824 then some (.int (i / j)) else none
 |_,_,_=>none
noncomputable def Gg:D->Option (Sum Int Str)
 |.int i=>some (.inl i)
 |.str x=>some (.inr x)
 |_=>none
noncomputable def look {α:Type}:List (Sum Int Str×α)->Sum Int Str->Option α
 |[],_=>none
 |(l,d)::r,k=>if l=k then some d else look r k
def eqD (a b:D):Option Bool:=
 if okS 8 a&&okS 8 b then some (decide (a=b)) else
 match a,b with
 |.bool a,.bool b=>some (a==b)
 |_,_=>none
def hasSub (x y:Str):Bool:=!(Builtin.Str.occurrences y x 0 y.length 1).isEmpty
def inD (a b:D):Option Bool:=
 match b with
 |.str y=>match a with
  |.str x=>some (hasSub x y)
  |_=>none
 |.list ds=>if okS 8 a&&ds.all (okS 7) then some (ds.any fun d=>decide (d=a)) else none
 |.tuple ds=>if okS 8 a&&ds.all (okS 7) then some (ds.any fun d=>decide (d=a)) else none
 |_=>none
noncomputable def bU:Cop->D->D->Option Bool
 |.lt,.int i,.int j=>some (decide (i<j))
 |.le,.int i,.int j=>some (decide (i≤j))
 |.gt,.int i,.int j=>some (decide (j<i))
 |.ge,.int i,.int j=>some (decide (j≤i))
 |.lt,.str x,.str y=>some (decide (x.cps.toList<y.cps.toList))
 |.le,.str x,.str y=>some (!decide (y.cps.toList<x.cps.toList))
 |.eq,a,b=>eqD a b
 |.ne,a,b=>(eqD a b).map (!·)
 |.isin,a,b=>inD a b
 |.notin,a,b=>(inD a b).map (!·)
 |.isN,a,b=>if b=.none then some (decide (a=.none)) else none
 |.notN,a,b=>if b=.none then some (!decide (a=.none)) else none
 |_,_,_=>none
noncomputable def lM:D->D->Option D
 |.list ds,.int i=>atI ds i
 |.tuple ds,.int i=>atI ds i
 |.scr ns,.int i=>(atI ns i).map .int
 |.str x,.int i=>if x.length≤big then (atI x.cps.toList i).map fun c=>.str ⟨#[c]⟩ else none
 |_,_=>none
def slD (d:D)(lo hi:Option Int):Option D:=
 match d with
 |.list ds=>some (.list (cut ds lo hi))
 |.str x=>if x.length≤big then some (.str (Txt.slice x lo hi)) else none
 |_=>none
noncomputable def jb (T:String):D->Option Bool
 |.none=>some false
 |.bool _=>some (T=="bool"||T=="int")
 |.int _=>some (T=="int")
 |.str _=>some (T=="str")
 |.tuple _=>some (T=="tuple")
 |.list _=>some (T=="list")
 |.dict _=>some (T=="dict")
 |_=>none
noncomputable def strsOf:List D->Option (List Str)
 |[]=>some []
 |.str x::r=>(strsOf r).map (x::·)
 |_::_=>none
noncomputable def boolsOf:List D->Option (List Bool)
 |[]=>some []
 |.bool b::r=>(boolsOf r).map (b::·)
 |_::_=>none
def ltS (x y:Str):Bool:=decide (x.cps.toList<y.cps.toList)
noncomputable def jc (x:Str):List Str->List Str
 |[]=>[x]
 |y::r=>if x=y then y::r else if ltS x y then x::y::r else y::jc x r
noncomputable def intsOf:List D->Option (List Int)
 |[]=>some []
 |.int i::r=>(intsOf r).map (i::·)
 |_=>none
def rW (l:List Int)(k:Int):List Int:=if l.any (·==k) then l else l++[k]
def eu (ns:List Int):List Int:=ns.foldl rW []
noncomputable def ou:List D->Option D
 |[.int i]=>some (.list [.int i])
 |[.int i,.int j]=>some (.list (if i=j then [.int i] else if i<j then [.int i,.int j] else [.int j,.int i]))
 |_=>none
noncomputable def srtS:List Str->List Str
 |[]=>[]
 |x::r=>jc x (srtS r)
noncomputable def biD:Bf->List D->Option D
 |.len,[.list ds]=>some (.int ds.length)
 |.len,[.tuple ds]=>some (.int ds.length)
 |.len,[.scr ns]=>some (.int ns.length)
 |.len,[.str x]=>if x.length≤big then some (.int x.length) else none
 |.min,[.int i,.int j]=>some (.int (if j<i then j else i))
 |.int,[.int i]=>some (.int i)
 |.int,[.bool b]=>some (.int (if b then 1 else 0))
 |.list,[.list ds]=>some (.list ds)
 |.list,[.tuple ds]=>some (.list ds)
 |.tuple,[.list ds]=>if ds.length≤big then some (.tuple ds) else none
 |.all,[.list ds]=>(boolsOf ds).map fun bs=>.bool (bs.all id)
 |.srt,[.list ds]=>(ou ds).or ((strsOf ds).bind fun ss=>if ss.length<64 then some (.list ((srtS ss).map .str)) else none)
 |.lzip,[.list xs,.list ys]=>some (.list ((xs.zip ys).map fun p=>.tuple [p.1,p.2]))
 |.rvl,[.list ds]=>some (.list ds.reverse)
 |.nset,[.list ds]=>(intsOf ds).bind fun ns=>if ns.length<64 then some (.int (eu ns).length) else none
 |.fst,[.str x,.str y]=>if x.length+y.length≤big then some (.str (x++y)) else none
 |_,_=>none
noncomputable def meD:Mf->D->List D->Option D
 |.join,.str x,[.list ds]=>(strsOf ds).bind fun ys=>if (ys.map (·.length)).sum+ys.length*x.length≤big then some (.str (Txt.join x ys)) else none
 |.count,.list ds,[.bool b]=>(boolsOf ds).map fun bs=>.int (bs.count b:Nat)
 |.index,.list ds,[.bool b]=>(boolsOf ds).bind fun bs=>(bs.idxOf? b).map fun j=>.int (j:Nat)
 |_,_,_=>none
noncomputable def bV:D->Option (List D)
 |.list ds=>some ds
 |.tuple ds=>some ds
 |.scr ns=>some (ns.map .int)
 |.str x=>if x.length≤big then some (x.cps.toList.map fun c=>.str ⟨#[c]⟩) else none
 |_=>none
@[simp] noncomputable def zip2:List D->List D->List D
 |a::r,b::q=>.tuple [a,b]::zip2 r q
 |_,_=>[]
@[simp] noncomputable def Di:List D->List D->List D->List D
 |a::r,b::q,c::p=>.tuple [a,b,c]::Di r q p
 |_,_,_=>[]
noncomputable def rX:List (List D)->List D
 |[a,b]=>zip2 a b
 |[a,b,c]=>Di a b c
 |_=>[]
noncomputable def qm:List D->Option (List D)
 |[.list a,.list b]=>if b.length≤a.length then some (zip2 a b) else none
 |_=>none
noncomputable def dC:List D->Option (List (List D))
 |[]=>some []
 |d::r=>(bV d).bind fun a=>(dC r).map (a::·)
def bF:D->Bool
 |.list _=>true
 |.dict _=>true
 |.vlt ..=>true
 |_=>false
noncomputable def aQ (m:Md):Sl->Option D
 |.dat d=>some d
 |.lent d=>match m with|.val=>if bF d then none else some d|_=>some d
 |.own d=>match m with|.val=>none|.walk=>none|_=>some d
 |_=>none
noncomputable def au:Tg->D->List Sl->Option (List Sl)
 |.one i,d,ρ=>some (ρ.set i (.dat d))
 |.tup is,.list ds,ρ=>if is.length=ds.length then some ((is.zip ds).foldl (fun ρ p=>ρ.set p.1 (.dat p.2)) ρ) else none
 |.tup is,.tuple ds,ρ=>if is.length=ds.length then some ((is.zip ds).foldl (fun ρ p=>ρ.set p.1 (.dat p.2)) ρ) else none
 |_,_,_=>none
def lend:Sl->Sl
 |.own d=>.lent d
 |.deep _=>.no
 |s=>s
@[simp] noncomputable def blk (nt:Nat)(js:List Nat)(ρ:List Sl):List Sl:=List.replicate nt .no++js.map fun j=>lend (ρ[j]?.getD .no)
noncomputable def aM (f:D->Option (Option D)):List D->Option (List D)
 |[]=>some []
 |d::r=>(f d).bind fun o=>(aM f r).map fun q=>match o with
  |none=>q
  |some x=>x::q
structure Fn where
 lent:List Bool
 run:List D->Option D
abbrev Fs:=Str->Option Fn
noncomputable def ao (m:Str):Str:=("Vault.":Str)++m
def gi (c:Nat):D->Bool
 |.vlt c' _ _=>c'==c
 |_=>false
noncomputable def zq:D->List D
 |.vlt _ _ os=>os
 |_=>[]
def zr (tab:List (Nat×Bool)):D->Option Bool
 |.exc C=>tab.lookup C
 |_=>none
def roM:Md->Option D->Option D
 |.read,o=>o
 |.test,o=>o
 |_,_=>none
variable (Φ:Fs)(Γ:List (Str×D))
mutual
@[simp] noncomputable def ev (m:Md)(ρ:List Sl):E->Option D
 |.k d=>fin m (some d)
 |.v i=>fin m (ρ[i]?.bind (aQ m))
 |.g x=>fin m (Γ.lookup x)
 |.op o a b=>fin m ((ev .read ρ a).bind fun x=>(ev .read ρ b).bind fun y=>opD o x y)
 |.neg a=>fin m ((ev .val ρ a).bind fun d=>(asI d).map fun i=>.int (-i))
 |.cmp o a b=>fin m ((ev .read ρ a).bind fun x=>(ev .read ρ b).bind fun y=>(bU o x y).map .bool)
 |.chain o o' a b c=>fin m ((ev .read ρ a).bind fun x=>(ev .read ρ b).bind fun y=>(bU o x y).bind fun t=>if t then (ev .read ρ c).bind fun z=>(bU o' y z).map .bool else some (.bool false))
 |.and a b=>(ev (bm m) ρ a).bind fun d=>(asB d).bind fun t=>if t then ev (bm m) ρ b else some (.bool false)
 |.or a b=>(ev (bm m) ρ a).bind fun d=>(asB d).bind fun t=>if t then some (.bool true) else ev (bm m) ρ b
 |.not a=>(ev (bm m) ρ a).bind fun d=>(asB d).map fun t=>.bool (!t)
 |.ite c a b=>noT m ((ev .test ρ c).bind fun d=>(asB d).bind fun t=>if t then ev .val ρ a else ev .val ρ b)
 |.call f as=>fin m ((Φ f).bind fun φ=>(evs .read φ.lent ρ as).bind φ.run)
 |.idx a i=>fin m ((ev .read ρ a).bind fun x=>(ev .val ρ i).bind fun y=>lM x y)
 |.sl a lo hi=>fin m ((ev .read ρ a).bind fun x=>(evP ρ lo).bind fun y=>(evP ρ hi).bind fun z=>slD x y z)
 |.lst as=>fin m ((evs .val [] ρ as).bind fun ds=>if ds.length≤1000 then some (.list ds) else none)
 |.tup as=>fin m ((evs .val [] ρ as).bind fun ds=>if ds.length≤1000 then some (.tuple ds) else none)
 |.comp nt js tg src ifs elt=>fin m ((evI .read ρ src).bind fun ds=>if ds.length≤big then (aM (fun d=>(au tg d (blk nt js ρ)).bind fun ρ'=>(evC ρ' ifs).bind fun t=>if t then (ev .val ρ' elt).map some else some none) ds).map .list else none)
 |.bi f as=>fin m ((evs .read [true,true,true] ρ as).bind fun ds=>biD f ds)
 |.me f o as=>fin m ((ev .read ρ o).bind fun x=>(evs .read [true,true] ρ as).bind fun ds=>meD f x ds)
 |.isi a T=>fin m ((ev .read ρ a).bind fun x=>(jb T x).map .bool)
 |.isx a c tab=>fin m ((ev .read ρ a).bind fun x=>(zr tab x).map .bool)
 |.vob c a=>roM m (fin m ((ev .read ρ a).bind fun x=>if gi c x then some (.list (zq x)) else none))
 |.vcall c f o as=>fin m ((ev .read ρ o).bind fun x=>if gi c x then (Φ (ao f)).bind fun φ=>(evs .read φ.lent.tail ρ as).bind fun ds=>if φ.lent.headD false then φ.run (x::ds) else none else none)
@[simp] noncomputable def evs (m:Md)(fl:List Bool)(ρ:List Sl):Es->Option (List D)
 |.nil=>some []
 |.cons a as=>(ev (if fl.headD false then m else .val) ρ a).bind fun x=>(evs m fl.tail ρ as).map (x::·)
@[simp] noncomputable def evC (ρ:List Sl):Es->Option Bool
 |.nil=>some true
 |.cons a as=>(ev .test ρ a).bind asB
@[simp] noncomputable def evP (ρ:List Sl):Es->Option (Option Int)
 |.nil=>some none
 |.cons a as=>(ev .val ρ a).bind fun d=>(asI d).map some
@[simp] noncomputable def evI (m:Md)(ρ:List Sl):I->Option (List D)
 |.seq a=>(ev m ρ a).bind bV
 |.rng a=>(ev .val ρ a).bind fun d=>(asI d).bind fun n=>if rOk n then some ((List.range n.toNat).map fun (k:Nat)=>.int k) else none
 |.zip as=>(evs .read [true,true,true] ρ as).bind qm
end
inductive Out where
 |nx (ρ:List Sl)
 |rt (d:D)
def Out.andThen (o:Out)(f:List Sl->Option Out):Option Out:=match o with
 |.nx ρ=>f ρ
 |.rt d=>some (.rt d)
noncomputable def freeze:Sl->Sl
 |.own d=>.dat d
 |.deep rows=>.dat (.list (rows.map .list))
 |s=>s
@[simp] noncomputable def qo:Sl->Bool
 |.no=>true
 |.dat _=>true
 |.lent _=>true
 |.own _=>true
 |.deep _=>false
@[simp] noncomputable def Kb:Sl->Bool
 |.no=>true
 |.dat _=>true
 |.lent _=>true
 |.own _=>false
 |.deep _=>false
noncomputable def fresh:E->Bool
 |.comp ..=>true
 |.lst ..=>true
 |.sl ..=>true
 |.op ..=>true
 |.bi .list _=>true
 |_=>false
noncomputable def forL (t:D->List Sl->Option (List Sl))(b:List Sl->Option Out):List D->List Sl->Option Out
 |[],ρ=>some (.nx ρ)
 |d::r,ρ=>(t d ρ).bind fun ρ'=>(b ρ').bind fun o=>o.andThen (forL t b r)
mutual
@[simp] noncomputable def ex (ρ:List Sl):S->Option Out
 |.set i e=>(ev Φ Γ .val ρ e).map fun d=>.nx (ρ.set i (.dat d))
 |.new i e=>if fresh e&&ρ.all qo then (ev Φ Γ .val ρ e).bind fun d=>if bF d then some (.nx (ρ.set i (.own d))) else none else none
 |.app i e=>(ev Φ Γ .val ρ e).bind fun d=>match ρ[i]? with
  |some (.own (.list ds))=>if ds.length<big then some (.nx (ρ.set i (.own (.list (ds++[d]))))) else none
  |_=>none
 |.seti i k e=>(ev Φ Γ .val ρ e).bind fun d=>(ev Φ Γ .val ρ k).bind fun x=>match ρ[i]?,x with
  |some (.own (.list ds)),.int n=>(ixN ds.length n).map fun j=>.nx (ρ.set i (.own (.list (ds.set j d))))
  |_,_=>none
 |.ifs c a b=>(ev Φ Γ .test ρ c).bind fun d=>(asB d).bind fun t=>if t then exs ρ a else exs ρ b
 |.fors tg src body=>(evI Φ Γ .walk ρ src).bind fun ds=>forL (au tg) (fun ρ'=>exs ρ' body) ds ρ
 |.ret e=>(ev Φ Γ .val (ρ.map freeze) e).map .rt
 |.pass=>some (.nx ρ)
 |.stuck=>none
@[simp] noncomputable def exs (ρ:List Sl):Ss->Option Out
 |.nil=>some (.nx ρ)
 |.cons s r=>(ex ρ s).bind fun o=>o.andThen fun ρ'=>exs ρ' r
end
structure Def where
 lent:List Bool
 slots:Nat
 body:Ss
@[simp] noncomputable def bz (d:Def)(ds:List D):List Sl:=(d.lent.zip ds).map (fun p=>if p.1 then Sl.lent p.2 else .dat p.2)++List.replicate (d.slots-ds.length) .no
noncomputable def Out.val:Out->Option D
 |.nx _=>some .none
 |.rt d=>some d
noncomputable def den (prog:List (Str×Def))(Γ:List (Str×D)):Nat->Fs
 |0,_=>none
 |k+1,f=>(prog.lookup f).map fun d=>⟨d.lent,fun ds=>if ds.length=d.lent.length then (exs (den prog Γ k) Γ (bz d ds) d.body).bind Out.val else none⟩
section
variable {d:D}{i j:Int}{x y:Str}{ds es:List D}{kvs:List (Sum Int Str×D)}{ns:List Int}{b t:Bool}{ρ:List Sl}{rows:List (List D)}
@[simp] theorem bG:asB (.bool b)=some b:=rfl
@[simp] theorem HP:asI (.int i)=some i:=rfl
@[simp] theorem dD {o:Option D}:fin .val o=o:=rfl
@[simp] theorem aV {o:Option D}:fin .read o=o:=rfl
@[simp] theorem gN:bm .test=.test:=rfl
@[simp] theorem vd:bm .val=.val:=rfl
@[simp] theorem HQ:bm .read=.val:=rfl
@[simp] theorem HR:bm .walk=.val:=rfl
@[simp] theorem Gh {o:Option D}:fin .walk o=o:=rfl
@[simp] theorem Gi {o:Option D}:noT .walk o=o:=rfl
@[simp] theorem Dj:aQ .walk (.lent d)=some d:=rfl
@[simp] theorem Ft:aQ .walk (.own d)=none:=rfl
@[simp] theorem ij {o:Option D}:fin .test o=o.bind fun d=>(eJ d).map .bool:=rfl
@[simp] theorem HS {o:Option D}:noT .val o=o:=rfl
@[simp] theorem Gj {o:Option D}:noT .read o=o:=rfl
@[simp] theorem Fu:eJ .none=some false:=rfl
@[simp] theorem rY:eJ (.bool b)=some b:=rfl
@[simp] theorem Gk:eJ (.int i)=some (i != 0):=rfl
@[simp] theorem ve:eJ (.str x)=if x.length≤big then some ((x.length:Int) != 0) else none:=rfl
@[simp] theorem Dk:eJ (.tuple ds)=some (!ds.isEmpty):=rfl
@[simp] theorem Fv:eJ (.list ds)=some (!ds.isEmpty):=rfl
@[simp] theorem Fw:eJ (.dict kvs)=some (!kvs.isEmpty):=rfl
@[simp] theorem Gm:eJ (.scr ns)=some (!ns.isEmpty):=rfl
@[simp] theorem HU:opD .add (.int i) (.int j)=some (.int (i+j)):=rfl
@[simp] theorem zt:opD .add (.str x) (.str y)=if x.length+y.length≤big then some (.str (x++y)) else none:=rfl
@[simp] theorem zu:opD .add (.list ds) (.list es)=if ds.length+es.length≤big then some (.list (ds++es)) else none:=rfl
@[simp] theorem HV:opD .sub (.int i) (.int j)=some (.int (i-j)):=rfl
@[simp] theorem gP:opD .mul (.int i) (.int j)=if lL i j then some (.int (i*j)) else none:=rfl
@[simp] theorem zv:opD .mul (.list ds) (.int j)=if uZ ds.length j then some (.list (List.replicate j.toNat ds).flatten) else none:=rfl
@[simp] theorem zw:opD .mul (.str x) (.int j)=if -1000≤j/\j≤1000/\x.length≤1000 then some (.str ⟨((List.replicate j.toNat x.cps.toList).flatten).toArray⟩) else none:=rfl
@[simp] theorem zx:opD .mod (.int i) (.int j)=if 0<j then some (.int (i % j)) else none:=rfl
@[simp] theorem zy:opD .fdiv (.int i) (.int j)=if 0<j/\j<1073741824 then some (.int (i / j)) else none:=rfl
@[simp] theorem HW:bU .lt (.int i) (.int j)=some (decide (i<j)):=rfl
@[simp] theorem qr:bU .le (.int i) (.int j)=some (decide (i≤j)):=rfl
@[simp] theorem HX:bU .gt (.int i) (.int j)=some (decide (j<i)):=rfl
@[simp] theorem HY:bU .ge (.int i) (.int j)=some (decide (j≤i)):=rfl
@[simp] theorem HZ:bU .lt (.str x) (.str y)=some (decide (x.cps.toList<y.cps.toList)):=rfl
@[simp] theorem zz:bU .le (.str x) (.str y)=some (!decide (y.cps.toList<x.cps.toList)):=rfl
@[simp] theorem vg {a b:D}:bU .eq a b=eqD a b:=rfl
@[simp] theorem Dl {a b:D}:bU .ne a b=(eqD a b).map (!·):=rfl
@[simp] theorem Dm {a b:D}:bU .isin a b=inD a b:=rfl
@[simp] theorem ju {a b:D}:bU .notin a b=(inD a b).map (!·):=by cases a<;>rfl
@[simp] theorem Ia {a:D}:bU .isN a .none=some (decide (a=.none)):=by cases a<;>exact if_pos rfl
@[simp] theorem Gn {a:D}:bU .notN a .none=some (!decide (a=.none)):=by cases a<;>exact if_pos rfl
@[simp] theorem eq_int:eqD (.int i) (.int j)=some (decide (i=j)):=by
 show (if true then some _ else _)=_;simp
@[simp] theorem eq_str:eqD (.str x) (.str y)=some (decide (x=y)):=by
 show (if true then some _ else _)=_;simp
@[simp] theorem eq_bool:eqD (.bool b) (.bool t)=some (b==t):=rfl
theorem vh {a b:D}(h1:okS 8 a=true)(h2:okS 8 b=true):eqD a b=some (decide (a=b)):=by
 unfold eqD;simp_all
@[simp] theorem Gp:lM (.list ds) (.int i)=atI ds i:=rfl
@[simp] theorem Fx:lM (.tuple ds) (.int i)=atI ds i:=rfl
@[simp] theorem Ib:lM (.scr ns) (.int i)=(atI ns i).map .int:=rfl
@[simp] theorem zA:lM (.str x) (.int i)=if x.length≤big then (atI x.cps.toList i).map fun c=>.str ⟨#[c]⟩ else none:=rfl
@[simp] theorem Ic:Gg (.int i)=some (.inl i):=rfl
@[simp] theorem Ie:Gg (.str x)=some (.inr x):=rfl
@[simp] theorem qi {l h:Option Int}:slD (.list ds) l h=some (.list (cut ds l h)):=rfl
@[simp] theorem Dn {l h:Option Int}:slD (.str x) l h=if x.length≤big then some (.str (Txt.slice x l h)) else none:=rfl
@[simp] theorem len_list:biD .len [.list ds]=some (.int ds.length):=rfl
@[simp] theorem len_tuple:biD .len [.tuple ds]=some (.int ds.length):=rfl
@[simp] theorem Ig:biD .len [.scr ns]=some (.int ns.length):=rfl
@[simp] theorem len_str:biD .len [.str x]=if x.length≤big then some (.int x.length) else none:=rfl
@[simp] theorem Ih:biD .min [.int i,.int j]=some (.int (if j<i then j else i)):=rfl
@[simp] theorem int_int:biD .int [.int i]=some (.int i):=rfl
@[simp] theorem int_bool:biD .int [.bool b]=some (.int (if b then 1 else 0)):=rfl
@[simp] theorem list_list:biD .list [.list ds]=some (.list ds):=rfl
@[simp] theorem list_tuple:biD .list [.tuple ds]=some (.list ds):=rfl
@[simp] theorem tuple_list:biD .tuple [.list ds]=if ds.length≤big then some (.tuple ds) else none:=rfl
@[simp] theorem lN:biD .all [.list ds]=(boolsOf ds).map fun bs=>.bool (bs.all id):=rfl
@[simp] theorem jv {l:List Bool}:boolsOf (l.map .bool)=some l:=by
 induction l with
 |nil=>rfl
 |cons a r ih=>show (boolsOf _).map _=_;simp_all
@[simp] theorem zB:meD .join (.str x) [.list ds]=(strsOf ds).bind fun ys=>if (ys.map (·.length)).sum+ys.length*x.length≤big then some (.str (Txt.join x ys)) else none:=rfl
@[simp] theorem Do:bV (.list ds)=some ds:=rfl
@[simp] theorem BF:bV (.tuple ds)=some ds:=rfl
@[simp] theorem Fy:bV (.scr ns)=some (ns.map .int):=rfl
@[simp] theorem items_str:bV (.str x)=if x.length≤big then some (x.cps.toList.map fun c=>.str ⟨#[c]⟩) else none:=rfl
@[simp] theorem yU:dC []=some []:=rfl
@[simp] theorem vj {r:List D}:dC (d::r)=(bV d).bind fun a=>(dC r).map (a::·):=rfl
@[simp] theorem zC {a b:List D}:qm [.list a,.list b]=if b.length≤a.length then some (zip2 a b) else none:=rfl
@[simp] theorem IX {a b:List D}:rX [a,b]=zip2 a b:=rfl
@[simp] theorem IY {a b c:List D}:rX [a,b,c]=Di a b c:=rfl
@[simp] theorem ik:bF (.list ds)=true:=rfl
@[simp] theorem vo:bF (.dict kvs)=true:=rfl
@[simp] theorem Ii:bF (.int i)=false:=rfl
@[simp] theorem Ij:bF (.str x)=false:=rfl
@[simp] theorem Gq:bF (.bool b)=false:=rfl
@[simp] theorem Gr:bF .none=false:=rfl
@[simp] theorem Fz:bF (.tuple ds)=false:=rfl
@[simp] theorem Ik:bF (.scr ns)=false:=rfl
@[simp] theorem Gs {m:Md}:aQ m (.dat d)=some d:=rfl
@[simp] theorem ox:aQ .val (.lent d)=if bF d then none else some d:=rfl
@[simp] theorem bo:aQ .read (.lent d)=some d:=rfl
@[simp] theorem Dq:aQ .test (.lent d)=some d:=rfl
@[simp] theorem FA:aQ .val (.own d)=none:=rfl
@[simp] theorem FC:aQ .read (.own d)=some d:=rfl
@[simp] theorem FD:aQ .test (.own d)=some d:=rfl
@[simp] theorem Gu {i:Nat}:au (.one i) d ρ=some (ρ.set i (.dat d)):=rfl
@[simp] theorem fJ {is:List Nat}:au (.tup is) (.tuple ds) ρ=if is.length=ds.length then some ((is.zip ds).foldl (fun ρ p=>ρ.set p.1 (.dat p.2)) ρ) else none:=rfl
@[simp] theorem fK {is:List Nat}:au (.tup is) (.list ds) ρ=if is.length=ds.length then some ((is.zip ds).foldl (fun ρ p=>ρ.set p.1 (.dat p.2)) ρ) else none:=rfl
@[simp] theorem lO:lend (.own d)=.lent d:=rfl
@[simp] theorem Gv:lend (.dat d)=.dat d:=rfl
@[simp] theorem FE:lend (.lent d)=.lent d:=rfl
@[simp] theorem Il:lend .no=.no:=rfl
@[simp] theorem jw:lend (.deep rows)=.no:=rfl
@[simp] theorem kF {f:List Sl->Option Out}:(Out.nx ρ).andThen f=f ρ:=rfl
@[simp] theorem qt {f:List Sl->Option Out}:(Out.rt d).andThen f=some (.rt d):=rfl
@[simp] theorem IZ:(Out.nx ρ).val=some .none:=rfl
@[simp] theorem vp:(Out.rt d).val=some d:=rfl
@[simp] theorem Ds:freeze (.own d)=.dat d:=rfl
@[simp] theorem Dt:freeze (.dat d)=.dat d:=rfl
@[simp] theorem gj:freeze (.lent d)=.lent d:=rfl
@[simp] theorem FG:freeze .no=.no:=rfl
@[simp] theorem BG:freeze (.deep rows)=.dat (.list (rows.map .list)):=rfl
@[simp] theorem Du {a b c e f g}:fresh (.comp a b c e f g)=true:=rfl
@[simp] theorem FH {a}:fresh (.lst a)=true:=rfl
@[simp] theorem Gw {a b c}:fresh (.sl a b c)=true:=rfl
@[simp] theorem Gx {a b c}:fresh (.op a b c)=true:=rfl
@[simp] theorem Dv {a}:fresh (.bi .list a)=true:=rfl
@[simp] theorem Gy {T:String}:jb T (.list ds)=some (T=="list"):=rfl
@[simp] theorem FI {T:String}:jb T (.tuple ds)=some (T=="tuple"):=rfl
@[simp] theorem Im {T:String}:jb T (.int i)=some (T=="int"):=rfl
@[simp] theorem Io {T:String}:jb T (.str x)=some (T=="str"):=rfl
@[simp] theorem Gz {T:String}:jb T (.bool b)=some (T=="bool"||T=="int"):=rfl
@[simp] theorem GA {T:String}:jb T .none=some false:=rfl
end
theorem oz {d:D}{i:Int}(h:asI d=some i):d=.int i:=by
 cases d with
 |int=>cases h;rfl
 |_=>cases h
theorem oA {d:D}{b:Bool}(h:asB d=some b):d=.bool b:=by
 cases d with
 |bool=>cases h;rfl
 |_=>cases h
theorem lP {c:Nat}{d:D}(h:gi c d=true):∃n os,d=.vlt c n os:=by
 cases d with
 |vlt=>cases eq_of_beq h;exact⟨_,_,rfl⟩
 |_=>cases h
theorem zD {tab:List (Nat×Bool)}{d:D}{b:Bool}(h:zr tab d=some b):∃e,d=.exc e:=by
 cases d with
 |exc e=>exact⟨e,rfl⟩
 |_=>cases h
structure Cs where
 N:List Str
 sc:Scope
 fns:List Str
 cst:List Str
 mts:List Nat
 dp:List Nat
 vc:Option Nat:=none
 vms:List Str:=[]
 xcs:List (Str×Nat×List (Nat×Bool)):=[]
def ar (C:Cs)(x:Str)(k:NameKind):Bool:=C.sc.names.lookup x==some k
def bq (x:Str):Bool:=!(x==("__debug__":Str))&&!(x==("__classdict__":Str))&&!(x==("__name__":Str))
def cZ (C:Cs)(x:Str):Option Nat:=
 match C.N.idxOf? x with
 |some i=>if (ar C x .local||ar C x .cell||ar C x .free)&&bq x then some i else none
 |none=>none
def gA (C:Cs)(x:Str):Option Nat:=
 match C.N.idxOf? x with
 |some i=>if (ar C x .local||ar C x .cell)&&bq x then some i else none
 |none=>none
def aw (C:Cs)(x:Str):Bool:=ar C x .globalImplicit&&bq x
noncomputable def qu (C:Cs)(x:Str):Option E:=
 match cZ C x with
 |some i=>some (.v i)
 |none=>if aw C x&&C.cst.contains x then some (.g x) else none
noncomputable def cOp:Operator->Option Op2
 |.Add=>some .add
 |.Sub=>some .sub
 |.Mult=>some .mul
 |.Mod=>some .mod
 |.FloorDiv=>some .fdiv
 |_=>none
noncomputable def oB:CmpOp->Option Cop
 |.Lt=>some .lt
 |.LtE=>some .le
 |.Gt=>some .gt
 |.GtE=>some .ge
 |.Eq=>some .eq
 |.NotEq=>some .ne
 |.In=>some .isin
 |.NotIn=>some .notin
 |.Is=>some .isN
 |.IsNot=>some .notN
def jx (x:Str):Bool:=x.cps.toList.all fun c=>decide (c<0x110000)
def isSet:Expr->Bool
 |.Set ..=>true
 |_=>false
def isSlice:Expr->Bool
 |.Slice ..=>true
 |_=>false
def isStar:Expr->Bool
 |.Starred ..=>true
 |_=>false
def isTup:Expr->Bool
 |.Tuple ..=>true
 |_=>false
noncomputable def ip (x:Str):Option Bf:=
 if x=("len":Str) then some .len else if x=("min":Str) then some .min else if x=("int":Str) then some .int
 else if x=("list":Str) then some .list else if x=("tuple":Str) then some .tuple else if x=("all":Str) then some .all else none
noncomputable def qv (x:Str):Option Mf:=
 if x=("join":Str) then some .join else if x=("count":Str) then some .count else if x=("index":Str) then some .index else none
noncomputable def rZ (x:Str):Option String:=
 if x=("int":Str) then some "int" else if x=("str":Str) then some "str" else if x=("list":Str) then some "list" else if x=("tuple":Str) then some "tuple" else if x=("bool":Str) then some "bool" else none
def bB:Expr->Bool
 |.Call (.Name id _) [] [] _=>id==("super":Str)
 |_=>false
noncomputable def slots (C:Cs):List Expr->Option (List Nat)
 |[]=>some []
 |.Name x _::r=>(gA C x).bind fun i=>(slots C r).map (i::·)
 |_::_=>none
noncomputable def cTg (C:Cs):Expr->Option Tg
 |.Name x _=>(gA C x).map .one
 |.Tuple es _ _=>(slots C es).map .tup
 |_=>none
noncomputable def bt:Expr->List Str
 |.Name x _=>[x]
 |.Tuple es _ _=>es.filterMap fun|.Name x _=>some x|_=>none
 |_=>[]
noncomputable def gC:Tg->Nat->Bool
 |.one i,n=>decide (i<n)
 |.tup is,n=>is.all fun i=>decide (i<n)
noncomputable def freeOf (sc:Scope):List Str:=sc.names.filterMap fun (x,k)=>if k==.free then some x else none
noncomputable def oC (N:List Str):List Str->Option (List Nat)
 |[]=>some []
 |x::r=>(N.idxOf? x).bind fun i=>(oC N r).map (i::·)
def BH (C:Cs)(sc:Scope)(tn:List Str):Bool:=
 sc.kind==.function&&
 sc.names.all (fun y=>(y.2 != .free||ar C y.1 .cell)&&y.2 != .cell&&(y.2 != .local||sc.names.lookup y.1==some .local))&&
 tn.all (fun x=>sc.names.lookup x==some .local)&&
 (freeOf sc).all (fun x=>sc.names.lookup x==some .free)&&
 decide ((tn++freeOf sc).Nodup)
noncomputable def sd (C:Cs)(sc:Scope)(tg:Expr):Option (Cs×Nat×List Nat):=
 if BH C sc (bt tg) then (oC C.N (freeOf sc)).map fun js=>({C with N:=bt tg++freeOf sc,sc:=sc,mts:=[],dp:=[]},(bt tg).length,js) else none
noncomputable def kG (C:Cs):List Expr->Option (Expr×String)
 |[a,.Name t _]=>if aw C t&&!isStar a then (rZ t).map fun T=>(a,T) else none
 |_=>none
noncomputable def kH (C:Cs):List Expr->Option (Expr×Nat×List (Nat×Bool))
 |[a,.Name t _]=>if aw C t&&!isStar a then (C.xcs.lookup t).map fun q=>(a,q) else none
 |_=>none
noncomputable def se:List Expr->Option Expr
 |[a]=>some a
 |_=>none
noncomputable def setArg (C:Cs):List Expr->Option Expr
 |[.Call (.Name s _) [a] [] _]=>if s=("set":Str) then (if aw C s&&!isStar a then some a else none) else none
 |_=>none
def qw:Expr->Bool
 |.Slice none none (some (.UnaryOp .USub (.Constant (.int 1) _ _) _)) _=>true
 |_=>false
noncomputable def gQ (C:Cs)(f:Str):List Expr->Option (Bf×List Expr)
 |[.Call (.Name g _) as [] _]=>if !aw C g||as.any isStar then none else if f=("len":Str) then (if g=("set":Str)&&as.length==1 then some (.nset,as) else none) else if f=("list":Str) then (if g=("zip":Str)&&as.length==2 then some (.lzip,as) else none) else none
 |_=>none
noncomputable def qy:List Expr->Option (Str×Expr)
 |[.Constant (.str x) _ _,.FormattedValue a (.negSucc 0) none _]=>if jx x then some (x,a) else none
 |_=>none
mutual
noncomputable def cE:Nat->Cs->Expr->Option E
 |0,_,_=>none
 |n+1,C,e=>match e with
  |.Constant (.int i) _ _=>some (.k (.int i))
  |.Constant (.str x) _ _=>if jx x then some (.k (.str x)) else none
  |.Constant (.bool b) _ _=>some (.k (.bool b))
  |.Constant .none _ _=>some (.k .none)
  |.Name x _=>qu C x
  |.BinOp a op b _=>(cOp op).bind fun o=>(cE n C a).bind fun a'=>(cE n C b).map fun b'=>.op o a' b'
  |.UnaryOp .USub a _=>(cE n C a).map .neg
  |.UnaryOp .Not a _=>(cE n C a).map .not
  |.Compare a [op] [b] _=>(oB op).bind fun o=>if isSet b then none else (cE n C a).bind fun a'=>(cE n C b).map fun b'=>.cmp o a' b'
  |.Compare a [op,op'] [b,c] _=>(oB op).bind fun o=>(oB op').bind fun o'=>if isSet b||isSet c then none else (cE n C a).bind fun a'=>(cE n C b).bind fun b'=>(cE n C c).map fun c'=>.chain o o' a' b' c'
  |.BoolOp op (a::b::r) pos=>cBool n C op (a::b::r)
  |.IfExp c a b _=>(cE n C c).bind fun c'=>(cE n C a).bind fun a'=>(cE n C b).map fun b'=>.ite c' a' b'
  |.Call (.Name f _) as [] _=>if aw C f then lQ n C f as else none
  |.Call (.Attribute o m apos) as [] pos=>if bB o||!(apos.endLine==pos.line) then none else cMe n C o m as
  |.Attribute o x _=>if x=("objects":Str) then C.vc.bind fun c=>(cE n C o).map fun o'=>.vob c o' else none
  |.Subscript a (.Slice lo hi none _) _=>(cE n C a).bind fun a'=>(cO n C lo).bind fun lo'=>(cO n C hi).map fun hi'=>.sl a' lo' hi'
  |.Subscript a i _=>if isSlice i then (if qw i then (cE n C a).map fun a'=>.bi .rvl (.cons a' .nil) else none) else zE n C a i
  |.List es _=>(cEs n C es).map .lst
  |.Tuple es _ _=>(cEs n C es).map .tup
  |.JoinedStr vs _=>(qy vs).bind fun q=>(cE n C q.2).map fun a'=>.bi .fst (.cons (.k (.str q.1)) (.cons a' .nil))
  |.ListComp elt [⟨tg,iter,ifs,0⟩] sc _=>(oE n C tg iter).bind fun src=>(sd C sc tg).bind fun (B,nt,js)=>(cTg B tg).bind fun t=>if !gC t nt then none else (if ifs.length≤1 then cEs n B ifs else none).bind fun i'=>(cE n B elt).map fun e'=>.comp nt js t src i' e'
  |_=>none
noncomputable def cMe:Nat->Cs->Expr->Str->List Expr->Option E
 |0,_,_,_,_=>none
 |n+1,C,o,m,as=>if C.vms.contains m then if 20<as.length then none else C.vc.bind fun c=>(cE n C o).bind fun o'=>(cEs n C as).map fun as'=>.vcall c m o' as'
  else (qv m).bind fun m'=>(cE n C o).bind fun o'=>(se as).bind fun a=>if isStar a then none else (cE n C a).map fun a'=>.me m' o' (.cons a' .nil)
noncomputable def zE:Nat->Cs->Expr->Expr->Option E
 |0,_,_,_=>none
 |n+1,C,a,j=>(cE n C a).bind fun a'=>(cE n C j).map fun j'=>.idx a' j'
noncomputable def cO:Nat->Cs->Option Expr->Option Es
 |0,_,_=>none
 |n+1,C,none=>some .nil
 |n+1,C,some e=>(cE n C e).map fun a=>.cons a .nil
noncomputable def cBool:Nat->Cs->BoolOp->List Expr->Option E
 |0,_,_,_=>none
 |n+1,C,_,[a]=>cE n C a
 |n+1,C,.And,a::b::r=>(cE n C a).bind fun a'=>(cBool n C .And (b::r)).map fun b'=>.and a' b'
 |n+1,C,.Or,a::b::r=>(cE n C a).bind fun a'=>(cBool n C .Or (b::r)).map fun b'=>.or a' b'
 |_,_,_,_=>none
noncomputable def lQ:Nat->Cs->Str->List Expr->Option E
 |0,_,_,_=>none
 |n+1,C,f,as=>if C.fns.contains f then (if as.isEmpty then none else (cEs n C as).map fun as'=>.call f as')
  else if f=("isinstance":Str) then (match kH C as with
   |some q=>(cE n C q.1).map fun a'=>.isx a' q.2.1 q.2.2
   |none=>(kG C as).bind fun q=>(cE n C q.1).map fun a'=>.isi a' q.2)
   else if f=("sorted":Str) then (setArg C as).bind fun a=>(cEs n C [a]).map fun as'=>.bi .srt as'
   else match gQ C f as with
    |some q=>(cEs n C q.2).map fun as'=>.bi q.1 as'
    |none=>(ip f).bind fun b=>if as.isEmpty then none else (cEs n C as).map fun as'=>.bi b as'
noncomputable def cEs:Nat->Cs->List Expr->Option Es
 |0,_,_=>none
 |n+1,C,[]=>some .nil
 |n+1,C,e::r=>if isStar e then none else (cE n C e).bind fun a=>(cEs n C r).map fun as=>.cons a as
noncomputable def oE:Nat->Cs->Expr->Expr->Option I
 |0,_,_,_=>none
 |n+1,C,tg,e=>match e with
  |.Call (.Name f _) [a,b] [] _=>if f=("zip":Str) then (if aw C f&&!C.fns.contains f&&isTup tg then (cEs n C [a,b]).map .zip else none) else cI n C e
  |_=>cI n C e
noncomputable def cI:Nat->Cs->Expr->Option I
 |0,_,_=>none
 |n+1,C,e=>match e with
  |.Call (.Name f _) as [] _=>if f=("range":Str) then (if aw C f&&!C.fns.contains f then (match as with
     |[a]=>if isStar a then none else (cE n C a).map .rng
     |_=>none) else none)
   else (cE n C e).map .seq
  |_=>if isSet e then none else (cE n C e).map .seq
end
def dc:Expr->Bool
 |.ListComp ..=>true
 |.SetComp ..=>true
 |.DictComp ..=>true
 |_=>false
mutual
noncomputable def cS:Nat->Cs->Stmt->Option S
 |0,_,_=>none
 |n+1,C,s=>match s with
  |.Assign [.Name y py] v pos=>(gA C y).bind fun j=>
    if C.mts.contains j then (cE n C v).bind fun e=>if fresh e then some (.new j e) else none
    else (cE n C v).map fun e=>.set j e
  |.Assign [.Subscript (.Name x _) k _] v _=>if isSlice k then none else (cZ C x).bind fun i=>(cE n C v).bind fun e=>(cE n C k).map fun k'=>.seti i k' e
  |.Expr (.Call (.Attribute (.Name x _) m apos) as [] cpos) _=>if apos.endLine==cpos.line then (cZ C x).bind fun i=>
    (match as with
    |[a]=>if isStar a then none else if m=("append":Str) then (cE n C a).map fun e=>.app i e else none
    |_=>none) else none
  |.If c a b _=>(cE n C c).bind fun c'=>(cSs n C a).bind fun a'=>(cSs n C b).map fun b'=>.ifs c' a' b'
  |.For tg iter body [] _=>(cTg C tg).bind fun t=>(cI n C iter).bind fun src=>(cSs n C body).map fun b=>.fors t src b
  |.Return (some e) _=>(cE n C e).map .ret
  |.Pass _=>some .pass
  |.Raise ..=>some .stuck
  |_=>none
noncomputable def cSs:Nat->Cs->List Stmt->Option Ss
 |0,_,_=>none
 |n+1,C,[]=>some .nil
 |n+1,C,s::r=>(cS n C s).bind fun s'=>(cSs n C r).map fun r'=>.cons s' r'
end
noncomputable def BI (m:Str):Bool:=m=("append":Str)||m=("extend":Str)||m=("reverse":Str)||m=("clear":Str)||m=("pop":Str)
mutual
noncomputable def Ja:Nat->Stmt->List (Str×Bool)
 |0,_=>[]
 |n+1,s=>match s with
  |.Assign [.Name _ _] (.Call (.Attribute (.Name x _) m _) [] [] _) _=>if BI m then [(x,false)] else []
  |.Assign [.Subscript (.Name x _) _ _] _ _=>[(x,false)]
  |.Assign [.Subscript (.Subscript (.Name x _) _ _) _ _] _ _=>[(x,true)]
  |.Expr (.Call (.Attribute (.Name x _) m _) _ [] _) _=>if BI m then [(x,false)] else []
  |.If _ a b _=>jy n a++jy n b
  |.For _ _ b _ _=>jy n b
  |.While _ b _ _=>jy n b
  |_=>[]
noncomputable def jy:Nat->List Stmt->List (Str×Bool)
 |0,_=>[]
 |n+1,[]=>[]
 |n+1,s::r=>Ja n s++jy n r
end
noncomputable def ax (sc:Scope)(ps:List Str):List Str:=sc.names.filterMap fun (x,k)=>if (k==.local||k==.cell)&&!ps.contains x then some x else none
noncomputable def bu:Stmt->Option (List Str×List Stmt×Scope)
 |.FunctionDef _ args body _ _ _ sc _ _ _=>some (args.args.map (·.arg),body,sc)
 |_=>none
noncomputable def zF (fns cst:List Str)(ps:List Str)(body:List Stmt)(sc:Scope)(vc:Option Nat:=none)(vms:List Str:=[])(xcs:List (Str×Nat×List (Nat×Bool)):=[]):Cs:=
 let N:=ps++ax sc ps
 let ms:=jy 60 body
 {N,sc,fns,cst,vc,vms,xcs,mts:=ms.filterMap fun (x,d)=>if d then none else N.idxOf? x,dp:=ms.filterMap fun (x,d)=>if d then N.idxOf? x else none}
noncomputable def sf (fns cst:List Str)(lent:List Bool)(st:Stmt)(vc:Option Nat:=none)(vms:List Str:=[])(xcs:List (Str×Nat×List (Nat×Bool)):=[]):Option Def:=
 (bu st).bind fun (ps,body,sc)=>(cSs 60 (zF fns cst ps body sc vc vms xcs) body).map fun b=>{lent,slots:=(ps++ax sc ps).length,body:=b}
end SI
namespace L2.Z
open PySem PySem.Spec PyProof.Rows L2 L2.C SI
abbrev Fg:=PySem.W.Frag
noncomputable def vfs (l n:Addr)(h:Nat):List (Str×V):=[("objects",.ref l),("numbers",.ref n),("objects",.int h)]
def ExcAt (a C:Addr):Heap->Prop:=fun h=>∃o,h.get? a=some o/\o.cls=.ref C
mutual
inductive Dp (K:Fg)(H:Hp):D->V->Prop
 |none:Dp K H .none .non
 |bool (b:Bool):Dp K H (.bool b) (.bl b)
 |int (i:Int):Dp K H (.int i) (.int i)
 |str (x:Str):PyData.strOk x=true->Dp K H (.str x) (.str x)
 |tuple {a:Addr} {vs:List V} {ds:List D}:H a=some (.tup vs)->Dps K H ds vs->Dp K H (.tuple ds) (.ref a)
 |list {a:Addr} {vs:List V} {ds:List D}:H a=some (.lst vs)->Dps K H ds vs->Dp K H (.list ds) (.ref a)
 |dict {a:Addr} {kvs:List (Key×D)} {ws:List (Key×V)}:H a=some (.dK ws)->Dks K H kvs ws->Dp K H (.dict kvs) (.ref a)
 |scr {a:Addr} {ns:List Int}:SqL K H a (ns.map V.int)->Dp K H (.scr ns) (.ref a)
 |hdl {a C dx l n:Addr} {h:Nat}:H a=some (.ins C dx (vfs l n h))->Dp K H (.hdl h) (.ref a)
 |exc {a:Addr} {C:Nat}:H a=some (.ext (ExcAt a C))->Dp K H (.exc C) (.ref a)
inductive Dps (K:Fg)(H:Hp):List D->List V->Prop
 |nil:Dps K H [] []
 |cons {d:D} {v:V} {ds:List D} {vs:List V}:Dp K H d v->Dps K H ds vs->Dps K H (d::ds) (v::vs)
inductive Dks (K:Fg)(H:Hp):List (Key×D)->List (Key×V)->Prop
 |nil:Dks K H [] []
 |cons {k:Key} {d:D} {v:V} {ds:List (Key×D)} {vs:List (Key×V)}:Dp K H d v->Dks K H ds vs->Dks K H ((k,d)::ds) ((k,v)::vs)
end
section
variable {K:Fg}{G G':Hp}
mutual
theorem Dp.mono (e:Same G G'):∀{d:D} {v:V},Dp K G d v->Dp K G' d v
 |_,_,.none=>.none
 |_,_,.bool b=>.bool b
 |_,_,.int i=>.int i
 |_,_,.str x h=>.str x h
 |_,_,.tuple h r=>.tuple (e _ _ h) (Dps.mono e r)
 |_,_,.list h r=>.list (e _ _ h) (Dps.mono e r)
 |_,_,.dict h r=>.dict (e _ _ h) (Dks.mono e r)
 |_,_,.scr h=>.scr (e.seq h)
 |_,_,.hdl h=>.hdl (e _ _ h)
 |_,_,.exc h=>.exc (e _ _ h)
theorem Dps.mono (e:Same G G'):∀{ds:List D} {vs:List V},Dps K G ds vs->Dps K G' ds vs
 |_,_,.nil=>.nil
 |_,_,.cons h r=>.cons (Dp.mono e h) (Dps.mono e r)
theorem Dks.mono (e:Same G G'):∀{ds:List (Key×D)} {vs:List (Key×V)},Dks K G ds vs->Dks K G' ds vs
 |_,_,.nil=>.nil
 |_,_,.cons h r=>.cons (Dp.mono e h) (Dks.mono e r)
end
theorem Dps.length {ds:List D}{vs:List V}(h:Dps K G ds vs):ds.length=vs.length:=by
 induction vs generalizing ds with
 |nil=>cases h;rfl
 |cons v vs ih=>cases h<;>simp_all
theorem Dps.get {ds:List D}{vs:List V}{k:Nat}{d:D}(h:Dps K G ds vs)(e:ds[k]?=some d):∃v,vs[k]?=some v/\Dp K G d v:=by
 induction vs generalizing ds k with
 |nil=>cases h;simp at e
 |cons v vs ih=>
  cases h with
  |cons h r=>
   cases k with
   |zero=>simp_all
   |succ k=>simpa using ih r (by simpa using e)
theorem Dps.append {ds es:List D}{vs us:List V}(h:Dps K G ds vs)(q:Dps K G es us):Dps K G (ds++es) (vs++us):=by
 induction vs generalizing ds with
 |nil=>cases h;exact q
 |cons v vs ih=>cases h with|cons h r=>exact .cons h (ih r)
theorem Dps.one {d:D}{v:V}(h:Dp K G d v):Dps K G [d] [v]:=.cons h .nil
theorem Dps.take {ds:List D}{vs:List V}(n:Nat)(h:Dps K G ds vs):Dps K G (ds.take n) (vs.take n):=by
 induction vs generalizing ds n with
 |nil=>cases h;simpa using Dps.nil
 |cons v vs ih=>
  cases h with
  |cons h r=>
   cases n with
   |zero=>simpa using Dps.nil
   |succ n=>simpa using Dps.cons h (ih n r)
theorem Dps.drop {ds:List D}{vs:List V}(n:Nat)(h:Dps K G ds vs):Dps K G (ds.drop n) (vs.drop n):=by
 induction vs generalizing ds n with
 |nil=>cases h;simpa using Dps.nil
 |cons v vs ih=>
  cases h with
  |cons h r=>
   cases n with
   |zero=>simpa using Dps.cons h r
   |succ n=>simpa using ih n r
theorem Dps.set {ds:List D}{vs:List V}{d:D}{v:V}(hd:Dp K G d v)(n:Nat)(h:Dps K G ds vs):Dps K G (ds.set n d) (vs.set n v):=by
 induction vs generalizing ds n with
 |nil=>cases h;simpa using Dps.nil
 |cons u vs ih=>
  cases h with
  |cons h r=>
   cases n with
   |zero=>simpa using Dps.cons hd r
   |succ n=>simpa using Dps.cons h (ih n r)
theorem Dps.reverse {ds:List D}{vs:List V}(h:Dps K G ds vs):Dps K G ds.reverse vs.reverse:=by
 induction vs generalizing ds with
 |nil=>cases h;exact .nil
 |cons u vs ih=>
  cases h with
  |cons h r=>rw[List.reverse_cons,List.reverse_cons];exact (ih r).append (.one h)
theorem Dps.rep {ds:List D}{vs:List V}(h:Dps K G ds vs):∀k:Nat,Dps K G (List.replicate k ds).flatten (List.replicate k vs).flatten
 |0=>.nil
 |k+1=>by
  exact h.append (Dps.rep h k)
theorem vq {α:Type}(xs:List α)(i:Int):SI.atI xs i=L2.atI xs i:=rfl
theorem Jb (n d:Nat)(o:Option Int):SI.sIx n d o=HT.sIx n d o:=rfl
theorem Dps.atI {ds:List D}{vs:List V}{i:Int}{d:D}(h:Dps K G ds vs)(e:SI.atI ds i=some d):∃v,L2.atI vs i=some v/\Dp K G d v:=by
 rw[vq] at e;unfold L2.atI at e ⊢;rw[←h.length];cases q:L2.ixN _ i with
 |none=>simp_all
 |some j=>
  rw[q] at e;exact h.get (e)
theorem Dps.cut {ds:List D}{vs:List V}(h:Dps K G ds vs)(lo hi:Option Int):Dps K G (SI.cut ds lo hi) (L2.uU vs lo hi):=by
 unfold SI.cut L2.uU;rw[h.length];exact (h.drop _).take _
end
structure Ext (G H G' H':Hp):Prop where
 hh:Same H H'
 gg:Same G G'
 gh:Same G' H'
 nw:∀b o,G b=Option.none->H b=some o->G' b=Option.none
 ni:∀b C dx fs,H' b=some (.ins C dx fs)->H b=some (.ins C dx fs)
theorem Ext.refl {G H:Hp}(h:Same G H):Ext G H G H:=⟨Same.refl _,Same.refl _,h,fun a a h a=>h,fun a a a a h=>h⟩
noncomputable def notIns:HO->Bool
 |.ins ..=>false
 |_=>true
theorem cJ {H:Hp}{p:Addr}{o:HO}(h:notIns o=true):∀b C dx fs,upd H p o b=some (.ins C dx fs)->H b=some (.ins C dx fs):=fun b C dx fs e=>by
 by_cases z:b=p
 ·subst z;rw[ae] at e;cases e;cases h
 ·rwa [aa z] at e
theorem Ext.trans {G H G1 H1 G2 H2:Hp}(a:Ext G H G1 H1)(b:Ext G1 H1 G2 H2):Ext G H G2 H2:=
 ⟨a.hh.trans b.hh,a.gg.trans b.gg,b.gh,fun c o h1 h2=>b.nw c o (a.nw c o h1 h2) (a.hh c o h2),fun c C dx fs h=>a.ni c C dx fs (b.ni c C dx fs h)⟩
theorem aP {H:Hp}{p:Addr}{o:HO}(h:H p=Option.none):Same H (upd H p o):=fun b u e=>by
 rwa [aa (aq e h)]
theorem Ext.laid {G H:Hp}{p:Addr}{o:HO}(h:Same G H)(hp:H p=Option.none)(hi:notIns o=true:=by rfl):Ext G H (upd G p o) (upd H p o):=
 ⟨aP hp,aP (h.free hp),fun b u e=>by
  by_cases q:b=p
  ·subst q;rwa [ae] at e ⊢
  ·rw[aa q] at e ⊢;exact h b u e,fun b u e1 e2=>by
  rwa [aa (aq e2 hp)],cJ hi⟩
theorem Ext.hid {G H:Hp}{p:Addr}{o:HO}(h:Same G H)(hp:H p=Option.none)(hi:notIns o=true:=by rfl):Ext G H G (upd H p o):=
 ⟨aP hp,Same.refl _,h.trans (aP hp),fun a a e a=>e,cJ hi⟩
theorem Ext.show {G H G' H':Hp}{p:Addr}{o:HO}(e:Ext G H G' H')(hp:H p=Option.none)(hp':H' p=some o)(hg:G' p=Option.none):Ext G H (upd G' p o) H':=
 ⟨e.hh,e.gg.trans (aP hg),fun b u q=>by
  by_cases z:b=p
  ·subst z;rw[ae] at q;grind
  ·rw[aa z] at q;exact e.gh b u q,fun b u e1 e2=>by
  rw[aa (aq e2 hp)];exact e.nw b u e1 e2,e.ni⟩
inductive Dr (K:Fg)(G H:Hp):D->V->Prop
 |of {d:D} {v:V}:Dp K G d v->Dr K G H d v
 |list {a:Addr} {vs:List V} {ds:List D}:H a=some (.lst vs)->Dps K G ds vs->Dr K G H (.list ds) (.ref a)
 |dict {a:Addr} {kvs:List (Key×D)} {ws:List (Key×V)}:H a=some (.dK ws)->Dks K G kvs ws->Dr K G H (.dict kvs) (.ref a)
 |vlt {C a dx l n:Addr} {h:Nat} {as:List Addr} {objs:List D}:H a=some (.ins C dx (vfs l n h))->H l=some (.lst (as.map .ref))->Dps K G objs (as.map .ref)->Dr K G H (.vlt C h objs) (.ref a)
section
variable {K:Fg}{G H G' H':Hp}{v:V}
theorem Dr.ext {d:D}(e:Ext G H G' H'):Dr K G H d v->Dr K G' H' d v
 |.of h=>.of (h.mono e.gg)
 |.list h r=>.list (e.hh _ _ h) (r.mono e.gg)
 |.dict h r=>.dict (e.hh _ _ h) (r.mono e.gg)
 |.vlt h1 h2 r=>.vlt (e.hh _ _ h1) (e.hh _ _ h2) (r.mono e.gg)
theorem Dr.none (h:Dr K G H .none v):v=.non:=by cases h with|of h=>cases h;rfl
theorem Dr.bool {b:Bool}(h:Dr K G H (.bool b) v):v=.bl b:=by cases h with|of h=>cases h;rfl
theorem Dr.int {i:Int}(h:Dr K G H (.int i) v):v=.int i:=by cases h with|of h=>cases h;rfl
theorem Dr.str {x:Str}(h:Dr K G H (.str x) v):v=.str x/\PyData.strOk x=true:=by cases h with|of h=>cases h with|str _ o=>exact⟨rfl,o⟩
theorem Dr.lst {ds:List D}(s:Same G H)(h:Dr K G H (.list ds) v):∃a vs,v=.ref a/\H a=some (.lst vs)/\Dps K G ds vs:=by
 cases h with
 |of h=>cases h with|list h r=>exact⟨_,_,rfl,s _ _ h,r⟩
 |list h r=>exact⟨_,_,rfl,h,r⟩
theorem Dr.dct {ds:List (Key×D)}(s:Same G H)(h:Dr K G H (.dict ds) v):∃a vs,v=.ref a/\H a=some (.dK vs)/\Dks K G ds vs:=by
 cases h with
 |of h=>cases h with|dict h r=>exact⟨_,_,rfl,s _ _ h,r⟩
 |dict h r=>exact⟨_,_,rfl,h,r⟩
theorem Dr.tup {ds:List D}(s:Same G H)(h:Dr K G H (.tuple ds) v):∃a vs,v=.ref a/\H a=some (.tup vs)/\Dps K G ds vs:=by
 cases h with|of h=>cases h with|tuple h r=>exact⟨_,_,rfl,s _ _ h,r⟩
theorem Dr.scr {ns:List Int}(s:Same G H)(h:Dr K G H (.scr ns) v):∃a,v=.ref a/\SqL K H a (ns.map V.int):=by
 cases h with|of h=>cases h with|scr h=>exact⟨_,rfl,s.seq h⟩
theorem Dr.dp {d:D}(h:Dr K G H d v)(o:bF d=false):Dp K G d v:=by
 cases h with
 |of h=>exact h
 |list=>cases o
 |dict=>cases o
 |vlt=>cases o
end
def OwnAt (K:Fg)(G H:Hp)(d:D)(p:Addr):Prop:=(∃ds vs,d=.list ds/\H p=some (.lst vs)/\Dps K G ds vs)\/∃kvs ws,d=.dict kvs/\H p=some (.dK ws)/\Dks K G kvs ws
def RowsAt (K:Fg)(G H0 H:Hp)(rows:List (List D))(qs:List Addr):Prop:=qs.length=rows.length/\∀(k:Nat) row q,rows[k]?=some row->qs[k]?=some q->G q=Option.none/\H0 q=Option.none/\∃vs,H q=some (.lst vs)/\Dps K G row vs
def DeepAt (K:Fg)(G H0 H:Hp)(rows:List (List D))(p:Addr):Prop:=∃qs:List Addr,H p=some (.lst (qs.map .ref))/\G p=Option.none/\H0 p=Option.none/\(p::qs).Nodup/\RowsAt K G H0 H rows qs
structure EnvD (K:Fg)(G0 H0 G H:Hp)(σ:St)(ρ:List Sl):Prop where
 ext:Ext G0 H0 G H
 len:σ.length=ρ.length
 dat:∀(i:Nat) d,ρ[i]?=some (.dat d)->∃v,σ[i]?=some (some v)/\Dp K G d v
 lent:∀(i:Nat) d,ρ[i]?=some (.lent d)->∃v,σ[i]?=some (some v)/\Dr K G0 H0 d v
 own:∀(i:Nat) d,ρ[i]?=some (.own d)->∃p,σ[i]?=some (some (.ref p))/\G p=Option.none/\H0 p=Option.none/\OwnAt K G H d p
 apart:∀(i j:Nat) d e p,ρ[i]?=some (.own d)->ρ[j]?=some (.own e)->σ[i]?=some (some (.ref p))->σ[j]?=some (some (.ref p))->i=j
 deep:∀(i:Nat) rows,ρ[i]?=some (.deep rows)->(∃p,σ[i]?=some (some (.ref p))/\DeepAt K G H0 H rows p)/\(∀(j:Nat) d,ρ[j]?≠some (.own d))/\∀(j:Nat) rows',ρ[j]?=some (.deep rows')->j=i
section
variable {K:Fg}{G0 H0 G H G' H':Hp}{σ:St}{ρ:List Sl}
theorem OwnAt.ext {d:D}{p:Addr}(e:Ext G H G' H'):OwnAt K G H d p->OwnAt K G' H' d p
 |.inl ⟨ds,vs,h1,h2,h3⟩=>.inl ⟨ds,vs,h1,e.hh _ _ h2,h3.mono e.gg⟩
 |.inr ⟨ds,vs,h1,h2,h3⟩=>.inr ⟨ds,vs,h1,e.hh _ _ h2,h3.mono e.gg⟩
theorem OwnAt.dr {d:D}{p:Addr}:OwnAt K G H d p->Dr K G H d (.ref p)
 |.inl ⟨ds,vs,h1,h2,h3⟩=>by rw[h1];exact .list h2 h3
 |.inr ⟨ds,vs,h1,h2,h3⟩=>by rw[h1];exact .dict h2 h3
theorem OwnAt.some {d:D}{p:Addr}:OwnAt K G H d p->∃o,H p=.some o
 |.inl ⟨ds,vs,h1,h2,h3⟩=>⟨_,h2⟩
 |.inr ⟨ds,vs,h1,h2,h3⟩=>⟨_,h2⟩
theorem OwnAt.notIns {d:D}{p:Addr}{o:HO}:OwnAt K G (upd H p o) d p->notIns o=true
 |.inl ⟨ds,vs,h1,h2,h3⟩=>by rw[ae] at h2;cases h2;rfl
 |.inr ⟨ds,vs,h1,h2,h3⟩=>by rw[ae] at h2;cases h2;rfl
theorem RowsAt.ext {rows:List (List D)}{qs:List Addr}(e:Ext G H G' H')(h:RowsAt K G H0 H rows qs):RowsAt K G' H0 H' rows qs:=
 ⟨h.1,fun k row q h1 h2=>let ⟨a,b,vs,c,d⟩:=h.2 k _ q h1 h2;⟨e.nw _ _ a c,b,vs,e.hh _ _ c,d.mono e.gg⟩⟩
theorem DeepAt.ext {rows:List (List D)}{p:Addr}(e:Ext G H G' H'):DeepAt K G H0 H rows p->DeepAt K G' H0 H' rows p
 |⟨qs,a,b,c,d,r⟩=>⟨qs,e.hh _ _ a,e.nw _ _ b a,c,d,r.ext e⟩
theorem EnvD.sub (E:EnvD K G0 H0 G H σ ρ):Same G H:=E.ext.gh
theorem EnvD.step (E:EnvD K G0 H0 G H σ ρ)(e:Ext G H G' H'):EnvD K G0 H0 G' H' σ ρ:=
 ⟨E.ext.trans e,E.len,fun i d h=>let ⟨v,a,b⟩:=E.dat i d h;⟨v,a,b.mono e.gg⟩,E.lent,
  fun i ds h=>let ⟨p,a,c,f,g⟩:=E.own i ds h;let ⟨o,ho⟩:=g.some;⟨p,a,e.nw _ _ c ho,f,g.ext e⟩,E.apart,fun i rows h=>let ⟨⟨p,a,b⟩,c⟩:=E.deep i _ h;⟨⟨p,a,b.ext e⟩,c⟩⟩
theorem EnvD.read (E:EnvD K G0 H0 G H σ ρ){i:Nat}{d:D}{sl:Sl}(h:ρ[i]?=some sl)(hd:aQ .read sl=some d):∃v,σ[i]?=some (some v)/\Dr K G H d v:=by
 cases sl with
 |no=>cases hd
 |dat d'=>cases hd;obtain⟨v,a,b⟩:=E.dat i d h;exact⟨v,a,.of b⟩
 |lent d'=>cases hd;obtain⟨v,a,b⟩:=E.lent i d h;exact⟨v,a,b.ext E.ext⟩
 |own d'=>cases hd;obtain⟨p,a,_,_,b⟩:=E.own i d h;exact⟨_,a,b.dr⟩
 |deep rows=>cases hd
set_option tactic.hygienic true in
theorem EnvD.val (E:EnvD K G0 H0 G H σ ρ){i:Nat}{d:D}{sl:Sl}(h:ρ[i]?=some sl)(hd:aQ .val sl=some d):∃v,σ[i]?=some (some v)/\Dp K G d v:=by
 cases sl with
 |no=>cases hd
 |dat d'=>cases hd;exact E.dat i d h
 |lent d'=>
  rw[ox] at hd;split at hd
  ·cases hd
  ·rename_i c
   cases hd;obtain⟨v,a,b⟩:=E.lent i d h;exact⟨v,a,(b.ext E.ext).dp (by simpa using c)⟩
 |own d'=>cases hd
 |deep rows=>cases hd
theorem getE_set {α:Type}{l:List α}{i j:Nat}{x y:α}(h:(l.set i x)[j]?=some y):(j=i/\y=x)\/(j≠i/\l[j]?=some y):=by
 by_cases e:j=i
 ·subst e
  by_cases q:j<l.length<;>simp_all
 ·rw[gn0 (Ne.symm e)] at h;exact .inr ⟨e,h⟩
theorem EnvD.set {i:Nat}{d:D}{v:V}(E:EnvD K G0 H0 G H σ ρ)(hi:i<σ.length)(h:Dp K G d v):EnvD K G0 H0 G H (σ.set i (some v)) (ρ.set i (.dat d)):=by
 refine⟨E.ext,by simp[E.len],fun j e hj=>?_,fun j e hj=>?_,fun j ds hj=>?_,fun j k ds es p hj hk aj ak=>?_,fun j rows hj=>?_⟩
 ·rcases getE_set hj with⟨rfl,q⟩|⟨ne,q⟩
  ·cases q;exact⟨v,gs0 hi,h⟩
  ·rw[gn0 (Ne.symm ne)];exact E.dat j e q
 ·rcases getE_set hj with⟨rfl,q⟩|⟨ne,q⟩
  ·cases q
  ·rw[gn0 (Ne.symm ne)];exact E.lent j e q
 ·rcases getE_set hj with⟨rfl,q⟩|⟨ne,q⟩
  ·cases q
  ·rw[gn0 (Ne.symm ne)];exact E.own j ds q
 ·rcases getE_set hj with⟨rfl,q⟩|⟨nj,q⟩
  ·cases q
  rcases getE_set hk with⟨rfl,r⟩|⟨nk,r⟩
  ·cases r
  rw[gn0 (Ne.symm nj)] at aj;rw[gn0 (Ne.symm nk)] at ak;exact E.apart j k ds es p q r aj ak
 ·rcases getE_set hj with⟨rfl,q⟩|⟨ne,q⟩
  ·cases q
  ·obtain⟨⟨p,a,b⟩,c1,c2⟩:=E.deep j rows q
   refine⟨⟨p,by rw[gn0 (Ne.symm ne)];exact a,b⟩,fun k e hk=>?_,fun k r hk=>?_⟩
   ·rcases getE_set hk with⟨_,z⟩|⟨_,z⟩<;>simp_all
   ·rcases getE_set hk with⟨_,z⟩|⟨_,z⟩
    ·cases z
    ·exact c2 k r z
theorem EnvD.setOwn {i:Nat}{d:D}{p:Addr}(E:EnvD K G0 H0 G H σ ρ)(hi:i<σ.length)(hO:OwnAt K G H d p)(hG:G p=Option.none)(h0:H0 p=Option.none)
  (hD:∀(j:Nat) rows,ρ[j]?≠some (.deep rows)) (new:∀(j:Nat) e,ρ[j]?=some (.own e)->σ[j]?≠some (some (.ref p))):EnvD K G0 H0 G H (σ.set i (some (.ref p))) (ρ.set i (.own d)):=by
 refine⟨E.ext,by simp[E.len],fun j e hj=>?_,fun j e hj=>?_,fun j es hj=>?_,fun j k es fs q hj hk aj ak=>?_,fun j rows hj=>?_⟩
 ·rcases getE_set hj with⟨rfl,z⟩|⟨ne,z⟩
  ·cases z
  ·rw[gn0 (Ne.symm ne)];exact E.dat j e z
 ·rcases getE_set hj with⟨rfl,z⟩|⟨ne,z⟩
  ·cases z
  ·rw[gn0 (Ne.symm ne)];exact E.lent j e z
 ·rcases getE_set hj with⟨rfl,z⟩|⟨ne,z⟩
  ·cases z;exact⟨p,gs0 hi,hG,h0,hO⟩
  ·rw[gn0 (Ne.symm ne)];exact E.own j es z
 ·rcases getE_set hj with⟨ej,_⟩|⟨nj,hj'⟩
  ·rcases getE_set hk with⟨ek,_⟩|⟨nk,hk'⟩
   ·rw[ej,ek]
   ·rw[ej,gs0 hi] at aj
    rw[gn0 (Ne.symm nk)] at ak;cases aj;exact absurd ak (new k fs hk')
  ·rw[gn0 (Ne.symm nj)] at aj
   rcases getE_set hk with⟨ek,_⟩|⟨nk,hk'⟩
   ·rw[ek,gs0 hi] at ak
    cases ak;exact absurd aj (new j es hj')
   ·rw[gn0 (Ne.symm nk)] at ak
    exact E.apart j k es fs q hj' hk' aj ak
 ·rcases getE_set hj with⟨rfl,q⟩|⟨ne,q⟩
  ·cases q
  ·exact (hD j rows q).elim
theorem EnvD.fresh {p:Addr}(E:EnvD K G0 H0 G H σ ρ)(hp:H p=Option.none):∀(j:Nat) e,ρ[j]?=some (.own e)->σ[j]?≠some (some (.ref p)):=fun j es hj hσ=>by
 obtain⟨q,a,_,_,b⟩:=E.own j es hj;obtain⟨o,ho⟩:=b.some
 grind
theorem EnvD.change {i:Nat}{d e:D}{p:Addr}{o:HO}(E:EnvD K G0 H0 G H σ ρ)(hi:ρ[i]?=some (.own d))(hp:σ[i]?=some (some (.ref p)))(h:OwnAt K G (upd H p o) e p):
  EnvD K G0 H0 G (upd H p o) σ (ρ.set i (.own e)):=by
 obtain⟨p',a,c,f,g⟩:=E.own i d hi;rw[hp] at a;cases a;refine⟨⟨fun x o e=>?_,E.ext.gg,fun x o e=>?_,E.ext.nw,fun x C dx fs q=>E.ext.ni x C dx fs (cJ h.notIns x C dx fs q)⟩,by simp[E.len],fun j e hj=>?_,fun j e hj=>?_,fun j fs hj=>?_,fun j k fs gs q hj hk aj ak=>?_,fun j rows hj=>?_⟩
 ·rw[aa (aq e f)];exact E.ext.hh x o e
 ·rw[aa (aq e c)];exact E.ext.gh x o e
 ·rcases getE_set hj with⟨rfl,z⟩|⟨ne,z⟩
  ·cases z
  ·exact E.dat j e z
 ·rcases getE_set hj with⟨rfl,z⟩|⟨ne,z⟩
  ·cases z
  ·exact E.lent j e z
 ·rcases getE_set hj with⟨rfl,z⟩|⟨ne,z⟩
  ·cases z;exact⟨p,hp,c,f,h⟩
  ·obtain⟨q,a',c',f',g'⟩:=E.own j fs z
   have qp:q≠p:=by
    rintro rfl
    exact ne (E.apart j i fs d q z hi a' hp)
   refine⟨q,a',c',f',?_⟩;rcases g' with⟨ds,vs,h1,h2,h3⟩|⟨ds,vs,h1,h2,h3⟩
   ·exact .inl ⟨ds,vs,h1,by rw[aa qp];exact h2,h3⟩
   ·exact .inr ⟨ds,vs,h1,by rw[aa qp];exact h2,h3⟩
 ·have hj':∃fs',ρ[j]?=some (.own fs'):=by
   rcases getE_set hj with⟨rfl,_⟩|⟨_,z⟩
   ·exact⟨d,hi⟩
   ·exact⟨fs,z⟩
  have hk':∃fs',ρ[k]?=some (.own fs'):=by
   rcases getE_set hk with⟨rfl,_⟩|⟨_,z⟩
   ·exact⟨d,hi⟩
   ·exact⟨gs,z⟩
  obtain⟨_,hj'⟩:=hj';obtain⟨_,hk'⟩:=hk';exact E.apart j k _ _ q hj' hk' aj ak
 ·rcases getE_set hj with⟨rfl,z⟩|⟨ne,z⟩
  ·cases z
  ·exact ((E.deep j rows z).2.1 i d hi).elim
theorem EnvD.freeze1 {i:Nat}{d:D}(E:EnvD K G0 H0 G H σ ρ)(hi:ρ[i]?=some (.own d)):∃G',EnvD K G0 H0 G' H σ (ρ.set i (.dat d))/\Same G G':=by
 obtain⟨p,a,c,f,g⟩:=E.own i d hi;obtain⟨o,b⟩:=g.some;have gs:Same G (upd G p o):=aP c;refine⟨upd G p o,⟨E.ext.show f b c,by simp[E.len],fun j e hj=>?_,fun j e hj=>?_,fun j fs hj=>?_,fun j k fs hs q hj hk aj ak=>?_,fun j rows hj=>?_⟩,gs⟩
 ·rcases getE_set hj with⟨rfl,z⟩|⟨ne,z⟩
  ·cases z
   refine⟨_,a,?_⟩;rcases g with⟨ds,vs,h1,h2,h3⟩|⟨ds,vs,h1,h2,h3⟩
   ·rw[h2] at b;cases b
    rw[h1];exact .list ae (h3.mono gs)
   ·rw[h2] at b;cases b
    rw[h1];exact .dict ae (h3.mono gs)
  ·obtain⟨v,x,y⟩:=E.dat j e z;exact⟨v,x,y.mono gs⟩
 ·rcases getE_set hj with⟨rfl,z⟩|⟨ne,z⟩
  ·cases z
  ·exact E.lent j e z
 ·rcases getE_set hj with⟨rfl,z⟩|⟨ne,z⟩
  ·cases z
  ·obtain⟨q,a',c',f',g'⟩:=E.own j fs z
   refine⟨q,a',?_,f',?_⟩
   ·rw[aa]
    ·exact c'
    ·rintro rfl
     exact ne (E.apart j i fs d q z hi a' a)
   ·rcases g' with⟨ds,vs,h1,h2,h3⟩|⟨ds,vs,h1,h2,h3⟩
    ·exact .inl ⟨ds,vs,h1,h2,h3.mono gs⟩
    ·exact .inr ⟨ds,vs,h1,h2,h3.mono gs⟩
 ·rcases getE_set hj with⟨rfl,z⟩|⟨nj,z⟩
  ·cases z
  rcases getE_set hk with⟨rfl,y⟩|⟨nk,y⟩
  ·cases y
  exact E.apart j k fs hs q z y aj ak
 ·rcases getE_set hj with⟨rfl,z⟩|⟨ne,z⟩
  ·cases z
  ·exact ((E.deep j rows z).2.1 i d hi).elim
theorem EnvD.freezeD {i:Nat}{rows:List (List D)}(E:EnvD K G0 H0 G H σ ρ)(hi:ρ[i]?=some (.deep rows)):∃G',EnvD K G0 H0 G' H σ (ρ.set i (.dat (.list (rows.map .list))))/\Same G G':=by
 obtain⟨⟨p,a,qs,b1,b2,b3,b4,b5⟩,c1,c2⟩:=E.deep i rows hi;have hrow:∀q∈qs,G q=Option.none/\H0 q=Option.none:=fun q hq=>by
  obtain⟨k,hk⟩:=List.getElem?_of_mem hq;have hl:k<rows.length:=by rw[←b5.1];exact (List.getElem?_eq_some_iff.mp hk).1
  obtain⟨x,y,_⟩:=b5.2 k _ q (ge0 hl) hk;exact⟨x,y⟩
 have hall:∀q∈p::qs,G q=Option.none/\H0 q=Option.none:=fun q hq=>by
  rcases mq0 hq with rfl|hq
  ·exact⟨b2,b3⟩
  ·exact hrow q hq
 let G':Hp:=fun b=>if b∈p::qs then H b else G b
 have gin:∀b,b∈p::qs->G' b=H b:=fun b h=>if_pos h
 have gout:∀b,b∉p::qs->G' b=G b:=fun b h=>if_neg h
 have gs:Same G G':=fun b o e=>by
  rw[gout b fun h=>by rw[(hall b h).1] at e;cases e];exact e
 have gh:Same G' H:=fun b o e=>by
  by_cases h:b∈p::qs
  ·rw[gin b h] at e;exact e
  ·rw[gout b h] at e;exact E.ext.gh b o e
 have il:i<ρ.length:=(List.getElem?_eq_some_iff.mp hi).1;refine⟨G',⟨⟨E.ext.hh,E.ext.gg.trans gs,gh,fun b o e1 e2=>?_,E.ext.ni⟩,by simp[E.len],fun j e hj=>?_,fun j e hj=>?_,fun j fs hj=>?_,fun j k fs hs q hj hk aj ak=>?_,fun j r hj=>?_⟩,gs⟩
 ·rw[gout b fun h=>by rw[(hall b h).2] at e2;cases e2];exact E.ext.nw b o e1 e2
 ·rcases getE_set hj with⟨rfl,z⟩|⟨ne,z⟩
  ·cases z
   refine⟨_,a,.list ((gin p ms0).trans b1) ?_⟩;have key:∀(rows:List (List D)) (qs':List Addr),(∀q∈qs',q∈p::qs)->RowsAt K G H0 H rows qs'->Dps K G' (rows.map .list) (qs'.map .ref):=by
    intro rows
    induction rows with
    |nil=>
         intro qs' _ h;have:qs'=[]:=List.eq_nil_of_length_eq_zero h.1;subst this;exact .nil
    |cons r rs ih=>
     intro qs' hm h;cases qs' with
     |nil=>exact absurd h.1 (by simp)
     |cons q qs2=>
      obtain⟨_,_,vs,h2,h3⟩:=h.2 0 r q rfl rfl;refine .cons (.list ((gin q (hm q ms0)).trans h2) (h3.mono gs)) (ih qs2 (fun x hx=>hm x (mc0 _ hx)) ⟨by simpa using h.1,fun k row x e1 e2=>h.2 (k+1) row x e1 e2⟩)
   exact key rows qs (fun q hq=>mc0 _ hq) b5
  ·obtain⟨v,x,y⟩:=E.dat j e z;exact⟨v,x,y.mono gs⟩
 ·rcases getE_set hj with⟨rfl,z⟩|⟨ne,z⟩
  ·cases z
  ·exact E.lent j e z
 ·rcases getE_set hj with⟨rfl,z⟩|⟨ne,z⟩
  ·cases z
  ·exact (c1 j fs z).elim
 ·rcases getE_set hj with⟨rfl,z⟩|⟨nj,z⟩
  ·cases z
  ·exact (c1 j fs z).elim
 ·rcases getE_set hj with⟨rfl,z⟩|⟨ne,z⟩
  ·cases z
  ·exact absurd (c2 j r z) ne
theorem df {ρ:List Sl}{i:Nat}{d:D}{sl:Sl}(h:ρ[i]?=some sl)(hf:freeze sl=.dat d):(ρ.set i (.dat d)).map freeze=ρ.map freeze:=by
 apply List.ext_getElem?
 intro j;rw[gm0,gm0]
 by_cases e:j=i
 ·subst e
  rw[gs0 (List.getElem?_eq_some_iff.mp h).1]
  simp_all
 ·rw[gn0 (Ne.symm e)]
theorem EnvD.freeze (E:EnvD K G0 H0 G H σ ρ):∃G',EnvD K G0 H0 G' H σ (ρ.map freeze)/\Same G G':=by
 have key:∀(n:Nat) (G:Hp) (ρ:List Sl),(ρ.filter fun|.own _=>true|_=>false).length≤n->EnvD K G0 H0 G H σ ρ->∃G',EnvD K G0 H0 G' H σ (ρ.map SI.freeze)/\Same G G':=by
  intro n
  induction n with
  |zero=>
   intro G ρ hn E;have no:∀sl∈ρ,∀d,sl≠Sl.own d:=fun sl hs d e=>by
    subst e;have:Sl.own d∈ρ.filter fun|.own _=>true|_=>false:=List.mem_filter.mpr ⟨hs,rfl⟩
    rw[List.eq_nil_of_length_eq_zero (Nat.le_zero.mp hn)] at this;cases this
   have idm:∀ρ:List Sl,(∀sl∈ρ,∀d,sl≠Sl.own d)->(∀(i:Nat) rows,ρ[i]?≠some (Sl.deep rows))->ρ.map SI.freeze=ρ:=fun ρ no nd=>by
    conv=>rhs;rw[←List.map_id ρ]
    apply List.map_congr_left
    intro sl hs;cases sl with
    |own d=>exact absurd rfl (no _ hs d)
    |deep rows=>
     obtain⟨i,hi⟩:=List.getElem?_of_mem hs;exact absurd hi (nd i rows)
    |no=>rfl
    |dat d=>rfl
    |lent d=>rfl
   by_cases c:∃(i:Nat) (rows:List (List D)),ρ[i]?=some (Sl.deep rows)
   ·obtain⟨i,rows,hi⟩:=c
    obtain⟨G1,E1,s1⟩:=E.freezeD hi;have e:(ρ.set i (.dat (.list (rows.map .list)))).map SI.freeze=ρ.set i (.dat (.list (rows.map .list))):=idm _ (fun sl hs d=>by
     rcases List.mem_or_eq_of_mem_set hs with h|h
     ·exact no sl h d
     ·rw[h];intro z;cases z) fun j r hj=>by
     rcases getE_set hj with⟨_,z⟩|⟨ne,z⟩
     ·cases z
     ·exact ne ((E.deep i rows hi).2.2 j r z)
    rw[←df hi rfl,e];exact⟨G1,E1,s1⟩
   ·rw[idm ρ no fun i rows h=>c ⟨i,rows,h⟩]
    exact⟨G,E,Same.refl _⟩
  |succ n ih=>
   intro G ρ hn E
   by_cases c:∃(i:Nat) (d:D),ρ[i]?=some (Sl.own d)
   ·obtain⟨i,d,hi⟩:=c
    obtain⟨G1,E1,s1⟩:=E.freeze1 hi;have il:i<ρ.length:=(List.getElem?_eq_some_iff.mp hi).1;have hlt:((ρ.set i (.dat d)).filter fun|.own _=>true|_=>false).length<(ρ.filter fun|.own _=>true|_=>false).length:=by
     have s1:ρ=ρ.take i++Sl.own d::ρ.drop (i+1):=by
      conv=>lhs;rw[←List.take_append_drop i ρ,List.drop_eq_getElem_cons il]
      rw[(List.getElem?_eq_some_iff.mp hi).2]
     have s2:ρ.set i (.dat d)=ρ.take i++Sl.dat d::ρ.drop (i+1):=by rw[List.set_eq_take_append_cons_drop,if_pos il]
     rw[s2]
     conv=>rhs;rw[s1]
     simp only[List.filter_append,List.filter_cons,la0];simp
    obtain⟨G2,E2,s2⟩:=ih G1 _ (by grind) E1;rw[df hi rfl] at E2;exact⟨G2,E2,s1.trans s2⟩
   ·refine ih G ρ ?_ E
    have:(ρ.filter fun|.own _=>true|_=>false)=[]:=by
     rw[List.filter_eq_nil_iff];intro sl hs;obtain⟨i,hi⟩:=List.getElem?_of_mem hs;cases sl with
     |own d=>exact absurd ⟨i,d,hi⟩ c
     |_=>exact fx0
    rw[this];exact Nat.zero_le _
 exact key _ G ρ (nr0 _) E
end
inductive Das (K:Fg)(G H:Hp):List Bool->List D->List V->Prop
 |nil {fl:List Bool}:Das K G H fl [] []
 |cons {fl:List Bool} {d:D} {v:V} {ds:List D} {vs:List V}:(fl.headD false=false->Dp K G d v)->Dr K G H d v->Das K G H fl.tail ds vs->Das K G H fl (d::ds) (v::vs)
theorem Das.dps {K:Fg}{G H:Hp}:∀{ds:List D} {vs:List V},Das K G H [] ds vs->Dps K G ds vs
 |_,_,.nil=>.nil
 |_,_,.cons h1 _ r=>.cons (h1 rfl) (Das.dps r)
theorem Das.length {K:Fg}{G H:Hp}{fl:List Bool}{ds:List D}{vs:List V}(h:Das K G H fl ds vs):ds.length=vs.length:=by
 induction h<;>simp_all
def tEv (K:Fg)(ρ:List Sl)(d:D):TE:=fun σ H Q=>∃G0 H0 G,EnvD K G0 H0 G H σ ρ/\∀v G' H',Ext G H G' H'->Dp K G' d v->Q v H'
def tEr (K:Fg)(ρ:List Sl)(d:D):TE:=fun σ H Q=>∃G0 H0 G,EnvD K G0 H0 G H σ ρ/\∀v G' H',Ext G H G' H'->Dr K G' H' d v->Q v H'
def tEt (K:Fg)(ρ:List Sl)(b:Bool):TT:=fun σ H Q=>∃G0 H0 G,EnvD K G0 H0 G H σ ρ/\∀G' H',Ext G H G' H'->Q b H'
def tEa (K:Fg)(ρ:List Sl)(fl:List Bool)(ds:List D):TA:=fun σ H Q=>∃G0 H0 G,EnvD K G0 H0 G H σ ρ/\∀vs G' H',Ext G H G' H'->Das K G' H' fl ds vs->Q vs H'
def tEn (K:Fg)(ρ:List Sl)(d:D):TE:=fun σ H Q=>∃G0 H0 G,EnvD K G0 H0 G H σ ρ/\∀p G' H',Ext G H G' H'->G' p=Option.none->H p=Option.none->OwnAt K G' H' d p->Q (.ref p) H'
def Ev (X:Cx)(ρ:List Sl)(e:Expr)(d:D):Prop:=PE X e (tEv X.K ρ d)
def Er (X:Cx)(ρ:List Sl)(e:Expr)(d:D):Prop:=PE X e (tEr X.K ρ d)
def Et (X:Cx)(ρ:List Sl)(e:Expr)(b:Bool):Prop:=PT X e (tEt X.K ρ b)
def Ew (X:Cx)(ρ:List Sl)(e:Expr)(b:Bool):Prop:=PW X e (tEt X.K ρ b)
def Ea (X:Cx)(ρ:List Sl)(fl:List Bool)(es:List Expr)(ds:List D):Prop:=PA X es (tEa X.K ρ fl ds)
def En (X:Cx)(ρ:List Sl)(e:Expr)(d:D):Prop:=PE X e (tEn X.K ρ d)
section
variable {X:Cx}{ρ:List Sl}{a b c:Expr}{pos:Pos}{d d1 d2 d3:D}
theorem OwnAt.show {K:Fg}{G H G' H':Hp}{p:Addr}{d:D}(e:Ext G H G' H')(g:G' p=Option.none)(h0:H p=Option.none)(o:OwnAt K G' H' d p):∃G2,Ext G H G2 H'/\Dp K G2 d (.ref p):=by
 obtain⟨ob,ho⟩:=o.some;refine⟨_,e.show h0 ho g,?_⟩;rcases o with⟨ds,vs,h1,h2,h3⟩|⟨ds,vs,h1,h2,h3⟩
 ·rw[h2] at ho;cases ho;rw[h1];exact .list ae (h3.mono (aP g))
 ·rw[h2] at ho;cases ho;rw[h1];exact .dict ae (h3.mono (aP g))
theorem En.ev {e:Expr}(h:En X ρ e d):Ev X ρ e d:=fun pins s σ H Q I ⟨G0,H0,G,E,k⟩=>
 h _ s σ H Q I ⟨G0,H0,G,E,fun p G' H' e g h0 o=>let ⟨G2,e2,r⟩:=o.show e g h0;k _ G2 H' e2 r⟩
theorem Ev.er {e:Expr}(h:Ev X ρ e d):Er X ρ e d:=by rintro pins s σ H Q I ⟨G0,H0,G,E,k⟩;exact h pins s σ H Q I ⟨G0,H0,G,E,fun v G' H' e r=>k v G' H' e (.of r)⟩
theorem Ew.et {e:Expr}{b:Bool}(h:Ew X ρ e b):Et X ρ e b:=PW.pt h
theorem Dw {i j pos}:Ev X ρ (.Constant (.int i) j pos) (.int i):=by rintro pins s σ H Q I ⟨G0,H0,G,E,k⟩;exact ko pins s σ H Q I (k _ G H (.refl E.sub) (.int i))
theorem GB {b j pos}:Ev X ρ (.Constant (.bool b) j pos) (.bool b):=by rintro pins s σ H Q I ⟨G0,H0,G,E,k⟩;exact FJ pins s σ H Q I (k _ G H (.refl E.sub) (.bool b))
theorem Dx {j pos}:Ev X ρ (.Constant .none j pos) .none:=by rintro pins s σ H Q I ⟨G0,H0,G,E,k⟩;exact CG pins s σ H Q I (k _ G H (.refl E.sub) .none)
theorem Dy {x j pos}(h:PyData.strOk x=true):Ev X ρ (.Constant (.str x) j pos) (.str x):=by rintro pins s σ H Q I ⟨G0,H0,G,E,k⟩;exact nQ pins s σ H Q I (k _ G H (.refl E.sub) (.str x h))
theorem Dz (i:Nat){x:Str}{pos:Pos}(h:(ρ[i]?).bind (aQ .val)=some d)(hN:X.N[i]?=some x)(hv:Vis X.env.scope x)(hd:(x==("__debug__":Str))=false)(hcd:(x==("__classdict__":Str))=false):Ev X ρ (.Name x pos) d:=fun pins s σ H Q I ⟨G0,H0,G,E,k⟩=>by
 obtain⟨sl,h1,h2⟩:=bx0 h;obtain⟨v,e,r⟩:=E.val h1 h2;exact cq hN hv hd hcd _ s σ H Q I ⟨v,e,k v G H (.refl E.sub) r⟩
theorem vx (i:Nat){x:Str}{pos:Pos}(h:(ρ[i]?).bind (aQ .read)=some d)(hN:X.N[i]?=some x)(hv:Vis X.env.scope x)(hd:(x==("__debug__":Str))=false)(hcd:(x==("__classdict__":Str))=false):Er X ρ (.Name x pos) d:=fun pins s σ H Q I ⟨G0,H0,G,E,k⟩=>by
 obtain⟨sl,h1,h2⟩:=bx0 h;obtain⟨v,e,r⟩:=E.read h1 h2;exact cq hN hv hd hcd _ s σ H Q I ⟨v,e,k v G H (.refl E.sub) r⟩
theorem af {e:Expr}{es:List Expr}{env:Env}(h:isStar e=false):starEach (e::es) env=(false,eval e env)::starEach es env:=by cases e<;>first|rfl|cases h
theorem oF {fl:List Bool}:Ea X ρ fl [] []:=by rintro pos pins s σ H Q I ⟨G0,H0,G,E,k⟩;exact aU pos pins s σ H Q I (k [] G H (.refl E.sub) .nil)
theorem iq {fl:List Bool}{e:Expr}{es:List Expr}{ds:List D}(he:Ev X ρ e d)(hr:Ea X ρ fl.tail es ds)(hs:isStar e=false):Ea X ρ fl (e::es) (d::ds):=
 by rintro pos pins s σ H Q I ⟨G0,H0,G,E,k⟩;exact aA he hr (af hs) pos pins s σ H Q I ⟨G0,H0,G,E,fun v G1 H1 e1 r1=>
  ⟨G0,H0,G1,E.step e1,fun vs G2 H2 e2 r2=>k _ G2 H2 (e1.trans e2) (.cons (fun a=>r1.mono e2.gg) (.of (r1.mono e2.gg)) r2)⟩⟩
theorem vy {fl:List Bool}{e:Expr}{es:List Expr}{ds:List D}(he:Er X ρ e d)(hf:fl.headD false=true)(hr:Ea X ρ fl.tail es ds)(hs:isStar e=false):Ea X ρ fl (e::es) (d::ds):=
 fun pos pins s σ H Q I ⟨G0,H0,G,E,k⟩=>aA he hr (af hs) _ _ s σ H Q I ⟨G0,H0,G,E,fun v G1 H1 e1 r1=>
  ⟨G0,H0,G1,E.step e1,fun vs G2 H2 e2 r2=>k _ G2 H2 (e1.trans e2) (.cons (fun c=>by simp_all) (r1.ext e2) r2)⟩⟩
abbrev R2r (K:Fg)(r:R2)(d1 d2 d:D):Prop:=∀(x y:V) (G H:Hp) (Q:VK),Same G H->Dr K G H d1 x->Dr K G H d2 y->(∀v G' H',Ext G H G' H'->Dp K G' d v->Q v H')->r x y H Q
abbrev R2n (K:Fg)(r:R2)(d1 d2 d:D):Prop:=∀(x y:V) (G H:Hp) (Q:VK),Same G H->Dr K G H d1 x->Dr K G H d2 y->(∀p G' H',Ext G H G' H'->G' p=Option.none->H p=Option.none->OwnAt K G' H' d p->Q (.ref p) H')->r x y H Q
theorem ev_op {op:Operator}{r:R2}(ho:OpR X (binaryOp op) r)(ha:Er X ρ a d1)(hb:Er X ρ b d2)(h:R2r X.K r d1 d2 d):Ev X ρ (.BinOp a op b pos) d:=
 fun pins s σ H Q I ⟨G0,H0,G,E,k⟩=>Bz ho ha hb _ s σ H Q I ⟨G0,H0,G,E,fun x G1 H1 e1 r1=>⟨G0,H0,G1,E.step e1,fun y G2 H2 e2 r2=>
  h x y G2 H2 Q e2.gh (r1.ext e2) r2 fun v G' H' e3 r3=>k v G' H' (e1.trans (e2.trans e3)) r3⟩⟩
theorem en_op {op:Operator}{r:R2}(ho:OpR X (binaryOp op) r)(ha:Er X ρ a d1)(hb:Er X ρ b d2)(h:R2n X.K r d1 d2 d):En X ρ (.BinOp a op b pos) d:=
 by rintro pins s σ H Q I ⟨G0,H0,G,E,k⟩;exact Bz ho ha hb pins s σ H Q I ⟨G0,H0,G,E,fun x G1 H1 e1 r1=>⟨G0,H0,G1,E.step e1,fun y G2 H2 e2 r2=>
  h x y G2 H2 Q e2.gh (r1.ext e2) r2 fun p G' H' e3 g3 h3 r3=>k p G' H' (e1.trans (e2.trans e3)) g3 (e1.hh.free (e2.hh.free h3)) r3⟩⟩
theorem DA {op:CmpOp}{r:R2}(ho:OpR X (compareOp op) r)(ha:Er X ρ a d1)(hb:Er X ρ b d2)(h:R2r X.K r d1 d2 d)(hm:behindInMarks op b=false):Ev X ρ (.Compare a [op] [b] pos) d:=
 fun pins s σ H Q I ⟨G0,H0,G,E,k⟩=>za ho ha hb hm _ s σ H Q I ⟨G0,H0,G,E,fun x G1 H1 e1 r1=>⟨G0,H0,G1,E.step e1,fun y G2 H2 e2 r2=>
  h x y G2 H2 Q e2.gh (r1.ext e2) r2 fun v G' H' e3 r3=>k v G' H' (e1.trans (e2.trans e3)) r3⟩⟩
theorem DB {op:CmpOp}{r:R2}{t:Bool}(ho:OpR X (compareOp op) r)(ha:Er X ρ a d1)(hb:Er X ρ b d2)(h:R2r X.K r d1 d2 (.bool t))(hm:behindInMarks op b=false):Et X ρ (.Compare a [op] [b] pos) t:=
 by rintro pins s σ H Q I ⟨G0,H0,G,E,k⟩;exact gK ho ha hb hm pins s σ H Q I ⟨G0,H0,G,E,fun x G1 H1 e1 r1=>⟨G0,H0,G1,E.step e1,fun y G2 H2 e2 r2=>
  h x y G2 H2 _ e2.gh (r1.ext e2) r2 fun v G' H' e3 r3=>by
   cases r3;exact⟨t,rfl,k G' H' (e1.trans (e2.trans e3))⟩⟩⟩
theorem qz {r:R2}(hr:IxR X r)(ha:Er X ρ a d1)(hb:Ev X ρ b d2)(h:R2r X.K r d1 d2 d)(hs:isSlice b=false):Ev X ρ (.Subscript a b pos) d:=
 fun pins s σ H Q I ⟨G0,H0,G,E,k⟩=>qg hr ha hb (by cases b<;>first|exact fun c c=>rfl|cases hs) _ s σ H Q I ⟨G0,H0,G,E,fun x G1 H1 e1 r1=>⟨G0,H0,G1,E.step e1,fun y G2 H2 e2 r2=>
  h x y G2 H2 Q e2.gh (r1.ext e2) (.of r2) fun v G' H' e3 r3=>k v G' H' (e1.trans (e2.trans e3)) r3⟩⟩
theorem jz {K:Fg}{g:Int->Int->V}{i j:Int}{d:D}(hg:∀G,Dp K G d (g i j)):R2r K (rI0 g) (.int i) (.int j) d:=fun x y G H Q s hx hy k=>⟨i,j,hx.int,hy.int,k _ G H (.refl s) (hg G)⟩
theorem r2_I {K:Fg}{C:Int->Int->Prop}{g:Int->Int->V}{i j:Int}{d:D}(hC:C i j)(hg:∀G,Dp K G d (g i j)):R2r K (rI C g) (.int i) (.int j) d:=fun x y G H Q s hx hy k=>⟨i,j,hx.int,hy.int,hC,k _ G H (.refl s) (hg G)⟩
theorem big_eq:SI.big=sizeLine:=rfl
theorem eK {x y:Str}(hx:PyData.strOk x=true)(hy:PyData.strOk y=true):PyData.strOk (x++y)=true:=by
 have e:(x++y).cps=x.cps++y.cps:=rfl;unfold PyData.strOk at hx hy ⊢;rw[e,Array.all_append,hx,hy];rfl
theorem strOk_iff {x:Str}:PyData.strOk x=true↔∀c∈x.cps.toList,c<0x110000:=by
 unfold PyData.strOk;rw[←Array.all_toList,List.all_eq_true];simp
theorem cMul_ok {i j:Int}(h:SI.lL i j=true):CMul i j:=by
 unfold SI.lL at h;rw[Bool.or_eq_true,be0,be0] at h;rcases h with⟨h1,h2⟩|⟨h1,h2⟩
 ·exact .inl ⟨od0 h1,od0 h2⟩
 ·exact .inr ⟨od0 h1,od0 h2⟩
theorem r2_cat {K:Fg}{ds es:List D}(h:ds.length+es.length≤sizeLine):R2n K Ge (.list ds) (.list es) (.list (ds++es)):=fun x y G H Q s hx hy k=>by
 obtain⟨a,vs,rfl,h1,r1⟩:=hx.lst s;obtain⟨b,ws,rfl,h2,r2⟩:=hy.lst s;exact⟨a,b,vs,ws,rfl,rfl,h1,h2,by rwa [←r1.length,←r2.length],fun p hp=>k p G _ (.hid s hp) (s.free hp) hp (.inl ⟨_,_,rfl,ae,r1.append r2⟩)⟩
theorem DC {K:Fg}{ds:List D}{j:Int}(h1:-(2 ^ 63)≤j)(h2:j<2 ^ 63)(h:ds.length*j.toNat≤sizeLine):R2n K Gf (.list ds) (.int j) (.list (List.replicate j.toNat ds).flatten):=fun x y G H Q s hx hy k=>by
 obtain⟨a,vs,rfl,h3,r1⟩:=hx.lst s;exact⟨a,j,vs,rfl,hy.int,h3,h1,h2,by rwa [←r1.length],fun p hp=>k p G _ (.hid s hp) (s.free hp) hp (.inl ⟨_,_,rfl,ae,r1.rep _⟩)⟩
theorem r2_addS {K:Fg}{x y:Str}(h:x.length+y.length≤sizeLine):R2r K (fun u v H Q=>∃i j,u=.str i/\v=.str j/\i.length+j.length≤sizeLine/\Q (.str (i++j)) H) (.str x) (.str y) (.str (x++y)):=fun u v G H Q s hx hy k=>by
 obtain⟨rfl,o1⟩:=hx.str;obtain⟨rfl,o2⟩:=hy.str;exact⟨x,y,rfl,rfl,h,k _ G H (.refl s) (.str _ (eK o1 o2))⟩
set_option tactic.hygienic true in
theorem mul_eq (x:Str)(j:Int):Txt.mul x j=⟨((List.replicate j.toNat x.cps.toList).flatten).toArray⟩:=by
 have key:∀(n:Nat) (acc:List Nat),(List.replicate n x.cps).foldl (·++·) acc.toArray=(acc++(List.replicate n x.cps.toList).flatten).toArray:=by
  intro n
  induction n with
  |zero=>intro acc;simp
  |succ n ih=>
   intro acc;rw[List.replicate_succ,List.foldl_cons,List.replicate_succ,List.flatten_cons];have e:acc.toArray++x.cps=(acc++x.cps.toList).toArray:=by simp
   rw[e,ih,List.append_assoc]
 unfold Txt.mul;split
 ·rename_i h
  have:j.toNat=0:=by grind
  rw[this];rfl
 ·rename_i h
  split
  ·rename_i h2
   rw[Bool.or_eq_true] at h2;rcases h2 with h2|h2
   ·have:j.toNat=1:=by have:=eq_of_beq h2;simp_all
    rw[this];simp
   ·have e:x.cps.toList=[]:=by
     have:x.cps.size=0:=eq_of_beq h2;exact List.eq_nil_of_length_eq_zero (by simpa using this)
    have e2:(List.replicate j.toNat x.cps.toList).flatten=[]:=by rw[e];simp
    rw[e2];cases x with|mk c=>congr 1;exact Array.toList_inj.mp (by rw[e])
  ·have:=key j.toNat []
   rw[List.nil_append] at this;rw[←this]
theorem mulOk_of {x:Str}{j:Int}(h1:j≤1000)(h2:x.length≤1000)(h0:-1000≤j):MulOk x j:=by
 refine⟨?_,fun h3 a=>?_,fun h3 a=>?_⟩
 ·rw[df0 (by grind),df0 (by grind)];rfl
 ·intro h4
  have:(1000:Int)≤(2 ^ 63-1) / j:=by
   rw[Int.le_ediv_iff_mul_le (by grind)]
   grind
  grind
 ·have h5:x.length*j.toNat≤1000*1000:=Nat.mul_le_mul h2 (by simp_all)
  exact df0 (by rw[sizeLine_eq];grind)
end
mutual
noncomputable def toW:D->PySem.W.Dat
 |.none=>.none
 |.bool b=>.bool b
 |.int i=>.int i
 |.str x=>.str x
 |.tuple ds=>.tuple (cW ds)
 |.list ds=>.list (cW ds)
 |.dict _=>.none
 |.scr _=>.none
 |.vlt ..=>.none
 |.hdl _=>.none
 |.exc _=>.none
noncomputable def cW:List D->List PySem.W.Dat
 |[]=>[]
 |d::r=>toW d::cW r
end
theorem eL {p:PySem.W.Dat->Bool}{q:D->Bool}:∀{ds:List D},(∀d∈ds,q d=true->p (toW d)=true)->ds.all q=true->(cW ds).all p=true
 |[],_,_=>rfl
 |d::r,h,a=>by
  rw[List.all_cons,be0] at a;show (p _&&(cW r).all p)=true;rw[h d ms0 a.1,eL (fun e he=>h e (mc0 _ he)) a.2];rfl
theorem kI:∀(n m:Nat) (a b:D),okS n a=true->okS m b=true->toW a=toW b->a=b:=by
 intro n
 induction n with
 |zero=>
  intro m a b ha hb e;cases a with
  |none=>cases b<;>first|rfl|(cases e;done)|(cases m<;>cases hb)
  |int i=>cases b<;>first|(cases e;rfl)|(cases e;done)
  |str x=>cases b<;>first|(cases e;rfl)|(cases e;done)
  |_=>cases ha
 |succ n ih=>
  intro m a b ha hb e;have all:∀(m:Nat) (ds es:List D),ds.all (okS n)=true->es.all (okS m)=true->cW ds=cW es->ds=es:=by
   intro m ds
   induction ds with
   |nil=>intro es _ _ e;cases es with
    |nil=>rfl
    |cons=>cases e
   |cons d r ih2=>
    intro es h1 h2 e;cases es with
    |nil=>cases e
    |cons f q=>
     rw[List.all_cons,be0] at h1 h2;have e':toW d::cW r=toW f::cW q:=e;injection e' with e1 e2
     rw[ih m d f h1.1 h2.1 e1,ih2 q h1.2 h2.2 e2]
  cases a with
  |none=>cases b<;>first|rfl|(cases e;done)|(cases m<;>cases hb)
  |int i=>cases b<;>first|(cases e;rfl)|(cases e;done)
  |str x=>cases b<;>first|(cases e;rfl)|(cases e;done)
  |tuple ds=>
   cases b with
   |tuple es=>
    cases m with
    |zero=>cases hb
    |succ m=>rw[all m ds es ha hb (PySem.W.Dat.tuple.inj e)]
   |_=>cases e
  |list ds=>
   cases b with
   |list es=>
    cases m with
    |zero=>cases hb
    |succ m=>rw[all m ds es ha hb (PySem.W.Dat.list.inj e)]
   |_=>cases e
  |_=>cases ha
section
variable {K:Fg}{G:Hp}
theorem Dps.mem {ds:List D}{vs:List V}(h:Dps K G ds vs){d:D}(hd:d∈ds):∃v,Dp K G d v:=by
 obtain⟨k,e⟩:=List.getElem?_of_mem hd;obtain⟨v,_,r⟩:=h.get e;exact⟨v,r⟩
theorem qA:∀(n:Nat) (d:D) (v:V),Dp K G d v->okS n d=true->PySem.W.kqdOk n (toW d)=true:=by
 intro n
 induction n with
 |zero=>
  intro d v h o;cases h with
  |none=>rfl
  |int i=>rfl
  |str x hx=>exact hx
  |_=>cases o
 |succ n ih=>
  intro d v h o;have all:∀{ds:List D} {vs:List V},Dps K G ds vs->ds.all _=true->(cW ds).all _=true:=fun {ds vs} r z=>
   eL (fun e he oe=>let ⟨u,q⟩:=r.mem he;ih e u q oe) z
  cases h with
  |none=>rfl
  |int i=>rfl
  |str x hx=>exact hx
  |tuple _ r=>exact all r o
  |list _ r=>exact all r o
  |_=>cases o
theorem kJ {H:Hp}(s:Same G H){d:D}{v:V}(h:Dr K G H d v)(o:okS 8 d=true):PySem.W.kqdOk 8 (toW d)=true:=by
 cases h with
 |of h=>exact qA 8 d v h o
 |list _ r=>exact eL (fun e he oe=>let ⟨u,q⟩:=r.mem he;qA 7 e u q oe) o
 |dict=>rfl
 |vlt=>rfl
variable {X:Cx}{pins:List (Addr×Obj)}{σ:St}{H:Hp}{s:Shared}
theorem fL (I:Inv X pins σ H s)(sm:Same G H){n:Nat}(ih:∀(d:D) (v:V) (u:Value),Dp X.K G d v->RelV v u->okS n d=true->∃as,Reads s.heap u (PySem.W.kqdP (toW d)) as):
  ∀{vs:List V} {us:List Value} {ds:List D},Vals vs us->Dps X.K G ds vs->ds.all (okS n)=true->∃as,ReadsAll s.heap us (PySem.W.kqdPs (cW ds)) as:=by
 intro vs us ds r
 induction r generalizing ds with
 |nil=>intro q _;cases q;exact⟨_,ReadsAll.nil⟩
 |cons r1 _ ih2=>
  intro q z;cases q with
  |cons q1 q2=>
   rw[List.all_cons,be0] at z;obtain⟨as,p1⟩:=ih _ _ _ q1 r1 z.1;obtain⟨bs,p2⟩:=ih2 q2 z.2;exact⟨_,ReadsAll.cons p1 p2⟩
theorem lR (I:Inv X pins σ H s)(sm:Same G H):∀(n:Nat) (d:D) (v:V) (u:Value),Dp X.K G d v->RelV v u->okS n d=true->∃as,Reads s.heap u (PySem.W.kqdP (toW d)) as:=by
 intro n
 induction n with
 |zero=>
  intro d v u h r o;cases h with
  |none=>cases r;exact⟨_,Reads.none⟩
  |int i=>obtain⟨t,rfl⟩:=r;exact⟨_,Reads.int i t⟩
  |str x hx=>obtain⟨t,rfl⟩:=r;exact⟨_,Reads.str x t⟩
  |_=>cases o
 |succ n ih=>
  intro d v u h r o;cases h with
  |none=>cases r;exact⟨_,Reads.none⟩
  |int i=>obtain⟨t,rfl⟩:=r;exact⟨_,Reads.int i t⟩
  |str x hx=>obtain⟨t,rfl⟩:=r;exact⟨_,Reads.str x t⟩
  |tuple q p=>
   cases r;obtain⟨its,rv,⟨ob,e1,e2,m,e3⟩,_⟩:=I.tuple (SqT.of (sm _ _ q));obtain⟨as,w⟩:=fL I sm ih rv p o;exact⟨_,Reads.tuple e1 e2 e3 (by omega)⟩
  |list q p=>
   cases r;obtain⟨its,rv,⟨ob,m,e1,e2,_,e3⟩,_⟩:=I.list (SqL.of (sm _ _ q));obtain⟨as,w⟩:=fL I sm ih rv p o;exact⟨_,Reads.list e1 e2 e3 (by omega)⟩
  |_=>cases o
theorem bC (I:Inv X pins σ H s)(sm:Same G H){d:D}{v:V}{u:Value}(h:Dr X.K G H d v)(r:RelV v u)(o:okS 8 d=true):∃as,Reads s.heap u (PySem.W.kqdP (toW d)) as:=by
 cases h with
 |of h=>exact lR I sm 8 d v u h r o
 |list q p=>
  cases r;obtain⟨its,rv,⟨ob,m,e1,e2,_,e3⟩,_⟩:=I.list (SqL.of q);obtain⟨as,w⟩:=fL I sm (lR I sm 7) rv p o;exact⟨_,Reads.list e1 e2 e3 (by omega)⟩
 |dict=>cases o
 |vlt=>cases o
end
section
variable {X:Cx}{d1 d2:D}
theorem bO {d:PySem.W.Dat}(o:PySem.W.kqdOk 8 d=true):SeqAt.shaped (PySem.W.kqdP d)=true:=by
 have l:=PySem.W.kqd_lay 8 d o;unfold SeqAt.shaped;rw[l.1];exact dt0 (nt0 l.2 (by decide))
def GC (K:Fg)(neg:Bool):R2:=fun x y H Q=>∃G d1 d2,Same G H/\Dr K G H d1 x/\Dr K G H d2 y/\okS 8 d1=true/\okS 8 d2=true/\Q (.bl (if neg then !decide (d1=d2) else decide (d1=d2))) H
theorem vz {K:Fg}{G H:Hp}{x y:V}(s:Same G H)(h1:Dr K G H d1 x)(h2:Dr K G H d2 y)(o1:okS 8 d1=true)(o2:okS 8 d2=true):PyData.eqv (PySem.W.kqdP (toW d1)) (PySem.W.kqdP (toW d2))=decide (d1=d2):=by
 have q:=PySem.W.kqd_eqv 8 _ _ 8 (kJ s h1 o1) (kJ s h2 o2)
 by_cases e:d1=d2
 ·rw[dt0 e];exact q.mpr (by rw[e])
 ·rw[df0 e]
  exact Bool.eq_false_iff.mpr fun z=>e (kI 8 8 d1 d2 o1 o2 (q.mp z))
theorem DD (hu:X.A.units+64<cLine):OpR X (compareOp .Eq) (GC X.K false):=by
 intro pins s σ H x y v u Q I rx ry h;obtain⟨G,d1,d2,sm,h1,h2,o1,o2,q⟩:=h;obtain⟨as,ra⟩:=bC I sm h1 rx o1;obtain⟨bs,rb⟩:=bC I sm h2 ry o2;exact eq_dataH ra rb (bO (kJ sm h1 o1)) (bO (kJ sm h2 o2)) hu (ai I q (vz sm h1 h2 o1 o2).symm)
theorem DE (hu:X.A.units+64<cLine):OpR X (compareOp .NotEq) (GC X.K true):=by
 intro pins s σ H x y v u Q I rx ry h;obtain⟨G,d1,d2,sm,h1,h2,o1,o2,q⟩:=h;obtain⟨as,ra⟩:=bC I sm h1 rx o1;obtain⟨bs,rb⟩:=bC I sm h2 ry o2;exact ne_dataH ra rb (bO (kJ sm h1 o1)) (bO (kJ sm h2 o2)) hu (ai I q (by rw[vz sm h1 h2 o1 o2];rfl))
theorem Dr.dpsL {K:Fg}{G H:Hp}{ds:List D}{v:V}(h:Dr K G H (.list ds) v):∃vs,Dps K G ds vs:=by
 cases h with
 |of h=>cases h with|list _ r=>exact⟨_,r⟩
 |list _ r=>exact⟨_,r⟩
theorem Dr.dpsT {K:Fg}{G H:Hp}{ds:List D}{v:V}(h:Dr K G H (.tuple ds) v):∃vs,Dps K G ds vs:=by
 cases h with
 |of h=>cases h with|tuple _ r=>exact⟨_,r⟩
theorem vA {K:Fg}{G H:Hp}{x:V}(s:Same G H)(h1:Dr K G H d1 x)(o1:okS 8 d1=true):∀{ds:List D} {vs:List V},Dps K G ds vs->ds.all (okS 7)=true->((PySem.W.kqdPs (cW ds)).any fun y=>PyData.eqv y (PySem.W.kqdP (toW d1)))=ds.any fun d=>decide (d=d1)
 |[],_,_,_=>rfl
 |d::r,_,.cons q q',o=>by
  rw[List.all_cons,be0] at o;have e:=PySem.W.kqd_eqv 7 (toW d) (toW d1) 8 (qA 7 d _ q o.1) (kJ s h1 o1);have e':PyData.eqv (PySem.W.kqdP (toW d)) (PySem.W.kqdP (toW d1))=decide (d=d1):=by
   by_cases z:d=d1
   ·rw[dt0 z];exact e.mpr (by rw[z])
   ·rw[df0 z];exact Bool.eq_false_iff.mpr fun y=>z (kI 7 8 d d1 o.1 o1 (e.mp y))
  show (PyData.eqv _ _||_)=(decide (d=d1)||_);rw[e',←vA s h1 o1 q' o.2]
theorem qB {K:Fg}{G:Hp}{ds:List D}{vs:List V}(r:Dps K G ds vs)(o:ds.all (okS 7)=true):PyData.canLayAll0 (PySem.W.kqdPs (cW ds))=true/\PyData.depthAll (PySem.W.kqdPs (cW ds))≤8:=by
 have l:=PySem.W.kqd_lay 8 (.list (cW ds)) (eL (fun e he oe=>let ⟨u,q⟩:=r.mem he;qA 7 e u q oe) o);rw[PySem.W.kqdP] at l;simp only[PyData.canLay0,PyData.depth] at l;have l2:=l.2;exact⟨l.1,by exact Nat.le_of_lt ‹_›⟩
def GD (K:Fg)(neg:Bool):R2:=fun x y H Q=>∃G d ds vs,Same G H/\Dr K G H d x/\Dps K G ds vs/\((Dr K G H (.list ds) y)\/Dr K G H (.tuple ds) y)/\okS 8 d=true/\ds.all (okS 7)=true/\Q (.bl (if neg then !ds.any (fun e=>decide (e=d)) else ds.any fun e=>decide (e=d))) H
theorem vB (hu:X.A.units+64<cLine):OpR X (compareOp .In) (GD X.K false):=by
 intro pins s σ H x y v u Q I rx ry h;obtain⟨G,d,ds,vs,sm,h1,r,h2,o1,o2,q⟩:=h;obtain⟨as,ra⟩:=bC I sm h1 rx o1;have l:=qB r o2;have l1:=PySem.W.kqd_lay 8 _ (kJ sm h1 o1);have q:=q;rcases h2 with h2|h2
 ·obtain⟨bs,rb⟩:=bC I sm h2 ry o2
  exact SeqAt.in_list_reads rb ra l.1 l1.1 (by omega) (ai I q (vA sm h1 o1 r o2).symm)
 ·obtain⟨bs,rb⟩:=bC I sm h2 ry o2
  exact SeqAt.in_tuple_reads rb ra l.1 l1.1 (by omega) (ai I q (vA sm h1 o1 r o2).symm)
theorem jA (hu:X.A.units+64<cLine):OpR X (compareOp .NotIn) (GD X.K true):=by
 intro pins s σ H x y v u Q I rx ry h;obtain⟨G,d,ds,vs,sm,h1,r,h2,o1,o2,q⟩:=h;obtain⟨as,ra⟩:=bC I sm h1 rx o1;have l:=qB r o2;have l1:=PySem.W.kqd_lay 8 _ (kJ sm h1 o1);rcases h2 with h2|h2
 ·obtain⟨bs,rb⟩:=bC I sm h2 ry o2
  exact SeqAt.notIn_list_reads rb ra l.1 l1.1 (by omega) (ai I q (by rw[vA sm h1 o1 r o2];rfl))
 ·obtain⟨bs,rb⟩:=bC I sm h2 ry o2
  exact SeqAt.notIn_tuple_reads rb ra l.1 l1.1 (by omega) (ai I q (by rw[vA sm h1 o1 r o2];rfl))
theorem sh:OpR X (compareOp .LtE) (fun x y H Q=>∃i j,x=.str i/\y=.str j/\Q (.bl (!decide (j.cps.toList<i.cps.toList))) H):=by
 intro pins s σ H x y v u Q I rx ry h;obtain⟨i,j,rfl,rfl,q⟩:=h;obtain⟨t,rfl⟩:=rx;obtain⟨t',rfl⟩:=ry;exact PySem.P.le_str (ai I q rfl)
set_option tactic.hygienic true in
theorem kK {op:CmpOp}{o:Cop}{t:Bool}(hu:X.A.units+64<cLine)(ho:oB op=some o)(h:bU o d1 d2=some t):∃r,OpR X (compareOp op) r/\R2r X.K r d1 d2 (.bool t):=by
 have hu1:X.A.units+1<cLine:=by omega
 have eqc:∀t,eqD d1 d2=some t->(∃r,OpR X (compareOp .Eq) r/\R2r X.K r d1 d2 (.bool t))/\∃r,OpR X (compareOp .NotEq) r/\R2r X.K r d1 d2 (.bool (!t)):=by
  clear h;intro t h;unfold eqD at h;split at h
  ·rename_i c
   rw[be0] at c;cases h;exact⟨⟨_,DD hu,fun x y G H Q s hx hy k=>⟨G,d1,d2,s,hx,hy,c.1,c.2,k _ G H (.refl s) (.bool _)⟩⟩,⟨_,DE hu,fun x y G H Q s hx hy k=>⟨G,d1,d2,s,hx,hy,c.1,c.2,k _ G H (.refl s) (.bool _)⟩⟩⟩
  ·cases d1 with
   |bool p=>
    cases d2 with
    |bool q=>
     cases h;have e:decide (V.bl p=V.bl q)=(p==q):=nV;refine⟨⟨_,uI,fun x y G H Q s hx hy k=>?_⟩,⟨_,FT,fun x y G H Q s hx hy k=>?_⟩⟩
     ·rw[hx.bool,hy.bool]
      exact⟨rfl,by rw[e];exact k _ G H (.refl s) (.bool _)⟩
     ·rw[hx.bool,hy.bool]
      exact⟨rfl,by rw[e];exact k _ G H (.refl s) (.bool _)⟩
    |_=>cases h
   |_=>cases h
 have inc:∀t,inD d1 d2=some t->(∃r,OpR X (compareOp .In) r/\R2r X.K r d1 d2 (.bool t))/\∃r,OpR X (compareOp .NotIn) r/\R2r X.K r d1 d2 (.bool (!t)):=by
  clear h eqc;intro t h;unfold inD at h;cases d2 with
  |str y=>
   cases d1 with
   |str x=>
    cases h;refine⟨⟨_,rN,fun u v G H Q s hx hy k=>⟨x,y,hx.str.1,hy.str.1,k _ G H (.refl s) (.bool _)⟩⟩,⟨_,ky,fun u v G H Q s hx hy k=>⟨x,y,hx.str.1,hy.str.1,k _ G H (.refl s) (.bool _)⟩⟩⟩
   |_=>cases h
  |list ds=>
   dsimp only at h;split at h
   ·rename_i c
    rw[be0] at c;cases h;exact⟨⟨_,vB hu,fun u v G H Q s hx hy k=>let ⟨vs,r⟩:=hy.dpsL;⟨G,d1,ds,vs,s,hx,r,.inl hy,c.1,c.2,k _ G H (.refl s) (.bool _)⟩⟩,⟨_,jA hu,fun u v G H Q s hx hy k=>let ⟨vs,r⟩:=hy.dpsL;⟨G,d1,ds,vs,s,hx,r,.inl hy,c.1,c.2,k _ G H (.refl s) (.bool _)⟩⟩⟩
   ·cases h
  |tuple ds=>
   dsimp only at h;split at h
   ·rename_i c
    rw[be0] at c;cases h;exact⟨⟨_,vB hu,fun u v G H Q s hx hy k=>let ⟨vs,r⟩:=hy.dpsT;⟨G,d1,ds,vs,s,hx,r,.inr hy,c.1,c.2,k _ G H (.refl s) (.bool _)⟩⟩,⟨_,jA hu,fun u v G H Q s hx hy k=>let ⟨vs,r⟩:=hy.dpsT;⟨G,d1,ds,vs,s,hx,r,.inr hy,c.1,c.2,k _ G H (.refl s) (.bool _)⟩⟩⟩
   ·cases h
  |_=>cases h
 cases op with
 |Lt=>
  cases ho;clear eqc inc;cases d1 with
  |int i=>cases d2 with
   |int j=>cases h;exact⟨_,FU,jz fun a=>.bool _⟩
   |_=>cases h
  |str x=>cases d2 with
   |str y=>cases h;exact⟨_,rM,fun u v G H Q s hx hy k=>⟨x,y,hx.str.1,hy.str.1,k _ G H (.refl s) (.bool _)⟩⟩
   |_=>cases h
  |_=>cases h
 |LtE=>
  cases ho;clear eqc inc;cases d1 with
  |int i=>cases d2 with
   |int j=>cases h;exact⟨_,FV,jz fun a=>.bool _⟩
   |_=>cases h
  |str x=>cases d2 with
   |str y=>cases h;exact⟨_,sh,fun u v G H Q s hx hy k=>⟨x,y,hx.str.1,hy.str.1,k _ G H (.refl s) (.bool _)⟩⟩
   |_=>cases h
  |_=>cases h
 |Gt=>
  cases ho;clear eqc inc;cases d1 with
  |int i=>cases d2 with
   |int j=>cases h;exact⟨_,FW,jz fun a=>.bool _⟩
   |_=>cases h
  |_=>cases h
 |GtE=>
  cases ho;clear eqc inc;cases d1 with
  |int i=>cases d2 with
   |int j=>cases h;exact⟨_,FX,jz fun a=>.bool _⟩
   |_=>cases h
  |_=>cases h
 |Eq=>cases ho;rw[vg] at h;exact (eqc t h).1
 |NotEq=>
  cases ho;rw[Dl] at h;obtain⟨t',h1,rfl⟩:=mx0 h;exact (eqc t' h1).2
 |In=>cases ho;rw[Dm] at h;exact (inc t h).1
 |NotIn=>
  cases ho;rw[ju] at h;obtain⟨t',h1,rfl⟩:=mx0 h;exact (inc t' h1).2
 |Is=>
  cases ho;have h':(if d2=.none then some (decide (d1=.none)) else Option.none)=some t:=by clear eqc inc;cases d1<;>exact h
  split at h'
  ·rename_i c
   subst c;cases h';refine⟨_,CQ,fun x y G H Q s hx hy k=>⟨hy.none,?_⟩⟩;have e:decide (x=V.non)=decide (d1=D.none):=by
    by_cases c:d1=.none
    ·subst c;simp[hx.none]
    ·rw[df0 c]
     refine df0 fun z=>?_
     subst z;cases hx with|of hx=>cases hx;exact c rfl
   rw[e];exact k _ G H (.refl s) (.bool _)
  ·cases h'
 |IsNot=>
  cases ho;have h':(if d2=.none then some (!decide (d1=.none)) else Option.none)=some t:=by clear eqc inc;cases d1<;>exact h
  split at h'
  ·rename_i c
   subst c;cases h';refine⟨_,yZ,fun x y G H Q s hx hy k=>⟨hy.none,?_⟩⟩;have e:decide (x=V.non)=decide (d1=D.none):=by
    by_cases c:d1=.none
    ·subst c;simp[hx.none]
    ·rw[df0 c]
     refine df0 fun z=>?_
     subst z;cases hx with|of hx=>cases hx;exact c rfl
   rw[e];exact k _ G H (.refl s) (.bool _)
  ·cases h'
theorem ir {op:CmpOp}{b:Expr}(h:isSet b=false):behindInMarks op b=false:=by cases b<;>first|rfl|cases h
end
section
variable {X:Cx}{ρ:List Sl}{a b c:Expr}{pos:Pos}{d d1 d2 d3:D}
theorem vC:OpR X (binaryOp .Mult) (fun x y H Q=>∃z n,x=.str z/\y=.int n/\MulOk z n/\Q (.str (Txt.mul z n)) H):=by
 intro pins s σ H x y v u Q I rx ry h;obtain⟨z,n,rfl,rfl,ok,q⟩:=h;obtain⟨t,rfl⟩:=rx;obtain⟨t',rfl⟩:=ry;exact SB.mul ok fun t' k=>⟨.str _,H,I.tok k,⟨_,rfl⟩,q⟩
theorem si {x:Str}{n:Nat}(h:PyData.strOk x=true):PyData.strOk ⟨((List.replicate n x.cps.toList).flatten).toArray⟩=true:=by
 rw[strOk_iff] at h ⊢
 simp_all
set_option tactic.hygienic true
theorem lS {op:Operator}{o:Op2}(ho:cOp op=some o)(h:opD o d1 d2=some d)(ha:Er X ρ a d1)(hb:Er X ρ b d2):Ev X ρ (.BinOp a op b pos) d/\(bF d=true->En X ρ (.BinOp a op b pos) d):=by
 have new:En X ρ (.BinOp a op b pos) d->Ev X ρ (.BinOp a op b pos) d/\(bF d=true->En X ρ (.BinOp a op b pos) d):=fun q=>⟨q.ev,fun e=>q⟩
 have old:bF d=false->Ev X ρ (.BinOp a op b pos) d->Ev X ρ (.BinOp a op b pos) d/\(bF d=true->En X ρ (.BinOp a op b pos) d):=fun z q=>⟨q,fun c=>by rw[z] at c;cases c⟩
 cases op with
 |Add=>
  cases ho;cases d1 with
  |int i=>cases d2 with
   |int j=>cases h;exact old rfl (ev_op CO ha hb (jz fun e=>.int _))
   |_=>cases h
  |str x=>cases d2 with
   |str y=>
    rw[zt] at h;split at h
    ·rename_i c;cases h;rw[big_eq] at c;exact old rfl (ev_op op_add_str ha hb (r2_addS c))
    ·cases h
   |_=>cases h
  |list ds=>cases d2 with
   |list es=>
    rw[zu] at h;split at h
    ·rename_i c;cases h;rw[big_eq] at c;exact new (en_op op_cat ha hb (r2_cat c))
    ·cases h
   |_=>cases h
  |_=>cases h
 |Sub=>
  cases ho;cases d1 with
  |int i=>cases d2 with
   |int j=>cases h;exact old rfl (ev_op CP ha hb (jz fun e=>.int _))
   |_=>cases h
  |_=>cases h
 |Mult=>
  cases ho;cases d1 with
  |int i=>cases d2 with
   |int j=>
    rw[gP] at h;split at h
    ·rename_i c;cases h;exact old rfl (ev_op op_mul ha hb (r2_I (cMul_ok c) fun e=>.int _))
    ·cases h
   |_=>cases h
  |str x=>cases d2 with
   |int j=>
    rw[zw] at h;split at h
    ·rename_i c
     cases h;refine old rfl (ev_op vC ha hb fun u v G H Q s hx hy k=>?_);obtain⟨rfl,o1⟩:=hx.str;refine⟨x,j,rfl,hy.int,mulOk_of c.2.1 c.2.2 c.1,?_⟩;rw[mul_eq];exact k _ G H (.refl s) (.str _ (si o1))
    ·cases h
   |_=>cases h
  |list ds=>cases d2 with
   |int j=>
    rw[zv] at h;split at h
    ·rename_i c
     cases h;unfold uZ at c;rw[be0,be0] at c;exact new (en_op Dc ha hb (DC (od0 c.1.1) (od0 c.1.2) (by rw[←big_eq];exact od0 c.2)))
    ·cases h
   |_=>cases h
  |_=>cases h
 |Mod=>
  cases ho;cases d1 with
  |int i=>cases d2 with
   |int j=>
    rw[zx] at h;split at h
    ·rename_i c;cases h;exact old rfl (ev_op op_mod ha hb (r2_I c fun e=>.int _))
    ·cases h
   |_=>cases h
  |_=>cases h
 |FloorDiv=>
  cases ho;cases d1 with
  |int i=>cases d2 with
   |int j=>
    rw[zy] at h;split at h
    ·rename_i c;cases h;exact old rfl (ev_op op_fdiv ha hb (r2_I c fun e=>.int _))
    ·cases h
   |_=>cases h
  |_=>cases h
 |_=>cases ho
theorem DF {i:Int}(ha:Ev X ρ a (.int i)):Ev X ρ (.UnaryOp .USub a pos) (.int (-i)):=fun pins s σ H Q I ⟨G0,H0,G,E,k⟩=>
 BA uH ha _ s σ H Q I ⟨G0,H0,G,E,fun v G1 H1 e1 r1=>by
  cases r1;exact⟨i,rfl,k _ G1 H1 e1 (.int _)⟩⟩
theorem jB {c:Nat}(h:c<0x110000):PyData.strOk ⟨#[c]⟩=true:=by
 unfold PyData.strOk;simp;exact h
theorem sj (hu:X.A.units+1<cLine)(h:lM d1 d2=some d)(ha:Er X ρ a d1)(hb:Ev X ρ b d2)(hs:isSlice b=false):Ev X ρ (.Subscript a b pos) d:=by
 cases d1 with
 |list ds=>
  cases d2 with
  |int i=>
   refine qz qh ha hb (fun u v G H Q s hx hy q=>?_) hs;obtain⟨p,vs,rfl,h1,r⟩:=hx.lst s;obtain⟨w,e,dw⟩:=r.atI h;exact⟨p,vs,i,w,rfl,hy.int,SqL.of h1,e,q _ G H (.refl s) dw⟩
  |_=>cases h
 |tuple ds=>
  cases d2 with
  |int i=>
   refine qz om ha hb (fun u v G H Q s hx hy q=>?_) hs;obtain⟨p,vs,rfl,h1,r⟩:=hx.tup s;obtain⟨w,e,dw⟩:=r.atI h;exact⟨p,vs,i,w,rfl,hy.int,SqT.of h1,e,q _ G H (.refl s) dw⟩
  |_=>cases h
 |scr ns=>
  cases d2 with
  |int i=>
   refine qz qh ha hb (fun u v G H Q s hx hy q=>?_) hs;obtain⟨p,rfl,h1⟩:=hx.scr s;obtain⟨n,e,rfl⟩:=mx0 h;have e':L2.atI (ns.map V.int) i=some (.int n):=by
    rw[vq] at e;unfold L2.atI at e ⊢;rw[lm0];cases q:L2.ixN ns.length i with
    |none=>rw[q] at e;cases e
    |some j=>
     rw[q] at e;show (ns.map V.int)[j]?=_;rw[gm0,show ns[j]?=some n from e];rfl
   exact⟨p,_,i,_,rfl,hy.int,h1,e',q _ G H (.refl s) (.int n)⟩
  |_=>cases h
 |str x=>
  cases d2 with
  |int i=>
   rw[zA] at h;split at h
   ·rename_i hz
    rw[big_eq] at hz;obtain⟨k,e,rfl⟩:=mx0 h;refine qz CW ha hb (fun u v G H Q s hx hy q=>?_) hs;obtain⟨rfl,o⟩:=hx.str;refine⟨x,i,k,rfl,hy.int,hz,e,q _ G H (.refl s) (.str _ (jB ?_))⟩;obtain⟨j,_,e2,_⟩:=gM e;exact strOk_iff.mp o k (mg0 e2)
   ·cases h
  |_=>cases h
 |_=>cases h
set_option tactic.hygienic false
def tPt (K:Fg)(ρ:List Sl)(o:Option Int):TO:=fun σ H Q=>∃G0 H0 G,EnvD K G0 H0 G H σ ρ/\∀G' H',Ext G H G' H'->Q o H'
theorem vD:PO X Option.none (tPt X.K ρ Option.none):=by rintro pins s σ H Q I ⟨G0,H0,G,E,k⟩;exact zf pins s σ H Q I (k G H (.refl E.sub))
theorem vF {i:Int}(h:Ev X ρ a (.int i)):PO X (some a) (tPt X.K ρ (some i)):=fun pins s σ H Q I ⟨G0,H0,G,E,k⟩=>
 qe h _ s σ H Q I ⟨G0,H0,G,E,fun v G1 H1 e1 r1=>by
  cases r1;exact⟨i,rfl,k G1 H1 e1⟩⟩
theorem sk {lo hi:Option Expr}{l h:Option Int}{ds:List D}{p2:Pos}(ha:Er X ρ a (.list ds))(hl:PO X lo (tPt X.K ρ l))(hh:PO X hi (tPt X.K ρ h)):En X ρ (.Subscript a (.Slice lo hi Option.none p2) pos) (.list (SI.cut ds l h)):=
 by rintro pins s σ H Q I ⟨G0,H0,G,E,k⟩;exact uT qi ha hl hh pins s σ H Q I ⟨G0,H0,G,E,fun v G1 H1 e1 r1=>⟨G0,H0,G1,E.step e1,fun G2 H2 e2=>⟨G0,H0,G2,(E.step e1).step e2,fun G3 H3 e3=>by
  obtain⟨p,vs,rfl,h1,r⟩:=((r1.ext e2).ext e3).lst e3.gh;have e:=e1.trans (e2.trans e3);exact⟨p,vs,rfl,SqL.of h1,fun q hq=>k q G3 _ (e.trans (.hid e3.gh hq)) (e3.gh.free hq) (e.hh.free hq) (.inl ⟨_,_,rfl,ae,r.cut l h⟩)⟩⟩⟩⟩
theorem en_lst {es:List Expr}{ds:List D}(h:Ea X ρ [] es ds)(hz:ds.length≤1000):En X ρ (.List es pos) (.list ds):=fun pins s σ H Q I ⟨G0,H0,G,E,k⟩=>
 uO h _ s σ H Q I ⟨G0,H0,G,E,fun vs G1 H1 e1 r=>⟨by rw[←r.length];exact Nat.le_of_lt (fG hz),fun p hp=>
  k p G1 _ (e1.trans (.hid e1.gh hp)) (e1.gh.free hp) (e1.hh.free hp) (.inl ⟨_,_,rfl,ae,r.dps⟩)⟩⟩
theorem ev_tup {es:List Expr}{ds:List D}{x1}(h:Ea X ρ [] es ds)(hz:ds.length≤1000):Ev X ρ (.Tuple es x1 pos) (.tuple ds):=fun pins s σ H Q I ⟨G0,H0,G,E,k⟩=>
 CV h _ s σ H Q I ⟨G0,H0,G,E,fun vs G1 H1 e1 r=>⟨by rw[←r.length];exact Nat.le_of_lt (fG hz),fun p hp=>
  k _ _ _ (e1.trans (.laid e1.gh hp)) (.tuple ae (r.dps.mono (aP (e1.gh.free hp))))⟩⟩
theorem gk {K:Fg}{G:Hp}{ds:List D}{vs:List V}(r:Dps K G ds vs):(!ds.isEmpty)=!vs.isEmpty:=by cases r<;>rfl
theorem lT {K:Fg}{G:Hp}{ds:List (Key×D)}{vs:List (Key×V)}(r:Dks K G ds vs):(!ds.isEmpty)=!vs.isEmpty:=by cases r<;>rfl
set_option tactic.hygienic true in
theorem DG {K:Fg}{G H:Hp}{d:D}{v:V}{t:Bool}(s:Same G H)(h:Dr K G H d v)(ht:eJ d=some t):CS K v H t:=by
 cases d with
 |none=>rw[h.none];cases ht;rfl
 |bool b=>rw[h.bool];cases ht;rfl
 |int i=>rw[h.int];cases ht;rfl
 |str x=>
  rw[h.str.1];rw[ve] at ht;split at ht
  ·rename_i c;cases ht;exact⟨c,rfl⟩
  ·cases ht
 |tuple ds=>obtain⟨a,vs,rfl,h1,r⟩:=h.tup s;cases ht;exact .inr (.inl ⟨vs,SqT.of h1,gk r⟩)
 |list ds=>obtain⟨a,vs,rfl,h1,r⟩:=h.lst s;cases ht;exact .inl ⟨vs,SqL.of h1,gk r⟩
 |dict kvs=>obtain⟨a,vs,rfl,h1,r⟩:=h.dct s;cases ht;exact .inr (.inr ⟨vs,h1,lT r⟩)
 |scr ns=>obtain⟨a,rfl,h1⟩:=h.scr s;cases ht;exact .inl ⟨_,h1,by simp⟩
 |vlt=>cases ht
 |hdl=>cases ht
 |exc=>cases ht
theorem iu {t:Bool}(h:Er X ρ a d)(ht:eJ d=some t)(he:∀whole,isTrue a X.env whole=(do let v ←whole;standAt a.pos;holding [v] (truthy v))):Et X ρ a t:=
 by rintro pins s σ H Q I ⟨G0,H0,G,E,k⟩;exact uK h he pins s σ H Q I ⟨G0,H0,G,E,fun v G1 H1 e1 r=>⟨t,DG e1.gh r ht,k G1 H1 e1⟩⟩
variable {t u:Bool}
theorem DH (h:Et X ρ a t):Et X ρ (.UnaryOp .Not a pos) (!t):=fun pins s σ H Q I h0=>CI h _ s σ H Q I (let ⟨G0,H0,G,E,k⟩:=h0;⟨G0,H0,G,E,k⟩)
theorem zH (h:Et X ρ a t):Ew X ρ (.BoolOp .And [a] pos) t:=yX h
theorem DI (h:Et X ρ a t):Ew X ρ (.BoolOp .Or [a] pos) t:=CH h
theorem zI {r:List Expr}(h:Et X ρ a true)(q:Ew X ρ (.BoolOp .And (b::r) pos) u):Ew X ρ (.BoolOp .And (a::b::r) pos) u:=by
 intro whole pins s σ H Q I h0;obtain⟨G0,H0,G,E,k⟩:=h0;exact uA h q _ _ s σ H Q I ⟨G0,H0,G,E,fun G1 H1 e1=>kB ⟨G0,H0,G1,E.step e1,fun G2 H2 e2=>k G2 H2 (e1.trans e2)⟩⟩
theorem zJ {r:List Expr}(h:Et X ρ a false):Ew X ρ (.BoolOp .And (a::b::r) pos) false:=by
 intro whole pins s σ H Q I h0;obtain⟨G0,H0,G,E,k⟩:=h0;exact uA (tB':=fun c c c=>False) h (fun c c c c c c c z=>z.elim) _ _ s σ H Q I ⟨G0,H0,G,E,fun G1 H1 e1=>kA (k G1 H1 e1)⟩
theorem DJ {r:List Expr}(h:Et X ρ a false)(q:Ew X ρ (.BoolOp .Or (b::r) pos) u):Ew X ρ (.BoolOp .Or (a::b::r) pos) u:=by
 intro whole pins s σ H Q I h0;obtain⟨G0,H0,G,E,k⟩:=h0;exact Bu h q _ _ s σ H Q I ⟨G0,H0,G,E,fun G1 H1 e1=>kA ⟨G0,H0,G1,E.step e1,fun G2 H2 e2=>k G2 H2 (e1.trans e2)⟩⟩
theorem DK {r:List Expr}(h:Et X ρ a true):Ew X ρ (.BoolOp .Or (a::b::r) pos) true:=by
 intro whole pins s σ H Q I h0;obtain⟨G0,H0,G,E,k⟩:=h0;exact Bu (tB':=fun c c c=>False) h (fun c c c c c c c z=>z.elim) _ _ s σ H Q I ⟨G0,H0,G,E,fun G1 H1 e1=>kB (k G1 H1 e1)⟩
theorem DL {op}(h:Ev X ρ a d):Ev X ρ (.BoolOp op [a] pos) d:=CJ h
theorem zK {r:List Expr}(h:Ev X ρ a (.bool true))(q:Ev X ρ (.BoolOp .And (b::r) pos) d):Ev X ρ (.BoolOp .And (a::b::r) pos) d:=by
 intro pins s σ H Q I h0;obtain⟨G0,H0,G,E,k⟩:=h0;exact nR h q _ s σ H Q I ⟨G0,H0,G,E,fun v G1 H1 e1 r1=>by
  cases r1;exact⟨_,rfl,kB ⟨G0,H0,G1,E.step e1,fun v G2 H2 e2 r2=>k v G2 H2 (e1.trans e2) r2⟩⟩⟩
theorem zL {r:List Expr}(h:Ev X ρ a (.bool false)):Ev X ρ (.BoolOp .And (a::b::r) pos) (.bool false):=by
 intro pins s σ H Q I h0;obtain⟨G0,H0,G,E,k⟩:=h0;exact nR (tb:=fun c c c=>False) h (fun c c c c c c z=>z.elim) _ s σ H Q I ⟨G0,H0,G,E,fun v G1 H1 e1 r1=>by
  cases r1;exact⟨_,rfl,kA (k _ G1 H1 e1 (.bool _))⟩⟩
theorem DM {r:List Expr}(h:Ev X ρ a (.bool false))(q:Ev X ρ (.BoolOp .Or (b::r) pos) d):Ev X ρ (.BoolOp .Or (a::b::r) pos) d:=by
 intro pins s σ H Q I h0;obtain⟨G0,H0,G,E,k⟩:=h0;exact Bv h q _ s σ H Q I ⟨G0,H0,G,E,fun v G1 H1 e1 r1=>by
  cases r1;exact⟨_,rfl,kA ⟨G0,H0,G1,E.step e1,fun v G2 H2 e2 r2=>k v G2 H2 (e1.trans e2) r2⟩⟩⟩
theorem DN {r:List Expr}(h:Ev X ρ a (.bool true)):Ev X ρ (.BoolOp .Or (a::b::r) pos) (.bool true):=by
 intro pins s σ H Q I h0;obtain⟨G0,H0,G,E,k⟩:=h0;exact Bv (tb:=fun c c c=>False) h (fun c c c c c c z=>z.elim) _ s σ H Q I ⟨G0,H0,G,E,fun v G1 H1 e1 r1=>by
  cases r1;exact⟨_,rfl,kB (k _ G1 H1 e1 (.bool _))⟩⟩
theorem DO (h:Ev X ρ a (.bool t)):Ev X ρ (.UnaryOp .Not a pos) (.bool (!t)):=fun pins s σ H Q I ⟨G0,H0,G,E,k⟩=>
 CK h _ s σ H Q I ⟨G0,H0,G,E,fun v G1 H1 e1 r1=>by
  cases r1;exact⟨t,rfl,k _ G1 H1 e1 (.bool _)⟩⟩
theorem DP (h:Et X ρ c true)(ha:Ev X ρ a d):Ev X ρ (.IfExp c a b pos) d:=by
 intro pins s σ H Q I h0;obtain⟨G0,H0,G,E,k⟩:=h0;exact ly (tb:=fun e e e=>False) h ha (fun e e e e e e z=>z.elim) _ s σ H Q I ⟨G0,H0,G,E,fun G1 H1 e1=>kB ⟨G0,H0,G1,E.step e1,fun v G2 H2 e2 r=>k v G2 H2 (e1.trans e2) r⟩⟩
theorem DQ (h:Et X ρ c false)(hb:Ev X ρ b d):Ev X ρ (.IfExp c a b pos) d:=by
 intro pins s σ H Q I h0;obtain⟨G0,H0,G,E,k⟩:=h0;exact ly (ta:=fun e e e=>False) h (fun e e e e e e z=>z.elim) hb _ s σ H Q I ⟨G0,H0,G,E,fun G1 H1 e1=>kA ⟨G0,H0,G1,E.step e1,fun v G2 H2 e2 r=>k v G2 H2 (e1.trans e2) r⟩⟩
end
section
variable {X:Cx}
theorem vG {vs:List V}{bs:List Bool}{us:List Value}(r:Vals vs us)(e:vs=bs.map V.bl):LSm.BoolsAre us bs:=by
 induction r generalizing bs with
 |nil=>
  cases bs with
  |nil=>exact .nil
  |cons b q=>cases e
 |cons r1 _ ih=>
  cases bs with
  |nil=>cases e
  |cons b q=>
   injection e with e1 e2
   subst e1;cases r1;exact .cons b (ih e2)
theorem vH (hc:X.calm=true):ba X (.builtin "all") (fun xs H Q=>∃(p:Addr) (bs:List Bool),xs=[.ref p]/\SqL X.K H p (bs.map V.bl)/\Q (.bl (bs.all id)) H):=by
 intro pins s σ H xs us Q I r h;obtain⟨p,bs,rfl,hq,q⟩:=h;obtain⟨u,rfl,rx⟩:=vals1 r;cases rx;obtain⟨its,r',pl,hz⟩:=I.list hq;have hl:=pl.isList;have hb:=vG r' rfl;have hlt:p<s.heap.objs.size:=by obtain⟨_,e,_⟩:=hl;exact hs0 e
 refine call_all_walk (wpAny_pyIter_list hl ?_);refine⟨_,_,_,_,_,_,fun i=>(bs[i]?).getD true,rfl,Walks.list (A:=X.A.in1) (I.ok.hd hc) _ p (nn0 hlt) _,
  ⟨⟨_,pz0 _ rfl,rfl,rfl⟩,hl.push _⟩,fun i v s' Q' E' hP hQ=>?_,fun h' tk hk=>?_⟩
 ·obtain⟨b,e,rfl⟩:=hb.get i v (by simpa using hP)
  simp only[e] at hQ;exact wpAny_truthy_bool hQ
 ·have e:((List.range its.toArray.size).all fun i=>(bs[i]?).getD true)=bs.all id:=by
   rw[ls0,hb.length];exact LSm.range_all bs
  rw[e];exact⟨.bl _,H,I.kept (LSm.kept_iter hk),rfl,q⟩
theorem dQ:ba X (.type "tuple") (fun xs H Q=>∃p ys,xs=[.ref p]/\SqL X.K H p ys/\ys.length≤sizeLine/\∀l,H l=Option.none->Q (.ref l) (upd H l (.tup ys))):=by
 intro pins s σ H xs us Q I r h;obtain⟨p,ys,rfl,hq,hz,q⟩:=h;obtain⟨u,rfl,rx⟩:=vals1 r;cases rx;obtain⟨its,r',pl,_⟩:=I.list hq;refine PySem.call_tuple_list pl.isList (fun h' kp=>?_) (by rwa [ls0,←r'.length]);have I1:=I.kept (t':=s.toks) kp;exact⟨.ref _,_,I1.laid (fun b o e=>ps0 _ e) (nr0 _) (show ObjOk _ _ _ _ _ (.tup ys) from⟨hz,_,r',IsTup.new _ _⟩),rfl,q _ (I1.hok.fresh (nr0 _))⟩
theorem dg {K:Fg}{G:Hp}:∀{ds:List D} {vs:List V} {bs:List Bool},boolsOf ds=some bs->Dps K G ds vs->vs=bs.map V.bl:=by
 intro ds
 induction ds with
 |nil=>intro vs bs h q;cases q;cases h;rfl
 |cons d r ih=>
  intro vs bs h q;cases d with
  |bool b=>
   obtain⟨bs,e,rfl⟩:=mx0 (h);cases q with
   |cons d q=>cases d;rw[ih e q];rfl
  |_=>cases h
end
end L2.Z
namespace PySem
section
variable {prog:Program}{w:World}{A:Around}{E:Value->Shared->Prop}{s:Shared}
end
section
variable {prog:Program}{w:World}{A:Around}{E:Value->Shared->Prop}{s:Shared}
theorem gR {h:Heap}{a b:Addr}{o u:Obj}(ha:h.get? a=some o)(hb:h.get? b=some u)(hc:o.cls≠u.cls):a≠b:=fun e=>by subst e;rw[ha] at hb;cases hb;exact hc rfl
end
end PySem
namespace L2.Z
open PySem PySem.Spec PyProof.Rows L2 L2.C SI
section
variable {X:Cx}{pins:List (Addr×Obj)}{σ:St}{H:Hp}{s:Shared}
end
section
variable {K:Fg}{G:Hp}
end
section
variable {X:Cx}{ρ:List Sl}{a e:Expr}{te:TE}{lo hi:Option Expr}{tl th:TO}{pos p2:Pos}
theorem sq (he:PE X e te)(hl:PO X lo tl)(hu:PO X hi th):PE X (.Subscript e (.Slice lo hi none p2) pos) (fun σ H Q=>te σ H fun x H1=>tl σ H1 fun l H2=>th σ H2 fun u H3=>∃t,x=.str t/\t.length≤sizeLine/\Q (.str (Txt.slice t l u)) H3):=by
 intro pins s σ H Q I h;refine Subscript_ (thn (he pins s σ H _ I h) fun v s1 ⟨x,H1,I1,r1,q1⟩=>?_);refine wpAny_Slice (thn (hl pins s1 σ H1 _ I1 q1) fun vl s2 ⟨l,H2,I2,pl,q2⟩=>thn (hu pins s2 σ H2 _ I2 q2) fun vu s3 ⟨u,H3,I3,pu,q3⟩=>?_);rw[evalPart_none];refine wpAny_pure ?_;obtain⟨t,rfl,hz,q⟩:=q3;obtain⟨tk,rfl⟩:=r1;have kp:KeptH (fun h=>∀b o,s3.heap.get? b=some o->h.get? b=some o):=fun h ob p b o e=>ps0 _ (p b o e)
 have k0:∀b o,s3.heap.get? b=some o->s3.heap.get? b=some o:=fun b o e=>e
 have fin:∀(h':Heap) (t':Tok) (k:Nat),(∀b o,s3.heap.get? b=some o->h'.get? b=some o)->EP X pins σ Q (.str (Txt.slice t l u) t') {s3 with heap:=h',toks:=k}:=fun h' t' k p=>⟨.str _,H3,I3.kept p,⟨t',rfl⟩,q⟩
 have hr:ItemOn (model X.prog X.w) X.A X.xe (.str t tk) (.ref s3.heap.objs.size) (EP X pins σ Q) {s3 with heap:=s3.heap.push {cls:=.type "slice",data:=.fields #[vl,vu,.none]}}:=by
  cases pl with
  |none=>cases pu with
   |none=>exact SBH.sliceItem_nn kp k0 fin hz
   |int j tj=>exact SBH.sliceItem_ns kp k0 fin hz
  |int i ti=>cases pu with
   |none=>exact SBH.sliceItem_sn kp k0 fin hz
   |int j tj=>exact SBH.sliceItem_ss kp k0 fin hz
 obtain⟨T,id,hT,ht,hg⟩:=hr;exact tail_any (ops:=[.ref s3.heap.objs.size,.str t tk]) ht hT hg (by with_unfolding_all rfl)
theorem lU {x:Str}{l u:Option Int}(h:PyData.strOk x=true):PyData.strOk (Txt.slice x l u)=true:=by
 unfold Txt.slice;split
 ·exact h
 ·rw[strOk_iff] at h ⊢
  intro c hc;obtain⟨i,_,hi⟩:=List.mem_filterMap.mp hc;refine h c ?_;rw[←Array.getElem?_toList] at hi;exact mg0 hi
theorem su {l h:Option Int}{x:Str}(ha:Er X ρ a (.str x))(hl:PO X lo (tPt X.K ρ l))(hh:PO X hi (tPt X.K ρ h))(hz:x.length≤big):Ev X ρ (.Subscript a (.Slice lo hi Option.none p2) pos) (.str (Txt.slice x l h)):=
 by rintro pins s σ H Q I ⟨G0,H0,G,E,k⟩;exact sq ha hl hh pins s σ H Q I ⟨G0,H0,G,E,fun v G1 H1 e1 r1=>⟨G0,H0,G1,E.step e1,fun G2 H2 e2=>⟨G0,H0,G2,(E.step e1).step e2,fun G3 H3 e3=>by
  obtain⟨rfl,ok⟩:=r1.str;exact⟨x,rfl,by rw[big_eq] at hz;exact hz,k _ G3 H3 (e1.trans (e2.trans e3)) (.str _ (lU ok))⟩⟩⟩⟩
end
section
variable {X:Cx}{ρ:List Sl}{e a:Expr}{te:TE}{k:Option Str}{pos p2 p3 p4:Pos}
theorem DR {j}(he:PE X e te):PE X (.Subscript e (.Slice Option.none Option.none (some (.UnaryOp .USub (.Constant (.int 1) j p3) p4)) p2) pos) (fun σ H Q=>te σ H fun x H1=>∃a xs,x=.ref a/\SqL X.K H1 a xs/\∀p,H1 p=none->Q (.ref p) (upd H1 p (.lst xs.reverse))):=by
 intro pins s σ H Q I h;refine Subscript_ (thn (he pins s σ H _ I h) ?_);rintro v s1 ⟨x,H1,I1,r1,a,xs,ex,hx,q⟩;subst ex;cases r1;refine wpAny_Slice ?_;rw[evalPart_none];refine wpAny_pure (wpAny_pure ?_);refine thn (qe (BA uH ko) pins s1 σ H1 (fun o H2=>o=some (-1)/\H2=H1) I1 ⟨1,rfl,-1,rfl,rfl,rfl⟩) ?_;rintro vk s3 ⟨l,H3,I3,pk,el,eH⟩;subst el eH;have I4:Inv X pins σ H3 {s3 with heap:=s3.heap.push {cls:=.type "slice",data:=.fields #[.none,.none,vk]}}:=I3.kept (t':=s3.toks) fun b ob q=>ps0 _ q
 obtain⟨its,r,ht,hz⟩:=I4.list hx;show wpAny (model X.prog X.w) X.A (subscriptTail e _ (.ref a) (.ref s3.heap.objs.size)) (EP X pins σ Q) X.xe {s3 with heap:=s3.heap.push {cls:=.type "slice",data:=.fields #[.none,.none,vk]}};refine tail_any (ops:=[.ref a,.ref s3.heap.objs.size]) ht.isList.typeIs slot_list_getitem.lookup (wpAny_getItem_list_slice ht.isList (Heap.IsSliceOf.new ..) .none .none pk (by decide) ?_ (by rw[ls0,←r.length];exact hz)) (by with_unfolding_all rfl);rw[PySem.W.krv_pick];refine⟨.ref _,_,I4.laid (t':=s3.toks) (o:=.lst xs.reverse) (fun b ob q=>ps0 _ q) (nr0 _) ?_,rfl,q _ (I4.hok.fresh (nr0 _))⟩
 exact⟨by rw[List.length_reverse];exact hz,_,0,by simpa using r.reverse,pz0 _ rfl⟩
theorem sv {j}{ds:List D}(ha:Er X ρ a (.list ds)):En X ρ (.Subscript a (.Slice Option.none Option.none (some (.UnaryOp .USub (.Constant (.int 1) j p3) p4)) p2) pos) (.list ds.reverse):=
 by rintro pins s σ H Q I ⟨G0,H0,G,E,k⟩;exact DR ha pins s σ H Q I ⟨G0,H0,G,E,fun v G1 H1 e1 r1=>by
  obtain⟨p,vs,rfl,h1,r⟩:=r1.lst e1.gh;exact⟨p,vs,rfl,SqL.of h1,fun q hq=>k q G1 _ (e1.trans (.hid e1.gh hq)) (e1.gh.free hq) (e1.hh.free hq) (.inl ⟨_,_,rfl,ae,r.reverse⟩)⟩⟩
end
end L2.Z
namespace PySem
open PyProof.Rows
theorem dh {α β:Type}{f:α->β}:∀{l m:List β},l.Perm m->∀xs:List α,m=xs.map f->∃ys:List α,ys.Perm xs/\l=ys.map f:=by
 intro l m h
 induction h with
 |nil=>simp
 |cons a _ ih=>
  intro xs e;cases xs with
  |nil=>cases e
  |cons x r=>
   injection e with e1 e2
   obtain⟨ys,p,rfl⟩:=ih r e2;exact⟨_,p.cons x,by simp_all⟩
 |swap a b l=>
  intro xs e
  match xs,e with
  |[],e=>cases e
  |[_],e=>injection e with _ e;cases e
  |x::y::r,e=>
   injection e with e1 e
   exact⟨_,.swap ..,by simp_all⟩
 |trans _ _ ih1 ih2=>
  intro xs e;obtain⟨ys,p,e2⟩:=ih2 xs e;obtain⟨zs,p2,e3⟩:=ih1 ys e2;exact⟨zs,p2.trans p,e3⟩
theorem zM (t:SetTable)(es:Array (Int×Value))(h:Int)(x:Value):(layNew t es h x).2.1.led=t.led:=by
 unfold layNew;split
 ·simp only[SetTable.orStandIn];split<;>rfl
 ·rfl
set_option tactic.hygienic true in
theorem vI (t:SetTable)(es:Array (Int×Value))(n:Nat):(relayAll t es n).2.1.led=t.led/\(t.plain=false->(relayAll t es n).2.1.plain=false):=by
 unfold relayAll;split
 ·rename_i t' order e
  dsimp only;split
  ·obtain⟨ow,_,e⟩:=bx0 e
   cases e;exact⟨rfl,id⟩
  ·exact⟨rfl,fun a=>rfl⟩
 ·exact⟨rfl,fun a=>rfl⟩
abbrev byTx (w:World):Bool:=w.params.followText "set-order"
structure KD (prog:Program)(w:World)(κ:Type)[DecidableEq κ] where
 knd:KeyKind prog w κ
 vl:κ->Tok->Value
 pl:Bool
 is:∀k t,knd.is k (vl k t)=true
 sc:∀k t,(vl k t).scannable=true
 pk:∀k t,plainKind (vl k t)=pl
abbrev KD.e {prog:Program}{w:World}{κ:Type}[DecidableEq κ](kd:KD prog w κ)(p:κ×Tok):Int×Value:=(kd.knd.hash p.1,kd.vl p.1 p.2)
def sx (pl:Bool)(t:SetTable)(n:Nat):Prop:=t.plain=true->(n≠0->pl=true)/\(n≤2->t.mask=7/\t.dummies=#[]/\(n=2->∃a b,a<b/\t.place=#[a,b]))
def StrSet {prog:Program}{w:World}{κ:Type}[DecidableEq κ](kd:KD prog w κ)(h:Heap)(a:Addr)(xs:List (κ×Tok))(ep:Nat):Prop:=
 ∃o es t,h.get? a=some o/\o.ExactSet/\o.data=.set es ep t/\t.fits es.size=true/\es.toList=xs.map kd.e/\t.led=!byTx w/\sx kd.pl t xs.length
section
variable {prog:Program}{w:World}{A:Around}{E:Value->Shared->Prop}{s:Shared}{κ:Type}[DecidableEq κ][Inhabited κ]{kd:KD prog w κ}
theorem StrSet.keep {h h':Heap}{a:Addr}{xs:List (κ×Tok)}{ep:Nat}(x:StrSet kd h a xs ep)(k:∀o,h.get? a=some o->h'.get? a=some o):StrSet kd h' a xs ep:=
 let ⟨o,es,t,h1,r⟩:=x;⟨o,es,t,k o h1,r⟩
theorem StrSet.isA {a:Addr}{xs:List (κ×Tok)}{ep:Nat}(x:StrSet kd s.heap a xs ep):s.TypeIs (.ref a) "set":=
 let ⟨o,_,_,h1,h2,_⟩:=x;⟨o,h1,h2.1⟩
theorem sy (kd:KD prog w κ)(xs:List (κ×Tok)):ElemsOf kd.knd (xs.map kd.e):=fun e he=>by
 obtain⟨p,_,rfl⟩:=mm0 he;exact⟨⟨_,kd.is _ _,rfl⟩,kd.sc _ _⟩
theorem vJ (kd:KD prog w κ)(xs:List (κ×Tok))(x:κ):((xs.map kd.e).findIdx? fun e=>kd.knd.is x e.2).isSome=decide (x∈xs.map (·.1)):=by
 induction xs with
 |nil=>rfl
 |cons p r ih=>
  have e:=KeyKind.is_eq_decide (kd.is p.1 p.2) x
  grind
theorem fM (j sl:Nat):SetTable.below #[j] sl=if j<sl then 1 else 0:=by
 simp[SetTable.below,SetTable.below.go]
theorem has_none (j:Nat):SetTable.has #[] j=false:=by
 simp[SetTable.has]
set_option tactic.hygienic true
theorem qC {t:SetTable}{f:Nat->Int}{h:Int}(hd:t.dummies=#[]):∀(n:Nat) (p:SetTable.Probe) (j:Nat) (d:Option Nat),p.dummy=none->SetTable.probe.go t f h n p=some (.empty j d)->d=none/\t.slot j=.empty
 |0,p,j,d,_,q=>by cases q
 |n+1,p,j,d,hp,q=>by
  unfold SetTable.probe.go at q;have adv:(t.advance p).dummy=none:=by
   unfold SetTable.advance;split
   ·exact hp
   ·exact hp
  split at q
  ·rename_i e;cases q;exact⟨hp,e⟩
  ·rename_i e
   unfold SetTable.slot at e;rw[hd,has_none] at e;simp only at e;split at e
   ·cases e
   ·simp at e
  ·split at q
   ·cases q
   ·exact qC hd n _ j d adv q
theorem zN {t:SetTable}{h:Int}{j:Nat}{b:Bool}(hd:t.dummies=#[])(q:t.freeSlot h=some (j,b)):t.place[SetTable.below t.place j]?≠some j:=by
 unfold SetTable.freeSlot at q;split at q
 ·rename_i j' d e
  obtain⟨rfl,e2⟩:=qC hd _ _ _ _ rfl e;cases q;intro z;have z:t.place[SetTable.below t.place j']?=some j':=z;unfold SetTable.slot at e2;simp only at e2;rw[if_pos (by rw[z];simp)] at e2;cases e2
 ·cases q
theorem DS {pl:Bool}{t:SetTable}{es:Array (Int×Value)}{h:Int}{x:Value}(p:sx pl t es.size)(hf:t.fits es.size=true)(hx:pl=true):sx pl (layNew t es h x).2.1 (es.size+1):=by
 unfold layNew;split
 ·rename_i slot wd e
  simp only[SetTable.orStandIn];split
  ·intro tp
   obtain⟨_,p2⟩:=p tp;refine⟨fun d=>hx,fun hn=>?_⟩;obtain⟨m1,m2,m3⟩:=p2 (by omega);refine⟨m1,?_,fun h2=>?_⟩
   ·show (if SetTable.has t.dummies slot then _ else t.dummies)=#[]
    rw[m2,has_none];rfl
   ·have n1:t.place.size=1:=by simp only[SetTable.fits,be0,beq_iff_eq] at hf;omega
    obtain⟨j,hj⟩:∃j,t.place=#[j]:=by
     obtain⟨j,e⟩:=List.length_eq_one_iff.mp (show t.place.toList.length=1 by rw[al0];exact n1);exact⟨j,by rw[←Array.toArray_toList (xs:=t.place),e]⟩
    have ne:=zN m2 e;show ∃a b,a<b/\SetTable.insertAt t.place (SetTable.below t.place slot) slot=#[a,b];rw[hj,fM] at ne ⊢
    by_cases c:j<slot
    ·rw[if_pos c];exact⟨j,slot,c,rfl⟩
    ·rw[if_neg c] at ne ⊢
     have:j≠slot:=fun z=>ne (by rw[z];rfl)
     exact⟨slot,j,by omega,rfl⟩
  ·intro tp;cases tp
 ·intro tp;cases tp
theorem vK {pl:Bool}{t:SetTable}{n:Nat}(p:sx pl t n)(hf:t.fits n=true)(tp:t.plain=true)(hn:n≤2):t.tooFull=false:=by
 obtain⟨m1,m2,_⟩:=(p tp).2 hn;simp only[SetTable.fits,be0,beq_iff_eq] at hf;unfold SetTable.tooFull SetTable.fill;rw[m1,m2,hf.1]
 apply df0
 show ¬ (n+0)*5≥7*3;omega
theorem qD {a:Addr}{o:Obj}{es es':Array (Int×Value)}{ep:Nat}{t t':SetTable}{h:Heap}(ho:h.get? a=some o)(hd:o.data=.set es ep t):
  (h.update a (Obj.putSet es' t')).get? a=some {o with data:=.set es' (ep+1) t'}:=by
 have:=Heap.get?_update_self (Obj.putSet _ t') ho (by rw[putSet_of es' t' hd];rfl)
 rwa [putSet_of _ t' hd] at this
theorem add_str {a:Addr}{xs:List (κ×Tok)}{ep:Nat}{x:κ}{tk:Tok}{Q:Bool->Shared->Prop}(hS:StrSet kd s.heap a xs ep)(hr:xs.length+1<4096)
  (h:∀h' ys ep' b,Heap.SameBut a s.heap h'->StrSet kd h' a ys ep'->ys.Perm (if x∈xs.map (·.1) then xs else xs++[(x,tk)])->Q b {s with heap:=h',toks:=s.toks+1}):
  wpAny (model prog w) A (setAdd a (kd.vl x tk)) Q E s:=by
 obtain⟨o,es,t,ho,hex,hd,hf,he,hl,hp⟩:=hS;have hsz:es.size=xs.length:=by rw[←al0,he,lm0]
 have hb:es.size<scanBound:=by rw[hsz];unfold scanBound;exact Nat.le_of_lt ‹_›
 have hel:ElemsOf kd.knd es.toList:=by rw[he];exact sy kd xs
 have hk:kd.knd.is x (kd.vl x tk)=true:=kd.is x tk;have fnd:=vJ kd xs x;unfold setAdd;refine wpAny_holding (wpAny_bind (kd.knd.pyHash hk ?_));show wpAny (model prog w) A (setAddHashed a (kd.vl x tk) (kd.knd.hash x)) Q E {s with toks:=s.toks+1};unfold setAddHashed setAddHashedIn;refine wpAny_holding (wpAny_bind (wpAny_setState_of ho hd hf ?_));dsimp only;rw[byScan_of (knd:=kd.knd) (x:=kd.vl x tk) (kd.sc x tk) hb hel];simp only[if_true];unfold setAddByScan;refine wpAny_bind (wpAny_bind (wpAny_rule (wpAny_bind (wpAny_setScan_of (knd:=kd.knd) hk ho hd hf hel ?_))));rw[←he] at fnd;cases q:List.findIdx? (fun e=>kd.knd.is x e.2) es.toList with
 |some j=>
  rw[q] at fnd;dsimp only;refine wpAny_pure (wpAny_pure (h s.heap xs ep false (Heap.SameBut.refl a _) ⟨o,es,t,ho,hex,hd,hf,he,hl,hp⟩ ?_));rw[if_pos (od0 fnd.symm)]
 |none=>
  rw[q] at fnd;dsimp only;have nin:x∉xs.map (·.1):=of_decide_eq_false fnd.symm;rw[if_neg nin] at h;have gw:∀(b:Bool) (s₁:Shared) (Q':Unit->Shared->Prop),Q' () s₁->wpAny (model prog w) A (match b with|true=>rule "set.scan.the-table-gave-way"|false=>pure ()) Q' E s₁:=
   fun b s₁ Q' z=>by cases b<;>first|exact wpAny_pure z|exact wpAny_rule z
  have p1:=layNew_perm t es (kd.knd.hash x) (kd.vl x tk);have f1:=layNew_fits t es (kd.knd.hash x) (kd.vl x tk);have l1:=zM t es (kd.knd.hash x) (kd.vl x tk);have y1:=fun z=>DS (h:=kd.knd.hash x) (x:=kd.vl x tk) (by rw[hsz];exact hp) hf z
  generalize layNew t es (kd.knd.hash x) (kd.vl x tk)=L at p1 f1 l1 y1 ⊢;obtain⟨es1,t1,wd,gv⟩:=L;dsimp only at p1 f1 l1 y1 ⊢;have e0:(es.push (kd.knd.hash x,kd.vl x tk)).toList=(xs++[(x,tk)]).map kd.e:=by
   rw[Array.toList_push,he,List.map_append];rfl
  obtain⟨ys,py,ey⟩:=dh p1 _ e0;have hz1:es1.size=xs.length+1:=by rw[←al0,ey,lm0,py.length_eq,la0];rfl
  have hfit:es1.size≤sizeLine:=by rw[hz1,sizeLine_eq];omega
  refine wpAny_bind (gw _ _ _ ?_);have fin:∀t2:SetTable,t2.fits es1.size=true->t2.led=t.led->sx kd.pl t2 es1.size->wpAny (model prog w) A (do
    storeSet a es1 t2
    if (!wd&&t2.tooFull)=true then do
     (match (relayAll t2 es1 (SetTable.grown es1.size)).2.2 with|true=>rule "set.scan.the-table-gave-way"|false=>pure ())
     storeSet a (relayAll t2 es1 (SetTable.grown es1.size)).1 (relayAll t2 es1 (SetTable.grown es1.size)).2.1
     pure (some true)
    else pure (some true)) (fun r s'=>r=some true/\Q true s') E {s with toks:=s.toks+1}:=by
   intro t2 g1 g2 g3;refine wpAny_bind (wpAny_storeSet_of (prog:=prog) (w:=w) ho hd ?_ hfit);have ho1:=qD (es':=es1) (t':=t2) ho hd;have sb1:=Heap.SameBut.update s.heap a (Obj.putSet es1 t2);split
   ·rename_i full
    have p2:=relayAll_perm t2 es1 (SetTable.grown es1.size);have f2:=relayAll_fits t2 es1 (SetTable.grown es1.size);have k2:=vI t2 es1 (SetTable.grown es1.size);generalize relayAll t2 es1 (SetTable.grown es1.size)=L2 at p2 f2 k2 ⊢;obtain⟨es2,t3,gv2⟩:=L2;dsimp only at p2 f2 k2 ⊢;obtain⟨zs,pz,ez⟩:=dh p2 _ ey;refine wpAny_bind (gw _ _ _ (wpAny_bind (wpAny_storeSet_of (prog:=prog) (w:=w) ho1 rfl ?_ ?_)))
    ·refine wpAny_pure ⟨rfl,h _ zs _ true (sb1.trans (Heap.SameBut.update _ a _)) ⟨_,es2,t3,qD ho1 rfl,hex,rfl,f2,ez,k2.1.trans (g2.trans hl),fun tp=>?_⟩ (pz.trans py)⟩
     have tp2:t2.plain=true:=by
      cases c:t2.plain with
      |true=>rfl
      |false=>rw[k2.2 c] at tp;cases tp
     have ez2:zs.length=es1.size:=by rw[hz1,pz.length_eq,py.length_eq,la0];rfl
     rw[ez2];refine⟨(g3 tp2).1,fun hn=>?_⟩;rw[vK g3 g1 tp2 hn,Bool.and_false] at full;cases full
    ·rw[←al0,ez,lm0,pz.length_eq,py.length_eq,la0,sizeLine_eq];simp only[List.length_singleton];omega
   ·exact wpAny_pure ⟨rfl,h _ ys _ true sb1 ⟨_,es1,t2,ho1,hex,rfl,g1,ey,g2.trans hl,by rw[show ys.length=es1.size by rw[hz1,py.length_eq,la0];rfl];exact g3⟩ py⟩
  split
  ·refine wpAny_bind ?_
   rw[hashByValue_scannable 8 (x:=kd.vl x tk) (kd.sc x tk),kd.pk];refine wpAny_pure ?_;cases hpl:kd.pl with
   |false=>
    refine wpAny_mono (fin {t1 with plain:=false} (SetTable.fits_plain_off f1) l1 (fun z=>by cases z)) (fun r s' z=>?_) fun d d z=>z
    obtain⟨rfl,z⟩:=z;exact wpAny_pure z
   |true=>
    refine wpAny_mono (fin t1 f1 l1 (by rw[show es1.size=es.size+1 by simp_all];exact y1 hpl)) (fun r s' z=>?_) fun d d z=>z
    obtain⟨rfl,z⟩:=z;exact wpAny_pure z
  ·rename_i np
   refine wpAny_bind (wpAny_pure ?_);refine wpAny_mono (fin t1 f1 l1 (fun z=>absurd z np)) (fun r s' z=>?_) fun d d z=>z
   obtain⟨rfl,z⟩:=z;exact wpAny_pure z
set_option tactic.hygienic false
end
theorem eM (h:Heap):h.get? h.objs.size=none:=by
 cases q:h.get? _ with
 |none=>rfl
 |some o=>exact absurd (hs0 q) (li0 _)
abbrev cf (w:World):Obj:={cls:=.type "set",dict:=none,data:=.set #[] 0 (.fresh 0 0 (!byTx w))}
section
variable {prog:Program}{w:World}{A:Around}{E:Value->Shared->Prop}{s:Shared}{κ:Type}[DecidableEq κ][Inhabited κ]{kd:KD prog w κ}
theorem StrSet.cls {h:Heap}{a:Addr}{xs:List (κ×Tok)}{ep:Nat}(x:StrSet kd h a xs ep):∃o,h.get? a=some o/\o.cls=.type "set":=
 let ⟨o,_,_,h1,h2,_⟩:=x;⟨o,h1,h2.1⟩
omit [Inhabited κ] in
theorem sA {xs ys:List (κ×Tok)}{x:κ}{tk:Tok}(n:(xs.map (·.1)).Nodup)(p:ys.Perm (if x∈xs.map (·.1) then xs else xs++[(x,tk)])):
  (ys.map (·.1)).Nodup/\(∀y,y∈ys.map (·.1)↔y∈xs.map (·.1)\/y=x)/\ys.length≤xs.length+1:=by
 have pm:=p.map (·.1);have pl:=p.length_eq
 by_cases q:x∈xs.map (·.1)
 ·rw[if_pos q] at pm pl
  exact⟨pm.nodup_iff.mpr n,fun y=>pm.mem_iff.trans ⟨.inl,fun z=>z.elim id fun e=>e▸q⟩,by simp_all⟩
 ·rw[if_neg q] at pm pl
  rw[List.map_append] at pm;refine⟨pm.nodup_iff.mpr (List.nodup_append.mpr ⟨n,by simp,fun a ha b hb=>?_⟩),fun y=>pm.mem_iff.trans ?_,by rw[pl,la0];exact nr0 _⟩
  ·have:b=x:=by simpa using hb
   subst this;exact fun e=>q (e▸ha)
  ·rw[List.mem_append]
   exact or_congr Iff.rfl (by simp)
theorem vL {l it S:Addr}{items:Array Value}{ss:List κ}{R:Result->Shared->Prop}(hh:A.handled=none)(hz:items.size=ss.length)(hz2:items.size<4000)(hv:∀(j:Nat) (x:κ),ss[j]?=some x->∃tk,items[j]?=some (kd.vl x tk)):
  ∀(m i:Nat) (xs:List (κ×Tok)) (ep:Nat) (s:Shared),i+m=ss.length->xs.length≤i->(xs.map (·.1)).Nodup->s.heap.IsListIter it l i->s.heap.IsList l items->StrSet kd s.heap S xs ep->
   (∀h' tk ys ep',StrSet kd h' S ys ep'->(ys.map (·.1)).Nodup->(∀y,y∈ys.map (·.1)↔y∈xs.map (·.1)\/y∈ss.drop i)->ys.length≤ss.length->(∀b o,b≠it->b≠S->s.heap.get? b=some o->h'.get? b=some o)->R (.ok (.ret .none)) {s with heap:=h',toks:=tk})->
   codeAny (model prog w) A (.builtin "set.update.loop" ⟨[.ref S,.ref it],[]⟩) R s:=by
 intro m
 induction m with
 |zero=>
  intro i xs ep s hm hx nd hi hl hS h;obtain⟨oi,ei,ci,_⟩:=id hi;obtain⟨oS,eS,cS⟩:=hS.cls;have nSi:S≠it:=gR eS ei (by rw[cS,ci];decide);refine codeAny_builtin PyProof.Rows.F.entry_set_update_loop ?_;rw[Around.under_plainId PyProof.Rows.F.plain_set_update_loop];unfold Builtin.«set.update.loop»;dsimp only;refine wpAny_bind (wpAny_pyNext_list_end (show A.in1.handled=none from hh) hi hl (by rw[Array.getElem?_eq_none];simp_all) fun h' eb=>?_);refine wpAny_pure (h h' s.toks xs ep (hS.keep fun o e=>eb S o nSi e) nd (fun y=>?_) (by simp_all) fun b o n1 n2 e=>eb b o n1 e);rw[List.drop_eq_nil_of_le (by simp_all)]
  simp
 |succ m ih=>
  intro i xs ep s hm hx nd hi hl hS h;obtain⟨oi,ei,ci,_⟩:=id hi;obtain⟨oS,eS,cS⟩:=hS.cls;obtain⟨ol,el,cl,_⟩:=id hl;have nSi:S≠it:=gR eS ei (by rw[cS,ci];decide);have nli:l≠it:=gR el ei (by rw[cl,ci];decide);have nlS:l≠S:=gR el eS (by rw[cl,cS];decide);have hlt:i<ss.length:=by grind
  obtain⟨tk,hu⟩:=hv i _ (ge0 hlt);refine codeAny_builtin PyProof.Rows.F.entry_set_update_loop ?_;rw[Around.under_plainId PyProof.Rows.F.plain_set_update_loop];unfold Builtin.«set.update.loop»;dsimp only;refine wpAny_bind (wpAny_pyNext_list_item hi hl hu fun h1 hi' sb=>?_);have k1:∀{b:Addr},b≠it->∀o,s.heap.get? b=some o->h1.get? b=some o:=fun hb o e=>(sb.2 _ hb).trans e
  dsimp only;refine wpAny_bind (wpAny_holding (add_str (hS.keep (k1 nSi)) (by grind) fun h2 ys ep2 b sb2 hS2 py=>?_));have k2:∀{b:Addr},b≠S->∀o,h1.get? b=some o->h2.get? b=some o:=fun hb o e=>(sb2.2 _ hb).trans e
  obtain⟨n2,m2,z2⟩:=sA nd py;refine wpAny_pure ⟨plainId_quiet PyProof.Rows.F.plain_set_update_loop _,?_⟩;refine ih (i+1) ys ep2 {s with heap:=h2,toks:=s.toks+1} (by omega) (by omega) n2 (hi'.at (k2 nSi.symm)) ((hl.at (k1 nli)).at (k2 nlS)) hS2 fun h' tk' zs ep3 a1 a2 a3 a4 a5=>?_
  refine h h' tk' zs ep3 a1 a2 (fun y=>(a3 y).trans ?_) a4 fun b o n1 n2 e=>a5 b o n1 n2 (k2 n2 _ (k1 n1 _ e))
  rw[List.drop_eq_getElem_cons hlt,m2 y,List.mem_cons,or_assoc]
theorem vN (v:Value){Q₁:Value->Shared->Prop}(h:Q₁ (.ref s.heap.objs.size) {s with heap:=s.heap.push (cf w)}):
  codeAny (model prog w) A (.call (.builtin "set.__new__") ⟨[.type "set",v],[]⟩) (wants Q₁ E) s:=by
 refine codeAny_of_tree ?_;refine wpAny_bind (wpAny_of_eq (F.newCall_set_1 v) (wpAny_pure ⟨plainId_quiet F.plain_set_new _,codeAny_builtin F.entry_set_new ?_⟩));rw[Around.under_plainId F.plain_set_new _];unfold Builtin.«set.__new__» Builtin.Frozenset.newClass;have hs:=sub_set_self;obtain⟨hp,g,d,tk,os⟩:=s;dsimp only
 wp_walk
 refine wpAny_askSetting (wpAny_pure ?_);dsimp only;simp only[newObj];refine wpAny_bind (wpAny_alloc (wpAny_pure (wpAny_pure ?_)));exact h
theorem vO {l S:Addr}{items:Array Value}{ss:List κ}{R:Result->Shared->Prop}(hh:A.handled=none)(hS:s.heap.get? S=some (cf w))(hl:s.heap.IsList l items)(hz:items.size=ss.length)(hz2:items.size<4000)(hv:∀(j:Nat) (x:κ),ss[j]?=some x->∃tk,items[j]?=some (kd.vl x tk))
  (h:∀h' tk ys ep,StrSet kd h' S ys ep->(ys.map (·.1)).Nodup->(∀y,y∈ys.map (·.1)↔y∈ss)->ys.length≤ss.length->(∀b o,b≠S->s.heap.get? b=some o->h'.get? b=some o)->R (.ok (.ret .none)) {s with heap:=h',toks:=tk}):
  codeAny (model prog w) A (.call (.builtin "set.__init__") ⟨[.ref S,.ref l],[]⟩) R s:=by
 have hT:s.TypeIs (.ref S) "set":=⟨_,hS,rfl⟩;refine codeAny_call_builtin F.called_set.init.plain F.entry_set_init (check_set_init_1 hT ?_);obtain⟨ol,hol,hcl,nl,hdl⟩:=id hl;obtain⟨oc,od,odt,osl⟩:=ol;simp only at hcl hdl;subst hcl;subst hdl;have q1:=F.sub_list_set;have q2:=F.sub_list_frozenset;have q3:(Value.type "list"==Value.type "dict")=false:=by decide
 unfold Builtin.«set.__init__» noKeywords Builtin.Frozenset.updateFrom;generalize hPI:pyIter=PI
 wp_walk
 subst hPI;refine wpAny_pyIter_list hl (wpAny_bind (wpAny_runValue ?_));have lt1:l<s.heap.objs.size:=hs0 hol;have lt2:S<s.heap.objs.size:=hs0 hS;have hS':=ps0 {cls:=.type "list_iterator",data:=.fields #[.ref l,.int 0 0]} hS;have S0:StrSet kd (s.heap.push {cls:=.type "list_iterator",data:=.fields #[.ref l,.int 0 0]}) S [] 0:=⟨cf w,#[],.fresh 0 0 (!byTx w),hS',⟨rfl,rfl,rfl⟩,rfl,rfl,rfl,rfl,fun a=>⟨fun z=>absurd rfl z,fun a=>⟨rfl,rfl,fun z=>by cases z⟩⟩⟩;refine vL (kd:=kd) (prog:=prog) (w:=w) (items:=items) (ss:=ss) (by exact hh) hz hz2 hv ss.length 0 [] 0 {s with heap:=s.heap.push {cls:=.type "list_iterator",data:=.fields #[.ref l,.int 0 0]}} (by simp_all) (nr0 _) List.nodup_nil ⟨_,pz0 _ rfl,rfl,rfl⟩ (hl.push _) S0 fun h' tk ys ep a1 a2 a3 a4 a5=>?_
 refine wpAny_pure ?_;refine wpAny_pure (h h' tk ys ep a1 a2 (fun y=>(a3 y).trans (by simp)) a4 fun b o nb e=>a5 b o (nn0 (hs0 e)) nb (ps0 _ e))
set_option maxHeartbeats 3200000 in
theorem jd {l:Addr}{items:Array Value}{ss:List κ}{Q:Value->Shared->Prop}(hh:A.handled=none)(hl:s.heap.IsList l items)(hz:items.size=ss.length)(hz2:items.size<4000)(hv:∀(j:Nat) (x:κ),ss[j]?=some x->∃tk,items[j]?=some (kd.vl x tk))
  (h:∀h' tk S ys ep,s.heap.objs.size≤S->StrSet kd h' S ys ep->(ys.map (·.1)).Nodup->(∀y,y∈ys.map (·.1)↔y∈ss)->ys.length≤ss.length->(∀b o,s.heap.get? b=some o->h'.get? b=some o)->Q (.ref S) {s with heap:=h',toks:=tk}):
  wpAny (model prog w) A (call (.type "set") [.ref l]) Q E s:=by
 obtain⟨c,tl,hm⟩:=F.called_set.mro;have hmade:=F.called_set.made;have hsub:=F.called_set.sub;refine wpAny_call (codeAny_of_tree ?_);show wpAny _ _ (callAny (.type "set") ⟨[.ref l],[]⟩) _ _ _;refine wpAny_pure ⟨Code.quiet_builtin _ (by decide +kernel),codeAny_builtin F.entry_type_call ?_⟩;rw[Around.under_plain (weight_type_call_type "set" [.ref l] []) rfl];have h1:=F.called_set.notType;have h2:=F.called_set.canCreate;have h3:=F.typeCall_set_1 (.ref l)
 repeat (any_goals (first|assumption|wp_step))
 refine codeAny_mono (vN (w:=w) (.ref l) (E:=E) (Q₁:=fun v s₁=>v=.ref s.heap.objs.size/\s₁={s with heap:=s.heap.push (cf w)}) ⟨rfl,rfl⟩) fun r s₁ hr=>?_
 cases r with
 |error e=>exact hr
 |ok fl=>
  cases fl with
  |ret v=>
   obtain⟨rfl,rfl⟩:=hr;have g0:(s.heap.push (cf w)).get? s.heap.objs.size=some (cf w):=pz0 _ rfl;have hT:Shared.TypeIs {s with heap:=s.heap.push (cf w)} (.ref s.heap.objs.size) "set":=⟨_,g0,rfl⟩;have hli:=F.called_set.init.lookup;have hbi:=F.called_set.init.bind (.ref s.heap.objs.size)
   repeat (any_goals (first|assumption|wp_step))
   refine codeAny_mono (vO (s:={s with heap:=s.heap.push (cf w)}) (R:=wants (fun r s₂=>r=.none/\∃h' tk ys ep,s₂={s with heap:=h',toks:=tk}/\StrSet kd h' s.heap.objs.size ys ep/\(ys.map (·.1)).Nodup/\(∀y,y∈ys.map (·.1)↔y∈ss)/\ys.length≤ss.length/\(∀b o,s.heap.get? b=some o->h'.get? b=some o)) E) hh g0 (hl.push _) hz hz2 hv fun h' tk ys ep a1 a2 a3 a4 a5=>⟨rfl,h',tk,ys,ep,rfl,a1,a2,a3,a4,fun b o e=>a5 b o (nn0 (hs0 e)) (ps0 _ e)⟩) fun r₂ s₂ hr₂=>?_
   cases r₂ with
   |error e=>exact hr₂
   |ok f₂=>
    cases f₂ with
    |ret r=>
     obtain⟨rfl,h',tk,ys,ep,rfl,a1,a2,a3,a4,a5⟩:=hr₂
     repeat (any_goals (first|assumption|wp_step))
     exact h h' tk _ ys ep (nr0 _) a1 a2 a3 a4 a5
    |_=>exact hr₂.elim
  |_=>exact hr.elim
end
theorem slot_sit_next:Slot "set_iterator" "__next__" "set_iterator.__next__":=
 .of (owner:="set_iterator") (n:="__next__") (rfl) (by decide +kernel) (by decide +kernel) (by decide +kernel) (by first|exact .inl (by decide +kernel)|rfl) (rfl)
theorem dU:Slot "set_iterator" "__iter__" "set_iterator.__iter__":=
 .of (owner:="set_iterator") (n:="__iter__") (rfl) (by decide +kernel) (by decide +kernel) (by decide +kernel) (by first|exact .inl (by decide +kernel)|rfl) (rfl)
theorem bw:entryFor table "set_iterator.__next__"=some Builtin.«set_iterator.__next__»:=entryFor_of_fast (rfl)
theorem iw:entryFor table "set.__iter__"=some Builtin.«frozenset.__iter__»:=by refine entryFor_alias (id':="frozenset.__iter__") ?_ rfl ?_ ?_<;>first|kernel_rfl|rfl
theorem bD (a:Value):argsOk "set_iterator.__next__" ⟨[a],[]⟩:=by rfl
theorem qE {α:Type}{l:List α}{i:Nat}(h:i<l.length):(l[i]::l.eraseIdx i).Perm l:=by
 rw[List.eraseIdx_eq_take_drop_succ];refine (List.perm_middle.symm).trans (List.Perm.of_eq ?_);simp
theorem qF {α:Type}(f:Nat->Nat):∀(n k:Nat) (l:List α) (o:Array α),n=l.length->(pickOrder.go f n k l o).toList.Perm (o.toList++l)
 |0,k,l,o,e=>by
  have:l=[]:=List.eq_nil_of_length_eq_zero e.symm;subst this;show o.toList.Perm _;rw[List.append_nil]
 |n+1,k,l,o,e=>by
  have hl:0<l.length:=by grind
  have lt:=Nat.mod_lt (f k) hl;show ((match l[f k % l.length]? with|some x=>pickOrder.go f n (k+1) (l.eraseIdx (f k % l.length)) (o.push x)|none=>o):Array α).toList.Perm _;rw[ge0 lt];dsimp only;refine (qF f n (k+1) _ _ (by rw[List.length_eraseIdx_of_lt lt];grind)).trans ?_;rw[Array.toList_push,List.append_assoc];exact (List.Perm.refl _).append (qE lt)
theorem sC {α:Type}(f:Nat->Nat)(xs:Array α):(pickOrder f xs).toList.Perm xs.toList:=by
 have:=qF f xs.size 0 xs.toList #[] (rfl)
 simpa [pickOrder] using this
section
variable {prog:Program}{w:World}{A:Around}{E:Value->Shared->Prop}{s:Shared}
theorem vP {n:Nat}{Q:Nat->Shared->Prop}(hn:n≠0)(h:∀i d,i<n->Q i {s with drawn:=d}):wpAny (model prog w) A (choose .order n) Q E s:=fun Γ p a=>by
 exact⟨hn,h _ _ (Nat.mod_lt _ (Nat.pos_of_ne_zero hn))⟩
theorem sD {α:Type}(n:Nat):∀(xs:List α) (s:Shared) (Q:List α->Shared->Prop),n=xs.length->(∀ys d,ys.Perm xs->Q ys {s with drawn:=d})->wpAny (model prog w) A (drawOrder n xs) Q E s:=by
 induction n with
 |zero=>
  intro xs s Q e h;cases xs with
  |nil=>exact wpAny_pure (h [] s.drawn (.refl _))
  |cons x r=>cases e
 |succ n ih=>
  intro xs s Q e h;cases xs with
  |nil=>cases e
  |cons x r=>
   unfold drawOrder;refine wpAny_bind (vP (by simp) fun i d hi=>?_);rw[ge0 hi];dsimp only;refine wpAny_bind (ih _ _ _ (by rw[List.length_eraseIdx_of_lt hi];simp at e ⊢;omega) fun ys d' p=>wpAny_pure (h _ d' ?_));exact (p.cons _).trans (qE hi)
theorem asks {Q:Bool->Shared->Prop}(h:Q (byTx w) s):wpAny (model prog w) A setsByText Q E s:=by
 exact wpAny_bind (wpAny_askSetting (wpAny_pure h))
theorem sE {S:Addr}{o:Obj}{es:Array (Int×Value)}{t:SetTable}{ep sl i:Nat}{Q:Option (Value×Nat)->Shared->Prop}(ho:s.heap.get? S=some o)(hd:o.data=.set es ep t)(hf:t.fits es.size=true)(hb:byTx w=true)
  (h:Q (((pickOrder (w.params.setOrder S ep) es)[i]?).map fun e=>(e.2,sl)) s):wpAny (model prog w) A (setNext S sl i ep) Q E s:=by
 refine wpAny_bind (wpAny_setState_of ho hd hf (wpAny_bind (asks ?_)));rw[hb];simp only[bne_self_eq_false];refine wpAny_bind ?_;refine wpAny_bind (wpAny_setState_of ho hd hf (wpAny_bind (asks ?_)));rw[hb];exact wpAny_bind (wpAny_askSetting (wpAny_pure (wpAny_pure h)))
theorem lV {S:Addr}{o:Obj}{es:Array (Int×Value)}{t:SetTable}{ep sl i:Nat}{Q:Option (Value×Nat)->Shared->Prop}(ho:s.heap.get? S=some o)(hd:o.data=.set es ep t)(hf:t.fits es.size=true)(hb:byTx w=false)(hl:t.led=true)(h1:t.plain=false->es.size≤1)
  (h:Q (match es[SetTable.below t.place sl]?,t.place[SetTable.below t.place sl]? with|some (_,x),some j=>some (x,j+1)|_,_=>none) s):wpAny (model prog w) A (setNext S sl i ep) Q E s:=by
 unfold setNext;refine wpAny_bind (wpAny_setState_of ho hd hf (wpAny_bind (asks ?_)));dsimp only;rw[hb];simp only[Bool.false_eq_true,if_false];have e1:(!t.plain&&decide (es.size>1))=false:=by
  cases c:t.plain with
  |true=>rfl
  |false=>rw[df0 (by have:=h1 c;exact Nat.not_lt.2 ‹_›),Bool.and_false]
 have e2:(!t.led&&!es.isEmpty)=false:=by rw[hl];rfl
 show wpAny (model prog w) A (if (!t.plain&&decide (es.size>1))=true then _ else _) Q E s;rw[if_neg (by rw[e1];exact fx0)];show wpAny (model prog w) A ((if (!t.led&&!es.isEmpty)=true then _ else _) >>= _) Q E s;rw[if_neg (by rw[e2];exact fx0)];exact wpAny_bind (wpAny_pure (wpAny_pure h))
end
def SetIt (h:Heap)(I S:Addr)(f0:Value)(i n ep:Nat):Prop:=∃o,h.get? I=some o/\o.cls=.type "set_iterator"/\o.data=.fields #[f0,.int i 0,.ref S,.int n 0,.int ep 0]
theorem SetIt.is {s:Shared}{I S:Addr}{f0:Value}{i n ep:Nat}(x:SetIt s.heap I S f0 i n ep):s.TypeIs (.ref I) "set_iterator":=let ⟨o,a,b,_⟩:=x;⟨o,a,b⟩
theorem SetIt.keep {h h':Heap}{I S:Addr}{f0:Value}{i n ep:Nat}(x:SetIt h I S f0 i n ep)(k:∀o,h.get? I=some o->h'.get? I=some o):SetIt h' I S f0 i n ep:=let ⟨o,a,b⟩:=x;⟨o,k o a,b⟩
theorem SetIt.upd {h:Heap}{I S:Addr}{f0:Value}{i n ep:Nat}(x:SetIt h I S f0 i n ep)(k:Nat)(v:Value):
  ∃o,(h.update I (Obj.mapFields (·.setIfInBounds k v))).get? I=some o/\o.cls=.type "set_iterator"/\o.data=.fields ((#[f0,.int i 0,.ref S,.int n 0,.int ep 0]:Array Value).setIfInBounds k v):=by
 obtain⟨o,ho,hc,hd⟩:=x;exact⟨_,Heap.get?_update_self _ ho (Obj.isFreed_of_fields (Obj.data_mapFields hd _)),(Obj.cls_mapFields ..).trans hc,Obj.data_mapFields hd _⟩
section
variable {prog:Program}{w:World}{A:Around}{E:Value->Shared->Prop}{s:Shared}{κ:Type}[DecidableEq κ][Inhabited κ]{kd:KD prog w κ}{I S T:Addr}{xs:List (κ×Tok)}{sl i n ep:Nat}{x f0:Value}{nx:Nat}{Q:Option Value->Shared->Prop}
theorem eN {P:Fin->Shared->Prop}(hit:SetIt s.heap I S f0 i n ep)(hS:StrSet kd s.heap S xs ep)(hn:n=xs.length)
  (h:wpAny (model prog w) A (if let .int slot _:=f0 then do
    match ←setNext S slot.toNat (i:Int).toNat (ep:Int).toNat with
    |some (x,next)=>
     setField (.ref I) 0 (rawInt next)
     setField (.ref I) 1 (rawInt ((i:Int)+1))
     ret x
    |none=>setField (.ref I) 2 .none;raiseNew (←newExc (.type "StopIteration") [])
   else do
    let some places ←seqItems? f0|unsupported "internal:set_iterator"
    match places[(i:Int).toNat]? with
    |some (.int place _)=>
     let x ←setNextDrawn S place.toNat (ep:Int).toNat
     setField (.ref I) 1 (rawInt ((i:Int)+1))
     ret x
    |some _=>unsupported "internal:set_iterator"
    |none=>setField (.ref I) 0 (rawInt 0);setField (.ref I) 2 .none;raiseNew (←newExc (.type "StopIteration") [])) P E s):
  wpAny (model prog w) A (Builtin.«set_iterator.__next__» ⟨[.ref I],[]⟩) P E s:=by
 obtain⟨o,ho,hc,hd⟩:=hit;obtain⟨oS,es,t,eS,_,dS,fS,le,_⟩:=hS;have hz:es.size=n:=by rw[hn,←al0,le,lm0]
 refine wpAny_bind (wpAny_pure ?_);refine wpAny_bind (wpAny_fieldsOf ho hd ?_);unfold setEntries;refine wpAny_bind (wpAny_bind (wpAny_setState_of eS dS fS (wpAny_pure ?_)));dsimp only;rw[if_neg (by rw[hz];simp)];exact h
theorem lW (hit:SetIt s.heap I S (.int sl 0) i n ep)(hS:StrSet kd s.heap S xs ep)(hn:n=xs.length)(hx:∀(A:Around) (E:Value->Shared->Prop) (Q:Option (Value×Nat)->Shared->Prop),Q (some (x,nx)) s->wpAny (model prog w) A (setNext S sl i ep) Q E s)
  (hQ:∀h',SetIt h' I S (.int nx 0) (i+1) n ep->Heap.SameBut I s.heap h'->Q (some x) {s with heap:=h'}):wpAny (model prog w) A (pyNext (.ref I)) Q E s:=by
 refine wpAny_bind (wpAny_attempt (wpAny_callSpecial?_slot hit.is slot_sit_next (wpAny_call_entry slot_sit_next hit.is bw (eN hit hS hn ?_) (bD _))));refine wpAny_bind (hx _ _ _ ?_);obtain⟨o,ho,hc,hd⟩:=id hit;obtain⟨o1,e1,c1,d1⟩:=hit.upd 0 _;refine wpAny_bind (wpAny_setField ho hd (by simp) (wpAny_bind (wpAny_setField e1 d1 (by simp) (wpAny_pure ⟨x,rfl,wpAny_pure (hQ _ ⟨_,Heap.get?_update_self _ e1 (Obj.isFreed_of_fields (Obj.data_mapFields d1 _)),(Obj.cls_mapFields ..).trans c1,?_⟩ ((Heap.SameBut.update ..).trans (Heap.SameBut.update ..)))⟩))));rw[Obj.data_mapFields d1]
 rfl
theorem lX {P:Fin->Shared->Prop}{E':Value->Shared->Prop}{o:Obj}{vs:Array Value}(hh:A.handled=none)(ho:s.heap.get? I=some o)(hd:o.data=.fields vs)(hz:2<vs.size)(hE:∀e h',Shared.TypeIs {s with heap:=h'} e "StopIteration"->Heap.ExtBut I s.heap h'->E' e {s with heap:=h'}):
  wpAny (model prog w) A (do setField (.ref I) 2 .none;raiseNew (←newExc (.type "StopIteration") [])) P E' s:=by
 refine wpAny_bind (wpAny_setField ho hd hz (wpAny_bind ?_));simp only[newExc,newTuple];refine wpAny_bind (m:=firstArgMember _ _) (wpAny_of_eq (a:=Value.none) (by first|rfl|(simp only[firstArgMember];rfl)) (wpAny_newObj_type ?_ (by size_fits)));simp only[raiseNew];refine wpAny_bind (wpAny_handled ?_);rw[hh];refine wpAny_bind (wpAny_pure (wpAny_throw ?_));refine hE _ _ ?_ (((Heap.SameBut.update ..).extBut.push _).push _);exact⟨_,pz0 _ rfl,rfl⟩
theorem qG (hh:A.handled=none)(hit:SetIt s.heap I S (.int sl 0) i n ep)(hS:StrSet kd s.heap S xs ep)(hn:n=xs.length)(hx:∀(A:Around) (E:Value->Shared->Prop) (Q:Option (Value×Nat)->Shared->Prop),Q none s->wpAny (model prog w) A (setNext S sl i ep) Q E s)
  (hQ:∀h',Heap.ExtBut I s.heap h'->Q none {s with heap:=h'}):wpAny (model prog w) A (pyNext (.ref I)) Q E s:=by
 refine wpAny_bind (wpAny_attempt (wpAny_callSpecial?_slot hit.is slot_sit_next (wpAny_call_entry slot_sit_next hit.is bw (eN hit hS hn ?_) (bD _))));refine wpAny_bind (hx _ _ _ ?_);obtain⟨o,ho,hc,hd⟩:=id hit;exact lX (hh) ho hd (by simp) fun e h' ht eb=>wpAny_bind (wpAny_isInstance ht isSubtype_stop (wpAny_pure (hQ _ eb)))
theorem sF {ps:List Nat}{p:Nat}{oT:Obj}{m:Nat}{y:κ×Tok}(hit:SetIt s.heap I S (.ref T) i n ep)(hS:StrSet kd s.heap S xs ep)(hn:n=xs.length)(hT:s.heap.get? T=some oT)(dT:oT.data=.seq (ps.map fun (k:Nat)=>rawInt (k:Int)).toArray m)(hp:ps[i]?=some p)(hy:xs[p]?=some y)
  (hQ:∀h',SetIt h' I S (.ref T) (i+1) n ep->Heap.SameBut I s.heap h'->Q (some (kd.vl y.1 y.2)) {s with heap:=h'}):wpAny (model prog w) A (pyNext (.ref I)) Q E s:=by
 unfold pyNext;refine wpAny_bind (wpAny_attempt (wpAny_callSpecial?_slot (name:=Str.ofString "__next__") hit.is slot_sit_next (wpAny_call_entry slot_sit_next hit.is bw (eN hit hS hn ?_) (bD _))));dsimp only;simp only[Int.toNat_natCast];unfold seqItems?;refine wpAny_bind (wpAny_bind (wpAny_load hT ?_));rw[dT];refine wpAny_pure ?_;dsimp only;have e:(ps.map fun (k:Nat)=>rawInt (k:Int)).toArray[i]?=some (rawInt (p:Int)):=by simp[hp]
 rw[e];obtain⟨oS,es,t,eS,_,dS,fS,le,_⟩:=id hS;show wpAny _ _ (setNextDrawn S (p:Int).toNat ep >>= _) _ _ _;unfold setNextDrawn;refine wpAny_bind (wpAny_bind (wpAny_setState_of eS dS fS ?_));dsimp only;simp only[bne_self_eq_false,Bool.false_eq_true,if_false,Int.toNat_natCast];have ee:es[p]?=some (kd.e y):=by rw[←Array.getElem?_toList,le,gm0,hy];rfl
 rw[ee];refine wpAny_pure ?_;obtain⟨o,ho,hc,hd⟩:=id hit;obtain⟨o1,e1,c1,d1⟩:=hit.upd 1 (rawInt ((i:Int)+1));refine wpAny_bind (wpAny_setField ho hd (by simp) (wpAny_pure ⟨_,rfl,wpAny_pure (hQ _ ⟨o1,e1,c1,?_⟩ (Heap.SameBut.update ..))⟩));rw[d1];simp[rawInt]
theorem vQ {ps:List Nat}{oT:Obj}{m:Nat}(hh:A.handled=none)(hit:SetIt s.heap I S (.ref T) i n ep)(hS:StrSet kd s.heap S xs ep)(hn:n=xs.length)(hT:s.heap.get? T=some oT)(dT:oT.data=.seq (ps.map fun (k:Nat)=>rawInt (k:Int)).toArray m)(hp:ps[i]?=none)
  (hQ:∀h',Heap.ExtBut I s.heap h'->Q none {s with heap:=h'}):wpAny (model prog w) A (pyNext (.ref I)) Q E s:=by
 unfold pyNext;refine wpAny_bind (wpAny_attempt (wpAny_callSpecial?_slot (name:=Str.ofString "__next__") hit.is slot_sit_next (wpAny_call_entry slot_sit_next hit.is bw (eN hit hS hn ?_) (bD _))));dsimp only;simp only[Int.toNat_natCast];unfold seqItems?;refine wpAny_bind (wpAny_bind (wpAny_load hT ?_));rw[dT];refine wpAny_pure ?_;dsimp only;have e:(ps.map fun (k:Nat)=>rawInt (k:Int)).toArray[i]?=none:=by simpa using hp
 rw[e];obtain⟨o,ho,hc,hd⟩:=id hit;obtain⟨o1,e1,c1,d1⟩:=hit.upd 0 (rawInt 0);refine wpAny_bind (wpAny_setField ho hd (by simp) ?_);refine lX (show A.in1.handled=none from hh) e1 d1 (by simp) fun e h' ht eb=>?_
 exact wpAny_bind (wpAny_isInstance (T:="StopIteration") (b:=true) ht isSubtype_stop (wpAny_pure (hQ _ ((Heap.SameBut.update ..).extBut.trans eb))))
end
theorem jC (a b sl:Nat):SetTable.below #[a,b] sl=if b<sl then 2 else if a<sl then 1 else 0:=by
 by_cases c1:b<sl
 ·simp[SetTable.below,SetTable.below.go,c1]
 ·by_cases c2:a<sl<;>simp[SetTable.below,SetTable.below.go,c1,c2]
def Pl2 (p:Array Nat):Prop:=p=#[]\/(∃j,p=#[j])\/∃a b,a<b/\p=#[a,b]
theorem Pl2.zero {p:Array Nat}(h:Pl2 p):SetTable.below p 0=0:=by
 rcases h with rfl|⟨j,rfl⟩|⟨a,b,_,rfl⟩
 ·rfl
 ·rw[fM,if_neg (Nat.not_lt_zero _)]
 ·rw[jC,if_neg (Nat.not_lt_zero _),if_neg (Nat.not_lt_zero _)]
theorem Pl2.next {p:Array Nat}(h:Pl2 p){i j:Nat}(e:p[i]?=some j):SetTable.below p (j+1)=i+1:=by
 rcases h with rfl|⟨k,rfl⟩|⟨a,b,lt,rfl⟩
 ·simp at e
 ·rw[fM]
  rcases i with _|i
  ·simp at e;subst e;rw[if_pos (Nat.lt_succ_self _)]
  ·simp at e
 ·rw[jC]
  rcases i with _|_|i
  ·simp at e;subst e;rw[if_neg (by omega),if_pos (Nat.lt_succ_self _)]
  ·simp at e;subst e;rw[if_pos (Nat.lt_succ_self _)]
  ·simp at e
theorem ix:entryFor table "set_iterator.__iter__"=some Builtin.«dict_keyiterator.__iter__»:=by
 refine entryFor_alias (id':="dict_keyiterator.__iter__") ?_ rfl ?_ ?_<;>first|kernel_rfl|rfl
theorem je (a:Value):argsOk "set_iterator.__iter__" ⟨[a],[]⟩:=by rfl
theorem GE {es:Array (Int×Value)}{xs:List (Int×Value)}(h:es.toList=xs):es=xs.toArray:=by
 rw[←h]
theorem oG {α:Type}[Inhabited α](xs:List α):(List.range xs.length).map (fun k=>xs.getD k default)=xs:=by
 apply List.ext_getElem
 ·simp
 ·intro i h1 h2
  simp[h2]
section
variable {prog:Program}{w:World}{A:Around}{E:Value->Shared->Prop}{s:Shared}{κ:Type}[DecidableEq κ][Inhabited κ]{kd:KD prog w κ}{I S T:Addr}{xs:List (κ×Tok)}{n ep:Nat}
abbrev eqG:Array GenState->Array GenState->Prop:=fun a b=>b=a
abbrev zO {prog:Program}{w:World}{κ:Type}[DecidableEq κ](kd:KD prog w κ)(order:List (κ×Tok))(i:Nat)(v:Value):Prop:=∃p,order[i]?=some p/\v=kd.vl p.1 p.2
theorem iy {f0:Value}{i:Nat}(hit:SetIt s.heap I S f0 i n ep){Q:Value->Shared->Prop}(hQ:Q (.ref I) s):wpAny (model prog w) A (pyIter (.ref I)) Q E s:=by
 exact wpAny_pyIter_slot hit.is dU (wpAny_call_entry dU hit.is ix (wpAny_pure ⟨_,rfl,_,_,hit.is,slot_sit_next.lookup,hQ⟩) (je _))
theorem sG (hb:byTx w=true)(hIS:S≠I)(hh:A.handled=none):∃order:List (κ×Tok),order.Perm xs/\
  WalksS prog w A I [I,S] [I] eqG xs.length (zO kd order) (fun i s=>SetIt s.heap I S (.int 0 0) i xs.length ep/\StrSet kd s.heap S xs ep):=by
 obtain⟨order,po,eo⟩:=dh (sC (w.params.setOrder S ep) (xs.map kd.e).toArray) xs rfl;have nxt:∀(s:Shared) (i:Nat),StrSet kd s.heap S xs ep->∀(A:Around) (E:Value->Shared->Prop) (Q:Option (Value×Nat)->Shared->Prop),Q ((order[i]?).map fun p=>(kd.vl p.1 p.2,0)) s->wpAny (model prog w) A (setNext S 0 i ep) Q E s:=fun s i hS A E Q q=>by
  obtain⟨o,es,t,h1,_,h2,h3,h4,_⟩:=hS;refine sE h1 h2 h3 hb ?_;rw[GE h4,←Array.getElem?_toList,eo,gm0];cases z:order[i]?<;>simp_all
 refine⟨order,po,⟨fun b hb=>by simp at hb;simp[hb],fun a=>rfl,fun a a a h1 h2=>h2.trans h1,fun i s h' tk st a hk=>⟨st.1.keep fun o e=>hk I (by simp) o e,st.2.keep fun o e=>hk S (by simp) o e⟩,fun i s Q E hi st hQ=>?_,fun s Q E st hQ=>?_,fun i s Q E st hQ=>iy st.1 hQ⟩⟩
 ·have hi':i<order.length:=by rw[po.length_eq];exact hi
  have e:order[i]?=some order[i]:=ge0 hi';refine lW st.1 st.2 rfl (x:=kd.vl order[i].1 order[i].2) (nx:=0) (fun A E Q q=>nxt s i st.2 A E Q (by rw[e];exact q)) fun h' hit' sb=>?_
  exact hQ _ _ ⟨_,e,rfl⟩ ⟨hit',st.2.keep fun o e=>(sb.2 _ hIS).trans e⟩ ⟨fun b o hb e=>(sb.2 b (fun z=>hb (by simp[z]))).trans e,rfl,rfl,rfl,nr0 _⟩
 ·have e:order[xs.length]?=none:=List.getElem?_eq_none (by rw[po.length_eq];exact nr0 _)
  refine qG hh st.1 st.2 rfl (fun A E Q q=>nxt s _ st.2 A E Q (by rw[e];exact q)) fun h' eb=>?_
  exact hQ _ ⟨fun b o hb e=>eb b o (fun z=>hb (by simp[z])) e,rfl,rfl,rfl,nr0 _⟩
theorem lY {t:SetTable}{pl:Bool}(p:sx pl t n)(hf:t.fits n=true)(h2:pl=true->n≤2)(h1:t.plain=false->n≤1):Pl2 t.place:=by
 have hf:=hf;simp only[SetTable.fits,be0,beq_iff_eq] at hf
 by_cases c:n≤1
 ·have hs:t.place.size≤1:=by omega
  rcases Nat.eq_zero_or_pos t.place.size with z|z
  ·exact .inl (Array.eq_empty_of_size_eq_zero z)
  ·obtain⟨j,e⟩:=List.length_eq_one_iff.mp (show t.place.toList.length=1 by rw[al0];omega)
   exact .inr (.inl ⟨j,by rw[←Array.toArray_toList (xs:=t.place),e]⟩)
 ·have tp:t.plain=true:=by
   cases q:t.plain with
   |true=>rfl
   |false=>exact absurd (h1 q) c
  obtain⟨p1,p2⟩:=p tp;have n2:=h2 (p1 (by omega));exact .inr (.inr ((p2 n2).2.2 (by omega)))
theorem vR (hb:byTx w=false)(hz:kd.pl=true->xs.length≤2)(hIS:S≠I)(hh:A.handled=none):
  WalksS prog w A I [I,S] [I] eqG xs.length (zO kd xs) (fun i s=>∃sl,SetIt s.heap I S (.int (sl:Nat) 0) i xs.length ep/\StrSet kd s.heap S xs ep/\∀o es t,s.heap.get? S=some o->o.data=.set es ep t->(t.plain=false->xs.length≤1)/\SetTable.below t.place sl=i):=by
 refine⟨fun b hb=>by simp at hb;simp[hb],fun c=>rfl,fun c c c h1 h2=>h2.trans h1,fun i s h' tk st c hk=>?_,fun i s Q E hi st hQ=>?_,fun s Q E st hQ=>?_,fun i s Q E st hQ=>?_⟩
 ·obtain⟨sl,a,b,d⟩:=st
  obtain⟨o0,es0,t0,e0,r0⟩:=id b;refine⟨sl,a.keep fun o e=>hk I (by simp) o e,b.keep fun o e=>hk S (by simp) o e,fun o es t h1 h2=>d o es t ?_ h2⟩;have:=hk S (by simp) _ e0;have h1:h'.get? S=some o:=h1;rw[this] at h1;cases h1;exact e0
 ·obtain⟨sl,a,b,d⟩:=st
  obtain⟨o,es,t,h1,h1x,h2,h3,h4,h5,h6⟩:=id b;have hes:es.size=xs.length:=by rw[←al0,h4,lm0]
  obtain⟨d1,d2⟩:=d o es t h1 h2;have P2:=lY h6 (by rw[←hes];exact h3) hz d1;have hf:=h3;simp only[SetTable.fits,be0,beq_iff_eq] at hf;have hj:t.place[i]?=some t.place[i]:=Array.getElem?_eq_getElem (by omega);have hy:es[i]?=some (kd.e xs[i]):=by rw[←Array.getElem?_toList,h4,gm0,ge0 hi];rfl
  refine lW (nx:=t.place[i]+1) a b rfl (x:=kd.vl xs[i].1 xs[i].2) (fun A E Q q=>lV h1 h2 h3 hb (by rw[h5,hb];rfl) (by rw[hes];exact d1) ?_) fun h' hit' sb=>?_
  ·rw[d2,hj,hy]
   exact q
  ·refine hQ _ _ ⟨xs[i],ge0 hi,rfl⟩ ⟨t.place[i]+1,hit',b.keep fun o e=>(sb.2 _ hIS).trans e,fun o' es' t' z1 z2=>?_⟩ ⟨fun b o hb e=>(sb.2 b (fun z=>hb (by simp[z]))).trans e,rfl,rfl,rfl,nr0 _⟩
   have z1:h'.get? S=some o':=z1;rw[(sb.2 _ hIS).trans h1] at z1;cases z1;rw[h2] at z2;injection z2 with _ _ z2
   subst z2;exact⟨d1,P2.next hj⟩
 ·obtain⟨sl,a,b,d⟩:=st
  obtain⟨o,es,t,h1,h1x,h2,h3,h4,h5,h6⟩:=id b;have hes:es.size=xs.length:=by rw[←al0,h4,lm0]
  obtain⟨d1,d2⟩:=d o es t h1 h2;refine qG hh a b rfl (fun A E Q q=>lV h1 h2 h3 hb (by rw[h5,hb];rfl) (by rw[hes];exact d1) ?_) fun h' eb=>hQ _ ⟨fun b o hb e=>eb b o (fun z=>hb (by simp[z])) e,rfl,rfl,rfl,nr0 _⟩
  rw[d2,show es[xs.length]?=none from Array.getElem?_eq_none (by simp_all)];exact q
 ·obtain⟨sl,a,_⟩:=st
  exact iy a hQ
theorem oH {ps:List Nat}(hp:ps.Perm (List.range xs.length))(hIS:S≠I)(hIT:T≠I)(hh:A.handled=none):
  WalksS prog w A I [I,S,T] [I] eqG xs.length (zO kd (ps.map fun k=>xs.getD k default)) (fun i s=>SetIt s.heap I S (.ref T) i xs.length ep/\StrSet kd s.heap S xs ep/\∃o,s.heap.get? T=some o/\o.data=.seq (ps.map fun (k:Nat)=>rawInt (k:Int)).toArray):=by
 have hl:ps.length=xs.length:=by rw[hp.length_eq,lr0]
 refine⟨fun b hb=>by simp at hb;simp[hb],fun f=>rfl,fun f f f h1 h2=>h2.trans h1,fun i s h' tk st f hk=>?_,fun i s Q E hi st hQ=>?_,fun s Q E st hQ=>?_,fun i s Q E st hQ=>iy st.1 hQ⟩
 ·obtain⟨a,b,o,c,d⟩:=st
  exact⟨a.keep fun o e=>hk I (by simp) o e,b.keep fun o e=>hk S (by simp) o e,o,hk T (by simp) o c,d⟩
 ·obtain⟨a,b,o,c,d⟩:=st
  have hi':i<ps.length:=by simp_all
  have e:ps[i]?=some ps[i]:=ge0 hi';have hm:ps[i]<xs.length:=List.mem_range.mp (hp.mem_iff.mp (List.getElem_mem hi'));refine sF a b rfl c d e (ge0 hm) fun h' hit' sb=>?_
  exact hQ _ _ ⟨xs[ps[i]],by simp[e,List.getD,ge0 hm],rfl⟩ ⟨hit',b.keep fun o e=>(sb.2 _ hIS).trans e,o,(sb.2 _ hIT).trans c,d⟩ ⟨fun b o hb e=>(sb.2 b (fun z=>hb (by simp[z]))).trans e,rfl,rfl,rfl,nr0 _⟩
 ·obtain⟨a,b,o,c,d⟩:=st
  exact vQ hh a b rfl c d (List.getElem?_eq_none (by simp_all)) fun h' eb=>hQ _ ⟨fun b o hb e=>eb b o (fun z=>hb (by simp[z])) e,rfl,rfl,rfl,nr0 _⟩
end
section
variable {prog:Program}{w:World}{A:Around}{E:Value->Shared->Prop}{s:Shared}{S:Addr}{κ:Type}[DecidableEq κ][Inhabited κ]{kd:KD prog w κ}{xs:List (κ×Tok)}{ep:Nat}
structure GF {prog:Program}{w:World}{κ:Type}[DecidableEq κ](kd:KD prog w κ)(A:Around)(S:Addr)(xs:List (κ×Tok))(s s':Shared)(I:Addr):Prop where
 ex:∃(fp:List Addr) (order:List (κ×Tok)) (St:Nat->Shared->Prop),order.Perm xs/\WalksS prog w A I fp [I] eqG xs.length (zO kd order) St/\St 0 s'/\(∀b∈fp,b=S\/s.heap.get? b=none)/\s.heap.get? I=none
theorem vS {Q:Value->Shared->Prop}(hh:A.handled=none)(hS:StrSet kd s.heap S xs ep)(hz:xs.length<4000)(hz2:kd.pl=true->xs.length≤2)
  (h:∀h' d I,(∀b o,s.heap.get? b=some o->h'.get? b=some o)->GF kd A S xs s {s with heap:=h',drawn:=d} I->Q (.ref I) {s with heap:=h',drawn:=d}):
  wpAny (model prog w) A (pyIter (.ref S)) Q E s:=by
 obtain⟨o,es,t,h1,h1x,h2,h3,h4,h5,h6⟩:=id hS;have ltS:S<s.heap.objs.size:=hs0 h1;have hes:es.size=xs.length:=by rw[←al0,h4,lm0]
 refine wpAny_pyIter_slot hS.isA F.slot_set_iter (wpAny_call_entry F.slot_set_iter hS.isA iw ?_ (F.args_set_iter_1 _));unfold Builtin.«frozenset.__iter__» Builtin.Frozenset.slot0;refine wpAny_bind (wpAny_bind (m:=slotArgs "__iter__" 0 _) (wpAny_pure (wpAny_pure ?_)));unfold Builtin.Frozenset.sizeOf setEntries;refine wpAny_bind (wpAny_bind (wpAny_bind (wpAny_setState_of h1 h2 h3 (wpAny_pure (wpAny_pure ?_)))));unfold setDrawn;refine wpAny_bind (wpAny_bind (wpAny_setState_of h1 h2 h3 (wpAny_bind (asks (wpAny_pure ?_)))));show wpAny (model prog w) A.in1 (do
  let first ←if (!byTx w&&(!t.plain&&decide (es.size>1)))=true then do newTuple ((←drawOrder es.size (List.range es.size)).map fun (i:Nat)=>rawInt i) else pure (rawInt 0)
  ret (←newFields "set_iterator" [first,rawInt 0,.ref S,rawInt es.size,rawInt (←setEpoch S)])) _ _ s
 have fin:∀(f0:Value) (s1:Shared),s1.heap.get? S=some o->(∀Q':Value->Shared->Prop,Q' (.ref s1.heap.objs.size) {s1 with heap:=s1.heap.push {cls:=.type "set_iterator",data:=.fields #[f0,.int 0 0,.ref S,.int xs.length 0,.int ep 0]}}->
   wpAny (model prog w) A.in1 (do ret (←newFields "set_iterator" [f0,rawInt 0,.ref S,rawInt es.size,rawInt (←setEpoch S)])) (fun f s'=>∃v,f=.done (.ret v)/\Q' v s') E s1):=fun f0 s1 g Q' q=>by
  refine wpAny_bind (wpAny_setEpoch_of g h2 h3 ?_);unfold newFields;refine wpAny_bind (wpAny_newObj_type (wpAny_pure ⟨_,rfl,?_⟩));rw[hes];exact q
 cases hb:byTx w with
 |true=>
  rw[if_neg (by simp)];refine wpAny_bind (wpAny_pure (fin _ s h1 _ ?_));have hne:S≠s.heap.objs.size:=nn0 ltS;obtain⟨order,po,W⟩:=sG (kd:=kd) (prog:=prog) (A:=A) (I:=s.heap.objs.size) (S:=S) (xs:=xs) (ep:=ep) hb hne hh;refine⟨_,_,⟨_,pz0 _ rfl,rfl⟩,slot_sit_next.lookup,?_⟩;refine h _ s.drawn _ (fun b o e=>ps0 _ e) ⟨_,order,_,po,W,⟨⟨_,pz0 _ rfl,rfl,rfl⟩,hS.keep fun o e=>ps0 _ e⟩,fun b hb=>?_,eM _⟩;rcases mq0 hb with e|hb
  ·rw[e];exact .inr (eM _)
  ·exact .inl (by simpa using hb)
 |false=>
  by_cases n1:t.plain=true\/xs.length≤1
  ·rw[if_neg (by
    rcases n1 with z|z
    ·rw[z];simp
    ·rw[df0 (by simp_all)];simp)]
   refine wpAny_bind (wpAny_pure (fin _ s h1 _ ?_));have hne:S≠s.heap.objs.size:=nn0 ltS;have n1':t.plain=false->xs.length≤1:=fun z=>n1.resolve_left (by rw[z];exact fx0)
   have W:=vR (kd:=kd) (A:=A) (I:=s.heap.objs.size) (S:=S) (xs:=xs) (ep:=ep) hb hz2 hne hh;refine⟨_,_,⟨_,pz0 _ rfl,rfl⟩,slot_sit_next.lookup,?_⟩;refine h _ s.drawn _ (fun b o e=>ps0 _ e) ⟨_,xs,_,.refl _,W,⟨0,⟨_,pz0 _ rfl,rfl,rfl⟩,hS.keep fun o e=>ps0 _ e,fun o' es' t' z1 z2=>?_⟩,fun b hb=>?_,eM _⟩
   ·have z1:(s.heap.push _).get? S=some o':=z1
    rw[ps0 _ h1] at z1;cases z1;rw[h2] at z2;injection z2 with _ _ z2
    subst z2;exact⟨n1',(lY h6 (by rw[←hes];exact h3) hz2 n1').zero⟩
   rcases mq0 hb with e|hb
   ·rw[e];exact .inr (eM _)
   ·exact .inl (by simpa using hb)
  ·have np:t.plain=false:=Bool.eq_false_iff.mpr fun z=>n1 (.inl z)
   rw[if_pos (by rw[np,dt0 (by have:¬ xs.length≤1:=fun z=>n1 (.inr z);simp_all)];rfl)];refine wpAny_bind (sD _ _ _ _ List.length_range.symm fun ps d hp=>wpAny_bind ?_);rw[hes] at hp;have hl:ps.length=xs.length:=by rw[hp.length_eq,lr0]
   refine wpAny_newTuple ?_ (by rw[lm0,hl,sizeLine_eq];grind);refine fin _ {s with heap:=s.heap.push _,drawn:=d} (ps0 _ h1) _ ?_;have hne:S≠(s.heap.push {cls:=.type "tuple",data:=.seq (ps.map fun (k:Nat)=>rawInt (k:Int)).toArray}).objs.size:=by rw[Heap.size_push];exact nn0 (Nat.lt_succ_of_lt ltS)
   have hne2:s.heap.objs.size≠(s.heap.push {cls:=.type "tuple",data:=.seq (ps.map fun (k:Nat)=>rawInt (k:Int)).toArray}).objs.size:=by rw[Heap.size_push];simp_all
   have W:=oH (kd:=kd) (prog:=prog) (w:=w) (A:=A) (I:=(s.heap.push {cls:=.type "tuple",data:=.seq (ps.map fun (k:Nat)=>rawInt (k:Int)).toArray}).objs.size) (S:=S) (T:=s.heap.objs.size) (xs:=xs) (ep:=ep) hp hne hne2 hh;have kk:∀b o,s.heap.get? b=some o->((s.heap.push {cls:=.type "tuple",data:=.seq (ps.map fun (k:Nat)=>rawInt (k:Int)).toArray}).push {cls:=.type "set_iterator",data:=.fields #[.ref s.heap.objs.size,.int 0 0,.ref S,.int xs.length 0,.int ep 0]}).get? b=some o:=fun b o e=>ps0 _ (ps0 _ e)
   have no:∀b,s.heap.objs.size≤b->s.heap.get? b=none:=fun b hb=>by
    cases q:s.heap.get? b with
    |none=>rfl
    |some o=>exact absurd (hs0 q) (Nat.not_lt.mpr hb)
   refine⟨_,_,⟨_,pz0 _ rfl,rfl⟩,slot_sit_next.lookup,?_⟩;refine h _ d _ kk ⟨_,_,_,(hp.map _).trans (.of_eq (oG xs)),W,⟨⟨_,pz0 _ rfl,rfl,rfl⟩,hS.keep fun o e=>kk _ _ e,_,ps0 _ (pz0 _ rfl),rfl⟩,fun b hb=>?_,no _ (by rw[Heap.size_push];simp)⟩;rcases mq0 hb with e|hb
   ·rw[e];exact .inr (no _ (by rw[Heap.size_push];simp_all))
   ·rcases mq0 hb with e|hb
    ·exact .inl e
    ·have:b=s.heap.objs.size:=by simpa using hb
     rw[this];exact .inr (eM _)
theorem vT {Q:Bool->Shared->Prop}(hT:s.TypeIs (.ref S) "set")(h:Q false s):wpAny (model prog w) A (Builtin.List.listLengthHint (.ref S)) Q E s:=by
 unfold Builtin.List.listLengthHint;refine wpAny_bind (wpAny_specialOf hT F.slot_set_len.lookup ?_);generalize hid:("set.__len__":String)=id0
 wp_delta
 rw[show splitId id0=some ("set","__len__") from by subst hid;decide +kernel];subst hid;refine wpAny_bind (wpAny_isInstance (T:="set") (b:=true) hT (by rw[isSubtype_type];kernel_rfl) ?_);refine wpAny_ite_split (fun z=>absurd z (by decide)) fun a=>wpAny_ite_split (fun a=>wpAny_bind (wpAny_typeOf hT (wpAny_pure h))) fun z=>absurd (by decide +kernel) z
theorem oI {R:Result->Shared->Prop}{L:Addr}(hh:A.handled=none)(hS:StrSet kd s.heap S xs ep)(hz:xs.length<4000)(hz2:kd.pl=true->xs.length≤2)(res:Value)(hL:s.heap.get? L=some {cls:=.type "list",data:=.seq #[]})(hLS:L≠S)
  (h:∀h' tk d (order:List (κ×Tok)) (acc:Array Value) c,order.Perm xs->(∀b o,b≠L->s.heap.get? b=some o->h'.get? b=some o)->h'.get? L=some {cls:=.type "list",dict:=none,data:=.seq acc c,slots:=#[]}->acc.toList=order.map (fun p=>kd.vl p.1 p.2)->R (.ok (.ret res)) {s with heap:=h',toks:=tk,drawn:=d}):
  wpAny (model prog w) A.in1 (Builtin.List.listExtendWith (.ref L) (.ref S) res)
   (fun fin s'=>match fin with|.done f=>R (.ok f) s'|.again c'=>c'.quiet=true/\codeAny (model prog w) A c' R s') (fun e s'=>R (.error e) s') s:=by
 unfold Builtin.List.listExtendWith;refine wpAny_bind (wpAny_typeOf (T:="set") hS.isA ?_);have q1:Builtin.List.listSameRef (.ref L) (.ref S)=false:=by simp[Builtin.List.listSameRef,hLS]
 have q2:(Value.type "set"==Value.type "list")=false:=by decide
 have q3:(Value.type "set"==Value.type "tuple")=false:=by decide
 simp only[q1,q2,q3,Bool.or_false,Bool.false_eq_true,if_false];refine wpAny_bind (vS (A:=A.in1) hh hS hz hz2 fun h' d I kk W=>?_);obtain⟨fp,order,St,po,W,st,hfp,hI⟩:=W.ex;have nIL:I≠L:=fun e=>by rw[e,hL] at hI;cases hI
 have nf:L∉fp:=fun hb=>(hfp L hb).elim hLS fun z=>by rw[hL] at z;cases z
 refine wpAny_bind (wpAny_holding (vT (s:={s with heap:=h',drawn:=d}) (hS.keep fun o e=>kk _ _ e).isA ?_));have key:∀(h2:Heap) (tk c:Nat),St 0 {s with heap:=h2,drawn:=d,toks:=tk}->(∀b o,b≠L->s.heap.get? b=some o->h2.get? b=some o)->h2.get? L=some {cls:=.type "list",data:=.seq #[] c}->codeAny (model prog w) A (.builtin "list.extend.loop" ⟨[.ref L,.ref I,res],[]⟩) R {s with heap:=h2,drawn:=d,toks:=tk}:=fun h2 tk c st2 k2 l2=>by
  refine codeAny_extend_loopS W (by rw[sizeLine_eq];grind) L nf res xs.length 0 _ #[] c rfl (Nat.zero_le _) st2 l2 (ItemsOf.nil _) fun s' acc c' hm hL' hacc=>?_
  have es:s'={s with heap:=s'.heap,toks:=s'.toks,drawn:=d}:=by
   obtain⟨_,a1,a2,a3,_⟩:=hm;obtain⟨hp,g,dd,tk,os⟩:=s';simp only at a1 a2 a3;subst a1 a2 a3;rfl
  rw[es];refine h s'.heap s'.toks d order acc c' po (fun b o hb e=>hm.heap b o (fun z=>?_) (k2 b o hb e)) hL' ?_
  ·rcases mq0 z with z|z
   ·exact hb z
   ·have:b=I:=by simpa using z
    rw[this,hI] at e;cases e
  ·apply List.ext_getElem?
   intro i;rw[Array.getElem?_toList,gm0];cases q:acc[i]? with
   |none=>
    have hi:acc.size≤i:=by simpa using q
    rw[List.getElem?_eq_none (by rw[po.length_eq];rw[hacc.1] at hi;exact hi)];rfl
   |some v=>
    obtain⟨p,e1,rfl⟩:=hacc.2 i v q;rw[e1];rfl
 have oth:∀(f:Array Value->Array Value) (hh:Heap) (b:Addr) (o:Obj),b≠L->hh.get? b=some o->(hh.update L (Obj.mapSeq f)).get? b=some o:=fun f hh b o nb e=>(Heap.get?_update_other _ _ (Ne.symm nb)).trans e
 have hL1:=kk _ _ hL;refine wpAny_ite_split (fun a=>?_) (fun a=>wpAny_pure ⟨plainId_quiet F.plain_extend_loop _,key h' s.toks 0 st (fun b o a e=>kk b o e) hL1⟩);refine wpAny_bind (wpAny_rule (wpAny_bind ?_));show wpAny (model prog w) _ (updateSeq L (·.push .none) >>= fun a=>updateSeq L (·.pop)) _ _ _;refine wpAny_bind (wpAny_updateSeq hL1 rfl ?_);have hL2:=Heap.get?_update_self (Obj.mapSeq (·.push Value.none)) hL1 rfl;refine wpAny_updateSeq (hz:=by seq_fits) hL2 rfl ?_;have hL3:=Heap.get?_update_self (Obj.mapSeq (·.pop)) hL2 rfl;refine wpAny_pure ⟨plainId_quiet F.plain_extend_loop _,key _ s.toks _ (W.frame 0 _ _ _ st (nr0 _) fun b hb o e=>?_) (fun b o nb e=>oth _ _ _ _ nb (oth _ _ _ _ nb (kk b o e))) hL3⟩
 exact oth _ _ _ _ (fun z=>nf (z▸hb)) (oth _ _ _ _ (fun z=>nf (z▸hb)) e)
theorem lZ {R:List Value->Shared->Prop}(hh:A.handled=none)(hS:StrSet kd s.heap S xs ep)(hz:xs.length<4000)(hz2:kd.pl=true->xs.length≤2)
  (h:∀h' tk d (order:List (κ×Tok)),order.Perm xs->s.heap.objs.size≤h'.objs.size->(∀b o,s.heap.get? b=some o->h'.get? b=some o)->R (order.map fun p=>kd.vl p.1 p.2) {s with heap:=h',toks:=tk,drawn:=d}):
  wpAny (model prog w) A (collect (.ref S)) R E s:=by
 have ltS:S<s.heap.objs.size:=let ⟨_,_,_,e,_⟩:=hS;hs0 e
 unfold collect;refine wpAny_bind (wpAny_runValue (codeAny_builtin entry_proto_collect' ?_));rw[Around.under_plainId PySem.F.plain_proto_collect];show wpAny _ A.in1 (newList [] >>= fun l=>again (.builtin "list.__iadd__" ⟨[l,.ref S],[]⟩)) _ _ s;refine wpAny_bind (wpAny_newObj_type (wpAny_pure ⟨plainId_quiet PySem.F.plain_list_iadd _,codeAny_builtin entry_list_iadd' ?_⟩));rw[Around.under_plainId PySem.F.plain_list_iadd];have hL:(s.heap.push {cls:=.type "list",data:=.seq ([]:List Value).toArray}).get? s.heap.objs.size=some {cls:=.type "list",data:=.seq #[]}:=pz0 _ rfl;show wpAny _ A.in1 (Builtin.List.listExtendWith (.ref s.heap.objs.size) (.ref S) (.ref s.heap.objs.size)) _ _ _
 refine wpAny_mono (oI (kd:=kd) (A:=A) (s:={s with heap:=s.heap.push {cls:=.type "list",data:=.seq ([]:List Value).toArray}})
  (R:=fun q s'=>∃h' tk d,∃order:List (κ×Tok),∃(acc:Array Value) (c:Nat),q=.ok (.ret (.ref s.heap.objs.size))/\s'={s with heap:=h',toks:=tk,drawn:=d}/\order.Perm xs/\(∀b o,s.heap.get? b=some o->h'.get? b=some o)/\h'.get? s.heap.objs.size=some {cls:=.type "list",dict:=none,data:=.seq acc c,slots:=#[]}/\acc.toList=order.map (fun p=>kd.vl p.1 p.2))
  hh (hS.keep fun o e=>ps0 _ e) hz hz2 (.ref s.heap.objs.size) hL (Nat.ne_of_gt ltS) fun h' tk d order acc c a1 a2 a3 a4=>⟨h',tk,d,order,acc,c,rfl,rfl,a1,fun b o e=>a2 b o (nn0 (hs0 e)) (ps0 _ e),a3,a4⟩) (fun fin s' x=>?_) fun e s' x=>?_
 ·cases fin with
  |done f=>
   obtain⟨h',tk,d,order,acc,c,e,rfl,a1,a2,a3,a4⟩:=x;cases e;show wpAny (model prog w) A (load s.heap.objs.size >>= _) _ _ _;refine wpAny_bind (wpAny_load a3 (wpAny_pure ?_));rw[a4];exact h h' tk d order a1 (Nat.le_of_lt (hs0 a3)) a2
  |again c1=>
   refine⟨x.1,codeAny_mono x.2 fun q s2 y=>?_⟩;obtain⟨h',tk,d,order,acc,c,rfl,rfl,a1,a2,a3,a4⟩:=y;show wpAny (model prog w) A (load s.heap.objs.size >>= _) _ _ _;refine wpAny_bind (wpAny_load a3 (wpAny_pure ?_));rw[a4];exact h h' tk d order a1 (Nat.le_of_lt (hs0 a3)) a2
 ·obtain⟨_,_,_,_,_,_,z,_⟩:=x
  cases z
noncomputable def kdS (prog:Program)(w:World):KD prog w Str:=⟨strKind prog w,.str,false,fun k t=>by simp[strKind,Value.isStrOf],fun a a=>rfl,fun a a=>rfl⟩
noncomputable def kdI (prog:Program)(w:World):KD prog w Int:=⟨intKind prog w,.int,true,fun k t=>intKind_is _ _ _ _,fun a a=>rfl,fun a a=>rfl⟩
theorem eA (order:List (Str×Tok)):StrsAre (order.map fun p=>Value.str p.1 p.2) (order.map (·.1)):=by
 induction order with
 |nil=>exact .nil
 |cons p r ih=>exact .cons _ _ ih
theorem di (order:List (Int×Tok)):IntsAre (order.map fun p=>Value.int p.1 p.2) (order.map (·.1)):=by
 induction order with
 |nil=>exact .nil
 |cons p r ih=>exact .cons p.1 p.2 ih
theorem gm:∀{vs:List Value} {a b:List Int},IntsAre vs a->IntsAre vs b->a=b
 |_,_,_,.nil,.nil=>rfl
 |_,_,_,.cons _ _ h1,.cons _ _ h2=>by rw[gm h1 h2]
theorem iz {Q:Value->Shared->Prop}{P:List Value->Array Value->Prop}(hh:A.handled=none)(hS:StrSet kd s.heap S xs ep)(hz:xs.length<64)(hz2:kd.pl=true->xs.length≤2)
  (srt:∀(A':Around) (E':Value->Shared->Prop) (s':Shared) (a:Addr) (order:List (κ×Tok)) (Q':Fin->Shared->Prop),order.length<64->s'.heap.get? a=some (seqObj "list" (order.map fun p=>kd.vl p.1 p.2).toArray 0)->(∀out,P (order.map fun p=>kd.vl p.1 p.2) out->Q' (.done (.ret .none)) {s' with heap:=sortedHeap s'.heap a (order.map fun p=>kd.vl p.1 p.2) out})->wpAny (model prog w) A' (Builtin.«list.sort» ⟨[.ref a],[]⟩) Q' E' s')
  (h:∀h' tk d D (out:Array Value) n (order:List (κ×Tok)),(∀b o,s.heap.get? b=some o->h'.get? b=some o)->h'.get? D=some (seqObj "list" out n)->s.heap.objs.size≤D->order.Perm xs->P (order.map fun p=>kd.vl p.1 p.2) out->Q (.ref D) {s with heap:=h',toks:=tk,drawn:=d}):
  wpAny (model prog w) A (call (.builtin "sorted") [.ref S]) Q E s:=by
 refine Calls.call_function_entry kind_sorted plain_sorted entry_sorted (args_sorted1 _) ?_;unfold Builtin.«sorted»;refine wpAny_bind (m:=checkCount "sorted" 1 1 _) (wpAny_pure (wpAny_bind (lZ (A:=A.in1) hh hS (by omega) hz2 fun h1 tk d order po sz k1=>?_)));have hl:order.length=xs.length:=po.length_eq;refine wpAny_bind (wpAny_newList ?_ (by rw[lm0,hl,sizeLine_eq];omega));have gD:(h1.push {cls:=.type "list",data:=.seq (order.map fun p=>kd.vl p.1 p.2).toArray}).get? h1.objs.size=some (seqObj "list" (order.map fun p=>kd.vl p.1 p.2).toArray 0):=pz0 _ rfl;have kD:∀b o,s.heap.get? b=some o->b<h1.objs.size:=fun b o e=>hs0 (k1 b o e)
 refine wpAny_bind (wpAny_holding (wpAny_call_entry slot_list_sort ⟨_,gD,rfl⟩ entry_list_sort (srt _ _ _ _ order _ (by omega) gD fun out a1=>⟨_,rfl,?_⟩) (args_list_sort _)));refine wpAny_pure ⟨_,rfl,?_⟩;obtain⟨n,fin⟩:=sortedHeap_at (out:=out) gD;refine h _ tk d h1.objs.size _ n order (fun b o e=>?_) fin sz po a1;have lt:b<h1.objs.size:=kD b o e;exact (sortedHeap_old (nn0 lt) (by rw[size_push'];exact Nat.lt_succ_of_lt lt)).trans (ps0 _ (k1 b o e))
theorem gE {xs:List (Str×Tok)}{Q:Value->Shared->Prop}(hh:A.handled=none)(hS:StrSet (kdS prog w) s.heap S xs ep)(hz:xs.length<64)
  (h:∀h' tk d D (out:Array Value) n (ss:List Str),(∀b o,s.heap.get? b=some o->h'.get? b=some o)->h'.get? D=some (seqObj "list" out n)->s.heap.objs.size≤D->StrsAre out.toList ss->ss.Perm (xs.map (·.1))->sortedS ss=true->Q (.ref D) {s with heap:=h',toks:=tk,drawn:=d}):
  wpAny (model prog w) A (call (.builtin "sorted") [.ref S]) Q E s:=by
 refine iz (P:=fun vs out=>∀ss,StrsAre vs ss->∃ss',StrsAre out.toList ss'/\ss'.Perm ss/\sortedS ss'=true) hh hS hz (fun z=>by cases z) (fun A' E' s' a order Q' l gD k=>?_) fun h' tk d D out n order kk gD sz po a1=>?_
 ·exact list_sort_treeK strKind_oneLt gD (eA _).keysOf (fun v₁ v₂ rest e=>keyKind_strs (by rw[←e];exact eA _)) (by simp_all) fun st' a1 a2=>k _ fun ss hs=>sorted_out_str hs a1 a2
 ·obtain⟨ss,b1,b2,b3⟩:=a1 _ (eA _)
  exact h h' tk d D _ n ss kk gD sz b1 (b2.trans (po.map _)) b3
theorem fN {xs:List (Int×Tok)}{Q:Value->Shared->Prop}(hh:A.handled=none)(hS:StrSet (kdI prog w) s.heap S xs ep)(hz:xs.length≤2)
  (h:∀h' tk d D (out:Array Value) n (ns:List Int),(∀b o,s.heap.get? b=some o->h'.get? b=some o)->h'.get? D=some (seqObj "list" out n)->s.heap.objs.size≤D->IntsAre out.toList ns->ns.Perm (xs.map (·.1))->ns.Pairwise (·≤·)->Q (.ref D) {s with heap:=h',toks:=tk,drawn:=d}):
  wpAny (model prog w) A (call (.builtin "sorted") [.ref S]) Q E s:=by
 refine iz (P:=fun vs out=>∀ns,IntsAre vs ns->∃ns',IntsAre out.toList ns'/\ns'.Perm ns/\ns'.Pairwise (·≤·)) hh hS (by omega) (fun c=>hz) (fun A' E' s' a order Q' l gD k=>?_) fun h' tk d D out n order kk gD sz po a1=>?_
 ·refine list_sort_tree gD (di order) (by rw[lm0];exact l) fun out ns' a1 a2 a3=>k _ fun ns hs=>⟨ns',a1,?_,a3⟩
  rw[gm hs (di order)];exact a2
 ·obtain⟨ss,b1,b2,b3⟩:=a1 _ (di order)
  exact h h' tk d D out n ss kk gD sz b1 (b2.trans (po.map _)) b3
end
end PySem
namespace L2.Z
open PySem PySem.Spec PyProof.Rows L2 L2.C SI
section
variable {X:Cx}{ρ:List Sl}{a b c e:Expr}{es:List Expr}{p pos:Pos}{d d1 d2 d3:D}{ds:List D}
def aB (es:List Expr):Prop:=∀e∈es,isStar e=false
theorem aG {env:Env}:∀{es:List Expr},aB es->(backTo pos (starEach es env)).any (·.1)=false
 |[],_=>rfl
 |e::r,h=>by
  rw[af (h e ms0)];show (false||(backTo _ _).any _)=false;rw[aG fun x hx=>h x (mc0 _ hx)];rfl
theorem jD {env:Env}:∀{es:List Expr},aB es->(backTo pos (starEach es env)).all (fun x=>!x.1)=true
 |[],_=>rfl
 |e::r,h=>by
  rw[af (h e ms0)];show (true&&(backTo _ _).all _)=true;rw[jD fun x hx=>h x (mc0 _ hx)];rfl
abbrev fl3:List Bool:=[true,true,true]
abbrev CRr (K:Fg)(r:List V->Hp->VK->Prop)(fl:List Bool)(ds:List D)(d:D):Prop:=∀(vs:List V) (G H:Hp) (Q:VK),Same G H->Das K G H fl ds vs->(∀v G' H',Ext G H G' H'->Dp K G' d v->Q v H')->r vs H Q
abbrev CRn (K:Fg)(r:List V->Hp->VK->Prop)(fl:List Bool)(ds:List D)(d:D):Prop:=∀(vs:List V) (G H:Hp) (Q:VK),Same G H->Das K G H fl ds vs->(∀p G' H',Ext G H G' H'->G' p=Option.none->H p=Option.none->OwnAt K G' H' d p->Q (.ref p) H')->r vs H Q
structure Blt (X:Cx)(x:Str):Prop where
 g:Gl X x
 m:X.mg x=Option.none
 n:x≠"__name__"
 d:(x==("__debug__":Str))=false
theorem cy {id:String}{x:Str}{fl:List Bool}{r:List V->Hp->VK->Prop}(B:Blt X x)(hc:ba X (.builtin id) r)(hv:bootBuiltins x=some (.builtin id))(ha:Ea X ρ fl (e::es) ds)(hs:aB (e::es))(h:CRr X.K r fl ds d):Ev X ρ (.Call (.Name x p) (e::es) [] pos) d:=
 fun pins s σ H Q I ⟨G0,H0,G,E,k⟩=>bT hc B.g B.m hv ha B.n B.d (af (hs e ms0)) (aG fun y hy=>hs y (mc0 _ hy)) _ s σ H Q I
  ⟨G0,H0,G,E,fun vs G1 H1 e1 r1=>h vs G1 H1 Q e1.gh r1 fun v G' H' e2 r2=>k v G' H' (e1.trans e2) r2⟩
theorem iA {T:String}{x:Str}{fl:List Bool}{r:List V->Hp->VK->Prop}(B:Blt X x)(hc:ba X (.type T) r)(hv:bootBuiltins x=some (.type T))(ha:Ea X ρ fl (e::es) ds)(hs:aB (e::es))(h:CRr X.K r fl ds d):Ev X ρ (.Call (.Name x p) (e::es) [] pos) d:=
 fun pins s σ H Q I ⟨G0,H0,G,E,k⟩=>aX hc B.g B.m hv ha B.n B.d (af (hs e ms0)) (aG fun y hy=>hs y (mc0 _ hy)) _ s σ H Q I
  ⟨G0,H0,G,E,fun vs G1 H1 e1 r1=>h vs G1 H1 Q e1.gh r1 fun v G' H' e2 r2=>k v G' H' (e1.trans e2) r2⟩
theorem ma {T:String}{x:Str}{fl:List Bool}{r:List V->Hp->VK->Prop}(B:Blt X x)(hc:ba X (.type T) r)(hv:bootBuiltins x=some (.type T))(ha:Ea X ρ fl (e::es) ds)(hs:aB (e::es))(h:CRn X.K r fl ds d):En X ρ (.Call (.Name x p) (e::es) [] pos) d:=
 fun pins s σ H Q I ⟨G0,H0,G,E,k⟩=>aX hc B.g B.m hv ha B.n B.d (af (hs e ms0)) (aG fun y hy=>hs y (mc0 _ hy)) pins s σ H Q I
  ⟨G0,H0,G,E,fun vs G1 H1 e1 r1=>h vs G1 H1 Q e1.gh r1 fun p G' H' e2 g2 h2 r2=>k p G' H' (e1.trans e2) g2 (e1.hh.free h2) r2⟩
theorem Das.one {K:Fg}{G H:Hp}{fl:List Bool}{vs:List V}(h:Das K G H fl [d] vs):∃v,vs=[v]/\Dr K G H d v:=by
 cases h with|cons _ h r=>cases r;exact⟨_,rfl,h⟩
theorem Das.two {K:Fg}{G H:Hp}{fl:List Bool}{vs:List V}(h:Das K G H fl [d1,d2] vs):∃v w,vs=[v,w]/\Dr K G H d1 v/\Dr K G H d2 w:=by
 cases h with|cons _ h r=>cases r with|cons _ h2 r=>cases r;exact⟨_,_,rfl,h,h2⟩
theorem sH:bootBuiltins ("all":Str)=some (.builtin "all"):=rfl
theorem md:bootBuiltins ("tuple":Str)=some (.type "tuple"):=rfl
theorem sI:bootBuiltins ("min":Str)=some (.builtin "min"):=by decide +kernel
set_option tactic.hygienic true in
theorem mf {x:Str}{f:Bf}(hcalm:X.calm=true)(B:Blt X x)(hf:ip x=some f)(h:biD f ds=some d)(ha:Ea X ρ fl3 (e::es) ds)(hs:aB (e::es)):
  Ev X ρ (.Call (.Name x p) (e::es) [] pos) d/\(fresh (.bi f .nil)=true->bF d=true->En X ρ (.Call (.Name x p) (e::es) [] pos) d):=by
 have old:fresh (.bi f .nil)=false->Ev X ρ (.Call (.Name x p) (e::es) [] pos) d->Ev X ρ (.Call (.Name x p) (e::es) [] pos) d/\(fresh (.bi f .nil)=true->bF d=true->En X ρ (.Call (.Name x p) (e::es) [] pos) d):=
  fun z q=>⟨q,fun c=>by rw[z] at c;cases c⟩
 have new:En X ρ (.Call (.Name x p) (e::es) [] pos) d->Ev X ρ (.Call (.Name x p) (e::es) [] pos) d/\(fresh (.bi f .nil)=true->bF d=true->En X ρ (.Call (.Name x p) (e::es) [] pos) d):=fun q=>⟨q.ev,fun a a=>q⟩
 unfold ip at hf;split at hf
 ·rename_i c
  subst c;cases hf;refine old rfl ?_
  match ds,h with
  |[.list ls],h=>
   cases h;refine cy B eF PySem.boot_len ha hs fun vs G H Q s r k=>?_
   obtain⟨v,rfl,hv⟩:=r.one;obtain⟨q,ws,rfl,h1,r1⟩:=hv.lst s;exact⟨_,ws.length,rfl,.inl ⟨ws,SqL.of h1,rfl⟩,by rw[←r1.length];exact k _ G H (.refl s) (.int _)⟩
  |[.tuple ls],h=>
   cases h;refine cy B eF PySem.boot_len ha hs fun vs G H Q s r k=>?_
   obtain⟨v,rfl,hv⟩:=r.one;obtain⟨q,ws,rfl,h1,r1⟩:=hv.tup s;exact⟨_,ws.length,rfl,.inr ⟨ws,SqT.of h1,rfl⟩,by rw[←r1.length];exact k _ G H (.refl s) (.int _)⟩
  |[.scr ns],h=>
   cases h;refine cy B eF PySem.boot_len ha hs fun vs G H Q s r k=>?_
   obtain⟨v,rfl,hv⟩:=r.one;obtain⟨q,rfl,h1⟩:=hv.scr s;exact⟨_,(ns.map V.int).length,rfl,.inl ⟨_,h1,rfl⟩,by rw[lm0];exact k _ G H (.refl s) (.int _)⟩
  |[.str y],h=>
   rw[SI.len_str] at h;split at h
   ·rename_i c
    cases h;rw[big_eq] at c;refine cy B eF PySem.boot_len ha hs fun vs G H Q s r k=>?_
    obtain⟨v,rfl,hv⟩:=r.one;exact⟨_,y.length,rfl,by rw[hv.str.1];exact⟨c,rfl⟩,k _ G H (.refl s) (.int _)⟩
   ·cases h
 split at hf
 ·rename_i c
  subst c;cases hf;refine old rfl ?_
  match ds,h with
  |[.int i,.int j],h=>
   cases h;refine cy B (rO hcalm) sI ha hs fun vs G H Q s r k=>?_
   obtain⟨v,w,rfl,hv,hw⟩:=r.two;exact⟨i,j,by rw[hv.int,hw.int],k _ G H (.refl s) (.int _)⟩
 split at hf
 ·rename_i c
  subst c;cases hf;refine old rfl ?_
  match ds,h with
  |[.int i],h=>
   cases h;refine iA B jl PyProof.Rows.boot_int ha hs fun vs G H Q s r k=>?_
   obtain⟨v,rfl,hv⟩:=r.one;exact .inl ⟨i,by rw[hv.int],k _ G H (.refl s) (.int _)⟩
  |[.bool t],h=>
   cases h;refine iA B jl PyProof.Rows.boot_int ha hs fun vs G H Q s r k=>?_
   obtain⟨v,rfl,hv⟩:=r.one;exact .inr ⟨t,by rw[hv.bool],k _ G H (.refl s) (.int _)⟩
 split at hf
 ·rename_i c
  subst c;cases hf;refine new ?_
  match ds,h with
  |[.list ls],h=>
   cases h;refine ma B bI PyProof.Rows.boot_list ha hs fun vs G H Q s r k=>?_
   obtain⟨v,rfl,hv⟩:=r.one;obtain⟨q,ws,rfl,h1,r1⟩:=hv.lst s;exact⟨q,ws,rfl,.inl (SqL.of h1),fun l hl=>k l G _ (.hid s hl) (s.free hl) hl (.inl ⟨_,_,rfl,ae,r1⟩)⟩
  |[.tuple ls],h=>
   cases h;refine ma B bI PyProof.Rows.boot_list ha hs fun vs G H Q s r k=>?_
   obtain⟨v,rfl,hv⟩:=r.one;obtain⟨q,ws,rfl,h1,r1⟩:=hv.tup s;exact⟨q,ws,rfl,.inr (SqT.of h1),fun l hl=>k l G _ (.hid s hl) (s.free hl) hl (.inl ⟨_,_,rfl,ae,r1⟩)⟩
 split at hf
 ·rename_i c
  subst c;cases hf;refine old rfl ?_
  match ds,h with
  |[.list ls],h=>
   rw[tuple_list] at h;split at h
   ·rename_i c
    cases h;rw[big_eq] at c;refine iA B dQ md ha hs fun vs G H Q s r k=>?_
    obtain⟨v,rfl,hv⟩:=r.one;obtain⟨q,ws,rfl,h1,r1⟩:=hv.lst s;exact⟨q,ws,rfl,SqL.of h1,by rw[←r1.length];exact c,fun l hl=>k _ _ _ (.laid s hl) (.tuple ae (r1.mono (aP (s.free hl))))⟩
   ·cases h
 split at hf
 ·rename_i c
  subst c;cases hf;refine old rfl ?_
  match ds,h with
  |[.list ls],h=>
   obtain⟨bs,e1,rfl⟩:=mx0 (show (boolsOf ls).map _=some d from h);refine cy B (vH hcalm) sH ha hs fun vs G H Q s r k=>?_
   obtain⟨v,rfl,hv⟩:=r.one;obtain⟨q,ws,rfl,h1,r1⟩:=hv.lst s;exact⟨q,bs,rfl,by rw[←dg e1 r1];exact SqL.of h1,k _ G H (.refl s) (.bool _)⟩
 ·cases hf
end
section
variable {X:Cx}
theorem kL:∀{bs:List Bool} {us:List Value},Vals (bs.map V.bl) us->us=bs.map Value.bool
 |[],_,.nil=>rfl
 |_::_,_,.cons r t=>by cases r;rw[kL t];rfl
theorem kM:∀bs:List Bool,(bs.map V.bl).all jr=true
 |[]=>rfl
 |_::r=>kM r
theorem vU (b c:Bool):eqU (.bl b) (.bool c)=(c==b):=rfl
theorem DT (b:Bool)(bs:List Bool):(bs.map Value.bool).countP (eqU (.bl b))=bs.count b:=by
 rw[List.countP_map];rfl
def zP (K:Fg):V->List V->Hp->VK->Prop:=fun x xs H Q=>∃(p:Addr) (bs:List Bool) (b:Bool),x=.ref p/\xs=[.bl b]/\SqL K H p (bs.map .bl)/\Q (.int (bs.count b:Nat)) H
theorem sJ:MtR X "list.count" (zP X.K):=by
 intro pins s σ H x xs v us Q I rx rs h;obtain⟨p,bs,b,rfl,rfl,hl,q⟩:=h;cases rx;obtain⟨u,rfl,ru⟩:=Vals.one rs;cases ru;obtain⟨its,r,pl,hz⟩:=I.list hl;obtain⟨⟨cls,dd,data,sl⟩,ho,hc,n,hd⟩:=id pl.isList;simp only at hc hd;subst hc hd;refine call_meets PySem.F.slot_list_count ⟨_,ho,rfl⟩ PySem.F.entry_list_count (PySem.F.args_list_count_2 _ _) (SeqAt.list_countAt p _ n dd sl _ _) ⟨ho,fun y hy=>ig (x:=.bl b) rfl rfl r (kM bs) y (by simp_all),?_⟩;rw[show its.toArray.toList.countP _=bs.count b by rw[kL r,DT]];exact⟨.int _,H,I.tok _,⟨_,rfl⟩,q⟩
def zQ (K:Fg):V->List V->Hp->VK->Prop:=fun x xs H Q=>∃(p:Addr) (bs:List Bool) (b:Bool) (j:Nat),x=.ref p/\xs=[.bl b]/\SqL K H p (bs.map .bl)/\bs.idxOf? b=some j/\Q (.int (j:Nat)) H
theorem sL:MtR X "list.index" (zQ X.K):=by
 intro pins s σ H x xs v us Q I rx rs h;obtain⟨p,bs,b,j,rfl,rfl,hl,hj,q⟩:=h;cases rx;obtain⟨u,rfl,ru⟩:=Vals.one rs;cases ru;obtain⟨its,r,pl,hz⟩:=I.list hl;obtain⟨⟨cls,dd,data,sl⟩,ho,hc,n,hd⟩:=id pl.isList;simp only at hc hd;subst hc hd;have e:=kL r;subst e;obtain⟨h1,h2,h3⟩:=List.findIdx?_eq_some_iff_getElem.mp (hj);refine call_meets PySem.F.slot_list_index ⟨_,ho,rfl⟩ PySem.F.entry_list_index (PySem.F.args_list_index_2 _ _) (SeqAt.list_indexAt p _ n dd sl (.bool b) _ j (by simpa using h1) ?_ ?_ fun m hm hlt=>?_) ⟨ho,fun y hy=>ig (x:=.bl b) rfl rfl r (kM bs) y (by simpa using hy),?_⟩
 ·have:bs.length≤sizeLine:=by simp_all
  have h4:sizeLine<2 ^ 62:=by decide
  omega
 ·rw[List.getElem_toArray,List.getElem_map,vU];exact h2
 ·rw[List.getElem_toArray,List.getElem_map,vU]
  simp_all
 ·exact⟨.int _,H,I.tok _,⟨_,rfl⟩,q⟩
end
end L2.Z
namespace PySem
open PySem.AutoSeq1 (wpAny_loadPart')
section
variable {prog:Program}{w:World}{A:Around}{E:Value->Shared->Prop}{s:Shared}
theorem mh {a:Addr}{Q:Option Obj->Shared->Prop}(h:Q (s.heap.get? a) s):wpAny (model prog w) A (loadIfAlive a) Q E s:=fun Γ p b=>by
 unfold loadIfAlive
 simp_all
abbrev cu (h:Heap)(z TI TO:Addr)(f0 f1:Value):Prop:=
 h.get? z=some {cls:=.type "zip",dict:=none,data:=.fields #[f0,f1,.bool false,.ref TI,.ref TO],slots:=#[]}
theorem mi {z TI TO T0:Addr}{b:Bool}{Q:Bool->Shared->Prop}(hz:cu s.heap z TI TO (rawInt T0) (.bool b))(hT:∃o,s.heap.get? T0=some o)
  (hQ:∀h',cu h' z TI TO (rawInt T0) (.bool true)->Heap.SameBut z s.heap h'->Q false {s with heap:=h'}):
  wpAny (model prog w) A (Builtin.SmallTypes.ownedTupleIsFree (.ref z)) Q E s:=by
 obtain⟨o,ho⟩:=hT;refine wpAny_bind (wpAny_field hz rfl (x:=rawInt T0) rfl ?_);refine wpAny_bind (mh ?_);rw[Int.toNat_natCast,ho];refine wpAny_bind (wpAny_field hz rfl (x:=.bool b) rfl ?_);cases b with
 |true=>exact wpAny_pure (hQ _ hz (.refl _ _))
 |false=>
  exact wpAny_bind (wpAny_setField_rec hz (by simp) fun h' hz' hs'=>wpAny_pure (hQ h' hz' hs'))
theorem sN {z TI TO T0 i1 i2 l1 l2:Addr}{b:Bool}{k1 k2:Nat}{xs ys:Array Value}{x y:Value}{Q:Value->Shared->Prop}(D:ZipApart z TI TO i1 i2 l1 l2)
  (hz:cu s.heap z TI TO (rawInt T0) (.bool b)) (hT:∃o,s.heap.get? T0=some o) (hTI:IsPair s.heap TI (.ref i1) (.ref i2))
  (h1:s.heap.IsListIter i1 l1 k1) (h2:s.heap.IsListIter i2 l2 k2) (hl1:s.heap.IsList l1 xs) (hl2:s.heap.IsList l2 ys) (hx:xs[k1]?=some x) (hy:ys[k2]?=some y)
  (hQ:∀h',cu h' z TI TO (rawInt T0) (.bool true)->h'.IsListIter i1 l1 (k1+1)->h'.IsListIter i2 l2 (k2+1)->IsPair h' s.heap.objs.size x y->h'.objs.size=s.heap.objs.size+1->
   (∀c o,c≠z->c≠i1->c≠i2->s.heap.get? c=some o->h'.get? c=some o)->Q (.ref s.heap.objs.size) {s with heap:=h'}):
  wpAny (model prog w) A (Builtin.«zip.__next__» ⟨[.ref z],[]⟩) (fun fin s'=>∃v,fin=.done (.ret v)/\Q v s') E s:=by
 show wpAny _ _ (field (.ref z) 2 >>= _) _ _ _;refine wpAny_bind (wpAny_field hz rfl (x:=.bool false) rfl ?_);show wpAny _ _ (field (.ref z) 3 >>= _) _ _ _;refine wpAny_bind (wpAny_field hz rfl (x:=.ref TI) rfl ?_);refine wpAny_bind (wpAny_seqItems hTI rfl ?_);show wpAny _ _ (Builtin.SmallTypes.ownedTupleIsFree (.ref z) >>= _) _ _ _;refine wpAny_bind (mi hz hT fun h₁ hz₁ hs₁=>?_);simp only[Bool.false_eq_true,if_false];refine wpAny_bind ?_;simp only[List.forIn_toArray,List.forIn_cons,List.forIn_nil];refine wpAny_bind (wpAny_bind (wpAny_holding ?_));show wpAny _ _ (Builtin.SmallTypes.nextOf (.ref i1) >>= _) _ _ _
 refine wpAny_bind (wpAny_nextOf_list_item (h1.extBut hs₁.extBut D.i1z) (hl1.extBut hs₁.extBut D.l1z) hx fun h₂ h1₂ hs₂=>wpAny_pure (wpAny_pure ?_));refine wpAny_bind (wpAny_bind (wpAny_holding ?_));show wpAny _ _ (Builtin.SmallTypes.nextOf (.ref i2) >>= _) _ _ _;refine wpAny_bind (wpAny_nextOf_list_item ((h2.extBut hs₁.extBut D.i2z).extBut hs₂.extBut D.i12.symm) ((hl2.extBut hs₁.extBut D.l2z).extBut hs₂.extBut D.l2i1) hy fun h₃ h2₃ hs₃=>wpAny_pure (wpAny_pure (wpAny_pure ?_)));refine wpAny_bind (wpAny_newTuple (hsz:=by show 2≤sizeLine;decide) ?_);have hsz:h₃.objs.size=s.heap.objs.size:=by rw[hs₃.1,hs₂.1,hs₁.1]
 have up:∀c o,c≠z->c≠i1->c≠i2->s.heap.get? c=some o->h₃.get? c=some o:=fun c o c1 c2 c3 e=>hs₃.extBut _ _ c3 (hs₂.extBut _ _ c2 (hs₁.extBut _ _ c1 e))
 refine wpAny_pure ⟨_,rfl,?_⟩;rw[hsz];refine hQ _ (ps0 _ (hs₃.extBut _ _ D.i2z.symm (hs₂.extBut _ _ D.i1z.symm hz₁))) ?_ ?_ (by rw[←hsz];exact pz0 _ rfl) (by rw[Heap.size_push,hsz]) fun c o c1 c2 c3 e=>ps0 _ (up c o c1 c2 c3 e)
 ·exact (h1₂.extBut hs₃.extBut D.i12).at fun o e=>ps0 _ e
 ·exact h2₃.at fun o e=>ps0 _ e
theorem vV {z TI TO T0 i1 i2 l1 l2:Addr}{b:Bool}{k1 k2:Nat}{xs ys:Array Value}{Q:Fin->Shared->Prop}(hh:A.handled=none)(D:ZipApart z TI TO i1 i2 l1 l2)
  (hz:cu s.heap z TI TO (rawInt T0) (.bool b)) (hT:∃o,s.heap.get? T0=some o) (hTI:IsPair s.heap TI (.ref i1) (.ref i2))
  (h1:s.heap.IsListIter i1 l1 k1) (h2:s.heap.IsListIter i2 l2 k2) (hl1:s.heap.IsList l1 xs) (hl2:s.heap.IsList l2 ys) (hend:xs[k1]?=none\/ys[k2]?=none)
  (hE:∀h' e,(∀c o,c≠z->c≠i1->c≠i2->s.heap.get? c=some o->h'.get? c=some o)->(∃o,h'.get? e=some o/\o.cls=.type "StopIteration")->E (.ref e) {s with heap:=h'}):
  wpAny (model prog w) A (Builtin.«zip.__next__» ⟨[.ref z],[]⟩) Q E s:=by
 show wpAny _ _ (field (.ref z) 2 >>= _) _ _ _;refine wpAny_bind (wpAny_field hz rfl (x:=.bool false) rfl ?_);show wpAny _ _ (field (.ref z) 3 >>= _) _ _ _;refine wpAny_bind (wpAny_field hz rfl (x:=.ref TI) rfl ?_);refine wpAny_bind (wpAny_seqItems hTI rfl ?_);show wpAny _ _ (Builtin.SmallTypes.ownedTupleIsFree (.ref z) >>= _) _ _ _;refine wpAny_bind (mi hz hT fun h₁ hz₁ hs₁=>?_);simp only[Bool.false_eq_true,if_false];refine wpAny_bind ?_;simp only[List.forIn_toArray,List.forIn_cons,List.forIn_nil];refine wpAny_bind (wpAny_bind (wpAny_holding ?_));show wpAny _ _ (Builtin.SmallTypes.nextOf (.ref i1) >>= _) _ _ _
 cases hx:xs[k1]? with
 |none=>exact wpAny_bind (wpAny_nextOf_list_end hh (h1.extBut hs₁.extBut D.i1z) (hl1.extBut hs₁.extBut D.l1z) hx fun h₂ e hs₂ he=>hE h₂ e (fun c o c1 c2 a x=>hs₂ _ _ c2 (hs₁.extBut _ _ c1 x)) he)
 |some x=>
  have hy:ys[k2]?=none:=hend.elim (fun h=>by rw[hx] at h;cases h) id;refine wpAny_bind (wpAny_nextOf_list_item (h1.extBut hs₁.extBut D.i1z) (hl1.extBut hs₁.extBut D.l1z) hx fun h₂ h1₂ hs₂=>wpAny_pure (wpAny_pure ?_));refine wpAny_bind (wpAny_bind (wpAny_holding ?_));show wpAny _ _ (Builtin.SmallTypes.nextOf (.ref i2) >>= _) _ _ _;exact wpAny_bind (wpAny_nextOf_list_end hh ((h2.extBut hs₁.extBut D.i2z).extBut hs₂.extBut D.i12.symm) ((hl2.extBut hs₁.extBut D.l2z).extBut hs₂.extBut D.l2i1) hy fun h₃ e hs₃ he=>hE h₃ e (fun c o c1 c2 c3 x=>hs₃ _ _ c3 (hs₂.extBut _ _ c2 (hs₁.extBut _ _ c1 x))) he)
theorem oJ {z TI TO T0 i1 i2 l1 l2:Addr}{b:Bool}{k1 k2:Nat}{xs ys:Array Value}{x y:Value}{Q:Option Value->Shared->Prop}(D:ZipApart z TI TO i1 i2 l1 l2)
  (hz:cu s.heap z TI TO (rawInt T0) (.bool b)) (hT:∃o,s.heap.get? T0=some o) (hTI:IsPair s.heap TI (.ref i1) (.ref i2))
  (h1:s.heap.IsListIter i1 l1 k1) (h2:s.heap.IsListIter i2 l2 k2) (hl1:s.heap.IsList l1 xs) (hl2:s.heap.IsList l2 ys) (hx:xs[k1]?=some x) (hy:ys[k2]?=some y)
  (hQ:∀h',cu h' z TI TO (rawInt T0) (.bool true)->h'.IsListIter i1 l1 (k1+1)->h'.IsListIter i2 l2 (k2+1)->IsPair h' s.heap.objs.size x y->h'.objs.size=s.heap.objs.size+1->
   (∀c o,c≠z->c≠i1->c≠i2->s.heap.get? c=some o->h'.get? c=some o)->Q (some (.ref s.heap.objs.size)) {s with heap:=h'}):
  wpAny (model prog w) A (pyNext (.ref z)) Q E s:=by
 have hTy:s.TypeIs (.ref z) _:=⟨_,hz,rfl⟩;exact wpAny_bind (wpAny_attempt (wpAny_callSpecial?_slot hTy F.slot_zip_next
  (wpAny_call_entry F.slot_zip_next hTy F.entry_zip_next
   (sN D hz hT hTI h1 h2 hl1 hl2 hx hy fun h' a1 a3 a4 a5 a6 a7=>wpAny_pure (hQ h' a1 a3 a4 a5 a6 a7)) (F.args_zip_next_1 _))))
theorem sO {z TI TO T0 i1 i2 l1 l2:Addr}{b:Bool}{k1 k2:Nat}{xs ys:Array Value}{Q:Option Value->Shared->Prop}(hh:A.handled=none)(D:ZipApart z TI TO i1 i2 l1 l2)
  (hz:cu s.heap z TI TO (rawInt T0) (.bool b)) (hT:∃o,s.heap.get? T0=some o) (hTI:IsPair s.heap TI (.ref i1) (.ref i2))
  (h1:s.heap.IsListIter i1 l1 k1) (h2:s.heap.IsListIter i2 l2 k2) (hl1:s.heap.IsList l1 xs) (hl2:s.heap.IsList l2 ys) (hend:xs[k1]?=none\/ys[k2]?=none)
  (hQ:∀h',(∀c o,c≠z->c≠i1->c≠i2->s.heap.get? c=some o->h'.get? c=some o)->Q none {s with heap:=h'}):wpAny (model prog w) A (pyNext (.ref z)) Q E s:=by
 have hTy:s.TypeIs (.ref z) _:=⟨_,hz,rfl⟩;refine wpAny_bind (wpAny_attempt (wpAny_callSpecial?_slot hTy F.slot_zip_next
  (wpAny_call_entry F.slot_zip_next hTy F.entry_zip_next (vV hh D hz hT hTI h1 h2 hl1 hl2 hend fun h' e hk he=>?_) (F.args_zip_next_1 _))))
 obtain⟨o,ho,hc⟩:=he;exact wpAny_bind (wpAny_isInstance ⟨o,ho,hc⟩ isSubtype_stop (wpAny_pure (hQ _ hk)))
structure ZAt (h:Heap)(z TI TO i1 i2 l1 l2 B i:Nat)(xs ys:Array Value):Prop where
 z:cu h z TI TO .none (.bool false)\/∃T0 b,B≤T0/\cu h z TI TO (rawInt (T0:Nat)) (.bool b)/\∃o,h.get? T0=some o
 ti:IsPair h TI (.ref i1) (.ref i2)
 tp:∃a b,IsPair h TO a b
 h1:h.IsListIter i1 l1 i
 h2:h.IsListIter i2 l2 i
 l1:h.IsList l1 xs
 l2:h.IsList l2 ys
structure ZLt (z TI TO i1 i2 l1 l2 B:Nat):Prop where
 z:z<B
 ti:TI<B
 tp:TO<B
 i1:i1<B
 i2:i2<B
variable {z TI TO i1 i2 l1 l2 B i:Nat}{xs ys:Array Value}
theorem ZAt.keep {h h':Heap}(D:ZLt z TI TO i1 i2 l1 l2 B)(x:ZAt h z TI TO i1 i2 l1 l2 B i xs ys){S:Nat}(n1:S≠z)(n2:S≠TI)(n3:S≠TO)(n4:S≠i1)(n5:S≠i2)(n6:S≠l1)(n7:S≠l2)(n8:S<B)
  (k:∀b o,b≠S->h.get? b=some o->h'.get? b=some o):ZAt h' z TI TO i1 i2 l1 l2 B i xs ys:=
 ⟨x.z.imp (k _ _ n1.symm) fun⟨T0,b,a1,a2,o,a3⟩=>⟨T0,b,a1,k _ _ n1.symm a2,o,k _ _ (Nat.ne_of_gt (nl0 n8 a1)) a3⟩,k _ _ n2.symm x.ti,let ⟨a,b,e⟩:=x.tp;⟨a,b,k _ _ n3.symm e⟩,
  x.h1.at fun o e=>k _ _ n4.symm e,x.h2.at fun o e=>k _ _ n5.symm e,let ⟨o,e,r⟩:=x.l1;⟨o,k _ _ n6.symm e,r⟩,let ⟨o,e,r⟩:=x.l2;⟨o,k _ _ n7.symm e,r⟩⟩
theorem ZAt.item {x y:Value}{Q:Option Value->Shared->Prop}(D:ZipApart z TI TO i1 i2 l1 l2)(L:ZLt z TI TO i1 i2 l1 l2 B)(hB:B≤s.heap.objs.size)(Z:ZAt s.heap z TI TO i1 i2 l1 l2 B i xs ys)(hx:xs[i]?=some x)(hy:ys[i]?=some y)
  (hQ:∀h',ZAt h' z TI TO i1 i2 l1 l2 B (i+1) xs ys->IsPair h' s.heap.objs.size x y->h'.objs.size=s.heap.objs.size+1->(∀c o,c≠z->c≠TO->c≠i1->c≠i2->s.heap.get? c=some o->h'.get? c=some o)->Q (some (.ref s.heap.objs.size)) {s with heap:=h'}):
  wpAny (model prog w) A (pyNext (.ref z)) Q E s:=by
 obtain⟨a,b,hTO⟩:=Z.tp;have kl:∀{h':Heap} {l:Addr} {vs:Array Value},l≠z->l≠TO->l≠i1->l≠i2->(∀c o,c≠z->c≠TO->c≠i1->c≠i2->s.heap.get? c=some o->h'.get? c=some o)->s.heap.IsList l vs->h'.IsList l vs:=fun a1 a2 a3 a4 k ⟨o,e,r⟩=>⟨o,k _ _ a1 a2 a3 a4 e,r⟩
 rcases Z.z with hz|⟨T0,b,lb,hz,hT⟩
 ·refine wpAny_pyNext_zip_item D hz Z.ti hTO Z.h1 Z.h2 Z.l1 Z.l2 hx hy fun h' a1 a2 a3 a4 a5 a6 k=>?_
  exact hQ h' ⟨.inr ⟨_,false,hB,a1,_,a5⟩,k _ _ D.TIz D.TITO D.TIi1 D.TIi2 Z.ti,⟨_,_,a2⟩,a3,a4,kl D.l1z D.l1TO D.l1i1 D.l1i2 k Z.l1,kl D.l2z D.l2TO D.l2i1 D.l2i2 k Z.l2⟩ a5 a6 k
 ·refine oJ D hz hT Z.ti Z.h1 Z.h2 Z.l1 Z.l2 hx hy fun h' a1 a3 a4 a5 a6 k0=>?_
  have k:∀c o,c≠z->c≠TO->c≠i1->c≠i2->s.heap.get? c=some o->h'.get? c=some o:=fun c o c1 d c3 c4 e=>k0 c o c1 c3 c4 e
  obtain⟨o,hT⟩:=hT;have l1:=L.z;have l2:=L.tp;have l3:=L.i1;have l4:=L.i2;exact hQ h' ⟨.inr ⟨T0,true,lb,a1,o,k _ _ (by grind) (by grind) (by grind) (by grind) hT⟩,k _ _ D.TIz D.TITO D.TIi1 D.TIi2 Z.ti,⟨a,_,k0 _ _ D.TOz D.TOi1 D.TOi2 hTO⟩,a3,a4,kl D.l1z D.l1TO D.l1i1 D.l1i2 k Z.l1,kl D.l2z D.l2TO D.l2i1 D.l2i2 k Z.l2⟩ a5 a6 k
theorem ZAt.stop {Q:Option Value->Shared->Prop}(hh:A.handled=none)(D:ZipApart z TI TO i1 i2 l1 l2)(Z:ZAt s.heap z TI TO i1 i2 l1 l2 B i xs ys)(he:xs[i]?=none\/ys[i]?=none)
  (hQ:∀h',(∀c o,c≠z->c≠TO->c≠i1->c≠i2->s.heap.get? c=some o->h'.get? c=some o)->Q none {s with heap:=h'}):wpAny (model prog w) A (pyNext (.ref z)) Q E s:=by
 obtain⟨a,b,hTO⟩:=Z.tp;rcases Z.z with hz|⟨T0,b,lb,hz,hT⟩
 ·exact wpAny_pyNext_zip_end hh D hz Z.ti hTO Z.h1 Z.h2 Z.l1 Z.l2 he hQ
 ·exact sO hh D hz hT Z.ti Z.h1 Z.h2 Z.l1 Z.l2 he fun h' k=>hQ h' fun c o c1 d c3 c4 e=>k c o c1 c3 c4 e
def ZPairs (h:Heap)(B:Nat)(xs ys:Array Value)(acc:Array Value)(i:Nat):Prop:=acc.size=i/\∀(j:Nat) (v:Value),acc[j]?=some v->∃(x y:Value),v=.ref (B+j)/\xs[j]?=some x/\ys[j]?=some y/\IsPair h (B+j) x y
theorem ZPairs.keep {h h':Heap}{acc:Array Value}(p:ZPairs h B xs ys acc i)(k:∀b o,B≤b->h.get? b=some o->h'.get? b=some o):ZPairs h' B xs ys acc i:=
 ⟨p.1,fun j v e=>let ⟨x,y,a1,a3,a4,a5⟩:=p.2 j v e;⟨x,y,a1,a3,a4,k _ _ (Nat.le_add_right _ _) a5⟩⟩
set_option tactic.hygienic true in
theorem vW {R:Result->Shared->Prop}{S:Nat}(hh:A.handled=none)(D:ZipApart z TI TO i1 i2 l1 l2)(L:ZLt z TI TO i1 i2 l1 l2 B)(n1:S≠z)(n2:S≠TI)(n3:S≠TO)(n4:S≠i1)(n5:S≠i2)(n6:S≠l1)(n7:S≠l2)(n8:S<B)
  (hx:xs.size≤sizeLine) (res:Value):
  ∀(k i:Nat) (s:Shared) (acc:Array Value) (c:Nat),min xs.size ys.size-i=k->i≤min xs.size ys.size->s.heap.objs.size=B+i->ZAt s.heap z TI TO i1 i2 l1 l2 B i xs ys->s.heap.get? S=some {cls:=.type "list",dict:=none,data:=.seq acc c,slots:=#[]}->ZPairs s.heap B xs ys acc i->
  (∀h' acc' c',(∀b o,b≠S->b≠z->b≠TO->b≠i1->b≠i2->s.heap.get? b=some o->h'.get? b=some o)->h'.get? S=some {cls:=.type "list",dict:=none,data:=.seq acc' c',slots:=#[]}->ZPairs h' B xs ys acc' (min xs.size ys.size)->R (.ok (.ret res)) {s with heap:=h'})->
  codeAny (model prog w) A (.builtin "list.extend.loop" ⟨[.ref S,.ref z,res],[]⟩) R s:=by
 have m1:=L.z;have m2:=L.tp;have m3:=L.i1;have m4:=L.i2;intro k
 induction k with
 |zero=>
  intro i s acc c hk hi hB Z hS hp hR;refine codeAny_builtin F.entry_extend_loop ?_;rw[Around.under_plainId F.plain_extend_loop _];show wpAny _ A.in1 (pyNext (.ref z) >>= _) _ _ s;refine wpAny_bind (Z.stop hh D ?_ fun h' kk=>?_)
  ·rcases Nat.le_total xs.size ys.size with q|q
   ·exact .inl (Array.getElem?_eq_none (by grind))
   ·exact .inr (Array.getElem?_eq_none (by grind))
  ·have e:i=min xs.size ys.size:=by grind
   subst e;exact wpAny_pure (hR h' acc c (fun b o a c1 c2 c3 c4 e=>kk b o c1 c2 c3 c4 e) (kk _ _ n1 n3 n4 n5 hS) (hp.keep fun b o lb e=>kk b o (by omega) (by omega) (by omega) (by omega) e))
 |succ k ih=>
  intro i s acc c hk hi hB Z hS hp hR;have q1:i<xs.size:=by omega
  have q2:i<ys.size:=by omega
  refine codeAny_builtin F.entry_extend_loop ?_;rw[Around.under_plainId F.plain_extend_loop _];show wpAny _ A.in1 (pyNext (.ref z) >>= _) _ _ s;refine wpAny_bind (Z.item D L (by omega) (Array.getElem?_eq_getElem q1) (Array.getElem?_eq_getElem q2) fun h' Z' hP hz' kk=>?_);have hS':=kk _ _ n1 n3 n4 n5 hS;show wpAny _ A.in1 (updateSeq S (·.push (.ref s.heap.objs.size)) >>= _) _ _ _;refine wpAny_bind ?_;have oth:∀(b:Addr) (o:Obj),b≠S->h'.get? b=some o->(h'.update S (Obj.mapSeq (·.push (.ref s.heap.objs.size)))).get? b=some o:=fun b o nb e=>(Heap.get?_update_other _ _ (Ne.symm nb)).trans e
  refine wpAny_updateSeq hS' rfl (wpAny_pure ⟨plainId_quiet F.plain_extend_loop _,ih (i+1) _ (acc.push (.ref s.heap.objs.size)) _ (by omega) (by omega) ?_ (Z'.keep L n1 n2 n3 n4 n5 n6 n7 n8 oth) (Heap.get?_update_self _ hS' rfl) ?_ fun h2 acc2 c2 k2 hS2 hp2=>?_⟩)
   (by rw[hp.1];omega) (by show (acc.push _).size≤sizeLine+1;rw[Array.size_push,hp.1];omega)
  ·show (h'.update S _).objs.size=_
   rw[Heap.size_update];omega
  ·refine⟨by rw[Array.size_push,hp.1],fun j v hj=>?_⟩
   rw[Array.getElem?_push] at hj;split at hj
   ·rename_i e
    rw[hp.1] at e;cases hj;subst e;have hP2:=oth _ _ (Nat.ne_of_gt (nl0 n8 (by omega))) hP;exact⟨_,_,by rw[hB],Array.getElem?_eq_getElem q1,Array.getElem?_eq_getElem q2,Eq.mp (congrArg (fun n=>(h'.update S (Obj.mapSeq (·.push (.ref s.heap.objs.size)))).get? n=some _) hB) hP2⟩
   ·obtain⟨x,y,a1,a3,a4,a5⟩:=hp.2 j v hj
    have a2:B≤B+j:=Nat.le_add_right _ _;exact⟨x,y,a1,a3,a4,oth _ _ (Nat.ne_of_gt (nl0 n8 a2)) (kk _ _ (Nat.ne_of_gt (nl0 m1 a2)) (Nat.ne_of_gt (nl0 m2 a2)) (Nat.ne_of_gt (nl0 m3 a2)) (Nat.ne_of_gt (nl0 m4 a2)) a5)⟩
  ·exact hR h2 acc2 c2 (fun b o c0 c1 c2 c3 c4 e=>k2 b o c0 c1 c2 c3 c4 (oth _ _ c0 (kk b o c1 c2 c3 c4 e))) hS2 hp2
end
end PySem
namespace PySem
section
variable {prog:Program}{w:World}{A:Around}{E:Value->Shared->Prop}{s:Shared}
theorem oK:typeLookup (.type "zip") "__len__"=pure none:=by rfl
theorem mj:typeLookup (.type "zip") "__length_hint__"=pure none:=by rfl
variable {z TI TO i1 i2 l1 l2:Nat}{xs ys:Array Value}
theorem oM {R:Result->Shared->Prop}{S B:Nat}(hh:A.handled=none)(D:ZipApart z TI TO i1 i2 l1 l2)(L:ZLt z TI TO i1 i2 l1 l2 B)(n1:S≠z)(n2:S≠TI)(n3:S≠TO)(n4:S≠i1)(n5:S≠i2)(n6:S≠l1)(n7:S≠l2)(n8:S<B)
  (hx:xs.size≤sizeLine) (res:Value) {c0:Nat} (hS:s.heap.get? S=some {cls:=.type "list",data:=.seq #[] c0}) (hB:s.heap.objs.size=B) (Z:ZAt s.heap z TI TO i1 i2 l1 l2 B 0 xs ys)
  (hR:∀h' acc' c',(∀b o,b≠S->b≠z->b≠TO->b≠i1->b≠i2->s.heap.get? b=some o->h'.get? b=some o)->h'.get? S=some {cls:=.type "list",dict:=none,data:=.seq acc' c',slots:=#[]}->ZPairs h' B xs ys acc' (min xs.size ys.size)->R (.ok (.ret res)) {s with heap:=h'}):
  wpAny (model prog w) A.in1 (Builtin.List.listExtendWith (.ref S) (.ref z) res)
   (fun fin s'=>match fin with|.done f=>R (.ok f) s'|.again c'=>c'.quiet=true/\codeAny (model prog w) A c' R s') (fun e s'=>R (.error e) s') s:=by
 have hT:s.TypeIs (.ref z) "zip":=by
  rcases Z.z with e|⟨_,_,_,e,_⟩
  ·exact⟨_,e,rfl⟩
  ·exact⟨_,e,rfl⟩
 have hI:∀{Q:Value->Shared->Prop},Q (.ref z) s->wpAny (model prog w) A.in1 (pyIter (.ref z)) Q (fun e s'=>R (.error e) s') s:=fun h=>by
  refine wpAny_pyIter_slot hT F.slot_zip_iter (wpAny_call_entry F.slot_zip_iter hT F.entry_zip_iter ?_ (F.args_zip_iter_1 _));show wpAny _ _ (ret (.ref z)) _ _ s;exact wpAny_pure ⟨_,rfl,"zip",_,hT,F.slot_zip_next.lookup,h⟩
 unfold Builtin.List.listExtendWith;refine wpAny_bind (wpAny_typeOf hT ?_);have h1:Builtin.List.listSameRef (.ref S) (.ref z)=false:=by simp[Builtin.List.listSameRef,n1]
 have h2:(Value.type "zip"==Value.type "list")=false:=by decide
 have h3:(Value.type "zip"==Value.type "tuple")=false:=by decide
 simp only[h1,h2,h3,Bool.or_false,Bool.false_eq_true,if_false];refine wpAny_bind (hI ?_);refine wpAny_bind (wpAny_holding ?_);unfold Builtin.List.listLengthHint;refine wpAny_bind (wpAny_specialOf hT oK ?_);show wpAny _ A.in1 (specialOf (Value.ref z) (Str.ofString "__length_hint__") >>= _) _ _ _;refine wpAny_bind (wpAny_specialOf hT mj ?_);refine wpAny_pure ?_;show wpAny _ A.in1 (rule "list.extend.makes-room" >>= fun a=>Builtin.List.listTouch (.ref S) >>= fun a=>
  again (.builtin "list.extend.loop" ⟨[.ref S,.ref z,res],[]⟩)) _ _ _
 refine wpAny_bind (wpAny_rule ?_);refine wpAny_bind ?_;show wpAny _ A.in1 (updateSeq S (·.push .none) >>= fun a=>updateSeq S (·.pop)) _ _ _;refine wpAny_bind (wpAny_updateSeq hS rfl ?_);have hS₂:=Heap.get?_update_self (Obj.mapSeq (·.push Value.none)) hS rfl;refine wpAny_updateSeq (hz:=by seq_fits) hS₂ rfl ?_;have hS₃:=Heap.get?_update_self (Obj.mapSeq (·.pop)) hS₂ rfl;have oth:∀b o,b≠S->s.heap.get? b=some o->((s.heap.update S (Obj.mapSeq (·.push Value.none))).update S (Obj.mapSeq (·.pop))).get? b=some o:=
  fun b o hb e=>(Heap.get?_update_other _ _ (Ne.symm hb)).trans ((Heap.get?_update_other _ _ (Ne.symm hb)).trans e)
 refine wpAny_pure ⟨plainId_quiet F.plain_extend_loop _,vW hh D L n1 n2 n3 n4 n5 n6 n7 n8 hx res _ 0 _ #[] _ rfl (Nat.zero_le _) ?_ (Z.keep L n1 n2 n3 n4 n5 n6 n7 n8 oth) hS₃ ⟨rfl,fun j v e=>by simp at e⟩ fun h' acc' c' k hS' hp=>?_⟩
 ·show ((s.heap.update S _).update S _).objs.size=_
  rw[Heap.size_update,Heap.size_update];exact hB
 ·exact hR h' acc' c' (fun b o c0 c1 c2 c3 c4 e=>k b o c0 c1 c2 c3 c4 (oth b o c0 e)) hS' hp
theorem jf {Q:Value->Shared->Prop}(hh:A.handled=none)(D:ZipApart z TI TO i1 i2 l1 l2)(L:ZLt z TI TO i1 i2 l1 l2 s.heap.objs.size)(m1:l1<s.heap.objs.size)(m2:l2<s.heap.objs.size)
  (hx:xs.size≤sizeLine) (Z:ZAt s.heap z TI TO i1 i2 l1 l2 (s.heap.objs.size+1) 0 xs ys)
  (hQ:∀h' acc c,(∀b o,b≠z->b≠TO->b≠i1->b≠i2->s.heap.get? b=some o->h'.get? b=some o)->h'.get? s.heap.objs.size=some {cls:=.type "list",dict:=none,data:=.seq acc c,slots:=#[]}->
   ZPairs h' (s.heap.objs.size+1) xs ys acc (min xs.size ys.size)->Q (.ref s.heap.objs.size) {s with heap:=h'}):
  wpAny (model prog w) A (call (.type "list") [.ref z]) Q E s:=by
 have a1:=L.z;have a2:=L.ti;have a3:=L.tp;have a4:=L.i1;have a5:=L.i2;refine callType_codes (Q₁:=fun obj s₁=>obj=.ref s.heap.objs.size/\s₁={s with heap:=s.heap.push {cls:=.type "list",data:=.seq #[]}}) F.called_list (F.typeCall_list_1 _) F.entry_list_init
  (code_list_new _ ⟨rfl,rfl⟩) fun obj s₁ h₁=>?_
 obtain⟨rfl,rfl⟩:=h₁;have hS:(s.heap.push {cls:=.type "list",data:=.seq #[]}).get? s.heap.objs.size=some {cls:=.type "list",data:=.seq #[]}:=pz0 _ rfl;refine⟨⟨_,hS,rfl⟩,F.args_list_init_2 _ _,?_⟩;show wpAny _ _ (do let old ←Builtin.List.listItems (.ref s.heap.objs.size);Builtin.List.listUpdate (.ref s.heap.objs.size) (fun a=>#[]);letGo old.toList.reverse;Builtin.List.listExtendWith (.ref s.heap.objs.size) (.ref z) .none) _ _ _;refine wpAny_bind ?_;unfold Builtin.List.listItems;refine wpAny_bind (wpAny_seqItems hS rfl (wpAny_pure ?_));show wpAny _ _ (updateSeq s.heap.objs.size (fun a=>#[]) >>= fun a=>letGo (#[]:Array Value).toList.reverse >>= fun a=>Builtin.List.listExtendWith (.ref s.heap.objs.size) (.ref z) .none) _ _ _
 refine wpAny_bind (wpAny_updateSeq hS rfl ?_);have hS₂:=Heap.get?_update_self (Obj.mapSeq (fun a=>(#[]:Array Value))) hS rfl;have oth:∀b o,b≠s.heap.objs.size->s.heap.get? b=some o->((s.heap.push {cls:=.type "list",data:=.seq #[]}).update s.heap.objs.size (Obj.mapSeq (fun a=>(#[]:Array Value)))).get? b=some o:=
  fun b o hb e=>(Heap.get?_update_other _ _ (Ne.symm hb)).trans (ps0 _ e)
 refine wpAny_bind (wpAny_letGo ?_);have L':ZLt z TI TO i1 i2 l1 l2 (s.heap.objs.size+1):=⟨by exact Nat.lt_succ_of_lt ‹_›,by exact Nat.lt_succ_of_lt ‹_›,by exact Nat.lt_succ_of_lt ‹_›,by exact Nat.lt_succ_of_lt ‹_›,by exact Nat.lt_succ_of_lt ‹_›⟩;have Zk:=Z.keep (S:=s.heap.objs.size) (h':=(s.heap.push {cls:=.type "list",data:=.seq #[]}).update s.heap.objs.size (Obj.mapSeq (fun a=>(#[]:Array Value)))) L' (by omega) (by omega) (by omega) (by omega) (by omega) (by omega) (by omega) (by omega) oth;refine oM (A:=A.in1) (B:=s.heap.objs.size+1) hh D L' (by omega) (by omega) (by omega) (by omega) (by omega) (by omega) (by omega) (by omega) hx .none hS₂ ?_ Zk fun h' acc c k hS' hp=>?_
 ·show ((s.heap.push _).update _ _).objs.size=_
  rw[Heap.size_update,Heap.size_push]
 ·exact⟨rfl,hQ h' acc c (fun b o c1 c2 c3 c4 e=>k b o (nn0 (hs0 e)) c1 c2 c3 c4 (oth b o (nn0 (hs0 e)) e)) hS' hp⟩
end
end PySem
namespace L2.Z
open PySem PySem.Spec PyProof.Rows L2 L2.C SI
section
variable {X:Cx}{pins:List (Addr×Obj)}{σ:St}{H H':Hp}{s:Shared}{h':Heap}{t':Nat}
theorem mm {ch:List Addr}(I:Inv X pins σ H s)(hch:∀b∈ch,X.s₀.heap.objs.size≤b/\∃φ,H b=some (.ext φ))(ke:∀b o,b∉ch->s.heap.get? b=some o->h'.get? b=some o)
  (ag:∀b,b<s.heap.objs.size->b∉ch->H' b=H b) (new:∀b o,(s.heap.objs.size≤b\/b∈ch)->H' b=some o->ObjOk X.prog X.w H' h' b o):
  Inv X pins σ H' {s with heap:=h',toks:=t'}:=by
 have lt:=fun b o e=>(I.hok b o e).lt
 have nc:∀b,(∀φ,H b≠some (.ext φ))->b∉ch:=fun b n hb=>let ⟨φ,e⟩:=(hch b hb).2;n φ e
 have same:∀b o,(∀φ,o≠.ext φ)->H b=some o->H' b=some o:=fun b o n e=>(ag b (lt b _ e) (nc b fun φ z=>by rw[e] at z;cases z;exact n φ rfl)).trans e
 refine I.step (g':=s.gens) (d':=s.drawn) (ch:=ch) (fun b hb=>?_) (fun b o a a hc e a=>ke b o hc e) (fun b o a a hc e a=>⟨o.slots,ke b o hc e⟩)
  (fun b o hc e n=>(ag b (hs0 e) hc).trans n) (fun b o hc e=>⟨o,ke b o hc e⟩) (fun b xs e=>same b _ (fun a z=>by cases z) e)
  (fun b o u e=>same b _ (fun a z=>by cases z) e) (fun b ps e=>⟨#[],by rw[same b _ (fun a z=>by cases z) e];simp⟩) (fun m hm=>?_) (fun b u e=>?_) I.bare
 ·obtain⟨h1,φ,h2⟩:=hch b hb
  exact⟨.inr h1,(fun z=>by rw[z,I.free] at h2;cases h2),(fun x c hx z=>by rw[←z,I.freeC x c hx] at h2;cases h2),fun p hp z=>by rw[←z,(I.pin p hp).2.1] at h2;cases h2⟩
 ·obtain⟨o,es,ep,ho,r⟩:=hm
  exact⟨o,es,ep,ke _ o (nc _ fun φ z=>by rw[I.free] at z;cases z) ho,r⟩
 ·by_cases c:s.heap.objs.size≤b\/b∈ch
  ·exact new b u c e
  ·have c2:b∉ch:=fun z=>c (.inr z)
   refine (I.hok b u ((ag b (Nat.lt_of_not_le fun z=>c (.inl z)) c2).symm.trans e)).stay (fun d v hd q=>ke d v (fun z=>?_) q) (fun d q=>same d _ (fun a z=>by cases z) q) fun d a q=>same d _ (fun a z=>by cases z) q
   rcases hd with y|y<;>simp_all
noncomputable def zR (n p1 p2 k:Nat):Obj:=match k with
 |0=>{cls:=.type "list_iterator",data:=.fields #[.ref p1,.int 0 0]}
 |1=>{cls:=.type "list_iterator",data:=.fields #[.ref p2,.int 0 0]}
 |2=>{cls:=.type "tuple",data:=.seq #[.ref n,.ref (n+1)]}
 |3=>{cls:=.type "tuple",data:=.seq #[.none,.none]}
 |_=>{cls:=.type "zip",data:=.fields #[.none,.bool false,.bool false,.ref (n+2),.ref (n+3)]}
def zG (H:Hp)(n p1 p2:Nat):Hp:=fun b=>if n≤b/\b<n+5 then some (.ext fun h=>h.get? b=some (zR n p1 p2 (b-n))) else H b
theorem vX {n p1 p2 k:Nat}(h:k<5):zG H n p1 p2 (n+k)=some (.ext fun h=>h.get? (n+k)=some (zR n p1 p2 k)):=by
 unfold zG;rw[if_pos (show n≤n+k/\n+k<n+5 from⟨by simp_all,by simp_all⟩),show n+k-n=k by simp_all]
theorem fO {n p1 p2 b:Nat}(h:¬ (n≤b/\b<n+5)):zG H n p1 p2 b=H b:=if_neg h
theorem vY (h:Heap)(l1 l2:Addr):(zipH4 h l1 l2).objs.size=h.objs.size+4/\(zipH5 h l1 l2).objs.size=h.objs.size+5/\(∀b o,h.get? b=some o->(zipH5 h l1 l2).get? b=some o)/\∀k:Nat,k<5->(zipH5 h l1 l2).get? (h.objs.size+k)=some (zR h.objs.size l1 l2 k):=by
 have z1:(zipH1 h l1).objs.size=h.objs.size+1:=Heap.size_push ..;have z2:(zipH2 h l1 l2).objs.size=h.objs.size+2:=by rw[Heap.size_push,z1]
 have z3:(zipH3 h l1 l2).objs.size=h.objs.size+3:=by rw[Heap.size_push,z2]
 have z4:(zipH4 h l1 l2).objs.size=h.objs.size+4:=by rw[Heap.size_push,z3]
 have z5:(zipH5 h l1 l2).objs.size=h.objs.size+5:=by rw[Heap.size_push,z4]
 refine⟨z4,z5,fun b o e=>ps0 _ (ps0 _ (ps0 _ (ps0 _ (ps0 _ e)))),fun k hk=>?_⟩;have g5:(zipH5 h l1 l2).get? (zipH4 h l1 l2).objs.size=some _:=pz0 _ rfl;have g4:(zipH5 h l1 l2).get? (zipH3 h l1 l2).objs.size=some _:=ps0 _ (pz0 _ rfl);have g3:(zipH5 h l1 l2).get? (zipH2 h l1 l2).objs.size=some _:=ps0 _ (ps0 _ (pz0 _ rfl));have g2:(zipH5 h l1 l2).get? (zipH1 h l1).objs.size=some _:=ps0 _ (ps0 _ (ps0 _ (pz0 _ rfl)));have g1:(zipH5 h l1 l2).get? h.objs.size=some _:=ps0 _ (ps0 _ (ps0 _ (ps0 _ (pz0 _ rfl))));rw[z2,z3,z4] at g5;rw[z1,z2] at g3;rw[z3] at g4;rw[z1] at g2;rcases (by grind:k=0\/k=1\/k=2\/k=3\/k=4) with rfl|rfl|rfl|rfl|rfl
 ·exact g1
 ·exact g2
 ·exact g3
 ·exact g4
 ·exact g5
theorem sP:ba X (.type "zip") (fun xs H Q=>∃(p1 p2:Addr) (us vs:List V),xs=[.ref p1,.ref p2]/\SqL X.K H p1 us/\SqL X.K H p2 vs/\∀n:Nat,X.s₀.heap.objs.size≤n->(∀k:Nat,n≤k->H k=none)->Q (.ref (n+4)) (zG H n p1 p2)):=by
 intro pins s σ H xs us Q I r h;obtain⟨p1,p2,as,bs,rfl,h1,h2,k⟩:=h;obtain⟨u1,u2,rfl,r1,r2⟩:=vals2 r;cases r1;cases r2;obtain⟨i1,_,q1,_⟩:=I.list h1;obtain⟨i2,_,q2,_⟩:=I.list h2;obtain⟨a4,a5,ak,ag⟩:=vY s.heap p1 p2;have fr:∀k:Nat,s.heap.objs.size≤k->H k=none:=fun k hk=>I.hok.fresh hk
 refine callType_new F.called_zip (by decide) (F.typeCall_zip_2 _ _) (F.newCall_zip_2 _ _) (fun obj=>F.args_object_init_3 obj _ _) F.entry_zip_new (meets_zip_new p1 p2 i1.toArray i2.toArray) ⟨q1.isList,q2.isList,⟨_,by rw[a4];exact ag 4 (by simp_all),rfl⟩,?_⟩;rw[a4];refine⟨.ref (s.heap.objs.size+4),zG H s.heap.objs.size p1 p2,mm (t':=s.toks) (ch:=[]) I (fun b hb=>by cases hb) (fun b o a e=>ak b o e) (fun b hb a=>fO (by grind)) (fun b o hb e=>?_),rfl,k _ ?_ fr⟩
 rotate_left
 ·obtain⟨m,⟨o,_,_,ho,_⟩,_⟩:=I.loc
  exact nt0 I.ok.above (Nat.le_of_lt (hs0 ho))
 by_cases c:s.heap.objs.size≤b/\b<s.heap.objs.size+5
 ·obtain⟨j,rfl⟩:∃j,b=s.heap.objs.size+j:=⟨b-s.heap.objs.size,by simp_all⟩
  have hj:j<5:=by simp_all
  rw[vX hj] at e;cases e;exact⟨ag j hj,⟨_,ag j hj⟩,fun h1 h2 x k2=>k2 _ x⟩
 ·rw[fO c] at e
  have:=I.hok b o e;refine this.stay (fun d v a q=>ak d v q) (fun d q=>?_) fun d a q=>?_
  ·rw[fO (fun z=>by rw[fr d z.1] at q;cases q)];exact q
  ·rw[fO (fun z=>by rw[fr d z.1] at q;cases q)];exact q
noncomputable def lG (H:Hp)(S:Nat)(ps:List (V×V)):Hp:=fun b=>if b=S then some (.lst ((List.range ps.length).map fun j=>.ref (S+1+j))) else if S<b then (ps[b-S-1]?).map (fun p=>.tup [p.1,p.2]) else H b
theorem eB {S b:Nat}{ps:List (V×V)}(h:b<S):lG H S ps b=H b:=by
 unfold lG;rw[if_neg (nn0 h),if_neg (Nat.lt_asymm h)]
theorem ncl {x:String}(h:x≠"list"):Value.type x≠Value.type "list":=fun z=>h (by injection z)
theorem GG {b n:Nat}(h:b∈[n,n+1,n+2,n+3,n+4]):∃j:Nat,j<5/\b=n+j:=by
 simp only[List.mem_cons,List.not_mem_nil,or_false] at h;exact⟨b-n,by omega,by grind⟩
theorem GH {b n:Nat}(h:b∉[n,n+1,n+2,n+3,n+4]):b≠n+4/\b≠n+3/\b≠n/\b≠n+1/\¬ (n≤b/\b<n+5):=by
 simp only[List.mem_cons,List.not_mem_nil,or_false] at h
 grind
theorem ned {a b:Nat}(h:a<b\/b<a):a≠b:=by grind
theorem qH {h:Heap}{l a:Nat}{o:Obj}{its:Array Value}(hl:h.IsList l its)(e:h.get? a=some o)(n:o.cls≠.type "list"):l≠a:=fun z=>by
 obtain⟨o',e',hc,_⟩:=hl<;>grind
theorem sQ (S:Nat)(xs:List Nat):Vals (xs.map fun j=>V.ref (S+1+j)) (xs.map fun j=>Value.ref (S+1+j)):=by
 induction xs with
 |nil=>exact .nil
 |cons x r ih=>exact .cons rfl ih
theorem oN (hc:X.calm=true):ba X (.type "list") (fun xs H Q=>∃(n p1 p2:Nat) (us vs:List V) (H0:Hp),xs=[.ref (n+4)]/\H=zG H0 n p1 p2/\X.s₀.heap.objs.size≤n/\(∀k:Nat,n≤k->H0 k=none)/\H0 p1=some (.lst us)/\H0 p2=some (.lst vs)/\
  ∀S:Nat,n≤S->Q (.ref S) (lG H0 S (us.zip vs))):=by
 intro pins s σ H xs uu Q I r h;obtain⟨n,p1,p2,us,vs,H0,rfl,rfl,hn,fr,h1,h2,k⟩:=h;obtain⟨u,rfl,ru⟩:=vals1 r;cases ru;have sm:∀b o,H0 b=some o->zG H0 n p1 p2 b=some o:=fun b o e=>by rw[fO (fun z=>by rw[fr b z.1] at e;cases e)];exact e
 obtain⟨i1,r1,q1,z1⟩:=I.list (SqL.of (sm _ _ h1));obtain⟨i2,r2,q2,z2⟩:=I.list (SqL.of (sm _ _ h2));have g:∀j:Nat,j<5->s.heap.get? (n+j)=some (zR n p1 p2 j):=fun j hj=>(show ObjOk X.prog X.w _ s.heap (n+j) (.ext _) from I.hok _ _ (vX hj)).1
 have l4:n+4<s.heap.objs.size:=hs0 (g 4 (by decide));have a1:=fun j hj=>qH q1.isList (g j hj)
 have a2:=fun j hj=>qH q2.isList (g j hj)
 have D:ZipApart (n+4) (n+2) (n+3) n (n+1) p1 p2:=⟨ned (by simp_all),ned (by simp_all),ned (by simp_all),ned (by simp_all),ned (by simp_all),ned (by simp_all),ned (by simp_all),ned (by simp_all),ned (by simp_all),ned (by simp_all),a1 4 (by decide) (ncl (x:="zip") (by decide)),a1 3 (by decide) (ncl (x:="tuple") (by decide)),a1 0 (by decide) (ncl (x:="list_iterator") (by decide)),a1 1 (by decide) (ncl (x:="list_iterator") (by decide)),a2 4 (by decide) (ncl (x:="zip") (by decide)),a2 3 (by decide) (ncl (x:="tuple") (by decide)),a2 0 (by decide) (ncl (x:="list_iterator") (by decide)),a2 1 (by decide) (ncl (x:="list_iterator") (by decide))⟩;have p1l:p1<s.heap.objs.size:=let ⟨_,e,_⟩:=q1.isList;hs0 e
 have p2l:p2<s.heap.objs.size:=let ⟨_,e,_⟩:=q2.isList;hs0 e
 refine jf (I.ok.hd hc) D ⟨by omega,by omega,by omega,by omega,by omega⟩ p1l p2l (by rw[ls0,←r1.length];exact z1) ⟨.inl (g 4 (by decide)),g 2 (by decide),⟨_,_,g 3 (by decide)⟩,⟨_,g 0 (by decide),rfl,rfl⟩,⟨_,g 1 (by decide),rfl,rfl⟩,q1.isList,q2.isList⟩ fun h' acc c kk hS hp=>?_
 have lz:(us.zip vs).length=min i1.toArray.size i2.toArray.size:=by rw[List.length_zip,ls0,ls0,r1.length,r2.length]
 have hacc:acc=((List.range (us.zip vs).length).map fun j=>Value.ref (s.heap.objs.size+1+j)).toArray:=by
  apply Array.toList_inj.mp
  apply List.ext_getElem?
  intro j;rw[Array.getElem?_toList];show acc[j]?=((List.range (us.zip vs).length).map fun j=>Value.ref (s.heap.objs.size+1+j))[j]?;rw[gm0];cases e:acc[j]? with
  |none=>
   have:acc.size≤j:=by simpa using e
   rw[List.getElem?_eq_none (by rw[lr0,lz,←hp.1];exact this)];rfl
  |some v=>
   obtain⟨x,y,rfl,_,_,_⟩:=hp.2 j v e;have:j<acc.size:=by
    rcases Nat.lt_or_ge j acc.size with z|z
    ·exact z
    ·rw[Array.getElem?_eq_none z] at e;cases e
   rw[List.getElem?_range (by rw[lz,←hp.1];exact this)];rfl
 refine⟨.ref s.heap.objs.size,lG H0 s.heap.objs.size (us.zip vs),mm (t':=s.toks) (ch:=[n,n+1,n+2,n+3,n+4]) I (fun b hb=>?_) (fun b o hb e=>?_) (fun b hl hb=>?_) (fun b o hb e=>?_),rfl,k _ (by omega)⟩
 ·obtain⟨j,hj,rfl⟩:=GG hb
  exact⟨nt0 hn (Nat.le_add_right _ _),_,vX hj⟩
 ·obtain⟨c1,c2,c3,c4,_⟩:=GH hb
  exact kk b o c1 c2 c3 c4 e
 ·rw[eB hl,fO (GH hb).2.2.2.2]
 ·have hb:s.heap.objs.size≤b:=by
   rcases hb with z|z
   ·exact z
   ·obtain⟨j,hj,rfl⟩:=GG z
    rw[eB (by omega),fr _ (Nat.le_add_right _ _)] at e;cases e
  by_cases cb:b=s.heap.objs.size
  ·subst cb
   unfold lG at e;rw[if_pos rfl] at e;cases e;refine⟨by rw[lm0,lr0,List.length_zip];exact nt0 (Nat.min_le_left _ _) z1,_,c,sQ _ _,?_⟩;rw[←hacc];exact hS
  ·unfold lG at e
   rw[if_neg cb,if_pos (by omega)] at e;obtain⟨p,e1,rfl⟩:=mx0 e;obtain⟨j,rfl⟩:∃j,b=s.heap.objs.size+1+j:=⟨b-s.heap.objs.size-1,by omega⟩;rw[show s.heap.objs.size+1+j-s.heap.objs.size-1=j by omega] at e1;have hj:j<acc.size:=by rw[hp.1,←lz];exact (List.getElem?_eq_some_iff.mp e1).1
   obtain⟨x,y,_,x1,y1,hP⟩:=hp.2 j _ (Array.getElem?_eq_getElem hj);obtain⟨b1,b2⟩:=List.getElem?_zip_eq_some.mp e1;obtain⟨x',x2,rx⟩:=r1.get b1;obtain⟨y',y2,ry⟩:=r2.get b2;rw[List.getElem?_toArray,x2] at x1;rw[List.getElem?_toArray,y2] at y1;cases x1;cases y1;exact⟨by show 2≤sizeLine;decide,[x,y],.cons rx (.cons ry .nil),_,hP,rfl,0,rfl⟩
end
theorem zS {K:Fg}{G:Hp}{S:Nat}:∀{xs ys:List D} {us vs:List V} (j0:Nat),Dps K G xs us->Dps K G ys vs->(∀(j:Nat) (p:V×V),(us.zip vs)[j]?=some p->G (S+1+(j0+j))=some (.tup [p.1,p.2]))->
  Dps K G ((xs.zip ys).map fun p=>D.tuple [p.1,p.2]) ((List.range' j0 (us.zip vs).length).map fun j=>V.ref (S+1+j)):=by
 intro xs
 induction xs with
 |nil=>intro ys us vs j0 a b h;cases a;exact .nil
 |cons x xs ih=>
  intro ys us vs j0 a b h;cases a with
  |cons a r=>cases b with
   |nil=>exact .nil
   |cons b q=>exact .cons (.tuple (h 0 (_,_) rfl) (.cons a (.cons b .nil))) (ih (j0+1) r q fun j p e=>by rw[show j0+1+j=j0+(j+1) by grind];exact h (j+1) p e)
theorem GI {H:Hp}{S j:Nat}{ps:List (V×V)}{p:V×V}(h:ps[j]?=some p):lG H S ps (S+1+j)=some (.tup [p.1,p.2]):=by
 unfold lG;rw[if_neg (show ¬ S+1+j=S by grind),if_pos (show S<S+1+j by exact Nat.le_add_right ..),show S+1+j-S-1=j by grind,h];rfl
theorem DU {G H:Hp}{n S:Nat}{ps:List (V×V)}(gh:Same G H)(fr:∀k:Nat,n≤k->H k=none)(hn:n≤S):Ext G H (lG G S ps) (lG H S ps):=by
 have lt:∀b o,H b=some o->b<S:=fun b o e=>Nat.lt_of_not_le fun z=>by rw[fr b (nt0 hn z)] at e;cases e
 refine⟨fun b o e=>by rw[eB (lt b o e)];exact e,fun b o e=>by rw[eB (lt b o (gh b o e))];exact e,fun b o e=>?_,fun b o e1 e2=>by rwa [eB (lt b o e2)],fun b C dx fs e=>?_⟩
 ·rcases Nat.lt_or_ge b S with z|z
  ·rw[eB z] at e ⊢;exact gh b o e
  ·unfold lG at e ⊢
   by_cases c:b=S
   ·rw[if_pos c] at e ⊢;exact e
   ·rw[if_pos (Nat.lt_of_le_of_ne z (Ne.symm c))] at e ⊢;exact e
 ·rcases Nat.lt_or_ge b S with z|z
  ·rwa [eB z] at e
  ·unfold lG at e
   by_cases c:b=S
   ·simp_all
   ·rw[if_neg c,if_pos (Nat.lt_of_le_of_ne z (Ne.symm c))] at e
    simp_all
theorem sR:bootBuiltins ("zip":Str)=some (.type "zip"):=rfl
section
variable {X:Cx}{ρ:List Sl}{a b:Expr}{p p2 q pos:Pos}{xs ys:List D}
theorem oO (hcalm:X.calm=true)(B1:Blt X "list")(B2:Blt X "zip")(ha:Ea X ρ fl3 [a,b] [.list xs,.list ys])(hs:aB [a,b]):
  Ev X ρ (.Call (.Name "list" p) [.Call (.Name "zip" p2) [a,b] [] q] [] pos) (.list ((xs.zip ys).map fun p=>.tuple [p.1,p.2])):=by
 intro pins s σ H Q I h0;obtain⟨G0,H0,G,E,k⟩:=h0;refine aX (oN hcalm) B1.g B1.m PyProof.Rows.boot_list (aA (aX sP B2.g B2.m sR ha B2.n B2.d (af (hs a ms0)) (aG fun y hy=>hs y (mc0 _ hy))) aU rfl) B1.n B1.d rfl rfl pins s σ H Q I ?_;refine⟨G0,H0,G,E,fun vs G1 H1 e1 r1=>?_⟩;obtain⟨v,w,rfl,hv,hw⟩:=r1.two;obtain⟨p1,us,rfl,h1,d1⟩:=hv.lst e1.gh;obtain⟨p2,ws,rfl,h2,d2⟩:=hw.lst e1.gh;refine⟨p1,p2,us,ws,rfl,SqL.of h1,SqL.of h2,fun n hn fr=>?_⟩;refine⟨n,p1,p2,us,ws,H1,rfl,rfl,hn,fr,h1,h2,fun S hS=>?_⟩;have ex:=DU (ps:=us.zip ws) e1.gh fr hS
 refine k _ _ _ (e1.trans ex) (.list (if_pos rfl) ?_);rw[List.range_eq_range'];exact zS 0 (d1.mono ex.gg) (d2.mono ex.gg) fun j p e=>by rw[Nat.zero_add];exact GI e
end
theorem zT (ns:List Int):firstMet (fun i=>ns.getD i 0) ns.length=eu ns:=by
 unfold firstMet eu;have:(List.range ns.length).map (fun i=>ns.getD i 0)=ns:=by
  apply List.ext_getElem?
  intro i;rcases Nat.lt_or_ge i ns.length with z|z<;>simp_all
 rw[this];rfl
theorem vZ (l:List Int)(k:Int):(rW l k).length≤l.length+1:=by
 unfold rW;split
 ·simp_all
 ·rw[la0];exact nr0 _
theorem mq (ns:List Int):(eu ns).length≤ns.length:=by
 have:∀(ns l:List Int),(ns.foldl rW l).length≤l.length+ns.length:=by
  intro ns
  induction ns with
  |nil=>intro l;exact nr0 _
  |cons n r ih=>intro l;have h1:=ih (rW l n);have h2:=vZ l n;rw[List.foldl_cons,lc0];grind
 have:=this ns [];rw[List.length_nil] at this;unfold eu;simp_all
theorem sS:bootBuiltins ("set":Str)=some (.type "set"):=rfl
section
variable {X:Cx}{ρ:List Sl}{a:Expr}{p p2 q pos:Pos}{ds:List D}{d:D}
theorem sT (hc:X.calm=true):ba X (.type "set") (fun xs H Q=>∃(r:Addr) (ns:List Int),xs=[.ref r]/\H r=some (.lst (ns.map .int))/\ns.length<64/\∀l,H l=none->Q (.ref l) (upd H l (.set (fun k=>(eu ns).any (·==k)) (eu ns).length))):=by
 intro pins s σ H xs us Q I r h;obtain⟨rr,ns,rfl,hq,hz,k⟩:=h;obtain⟨u,rfl,rx⟩:=vals1 r;cases rx;obtain⟨its,r',pl,_⟩:=I.list (SqL.of hq);have hl:its.toArray.size=ns.length:=by rw[ls0,←r'.length,lm0]
 refine call_set_list (I.ok.hd hc) pl.isList (intsAre_of r') (nl0 (show its.toArray.size+1<4096 by rw[hl];grind) (by decide)) fun h' tk hS kk=>?_
 rw[hl,zT] at hS;exact⟨.ref s.heap.objs.size,_,I.laid (t':=tk) (fun b o e=>kk b o (hs0 e) e) (nr0 _) (show ObjOk X.prog X.w _ _ _ (.set _ _) from hS),rfl,k _ (I.hok.fresh (nr0 _))⟩
theorem sU:ba X (.builtin "len") (fun xs H Q=>∃(r:Addr) (S:Int->Bool) (n:Nat),xs=[.ref r]/\H r=some (.set S n)/\n<64/\Q (.int n) H):=by
 intro pins s σ H xs us Q I r h;obtain⟨rr,S,n,rfl,hq,hz,k⟩:=h;obtain⟨u,rfl,rx⟩:=vals1 r;cases rx;obtain⟨o,es,ep,t,h1,h2,h3,_,_,_,h4,rfl⟩:=(show s.heap.SetOf (intKind X.prog X.w) rr S n from I.hok rr _ hq);exact call_len_set h1 h2 h3 h4 (by grind) ⟨.int _,H,(I.tok _),⟨_,rfl⟩,k⟩
theorem DV {K:Fg}{G:Hp}:∀{ds:List D} {vs:List V} {ns:List Int},intsOf ds=some ns->Dps K G ds vs->vs=ns.map V.int:=by
 intro ds
 induction ds with
 |nil=>intro vs ns h r;cases h;cases r;rfl
 |cons d r ih=>
  intro vs ns h q;cases d with
  |int i=>
   obtain⟨ms,h1,rfl⟩:=mx0 (h);cases q with
   |cons q1 q2=>cases q1;rw[ih h1 q2];rfl
  |_=>cases h
set_option tactic.hygienic true in
theorem oP (hcalm:X.calm=true)(B1:Blt X "len")(B2:Blt X "set")(h:biD .nset ds=some d)(ha:Ea X ρ fl3 [a] ds)(hs:isStar a=false):Ev X ρ (.Call (.Name "len" p) [.Call (.Name "set" p2) [a] [] q] [] pos) d:=by
 match ds,h with
 |[.list ls],h=>
  obtain⟨ns,h1,h2⟩:=bx0 (h);split at h2
  ·rename_i hz
   cases h2;intro pins s σ H Q I h0;obtain⟨G0,H0,G,E,k⟩:=h0;refine bT sU B1.g B1.m PySem.boot_len (aA (aX (sT hcalm) B2.g B2.m sS ha B2.n B2.d (af hs) rfl) aU rfl) B1.n B1.d rfl rfl pins s σ H Q I ?_;refine⟨G0,H0,G,E,fun vs G1 H1 e1 r1=>?_⟩;obtain⟨v,rfl,hv⟩:=r1.one;obtain⟨r,ws,rfl,h3,h4⟩:=hv.lst e1.gh;obtain rfl:=DV h1 h4;exact⟨r,ns,rfl,h3,hz,fun l hl=>⟨l,_,_,rfl,ae,Nat.lt_of_le_of_lt (mq ns) hz,k _ _ _ (e1.trans (.hid e1.gh hl)) (.int _)⟩⟩
  ·cases h2
end
end L2.Z
namespace SI
open PySem
theorem eC (x:Str):ltS x x=false:=by
 exact df0 (List.lt_irrefl _)
theorem gT {x y:Str}(h:x.cps.toList=y.cps.toList):x=y:=by
 cases x;simp_all
theorem fP {x y z:Str}(h1:ltS x y=true)(h2:ltS y z=true):ltS x z=true:=by
 exact dt0 (List.lt_trans (od0 h1) (od0 h2))
theorem jE {x y:Str}(h:x≠y)(h1:ltS x y=false):ltS y x=true:=by
 exact dt0 (Classical.byContradiction fun h2=>h (gT (List.le_antisymm (List.not_lt.mp h2) (List.not_lt.mp (of_decide_eq_false h1)))))
abbrev gp (l:List Str):Prop:=l.Pairwise fun a b=>ltS a b=true
set_option tactic.hygienic true
theorem mem_insS (x:Str):∀(l:List Str) (y:Str),y∈jc x l↔y=x\/y∈l
 |[],y=>by simp[jc]
 |z::r,y=>by
  unfold jc;split
  ·rename_i e;subst e;simp
  ·split
   ·simp
   ·rw[List.mem_cons,mem_insS x r y,List.mem_cons]
    exact⟨fun h=>h.elim (fun a=>.inr (.inl a)) fun h=>h.elim .inl fun a=>.inr (.inr a),fun h=>h.elim (fun a=>.inr (.inl a)) fun h=>h.elim .inl fun a=>.inr (.inr a)⟩
theorem jF (x:Str):∀l:List Str,gp l->gp (jc x l)
 |[],_=>by simp[jc]
 |z::r,h=>by
  obtain⟨h1,h2⟩:=List.pairwise_cons.mp h;unfold jc;split
  ·exact h
  ·rename_i ne
   split
   ·rename_i lt
    refine List.pairwise_cons.mpr ⟨fun b hb=>?_,h⟩;rcases mq0 hb with e|hb
    ·rwa [e]
    ·exact fP lt (h1 b hb)
   ·rename_i nlt
    refine List.pairwise_cons.mpr ⟨fun b hb=>?_,jF x r h2⟩;rcases (mem_insS x r b).mp hb with e|hb
    ·rw[e];exact jE ne (Bool.eq_false_iff.mpr nlt)
    ·exact h1 b hb
set_option tactic.hygienic false
theorem dj:∀(l:List Str) (y:Str),y∈srtS l↔y∈l
 |[],y=>by simp[srtS]
 |x::r,y=>by rw[srtS,mem_insS,dj r,List.mem_cons]
theorem fQ:∀l:List Str,gp (srtS l)
 |[]=>List.Pairwise.nil
 |x::r=>jF x _ (fQ r)
theorem qI:∀{l m:List Str},gp l->gp m->(∀y,y∈l↔y∈m)->l=m
 |[],[],_,_,_=>rfl
 |[],y::r,_,_,h=>absurd ((h y).mpr ms0) (by simp)
 |x::r,[],_,_,h=>absurd ((h x).mp ms0) (by simp)
 |x::r,y::q,h1,h2,h=>by
  obtain⟨a1,a2⟩:=List.pairwise_cons.mp h1;obtain⟨b1,b2⟩:=List.pairwise_cons.mp h2;have e:x=y:=by
   rcases mq0 ((h x).mp ms0) with e|m1
   ·exact e
   ·rcases mq0 ((h y).mpr ms0) with e|m2
    ·exact e.symm
    ·exact absurd (fP (b1 x m1) (a1 y m2)) (by rw[eC];simp)
  subst e;rw[qI a2 b2 fun z=>⟨fun m=>?_,fun m=>?_⟩]
  ·rcases mq0 ((h z).mp (mc0 _ m)) with e|m'
   ·subst e;exact absurd (a1 z m) (by rw[eC];simp)
   omega
  ·rcases mq0 ((h z).mpr (mc0 _ m)) with e|m'
   ·subst e;exact absurd (b1 z m) (by rw[eC];simp)
   omega
theorem mr (l:List Str):(srtS l).length≤l.length:=by
 induction l with
 |nil=>exact nr0 _
 |cons x r ih=>
  have:∀q:List Str,(jc x q).length≤q.length+1:=by
   intro q
   induction q with
   |nil=>exact nr0 _
   |cons y q ihq=>
    unfold jc;split
    ·exact Nat.le_succ _
    ·split
     ·exact nr0 _
     ·simp only[lc0];simp_all
  have:=this (srtS r);rw[srtS,lc0]
  grind
end SI
namespace L2.Z
open PySem PySem.Spec PyProof.Rows L2 L2.C SI
theorem zU {ss:List Str}(h:sortedS ss=true)(n:ss.Nodup):gp ss:=by
 have go:∀(l:List _) (p:Str),risingS p l=true->(p::l).Nodup->gp (p::l):=by
  intro l
  induction l with
  |nil=>intro p _ _;simp
  |cons x r ih=>
   intro p h n;have h:(!ltCps _ _&&risingS x r)=true:=h;rw[be0,Bool.not_eq_true',ltCps_eq] at h;obtain⟨n1,n2⟩:=List.nodup_cons.mp n;have rr:=ih x h.2 n2;have lt:=jE (fun e=>n1 (by rw[e];exact ms0)) h.1;refine List.pairwise_cons.mpr ⟨fun b hb=>?_,rr⟩;rcases mq0 hb with e|hb
   ·rwa [e]
   ·exact fP lt ((List.pairwise_cons.mp rr).1 b hb)
 cases ss with
 |nil=>simp
 |cons p l=>exact go l p h n
section
variable {X:Cx}{ρ:List Sl}{a e:Expr}{p p2 q pos:Pos}{d:D}{ds:List D}
def wb {prog:Program}{w:World}{κ:Type}[DecidableEq κ](kd:KD prog w κ)(l:Addr)(ks:List κ):Heap->Prop:=fun h=>∃xs ep,xs.map (·.1)=ks/\StrSet kd h l xs ep
theorem mv {κ:Type}{f:κ->V}{g:κ->Tok->Value}(fg:∀y u,RelV (f y) u->∃tk,u=g y tk):∀{ss:List κ} {us:List Value},Vals (ss.map f) us->us.length=ss.length/\∀(j:Nat) (x:κ),ss[j]?=some x->∃tk,us[j]?=some (g x tk):=by
 intro ss
 induction ss with
 |nil=>intro us h;cases h;exact⟨rfl,fun j x h=>by simp at h⟩
 |cons y r ih=>
  intro us h;cases h with
  |cons h1 h2=>
   obtain⟨a,b⟩:=ih h2;refine⟨by simp[a],fun j x h=>?_⟩;cases j with
   |zero=>
    simp at h;subst h;obtain⟨tk,rfl⟩:=fg _ _ h1;exact⟨tk,rfl⟩
   |succ j=>exact b j x (by simpa using h)
theorem sV {ss:List Str}{us:List Value}(h:Vals (ss.map V.str) us):us.length=ss.length/\∀(j:Nat) (x:Str),ss[j]?=some x->∃tk,us[j]?=some (.str x tk):=mv (f:=V.str) (fun a a h=>h) h
theorem dB {ss:List Int}{us:List Value}(h:Vals (ss.map V.int) us):us.length=ss.length/\∀(j:Nat) (x:Int),ss[j]?=some x->∃tk,us[j]?=some (.int x tk):=mv (f:=V.int) (fun a a h=>h) h
theorem eO:∀{us:List Value} {ss:List Str},StrsAre us ss->Vals (ss.map V.str) us
 |_,_,.nil=>.nil
 |_,_,.cons x t r=>.cons ⟨t,rfl⟩ (eO r)
theorem eP:∀{us:List Value} {ss:List Int},IntsAre us ss->Vals (ss.map V.int) us
 |_,_,.nil=>.nil
 |_,_,.cons x t r=>.cons ⟨t,rfl⟩ (eP r)
theorem jG {κ:Type}[DecidableEq κ][Inhabited κ](kd:KD X.prog X.w κ)(vv:κ->V)(hv:∀(ss:List κ) (us:List Value),Vals (ss.map vv) us->us.length=ss.length/\∀(j:Nat) (x:κ),ss[j]?=some x->∃tk,us[j]?=some (kd.vl x tk))(hc:X.calm=true):ba X (.type "set") (fun xs H Q=>∃(r:Addr) (ss:List κ),xs=[.ref r]/\SqL X.K H r (ss.map vv)/\ss.length<64/\∀l (ks:List κ),H l=none->ks.Nodup->(∀y,y∈ks↔y∈ss)->ks.length≤ss.length->Q (.ref l) (upd H l (.ext (wb kd l ks)))):=by
 intro pins s σ H xs us Q I r h;obtain⟨rr,ss,rfl,hq,hz,k⟩:=h;obtain⟨u,rfl,rx⟩:=vals1 r;cases rx;obtain⟨its,r',pl,_⟩:=I.list hq;obtain⟨v1,v2⟩:=hv _ _ r';refine jd (kd:=kd) (I.ok.hd hc) pl.isList (by rw[ls0,v1]) (by rw[ls0,v1];grind) (fun j x e=>by obtain⟨tk,e⟩:=v2 j x e;exact⟨tk,by simpa using e⟩) fun h' tk S ys ep fr hS nd mem len kk=>?_
 have gS:∃o,h'.get? S=some o:=let ⟨o,_,_,e,_⟩:=hS;⟨o,e⟩
 have hn:H S=none:=I.hok.fresh fr;refine⟨.ref S,_,I.laid (t':=tk) kk fr (show ObjOk X.prog X.w _ _ _ (.ext _) from⟨⟨ys,ep,rfl,hS⟩,gS,fun h1 h2 ⟨a,b,c,d⟩ k2=>⟨a,b,c,d.keep k2⟩⟩),rfl,k S (ys.map (·.1)) hn nd mem (by rw[lm0];exact len)⟩
theorem jH {pins:List (Addr×Obj)}{σ:St}{H:Hp}{s:Shared}(I:Inv X pins σ H s)(d:Drawn):Inv X pins σ H {s with drawn:=d}:=
 ⟨I.ok,I.os,I.bare,I.base,I.loc,I.cell,I.free,I.freeC,I.pin,I.hok,I.len⟩
theorem kN (hc:X.calm=true):ba X (.builtin "sorted") (fun xs H Q=>∃(l:Addr) (ks:List Str),xs=[.ref l]/\H l=some (.ext (wb (kdS X.prog X.w) l ks))/\ks.length<64/\∀r (ss:List Str),H r=none->ss.Perm ks->sortedS ss=true->Q (.ref r) (upd H r (.lst (ss.map V.str)))):=by
 intro pins s σ H xs us Q I r h;obtain⟨l,ks,rfl,hl,hz,k⟩:=h;obtain⟨u,rfl,rx⟩:=vals1 r;cases rx;obtain⟨⟨xs,ep,rfl,hS⟩,_⟩:=(I.hok l _ hl);refine gE (I.ok.hd hc) hS (by simp_all) fun h' tk d D out n ss kk gD fr sa pe so=>?_
 have hlen:(ss.map V.str).length≤sizeLine:=by
  rw[lm0,pe.length_eq,sizeLine_eq]
  grind
 refine⟨.ref D,_,((jH I d).laid kk fr (show ObjOk X.prog X.w _ _ _ (.lst _) from⟨hlen,_,n,eO sa,by omega⟩)),rfl,k D ss (I.hok.fresh fr) pe so⟩
theorem kP (hc:X.calm=true):ba X (.builtin "sorted") (fun xs H Q=>∃(l:Addr) (ks:List Int),xs=[.ref l]/\H l=some (.ext (wb (kdI X.prog X.w) l ks))/\ks.length≤2/\∀r (ns:List Int),H r=none->ns.Perm ks->ns.Pairwise (·≤·)->Q (.ref r) (upd H r (.lst (ns.map V.int)))):=by
 intro pins s σ H xs us Q I r h;obtain⟨l,ks,rfl,hl,hz,k⟩:=h;obtain⟨u,rfl,rx⟩:=vals1 r;cases rx;obtain⟨⟨xs,ep,rfl,hS⟩,_⟩:=(show ObjOk X.prog X.w H s.heap l (.ext _) from I.hok l _ hl);rw[lm0] at hz;refine fN (I.ok.hd hc) hS hz fun h' tk d D out n ss kk gD fr sa pe so=>?_
 have hlen:(ss.map V.int).length≤sizeLine:=by
  rw[lm0,pe.length_eq,lm0,sizeLine_eq];grind
 refine⟨.ref D,_,((jH I d).laid (s:={s with drawn:=d}) (t':=tk) kk fr (show ObjOk X.prog X.w _ _ _ (.lst _) from⟨hlen,out.toList,n,eP sa,by simpa using gD⟩)),rfl,k D ss (I.hok.fresh fr) pe so⟩
theorem eQ:bootBuiltins ("sorted":Str)=some (.builtin "sorted"):=rfl
theorem jI:bootBuiltins ("set":Str)=some (.type "set"):=rfl
theorem DW {K:Fg}{G:Hp}:∀{ds:List D} {vs:List V} {ss:List Str},strsOf ds=some ss->Dps K G ds vs->vs=ss.map V.str/\∀x∈ss,PyData.strOk x=true:=by
 intro ds
 induction ds with
 |nil=>intro vs ss h q;cases q;cases h;simp
 |cons d r ih=>
  intro vs ss h q;cases d with
  |str x=>
   obtain⟨ss,e,rfl⟩:=mx0 (h);cases q with
   |cons dd q=>
    obtain⟨e1,e2⟩:=ih e q;cases dd with
    |str _ ok=>
     refine⟨by rw[e1];rfl,fun y hy=>?_⟩;rcases mq0 hy with z|z<;>simp_all
  |_=>cases h
theorem wc {K:Fg}{G:Hp}:∀{ss:List Str},(∀x∈ss,PyData.strOk x=true)->Dps K G (ss.map .str) (ss.map V.str)
 |[],_=>.nil
 |x::r,h=>.cons (.str _ (h x ms0)) (wc fun y hy=>h y (mc0 _ hy))
theorem we {K:Fg}{G:Hp}:∀(ns:List Int),Dps K G (ns.map .int) (ns.map V.int)
 |[]=>.nil
 |x::r=>.cons (.int _) (we r)
theorem mw {K:Fg}{G:Hp}:∀(ns:List Int) {vs:List V},Dps K G (ns.map .int) vs->vs=ns.map V.int
 |[],_,.nil=>rfl
 |n::r,_,.cons q1 q2=>by cases q1;rw[mw r q2];rfl
set_option tactic.hygienic true
theorem zV {ds:List D}{d:D}(h:ou ds=some d):∃ns rs:List Int,ds=ns.map .int/\d=.list (rs.map .int)/\ns.length≤2/\rs.Nodup/\rs.Pairwise (·≤·)/\∀y,y∈rs↔y∈ns:=by
 unfold ou at h;split at h
 ·rename_i i;cases h;exact⟨[i],[i],rfl,rfl,by simp,by simp,by simp,fun y=>Iff.rfl⟩
 ·rename_i i j
  cases h
  by_cases c1:i=j
  ·subst c1;exact⟨[i,i],[i],rfl,by rw[if_pos rfl];rfl,by simp,by simp,by simp,fun y=>by simp⟩
  ·by_cases c2:i<j
   ·exact⟨[i,j],[i,j],rfl,by rw[if_neg c1,if_pos c2];rfl,by simp,by simpa using c1,by simp;omega,fun y=>Iff.rfl⟩
   ·exact⟨[i,j],[j,i],rfl,by rw[if_neg c1,if_neg c2];rfl,by simp,by simpa using fun z=>c1 z.symm,by simp;omega,fun y=>by simp[or_comm]⟩
 ·cases h
theorem sW (hcalm:X.calm=true)(B1:Blt X "sorted")(B2:Blt X "set")(h:biD .srt ds=some d)(ha:Ea X ρ fl3 [a] ds)(hs:isStar a=false):Ev X ρ (.Call (.Name "sorted" p) [.Call (.Name "set" p2) [a] [] q] [] pos) d:=by
 match ds,h with
 |[.list ls],h=>
  have h:(ou ls).or ((strsOf ls).bind fun ss=>if ss.length<64 then some (D.list ((srtS ss).map .str)) else Option.none)=some d:=h;have st:=af (env:=X.env) (es:=[]) hs;cases h0:ou ls with
  |some d'=>
   rw[h0] at h;cases h;obtain⟨ns,rs,rfl,rfl,hz,nd,so,mem⟩:=zV h0;intro pins s σ H Q I h0;obtain⟨G0,H0,G,E,k⟩:=h0;refine bT (kP hcalm) B1.g B1.m eQ (aA (aX (jG (kdI X.prog X.w) V.int (fun c c=>dB) hcalm) B2.g B2.m jI ha B2.n B2.d st rfl) aU rfl) B1.n B1.d rfl rfl pins s σ H Q I ?_;refine⟨G0,H0,G,E,fun vs G1 H1 e1 r1=>?_⟩;obtain⟨v,rfl,hv⟩:=r1.one;obtain⟨r,ws,rfl,h3,h4⟩:=hv.lst e1.gh;obtain rfl:=mw ns h4;refine⟨r,ns,rfl,SqL.of h3,by omega,fun l ks hl nd2 mem2 len=>?_⟩;refine⟨l,ks,rfl,ae,by exact nt0 ‹_› ‹_›,fun r2 ns2 hr2 pe so2=>?_⟩
   have e:ns2=rs:=((pe.trans ((List.perm_ext_iff_of_nodup nd2 nd).mpr fun y=>(mem2 y).trans (mem y).symm))).eq_of_pairwise (fun a b c c h1 h2=>Int.le_antisymm h1 h2) so2 so;subst e;have e2:Ext G1 H1 G1 (upd H1 l (.ext (wb (kdI X.prog X.w) l ks))):=.hid e1.gh hl;exact k _ _ _ (e1.trans (e2.trans (.laid e2.gh hr2))) (.list ae (we _))
  |none=>
   rw[h0] at h;obtain⟨ss,h1,h2⟩:=bx0 (show (strsOf ls).bind _=some d from h);have h2:(if ss.length<64 then some (D.list ((srtS ss).map .str)) else Option.none)=some d:=h2;split at h2
   ·rename_i hz
    cases h2;intro pins s σ H Q I h0;obtain⟨G0,H0,G,E,k⟩:=h0;refine bT (kN hcalm) B1.g B1.m eQ (aA (aX (jG (kdS X.prog X.w) V.str (fun c c=>sV) hcalm) B2.g B2.m jI ha B2.n B2.d st rfl) aU rfl) B1.n B1.d rfl rfl pins s σ H Q I ?_;refine⟨G0,H0,G,E,fun vs G1 H1 e1 r1=>?_⟩;obtain⟨v,rfl,hv⟩:=r1.one;obtain⟨r,ws,rfl,h3,h4⟩:=hv.lst e1.gh;obtain⟨rfl,oks⟩:=DW h1 h4;refine⟨r,ss,rfl,SqL.of h3,hz,fun l ks hl nd mem len=>?_⟩;refine⟨l,ks,rfl,ae,by exact Nat.lt_of_le_of_lt ‹_› ‹_›,fun r2 ss2 hr2 pe so=>?_⟩;have e:ss2=srtS ss:=qI (zU so (pe.nodup_iff.mpr nd)) (fQ ss) fun y=>pe.mem_iff.trans ((mem y).trans (dj ss y).symm)
    subst e;have e2:Ext G1 H1 G1 (upd H1 l (.ext (wb (kdS X.prog X.w) l ks))):=.hid e1.gh hl;exact k _ _ _ (e1.trans (e2.trans (.laid e2.gh hr2))) (.list ae ((wc fun x hx=>oks x ((dj ss x).mp hx)).mono (Same.refl _)))
   ·cases h2
set_option tactic.hygienic false
theorem fst_sound {x y:Str}{j:Nat}{p1:Pos}(ok:jx x=true)(ha:Er X ρ a (.str y))(hz:x.length+y.length≤big):Ev X ρ (.JoinedStr [.Constant (.str x) j p1,.FormattedValue a (.negSucc 0) Option.none p2] pos) (.str (x++y)):=by
 intro pins s σ H Q I h0;obtain⟨G0,H0,G,E,k⟩:=h0;rw[big_eq] at hz;have emp:(Str.empty++x:Str)=x:=gT (by show (Str.empty.cps++x.cps).toList=_;rw[Array.toList_append];rfl);refine wpAny_JoinedStr ?_;refine wpAny_Constant_str ?_;refine⟨x,_,rfl,by rw[emp];grind,?_⟩;rw[emp];show wpAny (model X.prog X.w) X.A (eval (.FormattedValue a (-1) Option.none p2) X.env) _ _ _;refine wpAny_FormattedValue_plain ?_;refine thn (ha pins _ σ H (fun v H1=>v=.str y/\Q (.str (x++y)) H1) (I.tok _) ⟨G0,H0,G,E,fun v G1 H1 e1 r1=>?_⟩) fun v s1 ⟨vv,H1,I1,rv,e,qq⟩=>?_
 ·obtain⟨e,oky⟩:=r1.str
  exact⟨e,k _ G1 H1 e1 (.str _ (eK (by rw[strOk_iff];exact fun c hc=>od0 (List.all_eq_true.mp ok c hc)) oky))⟩
 ·subst e
  obtain⟨tk,rfl⟩:=rv;have len:(x++y).length≤sizeLine:=by
   have:(x++y).length=x.length+y.length:=by show (x.cps++y.cps).size=_;rw[Array.size_append];rfl
   simp_all
  have fin:∀(t:Tok) (s2:Shared),Inv X pins σ H1 s2->∃y' t',Value.str y t=.str y' t'/\(x++y').length≤sizeLine/\Joins (model X.prog X.w) X.A X.xe [] (x++y') (fun out s₁=>out.length≤sizeLine/\EP X pins σ Q (.str out s₁.toks) {s₁ with toks:=s₁.toks+1}) s2:=
   fun t s2 I2=>⟨y,t,rfl,len,len,.str _,H1,I2.tok _,⟨_,rfl⟩,qq⟩
  exact wpAny_formatField_str (fin _ _ I1) (fin _ _ (I1.tok _)) (by grind)
end
section
variable {X:Cx}{ρ:List Sl}{a b c e o:Expr}{es:List Expr}{p pos apos:Pos}{d d1 d2 d3:D}{ds:List D}
theorem GJ {K:Fg}{G H:Hp}{v:V}(s:Same G H)(h:Dr K G H d v)(hd:∃b,jb "int" d=some b):∃T,eG K H v (.type T)/\(d=.none/\T="NoneType"\/(∃b,d=.bool b)/\T="bool"\/(∃i,d=.int i)/\T="int"\/(∃x,d=.str x)/\T="str"\/(∃l,d=.tuple l)/\T="tuple"\/(∃l,d=.list l)/\T="list"\/(∃l,d=.dict l)/\T="dict"):=by
 cases d with
 |none=>rw[h.none];exact⟨_,.non,.inl ⟨rfl,rfl⟩⟩
 |bool b=>rw[h.bool];exact⟨_,.bl b,.inr (.inl ⟨⟨b,rfl⟩,rfl⟩)⟩
 |int i=>rw[h.int];exact⟨_,.int i,.inr (.inr (.inl ⟨⟨i,rfl⟩,rfl⟩))⟩
 |str x=>rw[h.str.1];exact⟨_,.str x,.inr (.inr (.inr (.inl ⟨⟨x,rfl⟩,rfl⟩)))⟩
 |tuple l=>obtain⟨a,vs,rfl,h1,_⟩:=h.tup s;exact⟨_,.tup h1,.inr (.inr (.inr (.inr (.inl ⟨⟨l,rfl⟩,rfl⟩))))⟩
 |list l=>obtain⟨a,vs,rfl,h1,_⟩:=h.lst s;exact⟨_,.lst h1,.inr (.inr (.inr (.inr (.inr (.inl ⟨⟨l,rfl⟩,rfl⟩)))))⟩
 |dict l=>obtain⟨a,vs,rfl,h1,_⟩:=h.dct s;exact⟨_,.dK h1,.inr (.inr (.inr (.inr (.inr (.inr ⟨⟨l,rfl⟩,rfl⟩)))))⟩
 |scr=>obtain⟨_,z⟩:=hd;cases z
 |vlt=>obtain⟨_,z⟩:=hd;cases z
 |hdl=>obtain⟨_,z⟩:=hd;cases z
 |exc=>obtain⟨_,z⟩:=hd;cases z
theorem wg {T:String}:ba X (.builtin "isinstance") (fun vs H Q=>∃v t r,vs=[v,.ty T]/\eG X.K H v t/\PySem.W.kitOne X.K t (.type T)=some r/\Q (.bl r) H):=by
 intro pins s σ H xs us Q I r h;obtain⟨v,t,b,rfl,ty,hk,q⟩:=h;obtain⟨u,w',rfl,r1,r2⟩:=vals2 r;cases r2;exact rR I r1 ty hk fun tk=>⟨.bl b,H,I.tok tk,rfl,q⟩
theorem Ip {K:Fg}:∀T,T="NoneType"\/T="bool"\/T="int"\/T="str"\/T="tuple"\/T="list"\/T="dict"->∀U,U="int"\/U="str"\/U="list"\/U="tuple"\/U="bool"->
  PySem.W.kitOne K (.type T) (.type U)=some ((T==U)||(T=="bool"&&U=="int")):=by
 rintro T (rfl|rfl|rfl|rfl|rfl|rfl|rfl) U (rfl|rfl|rfl|rfl|rfl)<;>rfl
theorem my:bootBuiltins ("isinstance":Str)=some (.builtin "isinstance"):=rfl
set_option tactic.hygienic true in
theorem sX {x:Str}{T:String}(h:rZ x=some T):bootBuiltins x=some (.type T)/\(T="int"\/T="str"\/T="list"\/T="tuple"\/T="bool"):=by
 unfold rZ at h;split at h
 ·rename_i c;subst c;cases h;exact⟨PyProof.Rows.boot_int,.inl rfl⟩
 split at h
 ·rename_i c;subst c;cases h;exact⟨PyProof.Rows.boot_str,.inr (.inl rfl)⟩
 split at h
 ·rename_i c;subst c;cases h;exact⟨PyProof.Rows.boot_list,.inr (.inr (.inl rfl))⟩
 split at h
 ·rename_i c;subst c;cases h;exact⟨PyProof.Rows.boot_tuple,.inr (.inr (.inr (.inl rfl)))⟩
 split at h
 ·rename_i c;subst c;cases h;exact⟨PyProof.Rows.boot_bool,.inr (.inr (.inr (.inr rfl)))⟩
 ·cases h
theorem sY {x:Str}{T:String}{t:Bool}{px:Pos}(B:Blt X "isinstance")(Bx:Blt X x)(hT:rZ x=some T)(ha:Er X ρ a d)(hs:isStar a=false)(h:jb T d=some t):Ev X ρ (.Call (.Name "isinstance" p) [a,.Name x px] [] pos) (.bool t):=by
 obtain⟨hb,hU⟩:=sX hT;have pn:PE X (.Name x px) (tC (.ty T)):=pW Bx.g Bx.m hb rfl Bx.n Bx.d;intro pins s σ H Q I h0;obtain⟨G0,H0,G,E,k⟩:=h0;refine bT (wg (T:=T)) B.g B.m my (aA ha (aA pn aU rfl) (af hs)) (by decide) (by decide) (af hs) rfl pins s σ H Q I ⟨G0,H0,G,E,fun v G1 H1 e1 r1=>?_⟩;obtain⟨U,ty,alt⟩:=GJ e1.gh r1 (by cases d<;>first|exact⟨_,rfl⟩|cases h);refine⟨v,_,t,rfl,ty,?_,k _ G1 H1 e1 (.bool _)⟩;rcases alt with⟨rfl,rfl⟩|⟨⟨b,rfl⟩,rfl⟩|⟨⟨b,rfl⟩,rfl⟩|⟨⟨b,rfl⟩,rfl⟩|⟨⟨b,rfl⟩,rfl⟩|⟨⟨b,rfl⟩,rfl⟩|⟨⟨b,rfl⟩,rfl⟩<;>(cases h;rcases hU with rfl|rfl|rfl|rfl|rfl<;>rfl)
theorem mz {K:Fg}{G:Hp}:∀{ds:List D} {ys:List Str} {vs:List V},strsOf ds=some ys->Dps K G ds vs->vs=ys.map V.str/\∀y∈ys,PyData.strOk y=true
 |[],ys,vs,e,h=>by cases e;cases h;simp
 |.str x::r,ys,vs,e,h=>by
  obtain⟨q,e1,rfl⟩:=mx0 (e);cases h with
  |cons h t=>
   obtain⟨e2,o⟩:=mz e1 t;cases h with
   |str _ hy=>exact⟨by rw[e2];rfl,fun z hz=>(mq0 hz).elim (fun q=>q▸hy) (o z)⟩
 |.none::r,ys,vs,e,h=>by cases e
 |.bool _::r,ys,vs,e,h=>by cases e
 |.int _::r,ys,vs,e,h=>by cases e
 |.tuple _::r,ys,vs,e,h=>by cases e
 |.list _::r,ys,vs,e,h=>by cases e
 |.dict _::r,ys,vs,e,h=>by cases e
 |.scr _::r,ys,vs,e,h=>by cases e
 |.vlt ..::r,ys,vs,e,h=>by cases e
 |.hdl _::r,ys,vs,e,h=>by cases e
 |.exc _::r,ys,vs,e,h=>by cases e
theorem eR:∀{ys:List Str} {us:List Value},Vals (ys.map V.str) us->StrsAre us ys
 |[],_,.nil=>.nil
 |y::ys,_,.cons r t=>by
  obtain⟨tk,rfl⟩:=r;exact .cons y tk (eR t)
theorem join_codes (sep:Str):∀(ys:List Str) (c:Nat),c∈(Str.join sep ys).cps.toList->c∈sep.cps.toList\/∃y∈ys,c∈y.cps.toList
 |[],c,h=>by cases h
 |[y],c,h=>.inr ⟨y,ms0,h⟩
 |y::z::r,c,h=>by
  have e:(Str.join sep (y::z::r)).cps.toList=y.cps.toList++sep.cps.toList++(Str.join sep (z::r)).cps.toList:=by
   show (y.cps++sep.cps++(Str.join _ _).cps).toList=_;simp
  rw[e,List.mem_append,List.mem_append] at h;rcases h with (h|h)|h
  ·exact .inr ⟨y,ms0,h⟩
  ·exact .inl h
  ·rcases join_codes _ _ c h with q|⟨x,hx,q⟩
   ·exact .inl q
   ·exact .inr ⟨x,mc0 _ hx,q⟩
theorem oQ {sep:Str}{ys:List Str}(hs:PyData.strOk sep=true)(hy:∀y∈ys,PyData.strOk y=true):PyData.strOk (Txt.join sep ys)=true:=by
 rw[strOk_iff] at hs ⊢;intro c hc;have e:Txt.join _ ys=Str.join _ ys:=StrLaws.glued_eq_join sep ys;rw[e] at hc;rcases join_codes _ ys c hc with q|⟨y,h1,h2⟩
 ·exact hs c q
 ·exact strOk_iff.mp (hy y h1) c h2
def rJoin (K:Fg):V->List V->Hp->VK->Prop:=fun x vs H Q=>∃sep a ys,x=.str sep/\vs=[.ref a]/\SqL K H a (ys.map V.str)/\(ys.map (·.length)).sum+ys.length*sep.length≤16777216/\Q (.str (Txt.join sep ys)) H
theorem zW:MtR X "str.join" (rJoin X.K):=by
 intro pins s σ H x xs v us Q I rx rs h;obtain⟨sep,p,ys,rfl,rfl,hq,hz,q⟩:=h;obtain⟨t,rfl⟩:=rx;obtain⟨u,rfl,ru⟩:=Vals.one rs;cases ru;obtain⟨its,rv,pl,_⟩:=I.list hq;exact join_list pl.isList (by simpa using eR rv) hz fun t' k=>⟨.str _,H,I.tok k,⟨_,rfl⟩,q⟩
theorem base_of {name:Str}{env:Env}(h:bB o=false):attributeBase o name env (eval o env)=eval o env:=by
 have other:∀e:Expr,(∀id p pos,e≠.Call (.Name id p) [] [] pos)->attributeBase e name env (eval e env)=eval e env:=by
  intro e he;unfold attributeBase;simp
 by_cases c:∃id p pos,o=.Call (.Name id p) [] [] pos
 ·obtain⟨id,p,pos,rfl⟩:=c
  have hid:(id=="super")=false:=h;unfold attributeBase
  simp_all
 ·exact other o fun id p pos z=>c ⟨id,p,pos,z⟩
set_option tactic.hygienic true in
theorem mB {m:Str}{f:Mf}(hf:qv m=some f)(h:meD f d1 [d2]=some d)(ho:Er X ρ o d1)(ha:Er X ρ a d2)(hs:isStar a=false)(hsup:bB o=false)(hline:(apos.endLine==pos.line)=true):
  Ev X ρ (.Call (.Attribute o m apos) [a] [] pos) d/\(False->En X ρ (.Call (.Attribute o m apos) [a] [] pos) d):=by
 have hS:=af (es:=[]) (env:=X.env) hs;have few:∀pos:Pos,((backTo pos (starEach [a] X.env)).all (fun x=>!x.1)&&(backToKw pos (keywordEach [] X.env)).all (fun x=>x.1.isSome)
   &&decide ([a].length+([]:List Keyword).length+(if ([]:List Keyword).isEmpty then 0 else 1)<30))=true:=fun pos=>by rw[hS];rfl
 unfold qv at hf;split at hf
 ·rename_i c
  subst c;cases hf;refine⟨?_,fun z=>by cases z⟩;cases d1 with
  |str sep=>cases d2 with
   |list ls=>
    obtain⟨ys,e1,h⟩:=bx0 (show (strsOf ls).bind _=some d from h);split at h
    ·rename_i c
     cases h;intro pins s σ H Q I h0;obtain⟨G0,H0,G,E,k⟩:=h0;refine lI PySem.F.plainAttrs_str PySem.F.slot_str_join PySem.F.type_str_join zW ho (aA ha aU hS) (base_of hsup) (few pos) hline hS rfl pins s σ H Q I ⟨G0,H0,G,E,fun v G1 H1 e1 r1=>?_⟩;obtain⟨rfl,os⟩:=r1.str;refine⟨rfl,G0,H0,G1,E.step e1,fun w G2 H2 e2 r2=>?_⟩;obtain⟨p,vs,rfl,h1,r⟩:=r2.lst e2.gh;obtain⟨rfl,oy⟩:=mz (by assumption) r;exact⟨sep,p,ys,rfl,rfl,SqL.of h1,c,k _ G2 H2 (e1.trans e2) (.str _ (oQ os oy))⟩
    ·cases h
   |_=>cases h
  |_=>cases h
 split at hf
 ·rename_i c
  subst c;cases hf;refine⟨?_,fun z=>by cases z⟩;cases d1 with
  |list ls=>cases d2 with
   |bool b=>
    obtain⟨bs,hb,rfl⟩:=mx0 (show (boolsOf ls).map _=some d from h);intro pins s σ H Q I h0;obtain⟨G0,H0,G,E,k⟩:=h0;refine lI PySem.F.plainAttrs_list PySem.F.slot_list_count PySem.F.type_list_count sJ ho (aA ha aU hS) (base_of hsup) (few pos) hline hS rfl pins s σ H Q I ⟨G0,H0,G,E,fun v G1 H1 e1 r1=>?_⟩;obtain⟨p,vs,rfl,h1,r⟩:=r1.lst e1.gh;refine⟨.inl ⟨rfl,vs,SqL.of h1⟩,G0,H0,G1,E.step e1,fun w G2 H2 e2 r2=>?_⟩;obtain rfl:=r2.bool;obtain rfl:=dg hb r;exact⟨p,bs,b,rfl,rfl,SqL.of (e2.hh _ _ h1),k _ G2 H2 (e1.trans e2) (.int _)⟩
   |_=>cases h
  |_=>cases h
 split at hf
 ·rename_i c
  subst c;cases hf;refine⟨?_,fun z=>by cases z⟩;cases d1 with
  |list ls=>cases d2 with
   |bool b=>
    obtain⟨bs,hb,h⟩:=bx0 (show (boolsOf ls).bind _=some d from h);obtain⟨j,hj,rfl⟩:=mx0 h;intro pins s σ H Q I h0;obtain⟨G0,H0,G,E,k⟩:=h0;refine lI PySem.F.plainAttrs_list PySem.F.slot_list_index PySem.F.type_list_index sL ho (aA ha aU hS) (base_of hsup) (few pos) hline hS rfl pins s σ H Q I ⟨G0,H0,G,E,fun v G1 H1 e1 r1=>?_⟩;obtain⟨p,vs,rfl,h1,r⟩:=r1.lst e1.gh;refine⟨.inl ⟨rfl,vs,SqL.of h1⟩,G0,H0,G1,E.step e1,fun w G2 H2 e2 r2=>?_⟩;obtain rfl:=r2.bool;obtain rfl:=dg hb r;exact⟨p,bs,b,j,rfl,rfl,SqL.of (e2.hh _ _ h1),hj,k _ G2 H2 (e1.trans e2) (.int _)⟩
   |_=>cases h
  |_=>cases h
 ·cases hf
def Pur (K:Fg)(φ:Fn):Sp:=fun vs H Q a=>∃ds d G,φ.run ds=some d/\Same G H/\Das K G H φ.lent ds vs/\∀v G' H',Ext G H G' H'->Dp K G' d v->Q v H'
structure FnZ (P:Program)(w:World)(K:Fg)(mg:Str->Option Value)(base:Heap)(k:Nat)(x:Str)(φ:Fn):Prop where
 ex:∃f fd ps,mg x=some (.ref f)/\PySem.W.keepIn K (.ref f)=true/\Binds K fd ps []/\FnOk P w K mg base CX0 k f fd ps (Pur K φ)
theorem oR {x:Str}{k:Nat}{φ:Fn}(F:FnZ X.prog X.w X.K X.mg X.base k x φ)(hr:Room k X.A)(hg:Gl X x)(hd:(x==("__debug__":Str))=false)(ha:Ea X ρ φ.lent (e::es) ds)(h:φ.run ds=some d)(hs:aB (e::es)):
  Ev X ρ (.Call (.Name x p) (e::es) [] pos) d:=by
 obtain⟨f,fd,ps,hm,hk,hb,F⟩:=F.ex;intro pins s σ H Q I h0;obtain⟨G0,H0,G,E,k⟩:=h0;exact zc F hr hg hm hk hb .nil qk ha hd (af (hs e ms0)) (aG fun y hy=>hs y (mc0 _ hy)) _ s σ H Q I
  ⟨G0,H0,G,E,fun vs G1 H1 e1 r1=>⟨ds,d,G1,h,e1.gh,by simp_all,fun v G' H' e2 r2=>k v G' H' (e1.trans e2) r2⟩⟩
end
def Its (x:Str):It:=⟨fun i a=>i<x.cps.size,fun i H v H'=>H'=H/\∃c,x.cps[i]?=some c/\v=.str ⟨#[c]⟩,fun i a=>i=x.cps.size⟩
theorem wj {P:Program}{w:World}{K:Fg}{tg:Expr}{T:String}(it:Addr)(x:Str)(t:Tok)(hn:["enumerate","zip","dict_itemiterator","dict_reverseitemiterator","odict_iterator","itertools.zip_longest","itertools.pairwise"].contains T=false)
  (W:∀A:Around,A.handled=none->Walks P w A it [it] [it] x.cps.size (SignAt x) (fun i h=>h.IsStrIter it T x t i))
  (S:∀(A:Around) (i:Nat) (s:Shared) (Q:Value->Shared->Prop) (E:Value->Shared->Prop),s.heap.IsStrIter it T x t i->Q (.ref it) s->wpAny (model P w) A (pyIter (.ref it)) Q E s):Turn P w K tg (Its x) [it] it (fun i h=>h.IsStrIter it T x t i) where
 mem:=by simp
 obj:=fun i h st b hb=>by
  have e:b=it:=by simpa using hb
  subst e;obtain⟨o,e,c,d⟩:=st<;>simp_all
 keep:=fun i h h' st k=>by
  obtain⟨o,e,r⟩:=st;exact⟨o,k it (by simp) o e,r⟩
 item:=by
  intro X hP hw hK hc i pins s σ H E I hf st hg;subst hP hw hK;obtain⟨f0,f1,f2,f3,f4,f5⟩:=hf it (by simp);refine (W X.A (I.ok.hd hc)).item i s _ _ hg st fun v h' tk hv st' kk=>?_
  obtain⟨c,u,hc',rfl⟩:=hv;have I1:Inv X pins σ H {s with heap:=h',toks:=tk}:=I.turned (fun b o hb e=>kk b o (by simpa using hb) e) f0 f1 f3 f4 f5;obtain⟨o,e,c1,d1⟩:=id st';exact⟨_,rfl,qa (s:={s with heap:=h',toks:=tk}) e c1 d1 hn ⟨.str ⟨#[c]⟩,H,I1,⟨u,rfl⟩,⟨rfl,c,hc',rfl⟩,st',fun b hb=>(hf b hb).1⟩⟩
 done:=by
  intro X hP hw hK hc i pins s σ H E I hf st hg;subst hP hw hK;have hg:i=x.cps.size:=hg;subst hg;obtain⟨f0,f1,f2,f3,f4,f5⟩:=hf it (by simp);exact (W X.A (I.ok.hd hc)).done s _ _ st fun h' tk kk=>⟨rfl,I.turned (fun b o hb e=>kk b o (by simpa using hb) e) f0 f1 f3 f4 f5⟩
 self:=S
section
variable {X:Cx}{tg:Expr}
theorem wm {l:Expr}{tl:TE}(hl:PE X l tl):PI X tg l (fun σ H R=>tl σ H fun x H1=>∃t,x=.str t/\R (Its t) H1):=by
 intro pins s σ H R I h;refine thn (hl pins s σ H _ I h) ?_;rintro v s1 ⟨x,H1,I1,r1,q1⟩;obtain⟨a,e,q⟩:=q1;subst e;obtain⟨t,rfl⟩:=r1;have fin:∀(T:String) (o:Obj),["enumerate","zip","dict_itemiterator","dict_reverseitemiterator","odict_iterator","itertools.zip_longest","itertools.pairwise"].contains T=false->o={cls:=.type T,data:=.fields #[.str a t,.int 0 0]}->
   (∀A:Around,A.handled=none->Walks X.prog X.w A s1.heap.objs.size [s1.heap.objs.size] [s1.heap.objs.size] a.cps.size (SignAt a) (fun i h=>h.IsStrIter s1.heap.objs.size T a t i))->
   (∀(A:Around) (i:Nat) (s:Shared) (Q:Value->Shared->Prop) (E:Value->Shared->Prop),s.heap.IsStrIter s1.heap.objs.size T a t i->Q (.ref s1.heap.objs.size) s->wpAny (model X.prog X.w) A (pyIter (.ref s1.heap.objs.size)) Q E s)->PIE X pins σ tg R (.ref s1.heap.objs.size) {s1 with heap:=s1.heap.push o}:=fun T o hn ho W S=>by
  subst ho;refine⟨s1.heap.objs.size,[s1.heap.objs.size],_,_,H1,rfl,I1.kept (t':=s1.toks) fun b o e=>ps0 _ e,wj _ a t hn W S,⟨_,pz0 _ rfl,rfl,rfl⟩,fun b hb=>?_,q⟩;have e:b=s1.heap.objs.size:=by simpa using hb
  subst e;exact I1.fpOk (nr0 _) (I1.hok.fresh (nr0 _))
 cases ha:a.cps.all (·<128)
 ·exact wpAny_pyIter_wide ha (fin _ _ (by decide) rfl (fun A hA=>Walks.strWide hA _ a t) fun c c c c c st h=>wpAny_pyIter_striter_wide st h)
 ·exact wpAny_pyIter_ascii ha (fin _ _ (by decide) rfl (fun A hA=>Walks.strAscii hA _ a t) fun c c c c c st h=>wpAny_pyIter_striter_ascii st h)
end
def tEk (K:Fg)(ρ:List Sl)(d:D):TE:=fun σ H Q=>∃G0 H0 G,EnvD K G0 H0 G H σ ρ/\∀v G' H',Ext G H G' H'->Dr K G' H0 d v->Q v H'
def Ek (X:Cx)(ρ:List Sl)(e:Expr)(d:D):Prop:=PE X e (tEk X.K ρ d)
section
variable {X:Cx}{ρ:List Sl}{a b c e o iter:Expr}{es:List Expr}{p pos apos:Pos}{d d1 d2 d3:D}{ds:List D}
theorem Ev.ek {e:Expr}(h:Ev X ρ e d):Ek X ρ e d:=by rintro pins s σ H Q I ⟨G0,H0,G,E,k⟩;exact h pins s σ H Q I ⟨G0,H0,G,E,fun v G' H' e r=>k v G' H' e (.of r)⟩
theorem Dr.monoG {K:Fg}{G G' H:Hp}{v:V}(s:Same G G'):Dr K G H d v->Dr K G' H d v
 |.of h=>.of (h.mono s)
 |.list h r=>.list h (r.mono s)
 |.dict h r=>.dict h (r.mono s)
 |.vlt h1 h2 r=>.vlt h1 h2 (r.mono s)
theorem DX (i:Nat){x:Str}{pos:Pos}(h:(ρ[i]?).bind (aQ .walk)=some d)(hN:X.N[i]?=some x)(hv:Vis X.env.scope x)(hd:(x==("__debug__":Str))=false)(hcd:(x==("__classdict__":Str))=false):Ek X ρ (.Name x pos) d:=fun pins s σ H Q I ⟨G0,H0,G,E,k⟩=>by
 obtain⟨sl,h1,h2⟩:=bx0 h;have:∃v,σ[i]?=some (some v)/\Dr X.K G H0 d v:=by
  cases sl with
  |no=>cases h2
  |dat d'=>cases h2;obtain⟨v,a,b⟩:=E.dat i d h1;exact⟨v,a,.of b⟩
  |lent d'=>cases h2;obtain⟨v,a,b⟩:=E.lent i d h1;exact⟨v,a,b.monoG E.ext.gg⟩
  |own d'=>cases h2
  |deep rows=>cases h2
 obtain⟨v,e,r⟩:=this;exact cq hN hv hd hcd _ s σ H Q I ⟨v,e,k v G H (.refl E.sub) r⟩
structure gq (K:Fg)(G1 Hb:Hp)(J:It)(ds:List D):Prop where
 go:∀i H',i<ds.length->Same G1 H'->Same Hb H'->J.go i H'
 yld:∀i G' H' x H2 d,ds[i]?=some d->Same G1 G'->Same G' H'->Same Hb H'->J.yld i H' x H2->∃G2,Ext G' H' G2 H2/\Dp K G2 d x
 stop:∀H',Same G1 H'->Same Hb H'->J.stop ds.length H'
theorem src_list {K:Fg}{G1 Hb:Hp}{a:Addr}{vs:List V}(hq:∀H',Same G1 H'->Same Hb H'->SqL K H' a vs)(r:Dps K G1 ds vs):gq K G1 Hb (Itl K a) ds where
 go:=fun i H' hi hs hb=>by
  have hl:i<vs.length:=by rwa [←r.length]
  exact⟨vs,_,hq H' hs hb,ge0 hl⟩
 yld:=fun i G' H' x H2 b hb g1 g2 g3 y=>by
  obtain⟨e,y⟩:=y;subst e;have:=y vs (hq _ (g1.trans g2) g3);obtain⟨v,e,d⟩:=r.get hb;rw[this] at e;cases e;exact⟨G',.refl g2,d.mono g1⟩
 stop:=fun H' hs hb=>⟨vs,hq H' hs hb,by rw[←r.length];simp⟩
theorem qJ {K:Fg}{G1 Hb:Hp}{a:Addr}{vs:List V}(hq:∀H',Same G1 H'->Same Hb H'->SqT K H' a vs)(r:Dps K G1 ds vs):gq K G1 Hb (Itt K a) ds where
 go:=fun i H' hi hs hb=>by
  have hl:i<vs.length:=by rwa [←r.length]
  exact⟨vs,_,hq H' hs hb,ge0 hl⟩
 yld:=fun i G' H' x H2 b hb g1 g2 g3 y=>by
  obtain⟨e,y⟩:=y;subst e;have:=y vs (hq _ (g1.trans g2) g3);obtain⟨v,e,d⟩:=r.get hb;rw[this] at e;cases e;exact⟨G',.refl g2,d.mono g1⟩
 stop:=fun H' hs hb=>⟨vs,hq H' hs hb,by rw[←r.length];simp⟩
theorem src_range {K:Fg}{G1 Hb:Hp}(lo:Int)(n:Nat):gq K G1 Hb (Itr lo n) ((List.range n).map fun (k:Nat)=>.int (lo+k)) where
 go:=fun i H' hi a a=>by rwa [lm0,lr0] at hi
 yld:=fun i G' H' x H2 b hb g1 g2 a y=>by
  obtain⟨e,y⟩:=y;subst e y;have hi:i<n:=by have:=(List.getElem?_eq_some_iff.mp hb).1;simp_all
  rw[gm0,List.getElem?_range hi] at hb;cases hb;exact⟨G',.refl g2,.int _⟩
 stop:=fun H' a a=>by show n≤_;simp
theorem qK {K:Fg}{G1 Hb:Hp}{x:Str}(ok:PyData.strOk x=true):gq K G1 Hb (Its x) (x.cps.toList.map fun c=>.str ⟨#[c]⟩) where
 go:=fun i H' hi a a=>by rwa [lm0] at hi
 yld:=fun i G' H' v H2 b hb g1 g2 a y=>by
  obtain⟨e,c,hc,y⟩:=y;subst e y;rw[gm0,Array.getElem?_toList,hc] at hb;cases hb;refine⟨G',.refl g2,.str _ (jB ?_)⟩;rw[←Array.getElem?_toList] at hc;exact strOk_iff.mp ok c (mg0 hc)
 stop:=fun H' a a=>by show _=x.cps.size;simp
theorem iB {K:Fg}{G:Hp}:∀ns:List Int,Dps K G (ns.map .int) (ns.map V.int)
 |[]=>.nil
 |n::r=>.cons (.int n) (iB r)
def tSi (K:Fg)(ρ:List Sl)(wk:Bool)(ds:List D):TI:=fun σ H R=>∃G0 H0 G,EnvD K G0 H0 G H σ ρ/\∀J G' H',Ext G H G' H'->gq K G' (if wk then H0 else H') J ds->R J H'
def Si (X:Cx)(ρ:List Sl)(wk:Bool)(iter:Expr)(ds:List D):Prop:=∀tg,PI X tg iter (tSi X.K ρ wk ds)
theorem wo {ds':List D}{d:D}(h:bV d=some ds')(hk:Ek X ρ iter d):Si X ρ true iter ds':=by
 intro tg pins s σ H R I h0;obtain⟨G0,H0,G,E,k⟩:=h0;cases d with
 |list ls=>
  cases h;refine gJ hk pins s σ H R I ⟨G0,H0,G,E,fun v G1 H1 e1 r1=>?_⟩;cases r1 with
  |of r1=>cases r1 with
   |list hq r=>exact⟨_,rfl,⟨_,SqL.of (e1.gh _ _ hq)⟩,k _ G1 H1 e1 (src_list (fun H' g a=>SqL.of (g _ _ hq)) r)⟩
  |list hq r=>exact⟨_,rfl,⟨_,SqL.of (((E.step e1).ext.hh) _ _ hq)⟩,k _ G1 H1 e1 (src_list (fun H' a g=>SqL.of (g _ _ hq)) r)⟩
 |tuple ls=>
  cases h;refine uE hk pins s σ H R I ⟨G0,H0,G,E,fun v G1 H1 e1 r1=>?_⟩;cases r1 with
  |of r1=>cases r1 with
   |tuple hq r=>exact⟨_,rfl,⟨_,SqT.of (e1.gh _ _ hq)⟩,k _ G1 H1 e1 (qJ (fun H' g a=>SqT.of (g _ _ hq)) r)⟩
 |scr ns=>
  cases h;refine gJ hk pins s σ H R I ⟨G0,H0,G,E,fun v G1 H1 e1 r1=>?_⟩;cases r1 with
  |of r1=>cases r1 with
   |scr hq=>exact⟨_,rfl,⟨_,e1.gh.seq hq⟩,k _ G1 H1 e1 (src_list (fun H' g a=>g.seq hq) (iB ns))⟩
 |str x=>
  rw[items_str] at h;split at h
  ·cases h
   refine wm hk pins s σ H R I ⟨G0,H0,G,E,fun v G1 H1 e1 r1=>?_⟩;obtain⟨rfl,ok⟩:=r1.str;exact⟨_,rfl,k _ G1 H1 e1 (qK ok)⟩
  ·cases h
 |_=>cases h
theorem sZ {ds':List D}{d:D}(h:bV d=some ds')(hk:Er X ρ iter d):Si X ρ false iter ds':=by
 intro tg pins s σ H R I h0;obtain⟨G0,H0,G,E,k⟩:=h0;cases d with
 |list ls=>
  cases h;refine gJ hk _ s σ H R I ⟨G0,H0,G,E,fun v G1 H1 e1 r1=>?_⟩;obtain⟨p,vs,rfl,hq,r⟩:=r1.lst e1.gh;exact⟨_,rfl,⟨_,SqL.of hq⟩,k _ G1 H1 e1 (src_list (fun H' a g=>SqL.of (g _ _ hq)) r)⟩
 |tuple ls=>
  cases h;refine uE hk _ s σ H R I ⟨G0,H0,G,E,fun v G1 H1 e1 r1=>?_⟩;obtain⟨p,vs,rfl,hq,r⟩:=r1.tup e1.gh;exact⟨_,rfl,⟨_,SqT.of hq⟩,k _ G1 H1 e1 (qJ (fun H' a g=>SqT.of (g _ _ hq)) r)⟩
 |scr ns=>
  cases h;refine gJ hk _ s σ H R I ⟨G0,H0,G,E,fun v G1 H1 e1 r1=>?_⟩;obtain⟨p,rfl,hq⟩:=r1.scr e1.gh;exact⟨_,rfl,⟨_,hq⟩,k _ G1 H1 e1 (src_list (fun H' a g=>g.seq hq) (iB ns))⟩
 |str x=>
  rw[items_str] at h;split at h
  ·cases h
   refine wm hk _ s σ H R I ⟨G0,H0,G,E,fun v G1 H1 e1 r1=>?_⟩;obtain⟨rfl,ok⟩:=r1.str;exact⟨_,rfl,k _ G1 H1 e1 (qK ok)⟩
  ·cases h
 |_=>cases h
theorem wq {n:Int}(h:rOk n=true):-(2 ^ 62)≤n/\n<2 ^ 62:=by
 unfold rOk at h
 simp_all
theorem tf {wk:Bool}{n:Int}{p pos:Pos}(B:Blt X "range")(ha:Ev X ρ a (.int n))(h:rOk n=true)(hs:isStar a=false):Si X ρ wk (.Call (.Name "range" p) [a] [] pos) ((List.range n.toNat).map fun (k:Nat)=>.int k):=by
 have e:((List.range n.toNat).map fun (k:Nat)=>D.int k)=(List.range n.toNat).map fun k=>.int (0+k):=by simp
 rw[e];intro tg pins s σ H R I h0;obtain⟨G0,H0,G,E,k⟩:=h0;refine rK B.g B.m (iq (fl:=[]) ha oF hs) (by rw[af hs];rfl) _ s σ H R I ⟨G0,H0,G,E,fun vs G1 H1 e1 r1=>?_⟩;obtain⟨v,rfl,hv⟩:=r1.one;exact⟨n,by rw[hv.int],(wq h).1,(wq h).2,k _ G1 H1 e1 (src_range 0 _)⟩
end
section
variable {X:Cx}{ρ:List Sl}{a b c e o iter tg:Expr}{es:List Expr}{p pos apos:Pos}{d d1 d2 d3:D}{ds:List D}
end
end L2.Z
namespace PySem
namespace F
end F
section
variable {prog:Program}{w:World}{A:Around}{E:Value->Shared->Prop}{s:Shared}
end
end PySem
namespace L2.Z
open PySem PySem.Spec PyProof.Rows L2 L2.C SI
section
variable {X:Cx}{ρ:List Sl}{a b c e o iter tg:Expr}{es:List Expr}{p pos apos:Pos}{d d1 d2 d3:D}{ds:List D}
end
end L2.Z
namespace PySem
section
variable {prog:Program}{w:World}{A:Around}{E:Value->Shared->Prop}{s:Shared}
theorem fR {a b:Addr}{h h':Heap}{o:Option Obj}(sb:Heap.SameBut a h h')(hn:b≠a)(e:h.get? b=o):h'.get? b=o:=(sb.2 b hn).trans e
namespace F
end F
end
end PySem
namespace L2.Z
open PySem PySem.Spec PyProof.Rows L2 L2.C SI
section
variable {X:Cx}{pins:List (Addr×Obj)}{σ:St}{H:Hp}{s:Shared}{h':Heap}
theorem zX {t':Nat}{fp:List Addr}(I:Inv X pins σ H s)(hf:∀b∈fp,eE X pins H b)(k:∀b o,b∉fp->s.heap.get? b=some o->h'.get? b=some o):Inv X pins σ H {s with heap:=h',toks:=t'}:=by
 have nit:∀b u,H b=some u->b∉fp:=fun b u e z=>by rw[(hf b z).1] at e;cases e
 refine I.step (fun b hb=>?_) (fun b o a a hc e a=>k b o hc e) (fun b o a a hc e a=>⟨_,k b o hc e⟩) (fun a a a a n=>n)
  (fun b o hc e=>⟨o,k b o hc e⟩) (fun a a e=>e) (fun a a a e=>e) (fun b ps e=>⟨#[],by simp_all⟩) (fun m hm=>?_) (fun b u e=>?_) I.bare
 ·obtain⟨_,f1,f2,f3,f4,f5⟩:=hf b hb
  exact⟨f3,f1,f4,f5⟩
 ·obtain⟨o,es,ep,ho,r⟩:=hm
  exact⟨o,es,ep,k _ o (fun z=>(hf _ z).2.1 rfl) ho,r⟩
 ·refine (I.hok b u e).stay (fun c v hc q=>k c v ?_ q) (fun a q=>q) fun a a q=>q
  rcases hc with z|z
  ·rw[z];exact nit b u e
  ·exact nit c _ z
theorem wt {t':Nat}{fp:List Addr}{T:Addr}{o:HO}(I:Inv X pins σ H s)(hf:∀b∈fp,eE X pins H b)(k:∀b o,b∉fp->s.heap.get? b=some o->h'.get? b=some o)(hT:s.heap.objs.size≤T)
  (new:ObjOk X.prog X.w (upd H T o) h' T o):Inv X pins σ (upd H T o) {s with heap:=h',toks:=t'}:=by
 have nit:∀b u,H b=some u->b∉fp:=fun b u e z=>by rw[(hf b z).1] at e;cases e
 have nT:∀b u,s.heap.get? b=some u->b≠T:=fun b u e z=>by subst z;exact absurd (nl0 (hs0 e) hT) (li0 _)
 have nH:∀b u,H b=some u->b≠T:=fun b u e z=>by subst z;exact absurd (nl0 (I.hok b u e).lt hT) (li0 _)
 refine I.step (ch:=fp) (fun b hb=>?_) (fun b o a a hc e a=>k b o hc e) (fun b o a a hc e a=>⟨o.slots,k b o hc e⟩) (fun b o a e n=>by rw[aa (nT b o e)];exact n)
  (fun b o hc e=>⟨o,k b o hc e⟩) (fun b a e=>by rw[aa (nH b _ e)];exact e) (fun b a a e=>by rw[aa (nH b _ e)];exact e) (fun b ps e=>⟨#[],by rw[aa (nH b _ e),e];simp⟩) (fun m hm=>?_) (fun b u e=>?_) I.bare
 ·obtain⟨_,f1,f2,f3,f4,f5⟩:=hf b hb
  exact⟨f3,f1,f4,f5⟩
 ·obtain⟨o,es,ep,ho,r⟩:=hm
  exact⟨o,es,ep,k _ o (fun z=>(hf _ z).2.1 rfl) ho,r⟩
 ·by_cases hb:b=T
  ·subst hb
   rw[ae] at e
   simp_all
  ·rw[aa hb] at e
   refine (I.hok b u e).stay (fun c v hc q=>k c v ?_ q) (fun c q=>by rw[aa (nH c _ q)];exact q) fun c a q=>by rw[aa (nH c _ q)];exact q
   rcases hc with z|z
   ·rw[z];exact nit b u e
   ·exact nit c _ z
end
theorem eD {h:Heap}{a b:Addr}{o u:Obj}(ha:h.get? a=some o)(hb:h.get? b=some u)(hc:o.cls≠u.cls):a≠b:=fun e=>by grind
section
variable {X:Cx}{ρ:List Sl}{a b c:Expr}{p pos:Pos}
theorem boot_zip:bootBuiltins ("zip":Str)=some (.type "zip"):=rfl
end
def Itp (K:Fg)(l1 l2:Addr)(n:Nat):It:=
 ⟨fun i H=>i<n/\∃xs ys,SqL K H l1 xs/\SqL K H l2 ys/\n≤xs.length/\ys.length=n,
  fun i H x H'=>∃T,x=.ref T/\H T=none/\∀xs ys,SqL K H l1 xs->SqL K H l2 ys->∃a b,xs[i]?=some a/\ys[i]?=some b/\H'=upd H T (.tup [a,b]),
  fun i H=>i=n/\∃xs ys,SqL K H l1 xs/\SqL K H l2 ys/\ys.length=n⟩
def Pst (z TI TO i1 i2 l1 l2:Addr)(i:Nat)(h:Heap):Prop:=
 IsZip h z TI TO .none/\IsPair h TI (.ref i1) (.ref i2)/\(∃a b,IsPair h TO a b)/\h.IsListIter i1 l1 i/\h.IsListIter i2 l2 i
theorem iC {h:Heap}{z TI TO i1 i2 l1 l2:Addr}{a b:Value}{k1 k2:Nat}{xs ys:Array Value}(hTT:TI≠TO)(h12:i1≠i2)(hz:IsZip h z TI TO .none)(ht:IsPair h TI (.ref i1) (.ref i2))(ho:IsPair h TO a b)
  (q1:h.IsListIter i1 l1 k1) (q2:h.IsListIter i2 l2 k2) (p1:h.IsList l1 xs) (p2:h.IsList l2 ys):ZipApart z TI TO i1 i2 l1 l2:=by
 obtain⟨o1,e1,c1,_⟩:=q1;obtain⟨o2,e2,c2,_⟩:=q2;obtain⟨o3,e3,c3,_⟩:=p1;obtain⟨o4,e4,c4,_⟩:=p2;have cz:∀{x:Addr} {o:Obj},h.get? x=some o->o.cls≠.type _->x≠z:=fun e hn=>eD e hz hn
 have ct:∀{x:Addr} {o:Obj},h.get? x=some o->o.cls≠.type "tuple"->x≠TO:=fun e hn=>eD e ho hn
 have cI:∀{x:Addr} {o:Obj},h.get? x=some o->o.cls≠.type "tuple"->x≠TI:=fun e hn=>eD e ht hn
 exact⟨cz ht (show Value.type "tuple"≠Value.type "zip" by decide),cz ho (show Value.type "tuple"≠Value.type "zip" by decide),cz e1 (by rw[c1];decide),cz e2 (by rw[c2];decide),hTT,(cI e1 (by rw[c1];decide)).symm,(cI e2 (by rw[c2];decide)).symm,
  (ct e1 (by rw[c1];decide)).symm,(ct e2 (by rw[c2];decide)).symm,h12,cz e3 (by rw[c3];decide),ct e3 (by rw[c3];decide),eD e3 e1 (by rw[c3,c1];decide),eD e3 e2 (by rw[c3,c2];decide),
  cz e4 (by rw[c4];decide),ct e4 (by rw[c4];decide),eD e4 e1 (by rw[c4,c1];decide),eD e4 e2 (by rw[c4,c2];decide)⟩
theorem tq {P:Program}{w:World}{K:Fg}{elts:List Expr}{tk:Nat}{tpos:Pos}{z TI TO i1 i2 l1 l2:Addr}(n:Nat)(hTT:TI≠TO)(h12:i1≠i2):
  Turn P w K (.Tuple elts tk tpos) (Itp K l1 l2 n) [z,TI,TO,i1,i2] z (Pst z TI TO i1 i2 l1 l2) where
 mem:=by simp
 obj:=fun i h st b hb=>by
  obtain⟨hz,ht,⟨a,c,ho⟩,⟨o1,e1,c1,d1⟩,⟨o2,e2,c2,d2⟩⟩:=st;simp only[List.mem_cons,List.not_mem_nil,or_false] at hb;rcases hb with rfl|rfl|rfl|rfl|rfl
  ·exact⟨_,hz,fun v q=>by cases q⟩
  ·exact⟨_,ht,fun v q=>by cases q⟩
  ·exact⟨_,ho,fun v q=>by cases q⟩
  ·exact⟨_,e1,fun v q=>by rw[d1] at q;cases q⟩
  ·exact⟨_,e2,fun v q=>by rw[d2] at q;cases q⟩
 keep:=fun i h h' st k=>by
  obtain⟨hz,ht,⟨a,c,ho⟩,q1,q2⟩:=st;exact⟨k _ (by simp) _ hz,k _ (by simp) _ ht,⟨a,c,k _ (by simp) _ ho⟩,q1.at (k _ (by simp)),q2.at (k _ (by simp))⟩
 item:=by
  intro X hP hw hK hc i pins s σ H E I hf st hg;subst hP hw hK;obtain⟨hi,xs,ys,s1,s2,n1,n2⟩:=hg;obtain⟨it1,rv1,p1,z1⟩:=I.list s1;obtain⟨it2,rv2,p2,z2⟩:=I.list s2;have g1:xs[i]?=some (xs[i]'(by omega)):=ge0 _;have g2:ys[i]?=some (ys[i]'(by omega)):=ge0 _;generalize xs[i]'(by exact nt0 ‹_› ‹_›)=va at g1;generalize ys[i]'(by omega)=vb at g2;obtain⟨u1,hu1,ru1⟩:=rv1.get g1;obtain⟨u2,hu2,ru2⟩:=rv2.get g2;obtain⟨hz,ht,⟨a,b,ho⟩,q1,q2⟩:=st;have ap:=iC hTT h12 hz ht ho q1 q2 p1.isList p2.isList;refine wpAny_pyNext_zip_item ap hz ht ho q1 q2 p1.isList p2.isList (x:=u1) (y:=u2) (by simpa using hu1) (by simpa using hu2) fun h1 a1 a3 a4 a5 a7 a8 a9=>⟨_,rfl,?_⟩
  refine wpAny_letOwnedTupleGo_zip a1 fun h2 b1 sb=>?_
  have nz:s.heap.objs.size≠z:=fun e=>by have:=hs0 hz;rw[←e] at this;exact absurd this (li0 _)
  have kk:∀b o,b∉[z,TI,TO,i1,i2]->s.heap.get? b=some o->h2.get? b=some o:=fun b o hb e=>by
   simp only[List.mem_cons,List.not_mem_nil,or_false,not_or] at hb;exact fR sb hb.1 (a9 b o hb.1 hb.2.2.1 hb.2.2.2.1 hb.2.2.2.2 e)
  have I2:=wt (h':=h2) (t':=s.toks) (o:=.tup [va,vb]) I hf kk (nr0 _) ⟨(show 2≤sizeLine by decide),[u1,u2],.cons ru1 (.cons ru2 .nil),⟨_,fR sb nz a7,rfl,_,rfl⟩⟩;refine⟨.ref s.heap.objs.size,_,I2,rfl,⟨_,rfl,I.fresh,fun xs' ys' t1 t2=>⟨va,vb,by rw[I.list_inj t1 s1];exact g1,by rw[I.list_inj t2 s2];exact g2,rfl⟩⟩,?_,fun b hb=>?_⟩
  ·exact⟨b1,fR sb ap.TIz (a9 TI _ ap.TIz ap.TITO ap.TIi1 ap.TIi2 ht),⟨_,_,fR sb ap.TOz a3⟩,a4.at fun o e=>fR sb ap.i1z e,a5.at fun o e=>fR sb ap.i2z e⟩
  ·have hb0:=(hf b hb).1
   rw[aa]
   ·exact hb0
   ·intro e
    have hlt:∃o,s.heap.get? b=some o:=by
     simp only[List.mem_cons,List.not_mem_nil,or_false] at hb;obtain⟨o1,e1,_⟩:=q1;obtain⟨o2,e2,_⟩:=q2;rcases hb with rfl|rfl|rfl|rfl|rfl
     ·exact⟨_,hz⟩
     ·exact⟨_,ht⟩
     ·exact⟨_,ho⟩
     ·exact⟨_,e1⟩
     ·exact⟨_,e2⟩
    obtain⟨o,eo⟩:=hlt;have:=hs0 eo;rw[e] at this;exact absurd this (li0 _)
 done:=by
  intro X hP hw hK hc i pins s σ H E I hf st hg;subst hP hw hK;obtain⟨rfl,xs,ys,s1,s2,n2⟩:=hg;obtain⟨it1,rv1,p1,z1⟩:=I.list s1;obtain⟨it2,rv2,p2,z2⟩:=I.list s2;obtain⟨hz,ht,⟨a,b,ho⟩,q1,q2⟩:=st;have ap:=iC hTT h12 hz ht ho q1 q2 p1.isList p2.isList;have hx:it2.toArray[i]?=none:=by
   have:=rv2.length;simp;simp_all
  exact wpAny_pyNext_zip_end (I.ok.hd hc) ap hz ht ho q1 q2 p1.isList p2.isList (.inr hx) fun h' a1=>⟨rfl,zX (t':=s.toks) (fp:=[z,TI,TO,i1,i2]) I hf fun b o hb eb=>a1 b o (fun q=>hb (by simp[q])) (fun q=>hb (by simp[q])) (fun q=>hb (by simp[q])) (fun q=>hb (by simp[q])) eb⟩
 self:=fun d d d d d st h=>PySem.wpAny_pyIter_zip st.1 h
section
variable {X:Cx}{ρ:List Sl}{a b c:Expr}{p pos:Pos}
theorem wu {ls ms:List D}:∀{i:Nat} {d:D},(zip2 ls ms)[i]?=some d->∃x y,ls[i]?=some x/\ms[i]?=some y/\d=.tuple [x,y]:=by
 induction ls generalizing ms with
 |nil=>intro i d h;simp_all
 |cons x r ih=>
  intro i d h;cases ms with
  |nil=>simp_all
  |cons y q=>cases i with
   |zero=>simp only[zip2,List.getElem?_cons_zero,Option.some.injEq] at h;exact⟨x,y,rfl,rfl,h.symm⟩
   |succ i=>exact ih h
theorem mC {ls ms:List D}(h1:ms.length≤ls.length):(zip2 ls ms).length=ms.length:=by
 induction ls generalizing ms with
 |nil=>simp_all
 |cons x r ih=>
  cases ms<;>simp_all
theorem wx {K:Fg}{G1 Hb:Hp}{l1 l2:Addr}{vs us:List V}{ls ms:List D}(h1:Hb l1=some (.lst vs))(h2:Hb l2=some (.lst us))(r1:Dps K G1 ls vs)(r2:Dps K G1 ms us)
  (e1:ms.length≤ls.length):gq K G1 Hb (Itp K l1 l2 ms.length) (zip2 ls ms) where
 go:=fun i H' hi hs hb=>⟨by rwa [mC e1] at hi,vs,us,SqL.of (hb _ _ h1),SqL.of (hb _ _ h2),by rwa [←r1.length],r2.length.symm⟩
 yld:=fun i G' H' x H2 d hd g1 g2 g3 y=>by
  obtain⟨T,rfl,hT,y⟩:=y;obtain⟨a,b,y1,y2,rfl⟩:=y vs us (SqL.of (g3 _ _ h1)) (SqL.of (g3 _ _ h2));obtain⟨x1,x2,k1,k2,rfl⟩:=wu hd;obtain⟨v1,w1,d1⟩:=r1.get k1;obtain⟨v2,w2,d2⟩:=r2.get k2;rw[y1] at w1;cases w1;rw[y2] at w2;cases w2;have ex:Ext G' H' _ (upd H' T (.tup [a,b])):=.laid g2 hT;exact⟨_,ex,.tuple ae (.cons ((d1.mono g1).mono ex.gg) (.cons ((d2.mono g1).mono ex.gg) .nil))⟩
 stop:=fun H' hs hb=>⟨mC e1,vs,us,SqL.of (hb _ _ h1),SqL.of (hb _ _ h2),r2.length.symm⟩
theorem zY {ls ms:List D}{elts:List Expr}{tk:Nat}{tpos:Pos}(B:Blt X "zip")(hA:Ea X ρ [true,true,true] [a,b] [.list ls,.list ms])(hst:aB [a,b])(e1:ms.length≤ls.length):
  PI X (.Tuple elts tk tpos) (.Call (.Name "zip" p) [a,b] [] pos) (tSi X.K ρ false (zip2 ls ms)):=by
 intro pins s σ H R I h0;obtain⟨G0,H0,G,E,k⟩:=h0;refine Call_ (ld_blt I B.g B.m boot_zip (PyProof.Rows.callWith_type1 (thn (hA pos pins s σ H _ I ⟨G0,H0,G,E,fun vs G1 H1 e1 r1=>(⟨G1,e1,r1⟩:∃G1,Ext G H G1 H1/\Das X.K G1 H1 [true,true,true] [.list ls,.list ms] vs)⟩) fun us s1 ⟨vs,H1,I1,r1,q1⟩=>?_) (af (hst a (by simp))) (aG (es:=[b]) fun x hx=>hst x (mc0 _ hx))));obtain⟨G1,x1,q1⟩:=q1;obtain⟨v,w,rfl,d1,d2⟩:=q1.two;obtain⟨l1,vs1,rfl,hq1,rr1⟩:=d1.lst x1.gh;obtain⟨l2,vs2,rfl,hq2,rr2⟩:=d2.lst x1.gh;cases r1 with
 |cons r rr=>cases rr with
  |cons r' rr=>
   cases rr;cases r;cases r';obtain⟨it1,_,p1,_⟩:=I1.list (SqL.of hq1);obtain⟨it2,_,p2,_⟩:=I1.list (SqL.of hq2);refine PySem.call_zip_2 p1.isList p2.isList fun h' a1 a2 a3 a4 a5 a7 a8=>?_
   refine PySem.wpAny_pyIter_zip a1 ⟨_,[_,_,_,_,_],_,_,H1,rfl,I1.kept (t':=s1.toks) a8,tq ms.length (nn0 (by simp_all)) (nn0 (by simp_all)),⟨a1,a2,⟨_,_,a3⟩,a4,a5⟩,fun b hb=>?_,k _ G1 H1 x1 (wx hq1 hq2 rr1 rr2 e1)⟩;have hle:s1.heap.objs.size≤b:=by
    simp only[List.mem_cons,List.not_mem_nil,or_false] at hb;rcases hb with rfl|rfl|rfl|rfl|rfl<;>first|exact Nat.le_add_right _ _|exact nr0 _
   exact I1.fpOk hle (I1.hok.fresh hle)
end
section
variable {prog:Program}{w:World}{A:Around}{E:Value->Shared->Prop}{s:Shared}
theorem jJ {it t:Addr}{items:Array Value}(hne:t≠it):∀(n i:Nat) (s:Shared) (Q:List Value->Shared->Prop),s.heap.IsListIter it t i->s.heap.IsList t items->i+n≤items.size->
  (∀h',h'.IsListIter it t (i+n)->Heap.SameBut it s.heap h'->Q ((items.toList.drop i).take n) {s with heap:=h'})->wpAny (model prog w) A (draw (.ref it) n) Q E s
 |0,i,s,Q,hit,_,_,hQ=>by
  show wpAny _ _ (pure []) Q E s;exact wpAny_pure (by simpa using hQ s.heap hit (Heap.SameBut.refl ..))
 |n+1,i,s,Q,hit,ht,hle,hQ=>by
  have hlt:i<items.size:=by grind
  show wpAny _ _ (pyNext (.ref it) >>= _) Q E s;refine wpAny_bind (wpAny_pyNext_list_item hit ht (x:=items[i]) (by simp[hlt]) fun h₁ hit₁ hs₁=>?_);have ht₁:h₁.IsList t items:=by
   obtain⟨o,ho,r⟩:=ht;exact⟨o,(hs₁.2 t hne).trans ho,r⟩
  refine wpAny_bind (wpAny_holding (jJ hne n (i+1) _ _ hit₁ ht₁ (by grind) fun h₂ hit₂ hs₂=>wpAny_pure ?_));have hd:items.toList.drop i=items[i]::items.toList.drop (i+1):=by simp[List.drop_eq_getElem_cons,hlt]
  have:=hQ h₂ (by rw[show i+(n+1)=i+1+n by grind];exact hit₂) (hs₁.trans hs₂);rw[hd,List.take_succ_cons] at this;exact this
theorem fT {t:Addr}{items:Array Value}{Q:List Value->Shared->Prop}(hh:A.handled=none)(ht:s.heap.IsList t items)
  (hQ:∀h',Heap.ExtBut s.heap.objs.size s.heap h'->Q items.toList {s with heap:=h'}):wpAny (model prog w) A (unpackItems (.ref t) items.size none) Q E s:=by
 have hlt:t≠s.heap.objs.size:=by obtain⟨o,ho,_⟩:=ht;exact nn0 (hs0 ho)
 unfold unpackItems;refine wpAny_bind ?_;unfold notIterableAtAll;refine wpAny_bind (wpAny_specialOf ht.typeIs PySem.F.slot_list_iter.lookup ?_);refine wpAny_pure ?_;simp only[Bool.false_eq_true,if_false];refine wpAny_bind (wpAny_holding (wpAny_pyIter_list ht ?_));have ht0:(s.heap.push {cls:=.type "list_iterator",data:=.fields #[.ref t,.int 0 0]}).IsList t items:=by
  obtain⟨o,ho,r⟩:=ht;exact⟨o,ps0 _ ho,r⟩
 refine wpAny_bind (wpAny_holding (jJ hlt items.size 0 _ _ ⟨_,pz0 _ rfl,rfl,rfl⟩ ht0 (by simp_all) fun h₁ hit₁ hs₁=>?_));have hall:List.take items.size (List.drop 0 items.toList)=items.toList:=by
  rw[List.drop_zero];exact List.take_of_length_le (by simp)
 rw[hall];rw[if_neg (by simp)];have ht₁:h₁.IsList t items:=by
  obtain⟨o,ho,r⟩:=ht0;exact⟨o,(hs₁.2 t hlt).trans ho,r⟩
 refine wpAny_bind (wpAny_holding (wpAny_pyNext_list_end hh hit₁ ht₁ (by simp) fun h₂ he₂=>?_));simp only[Option.isSome_none,Bool.false_eq_true,if_false];exact wpAny_pure (hQ h₂ fun b o hb e=>he₂ b o hb (hs₁.extBut b o hb (ps0 _ e)))
theorem eT {env:Env}{elts:List Expr}{x1}{pos:Pos}{t:Addr}{items:Array Value}{Q:Unit->Shared->Prop}(hh:A.handled=none)(ht:s.heap.IsList t items)
  (hn:(assignEach elts env).length=items.size) (hstar:(assignEach elts env).findIdx? (·.1)=none)
  (h:∀h',Heap.ExtBut s.heap.objs.size s.heap h'->wpAny (model prog w) A (assignInOrder ((assignEach elts env).map (·.2)) items.toList) Q E {s with heap:=h'}):
  wpAny (model prog w) A (assign (.Tuple elts x1 pos) env (.ref t)) Q E s:=by
 refine wpAny_bind (wpAny_standAt ?_);unfold unpack;rw[hn,hstar];exact wpAny_bind (wpAny_holding (fT hh ht h))
end
def Jc (K:PySem.W.Frag)(n:Nat)(t:TGs):TG:=fun v σ H Q=>∃a xs,v=.ref a/\SqL K H a xs/\xs.length=n/\t xs σ H Q
theorem wy {X:Cx}{pos:Pos}{es:List Expr}{k:Nat}{t:TGs}{n:Nat}(hc:X.calm=true)(h:PGs X es t)(hn:(assignEach es X.env).length=n)(hst:(assignEach es X.env).findIdx? (·.1)=none):PG X (.Tuple es k pos) (Jc X.K n t):=by
 intro pins s σ H v u Q I r hw;obtain⟨a,xs,e1,hq,hl,hw⟩:=hw;subst e1;cases r;obtain⟨its,rv,ht,hz⟩:=I.list hq;exact eT (I.ok.hd hc) ht.isList (by simp[hn,←hl,rv.length]) hst fun h' hx=>h _ _ σ H xs _ Q (I.kept fun b o e=>hx b o (nn0 (hs0 e)) e) (by omega) hw
def Tgj (X:Cx)(tg:Expr)(t:Tg):Prop:=∀d,PG X tg (fun v σ H Q=>∃G0 H0 G ρ ρ',EnvD X.K G0 H0 G H σ ρ/\Dp X.K G d v/\au t d ρ=some ρ'/\∀σ',EnvD X.K G0 H0 G H σ' ρ'->Q σ' H)
section
variable {X:Cx}{ρ:List Sl}{a b c e o iter elt tg:Expr}{es ifs:List Expr}{p pos apos px:Pos}{d d1 d2 d3:D}{ds:List D}
theorem mD {i:Nat}{x:Str}(hN:X.N.Nodup)(hi:X.N[i]?=some x)(hx:Loc X.env.scope x)(hf:X.fn x=true\/X.env.scope.names.lookup x=some .local):Tgj X (.Name x px) (.one i):=
 fun d pins s σ H v u Q I r ⟨G0,H0,G,ρ,ρ',env,dv,hb,k⟩=>by
  cases hb;exact pY hN hi hx hf _ s σ H v u Q I r (k _ (env.set (by rw[I.len];exact (List.getElem?_eq_some_iff.mp hi).1) dv))
structure DY (X:Cx)(x:Str)(i:Nat):Prop where
 at':X.N[i]?=some x
 loc:Loc X.env.scope x
 fn:X.fn x=true\/X.env.scope.names.lookup x=some .local
inductive Nms (X:Cx):List Expr->List Nat->Prop
 |nil:Nms X [] []
 |cons {x:Str} {px:Pos} {i:Nat} {es:List Expr} {is:List Nat}:DY X x i->Nms X es is->Nms X (.Name x px::es) (i::is)
theorem Nms.each {env:Env}:∀{es:List Expr} {is:List Nat},Nms X es is->(assignEach es env).length=is.length/\(assignEach es env).findIdx? (·.1)=Option.none
 |_,_,.nil=>⟨rfl,rfl⟩
 |_,_,.cons (es:=es) _ r=>by
  obtain⟨h1,h2⟩:=Nms.each r;refine⟨?_,?_⟩
  ·show (assignEach es _).length+1=_
   rw[h1];rfl
  ·show List.findIdx? _ ((false,_)::assignEach es _)=_
   rw[List.findIdx?_cons];simp[h2]
def Jd (X:Cx)(ts:List Expr)(is:List Nat):Prop:=∀ds,ds.length=is.length->PGs X ts (fun vs σ H Q=>∃G0 H0 G ρ,EnvD X.K G0 H0 G H σ ρ/\Dps X.K G ds vs/\∀σ',EnvD X.K G0 H0 G H σ' ((is.zip ds).foldl (fun ρ p=>ρ.set p.1 (.dat p.2)) ρ)->Q σ' H)
theorem GK {ts:List Expr}{is:List Nat}(hN:X.N.Nodup)(h:Nms X ts is):Jd X ts is:=by
 induction h with
 |nil=>
  intro ds hl pins s σ H vs us Q I r h0;obtain⟨G0,H0,G,ρ,env,dv,k⟩:=h0;have:=List.eq_nil_of_length_eq_zero hl;subst this;cases dv;exact pZ _ s σ H [] us Q I r ⟨rfl,k σ env⟩
 |@cons x px i es is h1 h2 ih=>
  intro ds hl pins s σ H vs us Q I r h0;obtain⟨G0,H0,G,ρ,env,dv,k⟩:=h0;cases ds with
  |nil=>cases hl
  |cons d ds=>
   cases dv with
   |cons d1 d2=>
    exact lA (mD hN h1.at' h1.loc h1.fn d) (ih ds (by simpa using hl)) rfl _ s σ H _ us Q I r
     ⟨_,_,rfl,G0,H0,G,ρ,_,env,d1,rfl,fun σ' env'=>⟨G0,H0,G,_,env',d2,fun σ2 env2=>k _ env2⟩⟩
set_option tactic.hygienic true in
theorem zZ {ts:List Expr}{is:List Nat}{n:Nat}(hc:X.calm=true)(hN:X.N.Nodup)(h:Nms X ts is):Tgj X (.Tuple ts n pos) (.tup is):=by
 intro d pins s σ H v u Q I r h0;obtain⟨G0,H0,G,ρ,ρ',env,dv,hb,k⟩:=h0;cases d with
 |tuple ds=>
  rw[fJ] at hb;split at hb
  ·rename_i hl
   cases hb;cases dv with
   |tuple hq dr=>
    obtain⟨e1,e2⟩:=h.each (env:=X.env);exact uB hc (GK hN h ds hl.symm) e1 e2 pins s σ H _ u Q I r ⟨_,_,rfl,SqT.of (env.sub _ _ hq),by rw[←dr.length];exact hl.symm,G0,H0,G,ρ,env,dr,k⟩
  ·cases hb
 |list ds=>
  rw[fK] at hb;split at hb
  ·rename_i hl
   cases hb;cases dv with
   |list hq dr=>
    obtain⟨e1,e2⟩:=h.each (env:=X.env);exact wy hc (GK hN h ds hl.symm) e1 e2 pins s σ H _ u Q I r ⟨_,_,rfl,SqL.of (env.sub _ _ hq),by rw[←dr.length];exact hl.symm,G0,H0,G,ρ,env,dr,k⟩
  ·cases hb
 |_=>cases hb
section
variable {K:Fg}{G0 H0 G H:Hp}{σ:St}{tn:List Str}{js:List Nat}
theorem blk_at {i:Nat}{sl:Sl}(h:(SI.blk tn.length js ρ)[i]?=some sl):sl=.no\/∃j,js[i-tn.length]?=some j/\tn.length≤i/\sl=lend (ρ[j]?.getD .no):=by
 unfold SI.blk at h
 by_cases hi:i<tn.length
 ·rw[gl0 (by simp_all),List.getElem?_replicate,if_pos hi] at h
  simp_all
 ·rw[List.getElem?_append_right (by simp;omega)] at h
  cases q:js[i-tn.length]?<;>simp_all
theorem kQ {i j:Nat}(h:tn.length≤i)(e:js[i-tn.length]?=some j):(gz tn js σ)[i]?=some (σ[j]?).join:=by
 unfold gz;rw[List.getElem?_append_right (by simpa using h),gm0,lm0,e];rfl
def eU (ρ:List Sl):Prop:=(∀(i:Nat) d,ρ[i]?≠some (.own d))/\∀(i:Nat) rows,ρ[i]?≠some (.deep rows)
theorem jw {sl:Sl}{rows:List (List D)}:lend sl≠.deep rows:=by cases sl<;>(simp)
theorem lO {sl:Sl}{d:D}:lend sl≠.own d:=by cases sl<;>(simp)
theorem blk_noOwn:eU (SI.blk tn.length js ρ):=⟨fun i d h=>by
 rcases blk_at h with h|⟨j,_,_,h⟩
 ·cases h
 ·exact lO h.symm,fun i d h=>by
 rcases blk_at h with h|⟨j,_,_,h⟩
 ·cases h
 ·exact jw h.symm⟩
theorem EnvD.blk (E:EnvD K G0 H0 G H σ ρ):EnvD K G H G H (gz tn js σ) (SI.blk tn.length js ρ):=by
 have slot:∀{j:Nat} {sl:Sl},lend (ρ[j]?.getD .no)=sl->sl≠.no->∃s,ρ[j]?=some s/\lend s=sl:=fun {j sl} h hn=>by
  cases r:ρ[j]? with
  |none=>rw[r] at h;exact absurd h.symm hn
  |some s=>rw[r] at h;exact⟨s,rfl,h⟩
 refine⟨.refl E.sub,by simp[gz,SI.blk],fun i d h=>?_,fun i d h=>?_,fun i ds h=>(blk_noOwn.1 i ds h).elim,fun i a ds a a h=>(blk_noOwn.1 i ds h).elim,fun i rows h=>(blk_noOwn.2 i rows h).elim⟩
 ·rcases blk_at h with h|⟨j,e1,hi,h⟩
  ·cases h
  obtain⟨s,e2,h⟩:=slot h.symm (by simp);cases s with
  |dat d'=>
   cases h;obtain⟨v,e3,r⟩:=E.dat j d e2;exact⟨v,by rw[kQ hi e1,e3];rfl,r⟩
  |_=>cases h
 ·rcases blk_at h with h|⟨j,e1,hi,h⟩
  ·cases h
  obtain⟨s,e2,h⟩:=slot h.symm (by simp);cases s with
  |lent d'=>
   cases h;obtain⟨v,e3,r⟩:=E.lent j d e2;exact⟨v,by rw[kQ hi e1,e3];rfl,r.ext E.ext⟩
  |own d'=>
   cases h;obtain⟨q,e3,_,_,r⟩:=E.own j d e2;exact⟨_,by rw[kQ hi e1,e3];rfl,r.dr⟩
  |_=>cases h
theorem EnvD.touch {p:Addr}{o:HO}(E:EnvD K G0 H0 G H σ ρ)(hn:eU ρ)(hg:G p=none)(h0:H0 p=none)(hi:notIns o=true:=by rfl):EnvD K G0 H0 G (upd H p o) σ ρ:=
 ⟨⟨fun b u e=>by rw[aa (aq e h0)];exact E.ext.hh b u e,E.ext.gg,fun b u e=>by rw[aa (aq e hg)];exact E.ext.gh b u e,E.ext.nw,fun x C dx fs e=>E.ext.ni x C dx fs (cJ hi x C dx fs e)⟩,E.len,E.dat,E.lent,fun i ds h=>(hn.1 i ds h).elim,fun i a ds a a h=>(hn.1 i ds h).elim,fun i rows h=>(hn.2 i _ h).elim⟩
theorem EnvD.forget {ρ':List Sl}(E:EnvD K G0 H0 G H σ ρ)(hl:ρ'.length=ρ.length)(h:∀(i:Nat) sl,ρ'[i]?=some sl->sl=.no\/ρ[i]?=some sl):EnvD K G0 H0 G H σ ρ':=
 ⟨E.ext,by rw[hl];exact E.len,fun i d e=>(h i _ e).elim (fun z=>by cases z) (E.dat i d),fun i d e=>(h i _ e).elim (fun z=>by cases z) (E.lent i d),fun i d e=>(h i _ e).elim (fun z=>by cases z) (E.own i d),
  fun i j d e p h1 h2 h3 h4=>(h i _ h1).elim (fun z=>by cases z) fun h1=>(h j _ h2).elim (fun z=>by cases z) fun h2=>E.apart i j d e p h1 h2 h3 h4,fun i rows e=>(h i _ e).elim (fun z=>by cases z) fun e=>let ⟨a,b,c⟩:=E.deep i _ e;⟨a,fun j d q=>(h j _ q).elim (fun z=>by cases z) (b j d),fun j r q=>(h j _ q).elim (fun z=>by cases z) (c j r)⟩⟩
end
theorem tu {t:Tg}{n:Nat}{ρ ρ':List Sl}(ht:gC t n=true)(hb:au t d ρ=some ρ'):ρ'.length=ρ.length/\(∀i,n≤i->ρ'[i]?=ρ[i]?)/\(eU ρ->eU ρ'):=by
 have one:∀{i:Nat} {ρ:List Sl} {d:D},i<n->(ρ.set i (.dat d)).length=ρ.length/\(∀j,n≤j->(ρ.set i (.dat d))[j]?=ρ[j]?)/\(eU ρ->eU (ρ.set i (.dat d))):=fun {i ρ d} hi=>
  ⟨by simp,fun j hj=>gn0 (by grind),fun h=>⟨fun j e hj=>by
   rcases getE_set hj with⟨_,q⟩|⟨_,q⟩
   ·cases q
   ·exact h.1 j e q,fun j e hj=>by
   rcases getE_set hj with⟨_,q⟩|⟨_,q⟩
   ·cases q
   ·exact h.2 j e q⟩⟩
 have fold:∀(ps:List (Nat×D)) (ρ:List Sl),(∀p∈ps,p.1<n)->(ps.foldl (fun ρ p=>ρ.set p.1 (.dat p.2)) ρ).length=ρ.length/\(∀j,n≤j->(ps.foldl (fun ρ p=>ρ.set p.1 (Sl.dat p.2)) ρ)[j]?=ρ[j]?)/\(eU ρ->eU (ps.foldl (fun ρ p=>ρ.set p.1 (Sl.dat p.2)) ρ)):=by
  intro ps
  induction ps with
  |nil=>intro ρ _;exact⟨rfl,fun c c=>rfl,fun h=>h⟩
  |cons q r ih=>
   intro ρ hp;obtain⟨a1,a2,a3⟩:=one (ρ:=ρ) (d:=q.2) (hp q ms0);obtain⟨b1,b2,b3⟩:=ih (ρ.set q.1 (.dat q.2)) fun x hx=>hp x (mc0 _ hx)
   exact⟨b1.trans a1,fun j hj=>(b2 j hj).trans (a2 j hj),fun h=>b3 (a3 h)⟩
 have mem:∀{is:List Nat} {ds:List D},(is.all fun i=>decide (i<n))=true->∀p∈is.zip ds,p.1<n:=fun h p hp=>od0 (List.all_eq_true.mp h p.1 (List.of_mem_zip (a:=p.1) (b:=p.2) hp).1)
 cases t with
 |one i=>cases hb;exact one (od0 ht)
 |tup is=>
  cases d with
  |tuple ds=>
   rw[fJ] at hb;split at hb
   ·cases hb;exact fold _ _ (mem ht)
   ·cases hb
  |list ds=>
   rw[fK] at hb;split at hb
   ·cases hb;exact fold _ _ (mem ht)
   ·cases hb
  |_=>cases hb
def Ecs (X:Cx)(ρ:List Sl)(ifs:List Expr)(t:Bool):Prop:=PCs X ifs (tEt X.K ρ t)
theorem Aa:Ecs X ρ [] true:=by rintro pins s σ H Q I ⟨G0,H0,G,E,k⟩;exact zm pins s σ H Q I (k G H (.refl E.sub))
theorem Ab {t:Bool}(h:Et X ρ c t):Ecs X ρ [c] t:=zo h
theorem iD (f:D->Option (Option D)):∀(xs:List D) (d:D),aM f (xs++[d])=(aM f xs).bind fun a=>(f d).map fun o=>a++o.toList
 |[],d=>by
  show (f d).bind _=_;cases f d with
  |none=>rfl
  |some o=>cases o<;>rfl
 |x::r,d=>by
  show (f x).bind _=((f x).bind _).bind _;cases f x with
  |none=>rfl
  |some o=>
   show (aM f (r++[d])).map _=((aM f r).map _).bind _;rw[iD f r d];cases aM f r with
   |none=>rfl
   |some q=>cases f d with
    |none=>rfl
    |some u=>cases o<;>rfl
theorem oU {f:D->Option (Option D)}{ds out:List D}(h:aM f ds=some out):∀i≤ds.length,∃q,aM f (ds.take i)=some q:=by
 have key:∀(xs ys:List D) (out:List D),aM f (xs++ys)=some out->∃q,aM f xs=some q:=by
  intro xs
  induction xs with
  |nil=>intro ys out _;exact⟨_,rfl⟩
  |cons x r ih=>
   intro ys out h;obtain⟨o,h1,h2⟩:=bx0 (h);obtain⟨q,h3,h4⟩:=mx0 h2;obtain⟨q',h5⟩:=ih ys q h3;exact⟨_,by show (f x).bind _=_;rw[h1,h5];rfl⟩
 exact fun i hi=>key _ (ds.drop i) out (by simp_all)
theorem jK {f:D->Option (Option D)}:∀{ds out:List D},aM f ds=some out->out.length≤ds.length
 |[],out,h=>by cases h;exact nr0 _
 |x::r,out,h=>by
  obtain⟨o,h1,h2⟩:=bx0 (h);obtain⟨q,h3,h4⟩:=mx0 h2;have:=jK h3;subst h4;cases o<;>simp<;>omega
def teC (X:Cx)(scope:Scope)(N:List Str)(e:Expr):TE:=fun σ H Q=>∀C s0 H0 fp pins s,Inv (L2.C.blk X scope N C s0 H0 fp) pins σ H s->wpAny (model X.prog X.w) X.A (eval e (L2.C.blk X scope N C s0 H0 fp).env) (EP (L2.C.blk X scope N C s0 H0 fp) pins σ Q) (fun a a=>False) s
def tcC (X:Cx)(scope:Scope)(N:List Str)(ifs:List Expr):TT:=fun σ H Q=>∀C s0 H0 fp pins s,Inv (L2.C.blk X scope N C s0 H0 fp) pins σ H s->wpAny (model X.prog X.w) X.A (kC ifs (L2.C.blk X scope N C s0 H0 fp).env) (TP (L2.C.blk X scope N C s0 H0 fp) pins σ Q) (fun a a=>False) s
def tgC (X:Cx)(scope:Scope)(N:List Str)(tg:Expr):TG:=fun v σ H Q=>∀C s0 H0 fp pins s u,Inv (L2.C.blk X scope N C s0 H0 fp) pins σ H s->RelV v u->wpAny (model X.prog X.w) X.A (assign tg (L2.C.blk X scope N C s0 H0 fp).env u) (fun a s'=>∃σ' H',Inv (L2.C.blk X scope N C s0 H0 fp) pins σ' H' s'/\Q σ' H') (fun a a=>False) s
structure iE (X:Cx)(Φ:Fs)(Γ:List (Str×D))(scope:Scope)(N:List Str)(tg:Expr)(t:Tg)(ifs:List Expr)(ifs':Es)(elt:Expr)(elt':E):Prop where
 tgt:∀(C:Addr) (s:Shared) (H:Hp) (fp:List Addr),Tgj (L2.C.blk X scope N C s H fp) tg t
 test:∀(C:Addr) (s:Shared) (H:Hp) (fp:List Addr) ρ b,evC Φ Γ ρ ifs'=some b->Ecs (L2.C.blk X scope N C s H fp) ρ ifs b
 elt:∀(C:Addr) (s:Shared) (H:Hp) (fp:List Addr) ρ d,ev Φ Γ .val ρ elt'=some d->Ev (L2.C.blk X scope N C s H fp) ρ elt d
variable {Φ:Fs}{Γ:List (Str×D)}{scope:Scope}{tn:List Str}{js:List Nat}{t:Tg}{ifs':Es}{elt':E}{out:List D}
abbrev gr (Φ:Fs)(Γ:List (Str×D))(n:Nat)(js:List Nat)(t:Tg)(ifs':Es)(elt':E)(ρ:List Sl):D->Option (Option D):=
 fun d=>(au t d (SI.blk n js ρ)).bind fun ρ'=>(evC Φ Γ ρ' ifs').bind fun b=>if b then (ev Φ Γ .val ρ' elt').map some else some none
theorem fU {σ:St}{G0 H0 G1 H1:Hp}{J:It}{Q:VK}(hi:gq X.K G1 H1 J ds)(T:iE X Φ Γ scope (aS X tn js) tg t ifs ifs' elt elt')(ht:gC t tn.length=true)(hz:ds.length≤sizeLine)(E:EnvD X.K G0 H0 G1 H1 σ ρ)
  (hrun:aM (gr Φ Γ tn.length js t ifs' elt' ρ) ds=some out)
  (k:∀q vs G' H',Ext G1 H1 G' H'->G' q=none->H1 q=none->H' q=some (.lst vs)->Dps X.K G' out vs->Q (.ref q) H'):
  ∀q,H1 q=none->∃W:Nat->Nat->St->Hp->Prop,(∃m,W 0 m (gz tn js σ) (upd H1 q (.lst [])))/\∀i m σ' H',W i m σ' H'->
   (J.stop i H'/\Q (.ref q) H')\/(J.go i H'/\∀v H2,J.yld i H' v H2->tgC X scope (aS X tn js) tg v σ' H2 fun σ2 H3=>tcC X scope (aS X tn js) ifs σ2 H3 fun b H4=>
    if b=true then teC X scope (aS X tn js) elt σ2 H4 fun y H5=>∃ys,H5 q=some (.lst ys)/\ys.length<sizeLine/\∃m',m'<m/\W (i+1) m' σ2 (upd H5 q (.lst (ys++[y]))) else ∃m',m'<m/\W (i+1) m' σ2 H4):=by
 intro q hq0;have noB:eU (SI.blk tn.length js ρ):=blk_noOwn;refine⟨fun i m σ' H'=>m=ds.length-i/\i≤ds.length/\∃G' ys outs,EnvD X.K G1 H1 G' H' σ' (SI.blk tn.length js ρ)/\H' q=some (.lst ys)/\G' q=none/\Dps X.K G' outs ys/\aM (gr Φ Γ tn.length js t ifs' elt' ρ) (ds.take i)=some outs,
  ⟨ds.length,by simp,Nat.zero_le _,G1,[],[],?_,ae,E.sub.free hq0,.nil,rfl⟩,?_⟩
 ·exact (E.blk (tn:=tn) (js:=js)).touch noB (E.sub.free hq0) hq0
 ·rintro i m σ' H' ⟨rfl,hil,G',ys,outs,E',hq',hg',r',hc'⟩
  have sm:Same G1 H':=E'.ext.gg.trans E'.sub
  by_cases hlt:i<ds.length
  ·refine .inr ⟨hi.go i H' hlt sm E'.ext.hh,fun v H2 y=>?_⟩
   have hb:ds[i]?=some ds[i]:=ge0 hlt;have tk:ds.take (i+1)=ds.take i++[ds[i]]:=by rw[List.take_add_one,hb];rfl
   generalize ds[i]=dd at hb tk;obtain⟨outs1,hc1⟩:=oU hrun (i+1) hlt;have hc2:=hc1;rw[tk,iD,hc'] at hc2;obtain⟨o,ho,e1⟩:=mx0 (show (gr Φ Γ tn.length js t ifs' elt' ρ dd).map _=some outs1 from hc2);obtain⟨ρ1,hb1,ho⟩:=bx0 ho;obtain⟨tb,hb2,ho⟩:=bx0 ho;obtain⟨l1,l2,l3⟩:=tu ht hb1;obtain⟨G2,e2,d2⟩:=hi.yld i G' H' v H2 dd hb E'.ext.gg E'.sub E'.ext.hh y;have hq2:H2 q=some (.lst ys):=e2.hh _ _ hq';have hg2:G2 q=none:=e2.nw _ _ hg' hq';have r2:=r'.mono e2.gg;have hlen:ys.length≤i:=by
    rw[←r'.length];exact nt0 (jK hc') (by rw[List.length_take];simp_all)
   have no1:=l3 noB;have back:∀{G3 H3:Hp} {σ3:St},EnvD X.K G1 H1 G3 H3 σ3 ρ1->EnvD X.K G1 H1 G3 H3 σ3 (SI.blk tn.length js ρ):=fun E3=>E3.forget l1.symm fun j sl hj=>by
    by_cases hjn:j<tn.length
    ·left
     rcases blk_at hj with z|⟨_,_,z,_⟩
     ·exact z
     ·grind
    ·right;rw[l2 j (by simp_all)];exact hj
   intro C s0 H0' fp pins s u I rv;refine T.tgt C s0 H0' fp dd pins s σ' H2 v u _ I rv ⟨G1,H1,G2,_,ρ1,E'.step e2,d2,hb1,fun σ2 E2=>?_⟩;intro C s0 H0' fp pins s I;refine T.test C s0 H0' fp ρ1 tb hb2 pins s _ H2 _ I ⟨G1,H1,G2,E2,fun G3 H3 e3=>?_⟩;have hq3:H3 q=some (.lst ys):=e3.hh _ _ hq2;have hg3:G3 q=none:=e3.nw _ _ hg2 hq2;cases tb with
   |false=>
    rw[if_neg fx0] at ho;cases ho;subst e1;refine kA ⟨ds.length-(i+1),by omega,rfl,hlt,G3,ys,_,back (E2.step e3),hq3,hg3,?_,hc1⟩;rw[Option.toList_none,List.append_nil];exact r2.mono e3.gg
   |true=>
    rw[if_pos rfl] at ho;obtain⟨w0,hw,e4⟩:=mx0 ho;subst e4 e1;refine kB ?_;intro C s0 H0' fp pins s I;refine T.elt C s0 H0' fp ρ1 w0 hw pins s _ H3 _ I ⟨G1,H1,G3,E2.step e3,fun w G4 H4 e4 r4=>?_⟩;refine⟨ys,e4.hh _ _ hq3,by grind,ds.length-(i+1),by omega,rfl,hlt,G4,ys++[w],_,(back ((E2.step e3).step e4)).touch noB (e4.nw _ _ hg3 hq3) hq0,ae,e4.nw _ _ hg3 hq3,?_,hc1⟩;exact ((r2.mono e3.gg).mono e4.gg).append (.one r4)
  ·have e:i=ds.length:=by omega
   subst e;rw[List.take_length,hrun] at hc';cases hc';exact .inl ⟨hi.stop H' sm E'.ext.hh,k q ys G' H' E'.ext hg' hq0 hq' r'⟩
theorem Ac (B:BlkOk X scope js)(hcalm:X.calm=true)(hi:PI X tg iter (tSi X.K ρ false ds))(T:iE X Φ Γ scope (aS X tn js) tg t ifs ifs' elt elt')(ht:gC t tn.length=true)(hz:ds.length≤sizeLine)
  (hrun:aM (gr Φ Γ tn.length js t ifs' elt' ρ) ds=some out) (hs:∀x,foldedSetIterable iter X.env x=pure x):En X ρ (.ListComp elt [⟨tg,iter,ifs,0⟩] scope pos) (.list out):=by
 intro pins s σ H Q I h;obtain⟨G0,H0,G,E,k⟩:=h;refine zp (tn:=tn) (g:=tgC X _ _ tg) (tc:=tcC X _ _ _) (te:=teC X _ _ _) B hcalm hi
  (fun C s H fp pins s' σ' H' v u Q' I' r h=>h C s H fp _ s' u I' r) (fun C s H fp pins s' σ' H' Q' I' h=>h C s H fp _ s' I') (fun C s H fp pins s' σ' H' Q' I' h=>h C s H fp _ s' I') hs _ s σ H Q I ?_
 refine⟨G0,H0,G,E,fun J G1 H1 e1 hJ=>fU hJ T ht hz (E.step e1) hrun fun q vs G' H' e2 g1 h1 h2 r=>k q G' H' (e1.trans e2) g1 (e1.hh.free h1) (.inl ⟨_,_,rfl,h2,r⟩)⟩
end
section
variable {X:Cx}{ρ:List Sl}{a b c e elt iter tg:Expr}{p pos:Pos}{d:D}{ds:List D}
variable {Φ:Fs}{Γ:List (Str×D)}{scope:Scope}{tn:List Str}{js:List Nat}{t:Tg}{elt':E}{rows:List (List D)}
end
def Goes (K:Fg)(G0 H0 G:Hp)(o:Out)(F:Ends):Prop:=match o with
 |.nx ρ'=>∀G' H' σ',EnvD K G0 H0 G' H' σ' ρ'->Same G G'->F.nx σ' H'
 |.rt d=>∀v G' H',Dp K G' d v->Ext G0 H0 G' H'->F.rt v H'
theorem Goes.go {K:Fg}{G0 H0 G G1:Hp}{o:Out}{F:Ends}(h:Goes K G0 H0 G o F)(s:Same G G1):Goes K G0 H0 G1 o F:=by
 cases o with
 |nx ρ'=>exact fun G' H' σ' e g=>h G' H' _ e (s.trans g)
 |rt d=>exact h
def tEp (K:Fg)(ρ:List Sl)(o:Out):TS:=fun F σ H=>∃G0 H0 G,EnvD K G0 H0 G H σ ρ/\Goes K G0 H0 G o F
def E1 (X:Cx)(ρ:List Sl)(st:Stmt)(o:Out):Prop:=PS X st (tEp X.K ρ o)
def Ep (X:Cx)(ρ:List Sl)(sts:List Stmt)(o:Out):Prop:=PSs X sts (tEp X.K ρ o)
section
variable {X:Cx}{ρ ρ1:List Sl}{st:Stmt}{rest body:List Stmt}{o:Out}{a b c e tg iter:Expr}{p pos pos':Pos}{d:D}{ds es:List D}{x y:Str}{i j:Nat}
theorem DZ:Ep X ρ [] (.nx ρ):=by rintro pins s σ H F I ⟨G0,H0,G,env,R⟩;exact dA pins s σ H F I (R G H σ env (Same.refl _))
theorem wz (h1:E1 X ρ st (.nx ρ1))(h2:Ep X ρ1 rest o):Ep X ρ (st::rest) o:=fun pins s σ H F I ⟨G0,H0,G,env,R⟩=>
 aT h1 h2 _ s σ H F I ⟨G0,H0,G,env,fun G' H' σ' env' g=>⟨G0,H0,G',env',R.go g⟩⟩
theorem wA (h1:E1 X ρ st (.rt d)):Ep X ρ (st::rest) (.rt d):=fun pins s σ H F I ⟨G0,H0,G,env,R⟩=>
 aT (u:=fun a a a=>False) h1 (fun a a a a a a z=>z.elim) _ s σ H F I ⟨G0,H0,G,env,R⟩
theorem Ad:E1 X ρ (.Pass pos) (.nx ρ):=fun pins s σ H F I ⟨G0,H0,G,env,R⟩=>pX _ s σ H F I (R G H σ env (Same.refl _))
theorem Eb (h:Ev X (ρ.map freeze) e d):E1 X ρ (.Return (some e) pos) (.rt d):=fun pins s σ H F I ⟨G0,H0,G,env,R⟩=>by
 obtain⟨G1,env1,s1⟩:=env.freeze;exact kr h _ s σ H F I ⟨G0,H0,G1,env1,fun v G' H' e1 r=>R v G' H' r (env1.ext.trans e1)⟩
structure Sto (X:Cx)(x:Str)(i:Nat):Prop where
 nd:X.N.Nodup
 nm:DY X x i
theorem Sto.lt (S:Sto X x i){pins:List (Addr×Obj)}{σ:St}{H:Hp}{s:Shared}(I:Inv X pins σ H s):i<σ.length:=by rw[I.len];exact (List.getElem?_eq_some_iff.mp S.nm.at').1
theorem wB (S:Sto X x i)(h:Ev X ρ e d)(hs:swapsWith e (some (.Name x pos')) pos.line X.env=pure false):E1 X ρ (.Assign [.Name x pos'] e pos) (.nx (ρ.set i (.dat d))):=
 by rintro pins s σ H F I ⟨G0,H0,G,env,R⟩;exact ia S.nd S.nm.at' S.nm.loc h hs S.nm.fn pins s σ H F I ⟨G0,H0,G,env,fun v G' H' e1 r=>
  R G' H' _ ((env.step e1).set (S.lt I) r) e1.gg⟩
theorem wC (S:Sto X x i)(hD:∀(j:Nat) rows,ρ[j]?≠some (.deep rows))(h:En X ρ e d)(hs:swapsWith e (some (.Name x pos')) pos.line X.env=pure false):E1 X ρ (.Assign [.Name x pos'] e pos) (.nx (ρ.set i (.own d))):=
 by rintro pins s σ H F I ⟨G0,H0,G,env,R⟩;exact ia S.nd S.nm.at' S.nm.loc h hs S.nm.fn pins s σ H F I ⟨G0,H0,G,env,fun p G' H' e1 g1 h1 r=>
  R G' H' _ ((env.step e1).setOwn (S.lt I) r g1 (env.ext.hh.free h1) hD (env.fresh h1)) e1.gg⟩
theorem Ae {Φ:Fs}{Γ:List (Str×D)}{elt:Expr}{ifs:List Expr}{scope:Scope}{tn:List Str}{js:List Nat}{t:Tg}{ifs':Es}{elt':E}{out:List D}(S:Sto X x i)(hD:∀(j:Nat) rows,ρ[j]?≠some (.deep rows))(B:BlkOk X scope js)(hcalm:X.calm=true)(hi:PI X tg iter (tSi X.K ρ false ds))
  (T:iE X Φ Γ scope (aS X tn js) tg t ifs ifs' elt elt') (ht:gC t tn.length=true) (hz:ds.length≤sizeLine) (hrun:aM (gr Φ Γ tn.length js t ifs' elt' ρ) ds=some out) (hs:∀x,foldedSetIterable iter X.env x=pure x)
  (hy:X.env.scope.names.lookup x=some .local) (hsw:swapsWith (.ListComp elt [⟨tg,iter,ifs,0⟩] scope p) (some (.Name x pos')) pos.line X.env=pure true):
  E1 X ρ (.Assign [.Name x pos'] (.ListComp elt [⟨tg,iter,ifs,0⟩] scope p) pos) (.nx (ρ.set i (.own (.list out)))):=by
 intro pins s σ H F I h;obtain⟨G0,H0,G,env,R⟩:=h;exact ql B hcalm hi
  (fun C s H fp pins s' σ' H' v u Q' I' r h=>h C s H fp pins s' u I' r) (fun C s H fp pins s' σ' H' Q' I' h=>h C s H fp _ s' I') (fun C s H fp pins s' σ' H' Q' I' h=>h C s H fp _ s' I') S.nd S.nm.at' hy hsw hs _ s σ H F I ⟨G0,H0,G,env,fun J G1 H1 e1 hJ=>fU (Q:=fun v H'=>F.nx (σ.set i (some v)) H') hJ T ht hz (env.step e1) hrun fun q vs G' H' e2 g1 h1 h2 r=>R G' H' _ (((env.step e1).step e2).setOwn (S.lt I) (.inl ⟨_,_,rfl,h2,r⟩) g1 (env.ext.hh.free (e1.hh.free h1)) hD ((env.step e1).fresh h1)) (e1.gg.trans e2.gg)⟩
theorem wD {Φ:Fs}{Γ:List (Str×D)}{elt:Expr}{ifs:List Expr}{scope:Scope}{tn:List Str}{js:List Nat}{t:Tg}{ifs':Es}{elt':E}{out:List D}(S:Sto X x i)(B:BlkOk X scope js)(hcalm:X.calm=true)(hi:PI X tg iter (tSi X.K ρ false ds))
  (T:iE X Φ Γ scope (aS X tn js) tg t ifs ifs' elt elt') (ht:gC t tn.length=true) (hz:ds.length≤sizeLine) (hrun:aM (gr Φ Γ tn.length js t ifs' elt' ρ) ds=some out) (hs:∀x,foldedSetIterable iter X.env x=pure x)
  (hy:X.env.scope.names.lookup x=some .local) (hsw:swapsWith (.ListComp elt [⟨tg,iter,ifs,0⟩] scope p) (some (.Name x pos')) pos.line X.env=pure true):
  E1 X ρ (.Assign [.Name x pos'] (.ListComp elt [⟨tg,iter,ifs,0⟩] scope p) pos) (.nx (ρ.set i (.dat (.list out)))):=by
 intro pins s σ H F I h;obtain⟨G0,H0,G,env,R⟩:=h;refine ql (tn:=tn) (g:=tgC X _ _ tg) (tc:=tcC X _ _ _) (te:=teC X _ _ _) B hcalm hi
  (fun C s H fp pins s' σ' H' v u Q' I' r h=>h C s H fp _ s' u I' r) (fun C s H fp pins s' σ' H' Q' I' h=>h C s H fp _ s' I') (fun C s H fp pins s' σ' H' Q' I' h=>h C s H fp _ s' I') S.nd S.nm.at' hy hsw hs _ s σ H F I ?_
 refine⟨G0,H0,G,env,fun J G1 H1 e1 hJ=>fU (Q:=fun v H'=>F.nx (σ.set i (some v)) H') hJ T ht hz (env.step e1) hrun fun q vs G' H' e2 g1 h1 h2 r=>?_⟩;have e3:=(e1.trans e2).show (e1.hh.free h1) h2 g1;exact R _ H' _ ((env.step e3).set (S.lt I) (.list ae (r.mono (aP g1)))) e3.gg
theorem GL {a b:List Stmt}{t:Bool}(h:Et X ρ c t)(ha:t=true->Ep X ρ a o)(hb:t=false->Ep X ρ b o):E1 X ρ (.If c a b pos) o:=by
 cases t with
 |true=>
  intro pins s σ H F I h0;obtain⟨G0,H0,G,env,R⟩:=h0;exact jk (u:=fun d d d=>False) h (ha rfl) (fun d d d d d d z=>z.elim) _ s σ H F I ⟨G0,H0,G,env,fun G1 H1 e1=>kB ⟨G0,H0,G1,env.step e1,R.go e1.gg⟩⟩
 |false=>
  intro pins s σ H F I h0;obtain⟨G0,H0,G,env,R⟩:=h0;exact jk (t:=fun d d d=>False) h (fun d d d d d d z=>z.elim) (hb rfl) _ s σ H F I ⟨G0,H0,G,env,fun G1 H1 e1=>kA ⟨G0,H0,G1,env.step e1,R.go e1.gg⟩⟩
def tXs (X:Cx)(body:List Stmt):TS:=fun F σ H=>∀pins s,Inv X pins σ H s->wpAny (model X.prog X.w) X.A (execs body X.env) (SP X pins F) X.xe s
theorem BJ:PSs X body (tXs X body):=fun pins s σ H F I h=>h _ s I
def tXg (X:Cx)(tg:Expr):TG:=fun v σ H Q=>∀pins s u,Inv X pins σ H s->RelV v u->wpAny (model X.prog X.w) X.A (assign tg X.env u) (fun a s'=>∃σ' H',Inv X pins σ' H' s'/\Q σ' H') X.xe s
theorem GM:PG X tg (tXg X tg):=fun pins s σ H v u Q I r h=>h _ s u I r
theorem Ec {t:Tg}{run:List Sl->Option Out}(hi:Si X ρ true iter ds)(ht:Tgj X tg t)(hb:∀ρ' o',run ρ'=some o'->Ep X ρ' body o')(h:forL (au t) run ds ρ=some o)
  (hc:X.calm=true) (hp:PassesOwn (model X.prog X.w) X.A X.env X.xe) (hf:∀x,foldedSetIterable iter X.env x=pure x):E1 X ρ (.For tg iter body [] pos) o:=by
 intro pins s σ H F I h0;obtain⟨G0,H0,G,env,R⟩:=h0;refine uG hp hc (hi _) (GM (tg:=tg)) (BJ (body:=body)) hf pins s σ H F I ?_;refine⟨G0,H0,G,env,fun J G1 H1 e1 hJ=>⟨fun k m σ' H'=>m=ds.length-k/\k≤ds.length/\∃ρ' G',forL (au t) run (ds.drop k) ρ'=some o/\EnvD X.K G0 H0 G' H' σ' ρ'/\Same G1 G',⟨ds.length,by simp,Nat.zero_le _,ρ,G1,h,env.step e1,Same.refl _⟩,?_⟩⟩
 rintro k m σ' H' ⟨rfl,hk,ρ',G',pv,env',g1⟩
 have g0:Same G G':=e1.gg.trans g1
 by_cases hlt:k<ds.length
 ·refine .inr ⟨hJ.go k H' hlt (g1.trans env'.sub) env'.ext.hh,fun σ2 H2=>k+1≤ds.length/\∃ρ2 G2,forL (au t) run (ds.drop (k+1)) ρ2=some o/\EnvD X.K G0 H0 G2 H2 σ2 ρ2/\Same G1 G2,fun σ2 H2 ⟨h1,ρ2,G2,p2,en2,s2⟩=>⟨ds.length-(k+1),by grind,rfl,h1,ρ2,G2,p2,en2,s2⟩,fun v H2 y=>?_⟩
  have hd:ds[k]?=some ds[k]:=ge0 hlt;rw[List.drop_eq_getElem_cons hlt] at pv;generalize ds[k]=dd at hd pv;obtain⟨ρ1,b1,pv⟩:=bx0 (show (au t dd ρ').bind _=some o from pv);obtain⟨o1,b2,pv⟩:=bx0 pv;obtain⟨G2,e2,d2⟩:=hJ.yld k G' H' v H2 dd hd g1 env'.sub env'.ext.hh y;intro pins' s' u' I' r';refine ht dd pins' s' σ' H2 v u' _ I' r' ⟨G0,H0,G2,ρ',ρ1,env'.step e2,d2,b1,fun σ2 en2=>?_⟩;intro pins2 s2 I2;refine hb ρ1 o1 b2 pins2 s2 σ2 H2 _ I2 ⟨G0,H0,G2,en2,?_⟩;cases o1 with
  |nx ρ3=>exact fun G3 H3 σ3 en3 g3=>⟨hlt,ρ3,G3,pv,en3,g1.trans (e2.gg.trans g3)⟩
  |rt dr=>
   cases pv;exact R
 ·have e:k=ds.length:=by grind
  subst e;rw[List.drop_length] at pv;cases pv;exact .inl ⟨hJ.stop H' (g1.trans env'.sub) env'.ext.hh,R G' H' σ' env' g0⟩
end
structure VarOk (X:Cx)(x:Str)(i:Nat):Prop where
 at':X.N[i]?=some x
 vis:Vis X.env.scope x
 d:(x==("__debug__":Str))=false
 cd:(x==("__classdict__":Str))=false
section
variable {X:Cx}{ρ ρ1:List Sl}{st:Stmt}{rest body:List Stmt}{o:Out}{a b c e k tg iter:Expr}{p p1 pos pos' apos cpos:Pos}{d:D}{ds es:List D}{x y:Str}{i j:Nat}
theorem VarOk.pe (V:VarOk X x i):PE X (.Name x p) (uz i):=cq V.at' V.vis V.d V.cd
theorem tw {name:Str}{env:Env}:attributeBase (.Name x p1) name env (eval (.Name x p1) env)=eval (.Name x p1) env:=rfl
theorem ik {K:Fg}{G0 H0 G H:Hp}{σ:St}(env:EnvD K G0 H0 G H σ ρ)(h:ρ[i]?=some (.own (.list ds))):∃q vs,σ[i]?=some (some (.ref q))/\H q=some (.lst vs)/\Dps K G ds vs:=by
 obtain⟨q,a,_,_,g⟩:=env.own i _ h;rcases g with⟨ds',vs,h1,h2,h3⟩|⟨kvs,ws,h1,_⟩<;>simp_all
theorem vo {K:Fg}{G0 H0 G H:Hp}{σ:St}{kvs:List (Key×D)}(env:EnvD K G0 H0 G H σ ρ)(h:ρ[i]?=some (.own (.dict kvs))):∃q vs,σ[i]?=some (some (.ref q))/\H q=some (.dK vs)/\Dks K G kvs vs:=by
 obtain⟨q,a,_,_,g⟩:=env.own i _ h;rcases g with⟨ds',vs,h1,h2,h3⟩|⟨kvs,ws,h1,h2,h3⟩<;>simp_all
theorem Ed (V:VarOk X x i)(h:Ev X ρ e d)(hs:isStar e=false)(ho:ρ[i]?=some (.own (.list ds)))(hz:ds.length<sizeLine)(hline:(apos.endLine==cpos.line)=true):
  E1 X ρ (.Expr (.Call (.Attribute (.Name x p1) "append" apos) [e] [] cpos) pos) (.nx (ρ.set i (.own (.list (ds++[d]))))):=by
 have hS:=af (es:=[]) (env:=X.env) hs;intro pins s σ H F I h0;obtain⟨G0,H0,G,env,R⟩:=h0;obtain⟨q,vs,a,b,g⟩:=ik env ho;exact gH (lI PySem.F.plainAttrs_list PySem.F.slot_list_append PySem.F.type_list_append fF V.pe (aA h aU hS) tw (by rw[hS];rfl) hline hS rfl) rfl _ s σ H F I ⟨_,a,.inl ⟨rfl,vs,SqL.of b⟩,G0,H0,G,env,fun w G1 H1 e1 r=>⟨q,vs,w,rfl,rfl,e1.hh _ _ b,by rwa [←g.length],R G1 _ _ ((env.step e1).change ho a (.inl ⟨_,_,rfl,ae,(g.mono e1.gg).append (.one r)⟩)) e1.gg⟩⟩
theorem oV {env:Env}{spos:Pos}(hk:isSlice k=false):∀v,assign (.Subscript (.Name x p1) k spos) env v=(do
   let ov ←holding [v] (eval (.Name x p1) env)
   let iv ←holding [v,ov] (eval k env)
   standAt spos
   holding [v,ov,iv] (setItem ov iv v)
   release [v,ov,iv] []):=by
 intro v;cases k<;>first|rfl|cases hk
theorem tB {env:Env}{spos:Pos}:swapsWithSole [.Subscript (.Name x p1) k spos] e pos.line env=pure false:=by
 cases e<;>rfl
theorem mE {env:Env}{spos:Pos}:swappedStores [.Subscript (.Name x p1) k spos] e env=pure Option.none:=rfl
theorem Af {n:Int}{m:Nat}{spos:Pos}(V:VarOk X x i)(h:Ev X ρ e d)(hk:Ev X ρ k (.int n))(hks:isSlice k=false)(ho:ρ[i]?=some (.own (.list ds)))(hm:SI.ixN ds.length n=some m):
  E1 X ρ (.Assign [.Subscript (.Name x p1) k spos] e pos) (.nx (ρ.set i (.own (.list (ds.set m d))))):=by
 intro pins s σ H F I h0;obtain⟨G0,H0,G,env,R⟩:=h0;obtain⟨q,vs,a,b,g⟩:=ik env ho;refine uD h (uC V.pe hk set_list (oV hks)) tB mE rfl _ s σ H F I ?_;refine⟨G0,H0,G,env,fun v G1 H1 e1 r1=>⟨_,a,G0,H0,G1,env.step e1,fun w G2 H2 e2 r2=>?_⟩⟩;cases r2;have e3:=e1.trans e2;exact⟨q,vs,n,m,rfl,rfl,e3.hh _ _ b,by rwa [←g.length],R G2 _ _ ((env.step e3).change ho a (.inl ⟨_,_,rfl,ae,(g.mono e3.gg).set (r1.mono e2.gg) m⟩)) e3.gg⟩
end
end L2.Z
namespace PySem.W
open PySem PySem.Spec PySem.Calls PyProof.Rows
structure ExcI (K:Frag)(C:Addr):Prop where
 ga:findIn K (.ref C) "__getattribute__"=some (some (.builtin "BaseException.__getattribute__"))
 gt:findIn K (.ref C) "__getattr__"=some none
 cl:findIn K (.ref C) "__class__"=some (some (.builtin "object.__class__"))
 sb:subIn K (.ref C) (.type "BaseException")=some true
 so:subIn K (.ref C) (.type "object")=some true
 ci:(clsIn K C).isSome=true
section
variable {prog:Program}{w:World}{A:Around}{E:Value->Shared->Prop}{h:Heap}{g:Array GenState}{d:Drawn}{t:Nat}{os:OsState}{a C:Addr}{o:Obj}{K:Frag}
theorem wF {R:Result->Shared->Prop}(Z:ExcI K C)(X:K.In h)(hx:h.get? a=some o)(hc:o.cls=.ref C)(hq:R (.ok (.ret (.ref C))) ⟨h,g,d,t,os⟩):
  codeAny (model prog w) A (.call (.builtin "getset_descriptor.__get__") ⟨[.builtin "object.__class__",.ref a,.ref C],[]⟩) R ⟨h,g,d,t,os⟩:=by
 have hT5:(⟨h,g,d,t,os⟩:Shared).TypeIs (.builtin "object.__class__") "getset_descriptor":=F.typeOf_object_class;have L8:Looks (model prog w) h (isSubtype (.ref C) (.type (".".intercalate ("object.__class__".cutAt '.').dropLast))) true:=by rw[F.owner_object_class];exact looks_subIn X Z.so
 refine codeAny_call_builtin F.slot_gs_get.plain F.entry_gs_get (F.slot_gs_get.check _ _ _ _ _ _ _ _ hT5 (F.args_gs_get _ _ _) ?_)
 repeat (any_goals (first|assumption|(with_reducible refine wpAny_loadPart_at hx ?_;rw[hc])|with_reducible refine Looks.at L8 ?_|wp_step))
 refine⟨Code.quiet_builtin _ (by decide +kernel),codeAny_builtin F.entry_object_class ?_⟩
 repeat (any_goals (first|assumption|(with_reducible refine wpAny_loadPart_at hx ?_;rw[hc])|wp_step))
theorem oW {tk:Tok}{Q:Fin->Shared->Prop}(Z:ExcI K C)(X:K.In h)(hx:h.get? a=some o)(hc:o.cls=.ref C)(hq:Q (.done (.ret (.ref C))) ⟨h,g,d,t,os⟩):
  wpAny (model prog w) A (Builtin.«object.__getattribute__» ⟨[.ref a,.str "__class__" tk],[]⟩) Q E ⟨h,g,d,t,os⟩:=by
 have L4:=looks_findIn (M:=model prog w) X Z.cl;have f5:=F.typeOf_object_class;have f6:=F.slot_gs_get.lookup;have f7:=F.slot_gs_set.lookup
 repeat (any_goals (first|assumption|(with_reducible refine wpAny_loadPart_at hx ?_;rw[hc])|with_reducible refine Looks.at L4 ?_|wp_step))
 refine wF Z X hx hc ?_
 repeat (any_goals (first|assumption|wp_step))
theorem oX {M:Model}{nameV:Value}{Q:Unit->Shared->Prop}(Z:ExcI K C)(X:K.In h)(hx:h.get? a=some o)(hc:o.cls=.ref C)(hq:Q () ⟨h,g,d,t,os⟩):
  wpAny M A (checkBuiltinCall "BaseException.__getattribute__" ⟨[.ref a,nameV],[]⟩) Q E ⟨h,g,d,t,os⟩:=by
 have hk:builtinKind "BaseException.__getattribute__"=some .slot:=by decide +kernel
 have hsplit:splitId "BaseException.__getattribute__"=some ("BaseException","__getattribute__"):=by decide +kernel
 have L:Looks M h (isSubtype (.ref C) (.type "BaseException")) true:=looks_subIn X Z.sb;have ha:=F.args_bexc_ga (.ref a) nameV;simp only[checkBuiltinCall,hk,hsplit];refine wpAny_bind ?_
 ·unfold isInstance
  repeat (first|(with_reducible refine wpAny_loadPart_at hx ?_;rw[hc])|with_reducible refine Looks.at L ?_|wp_step)
  exact hq
theorem tD {tk:Tok}{R:Result->Shared->Prop}(Z:ExcI K C)(X:K.In h)(hx:h.get? a=some o)(hc:o.cls=.ref C)(hq:R (.ok (.ret (.ref C))) ⟨h,g,d,t,os⟩):
  codeAny (model prog w) A (.call (.builtin "BaseException.__getattribute__") ⟨[.ref a,.str "__class__" tk],[]⟩) R ⟨h,g,d,t,os⟩:=
 codeAny_call_builtin F.attrBase_ValueError.ga.plain F.entry_bexc_ga (oX Z X hx hc (oW Z X hx hc hq))
theorem xcls_by {tk:Tok}{fill expr:Bool}{Q:Value->Shared->Prop}(Z:ExcI K C)(X:K.In h)(hx:h.get? a=some o)(hc:o.cls=.ref C)(hq:Q (.ref C) ⟨h,g,d,t,os⟩):
  wpAny (model prog w) A (getAttrBy (.ref a) (.str "__class__" tk) fill expr) Q E ⟨h,g,d,t,os⟩:=by
 have f3:=F.attrBase_ValueError.ga.bind (.ref a);have hx0:(expr&&onTheHeap (Value.builtin "BaseException.__getattribute__"))=false:=by cases expr<;>rfl
 have hx2:(Value.builtin "BaseException.__getattribute__"==Value.builtin "object.__getattribute__")=false:=by decide +kernel
 have hx1:(onTheHeap (Value.ref C)&&Value.builtin "BaseException.__getattribute__"==Value.builtin "object.__getattribute__")=false:=by rw[hx2];rfl
 have L1:=looks_findIn (M:=model prog w) X Z.ga;have L2:=looks_findIn (M:=model prog w) X Z.gt
 repeat (any_goals (first|assumption|(with_reducible refine wpAny_loadPart_at hx ?_;rw[hc])|with_reducible refine Looks.at L1 ?_|with_reducible refine Looks.at L2 ?_|wp_step))
 refine tD Z X hx hc ?_
 repeat (any_goals (first|assumption|wp_step))
theorem tE {Q:Option Value->Shared->Prop}(Z:ExcI K C)(X:K.In h)(hx:h.get? a=some o)(hc:o.cls=.ref C)(hq:Q (some (.ref C)) ⟨h,g,d,t+1,os⟩):
  wpAny (model prog w) A (getAttr? (.ref a) "__class__") Q E ⟨h,g,d,t,os⟩:=by
 unfold getAttr? getAttrBy?
 repeat (any_goals (first|assumption|with_reducible apply xcls_by Z X hx hc|wp_step))
set_option tactic.hygienic true in
theorem kitx_exc (Z:ExcI K C):KitX K (.ref a) (.ref C) (L2.Z.ExcAt a C) where
 ty:=fun M h b p=>by
  obtain⟨o,h1,h2⟩:=p;exact h2▸(Looks.ld h1).andThen .now
 it:=fun b b X b=>by
  have hcD:=Z.ci;unfold clsIn at hcD;split at hcD
  ·rename_i c' d' cd' sl' ho
   intro A' Q' E' s' k q;unfold isType loadHead;exact wpAny_bind (wpAny_loadPart (k _ _ (X _ _ ho)) (wpAny_pure q))
  ·cases hcD
 ne:=fun h tp dd its n sl X htp=>by
  have hcD:=Z.ci;refine Bool.eq_false_iff.mpr fun q=>?_
  have e:C=tp:=Value.ref.inj (beq_iff_eq.mp q);subst e;unfold clsIn at hcD;split at hcD
  ·rename_i c' d' cd' sl' ho
   have z:=(X _ _ ho).symm.trans htp;cases z
  ·cases hcD
 ca:=fun {_ _ _ _ _ s} X p k=>by
  obtain⟨h,g,d,t,os⟩:=s;obtain⟨o,h1,h2⟩:=p;exact tE Z X h1 h2 k
end
end PySem.W
namespace L2.Z
open PySem PySem.Spec PyProof.Rows L2 L2.C SI
theorem fV {N:List Str}{x:Str}{i:Nat}(h:N.idxOf? x=some i):N[i]?=some x:=by
 obtain⟨h1,h2,_⟩:=List.findIdx?_eq_some_iff_getElem.mp h
 simp_all
structure CxC (X:Cx)(C:Cs):Prop where
 N:X.N=C.N
 nd:C.N.Nodup
 vis:∀x k,C.sc.names.lookup x=some k->(k=.local\/k=.cell\/k=.free)->Vis X.env.scope x
 loc:∀x k,C.sc.names.lookup x=some k->(k=.local\/k=.cell)->Loc X.env.scope x/\(X.fn x=true\/X.env.scope.names.lookup x=some .local)
 cell:∀x,C.sc.names.lookup x=some .cell->X.env.kindOf x=some .cell
 glob:∀x,C.sc.names.lookup x=some .globalImplicit->Gl X x
 calm:X.calm=true
 kind:X.env.scope.kind=.function
noncomputable def bltNames:List Str:=["len","max","min","int","list","str","isinstance","range","tuple","bool","reversed","dict","zip","all","ord","sorted","set"]
structure FnZv (P:Program)(w:World)(K:Fg)(mg:Str->Option Value)(base:Heap)(k:Nat)(c:Addr)(m:Str)(φ:Fn):Prop where
 nm:m≠"objects"/\m≠"numbers"
 ex:∃f fd ps,ie K c m f/\Binds K fd ps []/\FnOk P w K mg base CX0 k f fd ps (Pur K φ)
structure XcZ (K:Fg)(mg:Str->Option Value)(t:Str)(c:Addr)(tab:List (Nat×Bool)):Prop where
 nm:mg t=some (.ref c)\/t="ValueError"/\mg t=Option.none
 one:∀e b,tab.lookup e=some b->PySem.W.ExcI K e/\(mg t=some (.ref c)->PySem.W.kitOne K (.ref e) (.ref c)=some b)/\(mg t=Option.none->PySem.W.kitOne K (.ref e) (.type "ValueError")=some b)
structure Wz (X:Cx)(Φ:Fs)(Γ:List (Str×D))(C:Cs)(k:Nat):Prop where
 blt:∀x∈bltNames,X.mg x=Option.none
 fns:∀x,C.fns.contains x=true->∀φ,Φ x=some φ->FnZ X.prog X.w X.K X.mg X.base k x φ
 gl:∀x d,Γ.lookup x=some d->∃u v,X.mg x=some u/\RelV v u/\∀G,Dp X.K G d v
 room:Room k X.A
 vc:∀c,C.vc=some c->Cls X.K c/\NoAttr X.K c "objects"
 vf:∀c m,C.vc=some c->C.vms.contains m=true->∀φ,Φ (ao m)=some φ->FnZv X.prog X.w X.K X.mg X.base k c m φ
 xc:∀t c tab,C.xcs.lookup t=some (c,tab)->XcZ X.K X.mg t c tab
def SdE (X:Cx)(Φ:Fs)(Γ:List (Str×D))(e:Expr)(E':E):Prop:=
 (∀ρ d,ev Φ Γ .val ρ E'=some d->Ev X ρ e d)/\(∀ρ d,ev Φ Γ .read ρ E'=some d->Er X ρ e d)/\(∀ρ d,ev Φ Γ .walk ρ E'=some d->Ek X ρ e d)/\
 (∀ρ d,ev Φ Γ .test ρ E'=some d->∃b,d=.bool b/\Et X ρ e b)/\(fresh E'=true->∀ρ d,ev Φ Γ .val ρ E'=some d->bF d=true->En X ρ e d)
theorem jL {o:Expr}{m:Str}{apos pos:Pos}{es:List Expr}{env:Env}(hsup:bB o=false)(hs:aB es)(hn:es.length≤20)(hline:(apos.endLine==pos.line)=true):
  eval (.Call (.Attribute o m apos) es [] pos) env=(do
   let ov ←eval o env
   standAt apos.atName
   let (f,first) ←holding [ov] (getMethod ov m (do return (←importBound o env).getD true))
   callWith pos f first (backTo pos (starEach es env)) (backToKw pos (keywordEach [] env))):=by
 have hform:methodCallForm (es.length+([]:List Keyword).length) (backTo pos (starEach es env)) (backToKw pos (keywordEach [] env))=true:=by
  unfold methodCallForm;rw[jD hs];show (true&&true&&decide (es.length+0+0<30))=true;rw[dt0 (by grind)];rfl
 rw[arm_eval_Call,base_of hsup];unfold methodCall;rw[hform];have hpos:methodCallPos true o env apos pos=pure pos:=by unfold methodCallPos;simp[hline]
 rw[hpos];rfl
section
variable {X:Cx}{ρ:List Sl}{o e:Expr}{es:List Expr}{c h k:Nat}{os:List D}{d:D}{ds:List D}{x m:Str}{p pos apos px:Pos}
theorem Ef (hc:Cls X.K c)(hn:NoAttr X.K c "objects")(ho:Er X ρ o (.vlt c h os))(hsup:bB o=false):Er X ρ (.Attribute o "objects" pos) (.list os):=
 by rintro pins s σ H Q I ⟨G0,H0,G,E,k⟩;exact oa ho (base_of hsup) pins s σ H Q I ⟨G0,H0,G,E,fun v G1 H1 e1 r1=>by
  cases r1 with
  |of r1=>cases r1
  |vlt h1 h2 r=>exact⟨_,_,_,_,_,rfl,h1,hc,hn,rfl,k _ G1 H1 e1 (.list h2 r)⟩⟩
theorem wG {K:Fg}{G H:Hp}{v:V}(hm:m≠"objects"/\m≠"numbers")(r:Dr K G H (.vlt c h os) v):∃a dx fs,v=.ref a/\H a=some (.ins c dx fs)/\fs.lookup m=Option.none:=by
 cases r with
 |of r1=>cases r1
 |vlt h1 h2 r=>
  refine⟨_,_,_,rfl,h1,?_⟩;simp[vfs,lk0,(beq_eq_false_iff_ne.mpr hm.1),(beq_eq_false_iff_ne.mpr hm.2)]
theorem wH {φ:Fn}(F:FnZv X.prog X.w X.K X.mg X.base k c m φ)(hc:Cls X.K c)(hr:Room k X.A)(ho:Er X ρ o (.vlt c h os))(ha:Ea X ρ φ.lent.tail es ds)(hl:φ.lent.headD false=true)(hrun:φ.run (.vlt c h os::ds)=some d)(hs:aB es)(hnil:es=[]->ds=[])
  {pl:Sem Bool} (ht:eval (.Call (.Attribute o m apos) es [] pos) X.env=(do
   let ov ←eval o X.env
   standAt apos.atName
   let (f,first) ←holding [ov] (getMethod ov m pl)
   callWith pos f first (backTo pos (starEach es X.env)) (backToKw pos (keywordEach [] X.env)))):Ev X ρ (.Call (.Attribute o m apos) es [] pos) d:=by
 obtain⟨f,fd,ps,hm,hb,Ff⟩:=F.ex;intro pins s σ H Q I h0;obtain⟨G0,H0,G,E,kq⟩:=h0;cases es with
 |nil=>
  refine uP (pl:=pl) ho hc hm Ff hr hb .nil qk ht pins s σ H Q I ⟨G0,H0,G,E,fun v G1 H1 e1 r1=>?_⟩;obtain⟨a,dx,fs,rfl,h1,h2⟩:=wG F.nm r1;refine⟨a,dx,fs,rfl,h1,h2,?_⟩;have hds:ds=[]:=hnil rfl;subst hds;exact⟨[.vlt c h os],d,G1,hrun,e1.gh,.cons (fun z=>by rw[hl] at z;cases z) r1 .nil,fun v G' H' e2 r2=>kq v G' H' (e1.trans e2) r2⟩
 |cons e es=>
  refine zd (pl:=pl) ho hc hm Ff hr hb .nil qk ha (af (hs e ms0)) (aG fun y hy=>hs y (mc0 _ hy)) ht pins s σ H Q I ⟨G0,H0,G,E,fun v G1 H1 e1 r1=>?_⟩;obtain⟨a,dx,fs,rfl,h1,h2⟩:=wG F.nm r1;exact⟨a,dx,fs,rfl,h1,h2,G0,H0,G1,E.step e1,fun vs G2 H2 e2 r2=>⟨_,d,G2,hrun,e2.gh,by rw[List.append_nil];exact .cons (fun z=>by simp_all) (r1.ext e2) r2,fun v G' H' e3 r3=>kq v G' H' (e1.trans (e2.trans e3)) r3⟩⟩
theorem wI {e:Addr}{b:Bool}{x:V}{u:Value}(hx:∀v,RelV x v->v=u)(Z:PySem.W.ExcI X.K e)(h1:PySem.W.kitOne X.K (.ref e) u=some b):ba X (.builtin "isinstance") (fun xs H Q=>∃a,xs=[.ref a,x]/\H a=some (.ext (ExcAt a e))/\Q (.bl b) H):=by
 intro pins s σ H xs us Q I r h;obtain⟨a,rfl,ha,q⟩:=h;obtain⟨w,v,rfl,ru,rv⟩:=vals2 r;cases ru;obtain rfl:=hx v rv;exact PySem.W.kia_one (PySem.W.kitx_exc Z) I.kIn ((I.hok a _ ha).1) h1 (fun z=>nomatch z) fun tk=>⟨.bl b,H,I.tok tk,rfl,q⟩
theorem Ag:bootBuiltins ("ValueError":Str)=some (.type "ValueError"):=by decide +kernel
theorem tF {c e:Addr}{a:Expr}{b:Bool}{tab:List (Nat×Bool)}(B:Blt X "isinstance")(T:XcZ X.K X.mg x c tab)(hg:Gl X x)(hdb:(x==("__debug__":Str))=false)(ha:Er X ρ a (.exc e))(hs:isStar a=false)(h:tab.lookup e=some b):
  Ev X ρ (.Call (.Name "isinstance" p) [a,.Name x px] [] pos) (.bool b):=by
 obtain⟨Z,h1,h2⟩:=T.one e b h;have key:∀(y:V) (u:Value),(∀v,RelV y v->v=u)->PySem.W.kitOne X.K (.ref e) u=some b->PE X (.Name x px) (fun σ H Q=>Q y H)->Ev X ρ (.Call (.Name "isinstance" p) _ [] pos) (.bool b):=fun y u hy hk pn=>by
  intro pins s σ H Q I h0;obtain⟨G0,H0,G,E,k⟩:=h0;refine bT (wI hy Z hk) B.g B.m my (aA ha (aA pn aU rfl) (af hs)) (by decide) (by decide) (af hs) rfl pins s σ H Q I ⟨G0,H0,G,E,fun v G1 H1 e1 r1=>?_⟩;cases r1 with
  |of r1=>cases r1 with
   |exc r1=>exact⟨_,rfl,e1.gh _ _ r1,k _ G1 H1 e1 (.bool _)⟩
 rcases T.nm with hm|⟨rfl,hm⟩
 ·exact key (.ref c) (.ref c) (fun v r=>r) (h1 hm) fun pins s σ H Q I q=>pV hg hm (show RelV (.ref c) (.ref c) from rfl) hdb pins s σ H Q I q
 ·exact key (.ty "ValueError") _ (fun v r=>r) (h2 hm) (pW hg hm Ag rfl (by decide) hdb)
end
section
variable {X:Cx}{Φ:Fs}{Γ:List (Str×D)}{C:Cs}{k:Nat}{e:Expr}{E':E}
theorem wJ (core:List Sl->Option D)(h:∀m ρ,ev Φ Γ m ρ E'=fin m (core ρ))(hv:∀ρ d,core ρ=some d->Ev X ρ e d)(ht:∀ρ d t,core ρ=some d->eJ d=some t->Et X ρ e t)
  (hn:fresh E'=true->∀ρ d,core ρ=some d->bF d=true->En X ρ e d):SdE X Φ Γ e E':=by
 refine⟨fun ρ d q=>?_,fun ρ d q=>?_,fun ρ d q=>?_,fun ρ d q=>?_,fun f ρ d q=>?_⟩
 ·rw[h] at q;exact hv ρ d q
 ·rw[h] at q;exact (hv ρ d q).er
 ·rw[h] at q;exact (hv ρ d q).ek
 ·rw[h] at q
  obtain⟨d',q1,q2⟩:=bx0 (q);obtain⟨t,q3,q4⟩:=mx0 q2;exact⟨t,q4.symm,ht ρ d' t q1 q3⟩
 ·rw[h] at q;exact hn f ρ d q
theorem sd_plain (core:List Sl->Option D)(h:∀m ρ,ev Φ Γ m ρ E'=fin m (core ρ))(hv:∀ρ d,core ρ=some d->Ev X ρ e d)(he:∀whole,isTrue e X.env whole=(do let v ←whole;standAt e.pos;holding [v] (truthy v)))
  (hn:fresh E'=true->∀ρ d,core ρ=some d->bF d=true->En X ρ e d):SdE X Φ Γ e E':=wJ _ h hv (fun ρ d t q1 q2=>iu (hv ρ d q1).er q2 he) hn
set_option tactic.hygienic true
theorem dE (c:CxC X C){x:Str}{i:Nat}(h:cZ C x=some i):VarOk X x i:=by
 unfold cZ at h;split at h
 ·rename_i j hj
  split at h
  ·rename_i q
   cases h;rw[be0,Bool.or_eq_true,Bool.or_eq_true] at q;obtain⟨q1,q2⟩:=q;unfold bq at q2;rw[be0,be0] at q2;refine⟨by rw[c.N];exact fV hj,?_,by simpa using q2.1.1,by simpa using q2.1.2⟩;rcases q1 with (q1|q1)|q1
   ·exact c.vis x _ (eq_of_beq q1) (.inl rfl)
   ·exact c.vis x _ (eq_of_beq q1) (.inr (.inl rfl))
   ·exact c.vis x _ (eq_of_beq q1) (.inr (.inr rfl))
  ·cases h
 ·cases h
theorem iF (c:CxC X C){x:Str}{i:Nat}(h:gA C x=some i):DY X x i:=by
 unfold gA at h;split at h
 ·rename_i j hj
  split at h
  ·rename_i q
   cases h;rw[be0,Bool.or_eq_true] at q;obtain⟨q1,q2⟩:=q;have l:Loc X.env.scope x/\(X.fn x=true\/X.env.scope.names.lookup x=some .local):=by
    rcases q1 with q1|q1
    ·exact c.loc x _ (eq_of_beq q1) (.inl rfl)
    ·exact c.loc x _ (eq_of_beq q1) (.inr rfl)
   exact⟨by rw[c.N];exact fV hj,l.1,l.2⟩
  ·cases h
 ·cases h
set_option tactic.hygienic false
theorem kR (c:CxC X C){x:Str}{i:Nat}(h:gA C x=some i):Sto X x i:=⟨by rw[c.N];exact c.nd,iF c h⟩
theorem aK (c:CxC X C){x:Str}(h:aw C x=true):Gl X x/\x≠"__name__"/\(x==("__debug__":Str))=false:=by
 unfold aw at h;rw[be0] at h;unfold bq ar at h;rw[be0,be0] at h;exact⟨c.glob x (eq_of_beq h.1),by simpa using h.2.2,by simpa using h.2.1.1⟩
theorem bA (c:CxC X C)(w:Wz X Φ Γ C k){x:Str}(h:aw C x=true)(hb:x∈bltNames):Blt X x:=⟨(aK c h).1,w.blt x hb,(aK c h).2.1,(aK c h).2.2⟩
theorem qL (c:CxC X C){tg:Expr}{t:Tg}(h:cTg C tg=some t):Tgj X tg t:=by
 have nms:∀{es:List Expr} {is:List Nat},slots C es=some is->Nms X es is:=by
  intro es
  induction es with
  |nil=>intro is h;cases h;exact .nil
  |cons e r ih=>
   intro is h;cases e with
   |Name x px=>
    obtain⟨i,h1,h2⟩:=bx0 (h);obtain⟨is',h3,rfl⟩:=mx0 h2;exact .cons (iF c h1) (ih h3)
   |_=>cases h
 cases tg with
 |Name x px=>
  obtain⟨i,h1,rfl⟩:=mx0 (h);have n:=iF c h1;exact mD (by rw[c.N];exact c.nd) n.at' n.loc n.fn
 |Tuple es n pos=>
  obtain⟨is,h1,rfl⟩:=mx0 (h);exact zZ c.calm (by rw[c.N];exact c.nd) (nms h1)
 |_=>cases h
theorem jM {N:List Str}:∀{xs:List Str} {js:List Nat},oC N xs=some js->(js.map fun j=>N.getD j Str.empty)=xs/\∀j∈js,∃x∈xs,N[j]?=some x
 |[],js,h=>by cases h;simp
 |x::r,js,h=>by
  obtain⟨i,h1,h2⟩:=bx0 (h);obtain⟨js',h3,rfl⟩:=mx0 h2;obtain⟨q1,q2⟩:=jM h3;have e:=fV h1
  simp_all
theorem bH {env:Env}{nk:NameKind}(hne:nk≠.free):∀{names:List (Str×NameKind)} {x:Str},names.lookup x=some nk->
  (names.map fun (n,k)=>if (k==NameKind.free&&env.scope.kind==.function&&env.kindOf n==some .cell) then (n,NameKind.cell) else (n,k)).lookup x=some nk
 |[],_,h=>by simp at h
 |(n,k)::r,x,h=>by
  have ih:=@bH env nk hne r x;show List.lookup x ((if (k==NameKind.free&&env.scope.kind==.function&&env.kindOf n==some _)=true then (n,NameKind.cell) else (n,k))::_)=_;cases hy:x==n with
  |true=>
   simp_all
  |false=>
   simp only[lk0,hy] at h
   by_cases hc:(k==NameKind.free&&env.scope.kind==.function&&env.kindOf n==some .cell)=true
   ·rw[if_pos hc];simp only[lk0,hy];exact ih h
   ·rw[if_neg hc];simp only[lk0,hy];exact ih h
structure Je (X:Cx)(C B:Cs)(sc:Scope)(tg:Expr)(nt:Nat)(js:List Nat):Prop where
 ok:BlkOk X sc js
 nt:nt=(bt tg).length
 n:B.N=aS X (bt tg) js
 cx:∀(A:Addr) (s:Shared) (H:Hp) (fp:List Addr),CxC (L2.C.blk X sc (aS X (bt tg) js) A s H fp) B
 same:B.fns=C.fns/\B.cst=C.cst/\B.vc=C.vc/\B.vms=C.vms/\B.xcs=C.xcs
set_option tactic.hygienic true in
theorem kS (c:CxC X C){sc:Scope}{tg:Expr}{B:Cs}{nt:Nat}{js:List Nat}(h:sd C sc tg=some (B,nt,js)):Je X C B sc tg nt js:=by
 unfold sd at h;split at h
 ·rename_i q
  obtain⟨js',h1,h2⟩:=mx0 h;injection h2 with h2 h3
  injection h3 with h3 h4
  subst h2 h3 h4;unfold BH at q;simp only[be0] at q;obtain⟨⟨⟨⟨q1,q2⟩,q3⟩,q4⟩,q5⟩:=q;have q2':=fun y hy=>List.all_eq_true.mp q2 y hy
  obtain⟨i1,i2⟩:=jM h1;have hN:bt tg++freeOf sc=aS X (bt tg) js':=by
   unfold aS;rw[c.N,i1]
  have hfree:∀y∈sc.names,y.2=.free->X.env.kindOf y.1=some .cell:=fun y hy hf=>by
   have z:=q2' y hy;simp only[be0,Bool.or_eq_true] at z;rcases z.1.1 with z|z
   ·rw[hf] at z;simp at z
   ·exact c.cell y.1 (eq_of_beq z)
  have hcell:∀y∈sc.names,y.2≠.cell:=fun y hy=>by
   have z:=q2' y hy;simp only[be0] at z
   simpa using z.1.2
  refine⟨⟨eq_of_beq q1,hfree,hcell,fun y hy hl=>?_,fun j hj=>?_⟩,rfl,hN,fun A s H fp=>⟨hN.symm,od0 q5,fun x kd e ek=>?_,fun x kd e ek=>?_,fun x e=>?_,fun x e=>?_,c.calm,eq_of_beq q1⟩,rfl,rfl,rfl,rfl,rfl⟩
  ·have z:=q2' y hy
   simp only[be0,Bool.or_eq_true] at z;rcases z.2 with z|z
   ·rw[hl] at z;simp at z
   ·exact eq_of_beq z
  ·obtain⟨x,hx,e⟩:=i2 j hj
   refine⟨x,by rw[c.N];exact e,eq_of_beq (List.all_eq_true.mp q4 x hx)⟩
  ·have e:sc.names.lookup x=some kd:=e
   rcases ek with rfl|rfl|rfl
   ·exact .inl (lookup_relabel_local e)
   ·exact absurd rfl (hcell _ (PySem.mem_of_lookup e))
   ·exact .inr (.inl (bg c.kind e (hfree _ (PySem.mem_of_lookup e) rfl)))
  ·have e:sc.names.lookup x=some kd:=e
   rcases ek with rfl|rfl
   ·exact⟨.inl (lookup_relabel_local e),.inr (lookup_relabel_local e)⟩
   ·exact absurd rfl (hcell _ (PySem.mem_of_lookup e))
  ·have e:sc.names.lookup x=some .cell:=e
   exact absurd rfl (hcell _ (PySem.mem_of_lookup e))
  ·have e:sc.names.lookup x=some .globalImplicit:=e
   exact bH (env:=X.env) (by decide) e
 ·cases h
end
structure Snd (Φ:Fs)(Γ:List (Str×D))(k n:Nat):Prop where
 E:∀C e E',cE n C e=some E'->∀X,CxC X C->Wz X Φ Γ C k->SdE X Φ Γ e E'
 Me:∀C o m as E',cMe n C o m as=some E'->bB o=false->∀apos pos,(apos.endLine==pos.line)=true->∀X,CxC X C->Wz X Φ Γ C k->SdE X Φ Γ (.Call (.Attribute o m apos) as [] pos) E'
 Sub:∀C a j E',zE n C a j=some E'->isSlice j=false->∀pos X,CxC X C->Wz X Φ Γ C k->SdE X Φ Γ (.Subscript a j pos) E'
 O:∀C eo as,cO n C eo=some as->∀X,CxC X C->Wz X Φ Γ C k->∀ρ o,evP Φ Γ ρ as=some o->PO X eo (tPt X.K ρ o)
 B:∀C op es E',cBool n C op es=some E'->∀pos X,CxC X C->Wz X Φ Γ C k->(∀ρ d,ev Φ Γ .val ρ E'=some d->Ev X ρ (.BoolOp op es pos) d)/\(∀ρ d,ev Φ Γ .test ρ E'=some d->∃b,d=.bool b/\Ew X ρ (.BoolOp op es pos) b)
 Call:∀C f as E',lQ n C f as=some E'->aw C f=true->∀p pos X,CxC X C->Wz X Φ Γ C k->SdE X Φ Γ (.Call (.Name f p) as [] pos) E'
 Es:∀C es as,cEs n C es=some as->∀X,CxC X C->Wz X Φ Γ C k->aB es/\(∀fl ρ ds,evs Φ Γ .read fl ρ as=some ds->Ea X ρ fl es ds)/\(∀ρ ds,evs Φ Γ .val [] ρ as=some ds->Ea X ρ [] es ds)
 T:∀C es as,cEs n C es=some as->es.length≤1->∀X,CxC X C->Wz X Φ Γ C k->∀ρ b,evC Φ Γ ρ as=some b->Ecs X ρ es b
 Src:∀C tg e src,oE n C tg e=some src->∀X,CxC X C->Wz X Φ Γ C k->(∀ρ ds,evI Φ Γ .read ρ src=some ds->PI X tg e (tSi X.K ρ false ds))/\isSet e=false
 I:∀C e src,cI n C e=some src->∀X,CxC X C->Wz X Φ Γ C k->(∀ρ ds,evI Φ Γ .walk ρ src=some ds->Si X ρ true e ds)/\(∀ρ ds,evI Φ Γ .read ρ src=some ds->Si X ρ false e ds)/\isSet e=false
section
variable {Φ:Fs}{Γ:List (Str×D)}{k n:Nat}{C:Cs}{X:Cx}
theorem Wz.blk (w:Wz X Φ Γ C k){B:Cs}{sc:Scope}{N:List Str}(h:B.fns=C.fns/\B.cst=C.cst/\B.vc=C.vc/\B.vms=C.vms/\B.xcs=C.xcs)(A:Addr)(s:Shared)(H:Hp)(fp:List Addr):Wz (L2.C.blk X sc N A s H fp) Φ Γ B k:=
 ⟨w.blt,fun x hx φ hφ=>w.fns x (by rwa [←h.1]) φ hφ,w.gl,w.room,fun c hc=>w.vc c (by rwa [←h.2.2.1]),fun c m hc hm φ hφ=>w.vf c m (by rwa [←h.2.2.1]) (by rwa [←h.2.2.2.1]) φ hφ,fun t c tab hc=>w.xc t c _ (by simp_all)⟩
set_option tactic.hygienic true in
theorem oY (c:CxC X C)(w:Wz X Φ Γ C k){x:Str}{E':E}{p:Pos}(h:qu C x=some E'):SdE X Φ Γ (.Name x p) E':=by
 unfold qu at h;split at h
 ·rename_i i hi
  cases h;have V:=dE c hi;refine⟨fun ρ d q=>Dz i q V.at' V.vis V.d V.cd,fun ρ d q=>vx i q V.at' V.vis V.d V.cd,fun ρ d q=>DX i q V.at' V.vis V.d V.cd,fun ρ d q=>?_,fun f=>by cases f⟩;obtain⟨d',q1,q2⟩:=bx0 (q);obtain⟨t,q3,q4⟩:=mx0 q2;have q1':ρ[i]?.bind (aQ .read)=some d':=by
   obtain⟨sl,z1,z2⟩:=bx0 q1;rw[z1];cases sl<;>exact z2
  exact⟨t,q4.symm,iu (vx i q1' V.at' V.vis V.d V.cd) q3 fun a=>rfl⟩
 ·split at h
  ·rename_i q
   cases h;rw[be0] at q;refine sd_plain _ (fun a a=>rfl) (fun ρ d hd=>?_) (fun a=>rfl) (fun f=>by cases f);obtain⟨u,v,h1,h2,h3⟩:=w.gl x d hd;exact fun pins s σ H Q I ⟨G0,H0,G,E,k⟩=>pV (aK c q.1).1 h1 h2 (aK c q.1).2.2 pins s σ H Q I (k _ G H (.refl E.sub) (h3 G))
  ·cases h
theorem wK {x:Str}(h:jx x=true):PyData.strOk x=true:=by
 rw[strOk_iff];exact fun c hc=>od0 (List.all_eq_true.mp h c hc)
theorem eV {e:Expr}{env:Env}(h:isSet e=false):∀x,foldedSetIterable e env x=pure x:=by
 intro x;cases e<;>first|rfl|cases h
theorem aJ {α β γ:Type}{a:Option α}{b:Option β}{f:α->β->γ}{c:γ}(h:(a.bind fun x=>b.map fun y=>f x y)=some c):∃x y,a=some x/\b=some y/\f x y=c:=by
 obtain⟨x,h1,h2⟩:=bx0 h<;>simp_all
theorem mF {op op':CmpOp}{a b c:Expr}{ρ:List Sl}{pos:Pos}{r r':R2}{d1 d2 d3:D}{t u:Bool}(ho:OpR X (compareOp op) r)(ho':OpR X (compareOp op') r')(ha:Er X ρ a d1)(hb:Er X ρ b d2)(hc:t=true->Er X ρ c d3)
  (h1:R2r X.K r d1 d2 (.bool t)) (h2:t=true->R2r X.K r' d2 d3 (.bool u)) (hm:lastMarks [op,op'] [b,c]=false) (hu:t=false->u=false):
  Ev X ρ (.Compare a [op,op'] [b,c] pos) (.bool u)/\Et X ρ (.Compare a [op,op'] [b,c] pos) u:=by
 have key:∀(tc:TE),(t=true->tc=tEr X.K ρ d3)->∀(σ:St) (H:Hp) (Q:VK),(∃G0 H0 G,EnvD X.K G0 H0 G H σ ρ/\∀v G' H',Ext G H G' H'->Dp X.K G' (.bool u) v->Q v H')->nW r r' (tEr X.K ρ d1) (tEr X.K ρ d2) tc σ H Q:=by
  intro tc htc σ H Q h0;obtain⟨G0,H0,G,E,kk⟩:=h0;refine⟨G0,H0,G,E,fun x G1 H1 e1 r1=>⟨G0,H0,G1,E.step e1,fun y G2 H2 e2 r2=>h1 x y G2 H2 _ e2.gh (r1.ext e2) r2 fun v G3 H3 e3 r3=>?_⟩⟩;cases r3;refine⟨t,rfl,?_⟩;cases t with
  |true=>
   rw[if_pos rfl,htc rfl];refine⟨G0,H0,G3,((E.step e1).step e2).step e3,fun z G4 H4 e4 r4=>h2 rfl y z G4 H4 Q e4.gh ((r2.ext e3).ext e4) r4 fun v G5 H5 e5 r5=>kk v G5 H5 (e1.trans (e2.trans (e3.trans (e4.trans e5)))) r5⟩
  |false=>
   exact kk _ G3 H3 (e1.trans (e2.trans e3)) (by rw[hu rfl];exact .bool _)
 cases t with
 |true=>
  refine⟨fun pins s σ H Q I h0=>lB ho ho' ha hb (hc rfl) hm pins s σ H Q I (key _ (fun d=>rfl) σ H Q h0),fun pins s σ H Q I h0=>lC ho ho' ha hb (hc rfl) hm pins s σ H Q I (key _ (fun d=>rfl) σ H _ ?_)⟩;obtain⟨G0,H0,G,E,kk⟩:=h0;exact⟨G0,H0,G,E,fun v G' H' e r=>by cases r;exact⟨u,rfl,kk G' H' e⟩⟩
 |false=>
  have nv:PE X c (fun d d d=>False):=fun d d d d d d z=>z.elim
  refine⟨fun pins s σ H Q I h0=>lB ho ho' ha hb nv hm pins s σ H Q I (key _ (fun z=>by cases z) σ H Q h0),fun pins s σ H Q I h0=>lC ho ho' ha hb nv hm pins s σ H Q I (key _ (fun z=>by cases z) σ H _ ?_)⟩;obtain⟨G0,H0,G,E,kk⟩:=h0;exact⟨G0,H0,G,E,fun v G' H' e r=>by cases r;exact⟨u,rfl,kk G' H' e⟩⟩
theorem Eg {e:Expr}{E':E}{n:Nat}(h:cE n C e=some E'):bB e=false:=by
 cases n with
 |zero=>exact nomatch (show (Option.none:Option E)=some E' from h)
 |succ n=>
  cases e with
  |Call ef eas eks epos=>
   cases ef with
   |Name f fp=>
    cases eas with
    |cons _ _=>rfl
    |nil=>
     cases eks with
     |cons _ _=>rfl
     |nil=>
      have h:(if aw C f then lQ n C f [] else Option.none)=some E':=h;split at h
      ·cases n with
       |zero=>exact nomatch (show (Option.none:Option E)=some E' from h)
       |succ n=>
        have h:(if C.fns.contains f then Option.none
         else if f=("isinstance":Str) then (match kH C [] with
          |some q=>(cE n C q.1).map fun a'=>E.isx a' q.2.1 q.2.2
          |Option.none=>(kG C []).bind _)
          else if f=("sorted":Str) then Option.none else (ip f).bind fun b=>Option.none)=some E':=h
        split at h
        ·cases h
        split at h
        ·exact nomatch (show (Option.none:Option E)=some E' from h)
        simp_all
      ·cases h
   |_=>rfl
  |_=>rfl
set_option tactic.hygienic true
theorem wL {vs:List Expr}{x:Str}{a:Expr}(h:qy vs=some (x,a)):∃j p1 p2,jx x=true/\vs=[.Constant (.str x) j p1,.FormattedValue a (.negSucc 0) Option.none p2]:=by
 unfold qy at h;split at h
 ·split at h
  ·rename_i q;cases h;exact⟨_,_,_,q,rfl⟩
  ·cases h
 ·cases h
theorem wM {lo hi st:Option Expr}{p:Pos}(h:qw (.Slice lo hi st p)=true):lo=Option.none/\hi=Option.none/\∃j p3 p4,st=some (.UnaryOp .USub (.Constant (.int 1) j p3) p4):=by
 unfold qw at h;split at h
 ·rename_i e;cases e;exact⟨rfl,rfl,_,_,_,rfl⟩
 ·cases h
theorem oZ {f:Str}{as:List Expr}{q:Bf×List Expr}(h:gQ C f as=some q):∃g sp as' qp,as=[.Call (.Name g sp) as' [] qp]/\aw C g=true/\aB as'/\q.2=as'/\((f="len"/\g="set"/\(∃a,as'=[a])/\q.1=.nset)\/(f="list"/\g="zip"/\(∃a b,as'=[a,b])/\q.1=.lzip)):=by
 unfold gQ at h;split at h
 ·rename_i g sp as' qp
  split at h
  ·cases h
  ·rename_i hq
   have hq:aw C g=true/\as'.any isStar=false:=by simpa using hq
   have hs:aB as':=fun y hy=>by simpa using (List.any_eq_false.mp hq.2) y hy
   split at h
   ·rename_i hf
    split at h
    ·rename_i hg
     rw[be0] at hg;cases h;refine⟨g,sp,as',qp,rfl,hq.1,hs,rfl,.inl ⟨hf,by simpa using hg.1,?_,rfl⟩⟩
     match as',hg.2 with
     |[a],_=>exact⟨a,rfl⟩
    ·cases h
   ·split at h
    ·rename_i hf
     split at h
     ·rename_i hg
      rw[be0] at hg;cases h;refine⟨g,sp,as',qp,rfl,hq.1,hs,rfl,.inr ⟨hf,by simpa using hg.1,?_,rfl⟩⟩
      match as',hg.2 with
      |[a,b],_=>exact⟨a,b,rfl⟩
     ·cases h
    ·cases h
 ·cases h
theorem tG {as:List Expr}{a:Expr}(h:setArg C as=some a):∃sp qp,aw C "set"=true/\as=[.Call (.Name "set" sp) [a] [] qp]:=by
 unfold setArg at h;split at h<;>simp_all
theorem wN (ih:Snd Φ Γ k n){e:Expr}{E':E}(h:cE (n+1) C e=some E')(c:CxC X C)(w:Wz X Φ Γ C k):SdE X Φ Γ e E':=by
 have hu:=w.room.units;have hu1:X.A.units+1<cLine:=by omega
 cases e with
 |Constant v ej epos=>
  cases v with
  |int i=>
   have h:some (E.k (.int i))=some E':=h;cases h;exact sd_plain (fun l=>some _) (fun l l=>rfl) (fun ρ d q=>by cases q;exact Dw) (fun l=>rfl) (fun f=>by cases f)
  |str x=>
   have h:(if jx x then some (E.k (.str x)) else Option.none)=some E':=h;split at h
   ·rename_i q;cases h;exact sd_plain (fun l=>some _) (fun l l=>rfl) (fun ρ d q'=>by cases q';exact Dy (wK q)) (fun l=>rfl) (fun f=>by cases f)
   ·cases h
  |bool bb=>
   have h:some (E.k (.bool bb))=some E':=h;cases h;exact sd_plain (fun l=>some _) (fun l l=>rfl) (fun ρ d q=>by cases q;exact GB) (fun l=>rfl) (fun f=>by cases f)
  |none=>
   have h:some (E.k .none)=some E':=h;cases h;exact sd_plain (fun l=>some _) (fun l l=>rfl) (fun ρ d q=>by cases q;exact Dx) (fun l=>rfl) (fun f=>by cases f)
  |_=>exact nomatch (show (Option.none:Option E)=some E' from h)
 |Name x epos=>
  have h:qu C x=some E':=h;exact oY c w h
 |BinOp ea eop eb epos=>
  have h:((cOp eop).bind fun o=>(cE n C ea).bind fun a'=>(cE n C eb).map fun b'=>E.op o a' b')=some E':=h;obtain⟨o,h1,h⟩:=bx0 h;obtain⟨a',b',h2,h3,rfl⟩:=aJ h;have A:=ih.E _ _ _ h2 X c w;have B:=ih.E _ _ _ h3 X c w;have both:∀ρ d,((ev Φ Γ .read ρ a').bind fun x=>(ev Φ Γ .read ρ b').bind fun y=>opD o x y)=some d->∃x y,ev Φ Γ .read ρ a'=some x/\ev Φ Γ .read ρ b'=some y/\opD o x y=some d:=fun ρ d q=>by
   obtain⟨x,q1,q⟩:=bx0 q;obtain⟨y,q2,q⟩:=bx0 q;exact⟨x,y,q1,q2,q⟩
  refine sd_plain (fun ρ=>(ev Φ Γ .read ρ a').bind fun x=>(ev Φ Γ .read ρ b').bind fun y=>opD o x y) (fun l l=>rfl) (fun ρ d q=>?_) (fun l=>rfl) (fun l ρ d q hd=>?_)
  ·obtain⟨x,y,q1,q2,q⟩:=both ρ d q
   exact (lS h1 q (A.2.1 ρ x q1) (B.2.1 ρ y q2)).1
  ·obtain⟨x,y,q1,q2,q⟩:=both ρ d q
   exact (lS h1 q (A.2.1 ρ x q1) (B.2.1 ρ y q2)).2 hd
 |UnaryOp eop ea epos=>
  cases eop with
  |USub=>
   have h:(cE n C ea).map E.neg=some E':=h;obtain⟨a',h1,rfl⟩:=mx0 h;have A:=ih.E _ _ _ h1 X c w;refine sd_plain (fun ρ=>(ev Φ Γ .val ρ a').bind fun d=>(asI d).map fun i=>.int (-i)) (fun l l=>rfl) (fun ρ d q=>?_) (fun l=>rfl) (fun f=>by cases f);obtain⟨x,q1,q⟩:=bx0 q;obtain⟨i,q2,rfl⟩:=mx0 q;obtain rfl:=oz q2;exact DF (A.1 ρ _ q1)
  |Not=>
   have h:(cE n C ea).map E.not=some E':=h;obtain⟨a',h1,rfl⟩:=mx0 h;have A:=ih.E _ _ _ h1 X c w;have val:∀ρ d,ev Φ Γ .val ρ (.not a')=some d->Ev X ρ (.UnaryOp .Not ea epos) d:=fun ρ d q=>by
    obtain⟨x,q1,q⟩:=bx0 (show (ev Φ Γ .val ρ a').bind _=some d from q);obtain⟨t,q2,rfl⟩:=mx0 q;obtain rfl:=oA q2;exact DO (A.1 ρ _ q1)
   refine⟨val,fun ρ d q=>(val ρ d q).er,fun ρ d q=>(val ρ d q).ek,fun ρ d q=>?_,fun f=>by cases f⟩;obtain⟨x,q1,q⟩:=bx0 (show (ev Φ Γ .test ρ a').bind _=some d from q);obtain⟨t,q2,rfl⟩:=mx0 q;obtain⟨b,rfl,hb⟩:=A.2.2.2.1 ρ x q1;cases q2;exact⟨_,rfl,DH hb⟩
  |_=>exact nomatch (show (Option.none:Option E)=some E' from h)
 |Compare ea eops ecs epos=>
  cases eops with
  |nil=>exact nomatch (show (Option.none:Option E)=some E' from h)
  |cons eop r1=>
   cases r1 with
   |nil=>
    cases ecs with
    |nil=>exact nomatch (show (Option.none:Option E)=some E' from h)
    |cons eb r2=>
     cases r2 with
     |cons _ _=>exact nomatch (show (Option.none:Option E)=some E' from h)
     |nil=>
      have h:((oB eop).bind fun o=>if isSet eb then Option.none else (cE n C ea).bind fun a'=>(cE n C eb).map fun b'=>E.cmp o a' b')=some E':=h;obtain⟨o,h1,h⟩:=bx0 h;split at h
      ·cases h
      ·rename_i hset
       have hset:isSet _=false:=Bool.eq_false_iff.mpr hset;obtain⟨a',b',h2,h3,rfl⟩:=aJ h;have A:=ih.E _ _ _ h2 X c w;have B:=ih.E _ _ _ h3 X c w;have both:∀ρ d,((ev Φ Γ .read ρ a').bind fun x=>(ev Φ Γ .read ρ b').bind fun y=>(bU o x y).map D.bool)=some d->∃x y t,ev Φ Γ .read ρ a'=some x/\ev Φ Γ .read ρ b'=some y/\bU o x y=some t/\d=.bool t:=fun ρ d q=>by
        obtain⟨x,q1,q⟩:=bx0 q;obtain⟨y,q2,q⟩:=bx0 q;obtain⟨t,q3,q4⟩:=mx0 q;exact⟨x,y,t,q1,q2,q3,q4.symm⟩
       refine wJ (fun ρ=>(ev Φ Γ .read ρ a').bind fun x=>(ev Φ Γ .read ρ b').bind fun y=>(bU o x y).map D.bool) (fun l l=>rfl) (fun ρ d q=>?_) (fun ρ d t q ht=>?_) (fun f=>by cases f)
       ·obtain⟨x,y,t,q1,q2,q3,rfl⟩:=both ρ d q
        obtain⟨r,hr,hR⟩:=kK (X:=X) hu h1 q3;exact DA hr (A.2.1 ρ x q1) (B.2.1 ρ y q2) hR (ir hset)
       ·obtain⟨x,y,t',q1,q2,q3,rfl⟩:=both ρ d q
        cases ht;obtain⟨r,hr,hR⟩:=kK (X:=X) hu h1 q3;exact DB hr (A.2.1 ρ x q1) (B.2.1 ρ y q2) hR (ir hset)
   |cons eop' r1=>
    cases r1 with
    |cons _ _=>exact nomatch (show (Option.none:Option E)=some E' from h)
    |nil=>
     cases ecs with
     |nil=>exact nomatch (show (Option.none:Option E)=some E' from h)
     |cons eb r2=>
      cases r2 with
      |nil=>exact nomatch (show (Option.none:Option E)=some E' from h)
      |cons ec r2=>
       cases r2 with
       |cons _ _=>exact nomatch (show (Option.none:Option E)=some E' from h)
       |nil=>
        have h:((oB eop).bind fun o=>(oB eop').bind fun o'=>if isSet eb||isSet ec then Option.none else (cE n C ea).bind fun a'=>(cE n C eb).bind fun b'=>(cE n C ec).map fun c'=>E.chain o o' a' b' c')=some E':=h;obtain⟨o,h1,h⟩:=bx0 h;obtain⟨o',h1',h⟩:=bx0 h;split at h
        ·cases h
        ·rename_i hset
         have hset:=Bool.eq_false_iff.mpr hset;rw[Bool.or_eq_false_iff] at hset;obtain⟨a',h2,h⟩:=bx0 h;obtain⟨b',c',h3,h4,rfl⟩:=aJ h;have A:=ih.E _ _ _ h2 X c w;have B:=ih.E _ _ _ h3 X c w;have Cc:=ih.E _ _ _ h4 X c w;have both:∀ρ d,((ev Φ Γ .read ρ a').bind fun x=>(ev Φ Γ .read ρ b').bind fun y=>(bU o x y).bind fun t=>if t then (ev Φ Γ .read ρ c').bind fun z=>(bU o' y z).map D.bool else some (.bool false))=some d->
           ∃u,d=.bool u/\∀pos,Ev X ρ (.Compare ea [eop,eop'] [eb,ec] pos) (.bool u)/\Et X ρ (.Compare ea [eop,eop'] [eb,ec] pos) u:=fun ρ d q=>by
          obtain⟨x,q1,q⟩:=bx0 q;obtain⟨y,q2,q⟩:=bx0 q;obtain⟨t,q3,q⟩:=bx0 q;obtain⟨r,hr,hR⟩:=kK (X:=X) hu h1 q3;have hm:lastMarks [eop,eop'] [eb,ec]=false:=ir hset.2;cases t with
          |true=>
           rw[if_pos rfl] at q;obtain⟨z,q4,q⟩:=bx0 q;obtain⟨u,q5,rfl⟩:=mx0 q;obtain⟨r',hr',hR'⟩:=kK (X:=X) hu h1' q5;exact⟨u,rfl,fun pos=>mF hr hr' (A.2.1 ρ x q1) (B.2.1 ρ y q2) (fun l=>Cc.2.1 ρ z q4) hR (fun l=>hR') hm (fun z=>by cases z)⟩
          |false=>
           rw[if_neg fx0] at q;cases q;have any:∃r',OpR X (compareOp eop') r':=⟨fun l l l l=>False,fun pins s σ H x y v u Q I rx ry h=>h.elim⟩;obtain⟨r',hr'⟩:=any;exact⟨false,rfl,fun pos=>mF (d3:=.none) hr hr' (A.2.1 ρ x q1) (B.2.1 ρ y q2) (fun z=>by cases z) hR (fun z=>by cases z) hm (fun l=>rfl)⟩
         refine wJ (fun ρ=>(ev Φ Γ .read ρ a').bind fun x=>(ev Φ Γ .read ρ b').bind fun y=>(bU o x y).bind fun t=>if t then (ev Φ Γ .read ρ c').bind fun z=>(bU o' y z).map D.bool else some (.bool false)) (fun l l=>rfl) (fun ρ d q=>?_) (fun ρ d t q ht=>?_) (fun f=>by cases f)
         ·obtain⟨u,rfl,z⟩:=both ρ d q;exact (z _).1
         ·obtain⟨u,rfl,z⟩:=both ρ d q;cases ht;exact (z _).2
 |BoolOp op es pos=>
  cases es with
  |nil=>exact nomatch (show (Option.none:Option E)=some E' from h)
  |cons a r=>
   cases r with
   |nil=>exact nomatch (show (Option.none:Option E)=some E' from h)
   |cons b r=>
    have h:cBool n C op (a::b::r)=some E':=h;obtain⟨v,t⟩:=ih.B _ _ _ _ h pos X c w;have form:(∃a' b',E'=.and a' b')\/∃a' b',E'=.or a' b':=by
     cases n with
     |zero=>cases h
     |succ n=>
      cases op with
      |And=>obtain⟨a',b',_,_,rfl⟩:=aJ h;exact .inl ⟨_,_,rfl⟩
      |Or=>obtain⟨a',b',_,_,rfl⟩:=aJ h;exact .inr ⟨_,_,rfl⟩
    have re:∀ρ,ev Φ Γ .read ρ E'=ev Φ Γ .val ρ E':=fun ρ=>by rcases form with⟨a',b',rfl⟩|⟨a',b',rfl⟩<;>rfl
    have wa:∀ρ,ev Φ Γ .walk ρ E'=ev Φ Γ .val ρ E':=fun ρ=>by rcases form with⟨a',b',rfl⟩|⟨a',b',rfl⟩<;>rfl
    exact⟨v,fun ρ d q=>(v ρ d (by rw[←re];exact q)).er,fun ρ d q=>(v ρ d (by rw[←wa];exact q)).ek,fun ρ d q=>let ⟨b,e,z⟩:=t ρ d q;⟨b,e,z.et⟩,fun f=>by rcases form with⟨a',b',rfl⟩|⟨a',b',rfl⟩<;>cases f⟩
 |IfExp ec ea eb epos=>
  have h:((cE n C ec).bind fun c'=>(cE n C ea).bind fun a'=>(cE n C eb).map fun b'=>E.ite c' a' b')=some E':=h;obtain⟨c',h1,h⟩:=bx0 h;obtain⟨a',b',h2,h3,rfl⟩:=aJ h;have Cc:=ih.E _ _ _ h1 X c w;have A:=ih.E _ _ _ h2 X c w;have B:=ih.E _ _ _ h3 X c w;have val:∀ρ d,ev Φ Γ .val ρ (.ite c' a' b')=some d->Ev X ρ (.IfExp ec ea eb epos) d:=fun ρ d q=>by
   obtain⟨x,q1,q⟩:=bx0 (show (ev Φ Γ .test ρ c').bind _=some d from q);obtain⟨t,rfl,ht⟩:=Cc.2.2.2.1 ρ x q1;rw[bG,bs0] at q;cases t with
   |true=>rw[if_pos rfl] at q;exact DP ht (A.1 ρ d q)
   |false=>rw[if_neg fx0] at q;exact DQ ht (B.1 ρ d q)
  refine⟨val,fun ρ d q=>(val ρ d q).er,fun ρ d q=>(val ρ d q).ek,fun ρ d q=>?_,fun f=>by cases f⟩;have q:(Option.none:Option D)=some d:=q;cases q
 |Call ef eas eks epos=>
  cases ef with
  |Name f fp=>
   cases eks with
   |cons _ _=>exact nomatch (show (Option.none:Option E)=some E' from h)
   |nil=>
    have h:(if aw C f then lQ n C f eas else Option.none)=some E':=h;split at h
    ·rename_i hg;exact ih.Call _ _ _ _ h hg _ _ X c w
    ·cases h
  |Attribute eo em eapos=>
   cases eks with
   |cons _ _=>exact nomatch (show (Option.none:Option E)=some E' from h)
   |nil=>
    have h:(if bB eo||!(eapos.endLine==epos.line) then Option.none else cMe n C eo em eas)=some E':=h;split at h
    ·cases h
    ·rename_i hq
     have hq:=Bool.eq_false_iff.mpr hq;rw[Bool.or_eq_false_iff] at hq;exact ih.Me _ _ _ _ _ h hq.1 _ _ (by simpa using hq.2) X c w
  |_=>exact nomatch (show (Option.none:Option E)=some E' from h)
 |Attribute eo ex epos=>
  have h:(if ex=("objects":Str) then C.vc.bind fun c=>(cE n C eo).map fun o'=>E.vob c o' else Option.none)=some E':=h;split at h
  ·rename_i hx
   subst hx;obtain⟨vc,h1,h⟩:=bx0 h;obtain⟨o',h2,rfl⟩:=mx0 h;have O:=ih.E _ _ _ h2 X c w;have hsup:bB eo=false:=Eg h2;obtain⟨w1,w2⟩:=w.vc vc h1;have key:∀ρ d,((ev Φ Γ .read ρ o').bind fun x=>if gi vc x then some (D.list (zq x)) else Option.none)=some d->Er X ρ (.Attribute eo "objects" epos) d:=fun ρ d q=>by
    obtain⟨x,q1,q⟩:=bx0 q;split at q
    ·rename_i hv
     cases q;obtain⟨hh,os,rfl⟩:=lP hv;exact Ef w1 w2 (O.2.1 ρ _ q1) hsup
    ·cases q
   refine⟨fun ρ d q=>(nomatch (show (Option.none:Option D)=some d from q)),fun ρ d q=>key ρ d q,fun ρ d q=>(nomatch (show (Option.none:Option D)=some d from q)),fun ρ d q=>?_,fun z=>by cases z⟩;obtain⟨d',q1,q2⟩:=bx0 (show ((ev Φ Γ .read ρ o').bind fun x=>if gi vc x then some (D.list (zq x)) else Option.none).bind (fun d=>(eJ d).map .bool)=some d from q);obtain⟨t,q3,q4⟩:=mx0 q2;exact⟨t,q4.symm,iu (key ρ d' q1) q3 fun l=>rfl⟩
  ·cases h
 |Subscript ea ei epos2=>
  cases ei with
  |Slice elo ehi est epos1=>
   cases est with
   |some est=>
    replace h:(if qw (.Slice elo ehi (some est) epos1) then (cE n C ea).map fun a'=>E.bi .rvl (.cons a' .nil) else Option.none)=some E':=h
    split at h
    ·rename_i hr
     obtain⟨rfl,rfl,j,p3,p4,e⟩:=wM hr;cases e;obtain⟨a',h1,rfl⟩:=mx0 h;have A:=ih.E _ _ _ h1 X c w;refine sd_plain (fun ρ=>(evs Φ Γ .read [true,true,true] ρ (.cons a' .nil)).bind fun ds=>biD .rvl ds) (fun l l=>rfl) (fun ρ d q=>?_) (fun l=>rfl) (fun z=>by cases z);obtain⟨ds,q1,q⟩:=bx0 q;obtain⟨x,q2,q1⟩:=bx0 (show (ev Φ Γ .read ρ a').bind _=some ds from q1);cases q1;cases x with
     |list ls=>cases q;exact (sv (A.2.1 ρ _ q2)).ev
     |_=>cases q
    ·cases h
   |none=>
    have h:((cE n C ea).bind fun a'=>(cO n C elo).bind fun lo'=>(cO n C ehi).map fun hi'=>E.sl a' lo' hi')=some E':=h;obtain⟨a',h1,h⟩:=bx0 h;obtain⟨lo',hi',h2,h3,rfl⟩:=aJ h;have A:=ih.E _ _ _ h1 X c w;have key:∀ρ d,((ev Φ Γ .read ρ a').bind fun x=>(evP Φ Γ ρ lo').bind fun y=>(evP Φ Γ ρ hi').bind fun z=>slD x y z)=some d->Ev X ρ (.Subscript ea (.Slice elo ehi Option.none epos1) epos2) d/\(bF d=true->En X ρ (.Subscript ea (.Slice elo ehi Option.none epos1) epos2) d):=fun ρ d q=>by
     obtain⟨x,q1,q⟩:=bx0 q;obtain⟨y,q2,q⟩:=bx0 q;obtain⟨z,q3,q⟩:=bx0 q;cases x with
     |list ds=>
      cases q;have:=sk (pos:=epos2) (p2:=epos1) (A.2.1 ρ _ q1) (ih.O _ _ _ h2 X c w ρ y q2) (ih.O _ _ _ h3 X c w ρ z q3);exact⟨this.ev,fun l=>this⟩
     |str x=>
      rw[Dn] at q;split at q
      ·rename_i hz
       cases q;exact⟨su (A.2.1 ρ _ q1) (ih.O _ _ _ h2 X c w ρ y q2) (ih.O _ _ _ h3 X c w ρ z q3) hz,fun z=>by cases z⟩
      ·cases q
     |_=>cases q
    exact sd_plain (fun ρ=>(ev Φ Γ .read ρ a').bind fun x=>(evP Φ Γ ρ lo').bind fun y=>(evP Φ Γ ρ hi').bind fun z=>slD x y z) (fun l l=>rfl) (fun ρ d q=>(key ρ d q).1) (fun l=>rfl) (fun l ρ d q o=>(key ρ d q).2 o)
  |_=>exact ih.Sub _ _ _ _ h rfl _ X c w
 |List ees epos=>
  have h:(cEs n C ees).map E.lst=some E':=h;obtain⟨as,h1,rfl⟩:=mx0 h;obtain⟨s1,s2,s3⟩:=ih.Es _ _ _ h1 X c w;have key:∀ρ d,((evs Φ Γ .val [] ρ as).bind fun ds=>if ds.length≤1000 then some (D.list ds) else Option.none)=some d->En X ρ (.List ees epos) d:=fun ρ d q=>by
   obtain⟨ds,q1,q⟩:=bx0 q;split at q
   ·rename_i hz;cases q;exact en_lst (s3 ρ ds q1) hz
   ·cases q
  exact sd_plain (fun ρ=>(evs Φ Γ .val [] ρ as).bind fun ds=>if ds.length≤1000 then some (D.list ds) else Option.none) (fun l l=>rfl) (fun ρ d q=>(key ρ d q).ev) (fun l=>rfl) (fun l ρ d q l=>key ρ d q)
 |Tuple es ek epos=>
  have h:(cEs n C es).map E.tup=some E':=h;obtain⟨as,h1,rfl⟩:=mx0 h;obtain⟨s1,s2,s3⟩:=ih.Es _ _ _ h1 X c w;refine sd_plain (fun ρ=>(evs Φ Γ .val [] ρ as).bind fun ds=>if ds.length≤1000 then some (D.tuple ds) else Option.none) (fun l l=>rfl) (fun ρ d q=>?_) (fun l=>rfl) (fun f=>by cases f);obtain⟨ds,q1,q⟩:=bx0 q;split at q
  ·rename_i hz;cases q;exact ev_tup (s3 ρ ds q1) hz
  ·cases q
 |JoinedStr vs epos=>
  have h:((qy vs).bind fun q=>(cE n C q.2).map fun a'=>E.bi .fst (.cons (.k (.str q.1)) (.cons a' .nil)))=some E':=h;obtain⟨⟨x,a⟩,h1,h2⟩:=bx0 h;obtain⟨a',h3,rfl⟩:=mx0 h2;obtain⟨j,p1,p2,hx,rfl⟩:=wL h1;have A:=ih.E _ _ _ h3 X c w;refine sd_plain (fun ρ=>(evs Φ Γ .read [true,true,true] ρ (.cons (.k (.str x)) (.cons a' .nil))).bind fun ds=>biD .fst ds) (fun l l=>rfl) (fun ρ d q=>?_) (fun l=>rfl) (fun f=>by cases f);obtain⟨ds,q1,q⟩:=bx0 q;obtain⟨u,q2,q3⟩:=bx0 (show (some (D.str x)).bind _=some ds from q1);cases q2;obtain⟨r,q4,rfl⟩:=mx0 q3;obtain⟨y,q5,q6⟩:=bx0 (show (ev Φ Γ .read ρ a').bind _=some r from q4)
  obtain⟨r',q7,rfl⟩:=mx0 q6;cases q7;cases y with
  |str y=>
   have q:(if x.length+y.length≤big then some (D.str (x++y)) else Option.none)=some d:=q;split at q
   ·rename_i hz;cases q;exact fst_sound hx (A.2.1 ρ _ q5) hz
   ·cases q
  |_=>exact nomatch (show (Option.none:Option D)=some d from q)
 |ListComp eelt gens esc epos=>
  cases gens with
  |nil=>exact nomatch (show (Option.none:Option E)=some E' from h)
  |cons g r=>
   obtain⟨etg,eiter,eifs,asy⟩:=g;cases asy with
   |negSucc _=>cases r<;>exact nomatch (show (Option.none:Option E)=some E' from h)
   |ofNat m=>
   cases m with
   |succ _=>cases r<;>exact nomatch (show (Option.none:Option E)=some E' from h)
   |zero=>
    cases r with
    |cons _ _=>exact nomatch (show (Option.none:Option E)=some E' from h)
    |nil=>
     have h:((oE n C etg eiter).bind fun src=>(sd C esc etg).bind fun (B,nt,js)=>(cTg B etg).bind fun t=>if !gC t nt then Option.none else (if eifs.length≤1 then cEs n B eifs else Option.none).bind fun i'=>(cE n B eelt).map fun e'=>E.comp nt js t src i' e')=some E':=h;obtain⟨src,h1,h⟩:=bx0 h;obtain⟨⟨B,nt,js⟩,h2,h⟩:=bx0 h;obtain⟨t,h3,h⟩:=bx0 h;split at h
     ·cases h
     ·rename_i hlt
      have hlt:gC t nt=true:=by simpa using hlt
      obtain⟨i',e',h4,h5,rfl⟩:=aJ h;split at h4
      ·rename_i hl
       have R:=kS c h2;obtain⟨S2,S3⟩:=ih.Src _ _ _ _ h1 X c w;have T:iE X Φ Γ esc (aS X (bt etg) js) etg t eifs i' eelt e':=⟨fun A s H fp=>qL (R.cx A s H fp) h3,
        fun A s H fp ρ b q=>ih.T _ _ _ h4 hl _ (R.cx A s H fp) (w.blk R.same A s H fp) ρ b q,fun A s H fp ρ d q=>(ih.E _ _ _ h5 _ (R.cx A s H fp) (w.blk R.same A s H fp)).1 ρ d q⟩
       have key:∀ρ d,((evI Φ Γ .read ρ src).bind fun ds=>if ds.length≤big then (aM (gr Φ Γ nt js t i' e' ρ) ds).map D.list else Option.none)=some d->En X ρ (.ListComp eelt [⟨etg,eiter,eifs,0⟩] esc epos) d:=fun ρ d q=>by
        obtain⟨ds,q1,q⟩:=bx0 q;split at q
        ·rename_i hz
         obtain⟨out,q2,rfl⟩:=mx0 q;rw[R.nt] at q2 hlt;exact Ac R.ok c.calm (S2 ρ ds q1) T hlt (by rw[←big_eq];exact hz) q2 (eV S3)
        ·cases q
       exact sd_plain (fun ρ=>(evI Φ Γ .read ρ src).bind fun ds=>if ds.length≤big then (aM (gr Φ Γ nt js t i' e' ρ) ds).map D.list else Option.none) (fun l l=>rfl) (fun ρ d q=>(key ρ d q).ev) (fun l=>rfl) (fun l ρ d q l=>key ρ d q)
      ·cases h4
 |_=>exact nomatch (show (Option.none:Option E)=some E' from h)
set_option tactic.hygienic false
theorem Ah (ih:Snd Φ Γ k n){a j:Expr}{E':E}{pos:Pos}(h:zE (n+1) C a j=some E')(hs:isSlice j=false)(c:CxC X C)(w:Wz X Φ Γ C k):SdE X Φ Γ (.Subscript a j pos) E':=by
 have hu:=w.room.units;have hu1:X.A.units+1<cLine:=by omega
 unfold zE at h;obtain⟨a',j',h1,h2,rfl⟩:=aJ h;have A:=ih.E _ _ _ h1 X c w;have J:=ih.E _ _ _ h2 X c w;refine sd_plain (fun ρ=>(ev Φ Γ .read ρ a').bind fun x=>(ev Φ Γ .val ρ j').bind fun y=>lM x y) (fun b b=>rfl) (fun ρ d q=>?_) (fun b=>rfl) (fun f=>by cases f);obtain⟨x,q1,q⟩:=bx0 q;obtain⟨y,q2,q⟩:=bx0 q;exact sj hu1 q (A.2.1 ρ x q1) (J.1 ρ y q2) hs
theorem GN (ih:Snd Φ Γ k n){eo:Option Expr}{as:Es}(h:cO (n+1) C eo=some as)(c:CxC X C)(w:Wz X Φ Γ C k)(ρ:List Sl)(o:Option Int)(q:evP Φ Γ ρ as=some o):PO X eo (tPt X.K ρ o):=by
 cases eo with
 |none=>cases h;cases q;exact vD
 |some e=>
  obtain⟨a',h1,rfl⟩:=mx0 (show (cE n C e).map _=some as from h);obtain⟨d,q1,q2⟩:=bx0 (show (ev Φ Γ .val ρ a').bind _=some o from q);obtain⟨i,q3,rfl⟩:=mx0 q2;have A:=ih.E _ _ _ h1 X c w;obtain rfl:=oz q3;exact vF (A.1 ρ _ q1)
theorem GO (ih:Snd Φ Γ k n){op:BoolOp}{es:List Expr}{E':E}{pos:Pos}(h:cBool (n+1) C op es=some E')(c:CxC X C)(w:Wz X Φ Γ C k):
  (∀ρ d,ev Φ Γ .val ρ E'=some d->Ev X ρ (.BoolOp op es pos) d)/\(∀ρ d,ev Φ Γ .test ρ E'=some d->∃b,d=.bool b/\Ew X ρ (.BoolOp op es pos) b):=by
 match es,op,h with
 |[a],op,h=>
  have h:cE n C a=some E':=by cases op<;>exact h
  have A:=ih.E _ _ _ h X c w;refine⟨fun ρ d q=>DL (A.1 ρ d q),fun ρ d q=>?_⟩;obtain⟨b,rfl,t⟩:=A.2.2.2.1 ρ d q;cases op with
  |And=>exact⟨b,rfl,zH t⟩
  |Or=>exact⟨b,rfl,DI t⟩
 |a::b::r,.And,h=>
  obtain⟨a',b',h1,h2,rfl⟩:=aJ h;have A:=ih.E _ _ _ h1 X c w;obtain⟨B1,B2⟩:=ih.B _ _ _ _ h2 pos X c w;refine⟨fun ρ d q=>?_,fun ρ d q=>?_⟩
  ·obtain⟨x,q1,q⟩:=bx0 (show (ev Φ Γ .val ρ a').bind _=some d from q)
   obtain⟨t,q2,q5⟩:=bx0 q;have e:=oA q2;subst e;cases t with
   |true=>rw[if_pos rfl] at q5;exact zK (A.1 ρ _ q1) (B1 ρ d q5)
   |false=>rw[if_neg fx0] at q5;cases q5;exact zL (A.1 ρ _ q1)
  ·obtain⟨x,q1,q⟩:=bx0 (show (ev Φ Γ .test ρ a').bind _=some d from q)
   obtain⟨t,rfl,ht⟩:=A.2.2.2.1 ρ x q1;rw[bG,bs0] at q;cases t with
   |true=>
    rw[if_pos rfl] at q;obtain⟨b,rfl,hb⟩:=B2 ρ d q;exact⟨b,rfl,zI ht hb⟩
   |false=>rw[if_neg fx0] at q;cases q;exact⟨false,rfl,zJ ht⟩
 |a::b::r,.Or,h=>
  obtain⟨a',b',h1,h2,rfl⟩:=aJ h;have A:=ih.E _ _ _ h1 X c w;obtain⟨B1,B2⟩:=ih.B _ _ _ _ h2 pos X c w;refine⟨fun ρ d q=>?_,fun ρ d q=>?_⟩
  ·obtain⟨x,q1,q⟩:=bx0 (show (ev Φ Γ .val ρ a').bind _=some d from q)
   obtain⟨t,q2,q5⟩:=bx0 q;have e:=oA q2;subst e;cases t with
   |true=>rw[if_pos rfl] at q5;cases q5;exact DN (A.1 ρ _ q1)
   |false=>rw[if_neg fx0] at q5;exact DM (A.1 ρ _ q1) (B1 ρ d q5)
  ·obtain⟨x,q1,q⟩:=bx0 (show (ev Φ Γ .test ρ a').bind _=some d from q)
   obtain⟨t,rfl,ht⟩:=A.2.2.2.1 ρ x q1;rw[bG,bs0] at q;cases t with
   |true=>rw[if_pos rfl] at q;cases q;exact⟨true,rfl,DK ht⟩
   |false=>
    rw[if_neg fx0] at q;obtain⟨b,rfl,hb⟩:=B2 ρ d q;exact⟨b,rfl,DJ ht hb⟩
 |[],.And,h=>cases h
 |[],.Or,h=>cases h
set_option tactic.hygienic true
theorem Eh (ih:Snd Φ Γ k n){es:List Expr}{as:Es}(h:cEs (n+1) C es=some as)(c:CxC X C)(w:Wz X Φ Γ C k):
  aB es/\(∀fl ρ ds,evs Φ Γ .read fl ρ as=some ds->Ea X ρ fl es ds)/\(∀ρ ds,evs Φ Γ .val [] ρ as=some ds->Ea X ρ [] es ds):=by
 cases es with
 |nil=>cases h;exact⟨fun a z=>(by cases z),fun fl ρ ds q=>(by cases q;exact oF),fun ρ ds q=>(by cases q;exact oF)⟩
 |cons e r=>
  have h:(if isStar e then Option.none else (cE n C e).bind _)=some as:=h;split at h
  ·cases h
  ·rename_i hs
   have hs:=Bool.eq_false_iff.mpr hs;obtain⟨a',r',h1,h2,rfl⟩:=aJ h;have A:=ih.E _ _ _ h1 X c w;obtain⟨R1,R2,R3⟩:=ih.Es _ _ _ h2 X c w;refine⟨fun x hx=>(mq0 hx).elim (fun z=>z▸hs) (R1 x),fun fl ρ ds q=>?_,fun ρ ds q=>?_⟩
   ·obtain⟨x,q1,q⟩:=bx0 (q)
    obtain⟨rs,q2,rfl⟩:=mx0 q;cases hf:fl.headD false with
    |true=>rw[hf,if_pos rfl] at q1;exact vy (A.2.1 ρ x q1) hf (R2 _ ρ rs q2) hs
    |false=>rw[hf,if_neg fx0] at q1;exact iq (A.1 ρ x q1) (R2 _ ρ rs q2) hs
   ·obtain⟨x,q1,q⟩:=bx0 (q)
    obtain⟨rs,q2,rfl⟩:=mx0 q;exact iq (A.1 ρ x q1) (R3 ρ rs q2) hs
theorem stepT (ih:Snd Φ Γ k n){es:List Expr}{as:Es}(h:cEs (n+1) C es=some as)(hl:es.length≤1)(c:CxC X C)(w:Wz X Φ Γ C k)(ρ:List Sl)(b:Bool)(q:evC Φ Γ ρ as=some b):Ecs X ρ es b:=by
 cases es with
 |nil=>cases h;cases q;exact Aa
 |cons e r=>
  cases r with
  |cons=>simp at hl
  |nil=>
   have h:(if isStar e then Option.none else (cE n C e).bind _)=some as:=h;split at h
   ·cases h
   ·obtain⟨a',r',h1,h2,rfl⟩:=aJ h
    obtain⟨x,q1,q2⟩:=bx0 (q);obtain⟨t,rfl,ht⟩:=(ih.E _ _ _ h1 X c w).2.2.2.1 ρ x q1;cases q2;exact Ab ht
theorem Ai {x:Str}{f:Bf}(h:ip x=some f):x∈bltNames:=by
 unfold ip at h
 repeat' split at h
 all_goals first|cases h;done|(rename_i c;subst c;simp[bltNames])
theorem Ei {x:Str}{T:String}(h:rZ x=some T):x∈bltNames:=by
 unfold rZ at h
 repeat' split at h
 all_goals first|grind|(rename_i c;subst c;simp[bltNames])
theorem wO (ih:Snd Φ Γ k n){f:Str}{as:List Expr}{E':E}{p pos:Pos}(h:lQ (n+1) C f as=some E')(hg:aw C f=true)(c:CxC X C)(w:Wz X Φ Γ C k):SdE X Φ Γ (.Call (.Name f p) as [] pos) E':=by
 have h:(if C.fns.contains f then (if as.isEmpty then Option.none else (cEs n C as).map fun as'=>E.call f as')
  else if f=("isinstance":Str) then (match kH C as with
   |some q=>(cE n C q.1).map fun a'=>E.isx a' q.2.1 q.2.2
   |Option.none=>(kG C as).bind fun q=>(cE n C q.1).map fun a'=>E.isi a' q.2)
   else if f=("sorted":Str) then (setArg C as).bind fun a=>(cEs n C [a]).map fun as'=>E.bi .srt as'
   else match gQ C f as with
    |some q=>(cEs n C q.2).map fun as'=>E.bi q.1 as'
    |Option.none=>(ip f).bind fun b=>if as.isEmpty then Option.none else (cEs n C as).map fun as'=>E.bi b as')=some E':=h
 split at h
 ·rename_i hf
  split at h
  ·cases h
  ·rename_i hne
   obtain⟨as',h1,rfl⟩:=mx0 h;obtain⟨S1,S2,S3⟩:=ih.Es _ _ _ h1 X c w;cases as with
   |nil=>exact absurd rfl hne
   |cons e es=>
    refine sd_plain (fun ρ=>(Φ f).bind fun φ=>(evs Φ Γ .read φ.lent ρ as').bind φ.run) (fun i i=>rfl) (fun ρ d q=>?_) (fun i=>rfl) (fun z=>by cases z);obtain⟨φ,q1,q⟩:=bx0 q;obtain⟨ds,q2,q⟩:=bx0 q;exact oR (w.fns f hf φ q1) w.room (aK c hg).1 (aK c hg).2.2 (S2 φ.lent ρ ds q2) q S1
 split at h
 ·rename_i hi
  split at h
  ·rename_i qx hqx
   obtain⟨ea,xc,tab⟩:=qx;obtain⟨a',h2,rfl⟩:=mx0 h;subst hi;have A:=ih.E _ _ _ h2 X c w;unfold kH at hqx;split at hqx
   ·split at hqx
    ·rename_i hgt
     rw[be0] at hgt;obtain⟨⟨xc',tab'⟩,h3,h4⟩:=mx0 hqx;cases h4;refine sd_plain (fun ρ=>(ev Φ Γ .read ρ a').bind fun x=>(zr tab x).map .bool) (fun i i=>rfl) (fun ρ d q=>?_) (fun i=>rfl) (fun z=>by cases z);obtain⟨x,q1,q⟩:=bx0 q;obtain⟨t,q2,rfl⟩:=mx0 q;obtain⟨e,rfl⟩:=zD q2;exact tF (bA c w hg (by simp[bltNames])) (w.xc _ _ _ h3) (aK c hgt.1).1 (aK c hgt.1).2.2 (A.2.1 ρ _ q1) (by simpa using hgt.2) q2
    ·cases hqx
   ·cases hqx
  obtain⟨⟨ea,T⟩,h1,h⟩:=bx0 h;obtain⟨a',h2,rfl⟩:=mx0 h;subst hi;have A:=ih.E _ _ _ h2 X c w;unfold kG at h1;split at h1
  ·split at h1
   ·rename_i hgt
    rw[be0] at hgt;obtain⟨T',h3,h4⟩:=mx0 h1;cases h4;refine sd_plain (fun ρ=>(ev Φ Γ .read ρ a').bind fun x=>(jb T x).map .bool) (fun i i=>rfl) (fun ρ d q=>?_) (fun i=>rfl) (fun z=>by cases z);obtain⟨x,q1,q⟩:=bx0 q;obtain⟨t,q2,rfl⟩:=mx0 q;exact sY (bA c w hg (by simp[bltNames])) (bA c w hgt.1 (Ei h3)) h3 (A.2.1 ρ x q1) (by simpa using hgt.2) q2
   ·cases h1
  ·cases h1
 split at h
 ·rename_i hi
  obtain⟨a,h1,h⟩:=bx0 h;obtain⟨as',h2,rfl⟩:=mx0 h;subst hi;obtain⟨S1,S2,S3⟩:=ih.Es _ _ _ h2 X c w;obtain⟨sp,qp,gs,rfl⟩:=tG h1;have Bl:=bA c w hg (by simp[bltNames]);have Bs:=bA c w gs (by simp[bltNames]);refine sd_plain (fun ρ=>(evs Φ Γ .read [true,true,true] ρ as').bind fun ds=>biD .srt ds) (fun i i=>rfl) (fun ρ d q=>?_) (fun i=>rfl) (fun z=>by cases z);obtain⟨ds,q1,q⟩:=bx0 q;exact sW c.calm Bl Bs q (S2 _ ρ ds q1) (S1 a ms0)
 split at h
 ·rename_i nq hn
  obtain⟨as',h2,rfl⟩:=mx0 h;obtain⟨g,sp,as1,qp,rfl,hgg,hs,e2,hw⟩:=oZ hn;obtain⟨b,as2⟩:=nq;cases e2;obtain⟨S1,S2,S3⟩:=ih.Es _ _ _ h2 X c w;refine sd_plain (fun ρ=>(evs Φ Γ .read [true,true,true] ρ as').bind fun ds=>biD b ds) (fun i i=>rfl) (fun ρ d q=>?_) (fun i=>rfl) (fun z=>?_)
  ·obtain⟨ds,q1,q⟩:=bx0 q
   have Ea1:=S2 _ ρ ds q1;rcases hw with⟨rfl,rfl,⟨a,rfl⟩,e⟩|⟨rfl,rfl,⟨a,a2,rfl⟩,e⟩
   ·cases e
    exact oP c.calm (bA c w hg (by simp[bltNames])) (bA c w hgg (by simp[bltNames])) q Ea1 (hs a ms0)
   ·cases e
    match ds,q with
    |[.list xs,.list ys],q=>cases q;exact oO c.calm (bA c w hg (by simp[bltNames])) (bA c w hgg (by simp[bltNames])) Ea1 hs
  ·rcases hw with⟨_,_,_,e⟩|⟨_,_,_,e⟩<;>(cases e;cases z)
 ·obtain⟨b,h1,h⟩:=bx0 h
  split at h
  ·cases h
  ·rename_i hne
   obtain⟨as',h2,rfl⟩:=mx0 h;obtain⟨S1,S2,S3⟩:=ih.Es _ _ _ h2 X c w;cases as with
   |nil=>exact absurd rfl hne
   |cons e es=>
    have Bl:=bA c w hg (Ai h1);refine sd_plain (fun ρ=>(evs Φ Γ .read [true,true,true] ρ as').bind fun ds=>biD b ds) (fun i i=>rfl) (fun ρ d q=>?_) (fun i=>rfl) (fun z ρ d q hd=>?_)
    ·obtain⟨ds,q1,q⟩:=bx0 q
     exact (mf c.calm Bl h1 q (S2 _ ρ ds q1) S1).1
    ·obtain⟨ds,q1,q⟩:=bx0 q
     exact (mf c.calm Bl h1 q (S2 _ ρ ds q1) S1).2 (by cases b<;>exact z) hd
theorem kT {m:Md}:∀{es:List Expr} {n:Nat} {as:Es} {fl:List Bool} {ρ:List Sl} {ds:List D},cEs n C es=some as->evs Φ Γ m fl ρ as=some ds->ds.length=es.length
 |_,0,_,_,_,_,h,_=>(nomatch (show Option.none=some _ from h))
 |[],n+1,_,_,_,_,h,q=>by cases h;simp_all
 |e::r,n+1,as,fl,ρ,ds,h,q=>by
  have h:(if isStar e then Option.none else (cE n C e).bind _)=some as:=h;split at h
  ·cases h
  ·obtain⟨a',r',h1,h2,rfl⟩:=aJ h
   obtain⟨x,q1,q2⟩:=bx0 (q);obtain⟨rs,q3,rfl⟩:=mx0 q2;rw[lc0,lc0,kT h2 q3]
theorem Ej (ih:Snd Φ Γ k n){o:Expr}{m:Str}{as:List Expr}{E':E}{apos pos:Pos}(h:cMe (n+1) C o m as=some E')(hsup:bB o=false)(hline:(apos.endLine==pos.line)=true)(c:CxC X C)(w:Wz X Φ Γ C k):SdE X Φ Γ (.Call (.Attribute o m apos) as [] pos) E':=by
 have h:(if C.vms.contains m then (if 20<as.length then Option.none else C.vc.bind fun c=>(cE n C o).bind fun o'=>(cEs n C as).map fun as'=>E.vcall c m o' as')
  else (qv m).bind fun m'=>(cE n C o).bind fun o'=>(se as).bind fun a=>if isStar a then Option.none else (cE n C a).map fun a'=>E.me m' o' (.cons a' .nil))=some E':=h
 split at h
 ·rename_i hm
  split at h
  ·cases h
  ·rename_i hlen
   obtain⟨vc,h1,h⟩:=bx0 h;obtain⟨o',as',h2,h3,rfl⟩:=aJ h;have O:=ih.E _ _ _ h2 X c w;obtain⟨S1,S2,S3⟩:=ih.Es _ _ _ h3 X c w;refine sd_plain (fun ρ=>(ev Φ Γ .read ρ o').bind fun x=>if gi vc x then (Φ (ao m)).bind fun φ=>(evs Φ Γ .read φ.lent.tail ρ as').bind fun ds=>if φ.lent.headD false then φ.run (x::ds) else Option.none else Option.none) (fun b b=>rfl) (fun ρ d q0=>?_) (fun b=>rfl) (fun z=>by cases z);obtain⟨x,q1,q4⟩:=bx0 q0;clear q0;split at q4
   ·rename_i hv
    obtain⟨φ,q2,q5⟩:=bx0 q4;obtain⟨ds,q3,q6⟩:=bx0 q5;clear q4 q5;split at q6
    ·rename_i hl
     obtain⟨hh,os,rfl⟩:=lP hv;exact wH (w.vf vc m h1 hm φ q2) (w.vc vc h1).1 w.room (O.2.1 ρ _ q1) (S2 _ ρ ds q3) hl q6 S1 (fun e=>List.eq_nil_of_length_eq_zero (by rw[kT h3 q3,e];rfl)) (jL hsup S1 (by omega) hline)
    ·cases q6
   ·cases q4
 ·obtain⟨f,h1,h⟩:=bx0 h
  obtain⟨o',h2,h⟩:=bx0 h;obtain⟨ea,ho,h⟩:=bx0 h;cases as with
  |nil=>cases ho
  |cons ea' r=>
   cases r with
   |cons _ _=>cases ho
   |nil=>
    cases ho;have h:(if isStar ea then Option.none else (cE n C ea).map fun a'=>E.me f o' (.cons a' .nil))=some E':=h;split at h
    ·cases h
    ·rename_i hq
     have hq:=Bool.eq_false_iff.mpr hq;obtain⟨a',h3,rfl⟩:=mx0 h;have O:=ih.E _ _ _ h2 X c w;have A:=ih.E _ _ _ h3 X c w;have both:∀ρ d,((ev Φ Γ .read ρ o').bind fun x=>(evs Φ Γ .read [true,true] ρ (.cons a' .nil)).bind fun ds=>meD f x ds)=some d->∃x y,ev Φ Γ .read ρ o'=some x/\ev Φ Γ .read ρ a'=some y/\meD f x [y]=some d:=fun ρ d q=>by
      obtain⟨x,q1,q⟩:=bx0 q;obtain⟨ds,q2,q⟩:=bx0 q;obtain⟨y,q3,q4⟩:=bx0 (show (ev Φ Γ .read ρ a').bind _=some ds from q2);cases q4;exact⟨x,y,q1,q3,q⟩
     refine sd_plain (fun ρ=>(ev Φ Γ .read ρ o').bind fun x=>(evs Φ Γ .read [true,true] ρ (.cons a' .nil)).bind fun ds=>meD f x ds) (fun b b=>rfl) (fun ρ d q=>?_) (fun b=>rfl) (fun hf ρ d q b=>?_)
     ·obtain⟨x,y,q1,q2,q⟩:=both ρ d q
      exact (mB h1 q (O.2.1 ρ x q1) (A.2.1 ρ y q2) hq hsup hline).1
     ·obtain⟨x,y,q1,q2,q⟩:=both ρ d q
      exact (mB h1 q (O.2.1 ρ x q1) (A.2.1 ρ y q2) hq hsup hline).2 (by cases f<;>first|rfl|cases hf)
theorem stepI (ih:Snd Φ Γ k n){e:Expr}{src:I}(h:cI (n+1) C e=some src)(c:CxC X C)(w:Wz X Φ Γ C k):
  (∀ρ ds,evI Φ Γ .walk ρ src=some ds->Si X ρ true e ds)/\(∀ρ ds,evI Φ Γ .read ρ src=some ds->Si X ρ false e ds)/\isSet e=false:=by
 have seq:∀src,(cE n C e).map I.seq=some src->(∀ρ ds,evI Φ Γ .walk ρ src=some ds->Si X ρ true e ds)/\(∀ρ ds,evI Φ Γ .read ρ src=some ds->Si X ρ false e ds):=fun src h=>by
  obtain⟨a',h1,rfl⟩:=mx0 h;have A:=ih.E _ _ _ h1 X c w;refine⟨fun ρ ds q=>?_,fun ρ ds q=>?_⟩
  ·obtain⟨d,q1,q⟩:=bx0 (show (ev Φ Γ .walk ρ a').bind bV=some ds from q)
   exact wo q (A.2.2.1 ρ d q1)
  ·obtain⟨d,q1,q⟩:=bx0 (show (ev Φ Γ .read ρ a').bind bV=some ds from q)
   exact sZ q (A.2.1 ρ d q1)
 unfold cI at h;split at h
 ·split at h
  ·rename_i hf
   subst hf;split at h
   ·rename_i hg
    rw[be0] at hg;have Bl:=bA c w hg.1 (by simp[bltNames]);split at h
    ·rename_i ea
     split at h
     ·cases h
     ·rename_i hs
      obtain⟨a',h1,rfl⟩:=mx0 h;have A:=ih.E _ _ _ h1 X c w;have key:∀p1 p2 wk ρ ds,((ev Φ Γ .val ρ a').bind fun d=>(asI d).bind fun n=>if rOk n then some ((List.range n.toNat).map fun (k:Nat)=>D.int k) else Option.none)=some ds->Si X ρ wk (.Call (.Name "range" p1) [ea] [] p2) ds:=fun p1 p2 wk ρ ds q=>by
       obtain⟨d,q1,q⟩:=bx0 q;obtain⟨i,q2,q⟩:=bx0 q;split at q
       ·rename_i hr
        cases q;obtain rfl:=oz q2;exact tf Bl (A.1 ρ _ q1) hr (Bool.eq_false_iff.mpr hs)
       ·cases q
      exact⟨key _ _ true,key _ _ false,rfl⟩
    ·cases h
   ·cases h
  ·exact⟨(seq _ h).1,(seq _ h).2,rfl⟩
 ·split at h
  ·cases h
  ·rename_i hs
   exact⟨(seq _ h).1,(seq _ h).2,Bool.eq_false_iff.mpr hs⟩
theorem Aj (ih:Snd Φ Γ k n){tg e:Expr}{src:I}(h:oE (n+1) C tg e=some src)(c:CxC X C)(w:Wz X Φ Γ C k):
  (∀ρ ds,evI Φ Γ .read ρ src=some ds->PI X tg e (tSi X.K ρ false ds))/\isSet e=false:=by
 have old:cI n C e=some src->(∀ρ ds,evI Φ Γ .read ρ src=some ds->PI X tg e (tSi X.K ρ false ds))/\isSet e=false:=fun h=>by
  obtain⟨S1,S2,S3⟩:=ih.I _ _ _ h X c w;exact⟨fun ρ ds q=>S2 ρ ds q tg,S3⟩
 have zip:∀f p as pos,(if f=("zip":Str) then (if aw C f&&!C.fns.contains f&&isTup tg then (cEs n C as).map I.zip else Option.none) else cI n C (.Call (.Name f p) as [] pos))=some src->e=.Call (.Name f p) as [] pos->(∀ρ ls ds,ls.length=as.length->Ea X ρ [true,true,true] as ls->aB as->qm ls=some ds->Blt X "zip"->∀elts tk tpos p pos,PI X (.Tuple elts tk tpos) (.Call (.Name "zip" p) as [] pos) (tSi X.K ρ false ds))->
   (∀ρ ds,evI Φ Γ .read ρ src=some ds->PI X tg e (tSi X.K ρ false ds))/\isSet e=false:=fun f p as pos h he hz=>by
  split at h
  ·rename_i hf
   subst hf;split at h
   ·rename_i hg
    simp only[be0] at hg;have Bl:=bA c w hg.1.1 (by simp[bltNames]);obtain⟨as',h1,rfl⟩:=mx0 h;obtain⟨S1,S2,S3⟩:=ih.Es _ _ _ h1 X c w;refine⟨fun ρ ds q=>?_,by rw[he];rfl⟩;obtain⟨ls,q1,q⟩:=bx0 (show (evs Φ Γ .read [true,true,true] ρ as').bind qm=some ds from q);cases tg with
    |Tuple elts tk tpos=>rw[he];exact hz ρ ls ds (kT h1 q1) (S2 _ ρ ls q1) S1 q Bl elts tk tpos p pos
    |_=>exact absurd hg.2 (by simp[isTup])
   ·cases h
  ·exact old (by rw[he];exact h)
 unfold oE at h;split at h
 ·refine zip _ _ _ _ h rfl fun ρ ls ds hl A S1 q Bl elts tk tpos p pos=>?_
  match ls,hl,q,A with
  |[.list a,.list b],_,q,A=>
   rw[zC] at q;split at q
   ·rename_i hl
    cases q;exact zY Bl A S1 hl
   ·cases q
 ·exact old h
set_option tactic.hygienic false
theorem snd (Φ:Fs)(Γ:List (Str×D))(k:Nat):∀n,Snd Φ Γ k n
 |0=>⟨fun d d d h=>(nomatch (show Option.none=some _ from h)),fun d d d d d h=>(nomatch (show Option.none=some _ from h)),fun d d d d h=>(nomatch (show Option.none=some _ from h)),fun d d d h=>(nomatch (show Option.none=some _ from h)),fun d d d d h=>(nomatch (show Option.none=some _ from h)),fun d d d d h=>(nomatch (show Option.none=some _ from h)),fun d d d h=>(nomatch (show Option.none=some _ from h)),fun d d d h=>(nomatch (show Option.none=some _ from h)),fun d d d d h=>(nomatch (show Option.none=some _ from h)),fun d d d h=>(nomatch (show Option.none=some _ from h))⟩
 |n+1=>by
  have ih:=snd Φ Γ k n;exact⟨fun C e E' h X c w=>wN ih h c w,fun C o m as E' h hsup apos pos hline X c w=>Ej ih h hsup hline c w,fun C a j E' h hs pos X c w=>Ah ih h hs c w,fun C eo as h X c w ρ o q=>GN ih h c w ρ o q,fun C op es E' h pos X c w=>GO ih h c w,fun C f as E' h hg p pos X c w=>wO ih h hg c w,
   fun C es as h X c w=>Eh ih h c w,fun C es as h hl X c w ρ b q=>stepT ih h hl c w ρ b q,fun C tg e src h X c w=>Aj ih h c w,fun C e src h X c w=>stepI ih h c w⟩
end
section
variable {Φ:Fs}{Γ:List (Str×D)}{k n:Nat}{C:Cs}{X:Cx}{ρ:List Sl}{x:Str}{i:Nat}
theorem cC {v:Expr}{t:Option Expr}{line:Nat}{env:Env}(h:dc v=false):swapsWith v t line env=pure false:=by cases v<;>first|rfl|cases h
set_option tactic.hygienic true
theorem tH {elt tg iter:Expr}{ifs:List Expr}{sc:Scope}{p pos py:Pos}{E':E}{d:D}(h:cE (n+1) C (.ListComp elt [⟨tg,iter,ifs,0⟩] sc p)=some E')(S:Sto X x i)(hD:∀(j:Nat) rows,ρ[j]?≠some (.deep rows))(c:CxC X C)(w:Wz X Φ Γ C k)(hd:ev Φ Γ .val ρ E'=some d):
  E1 X ρ (.Assign [.Name x py] (.ListComp elt [⟨tg,iter,ifs,0⟩] sc p) pos) (.nx (ρ.set i (.own d))):=by
 have ih:=snd Φ Γ k n;have whole:=wN ih h c w;have h':((oE n C tg iter).bind fun src=>(sd C sc tg).bind fun (B,nt,js)=>(cTg B tg).bind fun t=>if !gC t nt then Option.none else (if ifs.length≤1 then cEs n B ifs else Option.none).bind fun i'=>(cE n B elt).map fun e'=>E.comp nt js t src i' e')=some E':=h;obtain⟨src,h1,h'⟩:=bx0 h';obtain⟨⟨B,nt,js⟩,h2,h'⟩:=bx0 h';obtain⟨t,h3,h'⟩:=bx0 h';split at h'
 ·cases h'
 ·rename_i hlt
  have hlt:gC t nt=true:=by simpa using hlt
  obtain⟨i',e',h4,h5,rfl⟩:=aJ h';have own:bF d=true:=by
   obtain⟨ds,_,q⟩:=bx0 (show (evI Φ Γ .read ρ src).bind _=some d from hd);split at q
   ·obtain⟨out,_,rfl⟩:=mx0 q;rfl
   ·cases q
  cases hsw:(X.env.blockKind==.function&&X.env.kindOf x==some .local&&py.line==p.line&&!(sc.names.any fun (n,k)=>n==x&&(k==.local||k==.cell))) with
  |false=>
   refine wC S hD (whole.2.2.2.2 rfl ρ d hd own) ?_;show (pure (X.env.blockKind==.function&&X.env.kindOf x==some .local&&py.line==p.line&&!(sc.names.any fun (n,k)=>n==x&&(k==.local||k==.cell))):Sem Bool)=pure false;rw[hsw]
  |true=>
   split at h4
   ·rename_i hl
    have R:=kS c h2;obtain⟨S2,S3⟩:=ih.Src _ _ _ _ h1 X c w;have T:iE X Φ Γ sc (aS X (bt tg) js) tg t ifs i' elt e':=⟨fun A s H fp=>qL (R.cx A s H fp) h3,
     fun A s H fp ρ b q=>ih.T _ _ _ h4 hl _ (R.cx A s H fp) (w.blk R.same A s H fp) ρ b q,fun A s H fp ρ d q=>(ih.E _ _ _ h5 _ (R.cx A s H fp) (w.blk R.same A s H fp)).1 ρ d q⟩
    obtain⟨ds,q1,q⟩:=bx0 (show (evI Φ Γ .read ρ src).bind _=some d from hd);split at q
    ·rename_i hz
     obtain⟨out,q2,rfl⟩:=mx0 q;rw[R.nt] at q2 hlt;have hloc:X.env.kindOf x=some .local:=by
      simp only[be0] at hsw;exact eq_of_beq hsw.1.1.2
     refine Ae S hD R.ok c.calm (S2 ρ ds q1) T hlt (by rw[←big_eq];exact hz) q2 (eV S3) hloc ?_;show (pure (X.env.blockKind==.function&&X.env.kindOf x==some .local&&py.line==p.line&&!(sc.names.any fun (n,k)=>n==x&&(k==.local||k==.cell))):Sem Bool)=pure true;rw[hsw]
    ·cases q
   ·cases h4
theorem pb {elt tg iter:Expr}{ifs:List Expr}{sc:Scope}{p pos py:Pos}{E':E}{d:D}(h:cE (n+1) C (.ListComp elt [⟨tg,iter,ifs,0⟩] sc p)=some E')(S:Sto X x i)(c:CxC X C)(w:Wz X Φ Γ C k)(hd:ev Φ Γ .val ρ E'=some d):
  E1 X ρ (.Assign [.Name x py] (.ListComp elt [⟨tg,iter,ifs,0⟩] sc p) pos) (.nx (ρ.set i (.dat d))):=by
 have ih:=snd Φ Γ k n;have whole:=wN ih h c w;have h':((oE n C tg iter).bind fun src=>(sd C sc tg).bind fun (B,nt,js)=>(cTg B tg).bind fun t=>if !gC t nt then Option.none else (if ifs.length≤1 then cEs n B ifs else Option.none).bind fun i'=>(cE n B elt).map fun e'=>E.comp nt js t src i' e')=some E':=h;obtain⟨src,h1,h'⟩:=bx0 h';obtain⟨⟨B,nt,js⟩,h2,h'⟩:=bx0 h';obtain⟨t,h3,h'⟩:=bx0 h';split at h'
 ·cases h'
 ·rename_i hlt
  have hlt:gC t nt=true:=by simpa using hlt
  obtain⟨i',e',h4,h5,rfl⟩:=aJ h';have own:bF d=true:=by
   obtain⟨ds,_,q⟩:=bx0 (show (evI Φ Γ .read ρ src).bind _=some d from hd);split at q
   ·obtain⟨out,_,rfl⟩:=mx0 q;rfl
   ·cases q
  cases hsw:(X.env.blockKind==.function&&X.env.kindOf x==some .local&&py.line==p.line&&!(sc.names.any fun (n,k)=>n==x&&(k==.local||k==.cell))) with
  |false=>
   refine wB S (whole.1 ρ d hd) ?_;show (pure (X.env.blockKind==.function&&X.env.kindOf x==some .local&&py.line==p.line&&!(sc.names.any fun (n,k)=>n==x&&(k==.local||k==.cell))):Sem Bool)=pure false;rw[hsw]
  |true=>
   split at h4
   ·rename_i hl
    have R:=kS c h2;obtain⟨S2,S3⟩:=ih.Src _ _ _ _ h1 X c w;have T:iE X Φ Γ sc (aS X (bt tg) js) tg t ifs i' elt e':=⟨fun A s H fp=>qL (R.cx A s H fp) h3,
     fun A s H fp ρ b q=>ih.T _ _ _ h4 hl _ (R.cx A s H fp) (w.blk R.same A s H fp) ρ b q,fun A s H fp ρ d q=>(ih.E _ _ _ h5 _ (R.cx A s H fp) (w.blk R.same A s H fp)).1 ρ d q⟩
    obtain⟨ds,q1,q⟩:=bx0 (show (evI Φ Γ .read ρ src).bind _=some d from hd);split at q
    ·rename_i hz
     obtain⟨out,q2,rfl⟩:=mx0 q;rw[R.nt] at q2 hlt;have hloc:X.env.kindOf x=some .local:=by
      simp only[be0] at hsw;exact eq_of_beq hsw.1.1.2
     refine wD S R.ok c.calm (S2 ρ ds q1) T hlt (by rw[←big_eq];exact hz) q2 (eV S3) hloc ?_;show (pure (X.env.blockKind==.function&&X.env.kindOf x==some .local&&py.line==p.line&&!(sc.names.any fun (n,k)=>n==x&&(k==.local||k==.cell))):Sem Bool)=pure true;rw[hsw]
    ·cases q
   ·cases h4
theorem jN {v:Expr}{E':E}(h:cE (n+1) C v=some E')(hc:dc v=true):∃elt tg iter ifs sc p,v=.ListComp elt [⟨tg,iter,ifs,0⟩] sc p:=by
 cases v with
 |ListComp elt gens sc p=>
  cases gens with
  |nil=>exact nomatch (show Option.none=some E' from h)
  |cons g r=>
   obtain⟨tg,iter,ifs,asy⟩:=g;cases asy with
   |negSucc _=>cases r<;>exact nomatch (show Option.none=some E' from h)
   |ofNat m=>
    cases m with
    |succ _=>cases r<;>exact nomatch (show Option.none=some E' from h)
    |zero=>
     cases r with
     |cons _ _=>exact nomatch (show Option.none=some E' from h)
     |nil=>exact⟨_,_,_,_,_,_,rfl⟩
 |SetComp elt gens sc p=>exact nomatch (show Option.none=some E' from h)
 |DictComp a b gens sc p=>exact nomatch (show (Option.none:Option E)=some E' from h)
 |_=>cases hc
structure GP (Φ:Fs)(Γ:List (Str×D))(k n:Nat):Prop where
 S:∀C st S',cS n C st=some S'->∀X,CxC X C->Wz X Φ Γ C k->PassesOwn (model X.prog X.w) X.A X.env X.xe->∀ρ o,ex Φ Γ ρ S'=some o->E1 X ρ st o
 Ss:∀C sts S',cSs n C sts=some S'->∀X,CxC X C->Wz X Φ Γ C k->PassesOwn (model X.prog X.w) X.A X.env X.xe->∀ρ o,exs Φ Γ ρ S'=some o->Ep X ρ sts o
theorem GQ (ih:GP Φ Γ k n){st:Stmt}{S':S}{o:Out}(h:cS (n+1) C st=some S')(c:CxC X C)(w:Wz X Φ Γ C k)(po:PassesOwn (model X.prog X.w) X.A X.env X.xe)(q:ex Φ Γ ρ S'=some o):E1 X ρ st o:=by
 have hu:=w.room.units;have hu1:X.A.units+1<cLine:=by omega
 have ee:=snd Φ Γ k n;unfold cS at h;split at h
 ·
  rename_i ey epy v epos;obtain⟨j,h1,h⟩:=bx0 h;have St:=kR c h1;split at h
  ·obtain⟨e,h2,h⟩:=bx0 h
   split at h
   ·rename_i hf
    cases h;have q:(if SI.fresh e&&ρ.all qo then (ev Φ Γ .val ρ e).bind fun d=>if bF d then some (Out.nx (ρ.set j (.own d))) else Option.none else Option.none)=some o:=q;rw[hf,Bool.true_and] at q;split at q
    rotate_left
    ·cases q
    rename_i hnd;have hD:∀(j:Nat) rows,ρ[j]?≠some (.deep rows):=fun j d h=>by have:=List.all_eq_true.mp hnd _ (mg0 h);cases this
    obtain⟨d,q1,q⟩:=bx0 q;split at q
    ·rename_i ho
     cases q;cases hc:dc v with
     |false=>exact wC St hD ((ee.E _ _ _ h2 X c w).2.2.2.2 hf ρ d q1 ho) (cC hc)
     |true=>
      cases n with
      |zero=>exact nomatch (show (Option.none:Option E)=some _ from h2)
      |succ n=>
       obtain⟨elt,tg,iter,ifs,sc,p,rfl⟩:=jN h2 hc;exact tH h2 St hD c w q1
    ·cases q
   ·cases h
  ·obtain⟨e,h2,rfl⟩:=mx0 h
   obtain⟨d,q1,rfl⟩:=mx0 (show (ev Φ Γ .val ρ e).map _=some o from q);cases hc:dc v with
   |false=>exact wB St ((ee.E _ _ _ h2 X c w).1 ρ d q1) (cC hc)
   |true=>
    cases n with
    |zero=>exact nomatch (show (Option.none:Option E)=some _ from h2)
    |succ n=>
     obtain⟨elt,tg,iter,ifs,sc,p,rfl⟩:=jN h2 hc;exact pb h2 St c w q1
 ·
  split at h
  ·cases h
  ·rename_i hks
   have hks:=Bool.eq_false_iff.mpr hks;obtain⟨i,h1,h⟩:=bx0 h;obtain⟨e,k',h2,h3,rfl⟩:=aJ h;have Ee:=ee.E _ _ _ h2 X c w;have Ke:=ee.E _ _ _ h3 X c w;have V:=dE c h1;have q:((ev Φ Γ .val ρ e).bind fun d=>(ev Φ Γ .val ρ k').bind fun x=>match ρ[i]?,x with
    |some (.own (.list ds)),.int n=>(ixN ds.length n).map fun j=>Out.nx (ρ.set i (.own (.list (ds.set j d))))
    |_,_=>Option.none)=some o:=q
   obtain⟨d,q1,q⟩:=bx0 q;obtain⟨x,q2,q⟩:=bx0 q;split at q
   ·rename_i ds m e1
    obtain⟨j,q3,rfl⟩:=mx0 q;exact Af V (Ee.1 ρ d q1) (Ke.1 ρ _ q2) hks e1 q3
   ·cases q
 ·
  split at h
  ·rename_i hl
   obtain⟨i,h1,h⟩:=bx0 h;have V:=dE c h1;split at h
   ·split at h
    ·cases h
    ·rename_i hs
     have hs:=Bool.eq_false_iff.mpr hs;split at h
     ·rename_i hm
      obtain⟨e,h2,rfl⟩:=mx0 h;subst hm;have Ee:=ee.E _ _ _ h2 X c w;obtain⟨d,q1,q⟩:=bx0 (show (ev Φ Γ .val ρ e).bind _=some o from q);split at q
      ·rename_i ds e1
       split at q
       ·rename_i hz
        cases q;exact Ed V (Ee.1 ρ d q1) hs e1 (by rw[←big_eq];exact hz) hl
       ·cases q
      ·cases q
     ·cases h
   ·cases h
  ·cases h
 ·
  obtain⟨c',h1,h⟩:=bx0 h;obtain⟨a',b',h2,h3,rfl⟩:=aJ h;obtain⟨d,q1,q⟩:=bx0 (show (ev Φ Γ .test ρ c').bind _=some o from q);obtain⟨t,rfl,ht⟩:=(ee.E _ _ _ h1 X c w).2.2.2.1 ρ d q1;rw[bG,bs0] at q;refine GL ht (fun z=>?_) (fun z=>?_)
  ·subst z;rw[if_pos rfl] at q;exact ih.Ss _ _ _ h2 X c w po ρ o q
  ·subst z;rw[if_neg fx0] at q;exact ih.Ss _ _ _ h3 X c w po ρ o q
 ·
  obtain⟨t,h1,h⟩:=bx0 h;obtain⟨src,b,h2,h3,rfl⟩:=aJ h;obtain⟨ds,q1,q⟩:=bx0 (show (evI Φ Γ .walk ρ src).bind _=some o from q);obtain⟨S1,S2,S3⟩:=ee.I _ _ _ h2 X c w;exact Ec (S1 ρ ds q1) (qL c h1) (fun ρ' o' q'=>ih.Ss _ _ _ h3 X c w po ρ' o' q') q c.calm po (eV S3)
 ·
  obtain⟨e,h1,rfl⟩:=mx0 h;obtain⟨d,q1,rfl⟩:=mx0 (show (ev Φ Γ .val (ρ.map freeze) e).map _=some o from q);exact Eb ((ee.E _ _ _ h1 X c w).1 _ d q1)
 ·cases h
  cases q;exact Ad
 ·cases h
  exact nomatch (show (Option.none:Option Out)=some o from q)
 ·cases h
set_option tactic.hygienic false
theorem El (Φ:Fs)(Γ:List (Str×D))(k:Nat):∀n,GP Φ Γ k n
 |0=>⟨fun a a a h=>(nomatch (show Option.none=some _ from h)),fun a a a h=>(nomatch (show Option.none=some _ from h))⟩
 |n+1=>by
  have ih:=El Φ Γ k n;refine⟨fun C st S' h X c w po ρ o q=>GQ ih h c w po q,fun C sts S' h X c w po ρ o q=>?_⟩;cases sts with
  |nil=>cases h;cases q;exact DZ
  |cons st r=>
   obtain⟨s',r',h1,h2,rfl⟩:=aJ (h);obtain⟨o1,q1,q⟩:=bx0 (q);cases o1 with
   |nx ρ1=>exact wz (ih.S _ _ _ h1 X c w po ρ _ q1) (ih.Ss _ _ _ h2 X c w po _ o q)
   |rt d=>cases q;exact wA (ih.S _ _ _ h1 X c w po ρ _ q1)
end
section
variable {P:Program}{w:World}{K:Fg}{mg:Str->Option Value}{base:Heap}{Φ:Fs}{Γ:List (Str×D)}{k:Nat}
theorem jO {G H:Hp}{N:List Str}{dfn:Def}:∀{ds:List D} {vs:List V},Same G H->Das K G H dfn.lent ds vs->ds.length=dfn.lent.length->dfn.slots=N.length->vs.length≤N.length->EnvD K G H G H (start N vs) (bz dfn ds):=by
 intro ds vs s r hl hs hn;have len:=r.length;have rep:∀(i n:Nat) sl,(List.replicate n Sl.no)[i]?=some sl->sl=.no:=fun i n sl h=>by
  rw[List.getElem?_replicate] at h;split at h
  ·cases h;rfl
  ·cases h
 have at':∀(fl:List Bool) (ds:List D) (vs:List V),Das K G H fl ds vs->ds.length=fl.length->∀(i:Nat) sl,((fl.zip ds).map (fun p=>if p.1 then Sl.lent p.2 else .dat p.2))[i]?=some sl->
   ∃d v,vs[i]?=some v/\((sl=.lent d/\Dr K G H d v)\/(sl=.dat d/\Dp K G d v)):=by
  intro fl ds vs r
  induction r with
  |nil=>intro hl i sl h;simp at h
  |@cons fl d v ds vs h1 h2 _ ih=>
   intro hl i sl h;cases fl with
   |nil=>simp at hl
   |cons b fl=>
    cases i with
    |zero=>
     simp at h;refine⟨d,v,rfl,?_⟩;cases b with
     |true=>exact .inl ⟨by simpa using h.symm,h2⟩
     |false=>exact .inr ⟨by simpa using h.symm,h1 rfl⟩
    |succ i=>simpa using ih (by simpa using hl) i sl (by simpa using h)
 have zl:((dfn.lent.zip ds).map (fun p=>if p.1 then Sl.lent p.2 else Sl.dat p.2)).length=vs.length:=by simp[len,←hl]
 have slot:∀(i:Nat) sl,(bz dfn ds)[i]?=some sl->sl=.no\/∃d v,(start N vs)[i]?=some (some v)/\((sl=.lent d/\Dr K G H d v)\/(sl=.dat d/\Dp K G d v)):=fun i sl h=>by
  unfold bz at h
  by_cases hi:i<vs.length
  ·rw[gl0 (by rw[zl];exact hi)] at h
   obtain⟨d,v,e,q⟩:=at' dfn.lent ds vs r hl i sl h;refine .inr ⟨d,v,?_,q⟩;unfold start;rw[gl0 (by simpa using hi),gm0,e];rfl
  ·rw[List.getElem?_append_right (by rw[zl];simp_all)] at h
   exact .inl (rep _ _ _ h)
 refine⟨.refl s,?_,fun i d h=>?_,fun i d h=>?_,fun i d h=>?_,fun i j d e p h=>?_,fun i rows h=>?_⟩
 ·unfold start bz
  simp[hs,len,←hl]
 ·rcases slot i _ h with z|⟨d',v,e,z|z⟩
  ·cases z
  ·cases z.1
  ·cases z.1;exact⟨v,e,z.2⟩
 ·rcases slot i _ h with z|⟨d',v,e,z|z⟩
  ·cases z
  ·cases z.1;exact⟨v,e,z.2⟩
  ·cases z.1
 ·rcases slot i _ h with z|⟨d',v,e,z|z⟩
  ·cases z
  ·cases z.1
  ·cases z.1
 ·rcases slot i _ h with z|⟨d',v,e,z|z⟩
  ·cases z
  ·cases z.1
  ·cases z.1
 ·rcases slot i _ h with z|⟨d',v,e,z|z⟩
  ·cases z
  ·cases z.1
  ·cases z.1
structure Em (P:Program)(w:World)(K:Fg)(mg:Str->Option Value)(base:Heap)(Φ:Fs)(Γ:List (Str×D))(fns:List Str)(vc:Option Nat)(vms:List Str)(xcs:List (Str×Nat×List (Nat×Bool)))(k:Nat):Prop where
 blt:∀x∈bltNames,mg x=Option.none
 fns:∀x,fns.contains x=true->∀φ,Φ x=some φ->FnZ P w K mg base k x φ
 gl:∀x d,Γ.lookup x=some d->∃u v,mg x=some u/\RelV v u/\∀G,Dp K G d v
 vcl:∀c,vc=some c->Cls K c/\NoAttr K c "objects"
 vf:∀c m,vc=some c->vms.contains m=true->∀φ,Φ (ao m)=some φ->FnZv P w K mg base k c m φ
 xc:∀t c tab,xcs.lookup t=some (c,tab)->XcZ K mg t c tab
noncomputable def Eo (Φ:Fs)(Γ:List (Str×D))(d:Def):Fn:=⟨d.lent,fun ds=>if ds.length=d.lent.length then (exs Φ Γ (bz d ds) d.body).bind Out.val else Option.none⟩
set_option tactic.hygienic true in
theorem BK {x qual:Str}{st:Stmt}{f:Addr}{fd:FuncData}{ps fns cst:List Str}{lent:List Bool}{dfn:Def}{vc:Option Nat}{vms:List Str}{xcs:List (Str×Nat×List (Nat×Bool))}(F:Fun K x qual st f fd)(S:bh (ps++ax (defScope st) ps) ps (defScope st))(hp:bu st=some (ps,defBody st,defScope st))(hd:sf fns cst lent st vc vms xcs=some dfn)(hlen:lent.length=ps.length)
  (M:Em P w K mg base Φ Γ fns vc vms xcs k):FnOk P w K mg base CX0 (k+1) f fd ps (Pur K (Eo Φ Γ dfn)):=by
 unfold sf at hd;rw[hp,bs0] at hd;obtain⟨b,hb,rfl⟩:=mx0 (hd);refine F.ok S (fun vs H Q E h=>?_) (fun cdv A outer s H vs Q E hr h=>?_)
 ·obtain⟨ds,d,G,h1,_,r,_⟩:=h
  have h1:(if ds.length=lent.length then _ else Option.none)=some d:=h1;split at h1
  ·rename_i hl;rw[←r.length,hl,hlen]
  ·cases h1
 ·obtain⟨ds,d,G,h1,sm,r,kq⟩:=h
  have h1:(if ds.length=lent.length then (exs Φ Γ _ b).bind Out.val else Option.none)=some d:=h1;split at h1
  ·rename_i hl
   obtain⟨o,h2,h3⟩:=bx0 h1;have hpre:=congrArg List.length S.pre;rw[List.length_take] at hpre;have C:CxC (cY CX0 P w K mg base (ps++ax (defScope st) ps) qual (defScope st) f cdv A outer s H E).nox (zF fns cst ps (defBody st) (defScope st) vc vms xcs):=by
    refine⟨rfl,S.nd,fun y kd e ek=>?_,fun y kd e ek=>⟨?_,.inl rfl⟩,fun y e=>e,fun y e=>e,rfl,S.kind⟩
    ·rcases ek with rfl|rfl|rfl
     ·exact .inl e
     ·exact .inr (.inl e)
     ·exact .inr (.inr e)
    ·rcases ek with rfl|rfl
     ·exact .inl e
     ·exact .inr e
   have W:Wz (cY CX0 P w K mg base (ps++ax (defScope st) ps) qual (defScope st) f cdv A outer s H E).nox Φ Γ (zF fns cst ps (defBody st) (defScope st) vc vms xcs) k:=⟨M.blt,M.fns,M.gl,hr,M.vcl,M.vf,M.xc⟩;have body:=(El Φ Γ k 60).Ss _ _ _ hb _ C W PassesOwn.never _ o h2;refine⟨_,body,G,H,G,jO sm r hl rfl (by rw[←r.length,hl,hlen];omega),?_⟩;cases o with
   |nx ρ'=>
    cases h3;exact fun G' H' σ' env a=>kq .non G' H' env.ext .none
   |rt d'=>
    cases h3;exact fun v G' H' dv e=>kq v G' H' e dv
  ·cases h1
structure tI (K:Fg)(mg:Str->Option Value)(fns cst:List Str)(vc:Option Nat)(vms:List Str)(xcs:List (Str×Nat×List (Nat×Bool)))(x:Str)(d:Def):Prop where
 ex:∃st f fd ps,Fun K x x st f fd/\mg x=some (.ref f)/\Binds K fd ps []/\bh (ps++ax (defScope st) ps) ps (defScope st)/\bu st=some (ps,defBody st,defScope st)/\sf fns cst d.lent st vc vms xcs=some d/\d.lent.length=ps.length
structure tJ (K:Fg)(fns cst:List Str)(c:Nat)(vms:List Str)(xcs:List (Str×Nat×List (Nat×Bool)))(m:Str)(d:Def):Prop where
 nm:m≠"objects"/\m≠"numbers"
 ex:∃st f fd ps,Fun K m (ao m) st f fd/\ie K c m f/\Binds K fd ps []/\bh (ps++ax (defScope st) ps) ps (defScope st)/\bu st=some (ps,defBody st,defScope st)/\sf fns cst d.lent st (some c) vms xcs=some d/\d.lent.length=ps.length
structure Base (K:Fg)(mg:Str->Option Value)(Γ:List (Str×D))(vc:Option Nat)(xcs:List (Str×Nat×List (Nat×Bool))):Prop where
 blt:∀x∈bltNames,mg x=Option.none
 gl:∀x d,Γ.lookup x=some d->∃u v,mg x=some u/\RelV v u/\∀G,Dp K G d v
 vcl:∀c,vc=some c->Cls K c/\NoAttr K c "objects"
 xc:∀t c tab,xcs.lookup t=some (c,tab)->XcZ K mg t c tab
theorem dF {prog:List (Str×Def)}{fns cst vms:List Str}{vc:Option Nat}{xcs:List (Str×Nat×List (Nat×Bool))}(B:Base K mg Γ vc xcs)(defs:∀x d,fns.contains x=true->prog.lookup x=some d->tI K mg fns cst vc vms xcs x d)
  (mets:∀c m d,vc=some c->vms.contains m=true->prog.lookup (ao m)=some d->tJ K fns cst c vms xcs m d):
  ∀k x φ,den prog Γ k x=some φ->(fns.contains x=true->FnZ P w K mg base k x φ)/\∀c m,x=ao m->vc=some c->vms.contains m=true->FnZv P w K mg base k c m φ
 |0,x,φ,h=>by cases h
 |k+1,x,φ,h=>by
  obtain⟨d,h1,rfl⟩:=mx0 (h);have M:Em P w K mg _ _ Γ _ vc _ _ k:=⟨B.blt,fun y hy φ' q=>(dF B defs mets k y φ' q).1 hy,B.gl,B.vcl,fun c m hc hm φ' q=>(dF B defs mets k _ φ' q).2 c m rfl hc hm,B.xc⟩;refine⟨fun hx=>?_,fun c m e hc hm=>?_⟩
  ·obtain⟨st,f,fd,ps,F,hm,hb,S,hp,hd,hl⟩:=(defs x d hx h1).ex
   exact⟨⟨f,fd,ps,hm,F.kp,hb,BK F S hp hd hl M⟩⟩
  ·subst e
   have Z:=mets c m d hc hm h1;obtain⟨st,f,fd,ps,F,hm,hb,S,hp,hd,hl⟩:=Z.ex;exact⟨Z.nm,⟨f,fd,ps,hm,hb,BK F S hp (by rwa [hc]) hl M⟩⟩
end
def wQ (K:Fg):Sp:=fun vs H Q b=>∃(a:Addr) (ns:List Int),vs=[.ref a]/\SqL K H a (ns.map V.int)/\ns.length≤63/\∀H',Q (.bl true) H'
mutual
inductive IsK (h:Heap):Nat->D->Value->Prop
 |int {n:Nat} (i:Int) (t:Tok):IsK h n (.int i) (.int i t)
 |str {n:Nat} (x:Str) (t:Tok):PyData.strOk x=true->IsK h n (.str x) (.str x t)
 |tup {n:Nat} {a:Addr} {o:Obj} {items:List Value} {m:Nat} {ds:List D}:h.get? a=some o->o.cls=.type "tuple"->o.data=.seq items.toArray m->IsKs h n ds items->IsK h (n+1) (.tuple ds) (.ref a)
inductive IsKs (h:Heap):Nat->List D->List Value->Prop
 |nil {n:Nat}:IsKs h n [] []
 |cons {n:Nat} {d:D} {v:Value} {ds:List D} {vs:List Value}:IsK h n d v->IsKs h n ds vs->IsKs h n (d::ds) (v::vs)
end
mutual
theorem IsK.inj {h:Heap}:∀{n m:Nat} {d e:D} {v:Value},IsK h n d v->IsK h m e v->d=e
 |_,_,_,_,_,.int _ _,.int _ _=>rfl
 |_,_,_,_,_,.str _ _ _,.str _ _ _=>rfl
 |_,_,_,_,_,.tup h1 _ h3 h4,.tup k1 _ k3 k4=>by
  rw[h1] at k1;cases k1;rw[h3] at k3;have e:_=_:=k3;simp only[Data.seq.injEq] at e;have e:=congrArg Array.toList e.1;simp only[List.toList_toArray] at e;subst e;rw[IsKs.inj h4 k4]
theorem IsKs.inj {h:Heap}:∀{n m:Nat} {ds es:List D} {vs:List Value},IsKs h n ds vs->IsKs h m es vs->ds=es
 |_,_,_,_,_,.nil,.nil=>rfl
 |_,_,_,_,_,.cons a b,.cons c d=>by rw[IsK.inj a c,IsKs.inj b d]
end
mutual
theorem IsK.keeps {h h':Heap}(k:∀a o items m,h.get? a=some o->o.data=.seq items m->h'.get? a=some o):∀{n:Nat} {d:D} {v:Value},IsK h n d v->IsK h' n d v
 |_,_,_,.int i t=>.int i t
 |_,_,_,.str x t o=>.str x t o
 |_,_,_,.tup h1 h2 h3 h4=>.tup (k _ _ _ _ h1 h3) h2 h3 (IsKs.keeps k h4)
theorem IsKs.keeps {h h':Heap}(k:∀a o items m,h.get? a=some o->o.data=.seq items m->h'.get? a=some o):∀{n:Nat} {ds:List D} {vs:List Value},IsKs h n ds vs->IsKs h' n ds vs
 |_,_,_,.nil=>.nil
 |_,_,_,.cons a b=>.cons (IsK.keeps k a) (IsKs.keeps k b)
end
mutual
theorem IsK.reads {h:Heap}:∀{n:Nat} {d:D} {v:Value},IsK h n d v->∃as,Reads h v (PySem.W.kqdP (toW d)) as
 |_,_,_,.int i t=>⟨_,Reads.int i t⟩
 |_,_,_,.str x t _=>⟨_,Reads.str x t⟩
 |_,_,_,.tup h1 h2 h3 h4=>by
  obtain⟨as,w⟩:=IsKs.reads h4;exact⟨_,Reads.tuple h1 h2 h3 (by simpa using w)⟩
theorem IsKs.reads {h:Heap}:∀{n:Nat} {ds:List D} {vs:List Value},IsKs h n ds vs->∃as,ReadsAll h vs (PySem.W.kqdPs (cW ds)) as
 |_,_,_,.nil=>⟨_,.nil⟩
 |_,_,_,.cons a b=>by
  obtain⟨as,w⟩:=IsK.reads a;obtain⟨bs,u⟩:=IsKs.reads b;exact⟨_,.cons w u⟩
end
mutual
theorem IsK.ok {h:Heap}:∀{n:Nat} {d:D} {v:Value},IsK h n d v->okS n d=true
 |n,_,_,.int i t=>by cases n<;>rfl
 |n,_,_,.str x t _=>by cases n<;>rfl
 |_,_,_,.tup h1 h2 h3 h4=>IsKs.ok h4
theorem IsKs.ok {h:Heap}:∀{n:Nat} {ds:List D} {vs:List Value},IsKs h n ds vs->ds.all (okS n)=true
 |_,_,_,.nil=>rfl
 |_,_,_,.cons a b=>by rw[List.all_cons,IsK.ok a,IsKs.ok b];rfl
end
mutual
noncomputable def mG (w:World):D->Int
 |.int i=>hashInt i
 |.str x=>hashStr w x
 |.tuple ds=>reduceHash (Builtin.Tuple.tupleHashOf (cv w ds))
 |_=>0
noncomputable def cv (w:World):List D->List Int
 |[]=>[]
 |d::r=>mG w d::cv w r
end
mutual
noncomputable def mH:D->Nat
 |.tuple ds=>kU ds+1
 |_=>1
noncomputable def kU:List D->Nat
 |[]=>0
 |d::r=>mH d+kU r
end
mutual
theorem IsK.kok {h:Heap}:∀{n:Nat} {d:D} {v:Value},IsK h n d v->PySem.W.kqdOk n (toW d)=true
 |n,_,_,.int i t=>by cases n<;>rfl
 |n,_,_,.str x t o=>by cases n<;>exact o
 |_,_,_,.tup h1 h2 h3 h4=>IsKs.kok h4
theorem IsKs.kok {h:Heap}:∀{n:Nat} {ds:List D} {vs:List Value},IsKs h n ds vs->(cW ds).all (PySem.W.kqdOk n)=true
 |_,_,_,.nil=>rfl
 |_,_,_,.cons a b=>by
  show (PySem.W.kqdOk _ (toW _)&&(cW _).all (PySem.W.kqdOk _))=true;rw[IsK.kok a,IsKs.kok b];rfl
end
section
variable {prog:Program}{w:World}{E:Value->Shared->Prop}
theorem tK {A:Around}{n:Nat}{h:Heap}(one:∀{d:D} {v:Value} {s:Shared} {Q:Int->Shared->Prop},s.heap=h->IsK h n d v->Q (mG w d) {s with toks:=s.toks+mH d}->wpAny (model prog w) A (pyHash v) Q E s):
  ∀(vs:List Value) (ds:List D) (acc:Array Int) (s:Shared) (Q:Array Int->Shared->Prop),s.heap=h->IsKs h n ds vs->Q (acc++(cv w ds).toArray) {s with toks:=s.toks+kU ds}->
   wpAny (model prog w) A (forIn vs acc fun x acc=>do let i ←pyHash x;pure (ForInStep.yield (acc.push i))) Q E s:=by
 intro vs
 induction vs with
 |nil=>
  intro ds acc s Q e r q;cases r;rw[List.forIn_nil];refine wpAny_pure ?_;have:acc++(cv w []).toArray=acc:=by simp[cv]
  rw[this] at q;exact q
 |cons v vs ih=>
  intro ds acc s Q e r q;cases r with
  |@cons _ d _ ds _ a b=>
   rw[List.forIn_cons];refine wpAny_bind (wpAny_bind (one e a (wpAny_pure ?_)));refine ih ds _ _ Q e b ?_;have e1:acc.push (mG w d)++(cv w ds).toArray=acc++(cv w (d::ds)).toArray:=by simp[cv]
   rw[e1];show Q _ {s with toks:=s.toks+mH d+kU ds};rw[Nat.add_assoc];exact q
theorem wR:∀{n:Nat} {A:Around} {d:D} {v:Value} {s:Shared} {Q:Int->Shared->Prop},A.units+n<cLine+1->IsK s.heap n d v->Q (mG w d) {s with toks:=s.toks+mH d}->wpAny (model prog w) A (pyHash v) Q E s:=by
 intro n
 induction n with
 |zero=>
  intro A d v s Q hu hk q;cases hk with
  |int i t=>exact wpAny_pyHash_int q
  |str x t _=>exact wpAny_pyHash_str q
 |succ n ih=>
  intro A d v s Q hu hk q;cases hk with
  |int i t=>exact wpAny_pyHash_int q
  |str x t _=>exact wpAny_pyHash_str q
  |@tup _ a o items m ds h1 h2 h3 h4=>
   have hT:s.TypeIs (.ref a) "tuple":=⟨o,h1,h2⟩;show wpAny (model prog w) A (pyHashByItsType (.ref a)) Q E s;refine PySem.W.pyHash_slot hT F.slot_tuple_hash F.entry_tuple_hash (F.args_tuple_hash_1 _) (by decide) (.inr (by grind)) ?_;unfold Builtin.«tuple.__hash__»;refine wpAny_bind (wpAny_of_eq (a:=(.ref a,[])) rfl ?_);dsimp only;unfold Builtin.Tuple.tupleItemsOf;refine wpAny_bind (wpAny_bind (wpAny_seqItems h1 h3 (wpAny_pure ?_)));refine wpAny_bind ?_;rw[←Array.forIn_toList];refine tK (A:=A.in1) (n:=n) (h:=s.heap) (fun e a q=>ih (by show A.units+1+n<cLine+1;grind) (by rw[e];exact a) q) items ds #[] s _ rfl h4 ?_
   unfold retInt
   wp_walk
   refine⟨_,_,rfl,?_⟩;have e:(#[]++(cv w ds).toArray:Array Int).toList=cv w ds:=by simp
   rw[e];exact q
theorem wU {A:Around}{d e:D}{a b:Addr}{s:Shared}{Q:Bool->Shared->Prop}(hu:A.units+64<cLine)(h1:IsK s.heap 8 d (.ref a))(h2:IsK s.heap 8 e (.ref b))(q:Q (decide (d=e)) s):wpAny (model prog w) A (eqBool (.ref a) (.ref b)) Q E s:=by
 refine wpAny_holding ?_
 by_cases c:a=b
 ·subst c
  rw[if_pos (by simp)];refine wpAny_bind (wpAny_rule (wpAny_pure ?_));rw[IsK.inj h1 h2] at q
  simpa using q
 ·rw[if_neg (by simpa using c)]
  obtain⟨as,ra⟩:=h1.reads;obtain⟨bs,rb⟩:=h2.reads;have ev:PyData.eqv (PySem.W.kqdP (toW d)) (PySem.W.kqdP (toW e))=decide (d=e):=by
   have z:=PySem.W.kqd_eqv 8 (toW d) (toW e) 8 h1.kok h2.kok
   by_cases c':d=e
   ·rw[dt0 c'];exact z.mpr (by rw[c'])
   ·rw[df0 c']
    exact Bool.eq_false_iff.mpr fun y=>c' (kI 8 8 d e h1.ok h2.ok (z.mp y))
  exact wpAny_bind (eq_dataH (prog:=prog) (w:=w) (A:=A) (E:=E) ra rb (bO h1.kok) (bO h2.kok) hu (by
   rw[ev];exact wpAny_truthy_bool q))
theorem Ak:∀{n m:Nat} {A:Around} {d:D} {v:Value} {s:Shared} {Q:Bool->Shared->Prop},n≤m->IsK s.heap n d v->Q true s->wpAny (model prog w) A (eqIsQuiet m v) Q E s:=by
 intro n
 induction n with
 |zero=>
  intro m A d v s Q _ hk q;cases hk with
  |int i t=>cases m<;>exact wpAny_pure q
  |str x t _=>cases m<;>exact wpAny_pure q
 |succ n ih=>
  intro m A d v s Q hm hk q;cases hk with
  |int i t=>cases m<;>exact wpAny_pure q
  |str x t _=>cases m<;>exact wpAny_pure q
  |@tup _ a o items k ds h1 h2 h3 h4=>
   obtain⟨m,rfl⟩:∃m',m=m'+1:=⟨m-1,by grind⟩;have hT:s.TypeIs (.ref a) "tuple":=⟨o,h1,h2⟩;unfold eqIsQuiet;refine wpAny_bind (wpAny_specialOf hT F.slot_tuple_eq.lookup ?_);refine wpAny_bind (wpAny_isInstance hT PySem.isSubtype_tuple_tuple ?_);rw[if_neg (by decide)];show wpAny (model prog w) A (seqItems? (.ref a) >>= _) Q E s;refine wpAny_bind (wpAny_seqItems h1 h3 ?_);show wpAny (model prog w) A (forIn items.toArray ((none:Option Bool),()) _ >>= _) Q E s;rw[←Array.forIn_toList];have all:∀(vs:List Value) (es:List D) (Q':Option Bool×Unit->Shared->Prop),IsKs s.heap n es vs->Q' (none,()) s->
     wpAny (model prog w) A (forIn vs ((none:Option Bool),()) fun y __s=>do
      let __do_lift ←eqIsQuiet m y
      if (!__do_lift)=true then pure (ForInStep.done (some false,())) else pure (ForInStep.yield (none,()))) Q' E s:=by
    intro vs
    induction vs with
    |nil=>intro es Q' _ q';rw[List.forIn_nil];exact wpAny_pure q'
    |cons v vs ih2=>
     intro es Q' hk q';cases hk with
     |cons a b=>
      rw[List.forIn_cons];refine wpAny_bind (wpAny_bind (ih (by simp_all) a ?_));rw[if_neg (by decide)];exact wpAny_pure (ih2 _ Q' b q')
   exact wpAny_bind (all items ds _ h4 (wpAny_pure q))
noncomputable def mI (prog:Program)(w:World):HeapKind prog w D where
 is:=fun h d a=>IsK h 8 d (.ref a)
 hash:=mG w
 draws:=mH
 room:=fun A=>A.units+64<cLine
 inj:=fun h1 h2=>IsK.inj h1 h2
 keeps:=fun {h h' k a d o es ep} hk ho hd sb=>hk.keeps fun b u items m e c=>(sb.2 b (fun z=>by
  subst z;rw[ho] at e;cases e;rw[hd] at c;cases c)).trans e
 pyHash:=fun {A E s k a Q} hu hk q=>wR (by omega) hk q
 eqBool:=fun {A E s x y a b Q} hu h1 h2 q=>wU hu h1 h2 q
 quiet:=fun {A E s k a Q} hk q=>Ak (nr0 _) hk q
end
abbrev Vd:=List (Addr×Addr×Addr)
def parts (d:Vd):List Addr:=d.flatMap fun p=>[p.2.1,p.2.2]
def er (H:Hp)(ps:List Addr):Hp:=fun b=>if b∈ps then Option.none else H b
theorem qM {H:Hp}{ps:List Addr}{b:Addr}(h:b∈ps):er H ps b=Option.none:=if_pos h
theorem aN {H:Hp}{ps:List Addr}{b:Addr}(h:b∉ps):er H ps b=H b:=if_neg h
theorem bj {H:Hp}{ps:List Addr}{b:Addr}{o:HO}(h:er H ps b=some o):b∉ps/\H b=some o:=by
 by_cases q:b∈ps
 ·rw[qM q] at h;cases h
 ·rw[aN q] at h;exact⟨q,h⟩
theorem aD {H:Hp}{ps:List Addr}:Same (er H ps) H:=fun b o h=>(bj h).2
theorem Al {H H':Hp}{ps:List Addr}(s:Same H H'):Same (er H ps) (er H' ps):=fun b o h=>by
 obtain⟨h1,h2⟩:=bj h;rw[aN h1];exact s b o h2
theorem jP {d:Vd}{h:Nat}{a l n:Addr}(e:d[h]?=some (a,l,n)):l∈parts d/\n∈parts d:=
 ⟨List.mem_flatMap.mpr ⟨_,mg0 e,by simp⟩,List.mem_flatMap.mpr ⟨_,mg0 e,by simp⟩⟩
theorem mJ {d:Vd}{b:Addr}(e:b∈parts d):∃(h:Nat) (a l n:Addr),d[h]?=some (a,l,n)/\(b=l\/b=n):=by
 obtain⟨⟨a,l,n⟩,h1,h2⟩:=List.mem_flatMap.mp e;obtain⟨h,hh⟩:=List.getElem?_of_mem h1;exact⟨h,a,l,n,hh,by simp_all⟩
inductive dW:Nat->List (D×Addr×Value)->List Addr->List D->Prop
 |nil {k:Nat}:dW k [] [] []
 |cons {k:Nat} {t:Tok} {d:D} {a:Addr} {xs:List (D×Addr×Value)} {as:List Addr} {ds:List D}:dW (k+1) xs as ds->dW k ((d,a,.int k t)::xs) (a::as) (d::ds)
def bW (P:Program)(w:World)(n:Addr)(as:List Addr)(objs:List D):Heap->Prop:=fun h=>
 (n==sysModules)=false/\∃xs:List (D×Addr×Value),dW 0 xs as objs/\objs.length≤1000000/\
  ∃o es ep,h.get? n=some o/\o.ExactDict/\o.data=.dict es ep/\es.toList=xs.map (entryOfKey (mI P w))/\(xs.map (·.1)).Nodup
noncomputable def okK:Nat->D->Bool
 |_,.int _=>true
 |_,.str _=>true
 |n+1,.tuple ds=>ds.all (okK n)
 |_,_=>false
def jg:D->Bool
 |.tuple _=>true
 |_=>false
structure VS (P:Program)(w:World)(K:Fg)(C:Addr)(G H:Hp)(d:Vd)(U:List (List D)):Prop where
 len:d.length=U.length
 nd:(parts d).Nodup
 at':∀(h:Nat) a l n,d[h]?=some (a,l,n)->∃dx objs,U[h]?=some objs/\G a=some (.ins C dx (vfs l n h))/\H dx=some (.own a)/\
  ∃as:List Addr,H l=some (.lst (as.map .ref))/\Dps K G objs (as.map .ref)/\H n=some (.ext (bW P w n as objs))/\∀d∈objs,okK 8 d=true/\jg d=true
 uni:∀a C' dx fs,H a=some (.ins C' dx fs)->∃(h:Nat) (l n:Addr),d[h]?=some (a,l,n)
 out:∀b∈parts d,G b=Option.none
theorem VS.part {P:Program}{w:World}{K:Fg}{C:Addr}{G H:Hp}{d:Vd}{U:List (List D)}(v:VS P w K C G H d U){b:Addr}(h:b∈parts d):∃o,H b=some o:=by
 obtain⟨i,a,l,n,e,q⟩:=mJ h;obtain⟨dx,objs,_,_,_,as,h1,_,h2,_⟩:=v.at' i a l n e;rcases q with rfl|rfl
 ·exact⟨_,h1⟩
 ·exact⟨_,h2⟩
theorem VS.step {P:Program}{w:World}{K:Fg}{C:Addr}{G H G' H':Hp}{d:Vd}{U:List (List D)}(v:VS P w K C G H d U)(e:Ext G H G' H'):VS P w K C G' H' d U:=
 ⟨v.len,v.nd,fun h a l n q=>by
  obtain⟨dx,objs,h1,h2,h3,as,h4,h5,h6,h7⟩:=v.at' h a l n q;exact⟨dx,_,h1,e.gg _ _ h2,e.hh _ _ h3,as,e.hh _ _ h4,h5.mono e.gg,e.hh _ _ h6,h7⟩,
  fun a C' dx fs q=>v.uni a C' dx fs (e.ni a C' dx fs q),fun b hb=>let ⟨o,ho⟩:=v.part hb;e.nw b o (v.out b hb) ho⟩
theorem Ext.er {G H G' H':Hp}{ps:List Addr}(e:Ext G H G' H')(hp:∀b∈ps,G b=Option.none/\∃o,H b=some o)(s:Same G (er H ps)):Ext G (er H ps) G' (er H' ps):=
 ⟨Al e.hh,e.gg,fun b o q=>by
  have nb:b∉ps:=fun hb=>by
   obtain⟨h1,o',h2⟩:=hp b hb;rw[e.nw b o' h1 h2] at q;cases q
  rw[aN nb];exact e.gh b o q,fun b o h1 h2=>e.nw b o h1 (bj h2).2,fun b C dx fs q=>by
  obtain⟨h1,h2⟩:=bj q;rw[aN h1];exact e.ni b C dx fs h2⟩
theorem Dr.monoH {K:Fg}{G H H':Hp}{d:D}{v:V}(s:Same H H'):Dr K G H d v->Dr K G H' d v
 |.of h=>.of h
 |.list h r=>.list (s _ _ h) r
 |.dict h r=>.dict (s _ _ h) r
 |.vlt h1 h2 r=>.vlt (s _ _ h1) (s _ _ h2) r
theorem Am {l n l' n':Addr}{h h':Nat}(e:vfs l n h=vfs l' n' h'):l=l'/\n=n'/\h=h':=by
 injection e with e1 e2
 injection e2 with e2 e3
 injection e3 with e3 _
 injection e1 with _ e1
 injection e2 with _ e2
 injection e3 with _ e3
 injection e1 with e1
 injection e2 with e2
 injection e3 with e3
 exact⟨e1,e2,Int.ofNat.inj e3⟩
theorem VS.hdl {P:Program}{w:World}{K:Fg}{C:Addr}{G H:Hp}{d:Vd}{U:List (List D)}(v:VS P w K C G H d U)(s:Same G H){h:Nat}{u:V}(q:Dp K G (.hdl h) u):
  ∃a l n dx objs,u=.ref a/\d[h]?=some (a,l,n)/\U[h]?=some objs/\G a=some (.ins C dx (vfs l n h))/\H dx=some (.own a)/\
   ∃as:List Addr,H l=some (.lst (as.map .ref))/\Dps K G objs (as.map .ref)/\H n=some (.ext (bW P w n as objs))/\∀d∈objs,okK 8 d=true/\jg d=true:=by
 cases q with
 |@hdl a C' dx' l' n' _ q=>
  obtain⟨h2,l,n,e⟩:=v.uni a C' dx' _ (s _ _ q);obtain⟨dx,objs,h1,h3,r⟩:=v.at' h2 a l n e;rw[q] at h3;injection h3 with h3
  injection h3 with e1 e2 e3
  obtain⟨rfl,rfl,rfl⟩:=Am e3;subst e1 e2;exact⟨a,l',n',dx',_,rfl,e,h1,q,r⟩
structure EnvM (P:Program)(w:World)(K:Fg)(C:Addr)(G0 H0:Hp)(d0:Vd)(G H:Hp)(d:Vd)(σ:St)(ρ:List Sl)(U:List (List D)):Prop where
 bas:∃Gb Hb,Same G0 Gb/\(Same (er H0 (parts d0)) Hb/\∀b o,Hb b=some o->notIns o=true->er H0 (parts d0) b=some o)/\EnvD K Gb Hb G (er H (parts d)) σ ρ
 nw:∀b o,G0 b=Option.none->H0 b=some o->G b=Option.none
 pre:d0 <+: d
 vs:VS P w K C G H d U
noncomputable def vE (C:Addr)(U:List (List D)):Sl->Sl
 |.own d=>.lent d
 |.dat (.hdl h)=>match U[h]? with|some objs=>.lent (.vlt C h objs)|Option.none=>.no
 |.deep _=>.no
 |s=>s
section
variable {P:Program}{w:World}{K:Fg}{C:Addr}{G0 H0 G H G' H':Hp}{d0 d:Vd}{σ:St}{ρ:List Sl}{U:List (List D)}
theorem EnvM.sub (E:EnvM P w K C G0 H0 d0 G H d σ ρ U):Same G H:=by
 obtain⟨_,_,_,_,e⟩:=E.bas;exact e.sub.trans aD
theorem EnvM.sub' (E:EnvM P w K C G0 H0 d0 G H d σ ρ U):Same G (er H (parts d)):=by
 obtain⟨_,_,_,_,e⟩:=E.bas;exact e.sub
theorem EnvM.gg (E:EnvM P w K C G0 H0 d0 G H d σ ρ U):Same G0 G:=by
 obtain⟨_,_,s,_,e⟩:=E.bas;exact s.trans e.ext.gg
theorem EnvM.hh (E:EnvM P w K C G0 H0 d0 G H d σ ρ U):Same (er H0 (parts d0)) (er H (parts d)):=by
 obtain⟨_,_,_,s,e⟩:=E.bas;exact s.1.trans e.ext.hh
set_option tactic.hygienic true in
theorem EnvM.view (E:EnvM P w K C G0 H0 d0 G H d σ ρ U):EnvD K G H G H σ (ρ.map (vE C U)):=by
 obtain⟨Gb,Hb,s1,s2,e⟩:=E.bas;have at':∀(i:Nat) sl,(ρ.map (vE C U))[i]?=some sl->∃s0,ρ[i]?=some s0/\vE C U s0=sl:=fun i sl h=>by
  rw[gm0] at h;cases q:ρ[i]? with
  |none=>rw[q] at h;cases h
  |some s0=>rw[q] at h;cases h;exact⟨s0,rfl,rfl⟩
 have no:∀(i:Nat) d',(ρ.map (vE C U))[i]?≠some (.own d'):=fun i d' h=>by
  obtain⟨s0,_,h2⟩:=at' i _ h;cases s0 with
  |dat d2=>cases d2<;>first|(cases h2;done)|(rename_i hh;simp only[vE] at h2;split at h2<;>cases h2)
  |_=>cases h2
 have nd:∀(i:Nat) r,(ρ.map (vE C U))[i]?≠some (.deep r):=fun i d' h=>by
  obtain⟨s0,_,h2⟩:=at' i _ h;cases s0 with
  |dat d2=>cases d2<;>first|(cases h2;done)|(rename_i hh;simp only[vE] at h2;split at h2<;>cases h2)
  |_=>cases h2
 refine⟨.refl E.sub,by simp[e.len],fun i d' h=>?_,fun i d' h=>?_,fun i d' h=>absurd h (no i d'),fun i j d' c c h=>absurd h (no i d'),fun i r h=>absurd h (nd i r)⟩
 ·obtain⟨s0,h1,h2⟩:=at' i _ h
  cases s0 with
  |dat d2=>
   have:d2=d':=by
    cases d2<;>first|(cases h2;rfl)|(rename_i hh;simp only[vE] at h2;split at h2<;>cases h2)
   subst this;exact e.dat i d2 h1
  |_=>cases h2
 ·obtain⟨s0,h1,h2⟩:=at' i _ h
  cases s0 with
  |no=>cases h2
  |lent d2=>
   cases h2;obtain⟨v,a,b⟩:=e.lent i d' h1;exact⟨v,a,(b.ext e.ext).monoH aD⟩
  |own d2=>
   cases h2;obtain⟨p,a,_,_,b⟩:=e.own i d' h1;exact⟨_,a,b.dr.monoH aD⟩
  |deep r=>cases h2
  |dat d2=>
   cases d2 with
   |hdl hh=>
    simp only[vE] at h2;split at h2
    ·rename_i objs ho
     cases h2;obtain⟨v,a,b⟩:=e.dat i _ h1;obtain⟨a',l,n,dx,objs',rfl,_,q1,q2,_,as,q3,q4,_⟩:=E.vs.hdl E.sub b;rw[ho] at q1;cases q1;exact⟨_,a,.vlt (E.sub _ _ q2) q3 q4⟩
    ·cases h2
   |_=>cases h2
theorem EnvD.wide {Gb Hb H2:Hp}(e:EnvD K Gb Hb G H σ ρ)(s:Same H H2)(ni:∀b C dx fs,H2 b=some (.ins C dx fs)->H b=some (.ins C dx fs)):EnvD K Gb Hb G H2 σ ρ:=
 ⟨⟨e.ext.hh.trans s,e.ext.gg,e.ext.gh.trans s,e.ext.nw,fun b C dx fs q=>e.ext.ni b C dx fs (ni b C dx fs q)⟩,e.len,e.dat,e.lent,fun i d h=>by
  obtain⟨p,a,b,c,g⟩:=e.own i d h;refine⟨p,a,b,c,?_⟩;rcases g with⟨ds,vs,h1,h2,h3⟩|⟨ds,vs,h1,h2,h3⟩
  ·exact .inl ⟨ds,vs,h1,s _ _ h2,h3⟩
  ·exact .inr ⟨ds,vs,h1,s _ _ h2,h3⟩,e.apart,fun i rows h=>by
  obtain⟨⟨p,a,qs,b1,b2,b3,b4,b5,b6⟩,c⟩:=e.deep i _ h;refine⟨⟨p,a,qs,s _ _ b1,b2,b3,b4,b5,fun k row q z1 z2=>?_⟩,c⟩;obtain⟨y1,y2,vs,y3,y4⟩:=b6 k _ q z1 z2;exact⟨y1,y2,vs,s _ _ y3,y4⟩⟩
theorem VS.notPart (v:VS P w K C G H d U){b C' dx:Addr}{fs:List (Str×V)}(h:H b=some (.ins C' dx fs)):b∉parts d:=fun hb=>by
 obtain⟨i,a,l,n,e,q⟩:=mJ hb;obtain⟨dx',objs,_,_,_,as,h1,_,h2,_⟩:=v.at' i a l n e;rcases q with rfl|rfl<;>simp_all
theorem EnvM.full (E:EnvM P w K C G0 H0 d0 G H d σ ρ U):∃Gb Hb,EnvD K Gb Hb G H σ ρ/\∀G' H' d' σ' ρ' U',EnvM P w K C G0 H0 d0 G' H' d' σ' ρ' U'->Same G G'->Same Hb H':=by
 obtain⟨Gb,Hb,s1,s2,e⟩:=E.bas;refine⟨Gb,Hb,e.wide aD fun b C' dx fs h=>by rwa [aN (E.vs.notPart h)],fun G' H' d' σ' ρ' U' E' g b o h=>?_⟩;cases q:notIns o with
 |true=>exact aD b o (E'.hh b o (s2.2 b o h q))
 |false=>
  cases o with
  |ins C' dx fs=>
   have hH:=aD b _ (e.ext.hh b _ h);obtain⟨i,l,n,hd⟩:=E.vs.uni b C' dx fs hH;obtain⟨dx',objs,_,hG,_⟩:=E.vs.at' i b l n hd;rw[E.sub _ _ hG] at hH;cases hH;exact E'.sub _ _ (g _ _ hG)
  |_=>cases q
end
def Fl (X:Cx)(ea C:Addr)(H:Hp)(s:Shared):Prop:=
 ∃B:Heap,HOk X.prog X.w H B/\(∀b o,X.s₀.heap.get? b=some o->X.H₀ b=none->b∉X.fs->b∉X.ex->B.get? b=some o)/\(∀b o,X.s₀.heap.get? b=some o->b∉frs X.stack->b∉X.ex->∃o',B.get? b=some o')/\(∀p∈X.pn,B.get? p.1=some p.2)/\
  ((∃vs,Heap.MadeExcOf B s.heap ea (.ref C) vs/\B.FunFrames X.base X.stack)\/∃a0,Heap.FlyingW B X.stack ea (.ref C) a0 s.heap)
def CX1 (P:Program)(w:World):CXT:=fun outer H s E e s'=>∃(ea C:Addr) (B:Heap) (a0:Value) (H':Hp),e=.ref ea/\s'.os=s.os/\AllBare s'.gens/\Heap.FlyingW B outer ea (.ref C) a0 s'.heap/\HOk P w H' B/\
 (∀b o,s.heap.get? b=some o->H b=none->b∉frs outer->B.get? b=some o)/\(∀b o,s.heap.get? b=some o->b∉frs outer->∃o',B.get? b=some o')/\Un (frs outer) [] H H' s.heap s'.heap/\E (.ref C) none H'
theorem pf {X:Cx}{pins:List (Addr×Obj)}{σ:St}{H:Hp}{s s':Shared}{E:XK}{e:Value}(I:Inv X pins σ H s)(h:CX1 X.prog X.w X.stack H s E e s'):
  ∃ea C H',e=.ref ea/\Inv X pins σ H' s'/\Fl X ea C H' s'/\E (.ref C) none H':=by
 obtain⟨ea,C,B,a0,H',rfl,os,bare,fl,ok,kb,th,un,q⟩:=h;have nst:∀b o,X.s₀.heap.get? b=some o->b∉X.fs->b∉frs _:=fun b o e nf z=>by
  rcases mq0 (I.stkSub b z) with r|r
  ·subst r
   exact absurd (nl0 (hs0 e) I.ok.above) (li0 _)
  ·exact nf r
 refine⟨ea,C,H',rfl,I.call' os un (ok.kept fl.1) bare (fun a z=>nomatch z),⟨B,ok,fun b o e n nf nx=>?_,fun b o e nf nx=>?_,fun p hp=>?_,.inr ⟨a0,fl⟩⟩,q⟩
 ·exact kb b o (I.base.keep b o e n nf nx) (I.base.free b o e n nx) (nst b o e nf)
 ·obtain⟨o',h1⟩:=I.base.there b o e nx
  exact th b o' h1 nf
 ·obtain⟨h1,h2,h3,h4,_⟩:=I.pin p (List.mem_append_left _ hp)
  refine kb _ _ h1 h2 fun z=>?_
  rcases mq0 (I.stkSub _ z) with r|r
  ·exact h3 r
  ·exact h4 r
theorem An {X:Cx}{pins:List (Addr×Obj)}{σ:St}{H:Hp}{s:Shared}{h':Heap}{ea C:Addr}{vs:List Value}(I:Inv X pins σ H s)(m:Heap.MadeExcOf s.heap h' ea (.ref C) vs):
  Inv X pins σ H {s with heap:=h'}/\Fl X ea C H {s with heap:=h'}:=
 ⟨I.kept m.keeps,_,I.hok,fun b o e n nf nx=>I.base.keep b o e n nf nx,fun b o e nf nx=>I.base.there b o e nx,fun p hp=>(I.pin p (List.mem_append_left _ hp)).1,.inl ⟨vs,m,I.stack⟩⟩
theorem tL {P:Program}{w:World}{K:PySem.W.Frag}{mg:Str->Option Value}{base:Heap}{N:List Str}{qual:Str}{scope:Scope}{f:Addr}{cd:Value}{A:Around}{outer:List Env}{s:Shared}{H:Hp}{E:XK}
  {pins:List (Addr×Obj)} {σ:St} {H':Hp} {s':Shared} {ea C:Addr} (I:Inv (cY (CX1 P w) P w K mg base N qual scope f cd A outer s H E) pins σ H' s') (fl:Fl (cY (CX1 P w) P w K mg base N qual scope f cd A outer s H E) ea C H' s')
  (h:E (.ref C) none H'):(cY (CX1 P w) P w K mg base N qual scope f cd A outer s H E).xe (.ref ea) s':=by
 obtain⟨B,ok,kb,th,pn,r⟩:=fl;have nL:∀b o,s.heap.get? b=some o->b≠s.heap.objs.size:=fun b o e z=>by subst z;exact absurd (hs0 e) (li0 _)
 have stk:∀b,b∈frs (envOfC qual scope s.heap.objs.size f cd::outer)->b=s.heap.objs.size\/b∈frs outer:=fun b hb=>by
  obtain⟨env,he,hf⟩:=List.mem_filterMap.mp hb;rcases mq0 he with rfl|he
  ·exact .inl (Option.some.inj hf).symm
  ·exact .inr (List.mem_filterMap.mpr ⟨env,he,hf⟩)
 have fin:∀(B':Heap) (a0:Value) (h':Heap),Heap.FlyingW B' outer ea (.ref C) a0 h'->s'.heap.UpToSlots h'->HOk P w H' B'->(∀b o,B.get? b=some o->b∉frs (envOfC qual scope s.heap.objs.size f cd::outer)->B'.get? b=some o)->
   CX1 P w outer H s E (.ref ea) {s' with heap:=h'}:=by
  intro B' a0 h' fl' up ok' bb;have out:∀b o,s.heap.get? b=some o->b∉frs outer->b∉frs (envOfC qual scope s.heap.objs.size f cd::outer):=fun b o e nf z=>(stk b z).elim (nL b o e) nf
  have k1:∀b o,s.heap.get? b=some o->H b=none->b∉frs outer->B'.get? b=some o:=fun b o e n nf=>bb b o (kb b o e n nf (fun z=>nomatch z)) (out b o e nf)
  have k2:∀b o,s.heap.get? b=some o->b∉frs outer->∃o',B'.get? b=some o':=fun b o e nf=>by
   obtain⟨o',h1⟩:=th b o e (out b o e nf) (fun z=>nomatch z);exact⟨o',bb b o' h1 (out b o e nf)⟩
  have sl:∀b o,s.heap.get? b=some o->H b=none->b∈frs outer->∃sl,h'.get? b=some {o with slots:=sl}:=fun b o e n hb=>by
   obtain⟨sl,h1⟩:=I.base.slot b o e n hb (fun z=>nomatch z);obtain⟨_,o2,h2,h3⟩:=I.ok.funs.mem hb;have h2:s.heap.get? b=some o2:=h2;rw[e] at h2;cases h2;obtain⟨sl',h4⟩:=up b _ h1 h3;exact⟨sl',h4⟩
  refine⟨ea,C,B',a0,H',rfl,I.os,I.bare,fl',ok',k1,k2,⟨fun b o e n nf a=>fl'.1 b o (k1 b o e n nf),fun b o e n hb a=>sl b o e n hb,fun b o e n a=>I.base.free b o e n (fun z=>nomatch z),fun b o e a=>?_,I.base.tups,I.base.frzs,I.base.tbls⟩,h⟩
  by_cases hb:b∈frs outer
  ·have n:H b=none:=I.ok.frf b hb
   obtain⟨sl',q⟩:=sl b o e n hb;exact⟨_,q⟩
  ·obtain⟨o',q⟩:=k2 b o e hb
   exact⟨o',fl'.1 b o' q⟩
 have hfr:(A.deeper (envOfC qual scope s.heap.objs.size f cd)).frames=some (envOfC qual scope s.heap.objs.size f cd::outer):=I.ok.frames;show wpAny _ _ (leaving _ (.ref ea)) _ _ s';rcases r with⟨vs,m,ff⟩|⟨a0,fl⟩
 ·have hin:∀env∈(envOfC qual scope s.heap.objs.size f cd::outer),∀b,env.frame=some b->b∈frs (envOfC qual scope s.heap.objs.size f cd::outer):=fun env he b hb=>List.mem_filterMap.mpr ⟨env,he,hb⟩
  refine wpAny_leaves_madeW (base:=PySem.W.hideAll B (frs (envOfC qual scope s.heap.objs.size f cd::outer))) hfr rfl (fun b o q=>PySem.W.of_hideAll _ q) (PySem.W.funFrames_hide ff hin) m fun h' t x1 x2 x3 x4=>?_
  refine fin _ _ h' x1 x4 (fun b o e=>?_) fun b o e n=>PySem.W.hideAll_get _ e n
  have nf:∀c u,H' c=some u->c∉frs (envOfC qual scope s.heap.objs.size f cd::outer):=fun c u e z=>by
   have:=I.stkFree c z;rw[e] at this;cases this
  refine (ok b o e).stay (fun c u hc q=>PySem.W.hideAll_get _ q ?_) (fun a q=>q) fun a a q=>q
  rcases hc with rfl|hc
  ·exact nf _ _ e
  ·exact nf _ _ hc
 ·refine wpAny_leaves_onW hfr rfl fl fun h' x1 x2=>?_
  exact fin B a0 h' x1 x2 ok fun b o e a=>e
structure MExt (G H:Hp)(d:Vd)(G' H':Hp)(d':Vd):Prop where
 gg:Same G G'
 hh:Same (er H (parts d)) (er H' (parts d'))
 gh:Same G' (er H' (parts d'))
 nw:∀b o,G b=Option.none->H b=some o->G' b=Option.none
 pre:d <+: d'
 st:∀b o,H b=some o->∃o',H' b=some o'
theorem fW {d d':Vd}(h:d <+: d'){b:Addr}(hb:b∈parts d):b∈parts d':=by
 obtain⟨t,ht⟩:=h;subst ht;unfold parts at hb ⊢;rw[List.flatMap_append];exact List.mem_append_left _ hb
section
variable {P:Program}{w:World}{K:Fg}{C:Addr}{G0 H0 G H G' H' G1 H1 G2 H2:Hp}{d0 d d' d1 d2:Vd}{σ:St}{ρ:List Sl}{U U':List (List D)}
theorem MExt.refl (s:Same G (er H (parts d))):MExt G H d G H d:=⟨Same.refl _,Same.refl _,s,fun a a h a=>h,List.prefix_refl _,fun a o h=>⟨o,h⟩⟩
theorem MExt.trans (a:MExt G H d G1 H1 d1)(b:MExt G1 H1 d1 G2 H2 d2):MExt G H d G2 H2 d2:=
 ⟨a.gg.trans b.gg,a.hh.trans b.hh,b.gh,fun c o h1 h2=>let ⟨o',h3⟩:=a.st c o h2;b.nw c o' (a.nw c o h1 h2) h3,a.pre.trans b.pre,fun c o h=>let ⟨o',h3⟩:=a.st c o h;b.st c o' h3⟩
theorem VS.mext (v:VS P w K C G H d U)(s:Same G (er H (parts d)))(e:Ext G H G' H'):MExt G H d G' H' d:=by
 have x:=e.er (fun b hb=>⟨v.out b hb,v.part hb⟩) s;exact⟨e.gg,x.hh,x.gh,e.nw,List.prefix_refl _,fun b o h=>⟨o,e.hh b o h⟩⟩
def cK:Option HO->Bool
 |some (.ins ..)=>true
 |_=>false
theorem EnvM.start (E:EnvM P w K C G0 H0 d0 G H d σ ρ U):MExt G0 H0 d0 G H d:=by
 refine⟨E.gg,E.hh,E.sub',E.nw,E.pre,fun b o h=>?_⟩
 by_cases hb:b∈parts d0
 ·exact E.vs.part (fW E.pre hb)
 ·exact⟨o,aD b o (E.hh b o (by rwa [aN hb]))⟩
set_option tactic.hygienic true in
theorem EnvM.go (E:EnvM P w K C G0 H0 d0 G H d σ ρ U)(m:MExt G H d G' H' d')(v:VS P w K C G' H' d' U'):EnvM P w K C G0 H0 d0 G' H' d' σ ρ U':=by
 have st0:=E.start;obtain⟨Gb,Hb,s1,s2,e⟩:=E.bas
 let Hb':Hp:=fun b=>match Hb b with
  |some o=>some o
  |Option.none=>if cK (er H' (parts d') b) then er H' (parts d') b else Option.none
 let Gb':Hp:=fun b=>match Gb b with
  |some o=>some o
  |Option.none=>match Hb b with
   |some _=>Option.none
   |Option.none=>if cK (er H' (parts d') b) then G' b else Option.none
 have hb1:Same Hb Hb':=fun b o h=>by show (match Hb b with|some o=>some o|Option.none=>_)=_;rw[h]
 have gb1:Same Gb Gb':=fun b o h=>by show (match Gb b with|some o=>some o|Option.none=>_)=_;rw[h]
 have hbn:∀b o,Hb b=Option.none->er H (parts d) b=some o->notIns o=true->Hb' b=Option.none:=fun b o h1 h2 h3=>by
  show (match Hb b with|some o=>some o|Option.none=>_)=_;rw[h1];have:=m.hh b o h2;show (if cK (er H' (parts d') b) then _ else _)=_;rw[this];cases o<;>first|rfl|cases h3
 have hS:Same Hb' (er H' (parts d')):=fun b o h=>by
  have h:(match Hb b with|some o=>some o|Option.none=>if cK (er H' (parts d') b) then er H' (parts d') b else Option.none)=some o:=h;cases q:Hb b with
  |some o'=>rw[q] at h;cases h;exact m.hh b _ (e.ext.hh b _ q)
  |none=>
   rw[q] at h;dsimp only at h;split at h
   ·exact h
   ·cases h
 have ow:∀p,G p=Option.none->(∃o,er H (parts d) p=some o)->G' p=Option.none:=by rintro p h1 ⟨o,h2⟩;exact m.nw p o h1 (bj h2).2
 refine⟨⟨Gb',Hb',s1.trans gb1,⟨s2.1.trans hb1,fun b o h n=>?_⟩,⟨⟨hS,fun b o h=>?_,m.gh,fun b o h1 h2=>?_,fun b C' dx fs h=>?_⟩,e.len,fun i d h=>?_,fun i d h=>?_,fun i d h=>?_,e.apart,fun i rows h=>?_⟩⟩,fun b o h1 h2=>?_,E.pre.trans m.pre,v⟩
 ·have h:(match Hb b with|some o=>some o|Option.none=>if cK (er H' (parts d') b) then er H' (parts d') b else Option.none)=some o:=h
  cases q:Hb b with
  |some o'=>rw[q] at h;cases h;exact s2.2 b _ q n
  |none=>
   rw[q] at h;dsimp only at h;split at h
   ·rename_i c;rw[h] at c;cases o<;>first|(cases c;done)|(cases n;done)
   ·cases h
 ·have h:(match Gb b with|some o=>some o|Option.none=>match Hb b with|some _=>Option.none|Option.none=>if cK (er H' (parts d') b) then G' b else Option.none)=some o:=h
  cases q:Gb b with
  |some o'=>rw[q] at h;cases h;exact m.gg b _ (e.ext.gg b _ q)
  |none=>
   rw[q] at h;cases q2:Hb b with
   |some _=>rw[q2] at h;cases h
   |none=>
    rw[q2] at h;dsimp only at h;split at h
    ·exact h
    ·cases h
 ·have h1:(match Gb b with|some o=>some o|Option.none=>match Hb b with|some _=>Option.none|Option.none=>if cK (er H' (parts d') b) then G' b else Option.none)=Option.none:=h1
  have h2:(match Hb b with|some o=>some o|Option.none=>if cK (er H' (parts d') b) then er H' (parts d') b else Option.none)=some o:=h2;cases q:Gb b with
  |some o'=>rw[q] at h1;cases h1
  |none=>
   rw[q] at h1;cases q2:Hb b with
   |some o'=>
    have:=e.ext.hh b o' q2;exact ow b (e.ext.nw b o' q q2) ⟨_,this⟩
   |none=>
    rw[q2] at h1 h2;dsimp only at h1 h2;split at h1
    ·exact h1
    ·rename_i c;rw[if_neg c] at h2;cases h2
 ·show (match Hb b with|some o=>some o|Option.none=>if cK (er H' (parts d') b) then er H' (parts d') b else Option.none)=_
  cases q:Hb b with
  |some o'=>
   have:=m.hh b o' (e.ext.hh b o' q);rw[h] at this;exact this.symm
  |none=>
   dsimp only;rw[h];rfl
 ·obtain⟨u,a,b⟩:=e.dat i d h
  exact⟨u,a,b.mono m.gg⟩
 ·obtain⟨u,a,b⟩:=e.lent i d h
  exact⟨u,a,(b.monoH hb1).monoG gb1⟩
 ·obtain⟨p,a,c,f,g⟩:=e.own i d h
  obtain⟨o,ho⟩:=g.some;have ni:notIns o=true:=by
   rcases g with⟨_,_,_,z,_⟩|⟨_,_,_,z,_⟩<;>(rw[ho] at z;cases z;rfl)
  refine⟨p,a,ow p c ⟨o,ho⟩,hbn p o f ho ni,?_⟩;rcases g with⟨ds,vs,z1,z2,z3⟩|⟨ds,vs,z1,z2,z3⟩
  ·exact .inl ⟨ds,vs,z1,m.hh _ _ z2,z3.mono m.gg⟩
  ·exact .inr ⟨ds,vs,z1,m.hh _ _ z2,z3.mono m.gg⟩
 ·obtain⟨⟨p,a,qs,b1,b2,b3,b4,b5,b6⟩,c⟩:=e.deep i rows h
  refine⟨⟨p,a,qs,m.hh _ _ b1,ow p b2 ⟨_,b1⟩,hbn p _ b3 b1 rfl,b4,b5,fun k row q z1 z2=>?_⟩,c⟩;obtain⟨y1,y2,vs,y3,y4⟩:=b6 k row q z1 z2;exact⟨ow q y1 ⟨_,y3⟩,hbn q _ y2 y3 rfl,vs,m.hh _ _ y3,y4.mono m.gg⟩
 ·obtain⟨o',h3⟩:=st0.st b o h2
  exact m.nw b o' (E.nw b o h1 h2) h3
theorem EnvM.set {i:Nat}{e:D}{v:V}(E:EnvM P w K C G0 H0 d0 G H d σ ρ U)(hi:i<σ.length)(h:Dp K G e v):EnvM P w K C G0 H0 d0 G H d (σ.set i (some v)) (ρ.set i (.dat e)) U:=by
 obtain⟨Gb,Hb,s1,s2,en⟩:=E.bas;exact⟨⟨Gb,Hb,s1,s2,en.set hi h⟩,E.nw,E.pre,E.vs⟩
theorem EnvM.freeze (E:EnvM P w K C G0 H0 d0 G H d σ ρ U):∃G',EnvM P w K C G0 H0 d0 G' H d σ (ρ.map SI.freeze) U/\Same G G':=by
 obtain⟨Gb,Hb,s1,s2,en⟩:=E.bas;obtain⟨G1,en1,s⟩:=en.freeze;have out:∀b∈parts d,G1 b=Option.none:=fun b hb=>by
  cases q:G1 b with
  |none=>rfl
  |some o=>have:=en1.sub b o q;rw[qM hb] at this;cases this
 refine⟨G1,⟨⟨Gb,Hb,s1,s2,en1⟩,(fun b o h1 h2=>by
  by_cases hb:b∈parts d0
  ·exact out b (fW E.pre hb)
  ·refine en1.ext.nw b o ?_ (s2.1 b o (by rwa [aN hb]))
   cases q:Gb b with
   |none=>rfl
   |some o'=>have:=en.ext.gg b o' q;rw[E.nw b o h1 h2] at this;cases this),E.pre,⟨E.vs.len,E.vs.nd,fun h a l n q=>?_,E.vs.uni,out⟩⟩,s⟩
 ·obtain⟨dx,objs,h1,h2,h3,as,h4,h5,h6,h7⟩:=E.vs.at' h a l n q
  exact⟨dx,_,h1,s _ _ h2,h3,as,h4,h5.mono s,h6,h7⟩
end
inductive R where
 |ok (d:D)
 |exc (C:Nat)
inductive Rs where
 |ok (ds:List D)
 |exc (C:Nat)
def ph (X:Cx)(c:Addr)(σ:St)(H:Hp):Prop:=∀pins ea s,Inv X pins σ H s->Fl X ea c H s->X.xe (.ref ea) s
def PostM (X:Cx)(C:Addr)(G H:Hp)(d:Vd)(U:List (List D))(σ:St)(Q:VK):R->Prop
 |.ok e=>∀v G' H' d',MExt G H d G' H' d'->VS X.prog X.w X.K C G' H' d' U->Dp X.K G' e v->Q v H'
 |.exc c=>∀G' H' d',MExt G H d G' H' d'->VS X.prog X.w X.K C G' H' d' U->ph X c σ H'
def GR (X:Cx)(C:Addr)(G H:Hp)(d:Vd)(U:List (List D))(σ:St)(fl:List Bool)(Q:List V->Hp->Prop):Rs->Prop
 |.ok es=>∀vs G' H' d',MExt G H d G' H' d'->VS X.prog X.w X.K C G' H' d' U->Das X.K G' (er H' (parts d')) fl es vs->Q vs H'
 |.exc c=>∀G' H' d',MExt G H d G' H' d'->VS X.prog X.w X.K C G' H' d' U->ph X c σ H'
def tM (X:Cx)(C:Addr)(ρ:List Sl)(U:List (List D))(r:R)(U':List (List D)):TE:=fun σ H Q=>∃G0 H0 d0 G d,EnvM X.prog X.w X.K C G0 H0 d0 G H d σ ρ U/\PostM X C G H d U' σ Q r
def tMa (X:Cx)(C:Addr)(ρ:List Sl)(U:List (List D))(fl:List Bool)(r:Rs)(U':List (List D)):TA:=fun σ H Q=>∃G0 H0 d0 G d,EnvM X.prog X.w X.K C G0 H0 d0 G H d σ ρ U/\GR X C G H d U' σ fl Q r
def EvM (X:Cx)(C:Addr)(ρ:List Sl)(U:List (List D))(e:Expr)(r:R)(U':List (List D)):Prop:=PE X e (tM X C ρ U r U')
def EaM (X:Cx)(C:Addr)(ρ:List Sl)(U:List (List D))(fl:List Bool)(es:List Expr)(r:Rs)(U':List (List D)):Prop:=PA X es (tMa X C ρ U fl r U')
structure FnM where
 lent:List Bool
 run:List (List D)->List D->Option (List (List D)×R)
def Mur (P:Program)(w:World)(K:Fg)(C:Addr)(φ:FnM):Sp:=fun vs H Q E=>∃ds U U' r G d,φ.run U ds=some (U',r)/\Same G (er H (parts d))/\Das K G (er H (parts d)) φ.lent ds vs/\VS P w K C G H d U/\
 match r with
 |.ok e=>∀v G' H' d',MExt G H d G' H' d'->VS P w K C G' H' d' U'->Dp K G' e v->Q v H'
 |.exc c=>∀G' H' d',MExt G H d G' H' d'->VS P w K C G' H' d' U'->E (.ref c) none H'
section
variable {X:Cx}{C:Addr}{ρ:List Sl}{U U1 U2 U':List (List D)}{e o:Expr}{es:List Expr}{d:D}{ds:List D}{fl:List Bool}{c k i:Nat}{r:R}{rs:Rs}{x m:Str}{p pos apos:Pos}
theorem PostM.go {G H G' H':Hp}{d d':Vd}{σ:St}{Q:VK}(h:PostM X C G H d U σ Q r)(m:MExt G H d G' H' d'):PostM X C G' H' d' U σ Q r:=by
 cases r with
 |ok e=>exact fun v G2 H2 d2 m2 v2 q=>h v G2 H2 d2 (m.trans m2) v2 q
 |exc c=>exact fun G2 H2 d2 m2 v2=>h G2 H2 d2 (m.trans m2) v2
theorem wV (h:Ev X (ρ.map (vE C U)) e d):EvM X C ρ U e (.ok d) U:=fun pins s σ H Q I ⟨G0,H0,d0,G,dd,E,k⟩=>
 h _ s σ H Q I ⟨G,H,G,E.view,fun v G' H' e1 r=>k v G' H' dd (E.vs.mext E.sub' e1) (E.vs.step e1) r⟩
theorem kW (i:Nat)(h:ρ[i]?=some (.dat d))(hN:X.N[i]?=some x)(hv:Vis X.env.scope x)(hd:(x==("__debug__":Str))=false)(hcd:(x==("__classdict__":Str))=false):EvM X C ρ U (.Name x pos) (.ok d) U:=
 fun pins s σ H Q I ⟨G0,H0,d0,G,dd,E,k⟩=>by
  obtain⟨Gb,Hb,_,_,en⟩:=E.bas;obtain⟨v,a,b⟩:=en.dat i d h;exact cq hN hv hd hcd _ s σ H Q I ⟨v,a,k v G H dd (.refl E.sub') E.vs b⟩
theorem Ao:EaM X C ρ U fl [] (.ok []) U:=by rintro pos pins s σ H Q I ⟨G0,H0,d0,G,dd,E,k⟩;exact aU pos pins s σ H Q I (k [] G H dd (.refl E.sub') E.vs .nil)
theorem wW (he:EvM X C ρ U e (.ok d) U1)(hr:EaM X C ρ U1 fl.tail es rs U2)(hs:isStar e=false):EaM X C ρ U fl (e::es) (match rs with|.ok ds=>.ok (d::ds)|.exc c=>.exc c) U2:=
 by rintro pos pins s σ H Q I ⟨G0,H0,d0,G,dd,E,k⟩;exact aA he hr (af hs) pos pins s σ H Q I ⟨G0,H0,d0,G,dd,E,fun v G1 H1 d1 m1 v1 r1=>by
  refine⟨G0,H0,d0,G1,d1,E.go m1 v1,?_⟩;cases rs with
  |ok ds=>exact fun vs G2 H2 d2 m2 v2 r2=>k _ G2 H2 d2 (m1.trans m2) v2 (.cons (fun a=>r1.mono m2.gg) (.of (r1.mono m2.gg)) r2)
  |exc c=>exact fun G2 H2 d2 m2 v2=>k G2 H2 d2 (m1.trans m2) v2⟩
theorem tN (he:EvM X C ρ U e (.exc c) U1)(hs:isStar e=false):EaM X C ρ U fl (e::es) (.exc c) U1:=
 by rintro pos pins s σ H Q I ⟨G0,H0,d0,G,dd,E,k⟩;exact aA (t:=fun a a a=>False) he (fun a a a a a a a z=>z.elim) (af hs) pos pins s σ H Q I ⟨G0,H0,d0,G,dd,E,k⟩
theorem tO {sl:Sl}(i:Nat)(h:ρ[i]?=some sl)(hd':aQ .read sl=some d)(hf:fl.headD false=true)(hN:X.N[i]?=some x)(hv:Vis X.env.scope x)(hd:(x==("__debug__":Str))=false)(hcd:(x==("__classdict__":Str))=false)
  (hr:EaM X C ρ U fl.tail es rs U2):EaM X C ρ U fl (.Name x p::es) (match rs with|.ok ds=>.ok (d::ds)|.exc c=>.exc c) U2:=
 fun pos pins s σ H Q I ⟨G0,H0,d0,G,dd,E,k⟩=>by
  obtain⟨Gb,Hb,_,_,en⟩:=E.bas;obtain⟨v,a,b⟩:=en.read h hd';refine aA (cq hN hv hd hcd) hr rfl _ _ s σ H Q I ⟨v,a,G0,H0,d0,G,dd,E,?_⟩;cases rs with
  |ok ds=>exact fun vs G2 H2 d2 m2 v2 r2=>k _ G2 H2 d2 m2 v2 (.cons (fun c=>by simp_all) ((b.monoH m2.hh).monoG m2.gg) r2)
  |exc c=>exact fun G2 H2 d2 m2 v2=>k G2 H2 d2 m2 v2
theorem qN {pins:List (Addr×Obj)}{σ:St}{H:Hp}{s:Shared}{Q:VK}{us:List Value}{vs:List V}{f:Addr}{fd:FuncData}{ps:List Str}{sp:Sp}(F:FnOk X.prog X.w X.K X.mg X.base (CX1 X.prog X.w) k f fd ps sp)(hr:Room k X.A)(hb:Binds X.K fd ps [])
  (I:Inv X pins σ H s) (r:Vals vs us) (h:sp vs H Q (fun c a H'=>∃c',c=.ref c'/\ph X c' σ H')):wpAny (model X.prog X.w) X.A (call (.ref f) us) (EP X pins σ Q) X.xe s:=by
 have hl:us.length=ps.length:=by rw[←r.length];exact F.len _ _ _ _ h
 refine wpAny_call (codeAny_mono (F.run _ _ s H _ us vs Q _ hr I.env0 (by have:=hb s us I.kIn (by simpa using hl);simp_all) r h) fun r s' hq=>?_);cases r with
 |error e=>
  have hq:CX1 _ _ _ H s (fun c a H'=>∃c',c=.ref c'/\ph X c' σ H') e s':=hq;obtain⟨ea,c,H',rfl,I',fl,c',ec,ac⟩:=pf I hq;cases ec;exact ac _ ea s' I' fl
 |ok fl=>
  cases fl with
  |ret u=>exact I.after hq
  |next=>exact False.elim hq
  |brk=>exact False.elim hq
  |cont=>exact False.elim hq
noncomputable def Eu (run:List (List D)->List D->Option (List (List D)×R)):Rs->List (List D)->Option (List (List D)×R)
 |.ok ds,U=>run U ds
 |.exc c,U=>some (U,.exc c)
theorem BL {φ:FnM}{G H:Hp}{d:Vd}{σ:St}{Q:VK}{vs:List V}(h:φ.run U1 ds=some (U2,r))(s:Same G (er H (parts d)))(das:Das X.K G (er H (parts d)) φ.lent ds vs)(v:VS X.prog X.w X.K C G H d U1)(q:PostM X C G H d U2 σ Q r):
  Mur X.prog X.w X.K C φ vs H Q (fun c a H'=>∃c',c=.ref c'/\ph X c' σ H'):=by
 refine⟨ds,U1,U2,r,G,d,h,s,das,v,?_⟩;cases r with
 |ok e=>exact q
 |exc c=>exact fun G' H' d' m v'=>⟨c,rfl,q G' H' d' m v'⟩
structure Ap (P:Program)(w:World)(K:Fg)(mg:Str->Option Value)(base:Heap)(C:Addr)(k:Nat)(x:Str)(φ:FnM):Prop where
 ex:∃f fd ps,mg x=some (.ref f)/\PySem.W.keepIn K (.ref f)=true/\Binds K fd ps []/\FnOk P w K mg base (CX1 P w) k f fd ps (Mur P w K C φ)
theorem wX {φ:FnM}(F:Ap X.prog X.w X.K X.mg X.base C k x φ)(hr:Room k X.A)(hg:Gl X x)(hd:(x==("__debug__":Str))=false)(ha:EaM X C ρ U φ.lent (e::es) rs U1)(h:Eu φ.run rs U1=some (U2,r))(hs:aB (e::es)):
  EvM X C ρ U (.Call (.Name x p) (e::es) [] pos) r U2:=by
 obtain⟨f,fd,ps,hm,hk,hb,F⟩:=F.ex;intro pins s σ H Q I h0;obtain⟨G0,H0,d0,G,dd,E,kq⟩:=h0;refine wpAny_Call_Name_kw (dz I hg hm ?_ hd);cases rs with
 |exc c=>
  cases h;refine PySem.W.callWith_K I.ok.mod.kin hk (thn (ha pos _ s σ H (fun a a=>False) I ⟨G0,H0,d0,G,dd,E,kq⟩) fun us s1 ⟨vs,H1,I1,r1,q⟩=>q.elim) (af (hs e ms0)) (aG fun y hy=>hs y (mc0 _ hy))
 |ok ds=>
  exact PySem.W.callWith_K I.ok.mod.kin hk (thn (ha pos pins s σ H _ I ⟨G0,H0,d0,G,dd,E,fun vs G1 H1 d1 m1 v1 r1=>BL h m1.gh r1 v1 (kq.go m1)⟩) fun us s1 ⟨vs,H1,I1,r1,q⟩=>⟨I1.kIn,qN F hr hb I1 r1 q⟩) (af (hs e ms0)) (aG fun y hy=>hs y (mc0 _ hy))
structure FnVm (P:Program)(w:World)(K:Fg)(mg:Str->Option Value)(base:Heap)(C:Addr)(k:Nat)(m:Str)(φ:FnM):Prop where
 ex:∃f fd ps,Cls K C/\ie K C m f/\Binds K fd ps []/\FnOk P w K mg base (CX1 P w) k f fd ps (Mur P w K C φ)
theorem wY {φ:FnM}{h:Nat}(F:FnVm X.prog X.w X.K X.mg X.base C k m φ)(hl:φ.lent.headD false=false)(hm2:m≠"objects"/\m≠"numbers")(hr:Room k X.A)(ho:EvM X C ρ U o (.ok (.hdl h)) U1)(ha:EaM X C ρ U1 φ.lent.tail (e::es) (.ok ds) U2)(hrun:φ.run U2 (.hdl h::ds)=some (U',r))(hs:aB (e::es))
  {pl:Sem Bool} (ht:eval (.Call (.Attribute o m apos) (e::es) [] pos) X.env=(do
   let ov ←eval o X.env
   standAt apos.atName
   let (f,first) ←holding [ov] (getMethod ov m pl)
   callWith pos f first (backTo pos (starEach (e::es) X.env)) (backToKw pos (keywordEach [] X.env)))):
  EvM X C ρ U (.Call (.Attribute o m apos) (e::es) [] pos) r U':=by
 obtain⟨f,fd,ps,hc,hm,hb,F⟩:=F.ex;intro pins s σ H Q I h0;obtain⟨G0,H0,d0,G,dd,E,kq⟩:=h0;refine PySem.W.methodCall_KW (pl:=pl) (thn (ho pins s σ H (fun x H1=>∃a dx fs,x=.ref a/\H1 a=some (.ins C dx fs)/\fs.lookup m=none/\∃G1 d1,MExt G H dd G1 H1 d1/\VS X.prog X.w X.K C G1 H1 d1 U1/\Dp X.K G1 (.hdl h) (.ref a)) I ⟨G0,H0,d0,G,dd,E,fun v G1 H1 d1 m1 v1 r1=>?_⟩) fun u s1 ⟨x,H1,I1,rx,a,dx,fs,ex,ea,l,G1,d1,m1,v1,r1⟩=>?_) ht
 ·obtain⟨a,l,n,dx,objs,rfl,_,_,q,_⟩:=v1.hdl (m1.gh.trans aD) r1
  refine⟨a,dx,_,rfl,(m1.gh.trans aD) _ _ q,?_,G1,d1,m1,v1,r1⟩;have n1:(m==("objects":Str))=false:=beq_eq_false_iff_ne.mpr hm2.1;have n2:(m==("numbers":Str))=false:=beq_eq_false_iff_ne.mpr hm2.2;simp[vfs,lk0,n1,n2]
 ·subst ex
  obtain rfl:u=Value.ref a:=rx;refine cH I1 ea hc hm l ?_;refine PySem.W.callWith_K (first:=[.ref a]) (h₀:=X.base) I.ok.mod.kin hm.kp (thn (ha pos pins s1 σ H1 _ I1 ⟨G0,H0,d0,G1,d1,E.go m1 v1,fun vs G2 H2 d2 m2 v2 r2=>?_⟩) fun us s2 ⟨vs,H2,I2,r2,q⟩=>⟨I2.kIn,qN (us:=.ref a::us) (vs:=.ref a::vs) F hr hb I2 (.cons rfl r2) q⟩) (af (hs e ms0)) (aG fun y hy=>hs y (mc0 _ hy));exact BL hrun m2.gh (.cons (fun b=>r1.mono m2.gg) (.of (r1.mono m2.gg)) r2) v2 (kq.go (m1.trans m2))
end
inductive OM where
 |nx (ρ:List Sl)
 |rt (d:D)
 |exc (c:Nat) (ρ:List Sl)
def GoesM (X:Cx)(C:Addr)(G0 H0:Hp)(d0:Vd)(G:Hp)(U:List (List D))(F:Ends):OM->Prop
 |.nx ρ'=>∀G' H' d' σ',EnvM X.prog X.w X.K C G0 H0 d0 G' H' d' σ' ρ' U->Same G G'->F.nx σ' H'
 |.rt e=>∀v G' H' d',MExt G0 H0 d0 G' H' d'->VS X.prog X.w X.K C G' H' d' U->Dp X.K G' e v->F.rt v H'
 |.exc c ρ'=>∀G' H' d' σ',EnvM X.prog X.w X.K C G0 H0 d0 G' H' d' σ' ρ' U->Same G G'->ph X c σ' H'
def tSM (X:Cx)(C:Addr)(ρ:List Sl)(U:List (List D))(o:OM)(U':List (List D)):TS:=fun F σ H=>∃G0 H0 d0 G d,EnvM X.prog X.w X.K C G0 H0 d0 G H d σ ρ U/\GoesM X C G0 H0 d0 G U' F o
def S1M (X:Cx)(C:Addr)(ρ:List Sl)(U:List (List D))(st:Stmt)(o:OM)(U':List (List D)):Prop:=PS X st (tSM X C ρ U o U')
def SsM (X:Cx)(C:Addr)(ρ:List Sl)(U:List (List D))(sts:List Stmt)(o:OM)(U':List (List D)):Prop:=PSs X sts (tSM X C ρ U o U')
inductive Rt where
 |ok (b:Bool)
 |exc (C:Nat)
def tTM (X:Cx)(C:Addr)(ρ:List Sl)(U:List (List D))(r:Rt)(U':List (List D)):TT:=fun σ H Q=>∃G0 H0 d0 G d,EnvM X.prog X.w X.K C G0 H0 d0 G H d σ ρ U/\match r with
 |.ok b=>∀G' H' d',MExt G H d G' H' d'->VS X.prog X.w X.K C G' H' d' U'->Q b H'
 |.exc c=>∀G' H' d',MExt G H d G' H' d'->VS X.prog X.w X.K C G' H' d' U'->ph X c σ H'
def EtM (X:Cx)(C:Addr)(ρ:List Sl)(U:List (List D))(e:Expr)(r:Rt)(U':List (List D)):Prop:=PT X e (tTM X C ρ U r U')
section
variable {X:Cx}{C:Addr}{ρ ρ1:List Sl}{U U1 U2 U':List (List D)}{st:Stmt}{rest body body2:List Stmt}{o:OM}{a b e tg iter:Expr}{p pos pos':Pos}{d:D}{ds:List D}{x y:Str}{i j c k:Nat}{t:Bool}
theorem GoesM.go {G0 H0 G G1:Hp}{d0:Vd}{F:Ends}(h:GoesM X C G0 H0 d0 G U F o)(s:Same G G1):GoesM X C G0 H0 d0 G1 U F o:=by
 cases o with
 |nx ρ'=>exact fun G' H' d' σ' e g=>h G' H' d' _ e (s.trans g)
 |rt d=>exact h
 |exc c ρ'=>exact fun G' H' d' σ' e g=>h G' H' d' _ e (s.trans g)
theorem Aq:SsM X C ρ U [] (.nx ρ) U:=by rintro pins s σ H F I ⟨G0,H0,d0,G,d,E,R⟩;exact dA pins s σ H F I (R G H d σ E (Same.refl _))
theorem tP (h1:S1M X C ρ U st (.nx ρ1) U1)(h2:SsM X C ρ1 U1 rest o U2):SsM X C ρ U (st::rest) o U2:=fun pins s σ H F I ⟨G0,H0,d0,G,d,E,R⟩=>
 aT h1 h2 _ s σ H F I ⟨G0,H0,d0,G,d,E,fun G' H' d' σ' E' g=>⟨G0,H0,d0,G',d',E',R.go g⟩⟩
theorem tQ (h1:S1M X C ρ U st (.rt d) U1):SsM X C ρ U (st::rest) (.rt d) U1:=fun pins s σ H F I ⟨G0,H0,d0,G,dd,E,R⟩=>
 aT (u:=fun a a a=>False) h1 (fun a a a a a a z=>z.elim) _ s σ H F I ⟨G0,H0,d0,G,dd,E,R⟩
theorem tR (h1:S1M X C ρ U st (.exc c ρ1) U1):SsM X C ρ U (st::rest) (.exc c ρ1) U1:=fun pins s σ H F I ⟨G0,H0,d0,G,dd,E,R⟩=>
 aT (u:=fun a a a=>False) h1 (fun a a a a a a z=>z.elim) _ s σ H F I ⟨G0,H0,d0,G,dd,E,R⟩
theorem wZ:S1M X C ρ U (.Pass pos) (.nx ρ) U:=fun pins s σ H F I ⟨G0,H0,d0,G,d,E,R⟩=>pX _ s σ H F I (R G H d σ E (Same.refl _))
theorem pj {G0 H0 G H:Hp}{d0 d:Vd}{σ:St}{Q:VK}{F:Ends}(E:EnvM X.prog X.w X.K C G0 H0 d0 G H d σ ρ U)(R:GoesM X C G0 H0 d0 G U1 F (.exc c ρ)):PostM X C G H d U1 σ Q (.exc c):=
 fun G' H' d' m v=>R G' H' d' σ (E.go m v) m.gg
theorem Ar (S:Sto X x i)(h:EvM X C ρ U e (.ok d) U1)(hs:swapsWith e (some (.Name x pos')) pos.line X.env=pure false):S1M X C ρ U (.Assign [.Name x pos'] e pos) (.nx (ρ.set i (.dat d))) U1:=
 by rintro pins s σ H F I ⟨G0,H0,d0,G,dd,E,R⟩;exact ia S.nd S.nm.at' S.nm.loc h hs S.nm.fn pins s σ H F I ⟨G0,H0,d0,G,dd,E,fun v G' H' d' m v1 r=>R G' H' d' _ ((E.go m v1).set (S.lt I) r) m.gg⟩
theorem xa (S:Sto X x i)(h:EvM X C ρ U e (.exc c) U1)(hs:swapsWith e (some (.Name x pos')) pos.line X.env=pure false):S1M X C ρ U (.Assign [.Name x pos'] e pos) (.exc c ρ) U1:=
 by rintro pins s σ H F I ⟨G0,H0,d0,G,dd,E,R⟩;exact ia S.nd S.nm.at' S.nm.loc h hs S.nm.fn pins s σ H F I ⟨G0,H0,d0,G,dd,E,pj (Q:=fun a a=>True) E R⟩
theorem xb (h:EvM X C ρ U e (.ok d) U1)(hs:swapsWith e none pos.line X.env=pure false):S1M X C ρ U (.Expr e pos) (.nx ρ) U1:=
 by rintro pins s σ H F I ⟨G0,H0,d0,G,dd,E,R⟩;exact gH h hs pins s σ H F I ⟨G0,H0,d0,G,dd,E,fun v G' H' d' m v1 r=>R G' H' d' _ (E.go m v1) m.gg⟩
theorem tS (h:EvM X C ρ U e (.exc c) U1)(hs:swapsWith e none pos.line X.env=pure false):S1M X C ρ U (.Expr e pos) (.exc c ρ) U1:=
 fun pins s σ H F I ⟨G0,H0,d0,G,dd,E,R⟩=>gH h hs _ s σ H F I ⟨G0,H0,d0,G,dd,E,pj E R⟩
theorem As (h:EvM X C (ρ.map SI.freeze) U e (.ok d) U1):S1M X C ρ U (.Return (some e) pos) (.rt d) U1:=fun pins s σ H F I ⟨G0,H0,d0,G,dd,E,R⟩=>by
 obtain⟨G1,E1,s1⟩:=E.freeze;exact kr h _ s σ H F I ⟨G0,H0,d0,G1,dd,E1,fun v G' H' d' m v1 r=>R v G' H' d' (E1.go m v1).start v1 r⟩
theorem xf (h:EvM X C (ρ.map SI.freeze) U e (.exc c) U1):S1M X C ρ U (.Return (some e) pos) (.exc c (ρ.map SI.freeze)) U1:=fun pins s σ H F I ⟨G0,H0,d0,G,dd,E,R⟩=>by
 obtain⟨G1,E1,s1⟩:=E.freeze;exact kr h _ s σ H F I ⟨G0,H0,d0,G1,dd,E1,pj E1 (R.go s1)⟩
theorem mK (h:Et X (ρ.map (vE C U)) e t):EtM X C ρ U e (.ok t) U:=fun pins s σ H Q I ⟨G0,H0,d0,G,dd,E,k⟩=>
 h _ s σ H Q I ⟨G,H,G,E.view,fun G' H' e1=>k G' H' dd (E.vs.mext E.sub' e1) (E.vs.step e1)⟩
theorem s1M_ifT (hc:EtM X C ρ U e (.ok true) U1)(h:SsM X C ρ U1 body o U2):S1M X C ρ U (.If e body body2 pos) o U2:=fun pins s σ H F I ⟨G0,H0,d0,G,dd,E,R⟩=>
 jk (u:=fun a a a=>False) hc h (fun a a a a a a z=>z.elim) _ s σ H F I ⟨G0,H0,d0,G,dd,E,fun G' H' d' m v=>kB ⟨G0,H0,d0,G',d',E.go m v,R.go m.gg⟩⟩
theorem s1M_ifF (hc:EtM X C ρ U e (.ok false) U1)(h:SsM X C ρ U1 body2 o U2):S1M X C ρ U (.If e body body2 pos) o U2:=fun pins s σ H F I ⟨G0,H0,d0,G,dd,E,R⟩=>
 jk (t:=fun a a a=>False) hc (fun a a a a a a z=>z.elim) h _ s σ H F I ⟨G0,H0,d0,G,dd,E,fun G' H' d' m v=>kA ⟨G0,H0,d0,G',d',E.go m v,R.go m.gg⟩⟩
theorem Au (hc:EtM X C ρ U e (.exc c) U1):S1M X C ρ U (.If e body body2 pos) (.exc c ρ) U1:=fun pins s σ H F I ⟨G0,H0,d0,G,dd,E,R⟩=>
 jk (t:=fun a a a=>False) (u:=fun a a a=>False) hc (fun a a a a a a z=>z.elim) (fun a a a a a a z=>z.elim) pins s σ H F I ⟨G0,H0,d0,G,dd,E,fun G' H' d' m v=>R G' H' d' σ (E.go m v) m.gg⟩
def TgM (X:Cx)(tg:Expr)(t:Tg):Prop:=∀d,PG X tg (fun v σ H Q=>∃(W:St->List Sl->Prop) (G:Hp) (ρ ρ':List Sl),W σ ρ/\(∀σ ρ i e u,W σ ρ->i<σ.length->Dp X.K G e u->W (σ.set i (some u)) (ρ.set i (.dat e)))/\Same G H/\Dp X.K G d v/\au t d ρ=some ρ'/\∀σ',W σ' ρ'->Q σ' H)
theorem mL {i:Nat}{x:Str}(hN:X.N.Nodup)(hi:X.N[i]?=some x)(hx:Loc X.env.scope x)(hf:X.fn x=true\/X.env.scope.names.lookup x=some .local):TgM X (.Name x p) (.one i):=
 fun d pins s σ H v u Q I r ⟨W,G,ρ,ρ',w,cl,sm,dv,hb,k⟩=>by
  cases hb;exact pY hN hi hx hf _ s σ H v u Q I r (k _ (cl σ ρ i d v w (by rw[I.len];exact (List.getElem?_eq_some_iff.mp hi).1) dv))
def Jf (X:Cx)(ts:List Expr)(is:List Nat):Prop:=∀ds,ds.length=is.length->PGs X ts (fun vs σ H Q=>∃(W:St->List Sl->Prop) (G:Hp) (ρ:List Sl),W σ ρ/\(∀σ ρ i e u,W σ ρ->i<σ.length->Dp X.K G e u->W (σ.set i (some u)) (ρ.set i (.dat e)))/\Same G H/\Dps X.K G ds vs/\
 ∀σ',W σ' ((is.zip ds).foldl (fun ρ p=>ρ.set p.1 (.dat p.2)) ρ)->Q σ' H)
theorem GS {ts:List Expr}{is:List Nat}(hN:X.N.Nodup)(h:Nms X ts is):Jf X ts is:=by
 induction h with
 |nil=>
  intro ds hl pins s σ H vs us Q I r h0;obtain⟨W,G,ρ,w,cl,sm,dv,k⟩:=h0;have:=List.eq_nil_of_length_eq_zero hl;subst this;cases dv;exact pZ _ s σ H [] us Q I r ⟨rfl,k σ w⟩
 |@cons x px i es is h1 h2 ih=>
  intro ds hl pins s σ H vs us Q I r h0;obtain⟨W,G,ρ,w,cl,sm,dv,k⟩:=h0;cases ds with
  |nil=>cases hl
  |cons d ds=>
   cases dv with
   |cons d1 d2=>
    exact lA (mL hN h1.at' h1.loc h1.fn d) (ih ds (by simpa using hl)) rfl _ s σ H _ us Q I r
     ⟨_,_,rfl,W,G,ρ,_,w,cl,sm,d1,rfl,fun σ' w'=>⟨W,G,_,w',cl,sm,d2,fun σ2 w2=>k _ w2⟩⟩
set_option tactic.hygienic true in
theorem Av {ts:List Expr}{is:List Nat}{n:Nat}(hc:X.calm=true)(hN:X.N.Nodup)(h:Nms X ts is):TgM X (.Tuple ts n pos) (.tup is):=by
 intro d pins s σ H v u Q I r h0;obtain⟨W,G,ρ,ρ',w,cl,sm,dv,hb,k⟩:=h0;cases d with
 |tuple ds=>
  rw[fJ] at hb;split at hb
  ·rename_i hl
   cases hb;cases dv with
   |tuple hq dr=>
    obtain⟨e1,e2⟩:=h.each (env:=X.env);exact uB hc (GS hN h ds hl.symm) e1 e2 pins s σ H _ u Q I r ⟨_,_,rfl,SqT.of (sm _ _ hq),by rw[←dr.length];exact hl.symm,W,G,ρ,w,cl,sm,dr,k⟩
  ·cases hb
 |list ds=>
  rw[fK] at hb;split at hb
  ·rename_i hl
   cases hb;cases dv with
   |list hq dr=>
    obtain⟨e1,e2⟩:=h.each (env:=X.env);exact wy hc (GS hN h ds hl.symm) e1 e2 pins s σ H _ u Q I r ⟨_,_,rfl,SqL.of (sm _ _ hq),by rw[←dr.length];exact hl.symm,W,G,ρ,w,cl,sm,dr,k⟩
  ·cases hb
 |_=>cases hb
theorem Ex {Cc:Cs}(c:CxC X Cc){tg:Expr}{t:Tg}(h:cTg Cc tg=some t):TgM X tg t:=by
 have nms:∀{es:List Expr} {is:List Nat},slots Cc es=some is->Nms X es is:=by
  intro es
  induction es with
  |nil=>intro is h;cases h;exact .nil
  |cons e r ih=>
   intro is h;cases e with
   |Name x px=>
    obtain⟨i,h1,h2⟩:=bx0 (h);obtain⟨is',h3,rfl⟩:=mx0 h2;exact .cons (iF c h1) (ih h3)
   |_=>cases h
 cases tg with
 |Name x px=>
  obtain⟨i,h1,rfl⟩:=mx0 (h);have n:=iF c h1;exact mL (by rw[c.N];exact c.nd) n.at' n.loc n.fn
 |Tuple es n pos=>
  obtain⟨is,h1,rfl⟩:=mx0 (h);exact Av c.calm (by rw[c.N];exact c.nd) (nms h1)
 |_=>cases h
noncomputable def OM.andThen:OM->(List Sl->Option (OM×List (List D)))->List (List D)->Option (OM×List (List D))
 |.nx ρ,f,_=>f ρ
 |.rt d,_,U=>some (.rt d,U)
 |.exc c ρ,_,U=>some (.exc c ρ,U)
noncomputable def forM (t:D->List Sl->Option (List Sl))(b:List Sl->List (List D)->Option (OM×List (List D))):List D->List Sl->List (List D)->Option (OM×List (List D))
 |[],ρ,U=>some (.nx ρ,U)
 |d::r,ρ,U=>(t d ρ).bind fun ρ'=>(b ρ' U).bind fun q=>q.1.andThen (fun ρ2=>forM t b r ρ2 q.2) q.2
def tIM (X:Cx)(C:Addr)(ρ:List Sl)(U:List (List D))(ds:List D)(U':List (List D)):TI:=fun σ H R=>∃G0 H0 d0 G d,EnvM X.prog X.w X.K C G0 H0 d0 G H d σ ρ U/\∀J G' H' d',MExt G H d G' H' d'->VS X.prog X.w X.K C G' H' d' U'->
 (∃Hs,gq X.K G' Hs J ds/\∀G2 H2 d2 σ2 ρ2 U2,EnvM X.prog X.w X.K C G0 H0 d0 G2 H2 d2 σ2 ρ2 U2->Same G' G2->Same Hs H2)->R J H'
def SiM (X:Cx)(C:Addr)(ρ:List Sl)(U:List (List D))(iter:Expr)(ds:List D)(U':List (List D)):Prop:=∀tg,PI X tg iter (tIM X C ρ U ds U')
theorem xg (h:Si X ρ true iter ds):SiM X C ρ U iter ds U:=fun tg pins s σ H R I ⟨G0,H0,d0,G,d,E,k⟩=>by
 obtain⟨Gb,Hb,en,st⟩:=E.full;exact h tg _ s σ H R I ⟨Gb,Hb,G,en,fun J G' H' e1 sr=>k J G' H' d (E.vs.mext E.sub' e1) (E.vs.step e1) ⟨Hb,sr,fun G2 H2 d2 σ2 ρ2 U2 E2 g=>st G2 H2 d2 _ _ U2 E2 (e1.gg.trans g)⟩⟩
theorem Aw {t:Tg}{run:List Sl->List (List D)->Option (OM×List (List D))}(hi:SiM X C ρ U iter ds U1)(ht:TgM X tg t)(hb:∀ρ' U' o' U2,run ρ' U'=some (o',U2)->SsM X C ρ' U' body o' U2)(h:forM (au t) run ds ρ U1=some (o,U2))
  (hc:X.calm=true) (hp:PassesOwn (model X.prog X.w) X.A X.env X.xe) (hf:∀x,foldedSetIterable iter X.env x=pure x):S1M X C ρ U (.For tg iter body [] pos) o U2:=by
 intro pins s σ H F I h0;obtain⟨G0,H0,d0,G,d,E,R⟩:=h0;refine uG hp hc (hi _) (GM (tg:=tg)) (BJ (body:=body)) hf pins s σ H F I ?_;refine⟨G0,H0,d0,G,d,E,fun J G1 H1 d1 m1 v1 ⟨Hs,hJ,hst⟩=>⟨fun k m σ' H'=>m=ds.length-k/\k≤ds.length/\∃ρ' U' G' d',forM (au t) run (ds.drop k) ρ' U'=some (o,U2)/\EnvM X.prog X.w X.K C G0 H0 d0 G' H' d' σ' ρ' U'/\Same G1 G',⟨ds.length,by simp,Nat.zero_le _,ρ,U1,G1,d1,h,E.go m1 v1,Same.refl _⟩,?_⟩⟩
 rintro k m σ' H' ⟨rfl,hk,ρ',U',G',d',pv,E',g1⟩
 have g0:Same G G':=m1.gg.trans g1;have hs:=hst G' H' d' σ' ρ' U' E' g1
 by_cases hlt:k<ds.length
 ·refine .inr ⟨hJ.go k H' hlt (g1.trans E'.sub) hs,fun σ2 H2=>k+1≤ds.length/\∃ρ2 U3 G2 d2,forM (au t) run (ds.drop (k+1)) ρ2 U3=some (o,U2)/\EnvM X.prog X.w X.K C G0 H0 d0 G2 H2 d2 σ2 ρ2 U3/\Same G1 G2,fun σ2 H2 ⟨h1,ρ2,U3,G2,d2,p2,en2,s2⟩=>⟨ds.length-(k+1),by grind,rfl,h1,ρ2,U3,G2,d2,p2,en2,s2⟩,fun v H2 y=>?_⟩
  have hd:ds[k]?=some ds[k]:=ge0 hlt;rw[List.drop_eq_getElem_cons hlt] at pv;generalize ds[k]=dd at hd pv;obtain⟨ρ1,b1,pv⟩:=bx0 (show (au t dd ρ').bind _=some (o,U2) from pv);obtain⟨⟨o1,U3⟩,b2,pv⟩:=bx0 pv;obtain⟨G2,e2,d2⟩:=hJ.yld k G' H' v H2 dd hd g1 E'.sub hs y;have E2:=E'.go (E'.vs.mext E'.sub' e2) (E'.vs.step e2);intro pins' s' u' I' r';refine ht dd pins' s' σ' H2 v u' _ I' r' ⟨fun σ3 ρ3=>EnvM X.prog X.w X.K C G0 H0 d0 G2 H2 d' σ3 ρ3 U',G2,ρ',ρ1,E2,fun σ3 ρ3 i e u E3 hi de=>E3.set hi de,E2.sub,d2,b1,fun σ2 en2=>?_⟩;intro pins2 s2 I2;refine hb ρ1 U' o1 U3 b2 pins2 s2 σ2 H2 _ I2 ⟨G0,H0,d0,G2,d',en2,?_⟩
  cases o1 with
  |nx ρ3=>exact fun G3 H3 d3 σ3 en3 g3=>⟨hlt,ρ3,U3,G3,d3,pv,en3,g1.trans (e2.gg.trans g3)⟩
  |rt dr=>cases pv;exact R
  |exc c ρ3=>cases pv;exact R.go (g0.trans e2.gg)
 ·have e:k=ds.length:=by grind
  subst e;rw[List.drop_length] at pv;cases pv;exact .inl ⟨hJ.stop H' (g1.trans E'.sub) hs,R G' H' d' σ' E' g0⟩
end
noncomputable def bc:List Value:=[.type "ValueError",.type "Exception",.type "BaseException",.type "object"]
set_option tactic.hygienic true in
theorem qO {K:Fg}{h:Heap}{C:Addr}{bmB:List Value}{newId:String}(X:K.In h)(q:PySem.W.excIn K C bmB newId=true):
  ∃bm N nm qn bs hdct sn sub ab col dd k0 k1 k2 k3 k5 mN,h.get? C=some (excClassObj nm qn C N bs bm hdct sn sub ab col dd k0 k1 k2 k3 k5 newId)/\h.Ns N mN/\mN "__init__"=none/\OwnTail h bmB bm:=by
 unfold PySem.W.excIn at q;split at q
 ·rename_i dd cd sl ho
  split at q
  ·rename_i C' bm k0 k1 k2 k3 n k5 hm hs
   simp only[be0,beq_iff_eq,Bool.not_eq_true'] at q;obtain⟨⟨⟨⟨⟨rfl,rfl⟩,hdel⟩,ht⟩,hok⟩,hni⟩:=q;obtain⟨nm,bs,mro,ns,qn,hd,sn,sub,ab,col,del⟩:=cd;dsimp only at hm hdel hok hni;subst hm hdel;have hsl:sl=#[k0,k1,k2,k3,some (.builtin n),k5]:=by
    obtain⟨l⟩:=sl;simp only at hs;rw[hs]
   subst hsl;exact⟨bm,ns,nm,qn,bs,hd,sn,sub,ab,col,dd,k0,k1,k2,k3,k5,_,X _ _ ho,.of_isNs (PySem.W.isNs_of_in X hok),PySem.W.nsMap_none_of_in X hok hni,PySem.W.tail_of_in X ht⟩
  ·cases q
 ·cases q
structure GT (X:Cx)(x:Str)(c:Addr):Prop where
 mg:X.mg x=some (.ref c)
 ex:∃newId initId,ExcBaseFacts "ValueError" newId initId bc/\PySem.W.excIn X.K c bc newId=true
section
variable {X:Cx}{C:Addr}{ρ:List Sl}{U U1:List (List D)}{e:Expr}{es:List Expr}{x:Str}{c:Nat}{np cpos pos:Pos}{r:R}
theorem tT (K:GT X x c)(hg:Gl X x)(hd:(x==("__debug__":Str))=false)(hc:X.calm=true)(h:EaM X C ρ U [] (e::es) (.ok ds) U1)(hl:ds.length≤1000)(hs:aB (e::es)):
  S1M X C ρ U (.Raise (some (.Call (.Name x np) (e::es) [] cpos)) none pos) (.exc c ρ) U1:=by
 intro pins s σ H F I h0;obtain⟨G0,H0,d0,G,d,E,R⟩:=h0;obtain⟨newId,initId,FB,q⟩:=K.ex;obtain⟨bm,N,nm,qn,bs,hdct,sn,sub,ab,col,dd,k0,k1,k2,k3,k5,mN,hC,hN,hni,TL⟩:=qO I.ok.mod.kin q;refine wpAny_Raise_call_subT (C:=c) (nm:=nm) (q:=qn) (N:=N) (bs:=bs) (bm:=bm) (hdct:=hdct) (sn:=sn) (sub:=sub) (ab:=ab) (col:=col) (dd:=dd) (k0:=k0) (k1:=k1) (k2:=k2) (k3:=k3) (k5:=k5)
  FB (mN:=mN) (TL.hasType FB.hasBase) (I.ok.hd hc) (aG hs) hni (dz I hg K.mg ⟨rfl,?_⟩ hd)
 have step:=h cpos pins s σ H (fun vs H1=>vs.length≤1000/\∃G1 d1,MExt G H d G1 H1 d1/\VS X.prog X.w X.K C G1 H1 d1 U1) I ⟨G0,H0,d0,G,d,E,fun vs G1 H1 d1 m1 v1 r1=>⟨by rw[←r1.length];exact hl,G1,d1,m1,v1⟩⟩;rw[(af (env:=X.env) (es:=es) (hs e ms0))] at step ⊢;refine Calls.evalArgs_plain (wpAny_mono step (fun us s1 h1=>?_) fun a a y=>y);obtain⟨vs,H1,I1,rv,hlen,G1,d1,m1,v1⟩:=h1;have kp:=I1.bk;refine⟨rfl,by rw[←rv.length];exact Nat.le_of_lt (fG hlen),kp _ _ hC,hN.keeps kp,TL.keeps kp,fun h' ea hm=>?_⟩;obtain⟨I2,fl⟩:=An I1 hm;exact R G1 H1 d1 σ (E.go m1 v1) m1.gg pins ea _ I2 fl
end
noncomputable abbrev tri (X:Cx)(E:Value->Shared->Prop)(pn:List (Addr×Obj)):Cx:={X with xe:=E,pn:=pn}
section
variable {X:Cx}{pins pins':List (Addr×Obj)}{σ:St}{H:Hp}{s:Shared}{E:Value->Shared->Prop}{ea c:Addr}
theorem Ey {pn:List (Addr×Obj)}(ok:X.Ok):(tri X E pn).Ok:=
 ⟨ok.mod,ok.kind,ok.glob,ok.blt,ok.above,ok.inj,ok.has,ok.cab,ok.hd,ok.frames,ok.stk,ok.exf,ok.bs,ok.bsz,ok.noex,ok.exfs,ok.funs,ok.frf⟩
theorem xh {pn:List (Addr×Obj)}(ok:(tri X E pn).Ok):X.Ok:=
 ⟨ok.mod,ok.kind,ok.glob,ok.blt,ok.above,ok.inj,ok.has,ok.cab,ok.hd,ok.frames,ok.stk,ok.exf,ok.bs,ok.bsz,ok.noex,ok.exfs,ok.funs,ok.frf⟩
theorem kX (I:Inv X pins σ H s):Inv (tri X E (X.pn++pins)) [] σ H s:=⟨Ey I.ok,I.os,I.bare,I.base,I.loc,I.cell,I.free,I.freeC,fun p hp=>I.pin p (by simp_all),I.hok,I.len⟩
theorem bP (I:Inv (tri X E (X.pn++pins)) pins' σ H s):Inv X pins σ H s:=⟨xh I.ok,I.os,I.bare,I.base,I.loc,I.cell,I.free,I.freeC,fun p hp=>I.pin p (List.mem_append_left _ hp),I.hok,I.len⟩
theorem xi {D:Ends}{f:Flow}{s':Shared}(h:SP (tri X E (X.pn++pins)) pins' D f s'):SP X pins D f s':=by
 cases f with
 |next=>obtain⟨σ',H',I,q⟩:=h;exact⟨_,H',bP I,q⟩
 |brk=>obtain⟨σ',H',I,q⟩:=h;exact⟨_,H',bP I,q⟩
 |cont=>obtain⟨σ',H',I,q⟩:=h;exact⟨_,H',bP I,q⟩
 |ret u=>obtain⟨v,σ',H',I,r,q⟩:=h;exact⟨v,_,H',bP I,r,q⟩
theorem xj {B h':Heap}(I:Inv X pins' σ H s)(ok:HOk X.prog X.w H B)(kb:∀b o,X.s₀.heap.get? b=some o->X.H₀ b=none->b∉X.fs->b∉X.ex->B.get? b=some o)
  (th:∀b o,X.s₀.heap.get? b=some o->b∉frs X.stack->b∉X.ex->∃o',B.get? b=some o') (pn:∀p∈X.pn,B.get? p.1=some p.2) (st:B.StaysIn h') (up:s.heap.UpToSlots h'):Inv X [] σ H {s with heap:=h'}:=by
 have cellK:∀cc v,s.heap.IsCell cc v->h'.IsCell cc v:=fun cc v ⟨o,ho,hd⟩=>by
  obtain⟨sl,q⟩:=up cc o ho fun vs z=>by rw[hd] at z;cases z
  exact⟨_,q,hd⟩
 have slot:∀b o,X.s₀.heap.get? b=some o->X.H₀ b=none->b∈X.fs->b∉X.ex->∃sl,h'.get? b=some {o with slots:=sl}:=fun b o e n hb nx=>by
  obtain⟨sl,h1⟩:=I.base.slot b o e n hb nx;obtain⟨_,o2,h2,h3⟩:=I.ok.funs.mem hb;rw[e] at h2;cases h2;obtain⟨sl',h4⟩:=up b _ h1 h3;exact⟨sl',h4⟩
 refine⟨I.ok,I.os,I.bare,⟨fun b o e n nf nx=>st b o (kb b o e n nf nx),slot,I.base.free,fun b o e nx=>?_,I.base.tups,I.base.frzs,I.base.tbls⟩,?_,fun x cc e=>?_,I.free,I.freeC,fun p hp=>?_,ok.kept st,I.len⟩
 ·by_cases hb:b∈frs X.stack
  ·rcases mq0 (I.stkSub b hb) with r|r
   ·subst r
    exact absurd (nl0 (hs0 e) I.ok.above) (li0 _)
   ·obtain⟨sl,q⟩:=slot b o e (I.ok.frf b r) r nx
    exact⟨_,q⟩
  ·obtain⟨o',q⟩:=th b o e hb nx
   exact⟨o',st b o' q⟩
 ·obtain⟨m,hn,hl⟩:=I.loc
  refine⟨m,up.ns hn,fun i x v e1 e2 e3=>?_⟩;obtain⟨u,r,l⟩:=hl i x v e1 e2 e3;refine⟨u,r,?_⟩;rcases l with l|⟨k,cc,e,z⟩
  ·exact .inl l
  ·exact .inr ⟨k,cc,e,cellK cc _ z⟩
 ·obtain⟨v,z⟩:=I.cell x cc e
  exact⟨v,cellK cc v z⟩
 ·have hp:p∈X.pn:=by simpa using hp
  obtain⟨_,b,d,e,f⟩:=I.pin p (List.mem_append_left _ hp);exact⟨st _ _ (pn p hp),b,d,e,f⟩
theorem tU {o:Obj}(I:Inv X pins σ H s)(hn:H ea=none)(ho:s.heap.get? ea=some o)(hcl:o.cls=.ref c)(h0:X.s₀.heap.get? ea=none)(hL:ea≠X.env.locals)(hc:∀x cc,X.env.cells.lookup x=some cc->cc≠ea)(hp:∀p∈X.pn++pins,p.1≠ea):
  Inv X pins σ (upd H ea (.ext (ExcAt ea c))) s:=by
 have ne:∀b u,H b=some u->b≠ea:=fun b u e=>aq e hn
 refine⟨I.ok,I.os,I.bare,⟨I.base.keep,I.base.slot,fun b u e n nx=>?_,I.base.there,fun b xs e=>?_,fun b u xs e=>?_,fun b ps e=>?_⟩,I.loc,I.cell,?_,fun x cc e=>?_,fun p q=>?_,fun b u e=>?_,I.len⟩
 ·rw[aa fun z=>by subst z;rw[h0] at e;cases e];exact I.base.free b u e n nx
 ·rw[aa (ne _ _ (I.base.tups b xs e))];exact I.base.tups b xs e
 ·rw[aa (ne _ _ (I.base.frzs b u xs e))];exact I.base.frzs b u xs e
 ·obtain⟨more,q⟩:=I.base.tbls b ps e
  exact⟨more,by rw[aa (ne _ _ q)];exact q⟩
 ·rw[aa (Ne.symm hL)];exact I.free
 ·rw[aa (hc x cc e)];exact I.freeC x cc e
 ·obtain⟨a,b,r⟩:=I.pin p q
  exact⟨a,by rw[aa (hp p q)];exact b,r⟩
 ·by_cases z:b=ea
  ·subst z
   rw[ae] at e;cases e;exact⟨⟨o,ho,hcl⟩,⟨o,ho⟩,by rintro h1 h2 ⟨o1,a1,b1⟩ k;exact⟨o1,k o1 a1,b1⟩⟩
  ·rw[aa z] at e
   exact (I.hok b u e).stay (fun d d d q=>q) (fun cc q=>by rw[aa (ne _ _ q)];exact q) fun cc xs q=>by rw[aa (ne _ _ q)];exact q
theorem xl {h':Heap}{m:Str->Option Value}{n:Str}{v:Option Value}{j t':Nat}(I:Inv X pins σ H s)(hN:X.N.Nodup)(hj:X.N[j]?=some n)(hm:∀(i:Nat) (x:Str) (v:V),X.N[i]?=some x->σ[i]?=some (some v)->Vis X.env.scope x->∃u,RelV v u/\Look X.env s.heap m x u)
  (hn:h'.Ns X.env.locals (fun x=>if x=n then v else m x)) (sb:Heap.SameBut X.env.locals s.heap h'):Inv X pins (σ.set j Option.none) H {s with heap:=h',toks:=t'}:=by
 have k:∀b o,b≠X.env.locals->s.heap.get? b=some o->h'.get? b=some o:=fun b o hb e=>(sb.2 b hb).trans e
 have nL:∀b o,X.s₀.heap.get? b=some o->b≠X.env.locals:=fun b o e=>nn0 (nl0 (hs0 e) I.ok.above)
 have cellK:∀x cc,X.env.cells.lookup x=some cc->∀v,s.heap.IsCell cc v->h'.IsCell cc v:=fun x cc e v ⟨o,ho,hd⟩=>⟨o,k cc o (I.cne x cc e) ho,hd⟩
 refine⟨I.ok,I.os,I.bare,⟨fun b o e n nf nx=>k b o (nL b o e) (I.base.keep b o e n nf nx),fun b o e n hb nx=>?_,I.base.free,fun b o e nx=>?_,I.base.tups,I.base.frzs,I.base.tbls⟩,⟨_,hn,fun i x w e1 e2 e3=>?_⟩,fun x cc e=>?_,I.free,I.freeC,fun p hp=>?_,fun b u e=>?_,by simp[I.len]⟩
 ·obtain⟨sl,q⟩:=I.base.slot b o e n hb nx
  exact⟨sl,k b _ (nL b o e) q⟩
 ·obtain⟨o',q⟩:=I.base.there b o e nx
  exact⟨o',k b o' (nL b o e) q⟩
 ·rcases getE_set e2 with⟨rfl,z⟩|⟨ne,z⟩
  ·cases z
  ·obtain⟨u,r,l⟩:=hm i x w e1 z e3
   refine⟨u,r,?_⟩;rcases l with⟨l1,l2⟩|⟨l1,cc,e,q⟩
   ·have xn:x≠n:=fun z=>ne (hW hN (z▸e1) hj)
    exact .inl ⟨l1,by simp_all⟩
   ·exact .inr ⟨l1,cc,e,cellK x cc e _ q⟩
 ·obtain⟨v,z⟩:=I.cell x cc e
  exact⟨v,cellK x cc e v z⟩
 ·obtain⟨a,b,d,f⟩:=I.pin p hp
  exact⟨k _ _ d a,b,d,f⟩
 ·have nb:b≠X.env.locals:=fun z=>by subst z;rw[I.free] at e;cases e
  exact (I.hok b u e).stay (fun cc w hc q=>k cc w (by
   rcases hc with rfl|hc
   ·exact nb
   ·intro z;subst z;rw[I.free] at hc;cases hc) q) (fun c q=>q) fun c c q=>q
theorem mM {P:Program}{w:World}{H:Hp}{h:Heap}{a:Addr}{o:HO}(x:ObjOk P w H h a o):∃ob,h.get? a=some ob:=by
 induction o with
 |lst xs=>obtain⟨_,_,n,_,e⟩:=x;exact⟨_,e⟩
 |tup xs=>obtain⟨_,_,_,ob,e,_⟩:=x;exact⟨_,e⟩
 |dK kvs=>obtain⟨_,_,_,_,ob,es,ep,e,_⟩:=x;exact⟨_,e⟩
 |dT kvs=>obtain⟨_,_,_,_,ob,es,ep,e,_⟩:=x;exact⟨_,e⟩
 |set S n=>obtain⟨ob,es,ep,t,e,_⟩:=x;exact⟨_,e⟩
 |ins C dx fs=>obtain⟨_,_,_,e,_⟩:=x;exact⟨_,e⟩
 |own y=>exact x
 |xd fs=>obtain⟨mA,⟨od,es,ep,e,c⟩,r⟩:=x;exact⟨_,e⟩
 |rng lo hi=>obtain⟨t,u,v,e⟩:=x;exact⟨_,e⟩
 |frz ob u ih=>exact ih x.2
 |tbl ps=>exact⟨_,x⟩
 |met f y=>exact⟨_,x⟩
 |ext φ=>exact x.2.1
end
structure Ax (X:Cx):Prop where
 stk:X.stack=X.env::X.outer
 fr:X.env.frame=some X.env.locals
 ex:X.ex=[]
section
variable {M:Model}{A:Around}{E:Value->Shared->Prop}
variable {nm q nmT qT:Str}{C N T NT:Addr}{bs bm bsT bmT:List Value}{hdct hdctT:Bool}{sn snT:List Str}{sub subT:List Value}{ab abT:Bool}{col colT:Option Bool}{dd ddT:Option Addr}{k0 k1 k2 k3 k5 l0 l1 l2 l3 l5:Option Value}{newId newIdT:String}
theorem iG {h:Heap}{g:Array GenState}{d:Drawn}{t:Nat}{os:OsState}{e:Addr}{oe:Obj}{Q:Bool->Shared->Prop}
  (hC:h.get? C=some (excClassObj nm q C N bs bm hdct sn sub ab col dd k0 k1 k2 k3 k5 newId)) (hT:h.get? T=some (excClassObj nmT qT T NT bsT bmT hdctT snT subT abT colT ddT l0 l1 l2 l3 l5 newIdT)) (he:h.get? e=some oe) (hcls:oe.cls=.ref C) (hbase:bmT.contains (.type "BaseException")=true)
  (hq:Q ((Value.ref C::bm).contains (.ref T)) ⟨h,g,d,t,os⟩):wpAny M A (excMatches (.ref e) (.ref T)) Q E ⟨h,g,d,t,os⟩:=by
 have hcB:(Value.ref T::bmT).contains (.type "BaseException")=true:=by rw[List.contains_cons,hbase,Bool.or_true]
 have f:=tc_notTuple;unfold excMatches
 repeat (first|(with_reducible refine wpAny_loadPart_at he ?_;rw[hcls])|with_reducible refine wpAny_loadPart_at hT ?_|with_reducible refine wpAny_loadPart_at hC ?_|(with_reducible refine wpAny_isSubtype_exc hT ?_;rw[hcB])|(with_reducible refine wpAny_isSubtype_exc hC ?_)|wp_step)
 cases hb:(Value.ref C::bm).contains (.ref T)<;>(rw[hb] at hq;wp_walk;exact hq)
end
def Lnd (X:Cx)(pins:List (Addr×Obj))(σ:St)(H:Hp)(ea c:Addr)(s:Shared):Prop:=
 Inv X pins σ H s/\∃B a0,HOk X.prog X.w H B/\(∀b o,X.s₀.heap.get? b=some o->X.H₀ b=none->b∉X.fs->b∉X.ex->B.get? b=some o)/\(∀b o,X.s₀.heap.get? b=some o->b∉frs X.stack->b∉X.ex->∃o',B.get? b=some o')/\
  (∀p∈X.pn++pins,B.get? p.1=some p.2)/\Heap.FlyingW B X.stack ea (.ref c) a0 s.heap
section
variable {X:Cx}{pins pins':List (Addr×Obj)}{σ:St}{H:Hp}{s:Shared}{E E':Value->Shared->Prop}{ea c:Addr}
theorem pq {B:Heap}{a0:Value}{h':Heap}(I:Inv X pins σ H s)(ok:HOk X.prog X.w H B)(kb:∀b o,X.s₀.heap.get? b=some o->X.H₀ b=none->b∉X.fs->b∉X.ex->B.get? b=some o)
  (th:∀b o,X.s₀.heap.get? b=some o->b∉frs X.stack->b∉X.ex->∃o',B.get? b=some o') (pn:∀p∈X.pn++pins,B.get? p.1=some p.2) (fl:Heap.FlyingW B X.stack ea (.ref c) a0 h') (up:s.heap.UpToSlots h'):Lnd X pins σ H ea c {s with heap:=h'}:=
 ⟨bP (E:=fun a a=>False) (xj (kX I) ok kb th pn fl.1 up),B,a0,ok,kb,th,pn,fl⟩
theorem lands (f:Ax X)(I:Inv (tri X E' (X.pn++pins)) pins' σ H s)(fl:Fl (tri X E' (X.pn++pins)) ea c H s){Q:Shared->Prop}(k:∀h',Lnd X pins σ H ea c {s with heap:=h'}->Q {s with heap:=h'}):
  wpAny (model X.prog X.w) X.A (noteFrame (.ref ea) X.env) (fun a s₂=>wpAny (model X.prog X.w) X.A (setFlight (.ref ea) none) (fun a s₃=>Q s₃) E s₂) E s:=by
 obtain⟨B,ok,kb,th,pn,r⟩:=fl;have hfr:X.A.frames=some (X.env::X.outer):=by rw[←f.stk];exact I.ok.frames
 have I0:=bP I;rcases r with⟨vs,m,ff⟩|⟨a0,fl⟩
 ·have hin:∀env∈X.stack,∀b,env.frame=some b->b∈frs X.stack:=fun env he b hb=>List.mem_filterMap.mpr ⟨env,he,hb⟩
  let B':=PySem.W.hideAll B (frs X.stack)
  have nfr:∀b,b∈frs X.stack->H b=none:=I0.stkFree;have ok':HOk X.prog X.w H B':=fun b o e=>by
   have nf:∀cc u,H cc=some u->cc∉frs X.stack:=fun cc u e z=>by rw[nfr cc z] at e;cases e
   refine (ok b o e).stay (fun cc u hc q=>PySem.W.hideAll_get _ q ?_) (fun a q=>q) fun a a q=>q
   rcases hc with rfl|hc
   ·exact nf _ _ e
   ·exact nf _ _ hc
  have nst:∀b o,X.s₀.heap.get? b=some o->b∉X.fs->b∉frs X.stack:=fun b o e nf z=>by
   rcases mq0 (I0.stkSub b z) with r|r
   ·subst r
    exact absurd (nl0 (hs0 e) I0.ok.above) (li0 _)
   ·exact nf r
  have kb':∀b o,X.s₀.heap.get? b=some o->X.H₀ b=none->b∉X.fs->b∉X.ex->B'.get? b=some o:=fun b o e n nf nx=>PySem.W.hideAll_get _ (kb b o e n nf nx) (nst b o e nf)
  have th':∀b o,X.s₀.heap.get? b=some o->b∉frs X.stack->b∉X.ex->∃o',B'.get? b=some o':=fun b o e nf nx=>let ⟨o',q⟩:=th b o e nf nx;⟨o',PySem.W.hideAll_get _ q nf⟩
  have pn':∀p∈X.pn++pins,B'.get? p.1=some p.2:=fun p hp=>PySem.W.hideAll_get _ (pn p hp) fun z=>by
   obtain⟨_,_,d,e,_⟩:=I0.pin p hp;rcases mq0 (I0.stkSub p.1 z) with r|r
   ·exact d r
   ·exact e r
  obtain⟨t,he,htn,ht⟩:=m.there;have ff':s.heap.FunFrames B' X.stack:=(PySem.W.funFrames_hide ff hin).of_keeps fun b o hb a=>⟨o,m.keeps b o hb,rfl⟩
  have hen:B'.get? ea=none:=by
   cases q:B'.get? ea with
   |none=>rfl
   |some o=>have:=PySem.W.of_hideAll _ q;rw[m.new] at this;cases this
  rw[f.stk] at ff';unfold noteFrame;simp only[f.fr];refine wpAny_bind (wpAny_field he rfl (x:=.none) rfl ?_);rw[if_neg (by decide)];refine wpAny_entryW (a0:=.ref t) hfr ff' f.fr he (fun b o q=>m.keeps b o (PySem.W.of_hideAll _ q)) hen rfl (by show 1<6;decide) rfl fun h4 hN=>?_
  obtain⟨n1,n2,n3,n4⟩:=hN;refine wpAny_landsW (base:=B') (l:=X.env::X.outer) (a0:=.ref t) (cls:=.ref c) (L:=X.env.locals) ⟨n1,hen,n2,n3⟩ fun h5 fl5 up5=>?_
  exact k h5 (pq I0 ok' kb' th' pn' (by rw[f.stk];exact fl5) (Heap.UpToSlots.trans n4 up5))
 ·have fl:Heap.FlyingW B (X.env::X.outer) ea (.ref c) a0 s.heap:=by rw[←f.stk];exact fl
  refine wpAny_looks_onW hfr f.fr fl fun h4 held up4=>?_
  refine wpAny_landsW held fun h5 fl5 up5=>?_
  exact k h5 (pq I0 ok kb th pn (by rw[f.stk];exact fl5) (up4.trans up5))
theorem tV {M:Model}{A:Around}{Q:Shared->Prop}(L:Lnd X pins σ H ea c s)(k:∀h',Lnd X pins σ H ea c {s with heap:=h'}->Q {s with heap:=h'}):wpAny M A (setFlight (.ref ea) none) (fun a s'=>Q s') E s:=by
 obtain⟨I,B,a0,ok,kb,th,pn,fl⟩:=L;exact lands_againW fl fun h' fl' up=>k h' (pq I ok kb th pn fl' up)
theorem tW (f:Ax X)(L:Lnd X pins σ H ea c s):Inv X pins σ (upd H ea (.ext (ExcAt ea c))) s/\H ea=none:=by
 obtain⟨I,B,a0,ok,kb,th,pn,fl⟩:=L;obtain⟨oe,vs,ho,hcl,hd,_⟩:=fl.first;have hn:H ea=none:=by
  cases q:H ea with
  |none=>rfl
  |some o=>obtain⟨ob,e⟩:=mM (ok ea o q);rw[fl.2.1] at e;cases e
 have nfr:ea∉frs X.stack:=fun z=>by
  obtain⟨_,o,h1,h2⟩:=fl.2.2.1.mem z<;>simp_all
 refine⟨tU I hn ho hcl ?_ (fun z=>?_) (fun x cc e z=>?_) fun p hp z=>?_,hn⟩
 ·cases q:X.s₀.heap.get? ea with
  |none=>rfl
  |some o=>obtain⟨o',e⟩:=th ea o q nfr (by rw[f.ex];simp);rw[fl.2.1] at e;cases e
 ·refine nfr ?_
  rw[z,f.stk];exact List.mem_filterMap.mpr ⟨X.env,ms0,f.fr⟩
 ·obtain⟨v,o,h1,h2⟩:=I.cell x cc e<;>grind
 ·have:=pn p hp
  rw[z,fl.2.1] at this;cases this
end
theorem EnvD.unset {K:Fg}{G0 H0 G H:Hp}{σ:St}{ρ:List Sl}(E:EnvD K G0 H0 G H σ ρ)(j:Nat):EnvD K G0 H0 G H (σ.set j Option.none) (ρ.set j .no):=by
 have at':∀{i:Nat} {sl:Sl},(ρ.set j .no)[i]?=some sl->sl≠.no->i≠j/\ρ[i]?=some sl:=fun {i sl} h hn=>by
  rcases getE_set h with⟨rfl,z⟩|⟨ne,z⟩
  ·exact absurd z hn
  ·exact⟨ne,z⟩
 have sg:∀{i:Nat},i≠j->(σ.set j Option.none)[i]?=σ[i]?:=fun {i} ne=>gn0 (Ne.symm ne)
 refine⟨E.ext,by simp[E.len],fun i d h=>?_,fun i d h=>?_,fun i d h=>?_,fun i k d e p h1 h2 h3 h4=>?_,fun i rows h=>?_⟩
 ·obtain⟨ne,z⟩:=at' h (by simp)
  rw[sg ne];exact E.dat i d z
 ·obtain⟨ne,z⟩:=at' h (by intro q;cases q)
  rw[sg ne];exact E.lent i d z
 ·obtain⟨ne,z⟩:=at' h (by intro q;cases q)
  rw[sg ne];exact E.own i d z
 ·obtain⟨n1,z1⟩:=at' h1 (by intro q;cases q)
  obtain⟨n2,z2⟩:=at' h2 (by intro q;cases q);rw[sg n1] at h3;rw[sg n2] at h4;exact E.apart i k d e p z1 z2 h3 h4
 ·obtain⟨ne,z⟩:=at' h (by intro q;cases q)
  obtain⟨a,b,cc⟩:=E.deep i rows z;rw[sg ne];exact⟨a,fun k d q=>b k d (at' q (by intro q;cases q)).2,fun k r q=>cc k r (at' q (by intro q;cases q)).2⟩
theorem EnvM.unset {P:Program}{w:World}{K:Fg}{C:Addr}{G0 H0 G H:Hp}{d0 d:Vd}{σ:St}{ρ:List Sl}{U:List (List D)}(E:EnvM P w K C G0 H0 d0 G H d σ ρ U)(j:Nat):EnvM P w K C G0 H0 d0 G H d (σ.set j Option.none) (ρ.set j .no) U:=by
 obtain⟨Gb,Hb,s1,s2,en⟩:=E.bas;exact⟨⟨Gb,Hb,s1,s2,en.unset j⟩,E.nw,E.pre,E.vs⟩
abbrev mrk (X:Cx)(ea:Addr):Cx:={X with A:=X.A.mark (some (.ref ea)),calm:=false,xe:=fun a a=>False}
theorem qP {X:Cx}{pins:List (Addr×Obj)}{σ:St}{H:Hp}{s:Shared}{ea:Addr}(I:Inv X pins σ H s):Inv (mrk X ea) pins σ H s:=
 ⟨⟨I.ok.mod,I.ok.kind,I.ok.glob,I.ok.blt,I.ok.above,I.ok.inj,I.ok.has,I.ok.cab,(fun z=>nomatch z),I.ok.frames,I.ok.stk,I.ok.exf,I.ok.bs,I.ok.bsz,I.ok.noex,I.ok.exfs,I.ok.funs,I.ok.frf⟩,I.os,I.bare,I.base,I.loc,I.cell,I.free,I.freeC,I.pin,I.hok,I.len⟩
theorem tX {X:Cx}{pins:List (Addr×Obj)}{σ:St}{H:Hp}{s:Shared}{ea:Addr}(ok:X.Ok)(I:Inv (mrk X ea) pins σ H s):Inv X pins σ H s:=
 ⟨ok,I.os,I.bare,I.base,I.loc,I.cell,I.free,I.freeC,I.pin,I.hok,I.len⟩
def dk (K:Fg)(c t:Addr):Bool:=match K.lookup c with
 |some ⟨_,_,.cls cd,_⟩=>cd.mro.contains (.ref t)
 |_=>false
set_option tactic.hygienic true in
theorem xm {K:Fg}{h:Heap}{c t:Addr}{bmB:List Value}{newId:String}{b:Bool}(X:K.In h)(q:PySem.W.excIn K c bmB newId=true)(hb:dk K c t=b):
  ∃bm N nm qn bs hdct sn sub ab col dd k0 k1 k2 k3 k5,h.get? c=some (excClassObj nm qn c N bs bm hdct sn sub ab col dd k0 k1 k2 k3 k5 newId)/\(Value.ref c::bm).contains (.ref t)=b:=by
 unfold PySem.W.excIn at q;split at q
 ·rename_i dd cd sl ho
  split at q
  ·rename_i C' bm k0 k1 k2 k3 n k5 hm hs
   simp only[be0,beq_iff_eq,Bool.not_eq_true'] at q;obtain⟨⟨⟨⟨⟨rfl,rfl⟩,hdel⟩,ht⟩,hok⟩,hni⟩:=q;obtain⟨nm,bs,mro,ns,qn,hd,sn,sub,ab,col,del⟩:=cd;dsimp only at hm hdel hok hni;subst hm hdel;have hsl:sl=#[k0,k1,k2,k3,some (.builtin n),k5]:=by
    obtain⟨l⟩:=sl;simp only at hs;rw[hs]
   subst hsl;refine⟨bm,ns,nm,qn,bs,hd,sn,sub,ab,col,dd,k0,k1,k2,k3,k5,X _ _ ho,?_⟩;unfold dk at hb;rw[ho] at hb;exact hb
  ·cases q
 ·cases q
section
variable {X:Cx}{C:Addr}{ρ ρ1:List Sl}{U U1:List (List D)}{body:List Stmt}{x n k:Str}{c t j i:Nat}{tp kp np ap hp pos:Pos}
theorem mO {hs:ExceptHandler}{rs:List ExceptHandler}{o:OM}(hb:∀E pn,PassesOwn (model X.prog X.w) X.A X.env E->SsM (tri X E pn) C ρ U body o U1)(ho:∀c ρ',o≠.exc c ρ'):S1M X C ρ U (.Try body (hs::rs) [] [] pos) o U1:=by
 intro pins s σ H F I h0;obtain⟨G0,H0,d0,G,d,E,R⟩:=h0;refine wpAny_Try_except ?_;refine wpAny_mono (hb _ _ PassesOwn.looking [] s σ H F (kX I) ⟨G0,H0,d0,G,d,E,?_⟩) (fun f s1 h1=>?_) fun e s1 h1=>h1
 ·cases o with
  |nx ρ'=>exact R
  |rt dd=>exact R
  |exc c ρ'=>exact absurd rfl (ho c _)
 ·have h2:=xi h1
  cases f with
  |next=>exact wpAny_execs_nil h2
  |brk=>exact h2
  |cont=>exact h2
  |ret u=>exact h2
theorem xo (f:Ax X)(hb:∀E pn,PassesOwn (model X.prog X.w) X.A X.env E->SsM (tri X E pn) C ρ U body (.exc c ρ1) U1)
  (hg:Gl X x) (hd:(x==("__debug__":Str))=false) (hm:X.mg x=some (.ref t)) {newId newIdT:String} {bmB:List Value} (hq:PySem.W.excIn X.K c bmB newId=true) (hqT:PySem.W.excIn X.K t bmB newIdT=true) (hbB:bmB.contains (.type "BaseException")=true) (hbel:dk X.K c t=true)
  (Sn:Sto X n j) (hln:X.env.kindOf n=some .local) (hdn:(n==("__debug__":Str))=false) (hcn:(n==("__classdict__":Str))=false) (Sk:Sto X k i) (hij:i≠j) (hsw:swapsWith (.Name n np) (some (.Name k kp)) ap.line X.env=pure false):
  S1M X C ρ U (.Try body [.ExceptHandler (some (.Name x tp)) (some n) [.Assign [.Name k kp] (.Name n np) ap] hp] [] [] pos) (.nx ((ρ1.set i (.dat (.exc c))).set j .no)) U1:=by
 intro pins s σ H F I h0;obtain⟨G0,H0,d0,G,d,E,R⟩:=h0;refine wpAny_Try_except ?_;refine wpAny_mono (hb _ (X.pn++pins) PassesOwn.looking [] s σ H {F with nx:=fun a a=>False,rt:=fun a a=>False,bk:=fun a a=>False,ct:=fun a a=>False} (kX I) ⟨G0,H0,d0,G,d,E,?_⟩) (fun f s1 h1=>?_) fun e s1 h1=>h1
 ·intro G1 H1 d1 σ1 E1 g1 pins' ea s1 I1 fl
  refine lands f I1 fl fun h5 L5=>?_
  refine wpAny_handleBy_cons (codeAny_handlers_test (dz (X:=mrk X ea) (qP L5.1) hg hm ?_ hd)) (by intro q;cases q);have kin:X.K.In h5:=L5.1.kIn;obtain⟨bm,N,nm,qn,bs,hdct,sn,sub,ab,col,dd,k0,k1,k2,k3,k5,hC,hcon⟩:=xm kin hq hbel;obtain⟨bmT,NT,nmT,qT,bsT,hdT,snT,subT,abT,colT,ddT,l0,l1,l2,l3,l5,mT,hT,_,_,TLT⟩:=qO kin hqT;have L5':=L5;obtain⟨_,B,a0,_,_,_,_,fl5⟩:=L5';obtain⟨ob,hob,hobc⟩:=fl5.there;refine iG (T:=t) hC hT hob hobc (TLT.hasType hbB) ?_;rw[hcon];refine codeAny_handlers_suite_as ?_;refine tV L5 fun h6 L6=>?_
  obtain⟨I6,hn6⟩:=tW f L6;have e6:Ext G1 H1 (upd G1 ea (.ext (ExcAt ea c))) (upd H1 ea (.ext (ExcAt ea c))):=.laid E1.sub hn6;have E6:=E1.go (E1.vs.mext E1.sub' e6) (E1.vs.step e6);have lj:j<σ1.length:=Sn.lt I6;have li:i<σ1.length:=Sk.lt I6;refine hZ I6 Sn.nd Sn.nm.at' Sn.nm.loc (v:=.ref ea) rfl (fun s7 I7=>?_) Sn.nm.fn;have I7':Inv (mrk X ea) pins (σ1.set j (some (.ref ea))) (upd H1 ea (.ext (ExcAt ea c))) s7:=qP I7;have asg:=ia (X:=mrk X ea) (i:=i) (x:=k) (pos:=ap) (pos':=kp) Sk.nd Sk.nm.at' Sk.nm.loc (cq (X:=mrk X ea) (i:=j) (x:=n) (pos:=np) Sn.nm.at' (Or.inl hln) hdn hcn) hsw Sk.nm.fn pins s7 _ _ {nx:=fun σ8 H8=>σ8=(σ1.set j (some (.ref ea))).set i (some (.ref ea))/\H8=upd H1 ea (.ext (ExcAt ea c)),rt:=fun a a=>False} I7' ⟨.ref ea,gs0 lj,rfl,rfl⟩
  refine wpAny_execs_cons (wpAny_mono asg (fun f s8 h8=>?_) fun e s8 h8=>h8.elim);cases f with
  |next=>
   obtain⟨σ8,H8,I8,rfl,rfl⟩:=h8;refine wpAny_execs_nil ?_;have I8:=tX I.ok I8;obtain⟨m,hn,hl⟩:=I8.loc;refine wpAny_nameGoes_keeps hln hn (by rw[I.ok.kind];rfl) fun h9 v hn9 sb9=>?_
   have I9:=xl (t':=s8.toks+1) I8 Sn.nd Sn.nm.at' hl hn9 sb9;refine⟨_,_,I9,R _ _ d1 _ ?_ (g1.trans e6.gg)⟩;have E9:=(E6.set li (.exc ae:Dp X.K _ (.exc c) (.ref ea))).unset j;have e:((σ1.set j (some (.ref ea))).set i (some (.ref ea))).set j Option.none=(σ1.set i (some (.ref ea))).set j Option.none:=by
    rw[List.set_comm _ _ hij.symm,List.set_set]
   rw[e];exact E9
  |brk=>obtain⟨_,_,_,z⟩:=h8;exact z.elim
  |cont=>obtain⟨_,_,_,z⟩:=h8;exact z.elim
  |ret u=>obtain⟨_,_,_,_,_,z⟩:=h8;exact z.elim
 ·cases f with
  |next=>obtain⟨_,_,_,z⟩:=h1;exact z.elim
  |brk=>obtain⟨_,_,_,z⟩:=h1;exact z.elim
  |cont=>obtain⟨_,_,_,z⟩:=h1;exact z.elim
  |ret u=>obtain⟨_,_,_,_,_,z⟩:=h1;exact z.elim
end
section
variable {P:Program}{w:World}{K:Fg}{C:Addr}{G0 H0 G H G' H':Hp}{d0 d:Vd}{σ:St}{ρ:List Sl}{U:List (List D)}
end
section
variable {X:Cx}{C:Addr}{ρ ρ1:List Sl}{U U1 U2 U':List (List D)}{st:Stmt}{rest body:List Stmt}{o:OM}{a b e tg iter:Expr}{es:List Expr}{p p1 pos apos cpos:Pos}{d:D}{ds:List D}{x y:Str}{i j c k:Nat}{t:Bool}{r:R}{rs:Rs}
theorem GU (ha:EvM X C ρ U a (.exc c) U1):EvM X C ρ U (.BoolOp .And [a,b] pos) (.exc c) U1:=fun pins s σ H Q I ⟨G0,H0,d0,G,dd,E,k⟩=>
 nR (tb:=fun d d d=>False) ha (fun d d d d d d z=>z.elim) _ s σ H Q I ⟨G0,H0,d0,G,dd,E,k⟩
theorem xp (B:Blt X "list")(h:EvM X C ρ U e (.ok d) U1)(hd:d=.list ds\/d=.tuple ds)(hs:isStar e=false):EvM X C ρ U (.Call (.Name "list" p) [e] [] pos) (.ok (.list ds)) U1:=by
 intro pins s σ H Q I h0;obtain⟨G0,H0,d0,G,dd,E,k⟩:=h0;refine aX bI B.g B.m PyProof.Rows.boot_list (aA h aU (af hs)) B.n B.d (af hs) rfl _ s σ H Q I ⟨G0,H0,d0,G,dd,E,fun v G1 H1 d1 m1 v1 r1=>?_⟩;have fin:∀{ws:List V},Dps _ G1 ds ws->∀l,H1 l=none->Q _ _:=fun {ws} r l hl=>by
  have e:Ext G1 H1 _ (upd H1 l (.lst ws)):=.laid (m1.gh.trans aD) hl;exact k _ _ _ d1 (m1.trans (v1.mext m1.gh e)) (v1.step e) (.list ae (r.mono e.gg))
 rcases hd with rfl|rfl
 ·cases r1 with
  |list hq r=>exact⟨_,_,rfl,.inl (SqL.of ((m1.gh.trans aD) _ _ hq)),fin r⟩
 ·cases r1 with
  |tuple hq r=>exact⟨_,_,rfl,.inr (SqT.of ((m1.gh.trans aD) _ _ hq)),fin r⟩
theorem tY (B:Blt X "list")(h:EvM X C ρ U e (.exc c) U1)(hs:isStar e=false):EvM X C ρ U (.Call (.Name "list" p) [e] [] pos) (.exc c) U1:=by
 intro pins s σ H Q I h0;obtain⟨G0,H0,d0,G,dd,E,k⟩:=h0;exact aX bI B.g B.m PyProof.Rows.boot_list (aA h aU (af hs)) B.n B.d (af hs) rfl _ s σ H Q I ⟨G0,H0,d0,G,dd,E,k⟩
theorem Ay {j:Nat}(ha:EvM X C ρ U a (.ok (.tuple (d::ds))) U1):EvM X C ρ U (.Subscript a (.Constant (.int 0) j p) pos) (.ok d) U1:=fun pins s σ H Q I ⟨G0,H0,d0,G,dd,E,k⟩=>
 qg om ha ko (fun b b=>rfl) pins s σ H Q I ⟨G0,H0,d0,G,dd,E,fun v G1 H1 d1 m1 v1 r1=>by
  cases r1 with
  |tuple hq r=>cases r with
   |cons q1 q2=>exact⟨_,_,0,_,rfl,rfl,SqT.of ((m1.gh.trans aD) _ _ hq),by unfold L2.atI L2.ixN;simp,k _ G1 H1 d1 m1 v1 q1⟩⟩
theorem xq {j:Nat}(ha:EvM X C ρ U a (.exc c) U1):EvM X C ρ U (.Subscript a (.Constant (.int 0) j p) pos) (.exc c) U1:=fun pins s σ H Q I ⟨G0,H0,d0,G,dd,E,k⟩=>
 qg om ha ko (fun b b=>rfl) pins s σ H Q I ⟨G0,H0,d0,G,dd,E,k⟩
theorem Ez {j:Nat}(ha:EvM X C ρ U a (.ok (.str x)) U1):EtM X C ρ U (.Compare a [.Eq] [.Constant (.str y) j p] pos) (.ok (decide (x=y))) U1:=fun pins s σ H Q I ⟨G0,H0,d0,G,dd,E,k⟩=>
 gK uI ha nQ (uJ _) pins s σ H Q I ⟨G0,H0,d0,G,dd,E,fun v G1 H1 d1 m1 v1 r1=>by
  cases r1;exact⟨rfl,_,rfl,by rw[show decide (V.str x=V.str y)=decide (x=y) by simp];exact k G1 H1 d1 m1 v1⟩⟩
theorem etM_eqB {j:Nat}{b:Bool}(hb:decide (x=y)=b)(ha:EvM X C ρ U a (.ok (.str x)) U1):EtM X C ρ U (.Compare a [.Eq] [.Constant (.str y) j p] pos) (.ok b) U1:=hb▸Ez ha
theorem Az {j:Nat}(ha:EvM X C ρ U a (.exc c) U1):EtM X C ρ U (.Compare a [.Eq] [.Constant (.str y) j p] pos) (.exc c) U1:=fun pins s σ H Q I ⟨G0,H0,d0,G,dd,E,k⟩=>
 gK uI ha nQ (uJ _) pins s σ H Q I ⟨G0,H0,d0,G,dd,E,k⟩
noncomputable def bx:Sl->Bool
 |.lent (.scr _)=>true
 |.lent _=>false
 |_=>true
def xr:Option HO->Bool
 |some (.own _)=>true
 |_=>false
theorem s1M_pureS (h:E1 X ρ st (.nx ρ1))(hl:∀sl∈ρ1,bx sl=true):S1M X C ρ U st (.nx ρ1) U:=by
 intro pins s σ H F I h0;obtain⟨G0,H0,d0,G,dd,E,R⟩:=h0;obtain⟨Gb,Hb,s1,s2,e⟩:=E.bas
 let sp:Addr->Prop:=fun b=>b∈parts dd\/xr (H b)=true
 have spH:∀b,sp b->∃o,H b=some o:=fun b z=>by
  rcases z with z|z
  ·exact E.vs.part z
  ·cases q:H b with
   |none=>rw[q] at z;cases z
   |some o=>exact⟨o,rfl⟩
 have spG:∀b,sp b->∀C' dx fs,H b≠some (.ins C' dx fs):=fun b z C' dx fs q=>by
  rcases z with z|z
  ·exact E.vs.notPart q z
  ·rw[q] at z;cases z
 open Classical in
 let Hp':Hp:=fun b=>if sp b then H b else Hb b
 open Classical in
 let Gp':Hp:=fun b=>if sp b then G b else Gb b
 have hI:∀b,sp b->Hp' b=H b:=fun b z=>if_pos z
 have hO:∀b,¬ sp b->Hp' b=Hb b:=fun b z=>if_neg z
 have gI:∀b,sp b->Gp' b=G b:=fun b z=>if_pos z
 have gO:∀b,¬ sp b->Gp' b=Gb b:=fun b z=>if_neg z
 have sub:Same G H:=E.sub;have hbH:Same Hb H:=fun b o z=>aD b o (e.ext.hh b o z)
 have hbHp:Same Hb Hp':=fun b o z=>by
  by_cases q:sp b
  ·rw[hI b q];exact hbH b o z
  ·rw[hO b q];exact z
 have gbGp:Same Gb Gp':=fun b o z=>by
  by_cases q:sp b
  ·rw[gI b q];exact e.ext.gg b o z
  ·rw[gO b q];exact z
 have E0:EnvD X.K Gp' Hp' G H σ ρ:=by
  refine⟨⟨fun b o z=>?_,fun b o z=>?_,sub,fun b o z1 z2=>?_,fun b C' dx fs z=>?_⟩,e.len,e.dat,fun i d z=>?_,fun i d z=>?_,e.apart,fun i rows z=>?_⟩
  ·by_cases q:sp b
   ·rw[hI b q] at z;exact z
   ·rw[hO b q] at z;exact hbH b o z
  ·by_cases q:sp b
   ·rw[gI b q] at z;exact z
   ·rw[gO b q] at z;exact e.ext.gg b o z
  ·by_cases q:sp b
   ·rw[gI b q] at z1;exact z1
   ·rw[gO b q] at z1;rw[hO b q] at z2;exact e.ext.nw b o z1 z2
  ·have q:¬ sp b:=fun q=>spG b q C' dx fs z
   rw[hO b q];exact e.ext.ni b C' dx fs (by rw[aN fun m=>q (.inl m)];exact z)
  ·obtain⟨v,a1,a2⟩:=e.lent i d z
   exact⟨v,a1,(a2.monoH hbHp).monoG gbGp⟩
  ·obtain⟨q,a1,a2,a3,a4⟩:=e.own i d z
   obtain⟨oo,ho⟩:=a4.some;have nq:¬ sp q:=fun z=>by
    rcases z with z|z
    ·exact (bj ho).1 z
    ·rcases a4 with⟨_,_,_,y,_⟩|⟨_,_,_,y,_⟩<;>(rw[(bj y).2] at z;cases z)
   refine⟨q,a1,a2,by rw[hO q nq];exact a3,?_⟩;rcases a4 with⟨ds,vs,y1,y2,y3⟩|⟨ds,vs,y1,y2,y3⟩
   ·exact .inl ⟨ds,vs,y1,aD _ _ y2,y3⟩
   ·exact .inr ⟨ds,vs,y1,aD _ _ y2,y3⟩
  ·obtain⟨⟨q,a1,qs,b1,b2,b3,b4,b5,b6⟩,c1⟩:=e.deep i rows z
   have nq:∀{q:Addr} {vs:List V},er H (parts dd) q=some (.lst vs)->¬ sp q:=fun {q vs} y z=>by
    rcases z with z|z
    ·exact (bj y).1 z
    ·rw[(bj y).2] at z;cases z
   refine⟨⟨q,a1,qs,aD _ _ b1,b2,by rw[hO q (nq b1)];exact b3,b4,b5,fun k row q' z1 z2=>?_⟩,c1⟩;obtain⟨y1,y2,vs,y3,y4⟩:=b6 k row q' z1 z2;exact⟨y1,by rw[hO q' (nq y3)];exact y2,vs,aD _ _ y3,y4⟩
 refine h pins s σ H F I ⟨Gp',Hp',G,E0,fun G' H' σ' e' g=>R G' H' dd σ' ?_ g⟩;have ns:∀b,sp b->H' b=H b:=fun b z=>by
  obtain⟨o,ho⟩:=spH b z;rw[ho];exact e'.ext.hh b o (by rw[hI b z];exact ho)
 have pG:∀b∈parts dd,G' b=none:=fun b hb=>by
  obtain⟨o,ho⟩:=E.vs.part hb;exact e'.ext.nw b o (by rw[gI b (.inl hb)];exact E.vs.out b hb) (by rw[hI b (.inl hb)];exact ho)
 have lst_nsp:∀{q:Addr} {o:HO},H' q=some o->Hp' q=none->¬ sp q:=fun {q o} y z m=>by
  obtain⟨o',ho⟩:=spH q m;rw[hI q m,ho] at z;cases z
 refine⟨⟨Gb,Hb,s1,s2,⟨⟨fun b o z=>?_,gbGp.trans e'.ext.gg,fun b o z=>?_,fun b o z1 z2=>?_,fun b C' dx fs z=>?_⟩,e'.len,e'.dat,fun i d z=>?_,fun i d z=>?_,e'.apart,fun i rows z=>?_⟩⟩,fun b o z1 z2=>?_,E.pre,?_⟩
 ·have np:b∉parts dd:=(bj (e.ext.hh b o z)).1
  rw[aN np];exact e'.ext.hh b o (hbHp b o z)
 ·have np:b∉parts dd:=fun m=>by rw[pG b m] at z;cases z
  rw[aN np];exact e'.ext.gh b o z
 ·by_cases q:sp b
  ·exact e'.ext.nw b o (by rw[gI b q];exact e.ext.nw b o z1 z2) (hbHp b o z2)
  ·exact e'.ext.nw b o (by rw[gO b q];exact z1) (hbHp b o z2)
 ·obtain⟨n1,n2⟩:=bj z
  have:=e'.ext.ni b C' dx fs n2;have q:¬ sp b:=fun q=>by rw[hI b q] at this;exact spG b q C' dx fs this
  rw[hO b q] at this;exact this
 ·obtain⟨v,a1,a2⟩:=e'.lent i d z
  have lo:=hl _ (mg0 z);have gB:∀{q:Addr} {o:HO},Gp' q=some o->xr (some o)=false->Gb q=some o:=fun {q o} y z=>by
   have nq:¬ sp q:=fun m=>by
    rw[gI q m] at y;rcases m with m|m
    ·rw[E.vs.out q m] at y;cases y
    ·rw[sub q o y,z] at m;cases m
   rw[gO q nq] at y;exact y
  refine⟨v,a1,?_⟩;cases d with
  |scr ns=>
   cases a2 with
   |of y=>
    cases y with
    |scr y=>
     refine .of (.scr ?_);rcases y with y|y
     ·left
      rcases y with y|⟨o,y⟩
      ·exact .inl (gB y rfl)
      ·exact .inr ⟨o,gB y rfl⟩
     ·exact .inr y
  |_=>cases lo
 ·obtain⟨q,a1,a2,a3,a4⟩:=e'.own i d z
  obtain⟨oo,ho⟩:=a4.some;have nq:=lst_nsp ho a3;refine⟨q,a1,a2,by rw[hO q nq] at a3;exact a3,?_⟩;rcases a4 with⟨ds,vs,y1,y2,y3⟩|⟨ds,vs,y1,y2,y3⟩
  ·exact .inl ⟨ds,vs,y1,by rw[aN fun m=>nq (.inl m)];exact y2,y3⟩
  ·exact .inr ⟨ds,vs,y1,by rw[aN fun m=>nq (.inl m)];exact y2,y3⟩
 ·obtain⟨⟨q,a1,qs,b1,b2,b3,b4,b5,b6⟩,c1⟩:=e'.deep i rows z
  have nq:=lst_nsp b1 b3;refine⟨⟨q,a1,qs,by rw[aN fun m=>nq (.inl m)];exact b1,b2,by rw[hO q nq] at b3;exact b3,b4,b5,fun k row q' z1 z2=>?_⟩,c1⟩;obtain⟨y1,y2,vs,y3,y4⟩:=b6 k row q' z1 z2;have nq':=lst_nsp y3 y2;exact⟨y1,by rw[hO q' nq'] at y2;exact y2,vs,by rw[aN fun m=>nq' (.inl m)];exact y3,y4⟩
 ·have gn:=E.nw b o z1 z2
  obtain⟨o',ho⟩:=E.start.st b o z2
  by_cases q:sp b
  ·exact e'.ext.nw b o' (by rw[gI b q];exact gn) (by rw[hI b q];exact ho)
  ·have np:b∉parts d0:=fun m=>q (.inl (fW E.pre m))
   have hb:Hb b=some o:=s2.1 b o (by rw[aN np];exact z2);refine e'.ext.nw b o ?_ (by rw[hO b q];exact hb);rw[gO b q];cases y:Gb b with
   |none=>rfl
   |some o''=>have:=e.ext.gg b o'' y;rw[gn] at this;cases this
 ·refine⟨E.vs.len,E.vs.nd,fun h a l n q=>?_,fun a C' dx fs z=>?_,pG⟩
  ·obtain⟨dx,objs,h1,h2,h3,as,h4,h5,h6,h7⟩:=E.vs.at' h a l n q
   have m:=jP q;exact⟨dx,objs,h1,g _ _ h2,by rw[ns dx (.inr (by rw[h3];rfl))];exact h3,as,by rw[ns l (.inl m.1)];exact h4,h5.mono g,by rw[ns n (.inl m.2)];exact h6,h7⟩
  ·have:=e'.ext.ni a C' dx fs z
   have q:¬ sp a:=fun q=>by rw[hI a q] at this;exact spG a q C' dx fs this
   rw[hO a q] at this;exact E.vs.uni a C' dx fs (hbH _ _ this)
end
section
variable {P:Program}{w:World}{K:Fg}{C:Addr}{G0 H0 G H G1 H1:Hp}{d0 d d1:Vd}{σ:St}{ρ:List Sl}{U:List (List D)}{q:Addr}
end
section
variable {X:Cx}{C:Addr}{ρ:List Sl}{U U1 U2:List (List D)}{elt iter tg:Expr}{pos:Pos}{ds out:List D}{scope:Scope}{tn:List Str}{js:List Nat}{t:Tg}
end
mutual
inductive M where
 |p (e:E)
 |call (f:Str) (as:Ms)
 |meth (m:Str) (i:Nat) (as:Ms)
 |new
 |lst (a:M)
 |hv (i:Nat)
 |ix0 (a:M)
inductive Ms where
 |nil
 |va (i:Nat) (r:Ms)
 |ex (a:M) (r:Ms)
end
mutual
inductive SM where
 |set (i:Nat) (e:M)
 |expr (e:M)
 |ret (e:M)
 |ifs (c:E) (a b:SMs)
 |fors (tg:Tg) (src:I) (body:SMs)
 |raise (c:Nat) (as:Ms)
 |try1 (tab:List (Nat×Bool)) (i j:Nat) (body:SMs)
 |pass
 |pure (s:S)
 |ifq (a:M) (y:Str) (s t:SMs)
inductive SMs where
 |nil
 |cons (s:SM) (r:SMs)
end
abbrev Ust:=List (List D)
abbrev FsM:=Str->Option FnM
noncomputable def jQ:Option Sl->Option Nat
 |some (.dat (.hdl h))=>some h
 |_=>none
noncomputable def AA:Bool->Option Sl->Option D
 |true,some sl=>aQ .read sl
 |false,some (.dat d)=>some d
 |_,_=>none
@[simp] noncomputable def qQ (d:D):Rs->Rs
 |.ok ds=>.ok (d::ds)
 |.exc c=>.exc c
def xt:D->Option (List D)
 |.list ds=>some ds
 |.tuple ds=>some ds
 |_=>none
noncomputable def hdD:D->Option D
 |.tuple (d::_)=>some d
 |_=>none
noncomputable def AB:D->Option Str
 |.str x=>some x
 |_=>none
noncomputable def goR (z:R×Ust)(f:D->Ust->Option (R×Ust)):Option (R×Ust):=match z.1 with
 |.ok d=>f d z.2
 |.exc x=>some (.exc x,z.2)
section
variable (Φ:Fs)(Ψ:FsM)(Γ:List (Str×D))(c:Nat)
mutual
@[simp] noncomputable def evM (ρ:List Sl)(U:Ust):M->Option (R×Ust)
 |.p e=>(ev Φ Γ .val (ρ.map (vE c U)) e).map fun d=>(.ok d,U)
 |.call f as=>(Ψ f).bind fun φ=>(kY φ.lent ρ U as).bind fun q=>(Eu φ.run q.1 q.2).map fun z=>(z.2,z.1)
 |.meth m i as=>(Ψ (ao m)).bind fun φ=>(jQ ρ[i]?).bind fun h=>(kY φ.lent.tail ρ U as).bind fun q=>match q.1 with
  |.ok ds=>(φ.run q.2 (.hdl h::ds)).map fun z=>(z.2,z.1)
  |.exc _=>none
 |.new=>some (.ok (.hdl U.length),U++[[]])
 |.hv i=>(jQ ρ[i]?).map fun h=>(.ok (.hdl h),U)
 |.ix0 a=>(evM ρ U a).bind fun z=>goR z fun d U'=>(hdD d).map fun d'=>(.ok d',U')
 |.lst a=>(evM ρ U a).bind fun z=>goR z fun d U'=>(xt d).map fun ds=>(.ok (.list ds),U')
@[simp] noncomputable def kY (fl:List Bool)(ρ:List Sl)(U:Ust):Ms->Option (Rs×Ust)
 |.nil=>some (.ok [],U)
 |.va i r=>(AA (fl.headD false) ρ[i]?).bind fun d=>(kY fl.tail ρ U r).map fun q=>(qQ d q.1,q.2)
 |.ex a r=>(evM ρ U a).bind fun z=>match z.1 with
  |.ok d=>(kY fl.tail ρ z.2 r).map fun q=>(qQ d q.1,q.2)
  |.exc x=>some (.exc x,z.2)
end
noncomputable def tZ (f:D->OM)(ρ:List Sl):R->OM
 |.ok d=>f d
 |.exc x=>.exc x ρ
noncomputable def EA (tab:List (Nat×Bool))(i j:Nat)(U:Ust):OM->Option (OM×Ust)
 |.exc x ρ=>if tab.lookup x=some true then some (.nx ((ρ.set i (.dat (.exc x))).set j .no),U) else none
 |o=>some (o,U)
def BN (o:Out)(U:Ust):Option (OM×Ust):=match o with
 |.nx ρ=>if ρ.all bx then some (.nx ρ,U) else none
 |.rt _=>none
mutual
@[simp] noncomputable def exM (ρ:List Sl)(U:Ust):SM->Option (OM×Ust)
 |.set i e=>(evM Φ Ψ Γ c ρ U e).map fun z=>(tZ (fun d=>.nx (ρ.set i (.dat d))) ρ z.1,z.2)
 |.expr e=>(evM Φ Ψ Γ c ρ U e).map fun z=>(tZ (fun f=>.nx ρ) ρ z.1,z.2)
 |.ret e=>(evM Φ Ψ Γ c (ρ.map freeze) U e).map fun z=>(tZ .rt (ρ.map freeze) z.1,z.2)
 |.ifs t a b=>(ev Φ Γ .test (ρ.map (vE c U)) t).bind fun d=>(asB d).bind fun t=>if t then aH ρ U a else aH ρ U b
 |.fors tg src body=>(evI Φ Γ .walk ρ src).bind fun ds=>forM (au tg) (fun ρ' U'=>aH ρ' U' body) ds ρ U
 |.raise x as=>(kY Φ Ψ Γ c [] ρ U as).bind fun q=>match q.1 with
  |.ok ds=>if ds.length≤1000 then some (.exc x ρ,q.2) else none
  |.exc _=>none
 |.try1 tab i j body=>(aH ρ U body).bind fun q=>EA tab i j q.2 q.1
 |.pass=>some (.nx ρ,U)
 |.pure s=>(ex Φ Γ ρ s).bind fun o=>BN o U
 |.ifq a y s t=>(evM Φ Ψ Γ c ρ U a).bind fun z=>match z.1 with
  |.ok d=>(AB d).bind fun x=>if x=y then aH ρ z.2 s else aH ρ z.2 t
  |.exc x=>some (.exc x ρ,z.2)
@[simp] noncomputable def aH (ρ:List Sl)(U:Ust):SMs->Option (OM×Ust)
 |.nil=>some (.nx ρ,U)
 |.cons s r=>(exM ρ U s).bind fun q=>q.1.andThen (fun ρ'=>aH ρ' q.2 r) q.2
end
end
structure aY where
 lent:List Bool
 slots:Nat
 body:SMs
noncomputable def mP:OM->R
 |.nx _=>.ok .none
 |.rt d=>.ok d
 |.exc c _=>.exc c
@[simp] noncomputable def startM (d:aY)(ds:List D):List Sl:=bz ⟨d.lent,d.slots,.nil⟩ ds
noncomputable def runM (Φ:Fs)(Ψ:FsM)(Γ:List (Str×D))(c:Nat)(d:aY):FnM:=⟨d.lent,fun U ds=>if ds.length=d.lent.length then (aH Φ Ψ Γ c (startM d ds) U d.body).map fun q=>(q.2,mP q.1) else none⟩
noncomputable def jh (Ψ0:FsM)(prog:List (Str×Def))(progM:List (Str×aY))(Γ:List (Str×D))(c:Nat):Nat->FsM
 |0,f=>Ψ0 f
 |k+1,f=>match Ψ0 f with
  |some φ=>some φ
  |none=>(progM.lookup f).map (runM (den prog Γ k) (jh Ψ0 prog progM Γ c k) Γ c)
structure Cm where
 cs:Cs
 c:Nat
 mfs:List Str
 mms:List Str
 vn:Str
 xks:List (Str×Nat)
 vrs:List Str:=[]
def ua (C:Cm):Expr->Bool
 |.Call (.Name f _) _ _ _=>C.mfs.contains f||f==C.vn
 |.Call (.Attribute (.Name _ _) m _) _ _ _=>C.mms.contains m
 |_=>false
noncomputable def JJ:Expr->Option (Expr×Expr)
 |.BoolOp .And [a,b] _=>some (a,b)
 |_=>none
def isZ:Expr->Bool
 |.Constant (.int i) _ _=>i==0
 |_=>false
noncomputable def GV:Expr->Option Expr
 |.Subscript a i _=>if isZ i then some a else none
 |_=>none
noncomputable def mQ:Expr->Option Str
 |.Name x _=>some x
 |_=>none
noncomputable def EB:Expr->Option Str
 |.Constant (.str y) _ _=>some y
 |_=>none
noncomputable def pw {α:Type}:List α->Option α
 |[a]=>some a
 |_=>none
noncomputable def isEq:CmpOp->Bool
 |.Eq=>true
 |_=>false
noncomputable def xu:Expr->Option (Expr×Str)
 |.Compare a os bs _=>(pw os).bind fun o=>(pw bs).bind fun b=>if isEq o then (EB b).map fun y=>(a,y) else none
 |_=>none
mutual
noncomputable def cM:Nat->Cm->Expr->Option M
 |0,_,_=>none
 |n+1,C,e=>match e with
  |.Call (.Name f _) as [] _=>if aw C.cs f&&C.mfs.contains f&&!as.isEmpty then (cMs n C as).map fun as'=>.call f as'
   else if f=C.vn then (if aw C.cs f&&as.isEmpty then some .new else none)
   else if f=("list":Str) then (match se as with
    |some a=>if ua C a then (if aw C.cs f&&!isStar a then (cM n C a).map .lst else none) else (cE n C.cs e).map .p
    |none=>none) else (cE n C.cs e).map .p
  |.Call (.Attribute (.Name x _) m apos) as [] pos=>if C.mms.contains m then (if (apos.endLine==pos.line)&&!as.isEmpty&&decide (as.length≤20) then (cZ C.cs x).bind fun i=>(cMs n C as).map fun as'=>.meth m i as' else none) else (cE n C.cs e).map .p
  |.Subscript _ _ _=>(match GV e with
   |some a=>if ua C a then (cM n C a).map .ix0 else (cE n C.cs e).map .p
   |none=>(cE n C.cs e).map .p)
  |.Name x _=>if C.vrs.contains x then (cZ C.cs x).map .hv else (cE n C.cs e).map .p
  |_=>(cE n C.cs e).map .p
noncomputable def cMs:Nat->Cm->List Expr->Option Ms
 |0,_,_=>none
 |n+1,C,[]=>some .nil
 |n+1,C,e::r=>if isStar e then none else match pA C.cs e with
  |some i=>(cMs n C r).map fun r'=>.va i r'
  |none=>(cM n C e).bind fun a=>(cMs n C r).map fun r'=>.ex a r'
noncomputable def pA (C:Cs):Expr->Option Nat
 |.Name x _=>cZ C x
 |_=>none
end
noncomputable def raiseOf:Option Expr->Option Expr->Option (Str×List Expr)
 |some (.Call f as [] _),none=>(mQ f).map fun x=>(x,as)
 |_,_=>none
noncomputable def BO:ExceptHandler->Option (Expr×Str×List Stmt)
 |.ExceptHandler (some t) (some n) b _=>some (t,n,b)
 |_=>none
noncomputable def BP:Stmt->Option (List Expr×Expr)
 |.Assign ts v _=>some (ts,v)
 |_=>none
noncomputable def xw (hs:List ExceptHandler):Option (Str×Str×Str):=(pw hs).bind fun h=>(BO h).bind fun q=>(mQ q.1).bind fun x=>(pw q.2.2).bind fun s=>(BP s).bind fun a=>(pw a.1).bind fun t=>(mQ t).bind fun k=>(mQ a.2).bind fun n'=>if n'=q.2.1 then some (x,q.2.1,k) else none
mutual
noncomputable def cSM:Nat->Cm->Stmt->Option SM
 |0,_,_=>none
 |n+1,C,s=>match s with
  |.Assign [.Name y _] v _=>(gA C.cs y).bind fun j=>if C.cs.mts.contains j then (cS n C.cs s).map .pure else if dc v then (cS n C.cs s).map .pure else (cM n C v).map fun e=>.set j e
  |.Expr v _=>if dc v then none else (cM n C v).map .expr
  |.Return (some e) _=>(cM n C e).map .ret
  |.If t a b _=>if (xu t).any fun q=>ua C q.1 then (xu t).bind fun q=>(cM n C q.1).bind fun t'=>(dN n C a).bind fun a'=>(dN n C b).map fun b'=>.ifq t' q.2 a' b' else (cE n C.cs t).bind fun t'=>(dN n C a).bind fun a'=>(dN n C b).map fun b'=>.ifs t' a' b'
  |.For tg iter body [] _=>(cTg C.cs tg).bind fun t=>(cI n C.cs iter).bind fun src=>(dN n C body).map fun b=>.fors t src b
  |.Raise e f _=>(raiseOf e f).bind fun q=>if aw C.cs q.1&&!q.2.isEmpty then (C.xks.lookup q.1).bind fun x=>(cMs n C q.2).map fun as=>.raise x as else none
  |.Try body hs [] [] _=>(xw hs).bind fun q=>if aw C.cs q.1&&ar C.cs q.2.1 .local&&(bq q.2.1&&!(q.1==("ValueError":Str))) then (C.cs.xcs.lookup q.1).bind fun z=>(gA C.cs q.2.1).bind fun j=>(gA C.cs q.2.2).bind fun i=>if i=j then none else (dN n C body).map fun b=>.try1 z.2 i j b else none
  |.Pass _=>some .pass
  |_=>none
noncomputable def dN:Nat->Cm->List Stmt->Option SMs
 |0,_,_=>none
 |n+1,C,[]=>some .nil
 |n+1,C,s::r=>(cSM n C s).bind fun s'=>(dN n C r).map fun r'=>.cons s' r'
end
structure mR where
 fns:List Str
 cst:List Str
 c:Nat
 vms:List Str
 xcs:List (Str×Nat×List (Nat×Bool))
 mfs:List Str
 mms:List Str
 vn:Str
 xks:List (Str×Nat)
 vrs:List Str:=[]
noncomputable def AC (V:mR)(ps:List Str)(body:List Stmt)(sc:Scope):Cm:=⟨zF V.fns V.cst ps body sc (some V.c) V.vms V.xcs,V.c,V.mfs,V.mms,V.vn,V.xks,V.vrs⟩
noncomputable def iH (V:mR)(lent:List Bool)(st:Stmt):Option aY:=
 (bu st).bind fun (ps,body,sc)=>(dN 60 (AC V ps body sc) body).map fun b=>{lent,slots:=(ps++ax sc ps).length,body:=b}
structure WzM (X:Cx)(Φ:Fs)(Ψ:FsM)(Γ:List (Str×D))(C:Cm)(k:Nat):Prop where
 w:Wz X Φ Γ C.cs k
 fm:∀x,C.mfs.contains x=true->∀φ,Ψ x=some φ->Ap X.prog X.w X.K X.mg X.base C.c k x φ
 vm:∀m,C.mms.contains m=true->∀φ,Ψ (ao m)=some φ->FnVm X.prog X.w X.K X.mg X.base C.c k m φ/\φ.lent.headD false=false/\m≠"objects"/\m≠"numbers"
 nw:∀X':Cx,X'.prog=X.prog->X'.w=X.w->X'.K=X.K->X'.mg=X.mg->X'.base=X.base->Room k X'.A->Gl X' C.vn->∀ρ U p pos,EvM X' C.c ρ U (.Call (.Name C.vn p) [] [] pos) (.ok (.hdl U.length)) (U++[[]])
structure WzT (X:Cx)(Φ:Fs)(Ψ:FsM)(Γ:List (Str×D))(C:Cm)(k:Nat):Prop where
 m:WzM X Φ Ψ Γ C k
 xk:∀t x,C.xks.lookup t=some x->GT X t x
 tr:∀(t:Str) x tab,t≠("ValueError":Str)->C.cs.xcs.lookup t=some (x,tab)->∀e,tab.lookup e=some true->∃newId newIdT,PySem.W.excIn X.K e bc newId=true/\PySem.W.excIn X.K x bc newIdT=true/\dk X.K e x=true
 lcl:∀x,C.cs.sc.names.lookup x=some .local->X.env.kindOf x=some .local
 fc:Ax X
theorem CxC.tri {X:Cx}{C:Cs}(c:CxC X C){E:Value->Shared->Prop}{pn:List (Addr×Obj)}:CxC (tri X E pn) C:=⟨c.N,c.nd,c.vis,c.loc,c.cell,c.glob,c.calm,c.kind⟩
theorem Wz.tri {X:Cx}{Φ:Fs}{Γ:List (Str×D)}{C:Cs}{k:Nat}(w:Wz X Φ Γ C k){E:Value->Shared->Prop}{pn:List (Addr×Obj)}:Wz (tri X E pn) Φ Γ C k:=⟨w.blt,w.fns,w.gl,w.room,w.vc,w.vf,w.xc⟩
theorem WzT.tri {X:Cx}{Φ:Fs}{Ψ:FsM}{Γ:List (Str×D)}{C:Cm}{k:Nat}(w:WzT X Φ Ψ Γ C k){E:Value->Shared->Prop}{pn:List (Addr×Obj)}:WzT (tri X E pn) Φ Ψ Γ C k:=
 ⟨⟨w.m.w.tri,w.m.fm,w.m.vm,w.m.nw⟩,fun t x h=>⟨(w.xk t x h).mg,(w.xk t x h).ex⟩,w.tr,w.lcl,⟨w.fc.stk,w.fc.fr,w.fc.ex⟩⟩
section
variable {X:Cx}{C:Addr}{ρ:List Sl}{U U1 U2:Ust}{es:List Expr}{e:Expr}{x:Str}{p:Pos}{d:D}{fl:List Bool}{rs:Rs}{c:Nat}
theorem jR (he:EvM X C ρ U e (.ok d) U1)(hr:EaM X C ρ U1 fl.tail es rs U2)(hs:isStar e=false):EaM X C ρ U fl (e::es) (qQ d rs) U2:=by
 have:=wW he hr hs;cases rs<;>exact this
theorem EC {i:Nat}(V:VarOk X x i)(h:AA (fl.headD false) ρ[i]?=some d)(hr:EaM X C ρ U fl.tail es rs U2):EaM X C ρ U fl (.Name x p::es) (qQ d rs) U2:=by
 cases hf:fl.headD _ with
 |true=>
  rw[hf] at h;cases q:ρ[i]? with
  |none=>rw[q] at h;cases h
  |some sl=>
   rw[q] at h;have:=tO (p:=p) i q h hf V.at' V.vis V.d V.cd hr;cases rs<;>exact this
 |false=>
  rw[hf] at h;cases q:ρ[i]? with
  |none=>rw[q] at h;cases h
  |some sl=>
   rw[q] at h;cases sl with
   |dat d'=>cases h;exact jR (kW i q V.at' V.vis V.d V.cd) hr rfl
   |_=>cases h
end
structure ED (Φ:Fs)(Ψ:FsM)(Γ:List (Str×D))(k n:Nat):Prop where
 E:∀C e M',cM n C e=some M'->∀X,CxC X C.cs->WzM X Φ Ψ Γ C k->∀ρ U r U',evM Φ Ψ Γ C.c ρ U M'=some (r,U')->EvM X C.c ρ U e r U'
 A:∀C es as,cMs n C es=some as->∀X,CxC X C.cs->WzM X Φ Ψ Γ C k->aB es/\∀fl ρ U rs U',kY Φ Ψ Γ C.c fl ρ U as=some (rs,U')->EaM X C.c ρ U fl es rs U'
section
variable {Φ:Fs}{Ψ:FsM}{Γ:List (Str×D)}{k n:Nat}{C:Cm}{X:Cx}
theorem mS {s:Option Sl}{h:Nat}(q:jQ s=some h):s=some (.dat (.hdl h)):=by
 unfold jQ at q;split at q
 ·cases q;rfl
 ·cases q
theorem AD {as:List Expr}{a:Expr}(h:se as=some a):as=[a]:=by
 unfold se at h;split at h<;>simp_all
theorem AE {d:D}{ds:List D}(h:xt d=some ds):d=.list ds\/d=.tuple ds:=by
 cases d with
 |list=>cases h;exact .inl rfl
 |tuple=>cases h;exact .inr rfl
 |_=>cases h
theorem ub {C:Cs}{e:Expr}{i:Nat}(h:pA C e=some i):∃x p,e=.Name x p/\cZ C x=some i:=by
 cases e with
 |Name x p=>exact⟨x,p,rfl,h⟩
 |_=>cases h
theorem EE {b:Expr}(h:isZ b=true):∃j p,b=.Constant (.int 0) j p:=by
 cases b with
 |Constant k j p=>cases k with
  |int i=>exact⟨j,p,by rw[eq_of_beq (show (i==0)=true from h)]⟩
  |_=>cases h
 |_=>cases h
set_option tactic.hygienic true
theorem GW (ih:ED Φ Ψ Γ k n){e:Expr}{M':M}(h:cM (n+1) C e=some M')(c:CxC X C.cs)(w:WzM X Φ Ψ Γ C k){ρ:List Sl}{U U':Ust}{r:R}(q:evM Φ Ψ Γ C.c ρ U M'=some (r,U')):EvM X C.c ρ U e r U':=by
 have pure_:∀M',(cE n C.cs e).map M.p=some M'->evM Φ Ψ Γ C.c ρ U M'=some (r,U')->EvM X C.c ρ U e r U':=fun M' h q=>by
  obtain⟨e',h1,rfl⟩:=mx0 h;obtain⟨d,q1,q2⟩:=mx0 (show (ev Φ Γ .val (ρ.map (vE C.c U)) e').map _=some (r,U') from q);cases q2;exact wV (((snd Φ Γ k n).E _ _ _ h1 X c w.w).1 _ d q1)
 cases e with
 |Call ef as ks pos=>
  cases ef with
  |Name f p=>
   cases ks with
   |cons _ _=>exact pure_ M' h q
   |nil=>
    have h:(if aw C.cs f&&C.mfs.contains f&&!as.isEmpty then (cMs n C as).map fun as'=>M.call f as'
     else if f=C.vn then (if aw C.cs f&&as.isEmpty then some M.new else Option.none)
     else if f=("list":Str) then (match se as with
      |some a=>if ua C a then (if aw C.cs f&&!isStar a then (cM n C a).map M.lst else Option.none) else (cE n C.cs (.Call (.Name f p) as [] pos)).map M.p
      |Option.none=>Option.none) else (cE n C.cs (.Call (.Name f p) as [] pos)).map M.p)=some M':=h
    split at h
    ·rename_i hq
     simp only[be0,Bool.not_eq_true'] at hq;obtain⟨as',h1,rfl⟩:=mx0 h;obtain⟨S1,S2⟩:=ih.A _ _ _ h1 X c w;obtain⟨φ,q1,q2⟩:=bx0 (show (Ψ f).bind _=some (r,U') from q);obtain⟨⟨rs,U1⟩,q3,q4⟩:=bx0 q2;obtain⟨⟨U2,r2⟩,q5,q6⟩:=mx0 q4;cases q6;cases as with
     |nil=>cases hq.2
     |cons e es=>exact wX (w.fm f hq.1.2 φ q1) w.w.room (aK c hq.1.1).1 (aK c hq.1.1).2.2 (S2 _ ρ U rs U1 q3) q5 S1
    split at h
    ·rename_i hv
     split at h
     ·rename_i hq
      rw[be0] at hq;cases h;cases as with
      |nil=>
       cases q;subst hv;exact w.nw X rfl rfl rfl rfl rfl w.w.room (aK c hq.1).1 ρ U p pos
      |cons _ _=>cases hq.2
     ·cases h
    split at h
    ·rename_i hl
     split at h
     ·rename_i a ha
      split at h
      ·rename_i hm
       split at h
       ·rename_i hq
        rw[be0,Bool.not_eq_true'] at hq;obtain⟨a',h1,rfl⟩:=mx0 h;obtain⟨⟨r1,U1⟩,q1,q2⟩:=bx0 (show (evM Φ Ψ Γ C.c ρ U a').bind _=some (r,U') from q);have A:=ih.E _ _ _ h1 X c w ρ U r1 U1 q1;have Bl:=bA c w.w hq.1 (by subst hl;simp[bltNames]);obtain rfl:=AD ha;subst hl;cases r1 with
        |exc x=>cases q2;exact tY Bl A hq.2
        |ok d=>
         obtain⟨ds,q3,q4⟩:=mx0 (show (xt d).map _=some (r,U') from q2);cases q4;exact xp Bl A (AE q3) hq.2
       ·cases h
      ·exact pure_ M' h q
     ·cases h
    ·exact pure_ M' h q
  |Attribute o m apos=>
   cases o with
   |Name x p=>
    cases ks with
    |cons _ _=>exact pure_ M' h q
    |nil=>
     have h:(if C.mms.contains m then (if (apos.endLine==pos.line)&&!as.isEmpty&&decide (as.length≤20) then (cZ C.cs x).bind fun i=>(cMs n C as).map fun as'=>M.meth m i as' else Option.none) else (cE n C.cs (.Call (.Attribute (.Name x p) m apos) as [] pos)).map M.p)=some M':=h;split at h
     ·rename_i hm
      split at h
      ·rename_i hq
       simp only[be0,Bool.not_eq_true',decide_eq_true_eq] at hq;obtain⟨i,as',h1,h2,rfl⟩:=aJ h;obtain⟨S1,S2⟩:=ih.A _ _ _ h2 X c w;have V:=dE c h1;obtain⟨φ,q1,q2⟩:=bx0 (show (Ψ (ao m)).bind _=some (r,U') from q);obtain⟨hh,q3,q4⟩:=bx0 q2;obtain⟨⟨rs,U1⟩,q5,q6⟩:=bx0 q4;cases rs with
       |exc _=>cases q6
       |ok ds=>
        obtain⟨⟨U2,r2⟩,q7,q8⟩:=mx0 (show (φ.run U1 (.hdl hh::ds)).map _=some (r,U') from q6);cases q8;obtain⟨F,f1,f2⟩:=w.vm m hm φ q1;have hslot:=mS q3;cases as with
        |nil=>cases hq.1.2
        |cons e es=>exact wY F f1 f2 w.w.room (kW i hslot V.at' V.vis V.d V.cd) (S2 _ ρ U _ U1 q5) q7 S1 (jL rfl S1 hq.2 hq.1.1)
      ·cases h
     ·exact pure_ M' h q
   |_=>exact pure_ M' h q
  |_=>exact pure_ M' h q
 |Subscript a b pos=>
  have h:(match GV (.Subscript a b pos) with
   |some z=>if ua C z then (cM n C z).map M.ix0 else (cE n C.cs (.Subscript a b pos)).map M.p
   |Option.none=>(cE n C.cs (.Subscript a b pos)).map M.p)=some M':=h
  split at h
  ·rename_i z hz
   split at h
   ·obtain⟨a',h1,rfl⟩:=mx0 h
    obtain⟨⟨r1,U1⟩,q1,q2⟩:=bx0 (show (evM Φ Ψ Γ C.c ρ U a').bind _=some (r,U') from q);have A:=ih.E _ _ _ h1 X c w ρ U r1 U1 q1;have hz:(if isZ b then some a else Option.none)=some z:=hz;split at hz
    ·rename_i e
     cases hz;obtain⟨j,p,rfl⟩:=EE e;cases r1 with
     |exc x=>cases q2;exact xq A
     |ok d=>
      obtain⟨d',q3,q4⟩:=mx0 (show (hdD d).map _=some (r,U') from q2);unfold hdD at q3;split at q3
      ·cases q3;cases q4;exact Ay A
      ·cases q3
    ·cases hz
   ·exact pure_ M' h q
  ·exact pure_ M' h q
 |Name x p=>
  have h:(if C.vrs.contains x then (cZ C.cs x).map M.hv else (cE n C.cs (.Name x p)).map M.p)=some M':=h;split at h
  ·obtain⟨i,h1,rfl⟩:=mx0 h
   have V:=dE c h1;obtain⟨hh,q1,q2⟩:=mx0 (show (jQ ρ[i]?).map _=some (r,U') from q);cases q2;exact kW i (mS q1) V.at' V.vis V.d V.cd
  ·exact pure_ M' h q
 |_=>exact pure_ M' h q
theorem EF (ih:ED Φ Ψ Γ k n){es:List Expr}{as:Ms}(h:cMs (n+1) C es=some as)(c:CxC X C.cs)(w:WzM X Φ Ψ Γ C k):aB es/\∀fl ρ U rs U',kY Φ Ψ Γ C.c fl ρ U as=some (rs,U')->EaM X C.c ρ U fl es rs U':=by
 cases es with
 |nil=>cases h;exact⟨(fun b z=>by cases z),(fun fl ρ U rs U' q=>by cases q;exact Ao)⟩
 |cons e r=>
  have h:(if isStar e then Option.none else match pA C.cs e with
   |some i=>(cMs n C r).map fun r'=>Ms.va i r'
   |Option.none=>(cM n C e).bind fun a=>(cMs n C r).map fun r'=>Ms.ex a r')=some as:=h
  split at h
  ·cases h
  ·rename_i hs
   have hs:=Bool.eq_false_iff.mpr hs;split at h
   ·rename_i i hi
    obtain⟨r',h1,rfl⟩:=mx0 h;obtain⟨S1,S2⟩:=ih.A _ _ _ h1 X c w;refine⟨fun x hx=>(mq0 hx).elim (fun z=>z▸hs) (S1 x),fun fl ρ U rs U' q=>?_⟩;obtain⟨d,q1,q2⟩:=bx0 (show (AA (fl.headD false) ρ[i]?).bind _=some (rs,U') from q);obtain⟨⟨rs1,U1⟩,q3,q4⟩:=mx0 q2;cases q4;obtain⟨x,p,rfl,hi⟩:=ub hi;exact EC (dE c hi) q1 (S2 _ ρ U rs1 _ q3)
   ·obtain⟨a,r',h1,h2,rfl⟩:=aJ h
    obtain⟨S1,S2⟩:=ih.A _ _ _ h2 X c w;refine⟨fun x hx=>(mq0 hx).elim (fun z=>z▸hs) (S1 x),fun fl ρ U rs U' q=>?_⟩;obtain⟨⟨r1,U1⟩,q1,q2⟩:=bx0 (show (evM Φ Ψ Γ C.c ρ U a).bind _=some (rs,U') from q);have A:=ih.E _ _ _ h1 X c w ρ U r1 U1 q1;cases r1 with
    |ok d=>
     obtain⟨⟨rs1,U2⟩,q3,q4⟩:=mx0 (show (kY Φ Ψ Γ C.c fl.tail ρ U1 r').map _=some (rs,U') from q2);cases q4;exact jR A (S2 _ ρ U1 rs1 _ q3) hs
    |exc x=>cases q2;exact tN A hs
theorem EG (Φ:Fs)(Ψ:FsM)(Γ:List (Str×D))(k:Nat):∀n,ED Φ Ψ Γ k n
 |0=>⟨fun a a a h=>(nomatch (show (Option.none:Option M)=some _ from h)),fun a a a h=>(nomatch (show (Option.none:Option Ms)=some _ from h))⟩
 |n+1=>⟨fun C e M' h X c w ρ U r U' q=>GW (EG Φ Ψ Γ k n) h c w q,fun C es as h X c w=>EF (EG Φ Ψ Γ k n) h c w⟩
theorem eW {α:Type}{l:List α}{a:α}(h:pw l=some a):l=[a]:=by
 cases l with
 |nil=>cases h
 |cons x r=>cases r with
  |nil=>cases h;rfl
  |cons _ _=>cases h
theorem eX {e:Expr}{x:Str}(h:mQ e=some x):∃p,e=.Name x p:=by
 cases e with
 |Name y p=>cases h;exact⟨p,rfl⟩
 |_=>cases h
theorem xx {s:Stmt}{q:List Expr×Expr}(h:BP s=some q):∃p,s=.Assign q.1 q.2 p:=by
 cases s with
 |Assign=>cases h;exact⟨_,rfl⟩
 |_=>cases h
theorem xy {s:ExceptHandler}{q:Expr×Str×List Stmt}(h:BO s=some q):∃p,s=.ExceptHandler (some q.1) (some q.2.1) q.2.2 p:=by
 cases s with
 |ExceptHandler t n b p=>cases t with
  |none=>cases h
  |some t=>cases n with
   |none=>cases h
   |some n=>cases h;exact⟨_,rfl⟩
theorem xA {hs:List ExceptHandler}{x nm k:Str}(h:xw hs=some (x,nm,k)):∃tp kp np ap hp,hs=[.ExceptHandler (some (.Name x tp)) (some nm) [.Assign [.Name k kp] (.Name nm np) ap] hp]:=by
 obtain⟨h0,a1,h⟩:=bx0 h;obtain⟨⟨t,n,b⟩,a2,h⟩:=bx0 h;obtain⟨x',a3,h⟩:=bx0 h;obtain⟨s,a4,h⟩:=bx0 h;obtain⟨⟨ts,v⟩,a5,h⟩:=bx0 h;obtain⟨t',a6,h⟩:=bx0 h;obtain⟨k',a7,h⟩:=bx0 h;obtain⟨n',a8,h⟩:=bx0 h;have h:(if n'=n then some (x',n,k') else Option.none)=some (x,nm,k):=h;split at h
 ·rename_i e
  cases h;subst e;obtain rfl:=eW a1;obtain⟨p1,rfl⟩:=eX a3;obtain rfl:=eW a4;obtain rfl:=eW a6;obtain⟨p2,rfl⟩:=eX a7;obtain⟨p3,rfl⟩:=eX a8;obtain⟨p4,rfl⟩:=xx a5;obtain⟨p5,rfl⟩:=xy a2;exact⟨_,_,_,_,_,rfl⟩
 ·cases h
theorem pB {e f:Option Expr}{x:Str}{as:List Expr}(h:raiseOf e f=some (x,as)):∃np cpos,e=some (.Call (.Name x np) as [] cpos)/\f=Option.none:=by
 cases e with
 |none=>cases h
 |some e=>cases f with
  |some f=>cases e with
   |Call g as' ks p=>cases ks<;>cases h
   |_=>cases h
  |none=>cases e with
   |Call g as' ks p=>cases ks with
    |cons _ _=>cases h
    |nil=>
     obtain⟨x',a1,a2⟩:=mx0 (h);cases a2;obtain⟨p1,rfl⟩:=eX a1;exact⟨_,_,rfl,rfl⟩
   |_=>cases h
structure BQ (Φ:Fs)(Ψ:FsM)(Γ:List (Str×D))(k n:Nat):Prop where
 S:∀C st S',cSM n C st=some S'->∀X,CxC X C.cs->WzT X Φ Ψ Γ C k->PassesOwn (model X.prog X.w) X.A X.env X.xe->∀ρ U o U',exM Φ Ψ Γ C.c ρ U S'=some (o,U')->S1M X C.c ρ U st o U'
 Ss:∀C sts S',dN n C sts=some S'->∀X,CxC X C.cs->WzT X Φ Ψ Γ C k->PassesOwn (model X.prog X.w) X.A X.env X.xe->∀ρ U o U',aH Φ Ψ Γ C.c ρ U S'=some (o,U')->SsM X C.c ρ U sts o U'
theorem AF {b:Expr}{y:Str}(h:EB b=some y):∃j p,b=.Constant (.str y) j p:=by
 cases b with
 |Constant k j p=>cases k with
  |str z=>cases h;exact⟨_,_,rfl⟩
  |_=>cases h
 |_=>cases h
theorem AG {t e:Expr}{y:Str}(h:xu t=some (e,y)):∃j p pos,t=.Compare e [.Eq] [.Constant (.str y) j p] pos:=by
 cases t with
 |Compare a os bs pos=>
  obtain⟨o,h1,h⟩:=bx0 (show (pw os).bind _=some (e,y) from h);obtain⟨b,h2,h⟩:=bx0 h;have h:(if isEq o then (EB b).map fun y=>(a,y) else Option.none)=some (e,y):=h;split at h
  ·rename_i ho
   obtain⟨y',h3,h4⟩:=mx0 h;cases h4;obtain rfl:=eW h1;obtain rfl:=eW h2;cases o<;>first|(cases ho;done)|skip
   obtain⟨j,p,rfl⟩:=AF h3;exact⟨_,_,_,rfl⟩
  ·cases h
 |_=>cases h
theorem EH (ih:BQ Φ Ψ Γ k n){st:Stmt}{S':SM}{o:OM}{ρ:List Sl}{U U':Ust}(h:cSM (n+1) C st=some S')(c:CxC X C.cs)(w:WzT X Φ Ψ Γ C k)(po:PassesOwn (model X.prog X.w) X.A X.env X.xe)(q:exM Φ Ψ Γ C.c ρ U S'=some (o,U')):S1M X C.c ρ U st o U':=by
 have ee:=EG Φ Ψ Γ k n;have pp:=snd Φ Γ k n;have pureS:∀{S':SM},(cS n C.cs st).map SM.pure=some S'->exM Φ Ψ Γ C.c ρ U S'=some (o,U')->S1M X C.c ρ U st o U':=fun {S'} h q=>by
  obtain⟨s',h1,rfl⟩:=mx0 h;obtain⟨o1,q1,q2⟩:=bx0 (show (ex Φ Γ ρ s').bind _=some (o,U') from q);have A:=(El Φ Γ k n).S _ _ _ h1 X c w.m.w po ρ o1 q1;cases o1 with
  |rt d=>exact nomatch (show (Option.none:Option (OM×Ust))=some (o,U') from q2)
  |nx ρ1=>
   have q2:(if ρ1.all bx then some (OM.nx ρ1,U) else Option.none)=some (o,U'):=q2;split at q2
   ·rename_i hl;cases q2;exact s1M_pureS A fun sl hs=>List.all_eq_true.mp hl sl hs
   ·cases q2
 cases st with
 |Assign ts v pos=>
  cases ts with
  |nil=>exact nomatch (show (Option.none:Option SM)=some S' from h)
  |cons t r=>
   cases r with
   |cons _ _=>cases t<;>exact nomatch (show (Option.none:Option SM)=some S' from h)
   |nil=>
    cases t with
    |Name y py=>
     have h:((gA C.cs y).bind fun j=>if C.cs.mts.contains j then (cS n C.cs (.Assign [.Name y py] v pos)).map SM.pure else if dc v then (cS n C.cs (.Assign [.Name y py] v pos)).map SM.pure else (cM n C v).map fun e=>SM.set j e)=some S':=h;obtain⟨j,h1,h⟩:=bx0 h;split at h
     ·exact pureS h q
     split at h
     ·exact pureS h q
     ·rename_i hc
      obtain⟨e,h2,rfl⟩:=mx0 h;have S:=kR c h1;obtain⟨⟨r,U1⟩,q1,q2⟩:=mx0 (show (evM Φ Ψ Γ C.c ρ U e).map _=some (o,U') from q);have A:=ee.E _ _ _ h2 X c w.m ρ U r U1 q1;cases q2;cases r with
      |ok d=>exact Ar S A (cC (Bool.eq_false_iff.mpr hc))
      |exc x=>exact xa S A (cC (Bool.eq_false_iff.mpr hc))
    |_=>exact nomatch (show (Option.none:Option SM)=some S' from h)
 |Expr v pos=>
  have h:(if dc v then Option.none else (cM n C v).map SM.expr)=some S':=h;split at h
  ·cases h
  ·rename_i hc
   obtain⟨e,h2,rfl⟩:=mx0 h;obtain⟨⟨r,U1⟩,q1,q2⟩:=mx0 (show (evM Φ Ψ Γ C.c ρ U e).map _=some (o,U') from q);have A:=ee.E _ _ _ h2 X c w.m ρ U r U1 q1;cases q2;cases r with
   |ok d=>exact xb A (cC (Bool.eq_false_iff.mpr hc))
   |exc x=>exact tS A (cC (Bool.eq_false_iff.mpr hc))
 |Return v pos=>
  cases v with
  |none=>exact nomatch (show (Option.none:Option SM)=some S' from h)
  |some e=>
   obtain⟨e',h2,rfl⟩:=mx0 (show (cM n C e).map SM.ret=some S' from h);obtain⟨⟨r,U1⟩,q1,q2⟩:=mx0 (show (evM Φ Ψ Γ C.c (ρ.map freeze) U e').map _=some (o,U') from q);have A:=ee.E _ _ _ h2 X c w.m (ρ.map freeze) U r U1 q1;cases q2;cases r with
   |ok d=>exact As A
   |exc x=>exact xf A
 |If t a b pos=>
  have h:(if (xu t).any fun q=>ua C q.1 then (xu t).bind fun q=>(cM n C q.1).bind fun t'=>(dN n C a).bind fun a'=>(dN n C b).map fun b'=>SM.ifq t' q.2 a' b' else (cE n C.cs t).bind fun t'=>(dN n C a).bind fun a'=>(dN n C b).map fun b'=>SM.ifs t' a' b')=some S':=h;split at h
  ·obtain⟨⟨e,y⟩,hz,hh⟩:=bx0 h
   obtain⟨t',h1,hh⟩:=bx0 hh;obtain⟨a',b',h2,h3,rfl⟩:=aJ hh;obtain⟨⟨r1,U1⟩,q1,q2⟩:=bx0 (show (evM Φ Ψ Γ C.c ρ U t').bind _=some (o,U') from q);have A:=ee.E _ _ _ h1 X c w.m ρ U r1 U1 q1;obtain⟨k1,k2,k3,hz⟩:=AG hz
   ·subst hz
    cases r1 with
    |exc x=>cases q2;exact Au (Az A)
    |ok d=>
     obtain⟨x,q3,q4⟩:=bx0 (show (AB d).bind _=some (o,U') from q2);unfold AB at q3;split at q3
     ·cases q3
      have q4:(if x=y then aH Φ Ψ Γ C.c ρ U1 a' else aH Φ Ψ Γ C.c ρ U1 b')=some (o,U'):=q4;split at q4
      ·rename_i hxy;exact s1M_ifT (etM_eqB (dt0 hxy) A) (ih.Ss _ _ _ h2 X c w po ρ U1 o U' q4)
      ·rename_i hxy;exact s1M_ifF (etM_eqB (df0 hxy) A) (ih.Ss _ _ _ h3 X c w po ρ U1 o U' q4)
     ·cases q3
  obtain⟨t',h1,h⟩:=bx0 h;obtain⟨a',b',h2,h3,rfl⟩:=aJ h;obtain⟨d,q1,q2⟩:=bx0 (show (ev Φ Γ .test (ρ.map (vE C.c U)) t').bind _=some (o,U') from q);obtain⟨bb,q3,q4⟩:=bx0 q2;obtain⟨t2,rfl,ht⟩:=(pp.E _ _ _ h1 X c w.m.w).2.2.2.1 _ d q1;cases q3;cases bb with
  |true=>exact s1M_ifT (mK ht) (ih.Ss _ _ _ h2 X c w po ρ U o U' q4)
  |false=>exact s1M_ifF (mK ht) (ih.Ss _ _ _ h3 X c w po ρ U o U' q4)
 |For tg iter body orelse pos=>
  cases orelse with
  |cons _ _=>exact nomatch (show (Option.none:Option SM)=some S' from h)
  |nil=>
   have h:((cTg C.cs tg).bind fun t=>(cI n C.cs iter).bind fun src=>(dN n C body).map fun b=>SM.fors t src b)=some S':=h;obtain⟨t,h1,h⟩:=bx0 h;obtain⟨src,b,h2,h3,rfl⟩:=aJ h;obtain⟨ds,q1,q2⟩:=bx0 (show (evI Φ Γ .walk ρ src).bind _=some (o,U') from q);obtain⟨S1,S2,S3⟩:=pp.I _ _ _ h2 X c w.m.w;exact Aw (xg (S1 ρ ds q1)) (Ex c h1) (fun ρ' U1 o' U2 q'=>ih.Ss _ _ _ h3 X c w po ρ' U1 o' U2 q') q2 c.calm po (eV S3)
 |Raise e f pos=>
  have h:((raiseOf e f).bind fun q=>if aw C.cs q.1&&!q.2.isEmpty then (C.xks.lookup q.1).bind fun x=>(cMs n C q.2).map fun as=>SM.raise x as else Option.none)=some S':=h;obtain⟨⟨x,as⟩,h1,hh⟩:=bx0 h;obtain⟨np,cpos,e1,e2⟩:=pB h1;subst e1 e2;clear h;have h:=hh;clear hh;split at h
  ·rename_i hq
   rw[be0] at hq;obtain⟨xc,as',h2,h3,rfl⟩:=aJ h;obtain⟨S1,S2⟩:=ee.A _ _ _ h3 X c w.m;obtain⟨⟨rs,U1⟩,q1,q2⟩:=bx0 (show (kY Φ Ψ Γ C.c [] ρ U as').bind _=some (o,U') from q);have A:=S2 _ ρ U rs U1 q1;cases rs with
   |exc _=>cases q2
   |ok ds=>
    have q2:(if ds.length≤1000 then some (OM.exc xc ρ,U1) else Option.none)=some (o,U'):=q2;split at q2
    ·rename_i hl
     cases q2;cases as with
     |nil=>cases hq.2
     |cons e es=>exact tT (w.xk x xc h2) (aK c hq.1).1 (aK c hq.1).2.2 c.calm A hl S1
    ·cases q2
  ·cases h
 |Try body hs orelse fin pos=>
  cases orelse with
  |cons _ _=>exact nomatch (show (Option.none:Option SM)=some S' from h)
  |nil=>
   cases fin with
   |cons _ _=>exact nomatch (show (Option.none:Option SM)=some S' from h)
   |nil=>
    have h:((xw hs).bind fun q=>if aw C.cs q.1&&ar C.cs q.2.1 .local&&(bq q.2.1&&!(q.1==("ValueError":Str))) then (C.cs.xcs.lookup q.1).bind fun z=>(gA C.cs q.2.1).bind fun j=>(gA C.cs q.2.2).bind fun i=>if i=j then Option.none else (dN n C body).map fun b=>SM.try1 z.2 i j b else Option.none)=some S':=h;obtain⟨⟨x,nm,kk⟩,h1,hh⟩:=bx0 h;obtain⟨tp,kp,np,ap,hp,e1⟩:=xA h1;subst e1;clear h;have h:=hh;clear hh;split at h
    ·rename_i hq
     simp only[be0] at hq;obtain⟨⟨ct,tab⟩,h2,h⟩:=bx0 h;obtain⟨j,h3,h⟩:=bx0 h;obtain⟨i,h4,h⟩:=bx0 h;split at h
     ·cases h
     ·rename_i hij
      obtain⟨b,h5,rfl⟩:=mx0 h;obtain⟨⟨o1,U1⟩,q1,q2⟩:=bx0 (show (aH Φ Ψ Γ C.c ρ U b).bind _=some (o,U') from q);have B:∀E pn,PassesOwn (model X.prog X.w) X.A X.env E->SsM (tri X E pn) C.c ρ U body o1 U1:=fun E pn po'=>ih.Ss _ _ _ h5 (tri X E pn) c.tri w.tri po' ρ U o1 U1 q1
      have hpl:=hq.2.1;unfold bq at hpl;rw[be0,be0] at hpl;have hX:X.mg x=some (.ref ct):=(w.m.w.xc x ct tab h2).nm.elim id fun z=>by have:=hq.2.2;rw[z.1] at this;simp at this
      cases o1 with
      |nx ρ1=>cases q2;exact mO B (fun g g z=>by cases z)
      |rt d=>cases q2;exact mO B (fun g g z=>by cases z)
      |exc xc ρ1=>
       have q2:(if tab.lookup xc=some true then some (OM.nx ((ρ1.set i (.dat (.exc xc))).set j .no),U1) else Option.none)=some (o,U'):=q2;split at q2
       ·rename_i ht
        cases q2;obtain⟨newId,newIdT,t1,t2,t3⟩:=w.tr x ct tab (fun z=>by have:=hq.2.2;rw[z] at this;simp at this) h2 xc ht;exact xo w.fc B (aK c hq.1.1).1 (aK c hq.1.1).2.2 hX t1 t2 (by decide) t3 (kR c h3) (w.lcl nm (eq_of_beq hq.1.2)) (by simpa using hpl.1.1) (by simpa using hpl.1.2) (kR c h4) hij rfl
       ·cases q2
    ·cases h
 |Pass pos=>cases h;cases q;exact wZ
 |_=>exact nomatch (show (Option.none:Option SM)=some S' from h)
set_option tactic.hygienic false
theorem BR (Φ:Fs)(Ψ:FsM)(Γ:List (Str×D))(k:Nat):∀n,BQ Φ Ψ Γ k n
 |0=>⟨fun a a a h=>(nomatch (show Option.none=some _ from h)),fun a a a h=>(nomatch (show Option.none=some _ from h))⟩
 |n+1=>by
  have ih:=BR Φ Ψ Γ k n;refine⟨fun C st S' h X c w po ρ U o U' q=>EH ih h c w po q,fun C sts S' h X c w po ρ U o U' q=>?_⟩;cases sts with
  |nil=>cases h;cases q;exact Aq
  |cons st r=>
   obtain⟨s',r',h1,h2,rfl⟩:=aJ (h);obtain⟨⟨o1,U1⟩,q1,q2⟩:=bx0 (q);have A:=ih.S _ _ _ h1 X c w po ρ U o1 U1 q1;cases o1 with
   |nx ρ1=>exact tP A (ih.Ss _ _ _ h2 X c w po _ U1 o U' q2)
   |rt d=>cases q2;exact tQ A
   |exc x ρ1=>cases q2;exact tR A
end
section
variable {P:Program}{w:World}{K:Fg}{mg:Str->Option Value}{base:Heap}{Φ:Fs}{Ψ:FsM}{Γ:List (Str×D)}{k:Nat}{V:mR}
structure EI (P:Program)(w:World)(K:Fg)(mg:Str->Option Value)(base:Heap)(Φ:Fs)(Ψ:FsM)(Γ:List (Str×D))(V:mR)(k:Nat):Prop where
 m:Em P w K mg base Φ Γ V.fns (some V.c) V.vms V.xcs k
 fm:∀x,V.mfs.contains x=true->∀φ,Ψ x=some φ->Ap P w K mg base V.c k x φ
 vm:∀m,V.mms.contains m=true->∀φ,Ψ (ao m)=some φ->FnVm P w K mg base V.c k m φ/\φ.lent.headD false=false/\m≠"objects"/\m≠"numbers"
 nw:∀X:Cx,X.prog=P->X.w=w->X.K=K->X.mg=mg->X.base=base->Room k X.A->Gl X V.vn->∀ρ U p pos,EvM X V.c ρ U (.Call (.Name V.vn p) [] [] pos) (.ok (.hdl U.length)) (U++[[]])
 xk:∀t x,V.xks.lookup t=some x->mg t=some (.ref x)/\∃newId initId,ExcBaseFacts "ValueError" newId initId bc/\PySem.W.excIn K x bc newId=true
 tr:∀(t:Str) x tab,t≠("ValueError":Str)->V.xcs.lookup t=some (x,tab)->∀e,tab.lookup e=some true->∃newId newIdT,PySem.W.excIn K e bc newId=true/\PySem.W.excIn K x bc newIdT=true/\dk K e x=true
theorem pC {G H:Hp}{d:Vd}{U:Ust}{N:List Str}{dfn:aY}{ds:List D}{vs:List L2.V}{C:Addr}(s:Same G (er H (parts d)))(r:Das K G (er H (parts d)) dfn.lent ds vs)(hl:ds.length=dfn.lent.length)(hs:dfn.slots=N.length)(hn:vs.length≤N.length)(v:VS P w K C G H d U):
  EnvM P w K C G H d G H d (start N vs) (startM dfn ds) U:=
 ⟨⟨G,_,Same.refl _,⟨Same.refl _,fun a a h a=>h⟩,jO s r hl hs hn⟩,fun a a h a=>h,List.prefix_refl _,v⟩
set_option tactic.hygienic true in
theorem pD {x qual:Str}{st:Stmt}{f:Addr}{fd:FuncData}{ps:List Str}{lent:List Bool}{dfn:aY}(F:Fun K x qual st f fd)(S:bh (ps++ax (defScope st) ps) ps (defScope st))(hp:bu st=some (ps,defBody st,defScope st))(hd:iH V lent st=some dfn)(hlen:lent.length=ps.length)
  (M:EI P w K mg base Φ Ψ Γ V k):FnOk P w K mg base (CX1 P w) (k+1) f fd ps (Mur P w K V.c (runM Φ Ψ Γ V.c dfn)):=by
 unfold iH at hd;rw[hp,bs0] at hd;obtain⟨b,hb,rfl⟩:=mx0 (show (dN 60 (AC V ps (defBody st) (defScope st)) (defBody st)).map _=some dfn from hd);obtain⟨oc,od,kV,doc,pm,an,cdv,ct,osl,rfl,lk,hcd⟩:=F.ex;refine uS (CX:=CX1 P w) lk hcd S (fun vs H Q E h=>?_) (fun A outer s H vs Q E hr h=>?_)
 ·obtain⟨ds,U,U',r,G,d,h1,_,das,_⟩:=h
  have h1:(if ds.length=lent.length then _ else Option.none)=some (U',r):=h1;split at h1
  ·rename_i hl;rw[←das.length,hl,hlen]
  ·cases h1
 ·obtain⟨ds,U,U',r,G,d,h1,sm,das,vs',kq⟩:=h
  have h1:(if ds.length=lent.length then (aH Φ Ψ Γ V.c (startM ⟨lent,(ps++ax (defScope st) ps).length,b⟩ ds) U b).map fun q=>(q.2,mP q.1) else Option.none)=some (U',r):=h1;split at h1
  ·rename_i hl
   obtain⟨⟨o,U1⟩,h2,h3⟩:=mx0 h1;have hpre:=congrArg List.length S.pre;rw[List.length_take] at hpre;have C:CxC (cY (CX1 P w) P w K mg base (ps++ax (defScope st) ps) qual (defScope st) f cdv A outer s H E) (AC V ps (defBody st) (defScope st)).cs:=by
    refine⟨rfl,S.nd,fun y kd e ek=>?_,fun y kd e ek=>⟨?_,.inl rfl⟩,fun y e=>e,fun y e=>e,rfl,S.kind⟩
    ·rcases ek with rfl|rfl|rfl
     ·exact .inl e
     ·exact .inr (.inl e)
     ·exact .inr (.inr e)
    ·rcases ek with rfl|rfl
     ·exact .inl e
     ·exact .inr e
   have W:WzT (cY (CX1 P w) P w K mg base (ps++ax (defScope st) ps) qual (defScope st) f cdv A outer s H E) Φ Ψ Γ (AC V ps (defBody st) (defScope st)) k:=
    ⟨⟨⟨M.m.blt,M.m.fns,M.m.gl,hr,M.m.vcl,M.m.vf,M.m.xc⟩,M.fm,M.vm,M.nw⟩,fun t x h=>⟨(M.xk t x h).1,(M.xk t x h).2⟩,M.tr,fun y e=>e,⟨rfl,rfl,rfl⟩⟩
   have body:=(BR Φ Ψ Γ k 60).Ss _ _ _ hb _ C W PassesOwn.leaving _ U o U1 h2;refine⟨_,body,G,H,d,G,d,pC (N:=ps++ax (defScope st) ps) (dfn:=⟨lent,(ps++ax (defScope st) ps).length,b⟩) sm das hl rfl (by rw[←das.length,hl,hlen];simp_all) vs',?_⟩;cases h3;cases o with
   |nx ρ'=>exact fun G' H' d' σ' env a=>kq .non G' H' d' env.start env.vs .none
   |rt e=>exact fun v G' H' d' m v' dv=>kq v G' H' d' m v' dv
   |exc x ρ'=>exact fun G' H' d' σ' env a pins ea s' I fl=>tL I fl (kq G' H' d' env.start env.vs)
  ·cases h1
structure mU (K:Fg)(mg:Str->Option Value)(V:mR)(x:Str)(d:aY):Prop where
 ex:∃st f fd ps,Fun K x x st f fd/\mg x=some (.ref f)/\Binds K fd ps []/\bh (ps++ax (defScope st) ps) ps (defScope st)/\bu st=some (ps,defBody st,defScope st)/\iH V d.lent st=some d/\d.lent.length=ps.length
structure mV (K:Fg)(V:mR)(m:Str)(d:aY):Prop where
 nm:m≠"objects"/\m≠"numbers"
 hd:d.lent.headD false=false
 ex:∃st f fd ps qual,Fun K m qual st f fd/\Cls K V.c/\ie K V.c m f/\Binds K fd ps []/\bh (ps++ax (defScope st) ps) ps (defScope st)/\bu st=some (ps,defBody st,defScope st)/\iH V d.lent st=some d/\d.lent.length=ps.length
theorem FnZ.mono {x:Str}{φ:Fn}{j:Nat}(F:FnZ P w K mg base j x φ)(h:j≤k):FnZ P w K mg base k x φ:=by
 obtain⟨f,fd,ps,h1,h2,h3,h4⟩:=F.ex;exact⟨⟨f,fd,ps,h1,h2,h3,h4.mono h⟩⟩
theorem FnZv.mono {c:Addr}{m:Str}{φ:Fn}{j:Nat}(F:FnZv P w K mg base j c m φ)(h:j≤k):FnZv P w K mg base k c m φ:=by
 obtain⟨f,fd,ps,h1,h2,h3⟩:=F.ex;exact⟨F.nm,⟨f,fd,ps,h1,h2,h3.mono h⟩⟩
theorem FnVm.mono {c:Addr}{m:Str}{φ:FnM}{j:Nat}(F:FnVm P w K mg base c j m φ)(h:j≤k):FnVm P w K mg base c k m φ:=by
 obtain⟨f,fd,ps,h1,h2,h3,h4⟩:=F.ex;exact⟨⟨f,fd,ps,h1,h2,h3,h4.mono h⟩⟩
structure xB (P:Program)(w:World)(K:Fg)(mg:Str->Option Value)(base:Heap)(Ψ0:FsM)(V:mR):Prop where
 nw:∀X:Cx,X.prog=P->X.w=w->X.K=K->X.mg=mg->X.base=base->Room 2 X.A->Gl X V.vn->∀ρ U p pos,EvM X V.c ρ U (.Call (.Name V.vn p) [] [] pos) (.ok (.hdl U.length)) (U++[[]])
 vm:∀m φ,Ψ0 (ao m)=some φ->FnVm P w K mg base V.c 2 m φ/\φ.lent.headD false=false/\m≠"objects"/\m≠"numbers"
 nf:∀x,V.mfs.contains x=true->Ψ0 x=Option.none
 xk:∀t x,V.xks.lookup t=some x->mg t=some (.ref x)/\∃newId initId,ExcBaseFacts "ValueError" newId initId bc/\PySem.W.excIn K x bc newId=true
 tr:∀(t:Str) x tab,t≠("ValueError":Str)->V.xcs.lookup t=some (x,tab)->∀e,tab.lookup e=some true->∃newId newIdT,PySem.W.excIn K e bc newId=true/\PySem.W.excIn K x bc newIdT=true/\dk K e x=true
theorem eY {prog:List (Str×Def)}{progM:List (Str×aY)}{Ψ0:FsM}(B:Base K mg Γ (some V.c) V.xcs)(BM:xB P w K mg base Ψ0 V)
  (defs:∀x d,V.fns.contains x=true->prog.lookup x=some d->tI K mg V.fns V.cst (some V.c) V.vms V.xcs x d)
  (mets:∀c m d,some V.c=some c->V.vms.contains m=true->prog.lookup (ao m)=some d->tJ K V.fns V.cst c V.vms V.xcs m d)
  (defm:∀x d,V.mfs.contains x=true->progM.lookup x=some d->mU K mg V x d)
  (metm:∀m d,V.mms.contains m=true->progM.lookup (ao m)=some d->mV K V m d):
  ∀k x φ,jh Ψ0 prog progM Γ V.c k x=some φ->(V.mfs.contains x=true->Ap P w K mg base V.c (k+2) x φ)/\∀m,x=ao m->V.mms.contains m=true->FnVm P w K mg base V.c (k+2) m φ/\φ.lent.headD false=false/\m≠"objects"/\m≠"numbers"
 |0,x,φ,h=>by
  have h:Ψ0 x=some φ:=h;refine⟨fun hx=>(by rw[BM.nf x hx] at h;cases h),fun m e hm=>?_⟩;subst e;exact BM.vm m φ h
 |k+1,x,φ,h=>by
  have h:(match Ψ0 x with|some φ=>some φ|Option.none=>(progM.lookup x).map (runM (den prog Γ k) (jh Ψ0 prog progM Γ V.c k) Γ V.c))=some φ:=h;cases q:Ψ0 x with
  |some φ'=>
   rw[q] at h;cases h;refine⟨fun hx=>(by rw[BM.nf x hx] at q;cases q),fun m e hm=>?_⟩;subst e;obtain⟨h1,h2⟩:=BM.vm m φ q;exact⟨h1.mono (by simp_all),h2⟩
  |none=>
   rw[q] at h;obtain⟨d,h1,rfl⟩:=mx0 h;have M:EI P w K mg base (den prog Γ k) (jh Ψ0 prog progM Γ V.c k) Γ V (k+2):=
    ⟨⟨B.blt,fun y hy φ' q=>((dF B defs mets k y φ' q).1 hy).mono (by simp_all),B.gl,B.vcl,fun c m hc hm φ' q=>((dF B defs mets k _ φ' q).2 c m rfl hc hm).mono (by simp_all),B.xc⟩,
     fun y hy φ' q=>(eY B BM defs mets defm metm k y φ' q).1 hy,fun m hm φ' q=>(eY B BM defs mets defm metm k _ φ' q).2 m rfl hm,fun X e1 e2 e3 e4 e5 r g=>BM.nw X e1 e2 e3 e4 e5 (r.mono (by simp_all)) g,BM.xk,BM.tr⟩
   refine⟨fun hx=>?_,fun m e hm=>?_⟩
   ·obtain⟨st,f,fd,ps,F,hm,hb,S,hp,hd,hl⟩:=(defm x d hx h1).ex
    exact⟨⟨f,fd,ps,hm,F.kp,hb,pD F S hp hd hl M⟩⟩
   ·subst e
    have Z:=metm m d hm h1;obtain⟨st,f,fd,ps,qual,F,hc,hme,hb,S,hp,hd,hl⟩:=Z.ex;exact⟨⟨⟨f,fd,ps,hc,hme,hb,pD F S hp hd hl M⟩⟩,Z.hd,Z.nm⟩
theorem AH {prog:List (Str×Def)}{progM:List (Str×aY)}{Ψ0:FsM}(B:Base K mg Γ (some V.c) V.xcs)(BM:xB P w K mg base Ψ0 V)
  (defs:∀x d,V.fns.contains x=true->prog.lookup x=some d->tI K mg V.fns V.cst (some V.c) V.vms V.xcs x d)
  (mets:∀c m d,some V.c=some c->V.vms.contains m=true->prog.lookup (ao m)=some d->tJ K V.fns V.cst c V.vms V.xcs m d)
  (defm:∀x d,V.mfs.contains x=true->progM.lookup x=some d->mU K mg V x d)
  (metm:∀m d,V.mms.contains m=true->progM.lookup (ao m)=some d->mV K V m d) (k:Nat):EI P w K mg base (den prog Γ k) (jh Ψ0 prog progM Γ V.c k) Γ V (k+2):=
 ⟨⟨B.blt,fun y hy φ' q=>((dF B defs mets k y φ' q).1 hy).mono (by simp),B.gl,B.vcl,fun c m hc hm φ' q=>((dF B defs mets k _ φ' q).2 c m rfl hc hm).mono (by simp),B.xc⟩,
  fun y hy φ' q=>(eY B BM defs mets defm metm k y φ' q).1 hy,fun m hm φ' q=>(eY B BM defs mets defm metm k _ φ' q).2 m rfl hm,fun X e1 e2 e3 e4 e5 r g=>BM.nw X e1 e2 e3 e4 e5 (r.mono (by simp)) g,BM.xk,BM.tr⟩
end
def pE (K:Fg):Sp:=fun vs H Q E=>wQ K vs H Q E/\∀a C dx fs,H a≠some (.ins C dx fs)
theorem AI {P:Program}{w:World}{K:Fg}{mg:Str->Option Value}{base:Heap}{k:Nat}{f C:Addr}{fd:FuncData}{ps:List Str}{φ:FnM}(F:FnOk P w K mg base (CX1 P w) k f fd ps (Mur P w K C φ))(hfl:φ.lent=[true])
  (h:∀ns:List Int,ns.length≤63->∃U,φ.run [] [.scr ns]=some (U,.ok (.bool true))):FnOk P w K mg base CX0 k f fd ps (pE K):=by
 have key:∀vs H Q (E:XK),(wQ K vs H Q E/\∀a C dx fs,H a≠some (.ins C dx fs))->Mur P w K C φ vs H Q E0:=fun vs H Q E q=>by
  obtain⟨⟨a,ns,rfl,hS,hl,q⟩,ni⟩:=q;obtain⟨U,hU⟩:=h ns hl;have he:er H (parts [])=H:=rfl;exact⟨_,[],U,_,H,[],hU,Same.refl _,by rw[hfl,he];exact .cons (fun z=>by cases z) (.of (.scr hS)) .nil,⟨rfl,by simp[parts],fun h a l n z=>by simp at z,fun a C' dx fs z=>(ni a C' dx fs z).elim,fun b hb=>by simp[parts] at hb⟩,fun v G' H' d' c c r=>by cases r;exact q H'⟩
 refine⟨fun vs H Q E q=>F.len vs H Q E0 (key vs H Q E q),fun A outer s H args us vs Q E hr e0 hb r q=>?_⟩;refine codeAny_mono (F.run A outer s H args us vs Q E0 hr e0 hb r (key vs H Q E q)) fun r s' z=>?_
 cases r with
 |ok fl=>cases fl<;>exact z
 |error e=>
  obtain⟨_,_,_,_,_,_,_,_,_,_,_,_,_,z⟩:=(z);exact z
section
variable {X:Cx}{pins:List (Addr×Obj)}{σ:St}{H G:Hp}{s:Shared}
theorem AJ (I:Inv X pins σ H s){n:Nat}(ih:∀(d:D) (v:V) (u:Value),Dp X.K G d v->RelV v u->okK n d=true->IsK s.heap n d u):
  ∀{vs:List V} {us:List Value} {ds:List D},Vals vs us->Dps X.K G ds vs->ds.all (okK n)=true->IsKs s.heap n ds us:=by
 intro vs us ds r
 induction r generalizing ds with
 |nil=>intro q _;cases q;exact .nil
 |cons r1 _ ih2=>
  intro q z;cases q with
  |cons q1 q2=>
   rw[List.all_cons,be0] at z;exact .cons (ih _ _ _ q1 r1 z.1) (ih2 q2 z.2)
theorem kZ (I:Inv X pins σ H s)(sm:Same G H):∀(n:Nat) (d:D) (v:V) (u:Value),Dp X.K G d v->RelV v u->okK n d=true->IsK s.heap n d u:=by
 intro n
 induction n with
 |zero=>
  intro d v u h r o;cases h with
  |int i=>obtain⟨t,rfl⟩:=r;exact .int i t
  |str x hx=>obtain⟨t,rfl⟩:=r;exact .str x t hx
  |_=>cases o
 |succ n ih=>
  intro d v u h r o;cases h with
  |int i=>obtain⟨t,rfl⟩:=r;exact .int i t
  |str x hx=>obtain⟨t,rfl⟩:=r;exact .str x t hx
  |tuple q p=>
   cases r;obtain⟨its,rv,⟨ob,e1,e2,m,e3⟩,_⟩:=I.tuple (SqT.of (sm _ _ q));exact .tup e1 e2 e3 (AJ I ih rv p o)
  |_=>cases o
theorem fX:∀{k:Nat} {xs:List (D×Addr×Value)} {as:List Addr} {ds:List D},dW k xs as ds->xs.length=ds.length/\as.length=ds.length
 |_,_,_,_,.nil=>⟨rfl,rfl⟩
 |_,_,_,_,.cons r=>⟨by rw[lc0,lc0,(fX r).1],by rw[lc0,lc0,(fX r).2]⟩
theorem xE {h:Heap}{G:Hp}{K:Fg}(one:∀(d:D) (a:Addr),Dp K G d (.ref a)->okK 8 d=true->IsK h 8 d (.ref a)):∀{k:Nat} {xs:List (D×Addr×Value)} {as:List Addr} {ds:List D},dW k xs as ds->Dps K G ds (as.map .ref)->(∀d∈ds,okK 8 d=true/\jg d=true)->∀x∈xs,IsK h 8 x.1 (.ref x.2.1):=by
 intro k xs as ds n
 induction n with
 |nil=>exact fun b b b z=>by cases z
 |cons r ih=>
  intro q hk x hx;cases q with
  |cons d1 d2=>
   rcases mq0 hx with rfl|hx
   ·exact one _ _ d1 (hk _ ms0).1
   ·exact ih d2 (fun d hd=>hk d (mc0 _ hd)) x hx
theorem numXs_at {d:D}:∀{k:Nat} {xs:List (D×Addr×Value)} {as:List Addr} {ds:List D},dW k xs as ds->(ds.idxOf? d=Option.none/\atKey xs d=Option.none)\/∃j a t,ds.idxOf? d=some j/\atKey xs d=some (a,.int ((k+j:Nat):Int) t)
 |_,_,_,_,.nil=>.inl ⟨rfl,rfl⟩
 |k,_,_,_,.cons (d:=e) r=>by
  unfold atKey;rw[List.find?_cons,List.idxOf?_cons]
  by_cases c:e=d
  ·simp_all
  ·rw[df0 c,beq_eq_false_iff_ne.mpr c]
   rcases numXs_at r with⟨q1,q2⟩|⟨j,a',t',q1,q2⟩
   ·exact .inl ⟨by rw[q1];rfl,q2⟩
   ·refine .inr ⟨j+1,a',t',by rw[q1];rfl,?_⟩
    rwa [show k+(j+1)=k+1+j by omega]
theorem jS {d:D}{a:Addr}{t:Tok}:∀{k:Nat} {xs:List (D×Addr×Value)} {as:List Addr} {ds:List D},dW k xs as ds->dW k (xs++[(d,a,.int ((k+ds.length:Nat):Int) t)]) (as++[a]) (ds++[d])
 |k,_,_,_,.nil=>.cons .nil
 |k,_,_,_,.cons (ds:=ds) r=>by
  have:=jS (d:=d) (a:=a) (t:=t) r;rw[show k+1+ds.length=k+(ds.length+1) by grind] at this;exact .cons this
theorem iI {n:Addr}{as:List Addr}{objs:List D}(I:Inv X pins σ H s)(sm:Same G H)(hn:H n=some (.ext (bW X.prog X.w n as objs)))(dp:Dps X.K G objs (as.map .ref))(hk:∀d∈objs,okK 8 d=true/\jg d=true):
  (n==sysModules)=false/\objs.length≤1000000/\∃xs,dW 0 xs as objs/\s.heap.DictOfH (mI X.prog X.w) n xs:=by
 obtain⟨⟨h1,xs,nx,hl,o,es,ep,ho,hx,hd,he,nd⟩,_⟩:=(I.hok n _ hn);exact⟨h1,hl,xs,nx,o,es,ep,ho,hx,hd,he,xE (fun d a q o=>kZ I sm 8 d _ _ q rfl o) nx dp hk,nd⟩
def Vat (X:Cx)(G H:Hp)(x y:V)(d:D)(n:Addr)(as:List Addr)(objs:List D):Prop:=
 y=.ref n/\Same G H/\Dp X.K G d x/\okK 8 d=true/\jg d=true/\H n=some (.ext (bW X.prog X.w n as objs))/\Dps X.K G objs (as.map .ref)/\∀d∈objs,okK 8 d=true/\jg d=true
theorem iJ {K:Fg}{d:D}{x:V}(h:Dp K G d x)(t:jg d=true):∃a,x=.ref a:=by
 cases h<;>first|exact⟨_,rfl⟩|cases t
theorem uc (hu:X.A.units+100<cLine):OpR X (compareOp .NotIn) (fun x y H Q=>∃G d n as objs,Vat X G H x y d n as objs/\Q (.bl (objs.idxOf? d).isNone) H):=by
 intro pins s σ H x y v u Q I rx ry h;obtain⟨G,d,n,as,objs,⟨rfl,sm,dx,ok,tp,hn,dp,hk⟩,q⟩:=h;obtain⟨a,rfl⟩:=iJ dx tp;cases ry;cases rx;obtain⟨h1,hl,xs,nx,dd⟩:=iI I sm hn dp hk;refine wpAny_notIn_heap (show X.A.units+1+64<cLine by grind) (kZ I sm 8 d _ _ dx rfl ok) h1 dd ⟨.bl (!(atKey xs d).isSome),H,I.tok _,rfl,?_⟩;rcases numXs_at (d:=d) nx with⟨q1,q2⟩|⟨j,a',t,q1,q2⟩
 ·rw[q1] at q;rw[q2];exact q
 ·rw[q1] at q;rw[q2];exact q
theorem Jg (hu:X.A.units+100<cLine):IxR X (fun x y H Q=>∃G d n as objs j,Vat X G H y x d n as objs/\objs.idxOf? d=some j/\Q (.int (j:Nat)) H):=by
 intro value slice pins s σ H x y v u Q I rx ry h hs;obtain⟨G,d,n,as,objs,j,⟨rfl,sm,dx,ok,tp,hn,dp,hk⟩,hj,q⟩:=h;obtain⟨a,rfl⟩:=iJ dx tp;cases ry;cases rx;obtain⟨h1,hl,xs,nx,dd⟩:=iI I sm hn dp hk;rcases numXs_at (d:=d) nx with⟨q1,q2⟩|⟨j',a',t,q1,q2⟩
 ·simp_all
 ·rw[hj] at q1
  cases q1;refine tail_any dd.typeIs PySem.F.slot_dict_getitem.lookup (wpAny_getItem_heap (show X.A.units+1+64<cLine by omega) (kZ I sm 8 d _ _ dx rfl ok) dd q2 ⟨.int _,H,I.tok _,⟨t,?_⟩,q⟩) hs;rw[Nat.zero_add]
theorem GX (hu:X.A.units+100<cLine):CM X (fun o i v H Q=>∃G d n as objs a,Vat X G H i o d n as objs/\i=.ref a/\objs.idxOf? d=Option.none/\objs.length<1000000/\v=.int (objs.length:Nat)/\Q (upd H n (.ext (bW X.prog X.w n (as++[a]) (objs++[d]))))):=by
 intro pins s σ H o i v ov iv u Q I ro ri rv h;obtain⟨G,d,n,as,objs,a,⟨rfl,sm,dx,ok,tp,hn,dp,hk⟩,rfl,hj,hlt,rfl,q⟩:=h;cases ro;cases ri;obtain⟨t,rfl⟩:=rv;obtain⟨h1,hl,xs,nx,dd⟩:=iI I sm hn dp hk;have hz:xs.length≤sizeLine:=by rw[(fX nx).1,sizeLine_eq];grind
 rcases numXs_at (d:=d) nx with⟨q1,q2⟩|⟨j',a',t',q1,q2⟩
 ·refine wpAny_setItem_heap (hsz:=hz) (show X.A.units+1+64<cLine by grind) (kZ I sm 8 d _ _ dx rfl ok) dd fun h' dd' hs=>⟨_,?_,q⟩
  obtain⟨ob,es,ep,hq,h2,h3,h4,_,h5⟩:=dd';rw[storedH_new q2] at h4 h5;have nx':=jS (d:=d) (a:=a) (t:=t) nx;rw[Nat.zero_add] at nx';exact I.write (t':=_) (by rw[hn];exact True.intro) (.inl rfl) (fun b w hb e=>(hs.2 b hb).trans e) ⟨ob,hq⟩ ⟨⟨h1,_,nx',by simp;grind,ob,es,ep,hq,h2,h3,h4,h5⟩,⟨ob,hq⟩,fun h1' h2' ⟨y1,ys,y2,y3,yo,yes,yep,y4,y5⟩ k=>⟨y1,ys,y2,y3,yo,yes,yep,k yo y4,y5⟩⟩
 ·rw[hj] at q1;cases q1
end
noncomputable def iK (U:Ust):List D->Option (Ust×R)
 |[.hdl h,d]=>(U[h]?).bind fun objs=>if okK 8 d&&jg d&&decide (objs.length<1000000) then (match objs.idxOf? d with
  |some j=>some (U,.ok (.int (j:Nat)))
  |none=>some (U.set h (objs++[d]),.ok (.int (objs.length:Nat)))) else none
 |_=>none
noncomputable def gu:FnM:=⟨[false,false],iK⟩
set_option tactic.hygienic true in
theorem jT {d:D}:∀{os:List D},os.idxOf? d=Option.none->(os++[d]).idxOf? d=some os.length
 |[],_=>by simp
 |o::r,h=>by
  rw[List.idxOf?_cons] at h;rw[List.cons_append,List.idxOf?_cons];split at h
  ·cases h
  ·rename_i c
   rw[if_neg c];cases q:r.idxOf? d with
   |some j=>simp_all
   |none=>rw[jT q];rfl
theorem VS.put {P:Program}{w:World}{K:Fg}{C:Addr}{G H:Hp}{dd:Vd}{U:Ust}(v:VS P w K C G H dd U)(sm:Same G (er H (parts dd))){h:Nat}{a l n dx b:Addr}{objs:List D}{as:List Addr}{d:D}(e:dd[h]?=some (a,l,n))(hU:U[h]?=some objs)(hl:H l=some (.lst (as.map .ref)))
  (hn:H n=some (.ext (bW P w n as objs))) (dp:Dps K G objs (as.map .ref)) (hk:∀d∈objs,okK 8 d=true/\jg d=true) (dv:Dp K G d (.ref b)) (ok:okK 8 d=true) (tp:jg d=true):
  MExt G H dd G (upd (upd H n (.ext (bW P w n (as++[b]) (objs++[d])))) l (.lst ((as++[b]).map .ref))) dd/\VS P w K C G (upd (upd H n (.ext (bW P w n (as++[b]) (objs++[d])))) l (.lst ((as++[b]).map .ref))) dd (U.set h (objs++[d])):=by
 obtain⟨ml,mn⟩:=jP e;have nln:n≠l:=fun z=>by subst z;rw[hl] at hn;cases hn
 have out:∀c,c∉parts dd->upd (upd H n (.ext (bW P w n (as++[b]) (objs++[d])))) l (.lst ((as++[b]).map .ref)) c=H c:=fun c hc=>by
  have c1:c≠l:=fun z=>hc (by rw[z];exact ml)
  have c2:c≠n:=fun z=>hc (by rw[z];exact mn)
  rw[aa c1,aa c2]
 have ere:er (upd (upd H n (.ext (bW P w n (as++[b]) (objs++[d])))) l (.lst ((as++[b]).map .ref))) (parts dd)=er H (parts dd):=by
  funext c
  by_cases hc:c∈parts dd
  ·rw[qM hc,qM hc]
  ·rw[aN hc,aN hc,out c hc]
 have hlen:=(List.getElem?_eq_some_iff.mp hU).1;refine⟨⟨Same.refl _,by rw[ere];exact Same.refl _,by rw[ere];exact sm,fun f f h f=>h,List.prefix_refl _,fun c o hc=>?_⟩,⟨by rw[v.len];simp,v.nd,fun h' a' l' n' e'=>?_,fun c C' dx' fs q=>?_,v.out⟩⟩
 ·by_cases c1:c=l
  ·subst c1;exact⟨_,ae⟩
  ·rw[aa c1]
   by_cases c2:c=n
   ·subst c2;exact⟨_,ae⟩
   ·rw[aa c2];exact⟨o,hc⟩
 ·obtain⟨dx',objs',q1,q2,q3,as',q4,q5,q6,q7⟩:=v.at' h' a' l' n' e'
  have hdx:upd (upd H n (.ext (bW P w n (as++[b]) (objs++[d])))) l (.lst ((as++[b]).map .ref)) dx'=some (.own a'):=by
   have c1:dx'≠l:=fun z=>by rw[z,hl] at q3;cases q3
   have c2:dx'≠n:=fun z=>by rw[z,hn] at q3;cases q3
   rw[aa c1,aa c2];exact q3
  by_cases hh:h'=h
  ·subst hh
   rw[e] at e';cases e';rw[hU] at q1;cases q1;rw[hl] at q4;have eas:as'=as:=by
    have z:as.map V.ref=as'.map V.ref:=HO.lst.inj (Option.some.inj q4);exact (List.map_inj_right (fun f f z=>V.ref.inj z)).mp z.symm
   subst eas;refine⟨dx',objs++[d],by rw[gs0 hlen],q2,hdx,as'++[b],ae,by rw[List.map_append];exact q5.append (.one dv),by rw[aa nln];exact ae,fun y hy=>?_⟩;rcases ma0 hy with hy|hy
   ·exact hk y hy
   ·obtain rfl:y=d:=by simpa using hy
    exact⟨ok,tp⟩
  ·have ap:l'≠l/\l'≠n/\n'≠l/\n'≠n:=by
    have key:∀(dd:Vd) (i j:Nat) (p q:Addr×Addr×Addr),(parts dd).Nodup->i<j->dd[i]?=some p->dd[j]?=some q->∀x∈[p.2.1,p.2.2],∀y∈[q.2.1,q.2.2],x≠y:=by
     intro dd
     induction dd with
     |nil=>intro i j p q _ _ h1;simp at h1
     |cons r rs ih=>
      intro i j p q nd hij h1 h2 x hx y hy;have nd2:([r.2.1,r.2.2]++parts rs).Nodup:=nd;obtain⟨n1,n2,n3⟩:=List.nodup_append.mp nd2;cases i with
      |zero=>
       cases j with
       |zero=>exact absurd hij (li0 _)
       |succ j=>
        simp at h1;subst h1;exact n3 x hx y (List.mem_flatMap.mpr ⟨q,mg0 (by simpa using h2),hy⟩)
      |succ i=>
       cases j with
       |zero=>exact absurd hij (Nat.not_lt_zero _)
       |succ j=>exact ih i j p q n2 (by grind) (by simpa using h1) (by simpa using h2) x hx y hy
    rcases Nat.lt_or_gt_of_ne hh with c|c
    ·have k2:=key dd h' h _ _ v.nd c e' e
     exact⟨k2 _ (by simp) _ (by simp),k2 _ (by simp) _ (by simp),k2 _ (by simp) _ (by simp),k2 _ (by simp) _ (by simp)⟩
    ·have k2:=key dd h h' _ _ v.nd c e e'
     exact⟨(k2 _ (by simp) _ (by simp)).symm,(k2 _ (by simp) _ (by simp)).symm,(k2 _ (by simp) _ (by simp)).symm,(k2 _ (by simp) _ (by simp)).symm⟩
   obtain⟨a1,a2,a3,a4⟩:=ap;exact⟨dx',objs',by rw[gn0 (Ne.symm hh)];exact q1,q2,hdx,as',by rw[aa a1,aa a2];exact q4,q5,by rw[aa a3,aa a4];exact q6,q7⟩
 ·have:H c=some (.ins C' dx' fs):=by
   by_cases c1:c=l
   ·subst c1;rw[ae] at q;cases q
   ·rw[aa c1] at q
    by_cases c2:c=n
    ·subst c2;rw[ae] at q;cases q
    ·rw[aa c2] at q;exact q
  exact v.uni c C' dx' fs this
structure xF (st:Stmt):Prop where
 ex:∃p1 p2 p3 p4 p5 p6 p7 p8 p9 p10 p11 p12 p13 p14 p15 p16 p17 p18 p19 p20 p21 p22 p23 p24 p25:Pos,(p16.endLine==p18.line)=true/\defBody st =
  [.If (.Compare (.Name "made" p1) [.NotIn] [.Attribute (.Name "self" p2) "numbers" p3] p4)
   [.Assign [.Subscript (.Attribute (.Name "self" p5) "numbers" p6) (.Name "made" p7) p8] (.Call (.Name "len" p9) [.Attribute (.Name "self" p10) "objects" p11] [] p12) p13,
    .Expr (.Call (.Attribute (.Attribute (.Name "self" p14) "objects" p15) "append" p16) [.Name "made" p17] [] p18) p19] [] p20,
   .Return (some (.Subscript (.Attribute (.Name "self" p21) "numbers" p22) (.Name "made" p23) p24)) p25]
 gl:(defScope st).names.lookup ("len":Str)=some NameKind.globalImplicit
set_option tactic.hygienic true in
theorem EJ {P:Program}{w:World}{K:Fg}{mg:Str->Option Value}{base:Heap}{C:Addr}{x qual:Str}{st:Stmt}{f:Addr}{fd:FuncData}(F:Fun K x qual st f fd)(S:bh ["self","made"] ["self","made"] (defScope st))(T:xF st)(hlen:mg "len"=none)(hc:Cls K C)(h1:NoAttr K C "objects")(h2:NoAttr K C "numbers"):
  FnOk P w K mg base (CX1 P w) 2 f fd ["self","made"] (Mur P w K C gu):=by
 obtain⟨oc,od,kV,doc,pm,an,cdv,ct,osl,rfl,lk,hcd⟩:=F.ex;obtain⟨p1,p2,p3,p4,p5,p6,p7,p8,p9,p10,p11,p12,p13,p14,p15,p16,p17,p18,p19,p20,p21,p22,p23,p24,p25,hline,hbody⟩:=T.ex;refine uS (CX:=CX1 P w) lk hcd S (fun vs H Q E h=>?_) (fun A outer s H vs Q E hr h=>?_)
 ·obtain⟨ds,U,U',r,G,d,h1,_,das,_⟩:=h
  have:ds.length=2:=by
   match ds,h1 with
   |[.hdl h,d],_=>rfl
  rw[←das.length,this];rfl
 ·obtain⟨ds,U,U',r,G,dd,hrun,sm,das,v,kq⟩:=h
  have sm':Same G H:=sm.trans aD;have hu:(cY (CX1 P w) P w K mg base ["self","made"] qual (defScope st) f cdv A outer s H E).A.units+100<cLine:=by have:=hr.un;show (A.deeper _).units+100<_;omega
  have vself:∀p:Pos,PE (cY (CX1 P w) P w K mg base ["self","made"] qual (defScope st) f cdv A outer s H E) (.Name "self" p) (uz 0):=fun p=>cq rfl ((S.par "self" (by simp)).elim .inl fun z=>.inr (.inl z))
  have vmade:∀p:Pos,PE (cY (CX1 P w) P w K mg base ["self","made"] qual (defScope st) f cdv A outer s H E) (.Name "made" p) (uz 1):=fun p=>cq rfl ((S.par "made" (by simp)).elim .inl fun z=>.inr (.inl z))
  have num:=fun (p q:Pos)=>oa (pos:=q) (f:="numbers") (vself p) rfl
  have obs:=fun (p q:Pos)=>oa (pos:=q) (f:="objects") (vself p) rfl
  rw[hbody];refine⟨_,aT (jk (pos:=p20) (gK (pos:=p4) (uc hu) (vmade p1) (num p2 p3) rfl)
   (aT (uD (pos:=p13) (bT (p:=p9) (pos:=p12) kz T.gl hlen PySem.boot_len (aA (obs p10 p11) aU)) (uC (pos:=p8) (num p5 p6) (vmade p7) (GX hu)))
    (aT (gH (pos:=p19) (lI (apos:=p16) (cpos:=p18) PySem.F.plainAttrs_list PySem.F.slot_list_append PySem.F.type_list_append fF (obs p14 p15) (aA (vmade p17) aU) rfl rfl hline)) dA)) dA)
   (aT (kr (pos:=p25) (qg (pos:=p24) (Jg hu) (num p21 p22) (vmade p23) fun c c=>rfl)) dA),?_⟩
  match ds,hrun,das with
  |[.hdl h,d],hrun,das=>
   obtain⟨va,vb,rfl,da,db⟩:=das.two;have da:Dp K G (.hdl h) va:=da.dp rfl;obtain⟨objs,hU,hrun⟩:=bx0 (show (U[h]?).bind _=some (U',r) from hrun);split at hrun
   ·rename_i hq
    simp only[be0,decide_eq_true_eq] at hq;obtain⟨⟨ok,tp⟩,hlt⟩:=hq;have db:Dp K G d vb:=db.dp (by cases d<;>first|rfl|cases tp);obtain⟨b,rfl⟩:=iJ db tp;obtain⟨a,l,n,dx,objs',rfl,e,hU',hG,hdx,as,hl,dp,hn,hk⟩:=v.hdl sm' da;rw[hU] at hU';cases hU';have hlo:(vfs l n h).lookup ("objects":Str)=some (V.ref l):=rfl;have hln:(vfs l n h).lookup ("numbers":Str)=some (V.ref n):=rfl;have fself:(start ["self","made"] [V.ref a,V.ref b])[0]?=some (some (.ref a)):=rfl;have fmade:(start ["self","made"] [V.ref a,V.ref b])[1]?=some (some (.ref b)):=rfl;have aslen:as.length=objs.length:=by have:=dp.length;simpa using this.symm
    refine⟨.ref b,fmade,.ref a,fself,a,C,dx,_,_,rfl,sm' _ _ hG,hc,h2,hln,G,d,n,as,objs,⟨rfl,sm',db,ok,tp,hn,dp,hk⟩,?_⟩;cases hj:objs.idxOf? d with
    |some j=>
     rw[hj] at hrun;cases hrun;refine⟨false,rfl,kA ⟨.ref a,fself,a,C,dx,_,_,rfl,sm' _ _ hG,hc,h2,hln,.ref b,fmade,G,d,n,as,objs,j,⟨rfl,sm',db,ok,tp,hn,dp,hk⟩,hj,?_⟩⟩;exact kq _ G H dd (.refl sm) v (.int _)
    |none=>
     rw[hj] at hrun;cases hrun;have nln:n≠l:=fun z=>by subst z;rw[hl] at hn;cases hn
     have anl:a≠l:=fun z=>by rw[z] at hG;rw[sm' _ _ hG] at hl;cases hl
     have ann:a≠n:=fun z=>by rw[z] at hG;rw[sm' _ _ hG] at hn;cases hn
     refine⟨true,rfl,kB ?_⟩;refine⟨.ref a,fself,a,C,dx,_,_,rfl,sm' _ _ hG,hc,h1,hlo,l,as.map .ref,rfl,.inl (SqL.of hl),.ref a,fself,a,C,dx,_,_,rfl,sm' _ _ hG,hc,h2,hln,.ref b,fmade,G,d,n,as,objs,b,⟨rfl,sm',db,ok,tp,hn,dp,hk⟩,rfl,hj,hlt,by rw[lm0,aslen],?_⟩;obtain⟨mx,v2⟩:=v.put sm (dx:=dx) e hU hl hn dp hk db ok tp;refine⟨.ref a,fself,a,C,dx,_,_,rfl,by rw[aa ann];exact sm' _ _ hG,hc,h1,hlo,.inl ⟨rfl,as.map .ref,SqL.of (by rw[aa (Ne.symm nln)];exact hl)⟩,.ref b,fmade,l,as.map .ref,.ref b,rfl,rfl,by rw[aa (Ne.symm nln)];exact hl,by rw[lm0,aslen,sizeLine_eq];omega,?_⟩;have eas:(as.map V.ref++[V.ref b])=(as++[b]).map V.ref:=by simp
     rw[eas];have sm2:=mx.gh.trans aD;refine⟨.ref a,fself,a,C,dx,_,_,rfl,sm2 _ _ hG,hc,h2,hln,.ref b,fmade,G,d,n,as++[b],objs++[d],objs.length,⟨rfl,sm2,db,ok,tp,by rw[aa nln];exact ae,by rw[List.map_append];exact dp.append (.one db),fun y hy=>?_⟩,jT hj,kq _ G _ dd mx v2 (.int _)⟩;rcases ma0 hy with hy|hy
     ·exact hk y hy
     ·obtain rfl:y=d:=by simpa using hy
      exact⟨ok,tp⟩
   ·cases hrun
noncomputable def AK (C dx l n:Addr):HO:=.ins C dx [("objects",.ref l),("numbers",.ref n)]
def iM (C x dx l n:Addr)(H:Hp):Hp:=upd (upd (upd (upd H l (.lst [])) x (.ins C dx [("objects",.ref l)])) n (.dK [])) x (AK C dx l n)
def xG (C:Addr):Sp:=fun vs H Q a=>∃x dx,vs=[.ref x]/\H x=some (.ins C dx [])/\∀l n,H l=none->H n=none->l≠n->Q .non (iM C x dx l n H)
structure qR (st:Stmt):Prop where
 ex:∃p1 p2 p3 p4 p5 p6 p7 p8:Pos,defBody st=[.Assign [.Attribute (.Name "self" p1) "objects" p2] (.List [] p3) p4,.Assign [.Attribute (.Name "self" p5) "numbers" p6] (.Dict [] [] p7) p8]
theorem AL {P:Program}{w:World}{K:Fg}{mg:Str->Option Value}{base:Heap}{C:Addr}{x qual:Str}{st:Stmt}{f:Addr}{fd:FuncData}(F:Fun K x qual st f fd)(S:bh ["self"] ["self"] (defScope st))(T:qR st)(hc:Cls K C)(h1:NoAttr K C "objects")(h2:NoAttr K C "numbers"):
  FnOk P w K mg base CX0 1 f fd ["self"] (xG C):=by
 obtain⟨p1,p2,p3,p4,p5,p6,p7,p8,hbody⟩:=T.ex;refine F.ok S (fun vs H Q E h=>?_) (fun cdv A outer s H vs Q E hr h=>?_)
 ·obtain⟨x,dx,rfl,_⟩:=h;rfl
 ·obtain⟨x,dx,rfl,hx,q⟩:=h
  have vself:∀p:Pos,PE (cY CX0 P w K mg base ["self"] qual (defScope st) f cdv A outer s H E).nox (.Name "self" p) (uz 0):=fun p=>cq rfl ((S.par "self" (by simp)).elim .inl fun z=>.inr (.inl z))
  rw[hbody];refine⟨_,aT (uN (pos:=p4) (pos':=p2) (f:="objects") (vself p1) (uO (pos:=p3) aU) rfl) (aT (uN (pos:=p8) (pos':=p6) (f:="numbers") (vself p5) (uX (pos:=p7)) rfl) dA),?_⟩;refine⟨Nat.zero_le _,fun l hl=>⟨.ref x,rfl,x,C,dx,[],rfl,?_,hc,h1,by decide,fun n hn=>⟨.ref x,rfl,x,C,dx,[("objects",.ref l)],rfl,?_,hc,h2,(show 1<1000 by decide),?_⟩⟩⟩
  ·rw[aa (aq hx hl)];exact hx
  ·have nx:n≠x:=fun z=>by subst z;rw[ae] at hn;cases hn
   rw[aa (Ne.symm nx)];exact ae
  ·have nx:n≠x:=fun z=>by subst z;rw[ae] at hn;cases hn
   rw[aa nx] at hn;have nl:n≠l:=fun z=>by subst z;rw[ae] at hn;cases hn
   rw[aa nl] at hn;exact q l n hl hn (Ne.symm nl)
theorem xH (l n:Addr)(h:Nat)(f:Str):(vfs l n h).lookup f=([("objects",.ref l),("numbers",.ref n)]:List (Str×V)).lookup f:=by
 unfold vfs;simp only[lk0];cases c:f=="objects"<;>rfl
structure xI (P:Program)(w:World)(K:Fg)(mg:Str->Option Value)(base:Heap)(C:Addr)(vn:Str):Prop where
 ex:∃f fd,Mk K C f/\mg vn=some (.ref C)/\(vn==("__debug__":Str))=false/\Binds K fd ["self"] []/\FnOk P w K mg base CX0 1 f fd ["self"] (xG C)
theorem AM {X:Cx}{C:Addr}{vn:Str}{ρ:List Sl}{U:Ust}{p pos:Pos}(Z:xI X.prog X.w X.K X.mg X.base C vn)(hr:Room 2 X.A)(hg:Gl X vn):EvM X C ρ U (.Call (.Name vn p) [] [] pos) (.ok (.hdl U.length)) (U++[[]]):=by
 obtain⟨f,fd,hM,hm,hdb,hb,F⟩:=Z.ex;intro pins s σ H Q I h0;obtain⟨G0,H0,d0,G,d,E,kq⟩:=h0;refine thn (uR (p:=p) (pos:=pos) hM F hr hg hm hb .nil qk hdb pins s σ H (fun v H2=>∃x dx l n,v=.ref x/\H x=none/\H dx=none/\dx≠x/\l≠x/\n≠x/\l≠dx/\n≠dx/\l≠n/\H l=none/\H n=none/\H2=iM C x dx l n (upd (upd H dx (.own x)) x (.ins C dx []))) I ?_) fun u s2 hq=>?_
 ·intro x dx hx hdx hne
  refine⟨x,dx,rfl,ae,fun l n hl hn hln=>⟨rfl,x,dx,l,n,rfl,hx,hdx,hne,?_⟩⟩;have l1:l≠x:=fun z=>by subst z;rw[ae] at hl;cases hl
  rw[aa l1] at hl;have l2:l≠dx:=fun z=>by subst z;rw[ae] at hl;cases hl
  rw[aa l2] at hl;have n1:n≠x:=fun z=>by subst z;rw[ae] at hn;cases hn
  rw[aa n1] at hn;have n2:n≠dx:=fun z=>by subst z;rw[ae] at hn;cases hn
  rw[aa n2] at hn;exact⟨l1,n1,l2,n2,hln,hl,hn,rfl⟩
 ·obtain⟨v,H2,I2,rv,x,dx,l,n,rfl,hx,hdx,hne,l1,n1,l2,n2,hln,hl,hn,rfl⟩:=hq
  generalize hH2:iM C x dx l n (upd (upd H dx (.own x)) x (.ins C dx []))=H2 at I2;have at_x:H2 x=some (AK C dx l n):=by rw[←hH2];exact ae
  have at_n:H2 n=some (.dK []):=by rw[←hH2];unfold iM;rw[aa n1];exact ae
  have at_l:H2 l=some (.lst []):=by rw[←hH2];unfold iM;rw[aa l1,aa hln,aa l1];exact ae
  have at_dx:H2 dx=some (.own x):=by rw[←hH2];unfold iM;rw[aa hne,aa (Ne.symm n2),aa hne,aa (Ne.symm l2),aa hne];exact ae
  have other:∀b,b≠x->b≠dx->b≠l->b≠n->H2 b=H b:=fun b b1 b2 b3 b4=>by rw[←hH2];unfold iM;rw[aa b1,aa b4,aa b1,aa b3,aa b1,aa b2]
  obtain⟨_,hsm,vs,kv,⟨o,es,ep,ho,hex,hdt,_,hpr,_⟩⟩:=(show ObjOk X.prog X.w H2 s2.heap n (.dK []) from I2.hok n _ at_n);have hvs:vs=[]:=by cases kv;rfl
  subst hvs;have hes:es.toList=[]:=by cases q:es.toList with|nil=>rfl|cons a r=>rw[q] at hpr;cases hpr
  have num:bW X.prog X.w n [] [] s2.heap:=⟨hsm,[],.nil,by decide,o,es,ep,ho,hex,hdt,hes,List.nodup_nil⟩;have I3:Inv X pins σ (upd H2 n (.ext (bW X.prog X.w n [] []))) {s2 with heap:=s2.heap,toks:=s2.toks}:=I2.write (x:=n) (e:=n) (by rw[at_n];exact True.intro) (.inl rfl) (fun b w g e=>e) ⟨o,ho⟩
   ⟨num,⟨o,ho⟩,by rintro h1' h2' ⟨y1,ys,y2,y3,yo,yes,yep,y4,y5⟩ k;exact⟨y1,ys,y2,y3,yo,yes,yep,k yo y4,y5⟩⟩
  generalize hH3:upd H2 n (.ext (bW X.prog X.w n [] []))=H3 at I3;have b_x:H3 x=some (AK C dx l n):=by rw[←hH3,aa (Ne.symm n1)];exact at_x
  have b_dx:H3 dx=some (.own x):=by rw[←hH3,aa (Ne.symm n2)];exact at_dx
  obtain⟨z1,z2,z3,z4,mA,z5,z6,z7⟩:=(show ObjOk X.prog X.w H3 s2.heap x (AK C dx l n) from I3.hok x _ b_x);have I4:Inv X pins σ (upd H3 x (.ins C dx (vfs l n U.length))) {s2 with heap:=s2.heap,toks:=s2.toks}:=I3.write (x:=x) (e:=x) (by rw[b_x];exact True.intro) (.inl rfl) (fun b w g e=>e) ⟨_,z4⟩
   ⟨by rw[aa hne];exact b_dx,(show 3≤1000 by decide),z3,z4,mA,z5,fun f=>by rw[xH];exact z6 f,fun f hf=>by
    have:=z7 f hf;simp only[mk0,List.map_nil,List.mem_cons,List.not_mem_nil,or_false] at this;unfold vfs;rcases this with z|z
    ·exact List.mem_cons.mpr (.inl z)
    ·exact mc0 _ (List.mem_cons.mpr (.inl z))⟩
  generalize hH4:upd H3 x (.ins C dx (vfs l n U.length))=H4 at I4;have c_x:H4 x=some (.ins C dx (vfs l n U.length)):=by rw[←hH4];exact ae
  have c_dx:H4 dx=some (.own x):=by rw[←hH4,aa hne];exact b_dx
  have c_n:H4 n=some (.ext (bW X.prog X.w n [] [])):=by rw[←hH4,aa n1,←hH3];exact ae
  have c_l:H4 l=some (.lst []):=by rw[←hH4,aa l1,←hH3,aa hln];exact at_l
  have c_o:∀b,b≠x->b≠dx->b≠l->b≠n->H4 b=H b:=fun b b1 b2 b3 b4=>by rw[←hH4,aa b1,←hH3,aa b4];exact other b b1 b2 b3 b4
  have keep:∀b o,H b=some o->H4 b=some o:=fun b o e=>by
   rw[c_o b (aq e hx) (aq e hdx) (aq e hl) (aq e hn)];exact e
  have hlen:=E.vs.len
  let G':Hp:=upd G x (.ins C dx (vfs l n U.length))
  have gx:∀b,H b=none->G b=none:=fun b hb=>E.sub.free hb
  have gg:Same G G':=aP (gx x hx);have pd:parts (d++[(x,l,n)])=parts d++[l,n]:=by unfold parts;rw[List.flatMap_append];rfl
  have nl:∀b,H b=none->b∉parts d:=fun b hb z=>by
   obtain⟨o,ho⟩:=E.vs.part z;rw[hb] at ho;cases ho
  have hh:Same (er H (parts d)) (er H4 (parts (d++[(x,l,n)]))):=fun b o e=>by
   obtain⟨e1,e2⟩:=bj e;rw[aN (by
           rw[pd];intro z;rcases ma0 z with z|z
           ·exact e1 z
           ·simp only[List.mem_cons,List.not_mem_nil,or_false] at z
            rcases z with rfl|rfl
            ·rw[hl] at e2;cases e2
            ·rw[hn] at e2;cases e2)]
   exact keep b o e2
  have mx:MExt G H d G' H4 (d++[(x,l,n)]):=by
   refine⟨gg,hh,fun b o e=>?_,fun b o e1 e2=>?_,List.prefix_append _ _,fun b o e=>⟨o,keep b o e⟩⟩
   ·by_cases c:b=x
    ·subst c
     have e:upd G b (.ins C dx (vfs l n U.length)) b=some o:=e;rw[ae] at e;cases e;rw[aN (by
             rw[pd];intro z;rcases ma0 z with z|z
             ·exact nl b hx z
             ·simp only[List.mem_cons,List.not_mem_nil,or_false] at z
              rcases z with z|z
              ·exact l1 z.symm
              ·exact n1 z.symm)]
     exact c_x
    ·have e:upd G x (.ins C dx (vfs l n U.length)) b=some o:=e
     rw[aa c] at e;exact hh b o (E.sub' b o e)
   ·show upd G x (.ins C dx (vfs l n U.length)) b=none
    rw[aa (aq e2 hx)];exact e1
  have v':VS X.prog X.w X.K C G' H4 (d++[(x,l,n)]) (U++[[]]):=by
   refine⟨by simp[hlen],?_,fun h a l' n' e=>?_,fun a C' dx' fs q=>?_,fun b hb=>?_⟩
   ·rw[pd]
    refine List.nodup_append.mpr ⟨E.vs.nd,by simp[hln],fun a ha b hb z=>?_⟩;subst z;simp only[List.mem_cons,List.not_mem_nil,or_false] at hb;rcases hb with rfl|rfl
    ·exact nl _ hl ha
    ·exact nl _ hn ha
   ·by_cases hlt:h<d.length
    ·rw[gl0 hlt] at e
     obtain⟨dx',objs,q1,q2,q3,as,q4,q5,q6,q7⟩:=E.vs.at' h a l' n' e;exact⟨dx',objs,by rw[gl0 (by rw[←hlen];exact hlt)];exact q1,gg _ _ q2,keep _ _ q3,as,keep _ _ q4,q5.mono gg,keep _ _ q6,q7⟩
    ·rw[List.getElem?_append_right (by simp_all)] at e
     have h0:h-d.length=0:=by
      have:=(List.getElem?_eq_some_iff.mp e).1;simp at this;omega
     rw[h0] at e;cases e;have eh:h=U.length:=by omega
     subst eh;refine⟨dx,[],by simp,ae,c_dx,[],c_l,.nil,c_n,fun g z=>by cases z⟩
   ·by_cases c:a=x
    ·subst c
     exact⟨d.length,l,n,by simp⟩
    ·have q':H a=some (.ins C' dx' fs):=by
      by_cases c1:a=dx
      ·subst c1;rw[c_dx] at q;cases q
      by_cases c2:a=l
      ·subst c2;rw[c_l] at q;cases q
      by_cases c3:a=n
      ·subst c3;rw[c_n] at q;cases q
      rw[c_o a c c1 c2 c3] at q;exact q
     obtain⟨h,l',n',e⟩:=E.vs.uni a C' dx' fs q';exact⟨h,l',n',by rw[gl0 (List.getElem?_eq_some_iff.mp e).1];exact e⟩
   ·show upd G x (.ins C dx (vfs l n U.length)) b=none
    rw[pd] at hb;rcases ma0 hb with hb|hb
    ·rw[aa (fun z=>by subst z;exact nl _ hx hb)];exact E.vs.out b hb
    ·simp only[List.mem_cons,List.not_mem_nil,or_false] at hb
     rcases hb with rfl|rfl
     ·rw[aa l1];exact gx _ hl
     ·rw[aa n1];exact gx _ hn
  exact⟨.ref x,H4,I4,rv,kq (.ref x) G' H4 _ mx v' (.hdl (show upd G x (.ins C dx (vfs l n U.length)) x=_ from ae))⟩
end L2.Z
namespace M1
open PySem PySem.Builtin PySem.Builtin.Str
theorem ext {a b:Str}(h:a.cps.toList=b.cps.toList):a=b:=by
 cases a;cases b
 congr 1
 exact Array.toList_inj.mp h
theorem toL_append (a b:Str):(a++b).cps.toList=a.cps.toList++b.cps.toList:=by
 show (a.cps++b.cps).toList=_;simp
noncomputable def nl:Str:=⟨#[10]⟩
theorem pF:∀ls:List Str,(Txt.join Str.empty ls).cps.toList=(ls.map fun p=>p.cps.toList).flatten:=by
 intro ls;show (glued Str.empty ls).cps.toList=_;rw[StrLaws.glued_eq_join]
 induction ls with
 |nil=>rfl
 |cons x r ih=>
  cases r with
  |nil=>show x.cps.toList=_;simp
  |cons y r=>
   show (x++Str.empty++Str.join Str.empty (y::r)).cps.toList=_;rw[toL_append,toL_append,ih];show x.cps.toList++[]++_=_;simp
end M1
set_option maxRecDepth 10000
namespace TX
open PySem SI
noncomputable def dq:Def:=⟨[true,true],2,(.cons (.ifs (.v 0) (.cons (.ret (.idx (.v 0) (.op .mod (.v 1) (.bi .len (.cons (.v 0) .nil))))) .nil) .nil) (.cons (.ret (.k (.int 0))) .nil))⟩
noncomputable def gU:Def:=⟨[true,true],3,(.cons (.set 2 (.op .mod (.op .add (.call "_law_cell" (.cons (.v 0) (.cons (.v 1) .nil))) (.op .mul (.k (.int 104729)) (.op .add (.v 1) (.k (.int 1))))) (.k (.int 4294967291)))) (.cons (.set 2 (.op .mod (.op .mul (.v 2) (.k (.int 48271))) (.k (.int 4294967279)))) (.cons (.ret (.op .mod (.op .add (.op .mul (.op .fdiv (.v 2) (.k (.int 64))) (.k (.int 69621))) (.v 2)) (.k (.int 4294967231)))) .nil)))⟩
noncomputable def eZ:Def:=⟨[true],3,(.cons (.set 1 (.k (.str ⟨#[32,33,34,35,36,38,39,40,41,42,43,44,45,46,47,48,49,50,51,52,53,54,55,56,57,58,59,60,61,62,63,64,65,66,67,68,69,70,71,72,73,74,75,76,77,78,79]⟩))) (.cons (.set 2 (.k (.str ⟨#[80,81,82,83,84,85,86,87,88,89,90,91,92,93,94,95,96,97,98,99,100,101,102,103,104,105,106,107,108,109,110,111,112,113,114,115,116,117,118,119,120,121,122,123,124,125,126]⟩))) (.cons (.ret (.idx (.op .add (.v 1) (.v 2)) (.op .mod (.v 0) (.k (.int 94))))) .nil)))⟩
noncomputable def dt:Def:=⟨[true,true],3,(.cons (.set 2 (.call "_law_mix" (.cons (.v 0) (.cons (.v 1) .nil)))) (.cons (.ifs (.cmp .eq (.op .mod (.v 2) (.k (.int 4))) (.k (.int 3))) (.cons (.ret (.op .add (.call "_law_sign" (.cons (.op .fdiv (.v 2) (.k (.int 4))) .nil)) (.call "_law_sign" (.cons (.op .fdiv (.v 2) (.k (.int 376))) .nil)))) .nil) .nil) (.cons (.ret (.idx (.lst (.cons (.k (.str ⟨#[97]⟩)) (.cons (.k (.str ⟨#[98]⟩)) (.cons (.k (.str ⟨#[]⟩)) (.cons (.k (.str ⟨#[97,32,98]⟩)) (.cons (.k (.str ⟨#[124]⟩)) (.cons (.k (.str ⟨#[99]⟩)) .nil))))))) (.op .mod (.op .fdiv (.v 2) (.k (.int 4))) (.k (.int 6))))) .nil)))⟩
noncomputable def fb:Def:=⟨[true,true],3,(.cons (.new 2 (.comp 1 [] (.one 0) (.seq (.v 0)) .nil (.op .add (.v 0) (.k (.str ⟨#[10]⟩))))) (.cons (.ifs (.and (.v 1) (.and (.v 0) (.cmp .ne (.idx (.v 0) (.neg (.k (.int 1)))) (.k (.str ⟨#[]⟩))))) (.cons (.seti 2 (.neg (.k (.int 1))) (.idx (.v 0) (.neg (.k (.int 1))))) .nil) .nil) (.cons (.ret (.v 2)) .nil)))⟩
noncomputable def gW:Def:=⟨[true,true,true],3,(.cons (.ret (.comp 1 [1,0] (.one 0) (.rng (.v 2)) .nil (.call "_law_line" (.cons (.v 2) (.cons (.op .add (.v 1) (.v 0)) .nil))))) .nil)⟩
noncomputable def jU:Def:=⟨[true],1,(.cons (.ret (.and (.isi (.v 0) "int") (.not (.isi (.v 0) "bool")))) .nil)⟩
variable {Φ:Fs}{Γ:List (Str×D)}
def ans (Φ:Fs)(Γ:List (Str×D))(d:Def)(ds:List D):Option D:=(exs Φ Γ (bz d ds) d.body).bind Out.val
def Has (Φ:Fs)(f:Str)(fl:List Bool)(P:(List D->Option D)->Prop):Prop:=∃run,Φ f=some ⟨fl,run⟩/\P run
def jV (ns:List Int)(k:Int):Int:=if ns=[] then 0 else (ns[(k % ns.length).toNat]?).getD 0
theorem qS {ns:List Int}(h:ns≠[])(k:Int):0≤k % (ns.length:Int)/\k % (ns.length:Int)<ns.length:=by
 have:0<ns.length:=List.length_pos_iff.mpr h;exact⟨en0 _ (by omega),el0 _ (by omega)⟩
theorem bJ {α:Type}{xs:List α}{i:Int}(h0:0≤i)(h1:i<xs.length):atI xs i=xs[i.toNat]?:=by
 unfold atI ixN;rw[if_pos h0,if_pos h1];rfl
theorem bQ {α:Type}{xs:List α}{i:Nat}(d:α)(h:i<xs.length):xs[i]?=some (xs[i]?.getD d):=by
 rw[ge0 h];rfl
theorem xJ (ns:List Int)(k:Int):ans Φ Γ dq [.scr ns,.int k]=some (.int (jV ns k)):=by
 by_cases h:ns=[]
 ·subst h;simp[ans,dq,jV]
 ·have hl:0<ns.length:=List.length_pos_iff.mpr h
  have hm:=qS h k;have e:atI ns (k % (ns.length:Int))=some (jV ns k):=by
   rw[bJ hm.1 hm.2,bQ 0 (by omega)];simp[jV,h]
  simp[ans,dq,h,hl,e]
end TX
namespace TX
open PySem SI M1
variable {Φ:Fs}{Γ:List (Str×D)}
def mixF (ns:List Int)(k:Int):Int:=
 let a:=(jV ns k+104729*(k+1)) % 4294967291
 let b:=a*48271 % 4294967279
 (b / 64*69621+b) % 4294967231
abbrev BS (Φ:Fs):Prop:=Has Φ "_law_cell" [true,true] fun run=>∀ns k,run [.scr ns,.int k]=some (.int (jV ns k))
abbrev mW (Φ:Fs):Prop:=Has Φ "_law_mix" [true,true] fun run=>∀ns k,run [.scr ns,.int k]=some (.int (mixF ns k))
theorem la (i:Int)(j:Int)(h1:-(2 ^ 64)<j)(h2:j<2 ^ 64):lL i j=true:=by
 unfold lL;rw[dt0 h1,dt0 h2];simp
theorem pH (i:Int)(j:Int)(h1:-(2 ^ 64)<i)(h2:i<2 ^ 64):lL i j=true:=by
 unfold lL;rw[dt0 h1,dt0 h2];simp
theorem AN (hc:BS Φ)(ns:List Int)(k:Int):ans Φ Γ gU [.scr ns,.int k]=some (.int (mixF ns k)):=by
 obtain⟨run,h,hs⟩:=hc;simp[ans,gU,h,hs,pH 104729,la _ 48271,la _ 69621,mixF]
theorem iN (ns:List Int)(k:Int):0≤mixF ns k:=en0 _ (by decide)
theorem fe (ns:List Int)(k:Int)(m:Int)(h:0<m):0≤mixF ns k % m/\mixF ns k % m<m:=⟨en0 _ (by omega),el0 _ h⟩
noncomputable def tbl:List Nat:=[32,33,34,35,36,38,39,40,41,42,43,44,45,46,47,48,49,50,51,52,53,54,55,56,57,58,59,60,61,62,63,64,65,66,67,68,69,70,71,72,73,74,75,76,77,78,79,80,81,82,83,84,85,86,87,88,89,90,91,92,93,94,95,96,97,98,99,100,101,102,103,104,105,106,107,108,109,110,111,112,113,114,115,116,117,118,119,120,121,122,123,124,125,126]
def jW (n:Int):Nat:=(tbl[(n % 94).toNat]?).getD 0
noncomputable def iO (n:Int):Str:=⟨#[jW n]⟩
theorem ud (n:Int):jW n∈tbl:=by
 have h1:=en0 n (b:=94) (by decide);have h2:=el0 n (b:=94) (by decide);have hl:(n % 94).toNat<tbl.length:=by
  have:tbl.length=94:=by decide
  omega
 unfold jW;rw[ge0 hl];exact List.getElem_mem hl
theorem EK:∀c∈tbl,32≤c/\c≤126/\c≠37:=by decide
abbrev BU (Φ:Fs):Prop:=Has Φ "_law_sign" [true] fun run=>∀n,run [.int n]=some (.str (iO n))
theorem xK (n:Int):ans Φ Γ eZ [.int n]=some (.str (iO n)):=by
 have h1:=en0 n (b:=94) (by decide);have h2:=el0 n (b:=94) (by decide);have e:atI tbl (n % 94)=some (jW n):=by
  have hl:tbl.length=94:=by decide
  rw[bJ h1 (by rw[hl];exact_mod_cast h2),bQ 0 (by omega)];rfl
 have e2:∀(x y:Str) (h:(x++y).cps.toList=tbl),atI (x++y).cps.toList (n % 94)=some (jW n):=fun x y h=>by rw[h];exact e
 simp[ans,eZ];rw[if_pos (by decide)];simp;rw[if_pos (by decide),e2 _ _ (by decide)];rfl
variable {Φ:Fs}{Γ:List (Str×D)}
theorem av {β:Type}{f:D->Option (Option D)}{inj g:β->D}:∀{xs:List β},(∀x∈xs,f (inj x)=some (some (g x)))->aM f (xs.map inj)=some (xs.map g)
 |[],_=>rfl
 |x::r,h=>by
  show (f (inj x)).bind _=_;rw[h x ms0];show (aM f (r.map inj)).map _=_;rw[av fun y hy=>h y (mc0 _ hy)];rfl
theorem fh {β:Type}{f:D->Option (Option D)}{inj g:β->D}{p:β->Bool}:∀{xs:List β},(∀x∈xs,f (inj x)=some (if p x then some (g x) else none))->aM f (xs.map inj)=some ((xs.filter p).map g)
 |[],_=>rfl
 |x::r,h=>by
  show (f (inj x)).bind _=_;rw[h x ms0];show (aM f (r.map inj)).map _=_;rw[fh fun y hy=>h y (mc0 _ hy),List.filter_cons];cases p x<;>rfl
theorem cL:∀ys:List Str,strsOf (ys.map .str)=some ys
 |[]=>rfl
 |y::r=>by show (strsOf (r.map .str)).map _=_;rw[cL r];rfl
theorem xM {α:Type}{xs:List α}{i:Int}(d:α)(h0:0≤i)(h1:i<xs.length):atI xs i=some (xs[i.toNat]?.getD d):=by
 rw[bJ h0 h1,←bQ d (by simp_all)]
structure Clean (n:Nat)(x:Str):Prop where
 free:10∉x.cps.toList
 short:x.length≤n
theorem jX (x:Str):x.length=x.cps.toList.length:=by show x.cps.size=_;simp
theorem cN (n:Int):Clean 1 (iO n):=⟨by
 show 10∉[jW n];intro h;have:=EK _ (ud n);rw[←List.mem_singleton.mp h] at this
 grind,nr0 _⟩
theorem Clean.append {n m:Nat}{x y:Str}(hx:Clean n x)(hy:Clean m y):Clean (n+m) (x++y):=⟨by
 rw[toL_append,List.mem_append];exact fun h=>h.elim hx.free hy.free,by rw[Str.length_append];have:=hx.short;have:=hy.short;grind⟩
theorem Clean.mono {n m:Nat}{x:Str}(h:Clean n x)(hm:n≤m):Clean m x:=⟨h.free,nt0 h.short hm⟩
noncomputable def menu:List Str:=[⟨#[97]⟩,⟨#[98]⟩,⟨#[]⟩,⟨#[97,32,98]⟩,⟨#[124]⟩,⟨#[99]⟩]
theorem AO:∀x∈menu,Clean 3 x:=by
 intro x hx;simp only[menu,List.mem_cons,List.not_mem_nil,or_false] at hx;rcases hx with rfl|rfl|rfl|rfl|rfl|rfl<;>exact⟨by decide,by decide⟩
noncomputable def fj (ns:List Int)(k:Int):Str:=
 if mixF ns k % 4=3 then iO (mixF ns k / 4)++iO (mixF ns k / 376) else (menu[(mixF ns k / 4 % 6).toNat]?).getD Str.empty
theorem iP (ns:List Int)(k:Int):Clean 3 (fj ns k):=by
 unfold fj;split
 ·exact ((cN _).append (cN _)).mono (by simp_all)
 ·have h1:=en0 (mixF ns k / 4) (b:=6) (by decide)
  have h2:=el0 (mixF ns k / 4) (b:=6) (by decide);have hl:(mixF ns k / 4 % 6).toNat<menu.length:=by show _<6;simp_all
  rw[ge0 hl];exact AO _ (List.getElem_mem hl)
abbrev xN (Φ:Fs):Prop:=Has Φ "_law_line" [true,true] fun run=>∀ns k,run [.scr ns,.int k]=some (.str (fj ns k))
theorem xO (hm:mW Φ)(hs:BU Φ)(ns:List Int)(k:Int):ans Φ Γ dt [.scr ns,.int k]=some (.str (fj ns k)):=by
 obtain⟨r1,e1,h1⟩:=hm;obtain⟨r2,e2,h2⟩:=hs;have l1:=(cN (mixF ns k / 4)).short;have l2:=(cN (mixF ns k / 376)).short
 by_cases c:mixF ns k % 4=3
 ·have hz:(iO (mixF ns k / 4)).length+(iO (mixF ns k / 376)).length≤big:=nt0 (Nat.add_le_add l1 l2) (by decide)
  simp[ans,dt,e1,h1,e2,h2,c,hz,fj]
 ·have g1:=en0 (mixF ns k / 4) (b:=6) (by decide)
  have g2:=el0 (mixF ns k / 4) (b:=6) (by decide);have e:atI (menu.map D.str) (mixF ns k / 4 % 6)=some (.str ((menu[(mixF ns k / 4 % 6).toNat]?).getD Str.empty)):=by
   rw[bJ g1 (by show _<((6:Nat):Int);exact_mod_cast g2),gm0,bQ Str.empty (xs:=menu) (by show _<6;omega)];rfl
  have e':atI [D.str ⟨#[97]⟩,.str ⟨#[98]⟩,.str ⟨#[]⟩,.str ⟨#[97,32,98]⟩,.str ⟨#[124]⟩,.str ⟨#[99]⟩] (mixF ns k / 4 % 6)=some (.str ((menu[(mixF ns k / 4 % 6).toNat]?).getD Str.empty)):=e;simp[ans,dt,e1,h1,e2,h2,c,e',fj]
noncomputable def rowF (ns:List Int)(b:Int)(n:Int):List Str:=(List.range n.toNat).map fun (k:Nat)=>fj ns (b+k)
abbrev GY (Φ:Fs):Prop:=Has Φ "_law_row" [true,true,true] fun run=>∀ns b n,-1000≤n->n≤1000->run [.scr ns,.int b,.int n]=some (.list ((rowF ns b n).map .str))
theorem AQ (hl:xN Φ)(ns:List Int)(b n:Int)(hn:-1000≤n)(hn2:n≤1000):ans Φ Γ gW [.scr ns,.int b,.int n]=some (.list ((rowF ns b n).map .str)):=by
 obtain⟨r1,e1,h1⟩:=hl;have hr:=ot (n:=n) (by grind) (by grind);have hz:n.toNat≤big:=by unfold big;grind
 have key:=fun f h=>av (f:=f) (inj:=fun k:Nat=>D.int k) (g:=fun k:Nat=>D.str (fj ns (b+k))) (xs:=List.range n.toNat) h
 simp[ans,gW,hr,hz];rw[key]
 ·simp[rowF]
 ·intro k _
  simp[e1,h1,blk]
variable {Φ:Fs}{Γ:List (Str×D)}
theorem empty_eq:(⟨#[]⟩:Str)=Str.empty:=rfl
noncomputable def lastF (row:List Str):Str:=row.getLastD Str.empty
noncomputable def endsF (row:List Str)(cut:Bool):List Str:=
 if cut=true/\row≠[]/\lastF row≠Str.empty then row.dropLast.map (·++nl)++[lastF row] else row.map (·++nl)
abbrev BV (Φ:Fs):Prop:=Has Φ "_law_ends" [true,true] fun run=>∀(row:List Str) (b:Bool),row.length≤1000->(∀x∈row,x.length≤1000)->run [.list (row.map .str),.bool b]=some (.list ((endsF row b).map .str))
theorem lH {α:Type}{xs:List α}(h:xs≠[])(d:α):atI xs (-1)=some (xs.getLastD d):=by
 have hl:0<xs.length:=List.length_pos_iff.mpr h;have e:ixN xs.length (-1)=some (xs.length-1):=by
  unfold ixN;rw[if_neg (by decide),if_pos (by grind)]
  congr 1;grind
 unfold atI;rw[e];show xs[xs.length-1]?=_;rw[←List.getLast?_eq_getElem?,List.getLastD_eq_getLast?];cases q:xs.getLast? with
 |none=>rw[List.getLast?_eq_none_iff] at q;exact absurd q h
 |some v=>rfl
theorem qU {n:Nat}(h:0<n):ixN n (-1)=some (n-1):=by
 unfold ixN;rw[if_neg (by decide),if_pos (by grind)]
 congr 1;grind
theorem xP {α:Type}{xs:List α}(h:xs≠[])(v:α):xs.set (xs.length-1) v=xs.dropLast++[v]:=by
 induction xs with
 |nil=>exact absurd rfl h
 |cons a r ih=>
  cases r with
  |nil=>rfl
  |cons b q=>
   have e:(a::b::q).length-1=((b::q).length-1)+1:=by simp
   rw[e,List.set_cons_succ,ih (by simp)];rfl
theorem map_dropLast {α β:Type}(f:α->β)(xs:List α):(xs.map f).dropLast=xs.dropLast.map f:=by
 rw[List.dropLast_eq_take,List.dropLast_eq_take,lm0,List.map_take]
theorem lg {α β:Type}(f:α->β)(xs:List α)(d:α):(xs.map f).getLastD (f d)=f (xs.getLastD d):=by
 rw[List.getLastD_eq_getLast?,List.getLastD_eq_getLast?,List.getLast?_map];cases xs.getLast?<;>rfl
theorem EL {row:List Str}(hl:∀x∈row,x.length≤1000)(x:Str)(hx:x∈row):x.length+(⟨#[10]⟩:Str).length≤big:=by
 have:=hl x hx;have e:(⟨#[10]⟩:Str).length=1:=rfl;unfold big;grind
theorem xQ (row:List Str)(b:Bool)(h1:row.length≤1000)(h2:∀x∈row,x.length≤1000):ans Φ Γ fb [.list (row.map .str),.bool b]=some (.list ((endsF row b).map .str)):=by
 have hz:row.length≤big:=by unfold big;grind
 have key:=fun f h=>av (f:=f) (inj:=D.str) (g:=fun x=>D.str (x++nl)) (xs:=row) h
 simp[ans,fb,hz];rw[key]
 ·cases b with
  |false=>simp[endsF]
  |true=>
   by_cases he:row=[]
   ·subst he;simp[endsF]
   ·have e:=lH (xs:=row.map D.str) (by simpa using he) (.str Str.empty)
    rw[lg] at e;have e:atI (row.map D.str) (-1)=some (.str (lastF row)):=e;have hl:0<row.length:=List.length_pos_iff.mpr he;have e3:=xP (xs:=row.map fun x=>D.str (x++nl)) (by simpa using he) (.str (lastF row));rw[lm0,map_dropLast] at e3;unfold endsF;generalize lastF row=t at e e3
    by_cases ht:t=Str.empty
    ·simp[he,e,ht,empty_eq]
    ·simp only[e,ht,empty_eq,qU hl,e3,he,ne_eq,not_false_eq_true,and_self,and_true,if_true,List.map_append,List.map_map]
     simp[he,e,ht,empty_eq,qU hl,e3];rfl
 ·intro x hx
  simp[EL h2 x hx];rfl
variable {Φ:Fs}{Γ:List (Str×D)}
theorem ue (ns:List Int)(b n:Int):∀x∈rowF ns b n,Clean 3 x:=by
 intro x hx;obtain⟨k,_,rfl⟩:=mm0 hx;exact iP ns _
theorem AR (ns:List Int)(b n:Int):(rowF ns b n).length=n.toNat:=by unfold rowF;simp
theorem uf {row:List Str}(h:row≠[]):lastF row∈row:=by
 unfold lastF;rw[List.getLastD_eq_getLast?,List.getLast?_eq_some_getLast h];exact List.getLast_mem h
set_option tactic.hygienic true
theorem xR (row:List Str)(b:Bool):(endsF row b).length=row.length:=by
 unfold endsF;split
 ·rename_i c
  have:=List.length_pos_iff.mpr c.2.1;simp;omega
 ·simp
theorem pI {n:Nat}{row:List Str}(h:∀x∈row,x.length≤n)(b:Bool):∀x∈endsF row b,x.length≤n+1:=by
 intro x hx;have one:∀y∈row.map (·++nl),y.length≤n+1:=fun y hy=>by
  obtain⟨z,hz,rfl⟩:=mm0 hy;rw[Str.length_append];have:=h z hz;have e:nl.length=1:=rfl;omega
 unfold endsF at hx;split at hx
 ·rename_i c
  rcases ma0 hx with hx|hx
  ·rw[←map_dropLast] at hx
   exact one x (List.dropLast_subset _ hx)
  ·rw[List.mem_singleton.mp hx]
   exact Nat.le_succ_of_le (h _ (uf c.2.1))
 ·exact one x hx
set_option tactic.hygienic false
theorem xS {α:Type}{f:α->Nat}{n:Nat}:∀{xs:List α},(∀x∈xs,f x≤n)->(xs.map f).sum≤xs.length*n
 |[],_=>by simp
 |x::r,h=>by
  have h1:=h x ms0;have h2:=xS (f:=f) (xs:=r) fun y hy=>h y (mc0 _ hy)
  simp only[mk0,List.sum_cons,lc0,Nat.succ_mul];omega
end TX
namespace L2.Z
open PySem PySem.Spec PyProof.Rows L2 L2.C SI
theorem run_eq {Φ:Fs}{Γ:List (Str×D)}{d:Def}{ds:List D}(h:ds.length=d.lent.length):(Eo Φ Γ d).run ds=TX.ans Φ Γ d ds:=if_pos h
theorem ay {prog:List (Str×Def)}{Γ:List (Str×D)}{k:Nat}{x:Str}{d:Def}{P:(List D->Option D)->Prop}(h:prog.lookup x=some d)(hP:P (Eo (den prog Γ k) Γ d).run):TX.Has (den prog Γ (k+1)) x d.lent P:=
 ⟨_,by show (prog.lookup x).map _=_;rw[h];rfl,hP⟩
theorem walk {l:PySem.W.OpenLaw}{q:Program}{loose:List Str}{XP:(Str->Option Value)->Heap->Prop}{YP:World->Heap->Prop}{d:DefRec}{K:Params->PySem.W.Frag}(hn:l.most=some 63)(hdf:d.params.defaults=[])
  (hY:∀(w:World) (h:Heap),YP w h->(K w.params).In h)
  (F:∀(w:World) (mg:Str->Option Value) (fa:Addr) (h:Heap),(K w.params).In h->h.Ns mainGlobals mg->mg d.name=some (.ref fa)->
   ∃fd:FuncData,(∀(s:Shared) (u:Value),BindsTo s fd ⟨[u],[]⟩ [("_law_script",u)])/\∀base:Heap,(K w.params).In base->base.Ns mainGlobals mg->FnOk l.prog w (K w.params) mg base CX0 40 fa fd ["_law_script"] (wQ (K w.params))):
  PySem.W.WalkO q loose XP YP l.row.toRowW d [] (fun f vs=>PySem.call f vs):=
 L2.qj hn (by decide) hdf ⟨rfl,by decide,by decide⟩ hY F (fun b b a ns hl b hS=>⟨a,ns,rfl,hS,hl,fun b=>rfl⟩) fun b b b b b z=>z
def GZ (Q:Str->Prop):List Str->Prop
 |[]=>True
 |x::r=>Q x/\GZ Q r
theorem qV {Q:Str->Prop}:∀{xs:List Str},GZ Q xs->∀x∈xs,Q x
 |[],_,x,h=>by cases h
 |y::r,hq,x,h=>(mq0 h).elim (fun e=>e▸hq.1) (qV hq.2 x)
def Ha (Q:Str->D->Prop):List (Str×D)->Prop
 |[]=>True
 |p::r=>Q p.1 p.2/\Ha Q r
theorem qW {Q:Str->D->Prop}:∀{prog:List (Str×D)},Ha Q prog->∀x d,prog.lookup x=some d->Q x d
 |[],_,x,d,h=>by cases h
 |(y,e)::r,hq,x,d,h=>by
  rw[lk0] at h;cases hxy:x==y with
  |true=>
   rw[hxy] at h;have:=eq_of_beq hxy;subst this;cases h;exact hq.1
  |false=>rw[hxy] at h;exact qW hq.2 x d h
theorem gF {P:List Value->Prop}(h:∀a,P [a]):∀us,us.length=1->P us
 |[a],_=>h a
theorem dy {P:List Value->Prop}(h:∀a b,P [a,b]):∀us,us.length=2->P us
 |[a,b],_=>h a b
theorem ug {P:List Value->Prop}(h:∀a b c,P [a,b,c]):∀us,us.length=3->P us
 |[a,b,c],_=>h a b c
theorem AS {P:List Value->Prop}(h:∀a b c d e,P [a,b,c,d,e]):∀us,us.length=5->P us
 |[a,b,c,d,e],_=>h a b c d e
theorem walkX {q:Program}{loose:List Str}{XP:(Str->Option Value)->Heap->Prop}{K:Params->PySem.W.Frag}{ads:List Addr}{n t:Nat}{r:PySem.W.RowW}{d:DefRec}{kwd:List (Str×Expr)}{run:Value->List Value->Sem Value}
  (e:∀P:Params,ads=(K P).map (·.1)) (h:PySem.W.WalkO q loose XP (fun w h=>(K w.params).In h) r d kwd run):PySem.W.WalkX q loose XP (PySem.W.X.obsZ ads) (PySem.W.X.valZ K n t) r d kwd run:=
 fun w s₀ s₁ mg mb G y a o pm cd doc dV kV ho hd hcd hD hmg hg args vals as L hpre hlay hrd hwl hlo=>
  h w _ _ mg mb G (fun b o e'=>L.keeps b o ((PySem.W.X.z_facts e y).2.1 b o e')) a o pm cd _ dV kV ho hd hcd hD hmg hg _ _ as hpre hlay hrd hwl hlo
end L2.Z
set_option maxRecDepth 10000
namespace TX
open PySem SI L2.Z
noncomputable def aW:Def:=⟨[true],1,(.cons (.ifs (.or (.chain .le .le (.k (.str ⟨#[97]⟩)) (.v 0) (.k (.str ⟨#[122]⟩))) (.or (.chain .le .le (.k (.str ⟨#[65]⟩)) (.v 0) (.k (.str ⟨#[90]⟩))) (.chain .le .le (.k (.str ⟨#[48]⟩)) (.v 0) (.k (.str ⟨#[57]⟩))))) (.cons (.ret (.k (.bool true))) .nil) .nil) (.cons (.ret (.cmp .isin (.v 0) (.k (.str ⟨#[46,95,45]⟩)))) .nil))⟩
noncomputable def cD:Def:=⟨[true],1,(.cons (.ifs (.not (.chain .le .le (.k (.int 1)) (.bi .len (.cons (.v 0) .nil)) (.g "LONGEST_NAME"))) (.cons (.ret (.k (.bool false))) .nil) .nil) (.cons (.ifs (.or (.cmp .eq (.v 0) (.k (.str ⟨#[46]⟩))) (.cmp .eq (.v 0) (.k (.str ⟨#[46,46]⟩)))) (.cons (.ret (.k (.bool false))) .nil) .nil) (.cons (.ret (.bi .all (.cons (.comp 1 [] (.one 0) (.seq (.v 0)) .nil (.call "is_name_sign" (.cons (.v 0) .nil))) .nil))) .nil)))⟩
noncomputable def cP:Def:=⟨[true],1,(.cons (.ret (.bi .all (.cons (.comp 2 [] (.tup [0,1]) (.zip (.cons (.v 0) (.cons (.sl (.v 0) (.cons (.k (.int 1)) .nil) .nil) .nil))) .nil (.cmp .lt (.v 0) (.v 1))) .nil))) .nil)⟩
noncomputable def bK (cV:Nat):Def:=⟨[true,true],2,(.cons (.ret (.bi .list (.cons (.vcall cV "content" (.v 0) (.cons (.v 1) (.cons (.k (.str ⟨#[116,114,101,101]⟩)) .nil))) .nil))) .nil)⟩
noncomputable def d_l_is_name:Def:=⟨[true],2,(.cons (.set 1 (.k (.str ⟨#[97,98,99,100,101,102,103,104,105,106,107,108,109,110,111,112,113,114,115,116,117,118,119,120,121,122,65,66,67,68,69,70,71,72,73,74,75,76,77,78,79,80,81,82,83,84,85,86,87,88,89,90,48,49,50,51,52,53,54,55,56,57,46,95,45]⟩))) (.cons (.ret (.and (.chain .le .le (.k (.int 1)) (.bi .len (.cons (.v 0) .nil)) (.k (.int 12))) (.and (.cmp .notin (.v 0) (.tup (.cons (.k (.str ⟨#[46]⟩)) (.cons (.k (.str ⟨#[46,46]⟩)) .nil)))) (.bi .all (.cons (.comp 1 [1] (.one 0) (.seq (.v 0)) .nil (.cmp .isin (.v 0) (.v 1))) .nil))))) .nil))⟩
noncomputable def fk (cV:Nat):Def:=⟨[true],1,(.cons (.ret (.bi .len (.cons (.vob cV (.v 0)) .nil))) .nil)⟩
noncomputable def fq (cV:Nat):Def:=⟨[true,true],2,(.cons (.ret (.idx (.vcall cV "held" (.v 0) (.cons (.v 1) .nil)) (.k (.int 0)))) .nil)⟩
noncomputable def ft (cV:Nat):Def:=⟨[true,true],2,(.cons (.ifs (.not (.chain .le .lt (.k (.int 0)) (.v 1) (.bi .len (.cons (.vob cV (.v 0)) .nil)))) (.cons .stuck .nil) .nil) (.cons (.ret (.idx (.vob cV (.v 0)) (.v 1))) .nil))⟩
noncomputable def cg (cV:Nat):Def:=⟨[true,true,true],4,(.cons (.set 3 (.vcall cV "held" (.v 0) (.cons (.v 1) .nil))) (.cons (.ifs (.cmp .ne (.idx (.v 3) (.k (.int 0))) (.v 2)) (.cons .stuck .nil) .nil) (.cons (.ret (.idx (.v 3) (.k (.int 1)))) .nil)))⟩
noncomputable def lh:aY:=⟨[false,false],2,(.cons (.ret (.meth "put" 0 (.ex (.p (.tup (.cons (.k (.str ⟨#[98,108,111,98]⟩)) (.cons (.v 1) .nil)))) .nil))) .nil)⟩
noncomputable def aI (cBT:Nat):aY:=⟨[false],2,(.cons (.fors (.one 1) (.seq (.v 0)) (.cons (.ifs (.not (.call "is_name" (.cons (.v 1) .nil))) (.cons (.raise cBT (.ex (.p (.k (.str ⟨#[97,110,32,101,110,116,114,121,39,115,32,110,97,109,101,32,105,115,32,110,111,110,101]⟩))) .nil)) .nil) .nil) .nil)) (.cons (.ifs (.not (.call "names_rise" (.cons (.v 0) .nil))) (.cons (.raise cBT (.ex (.p (.k (.str ⟨#[116,104,101,32,110,97,109,101,115,32,100,111,110,39,116,32,114,105,115,101]⟩))) .nil)) .nil) .nil) .nil))⟩
end TX
namespace TX
open PySem SI M1 L2.Z
variable {Φ:Fs}{Γ:List (Str×D)}
noncomputable def signs65:List Nat:=[97,98,99,100,101,102,103,104,105,106,107,108,109,110,111,112,113,114,115,116,117,118,119,120,121,122,65,66,67,68,69,70,71,72,73,74,75,76,77,78,79,80,81,82,83,84,85,86,87,88,89,90,48,49,50,51,52,53,54,55,56,57,46,95,45]
def bp (c:Nat):Bool:=decide (c∈signs65)
theorem lp (c:Nat)(y:Str):hasSub ⟨#[c]⟩ y=decide (c∈y.cps.toList):=PySem.StrLaws.found_one y c
theorem fY (a b:Nat):decide ([a]<[b])=decide (a<b):=by
 by_cases h:a<b
 ·rw[dt0 h,dt0]
  exact List.Lex.rel h
 ·rw[df0 h,df0]
  intro z;cases z with
  |rel h'=>exact h h'
  |cons h'=>cases h'
theorem uh (c:Nat):bp c=((!decide (c<97)&&!decide (122<c))||((!decide (c<65)&&!decide (90<c))||(!decide (c<48)&&!decide (57<c)))||decide (c∈[46,95,45])):=by
 by_cases h:c<128
 ·have key:∀c<128,bp c=((!decide (c<97)&&!decide (122<c))||((!decide (c<65)&&!decide (90<c))||(!decide (c<48)&&!decide (57<c)))||decide (c∈[46,95,45])):=by decide
  exact key c h
 ·have h1:bp c=false:=by
   unfold bp;refine df0 fun z=>h ?_
   have:∀c∈signs65,c<128:=by decide
   exact this c z
  have h2:decide (c∈[46,95,45])=false:=df0 (by simp;grind);rw[h1,h2,dt0 (show 122<c by omega),dt0 (show 90<c by omega),dt0 (show 57<c by omega)];simp
abbrev qX (Φ:Fs):Prop:=Has Φ "is_name_sign" [true] fun run=>∀c,run [.str ⟨#[c]⟩]=some (.bool (bp c))
theorem mX (c:Nat):ans Φ Γ aW [.str ⟨#[c]⟩]=some (.bool (bp c)):=by
 rw[uh];have l1:=fY c 97;have l2:=fY 122 c;have l3:=fY c 65;have l4:=fY 90 c;have l5:=fY c 48;have l6:=fY 57 c;have l7:=lp c ⟨#[46,95,45]⟩;have e7:(⟨#[46,95,45]⟩:Str).cps.toList=[46,95,45]:=rfl;rw[e7] at l7;have chain:∀(a b:Str) (ρ:List Sl),ρ[0]?=some (.lent (.str ⟨#[c]⟩))->ev Φ Γ .test ρ (.chain .le .le (.k (.str a)) (.v 0) (.k (.str b)))=some (.bool (!decide ([c]<a.cps.toList)&&!decide (b.cps.toList<[c]))):=fun a b ρ h=>by
  simp only[ev,aV,ij,h,bs0,bo,zz];cases decide ([c]<a.cps.toList)<;>rfl
 have c1:=chain ⟨#[97]⟩ ⟨#[122]⟩ [.lent (.str ⟨#[c]⟩)] rfl;have c2:=chain ⟨#[65]⟩ ⟨#[90]⟩ [.lent (.str ⟨#[c]⟩)] rfl;have c3:=chain ⟨#[48]⟩ ⟨#[57]⟩ [.lent (.str ⟨#[c]⟩)] rfl;have c1:ev Φ Γ .test [.lent (.str ⟨#[c]⟩)] (.chain .le .le (.k (.str ⟨#[97]⟩)) (.v 0) (.k (.str ⟨#[122]⟩)))=some (.bool (!decide (c<97)&&!decide (122<c))):=by rw[←l1,←l2];exact c1
 have c2:ev Φ Γ .test [.lent (.str ⟨#[c]⟩)] (.chain .le .le (.k (.str ⟨#[65]⟩)) (.v 0) (.k (.str ⟨#[90]⟩)))=some (.bool (!decide (c<65)&&!decide (90<c))):=by rw[←l3,←l4];exact c2
 have c3:ev Φ Γ .test [.lent (.str ⟨#[c]⟩)] (.chain .le .le (.k (.str ⟨#[48]⟩)) (.v 0) (.k (.str ⟨#[57]⟩)))=some (.bool (!decide (c<48)&&!decide (57<c))):=by rw[←l5,←l6];exact c3
 generalize (!decide (c<97)&&!decide (122<c))=t1 at c1 ⊢;generalize (!decide (c<65)&&!decide (90<c))=t2 at c2 ⊢;generalize (!decide (c<48)&&!decide (57<c))=t3 at c3 ⊢;have cc:ev Φ Γ .test [.lent (.str ⟨#[c]⟩)] (.or (.chain .le .le (.k (.str ⟨#[97]⟩)) (.v 0) (.k (.str ⟨#[122]⟩))) (.or (.chain .le .le (.k (.str ⟨#[65]⟩)) (.v 0) (.k (.str ⟨#[90]⟩))) (.chain .le .le (.k (.str ⟨#[48]⟩)) (.v 0) (.k (.str ⟨#[57]⟩)))))=some (.bool (t1||(t2||t3))):=by
  rw[ev,gN,c1,ev,gN,c2,c3];cases t1<;>cases t2<;>rfl
 have st:bz aW [.str ⟨#[c]⟩]=[.lent (.str ⟨#[c]⟩)]:=rfl;have hin:ev Φ Γ .val [.lent (.str ⟨#[c]⟩)] (.cmp .isin (.v 0) (.k (.str ⟨#[46,95,45]⟩)))=some (.bool (decide (c∈[46,95,45]))):=by
  have:ev Φ Γ .val [.lent (.str ⟨#[c]⟩)] (.cmp .isin (.v 0) (.k (.str ⟨#[46,95,45]⟩)))=some (.bool (hasSub ⟨#[c]⟩ ⟨#[46,95,45]⟩)):=rfl;rw[this,l7]
 unfold ans;rw[st];unfold aW;simp only[exs,ex,cc,bs0,bG];cases t1||(t2||t3) with
 |true=>rfl
 |false=>
  rw[if_neg fx0];simp only[bs0,kF,mk0,List.map_nil,gj,hin,mo0,qt,vp,Bool.false_or]
noncomputable def dot:Str:=⟨#[46]⟩
noncomputable def gG:Str:=⟨#[46,46]⟩
def bf (x:Str):Bool:=decide (1≤x.length)&&decide (x.length≤12)&&!decide (x=dot)&&!decide (x=gG)&&x.cps.toList.all bp
theorem jY {f:D->Option (Option D)}(l:List Nat)(p:Nat->Bool)(h:∀c∈l,f (.str ⟨#[c]⟩)=some (some (.bool (p c)))):(aM f (l.map fun c=>D.str ⟨#[c]⟩)).map D.list=some (.list ((l.map p).map .bool)):=by
 rw[av (inj:=fun c=>D.str ⟨#[c]⟩) (g:=fun c=>D.bool (p c)) h];simp
theorem xT (l:List Nat)(p:Nat->Bool):(l.map p).all id=l.all p:=by
 rw[List.all_map];rfl
abbrev qY (Φ:Fs):Prop:=Has Φ "is_name" [true] fun run=>∀x:Str,x.length≤1000->run [.str x]=some (.bool (bf x))
theorem mY (hs:qX Φ)(hg:Γ.lookup ("LONGEST_NAME":Str)=some (D.int 12))(x:Str)(hx:x.length≤1000):ans Φ Γ cD [.str x]=some (.bool (bf x)):=by
 obtain⟨r1,e1,h1⟩:=hs;have hz:x.length≤big:=by unfold big;grind
 have hz2:x.cps.toList.length≤big:=by rw[←jX];exact hz
 have key:=fun f h=>jY (f:=f) x.cps.toList bp h
 have l1:decide ((1:Int)≤(x.length:Int))=decide (1≤x.length):=by
  by_cases c:1≤x.length
  ·rw[dt0 c,dt0 (by grind)]
  ·rw[df0 c,df0 (by simp_all)]
 have l2:decide ((x.length:Int)≤12)=decide (x.length≤12):=by
  by_cases c:x.length≤12
  ·rw[dt0 c,dt0 (by grind)]
  ·rw[df0 c,df0 (by grind)]
 have st:bz cD [.str x]=[.lent (.str x)]:=rfl;have t1:ev Φ Γ .test [.lent (.str x)] (.not (.chain .le .le (.k (.int 1)) (.bi .len (.cons (.v 0) .nil)) (.g "LONGEST_NAME")))=some (.bool (!(decide (1≤x.length)&&decide (x.length≤12)))):=by
  simp only[ev,evs,aV,ij,gN,List.headD_cons,if_true,List.getElem?_cons_zero,bs0,bo,mo0,len_str,if_pos hz,qr,l1,l2,hg];cases decide (1≤x.length)<;>rfl
 have t2:ev Φ Γ .test [.lent (.str x)] (.or (.cmp .eq (.v 0) (.k (.str ⟨#[46]⟩))) (.cmp .eq (.v 0) (.k (.str ⟨#[46,46]⟩))))=some (.bool (decide (x=dot)||decide (x=gG))):=by
  simp only[ev,aV,ij,gN,List.getElem?_cons_zero,bs0,bo,vg,eq_str,mo0,rY,bG];show (if decide (x=dot)=true then _ else some (D.bool (decide (x=gG))))=_;cases decide (x=dot)<;>rfl
 have t3:ev Φ Γ .val [.lent (.str x)] (.bi .all (.cons (.comp 1 [] (.one 0) (.seq (.v 0)) .nil (.call "is_name_sign" (.cons (.v 0) .nil))) .nil))=some (.bool (x.cps.toList.all bp)):=by
  simp only[ev,evs,evI,dD,aV,List.headD_cons,if_true,List.getElem?_cons_zero,bs0,bo,items_str,if_pos hz,lm0,if_pos hz2];rw[key]
  ·simp only[bs0,mo0,lN,jv,xT]
  ·intro c _
   simp[e1,h1]
 unfold ans;rw[st];unfold cD;simp only[exs,ex,t1,bs0,bG];unfold bf;cases decide (1≤x.length)&&decide (x.length≤12) with
 |false=>rfl
 |true=>
  rw[if_neg (by decide)];simp only[bs0,kF,t2,bG,Bool.true_and];cases decide (x=dot) with
  |true=>rfl
  |false=>
   cases decide (x=gG) with
   |true=>rfl
   |false=>
    rw[if_neg (by decide)];simp only[bs0,kF,mk0,List.map_nil,gj,t3,mo0,qt,vp,Bool.not_false,Bool.true_and]
abbrev mZ (Φ:Fs):Prop:=Has Φ "_law_is_name" [true] fun run=>∀x:Str,x.length≤1000->run [.str x]=some (.bool (bf x))
theorem ji (x:Str)(hx:x.length≤1000):ans Φ Γ d_l_is_name [.str x]=some (.bool (bf x)):=by
 have hz:x.length≤big:=by unfold big;omega
 have hz2:x.cps.toList.length≤big:=by rw[←jX];exact hz
 have key:=fun f h=>jY (f:=f) x.cps.toList bp h
 have l1:decide ((1:Int)≤(x.length:Int))=decide (1≤x.length):=by
  by_cases c:1≤x.length
  ·rw[dt0 c,dt0 (by omega)]
  ·rw[df0 c,df0 (by omega)]
 have l2:decide ((x.length:Int)≤12)=decide (x.length≤12):=by
  by_cases c:x.length≤12
  ·rw[dt0 c,dt0 (by omega)]
  ·rw[df0 c,df0 (by omega)]
 let S:Str:=⟨signs65.toArray⟩
 have st:bz d_l_is_name [.str x]=[.lent (.str x),.no]:=rfl;have t1:ev Φ Γ .val [.lent (.str x),.dat (.str S)] (.chain .le .le (.k (.int 1)) (.bi .len (.cons (.v 0) .nil)) (.k (.int 12)))=some (.bool (decide (1≤x.length)&&decide (x.length≤12))):=by
  simp only[ev,evs,aV,dD,List.headD_cons,if_true,List.getElem?_cons_zero,bs0,bo,mo0,len_str,if_pos hz,qr,l1,l2];cases decide (1≤x.length)<;>rfl
 have t2:ev Φ Γ .val [.lent (.str x),.dat (.str S)] (.cmp .notin (.v 0) (.tup (.cons (.k (.str ⟨#[46]⟩)) (.cons (.k (.str ⟨#[46,46]⟩)) .nil))))=some (.bool (!(decide (x=dot)||decide (x=gG)))):=by
  have e:inD (.str x) (.tuple [.str dot,.str gG])=some (decide (x=dot)||decide (x=gG)):=by
   show some (decide (D.str dot=D.str x)||(decide (D.str gG=D.str x)||false))=_;have f:∀y:Str,decide (D.str y=D.str x)=decide (x=y):=fun y=>by
    by_cases c:x=y
    ·subst c;simp
    ·rw[df0 c,df0 fun z=>c (D.str.inj z).symm]
   rw[f,f,Bool.or_false]
  simp only[ev,evs,aV,dD,List.getElem?_cons_zero,bs0,bo,ju,mo0];show ((if (2:Nat)≤1000 then some (D.tuple [.str dot,.str gG]) else none).bind _)=_;rw[if_pos (by decide),bs0,e];rfl
 have t3:ev Φ Γ .val [.lent (.str x),.dat (.str S)] (.bi .all (.cons (.comp 1 [1] (.one 0) (.seq (.v 0)) .nil (.cmp .isin (.v 0) (.v 1))) .nil))=some (.bool (x.cps.toList.all bp)):=by
  simp only[ev,evs,evI,dD,aV,List.headD_cons,if_true,List.getElem?_cons_zero,bs0,bo,items_str,if_pos hz,lm0,if_pos hz2];rw[key]
  ·simp only[bs0,mo0,lN,jv,xT]
  ·intro c _
   have e:=lp c S;have e2:hasSub ⟨#[c]⟩ S=bp c:=by rw[e];rfl
   show some (some (D.bool (hasSub ⟨#[c]⟩ S)))=_;rw[e2]
 unfold ans;rw[st];have b:d_l_is_name.body=.cons (.set 1 (.k (.str S))) (.cons (.ret (.and (.chain .le .le (.k (.int 1)) (.bi .len (.cons (.v 0) .nil)) (.k (.int 12))) (.and (.cmp .notin (.v 0) (.tup (.cons (.k (.str ⟨#[46]⟩)) (.cons (.k (.str ⟨#[46,46]⟩)) .nil)))) (.bi .all (.cons (.comp 1 [1] (.one 0) (.seq (.v 0)) .nil (.cmp .isin (.v 0) (.v 1))) .nil))))) .nil):=rfl;rw[b];have u:ev Φ Γ .val [.lent (.str x),.dat (.str S)] (.and (.chain .le .le (.k (.int 1)) (.bi .len (.cons (.v 0) .nil)) (.k (.int 12))) (.and (.cmp .notin (.v 0) (.tup (.cons (.k (.str ⟨#[46]⟩)) (.cons (.k (.str ⟨#[46,46]⟩)) .nil)))) (.bi .all (.cons (.comp 1 [1] (.one 0) (.seq (.v 0)) .nil (.cmp .isin (.v 0) (.v 1))) .nil))))=some (.bool (bf x)):=by
  rw[ev,vd,t1,ev,vd,t2,t3];unfold bf;cases decide (1≤x.length)&&decide (x.length≤12)<;>cases decide (x=dot)<;>cases decide (x=gG)<;>rfl
 show ((ev Φ Γ .val [.lent (.str x),.dat (.str S)] _).map Out.rt|>.bind _).bind Out.val=_;rw[u];rfl
noncomputable def fu:List Str->Bool
 |a::b::r=>decide (a.cps.toList<b.cps.toList)&&fu (b::r)
 |_=>true
variable {Φ:Fs}{Γ:List (Str×D)}
theorem qZ {ρ ρ':List Sl}{s:S}{r:Ss}{P:Option D->Prop}(h:ex Φ Γ ρ s=some (.nx ρ'))(k:P ((exs Φ Γ ρ' r).bind Out.val)):P ((exs Φ Γ ρ (.cons s r)).bind Out.val):=by
 rw[exs,h];exact k
variable {Φ:Fs}{Γ:List (Str×D)}
variable {Φ:Fs}{Ψ:FsM}{Γ:List (Str×D)}{c:Nat}
def dP (Ψ:FsM)(f:Str)(fl:List Bool)(P:(Ust->List D->Option (Ust×R))->Prop):Prop:=∃run,Ψ f=some ⟨fl,run⟩/\P run
@[simp] theorem EM {h:Nat}{os:List D}:gi c (.vlt c h os)=true:=by simp[gi]
@[simp] theorem Hc {h:Nat}{os:List D}:zq (.vlt c h os)=os:=rfl
@[simp] theorem Hd {o:Option D}:roM .read o=o:=rfl
@[simp] theorem He {o:Option D}:roM .test o=o:=rfl
@[simp] theorem Jh {os:List D}:vE c [os] (.dat (.hdl 0))=.lent (.vlt c 0 os):=rfl
@[simp] theorem Ji {U:Ust}{x:Str}:vE c U (.dat (.str x))=.dat (.str x):=rfl
@[simp] theorem Jj {U:Ust}{x:Int}:vE c U (.dat (.int x))=.dat (.int x):=rfl
@[simp] theorem Iq {U:Ust}{x:Bool}:vE c U (.dat (.bool x))=.dat (.bool x):=rfl
@[simp] theorem Ir {U:Ust}{x:List D}:vE c U (.dat (.list x))=.dat (.list x):=rfl
@[simp] theorem Iu {U:Ust}:vE c U (.dat .none)=.dat .none:=rfl
@[simp] theorem Jk {U:Ust}{x:Nat}:vE c U (.dat (.exc x))=.dat (.exc x):=rfl
@[simp] theorem JK {U:Ust}:vE c U .no=.no:=rfl
@[simp] theorem Iv {U:Ust}{d:D}:vE c U (.lent d)=.lent d:=rfl
abbrev bX:Str:=⟨#[98,108,111,98]⟩
abbrev aE:Str:=⟨#[116,114,101,101]⟩
abbrev ah:Str:=⟨#[99,111,109,109,105,116]⟩
abbrev BW (Φ:Fs)(c:Nat):Prop:=Has Φ (ao "size") [true] fun run=>∀h os,run [.vlt c h os]=some (.int os.length)
abbrev xU (Φ:Fs)(c:Nat):Prop:=Has Φ (ao "held") [true,true] fun run=>∀(h:Nat) (os:List D) (n:Nat) (d:D),os[n]?=some d->run [.vlt c h os,.int n]=some d
abbrev BX (Φ:Fs)(c:Nat):Prop:=Has Φ (ao "kind") [true,true] fun run=>∀(h:Nat) (os:List D) (n:Nat) (k:Str) (ds:List D),os[n]?=some (.tuple (.str k::ds))->run [.vlt c h os,.int n]=some (.str k)
abbrev fv (Φ:Fs)(c:Nat):Prop:=Has Φ (ao "content") [true,true,true] fun run=>∀(h:Nat) (os:List D) (n:Nat) (k:Str) (d:D),os[n]?=some (.tuple [.str k,d])->run [.vlt c h os,.int n,.str k]=some d
abbrev ng (Φ:Fs)(c:Nat):Prop:=Has Φ "entries_of" [true,true] fun run=>∀(h:Nat) (os:List D) (n:Nat) (es:List D),os[n]?=some (.tuple [.str aE,.tuple es])->run [.vlt c h os,.int n]=some (.list es)
theorem xV (h:Nat)(os:List D):ans Φ Γ (fk c) [.vlt c h os]=some (.int os.length):=by
 simp[ans,fk]
theorem xW (h:Nat)(os:List D)(n:Nat)(d:D)(hd:os[n]?=some d):ans Φ Γ (ft c) [.vlt c h os,.int n]=some d:=by
 have hn:=(List.getElem?_eq_some_iff.mp hd).1;have e:atI os (n:Int)=some d:=by rw[bJ (by omega) (by omega)];simpa using hd
 have l1:(0:Int)≤(n:Int):=by omega
 have l2:(n:Int)<(os.length:Int):=by omega
 simp[ans,ft,e,l1,hn]
theorem xX (hh:xU Φ c)(h:Nat)(os:List D)(n:Nat)(k:Str)(ds:List D)(hd:os[n]?=some (.tuple (.str k::ds))):ans Φ Γ (fq c) [.vlt c h os,.int n]=some (.str k):=by
 obtain⟨r1,e1,h1⟩:=hh;have q:=h1 h os n _ hd;have e:atI (D.str k::ds) 0=some (.str k):=by rw[bJ (by omega) (by simp)];rfl
 simp[ans,fq,e1,q,e]
theorem nh (hh:xU Φ c)(h:Nat)(os:List D)(n:Nat)(k:Str)(d:D)(hd:os[n]?=some (.tuple [.str k,d])):ans Φ Γ (cg c) [.vlt c h os,.int n,.str k]=some d:=by
 obtain⟨r1,e1,h1⟩:=hh;have q:=h1 h os n _ hd;have e:atI [D.str k,d] 0=some (.str k):=rfl;have e':atI [D.str k,d] 1=some d:=rfl;simp[ans,cg,e1,q,e,e']
theorem nu (hc:fv Φ c)(h:Nat)(os:List D)(n:Nat)(es:List D)(hd:os[n]?=some (.tuple [.str aE,.tuple es])):ans Φ Γ (bK c) [.vlt c h os,.int n]=some (.list es):=by
 obtain⟨r1,e1,h1⟩:=hc;have q:=h1 h os n aE _ hd;simp[ans,bK,e1,q]
def cQ (Φ:Fs)(Ψ:FsM)(Γ:List (Str×D))(c:Nat)(d:aY)(U:Ust)(ds:List D):Option (Ust×R):=(aH Φ Ψ Γ c (startM d ds) U d.body).map fun q=>(q.2,mP q.1)
abbrev xY (Ψ:FsM):Prop:=Ψ (ao "put")=some gu
variable {Φ:Fs}{Ψ:FsM}{Γ:List (Str×D)}{c cNO cBT:Nat}
def dX (es:List Str):Bool:=es.all bf&&fu es
end TX
set_option maxRecDepth 10000
namespace TX
open PySem SI L2.Z
noncomputable def dG (cV:Nat):Def:=⟨[true,true],2,(.cons (.ret (.vcall cV "content" (.v 0) (.cons (.v 1) (.cons (.k (.str ⟨#[98,108,111,98]⟩)) .nil)))) .nil)⟩
noncomputable def fw:Def:=⟨[true,true],5,(.cons (.set 2 (.call "_law_mix" (.cons (.v 0) (.cons (.v 1) .nil)))) (.cons (.ifs (.cmp .gt (.op .mod (.v 2) (.k (.int 3))) (.k (.int 0))) (.cons (.ret (.idx (.lst (.cons (.k (.str ⟨#[97]⟩)) (.cons (.k (.str ⟨#[98]⟩)) (.cons (.k (.str ⟨#[97,98]⟩)) (.cons (.k (.str ⟨#[97,46,98]⟩)) (.cons (.k (.str ⟨#[66]⟩)) (.cons (.k (.str ⟨#[48]⟩)) (.cons (.k (.str ⟨#[97,45]⟩)) (.cons (.k (.str ⟨#[95]⟩)) .nil))))))))) (.op .mod (.op .fdiv (.v 2) (.k (.int 3))) (.k (.int 8))))) .nil) .nil) (.cons (.set 3 (.k (.str ⟨#[97,98,99,100,101,102,103,104,105,106,107,108,109,110,111,112,113,114,115,116,117,118,119,120,121,122,65,66,67,68,69,70,71,72,73,74,75,76,77,78,79,80,81,82,83,84,85,86,87,88,89,90,48,49,50,51,52,53,54,55,56,57,46,95,45]⟩))) (.cons (.set 4 (.me .join (.k (.str ⟨#[]⟩)) (.cons (.comp 1 [1,0,3] (.one 0) (.rng (.op .add (.k (.int 1)) (.op .mod (.op .fdiv (.v 2) (.k (.int 3))) (.k (.int 12))))) .nil (.idx (.v 3) (.op .mod (.op .fdiv (.call "_law_mix" (.cons (.v 2) (.cons (.op .add (.v 1) (.op .mul (.k (.int 7)) (.v 0))) .nil))) (.k (.int 5))) (.k (.int 65))))) .nil))) (.cons (.ret (.op .add (.v 4) (.op .mul (.k (.str ⟨#[97]⟩)) (.bi .int (.cons (.cmp .isin (.v 4) (.tup (.cons (.k (.str ⟨#[46]⟩)) (.cons (.k (.str ⟨#[46,46]⟩)) .nil)))) .nil))))) .nil)))))⟩
noncomputable def bE:aY:=⟨[false,false],2,(.cons (.ret (.lst (.meth "content" 0 (.va 1 (.ex (.p (.k (.str ⟨#[116,114,101,101]⟩))) .nil))))) .nil)⟩
noncomputable def bR (cV:Nat)(cNO:Nat):aY:=⟨[false,false],2,(.cons (.ifs (.not (.chain .le .lt (.k (.int 0)) (.v 1) (.bi .len (.cons (.vob cV (.v 0)) .nil)))) (.cons (.raise cNO (.ex (.p (.k (.str ⟨#[110,111,32,111,98,106,101,99,116,32,104,97,115,32,116,104,105,115,32,110,117,109,98,101,114]⟩))) .nil)) .nil) .nil) (.cons (.ret (.p (.idx (.vob cV (.v 0)) (.v 1)))) .nil))⟩
noncomputable def bL (cNO:Nat):aY:=⟨[false,false,false],4,(.cons (.set 3 (.meth "held" 0 (.va 1 .nil))) (.cons (.ifs (.cmp .ne (.idx (.v 3) (.k (.int 0))) (.v 2)) (.cons (.raise cNO (.ex (.p (.bi .fst (.cons (.k (.str ⟨#[116,104,101,32,111,98,106,101,99,116,32,119,105,116,104,32,116,104,105,115,32,110,117,109,98,101,114,32,105,115,32,110,111,32]⟩)) (.cons (.v 2) .nil)))) .nil)) .nil) .nil) (.cons (.ret (.p (.idx (.v 3) (.k (.int 1))))) .nil)))⟩
end TX
namespace TX
open PySem SI M1
variable {Φ:Fs}{Γ:List (Str×D)}
abbrev ui (o:Option D):Prop:=∃t:Str,o=some (.str t)/\bf t=true
abbrev rh (Φ:Fs):Prop:=Has Φ "_law_name" [true,true] fun run=>∀ns k,ui (run [.scr ns,.int k])
theorem jZ {t:Str}(h:bf t=true):1≤t.length/\t.length≤12:=by
 unfold bf at h;simp only[be0,decide_eq_true_eq] at h;exact⟨h.1.1.1.1,h.1.1.1.2⟩
noncomputable def menu8:List Str:=[⟨#[97]⟩,⟨#[98]⟩,⟨#[97,98]⟩,⟨#[97,46,98]⟩,⟨#[66]⟩,⟨#[48]⟩,⟨#[97,45]⟩,⟨#[95]⟩]
theorem xZ:∀x∈menu8,bf x=true:=by decide
def ya (ns:List Int)(b:Int)(k:Nat):Nat:=(signs65[(mixF ns (b+7*(k:Int)) / 5 % 65).toNat]?).getD 0
theorem AU (ns:List Int)(b:Int)(k:Nat):bp (ya ns b k)=true:=by
 have q1:=en0 (mixF ns (b+7*(k:Int)) / 5) (b:=65) (by decide);have q2:=el0 (mixF ns (b+7*(k:Int)) / 5) (b:=65) (by decide);have hl:(mixF ns (b+7*(k:Int)) / 5 % 65).toNat<signs65.length:=by show _<65;simp_all
 unfold ya bp;rw[ge0 hl];exact dt0 (List.getElem_mem hl)
theorem join_one (l:List Nat):Txt.join Str.empty (l.map fun c=>(⟨#[c]⟩:Str))=⟨l.toArray⟩:=by
 apply gT
 rw[pF,List.map_map];show _=l
 induction l with
 |nil=>rfl
 |cons c r ih=>rw[mk0,List.flatten_cons,ih];rfl
theorem yb (hm:mW Φ)(ns:List Int)(b:Int):ui (ans Φ Γ fw [.scr ns,.int b]):=by
 obtain⟨r1,e1,h1⟩:=hm
 let S:Str:=⟨signs65.toArray⟩
 generalize hN:mixF ns b=N;have N0:0≤N:=by rw[←hN];exact iN _ _
 unfold ans;rw[show bz fw [.scr ns,.int b]=[.lent (.scr ns),.lent (.int b),.no,.no,.no] from rfl];refine qZ (P:=ui) (ρ':=[.lent (.scr ns),.lent (.int b),.dat (.int N),.no,.no]) (by simp[e1,h1,hN]) ?_
 by_cases c0:0<N % 3
 ·have g1:=en0 (N / 3) (b:=8) (by decide)
  have g2:=el0 (N / 3) (b:=8) (by decide);have e:atI (menu8.map D.str) (N / 3 % 8)=some (.str ((menu8[(N / 3 % 8).toNat]?).getD Str.empty)):=by
   rw[bJ g1 (by show _<((8:Nat):Int);exact_mod_cast g2),gm0,bQ Str.empty (xs:=menu8) (by show _<8;simp_all)];rfl
  have e':atI [D.str ⟨#[97]⟩,.str ⟨#[98]⟩,.str ⟨#[97,98]⟩,.str ⟨#[97,46,98]⟩,.str ⟨#[66]⟩,.str ⟨#[48]⟩,.str ⟨#[97,45]⟩,.str ⟨#[95]⟩] (N / 3 % 8)=some (.str ((menu8[(N / 3 % 8).toNat]?).getD Str.empty)):=e;refine⟨(menu8[(N / 3 % 8).toNat]?).getD Str.empty,by simp[c0,e'],?_⟩;have hl:(N / 3 % 8).toNat<menu8.length:=by show _<8;simp_all
  rw[ge0 hl];exact xZ _ (List.getElem_mem hl)
 refine qZ (P:=ui) (ρ':=[.lent (.scr ns),.lent (.int b),.dat (.int N),.no,.no]) (by simp[c0]) ?_;refine qZ (P:=ui) (ρ':=[.lent (.scr ns),.lent (.int b),.dat (.int N),.dat (.str S),.no]) rfl ?_;have m1:=en0 (N / 3) (b:=12) (by decide);have m2:=el0 (N / 3) (b:=12) (by decide);generalize hM:1+N / 3 % 12=M at *;have M1:1≤M/\M≤12:=by omega
 let cs:List Nat:=(List.range M.toNat).map (ya ns b)
 let T:Str:=⟨cs.toArray⟩
 have hS:S.length≤big:=by decide
 have hcomp:ev Φ Γ .read [.lent (.scr ns),.lent (.int b),.dat (.int N),.dat (.str S),.no] (.comp 1 [1,0,3] (.one 0) (.rng (.op .add (.k (.int 1)) (.op .mod (.op .fdiv (.v 2) (.k (.int 3))) (.k (.int 12))))) .nil (.idx (.v 3) (.op .mod (.op .fdiv (.call "_law_mix" (.cons (.v 2) (.cons (.op .add (.v 1) (.op .mul (.k (.int 7)) (.v 0))) .nil))) (.k (.int 5))) (.k (.int 65)))))=some (.list ((cs.map fun c=>(⟨#[c]⟩:Str)).map .str)):=by
  have hr:=ot (n:=M) (by omega) (by omega);have hz:M.toNat≤big:=by unfold big;omega
  have key:=fun f h=>av (f:=f) (inj:=fun k:Nat=>D.int k) (g:=fun k:Nat=>D.str ⟨#[ya ns b k]⟩) (xs:=List.range M.toNat) h
  have src:evI Φ Γ .read [.lent (.scr ns),.lent (.int b),.dat (.int N),.dat (.str S),.no] (.rng (.op .add (.k (.int 1)) (.op .mod (.op .fdiv (.v 2) (.k (.int 3))) (.k (.int 12)))))=some ((List.range M.toNat).map fun k:Nat=>D.int k):=by
   simp[hM,hr]
  rw[ev,aV,src,bs0,if_pos (by simpa using hz),key]
  ·simp[cs]
  ·intro k _
   have q1:=en0 (mixF ns (b+7*(k:Int)) / 5) (b:=65) (by decide);have q2:=el0 (mixF ns (b+7*(k:Int)) / 5) (b:=65) (by decide);have q3:atI S.cps.toList (mixF ns (b+7*(k:Int)) / 5 % 65)=some (ya ns b k):=xM (xs:=signs65) 0 q1 q2;simp[e1,h1,q3,hS,pH 7]
 have hj:((((cs.map fun c=>(⟨#[c]⟩:Str)).map (·.length)).sum+(cs.map fun c=>(⟨#[c]⟩:Str)).length*(⟨#[]⟩:Str).length≤big)):=by
  have:((fun x:Str=>x.length) ∘ fun c:Nat=>(⟨#[c]⟩:Str))=fun a=>1:=by funext k;rfl
  rw[List.map_map,this,List.map_const',List.sum_replicate_nat];have:(⟨#[]⟩:Str).length=0:=rfl;rw[this];simp only[cs,lm0,lr0];unfold big;omega
 refine qZ (P:=ui) (ρ':=[.lent (.scr ns),.lent (.int b),.dat (.int N),.dat (.str S),.dat (.str T)]) ?_ ?_
 ·rw[ex,ev,dD,ev,aV,bs0,evs,List.headD_cons,if_pos rfl,hcomp,bs0,evs,mo0,bs0,zB,cL,bs0,if_pos hj]
  rw[show (⟨#[]⟩:Str)=Str.empty from rfl,join_one];rfl
 have hT:T.length=M.toNat:=by show cs.toArray.size=_;simp[cs]
 have signs:∀c∈T.cps.toList,bp c=true:=by
  intro c hc;have hc:c∈cs:=hc;obtain⟨k,_,rfl⟩:=mm0 hc;exact AU ns b k
 let ρ:List Sl:=[.lent (.scr ns),.lent (.int b),.dat (.int N),.dat (.str S),.dat (.str T)]
 have isin:ev Φ Γ .read ρ (.cmp .isin (.v 4) (.tup (.cons (.k (.str ⟨#[46]⟩)) (.cons (.k (.str ⟨#[46,46]⟩)) .nil))))=some (.bool (decide (D.str dot=D.str T)||(decide (D.str gG=D.str T)||false))):=rfl;generalize hb:(decide (D.str dot=D.str T)||(decide (D.str gG=D.str T)||false))=bb at isin;have h2:ev Φ Γ .read ρ (.bi .int (.cons (.cmp .isin (.v 4) (.tup (.cons (.k (.str ⟨#[46]⟩)) (.cons (.k (.str ⟨#[46,46]⟩)) .nil)))) .nil))=some (.int (if bb then 1 else 0)):=by
  rw[ev,aV,evs,List.headD_cons,if_pos rfl,isin,bs0,evs,mo0,bs0];rfl
 have h3:ev Φ Γ .read ρ (.op .mul (.k (.str ⟨#[97]⟩)) (.bi .int (.cons (.cmp .isin (.v 4) (.tup (.cons (.k (.str ⟨#[46]⟩)) (.cons (.k (.str ⟨#[46,46]⟩)) .nil)))) .nil)))=some (.str (if bb then⟨#[97]⟩ else Str.empty)):=by
  rw[ev,aV,h2];cases bb<;>rfl
 have h4:ev Φ Γ .val ρ (.op .add (.v 4) (.op .mul (.k (.str ⟨#[97]⟩)) (.bi .int (.cons (.cmp .isin (.v 4) (.tup (.cons (.k (.str ⟨#[46]⟩)) (.cons (.k (.str ⟨#[46,46]⟩)) .nil)))) .nil))))=some (.str (T++(if bb then⟨#[97]⟩ else Str.empty))):=by
  rw[ev,dD,h3];show (if T.length+(if bb then (⟨#[97]⟩:Str) else Str.empty).length≤big then some (D.str (T++(if bb then⟨#[97]⟩ else Str.empty))) else Option.none)=_;have:(if bb then (⟨#[97]⟩:Str) else Str.empty).length≤1:=by cases bb<;>decide
  exact if_pos (nt0 (Nat.add_le_add (Nat.le_of_eq hT) this) (by unfold big;omega))
 have fin:(exs Φ Γ ρ (.cons (.ret (.op .add (.v 4) (.op .mul (.k (.str ⟨#[97]⟩)) (.bi .int (.cons (.cmp .isin (.v 4) (.tup (.cons (.k (.str ⟨#[46]⟩)) (.cons (.k (.str ⟨#[46,46]⟩)) .nil)))) .nil))))) .nil)).bind Out.val=some (.str (T++(if bb then⟨#[97]⟩ else Str.empty))):=by
  rw[exs,ex,show ρ.map freeze=ρ from rfl,h4];rfl
 refine⟨_,fin,?_⟩;cases bb with
 |true=>
  simp only[Bool.or_false,Bool.or_eq_true,decide_eq_true_eq] at hb;rcases hb with hb|hb
  ·injection hb with hb;rw[←hb];decide
  ·injection hb with hb;rw[←hb];decide
 |false=>
  simp only[Bool.or_false,Bool.or_eq_false_iff,decide_eq_false_iff_not] at hb;have e:T++(if false=true then (⟨#[97]⟩:Str) else Str.empty)=T:=gT (by show (T.cps++#[]).toList=_;simp);rw[e];unfold bf;rw[dt0 (by omega:1≤T.length),dt0 (by omega:T.length≤12),df0 (fun z=>hb.1 (by rw[z])),df0 (fun z=>hb.2 (by rw[z])),List.all_eq_true.mpr signs];rfl
variable {Φ:Fs}{Γ:List (Str×D)}
theorem iQ (ts:List Str)(h:ts.length<64):biD .srt [.list (ts.map .str)]=some (.list ((srtS ts).map .str)):=by
 have e:ou (ts.map .str)=Option.none:=by
  match ts with
  |[]=>rfl
  |[_]=>rfl
  |[_,_]=>rfl
  |_::_::_::_=>rfl
 show (ou (ts.map .str)).or ((strsOf (ts.map .str)).bind fun ss=>if ss.length<64 then some (D.list ((srtS ss).map .str)) else Option.none)=_;rw[e,cL,bs0,if_pos h];rfl
end TX
namespace TX
open PySem SI M1 L2.Z
variable {Φ:Fs}{Ψ:FsM}{Γ:List (Str×D)}{c cNO cBT cNP:Nat}
variable {Φ:Fs}{Ψ:FsM}{Γ:List (Str×D)}{c cNO cBT cNP:Nat}
end TX
namespace TX
open PySem SI M1
variable {Φ:Fs}{Γ:List (Str×D)}
theorem AV {α:Type}(xs:List α)(a b:Nat):SI.cut xs (some (a:Int)) (some (b:Int))=(xs.drop a).take (b-a):=by
 unfold SI.cut sIx;simp only;rw[if_neg (by omega),if_neg (by omega),Int.toNat_natCast,Int.toNat_natCast]
 by_cases h:a<xs.length
 ·rw[show min a xs.length=a by omega]
  by_cases h2:b≤xs.length
  ·rw[show min b xs.length=b by omega]
  ·rw[show min b xs.length=xs.length by omega,List.take_of_length_le (by rw[List.length_drop];omega),List.take_of_length_le (by rw[List.length_drop];omega)]
 ·rw[show min a xs.length=xs.length by omega,List.drop_length,List.drop_eq_nil_of_le (by omega),List.take_nil,List.take_nil]
theorem ny {α:Type}(xs:List α)(a:Nat):SI.cut xs (some (a:Int)) none=xs.drop a:=by
 unfold SI.cut sIx;simp only;rw[if_neg (by omega),Int.toNat_natCast]
 by_cases h:a<xs.length
 ·rw[Nat.min_eq_left (by omega),List.take_of_length_le (by rw[List.length_drop];omega)]
 ·rw[Nat.min_eq_right (by omega),List.drop_length,List.drop_eq_nil_of_le (by omega),List.take_nil]
end TX
namespace L2.Z
open PySem PySem.Spec PyProof.Rows L2 L2.C SI
theorem aL {Φ:Fs}{Ψ:FsM}{Γ:List (Str×D)}{c:Nat}{d:aY}{U:Ust}{ds:List D}(h:ds.length=d.lent.length):(runM Φ Ψ Γ c d).run U ds=TX.cQ Φ Ψ Γ c d U ds:=if_pos h
theorem aO {Ψ0:FsM}{prog:List (Str×Def)}{progM:List (Str×aY)}{Γ:List (Str×D)}{c k:Nat}{x:Str}{d:aY}{P:(Ust->List D->Option (Ust×R))->Prop}(h0:Ψ0 x=Option.none)(h:progM.lookup x=some d)(hP:P (runM (den prog Γ k) (jh Ψ0 prog progM Γ c k) Γ c d).run):
  TX.dP (jh Ψ0 prog progM Γ c (k+1)) x d.lent P:=
 ⟨_,by show (match Ψ0 x with|some φ=>some φ|Option.none=>(progM.lookup x).map _)=_;rw[h0,h];rfl,hP⟩
noncomputable def uj:FsM:=fun f=>if f=ao "put" then some gu else Option.none
theorem nA:uj (ao "put")=some gu:=if_pos rfl
theorem lq {prog:List (Str×Def)}{progM:List (Str×aY)}{Γ:List (Str×D)}{c:Nat}(k:Nat):TX.xY (jh uj prog progM Γ c k):=by
 unfold TX.xY;cases k with
 |zero=>exact nA
 |succ k=>rw[jh,nA]
theorem AW {m:Str}{φ:FnM}(h:uj (ao m)=some φ):ao m=ao "put"/\φ=gu:=by
 unfold uj at h
 grind
theorem br {a b:Str}(h:ao a=ao b):a=b:=by
 unfold ao at h;have e:=congrArg (fun s=>s.cps.toList) h;simp only[M1.toL_append] at e;exact M1.ext (List.append_cancel_left e)
theorem walkM {l:PySem.W.OpenLaw}{q:Program}{loose:List Str}{XP:(Str->Option Value)->Heap->Prop}{YP:World->Heap->Prop}{d:DefRec}{K:Params->PySem.W.Frag}(hn:l.most=some 63)(hdf:d.params.defaults=[])
  (hY:∀(w:World) (h:Heap),YP w h->(K w.params).In h)
  (F:∀(w:World) (mg:Str->Option Value) (fa:Addr) (h:Heap),(K w.params).In h->h.Ns mainGlobals mg->mg d.name=some (.ref fa)->
   ∃fd:FuncData,(∀(s:Shared) (u:Value),BindsTo s fd ⟨[u],[]⟩ [("_law_script",u)])/\∀base:Heap,(K w.params).In base->base.Ns mainGlobals mg->FnOk l.prog w (K w.params) mg base CX0 40 fa fd ["_law_script"] (pE (K w.params))):
  PySem.W.WalkO q loose XP YP l.row.toRowW d [] (fun f vs=>PySem.call f vs):=
 L2.qj hn (by decide) hdf ⟨rfl,by decide,by decide⟩ hY F (fun c c a ns hl hO hS=>⟨⟨a,ns,rfl,hS,hl,fun c=>rfl⟩,fun b C dx fs e=>by
  rcases hO b with z|⟨o,xs,z⟩<;>simp_all⟩) fun c c c c c z=>z
theorem AX {a b:Nat}{x y t:Bool}{e:Nat}(h:List.lookup e [(a,x),(b,y)]=some t):(e=a/\t=x)\/(e=b/\t=y):=by
 rw[lk0] at h;cases q:e==a with
 |true=>simp_all
 |false=>
  rw[lk0] at h;cases q2:e==b<;>simp_all
theorem aZ {a b d:Nat}{x y u t:Bool}{e:Nat}(h:List.lookup e [(a,x),(b,y),(d,u)]=some t):(e=a/\t=x)\/(e=b/\t=y)\/(e=d/\t=u):=by
 rw[lk0] at h;cases q:e==a with
 |true=>simp_all
 |false=>rw[q] at h;exact .inr (AX h)
theorem iR {K:Fg}(c:Addr):PySem.W.kitOne K (.ref c) (.ref c)=some true:=by
 unfold PySem.W.kitOne;simp
def Hf {α:Type}(Q:Str->α->Prop):List (Str×α)->Prop
 |[]=>True
 |p::r=>Q p.1 p.2/\Hf Q r
theorem cj {α:Type}{Q:Str->α->Prop}:∀{prog:List (Str×α)},Hf Q prog->∀x d,prog.lookup x=some d->Q x d
 |[],_,x,d,h=>by cases h
 |(y,e)::r,hq,x,d,h=>by
  rw[lk0] at h;cases hxy:x==y with
  |true=>
   rw[hxy] at h;have:=eq_of_beq hxy;subst this;cases h;exact hq.1
  |false=>rw[hxy] at h;exact cj hq.2 x d h
theorem az {vms:List Str}{x:Str}(h:(vms.all fun m=>!(x==ao m))=true){m:Str}(e:x=ao m)(hm:vms.contains m=true):False:=by
 have:=List.all_eq_true.mp h m (List.contains_iff_mem.mp hm)
 simp_all
end L2.Z
set_option maxRecDepth 10000
namespace TX
open PySem SI L2.Z
noncomputable def ck (cV:Nat):Def:=⟨[true,true],3,(.cons (.set 2 (.vcall cV "content" (.v 0) (.cons (.v 1) (.cons (.k (.str ⟨#[99,111,109,109,105,116]⟩)) .nil)))) (.cons (.ret (.tup (.cons (.idx (.v 2) (.k (.int 0))) (.cons (.bi .list (.cons (.idx (.v 2) (.k (.int 1))) .nil)) (.cons (.idx (.v 2) (.k (.int 2))) (.cons (.idx (.v 2) (.k (.int 3))) .nil)))))) .nil))⟩
noncomputable def dH:Def:=⟨[true,true,true],12,(.cons (.set 3 (.call "_law_mix" (.cons (.v 0) (.cons (.v 1) .nil)))) (.cons (.set 4 (.comp 1 [2] (.one 0) (.rng (.bi .len (.cons (.v 2) .nil))) (.cons (.cmp .eq (.idx (.idx (.v 1) (.v 0)) (.k (.int 0))) (.k (.str ⟨#[116,114,101,101]⟩))) .nil) (.v 0))) (.cons (.set 5 (.comp 1 [2] (.one 0) (.rng (.bi .len (.cons (.v 2) .nil))) (.cons (.cmp .eq (.idx (.idx (.v 1) (.v 0)) (.k (.int 0))) (.k (.str ⟨#[99,111,109,109,105,116]⟩))) .nil) (.v 0))) (.cons (.set 6 (.comp 1 [2] (.one 0) (.rng (.bi .len (.cons (.v 2) .nil))) (.cons (.cmp .ne (.idx (.idx (.v 1) (.v 0)) (.k (.int 0))) (.k (.str ⟨#[99,111,109,109,105,116]⟩))) .nil) (.v 0))) (.cons (.ifs (.or (.cmp .lt (.op .mod (.v 3) (.k (.int 6))) (.k (.int 2))) (.not (.v 6))) (.cons (.set 7 (.call "_law_row" (.cons (.v 0) (.cons (.op .add (.v 1) (.k (.int 1))) (.cons (.op .mod (.op .fdiv (.v 3) (.k (.int 6))) (.k (.int 4))) .nil))))) (.cons (.ret (.tup (.cons (.k (.str ⟨#[98,108,111,98]⟩)) (.cons (.me .join (.k (.str ⟨#[]⟩)) (.cons (.call "_law_ends" (.cons (.v 7) (.cons (.cmp .eq (.op .mod (.op .fdiv (.v 3) (.k (.int 24))) (.k (.int 2))) (.k (.int 0))) .nil))) .nil)) .nil)))) .nil)) .nil) (.cons (.ifs (.or (.cmp .lt (.op .mod (.v 3) (.k (.int 6))) (.k (.int 4))) (.not (.v 4))) (.cons (.set 8 (.bi .srt (.cons (.comp 1 [1,0] (.one 0) (.rng (.op .mod (.op .fdiv (.v 3) (.k (.int 6))) (.k (.int 4)))) .nil (.call "_law_name" (.cons (.v 2) (.cons (.op .add (.op .add (.v 1) (.k (.int 1))) (.v 0)) .nil)))) .nil))) (.cons (.set 9 (.comp 1 [6,1,0] (.one 0) (.rng (.bi .len (.cons (.v 8) .nil))) .nil (.op .mul (.idx (.v 1) (.op .mod (.call "_law_mix" (.cons (.v 3) (.cons (.op .add (.op .add (.v 2) (.k (.int 2))) (.v 0)) .nil))) (.bi .len (.cons (.v 1) .nil)))) (.bi .int (.cons (.cmp .lt (.v 0) (.k (.int 2))) .nil))))) (.cons (.ret (.tup (.cons (.k (.str ⟨#[116,114,101,101]⟩)) (.cons (.bi .lzip (.cons (.v 8) (.cons (.v 9) .nil))) .nil)))) .nil))) .nil) (.cons (.set 10 (.lst .nil)) (.cons (.ifs (.v 5) (.cons (.set 10 (.bi .srt (.cons (.comp 1 [1,0,5] (.one 0) (.rng (.op .mod (.op .fdiv (.v 3) (.k (.int 6))) (.k (.int 3)))) .nil (.idx (.v 3) (.op .mod (.call "_law_mix" (.cons (.v 2) (.cons (.op .add (.op .add (.v 1) (.k (.int 1))) (.v 0)) .nil))) (.bi .len (.cons (.v 3) .nil))))) .nil))) .nil) .nil) (.cons (.ifs (.cmp .eq (.op .mod (.op .fdiv (.v 3) (.k (.int 18))) (.k (.int 2))) (.k (.int 0))) (.cons (.set 10 (.bi .rvl (.cons (.v 10) .nil))) .nil) .nil) (.cons (.set 11 (.idx (.lst (.cons (.k (.int 0)) (.cons (.k (.int 1)) (.cons (.k (.int 2)) (.cons (.k (.int 999999999999999)) (.cons (.op .mod (.op .fdiv (.v 3) (.k (.int 36))) (.k (.int 10))) .nil)))))) (.op .mod (.op .fdiv (.v 3) (.k (.int 36))) (.k (.int 5))))) (.cons (.ret (.tup (.cons (.k (.str ⟨#[99,111,109,109,105,116]⟩)) (.cons (.idx (.v 4) (.op .mod (.call "_law_mix" (.cons (.v 0) (.cons (.op .add (.v 1) (.k (.int 3))) .nil))) (.bi .len (.cons (.v 4) .nil)))) (.cons (.v 10) (.cons (.v 11) (.cons (.call "_law_line" (.cons (.v 0) (.cons (.op .add (.v 1) (.k (.int 4))) .nil))) .nil))))))) .nil)))))))))))⟩
noncomputable def cR:Def:=⟨[true,true,true],6,(.cons (.new 3 (.lst .nil)) (.cons (.fors (.one 4) (.rng (.v 2)) (.cons (.set 5 (.call "_law_thing" (.cons (.v 0) (.cons (.op .add (.v 1) (.op .mul (.k (.int 5)) (.v 4))) (.cons (.v 3) .nil))))) (.cons (.ifs (.cmp .notin (.v 5) (.v 3)) (.cons (.app 3 (.v 5)) .nil) .nil) .nil))) (.cons (.ret (.v 3)) .nil)))⟩
noncomputable def lr (cV:Nat):Def:=⟨[true,true,true],4,(.cons (.ifs (.cmp .ne (.vcall cV "kind" (.v 0) (.cons (.v 1) .nil)) (.idx (.v 2) (.k (.int 0)))) (.cons (.ret (.k (.bool false))) .nil) .nil) (.cons (.ifs (.cmp .eq (.idx (.v 2) (.k (.int 0))) (.k (.str ⟨#[98,108,111,98]⟩))) (.cons (.ret (.cmp .eq (.call "text_of" (.cons (.v 0) (.cons (.v 1) .nil))) (.idx (.v 2) (.k (.int 1))))) .nil) .nil) (.cons (.ifs (.cmp .eq (.idx (.v 2) (.k (.int 0))) (.k (.str ⟨#[116,114,101,101]⟩))) (.cons (.set 3 (.call "entries_of" (.cons (.v 0) (.cons (.v 1) .nil)))) (.cons (.ret (.and (.isi (.v 3) "list") (.and (.cmp .eq (.v 3) (.idx (.v 2) (.k (.int 1)))) (.bi .all (.cons (.comp 1 [] (.one 0) (.seq (.v 3)) .nil (.call "_law_whole" (.cons (.idx (.v 0) (.k (.int 1))) .nil))) .nil))))) .nil)) .nil) (.cons (.set 3 (.call "commit_of" (.cons (.v 0) (.cons (.v 1) .nil)))) (.cons (.ifs (.or (.not (.isi (.v 3) "tuple")) (.or (.cmp .ne (.bi .len (.cons (.v 3) .nil)) (.k (.int 4))) (.not (.isi (.idx (.v 3) (.k (.int 1))) "list")))) (.cons (.ret (.k (.bool false))) .nil) .nil) (.cons (.ifs (.not (.bi .all (.cons (.comp 1 [] (.one 0) (.seq (.op .add (.idx (.v 3) (.k (.int 1))) (.lst (.cons (.idx (.v 3) (.k (.int 0))) (.cons (.idx (.v 3) (.k (.int 2))) .nil))))) .nil (.call "_law_whole" (.cons (.v 0) .nil))) .nil))) (.cons (.ret (.k (.bool false))) .nil) .nil) (.cons (.ret (.cmp .eq (.v 3) (.tup (.cons (.idx (.v 2) (.k (.int 1))) (.cons (.idx (.v 2) (.k (.int 2))) (.cons (.idx (.v 2) (.k (.int 3))) (.cons (.idx (.v 2) (.k (.int 4))) .nil))))))) .nil)))))))⟩
noncomputable def dI (cV:Nat):Def:=⟨[true,true],2,(.cons (.ifs (.cmp .ne (.vcall cV "size" (.v 0) .nil) (.bi .len (.cons (.v 1) .nil))) (.cons (.ret (.k (.bool false))) .nil) .nil) (.cons (.ret (.bi .all (.cons (.comp 1 [1,0] (.one 0) (.rng (.bi .len (.cons (.v 1) .nil))) .nil (.call "_law_is" (.cons (.v 2) (.cons (.v 0) (.cons (.idx (.v 1) (.v 0)) .nil))))) .nil))) .nil))⟩
noncomputable def fz:Def:=⟨[true,true,true],4,(.cons (.set 3 (.call "_law_mix" (.cons (.v 0) (.cons (.v 1) .nil)))) (.cons (.ifs (.or (.cmp .eq (.op .mod (.v 3) (.k (.int 4))) (.k (.int 0))) (.cmp .eq (.v 2) (.k (.int 0)))) (.cons (.ret (.idx (.lst (.cons (.neg (.k (.int 1))) (.cons (.v 2) (.cons (.op .add (.v 2) (.k (.int 1))) (.cons (.op .add (.k (.int 100000000000000)) (.op .mod (.v 3) (.k (.int 1000)))) (.cons (.op .sub (.neg (.k (.int 100))) (.op .mod (.v 3) (.k (.int 1000)))) .nil)))))) (.op .mod (.op .fdiv (.v 3) (.k (.int 4))) (.k (.int 5))))) .nil) .nil) (.cons (.ret (.op .mod (.op .fdiv (.v 3) (.k (.int 4))) (.v 2))) .nil)))⟩
noncomputable def cp (cV:Nat)(cNO:Nat)(cBT:Nat)(cBC:Nat)(cNP:Nat)(cBP:Nat):Def:=⟨[true],2,(.cons (.set 1 (.lst (.cons (.isx (.v 0) cNO [(cNO,true),(cBT,false),(cBC,false)]) (.cons (.isx (.v 0) cBT [(cNO,false),(cBT,true),(cBC,false)]) (.cons (.isx (.v 0) cBC [(cNO,false),(cBT,false),(cBC,true)]) .nil))))) (.cons (.set 1 (.op .add (.v 1) (.lst (.cons (.isx (.v 0) cNP [(cNO,false),(cBT,false),(cBC,false)]) (.cons (.isx (.v 0) cBP [(cNO,false),(cBT,false),(cBC,false)]) .nil))))) (.cons (.ifs (.or (.not (.isx (.v 0) cV [(cNO,true),(cBT,true),(cBC,true)])) (.cmp .ne (.me .count (.v 1) (.cons (.k (.bool true)) .nil)) (.k (.int 1)))) (.cons (.ret (.k (.str ⟨#[110,111,110,101]⟩))) .nil) .nil) (.cons (.ret (.idx (.lst (.cons (.k (.str ⟨#[111,98,106,101,99,116]⟩)) (.cons (.k (.str ⟨#[116,114,101,101]⟩)) (.cons (.k (.str ⟨#[99,111,109,109,105,116]⟩)) (.cons (.k (.str ⟨#[112,97,116,104]⟩)) (.cons (.k (.str ⟨#[112,97,99,107]⟩)) .nil)))))) (.me .index (.v 1) (.cons (.k (.bool true)) .nil)))) .nil))))⟩
noncomputable def bM:Def:=⟨[true,true],3,(.cons (.fors (.one 2) (.rng (.bi .len (.cons (.v 1) .nil))) (.cons (.ifs (.or (.not (.call "_law_is_name" (.cons (.idx (.v 1) (.v 2)) .nil))) (.and (.cmp .gt (.v 2) (.k (.int 0))) (.not (.cmp .lt (.idx (.v 1) (.op .sub (.v 2) (.k (.int 1)))) (.idx (.v 1) (.v 2)))))) (.cons (.ret (.k (.str ⟨#[116,114,101,101]⟩))) .nil) .nil) .nil)) (.cons (.fors (.one 2) (.rng (.bi .min (.cons (.bi .len (.cons (.v 0) .nil)) (.cons (.bi .len (.cons (.v 1) .nil)) .nil)))) (.cons (.ifs (.cmp .isin (.idx (.v 0) (.v 2)) (.tup (.cons (.k (.str ⟨#[110,111,110,101]⟩)) (.cons (.k (.str ⟨#[99,111,109,109,105,116]⟩)) .nil)))) (.cons (.ret (.idx (.lst (.cons (.k (.str ⟨#[111,98,106,101,99,116]⟩)) (.cons (.k (.str ⟨#[116,114,101,101]⟩)) .nil))) (.bi .int (.cons (.cmp .eq (.idx (.v 0) (.v 2)) (.k (.str ⟨#[99,111,109,109,105,116]⟩))) .nil)))) .nil) .nil) .nil)) (.cons (.ret (.k (.str ⟨#[111,107]⟩))) .nil)))⟩
noncomputable def gX:Def:=⟨[true,true,true,true,true],7,(.cons (.set 5 (.comp 1 [0] (.one 0) (.seq (.v 2)) .nil (.ite (.chain .le .lt (.k (.int 0)) (.v 0) (.bi .len (.cons (.v 1) .nil))) (.idx (.idx (.v 1) (.v 0)) (.k (.int 0))) (.k (.str ⟨#[110,111,110,101]⟩))))) (.cons (.ifs (.cmp .eq (.v 1) (.k (.int 0))) (.cons (.ret (.ite (.cmp .ne (.idx (.v 5) (.k (.int 0))) (.k (.str ⟨#[110,111,110,101]⟩))) (.k (.str ⟨#[111,107]⟩)) (.k (.str ⟨#[111,98,106,101,99,116]⟩)))) .nil) .nil) (.cons (.ifs (.cmp .lt (.v 1) (.k (.int 4))) (.cons (.ret (.ite (.cmp .eq (.idx (.v 5) (.k (.int 0))) (.idx (.lst (.cons (.k (.str ⟨#[98,108,111,98]⟩)) (.cons (.k (.str ⟨#[116,114,101,101]⟩)) (.cons (.k (.str ⟨#[99,111,109,109,105,116]⟩)) .nil)))) (.op .sub (.v 1) (.k (.int 1))))) (.k (.str ⟨#[111,107]⟩)) (.k (.str ⟨#[111,98,106,101,99,116]⟩)))) .nil) .nil) (.cons (.ifs (.cmp .lt (.v 1) (.k (.int 6))) (.cons (.ret (.call "_law_due_tree" (.cons (.v 5) (.cons (.sl (.v 3) .nil (.cons (.bi .len (.cons (.v 2) .nil)) .nil)) .nil)))) .nil) .nil) (.cons (.ifs (.or (.cmp .ne (.idx (.v 5) (.k (.int 0))) (.k (.str ⟨#[116,114,101,101]⟩))) (.not (.bi .all (.cons (.comp 1 [] (.one 0) (.seq (.sl (.v 5) (.cons (.k (.int 1)) .nil) .nil)) .nil (.cmp .eq (.v 0) (.k (.str ⟨#[99,111,109,109,105,116]⟩)))) .nil)))) (.cons (.ret (.k (.str ⟨#[111,98,106,101,99,116]⟩))) .nil) .nil) (.cons (.set 6 (.and (.cmp .lt (.bi .len (.cons (.v 2) .nil)) (.k (.int 4))) (.and (.cmp .eq (.bi .nset (.cons (.sl (.v 2) (.cons (.k (.int 1)) .nil) .nil) .nil)) (.op .sub (.bi .len (.cons (.v 2) .nil)) (.k (.int 1)))) (.cmp .ge (.v 4) (.k (.int 0)))))) (.cons (.ret (.ite (.v 6) (.k (.str ⟨#[111,107]⟩)) (.k (.str ⟨#[99,111,109,109,105,116]⟩)))) .nil)))))))⟩
noncomputable def gY (cBT:Nat):aY:=⟨[false,false],4,(.cons (.expr (.call "refuse_wrong_names" (.ex (.p (.comp 2 [] (.tup [0,1]) (.seq (.v 1)) .nil (.v 0))) .nil))) (.cons (.fors (.tup [2,3]) (.seq (.v 1)) (.cons (.ifq (.meth "kind" 0 (.va 3 .nil)) ⟨#[99,111,109,109,105,116]⟩ (.cons (.raise cBT (.ex (.p (.k (.str ⟨#[97,110,32,101,110,116,114,121,32,110,97,109,101,115,32,97,32,99,111,109,109,105,116]⟩))) .nil)) .nil) .nil) .nil)) (.cons (.ret (.meth "put" 0 (.ex (.p (.tup (.cons (.k (.str ⟨#[116,114,101,101]⟩)) (.cons (.bi .tuple (.cons (.comp 2 [] (.tup [0,1]) (.seq (.v 1)) .nil (.tup (.cons (.v 0) (.cons (.v 1) .nil)))) .nil)) .nil)))) .nil))) .nil)))⟩
noncomputable def fA:aY:=⟨[false,false,false,false,false],5,(.cons (.expr (.call "refuse_wrong_commit" (.va 0 (.va 1 (.va 2 (.va 3 (.va 4 .nil))))))) (.cons (.ret (.meth "put" 0 (.ex (.p (.tup (.cons (.k (.str ⟨#[99,111,109,109,105,116]⟩)) (.cons (.tup (.cons (.v 1) (.cons (.bi .tuple (.cons (.v 2) .nil)) (.cons (.v 3) (.cons (.v 4) .nil))))) .nil)))) .nil))) .nil))⟩
noncomputable def cT:aY:=⟨[false,false],2,(.cons (.ret (.meth "content" 0 (.va 1 (.ex (.p (.k (.str ⟨#[98,108,111,98]⟩))) .nil)))) .nil)⟩
noncomputable def bN:aY:=⟨[false,false],3,(.cons (.set 2 (.meth "content" 0 (.va 1 (.ex (.p (.k (.str ⟨#[99,111,109,109,105,116]⟩))) .nil)))) (.cons (.ret (.p (.tup (.cons (.idx (.v 2) (.k (.int 0))) (.cons (.bi .list (.cons (.idx (.v 2) (.k (.int 1))) .nil)) (.cons (.idx (.v 2) (.k (.int 2))) (.cons (.idx (.v 2) (.k (.int 3))) .nil))))))) .nil))⟩
noncomputable def aC:aY:=⟨[false,false],2,(.cons (.expr (.meth "content" 0 (.va 1 (.ex (.p (.k (.str ⟨#[116,114,101,101]⟩))) .nil)))) .nil)⟩
noncomputable def aF (cBC:Nat):aY:=⟨[false,false,false,false,false],6,(.cons (.expr (.call "refuse_what_is_no_tree" (.va 0 (.va 1 .nil)))) (.cons (.fors (.one 5) (.seq (.v 2)) (.cons (.expr (.meth "content" 0 (.va 5 (.ex (.p (.k (.str ⟨#[99,111,109,109,105,116]⟩))) .nil)))) .nil)) (.cons (.ifs (.cmp .gt (.bi .len (.cons (.v 2) .nil)) (.g "MOST_PARENTS")) (.cons (.raise cBC (.ex (.p (.k (.str ⟨#[97,32,99,111,109,109,105,116,32,104,97,115,32,97,116,32,109,111,115,116,32,116,119,111,32,112,97,114,101,110,116,115]⟩))) .nil)) .nil) .nil) (.cons (.ifs (.cmp .lt (.bi .nset (.cons (.v 2) .nil)) (.bi .len (.cons (.v 2) .nil))) (.cons (.raise cBC (.ex (.p (.k (.str ⟨#[116,104,101,32,112,97,114,101,110,116,115,32,97,114,101,32,97,108,105,107,101]⟩))) .nil)) .nil) .nil) (.cons (.ifs (.cmp .lt (.v 3) (.k (.int 0))) (.cons (.raise cBC (.ex (.p (.k (.str ⟨#[116,104,101,32,116,105,109,101,32,108,105,101,115,32,98,101,108,111,119,32,48]⟩))) .nil)) .nil) .nil) (.cons (.ifs (.cmp .isin (.k (.str ⟨#[10]⟩)) (.v 4)) (.cons (.raise cBC (.ex (.p (.k (.str ⟨#[116,104,101,32,109,101,115,115,97,103,101,32,104,97,115,32,97,32,108,105,110,101,32,101,110,100]⟩))) .nil)) .nil) .nil) .nil))))))⟩
noncomputable def gZ:aY:=⟨[false,false],2,(.cons (.ifs (.cmp .eq (.idx (.v 1) (.k (.int 0))) (.k (.str ⟨#[98,108,111,98]⟩))) (.cons (.ret (.call "blob" (.va 0 (.ex (.p (.idx (.v 1) (.k (.int 1)))) .nil)))) .nil) .nil) (.cons (.ifs (.cmp .eq (.idx (.v 1) (.k (.int 0))) (.k (.str ⟨#[116,114,101,101]⟩))) (.cons (.ret (.call "tree" (.va 0 (.ex (.p (.bi .list (.cons (.idx (.v 1) (.k (.int 1))) .nil))) .nil)))) .nil) .nil) (.cons (.ret (.call "commit" (.va 0 (.ex (.p (.idx (.v 1) (.k (.int 1)))) (.ex (.p (.bi .list (.cons (.idx (.v 1) (.k (.int 2))) .nil))) (.ex (.p (.idx (.v 1) (.k (.int 3)))) (.ex (.p (.idx (.v 1) (.k (.int 4)))) .nil))))))) .nil)))⟩
noncomputable def cU:aY:=⟨[false],3,(.cons (.set 1 .new) (.cons (.fors (.one 2) (.seq (.v 0)) (.cons (.expr (.call "_law_put" (.va 1 (.va 2 .nil)))) .nil)) (.cons (.ret (.hv 1)) .nil)))⟩
noncomputable def dJ (cNO:Nat)(cBT:Nat)(cBC:Nat):aY:=⟨[false,false,false,false,false],8,(.cons (.set 5 (.p (.k .none))) (.cons (.set 6 (.p (.k .none))) (.cons (.try1 [(cNO,true),(cBT,true),(cBC,true)] 5 7 (.cons (.ifs (.cmp .eq (.v 1) (.k (.int 0))) (.cons (.set 6 (.meth "kind" 0 (.ex (.p (.idx (.v 2) (.k (.int 0)))) .nil))) .nil) (.cons (.ifs (.cmp .eq (.v 1) (.k (.int 1))) (.cons (.set 6 (.call "text_of" (.va 0 (.ex (.p (.idx (.v 2) (.k (.int 0)))) .nil)))) .nil) (.cons (.ifs (.cmp .eq (.v 1) (.k (.int 2))) (.cons (.set 6 (.call "entries_of" (.va 0 (.ex (.p (.idx (.v 2) (.k (.int 0)))) .nil)))) .nil) (.cons (.ifs (.cmp .eq (.v 1) (.k (.int 3))) (.cons (.set 6 (.call "commit_of" (.va 0 (.ex (.p (.idx (.v 2) (.k (.int 0)))) .nil)))) .nil) (.cons (.ifs (.cmp .lt (.v 1) (.k (.int 6))) (.cons (.set 6 (.call "tree" (.va 0 (.ex (.p (.bi .lzip (.cons (.v 3) (.cons (.v 2) .nil)))) .nil)))) .nil) (.cons (.set 6 (.call "commit" (.va 0 (.ex (.p (.idx (.v 2) (.k (.int 0)))) (.ex (.p (.sl (.v 2) (.cons (.k (.int 1)) .nil) .nil)) (.va 4 (.ex (.p (.k (.str ⟨#[109]⟩))) .nil))))))) .nil)) .nil)) .nil)) .nil)) .nil)) .nil)) (.cons (.ifs (.cmp .notN (.v 5) (.k .none)) (.cons (.ret (.p (.tup (.cons (.k (.str ⟨#[110,111]⟩)) (.cons (.call "_law_refusal" (.cons (.v 5) .nil)) .nil))))) .nil) .nil) (.cons (.ret (.p (.v 6))) .nil)))))⟩
noncomputable def dM:aY:=⟨[false,false],2,(.cons (.ret (.ix0 (.meth "held" 0 (.va 1 .nil)))) .nil)⟩
end TX
namespace SI
open PySem
section
variable {α:Type}{x0 y:α}{l:List α}
@[simp ↓ high] theorem gt0:(x0::l)[0]?=some x0:=rfl
@[simp ↓ high] theorem gtS {n:Nat}:(x0::l)[n+1]?=l[n]?:=rfl
@[simp ↓ high] theorem st0:(x0::l).set 0 y=y::l:=rfl
@[simp ↓ high] theorem stS {n:Nat}:(x0::l).set (n+1) y=x0::l.set n y:=rfl
end
def fzM (ρ:List Sl):List Sl:=ρ.map freeze
@[simp ↓ high] theorem fz_g {ρ:List Sl} {i:Nat}:(fzM ρ)[i]?=ρ[i]?.map freeze:=gm0
section
variable {Φ:Fs}{Γ:List (Str×D)}{ρ:List Sl}{s:S}{r a b:Ss}{d:D}{m:Md}{t:Bool}{e:E}
def nxS (Φ:Fs)(Γ:List (Str×D))(o:Option Out)(r:Ss):Option Out:=o.bind fun o=>o.andThen fun ρ'=>exs Φ Γ ρ' r
def ifS (Φ:Fs)(Γ:List (Str×D))(o:Option D)(ρ:List Sl)(a b:Ss):Option Out:=o.bind fun d=>(asB d).bind fun t=>if t then exs Φ Γ ρ a else exs Φ Γ ρ b
def AY (Φ:Fs)(Γ:List (Str×D))(tg:Tg)(body:Ss)(ds:List D)(ρ:List Sl):Option Out:=forL (au tg) (fun ρ'=>exs Φ Γ ρ' body) ds ρ
noncomputable def cpF (Φ:Fs)(Γ:List (Str×D))(ρ:List Sl)(nt:Nat)(js:List Nat)(tg:Tg)(ifs:Es)(elt:E)(d:D):Option (Option D):=(au tg d (blk nt js ρ)).bind fun ρ'=>(evC Φ Γ ρ' ifs).bind fun t=>if t then (ev Φ Γ .val ρ' elt).map some else some none
@[simp ↓ high] theorem exs_c:exs Φ Γ ρ (.cons s r)=nxS Φ Γ (ex Φ Γ ρ s) r:=(rfl)
@[simp] theorem Kc:nxS Φ Γ (some (.nx ρ)) r=exs Φ Γ ρ r:=(rfl)
@[simp] theorem Kd:nxS Φ Γ (some (.rt d)) r=some (.rt d):=(rfl)
@[simp ↓ high] theorem ex_if {c:E}:ex Φ Γ ρ (.ifs c a b)=ifS Φ Γ (ev Φ Γ .test ρ c) ρ a b:=(rfl)
@[simp] theorem Kf:ifS Φ Γ (some (.bool t)) ρ a b=if t then exs Φ Γ ρ a else exs Φ Γ ρ b:=(rfl)
@[simp ↓ high] theorem ex_ret:ex Φ Γ ρ (.ret e)=(ev Φ Γ .val (fzM ρ) e).map .rt:=(rfl)
@[simp ↓ high] theorem ex_for {tg:Tg} {src:I}:ex Φ Γ ρ (.fors tg src r)=(evI Φ Γ .walk ρ src).bind fun ds=>AY Φ Γ tg r ds ρ:=(rfl)
@[simp ↓ high] theorem ev_cp {nt:Nat} {js:List Nat} {tg:Tg} {src:I} {ifs:Es}:ev Φ Γ m ρ (.comp nt js tg src ifs e)=fin m ((evI Φ Γ .read ρ src).bind fun ds=>if ds.length≤big then (aM (cpF Φ Γ ρ nt js tg ifs e) ds).map .list else none):=(rfl)
def yc (o:Option D):Option (List D):=o.bind fun d=>(asI d).bind fun n=>if rOk n then some ((List.range n.toNat).map fun (k:Nat)=>.int k) else none
@[simp ↓ high] theorem evI_r:evI Φ Γ m ρ (.rng e)=yc (ev Φ Γ .val ρ e):=(rfl)
theorem pJ {n:Int}(h1:-1000000≤n)(h2:n≤1000000):yc (some (.int n))=some ((List.range n.toNat).map fun (k:Nat)=>.int k):=by
 show (if rOk n then _ else _)=_;rw[if_pos (ot h1 h2)]
theorem Hg {n:Nat}(h:n≤1000000):yc (some (.int n))=some ((List.range n).map fun (k:Nat)=>.int k):=pJ (by omega) (by omega)
def EN (o:Option D):Option (List D):=o.bind fun d=>yc (biD .len [d])
@[simp ↓ 20000] theorem evI_rl:evI Φ Γ m ρ (.rng (.bi .len (.cons e .nil)))=EN (ev Φ Γ .read ρ e):=by
 show yc (((ev Φ Γ .read ρ e).bind fun x=>some [x]).bind fun ds=>biD .len ds)=_;cases h:ev Φ Γ .read ρ e<;>rfl
theorem rj {ds:List D}(h:ds.length≤1000000):EN (some (.list ds))=some ((List.range ds.length).map fun (k:Nat)=>.int k):=by rw[EN,bs0,len_list,Hg h]
theorem BY {α β:Type}{inj:β->D}{tg:Tg}{F:α->List Sl}(J:Nat->α->Prop){P:Option Out->Prop}(k:∀s,J 0 s->P (some (.nx (F s)))):∀{xs:List β} {s:α} (h:∀x∈xs,∀n s,J (n+1) s->∃s',J n s'/\(au tg (inj x) (F s)).bind (fun ρ=>exs Φ Γ ρ r)=some (.nx (F s'))),J xs.length s->P (AY Φ Γ tg r (xs.map inj) (F s))
 |[],s,_,j=>k s j
 |x::xs,s,h,j=>by
  obtain⟨s',j',e⟩:=h x ms0 _ s j;obtain⟨ρ',e1,e2⟩:=bx0 e;show P ((au tg (inj x) (F s)).bind fun ρ'=>(exs Φ Γ ρ' r).bind _);rw[e1,bs0,e2];exact BY J k (fun y hy=>h y (mc0 _ hy)) j'
theorem pK {ds:List D}:meD .count (.list ds) [.bool t]=(boolsOf ds).map fun bs=>.int (bs.count t:Nat):=(rfl)
theorem pL {ds:List D}:meD .index (.list ds) [.bool t]=(boolsOf ds).bind fun bs=>(bs.idxOf? t).map fun j=>.int (j:Nat):=(rfl)
theorem yd {tab:List (Nat×Bool)}{n:Nat}:zr tab (.exc n)=tab.lookup n:=(rfl)
theorem EO:boolsOf []=some []:=(rfl)
theorem ER {ds:List D}:boolsOf (.bool t::ds)=(boolsOf ds).map (t::·):=(rfl)
theorem BZ {ds:List D}:biD .rvl [.list ds]=some (.list ds.reverse):=rfl
@[simp] theorem AZ {α:Type}{p:α->Bool}:∀{xs:List α},boolsOf (xs.map fun x=>.bool (p x))=some (xs.map p)
 |[]=>rfl
 |x::xs=>by rw[mk0,boolsOf,AZ];rfl
theorem bY {nt:Nat}{js:List Nat}{tg:Tg}{ifs:Es}:cpF Φ Γ ρ nt js tg ifs e d=(au tg d (blk nt js ρ)).bind fun ρ'=>(evC Φ Γ ρ' ifs).bind fun t=>if t then (ev Φ Γ .val ρ' e).map some else some none:=(rfl)
noncomputable def kc (ρ:List Sl):Option D->Out
 |none=>.nx ρ
 |some x=>.rt x
@[simp] theorem Kg:kc ρ none=.nx ρ:=rfl
@[simp] theorem Kh:kc ρ (some d)=.rt d:=rfl
theorem Ca {α β:Type}{inj:β->D}{tg:Tg}{F:α->List Sl}{f:β->Option D}:∀{xs:List β} {s:α} (h:∀x∈xs,∀s,∃s',(au tg (inj x) (F s)).bind (fun ρ=>exs Φ Γ ρ r)=some (kc (F s') (f x))),∃s',AY Φ Γ tg r (xs.map inj) (F s)=some (kc (F s') (xs.findSome? f))
 |[],s,_=>⟨s,rfl⟩
 |x::xs,s,h=>by
  obtain⟨s',e⟩:=h x ms0 s;obtain⟨ρ',e1,e2⟩:=bx0 e;show ∃s',((au tg (inj x) (F s)).bind fun ρ'=>(exs Φ Γ ρ' r).bind _)=_;rw[e1,bs0,e2,List.findSome?_cons];cases f x with
  |some y=>exact⟨s',rfl⟩
  |none=>exact Ca fun y hy=>h y (mc0 _ hy)
theorem Cb {α β:Type}{inj:β->D}{tg:Tg}{F:α->List Sl}(f:β->Option D){xs:List β}{s:α}{P:Option Out->Prop}(h:∀x∈xs,∀s,∃s',(au tg (inj x) (F s)).bind (fun ρ=>exs Φ Γ ρ r)=some (kc (F s') (f x)))(k:∀s',P (some (kc (F s') (xs.findSome? f)))):P (AY Φ Γ tg r (xs.map inj) (F s)):=by
 obtain⟨s',e⟩:=Ca (s:=s) h;rw[e];exact k s'
def jj (o p:Option D):Option D:=o.bind fun x=>p.bind fun y=>opD .mul x y
@[simp ↓ high] theorem ev_m {a b:E}:ev Φ Γ m ρ (.op .mul a b)=fin m (jj (ev Φ Γ .read ρ a) (ev Φ Γ .read ρ b)):=(rfl)
@[simp] theorem Ki {i:Int}:jj (some (.int i)) (some (.int 1))=some (.int i):=by
 rw[jj,bs0,bs0,gP,TX.la _ 1 (by decide) (by decide),if_pos rfl,Int.mul_one]
@[simp] theorem Kj {i:Int}:jj (some (.int i)) (some (.int 0))=some (.int 0):=by
 rw[jj,bs0,bs0,gP,TX.la _ 0 (by decide) (by decide),if_pos rfl,Int.mul_zero]
theorem mulL {i j:Int}(h1:-(2 ^ 64)<i)(h2:i<2 ^ 64):jj (some (.int i)) (some (.int j))=some (.int (i*j)):=by
 rw[jj,bs0,bs0,gP,TX.pH _ _ h1 h2,if_pos rfl]
@[simp] theorem orP {P:Prop}[Decidable P]:(if P then some (D.bool true) else some (D.bool t))=some (.bool (decide P||t)):=by by_cases h:P<;>simp[h]
@[simp] theorem Kk {P:Prop}[Decidable P]:(if P then some (D.bool t) else some (D.bool false))=some (.bool (decide P&&t)):=by by_cases h:P<;>simp[h]
def uk (o:Option Out):Option D:=o.bind Out.val
@[simp] theorem Jl:uk (some (.rt d))=some d:=rfl
@[simp] theorem Jm:uk (some (.nx ρ))=some .none:=rfl
theorem fB {α:Type}{xs:List α}{n:Nat}{x:α}(h:xs[n]?=some x):atI xs (n:Int)=some x:=by
 have:=(List.getElem?_eq_some_iff.mp h).1;rw[TX.bJ (by omega) (by omega)];exact h
section
variable {α:Type}{x y z u v:α}{l:List α}
@[simp] theorem JL:atI (x::l) 0=some x:=fB (n:=0) rfl
@[simp] theorem JM:atI (x::y::l) 1=some y:=fB (n:=1) rfl
@[simp] theorem JN:atI (x::y::z::l) 2=some z:=fB (n:=2) rfl
@[simp] theorem JO:atI (x::y::z::u::l) 3=some u:=fB (n:=3) rfl
@[simp] theorem JP:atI (x::y::z::u::v::l) 4=some v:=fB (n:=4) rfl
end
end
end SI
namespace TX
open SI L2.Z PySem
theorem ans_e {Φ:Fs}{Γ:List (Str×D)}{fl:List Bool}{n:Nat}{b:Ss}{ds:List D}:ans Φ Γ ⟨fl,n,b⟩ ds=uk (exs Φ Γ (bz ⟨fl,n,b⟩ ds) b):=(rfl)
def um (o:Option (OM×Ust)):Option (Ust×R):=o.map fun q=>(q.2,mP q.1)
@[simp] theorem Jn {o:OM}{U:Ust}:um (some (o,U))=some (U,mP o):=(rfl)
theorem aR {Φ:Fs}{Ψ:FsM}{Γ:List (Str×D)}{c n:Nat}{fl:List Bool}{b:SMs}{U:Ust}{ds:List D}:cQ Φ Ψ Γ c ⟨fl,n,b⟩ U ds=um (aH Φ Ψ Γ c (startM ⟨fl,n,b⟩ ds) U b):=(rfl)
end TX
namespace L2.Z
open PySem SI
section
variable {Φ:Fs}{Ψ:FsM}{Γ:List (Str×D)}{c:Nat}{ρ:List Sl}{U U':Ust}{s:SM}{r a b:SMs}{d:D}{t:Bool}{x:Nat}{e:M}
def nxM (Φ:Fs)(Ψ:FsM)(Γ:List (Str×D))(c:Nat)(o:Option (OM×Ust))(r:SMs):Option (OM×Ust):=o.bind fun q=>q.1.andThen (fun ρ'=>aH Φ Ψ Γ c ρ' q.2 r) q.2
def ifM (Φ:Fs)(Ψ:FsM)(Γ:List (Str×D))(c:Nat)(o:Option D)(ρ:List Sl)(U:Ust)(a b:SMs):Option (OM×Ust):=o.bind fun d=>(asB d).bind fun t=>if t then aH Φ Ψ Γ c ρ U a else aH Φ Ψ Γ c ρ U b
noncomputable def ifQ (Φ:Fs)(Ψ:FsM)(Γ:List (Str×D))(c:Nat)(y:Str)(ρ:List Sl)(a b:SMs):R×Ust->Option (OM×Ust)
 |(.ok d,U)=>(AB d).bind fun x=>if x=y then aH Φ Ψ Γ c ρ U a else aH Φ Ψ Γ c ρ U b
 |(.exc x,U)=>some (.exc x ρ,U)
def iS (Φ:Fs)(Ψ:FsM)(Γ:List (Str×D))(c:Nat)(tg:Tg)(body:SMs)(ds:List D)(ρ:List Sl)(U:Ust):Option (OM×Ust):=forM (au tg) (fun ρ' U'=>aH Φ Ψ Γ c ρ' U' body) ds ρ U
def vM (c:Nat)(U:Ust)(ρ:List Sl):List Sl:=ρ.map (vE c U)
@[simp ↓ high] theorem vM_g {i:Nat}:(vM c U ρ)[i]?=ρ[i]?.map (vE c U):=gm0
@[simp ↓ high] theorem evM_p {q:E}:evM Φ Ψ Γ c ρ U (.p q)=(ev Φ Γ .val (vM c U ρ) q).map fun d=>(.ok d,U):=(rfl)
@[simp ↓ high] theorem exM_ret:exM Φ Ψ Γ c ρ U (.ret e)=(evM Φ Ψ Γ c (fzM ρ) U e).map fun z=>(tZ .rt (fzM ρ) z.1,z.2):=(rfl)
@[simp ↓ high] theorem exMs_c:aH Φ Ψ Γ c ρ U (.cons s r)=nxM Φ Ψ Γ c (exM Φ Ψ Γ c ρ U s) r:=(rfl)
@[simp] theorem JQ:nxM Φ Ψ Γ c (some (.nx ρ,U)) r=aH Φ Ψ Γ c ρ U r:=(rfl)
@[simp] theorem JR:nxM Φ Ψ Γ c (some (.rt d,U)) r=some (.rt d,U):=(rfl)
@[simp] theorem JS:nxM Φ Ψ Γ c (some (.exc x ρ,U)) r=some (.exc x ρ,U):=(rfl)
@[simp ↓ high] theorem exM_if {q:E}:exM Φ Ψ Γ c ρ U (.ifs q a b)=ifM Φ Ψ Γ c (ev Φ Γ .test (vM c U ρ) q) ρ U a b:=(rfl)
@[simp] theorem JT:ifM Φ Ψ Γ c (some (.bool t)) ρ U a b=if t then aH Φ Ψ Γ c ρ U a else aH Φ Ψ Γ c ρ U b:=(rfl)
@[simp ↓ high] theorem exM_q {y:Str}:exM Φ Ψ Γ c ρ U (.ifq e y a b)=(evM Φ Ψ Γ c ρ U e).bind (ifQ Φ Ψ Γ c y ρ a b):=by
 rw[exM];congr 1;funext z;obtain⟨z,_⟩:=z;cases z<;>rfl
@[simp] theorem JU {x y:Str}:ifQ Φ Ψ Γ c y ρ a b (.ok (.str x),U)=if x=y then aH Φ Ψ Γ c ρ U a else aH Φ Ψ Γ c ρ U b:=(rfl)
@[simp] theorem JV {y:Str}:ifQ Φ Ψ Γ c y ρ a b (.exc x,U)=some (.exc x ρ,U):=(rfl)
@[simp ↓ high] theorem exM_for {tg:Tg} {src:I}:exM Φ Ψ Γ c ρ U (.fors tg src r)=(evI Φ Γ .walk ρ src).bind fun ds=>iS Φ Ψ Γ c tg r ds ρ U:=(rfl)
@[simp] theorem JW {f:D->Ust->Option (R×Ust)}:goR (.ok d,U) f=f d U:=(rfl)
@[simp] theorem JX {f:D->Ust->Option (R×Ust)}:goR (.exc x,U) f=some (.exc x,U):=(rfl)
@[simp] theorem Jo {f:D->OM}:tZ f ρ (.ok d)=f d:=rfl
@[simp] theorem Jp {f:D->OM}:tZ f ρ (.exc x)=.exc x ρ:=rfl
@[simp] theorem Jq:mP (.nx ρ)=.ok .none:=rfl
@[simp] theorem Jr:mP (.rt d)=.ok d:=rfl
@[simp] theorem Js:mP (.exc x ρ)=.exc x:=rfl
@[simp] theorem ES {l:List D}:vE c U (.dat (.tuple l))=.dat (.tuple l):=rfl
@[simp] theorem JY {h:Nat}:jQ (some (.dat (.hdl h)))=some h:=rfl
@[simp] theorem Jt:AA false (some (.dat d))=some d:=rfl
@[simp] theorem Ju {f:Ust->List D->Option (Ust×R)}{ds:List D}:Eu f (.ok ds) U=f U ds:=(rfl)
@[simp] theorem JZ {ds:List D}:hdD (.tuple (d::ds))=some d:=rfl
@[simp] theorem Jv {ds:List D}:xt (.tuple ds)=some ds:=rfl
@[simp] theorem Jw {ds:List D}:xt (.list ds)=some ds:=rfl
@[simp] theorem Ka {tab:List (Nat×Bool)}{i j:Nat}:EA tab i j U (.nx ρ)=some (.nx ρ,U):=(rfl)
theorem kg {tab:List (Nat×Bool)}{i j:Nat}(h:tab.lookup x=some true):EA tab i j U (.exc x ρ)=some (.nx ((ρ.set i (.dat (.exc x))).set j .no),U):=if_pos h
theorem Ba {tg:Tg}{ds:List D}:iS Φ Ψ Γ c tg r (d::ds) ρ U=(au tg d ρ).bind fun ρ'=>(aH Φ Ψ Γ c ρ' U r).bind fun q=>q.1.andThen (fun ρ2=>iS Φ Ψ Γ c tg r ds ρ2 q.2) q.2:=(rfl)
@[simp] theorem Kl {f:List Sl->Option (OM×Ust)}:(OM.nx ρ).andThen f U=f ρ:=(rfl)
noncomputable def uo (ρ:List Sl):Option Nat->OM
 |none=>.nx ρ
 |some x=>.exc x ρ
@[simp] theorem Km:uo ρ none=.nx ρ:=rfl
@[simp] theorem Kn:uo ρ (some x)=.exc x ρ:=rfl
theorem Cd {α β:Type}{inj:β->D}{tg:Tg}{F:α->List Sl}{f:β->Option Nat}:∀{xs:List β} {s:α} (h:∀x∈xs,∀s,∃s',(au tg (inj x) (F s)).bind (fun ρ=>aH Φ Ψ Γ c ρ U r)=some (uo (F s') (f x),U)),∃s',iS Φ Ψ Γ c tg r (xs.map inj) (F s) U=some (uo (F s') (xs.findSome? f),U)
 |[],s,_=>⟨s,rfl⟩
 |x::xs,s,h=>by
  obtain⟨s',e⟩:=h x ms0 s;obtain⟨ρ',e1,e2⟩:=bx0 e;show ∃s',((au tg (inj x) (F s)).bind fun ρ'=>(aH Φ Ψ Γ c ρ' U r).bind _)=_;rw[e1,bs0,e2,List.findSome?_cons];cases f x with
  |some y=>exact⟨s',rfl⟩
  |none=>exact Cd fun y hy=>h y (mc0 _ hy)
theorem ye {α β:Type}{inj:β->D}{tg:Tg}{F:α->List Sl}(f:β->Option Nat){xs:List β}{s:α}{P:Option (OM×Ust)->Prop}(h:∀x∈xs,∀s,∃s',(au tg (inj x) (F s)).bind (fun ρ=>aH Φ Ψ Γ c ρ U r)=some (uo (F s') (f x),U))(k:∀s',P (some (uo (F s') (xs.findSome? f),U))):P (iS Φ Ψ Γ c tg r (xs.map inj) (F s) U):=by
 obtain⟨s',e⟩:=Cd (s:=s) h;rw[e];exact k s'
theorem Ce {α β:Type}{inj:β->D}{tg:Tg}{F:α->List Sl}{V:α->Ust}(J:Nat->α->Prop){P:Option (OM×Ust)->Prop}(k:∀s,J 0 s->P (some (.nx (F s),V s))):∀{xs:List β} {s:α} (h:∀x∈xs,∀n s,J (n+1) s->∃s',J n s'/\(au tg (inj x) (F s)).bind (fun ρ=>aH Φ Ψ Γ c ρ (V s) r)=some (.nx (F s'),V s')),J xs.length s->P (iS Φ Ψ Γ c tg r (xs.map inj) (F s) (V s))
 |[],s,_,j=>k s j
 |x::xs,s,h,j=>by
  obtain⟨s',j',e⟩:=h x ms0 _ s j;obtain⟨ρ',e1,e2⟩:=bx0 e;show P ((au tg (inj x) (F s)).bind fun ρ'=>(aH Φ Ψ Γ c ρ' (V s) r).bind _);rw[e1,bs0,e2];exact Ce J k (fun y hy=>h y (mc0 _ hy)) j'
@[simp] theorem Jx:bx (.dat d)=true:=rfl
@[simp] theorem Jy {ns:List Int}:bx (.lent (.scr ns))=true:=rfl
@[simp] theorem Jz:BN (.nx ρ) U=if ρ.all bx then some (.nx ρ,U) else none:=(rfl)
end
end L2.Z
namespace TX
open PySem SI M1 L2.Z
variable {Φ:Fs}{Ψ:FsM}{Γ:List (Str×D)}{c cNO cBT cBC:Nat}
inductive Th where
 |blob (t:Str)
 |tree (es:List (Str×Int))
 |com (a:Int) (ps:List Int) (tm:Int) (m:Str)
deriving DecidableEq
noncomputable def cw (p:Str×Int):D:=.tuple [.str p.1,.int p.2]
def Th.d:Th->D
 |.blob t=>.tuple [.str bX,.str t]
 |.tree es=>.tuple [.str aE,.list (es.map cw)]
 |.com a ps tm m=>.tuple [.str ah,.int a,.list (ps.map .int),.int tm,.str m]
noncomputable def Th.k:Th->Str
 |.blob _=>bX
 |.tree _=>aE
 |.com ..=>ah
def Th.cn:Th->D
 |.blob t=>.str t
 |.tree es=>.tuple (es.map cw)
 |.com a ps tm m=>.tuple [.int a,.tuple (ps.map .int),.int tm,.str m]
noncomputable def Th.o (t:Th):D:=.tuple [.str t.k,t.cn]
def Th.t:Th->D
 |.blob t=>.str t
 |.tree es=>.list (es.map cw)
 |.com a ps tm m=>.tuple [.int a,.list (ps.map .int),.int tm,.str m]
section
variable {x m:Str}{es:List (Str×Int)}{a tm:Int}{ps:List Int}
@[simp] theorem k_b:(Th.blob x).k=bX:=rfl
@[simp] theorem k_t:(Th.tree es).k=aE:=rfl
@[simp] theorem k_c:(Th.com a ps tm m).k=ah:=rfl
@[simp] theorem c_b:(Th.blob x).cn=.str x:=rfl
@[simp] theorem c_t:(Th.tree es).cn=.tuple (es.map cw):=rfl
@[simp] theorem c_c:(Th.com a ps tm m).cn=.tuple [.int a,.tuple (ps.map .int),.int tm,.str m]:=rfl
@[simp] theorem d_b:(Th.blob x).d=.tuple [.str bX,.str x]:=rfl
@[simp] theorem d_t:(Th.tree es).d=.tuple [.str aE,.list (es.map cw)]:=rfl
@[simp] theorem d_c:(Th.com a ps tm m).d=.tuple [.str ah,.int a,.list (ps.map .int),.int tm,.str m]:=rfl
@[simp] theorem t_b:(Th.blob x).t=.str x:=rfl
@[simp] theorem t_t:(Th.tree es).t=.list (es.map cw):=rfl
@[simp] theorem t_c:(Th.com a ps tm m).t=.tuple [.int a,.list (ps.map .int),.int tm,.str m]:=rfl
end
@[simp] theorem Ko {a b:List (Str×Int)}:a.map cw=b.map cw↔a=b:=List.map_inj_right fun x y q=>by simp[cw] at q;exact Prod.ext q.1 q.2
@[simp] theorem Kp {a b:List Int}:a.map D.int=b.map D.int↔a=b:=List.map_inj_right fun c c q=>D.int.inj q
theorem Th.o_inj {a b:Th}(h:a.o=b.o):a=b:=by cases a<;>cases b<;>simp_all [Th.o]
theorem Th.d_inj {a b:Th}(h:a.d=b.d):a=b:=by cases a<;>cases b<;>simp_all
theorem Th.o_ok (t:Th):okK 8 t.o=true:=by cases t<;>simp[okK,cw,Th.o]
theorem Th.d_ok (t:Th):okS 7 t.d=true:=by cases t<;>simp[okS,cw]
noncomputable def atL (L:List Th)(i:Int):Option Th:=if 0≤i then L[i.toNat]? else none
abbrev vt (L:List Th):Ust:=[L.map Th.o]
noncomputable def putL (L:List Th)(t:Th):List Th:=if t∈L then L else L++[t]
theorem pM (L:List Th)(t:Th)(hz:L.length<1000000):∃j:Nat,iK (vt L) [.hdl 0,t.o]=some (vt (putL L t),.ok (.int (j:Nat))):=by
 have m:t.o∈L.map Th.o↔t∈L:=⟨fun z=>by obtain⟨s,h1,h2⟩:=mm0 z;exact Th.o_inj h2▸h1,List.mem_map_of_mem⟩;have o:=t.o_ok;cases h:(L.map Th.o).idxOf? t.o with
 |some j=>
  have:t∈L:=m.mp (Classical.byContradiction fun z=>by rw[List.idxOf?_eq_none_iff.mpr z] at h;cases h);exact⟨j,by simp[iK,putL,o,h,hz,this];rfl⟩
 |none=>
  have:t∉L:=fun z=>List.idxOf?_eq_none_iff.mp h (m.mpr z)
  exact⟨L.length,by simp[iK,putL,o,h,hz,this];rfl⟩
abbrev orX {α:Type}(cNO:Nat)(f:α->R):Option α->R
 |some t=>f t
 |none=>.exc cNO
theorem rk {L:List Th}{i:Int}{t:Th}(h:atL L i=some t):∃n:Nat,i=(n:Int)/\L[n]?=some t/\n<L.length/\(L.map Th.o)[n]?=some t.o:=by
 unfold atL at h;split at h
 ·exact⟨i.toNat,by omega,h,(List.getElem?_eq_some_iff.mp h).1,by rw[gm0,h];rfl⟩
 ·cases h
abbrev yf (cNO:Nat)(run:Ust->List D->Option (Ust×R)):Prop:=∀(L:List Th) (i:Int),run (vt L) [.hdl 0,.int i]=some (vt L,orX cNO (fun t=>.ok t.o) (atL L i))
abbrev pN (Ψ:FsM)(cNO:Nat):Prop:=dP Ψ (ao "held") [false,false] (yf cNO)
theorem Hh:yf cNO (cQ Φ Ψ Γ c (bR c cNO)):=by
 intro L i;cases h:atL L i with
 |none=>
  by_cases z:0≤i
  ·have:¬ i<L.length:=by simp[atL,z] at h;omega
   simp[aR,bR,z,this]
  ·simp[aR,bR,z]
 |some t=>
  obtain⟨n,rfl,_,g,h2⟩:=rk h;simp[aR,bR,fB h2,g]
noncomputable def ar (L:List Th)(i:Int)(k:Str):Option Th:=(atL L i).bind fun t=>if t.k=k then some t else none
abbrev yg (cNO:Nat)(run:Ust->List D->Option (Ust×R)):Prop:=∀(L:List Th) (i:Int) (k:Str),k.length≤100->run (vt L) [.hdl 0,.int i,.str k]=some (vt L,orX cNO (fun t=>.ok t.cn) (ar L i k))
abbrev lu (Ψ:FsM)(cNO:Nat):Prop:=dP Ψ (ao "content") [false,false,false] (yg cNO)
theorem ET {x y:Str}(h:y.length≤100)(hx:x.cps.size≤900):biD .fst [.str x,.str y]=some (.str (x++y)):=if_pos (show x.cps.size+y.length≤16777216 by omega)
theorem Hi (hh:pN Ψ cNO):yg cNO (cQ Φ Ψ Γ c (bL cNO)):=by
 intro L i k hk;obtain⟨r,e,h⟩:=hh;simp[aR,bL,e,h,ar];cases atL L i with
 |none=>rfl
 |some t=>by_cases z:t.k=k<;>simp[Th.o,z,ES,ET hk]
abbrev yh (cNO:Nat)(run:Ust->List D->Option (Ust×R)):Prop:=∀(L:List Th) (i:Int),run (vt L) [.hdl 0,.int i]=some (vt L,orX cNO (fun t=>.ok (.str t.k)) (atL L i))
abbrev pO (Ψ:FsM)(cNO:Nat):Prop:=dP Ψ (ao "kind") [false,false] (yh cNO)
theorem Hj (hh:pN Ψ cNO):yh cNO (cQ Φ Ψ Γ c dM):=by
 intro L i;obtain⟨r,e,h⟩:=hh;simp[aR,dM,e,h];cases atL L i<;>simp[Th.o]
abbrev kh (k:Str)(cNO:Nat)(run:Ust->List D->Option (Ust×R)):Prop:=∀(L:List Th) (i:Int),run (vt L) [.hdl 0,.int i]=some (vt L,orX cNO (fun t=>.ok t.t) (ar L i k))
abbrev yi (Ψ:FsM)(cNO:Nat):Prop:=dP Ψ "text_of" [false,false] (kh bX cNO)
abbrev Cf (Ψ:FsM)(cNO:Nat):Prop:=dP Ψ "entries_of" [false,false] (kh aE cNO)
abbrev Cg (Ψ:FsM)(cNO:Nat):Prop:=dP Ψ "commit_of" [false,false] (kh ah cNO)
theorem EU (hh:lu Ψ cNO):kh bX cNO (cQ Φ Ψ Γ c cT)/\kh aE cNO (cQ Φ Ψ Γ c bE)/\kh ah cNO (cQ Φ Ψ Γ c bN):=by
 obtain⟨r,e,h⟩:=hh;refine⟨fun L i=>?_,fun L i=>?_,fun L i=>?_⟩
 ·have:=h L i bX (by decide)
  simp[aR,cT,e,this,ar];cases atL L i with
  |none=>rfl
  |some t=>cases t<;>simp
 ·have:=h L i aE (by decide)
  simp[aR,bE,e,this,ar];cases atL L i with
  |none=>rfl
  |some t=>cases t<;>simp
 ·have:=h L i ah (by decide)
  simp[aR,bN,e,this,ar];cases atL L i with
  |none=>rfl
  |some t=>cases t<;>simp
variable {Φ:Fs}{Ψ:FsM}{Γ:List (Str×D)}{c cNO cBT cBC:Nat}
abbrev yj (run:List D->Option D):Prop:=∀xs:List Str,xs.length≤4->run [.list (xs.map .str)]=some (.bool (fu xs))
abbrev yk (Φ:Fs):Prop:=Has Φ "names_rise" [true] yj
theorem Hk:yj (ans Φ Γ cP):=by
 intro xs hl
 match xs,hl with
 |[],_=>rfl
 |[x],_=>rfl
 |[x,y],_=>exact .trans (b:=some (D.bool ([ltS x y].all id))) rfl (by simp[fu,ltS])
 |[x,y,z],_=>exact .trans (b:=some (D.bool ([ltS x y,ltS y z].all id))) rfl (by simp[fu,ltS])
 |[x,y,z,w],_=>exact .trans (b:=some (D.bool ([ltS x y,ltS y z,ltS z w].all id))) rfl (by simp[fu,ltS])
abbrev Ci (cBT:Nat)(run:Ust->List D->Option (Ust×R)):Prop:=∀(U:Ust) (es:List Str),es.length≤4->(∀x∈es,x.length≤1000)->run U [.list (es.map .str)]=some (U,if dX es then .ok .none else .exc cBT)
abbrev Cj (Ψ:FsM)(cBT:Nat):Prop:=dP Ψ "refuse_wrong_names" [false] (Ci cBT)
theorem fC {α β:Type}{p:α->Bool}{y:β}:∀xs:List α,xs.findSome? (fun x=>if p x then none else some y)=if xs.all p then none else some y
 |[]=>rfl
 |x::r=>by rw[List.findSome?_cons,fC r,List.all_cons];cases p x<;>rfl
theorem JA (hn:qY Φ)(hr:yk Φ):Ci cBT (cQ Φ Ψ Γ c (aI cBT)):=by
 intro U es hl hx;obtain⟨r1,e1,h1⟩:=hn;obtain⟨r2,e2,h2⟩:=hr;simp only[aR,aI];simp;refine ye (F:=fun s=>[Sl.dat (.list (es.map .str)),s]) (fun x=>if bf x then none else some cBT) (P:=fun o=>um (nxM Φ Ψ Γ c o _)=_) (fun x m s=>⟨.dat (.str x),?_⟩) fun s=>?_
 ·simp[e1,h1 x (hx x m)]
  cases bf x<;>simp
 ·rw[fC,dX]
  cases es.all bf
  ·simp
  ·simp[e2,h2 es hl]
   cases fu es<;>simp
def iT (cNO cBT:Nat)(L:List Th)(p:Str×Int):Option Nat:=match atL L p.2 with
 |none=>some cNO
 |some t=>if t.k=ah then some cBT else none
def dY (cNO cBT:Nat)(L:List Th)(es:List (Str×Int)):Option Nat:=if dX (es.map (·.1)) then es.findSome? (iT cNO cBT L) else some cBT
def uq (L:List Th)(t:Th)(x:Option Nat)(o:Option (Ust×R)):Prop:=match x with
 |some x=>o=some (vt L,.exc x)
 |none=>∃j:Nat,o=some (vt (putL L t),.ok (.int (j:Nat)))
@[simp] theorem yl {L:List Th}{t:Th}{x:Nat}{o:Option (Ust×R)}:uq L t (some x) o↔o=some (vt L,.exc x):=Iff.rfl
abbrev ym (cNO cBT:Nat)(run:Ust->List D->Option (Ust×R)):Prop:=∀(L:List Th) (es:List (Str×Int)),es.length≤4->(∀p∈es,p.1.length≤1000)->L.length<1000->uq L (.tree es) (dY cNO cBT L es) (run (vt L) [.hdl 0,.list (es.map cw)])
abbrev pP (Ψ:FsM)(cNO cBT:Nat):Prop:=dP Ψ "tree" [false,false] (ym cNO cBT)
theorem Hl (hf:Cj Ψ cBT)(hk:pO Ψ cNO)(hp:xY Ψ):ym cNO cBT (cQ Φ Ψ Γ c (gY cBT)):=by
 intro L es hl hx hz;obtain⟨r1,e1,h1⟩:=hf;obtain⟨r2,e2,h2⟩:=hk;obtain⟨j,q⟩:=pM L (.tree es) (by omega);have hr:=h1 (vt L) (es.map (·.1)) (by simpa) (by simpa using fun x a b=>hx (x,a) b);rw[List.map_map] at hr;have hb:es.length≤big:=nt0 hl (by decide);simp only[aR,gY];simp[hb,e1];rw[av (g:=D.str ∘ Prod.fst) (fun d d=>rfl),dY];simp[show (fun x:Str×Int=>x.1)=Prod.fst from rfl] at hr ⊢;rw[hr];cases dX (es.map Prod.fst) with
 |false=>simp
 |true=>
  simp;refine ye (F:=fun s:Sl×Sl=>[.dat (.hdl 0),.dat (.list (es.map cw)),s.1,s.2]) (s:=(.no,.no)) (iT cNO cBT L) (P:=fun o=>uq L _ _ (um (nxM Φ Ψ Γ c o _))) (fun x m s=>⟨(.dat (.str x.1),.dat (.int x.2)),?_⟩) fun s=>?_
  ·simp[e2,h2,iT,cw]
   cases atL L x.2 with
   |none=>simp
   |some t=>by_cases z:t.k=ah<;>simp[z]
  ·cases es.findSome? (iT cNO cBT L) with
   |some x=>simp
   |none=>
    refine⟨j,?_⟩;simp[hb,hp];rw[av (g:=cw) (fun d d=>rfl)];simp[hb,gu,show iK (vt L) [.hdl 0,.tuple [.str aE,.tuple (es.map cw)]]=_ from q]
variable {Φ:Fs}{Ψ:FsM}{Γ:List (Str×D)}{c cNO cBT cBC:Nat}
abbrev rm (cNO:Nat)(run:Ust->List D->Option (Ust×R)):Prop:=∀(L:List Th) (i:Int),run (vt L) [.hdl 0,.int i]=some (vt L,orX cNO (fun a=>.ok .none) (ar L i aE))
abbrev rn (Ψ:FsM)(cNO:Nat):Prop:=dP Ψ "refuse_what_is_no_tree" [false,false] (rm cNO)
theorem EV (hh:lu Ψ cNO):rm cNO (cQ Φ Ψ Γ c aC):=by
 intro L i;obtain⟨r,e,h⟩:=hh;simp only[aR,aC];simp[e,h L i aE (by decide)];cases ar L i aE<;>simp
def pQ (L:List Th)(ps:List Int):Bool:=ps.all fun p=>(ar L p ah).isSome
def fZ (cNO cBC:Nat)(L:List Th)(a:Int)(ps:List Int)(tm:Int)(m:Str):Option Nat:=
 if !((ar L a aE).isSome&&pQ L ps) then some cNO
 else if decide (ps.length≤2)&&decide ((eu ps).length=ps.length)&&decide (0≤tm)&&decide (10∉m.cps.toList) then none else some cBC
theorem iU:∀ps:List Int,intsOf (ps.map .int)=some ps
 |[]=>rfl
 |p::r=>by
  show (intsOf (r.map .int)).map (p::·)=_;rw[iU r];rfl
theorem hV {ps:List Int}(h:ps.length<64):biD .nset [.list (ps.map .int)]=some (.int (eu ps).length):=by
 show (intsOf (ps.map .int)).bind _=_;rw[iU,bs0,if_pos h]
abbrev Ck (cNO cBC:Nat)(run:Ust->List D->Option (Ust×R)):Prop:=∀(L:List Th) (a:Int) (ps:List Int) (tm:Int) (m:Str),ps.length≤3->run (vt L) [.hdl 0,.int a,.list (ps.map .int),.int tm,.str m]=some (vt L,match fZ cNO cBC L a ps tm m with|some x=>.exc x|none=>.ok .none)
abbrev Cn (Ψ:FsM)(cNO cBC:Nat):Prop:=dP Ψ "refuse_wrong_commit" [false,false,false,false,false] (Ck cNO cBC)
theorem JB (hc:lu Ψ cNO)(ht:rn Ψ cNO)(hg:Γ.lookup ("MOST_PARENTS":Str)=some (D.int 2)):Ck cNO cBC (cQ Φ Ψ Γ c (aF cBC)):=by
 intro L a ps tm m hl;obtain⟨r1,e1,h1⟩:=ht;obtain⟨r2,e2,h2⟩:=hc;have dl:=mq ps;simp only[aR,aF,fZ];simp[e1,h1];cases ar L a aE with
 |none=>simp
 |some t=>
  simp;refine ye (F:=fun s=>[.dat (.hdl 0),.dat (.int a),.dat (.list (ps.map .int)),.dat (.int tm),.dat (.str m),s]) (fun x=>if (ar L x ah).isSome then none else some cNO) (P:=fun o=>um (nxM Φ Ψ Γ c o _)=_) (fun x b s=>⟨.dat (.int x),?_⟩) fun s=>?_
  ·simp[e2,h2 L x ah (by decide)]
   cases ar L x ah<;>simp
  ·rw[fC,pQ]
   cases ps.all fun p=>(ar L p ah).isSome
   ·simp
   by_cases z1:ps.length≤2
   ·have y1:¬ (2:Int)<ps.length:=by omega
    by_cases z2:(eu ps).length=ps.length
    ·by_cases z3:0≤tm
     ·have y3:¬ tm<0:=by omega
      by_cases z4:10∈m.cps<;>simp[hg,z1,y1,z2,z3,y3,z4,hV (ps:=ps) (by omega),inD,lp]
     ·simp[hg,z1,y1,z2,z3,show tm<0 by omega,hV (ps:=ps) (by omega)]
    ·have y2:(eu ps).length<ps.length:=by omega
     simp[hg,z1,y1,z2,y2,hV (ps:=ps) (by omega)]
   ·simp[hg,z1,show (2:Int)<ps.length by omega]
abbrev nB (cNO cBC:Nat)(run:Ust->List D->Option (Ust×R)):Prop:=∀(L:List Th) (a:Int) (ps:List Int) (tm:Int) (m:Str),ps.length≤3->L.length<1000->uq L (.com a ps tm m) (fZ cNO cBC L a ps tm m) (run (vt L) [.hdl 0,.int a,.list (ps.map .int),.int tm,.str m])
abbrev iV (Ψ:FsM)(cNO cBC:Nat):Prop:=dP Ψ "commit" [false,false,false,false,false] (nB cNO cBC)
theorem Bb (hr:Cn Ψ cNO cBC)(hp:xY Ψ):nB cNO cBC (cQ Φ Ψ Γ c fA):=by
 intro L a ps tm m hl hz;obtain⟨r1,e1,h1⟩:=hr;obtain⟨j,q⟩:=pM L (.com a ps tm m) (by omega);simp only[aR,fA];simp[e1,h1 _ _ _ _ _ hl];cases fZ cNO cBC L a ps tm m with
 |some x=>simp
 |none=>exact⟨j,by simp[hp,gu,show ps.length≤big from nt0 hl (by decide),show iK (vt L) [.hdl 0,.tuple [.str ah,.tuple [.int a,.tuple (ps.map .int),.int tm,.str m]]]=_ from q]⟩
abbrev yn (run:Ust->List D->Option (Ust×R)):Prop:=∀(L:List Th) (x:Str),L.length<1000->uq L (.blob x) none (run (vt L) [.hdl 0,.str x])
abbrev yp (Ψ:FsM):Prop:=dP Ψ "blob" [false,false] yn
theorem Hm (hp:xY Ψ):yn (cQ Φ Ψ Γ c lh):=by
 intro L x hz;obtain⟨j,q⟩:=pM L (.blob x) (by omega);exact⟨j,by simp only[aR,lh];simp[hp,gu,show iK (vt L) [.hdl 0,.tuple [.str bX,.str x]]=_ from q]⟩
variable {Φ:Fs}{Ψ:FsM}{Γ:List (Str×D)}{c cNO cBT cBC:Nat}
noncomputable def thX (cNO cBT cBC:Nat)(L:List Th):Th->Option Nat
 |.blob _=>none
 |.tree es=>dY cNO cBT L es
 |.com a ps tm m=>fZ cNO cBC L a ps tm m
def Th.sm:Th->Prop
 |.blob _=>True
 |.tree es=>es.length≤4/\∀p∈es,p.1.length≤1000
 |.com _ ps _ _=>ps.length≤3
abbrev Co (cNO cBT cBC:Nat)(run:Ust->List D->Option (Ust×R)):Prop:=∀(L:List Th) (t:Th),t.sm->L.length<1000->uq L t (thX cNO cBT cBC L t) (run (vt L) [.hdl 0,t.d])
abbrev Cp (Ψ:FsM)(cNO cBT cBC:Nat):Prop:=dP Ψ "_law_put" [false,false] (Co cNO cBT cBC)
theorem Bc (hb:yp Ψ)(ht:pP Ψ cNO cBT)(hc:iV Ψ cNO cBC):Co cNO cBT cBC (cQ Φ Ψ Γ c gZ):=by
 intro L t hs hz;obtain⟨r1,e1,h1⟩:=hb;obtain⟨r2,e2,h2⟩:=ht;obtain⟨r3,e3,h3⟩:=hc;simp only[aR,gZ];cases t with
 |blob x=>
  obtain⟨j,k⟩:=h1 L x hz;exact⟨j,by simp[e1,k]⟩
 |tree es=>
  have k:=h2 L es hs.1 hs.2 hz;rw[thX];revert k;cases dY cNO cBT L es with
  |some y=>intro k;simp at k;simp[e2,k]
  |none=>intro k;obtain⟨j,k⟩:=k;exact⟨j,by simp[e2,k]⟩
 |com a ps tm m=>
  have k:=h3 L a ps tm m hs hz;rw[thX];revert k;cases fZ cNO cBC L a ps tm m with
  |some y=>intro k;simp at k;simp[e3,k]
  |none=>intro k;obtain⟨j,k⟩:=k;exact⟨j,by simp[e3,k]⟩
def Hn (cNO cBT cBC:Nat)(P:List Th)(t:Th):Prop:=t.sm/\thX cNO cBT cBC P t=none/\t∉P
def Valid (cNO cBT cBC:Nat)(L:List Th):Prop:=∀P t R,L=P++t::R->Hn cNO cBT cBC P t
theorem Valid.snoc {L:List Th}{t:Th}(h:Valid cNO cBT cBC L)(k:Hn cNO cBT cBC L t):Valid cNO cBT cBC (L++[t]):=by
 intro P x R e;rcases List.eq_nil_or_concat R with rfl|⟨R',y,rfl⟩
 ·obtain⟨rfl,e2⟩:=List.append_inj' e rfl
  cases e2;exact k
 ·have e':L++[t]=(P++x::R')++[y]:=by simp[e]
  exact h P x R' (List.append_inj' e' rfl).1
abbrev rp (cNO cBT cBC:Nat)(run:Ust->List D->Option (Ust×R)):Prop:=∀L:List Th,Valid cNO cBT cBC L->L.length<1000->run [] [.list (L.map Th.d)]=some (vt L,.ok (.hdl 0))
abbrev rq (Ψ:FsM)(cNO cBT cBC:Nat):Prop:=dP Ψ "_law_filled" [false] (rp cNO cBT cBC)
theorem pR (hp:Cp Ψ cNO cBT cBC):rp cNO cBT cBC (cQ Φ Ψ Γ c cU):=by
 intro L hv hz;obtain⟨r1,e1,h1⟩:=hp;have loop:∀(R P:List Th) (s2:Sl),Valid cNO cBT cBC (P++R)->(P++R).length<1000->
   ∃s3,iS Φ Ψ Γ c (.one 2) (.cons (.expr (.call "_law_put" (.va 1 (.va 2 .nil)))) .nil) (R.map Th.d) [.dat (.list (L.map Th.d)),.dat (.hdl 0),s2] (vt P)=some (.nx [.dat (.list (L.map Th.d)),.dat (.hdl 0),s3],vt (P++R)):=by
  intro R
  induction R with
  |nil=>intro P s2 _ _;exact⟨s2,by rw[List.append_nil];rfl⟩
  |cons t r ih=>
   intro P s2 hv hz;obtain⟨k1,k2,k3⟩:=hv P t r rfl;have k:=h1 P t k1 (by rw[la0] at hz;grind);rw[k2] at k;obtain⟨j,k⟩:=k;obtain⟨s3,hs⟩:=ih (P++[t]) (.dat t.d) (by simpa using hv) (by simpa using hz);exact⟨s3,by simp[Ba,e1,k,putL,k3];simpa using hs⟩
 obtain⟨s3,hl⟩:=loop L [] .no hv hz;simp only[aR,cU];simp at hl ⊢;exact hl▸rfl
variable {Φ:Fs}{Ψ:FsM}{Γ:List (Str×D)}{c cNO cBT cBC:Nat}
abbrev rz (Φ:Fs):Prop:=Has Φ "_law_whole" [true] fun run=>∀n:Int,run [.int n]=some (.bool true)
abbrev rA (c:Nat)(run:List D->Option D)(p:Th->Prop):Prop:=∀(h:Nat) (os:List D) (n:Nat) (t:Th),p t->os[n]?=some t.o->run [.vlt c h os,.int n]=some t.t
abbrev yq (Φ:Fs)(c:Nat):Prop:=Has Φ "text_of" [true,true] fun run=>rA c run fun t=>t.k=bX
abbrev Cq (Φ:Fs)(c:Nat):Prop:=Has Φ "commit_of" [true,true] fun run=>rA c run fun t=>t.k=ah
theorem Ho (hc:fv Φ c):rA c (ans Φ Γ (dG c)) fun t=>t.k=bX:=by
 intro h os n t z hd;obtain⟨r1,e1,h1⟩:=hc;cases t<;>simp at z
 simp only[ans_e,dG];simp[e1,h1 h os n bX _ hd]
theorem JC (hc:fv Φ c):rA c (ans Φ Γ (ck c)) fun t=>t.k=ah:=by
 intro h os n t z hd;obtain⟨r1,e1,h1⟩:=hc;cases t<;>simp at z
 simp only[ans_e,ck];simp[e1,h1 h os n ah _ hd]
abbrev SIs (c:Nat)(run:List D->Option D):Prop:=∀(h:Nat) (os:List D) (n:Nat) (t:Th),t.sm->os[n]?=some t.o->run [.vlt c h os,.int n,t.d]=some (.bool true)
abbrev HIs (Φ:Fs)(c:Nat):Prop:=Has Φ "_law_is" [true,true,true] (SIs c)
theorem Cr {es:List (Str×Int)}{n:Nat}:okS (n+2) (.list (es.map cw))=true:=by simp[okS,cw]
theorem EW (hk:BX Φ c)(ht:yq Φ c)(he:ng Φ c)(hc:Cq Φ c)(hw:rz Φ):SIs c (ans Φ Γ (lr c)):=by
 intro h os n t hs hd;obtain⟨r1,e1,h1⟩:=hk;obtain⟨r2,e2,h2⟩:=ht;obtain⟨r3,e3,h3⟩:=he;obtain⟨r4,e4,h4⟩:=hc;obtain⟨r5,e5,h5⟩:=hw;have k:=h1 h os n t.k _ hd;simp only[ans_e,lr];cases t with
 |blob x=>simp[e1,e2,k,h2 h os n _ rfl hd]
 |tree es=>
  simp[e1,e3,k,h3 h os n _ hd,vh Cr Cr,show es.length≤big from nt0 hs.1 (by decide)];rw[av (g:=fun b=>.bool true) (fun x b=>by simp[bY,cw,e5,h5])];simp
 |com a ps tm m=>
  simp[e1,e4,k,h4 h os n _ rfl hd,show ps.length+2≤big from nt0 (Nat.add_le_add_right hs 2) (by decide)];rw[show ps.map D.int++[.int a,.int tm]=(ps++[a,tm]).map .int by simp];generalize ps++[a,tm]=qs;rw[av (g:=fun b=>.bool true) (fun x b=>by simp[bY,e5,h5])];have o:okS 8 (.tuple [.int a,.list (ps.map .int),.int tm,.str m])=true:=by simp[okS]
  simp[vh o o]
abbrev yr (c:Nat)(run:List D->Option D):Prop:=∀(h:Nat) (L:List Th),(∀t∈L,t.sm)->L.length≤1000->run [.vlt c h (L.map Th.o),.list (L.map Th.d)]=some (.bool true)
abbrev yt (Φ:Fs)(c:Nat):Prop:=Has Φ "_law_stays" [true,true] (yr c)
theorem ur (hz:BW Φ c)(hi:HIs Φ c):yr c (ans Φ Γ (dI c)):=by
 intro h L hs hl;obtain⟨r1,e1,h1⟩:=hz;obtain⟨r2,e2,h2⟩:=hi;simp only[ans_e,dI];simp[e1,h1,rj (ds:=L.map Th.d) (by simp;grind),show L.length≤big from nt0 hl (by decide)];rw[av (g:=fun a=>.bool true) (fun k hk=>by
  have hk:=List.mem_range.mp hk;have e:=ge0 hk;simp[bY,e2,h2 h (L.map Th.o) k L[k] (hs _ (List.getElem_mem _)) (by simp[e]),fB (xs:=L.map Th.d) (n:=k) (x:=L[k].d) (by simp[e])])]
 simp
variable {Φ:Fs}{Ψ:FsM}{Γ:List (Str×D)}{c cNO cBT cBC:Nat}
def ixs (p:Str->Bool)(L:List Th):List Nat:=(List.range L.length).filter fun i=>(L[i]?).any fun t=>p t.k
theorem lx {p:Str->Bool}{L:List Th}{i:Nat}(h:i∈ixs p L):∃t,atL L i=some t/\p t.k=true:=by
 obtain⟨h1,h2⟩:=List.mem_filter.mp h;have h1:=List.mem_range.mp h1;rw[ge0 h1] at h2;exact⟨L[i],by simp[atL,h1],h2⟩
def pk (xs:List Nat)(n:Int):Nat:=xs[(n % (xs.length:Int)).toNat]?.getD 0
theorem ki {xs:List Nat}(h:xs≠[])(n:Int):pk xs n∈xs/\atI (xs.map fun i:Nat=>D.int i) (n % (xs.length:Int))=some (.int (pk xs n)):=by
 have m:=qS (ns:=xs.map Int.ofNat) (by simpa using h) n;rw[lm0] at m;have hb:(n % (xs.length:Int)).toNat<xs.length:=by simp_all
 have e:xs[(n % (xs.length:Int)).toNat]?=some (pk xs n):=bQ 0 hb;exact⟨mg0 e,by rw[bJ m.1 (by simpa using m.2),gm0,e];rfl⟩
theorem Bd {L:List Th}{k:Nat}(h:k<L.length):atI (L.map Th.d) (k:Int)=some L[k].d:=fB (by simp[h])
theorem d_0 (t:Th):lM t.d (.int 0)=some (.str t.k):=by cases t<;>simp
theorem yu {f:D->Option (Option D)}(p:Str->Bool)(L:List Th)(h:∀(k:Nat) (hk:k<L.length),f (.int k)=some (if p L[k].k then some (.int k) else none)):aM f ((List.range L.length).map fun k:Nat=>.int k)=some ((ixs p L).map fun k:Nat=>D.int k):=
 fh fun k hk=>by
  have hk:=List.mem_range.mp hk;simp[h k hk,hk]
theorem rX (zs:List Str)(gs:List Int):biD .lzip [.list (zs.map .str),.list (gs.map .int)]=some (.list ((zs.zip gs).map cw)):=by
 show some (D.list (((zs.map D.str).zip (gs.map D.int)).map fun p=>.tuple [p.1,p.2]))=_;rw[List.zip_map,List.map_map];rfl
theorem yv {gs:List Int}(h:gs.length≤2):∃rs:List Int,biD .srt [.list (gs.map .int)]=some (.list (rs.map .int))/\rs.Nodup/\rs.length≤2/\∀r∈rs,r∈gs:=by
 match gs,h with
 |[],_=>exact⟨[],rfl,List.nodup_nil,by simp,fun c h=>h⟩
 |[a],_=>exact⟨[a],rfl,by simp,by simp,fun c h=>h⟩
 |[a,b],_=>
  have e:biD .srt [.list [.int a,.int b]]=some (.list (if a=b then [.int a] else if a<b then [.int a,.int b] else [.int b,.int a])):=rfl
  by_cases c1:a=b
  ·subst c1;exact⟨[a],by simpa using e,by simp,by simp,by simp⟩
  ·by_cases c2:a<b
   ·exact⟨[a,b],by simp[e,c1,c2],by simpa,by simp,by simp⟩
   ·exact⟨[b,a],by simp[e,c1,c2],by simpa using fun z=>c1 z.symm,by simp,by simp⟩
theorem dup2 {ps:List Int}(h:ps.Nodup)(hl:ps.length≤2):(eu ps).length=ps.length:=by
 match ps,hl with
 |[],_=>rfl
 |[a],_=>rfl
 |[a,b],_=>simp[eu,rW,show a≠b by simpa using h]
theorem yw:∀{xs:List Str},gp xs->fu xs=true
 |[],_=>rfl
 |[_],_=>rfl
 |a::b::r,h=>by
  obtain⟨h1,h2⟩:=List.pairwise_cons.mp h;have:=h1 b ms0;unfold ltS at this;show (decide (a.cps.toList<b.cps.toList)&&fu (b::r))=true;rw[this,yw h2];rfl
theorem yx {L:List Th}(hv:Valid cNO cBT cBC L)(h:L≠[]):∃t,atL L 0=some t/\t.k≠ah:=by
 cases L with
 |nil=>exact absurd rfl h
 |cons t r=>
  obtain⟨_,h2,_⟩:=hv [] t r rfl;exact⟨t,rfl,fun hk=>by cases t<;>simp[thX,fZ,ar,atL] at hk h2⟩
abbrev yy (cNO cBT cBC:Nat)(run:List D->Option D):Prop:=∀ns k L,Valid cNO cBT cBC L->L.length≤100->∃t:Th,t.sm/\thX cNO cBT cBC L t=none/\run [.scr ns,.int k,.list (L.map Th.d)]=some t.d
abbrev yz (Φ:Fs)(cNO cBT cBC:Nat):Prop:=Has Φ "_law_thing" [true,true,true] (yy cNO cBT cBC)
theorem uv (hm:mW Φ)(hr:GY Φ)(he:BV Φ)(hn:rh Φ)(hli:xN Φ):yy cNO cBT cBC (ans Φ Γ dH):=by
 intro ns k L hv hl;obtain⟨r1,e1,h1⟩:=hm;obtain⟨r2,e2,h2⟩:=hr;obtain⟨r3,e3,h3⟩:=he;obtain⟨r4,e4,h4⟩:=hn;obtain⟨r5,e5,h5⟩:=hli;obtain⟨nm,hnm⟩:∃g:Int->Str,∀k,r4 [.scr ns,.int k]=some (.str (g k))/\bf (g k)=true:=⟨fun k=>Classical.choose (h4 ns k),fun k=>Classical.choose_spec (h4 ns k)⟩;have N0:=iN ns k;have hN:=h1 ns k;generalize mixF ns k=N at N0 hN;have rg:=rj (ds:=L.map Th.d) (by simp;omega);rw[lm0] at rg;have hb:L.length≤big:=nt0 hl (by decide);simp only[ans_e,dH];simp[e1,hN,rg,hb];rw[yu (fun k=>decide (k=aE)) L fun k hk=>by by_cases z:L[k].k=aE<;>simp[bY,Bd hk,d_0,z]]
 simp[rg,hb];rw[yu (fun k=>decide (k=ah)) L fun k hk=>by by_cases z:L[k].k=ah<;>simp[bY,Bd hk,d_0,z]];simp[rg,hb];rw[yu (fun k=>!decide (k=ah)) L fun k hk=>by by_cases z:L[k].k=ah<;>simp[bY,Bd hk,d_0,z]];have ti:=fun t=>lx (p:=fun k=>decide (k=aE)) (L:=L) (i:=t)
 have vi:=fun t=>lx (p:=fun k=>decide (k=ah)) (L:=L) (i:=t)
 have ii:=fun t=>lx (p:=fun k=>!decide (k=ah)) (L:=L) (i:=t)
 have iL:ixs (fun k=>!decide (k=ah)) L≠[]->L≠[]:=fun h z=>h (by rw[z];rfl)
 have il:(ixs (fun k=>!decide (k=ah)) L).length≤L.length:=nt0 (List.length_filter_le ..) (by simp);generalize ixs (fun k=>decide (k=aE)) L=tops at *;generalize ixs (fun k=>decide (k=ah)) L=vers at *;generalize ixs (fun k=>!decide (k=ah)) L=inner at *;simp
 by_cases cA:N % 6<2\/inner=[]
 ·have g1:=en0 (N / 6) (b:=4) (by decide)
  have g2:=el0 (N / 6) (b:=4) (by decide);have rl:=AR ns (k+1) (N / 6 % 4);have rc:=fun x hx=>(ue ns (k+1) (N / 6 % 4) x hx).short
  have ll:=xR (rowF ns (k+1) (N / 6 % 4)) (decide (N / 24 % 2=0));have ls:=xS (pI rc (decide (N / 24 % 2=0)));have q3:=h3 (rowF ns (k+1) (N / 6 % 4)) (decide (N / 24 % 2=0)) (by omega) (fun x hx=>nt0 (rc x hx) (by omega));refine⟨.blob (Txt.join Str.empty (endsF (rowF ns (k+1) (N / 6 % 4)) (decide (N / 24 % 2=0)))),trivial,rfl,?_⟩;generalize endsF (rowF ns (k+1) (N / 6 % 4)) (decide (N / 24 % 2=0))=E at ll ls q3;have hj:(E.map fun x=>x.length).sum≤big:=nt0 ls (by unfold big;omega);simp[cA,e2,h2 ns (k+1) (N / 6 % 4) (by omega) (by omega),e3,q3,cL,hj,show (⟨#[]⟩:Str).length=0 from rfl]
  rfl
 simp[cA];obtain⟨a1,hi⟩:¬ N % 6<2/\inner≠[]:=by simpa using cA
 have g1:=en0 (N / 6) (b:=4) (by decide);have g2:=el0 (N / 6) (b:=4) (by decide)
 by_cases cB:N % 6<4\/tops=[]
 ·simp[cB,pJ (n:=N / 6 % 4) (by omega) (by omega),show (N / 6 % 4).toNat≤big by unfold big;omega]
  rw[av (g:=fun j:Nat=>D.str (nm (k+1+j))) fun j a=>by simp[bY,e4,hnm]];obtain⟨ts,hts⟩:∃ts,(List.range (N / 6 % 4).toNat).map (fun j:Nat=>nm (k+1+j))=ts:=⟨_,rfl⟩;have tl:ts.length≤3:=by rw[←hts];simp;omega
  have tp:∀t∈srtS ts,bf t=true:=fun t ht=>by
   have:=(dj ts t).mp ht;rw[←hts] at this;obtain⟨j,_,rfl⟩:=mm0 this;exact (hnm _).2
  have sl:=mr ts;have s1:=fQ ts;rw[show (List.range (N / 6 % 4).toNat).map (fun j:Nat=>D.str (nm (k+1+j)))=ts.map .str by rw[←hts,List.map_map];rfl];have ss:=iQ ts (by omega);generalize srtS ts=zs at *;simp[ss,rj (ds:=zs.map .str) (by simp;omega),show zs.length≤big by unfold big;omega];rw[av (g:=fun j:Nat=>D.int (if (j:Int)<2 then (pk inner (mixF ns (k+2+j)):Int) else 0)) fun j a=>by by_cases z:(j:Int)<2<;>simp[bY,e1,h1,(ki hi (mixF ns (k+2+j))).2,z,show 0<inner.length from List.length_pos_iff.mpr hi]];obtain⟨gs,hgs⟩:∃gs:List Int,(List.range zs.length).map (fun j:Nat=>if (j:Int)<2 then (pk inner (mixF ns (k+2+j)):Int) else 0)=gs:=⟨_,rfl⟩
  have gl:gs.length=zs.length:=by rw[←hgs];simp
  rw[show (List.range zs.length).map (fun j:Nat=>D.int (if (j:Int)<2 then (pk inner (mixF ns (k+2+j)):Int) else 0))=gs.map .int by rw[←hgs,List.map_map];rfl];have e0:(zs.zip gs).map (·.1)=zs:=List.map_fst_zip (by omega);refine⟨.tree (zs.zip gs),⟨by rw[List.length_zip];omega,fun p hp=>nt0 (jZ (tp _ (List.of_mem_zip hp).1)).2 (by omega)⟩,?_,by simp[rX]⟩;rw[thX,dY,e0,dX,List.all_eq_true.mpr tp,yw s1,Bool.and_true,if_pos rfl,List.findSome?_eq_none_iff];intro p hp;have:=(List.of_mem_zip hp).2;rw[←hgs] at this;obtain⟨j,_,e⟩:=mm0 this;have ok:∃t,atL L p.2=some t/\t.k≠ah:=by
   rw[←e];split
   ·obtain⟨t,h⟩:=ii _ (ki hi (mixF ns (k+2+j))).1
    exact⟨t,by simpa using h⟩
   ·exact yx hv (iL hi)
  obtain⟨t,o1,o2⟩:=ok;simp[iT,o1,o2]
 ·obtain⟨b1,ht⟩:¬ N % 6<4/\tops≠[]:=by simpa using cB
  have f1:=en0 (N / 6) (b:=3) (by decide);have f2:=el0 (N / 6) (b:=3) (by decide);simp[cB];have par:∃ps:List Int,ps.Nodup/\ps.length≤2/\(∀p∈ps,∃x∈vers,p=(x:Int))/\(vers=[]->ps=[])/\(vers≠[]->biD .srt [.list ((List.range (N / 6 % 3).toNat).map fun j:Nat=>D.int (pk vers (mixF ns (k+1+j))))]=some (.list (ps.map .int))):=by
   by_cases v:vers=[]
   ·exact⟨[],by simp,by simp,by simp,fun a=>rfl,fun h=>absurd v h⟩
   ·obtain⟨rs,t1,t2,t3,t4⟩:=yv (gs:=(List.range (N / 6 % 3).toNat).map fun j:Nat=>(pk vers (mixF ns (k+1+j)):Int)) (by simp;omega)
    exact⟨rs,t2,t3,fun p hp=>by
     obtain⟨j,_,e⟩:=mm0 (t4 p hp);exact⟨_,(ki v (mixF ns (k+1+j))).1,e.symm⟩,fun h=>absurd h v,fun a=>by rw[←t1,List.map_map];rfl⟩
  obtain⟨ps,p1,p2,p3,p4,p5⟩:=par;have tm:∃tm:Int,0≤tm/\atI [D.int 0,.int 1,.int 2,.int 999999999999999,.int (N / 36 % 10)] (N / 36 % 5)=some (.int tm):=by
   have:=en0 (N / 36) (b:=10) (by decide);obtain e|e|e|e|e:N / 36 % 5=0\/N / 36 % 5=1\/N / 36 % 5=2\/N / 36 % 5=3\/N / 36 % 5=4:=by omega
   all_goals rw[e];simp<;>omega
  obtain⟨tm,tm0,tme⟩:=tm;obtain⟨qs,q1,q2,q3,q4⟩:∃qs:List Int,qs.Nodup/\qs.length≤2/\(∀p∈qs,∃x∈vers,p=(x:Int))/\qs.map D.int=if N / 18 % 2=0 then (ps.map D.int).reverse else ps.map D.int:=by
   split
   ·exact⟨ps.reverse,List.pairwise_reverse.mpr (p1.imp Ne.symm),by simpa,by simpa using p3,by simp⟩
   ·exact⟨ps,p1,p2,p3,rfl⟩
  refine⟨.com (pk tops (mixF ns (k+3))) qs tm (fj ns (k+4)),show qs.length≤3 by omega,?_,?_⟩
  ·rw[thX,fZ]
   obtain⟨th,c1,c2⟩:=ti _ (ki ht (mixF ns (k+3))).1;have k2:pQ L qs=true:=by
    rw[pQ,List.all_eq_true];intro p hp;obtain⟨x,hx,rfl⟩:=q3 p hp;obtain⟨th,c1,c2⟩:=vi x hx;simp at c2;simp[ar,c1,c2]
   simp at c2;have:=(iP ns (k+4)).free;simp at this;simp[ar,c1,c2,k2,q2,dup2 q1 q2,tm0,this]
  ·have hp:=(ki ht (mixF ns (k+3))).2
   have tl:=List.length_pos_iff.mpr ht;rw[d_c,q4]
   by_cases v:vers=[]
   ·rw[p4 v]
    by_cases w:N / 18 % 2=0<;>simp[v,w,tme,e1,h1,e5,h5,hp,tl,BZ]
   ·simp[v,pJ (n:=N / 6 % 3) (by omega) (by omega),show (N / 6 % 3).toNat≤big by unfold big;omega]
    rw[av (g:=fun j:Nat=>D.int (pk vers (mixF ns (k+1+j)))) fun j a=>by simp[bY,e1,h1,(ki v (mixF ns (k+1+j))).2,List.length_pos_iff.mpr v]]
    by_cases w:N / 18 % 2=0<;>simp[p5 v,w,tme,e1,h1,e5,h5,hp,tl,BZ]
theorem rB (L:List Th)(t:Th):inD t.d (.list (L.map Th.d))=some (decide (t∈L)):=by
 have o:∀t:Th,okS 8 t.d=true:=fun t=>by cases t<;>simp[okS,cw]
 show (if okS 8 t.d&&(L.map Th.d).all (okS 7) then _ else _)=_;rw[o,List.all_eq_true.mpr (by simp[Th.d_ok])];show some ((L.map Th.d).any fun d=>decide (d=t.d))=_
 congr 1
 rw[Bool.eq_iff_iff,List.any_eq_true,decide_eq_true_iff];constructor
 ·rintro ⟨d,hd,q⟩
  obtain⟨s,hs,rfl⟩:=mm0 hd;rw[←Th.d_inj (od0 q)];exact hs
 ·intro h;exact⟨t.d,List.mem_map_of_mem h,dt0 rfl⟩
abbrev rC (cNO cBT cBC:Nat)(run:List D->Option D):Prop:=∀ns b m,0≤m->m≤20->∃L:List Th,Valid cNO cBT cBC L/\L.length≤20/\run [.scr ns,.int b,.int m]=some (.list (L.map Th.d))
abbrev rD (Φ:Fs)(cNO cBT cBC:Nat):Prop:=Has Φ "_law_things" [true,true,true] (rC cNO cBT cBC)
theorem pS (ht:yz Φ cNO cBT cBC):rC cNO cBT cBC (ans Φ Γ cR):=by
 intro ns b m h0 h1;obtain⟨r1,e1,h2⟩:=ht;simp only[ans_e,cR];simp[pJ (n:=m) (by grind) (by omega)];refine BY (F:=fun s:List Th×Sl×Sl=>[.lent (.scr ns),.lent (.int b),.lent (.int m),.own (.list (s.1.map Th.d)),s.2.1,s.2.2]) (s:=([],.no,.no)) (fun n s=>Valid cNO cBT cBC s.1/\s.1.length+n≤20) (P:=fun o=>∃L:List Th,Valid cNO cBT cBC L/\L.length≤20/\uk (nxS Φ Γ o _)=some (.list (L.map Th.d))) (fun s j=>⟨s.1,j.1,j.2,by simp⟩) (fun x a n s j=>?_) ⟨fun P t R h=>(by cases P<;>cases h),by simp;omega⟩;obtain⟨t,t1,t2,t3⟩:=h2 ns (b+5*x) s.1 j.1 (by grind);have hb:s.1.length<big:=by unfold big;grind
 by_cases c:t∈s.1
 ·exact⟨(s.1,.dat (.int x),.dat t.d),⟨j.1,Nat.le_of_succ_le j.2⟩,by simp[e1,mulL (i:=5) (by decide) (by decide),t3,rB,c]⟩
 ·exact⟨(s.1++[t],.dat (.int x),.dat t.d),⟨j.1.snoc ⟨t1,t2,c⟩,by have:=j.2;simp;grind⟩,by simp[e1,mulL (i:=5) (by decide) (by decide),t3,rB,c,hb]⟩
variable {Φ:Fs}{Ψ:FsM}{Γ:List (Str×D)}{c cV cNO cBT cBC cNP cBP:Nat}
abbrev Hq:Str:=⟨#[111,98,106,101,99,116]⟩
abbrev sOk:Str:=⟨#[111,107]⟩
abbrev iW:Str:=⟨#[110,111,110,101]⟩
noncomputable def bZ (cNO cBT x:Nat):Str:=if x=cNO then Hq else if x=cBT then aE else ah
noncomputable def gb (cNO cBT:Nat):Option Nat->Str
 |none=>sOk
 |some x=>bZ cNO cBT x
abbrev Ct (run:List D->Option D):Prop:=∀ns k m,0≤m->m≤1000->∃i:Int,run [.scr ns,.int k,.int m]=some (.int i)
abbrev Cu (Φ:Fs):Prop:=Has Φ "_law_wild" [true,true,true] Ct
theorem yA (hm:mW Φ):Ct (ans Φ Γ fz):=by
 intro ns k m h0 h1;obtain⟨r1,e1,h1'⟩:=hm;have hx:=h1' ns k;generalize mixF ns k=N at hx;simp only[ans_e,fz];simp[e1,hx]
 by_cases z:N % 4=0\/m=0
 ·simp[z]
  obtain e|e|e|e|e:N / 4 % 5=0\/N / 4 % 5=1\/N / 4 % 5=2\/N / 4 % 5=3\/N / 4 % 5=4:=by grind
  all_goals simp[e]
 ·exact⟨N / 4 % m,by simp[z,show 0<m by grind]⟩
abbrev Is3 (cNO cBT cBC x:Nat):Prop:=x=cNO\/x=cBT\/x=cBC
abbrev nC (cNO cBT cBC:Nat)(run:List D->Option D):Prop:=∀x,Is3 cNO cBT cBC x->run [.exc x]=some (.str (bZ cNO cBT x))
abbrev nD (Φ:Fs)(cNO cBT cBC:Nat):Prop:=Has Φ "_law_refusal" [true] (nC cNO cBT cBC)
theorem nE (n1:cNO≠cBT)(n2:cNO≠cBC)(n3:cBT≠cBC):nC cNO cBT cBC (ans Φ Γ (cp cV cNO cBT cBC cNP cBP)):=by
 intro x h;simp only[ans_e,cp,bZ];have b1:=beq_false_of_ne (Ne.symm n1);have b2:=beq_false_of_ne (Ne.symm n2);have b3:=beq_false_of_ne (Ne.symm n3);have hb:5≤big:=by decide
 rcases h with rfl|rfl|rfl
 ·simp[hb,yd,lk0,n1,n2,n3,pK,pL,EO,ER,List.idxOf?_cons]
 ·simp[hb,yd,lk0,b1,n1.symm,n2,n3,pK,pL,EO,ER,List.idxOf?_cons]
 ·simp[hb,yd,lk0,b2,b3,n2.symm,n3.symm,pK,pL,EO,ER,List.idxOf?_cons]
variable {Φ:Fs}{Ψ:FsM}{Γ:List (Str×D)}{c cV cNO cBT cBC cNP cBP:Nat}
theorem gc {zs:List Str}{j:Nat}(h:j<zs.length):atI (zs.map D.str) (j:Int)=some (.str zs[j]):=fB (by simp[h])
theorem rE:∀{zs:List Str},fu zs=true↔∀(k:Nat) (h:k+1<zs.length),zs[k].cps.toList<zs[k+1].cps.toList
 |[]=>by simp[fu]
 |[x]=>by simp[fu]
 |x::y::r=>by
  have e:fu (x::y::r)=(decide (x.cps.toList<y.cps.toList)&&fu (y::r)):=rfl;rw[e,be0,rE,decide_eq_true_iff];exact⟨fun h k hk=>by cases k with
   |zero=>exact h.1
   |succ k=>exact h.2 k (by simpa using hk),fun h=>⟨h 0 (by simp),fun k hk=>h (k+1) (by simpa using hk)⟩⟩
def nF (zs:List Str)(k:Nat):Bool:=bf (zs[k]?.getD Str.empty)&&(decide (k=0)||decide ((zs[k-1]?.getD Str.empty).cps.toList<(zs[k]?.getD Str.empty).cps.toList))
theorem yB (zs:List Str):((List.range zs.length).all (nF zs))=dX zs:=by
 rw[Bool.eq_iff_iff,List.all_eq_true,dX,be0,List.all_eq_true,rE];constructor
 ·refine fun h=>⟨fun x hx=>?_,fun k hk=>?_⟩
  ·obtain⟨i,hi,rfl⟩:=List.mem_iff_getElem.mp hx
   have:=h i (List.mem_range.mpr hi);simp[nF,hi] at this;exact this.1
  ·have:=h (k+1) (List.mem_range.mpr hk)
   simp[nF,hk,show k<zs.length by omega] at this;exact this.2
 ·intro h k hk
  have hk:=List.mem_range.mp hk;have n:=h.1 _ (List.getElem_mem hk);cases k with
  |zero=>simp[nF,hk,n]
  |succ k=>simpa [nF,hk,n,show k<zs.length by omega] using h.2 k hk
noncomputable def iX (k:Str):Option Str:=if k=iW then some Hq else if k=ah then some aE else none
theorem nG {α β:Type}{f:α->Option β}{ks:List α}:∀{m:Nat},m≤ks.length->(List.range m).findSome? (fun k=>ks[k]?.bind f)=(ks.take m).findSome? f
 |0,_=>rfl
 |m+1,h=>by rw[List.range_succ,List.findSome?_append,nG (by exact Nat.le_of_lt ‹_›),List.take_add_one,List.findSome?_append];cases h:ks[m]?<;>simp[h]
abbrev Cv (run:List D->Option D):Prop:=∀ks zs:List Str,zs.length≤ks.length->zs.length≤100->(∀x∈zs,x.length≤1000)->run [.list (ks.map .str),.list (zs.map .str)]=some (.str (if dX zs then ((ks.take zs.length).findSome? iX).getD sOk else aE))
abbrev Cw (Φ:Fs):Prop:=Has Φ "_law_due_tree" [true,true] Cv
theorem yC (hn:mZ Φ):Cv (ans Φ Γ bM):=by
 intro ks zs hl hb hx;obtain⟨r1,e1,h1⟩:=hn;simp only[ans_e,bM];simp[rj (ds:=zs.map .str) (by simp;omega)];refine Cb (F:=fun s=>[.lent (.list (ks.map .str)),.lent (.list (zs.map .str)),s]) (fun k:Nat=>if nF zs k then none else some (.str aE)) (P:=fun o=>uk (nxS Φ Γ o _)=_) (fun k hk s=>⟨.dat (.int k),?_⟩) fun s=>?_
 ·have hk:=List.mem_range.mp hk
  cases k with
  |zero=>
   have s0:=gc hk;simp at s0;cases q:bf zs[0]<;>simp[nF,s0,e1,h1 _ (hx _ (List.getElem_mem hk)),hk,q]
  |succ k=>
   have k0:k<zs.length:=by omega
   have s1:=gc hk;simp at s1;cases q:bf zs[k+1]<;>by_cases l:zs[k].cps<zs[k+1].cps<;>simp[nF,s1,gc k0,e1,h1 _ (hx _ (List.getElem_mem hk)),hk,k0,q,l,show (0:Int)<(k:Int)+1 by omega]
 ·rw[fC,yB]
  cases dX zs with
  |false=>simp
  |true=>
   simp;rw[show (if zs.length<ks.length then (zs.length:Int) else ks.length)=zs.length by split<;>omega,Hg (by omega),bs0];refine Cb (F:=fun s=>[.lent (.list (ks.map .str)),.lent (.list (zs.map .str)),s]) (fun k:Nat=>(ks[k]?.bind iX).map .str) (P:=fun o=>uk (nxS Φ Γ o _)=_) (fun k hk s=>⟨.dat (.int k),?_⟩) fun s=>?_
   ·have hk:k<ks.length:=by have:=List.mem_range.mp hk;omega
    by_cases z1:ks[k]=iW
    ·simp[gc hk,hk,iX,z1,inD,okS]
    ·by_cases z2:ks[k]=ah
     ·simp[gc hk,hk,iX,z2,inD,okS]
     ·simp[gc hk,hk,iX,z1,z2,Ne.symm z1,Ne.symm z2,inD,okS]
   ·rw[show (fun k:Nat=>(ks[k]?.bind iX).map D.str)=Option.map D.str ∘ (fun k=>ks[k]?.bind iX) from rfl,←List.map_findSome?,nG hl]
    cases (ks.take zs.length).findSome? iX<;>simp
variable {Φ:Fs}{Ψ:FsM}{Γ:List (Str×D)}{c cV cNO cBT cBC cNP cBP:Nat}
noncomputable def kdF (L:List Th)(i:Int):Str:=match atL L i with
 |some t=>t.k
 |none=>iW
abbrev kx (cNO:Nat)(L:List Th)(i:Int)(k:Str):Option Nat:=if (ar L i k).isSome then none else some cNO
abbrev sM:Str:=⟨#[109]⟩
def cX (cNO cBT cBC:Nat)(L:List Th)(way n:Int)(nr:List Int)(names:List Str)(tm:Int):Option Nat:=
 if way=0 then (if (atL L n).isSome then none else some cNO)
 else if way=1 then kx cNO L n bX else if way=2 then kx cNO L n aE else if way=3 then kx cNO L n ah
 else if way<6 then dY cNO cBT L (names.zip (n::nr))
 else fZ cNO cBC L n nr tm sM
theorem Hr (t:Th):t.k≠iW:=by cases t<;>simp
theorem nI (L:List Th)(i:Int)(k:Str)(hk:k≠iW):(ar L i k).isSome=decide (kdF L i=k):=by
 unfold ar kdF;cases atL L i with
 |none=>simp[Ne.symm hk]
 |some t=>by_cases z:t.k=k<;>simp[z]
theorem Ht (L:List Th)(i:Int):(atL L i).isSome=!decide (kdF L i=iW):=by
 unfold kdF;cases atL L i with
 |none=>simp
 |some t=>simp[Hr t]
theorem EX (n1:cNO≠cBT)(L:List Th)(es:List (Str×Int)):(es.map fun p=>kdF L p.2).findSome? iX=(es.findSome? (iT cNO cBT L)).map (bZ cNO cBT):=by
 rw[List.findSome?_map,List.map_findSome?]
 congr 1
 funext p;cases q:atL L p.2 with
 |none=>simp[iX,iT,kdF,q,bZ]
 |some t=>by_cases z:t.k=ah<;>simp[iX,iT,kdF,q,z,Hr,bZ,Ne.symm n1]
abbrev Hu (cNO cBT cBC:Nat)(run:List D->Option D):Prop:=∀(L:List Th) (way n:Int) (nr:List Int) (names:List Str) (tm:Int),L.length≤1000->nr.length≤3->(∀x∈names,x.length≤1000)->0≤way->way<9->run [.list (L.map Th.d),.int way,.list ((n::nr).map .int),.list (names.map .str),.int tm]=some (.str (gb cNO cBT (cX cNO cBT cBC L way n nr names tm)))
abbrev Hv (Φ:Fs)(cNO cBT cBC:Nat):Prop:=Has Φ "_law_due" [true,true,true,true,true] (Hu cNO cBT cBC)
theorem rF {α β:Type}:∀(a:List α) (b:List β),(a.zip b).map (·.1)=a.take b.length
 |[],_=>by simp
 |_::_,[]=>by simp
 |x::a,y::b=>by simpa using rF a b
theorem rG {α β:Type}:∀(a:List α) (b:List β),(a.zip b).map Prod.snd=b.take a.length
 |[],_=>by simp
 |_::_,[]=>by simp
 |x::a,y::b=>by simpa using rG a b
theorem yD {α:Type}(l:List α)(n:Nat):SI.cut l none (some (n:Int))=l.take n:=AV l 0 n
theorem bS {α:Type}(x:α)(l:List α):SI.cut (x::l) (some 1) none=l:=ny (x::l) 1
theorem Be (n1:cNO≠cBT)(n2:cNO≠cBC)(n3:cBT≠cBC)(ht:Cw Φ):Hu cNO cBT cBC (ans Φ Γ gX):=by
 intro L way n nr names tm hl hr hx w0 w9;obtain⟨r1,e1,h1⟩:=ht;simp only[ans_e,gX];simp[show nr.length+1≤big by unfold big;grind];rw[show D.int n::nr.map D.int=(n::nr).map D.int from rfl,av (g:=D.str ∘ kdF L) fun i c=>by
  simp only[Function.comp,kdF];cases q:atL L i with
  |none=>
   have:¬ (0≤i/\i<(L.length:Int)):=fun h=>by simp[atL,h.1] at q;omega
   by_cases z:0≤i
   ·simp[bY,z,show ¬ i<(L.length:Int) by omega]
   ·simp[bY,z]
  |some t=>
   obtain⟨m,rfl,q2,q3,_⟩:=rk q;have:=Bd q3;rw[(List.getElem?_eq_some_iff.mp q2).2] at this;simp[bY,q3,this,d_0]]
 unfold cX
 by_cases c0:way=0
 ·by_cases z:kdF L n=iW<;>simp[c0,Ht,z,gb,bZ]
 by_cases c4:way<4
 ·obtain rfl|rfl|rfl:way=1\/way=2\/way=3:=by omega
  ·by_cases z:kdF L n=bX<;>simp[nI L n bX (by decide),z,gb,bZ,kx]
  ·by_cases z:kdF L n=aE<;>simp[nI L n aE (by decide),z,gb,bZ,kx]
  ·by_cases z:kdF L n=ah<;>simp[nI L n ah (by decide),z,gb,bZ,kx]
 have c1:way≠1/\way≠2/\way≠3:=by omega
 by_cases c6:way<6
 ·have q:=h1 ((n::nr).map (kdF L)) (names.take (nr.length+1)) (by simp;omega) (by simp;omega) (fun x h=>hx x (List.mem_of_mem_take h))
  have ct:=yD (names.map D.str) (nr.length+1);have es2:(names.zip (n::nr)).map (fun p=>kdF L p.2)=((n::nr).map (kdF L)).take (names.take (nr.length+1)).length:=by
   rw[show (fun p:Str×Int=>kdF L p.2)=kdF L ∘ Prod.snd from rfl,←List.map_map,rG,List.map_take,List.length_take,List.take_eq_take_iff,lm0,lc0];omega
  rw[←es2,EX n1] at q;simp at q ct;simp[c0,c1,c4,c6,e1,ct,q,dY,rF];rw[←List.map_findSome?];cases dX (names.take (nr.length+1))<;>cases (names.zip (n::nr)).findSome? (iT cNO cBT L)<;>simp[gb,bZ,Ne.symm n1]
 simp[c0,c1,c4,c6,bS,show nr.length≤big by unfold big;omega];rw[av (g:=fun i=>.bool (decide (kdF L i=ah))) fun i c=>by simp[bY],fZ,nI L n aE (by decide)];have ok:pQ L nr=nr.all fun i=>decide (kdF L i=ah):=by simp only[pQ,nI L _ ah (by decide)]
 have ns:=hV (ps:=nr) (by omega)
 by_cases a:kdF L n=aE
 ·cases b:pQ L nr with
  |false=>rw[ok] at b;simp[a,b,gb,bZ]
  |true=>
   rw[ok] at b
   by_cases z1:nr.length≤2
   ·have y1:(nr.length:Int)+1<4:=by omega
    by_cases z2:(eu nr).length=nr.length
    ·by_cases z3:0≤tm<;>simp[a,b,z1,y1,z2,z3,ns,bS,gb,bZ,Ne.symm n2,Ne.symm n3]
    ·simp[a,b,z1,y1,z2,show ¬ ((eu nr).length:Int)=nr.length by omega,ns,bS,gb,bZ,Ne.symm n2,Ne.symm n3]
   ·simp[a,b,z1,show ¬ (nr.length:Int)+1<4 by omega,gb,bZ,Ne.symm n2,Ne.symm n3]
 ·simp[a,gb,bZ]
variable {Φ:Fs}{Ψ:FsM}{Γ:List (Str×D)}{c cV cNO cBT cBC cNP cBP:Nat}
abbrev nJ:Str:=⟨#[110,111]⟩
def Bg (d:D):Prop:=(∃x,d=.str x)\/(∃i,d=.int i)\/(∃l,d=.list l)\/∃a r,d=.tuple (.int a::r)
theorem Th.fine (t:Th):Bg t.t:=by
 cases t
 ·exact .inl ⟨_,rfl⟩
 ·exact .inr (.inr (.inl ⟨_,rfl⟩))
 ·exact .inr (.inr (.inr ⟨_,_,rfl⟩))
noncomputable def newL (L:List Th)(way n:Int)(nr:List Int)(names:List Str)(tm:Int):List Th:=if way<4 then L else if way<6 then putL L (.tree (names.zip (n::nr))) else putL L (.com n nr tm sM)
theorem EY {L:List Th}{x:Nat}{es:List (Str×Int)}(h:es.findSome? (iT cNO cBT L)=some x):x=cNO\/x=cBT:=by
 obtain⟨p,_,h⟩:=List.exists_of_findSome?_eq_some h;unfold iT at h;cases q:atL L p.2<;>simp[q] at h
 ·exact .inl h.symm
 ·exact .inr h.2.symm
theorem EZ {L:List Th}{way n:Int}{nr:List Int}{names:List Str}{tm:Int}{x:Nat}(h:cX cNO cBT cBC L way n nr names tm=some x):Is3 cNO cBT cBC x:=by
 have k:∀{p:Prop} [Decidable p],(if p then none else some cNO)=some x->x=cNO:=fun {p} a h=>by split at h<;>simp_all
 unfold cX kx dY fZ at h;split at h
 ·exact .inl (k h)
 split at h
 ·exact .inl (k h)
 split at h
 ·exact .inl (k h)
 split at h
 ·exact .inl (k h)
 split at h
 ·split at h
  ·exact (EY h).imp id .inl
  ·exact .inr (.inl (Option.some.inj h).symm)
 ·split at h
  ·exact .inl (Option.some.inj h).symm
  ·split at h
   ·cases h
   ·exact .inr (.inr (Option.some.inj h).symm)
theorem yE {U:Ust}{t:Th}:vE c U (.dat t.t)=.dat t.t:=by cases t<;>rfl
structure JD (Ψ:FsM)(cNO cBT cBC:Nat):Prop where
 kd:pO Ψ cNO
 tx:yi Ψ cNO
 en:Cf Ψ cNO
 co:Cg Ψ cNO
 tr:pP Ψ cNO cBT
 cm:iV Ψ cNO cBC
def Fb (cNO cBT:Nat)(L L':List Th)(x:Option Nat)(o:Option (Ust×R)):Prop:=match x with
 |some x=>o=some (vt L,.ok (.tuple [.str nJ,.str (bZ cNO cBT x)]))
 |none=>∃d,Bg d/\o=some (vt L',.ok d)
section
variable {L L':List Th}{x:Nat}{o:Option (Ust×R)}
@[simp] theorem Hw:Fb cNO cBT L L' (some x) o↔o=some (vt L,.ok (.tuple [.str nJ,.str (bZ cNO cBT x)])):=.rfl
theorem kj {d:D}(h:Bg d):Fb cNO cBT L L' none (some (vt L',.ok d)):=⟨d,h,rfl⟩
end
abbrev yF (cNO cBT cBC:Nat)(run:Ust->List D->Option (Ust×R)):Prop:=∀(L:List Th) (way n:Int) (nr:List Int) (names:List Str) (tm:Int),L.length<1000->nr.length≤3->(∀x∈names,x.length≤1000)->0≤way->Fb cNO cBT L (newL L way n nr names tm) (cX cNO cBT cBC L way n nr names tm) (run (vt L) [.hdl 0,.int way,.list ((n::nr).map .int),.list (names.map .str),.int tm])
abbrev yG (Ψ:FsM)(cNO cBT cBC:Nat):Prop:=dP Ψ "_law_asked" [false,false,false,false,false] (yF cNO cBT cBC)
theorem uw (H:JD Ψ cNO cBT cBC)(hf:nD Φ cNO cBT cBC):yF cNO cBT cBC (cQ Φ Ψ Γ c (dJ cNO cBT cBC)):=by
 intro L way n nr names tm hl hr hx w0;obtain⟨r1,e1,h1⟩:=H.kd;obtain⟨r2,e2,h2⟩:=H.tx;obtain⟨r3,e3,h3⟩:=H.en;obtain⟨r4,e4,h4⟩:=H.co;obtain⟨r5,e5,h5⟩:=H.tr;obtain⟨r6,e6,h6⟩:=H.cm;obtain⟨r7,e7,h7⟩:=hf;have i3:=fun x=>EZ (cNO:=cNO) (cBT:=cBT) (cBC:=cBC) (L:=L) (way:=way) (n:=n) (nr:=nr) (names:=names) (tm:=tm) (x:=x)
 have lk:∀x,Is3 cNO cBT cBC x->[(cNO,true),(cBT,true),(cBC,true)].lookup x=some true:=fun x h=>by
  simp only[lk0];rcases h with rfl|rfl|rfl
  ·simp
  ·cases (x==cNO)<;>simp
  ·cases (x==cNO)<;>cases (x==cBT)<;>simp
 have nN:=lk cNO (.inl rfl);have hN:=h7 cNO (.inl rfl);simp only[aR,dJ];simp
 by_cases c0:way=0
 ·cases q:atL L n with
  |none=>simp[c0,cX,q,e1,h1,kg nN,e7,hN]
  |some t=>simp[c0,cX,newL,q,e1,h1];exact kj (.inl ⟨_,rfl⟩)
 simp[c0]
 by_cases c1:way=1
 ·cases q:ar L n bX with
  |none=>simp[c1,cX,kx,q,e2,h2,kg nN,e7,hN]
  |some t=>simp[c1,cX,kx,newL,q,e2,h2,yE];exact kj t.fine
 simp[c1]
 by_cases c2:way=2
 ·cases q:ar L n aE with
  |none=>simp[c2,cX,kx,q,e3,h3,kg nN,e7,hN]
  |some t=>simp[c2,cX,kx,newL,q,e3,h3,yE];exact kj t.fine
 simp[c2]
 by_cases c3:way=3
 ·cases q:ar L n ah with
  |none=>simp[c3,cX,kx,q,e4,h4,kg nN,e7,hN]
  |some t=>simp[c3,cX,kx,newL,q,e4,h4,yE];exact kj t.fine
 simp[c3];have c4:¬ way<4:=by grind
 by_cases c6:way<6
 ·have k:=h5 L (names.zip (n::nr)) (by simp;grind) (fun p hp=>hx _ (List.of_mem_zip hp).1) hl
  have z:=rX names (n::nr);have d:cX cNO cBT cBC L way n nr names tm=dY cNO cBT L (names.zip (n::nr)):=by simp[cX,c0,c1,c2,c3,c6]
  rw[d] at i3 ⊢;simp at z;cases q:dY cNO cBT L (names.zip (n::nr)) with
  |some x=>
   rw[q,yl] at k;have y:=i3 x q;simp[c6,e5,z,k,kg (lk x y),e7,h7 x y]
  |none=>
   rw[q] at k;obtain⟨j,k⟩:=k;simp[c4,c6,e5,z,k,newL];exact kj (.inr (.inl ⟨_,rfl⟩))
 ·have k:=h6 L n nr tm sM hr hl
  have d:cX cNO cBT cBC L way n nr names tm=fZ cNO cBC L n nr tm sM:=by simp[cX,c0,c1,c2,c3,c6]
  rw[d] at i3 ⊢;cases q:fZ cNO cBC L n nr tm sM with
  |some x=>
   rw[q,yl] at k;have y:=i3 x q;simp[c6,e6,bS,k,kg (lk x y),e7,h7 x y]
  |none=>
   rw[q] at k;obtain⟨j,k⟩:=k;simp[c4,c6,e6,bS,k,newL];exact kj (.inr (.inl ⟨_,rfl⟩))
variable {Φ:Fs}{Ψ:FsM}{Γ:List (Str×D)}{c cV cNO cBT cBC cNP cBP:Nat}
abbrev Bh (e:E)(q:Int):E:=.op .mod (.call "_law_mix" (.cons (.v 0) (.cons e .nil))) (.k (.int q))
abbrev ux (j q:Int):E:=Bh (.op .add (.v 4) (.k (.int j))) q
abbrev Hx:SM:=.set 7 (.p (.bi .srt (.cons (.v 7) .nil)))
abbrev Hy:SMs:=.cons (.ret (.p (.k (.bool false)))) .nil
noncomputable def nameA (r:SMs):SMs:=.cons (.pure (.set 7 (.comp 1 [4,0] (.one 0) (.rng (.k (.int 4))) .nil (.call "_law_name" (.cons (.v 2) (.cons (.op .add (.op .add (.v 1) (.k (.int 7))) (.v 0)) .nil)))))) (.cons (.ifs (.cmp .gt (ux 8 3) (.k (.int 0))) (.cons Hx .nil) .nil) r)
noncomputable def nK (r:SMs):SMs:=.cons (.ifs (.cmp .eq (ux 2 5) (.k (.int 0))) (.cons (.set 8 (.p (.idx (.lst (.cons (.k (.str ⟨#[]⟩)) (.cons (.k (.str ⟨#[46]⟩)) (.cons (.k (.str ⟨#[46,46]⟩)) (.cons (.k (.str ⟨#[97,98,99,100,101,102,103,104,105,106,107,108,109]⟩)) (.cons (.k (.str ⟨#[97,47,98]⟩)) (.cons (.k (.str ⟨#[97,32,98]⟩)) (.cons (.k (.str ⟨#[97,61]⟩)) (.cons (.k (.str ⟨#[97,10]⟩)) .nil))))))))) (ux 3 8)))) (.cons (.set 7 (.p (.op .add (.op .add (.sl (.v 7) .nil (.cons (.k (.int 1)) .nil)) (.lst (.cons (.v 8) .nil))) (.sl (.v 7) (.cons (.k (.int 1)) .nil) .nil)))) (.cons (.ifs (.cmp .eq (ux 5 2) (.k (.int 0))) (.cons Hx .nil) .nil) .nil))) .nil) r
noncomputable def yH (r:SMs):SMs:=.cons (.ifs (.or (.cmp .eq (.cmp .eq (.v 11) (.k (.str sOk))) (.and (.isi (.v 10) "tuple") (.cmp .eq (.idx (.v 10) (.k (.int 0))) (.k (.str nJ))))) (.and (.cmp .ne (.v 11) (.k (.str sOk))) (.cmp .ne (.v 10) (.tup (.cons (.k (.str nJ)) (.cons (.v 11) .nil)))))) Hy .nil) r
noncomputable def yI (r:SMs):SMs:=.cons (.ifs (.and (.cmp .eq (.v 11) (.k (.str sOk))) (.cmp .gt (.v 5) (.k (.int 3)))) (.cons (.set 12 (.p (.tup (.cons (.k (.str aE)) (.cons (.bi .lzip (.cons (.v 7) (.cons (.v 6) .nil))) .nil))))) (.cons (.ifs (.cmp .gt (.v 5) (.k (.int 5))) (.cons (.set 12 (.p (.tup (.cons (.k (.str ah)) (.cons (.idx (.v 6) (.k (.int 0))) (.cons (.sl (.v 6) (.cons (.k (.int 1)) .nil) .nil) (.cons (.v 9) (.cons (.k (.str sM)) .nil)))))))) .nil) .nil) (.cons (.set 1 (.p (.op .add (.v 1) (.op .mul (.lst (.cons (.v 12) .nil)) (.bi .int (.cons (.cmp .notin (.v 12) (.v 1)) .nil)))))) .nil))) .nil) r
noncomputable def pT:SMs:=.cons (.ifs (.not (.call "_law_stays" (.cons (.v 2) (.cons (.v 1) .nil)))) Hy .nil) .nil
noncomputable def yJ:SMs:=.cons (.set 9 (.p (.op .sub (ux 4 4) (.k (.int 1))))) (.cons (.set 10 (.call "_law_asked" (.va 2 (.va 5 (.va 6 (.va 7 (.va 9 .nil))))))) (.cons (.set 11 (.p (.call "_law_due" (.cons (.v 1) (.cons (.v 5) (.cons (.v 6) (.cons (.v 7) (.cons (.v 9) .nil)))))))) (yH (yI pT))))
noncomputable def cF:aY:=⟨[true],13,.cons (.set 1 (.p (.call "_law_things" (.cons (.v 0) (.cons (.k (.int 1)) (.cons (Bh (.k (.int 0)) 10) .nil)))))) (.cons (.set 2 (.call "_law_filled" (.va 1 .nil))) (.cons (.fors (.one 3) (.rng (Bh (.k (.int 46)) 7)) (.cons (.set 4 (.p (.op .add (.k (.int 47)) (.op .mul (.k (.int 9)) (.v 3))))) (.cons (.set 5 (.p (Bh (.v 4) 9))) (.cons (.pure (.set 6 (.comp 1 [4,0,1] (.one 0) (.rng (.op .add (.k (.int 1)) (ux 6 4))) .nil (.call "_law_wild" (.cons (.v 2) (.cons (.op .add (.op .add (.v 1) (.k (.int 1))) (.v 0)) (.cons (.bi .len (.cons (.v 3) .nil)) .nil))))))) (nameA (nK yJ)))))) (.cons (.ret (.p (.k (.bool true)))) .nil)))⟩
abbrev lE (ns:List Int)(L:List Th)(s3 s4 s5 s6 s7 s8 s9 s10 s11 s12:Sl):List Sl:=[.lent (.scr ns),.dat (.list (L.map Th.d)),.dat (.hdl 0),s3,s4,s5,s6,s7,s8,s9,s10,s11,s12]
abbrev nM (zs:List Str)(n:Nat):Prop:=(∀x∈zs,x.length≤1000)/\zs.length≤n
theorem Cy {zs:List Str}{n:Nat}(h:nM zs n):nM (srtS zs) n:=⟨fun x hx=>h.1 x ((dj zs x).mp hx),nt0 (mr zs) h.2⟩
section
variable {ns:List Int}{L:List Th}{b way n tm:Int}{nr:List Int}{zs:List Str}{s3 s4 s5 s6 s7 s8 s9 s10 s11 s12:Sl}{r:SMs}
theorem Bi (hm:mW Φ)(hn:rh Φ)(hk:∀s∈[s3,s5,s6,s8,s9,s10,s11,s12],bx s=true):∃zs,nM zs 4/\aH Φ Ψ Γ c (lE ns L s3 (.dat (.int b)) s5 s6 s7 s8 s9 s10 s11 s12) (vt L) (nameA r)=aH Φ Ψ Γ c (lE ns L s3 (.dat (.int b)) s5 s6 (.dat (.list (zs.map .str))) s8 s9 s10 s11 s12) (vt L) r:=by
 obtain⟨r1,e1,h1⟩:=hm;obtain⟨r4,e4,h4⟩:=hn;obtain⟨nm,hnm⟩:∃g:Int->Str,∀k,r4 [.scr ns,.int k]=some (.str (g k))/\bf (g k)=true:=⟨fun k=>Classical.choose (h4 ns k),fun k=>Classical.choose_spec (h4 ns k)⟩;simp at hk;obtain⟨z,hz⟩:∃z,(List.range 4).map (fun j:Nat=>nm (b+7+j))=z:=⟨_,rfl⟩;have sz:nM z 4:=by
  rw[←hz];refine⟨fun x hx=>?_,by simp⟩;obtain⟨j,_,rfl⟩:=mm0 hx;exact nt0 (jZ (hnm _).2).2 (by decide)
 simp only[nameA];simp[pJ (n:=4) (by decide) (by decide),show 4≤big by decide];rw[av (g:=D.str ∘ fun j:Nat=>nm (b+7+j)) fun j a=>by simp[bY,e4,hnm],←List.map_map,hz];simp[hk,e1,h1]
 by_cases p:0<mixF ns (b+8) % 3
 ·exact⟨srtS z,Cy sz,by simp[p,iQ z (Nat.lt_of_le_of_lt sz.2 (by decide))]⟩
 ·exact⟨z,sz,by simp[p]⟩
theorem JE {α:Type}(l:List α):SI.cut l none (some 1)=l.take 1:=yD l 1
theorem JF {α:Type}(l:List α):SI.cut l (some 1) none=l.drop 1:=ny l 1
theorem Bj (hm:mW Φ)(hz:nM zs 4)(h8:bx s8=true):∃zs' s8',bx s8'=true/\nM zs' 5/\aH Φ Ψ Γ c (lE ns L s3 (.dat (.int b)) s5 s6 (.dat (.list (zs.map .str))) s8 s9 s10 s11 s12) (vt L) (nK r)=aH Φ Ψ Γ c (lE ns L s3 (.dat (.int b)) s5 s6 (.dat (.list (zs'.map .str))) s8' s9 s10 s11 s12) (vt L) r:=by
 obtain⟨r1,e1,h1⟩:=hm
 by_cases p:mixF ns (b+2) % 5=0
 ·obtain⟨y,y1,y2⟩:∃y:Str,y.length≤1000/\atI [D.str ⟨#[]⟩,.str ⟨#[46]⟩,.str ⟨#[46,46]⟩,.str ⟨#[97,98,99,100,101,102,103,104,105,106,107,108,109]⟩,.str ⟨#[97,47,98]⟩,.str ⟨#[97,32,98]⟩,.str ⟨#[97,61]⟩,.str ⟨#[97,10]⟩] (mixF ns (b+3) % 8)=some (.str y):=by
   have g:=fe ns (b+3) 8 (by decide);generalize mixF ns (b+3) % 8=m at g;obtain⟨k,rfl⟩:∃k:Nat,m=k:=⟨m.toNat,by grind⟩
   match k,(by grind:k<8) with
   |0,_|1,_|2,_|3,_|4,_|5,_|6,_|7,_=>exact⟨_,by decide,rfl⟩
  have sz:nM (zs.take 1++y::zs.drop 1) 5:=by
   refine⟨fun x hx=>?_,by have:=hz.2;simp;grind⟩;simp at hx;rcases hx with h|rfl|h
   ·exact hz.1 x (List.mem_of_mem_take h)
   ·exact y1
   ·exact hz.1 x (List.mem_of_mem_tail h)
  have b1:∀n,n≤100->n≤big:=fun n h=>nt0 h (by decide)
  have hl:=hz.2;have ss:=iQ (zs.take 1++y::zs.drop 1) (Nat.lt_of_le_of_lt sz.2 (by decide));simp at ss;simp only[nK];simp[e1,h1,p,y2,JE,JF,b1 (min 1 zs.length+1) (by omega)]
  by_cases q:mixF ns (b+5) % 2=0
  ·exact⟨_,.dat (.str y),rfl,Cy sz,by simp[e1,h1,q,ss,b1 (min 1 zs.length+1+(zs.length-1)) (by omega)]⟩
  ·exact⟨_,.dat (.str y),rfl,sz,by simp[e1,h1,q,b1 (min 1 zs.length+1+(zs.length-1)) (by omega)]⟩
 ·exact⟨zs,s8,h8,⟨hz.1,nt0 hz.2 (by decide)⟩,by simp only[nK];simp[e1,h1,p]⟩
theorem Fc (x:Nat):bZ cNO cBT x≠sOk:=by
 unfold bZ;split
 ·decide
 ·split<;>decide
theorem Fd {y:Str}(hy:y≠sOk):aH Φ Ψ Γ c (lE ns L s3 s4 s5 s6 s7 s8 s9 (.dat (.tuple [.str nJ,.str y])) (.dat (.str y)) s12) (vt L) (yH (yI r))=aH Φ Ψ Γ c (lE ns L s3 s4 s5 s6 s7 s8 s9 (.dat (.tuple [.str nJ,.str y])) (.dat (.str y)) s12) (vt L) r:=by
 have o:okS 8 (.tuple [.str nJ,.str y])=true:=rfl;simp only[yH,yI];simp[hy,vh o o]
theorem Fe {d:D}{U:Ust}(hd:Bg d):aH Φ Ψ Γ c (lE ns L s3 s4 s5 s6 s7 s8 s9 (.dat d) (.dat (.str sOk)) s12) U (yH r)=aH Φ Ψ Γ c (lE ns L s3 s4 s5 s6 s7 s8 s9 (.dat d) (.dat (.str sOk)) s12) U r:=by
 simp only[yH];rcases hd with⟨x,rfl⟩|⟨x,rfl⟩|⟨x,rfl⟩|⟨a,l,rfl⟩
 ·simp
 ·simp
 ·simp
 ·simp[eqD,okS]
theorem yK (hL:L.length≤1000)(t:Th):(jj (some (.list [t.d])) (some (.int (if t∈L then 0 else 1)))).bind (fun y=>opD .add (.list (L.map Th.d)) y)=some (.list ((putL L t).map Th.d)):=by
 have b:L.length≤big/\L.length+1≤big:=by unfold big;grind
 have m0:jj (some (.list [t.d])) (some (.int 0))=some (.list []):=rfl;have m1:jj (some (.list [t.d])) (some (.int 1))=some (.list [t.d]):=rfl
 by_cases z:t∈L<;>simp[z,putL,b,m0,m1]
noncomputable def Bk (s:Sl)(way n:Int)(nr:List Int)(zs:List Str)(tm:Int):Sl:=if way<4 then s else .dat (if way<6 then Th.tree (zs.zip (n::nr)) else .com n nr tm sM).d
theorem yL (hL:L.length≤1000):aH Φ Ψ Γ c (lE ns L s3 s4 (.dat (.int way)) (.dat (.list (.int n::nr.map .int))) (.dat (.list (zs.map .str))) s8 (.dat (.int tm)) s10 (.dat (.str sOk)) s12) (vt (newL L way n nr zs tm)) (yI r)=aH Φ Ψ Γ c (lE ns (newL L way n nr zs tm) s3 s4 (.dat (.int way)) (.dat (.list (.int n::nr.map .int))) (.dat (.list (zs.map .str))) s8 (.dat (.int tm)) s10 (.dat (.str sOk)) (Bk s12 way n nr zs tm)) (vt (newL L way n nr zs tm)) r:=by
 have z:=rX zs (n::nr);have a:=yK hL (.tree (zs.zip (n::nr)));have i:=rB L (.tree (zs.zip (n::nr)));have a':=yK hL (.com n nr tm sM);have i':=rB L (.com n nr tm sM);simp at z a i a' i';simp only[yI,newL,Bk]
 by_cases c4:way<4
 ·simp[c4,show ¬ (3:Int)<way by grind]
 ·by_cases c6:way<6
  ·simp[c4,c6,show (3:Int)<way by grind,show ¬ (5:Int)<way by grind,z,i,a]
  ·simp[c4,c6,show (3:Int)<way by omega,show (5:Int)<way by omega,z,i',a',bS]
structure Hz (Φ:Fs)(Ψ:FsM)(c cNO cBT cBC:Nat):Prop where
 mx:mW Φ
 nm:rh Φ
 wi:Cu Φ
 th:rD Φ cNO cBT cBC
 fi:rq Ψ cNO cBT cBC
 ask:yG Ψ cNO cBT cBC
 du:Hv Φ cNO cBT cBC
 st:yt Φ c
theorem yM {L:List Th}{t:Th}(h:∀s∈L,s.sm)(ht:t.sm):(∀s∈putL L t,s.sm)/\(putL L t).length≤L.length+1:=by
 unfold putL;split
 ·exact⟨h,by simp_all⟩
 ·exact⟨by simpa [or_imp,forall_and] using ⟨h,ht⟩,by simp⟩
theorem Bm (H:Hz Φ Ψ c cNO cBT cBC)(hL:L.length≤900)(hsm:∀t∈L,t.sm)(hr:nr.length≤3)(hz:nM zs 5)(w0:0≤way)(w9:way<9)(k8:bx s8=true)(k12:bx s12=true):∃(L':List Th) (t9 t10 t11 t12:Sl),(∀t∈L',t.sm)/\L'.length≤L.length+1/\(∀s∈[t9,t10,t11,t12],bx s=true)/\
  aH Φ Ψ Γ c (lE ns L s3 (.dat (.int b)) (.dat (.int way)) (.dat (.list ((n::nr).map .int))) (.dat (.list (zs.map .str))) s8 s9 s10 s11 s12) (vt L) yJ=some (.nx (lE ns L' s3 (.dat (.int b)) (.dat (.int way)) (.dat (.list ((n::nr).map .int))) (.dat (.list (zs.map .str))) s8 t9 t10 t11 t12),vt L'):=by
 obtain⟨r1,e1,h1⟩:=H.mx;obtain⟨ra,ea,ka⟩:=H.ask;obtain⟨rd,ed,kd⟩:=H.du;obtain⟨rs,es,ks⟩:=H.st;obtain⟨tm,htm⟩:∃tm,mixF ns (b+4) % 4-1=tm:=⟨_,rfl⟩;have A:=ka L way n nr zs tm (by grind) hr hz.1 w0;have du:=kd L way n nr zs tm (by omega) hr hz.1 w0 w9;simp only[yJ];cases q:cX cNO cBT cBC L way n nr zs tm with
 |some x=>
  rw[q] at A du;refine⟨L,.dat (.int tm),.dat (.tuple [.str nJ,.str (bZ cNO cBT x)]),.dat (.str (bZ cNO cBT x)),s12,hsm,by omega,by simp[k12],?_⟩;rw[Hw] at A;simp at A du;simp[e1,h1,htm,ea,A,ed,du,gb];rw[Fd (Fc x)];simp only[pT];simp[es,ks 0 L hsm (by omega)]
 |none=>
  rw[q] at A du;obtain⟨d,hd,A⟩:=A;have nsm:(∀t∈newL L way n nr zs tm,t.sm)/\(newL L way n nr zs tm).length≤L.length+1:=by
   unfold newL;split
   ·exact⟨hsm,by omega⟩
   ·split
    ·exact yM hsm ⟨by simp;omega,fun p hp=>hz.1 _ (List.of_mem_zip hp).1⟩
    ·exact yM hsm hr
  refine⟨newL L way n nr zs tm,.dat (.int tm),.dat d,.dat (.str sOk),Bk s12 way n nr zs tm,nsm.1,nsm.2,by simp[Bk];split<;>simp[k12],?_⟩;simp at A du;simp[e1,h1,htm,ea,A,ed,du,gb];rw[Fe hd,yL (by omega)];simp only[pT];simp[es,ks 0 _ nsm.1 (by omega)]
end
theorem nO (H:Hz Φ Ψ c cNO cBT cBC)(ns:List Int):∃U,cQ Φ Ψ Γ c cF [] [.scr ns]=some (U,.ok (.bool true)):=by
 obtain⟨r1,e1,h1⟩:=H.mx;obtain⟨rt,et,kt⟩:=H.th;obtain⟨rf,ef,kf⟩:=H.fi;obtain⟨rw',ew,kw⟩:=H.wi;have g:=fe ns 0 10 (by decide);have g2:=fe ns 46 7 (by decide);obtain⟨L,v,ll,ts⟩:=kt ns 1 (mixF ns 0 % 10) g.1 (by grind);have hsm:∀t∈L,t.sm:=fun t ht=>by
  obtain⟨P,R,e⟩:=List.append_of_mem ht;exact (v P t R e).1
 simp only[aR,cF];simp[e1,h1,et,ts,ef,kf L v (by grind),pJ (n:=mixF ns 46 % 7) (by grind) (by omega)];refine Ce (α:=List Th×List Sl) (F:=fun s=>.lent (.scr ns)::.dat (.list (s.1.map Th.d))::.dat (.hdl 0)::s.2) (V:=fun s=>vt s.1) (s:=(L,[.no,.no,.no,.no,.no,.no,.no,.no,.no,.no])) (fun n s=>(∀t∈s.1,t.sm)/\s.1.length+n≤900/\s.2.length=10/\∀x∈s.2,bx x=true) (P:=fun o=>∃U,um (nxM Φ Ψ Γ c o _)=some (U,.ok (.bool true))) (fun s a=>⟨vt s.1,by simp⟩) (fun j a m s h=>?_) ⟨hsm,by simp;omega,rfl,by simp[bx]⟩;obtain⟨L,ss⟩:=s;obtain⟨i1,i2,i3,i4⟩:=h
 match ss,i3 with
 |[s3,s4,s5,s6,s7,s8,s9,s10,s11,s12],_=>
  simp at i1 i2 i4;obtain⟨b,hb⟩:∃b:Int,47+9*(j:Int)=b:=⟨_,rfl⟩;obtain⟨wd,hwd⟩:∃g:Int->Int,∀k,rw' [.scr ns,.int k,.int (L.length:Int)]=some (.int (g k)):=⟨fun k=>Classical.choose (kw ns k L.length (by omega) (by omega)),fun k=>Classical.choose_spec (kw ns k L.length (by omega) (by omega))⟩;have w:=fe ns b 9 (by decide);have g6:=fe ns (b+6) 4 (by decide);simp[mulL (i:=9) (by decide) (by decide),hb,e1,h1,pJ (n:=1+mixF ns (b+6) % 4) (by omega) (by omega),show (1+mixF ns (b+6) % 4).toNat≤big by unfold big;omega];rw[av (g:=D.int ∘ fun i:Nat=>wd (b+1+i)) fun i a=>by simp[bY,ew,hwd],←List.map_map]
  generalize hN:(List.range (1+mixF ns (b+6) % 4).toNat).map (fun i:Nat=>wd (b+1+i))=N;have nl:N.length=(1+mixF ns (b+6) % 4).toNat:=by rw[←hN];simp
  cases N with
  |nil=>simp at nl;omega
  |cons n nr=>
   simp at nl;simp[i4];obtain⟨z1,a1,a2⟩:=Bi (Φ:=Φ) (Ψ:=Ψ) (Γ:=Γ) (c:=c) (ns:=ns) (L:=L) (b:=b) (s3:=.dat (.int j)) (s5:=.dat (.int (mixF ns b % 9))) (s6:=.dat (.list (.int n::nr.map .int))) (s7:=s7) (s8:=s8) (s9:=s9) (s10:=s10) (s11:=s11) (s12:=s12) (r:=nK yJ) H.mx H.nm (by simp[i4]);obtain⟨z2,t8,b1,b2,b3⟩:=Bj (Φ:=Φ) (Ψ:=Ψ) (Γ:=Γ) (c:=c) (ns:=ns) (L:=L) (b:=b) (s3:=.dat (.int j)) (s5:=.dat (.int (mixF ns b % 9))) (s6:=.dat (.list (.int n::nr.map .int))) (s8:=s8) (s9:=s9) (s10:=s10) (s11:=s11) (s12:=s12) (r:=yJ) H.mx a1 (by simp[i4]);obtain⟨L',t9,t10,t11,t12,c1,c2,c3,c4⟩:=Bm (Γ:=Γ) (L:=L) (ns:=ns) (b:=b) (n:=n) (nr:=nr) (s3:=.dat (.int j)) (s9:=s9) (s10:=s10) (s11:=s11) (s12:=s12) H (by omega) (by simpa using i1) (by omega) b2 w.1 w.2 b1 (by simp[i4])
   simp at c3;exact⟨L',[.dat (.int j),.dat (.int b),.dat (.int (mixF ns b % 9)),.dat (.list (.int n::nr.map .int)),.dat (.list (z2.map .str)),t8,t9,t10,t11,t12],⟨c1,by omega,rfl,by simp[b1,c3]⟩,a2.trans (b3.trans c4)⟩
end TX
namespace K11
open PySem L2 L2.Z SI
noncomputable def gam:List (Str×D):=[("LONGEST_NAME",.int 12),("MOST_PARENTS",.int 2)]
noncomputable def env:mR:={fns:=["is_name_sign","is_name","names_rise","text_of","entries_of","commit_of","_law_cell","_law_mix","_law_whole","_law_sign","_law_line","_law_ends","_law_row","_law_name","_law_thing","_law_things","_law_is","_law_stays","_law_wild","_law_refusal","_law_is_name","_law_due_tree","_law_due"],cst:=["LONGEST_NAME","MOST_PARENTS"],c:=cV,vms:=["size","kind","held","content"],xcs:=[("StrataError",cSE,[(cNO,true),(cBT,true),(cBC,true)]),("NoObject",cNO,[(cNO,true),(cBT,false),(cBC,false)]),("BadTree",cBT,[(cNO,false),(cBT,true),(cBC,false)]),("BadCommit",cBC,[(cNO,false),(cBT,false),(cBC,true)]),("NoPath",cNP,[(cNO,false),(cBT,false),(cBC,false)]),("BadPack",cBP,[(cNO,false),(cBT,false),(cBC,false)]),("ValueError",cV,[(cNO,true),(cBT,true),(cBC,true)])],mfs:=["blob","tree","commit","text_of","entries_of","commit_of","refuse_wrong_names","refuse_what_is_no_tree","refuse_wrong_commit","_law_put","_law_filled","_law_asked","law"],mms:=["put","kind","held","content"],vn:="Vault",xks:=[("BadTree",cBT),("NoObject",cNO),("BadCommit",cBC)],vrs:=["_law_vault"]}
noncomputable def prog:List (Str×Def):=[("is_name_sign",TX.aW),("is_name",TX.cD),("names_rise",TX.cP),("text_of",(TX.dG cV)),("entries_of",(TX.bK cV)),("commit_of",(TX.ck cV)),("_law_cell",TX.dq),("_law_mix",TX.gU),("_law_whole",TX.jU),("_law_sign",TX.eZ),("_law_line",TX.dt),("_law_ends",TX.fb),("_law_row",TX.gW),("_law_name",TX.fw),("_law_thing",TX.dH),("_law_things",TX.cR),("_law_is",(TX.lr cV)),("_law_stays",(TX.dI cV)),("_law_wild",TX.fz),("_law_refusal",(TX.cp cV cNO cBT cBC cNP cBP)),("_law_is_name",TX.d_l_is_name),("_law_due_tree",TX.bM),("_law_due",TX.gX),(ao "size",(TX.fk cV)),(ao "kind",(TX.fq cV)),(ao "held",(TX.ft cV)),(ao "content",(TX.cg cV))]
noncomputable def progM:List (Str×aY):=[("blob",TX.lh),("tree",(TX.gY cBT)),("commit",TX.fA),("text_of",TX.cT),("entries_of",TX.bE),("commit_of",TX.bN),("refuse_wrong_names",(TX.aI cBT)),("refuse_what_is_no_tree",TX.aC),("refuse_wrong_commit",(TX.aF cBC)),("_law_put",TX.gZ),("_law_filled",TX.cU),("_law_asked",(TX.dJ cNO cBT cBC)),("law",TX.cF),(ao "kind",TX.dM),(ao "held",(TX.bR cV cNO)),(ao "content",(TX.bL cNO))]
theorem ti:qR (met 0):=⟨⟨_,_,_,_,_,_,_,_,rfl⟩⟩
theorem tp:xF (met 5):=⟨⟨_,_,_,_,_,_,_,_,_,_,_,_,_,_,_,_,_,_,_,_,_,_,_,_,_,rfl,rfl⟩,by decide +kernel⟩
def scB (ps:List Str)(st:Stmt):Bool:=decide ((defScope st).kind=.function/\(defScope st).isCoroutine=false/\(defScope st).isGenerator=false/\(ps++ax (defScope st) ps).Nodup/\(ps++ax (defScope st) ps).take ps.length=ps/\(∀x∈ps,(defScope st).names.lookup x=some .local\/(defScope st).names.lookup x=some .cell)/\∀y∈(defScope st).names,y.2≠.free)
theorem pU {ps:List Str}{st:Stmt}(h:scB ps st=true):bh (ps++ax (defScope st) ps) ps (defScope st):=
 have⟨a,b,c,d,e,f,g⟩:=od0 h
 ⟨a,b,c,d,e,f,g⟩
structure FF (x q:Str)(st:Stmt)(f cd:Addr)(pm:Value)(ps:List Str):Prop where
 l:∀P,(kk P).lookup f=some (fo x q st pm cd)
 c:∀P,(PySem.W.codeIn (kk P) (.ref cd) q&&PySem.W.keepIn (kk P) (.ref f))=true
 s:scB ps st=true
 d:bu st=some (ps,defBody st,defScope st)
 b:∀(kV doc pm:Value) (an:Option Addr) (cdv ct:Value) (us:List Value),us.length=ps.length->bindArgs (PySem.W.fnOf x q (defArgs st) (defBody st) (defScope st) .none kV doc pm an cdv ct) ⟨us,[]⟩=pure (ps.zip us)
section
variable {x q:Str}{st:Stmt}{f cd:Addr}{pm:Value}{ps:List Str}{P:Params}{mg:Str->Option Value}{h:Heap}
theorem FF.fn (F:FF x q st f cd pm ps)(P:Params):Fun (kk P) x q st f (PySem.W.fnOf x q (defArgs st) (defBody st) (defScope st) .none .none .none pm none (.ref cd) .none):=De (F.l P) (ax0 (F.c P)).1 (ax0 (F.c P)).2
theorem mkD {d:Def}(F:FF x x st f cd pm ps)(X:(kk P).In h)(G:h.Ns mainGlobals mg)(a:PySem.W.nsIn (kk P) mainGlobals x=some (some (.ref f)))(c:sf env.fns env.cst d.lent st (some env.c) env.vms env.xcs=some d)(e:d.lent.length=ps.length):tI (kk P) mg env.fns env.cst (some env.c) env.vms env.xcs x d:=
 ⟨⟨st,f,_,ps,F.fn P,PySem.W.mg_of X G a,(F.fn P).binds F.b,pU F.s,F.d,c,e⟩⟩
theorem mkM {d:aY}(F:FF x x st f cd pm ps)(X:(kk P).In h)(G:h.Ns mainGlobals mg)(a:PySem.W.nsIn (kk P) mainGlobals x=some (some (.ref f)))(c:iH env d.lent st=some d)(e:d.lent.length=ps.length):mU (kk P) mg env x d:=
 ⟨⟨st,f,_,ps,F.fn P,PySem.W.mg_of X G a,(F.fn P).binds F.b,pU F.s,F.d,c,e⟩⟩
theorem mkT (F:FF x q st f cd pm ps)(a:PySem.W.findIn (kk P) (.ref cV) x=some (some (.ref f)))(n:PySem.W.isFn (kk P) (.ref f)=true):ie (kk P) cV x f:=⟨a,n,(ax0 (F.c P)).2⟩
theorem mkV {d:Def}(F:FF x (ao x) st f cd pm ps)(T:ie (kk P) cV x f)(n:x≠"objects"/\x≠"numbers")(c:sf env.fns env.cst d.lent st (some env.c) env.vms env.xcs=some d)(e:d.lent.length=ps.length):tJ (kk P) env.fns env.cst env.c env.vms env.xcs x d:=
 ⟨n,⟨st,f,_,ps,F.fn P,T,(F.fn P).binds F.b,pU F.s,F.d,c,e⟩⟩
theorem mkX {t:Str}{c:Addr}{tab:List (Nat×Bool)}(m:mg t=some (.ref c))(h:∀e b,tab.lookup e=some b->PySem.W.ExcI (kk P) e/\PySem.W.kitOne (kk P) (.ref e) (.ref c)=some b):XcZ (kk P) mg t c tab:=⟨.inl m,fun e b q=>⟨(h e b q).1,fun a=>(h e b q).2,fun (z:mg t=none)=>by rw[m] at z;cases z⟩⟩
theorem JG {c:Addr}{tab:List (Nat×Bool)}(m:mg "ValueError"=none)(h:∀e b,tab.lookup e=some b->PySem.W.ExcI (kk P) e/\PySem.W.kitOne (kk P) (.ref e) (.type "ValueError")=some b):XcZ (kk P) mg "ValueError" c tab:=⟨.inr ⟨rfl,m⟩,fun e b q=>⟨(h e b q).1,fun (z:mg "ValueError"=some (.ref c))=>(by rw[m] at z;cases z),fun a=>(h e b q).2⟩⟩
theorem mkW {d:aY}(C:Cls (kk P) cV)(F:FF x q st f cd pm ps)(T:ie (kk P) cV x f)(n:x≠"objects"/\x≠"numbers")(c:iH env d.lent st=some d)(e:d.lent.length=ps.length)(e':d.lent.headD false=false):mV (kk P) env x d:=
 ⟨n,e',⟨st,f,_,ps,q,F.fn P,C,T,(F.fn P).binds F.b,pU F.s,F.d,c,e⟩⟩
end
theorem F10:FF "is_name_sign" "is_name_sign" (top 10) 108 107 m0 ["sign"]:=⟨fun a=>by kernel_rfl,fun a=>by kernel_rfl,by kernel_rfl,rfl,fun a a a a a a=>gF fun a=>rfl⟩
theorem F11:FF "is_name" "is_name" (top 11) 113 112 m0 ["text"]:=⟨fun a=>by kernel_rfl,fun a=>by kernel_rfl,by kernel_rfl,rfl,fun a a a a a a=>gF fun a=>rfl⟩
theorem F12:FF "names_rise" "names_rise" (top 12) 118 117 m0 ["names"]:=⟨fun a=>by kernel_rfl,fun a=>by kernel_rfl,by kernel_rfl,rfl,fun a a a a a a=>gF fun a=>rfl⟩
theorem F19:FF "text_of" "text_of" (top 19) 207 206 m1 ["vault","number"]:=⟨fun a=>by kernel_rfl,fun a=>by kernel_rfl,by kernel_rfl,rfl,fun a a a a a a=>dy fun a a=>rfl⟩
theorem F20:FF "entries_of" "entries_of" (top 20) 214 213 m1 ["vault","number"]:=⟨fun a=>by kernel_rfl,fun a=>by kernel_rfl,by kernel_rfl,rfl,fun a a a a a a=>dy fun a a=>rfl⟩
theorem F21:FF "commit_of" "commit_of" (top 21) 221 220 m1 ["vault","number"]:=⟨fun a=>by kernel_rfl,fun a=>by kernel_rfl,by kernel_rfl,rfl,fun a a a a a a=>dy fun a a=>rfl⟩
theorem F26:FF "_law_cell" "_law_cell" (top 26) 249 248 m2 ["_law_script","_law_k"]:=⟨fun a=>by kernel_rfl,fun a=>by kernel_rfl,by kernel_rfl,rfl,fun a a a a a a=>dy fun a a=>rfl⟩
theorem F27:FF "_law_mix" "_law_mix" (top 27) 256 255 m2 ["_law_script","_law_k"]:=⟨fun a=>by kernel_rfl,fun a=>by kernel_rfl,by kernel_rfl,rfl,fun a a a a a a=>dy fun a a=>rfl⟩
theorem F28:FF "_law_whole" "_law_whole" (top 28) 263 262 m2 ["_law_found"]:=⟨fun a=>by kernel_rfl,fun a=>by kernel_rfl,by kernel_rfl,rfl,fun a a a a a a=>gF fun a=>rfl⟩
theorem F29:FF "_law_sign" "_law_sign" (top 29) 270 269 m2 ["_law_number"]:=⟨fun a=>by kernel_rfl,fun a=>by kernel_rfl,by kernel_rfl,rfl,fun a a a a a a=>gF fun a=>rfl⟩
theorem F30:FF "_law_line" "_law_line" (top 30) 277 276 m2 ["_law_script","_law_k"]:=⟨fun a=>by kernel_rfl,fun a=>by kernel_rfl,by kernel_rfl,rfl,fun a a a a a a=>dy fun a a=>rfl⟩
theorem F31:FF "_law_ends" "_law_ends" (top 31) 282 281 m2 ["_law_row_here","_law_cut"]:=⟨fun a=>by kernel_rfl,fun a=>by kernel_rfl,by kernel_rfl,rfl,fun a a a a a a=>dy fun a a=>rfl⟩
theorem F32:FF "_law_row" "_law_row" (top 32) 287 286 m2 ["_law_script","_law_base","_law_many"]:=⟨fun a=>by kernel_rfl,fun a=>by kernel_rfl,by kernel_rfl,rfl,fun a a a a a a=>ug fun a a a=>rfl⟩
theorem F33:FF "_law_name" "_law_name" (top 33) 292 291 m2 ["_law_script","_law_k"]:=⟨fun a=>by kernel_rfl,fun a=>by kernel_rfl,by kernel_rfl,rfl,fun a a a a a a=>dy fun a a=>rfl⟩
theorem F34:FF "_law_thing" "_law_thing" (top 34) 297 296 m2 ["_law_script","_law_k","_law_things_here"]:=⟨fun a=>by kernel_rfl,fun a=>by kernel_rfl,by kernel_rfl,rfl,fun a a a a a a=>ug fun a a a=>rfl⟩
theorem F35:FF "_law_things" "_law_things" (top 35) 304 303 m2 ["_law_script","_law_base","_law_many"]:=⟨fun a=>by kernel_rfl,fun a=>by kernel_rfl,by kernel_rfl,rfl,fun a a a a a a=>ug fun a a a=>rfl⟩
theorem F37:FF "_law_is" "_law_is" (top 37) 316 315 m2 ["_law_vault","_law_number","_law_thing_here"]:=⟨fun a=>by kernel_rfl,fun a=>by kernel_rfl,by kernel_rfl,rfl,fun a a a a a a=>ug fun a a a=>rfl⟩
theorem F39:FF "_law_stays" "_law_stays" (top 39) 328 327 m2 ["_law_vault","_law_things_here"]:=⟨fun a=>by kernel_rfl,fun a=>by kernel_rfl,by kernel_rfl,rfl,fun a a a a a a=>dy fun a a=>rfl⟩
theorem F40:FF "_law_wild" "_law_wild" (top 40) 335 334 m2 ["_law_script","_law_k","_law_many"]:=⟨fun a=>by kernel_rfl,fun a=>by kernel_rfl,by kernel_rfl,rfl,fun a a a a a a=>ug fun a a a=>rfl⟩
theorem F41:FF "_law_refusal" "_law_refusal" (top 41) 342 341 m2 ["_law_kept"]:=⟨fun a=>by kernel_rfl,fun a=>by kernel_rfl,by kernel_rfl,rfl,fun a a a a a a=>gF fun a=>rfl⟩
theorem F42:FF "_law_is_name" "_law_is_name" (top 42) 347 346 m2 ["_law_text"]:=⟨fun a=>by kernel_rfl,fun a=>by kernel_rfl,by kernel_rfl,rfl,fun a a a a a a=>gF fun a=>rfl⟩
theorem F44:FF "_law_due_tree" "_law_due_tree" (top 44) 361 360 m2 ["_law_kinds","_law_names"]:=⟨fun a=>by kernel_rfl,fun a=>by kernel_rfl,by kernel_rfl,rfl,fun a a a a a a=>dy fun a a=>rfl⟩
theorem F45:FF "_law_due" "_law_due" (top 45) 366 365 m2 ["_law_things_here","_law_way","_law_numbers","_law_names","_law_time"]:=⟨fun a=>by kernel_rfl,fun a=>by kernel_rfl,by kernel_rfl,rfl,fun a a a a a a=>AS fun a a a a a=>rfl⟩
theorem F16:FF "blob" "blob" (top 16) 188 187 m1 ["vault","text"]:=⟨fun a=>by kernel_rfl,fun a=>by kernel_rfl,by kernel_rfl,rfl,fun a a a a a a=>dy fun a a=>rfl⟩
theorem F17:FF "tree" "tree" (top 17) 193 192 m1 ["vault","entries"]:=⟨fun a=>by kernel_rfl,fun a=>by kernel_rfl,by kernel_rfl,rfl,fun a a a a a a=>dy fun a a=>rfl⟩
theorem F18:FF "commit" "commit" (top 18) 200 199 m1 ["vault","top","parents","time","message"]:=⟨fun a=>by kernel_rfl,fun a=>by kernel_rfl,by kernel_rfl,rfl,fun a a a a a a=>AS fun a a a a a=>rfl⟩
theorem F22:FF "refuse_wrong_names" "refuse_wrong_names" (top 22) 228 227 m1 ["names"]:=⟨fun a=>by kernel_rfl,fun a=>by kernel_rfl,by kernel_rfl,rfl,fun a a a a a a=>gF fun a=>rfl⟩
theorem F23:FF "refuse_what_is_no_tree" "refuse_what_is_no_tree" (top 23) 235 234 m1 ["vault","number"]:=⟨fun a=>by kernel_rfl,fun a=>by kernel_rfl,by kernel_rfl,rfl,fun a a a a a a=>dy fun a a=>rfl⟩
theorem F24:FF "refuse_wrong_commit" "refuse_wrong_commit" (top 24) 242 241 m1 ["vault","top","parents","time","message"]:=⟨fun a=>by kernel_rfl,fun a=>by kernel_rfl,by kernel_rfl,rfl,fun a a a a a a=>AS fun a a a a a=>rfl⟩
theorem F36:FF "_law_put" "_law_put" (top 36) 311 310 m2 ["_law_vault","_law_thing_here"]:=⟨fun a=>by kernel_rfl,fun a=>by kernel_rfl,by kernel_rfl,rfl,fun a a a a a a=>dy fun a a=>rfl⟩
theorem F38:FF "_law_filled" "_law_filled" (top 38) 323 322 m2 ["_law_things_here"]:=⟨fun a=>by kernel_rfl,fun a=>by kernel_rfl,by kernel_rfl,rfl,fun a a a a a a=>gF fun a=>rfl⟩
theorem F43:FF "_law_asked" "_law_asked" (top 43) 354 353 m2 ["_law_vault","_law_way","_law_numbers","_law_names","_law_time"]:=⟨fun a=>by kernel_rfl,fun a=>by kernel_rfl,by kernel_rfl,rfl,fun a a a a a a=>AS fun a a a a a=>rfl⟩
theorem F46:FF "law" "law" (top 46) 371 370 m2 ["_law_script"]:=⟨fun a=>by kernel_rfl,fun a=>by kernel_rfl,by kernel_rfl,rfl,fun a a a a a a=>gF fun a=>rfl⟩
theorem Fm0:FF "__init__" "Vault.__init__" (met 0) 132 131 m1 ["self"]:=⟨fun a=>by kernel_rfl,fun a=>by kernel_rfl,by kernel_rfl,rfl,fun a a a a a a=>gF fun a=>rfl⟩
theorem Fm5:FF "put" "Vault.put" (met 5) 167 166 m1 ["self","made"]:=⟨fun a=>by kernel_rfl,fun a=>by kernel_rfl,by kernel_rfl,rfl,fun a a a a a a=>dy fun a a=>rfl⟩
theorem Fm1:FF "size" "Vault.size" (met 1) 139 138 m1 ["self"]:=⟨fun a=>by kernel_rfl,fun a=>by kernel_rfl,by kernel_rfl,rfl,fun a a a a a a=>gF fun a=>rfl⟩
theorem Fm2:FF "kind" "Vault.kind" (met 2) 146 145 m1 ["self","number"]:=⟨fun a=>by kernel_rfl,fun a=>by kernel_rfl,by kernel_rfl,rfl,fun a a a a a a=>dy fun a a=>rfl⟩
theorem Fm3:FF "held" "Vault.held" (met 3) 153 152 m1 ["self","number"]:=⟨fun a=>by kernel_rfl,fun a=>by kernel_rfl,by kernel_rfl,rfl,fun a a a a a a=>dy fun a a=>rfl⟩
theorem Fm4:FF "content" "Vault.content" (met 4) 160 159 m1 ["self","number","wanted"]:=⟨fun a=>by kernel_rfl,fun a=>by kernel_rfl,by kernel_rfl,rfl,fun a a a a a a=>ug fun a a a=>rfl⟩
abbrev dn (k:Nat):Fs:=den (prog) gam k
abbrev dm (k:Nat):FsM:=jh uj (prog) (progM) gam cV k
theorem HA (k:Nat):TX.BS (dn (k+1)):=ay (d:=TX.dq) rfl fun ns j=>by rw[run_eq rfl];exact TX.xJ ns j
theorem yN (k:Nat):TX.mW (dn (k+2)):=ay (d:=TX.gU) rfl fun ns j=>by rw[run_eq rfl];exact TX.AN (HA k) ns j
theorem HB (k:Nat):TX.BU (dn (k+1)):=ay (d:=TX.eZ) rfl fun n=>by rw[run_eq rfl];exact TX.xK n
theorem Cz (k:Nat):TX.xN (dn (k+3)):=ay (d:=TX.dt) rfl fun ns j=>by rw[run_eq rfl];exact TX.xO (yN k) (HB (k+1)) ns j
theorem JH (k:Nat):TX.GY (dn (k+4)):=ay (d:=TX.gW) rfl fun ns b n h1 h2=>by rw[run_eq rfl];exact TX.AQ (Cz k) ns b n h1 h2
theorem HC (k:Nat):TX.BV (dn (k+1)):=ay (d:=TX.fb) rfl fun row b h1 h2=>by rw[run_eq rfl];exact TX.xQ row b h1 h2
theorem Fh (k:Nat):TX.rz (dn (k+1)):=ay (d:=TX.jU) rfl fun i=>by rw[run_eq rfl];exact rfl
theorem hName (k:Nat):TX.rh (dn (k+3)):=ay (d:=TX.fw) rfl fun ns j=>by rw[run_eq rfl];exact TX.yb (yN k) ns j
theorem Fi (k:Nat):TX.yz (dn (k+5)) cNO cBT cBC:=ay (d:=TX.dH) rfl fun ns j L h1 h2=>by rw[run_eq rfl];exact TX.uv (yN (k+2)) (JH k) (HC (k+3)) (hName (k+1)) (Cz (k+1)) ns j L h1 h2
theorem Bn (k:Nat):TX.rD (dn (k+6)) cNO cBT cBC:=ay (d:=TX.cR) rfl fun ns b m h1 h2=>by rw[run_eq rfl];exact TX.pS (Fi k) ns b m h1 h2
theorem HD (k:Nat):TX.Cu (dn (k+3)):=ay (d:=TX.fz) rfl fun ns j m h1 h2=>by rw[run_eq rfl];exact TX.yA (yN k) ns j m h1 h2
theorem yO (k:Nat):TX.nD (dn (k+1)) cNO cBT cBC:=ay (d:=(TX.cp cV cNO cBT cBC cNP cBP)) rfl fun x hx=>by rw[run_eq rfl];exact TX.nE (by decide) (by decide) (by decide) x hx
theorem Bo (k:Nat):TX.qX (dn (k+1)):=ay (d:=TX.aW) rfl fun c=>by rw[run_eq rfl];exact TX.mX c
theorem Bp (k:Nat):TX.qY (dn (k+2)):=ay (d:=TX.cD) rfl fun x h=>by rw[run_eq rfl];exact TX.mY (Bo k) rfl x h
theorem yP (k:Nat):TX.mZ (dn (k+1)):=ay (d:=TX.d_l_is_name) rfl fun x h=>by rw[run_eq rfl];exact TX.ji x h
theorem HE (k:Nat):TX.yk (dn (k+1)):=ay (d:=TX.cP) rfl fun xs h1=>by rw[run_eq rfl];exact TX.Hk xs h1
theorem HF (k:Nat):TX.Cw (dn (k+2)):=ay (d:=TX.bM) rfl fun ks zs h1 h2 h3=>by rw[run_eq rfl];exact TX.yC (yP k) ks zs h1 h2 h3
theorem JI (k:Nat):TX.Hv (dn (k+3)) cNO cBT cBC:=ay (d:=TX.gX) rfl fun L w n nr zs tm h1 h2 h3 h4 h5=>by rw[run_eq rfl];exact TX.Be (by decide) (by decide) (by decide) (HF k) L w n nr zs tm h1 h2 h3 h4 h5
theorem HG (k:Nat):TX.BW (dn (k+1)) cV:=ay (d:=(TX.fk cV)) rfl fun h os=>by rw[run_eq rfl];exact TX.xV h os
theorem CA (k:Nat):TX.xU (dn (k+1)) cV:=ay (d:=(TX.ft cV)) rfl fun h os n d hd=>by rw[run_eq rfl];exact TX.xW h os n d hd
theorem HH (k:Nat):TX.BX (dn (k+2)) cV:=ay (d:=(TX.fq cV)) rfl fun h os n kk ds hd=>by rw[run_eq rfl];exact TX.xX (CA k) h os n kk ds hd
theorem iY (k:Nat):TX.fv (dn (k+2)) cV:=ay (d:=(TX.cg cV)) rfl fun h os n kk d hd=>by rw[run_eq rfl];exact TX.nh (CA k) h os n kk d hd
theorem Fj (k:Nat):TX.yq (dn (k+3)) cV:=ay (d:=(TX.dG cV)) rfl fun h os n t z hd=>by rw[run_eq rfl];exact TX.Ho (iY k) h os n t z hd
theorem yQ (k:Nat):TX.ng (dn (k+3)) cV:=ay (d:=(TX.bK cV)) rfl fun h os n es hd=>by rw[run_eq rfl];exact TX.nu (iY k) h os n es hd
theorem HI (k:Nat):TX.Cq (dn (k+3)) cV:=ay (d:=(TX.ck cV)) rfl fun h os n t z hd=>by rw[run_eq rfl];exact TX.JC (iY k) h os n t z hd
theorem hIs (k:Nat):TX.HIs (dn (k+4)) cV:=ay (d:=(TX.lr cV)) rfl fun h os n t h1 h2=>by rw[run_eq rfl];exact TX.EW (HH (k+1)) (Fj k) (yQ k) (HI k) (Fh (k+2)) h os n t h1 h2
theorem Fk (k:Nat):TX.yt (dn (k+5)) cV:=ay (d:=(TX.dI cV)) rfl fun h L h1 h2=>by rw[run_eq rfl];exact TX.ur (HG (k+3)) (hIs k) h L h1 h2
theorem yR (k:Nat):TX.pN (dm (k+1)) cNO:=aO (d:=(TX.bR cV cNO)) rfl rfl fun L i=>by rw[aL rfl];exact TX.Hh L i
theorem iZ (k:Nat):TX.lu (dm (k+2)) cNO:=aO (d:=(TX.bL cNO)) rfl rfl fun L i s hk=>by rw[aL rfl];exact TX.Hi (yR k) L i s hk
theorem yS (k:Nat):TX.pO (dm (k+2)) cNO:=aO (d:=TX.dM) rfl rfl fun L i=>by rw[aL rfl];exact TX.Hj (yR k) L i
theorem Fm (k:Nat):TX.yi (dm (k+3)) cNO:=aO (d:=TX.cT) rfl rfl fun L i=>by rw[aL rfl];exact (TX.EU (iZ k)).1 L i
theorem HJ (k:Nat):TX.Cf (dm (k+3)) cNO:=aO (d:=TX.bE) rfl rfl fun L i=>by rw[aL rfl];exact (TX.EU (iZ k)).2.1 L i
theorem HK (k:Nat):TX.Cg (dm (k+3)) cNO:=aO (d:=TX.bN) rfl rfl fun L i=>by rw[aL rfl];exact (TX.EU (iZ k)).2.2 L i
theorem HL (k:Nat):TX.Cj (dm (k+3)) cBT:=aO (d:=(TX.aI cBT)) rfl rfl fun U es h1 h2=>by rw[aL rfl];exact TX.JA (Bp k) (HE (k+1)) U es h1 h2
theorem yT (k:Nat):TX.pP (dm (k+4)) cNO cBT:=aO (d:=(TX.gY cBT)) rfl rfl fun L es h1 h2 h3=>by rw[aL rfl];exact TX.Hl (HL k) (yS (k+1)) (lq _) L es h1 h2 h3
theorem Bq (k:Nat):TX.rn (dm (k+3)) cNO:=aO (d:=TX.aC) rfl rfl fun L i=>by rw[aL rfl];exact TX.EV (iZ k) L i
theorem HM (k:Nat):TX.Cn (dm (k+4)) cNO cBC:=aO (d:=(TX.aF cBC)) rfl rfl fun L a ps tm m h1=>by rw[aL rfl];exact TX.JB (iZ (k+1)) (Bq k) rfl L a ps tm m h1
theorem nP (k:Nat):TX.iV (dm (k+5)) cNO cBC:=aO (d:=TX.fA) rfl rfl fun L a ps tm m h1 h2=>by rw[aL rfl];exact TX.Bb (HM k) (lq _) L a ps tm m h1 h2
theorem Fo (k:Nat):TX.yp (dm (k+1)):=aO (d:=TX.lh) rfl rfl fun L x hz=>by rw[aL rfl];exact TX.Hm (lq _) L x hz
theorem HN (k:Nat):TX.Cp (dm (k+6)) cNO cBT cBC:=aO (d:=TX.gZ) rfl rfl fun L t h1 h2=>by rw[aL rfl];exact TX.Bc (Fo (k+4)) (yT (k+1)) (nP k) L t h1 h2
theorem Br (k:Nat):TX.rq (dm (k+7)) cNO cBT cBC:=aO (d:=TX.cU) rfl rfl fun L h1 h2=>by rw[aL rfl];exact TX.pR (HN k) L h1 h2
theorem Fp (k:Nat):TX.yG (dm (k+6)) cNO cBT cBC:=aO (d:=(TX.dJ cNO cBT cBC)) rfl rfl fun L w n nr zs tm h1 h2 h3 h4=>by rw[aL rfl];exact TX.uw ⟨(yS (k+3)),(Fm (k+2)),(HJ (k+2)),(HK (k+2)),(yT (k+1)),(nP k)⟩ (yO (k+4)) L w n nr zs tm h1 h2 h3 h4
theorem holds (ns:List Int)(hl:ns.length≤63):∃U,TX.cQ (dn 37) (dm 37) gam cV TX.cF [] [.scr ns]=some (U,.ok (.bool true)):=TX.nO (cNO:=cNO) (cBT:=cBT) (cBC:=cBC) ⟨(yN 35),(hName 34),(HD 34),(Bn 31),(Br 30),(Fp 31),(JI 34),(Fk 32)⟩ ns
set_option maxHeartbeats 0 in
theorem all_mk {w:World}{h:Heap}{mg:Str->Option Value}{fa:Addr}(P:Params)(X:(kk P).In h)(G:h.Ns mainGlobals mg)(hfa:mg "law"=some (.ref fa)):
  ∃fd:FuncData,(∀(s:Shared) (v:Value),BindsTo s fd ⟨[v],[]⟩ [("_law_script",v)])/\∀base:Heap,(kk P).In base->base.Ns mainGlobals mg->FnOk PySem.Challenge.pw_strata_k11_refused w (kk P) mg base CX0 40 fa fd ["_law_script"] (pE (kk P)):=by
 have e:=hfa.symm.trans (PySem.W.mg_of X G (by kernel_rfl:PySem.W.nsIn (kk P) mainGlobals "law"=some (some (.ref 371))));cases e;have cls:Cls (kk P) cV:=⟨(by kernel_rfl),(by kernel_rfl),(by kernel_rfl),(by kernel_rfl)⟩;have v5:PySem.W.findIn (kk P) (.ref cV) "objects"=some none:=by kernel_rfl
 have v6:PySem.W.findIn (kk P) (.ref cV) "numbers"=some none:=by kernel_rfl
 have T0:=mkT (P:=P) Fm0 (by kernel_rfl) (by kernel_rfl);have T5:=mkT (P:=P) Fm5 (by kernel_rfl) (by kernel_rfl);have T1:=mkT (P:=P) Fm1 (by kernel_rfl) (by kernel_rfl);have T2:=mkT (P:=P) Fm2 (by kernel_rfl) (by kernel_rfl);have T3:=mkT (P:=P) Fm3 (by kernel_rfl) (by kernel_rfl);have T4:=mkT (P:=P) Fm4 (by kernel_rfl) (by kernel_rfl);have defs:∀x d,env.fns.contains x=true->prog.lookup x=some d->tI (kk P) mg env.fns env.cst (some env.c) env.vms env.xcs x d:=fun x d hx hl=>cj (Q:=fun x d=>env.fns.contains x=true->tI (kk P) mg env.fns env.cst (some env.c) env.vms env.xcs x d) (prog:=prog) ⟨fun a=>mkD F10 X G (by kernel_rfl) (by kernel_rfl) rfl,fun a=>mkD F11 X G (by kernel_rfl) (by kernel_rfl) rfl,fun a=>mkD F12 X G (by kernel_rfl) (by kernel_rfl) rfl,fun a=>mkD F19 X G (by kernel_rfl) (by kernel_rfl) rfl,fun a=>mkD F20 X G (by kernel_rfl) (by kernel_rfl) rfl,fun a=>mkD F21 X G (by kernel_rfl) (by kernel_rfl) rfl,fun a=>mkD F26 X G (by kernel_rfl) (by kernel_rfl) rfl,fun a=>mkD F27 X G (by kernel_rfl) (by kernel_rfl) rfl,fun a=>mkD F28 X G (by kernel_rfl) (by kernel_rfl) rfl,fun a=>mkD F29 X G (by kernel_rfl) (by kernel_rfl) rfl,fun a=>mkD F30 X G (by kernel_rfl) (by kernel_rfl) rfl,fun a=>mkD F31 X G (by kernel_rfl) (by kernel_rfl) rfl,fun a=>mkD F32 X G (by kernel_rfl) (by kernel_rfl) rfl,fun a=>mkD F33 X G (by kernel_rfl) (by kernel_rfl) rfl,fun a=>mkD F34 X G (by kernel_rfl) (by kernel_rfl) rfl,fun a=>mkD F35 X G (by kernel_rfl) (by kernel_rfl) rfl,fun a=>mkD F37 X G (by kernel_rfl) (by kernel_rfl) rfl,fun a=>mkD F39 X G (by kernel_rfl) (by kernel_rfl) rfl,fun a=>mkD F40 X G (by kernel_rfl) (by kernel_rfl) rfl,fun a=>mkD F41 X G (by kernel_rfl) (by kernel_rfl) rfl,fun a=>mkD F42 X G (by kernel_rfl) (by kernel_rfl) rfl,fun a=>mkD F44 X G (by kernel_rfl) (by kernel_rfl) rfl,fun a=>mkD F45 X G (by kernel_rfl) (by kernel_rfl) rfl,fun z=>absurd (Eq.trans (by kernel_rfl:false=env.fns.contains (ao "size")) z) fx0,fun z=>absurd (Eq.trans (by kernel_rfl:false=env.fns.contains (ao "kind")) z) fx0,fun z=>absurd (Eq.trans (by kernel_rfl:false=env.fns.contains (ao "held")) z) fx0,fun z=>absurd (Eq.trans (by kernel_rfl:false=env.fns.contains (ao "content")) z) fx0,trivial⟩ x d hl hx
 have mets:∀c m d,some env.c=some c->env.vms.contains m=true->prog.lookup (ao m)=some d->tJ (kk P) env.fns env.cst c env.vms env.xcs m d:=fun c m d hc hm hl=>by
  cases hc;exact cj (Q:=fun x d=>∀m,x=ao m->env.vms.contains m=true->tJ (kk P) env.fns env.cst env.c env.vms env.xcs m d) (prog:=prog) ⟨fun m z hm=>(az (by kernel_rfl) z hm).elim,fun m z hm=>(az (by kernel_rfl) z hm).elim,fun m z hm=>(az (by kernel_rfl) z hm).elim,fun m z hm=>(az (by kernel_rfl) z hm).elim,fun m z hm=>(az (by kernel_rfl) z hm).elim,fun m z hm=>(az (by kernel_rfl) z hm).elim,fun m z hm=>(az (by kernel_rfl) z hm).elim,fun m z hm=>(az (by kernel_rfl) z hm).elim,fun m z hm=>(az (by kernel_rfl) z hm).elim,fun m z hm=>(az (by kernel_rfl) z hm).elim,fun m z hm=>(az (by kernel_rfl) z hm).elim,fun m z hm=>(az (by kernel_rfl) z hm).elim,fun m z hm=>(az (by kernel_rfl) z hm).elim,fun m z hm=>(az (by kernel_rfl) z hm).elim,fun m z hm=>(az (by kernel_rfl) z hm).elim,fun m z hm=>(az (by kernel_rfl) z hm).elim,fun m z hm=>(az (by kernel_rfl) z hm).elim,fun m z hm=>(az (by kernel_rfl) z hm).elim,fun m z hm=>(az (by kernel_rfl) z hm).elim,fun m z hm=>(az (by kernel_rfl) z hm).elim,fun m z hm=>(az (by kernel_rfl) z hm).elim,fun m z hm=>(az (by kernel_rfl) z hm).elim,fun m z hm=>(az (by kernel_rfl) z hm).elim,fun m z a=>br z▸mkV Fm1 T1 ⟨by decide,by decide⟩ (by kernel_rfl) rfl,fun m z a=>br z▸mkV Fm2 T2 ⟨by decide,by decide⟩ (by kernel_rfl) rfl,fun m z a=>br z▸mkV Fm3 T3 ⟨by decide,by decide⟩ (by kernel_rfl) rfl,fun m z a=>br z▸mkV Fm4 T4 ⟨by decide,by decide⟩ (by kernel_rfl) rfl,trivial⟩ _ d hl m rfl hm
 have defm:∀x d,env.mfs.contains x=true->progM.lookup x=some d->mU (kk P) mg env x d:=fun x d hx hl=>cj (Q:=fun x d=>env.mfs.contains x=true->mU (kk P) mg env x d) (prog:=progM) ⟨fun a=>mkM F16 X G (by kernel_rfl) (by kernel_rfl) rfl,fun a=>mkM F17 X G (by kernel_rfl) (by kernel_rfl) rfl,fun a=>mkM F18 X G (by kernel_rfl) (by kernel_rfl) rfl,fun a=>mkM F19 X G (by kernel_rfl) (by kernel_rfl) rfl,fun a=>mkM F20 X G (by kernel_rfl) (by kernel_rfl) rfl,fun a=>mkM F21 X G (by kernel_rfl) (by kernel_rfl) rfl,fun a=>mkM F22 X G (by kernel_rfl) (by kernel_rfl) rfl,fun a=>mkM F23 X G (by kernel_rfl) (by kernel_rfl) rfl,fun a=>mkM F24 X G (by kernel_rfl) (by kernel_rfl) rfl,fun a=>mkM F36 X G (by kernel_rfl) (by kernel_rfl) rfl,fun a=>mkM F38 X G (by kernel_rfl) (by kernel_rfl) rfl,fun a=>mkM F43 X G (by kernel_rfl) (by kernel_rfl) rfl,fun a=>mkM F46 X G (by kernel_rfl) (by kernel_rfl) rfl,fun z=>absurd (Eq.trans (by kernel_rfl:false=env.mfs.contains (ao "kind")) z) fx0,fun z=>absurd (Eq.trans (by kernel_rfl:false=env.mfs.contains (ao "held")) z) fx0,fun z=>absurd (Eq.trans (by kernel_rfl:false=env.mfs.contains (ao "content")) z) fx0,trivial⟩ x d hl hx
 have metm:∀m d,env.mms.contains m=true->progM.lookup (ao m)=some d->mV (kk P) env m d:=fun m d hm hl=>cj (Q:=fun x d=>∀m,x=ao m->env.mms.contains m=true->mV (kk P) env m d) (prog:=progM) ⟨fun m z hm=>(az (by kernel_rfl) z hm).elim,fun m z hm=>(az (by kernel_rfl) z hm).elim,fun m z hm=>(az (by kernel_rfl) z hm).elim,fun m z hm=>(az (by kernel_rfl) z hm).elim,fun m z hm=>(az (by kernel_rfl) z hm).elim,fun m z hm=>(az (by kernel_rfl) z hm).elim,fun m z hm=>(az (by kernel_rfl) z hm).elim,fun m z hm=>(az (by kernel_rfl) z hm).elim,fun m z hm=>(az (by kernel_rfl) z hm).elim,fun m z hm=>(az (by kernel_rfl) z hm).elim,fun m z hm=>(az (by kernel_rfl) z hm).elim,fun m z hm=>(az (by kernel_rfl) z hm).elim,fun m z hm=>(az (by kernel_rfl) z hm).elim,fun m z a=>br z▸mkW cls Fm2 T2 ⟨by decide,by decide⟩ (by kernel_rfl) rfl rfl,fun m z a=>br z▸mkW cls Fm3 T3 ⟨by decide,by decide⟩ (by kernel_rfl) rfl rfl,fun m z a=>br z▸mkW cls Fm4 T4 ⟨by decide,by decide⟩ (by kernel_rfl) rfl rfl,trivial⟩ _ d hl m rfl hm
 have blt:∀x∈bltNames,mg x=none:=qV (xs:=bltNames) ⟨PySem.W.mg_none_of X G (by kernel_rfl),PySem.W.mg_none_of X G (by kernel_rfl),PySem.W.mg_none_of X G (by kernel_rfl),PySem.W.mg_none_of X G (by kernel_rfl),PySem.W.mg_none_of X G (by kernel_rfl),PySem.W.mg_none_of X G (by kernel_rfl),PySem.W.mg_none_of X G (by kernel_rfl),PySem.W.mg_none_of X G (by kernel_rfl),PySem.W.mg_none_of X G (by kernel_rfl),PySem.W.mg_none_of X G (by kernel_rfl),PySem.W.mg_none_of X G (by kernel_rfl),PySem.W.mg_none_of X G (by kernel_rfl),PySem.W.mg_none_of X G (by kernel_rfl),PySem.W.mg_none_of X G (by kernel_rfl),PySem.W.mg_none_of X G (by kernel_rfl),PySem.W.mg_none_of X G (by kernel_rfl),PySem.W.mg_none_of X G (by kernel_rfl),trivial⟩
 have gl:∀x d,gam.lookup x=some d->∃u v,mg x=some u/\RelV v u/\∀G,Dp (kk P) G d v:=qW (prog:=gam) ⟨⟨.int 12 305,.int 12,PySem.W.mg_of X G (by kernel_rfl),⟨_,rfl⟩,fun a=>.int _⟩,⟨.int 2 328,.int 2,PySem.W.mg_of X G (by kernel_rfl),⟨_,rfl⟩,fun a=>.int _⟩,trivial⟩;have INoObject:PySem.W.ExcI (kk P) cNO:=⟨(by kernel_rfl),(by kernel_rfl),(by kernel_rfl),(by kernel_rfl),(by kernel_rfl),(by kernel_rfl)⟩;have IBadTree:PySem.W.ExcI (kk P) cBT:=⟨(by kernel_rfl),(by kernel_rfl),(by kernel_rfl),(by kernel_rfl),(by kernel_rfl),(by kernel_rfl)⟩;have IBadCommit:PySem.W.ExcI (kk P) cBC:=⟨(by kernel_rfl),(by kernel_rfl),(by kernel_rfl),(by kernel_rfl),(by kernel_rfl),(by kernel_rfl)⟩
 have yStrataError:PySem.W.excIn (kk P) cSE bc "ValueError.__new__"=true:=by kernel_rfl
 have yNoObject:PySem.W.excIn (kk P) cNO bc "ValueError.__new__"=true:=by kernel_rfl
 have yBadTree:PySem.W.excIn (kk P) cBT bc "ValueError.__new__"=true:=by kernel_rfl
 have yBadCommit:PySem.W.excIn (kk P) cBC bc "ValueError.__new__"=true:=by kernel_rfl
 have xc:∀t c tab,env.xcs.lookup t=some (c,tab)->XcZ (kk P) mg t c tab:=fun t c tab hl=>cj (Q:=fun t (p:Nat×List (Nat×Bool))=>XcZ (kk P) mg t p.1 p.2) (prog:=env.xcs) ⟨mkX (PySem.W.mg_of X G (by kernel_rfl)) fun e b hq=>(aZ hq).elim (fun z=>by obtain⟨z1,z2⟩:=z;subst z1 z2;exact⟨INoObject,(by kernel_rfl)⟩) fun z=>z.elim (fun z=>by obtain⟨z1,z2⟩:=z;subst z1 z2;exact⟨IBadTree,(by kernel_rfl)⟩) (fun z=>by obtain⟨z1,z2⟩:=z;subst z1 z2;exact⟨IBadCommit,(by kernel_rfl)⟩),mkX (PySem.W.mg_of X G (by kernel_rfl)) fun e b hq=>(aZ hq).elim (fun z=>by obtain⟨z1,z2⟩:=z;subst z1 z2;exact⟨INoObject,iR _⟩) fun z=>z.elim (fun z=>by obtain⟨z1,z2⟩:=z;subst z1 z2;exact⟨IBadTree,(by kernel_rfl)⟩) (fun z=>by obtain⟨z1,z2⟩:=z;subst z1 z2;exact⟨IBadCommit,(by kernel_rfl)⟩),mkX (PySem.W.mg_of X G (by kernel_rfl)) fun e b hq=>(aZ hq).elim (fun z=>by obtain⟨z1,z2⟩:=z;subst z1 z2;exact⟨INoObject,(by kernel_rfl)⟩) fun z=>z.elim (fun z=>by obtain⟨z1,z2⟩:=z;subst z1 z2;exact⟨IBadTree,iR _⟩) (fun z=>by obtain⟨z1,z2⟩:=z;subst z1 z2;exact⟨IBadCommit,(by kernel_rfl)⟩),mkX (PySem.W.mg_of X G (by kernel_rfl)) fun e b hq=>(aZ hq).elim (fun z=>by obtain⟨z1,z2⟩:=z;subst z1 z2;exact⟨INoObject,(by kernel_rfl)⟩) fun z=>z.elim (fun z=>by obtain⟨z1,z2⟩:=z;subst z1 z2;exact⟨IBadTree,(by kernel_rfl)⟩) (fun z=>by obtain⟨z1,z2⟩:=z;subst z1 z2;exact⟨IBadCommit,iR _⟩),mkX (PySem.W.mg_of X G (by kernel_rfl)) fun e b hq=>(aZ hq).elim (fun z=>by obtain⟨z1,z2⟩:=z;subst z1 z2;exact⟨INoObject,(by kernel_rfl)⟩) fun z=>z.elim (fun z=>by obtain⟨z1,z2⟩:=z;subst z1 z2;exact⟨IBadTree,(by kernel_rfl)⟩) (fun z=>by obtain⟨z1,z2⟩:=z;subst z1 z2;exact⟨IBadCommit,(by kernel_rfl)⟩),mkX (PySem.W.mg_of X G (by kernel_rfl)) fun e b hq=>(aZ hq).elim (fun z=>by obtain⟨z1,z2⟩:=z;subst z1 z2;exact⟨INoObject,(by kernel_rfl)⟩) fun z=>z.elim (fun z=>by obtain⟨z1,z2⟩:=z;subst z1 z2;exact⟨IBadTree,(by kernel_rfl)⟩) (fun z=>by obtain⟨z1,z2⟩:=z;subst z1 z2;exact⟨IBadCommit,(by kernel_rfl)⟩),JG (PySem.W.mg_none_of X G (by kernel_rfl)) fun e b hq=>(aZ hq).elim (fun z=>by obtain⟨z1,z2⟩:=z;subst z1 z2;exact⟨INoObject,(by kernel_rfl)⟩) fun z=>z.elim (fun z=>by obtain⟨z1,z2⟩:=z;subst z1 z2;exact⟨IBadTree,(by kernel_rfl)⟩) (fun z=>by obtain⟨z1,z2⟩:=z;subst z1 z2;exact⟨IBadCommit,(by kernel_rfl)⟩),trivial⟩ t (c,tab) hl
 have tr:∀(t:Str) x tab,t≠("ValueError":Str)->env.xcs.lookup t=some (x,tab)->∀e,tab.lookup e=some true->∃newId newIdT,PySem.W.excIn (kk P) e bc newId=true/\PySem.W.excIn (kk P) x bc newIdT=true/\dk (kk P) e x=true:=fun t x tab hn hl=>cj (Q:=fun t (p:Nat×List (Nat×Bool))=>t≠("ValueError":Str)->∀e,p.2.lookup e=some true->∃newId newIdT,PySem.W.excIn (kk P) e bc newId=true/\PySem.W.excIn (kk P) p.1 bc newIdT=true/\dk (kk P) e p.1=true) (prog:=env.xcs) ⟨fun a e hq=>(aZ hq).elim (fun z=>by obtain⟨z1,z2⟩:=z;subst z1;exact⟨_,_,yNoObject,yStrataError,(by kernel_rfl)⟩) fun z=>z.elim (fun z=>by obtain⟨z1,z2⟩:=z;subst z1;exact⟨_,_,yBadTree,yStrataError,(by kernel_rfl)⟩) (fun z=>by obtain⟨z1,z2⟩:=z;subst z1;exact⟨_,_,yBadCommit,yStrataError,(by kernel_rfl)⟩),fun a e hq=>(aZ hq).elim (fun z=>by obtain⟨z1,z2⟩:=z;subst z1;exact⟨_,_,yNoObject,yNoObject,(by kernel_rfl)⟩) fun z=>z.elim (fun z=>by cases z.2) (fun z=>by cases z.2),fun a e hq=>(aZ hq).elim (fun z=>by cases z.2) fun z=>z.elim (fun z=>by obtain⟨z1,z2⟩:=z;subst z1;exact⟨_,_,yBadTree,yBadTree,(by kernel_rfl)⟩) (fun z=>by cases z.2),fun a e hq=>(aZ hq).elim (fun z=>by cases z.2) fun z=>z.elim (fun z=>by cases z.2) (fun z=>by obtain⟨z1,z2⟩:=z;subst z1;exact⟨_,_,yBadCommit,yBadCommit,(by kernel_rfl)⟩),fun a e hq=>(aZ hq).elim (fun z=>by cases z.2) fun z=>z.elim (fun z=>by cases z.2) (fun z=>by cases z.2),fun a e hq=>(aZ hq).elim (fun z=>by cases z.2) fun z=>z.elim (fun z=>by cases z.2) (fun z=>by cases z.2),fun z=>absurd rfl z,trivial⟩ t (x,tab) hl hn
 have B:Base (kk P) mg gam (some env.c) env.xcs:=⟨blt,gl,fun c hc=>by cases hc;exact⟨cls,v5⟩,xc⟩;refine⟨PySem.W.fnOf "law" "law" (defArgs (top 46)) (defBody (top 46)) (defScope (top 46)) .none .none .none m2 none (.ref 370) .none,fun s v=>.of_eq rfl,fun base a a=>?_⟩;have VZ:xI PySem.Challenge.pw_strata_k11_refused w (kk P) mg base cV "Vault":=⟨⟨_,_,⟨(by kernel_rfl),T0.1,T0.2,(by kernel_rfl)⟩,PySem.W.mg_of X G (by kernel_rfl),by decide,(Fm0.fn P).binds Fm0.b,AL (Fm0.fn P) (pU Fm0.s) ti cls v5 v6⟩⟩;have BM:xB PySem.Challenge.pw_strata_k11_refused w (kk P) mg base uj env:=⟨fun X e1 e2 e3 e4 e5 r g ρ U p pos=>AM (by rw[e1,e2,e3,e4,e5];exact VZ) r g,fun m φ h=>by
   obtain⟨h1,rfl⟩:=AW h;obtain rfl:=br h1;exact⟨⟨⟨_,_,_,cls,T5,(Fm5.fn P).binds Fm5.b,EJ (Fm5.fn P) (pU Fm5.s) tp (PySem.W.mg_none_of X G (by kernel_rfl)) cls v5 v6⟩⟩,rfl,by decide,by decide⟩,
  fun x hx=>if_neg fun z=>by
   subst z;exact absurd (Eq.trans (by kernel_rfl:false=env.mfs.contains (ao "put")) hx) fx0,
  fun t x hl=>cj (Q:=fun t x=>mg t=some (.ref x)/\∃newId initId,ExcBaseFacts "ValueError" newId initId bc/\PySem.W.excIn (kk P) x bc newId=true) (prog:=env.xks) ⟨⟨PySem.W.mg_of X G (by kernel_rfl),_,_,PySem.F.excBase_ValueError,yBadTree⟩,⟨PySem.W.mg_of X G (by kernel_rfl),_,_,PySem.F.excBase_ValueError,yNoObject⟩,⟨PySem.W.mg_of X G (by kernel_rfl),_,_,PySem.F.excBase_ValueError,yBadCommit⟩,trivial⟩ t x hl,tr⟩
 have M:=AH (P:=PySem.Challenge.pw_strata_k11_refused) (w:=w) (base:=base) (Γ:=gam) (prog:=prog) (progM:=progM) B BM defs mets defm metm 37;exact AI (pD (F46.fn P) (pU F46.s) F46.d (by kernel_rfl:iH env [true] (top 46)=some TX.cF) rfl M) rfl fun ns hl=>by
  obtain⟨U,hU⟩:=holds ns hl;exact⟨U,by rw[aL rfl];exact hU⟩
end K11
open PySem PySem.W PySem.W.X PyProof.Rows K11
set_option maxRecDepth 100000 in
set_option maxHeartbeats 0 in
theorem PySem.Challenge.cw_strata_k11_refused_holds : PySem.Challenge.rw_strata_k11_refused.Holds := by
 w_on
 refine PySem.W.holds_law (by decide +kernel) fun said=>?_
 refine PySem.W.holds_openX (q:=vw) (loose:=lo) (Xt:=fun s=>xlAt vw [] s&&recOk (RowW.records (OpenRow.toRowW PySem.Challenge.rw_strata_k11_refused.row)) s) (XP:=XL vw []) (Yf:=obsZ ads) (Ya:=valZ kk 372 653) (d:=Dh) (kwd:=[]) (N:=5616) hl (fun s e=>xl_of s (ax0 e).1) XL.keeps (by kernel_rfl) (by kernel_rfl) (by kernel_rfl) (fun s e=>recFacts_of (ax0 e).2) (by rfl) said (by decide +kernel) ⟨rfl,rfl,rfl,rfl,rfl,by decide +kernel⟩ ?hw ?hc
 case hw=>w_witness2
 case hc=>exact L2.Z.walkX (fun P=>by kernel_rfl) (L2.Z.walkM (l:=PySem.Challenge.rw_strata_k11_refused) rfl rfl (fun w h Y=>Y) fun w mg fa h KX G hmg=>K11.all_mk w.params KX G hmg)
end

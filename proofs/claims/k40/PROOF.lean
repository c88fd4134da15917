import PyProof.Rows.All
import Wide.All
import OpenK.AllK
import Wide.FinOn
import PySem.Challenge.RW_strata_k40_whole_merged_trees
set_option tactic.hygienic false
set_option genSizeOf false
set_option compiler.extract_closed false
set_option bootstrap.genMatcherCode false
set_option Elab.async false
set_option linter.all false
set_option maxRecDepth 100000
local macro_rules|`(tactic|erw[$t:term])=>`(tactic|exact $t)
set_option hygiene false in
local macro_rules
|`(@0)=>`((by simp))
|`(@1)=>`((by lia))
|`(@2)=>`((by decide))
|`(@3)=>`((model prog w))
|`(@4)=>`((by grind))
|`(@5)=>`((model X.prog X.w))
|`(@6)=>`((by simp_all))
|`(@7)=>`((aA X tn js))
|`(@8)=>`((defScope st))
|`(@9)=>`((.k (.str ⟨#[]⟩)))
local macro_rules|`(↑$n:num)=>`((.k (.int $n)))
local macro_rules|`(($a,$b,*))=>`(⟨$a,$b,*⟩)
noncomputable section
theorem ws0:PySem.Challenge.rw_strata_k40_whole_merged_trees.wellSaid=true:=by decide +kernel
abbrev A0:=PySem.Value->PySem.Shared->Prop
abbrev A1:=List PySem.Str
abbrev A2:=List PySem.Value
abbrev A3:=List PySem.Expr
abbrev A4:=List PySem.Addr
abbrev A5:=List (PySem.Addr×PySem.Obj)
abbrev A6:=PySem.Str->Option PySem.Value
abbrev A7:=Unit->PySem.Shared->Prop
abbrev A8:=Nat->Nat->Bool
abbrev A9:=Array PySem.Value
def zn0{J:Type}{P:Prop}{e:J}(h:none=some e):P:=nomatch h
def gi0{J:Type}{l:List J}{i:Nat}{a:J}:l[i]?=some a->∃h:i<l.length,l[i]=a:=List.getElem?_eq_some_iff.1
def bf0{a:Bool}:¬a=true->a=false:=Bool.eq_false_iff.2
def is0{J:Type}{x:Option J}:x.isSome=true->∃a,x=some a:=Option.isSome_iff_exists.1
def lp0{J:Type}{l:List J}:l≠[]->0<l.length:=List.length_pos_iff.2
def bn0{J:Type}[BEq J][LawfulBEq J]{a b:J}:a≠b->(a==b)=false:=beq_eq_false_iff_ne.2
abbrev wb0:=@PySem.wpAny_bind
abbrev wq0:=@PySem.wpAny_pure
abbrev wh0:=@PySem.wpAny_holding
abbrev fg0:=@PySem.W.Frag
abbrev ml0:=@PySem.mem_of_lookup
abbrev hu0:=@PySem.Heap.get?_update_self
abbrev ez0:=@List.eq_nil_of_length_eq_zero
abbrev ui0:=@PySem.Around.under_plainId
def bx0{J K:Type}{f:J->Option K}{b:K}{x:Option J}:x.bind f=some b->∃a,x=some a/\f a=some b:=Option.bind_eq_some_iff.1
def mx0{J K:Type}{f:J->K}{b:K}{x:Option J}:x.map f=some b->∃a,x=some a/\f a=b:=Option.map_eq_some_iff.1
def ax0{a b:Bool}:(a&&b)=true->a=true/\b=true:=Bool.and_eq_true_iff.1
def fx0:false≠true:=Bool.false_ne_true
def mm0{J K:Type}{f:J->K}{l:List J}{b:K}:b∈l.map f->∃a,a∈l/\f a=b:=List.mem_map.1
def ma0{J:Type}{a:J}{s t:List J}:a∈s++t->a∈s\/a∈t:=List.mem_append.1
def mq0{J:Type}{a b:J}{l:List J}:a∈b::l->a=b\/a∈l:=List.mem_cons.1
abbrev bs0:=@Option.bind_some
abbrev mc0:=@List.mem_cons_of_mem
abbrev ps0:=@PySem.Heap.get?_push_of_some
abbrev ms0:=@List.mem_cons_self
abbrev lm0:=@List.length_map
abbrev ls0:=@List.size_toArray
abbrev ge0:=@List.getElem?_eq_getElem
abbrev hs0:=@PySem.Heap.lt_size
abbrev nr0:=@Nat.le_refl
abbrev nl0:=@Nat.lt_of_lt_of_le
abbrev pz0:=@PySem.Heap.get?_push_size
abbrev lc0:=@List.length_cons
abbrev nt0:=@Nat.le_trans
abbrev gn0:=@List.getElem?_set_ne
abbrev nn0:=@Nat.ne_of_lt
abbrev be0:=@Bool.and_eq_true
abbrev df0:=@decide_eq_false
abbrev dt0:=@decide_eq_true
abbrev od0:=@of_decide_eq_true
abbrev gm0:=@List.getElem?_map
abbrev lk0:=@List.lookup_cons
abbrev mo0:=@Option.map_some
abbrev mk0:=@List.map_cons
abbrev li0:=@Nat.lt_irrefl
abbrev al0:=@Array.length_toList
abbrev la0:=@List.length_append
abbrev mr0:=@List.mem_append_right
abbrev gs0:=@List.getElem?_set_self
abbrev mg0:=@List.mem_of_getElem?
abbrev gl0:=@List.getElem?_append_left
abbrev el0:=@Int.emod_lt_of_pos
abbrev en0:=@Int.emod_nonneg
abbrev lr0:=@List.length_range
namespace L2
open PySem PySem.Spec PyProof.Rows
noncomputable abbrev Key:=Sum Int Str
noncomputable def iM:Key->Value->Bool
 |.inl k,v=>Value.isInt k v
 |.inr x,v=>Value.isStrOf x v
noncomputable def LG(w:World):Key->Int
 |.inl k=>hashInt k
 |.inr x=>hashStr w x
def keyIs_shape:∀{k:Key}{v:Value},iM k v=true->(∃i t,k=Sum.inl i/\v=Value.int i t)\/(∃x t,k=Sum.inr x/\v=Value.str x t)
 |.inl i,v,h=>by
  obtain⟨t,e⟩:=Value.isInt_shape h;exact .inl (i,t,rfl,e)
 |.inr x,v,h=>by
  obtain⟨t,e⟩:=Value.isStrOf_shape h;exact .inr (x,t,rfl,e)
def Fo(a b:Int):decide ((Sum.inl a:Key)=Sum.inl b)=(a==b):=by
 by_cases e:a=b<;>simp_all
def Fp(a b:Str):decide ((Sum.inr a:Key)=Sum.inr b)=decide (a=b):=by
 simp
def Fq(a:Int)(b:Str):decide ((Sum.inl a:Key)=Sum.inr b)=false:=df0 (λq=>nomatch q)
def Ft(a:Str)(b:Int):decide ((Sum.inr a:Key)=Sum.inl b)=false:=df0 (λq=>nomatch q)
noncomputable def aD(prog:Program)(w:World):PySem.KeyKind prog w Key where
 is:=iM
 hash:=LG w
 inj:=λv a b M L=>by
  rcases keyIs_shape M with⟨i,t,rfl,rfl⟩|⟨x,t,rfl,rfl⟩
  .rcases keyIs_shape L with⟨j,u,rfl,e⟩|⟨y,u,rfl,e⟩
   .injection e with J _;rw[J]
   .erw[nomatch e]
  .rcases keyIs_shape L with⟨j,u,rfl,e⟩|⟨y,u,rfl,e⟩
   .erw[nomatch e]
   .injection e with J _;rw[J]
 byValue:=λk v h=>by
  rcases keyIs_shape h with⟨i,t,rfl,rfl⟩|⟨x,t,rfl,rfl⟩<;>rfl
 pyHash:=λK h=>by
  rcases keyIs_shape K with⟨i,t,rfl,rfl⟩|⟨x,t,rfl,rfl⟩
  .erw[wpAny_pyHash_int h]
  .erw[wpAny_pyHash_str h]
 eqBool:=λN K h=>by
  rcases keyIs_shape N with⟨i,t,rfl,rfl⟩|⟨x,t,rfl,rfl⟩
  .rcases keyIs_shape K with⟨j,u,rfl,rfl⟩|⟨y,u,rfl,rfl⟩
   .rw[Fo]at h;erw[wpAny_eqBool_int h]
   .rw[Fq]at h;erw[SeqAt.EqAt.int_str i t y u _ _ _ _ h]
  .rcases keyIs_shape K with⟨j,u,rfl,rfl⟩|⟨y,u,rfl,rfl⟩
   .rw[Ft]at h;erw[SeqAt.EqAt.str_int x t j u _ _ _ _ h]
   .rw[Fp]at h;erw[wpAny_eqBool_str h]
 «strs»:=λk x t v h=>by
  rcases keyIs_shape h with⟨i,u,rfl,e⟩|⟨y,u,rfl,e⟩
  .erw[nomatch e]
  .injection e with J _
   subst J;cases v<;>rfl
def oZ(prog)(w:World)(i:Int)(t:Tok):(aD prog w).is (.inl i) (.int i t)=true:=(show iM (.inl i) (.int i t)=true by simp[iM,Value.isInt])
def pd(prog)(w:World)(x:Str)(t:Tok):(aD prog w).is (.inr x) (.str x t)=true:=(show iM (.inr x) (.str x t)=true by simp[iM,Value.isStrOf])
inductive V where
 |non|bl (b:Bool)|int (i:Int)|str (x:Str)|ref (a:Addr)|ty (n:String)
 deriving DecidableEq
noncomputable def RelV:V->Value->Prop
 |.non,u=>u=Value.none
 |.bl b,u=>u=Value.bool b
 |.int i,u=>∃t,u=Value.int i t
 |.str x,u=>∃t,u=Value.str x t
 |.ref a,u=>u=Value.ref a
 |.ty n,u=>u=Value.type n
abbrev Vals:List V->List Value->Prop:=Paired RelV
theorem Vals.length{xs:List V}{us:A2}(r:Vals xs us):xs.length=us.length:=Paired.length r
def Vals.get:∀{xs:List V}{us:A2}{i:Nat}{x:V},Vals xs us->xs[i]?=some x->∃u,us[i]?=some u/\RelV x u:=by
 intro xs us i x h
 induction h generalizing i with
 |nil=>intro e;simp at e
 |cons r t ih=>
  intro e;cases i with
  |zero=>simp at e;subst e;exact(_,rfl,r)
  |succ i=>simpa using ih (by simpa using e)
theorem Vals.set{x:V}{u:Value}(r:RelV x u):∀{xs:List V}{us:A2}(i:Nat),Vals xs us->Vals (xs.set i x) (us.set i u):=by
 intro xs us i h
 induction h generalizing i with
 |nil=>exact .nil
 |cons q t ih=>cases i;exact .cons r t;exact .cons q (ih _)
def Vals.append:∀{xs K:List V}{us J:A2},Vals xs us->Vals K J->Vals (xs++K) (us++J):=by
 intro xs K us J h s
 induction h with
 |nil=>exact s
 |cons r t ih=>exact .cons r ih
theorem Vals.take:∀{xs:List V}{us:A2}(n:Nat),Vals xs us->Vals (xs.take n) (us.take n):=by
 intro xs us n h
 induction h generalizing n with
 |nil=>cases n<;>exact .nil
 |cons r t ih=>cases n;exact .nil;exact .cons r (ih _)
theorem Vals.drop:∀{xs:List V}{us:A2}(n:Nat),Vals xs us->Vals (xs.drop n) (us.drop n)
 |_,_,0,r=>r
 |_,_,_+1,.nil=>.nil
 |_,_,n+1,.cons _ t=>Vals.drop n t
def Vals.none_of:∀{xs:List V}{us:A2}{i:Nat},Vals xs us->xs[i]?=none->us[i]?=none:=λ{xs us i} r e=>by
 have J:=r.length;have K:=List.getElem?_eq_none_iff.mp e;erw[List.getElem?_eq_none_iff.mpr @1]
def RelO:Option V->Option Value->Prop
 |some v,some u=>RelV v u
 |none,none=>True
 |_,_=>False
def KV{Y:Type}:List (Y×V)->List (Y×Value)->Prop:=Paired λ(p:Y×V) (q:Y×Value)=>p.1=q.1/\RelV p.2 q.2
noncomputable def kV:Key->V
 |.inl i=>.int i
 |.inr x=>.str x
inductive HO where
 |lst (xs:List V)
 |tup (xs:List V)
 |dK (kvs:List (Key×V))
 |ins (C dx:Addr) (fs:List (Str×V))
 |own (x:Addr)
 |frz (o:Obj) (u:HO)
 |tbl (ps:A9)
 |ext (φ:Heap->Prop)
abbrev Hp:=Addr->Option HO
noncomputable def upd(H:Hp)(a:Addr)(o:HO):Hp:=λb=>if b=a then some o else H b
def aa{H:Hp}{a:Addr}{o:HO}:upd H a o a=some o:=by unfold upd;simp
def ab{H:Hp}{a b}{o:HO}(h:b≠a):upd H a o b=H b:=by unfold upd;rw[if_neg h]
def tW{H:Hp}{a:Addr}{o u}:upd (upd H a o) a u=upd H a u:=by
 funext b;unfold upd;simp_all
def ag{H:Hp}{a b}{o:HO}(h:H a=some o)(h':H b=none):a≠b:=by
 intro e;simp_all
section
variable (P:Program)(w:World)
def ObjOk(H:Hp)(h:Heap)(a:Addr):HO->Prop
 |.lst L=>L.length<=sizeLine/\∃(J:A2)(n:Nat),Vals L J/\h.get? a=some {cls:=.type "list",data:=.seq J.toArray n}
 |.tup L=>L.length<=sizeLine/\∃J:List Value,Vals L J/\IsTup h a J.toArray
 |.dK K=>K.length<=sizeLine/\(a==sysModules)=false/\∃Y,KV K Y/\h.DictOf (aD P w) a Y
 |.ins C M N=>H M=some (.own a)/\N.length<=1000/\M≠a/\h.get? a=some (PySem.W.instObj C M)/\
   ∃O,h.Ns1 M O/\(∀f,RelO (N.lookup f) (O f))/\PySem.Within O (N.map (·.1))
 |.own _=>∃o,h.get? a=some o
 |.frz o u=>h.get? a=some o/\ObjOk H h a u
 |.tbl Z=>h.get? a=some {cls:=.none,data:=.fields Z}
 |.ext R=>R h/\(∃o,h.get? a=some o)/\∀U V:Heap,R U->(∀o,U.get? a=some o->V.get? a=some o)->R V
def HOk(H:Hp)(h:Heap):Prop:=∀a o,H a=some o->ObjOk P w H h a o
end
section
variable {P:Program}{w:World}{H H':Hp}{h h':Heap}{a:Addr}{o:HO}
theorem ObjOk.lt(x:ObjOk P w H h a o):a<h.objs.size:=by
 cases o with
 |lst K=>obtain⟨_,_,_,_,e⟩:=x;erw[hs0 e]
 |tup K=>obtain⟨_,_,_,p⟩:=x;erw[p.lt]
 |dK J=>obtain⟨_,_,_,_,o,_,_,e,_⟩:=x;erw[hs0 e]
 |ins C L M=>obtain⟨_,_,_,e,_⟩:=x;erw[hs0 e]
 |own y=>obtain⟨_,e⟩:=x;erw[hs0 e]
 |frz N u=>obtain⟨e,_⟩:=x;erw[hs0 e]
 |tbl O=>exact hs0 (x:h.get? a=some _)
 |ext R=>obtain⟨_,⟨_,e⟩,_⟩:=x;erw[hs0 e]
def ObjOk.stay(x:ObjOk P w H h a o)(k:∀b u,(b=a\/H b=some (.own a))->h.get? b=some u->h'.get? b=some u)
  (R:∀b,H b=some (.own a)->H' b=some (.own a)) (B:∀b xs,H b=some (.tup xs)->H' b=some (.tup xs)):ObjOk P w H' h' a o:=by
 induction o with
 |lst xs=>obtain⟨z,J,n,r,e⟩:=x;exact(z,J,n,r,k _ _ (.inl rfl) e)
 |tup xs=>obtain⟨z,J,r,K,e,c⟩:=x;exact(z,J,r,K,k _ _ (.inl rfl) e,c)
 |dK U=>obtain⟨z,y,T,r,K,M,L,e,c⟩:=x;exact(z,y,T,r,K,M,L,k _ _ (.inl rfl) e,c)
 |ins C F D=>
  obtain⟨d,z,W,e,V,⟨Y,M,L,O,c⟩,r⟩:=x;exact(R _ d,z,W,k _ _ (.inl rfl) e,V,(Y,M,L,k _ _ (.inr d) O,c),r)
 |own y=>obtain⟨K,e⟩:=x;exact(K,k _ _ (.inl rfl) e)
 |frz K u ih=>obtain⟨e,q⟩:=x;exact(k _ _ (.inl rfl) e,ih q)
 |tbl Z=>
  have e:=x;show h'.get? a=some {cls:=.none,data:=.fields Z};erw[k a _ (.inl rfl) e]
 |ext Q=>obtain⟨p,⟨o,e⟩,N⟩:=x;exact(N _ _ p λo q=>k _ _ (.inl rfl) q,(o,k _ _ (.inl rfl) e),N)
theorem HOk.lt(x:HOk P w H h)(e:H a=some o):a<h.objs.size:=(x a o e).lt
def HOk.fresh(x:HOk P w H h)(e:h.objs.size<=a):H a=none:=by
 cases q:H a with
 |none=>rfl
 |some u=>exact absurd (nl0 (x.lt q) e) (li0 _)
def HOk.kept(x:HOk P w H h)(k:∀b u,h.get? b=some u->h'.get? b=some u):HOk P w H h':=λa o e=>
 (x a o e).stay (λb u c q=>k b u q) (λc q=>q) λc c q=>q
def HOk.laid(x:HOk P w H h)(k:∀b u,h.get? b=some u->h'.get? b=some u)(L:h.objs.size<=a)(new:ObjOk P w (upd H a o) h' a o):HOk P w (upd H a o) h':=λb u e=>by
 have K:=x.fresh L
 by_cases J:b=a
 .subst J;rw[aa]at e;simp_all
 .rw[ab J]at e
  exact (x b u e).stay (λc v d q=>k c v q) (λc q=>by rwa [ab (ag q K)]) λc M q=>by rwa [ab (ag q K)]
end
def Rd(H:Hp)(a:Addr)(u:HO):Prop:=H a=some u\/∃o,H a=some (.frz o u)
def Rd.ok{P:Program}{w:World}{H:Hp}{h:Heap}{a:Addr}{u}(r:Rd H a u)(x:HOk P w H h):ObjOk P w H h a u:=by
 rcases r with r|⟨o,r⟩
 .erw[x a u r]
 .obtain⟨_,q⟩:=x a _ r
  erw[q]
noncomputable def Mut:Option HO->Prop
 |some (.lst _)=>True
 |some (.dK _)=>True
 |some (.ins _ _ _)=>True
 |some (.ext _)=>True
 |_=>False
section
variable {P:Program}{w:World}{H:Hp}{h h':Heap}{x e:Addr}{o':HO}
def HOk.write(ok:HOk P w H h)(mu:Mut (H x))(U:e=x\/H e=some (.own x))(k:∀b u,b≠e->h.get? b=some u->h'.get? b=some u)(O:∃u,h'.get? e=some u)
  (new:ObjOk P w (upd H x o') h' x o'):HOk P w (upd H x o') h':=λb u q=>by
 have K:∀c y,H c=some (.own y)->c≠x:=λc y r z=>by subst z;rw[r]at mu;erw[mu]
 have L:∀c M,H c=some (.tup M)->c≠x:=λc M r z=>by subst z;rw[r]at mu;erw[mu]
 by_cases N:b=x
 .subst N;rw[aa]at q;cases q;erw[new]
 .rw[ab N]at q
  by_cases J:b=e
  .have R:H b=some (.own x):=by
    rcases U with z|z
    .erw[absurd (J.trans z) N]
    .rw[J];erw[z]
   rw[q]at R;cases R;obtain⟨v,V⟩:=O;exact(v,by rw[J];erw[V])
  .refine (ok b u q).stay (λc v W r=>k c v ?_ r) (λc r=>by rw[ab (K c b r)];erw[r]) λc M r=>by rw[ab (L c M r)];erw[r]
   grind
end
structure Un(fs ex:A4)(H H':Hp)(h h':Heap):Prop where
 keep:∀b o,h.get? b=some o->H b=none->b∉fs->b∉ex->h'.get? b=some o
 slot:∀b o,h.get? b=some o->H b=none->b∈fs->b∉ex->∃sl,h'.get? b=some {o with slots:=sl}
 free:∀b o,h.get? b=some o->H b=none->b∉ex->H' b=none
 there:∀b o,h.get? b=some o->b∉ex->∃o',h'.get? b=some o'
 tups:∀b xs,H b=some (.tup xs)->H' b=some (.tup xs)
 frzs:∀b o u,H b=some (.frz o u)->H' b=some (.frz o u)
 tbls:∀b ps,H b=some (.tbl ps)->∃more,H' b=some (.tbl (ps++more))
section
variable {fs fs' ex ex':A4}{H H1 H2:Hp}{h h1 h2 h':Heap}{a x e:Addr}{o:HO}
def Un.any(u:Un fs ex H H1 h h1){b:Addr}{ob}(q:h.get? b=some ob)(n:H b=none)(K:b∉ex):∃sl,h1.get? b=some {ob with slots:=sl}:=by
 by_cases J:b∈fs
 .erw[u.slot b ob q n J K]
 .exact(_,u.keep b ob q n J K)
def Un.kept(k:∀b u,h.get? b=some u->h'.get? b=some u):Un fs ex H H h h':=
 (λb J q a a a=>k b J q,λb J q a a a=>(_,k b J q),λa a a n a=>n,λb J q a=>(J,k b J q),λa a q=>q,λa a a q=>q,λa K q=>(#[],by simp_all))
def Un.refl:Un fs ex H H h h:=Un.kept λa a q=>q
def Un.laid(k:∀b u,h.get? b=some u->h'.get? b=some u)(K:h.objs.size<=a)(J:H a=none):Un fs ex H (upd H a o) h h' where
 keep:=λb u q c c c=>k b u q
 slot:=λb u q c c c=>(_,k b u q)
 free:=λb u q n c=>by rwa [ab (nn0 (nl0 (hs0 q) K))]
 there:=λb u q c=>(u,k b u q)
 tups:=λb L q=>by rwa [ab (ag q J)]
 frzs:=λb u L q=>by rwa [ab (ag q J)]
 tbls:=λb M q=>(#[],by rw[ab (ag q J),q];simp)
def Un.write(mu:Mut (H x))(R:e=x\/H e=some (.own x))(k:∀b u,b≠e->h.get? b=some u->h'.get? b=some u)(M:∃u,h'.get? e=some u):Un fs ex H (upd H x o) h h':=by
 have N:∀b,H b=none->b≠x:=λb n z=>by subst z;rw[n]at mu;erw[mu]
 have L:∀b,H b=none->b≠e:=λb n z=>by
  simp_all
 have K:∀b u,H b=some u->¬ Mut (some u)->b≠x:=λb u q U z=>by simp_all
 refine(λb u q n a a=>k b u (L b n) q,λb u q n a a=>(u.slots,k b u (L b n) q),λb u q n a=>by rw[ab (N b n)];erw[n],λb u q a=>?_,
  λb O q=>by rw[ab (K b _ q λz=>z)];erw[q],λb u O q=>by rw[ab (K b _ q λz=>z)];erw[q],λb V q=>(#[],by rw[ab (K b _ q λz=>z),q];simp))
 by_cases J:b=e
 .simp_all
 .exact(u,k b u J q)
end
noncomputable def trk(h:Heap)(H:Hp):List Addr:=(List.range h.objs.size).filter λa=>(H a).isSome
def mZ(h:Heap)(H:Hp):Heap:=PySem.W.hideAll h (trk h H)
def BC{h:Heap}{H:Hp}{b:Addr}{o:Obj}(e:(mZ h H).get? b=some o):h.get? b=some o/\H b=none:=by
 have J:=PySem.W.of_hideAll _ e;refine(J,?_);cases q:H b with
 |none=>rfl
 |some x=>
  have K:b∈trk h H:=List.mem_filter.mpr (List.mem_range.mpr (hs0 J),by simp[q]);have z:(mZ h H).get? b=none:=PySem.W.hideAll_none _ K
  simp_all
noncomputable def BD(g h:Heap)(L:Addr):List (Addr×Obj):=(List.range h.objs.size).filterMap λa=>if a=L\/(g.get? a).isSome=true then none else (h.get? a).map λo=>(a,o)
def rest(g h:Heap)(L d:Addr):List (Addr×Obj):=(BD g h L).filter λp=>decide (p.1≠d)
structure Mod(K:fg0)(mg:A6)(base:Heap):Prop where
 kin:K.In base
 glob:base.Ns mainGlobals mg
 blt:∃mb,base.Ns builtinsNs mb/\∀x:Str,x≠"__name__"->mb x=bootBuiltins x
 nolimit:base.NoLimit
structure Cx where
 prog:Program
 w:World
 K:fg0
 mg:Str->Option Value
 base:Heap
 A:Around
 N:List Str
 s₀:Shared
 H₀:Hp
 env:Env
 outer:List Env
 stack:List Env
 ex:List Addr
 fn:Str->Bool
 calm:Bool
 pn:List (Addr×Obj)
 xe:Value->Shared->Prop
noncomputable def frs(l:List Env):List Addr:=l.filterMap (·.frame)
abbrev Cx.fs(X:Cx):List Addr:=frs X.outer
def Vis(sc:Scope)(x:Str):Prop:=sc.names.lookup x=some .local\/sc.names.lookup x=some .cell\/sc.names.lookup x=some .free
def Loc(sc:Scope)(x:Str):Prop:=sc.names.lookup x=some .local\/sc.names.lookup x=some .cell
def Look(env:Env)(h:Heap)(m:A6)(x:Str)(u:Value):Prop:=
 (env.kindOf x=some .local/\m x=some u)\/((env.kindOf x=some .cell\/env.kindOf x=some .free)/\∃c,env.cells.lookup x=some c/\h.IsCell c (some u))
structure Cx.Ok(X:Cx):Prop where
 mod:Mod X.K X.mg X.base
 kind:X.env.scope.kind=.function
 glob:X.env.globals=mainGlobals
 blt:X.env.builtins=builtinsNs
 above:X.s₀.heap.objs.size<=X.env.locals
 inj:∀x y c,X.env.cells.lookup x=some c->X.env.cells.lookup y=some c->x=y
 has:∀x,(X.env.kindOf x=some .cell\/X.env.kindOf x=some .free)->∃c,X.env.cells.lookup x=some c
 cab:∀x c,X.fn x=true->X.env.cells.lookup x=some c->X.s₀.heap.objs.size<=c
 hd:X.calm=true->X.A.handled=none
 frames:X.A.frames=some X.stack
 stk:X.stack=X.outer\/(X.stack=X.env::X.outer/\X.env.frame=some X.env.locals)
 exf:∀b∈X.ex,b≠X.env.locals/\∀x c,X.env.cells.lookup x=some c->c≠b
 bs:∀b o,X.base.get? b=some o->X.s₀.heap.get? b=some o/\X.H₀ b=none
 bsz:X.base.objs.size<=X.s₀.heap.objs.size
 noex:∀b o,X.base.get? b=some o->b∉X.ex
 exfs:∀b∈X.ex,b∉X.fs
 funs:X.s₀.heap.FunFrames X.base X.outer
 frf:∀b∈X.fs,X.H₀ b=none
structure Inv(X:Cx)(zp:A5)(σ:List (Option V))(H:Hp)(s:Shared):Prop where
 ok:X.Ok
 os:s.os=X.s₀.os
 bare:AllBare s.gens
 base:Un X.fs X.ex X.H₀ H X.s₀.heap s.heap
 loc:∃m,s.heap.Ns X.env.locals m/\∀(i:Nat)(x:Str)(v:V),X.N[i]?=some x->σ[i]?=some (some v)->Vis X.env.scope x->∃u,RelV v u/\Look X.env s.heap m x u
 cell:∀x c,X.env.cells.lookup x=some c->∃v,s.heap.IsCell c v
 free:H X.env.locals=none
 freeC:∀x c,X.env.cells.lookup x=some c->H c=none
 pin:∀p∈X.pn++zp,s.heap.get? p.1=some p.2/\H p.1=none/\p.1≠X.env.locals/\p.1∉X.fs/\∀v,p.2.data≠.cell v
 hok:HOk X.prog X.w H s.heap
 len:σ.length=X.N.length
section
variable {X:Cx}{zp:A5}{σ:List (Option V)}{H H':Hp}{s:Shared}{h':Heap}
theorem Inv.bs(I:Inv X zp σ H s):∀b o,X.base.get? b=some o->s.heap.get? b=some o/\H b=none:=λb o e=>
 (I.base.keep b o (I.ok.bs b o e).1 (I.ok.bs b o e).2 ((λJ=>by
   have:=(I.ok.funs.mem J).1
   grind)) (I.ok.noex b o e),I.base.free b o (I.ok.bs b o e).1 (I.ok.bs b o e).2 (I.ok.noex b o e))
def Inv.bk(I:Inv X zp σ H s):∀b o,X.base.get? b=some o->s.heap.get? b=some o:=λb o e=>(I.bs b o e).1
theorem Inv.mod(I:Inv X zp σ H s):Mod X.K X.mg X.base:=I.ok.mod
def Inv.kIn(I:Inv X zp σ H s):X.K.In s.heap:=I.ok.mod.kin.keeps I.bk
theorem Inv.lt(I:Inv X zp σ H s):X.env.locals<s.heap.objs.size:=let ⟨_,J,_⟩:=I.loc;J.lt
def Inv.sz(I:Inv X zp σ H s):X.s₀.heap.objs.size<=s.heap.objs.size:=nt0 I.ok.above (Nat.le_of_lt I.lt)
def Inv.cne(I:Inv X zp σ H s):∀x c,X.env.cells.lookup x=some c->c≠X.env.locals:=λx c e z=>by
 obtain⟨v,o,O,N⟩:=I.cell x c e;obtain⟨m,⟨R,M,L,K,J,_⟩,_⟩:=I.loc<;>grind
theorem Inv.funs(I:Inv X zp σ H s):s.heap.FunFrames X.base X.outer:=by
 have J:∀(l:List _),(∀b∈frs l,b∈X.fs)->X.s₀.heap.FunFrames X.base l->s.heap.FunFrames X.base l:=by
  intro l
  induction l with
  |nil=>intro _ _;trivial
  |cons R r ih=>
   intro O W;obtain⟨V,⟨L,o,N,Y,Z,U⟩,T⟩:=W;have K:=O L (by unfold frs;rw[List.filterMap_cons,N];erw[ms0]);obtain⟨sl,e⟩:=I.base.slot L o Z (I.ok.frf L K) K λz=>I.ok.exfs L z K
   exact(V,(L,_,N,Y,e,U),ih (λb M=>O b (by unfold frs;rw[List.filterMap_cons,N];erw[mc0 _ M])) T)
 erw[J _ (λa M=>M) I.ok.funs]
theorem Inv.stack(I:Inv X zp σ H s):s.heap.FunFrames X.base X.stack:=by
 rcases I.ok.stk with e|⟨e,J⟩
 .rw[e];erw[I.funs]
 .rw[e]
  obtain⟨m,K,_⟩:=I.loc;exact .cons (by rw[I.ok.kind];decide) J K (Heap.get?_none_of_le (nt0 I.ok.bsz I.ok.above)) I.funs
def Inv.stkSub(I:Inv X zp σ H s):∀b∈frs X.stack,b∈X.env.locals::X.fs:=λb J=>by
 rcases I.ok.stk with e|⟨e,K⟩
 .rw[e]at J;erw[mc0 _ J]
 .rw[e]at J
  unfold frs at J
  rwa [List.filterMap_cons,K]at J
def Inv.stkFree(I:Inv X zp σ H s):∀b∈frs X.stack,H b=none:=λb hb=>by
 rcases mq0 (I.stkSub b hb)with e|hb
 .rw[e];erw[I.free]
 .obtain⟨_,o,J,_⟩:=I.ok.funs.mem hb
  erw[I.base.free b o J (I.ok.frf b hb) λz=>I.ok.exfs b z hb]
def Inv.step{g'}{t':Nat}{d'}{ch:A4}(I:Inv X zp σ H s)
  (K:∀b∈ch,(b∈X.ex\/X.s₀.heap.objs.size<=b)/\b≠X.env.locals/\(∀x c,X.env.cells.lookup x=some c->c≠b)/\∀p∈X.pn++zp,p.1≠b)
  (keep:∀b o,b≠X.env.locals->b∉X.fs->b∉ch->s.heap.get? b=some o->H b=none->h'.get? b=some o)
  (slot:∀b o,b≠X.env.locals->b∈X.fs->b∉ch->s.heap.get? b=some o->H b=none->∃sl,h'.get? b=some {o with slots:=sl}) (free:∀b o,b∉ch->s.heap.get? b=some o->H b=none->H' b=none)
  (there:∀b o,b∉ch->s.heap.get? b=some o->∃Y,h'.get? b=some Y)
  (T:∀b xs,H b=some (.tup xs)->H' b=some (.tup xs)) (V:∀b o u,H b=some (.frz o u)->H' b=some (.frz o u)) (Z:∀b ps,H b=some (.tbl ps)->∃more,H' b=some (.tbl (ps++more)))
  (ns:∀m,s.heap.Ns X.env.locals m->h'.Ns X.env.locals m) (D:HOk X.prog X.w H' h') (E:AllBare g'):
  Inv X zp σ H' {s with heap:=h',gens:=g',drawn:=d',toks:=t'}:=by
 have W:∀b o,X.s₀.heap.get? b=some o->b≠X.env.locals:=λb o e=>nn0 (nl0 (hs0 e) I.ok.above)
 have N:∀b o,X.s₀.heap.get? b=some o->b∉X.ex->b∉ch:=λb o e J O=>by
  rcases (K b O).1 with z|z
  .erw[J z]
  .erw[absurd (nl0 (hs0 e) z) (li0 _)]
 have cellK:∀x c,X.env.cells.lookup x=some c->∀v,s.heap.IsCell c v->h'.IsCell c v:=λx c e v ⟨o,R,F⟩=>by
  have L:c∉ch:=λz=>(K c z).2.2.1 x c e rfl
  by_cases C:c∈X.fs
  .obtain⟨sl,q⟩:=slot c o (I.cne x c e) C L R (I.freeC x c e)
   exact(_,q,F)
  .exact(o,keep c o (I.cne x c e) C L R (I.freeC x c e),F)
 refine(I.ok,I.os,E,(λb o e n O J=>?_,λb o e n O J=>?_,λb o e n J=>?_,λb o e J=>?_,λb xs e=>T b xs (I.base.tups b xs e),λb o xs e=>V b o xs (I.base.frzs b o xs e),λb ps e=>?_),?_,λx c e=>?_,?_,λx c e=>?_,λp Q=>?_,D,I.len)
 .erw[keep b o (W b o e) O (N b o e J) (I.base.keep b o e n O J) (I.base.free b o e n J)]
 .obtain⟨sl,M⟩:=I.base.slot b o e n O J
  obtain⟨B,U⟩:=slot b _ (W b o e) O (N b o e J) M (I.base.free b o e n J);exact(B,U)
 .obtain⟨Y,M⟩:=I.base.there b o e J
  erw[free b Y (N b o e J) M (I.base.free b o e n J)]
 .obtain⟨Y,M⟩:=I.base.there b o e J
  erw[there b Y (N b o e J) M]
 .obtain⟨m1,M⟩:=I.base.tbls b ps e
  obtain⟨m2,U⟩:=Z b _ M;exact(m1++m2,by rw[U,Array.append_assoc])
 .obtain⟨m,j,A⟩:=I.loc
  refine(m,ns m j,λi x v M U G=>?_);obtain⟨u,r,l⟩:=A i x v M U G;refine(u,r,?_);rcases l with l|⟨k,c,e,z⟩
  .exact .inl l
  .exact .inr (k,c,e,cellK x c e _ z)
 .obtain⟨v,z⟩:=I.cell x c e
  exact(v,cellK x c e v z)
 .obtain⟨m,⟨o,_,_,R,_⟩,_⟩:=I.loc
  erw[free _ o (λz=>(K _ z).2.1 rfl) R I.free]
 .obtain⟨v,o,R,F⟩:=I.cell x c e
  erw[free c o (λz=>(K c z).2.2.1 x c e rfl) R (I.freeC x c e)]
 .obtain⟨e,n,S,P,d⟩:=I.pin p Q
  have L:p.1∉ch:=λz=>(K p.1 z).2.2.2 p Q rfl
  exact(keep p.1 p.2 S P L e n,free p.1 p.2 L e n,S,P,d)
def Inv.un{t':Nat}(I:Inv X zp σ H s)(u:Un X.fs [] H H' s.heap h')(L:HOk X.prog X.w H' h'):Inv X zp σ H' {s with heap:=h',toks:=t'}:=by
 obtain⟨m,⟨o,Y,W,M,r⟩,_⟩:=id I.loc;obtain⟨sl,R⟩:=u.any M I.free @0;exact I.step (ch:=[]) (λa z=>nomatch z) (λb o a K a e n=>u.keep b o e n K @0) (λb o a K a e n=>u.slot b o e n K @0) (λb o a e n=>u.free b o e n @0) (λb o a e=>u.there b o e @0) u.tups u.frzs u.tbls (λZ U=>by
  obtain⟨T,O,N,J,V⟩:=U;rw[M]at J;cases J;exact(_,_,_,R,V)) L I.bare
def Inv.call{g'}{t':Nat}{d'}{ch}(I:Inv X zp σ H s)(u:Un (frs X.stack) ch H H' s.heap h')(O:HOk X.prog X.w H' h')(W:AllBare g')
  (K:∀b∈ch,(b∈X.ex\/X.s₀.heap.objs.size<=b)/\b≠X.env.locals/\(∀x c,X.env.cells.lookup x=some c->c≠b)/\∀p∈X.pn++zp,p.1≠b):
  Inv X zp σ H' {s with heap:=h',gens:=g',drawn:=d',toks:=t'}:=by
 obtain⟨m,⟨o,F,T,R,r⟩,_⟩:=id I.loc;obtain⟨sl,N⟩:=u.any R I.free λz=>(K _ z).2.1 rfl
 exact I.step K (λb o N V J e n=>u.keep b o e n (λz=>(mq0 (I.stkSub b z)).elim N V) J) (λb o a a J e n=>u.any e n J) (λb o J e n=>u.free b o e n J) (λb o J e=>u.there b o e J) u.tups u.frzs u.tbls (λD Y=>by
  obtain⟨B,M,U,L,Z⟩:=Y;rw[R]at L;cases L;exact(_,M,_,N,Z)) O W
def Inv.turned{t':Nat}{it}(I:Inv X zp σ H s)(k:∀b o,b≠it->s.heap.get? b=some o->h'.get? b=some o)(Z:H it=none)(L:it≠X.env.locals)
  (O:it∈X.ex\/X.s₀.heap.objs.size<=it) (R:∀x c,X.env.cells.lookup x=some c->c≠it) (U:∀p∈X.pn++zp,p.1≠it):Inv X zp σ H {s with heap:=h',toks:=t'}:=by
 have K:∀b u,H b=some u->b≠it:=λb u e z=>by simp_all
 refine I.step (g':=s.gens) (ch:=[it]) (λb V=>?_) (λb o a a J e a=>k b o (λz=>J (by simp[z])) e) (λb o a a J e a=>(o.slots,k b o (λz=>J (by simp[z])) e)) (λa a a a n=>n)
  (λb o J e=>(o,k b o (λz=>J (by simp[z])) e)) (λa a e=>e) (λa a a e=>e) (λb T e=>(#[],by rw[e];simp)) (λm W=>?_) (λb u e=>?_) I.bare
 .have e:b=it:=by simpa using V
  subst e;exact(O,L,R,U)
 .obtain⟨o,N,M,Y,r⟩:=W
  exact(o,N,M,k _ o (Ne.symm L) Y,r)
 .refine (I.hok b u e).stay (λc v J q=>k c v ?_ q) (λa q=>q) λa a q=>q
  rcases J with z|z
  .rw[z];erw[K b u e]
  .erw[K c _ z]
def Inv.tok(I:Inv X zp σ H s)(t:Nat):Inv X zp σ H {s with toks:=t}:=I.un Un.refl I.hok
theorem Inv.kept{t':Nat}(I:Inv X zp σ H s)(k:∀b u,s.heap.get? b=some u->h'.get? b=some u):Inv X zp σ H {s with heap:=h',toks:=t'}:=I.un (Un.kept k) (I.hok.kept k)
theorem Inv.laid{a:Addr}{o:HO}{t':Nat}(I:Inv X zp σ H s)(k:∀b u,s.heap.get? b=some u->h'.get? b=some u)(J:s.heap.objs.size<=a)(new:ObjOk X.prog X.w (upd H a o) h' a o):
  Inv X zp σ (upd H a o) {s with heap:=h',toks:=t'}:=I.un (Un.laid k J (I.hok.fresh J)) (I.hok.laid k J new)
theorem Inv.write{x e}{o:HO}{t':Nat}(I:Inv X zp σ H s)(mu:Mut (H x))(K:e=x\/H e=some (.own x))(k:∀b u,b≠e->s.heap.get? b=some u->h'.get? b=some u)(J:∃u,h'.get? e=some u)
  (new:ObjOk X.prog X.w (upd H x o) h' x o):Inv X zp σ (upd H x o) {s with heap:=h',toks:=t'}:=I.un (Un.write mu K k J) (I.hok.write mu K k J new)
def Inv.pins_of{pins'}(I:Inv X zp σ H s)(h:∀p∈pins',s.heap.get? p.1=some p.2/\H p.1=none/\p.1≠X.env.locals/\p.1∉X.fs/\∀v,p.2.data≠.cell v):Inv X pins' σ H s:=
 (I.ok,I.os,I.bare,I.base,I.loc,I.cell,I.free,I.freeC,λp J=>(ma0 J).elim (λz=>I.pin p (List.mem_append_left _ z)) (h p),I.hok,I.len)
def pf{N:A1}(L:N.Nodup){i j:Nat}{x:Str}(a:N[i]?=some x)(b:N[j]?=some x):i=j:=by
 obtain⟨M,J⟩:=gi0 a;obtain⟨O,K⟩:=gi0 b;exact (List.getElem_inj L).mp (J.trans K.symm)
def store_ok2{M:Model}{A:Around}{E:A0}{i:Nat}{x:Str}{v:V}{u:Value}{Q:A7}(I:Inv X zp σ H s)(hN:X.N.Nodup)(C:X.N[i]?=some x)(L:Loc X.env.scope x)(r:RelV v u)
  (h:∀s',Inv X zp (σ.set i (some v)) H s'->(∃a,Heap.SameBut a s.heap s'.heap/\(a=X.env.locals\/X.env.cells.lookup x=some a))->Q () s') (hf:X.fn x=true\/X.env.scope.names.lookup x=some .local):wpAny M A (storeName X.env x u) Q E s:=by
 obtain⟨m,hn,hl⟩:=id I.loc;have B:(X.env.scope.kind==.class||(X.env.scope.kind==.module&&X.env.locals != X.env.globals))=false:=by rw[I.ok.kind];rfl
 have U:i<σ.length:=by rw[I.len];exact (gi0 C).1
 have W:=I.cne;have tracked:∀{a:Addr}{h':Heap},(∃o,s.heap.get? a=some o/\H a=none)->Heap.SameBut a s.heap h'->HOk X.prog X.w H h':=λ{a h'} ha J b ob e=>by
  obtain⟨_,_,O⟩:=ha;refine (I.hok b ob e).stay (λc l hc q=>(J.2 c ?_).trans q) (λf q=>q) λf f q=>q
  rintro rfl
  rcases hc with rfl|hc
  .rw[O]at e;cases e
  .rw[O]at hc;cases hc
 rcases L with hk|hk
 .refine wpAny_storeName_local hk hn (λh' j0 J=>?_) B
  obtain⟨oL,_,_,j1,_⟩:=id hn;refine h _ (I.ok,I.os,I.bare,(λb o e n Y L=>?_,λb o e n Y L=>?_,I.base.free,λb o e L=>?_,I.base.tups,I.base.frzs,I.base.tbls),(_,j0,λj y v' K R t=>?_),λy c e=>?_,I.free,I.freeC,λp hp=>?_,tracked (oL,j1,I.free) J,by simpa using I.len) (_,J,.inl rfl)
  .exact (J.2 b (nn0 (nl0 (hs0 e) I.ok.above))).trans (I.base.keep b o e n Y L)
  .obtain⟨sl,K⟩:=I.base.slot b o e n Y L
   exact(sl,(J.2 b (nn0 (nl0 (hs0 e) I.ok.above))).trans K)
  .obtain⟨o',K⟩:=I.base.there b o e L
   exact(o',(J.2 b (nn0 (nl0 (hs0 e) I.ok.above))).trans K)
  .by_cases T:j=i
   .subst T
    rw[C]at K;cases K;rw[gs0 U]at R;cases R;exact(u,r,.inl (hk,by simp))
   .rw[gn0 (Ne.symm T)]at R
    obtain⟨u',r',q⟩:=hl j y v' K R t;refine(u',r',?_);rcases q with⟨k,e⟩|⟨k,c,e,z⟩
    .refine .inl (k,?_)
     have:y≠x:=λe=>T (pf hN K (e▸C))
     simp[this,e]
    .exact .inr (k,c,e,z.sameBut J (W y c e))
  .obtain⟨l,z⟩:=I.cell y c e
   exact(l,z.sameBut J (W y c e))
  .obtain⟨e,n,g,nf,d⟩:=I.pin p hp
   exact((J.2 p.1 g).trans e,n,g,nf,d)
 .have Z:X.fn x=true:=by
   rcases hf with z|z
   .erw[z]
   .rw[z]at hk;cases hk
  obtain⟨c,hc⟩:=I.ok.has x (.inl hk);obtain⟨l,z⟩:=I.cell x c hc;refine wpAny_storeName_cell I.ok.kind hk hc z (λh' F J=>?_);obtain⟨oc,S,P⟩:=id z;refine h {s with heap:=h'} (I.ok,I.os,I.bare,(λb o e n Y L=>?_,λb o e n Y L=>?_,I.base.free,λb o e L=>?_,I.base.tups,I.base.frzs,I.base.tbls),(m,hn.sameBut J (Ne.symm (W x c hc)),λj y v' K R t=>?_),λy G e=>?_,I.free,I.freeC,λp hp=>?_,tracked (oc,S,I.freeC x c hc) J,by simpa using I.len) (c,J,.inr hc)
  .exact (J.2 b (nn0 (nl0 (hs0 e) (I.ok.cab x c Z hc)))).trans (I.base.keep b o e n Y L)
  .obtain⟨sl,K⟩:=I.base.slot b o e n Y L
   exact(sl,(J.2 b (nn0 (nl0 (hs0 e) (I.ok.cab x c Z hc)))).trans K)
  .obtain⟨o',K⟩:=I.base.there b o e L
   exact(o',(J.2 b (nn0 (nl0 (hs0 e) (I.ok.cab x c Z hc)))).trans K)
  .by_cases T:j=i
   .subst T
    rw[C]at K;cases K;rw[gs0 U]at R;cases R;exact(u,r,.inr (.inl hk,c,hc,F))
   .rw[gn0 (Ne.symm T)]at R
    obtain⟨u',r',q⟩:=hl j y v' K R t;refine(u',r',?_);rcases q with q|⟨k,G,e,z'⟩
    .exact .inl q
    .refine .inr (k,G,e,z'.sameBut J ?_)
     rintro rfl
     erw[T (pf hN K (I.ok.inj _ _ _ e hc▸C))]
  .by_cases D:G=c
   .subst D;exact(_,F)
   .obtain⟨w2,z2⟩:=I.cell y G e
    exact(w2,z2.sameBut J D)
  .obtain⟨e,n,g,nf,d⟩:=I.pin p hp
   refine((J.2 p.1 ?_).trans e,n,g,nf,d);intro q;rw[q,S]at e;have q':=Option.some.inj e;erw[d l (by rw[<-q'];exact P)]
def jx{M:Model}{A:Around}{E:A0}{i:Nat}{x:Str}{v:V}{u:Value}{Q:A7}(I:Inv X zp σ H s)(L:X.N.Nodup)(R:X.N[i]?=some x)(U:Loc X.env.scope x)(r:RelV v u)
  (h:∀J,Inv X zp (σ.set i (some v)) H J->Q () J) (O:X.fn x=true\/X.env.scope.names.lookup x=some .local):wpAny M A (storeName X.env x u) Q E s:=
 store_ok2 I L R U r (λJ K a=>h J K) O
def Inv.call'{s'}{ch}(I:Inv X zp σ H s)(M:s'.os=s.os)(u:Un (frs X.stack) ch H H' s.heap s'.heap)(K:HOk X.prog X.w H' s'.heap)(L:AllBare s'.gens)
  (J:∀b∈ch,(b∈X.ex\/X.s₀.heap.objs.size<=b)/\b≠X.env.locals/\(∀x c,X.env.cells.lookup x=some c->c≠b)/\∀p∈X.pn++zp,p.1≠b):Inv X zp σ H' s':=by
 obtain⟨h',O,N,U,R⟩:=s';subst M;erw[I.call u K L J]
end
abbrev XK:=Value->Option Addr->Hp->Prop
abbrev St:=List (Option V)
abbrev VK:=V->Hp->Prop
abbrev TE:=St->Hp->VK->Prop
abbrev TT:=St->Hp->(Bool->Hp->Prop)->Prop
abbrev TA:=St->Hp->(List V->Hp->Prop)->Prop
structure Ends where
 nx:St->Hp->Prop
 rt:VK
 bk:St->Hp->Prop:=λa a=>False
 ct:St->Hp->Prop:=λa a=>False
abbrev TS:=Ends->St->Hp->Prop
def EP(X:Cx)(J:A5)(M:St)(Q:VK)(u:Value)(L:Shared):Prop:=∃v K,Inv X J M K L/\RelV v u/\Q v K
def TP(X:Cx)(J:A5)(M:St)(Q:Bool->Hp->Prop)(b:Bool)(L:Shared):Prop:=∃K,Inv X J M K L/\Q b K
def AP(X:Cx)(J:A5)(N:St)(Q:List V->Hp->Prop)(us:A2)(M:Shared):Prop:=∃L K,Inv X J N K M/\Vals L us/\Q L K
def SP(X:Cx)(K:A5)(D:Ends)(f:Flow)(M:Shared):Prop:=
 match f with
 |.next=>∃J L,Inv X K J L M/\D.nx J L
 |.brk=>∃J L,Inv X K J L M/\D.bk J L
 |.cont=>∃J L,Inv X K J L M/\D.ct J L
 |.ret u=>∃v J L,Inv X K J L M/\RelV v u/\D.rt v L
def PE(X:Cx)(e:Expr)(t:TE):Prop:=
 ∀(J:A5)(s:Shared)(K:St)(H:Hp)(Q:VK),Inv X J K H s->t K H Q->wpAny @5 X.A (eval e X.env) (EP X J K Q) X.xe s
def PT(X:Cx)(e:Expr)(t:TT):Prop:=
 ∀(J:A5)(s:Shared)(K:St)(H:Hp)(Q:Bool->Hp->Prop),Inv X J K H s->t K H Q->wpAny @5 X.A (isTrue e X.env (eval e X.env)) (TP X J K Q) X.xe s
def PW(X:Cx)(e:Expr)(t:TT):Prop:=
 ∀(K:Sem Value)(J:A5)(s:Shared)(L:St)(H:Hp)(Q:Bool->Hp->Prop),Inv X J L H s->t L H Q->wpAny @5 X.A (isTrue e X.env K) (TP X J L Q) X.xe s
variable {α β:Type}{C a b dx f:Addr}{xs:List V}{us:A2}{x:Str}{u v:Value}{H H':Hp}{P prog:Program}{w:World}{base h h':Heap}{e o tg:Expr}{X:Cx}{zp:A5}{s:Shared}{i k t':Nat}{A:Around}{E Q:A0}{σ:St}{pos:Pos}{ta te:TE}{t:TA}{es:A3}{mg:A6}{fd:FuncData}{ps:A1}
def PW.pt{t}(h:PW X e t):PT X e t:=h _
def PA(X:Cx)(es:A3)(t:TA):Prop:=
 ∀(pos:Pos)(zp:A5)(s:Shared)(σ:St)(H:Hp)(Q:List V->Hp->Prop),Inv X zp σ H s->t σ H Q->wpAny @5 X.A (spliced (backTo pos (starEach es X.env))) (AP X zp σ Q) X.xe s
def PS(X:Cx)(J:Stmt)(t:TS):Prop:=
 ∀(zp:A5)(s:Shared)(σ:St)(H:Hp)(D:Ends),Inv X zp σ H s->t D σ H->wpAny @5 X.A (exec J X.env) (SP X zp D) X.xe s
def PSs(X:Cx)(J:List Stmt)(t:TS):Prop:=
 ∀(zp:A5)(s:Shared)(σ:St)(H:Hp)(D:Ends),Inv X zp σ H s->t D σ H->wpAny @5 X.A (execs J X.env) (SP X zp D) X.xe s
def thn{t}{Q J:α->Shared->Prop}{M:Model}(h:wpAny M A t Q E s)(K:∀a s,Q a s->J a s):wpAny M A t J E s:=wpAny_mono h K λb b x=>x
section
def bin{a b}{ta tb}(U:PE X a ta)(W:PE X b tb){R:V->V->Hp->Prop}(I:Inv X zp σ H s)(h:ta σ H λx M=>tb σ M λy J=>R x y J)
   {Q}{f:Value->Value->Sem α}
  (Y:∀v u s2 x y J,Inv X zp σ J s2->RelV x v->RelV y u->R x y J->wpAny @5 X.A (f v u) Q X.xe s2):
  wpAny @5 X.A (eval a X.env) (λv K=>wpAny @5 X.A (eval b X.env) (λu L=>wpAny @5 X.A (f v u) Q X.xe L) X.xe K) X.xe s:=by
 refine thn (U zp s σ H _ I h) ?_;rintro v B ⟨x,M,N,F,Z⟩;refine thn (W zp B σ M _ N Z) ?_;rintro u s2 ⟨y,J,O,D,T⟩;erw[Y v u s2 x y J O F D T]
def xC(i:Nat):TE:=λσ H Q=>∃v,σ[i]?=some (some v)/\Q v H
def tC(v:V):TE:=λa H Q=>Q v H
def fF(O:X.N[i]?=some x)(W:Vis X.env.scope x)(L:(x==("__debug__":Str))=false)(K:(x==("__classdict__":Str))=false):PE X (.Name x pos) (xC i):=by
 intro zp s σ H Q I h;obtain⟨v,e,h⟩:=h;obtain⟨m,V,R⟩:=I.loc;obtain⟨u,r,l⟩:=R i x v O e W;have fin:EP X _ σ Q u s:=(v,H,I,r,h);rcases l with⟨hk,U⟩|⟨hk,c,M,J⟩
 .erw[wpAny_Name (wpAny_loadName_local I.ok.kind hk V U fin) L]
 .rcases hk with hk|hk
  .erw[wpAny_Name (wpAny_loadName_cell I.ok.kind hk M J fin) L]
  .erw[wpAny_Name (wpAny_loadName_free I.ok.kind hk M J fin K) L]
def Fu{i j pos}:PE X (.Constant (.int i) j pos) (tC (.int i)):=λa a a H a I h=>wpAny_Constant_int (.int i,H,I.tok _,(_,rfl),h)
def Fw{x j pos}:PE X (.Constant (.str x) j pos) (tC (.str x)):=λa a a H a I h=>Calls.Constant_str (.str x,H,I.tok _,(_,rfl),h)
def Gl(X:Cx)(x:Str):Prop:=X.env.kindOf x=some .globalImplicit
def ld_glob(I:Inv X zp σ H s)(K:Gl X x)(L:X.mg x=some u)(h:Q u s)
  (J:(x==("__debug__":Str))=false):wpAny @5 X.A (eval (.Name x pos) X.env) Q E s:=
 Calls.Name_function_global I.ok.kind K (Calls.loadGlobal_global (by rw[I.ok.glob];erw[I.mod.glob.keeps I.bk]) L h) J
def ld_blt(I:Inv X zp σ H s)(M:Gl X x)(N:X.mg x=none)(R:bootBuiltins x=some u)(h:Q u s)
  (O:x≠"__name__") (L:(x==("__debug__":Str))=false):wpAny @5 X.A (eval (.Name x pos) X.env) Q E s:=by
 obtain⟨U,J,K⟩:=I.mod.blt;erw[Calls.Name_function_global I.ok.kind M (Calls.loadGlobal_builtin (by rw[I.ok.glob];exact I.mod.glob.keeps I.bk) N (by rw[I.ok.blt];exact J.keeps I.bk) ((K x O).trans R) h) L]
def BE{v:V}(K:Gl X x)(L:X.mg x=some u)(r:RelV v u)(J:(x==("__debug__":Str))=false):PE X (.Name x pos) (tC v):=
 λa a a H a I h=>ld_glob I K L (v,H,I,r,h) J
def BF{v:V}(K:Gl X x)(L:X.mg x=none)(N:bootBuiltins x=some u)(r:RelV v u)(M:x≠"__name__")(J:(x==("__debug__":Str))=false):PE X (.Name x pos) (tC v):=
 λa a a H a I h=>ld_blt I K L N (v,H,I,r,h) M J
variable {a b:Expr}{tb:TE}
variable {tA tB':TT}{rest:A3}
def LH(t u:TT):TT:=λσ H Q=>t σ H λc J=>if c=true then u σ J Q else Q false J
def tOr(t u:TT):TT:=λσ H Q=>t σ H λc J=>if c=true then Q true J else u σ J Q
def LI(t:TT):TT:=λσ H Q=>t σ H λc J=>Q (!c) J
def BG(J:PT X a tA):PW X (.BoolOp .And [a] pos) tA:=by
 intro L zp s σ H Q I h;refine isTrue_and (thn (J _ s σ H Q I h) λc K e=>?_);cases c with
 |true=>exact isTrue_and_nil e
 |false=>exact e
def Fx(J:PT X a tA):PW X (.BoolOp .Or [a] pos) tA:=by
 intro L zp s σ H Q I h;refine isTrue_or (thn (J _ s σ H Q I h) λc K e=>?_);cases c with
 |false=>exact isTrue_or_nil e
 |true=>exact e
def xD(M:PT X a tA)(N:PW X (.BoolOp .And (b::rest) pos) tB'):PW X (.BoolOp .And (a::b::rest) pos) (LH tA tB'):=by
 intro R zp s σ H Q I h;refine isTrue_and (thn (M zp s σ H _ I h) ?_);rintro c O ⟨J,K,L⟩;cases c with
 |true=>exact N R zp O σ J Q K L
 |false=>exact(J,K,L)
def Eh(M:PT X a tA)(N:PW X (.BoolOp .Or (b::rest) pos) tB'):PW X (.BoolOp .Or (a::b::rest) pos) (tOr tA tB'):=by
 intro R zp s σ H Q I h;refine isTrue_or (thn (M zp s σ H _ I h) ?_);rintro c O ⟨J,K,L⟩;cases c with
 |true=>exact(J,K,L)
 |false=>exact N R zp O σ J Q K L
def Fy(J:PT X a tA):PT X (.UnaryOp .Not a pos) (LI tA):=λpins s σ H Q I h=>isTrue_not (J _ s σ H _ I h)
def IT(ta tb:TE):TE:=λσ H Q=>ta σ H λx J=>∃c,x=.bl c/\if c=true then tb σ J Q else Q (.bl false) J
def LJ(ta tb:TE):TE:=λσ H Q=>ta σ H λx J=>∃c,x=.bl c/\if c=true then Q (.bl true) J else tb σ J Q
def IU(ta:TE):TE:=λσ H Q=>ta σ H λx J=>∃c,x=.bl c/\Q (.bl (!c)) J
def Fz{op}{t}(h:PE X a t):PE X (.BoolOp op [a] pos) t:=λpins s σ H Q I J=>BoolOp_one (h _ s σ H Q I J)
def xE(M:PE X a ta)(N:PE X (.BoolOp .And (b::rest) pos) tb):PE X (.BoolOp .And (a::b::rest) pos) (IT ta tb):=by
 intro zp s σ H Q I h;refine BoolOp_and (thn (M zp s σ H _ I h) ?_);rintro v R ⟨x,K,L,O,J⟩;obtain⟨c,rfl,J⟩:=J;cases O;refine wpAny_truthy_bool ?_;cases c with
 |true=>exact N zp R σ K Q L J
 |false=>exact(.bl false,K,L,rfl,J)
def Ei(M:PE X a ta)(N:PE X (.BoolOp .Or (b::rest) pos) tb):PE X (.BoolOp .Or (a::b::rest) pos) (LJ ta tb):=by
 intro zp s σ H Q I h;refine BoolOp_or (thn (M zp s σ H _ I h) ?_);rintro v R ⟨x,K,L,O,J⟩;obtain⟨c,rfl,J⟩:=J;cases O;refine wpAny_truthy_bool ?_;cases c with
 |false=>exact N zp R σ K Q L J
 |true=>exact(.bl true,K,L,rfl,J)
def FA(M:PE X a ta):PE X (.UnaryOp .Not a pos) (IU ta):=by
 intro zp s σ H Q I h;refine UnaryOp_ (thn (M zp s σ H _ I h) ?_);rintro v O ⟨x,K,L,N,J⟩;obtain⟨c,rfl,J⟩:=J;cases N;erw[not_of (wpAny_truthy_bool (.bl (!c),K,L,rfl,J))]
def tIf(t:TT)(ta tb:TE):TE:=λσ H Q=>t σ H λc J=>if c=true then ta σ J Q else tb σ J Q
def ph{c}(hc:PT X c tA)(N:PE X a ta)(O:PE X b tb):PE X (.IfExp c a b pos) (tIf tA ta tb):=by
 intro zp s σ H Q I h;refine wpAny_IfExp (thn (hc zp s σ H _ I h) ?_);rintro d M ⟨J,K,L⟩;cases d with
 |true=>exact N zp M σ J Q K L
 |false=>exact O zp M σ J Q K L
end
def SqL(K:fg0)(H:Hp)(a:Addr)(xs:List V):Prop:=
 Rd H a (.lst xs)\/
  ∃(o:Obj)(J:A9)(n:Nat),K.lookup a=some o/\o.cls=.type "list"/\o.dict=none/\o.data=.seq J n/\J.size<=sizeLine/\Vals xs J.toList
def SqT(K:fg0)(H:Hp)(a:Addr)(xs:List V):Prop:=
 Rd H a (.tup xs)\/
  ∃(o:Obj)(J:A9)(n:Nat),K.lookup a=some o/\o.cls=.type "tuple"/\o.data=.seq J n/\J.size<=sizeLine/\Vals xs J.toList
noncomputable def LK:Value->Option V
 |.none=>some .non
 |.bool b=>some (.bl b)
 |.int i _=>some (.int i)
 |.str x _=>some (.str x)
 |.ref a=>some (.ref a)
 |.type n=>some (.ty n)
 |_=>none
def RelV.abs{x:V}(r:RelV x u):LK u=some x:=by
 cases x with
 |non=>cases r;rfl
 |bl _=>cases r;rfl
 |int _=>obtain⟨t,rfl⟩:=r;rfl
 |str _=>obtain⟨t,rfl⟩:=r;rfl
 |ref _=>cases r;rfl
 |ty _=>cases r;rfl
theorem RelV.inj{x y}(r:RelV x u)(q:RelV y u):x=y:=Option.some.inj (r.abs.symm.trans q.abs)
theorem Vals.inj:∀{xs J:List V}{us:A2},Vals xs us->Vals J us->xs=J:=by
 intro xs J us h
 induction h generalizing J with
 |nil=>intro h;cases h;rfl
 |cons r t ih=>intro h;cases h with|cons K t'=>rw[r.inj K,ih t']
section
variable {ys:List V}
def SqL.of{K:fg0}(h:H a=some (.lst xs)):SqL K H a xs:=.inl (.inl h)
def SqT.of{K:fg0}(h:H a=some (.tup xs)):SqT K H a xs:=.inl (.inl h)
def Inv.list(I:Inv X zp σ H s)(h:SqL X.K H a xs):∃J:List Value,Vals xs J/\PlainL s.heap a J.toArray/\xs.length<=sizeLine:=by
 rcases h with h|⟨o,J,n,N,L,M,O,R,r⟩
 .obtain⟨z,J,n,r,e⟩:=h.ok I.hok
  exact(_,r,(_,n,e,rfl,rfl,rfl),z)
 .refine(_,r,(o,n,I.kIn a o N,L,M,by omega),?_)
  have e:=r.length
  grind
def Inv.tuple(I:Inv X zp σ H s)(h:SqT X.K H a xs):∃J:List Value,Vals xs J/\IsTup s.heap a J.toArray/\xs.length<=sizeLine:=by
 rcases h with h|⟨o,J,n,M,L,N,O,r⟩
 .obtain⟨z,J,r,p⟩:=h.ok I.hok
  exact(_,r,p,z)
 .refine(_,r,(o,I.kIn a o M,L,n,by omega),?_)
  have e:=r.length
  simp_all
def Inv.list_inj(I:Inv X zp σ H s)(h:SqL X.K H a xs)(h':SqL X.K H a ys):xs=ys:=by
 obtain⟨O,r,⟨o,n,e,_,_,d⟩,_⟩:=I.list h;obtain⟨M,R,⟨V,U,L,_,_,J⟩,_⟩:=I.list h';rw[e]at L;cases L;rw[d]at J;injection J with N _
 have:=by simpa using congrArg Array.toList N
 subst this;erw[r.inj R]
end
noncomputable abbrev Cx.wish(X:Cx)(E:A0):Cx:={X with xe:=E}
noncomputable abbrev Cx.nox(X:Cx):Cx:=X.wish λa a=>False
theorem Cx.Ok.wish(ok:X.Ok)(E:A0):(X.wish E).Ok:=
 (ok.mod,ok.kind,ok.glob,ok.blt,ok.above,ok.inj,ok.has,ok.cab,ok.hd,ok.frames,ok.stk,ok.exf,ok.bs,ok.bsz,ok.noex,ok.exfs,ok.funs,ok.frf)
def Cx.Ok.unwish(ok:(X.wish E).Ok):X.Ok:=
 (ok.mod,ok.kind,ok.glob,ok.blt,ok.above,ok.inj,ok.has,ok.cab,ok.hd,ok.frames,ok.stk,ok.exf,ok.bs,ok.bsz,ok.noex,ok.exfs,ok.funs,ok.frf)
theorem Inv.wish(I:Inv X zp σ H s)(E:A0):Inv (X.wish E) zp σ H s:=(I.ok.wish E,I.os,I.bare,I.base,I.loc,I.cell,I.free,I.freeC,I.pin,I.hok,I.len)
theorem Inv.unwish(I:Inv (X.wish E) zp σ H s):Inv X zp σ H s:=(I.ok.unwish,I.os,I.bare,I.base,I.loc,I.cell,I.free,I.freeC,I.pin,I.hok,I.len)
theorem SP.unwish{D}{f}{s'}(h:SP (X.wish E) zp D f s'):SP X zp D f s':=by
 cases f with
 |next=>obtain⟨J,H',I,q⟩:=h;exact(_,H',I.unwish,q)
 |brk=>obtain⟨J,H',I,q⟩:=h;exact(_,H',I.unwish,q)
 |cont=>obtain⟨J,H',I,q⟩:=h;exact(_,H',I.unwish,q)
 |ret u=>obtain⟨v,J,H',I,r,q⟩:=h;exact(v,_,H',I.unwish,r,q)
theorem PSs.nox{st}{t}(h:PSs X.nox st t):PSs X st t:=λpins s σ H D I J=>
 wpAny_mono (h _ s σ H D (I.wish _) J) (λa a q=>q.unwish) λa a z=>False.elim z
section
variable {st:Stmt}{rest:List Stmt}{t u:TS}
def IV:TS:=λD σ H=>D.nx σ H
def LL(t u:TS):TS:=λD σ H=>t {D with nx:=u D} σ H
def fR:PSs X [] IV:=λa a σ H a I h=>wpAny_execs_nil (σ,H,I,h)
def bV(K:PS X st t)(L:PSs X rest u):PSs X (st::rest) (LL t u):=by
 intro zp s σ H D I h;refine wpAny_execs_cons (thn (K _ s σ H _ I h) λf M q=>?_);cases f with
 |next=>
  obtain⟨N,H',J,q⟩:=q;erw[L _ M _ H' D J q]
 |ret v=>exact q
 |brk=>exact q
 |cont=>exact q
def Inv.quiet(I:Inv X zp σ H s):interactive X.env=false:=by simp[interactive,I.ok.kind]
def IW(te:TE):TS:=λD σ H=>te σ H λa J=>D.nx σ J
def fU(L:PE X e te)(hs:swapsWith e none pos.line X.env=pure false):PS X (.Expr e pos) (IW te):=by
 erw[λpins s σ H D I h=>wpAny_Expr_any (thn (L _ s σ H _ I h) (by rintro v O ⟨x,J,K,N,M⟩;exact(σ,J,K,M))) I.quiet hs]
def LM(te:TE):TS:=λD σ H=>te σ H D.rt
def ng(L:PE X e te):PS X (.Return (some e) pos) (LM te):=by
 erw[λpins s σ H D I h=>wpAny_Return_some (thn (L _ s σ H _ I h) (by rintro v O ⟨x,J,K,N,M⟩;exact(x,σ,J,K,N,M)))]
def LN(c:TT)(t u:TS):TS:=λD σ H=>c σ H λb J=>if b=true then t D σ J else u D σ J
def xF{c}{a b}{tc}(hc:PT X c tc)(N:PSs X a t)(O:PSs X b u):PS X (.If c a b pos) (LN tc t u):=by
 intro zp s σ H D I h;refine wpAny_If (thn (hc zp s σ H _ I h) ?_);rintro d M ⟨J,K,L⟩;cases d with
 |true=>exact N zp M σ J D K L
 |false=>exact O zp M σ J D K L
end
abbrev TG:=V->St->Hp->(St->Hp->Prop)->Prop
abbrev TGs:=List V->St->Hp->(St->Hp->Prop)->Prop
def PG(X:Cx)(target:Expr)(t:TG):Prop:=
 ∀(zp:A5)(s:Shared)(σ:St)(H:Hp)(v:V)(u:Value)(Q:St->Hp->Prop),Inv X zp σ H s->RelV v u->t v σ H Q->
  wpAny @5 X.A (assign target X.env u) (λa K=>∃J H',Inv X zp J H' K/\Q J H') X.xe s
def PGs(X:Cx)(ts:A3)(t:TGs):Prop:=
 ∀(zp:A5)(s:Shared)(σ:St)(H:Hp)(K:List V)(us:A2)(Q:St->Hp->Prop),Inv X zp σ H s->Vals K us->t K σ H Q->
  wpAny @5 X.A (assignInOrder ((assignEach ts X.env).map (·.2)) us) (λa L=>∃J H',Inv X zp J H' L/\Q J H') X.xe s
abbrev FB:=V->V->V->Hp->(Hp->Prop)->Prop
def FC(X:Cx)(t:FB):Prop:=
 ∀(zp:A5)(s:Shared)(σ:St)(H:Hp)(o i v:V)(K J u:Value)(Q:Hp->Prop),Inv X zp σ H s->RelV o K->RelV i J->RelV v u->t o i v H Q->
  wpAny @5 X.A (setItem K J u) (λa L=>∃H',Inv X zp σ H' L/\Q H') X.xe s
abbrev TIp:=V->V->Hp->VK->Prop
def PIp(X:Cx)(op:Operator)(t:TIp):Prop:=
 ∀(zp:A5)(s:Shared)(σ:St)(H:Hp)(x y:V)(v u:Value)(Q:VK),Inv X zp σ H s->RelV x v->RelV y u->t x y H Q->
  wpAny @5 X.A (inplaceOp op v u) (EP X zp σ Q) X.xe s
def Ej(i:Nat):TG:=λv σ H Q=>Q (σ.set i (some v)) H
def BH(K:X.N.Nodup)(M:X.N[i]?=some x)(O:Loc X.env.scope x)(L:X.fn x=true\/X.env.scope.names.lookup x=some .local):PG X (.Name x pos) (Ej i):=λpins s σ H v u Q I r h=>wpAny_assign_Name (jx I K M O r (λR J=>(_,H,J,h)) L)
def LO:TGs:=λJ σ H Q=>J=[]/\Q σ H
def IX(t:TG)(u:TGs):TGs:=λK σ H Q=>∃v r,K=v::r/\t v σ H λJ H'=>u r J H' Q
def BI:PGs X [] LO:=by
 intro zp s σ H J us Q I r h;obtain⟨e,h⟩:=h;subst e;erw[assignInOrder_nil (σ,H,I,h)]
def xG{e:Expr}{t}{u}(N:PG X e t)(O:PGs X es u)
  (hs:(assignEach (e::es) X.env).map (·.2)=assign e X.env::(assignEach es X.env).map (·.2)):PGs X (e::es) (IX t u):=by
 intro zp s σ H Y us Q I r h;obtain⟨v,W,M,h⟩:=h;subst M;cases r with
 |cons r U=>
  rw[hs];refine assignInOrder_cons (thn (N zp s σ H _ _ _ I r h) ?_);rintro _ V ⟨J,K,L,R⟩;erw[O zp V J K _ _ Q L U R]
def LP(K:fg0)(n:Nat)(t:TGs):TG:=λv σ H Q=>∃a xs,v=.ref a/\SqT K H a xs/\xs.length=n/\t xs σ H Q
def FD{t}{n:Nat}(hc:X.calm=true)(h:PGs X es t)
  (R:(assignEach es X.env).length=n) (J:(assignEach es X.env).findIdx? (·.1)=none):PG X (.Tuple es k pos) (LP X.K n t):=by
 intro zp s σ H v u Q I r L;obtain⟨a,xs,N,U,O,L⟩:=L;subst N;cases r;obtain⟨Y,M,V,Z⟩:=I.tuple U;refine assign_Tuple_tuple (I.ok.hd hc) V (by simp[R,<-O,M.length]) J λh' W=>?_
 erw[h zp _ σ H xs _ Q (I.kept (t':=s.toks) λb o e=>W b o (nn0 (hs0 e)) e) (by simpa using M) L]
def LQ(M ti:TE)(t:FB):TG:=λv σ H Q=>M σ H λo J=>ti σ J λi K=>t o i v K λL=>Q σ L
def nh{o i}{to ti}{t}(Y:PE X o to)(W:PE X i ti)(hs:FC X t)
  (V:∀v,assign (.Subscript o i pos) X.env v=(do
   let J ←holding [v] (eval o X.env)
   let K ←holding [v,J] (eval i X.env)
   standAt pos
   holding [v,J,K] (setItem J K v)
   release [v,J,K] [])):PG X (.Subscript o i pos) (LQ to ti t):=by
 intro zp s σ H v u Q I r h;rw[V];refine wb0 (wh0 (thn (Y zp s σ H _ I h) ?_));rintro J S ⟨x,L,O,D,Z⟩;refine wb0 (wh0 (thn (W zp S σ L _ O Z) ?_));rintro K G ⟨y,M,R,B,T⟩;refine wb0 (wpAny_standAt (wb0 (wh0 (thn (hs zp G σ M x y v J K u _ R D B r T) ?_))));rintro _ j ⟨N,U,F⟩;erw[wpAny_release (σ,N,U,F)]
def IY(te:TE)(g:TG):TS:=λD σ H=>te σ H λx J=>g x σ J D.nx
def jy{tg e}{g}(M:PE X e te)(N:PG X tg g)(hs:swapsWithSole [tg] e pos.line X.env=pure false)(hw:swappedStores [tg] e X.env=pure none)
  (L:(assignEach [tg] X.env).map (·.2)=[assign tg X.env]):PS X (.Assign [tg] e pos) (IY te g):=by
 intro zp s σ H D I h;refine wpAny_Assign_stores (thn (M zp s σ H _ I h) ?_) hs hw;rintro v U ⟨x,J,K,R,O⟩;rw[L];erw[thn (N zp U σ J x v _ K R O) λa V q=>q]
def hV{pos'}(M:X.N.Nodup)(U:X.N[i]?=some x)(V:Loc X.env.scope x)(O:PE X e te)(hs:swapsWith e (some (.Name x pos')) pos.line X.env=pure false)(R:X.fn x=true\/X.env.scope.names.lookup x=some .local):
  PS X (.Assign [.Name x pos'] e pos) (IY te (Ej i)):=by
 intro zp s σ H D I h;refine wpAny_Assign_Name (thn (O zp s σ H _ I h) ?_) hs;rintro v Z ⟨y,J,K,Y,W⟩;erw[jx K M U V Y (λT L=>(_,J,L,W)) R]
def LR(i:Nat)(te:TE)(ti:TIp):TS:=λD σ H=>∃x,σ[i]?=some (some x)/\te σ H λy J=>ti x y J λz K=>D.nx (σ.set i (some z)) K
def FE{op}{ti}{pos'}(B:X.N.Nodup)(U:X.N[i]?=some x)(M:Loc X.env.scope x)(G:PE X e te)(d:PIp X op ti)(j:X.fn x=true\/X.env.scope.names.lookup x=some .local):
  PS X (.AugAssign (.Name x pos') op e pos) (LR i te ti):=by
 intro zp s σ H D I h;obtain⟨v,F,h⟩:=h;obtain⟨m,p,q⟩:=I.loc;have O:Vis X.env.scope x:=by rcases M with k|k;exact .inl k;exact .inr (.inl k)
 obtain⟨u,r,l⟩:=q i x v U F O;refine wpAny_AugAssign_Name ?_;have R:wpAny @5 X.A (eval e X.env) (λw K=>wpAny @5 X.A (inplaceOp op u w) (λr L=>wpAny @5 X.A (storeName X.env x r) (λa=>SP X zp D .next) X.xe L) X.xe K) X.xe s:=by
  refine thn (G zp s σ H _ I h) ?_;rintro w s1 ⟨y,V,Y,r1,n⟩;refine thn (d zp s1 σ V v y u w _ Y r r1 n) ?_;rintro z s2 ⟨zv,W,Z,r2,q2⟩;erw[jx Z B U M r2 (λs3 T=>(_,W,T,q2)) j]
 rcases l with⟨hk,g⟩|⟨hk,c,S,J⟩
 .erw[wpAny_loadName_local I.ok.kind hk p g R]
 .rcases hk with hk|hk
  .erw[wpAny_loadName_cell I.ok.kind hk S J R]
  .rcases M with k|k
   .have:X.env.scope.names.lookup x=some .free:=hk
    rw[k]at this;cases this
   .have:X.env.scope.names.lookup x=some .free:=hk
    rw[k]at this;cases this
def ipI(f:Int->Int->Int):TIp:=λx y H Q=>∃i j,x=.int i/\y=.int j/\Q (.int (f i j)) H
def FG:PIp X .Add (ipI λi j=>i+j):=by
 intro zp s σ H x y v u Q I L M h;obtain⟨i,j,J,K,q⟩:=h;subst J;subst K;obtain⟨t,rfl⟩:=L;obtain⟨t',rfl⟩:=M;erw[iadd_int (.int _,H,I.tok _,(_,rfl),q)]
def FH(c:TT)(tb:TS):TS:=λD σ H=>∃W:Nat->St->Hp->Prop,(∃m,W m σ H)/\∀m σ H,W m σ H->
 c σ H λb K=>if b=true then ∃N:St->Hp->Prop,(∀J H',N J H'->∃L,L<m/\W L J H')/\tb {D with nx:=N,ct:=N,bk:=D.nx} σ K else D.nx σ K
def xH{c}{body}{tc}{tb}(j:PassesOwn @5 X.A X.env X.xe)(hc:PT X c tc)(y:PSs X body tb):PS X (.While c body [] pos) (FH tc tb):=by
 intro zp s σ H D I h;obtain⟨W,⟨m0,l⟩,turn⟩:=h;refine wpAny_While (codeAny_whileLoop (λn q=>∃M H',Inv X zp M H' q/\W n M H') ?_ m0 (σ,H,I,l))
 rintro n g ⟨K,F,z,r⟩
 refine wpAny_passesOwn j (thn (hc zp g K F _ z (turn n K F r)) ?_);rintro b m ⟨B,S,O⟩;cases b with
 |true=>
  obtain⟨N,G,O⟩:=O;rw[if_pos rfl];refine wpAny_passesOwn j (thn (y zp m K B _ S O) λf p R=>?_);cases f with
  |next=>
   obtain⟨J,L,U,Z⟩:=R;obtain⟨Y,V,T⟩:=G J L Z;exact(Y,V,J,L,U,T)
  |cont=>
   obtain⟨J,L,U,Z⟩:=R;obtain⟨Y,V,T⟩:=G J L Z;exact(Y,V,J,L,U,T)
  |brk=>exact R
  |ret v=>exact R
 |false=>
  rw[if_neg fx0];erw[wpAny_execs_nil (K,B,S,O)]
structure It where
 go:Nat->Hp->Prop
 yld:Nat->Hp->V->Hp->Prop
 stop:Nat->Hp->Prop
def jz(X:Cx)(zp:A5)(H:Hp)(b:Addr):Prop:=
 H b=none/\b≠X.env.locals/\b∉X.fs/\(b∈X.ex\/X.s₀.heap.objs.size<=b)/\(∀x c,X.env.cells.lookup x=some c->c≠b)/\∀p∈X.pn++zp,p.1≠b
def Inv.fpOk(I:Inv X zp σ H s)(J:s.heap.objs.size<=b)(K:H' b=none):jz X zp H' b:=by
 refine(K,Nat.ne_of_gt (nl0 I.lt J),(have h:=J;λJ=>by
   obtain⟨_,o,L,_⟩:=I.ok.funs.mem J;erw[absurd (nl0 (hs0 L) (nt0 I.sz h)) (li0 _)]),.inr (nt0 I.sz J),λx c e z=>?_,λp M z=>?_)
 .obtain⟨v,q⟩:=I.cell x c e
  erw[absurd (nl0 q.lt (by rwa [z])) (li0 _)]
 .erw[absurd (nl0 (hs0 (I.pin p M).1) (by rwa [z])) (li0 _)]
structure Turn(P:Program)(w:World)(K:fg0)(tg:Expr)(J:It)(fp:A4)(it:Addr)(tn:Nat->Heap->Prop):Prop where
 mem:it∈fp
 obj:∀i h,tn i h->∀b∈fp,∃o,h.get? b=some o/\∀v,o.data≠.cell v
 keep:∀i h h',tn i h->(∀b∈fp,∀o,h.get? b=some o->h'.get? b=some o)->tn i h'
 item:∀(X:Cx),X.prog=P->X.w=w->X.K=K->X.calm=true->∀(i:Nat)(zp:A5)(s:Shared)(σ:St)(H:Hp)(E:A0),Inv X zp σ H s->(∀b∈fp,jz X zp H b)->tn i s.heap->J.go i H->
  wpAny (model P w) X.A (pyNext (.ref it)) (λr s1=>∃u,r=some u/\
   wpAny (model P w) X.A (letOwnedTupleGo tg (.ref it) u) (λa s2=>∃x H',Inv X zp σ H' s2/\RelV x u/\J.yld i H x H'/\tn (i+1) s2.heap/\∀b∈fp,H' b=none) E s1) E s
 done:∀(X:Cx),X.prog=P->X.w=w->X.K=K->X.calm=true->∀(i:Nat)(zp:A5)(s:Shared)(σ:St)(H:Hp)(E:A0),Inv X zp σ H s->(∀b∈fp,jz X zp H b)->tn i s.heap->J.stop i H->
  wpAny (model P w) X.A (pyNext (.ref it)) (λr s1=>r=none/\Inv X zp σ H s1) E s
 self:∀(A:Around)(i:Nat)(s:Shared)(Q:A0)(E:A0),tn i s.heap->Q (.ref it) s->wpAny (model P w) A (pyIter (.ref it)) Q E s
abbrev TI:=St->Hp->(It->Hp->Prop)->Prop
def PIE(X:Cx)(zp:A5)(σ:St)(tg:Expr)(R:It->Hp->Prop)(L:Value)(s2:Shared):Prop:=
 ∃(N:Addr)(M:A4)(O:Nat->Heap->Prop)(J:It)(H':Hp),L=.ref N/\Inv X zp σ H' s2/\Turn X.prog X.w X.K tg J M N O/\O 0 s2.heap/\(∀b∈M,jz X zp H' b)/\R J H'
def PI(X:Cx)(tg iter:Expr)(K:TI):Prop:=
 ∀(zp:A5)(s:Shared)(σ:St)(H:Hp)(R:It->Hp->Prop),Inv X zp σ H s->K σ H R->
  wpAny @5 X.A (eval iter X.env) (λv J=>wpAny @5 X.A (pyIter v) (PIE X zp σ tg R) X.xe J) X.xe s
def pj{M:Model}{it}{o:Obj}{n}{vs}{Q:A7}(N:s.heap.get? it=some o)(hc:o.cls=.type n)(K:o.data=.fields vs)
  (L:["enumerate","zip","dict_itemiterator","dict_reverseitemiterator","odict_iterator","itertools.zip_longest","itertools.pairwise"].contains n=false) (J:Q () s):wpAny M A (letOwnedTupleGo tg (.ref it) u) Q E s:=by
 unfold letOwnedTupleGo;cases tg<;>first
  |exact wq0 J
  |(cases u<;>first
    |exact wq0 J
    |(refine wb0 (wpAny_load N ?_)
      rw[hc,K];show wpAny M A (if (["enumerate","zip","dict_itemiterator","dict_reverseitemiterator","odict_iterator","itertools.zip_longest","itertools.pairwise"].contains n&&vs[0]?==some (rawInt _))=true then _ else _) Q E s;rw[if_neg (by intro h;rw[L,Bool.false_and]at h;cases h)];erw[wq0 J]))
noncomputable def Itl(K:fg0)(a:Addr):It:=
 (λi H=>∃xs x,SqL K H a xs/\xs[i]?=some x,λi H x H'=>H'=H/\∀xs,SqL K H a xs->xs[i]?=some x,λi H=>∃xs,SqL K H a xs/\xs.length<=i)
noncomputable def Itr(lo:Int)(n:Nat):It:=(λi a=>i<n,λi H x H'=>H'=H/\x=.int (lo+i),λi a=>n<=i)
def vN{K:fg0}(a M:Addr):Turn P w K tg (Itl K a) [M] M (λi h=>h.IsListIter M a i) where
 mem:=by simp
 obj:=λi h J b L=>by
  have e:b=M:=by simpa using L
  subst e;obtain⟨o,e,c,d⟩:=J;exact(o,e,λv z=>by rw[d]at z;cases z)
 keep:=λi h h' J k=>J.at λo e=>k M @0 o e
 item:=by
  intro X F B T y i zp s σ H E I O J D;subst F B T;obtain⟨xs,x,R,S⟩:=D;obtain⟨G,j,p,n⟩:=I.list R;obtain⟨u,l,ru⟩:=j.get S;obtain⟨U,V,m,W,Y,Z⟩:=O M @0;refine wpAny_pyNext_list_item J p.isList (x:=u) (by simpa using l) λh' N sb=>?_
  have q:=I.turned (t':=s.toks) (λb o L e=>(sb.2 b L).trans e) U V W Y Z;obtain⟨o,e,c,d⟩:=id N;exact(u,rfl,pj (s:={s with heap:=h'}) e c d (by decide) (x,H,q,ru,(rfl,λys r=>by rw[I.list_inj r R];erw[S]),N,λb L=>(O b L).1))
 done:=by
  intro X F B T y i zp s σ H E I O J D;subst F B T;obtain⟨xs,R,S⟩:=D;obtain⟨G,j,p,n⟩:=I.list R;obtain⟨U,V,m,W,Y,Z⟩:=O M @0;have hl:=j.length;erw[wpAny_pyNext_list_end (I.ok.hd y) J p.isList (by simp;simp_all) λh' g=>(rfl,I.turned (t':=s.toks) (λb o L e=>g b o L e) U V W Y Z)]
 self:=λf f f f f J h=>wpAny_pyIter_listiter J h
def rC{K:fg0}(L:Addr)(lo:Int)(n:Nat):Turn P w K tg (Itr lo n) [L] L (λi h=>IsRangeIter h L (lo+(i:Nat)*1) ((n:Int)-(i:Nat)) 1) where
 mem:=by simp
 obj:=λi h J b M=>by
  simp_all
 keep:=λi h h' J k=>k L @0 _ J
 item:=by
  intro X F S T D i zp s σ H E I O J B;subst F S T;obtain⟨R,U,z,V,Y,Z⟩:=O L @0;have W:=Walks.range (prog:=X.prog) (w:=X.w) (I.ok.hd D) L lo 1 n;refine W.item i s _ _ B J λv h' q y N kk=>?_
  obtain⟨t,rfl⟩:=y;have G:Inv X zp σ H {s with heap:=h',toks:=q}:=I.turned (λb o M e=>kk b o (by simpa using M) e) R U V Y Z;refine(_,rfl,pj (n:="range_iterator") N rfl rfl @2 (.int (lo+i),H,G,(t,?_),(rfl,rfl),N,λb M=>(O b M).1));rw[Int.mul_one]
 done:=by
  intro X F S T D i zp s σ H E I O J B;subst F S T;obtain⟨R,U,z,V,Y,Z⟩:=O L @0;erw[wpAny_pyNext_range_end (I.ok.hd D) J (by have:n<=i:=B;lia) λh' j=>(rfl,I.turned (t':=s.toks) (λb o M e=>j b o M e) R U V Y Z)]
 self:=λa a a a a J h=>wpAny_pyIter_rangeiter J h
def IZ(K:fg0)(L:TE):TI:=λσ H R=>L σ H λx J=>∃a,x=.ref a/\(∃xs,SqL K J a xs)/\R (Itl K a) J
def BJ{l}{tl}(N:PE X l tl):PI X tg l (IZ X.K tl):=by
 intro zp s σ H R I h;refine thn (N _ s σ H _ I h) λv T ⟨x,L,J,W,V⟩=>?_
 obtain⟨a,e,⟨xs,O⟩,q⟩:=V;subst e;cases W;obtain⟨U,Z,p,Y⟩:=J.list O;refine wpAny_pyIter_list p.isList ?_;refine(_,_,_,_,L,rfl,J.kept λb o e=>ps0 _ e,vN a _,(_,pz0 _ rfl,rfl,rfl),λb M=>?_,q);have e:=by simpa using M
 subst e;erw[J.fpOk (nr0 _) (J.hok.fresh (nr0 _))]
def xI{R}{lo J}{t u v}{tk}(I:Inv X zp σ H s)(N:-(2 ^ 62)<=lo)(O:lo<2 ^ 62)(U:-(2 ^ 62)<=J)(V:J<2 ^ 62)
  (q:R (Itr lo (J-lo).toNat) H):wpAny @5 X.A (pyIter (.ref s.heap.objs.size)) (PIE X zp σ tg R) E {s with heap:=s.heap.push {cls:=.type "range",data:=.fields #[.int lo t,.int J u,.int 1 v]},toks:=tk}:=by
 refine wpAny_pyIter_range (IsRange.new ..) (small_one N O U V) ?_;have K:Inv X zp σ H {s with heap:=s.heap.push {cls:=.type "range",data:=.fields #[.int lo t,.int J u,.int 1 v]},toks:=tk}:=I.kept λb o e=>ps0 _ e
 refine(_,_,_,_,H,rfl,
  K.kept (t':=tk) λb o e=>ps0 _ e,rC _ lo (J-lo).toNat,?_,λb W=>?_,q)
 .have L:lo+((0:Nat):Int)*1=lo:=by simp
  have M:(((J-lo).toNat:Nat):Int)-((0:Nat):Int)=Builtin.Range.rangeSize lo J 1:=by rw[rangeSize_one];split<;>lia
  rw[L,M];erw[pz0 _ rfl]
 .have e:b=(s.heap.push {cls:=.type "range",data:=.fields #[.int lo t,.int J u,.int 1 v]}).objs.size:=by simpa using W
  subst e;erw[K.fpOk (nr0 _) (K.hok.fresh (nr0 _))]
def Ja(ta:TA):TI:=λσ H R=>ta σ H λK J=>∃j:Int,K=[.int j]/\ -(2 ^ 62)<=j/\j<2 ^ 62/\R (Itr 0 j.toNat) J
def vO{a}{ta}{p pos}(M:Gl X "range")(N:X.mg "range"=none)(L:PA X [a] ta)(hs:starEach [a] X.env=[(false,eval a X.env)]):PI X tg (.Call (.Name "range" p) [a] [] pos) (Ja ta):=by
 intro zp s σ H R I h;refine Call_ (ld_blt I M N boot_range (PyProof.Rows.callWith_type1 (thn (L pos zp s σ H _ I h) ?_) hs rfl) @2 @2);rintro us Y ⟨Z,W,K,U,J⟩;obtain⟨j,e,J,O,q⟩:=J;subst e;cases U with
 |cons r V=>
  cases V;obtain⟨t,rfl⟩:=r;erw[call_range_1 (xI K @6 @6 J O (by simpa using q))]
def LS(U:TI)(g:TG)(tb:TS):TS:=λD σ H=>U σ H λJ O=>∃W:Nat->Nat->St->Hp->Prop,(∃m,W 0 m σ O)/\∀i m σ H,W i m σ H->
 (J.stop i H/\D.nx σ H)\/(J.go i H/\∃N:St->Hp->Prop,(∀K H',N K H'->∃M,M<m/\W (i+1) M K H')/\∀x H',J.yld i H x H'->g x σ H' λL R=>tb {D with nx:=N,ct:=N,bk:=D.nx} L R)
noncomputable def jA(J:A4)(h:Heap):List (Addr×Obj):=J.filterMap λb=>(h.get? b).map λo=>(b,o)
def dz{fp}{o:Obj}(J:b∈fp)(e:h.get? b=some o):(b,o)∈jA fp h:=List.mem_filterMap.mpr (b,J,by rw[e];rfl)
def vP{fp}{p}(L:p∈jA fp h):p.1∈fp/\h.get? p.1=some p.2:=by
 obtain⟨b,K,e⟩:=List.mem_filterMap.mp L;cases q:h.get? b with
 |none=>simp_all
 |some o=>
  rw[q]at e;have J:=Option.some.inj e;subst J;exact(K,q)
def Inv.pinned{fp}(I:Inv X zp σ H s)(K:∀b∈fp,jz X zp H b)(L:∀b∈fp,∃o,s.heap.get? b=some o/\∀v,o.data≠.cell v):Inv X (zp++jA fp s.heap) σ H s:=
 I.pins_of λp M=>(ma0 M).elim (λz=>I.pin p (mr0 _ z)) λz=>by
  obtain⟨J,e⟩:=vP z;obtain⟨O,R,U,_⟩:=K _ J;obtain⟨o,N,d⟩:=L _ J<;>simp_all
def Inv.unpinned{zp pl}(I:Inv X (zp++pl) σ H s):Inv X zp σ H s:=I.pins_of λp J=>I.pin p (mr0 _ (List.mem_append_left _ J))
def FI{iter}{body}{wi}{g}{tb}(S:PassesOwn @5 X.A X.env X.xe)(hc:X.calm=true)(hi:PI X tg iter wi)(hg:PG X tg g)(O:PSs X body tb)
  (hs:∀x,foldedSetIterable iter X.env x=pure x):PS X (.For tg iter body [] pos) (LS wi g tb):=by
 intro zp s σ H D I h;refine wpAny_For (thn (hi zp s σ H _ I h) λv s1 h1=>thn h1 λj1 s2 h2=>?_) hs;obtain⟨it,F,tn,J,H2,e,I2,T,c,f2,W,⟨m0,w0⟩,turn⟩:=h2;subst e;have R:∀{H':Hp},(∀b∈F,H' b=none)->∀b∈F,jz X zp H' b:=λhn b O=>(hn b O,(f2 b O).2)
 refine codeAny_forLoop_any (λn s'=>∃i U H',Inv X zp U H' s'/\tn i s'.heap/\(∀b∈F,H' b=none)/\W i n U H') ?_ m0 (0,σ,H2,I2,c,λb O=>(f2 b O).1,w0)
 rintro n s3 ⟨i,V,z,I3,j,B,w3⟩
 rcases turn i n V z w3 with⟨stop,qn⟩|⟨go,N,hN,step⟩
 .refine wpAny_passesOwn S (thn (T.done X rfl rfl rfl hc i zp s3 V z X.xe I3 (R B) j stop) ?_);rintro r s4 ⟨l,I4⟩
  subst l;erw[wpAny_execs_nil (V,z,I4,qn)]
 .refine wpAny_passesOwn S (thn (T.item X rfl rfl rfl hc i zp s3 V z X.xe I3 (R B) j go) ?_);rintro r s4 ⟨u,l,h4⟩
  subst l;refine wpAny_passesOwn S (thn h4 ?_);rintro _ s5 ⟨x,H5,I5,r5,y5,Z,q⟩;have y:=I5.pinned (R q) (T.obj _ _ Z);refine wpAny_passesOwn S (thn (hg _ s5 V H5 x u _ y r5 (step x H5 y5)) ?_);rintro _ s6 ⟨j0,H6,I6,q6⟩;refine wpAny_passesOwn S (thn (O _ s6 j0 H6 _ I6 q6) λf p Y=>?_);have again:∀{K:St}{L:Hp},Inv X (zp++jA F s5.heap) K L p->N K L->∃m,m<n/\∃i U H',Inv X zp U H' p/\tn i p.heap/\(∀b∈F,H' b=none)/\W i m U H':=λ{K L} M G=>by
   obtain⟨m',hm,w7⟩:=hN K L G;refine(m',hm,i+1,K,L,M.unpinned,T.keep _ _ _ Z λb O o e=>(M.pin (b,o) (mr0 _ (mr0 _ (dz O e)))).1,λb O=>?_,w7);obtain⟨o,e,d⟩:=T.obj _ _ Z b O;exact (M.pin (b,o) (mr0 _ (mr0 _ (dz O e)))).2.1
  cases f with
  |next=>obtain⟨K,L,M,G⟩:=Y;erw[again M G]
  |cont=>obtain⟨K,L,M,G⟩:=Y;erw[again M G]
  |brk=>obtain⟨K,L,M,Y⟩:=Y;exact(K,L,M.unpinned,Y)
  |ret v=>obtain⟨x7,K,L,M,r7,Y⟩:=Y;exact(x7,K,L,M.unpinned,r7,Y)
abbrev R2:=V->V->Hp->VK->Prop
def OpR(X:Cx)(f:Value->Value->Sem Value)(r:R2):Prop:=
 ∀(zp:A5)(s:Shared)(σ:St)(H:Hp)(x y:V)(v u:Value)(Q:VK),Inv X zp σ H s->RelV x v->RelV y u->r x y H Q->
  wpAny @5 X.A (f v u) (EP X zp σ Q) X.xe s
def UnR(X:Cx)(f:Value->Sem Value)(r:V->Hp->VK->Prop):Prop:=
 ∀(zp:A5)(s:Shared)(σ:St)(H:Hp)(x:V)(v:Value)(Q:VK),Inv X zp σ H s->RelV x v->r x H Q->
  wpAny @5 X.A (f v) (EP X zp σ Q) X.xe s
def bb(X:Cx)(f:Value)(r:List V->Hp->VK->Prop):Prop:=
 ∀(zp:A5)(s:Shared)(σ:St)(H:Hp)(xs:List V)(us:A2)(Q:VK),Inv X zp σ H s->Vals xs us->r xs H Q->
  wpAny @5 X.A (call f us) (EP X zp σ Q) X.xe s
def LU(X:Cx)(r:V->Hp->(Bool->Hp->Prop)->Prop):Prop:=
 ∀(zp:A5)(s:Shared)(σ:St)(H:Hp)(x:V)(v:Value)(Q:Bool->Hp->Prop),Inv X zp σ H s->RelV x v->r x H Q->
  wpAny @5 X.A (truthy v) (TP X zp σ Q) X.xe s
def tOp(r:R2)(ta tb:TE):TE:=λσ H Q=>ta σ H λx J=>tb σ J λy K=>r x y K Q
def tUn(r:V->Hp->VK->Prop)(ta:TE):TE:=λσ H Q=>ta σ H λx J=>r x J Q
def rI(C:Int->Int->Prop)(g:Int->Int->V):R2:=λx y H Q=>∃i j,x=.int i/\y=.int j/\C i j/\Q (g i j) H
def rI0(g:Int->Int->V):R2:=λx y H Q=>∃i j,x=.int i/\y=.int j/\Q (g i j) H
def rU(g:Int->V):V->Hp->VK->Prop:=λx H Q=>∃i,x=.int i/\Q (g i) H
section
variable {a b c:Expr}{tb tc:TE}
def binT(U:PE X a ta)(W:PE X b tb){R:V->V->Hp->Prop}(I:Inv X zp σ H s)
  (h:ta σ H λx M=>tb σ M λy J=>R x y J)  {f:Value->Value->Sem Value}
  (Y:∀v u s2 x y J,Inv X zp σ J s2->RelV x v->RelV y u->R x y J->wpAny @5 X.A (f v u) Q X.xe s2):
  wpAny @5 X.A (eval a X.env) (λv K=>wpAny @5 X.A (eval b X.env) (λu L=>wpAny @5 X.A (f v u) Q X.xe L) X.xe K) X.xe s:=thn (U _ s σ H _ I h) λv B ⟨x,M,N,F,Z⟩=>thn (W _ B σ M _ N Z) λu s2 ⟨y,J,O,D,T⟩=>Y v u s2 x y J O F D T
def xJ{op}{r:R2}(N:OpR X (binaryOp op) r)(L:PE X a ta)(M:PE X b tb):PE X (.BinOp a op b pos) (tOp r ta tb):=λpins s σ H Q I h=>wpAny_BinOp (binT L M I h λv u U x y J K O R q=>N _ U σ J x y v u Q K O R q)
def Jb{op}{r}(M:UnR X (unaryOp op) r)(L:PE X a ta):PE X (.UnaryOp op a pos) (tUn r ta):=by
 erw[λpins s σ H Q I h=>UnaryOp_ (thn (L _ s σ H _ I h) (by rintro v R ⟨x,J,K,O,N⟩;exact M _ R σ J x v Q K O N))]
def opI{f:Value->Value->Sem Value}{C}{g:Int->Int->Int}
  (rule:∀(i j:Int)(t u:Tok)(s:Shared)(Q:A0)(E:A0),C i j->Q (.int (g i j) s.toks) {s with toks:=s.toks+1}->wpAny (model X.prog X.w) X.A (f (.int i t) (.int j u)) Q E s):
  OpR X f (rI C λi j=>.int (g i j)):=by
 intro zp s σ H x y v u Q I K L h;obtain⟨i,j,rfl,rfl,J,q⟩:=h;obtain⟨t,rfl⟩:=K;obtain⟨t',rfl⟩:=L;erw[rule i j t t' s _ _ J (.int _,H,I.tok _,(_,rfl),q)]
def Jc{f:Value->Value->Sem Value}{g:Int->Int->Int}
  (rule:∀(i j:Int)(t u:Tok)(s:Shared)(Q:A0)(E:A0),Q (.int (g i j) s.toks) {s with toks:=s.toks+1}->wpAny (model X.prog X.w) X.A (f (.int i t) (.int j u)) Q E s):
  OpR X f (rI0 λi j=>.int (g i j)):=by
 intro zp s σ H x y v u Q I J K h;obtain⟨i,j,rfl,rfl,q⟩:=h;obtain⟨t,rfl⟩:=J;obtain⟨t',rfl⟩:=K;erw[rule i j t t' s _ _ (.int _,H,I.tok _,(_,rfl),q)]
def BK{f:Value->Value->Sem Value}{g:Int->Int->Bool}
  (rule:∀(i j:Int)(t u:Tok)(s:Shared)(Q:A0)(E:A0),Q (.bool (g i j)) s->wpAny @5 X.A (f (.int i t) (.int j u)) Q E s):
  OpR X f (rI0 λi j=>.bl (g i j)):=by
 intro zp s σ H x y v u Q I J K h;obtain⟨i,j,rfl,rfl,q⟩:=h;obtain⟨t,rfl⟩:=J;obtain⟨t',rfl⟩:=K;erw[rule i j t t' s _ _ (.bl _,H,I,rfl,q)]
def LV(i j:Int):Prop:=0<j/\j<1073741824
def CMul(i j:Int):Prop:=(-(2 ^ 64)<i/\i<2 ^ 64)\/(-(2 ^ 64)<j/\j<2 ^ 64)
def CMul.ok{i j}(h:CMul i j):IntMulOk i j:=by
 rcases h with⟨J,K⟩|⟨J,K⟩
 .exact .of_left (intBits_le_64 J K)
 .exact .of_right (intBits_le_64 J K)
def FJ:OpR X (binaryOp .Add) (rI0 λi j=>.int (i+j)):=Jc λa a a a a a a q=>add_int q
def FK:OpR X (binaryOp .Sub) (rI0 λi j=>.int (i-j)):=Jc λa a a a a a a q=>sub_int q
def op_mul:OpR X (binaryOp .Mult) (rI CMul λi j=>.int (i*j)):=opI λa a a a a a a J q=>mul_int q J.ok
def op_fdiv:OpR X (binaryOp .FloorDiv) (rI LV λi j=>.int (i / j)):=opI λi j a a a a a J q=>by
 have K:=J.1;have L:=J.2;erw[floordiv_int @4 (by rw[Int.fdiv_eq_ediv_of_nonneg i @4];exact q) (.inl (PyProof.noPylong_small @1))]
def op_mod:OpR X (binaryOp .Mod) (rI (λa j=>0<j) λi j=>.int (i % j)):=opI λi j a a a a a J q=>by
 erw[mod_int' @1 (by rwa [Int.fmod_eq_emod_of_nonneg i @1])]
def unI{f}{g:Int->Int}
  (rule:∀(i:Int)(t:Tok)(s:Shared)(Q:A0)(E:A0),Q (.int (g i) s.toks) {s with toks:=s.toks+1}->wpAny (model X.prog X.w) X.A (f (.int i t)) Q E s):
  UnR X f (rU λi=>.int (g i)):=by
 intro zp s σ H x v Q I J h;obtain⟨i,rfl,q⟩:=h;obtain⟨t,rfl⟩:=J;erw[rule i t s _ _ (.int _,H,I.tok _,(_,rfl),q)]
def FL:UnR X (unaryOp .USub) (rU λi=>.int (-i)):=unI λa a a a a q=>neg_int q
end
section
variable {a b c:Expr}{tb tc:TE}
def cw{Q:VK}{k k'}(I:Inv X zp σ H s)(q:Q (.bl k) H)(e:k=k'):EP X zp σ Q (.bool k') s:=by
 subst e;exact(.bl k,H,I,rfl,q)
def Jd:OpR X (compareOp .Lt) (rI0 λi j=>.bl (decide (i<j))):=BK λa a a a a a a q=>lt_int q
def Je:OpR X (compareOp .LtE) (rI0 λi j=>.bl (decide (i<=j))):=BK λa a a a a a a q=>le_int q
def vQ:OpR X (compareOp .Lt) (λx y H Q=>∃i j,x=.str i/\y=.str j/\Q (.bl (decide (i.cps.toList<j.cps.toList))) H):=by
 intro zp s σ H x y v u Q I J K h;obtain⟨i,j,rfl,rfl,q⟩:=h;obtain⟨t,rfl⟩:=J;obtain⟨t',rfl⟩:=K;erw[lt_str (cw I q rfl)]
def vR:OpR X (compareOp .In) (λx y H Q=>∃i j,x=.str i/\y=.str j/\Q (.bl (!(Builtin.Str.occurrences j i 0 j.length 1).isEmpty)) H):=by
 intro zp s σ H x y v u Q I J K h;obtain⟨i,j,rfl,rfl,q⟩:=h;obtain⟨t,rfl⟩:=J;obtain⟨t',rfl⟩:=K;erw[in_str (cw I q rfl)]
def FM:OpR X (compareOp .Is) (λx y H Q=>y=.non/\Q (.bl (decide (x=.non))) H):=by
 intro zp s σ H x y v u Q I J K h;obtain⟨rfl,q⟩:=h;cases K;refine is_none_gen (cw I q ?_);cases x<;>first
  |rfl
  |(obtain⟨t,rfl⟩:=J;rfl)
def BL:OpR X (compareOp .IsNot) (λx y H Q=>y=.non/\Q (.bl (!decide (x=.non))) H):=by
 intro zp s σ H x y v u Q I J K h;obtain⟨rfl,q⟩:=h;cases K;refine isnot_none_gen (cw I q ?_);cases x<;>first
  |rfl
  |(obtain⟨t,rfl⟩:=J;rfl)
def BM{op}{r:R2}(O:OpR X (compareOp op) r)(L:PE X a ta)(M:PE X b tb)(N:behindInMarks op b=false):PE X (.Compare a [op] [b] pos) (tOp r ta tb):=λpins s σ H Q I h=>wpAny_Compare1 (binT L M I h λv u V x y J K R U q=>O _ V σ J x y v u Q K R U q) N
def El(t:TE):TT:=λσ H Q=>t σ H λx H'=>∃k,x=.bl k/\Q k H'
def tX{op:CmpOp}{r:R2}(W:OpR X (compareOp op) r)(R:PE X a ta)(U:PE X b tb)(V:behindInMarks op b=false):PT X (.Compare a [op] [b] pos) (El (tOp r ta tb)):=by
 intro zp s σ H Q I h;refine wpAny_isTrue_Compare1 (thn (R zp s σ H _ I h) ?_) V;rintro v S ⟨x,J,M,F,Y⟩;refine thn (U zp S σ J _ M Y) ?_;rintro u G ⟨y,K,N,D,Z⟩;refine thn (W zp G σ K x y v u _ N F D Z) ?_;rintro c j ⟨z,L,O,B,k,rfl,T⟩;cases B;erw[wpAny_truthy_bool (L,O,T)]
def rD(r r':R2)(ta tb tc:TE):TE:=λσ H Q=>ta σ H λx K=>tb σ K λy L=>r x y L λz J=>∃k,z=.bl k/\
 (if k=true then tc σ J λN M=>r' y N M Q else Q (.bl false) J)
def xK{op op'}{r r'}(D:OpR X (compareOp op) r)(J:OpR X (compareOp op') r')(Z:PE X a ta)(T:PE X b tb)(hc:PE X c tc)
  (F:lastMarks [op,op'] [b,c]=false):PE X (.Compare a [op,op'] [b,c] pos) (rD r r' ta tb tc):=by
 intro zp s σ H Q I h;refine Compare_chain (thn (Z zp s σ H _ I h) ?_) F;rintro v m ⟨x,O,V,j,B⟩;refine chain_link (thn (T zp m σ O _ V B) ?_);rintro u l ⟨y,R,W,N,S⟩;refine thn (D zp l σ R x y v u _ W j N S) ?_;rintro d p ⟨z,K,L,q,k,rfl,M⟩;cases q;refine wpAny_truthy_bool ?_;cases k with
 |false=>exact ite_ff (.bl false,K,L,rfl,M)
 |true=>
  refine ite_tt (chain_last (thn (hc zp p σ K _ L M) ?_));rintro w' n ⟨z',U,Y,g,G⟩;erw[J zp n σ U y z' u w' Q Y N g G]
def xM{op op'}{r r'}(G:OpR X (compareOp op) r)(J:OpR X (compareOp op') r')(D:PE X a ta)(B:PE X b tb)(hc:PE X c tc)
  (S:lastMarks [op,op'] [b,c]=false):PT X (.Compare a [op,op'] [b,c] pos) (El (rD r r' ta tb tc)):=by
 intro zp s σ H Q I h;refine isTrue_chain (thn (D zp s σ H _ I h) ?_) S;rintro v s1 ⟨x,O,W,p,q⟩;refine test_link (thn (B zp s1 σ O _ W q) ?_);rintro u s2 ⟨y,R,Y,N,g⟩;refine thn (G zp s2 σ R x y v u _ Y p N g) ?_;rintro d s3 ⟨z,K,L,n,k,rfl,M⟩;cases n;refine wpAny_truthy_bool ?_;cases k with
 |false=>
  obtain⟨k',F,j⟩:=M;cases F;erw[ite_ff (K,L,j)]
 |true=>
  refine ite_tt (test_last (thn (hc zp s3 σ K _ L M) ?_));rintro w' s4 ⟨z',U,Z,r4,m⟩;refine thn (J zp s4 σ U y z' u w' _ Z N r4 m) ?_;rintro d' s5 ⟨z2,V,T,r5,k2,rfl,l⟩;cases r5;erw[wpAny_truthy_bool (V,T,l)]
def FN(K:fg0)(x:V)(H:Hp)(k:Bool):Prop:=
 match x with
 |.non=>k=false
 |.bl b=>k=b
 |.int i=>k=(i != 0)
 |.str y=>y.length<=sizeLine/\k=((y.length:Int) != 0)
 |.ref p=>(∃xs,SqL K H p xs/\k=!xs.isEmpty)\/(∃xs,SqT K H p xs/\k=!xs.isEmpty)\/∃J,H p=some (.dK J)/\k=!J.isEmpty
 |_=>False
def rE{Y}{kvs}{vs:List (Y×Value)}(r:KV kvs vs):(!vs.isEmpty)=!kvs.isEmpty:=by
 cases r<;>rfl
def jB{its}(r:Vals xs its):(!its.toArray.isEmpty)=!xs.isEmpty:=by
 cases r<;>simp
def fG:(sizeLine:Nat)<2 ^ 63:=by decide
def FO:LU X (λx H Q=>∃k,FN X.K x H k/\Q k H):=by
 intro zp s σ H x v Q I O h;obtain⟨k,e,q⟩:=h;have Z:=fG;have T:=sizeLine_eq;cases x with
 |non=>
  cases O;have J:=e;subst J;erw[truthy_none (H,I,q)]
 |bl b=>
  cases O;have J:=e;subst J;erw[wpAny_truthy_bool (H,I,q)]
 |int i=>
  obtain⟨t,rfl⟩:=O;have J:=e;subst J;erw[PySem.P.truthy_int (H,I,q)]
 |str y=>
  obtain⟨t,rfl⟩:=O;obtain⟨F,J⟩:y.length<=sizeLine/\k=((y.length:Int) != 0):=e;subst J;erw[PySem.P.truthy_str @1 (H,I.tok _,q)]
 |ref p=>
  cases O;have J:=e;rcases J with⟨xs,M,J⟩|⟨xs,M,J⟩|⟨N,M,J⟩
  .subst J
   obtain⟨R,r,U,W⟩:=I.list M;have L:=r.length;erw[wpAny_truthy_list U.isList (by simp only[ls0];lia) (H,I.tok _,by rw[jB r];exact q)]
  .subst J
   obtain⟨R,r,U,W⟩:=I.tuple M;have L:=r.length;erw[truthy_tuple U (by simp only[ls0];lia) (H,I.tok _,by rw[jB r];exact q)]
  .subst J
   obtain⟨W,Y,V,r,m⟩:N.length<=sizeLine/\(p==sysModules)=false/\∃V,KV N V/\s.heap.DictOf (aD X.prog X.w) p V:=I.hok p _ M;have L:=Paired.length r;erw[wpAny_truthy_dict Y m @1 (H,I.tok _,by rw[rE r];exact q)]
 |_=>exact (e:False).elim
def xN(N:PE X a ta)(O:∀J,isTrue a X.env J=(do let v ←J;standAt a.pos;holding [v] (truthy v))):
  PT X a (λσ H Q=>ta σ H λx H'=>∃k,FN X.K x H' k/\Q k H'):=by
 erw[λpins s σ H Q I h=>isTrue_plain (thn (N _ s σ H _ I h) (by rintro v V ⟨x,L,M,U,R⟩;exact FO _ V σ L x v Q M U R)) (O _)]
def op_add_str:OpR X (binaryOp .Add) (λx y H Q=>∃i j,x=.str i/\y=.str j/\i.length+j.length<=sizeLine/\Q (.str (i++j)) H):=by
 intro zp s σ H x y v u Q I K L h;obtain⟨i,j,rfl,rfl,J,q⟩:=h;obtain⟨t,rfl⟩:=K;obtain⟨t',rfl⟩:=L;erw[add_str (λt' M=>(.str _,H,I.tok _,(_,rfl),q)) J]
def vals1{x:V}(r:Vals [x] us):∃u,us=[u]/\RelV x u:=by
 cases r with
 |cons J K=>cases K;exact(_,rfl,J)
def vals2{x y}(r:Vals [x,y] us):∃u J,us=[u,J]/\RelV x u/\RelV y J:=by
 cases r with
 |cons K L=>
  cases L with
  |cons M N=>cases N;exact(_,_,rfl,K,M)
def vS(hc:X.calm=true):bb X (.builtin "max") (λxs H Q=>∃i j,xs=[.int i,.int j]/\Q (.int (if j>i then j else i)) H):=by
 intro zp s σ H xs us Q I r h;obtain⟨i,j,rfl,q⟩:=h;obtain⟨u,L,rfl,⟨t,rfl⟩,⟨t',rfl⟩⟩:=vals2 r;refine max_two_ints (I.ok.hd hc) λh' K k=>(_,H,I.kept k,?_,q)
 by_cases J:j>i
 .rw[if_pos J,if_pos J];exact(_,rfl)
 .rw[if_neg J,if_neg J];exact(_,rfl)
def vT:bb X (.type "int") (λxs H Q=>(∃i,xs=[.int i]/\Q (.int i) H)\/∃k,xs=[.bl k]/\Q (.int (if k then 1 else 0)) H):=by
 intro zp s σ H xs us Q I r h;rcases h with⟨i,rfl,q⟩|⟨k,rfl,q⟩
 .obtain⟨u,rfl,t,rfl⟩:=vals1 r
  erw[call_int_int (.int i,H,I,(_,rfl),q)]
 .obtain⟨u,rfl,J⟩:=vals1 r
  cases J;erw[call_int_bool (.int (if k then 1 else 0),H,I.tok _,(_,rfl),q)]
def LW(K:fg0)(x:V)(H:Hp)(n:Nat):Prop:=
 match x with
 |.str y=>y.length<=sizeLine/\n=y.length
 |.ref p=>(∃xs,SqL K H p xs/\n=xs.length)\/∃xs,SqT K H p xs/\n=xs.length
 |_=>False
def fV:bb X (.builtin "len") (λxs H Q=>∃x n,xs=[x]/\LW X.K x H n/\Q (.int n) H):=by
 intro zp s σ H xs us Q I r h;obtain⟨x,n,rfl,e,q⟩:=h;obtain⟨u,rfl,U⟩:=vals1 r;have W:=fG;have Y:=sizeLine_eq;cases x with
 |str y=>
  obtain⟨t,rfl⟩:=U;obtain⟨Z,L⟩:y.length<=sizeLine/\n=y.length:=e;subst L;erw[len_str @1 (.int _,H,I.tok _,(_,rfl),q)]
 |ref p=>
  cases U;have L:=e;rcases L with⟨xs,M,L⟩|⟨xs,M,L⟩
  .subst L
   obtain⟨N,R,O,V⟩:=I.list M;have J:=R.length;erw[Calls.call_len_list O.isList (by simp only[ls0];lia) (.int xs.length,H,I.tok _,(_,by simp only[ls0];rw[J]),q)]
  .subst L
   obtain⟨N,R,O,V⟩:=I.tuple M;have J:=R.length;erw[len_tuple O (by simp only[ls0];lia) (.int xs.length,H,I.tok _,(_,by simp only[ls0];rw[J]),q)]
 |_=>exact (e:False).elim
end
structure ObjM(h:Heap)(x dx C:Addr)(mA:A6):Prop where
 obj:h.get? x=some (PySem.W.instObj C dx)
 ns:h.Ns1 dx mA
 ne:dx≠x
set_option tactic.hygienic true in
def vU{dx}{mA}(n:h.Ns1 dx mA):∃K,h.get? dx=some K/\∀name,PySem.W.lookIn name K=some (mA name):=by
 obtain⟨o,es,V,R,M,N,_,O⟩:=n;refine(o,R,λname=>?_);have e:=O name;unfold nsFind findBy at e;rw[<-Array.find?_toList]at e;unfold PySem.W.lookIn;rw[M];dsimp only;split
 .simp_all
 .rename_i q
  rw[q]at e;have a:es.toList.any (·.refKey)=false:=by
   rw[List.any_eq_false];intro y U;obtain⟨z,t,J⟩:=N y (Array.mem_toList_iff.mp U);simp[DictEntry.refKey,J]
  have L:¬ es.toList.any (·.refKey)=true:=by rw[a];simp
  rw[if_neg L];erw[congrArg _ e]
def ObjM.look{x dx C}{mA}(I:ObjM h x dx C mA):∃J,PySem.W.InstAt h x (PySem.W.instObj C dx) C (some J)/\∀name,PySem.W.lookIn name J=some (mA name):=
 let ⟨J,L,K⟩:=vU I.ns
 (J,(I.obj,rfl,rfl,L),K)
section
variable {K:fg0}{x:Addr}{mA:A6}{name:Str}
def get_map{expr}(X:K.In s.heap)(I:ObjM s.heap x dx C mA)(N:PySem.W.plainGet K C name=true)(O:PySem.W.hasDictIn K C=true)
  (M:PySem.W.findIn K (.ref C) name=some none) (U:mA name=some v) (L:PySem.W.handedIn v=true) (h:Q v {s with toks:=s.toks+1}):
  wpAny @3 A (getAttr (.ref x) name expr) Q E s:=by
 obtain⟨V,J,R⟩:=I.look;erw[PySem.W.get_value X J (PySem.W.plainGet_of N).1 (PySem.W.findObj_own O M rfl (by rw[R,U])) L h]
def xO{pl:Sem Bool}{Q}(X:K.In s.heap)(I:ObjM s.heap x dx C mA)(L:PySem.W.plainGet K C name=true)
  (M:PySem.W.findIn K (.ref C) name=some (some (.ref f))) (N:PySem.W.isFn K (.ref f)=true) (U:mA name=none) (h:Q (.ref f,[.ref x]) s):
  wpAny @3 A (getMethod (.ref x) name pl) Q E s:=by
 obtain⟨O,J,R⟩:=I.look;erw[PySem.W.method_fn X J (PySem.W.plainGet_of L).1 (PySem.W.plainGet_of L).2 M (beq_iff_eq.mp N) (by show (PySem.W.lookIn _ O).map _=some _;simp_all) h]
def BN{ns}{Q:A7}(X:K.In s.heap)(I:ObjM s.heap x dx C mA)
  (hs:PySem.W.findIn K (.ref C) "__setattr__"=some (some (.builtin "object.__setattr__"))) (F:PySem.W.plainOver K C=true) (D:PySem.W.takerIn K C name=some none) (T:PySem.W.hasDictIn K C=true)
  (hw:PySem.Within mA ns) (hsz:ns.length<=sizeLine)
  (h:∀h',ObjM h' x dx C (λy=>if y=name then some v else mA y)->Heap.SameBut dx s.heap h'->Q () {s with heap:=h',toks:=s.toks+2}):
  wpAny @3 A (setAttr (.ref x) name v) Q E s:=by
 obtain⟨j,J,G⟩:=I.look;refine PySem.W.set_plain X J hs (PySem.W.osa_open (r:=none) X J F D λb=>?_);obtain⟨S,Z,O⟩:=PySem.W.any_some T;have B:=I.obj;refine wb0 (wq0 (wb0 (wb0 (wpAny_loadPart B (wb0 (PySem.W.Looks.here (PySem.W.looks_clsIn X Z) ?_))))));rw[O];refine wq0 (a:=some dx) (wb0 (wq0 (wb0 ?_)));refine wpAny_nsSet1 I.ns λh' L M=>?_
 obtain⟨oD,Y,V,U,R,N⟩:=L.count (PySem.Within.cons name v hw);refine wb0 (wpAny_lookBehind U (by rw[R];erw[pastItsLine_dict (nt0 N @4)]) ?_);erw[wq0 (h _ ((M.2 _ (Ne.symm I.ne)).trans I.obj,L,I.ne) M)]
def xP{R}{vs:A2}{kw}(X:K.In s.heap)(M:PySem.W.makesIn K C=true)
  (L:PySem.W.findIn K (.ref C) "__init__"=some (some (.ref f))) (J:PySem.W.typeIn K (.ref f)=some (.type "function"))
  (h:codeAny @3 (A.under (.builtin "type.__call__" (.ref C::vs,kw))) (.call (.ref f) (.ref (s.heap.objs.size+1)::vs,kw)) (PySem.W.InitBack (s.heap.objs.size+1) R)
   {s with heap:=(s.heap.push PySem.W.emptyDict).push (PySem.W.instObj C s.heap.objs.size)}):
  codeAny @3 A (.call (.ref C) (vs,kw)) R s:=PySem.W.make_core (PySem.W.makes_of X M) (PySem.W.looks_findIn X L) (λself=>PySem.W.bind_fn X _ J) (.inl rfl) h
end
noncomputable def fH(f:Str)(v:V):List (Str×V)->List (Str×V)
 |[]=>[(f,v)]
 |(g,x)::r=>if g=f then (g,v)::r else (g,x)::fH f v r
theorem iN(f g:Str)(v:V):∀L:List (Str×V),(fH f v L).lookup g=if g=f then some v else L.lookup g
 |[]=>by
  show List.lookup g [(f,v)]=_
  by_cases h:g=f
  .simp_all
  .have J:=bn0 h
   simp only[List.lookup,J,if_neg h]
 |(k,x)::r=>by
  have ih:=iN f g v r;rw[show fH f v ((k,x)::r)=(if k=f then (k,v)::r else (k,x)::fH f v r)from rfl]
  by_cases K:k=f
  .rw[if_pos K]
   by_cases h:g=k
   .simp_all
   .have J:=bn0 h
    simp only[List.lookup,J,if_neg (λe:g=f=>h (e.trans K.symm))]
  .rw[if_neg K]
   by_cases h:g=k
   .simp_all
   .have J:=bn0 h
    simp only[List.lookup,J];erw[ih]
theorem hW(f:Str)(v:V):∀J:List (Str×V),f∈(fH f v J).map (·.1)/\∀g,g∈J.map (·.1)->g∈(fH f v J).map (·.1)
 |[]=>(by simp[fH],λg h=>by simp at h)
 |(k,x)::r=>by
  obtain⟨L,M⟩:=hW f v r;rw[show fH f v ((k,x)::r)=(if k=f then (k,v)::r else (k,x)::fH f v r)from rfl]
  by_cases K:k=f
  .rw[if_pos K]
   subst K;exact(by simp,λg h=>by simpa using h)
  .rw[if_neg K]
   refine(?_,λg h=>?_)
   .rw[mk0]
    erw[mc0 _ L]
   .rw[mk0]at h ⊢
    rcases mq0 h with e|e
    .erw[List.mem_cons.mpr (.inl e)]
    .erw[mc0 _ (M g e)]
theorem iO(f:Str)(v:V):∀J:List (Str×V),(fH f v J).length<=J.length+1
 |[]=>by simp[fH]
 |(k,x)::r=>by
  have ih:=iO f v r;rw[show fH f v _=(if k=f then (k,v)::r else (k,x)::fH f v r)from rfl]
  grind
def RelO.some_of{v:V}{o}(r:RelO (some v) o):∃u,o=some u/\RelV v u:=by
 cases o with
 |none=>exact (r).elim
 |some u=>exact(u,rfl,r)
def RelO.none_of{o}(r:RelO none o):o=none:=by
 cases o with
 |none=>rfl
 |some u=>exact (r:False).elim
def vV{v:V}(r:RelV v u):PySem.W.handedIn u=true:=by
 cases v with
 |non=>cases (r:u=Value.none);rfl
 |bl b=>cases (r:u=Value.bool b);rfl
 |int i=>obtain⟨t,e⟩:=(r:∃t,u=Value.int i t);cases e;rfl
 |str x=>obtain⟨t,e⟩:=(r:∃t,u=Value.str x t);cases e;rfl
 |ref a=>cases (r:u=Value.ref a);rfl
 |ty n=>cases (r:u=Value.type n);rfl
section
variable {fs fs':List (Str×V)}
def jd(K:HOk P w H h)(e:H a=some (.ins C dx fs)):∃J,ObjM h a dx C J/\(∀f,RelO (fs.lookup f) (J f))/\PySem.Within J (fs.map (·.1))/\fs.length<=1000/\H dx=some (.own a):=by
 obtain⟨d,z,L,M,J,n,r,q⟩:=(K a _ e:ObjOk P w H h a (.ins C dx fs));exact(J,(M,n,L),r,q,z,d)
end
structure Cls(K:fg0)(C:Addr):Prop where
 pg:PySem.W.plainGet K C Str.empty=true
 hd:PySem.W.hasDictIn K C=true
 po:PySem.W.plainOver K C=true
 sa:PySem.W.findIn K (.ref C) "__setattr__"=some (some (.builtin "object.__setattr__"))
def Cls.get{K:fg0}(c:Cls K C)(f:Str):PySem.W.plainGet K C f=true:=c.pg
def NoAttr(K:fg0)(C:Addr)(f:Str):Prop:=PySem.W.findIn K (.ref C) f=some none
def NoAttr.taker{K:fg0}{f:Str}(n:NoAttr K C f):PySem.W.takerIn K C f=some none:=by
 unfold PySem.W.takerIn;rw[n];rfl
structure nr(K:fg0)(C:Addr)(m:Str)(f:Addr):Prop where
 at_:PySem.W.findIn K (.ref C) m=some (some (.ref f))
 fn:PySem.W.isFn K (.ref f)=true
 kp:PySem.W.keepIn K (.ref f)=true
section
variable {fs:List (Str×V)}{f:Str}{v:V}
def rF{b:Bool}(I:Inv X zp σ H s)(e:H a=some (.ins C dx fs))(c:Cls X.K C)(n:NoAttr X.K C f)(l:fs.lookup f=some v)
  (h:∀u L,Inv X zp σ H L->RelV v u->Q u L):wpAny @5 A (getAttr (.ref a) f b) Q E s:=by
 obtain⟨N,O,r,_,_,_⟩:=jd I.hok e;obtain⟨u,M,J⟩:=RelO.some_of (by rw[<-l];erw[r f]);erw[get_map I.kIn O (c.get f) c.hd n M (vV J) (h u _ (I.tok _) J)]
def fI{m:Str}{g:Addr}{pl:Sem Bool}{Q:Value×List Value->Shared->Prop}(I:Inv X zp σ H s)(e:H a=some (.ins C dx fs))(c:Cls X.K C)(k:nr X.K C m g)(l:fs.lookup m=none)
  (h:Q (.ref g,[.ref a]) s):wpAny @5 A (getMethod (.ref a) m pl) Q E s:=by
 obtain⟨J,O,r,_,_,_⟩:=jd I.hok e;erw[xO I.kIn O (c.get m) k.at_ k.fn (RelO.none_of (by rw[<-l];exact r m)) h]
def rG{y}{Q:A7}(I:Inv X zp σ H s)(e:H a=some (.ins C dx fs))(c:Cls X.K C)(n:NoAttr X.K C f)(F:fs.length<1000)(Z:RelV y u)
  (h:∀M,Inv X zp σ (upd H a (.ins C dx (fH f y fs))) M->Q () M):wpAny @5 A (setAttr (.ref a) f u) Q E s:=by
 obtain⟨D,O,r,N,_,L⟩:=jd I.hok e;have Y:(fs.map (·.1)).length<=sizeLine:=by rw[lm0,sizeLine_eq];lia
 refine BN I.kIn O c.sa c.po n.taker c.hd N Y λh' J T=>h _ ?_
 have V:∃o,h'.get? dx=some o:=let ⟨o,_,_,R,_⟩:=J.ns;(o,R)
 refine I.write (x:=a) (e:=dx) (by rw[e];erw[True.intro]) (.inr L) (λb q U z=>(T.2 b U).trans z) V ?_;refine(by rw[ab O.ne];erw[L],?_,O.ne,J.obj,_,J.ns,λg=>?_,λg W=>?_)
 .have:=iO f y fs;lia
 .rw[iN]
  by_cases q:g=f
  .rw[if_pos q,if_pos q];erw[Z]
  simp_all
 .by_cases q:g=f
  .rw[q];exact (hW f y fs).1
  .refine (hW f y fs).2 g (N g λz=>W ?_)
   simp_all
def Inv.made(I:Inv X zp σ H s):Inv X zp σ (upd (upd H s.heap.objs.size (.own (s.heap.objs.size+1))) (s.heap.objs.size+1) (.ins C s.heap.objs.size []))
  {s with heap:=(s.heap.push PySem.W.emptyDict).push (PySem.W.instObj C s.heap.objs.size)}:=by
 have J:(s.heap.push PySem.W.emptyDict).get? s.heap.objs.size=some PySem.W.emptyDict:=pz0 s.heap rfl;have M:((s.heap.push PySem.W.emptyDict).push (PySem.W.instObj C s.heap.objs.size)).get? (s.heap.objs.size+1)=some (PySem.W.instObj C s.heap.objs.size):=by
  have:=pz0 (s.heap.push PySem.W.emptyDict) (o:=PySem.W.instObj C s.heap.objs.size) rfl
  rwa [Heap.size_push]at this
 have N:(s.heap.push PySem.W.emptyDict).Ns s.heap.objs.size (λc=>none):=(PySem.W.emptyDict,#[],_,J,rfl,(λe O=>absurd O @0),λc=>rfl);have L:=I.laid (a:=s.heap.objs.size) (o:=.own (s.heap.objs.size+1)) (h':=s.heap.push PySem.W.emptyDict) (t':=s.toks) (λb u q=>ps0 _ q) (nr0 _) (_,J);refine L.laid (a:=s.heap.objs.size+1) (o:=.ins C s.heap.objs.size []) (t':=s.toks) (λb u q=>ps0 _ q) (Nat.le_of_eq (Heap.size_push _ _)) ?_;have K:s.heap.objs.size≠s.heap.objs.size+1:=nn0 (Nat.lt_succ_self _);refine(by rw[ab K,aa],Nat.zero_le _,K,M,λc=>none,(Heap.Ns1.of_empty N).at λo q=>ps0 _ q,λc=>True.intro,λy R=>absurd rfl R)
def attr_of{env}{f:Str}(K:attributeBase e f env (eval e env)=eval e env)
  (h:wpAny @3 A (eval e env) (λo J=>wpAny @3 A (getAttr o f true) Q E J) E s):wpAny @3 A (eval (.Attribute e f pos) env) Q E s:=
 Attribute_any_ h (by rw[arm_eval_Attribute,K])
end
def LX(K:fg0)(ta:TE)(f:Str):TE:=λσ H Q=>ta σ H λx J=>∃a C dx L v,x=.ref a/\J a=some (.ins C dx L)/\Cls K C/\NoAttr K C f/\L.lookup f=some v/\Q v J
def LY(K:fg0)(ta N:TE)(f:Str):TS:=λD σ H=>N σ H λy M=>ta σ M λx L=>∃a C dx J,x=.ref a/\L a=some (.ins C dx J)/\Cls K C/\NoAttr K C f/\J.length<1000/\
 D.nx σ (upd L a (.ins C dx (fH f y J)))
section
variable {value:Expr}{f:Str}{pos' tpos:Pos}{tv:TE}
def rH(R:PE X e ta)(O:attributeBase e f X.env (eval e X.env)=eval e X.env):PE X (.Attribute e f pos) (LX X.K ta f):=by
 intro zp s σ H Q I h;refine attr_of O (thn (R zp s σ H _ I h) ?_);rintro u Y ⟨x,J,L,V,a,C,dx,W,v,ex,N,c,n,l,q⟩;subst ex;obtain rfl:u=Value.ref a:=V;erw[rF L N c n l λT Z M U=>(v,J,M,U,q)]
def xQ(R:PE X o ta)(U:PE X value tv)(hs:swapsWith value (some (.Attribute o f pos')) pos.line X.env=pure false):PS X (.Assign [.Attribute o f pos'] value pos) (LY X.K ta tv f):=by
 intro zp s σ H D I h;refine plainObj_wpAny_Assign_Attribute (thn (U zp s σ H _ I h) λu T ⟨y,J,L,Z,q⟩=>thn (R zp T σ J _ L q) ?_) hs;rintro V S ⟨x,F,M,Y,a,C,dx,B,ex,O,c,n,l,W⟩;subst ex;obtain rfl:V=Value.ref a:=Y;erw[rG M O c n l Z λG N=>(σ,_,N,W)]
def Em{pl:Sem Bool}{m}{apos}{args}(O:PE X e te)(I:Inv X zp σ H s)
  (h:te σ H λx J=>∃a C dx L g,x=.ref a/\J a=some (.ins C dx L)/\Cls X.K C/\nr X.K C m g/\L.lookup m=none/\
   ∀s1,Inv X zp σ J s1->wpAny @5 X.A (callWith pos (.ref g) [.ref a] (backTo pos (starEach args X.env)) (backToKw pos (keywordEach [] X.env))) Q X.xe s1)
  (R:eval (.Call (.Attribute e m apos) args [] pos) X.env=(do
   let ov ←eval e X.env
   standAt apos.atName
   let (f,first) ←holding [ov] (getMethod ov m pl)
   callWith pos f first (backTo pos (starEach args X.env)) (backToKw pos (keywordEach [] X.env)))):
  wpAny @5 X.A (eval (.Call (.Attribute e m apos) args [] pos) X.env) Q X.xe s:=by
 refine PySem.W.methodCall_KW (pl:=pl) (thn (O zp s σ H _ I h) ?_) R;rintro u s1 ⟨x,J,M,U,a,C,dx,L,g,ex,N,c,k,l,q⟩;subst ex;obtain rfl:u=Value.ref a:=U;erw[fI M N c k l (q s1 M)]
end
section
variable {c:Value}{b:Bool}
inductive fW (K:fg0)(H:Hp):V->Value->Prop where
 |bl (x:Bool):fW K H (.bl x) (.type "bool")
 |int (i:Int):fW K H (.int i) (.type "int")
 |lst {a:Addr}{xs:List V} (e:H a=some (.lst xs)):fW K H (.ref a) (.type "list")
 |tup {a:Addr}{xs:List V} (e:H a=some (.tup xs)):fW K H (.ref a) (.type "tuple")
def vW{x:V}{u t}(I:Inv X zp σ H s)(J:RelV x u)(O:fW X.K H x t)(e:PySem.W.kitOne X.K t c=some b)(h:∀tk,Q (.bool b) {s with toks:=tk}):
  wpAny @5 A (call (.builtin "isinstance") [u,c]) Q E s:=by
 cases O with
 |bl y=>cases (J:u=Value.bool y);erw[PySem.W.kia_one PySem.W.kitx_bool I.kIn True.intro e (λz=>nomatch z) h]
 |int i=>obtain⟨t,q⟩:=(J:∃t,u=Value.int i t);cases q;erw[PySem.W.kia_one PySem.W.kitx_int I.kIn True.intro e (λz=>nomatch z) h]
 |@lst a xs L=>
  cases (show u=Value.ref a from J);obtain⟨_,_,n,_,M⟩:=(I.hok a _ L:ObjOk X.prog X.w H s.heap a (.lst xs));erw[PySem.W.kia_one PySem.W.kitx_list I.kIn (_,M,rfl) e (λz=>nomatch z) h]
 |@tup a xs L=>
  cases (show u=Value.ref a from J);obtain⟨_,_,_,p⟩:=(I.hok a _ L:ObjOk X.prog X.w H s.heap a (.tup xs));obtain⟨o,M,N,_⟩:=p;erw[PySem.W.kia_one PySem.W.kitx_tuple I.kIn (o,M,N) e (λz=>nomatch z) h]
end
structure Room(k:Nat)(A:Around):Prop where
 hd:A.handled=none
 dp:A.depth+3*k+5<recursionLimit
 un:A.units+16*k+200<cLine
def Room.mono{j k}(r:Room k A)(h:j<=k):Room j A:=(r.hd,by have:=r.dp;grind,by have:=r.un;grind)
theorem Room.deeper(r:Room (k+1) A)(env:Env):Room k (A.deeper env):=
 (r.hd,by have:=r.dp;show A.depth+1+3*k+5<_;grind,by have:=r.un;show A.units+3+16*k+200<_;grind)
def rJ{kw}:(A.under (.builtin "type.__call__" (.ref C::us,kw))).depth=A.depth+1:=rfl
def rK{kw}:(A.under (.builtin "type.__call__" (.ref C::us,kw))).units=A.units+1:=by
 first|rfl|simp[Around.under,Code.cUnits,Code.frames,Code.isFrame]
def Room.make(r:Room (k+1) A)(C:Addr)(us:A2)(J:List (Str×Value)):Room k (A.under (.builtin "type.__call__" (.ref C::us,J))):=
 (r.hd,by have:=r.dp;rw[rJ];grind,by have:=r.un;rw[rK];grind)
theorem Room.depth(r:Room k A):A.depth<recursionLimit:=by have:=r.dp;grind
theorem Room.units(r:Room k A):A.units+64<cLine:=by have:=r.un;grind
def FP:TA:=λa H Q=>Q [] H
def Jh(ta:TE)(L:TA):TA:=λσ H Q=>ta σ H λx J=>L σ J λxs K=>Q (x::xs) K
def pa_nil:PA X [] FP:=λa a a a H Q I h=>Calls.spliced_nil ([],H,I,.nil,h)
def pa_cons(N:PE X e te)(O:PA X es t)(hs:starEach (e::es) X.env=(false,eval e X.env)::starEach es X.env:=by rfl):PA X (e::es) (Jh te t):=by
 intro pos zp s σ H Q I h;rw[hs];show wpAny _ _ (spliced ((false,eval e _)::backTo _ _)) _ _ s;erw[Calls.spliced_cons (thn (N _ s σ H _ I h) (by rintro u Y ⟨x,J,L,V,R⟩;exact thn (O _ _ Y σ J _ L R) (by rintro us Z ⟨xs,K,M,W,U⟩;exact(_,K,M,.cons V W,U))))]
def LZ(t:TA):TE:=λσ H Q=>t σ H λxs J=>xs.length<=sizeLine/\∀p,J p=none->Q (.ref p) (upd J p (.tup xs))
def Ma(t:TA):TE:=λσ H Q=>t σ H λxs J=>xs.length<=sizeLine/\∀p,J p=none->Q (.ref p) (upd J p (.lst xs))
def xR{x1}(h:PA X es t):PE X (.Tuple es x1 pos) (LZ t):=by
 intro zp s σ H Q I K;refine wpAny_Tuple_spliced (thn (h _ _ s σ H _ I K) λus M ⟨xs,L,J,r,z,q⟩=>(by rwa [<-r.length],?_));refine(.ref _,_,J.laid (λb u e=>ps0 _ e) (nr0 _) ?_,rfl,q _ (J.hok.fresh (nr0 _)));exact(z,us,r,(_,pz0 _ rfl,rfl,_,rfl))
def xS(h:PA X es t):PE X (.List es pos) (Ma t):=by
 intro zp s σ H Q I K;refine wpAny_List_spliced (thn (h _ _ s σ H _ I K) λus M ⟨xs,L,J,r,z,q⟩=>(by rwa [<-r.length],?_));refine(.ref _,_,J.laid (λb u e=>ps0 _ e) (nr0 _) ?_,rfl,q _ (J.hok.fresh (nr0 _)));exact(z,us,0,r,pz0 _ rfl)
abbrev Sp:=List V->Hp->VK->XK->Prop
abbrev CXT:=List Env->Hp->Shared->XK->Value->Shared->Prop
structure Env0(P:Program)(w:World)(K:fg0)(mg:A6)(base:Heap)(A:Around)(outer:List Env)(s:Shared)(H:Hp):Prop where
 frames:A.frames=some outer
 mod:Mod K mg base
 bs:∀b o,base.get? b=some o->s.heap.get? b=some o/\H b=none
 bsz:base.objs.size<=s.heap.objs.size
 funs:s.heap.FunFrames base outer
 frf:∀b∈frs outer,H b=none
 hok:HOk P w H s.heap
 bare:AllBare s.gens
def CE(outer:List Env)(P:Program)(w:World)(H:Hp)(s:Shared)(Q:VK)(u:Value)(J:Shared):Prop:=
 ∃v H',J.os=s.os/\AllBare J.gens/\Un (frs outer) [] H H' s.heap J.heap/\HOk P w H' J.heap/\RelV v u/\Q v H'
def CR(K:CXT)(outer:List Env)(P:Program)(w:World)(H:Hp)(s:Shared)(Q:VK)(E:XK)(r:Result)(J:Shared):Prop:=
 match r with
 |.ok (.ret u)=>CE outer P w H s Q u J
 |.ok _=>False
 |.error e=>K outer H s E e J
structure FnOk(P:Program)(w:World)(K:fg0)(mg:A6)(base:Heap)(CX:CXT)(k:Nat)(f:Addr)(fd:FuncData)(ps:A1)(sp:Sp):Prop where
 len:∀vs H Q E,sp vs H Q E->vs.length=ps.length
 run:∀(A:Around)(outer:List Env)(s:Shared)(H:Hp)(args:Args)(us:A2)(vs:List V)(Q:VK)(E:XK),Room k A->Env0 P w K mg base A outer s H->BindsTo s fd args (ps.zip us)->Vals vs us->sp vs H Q E->
  codeAny (model P w) A (.call (.ref f) args) (CR CX outer P w H s Q E) s
def FnOk.imp{K:fg0}{J:CXT}{sp sp'}(F:FnOk P w K mg base J k f fd ps sp)
  (h:∀vs H Q E,sp' vs H Q E->sp vs H Q E):FnOk P w K mg base J k f fd ps sp':=
 (λvs H Q E q=>F.len vs H Q E (h _ _ _ _ q),λA outer s H args us vs Q E N M L R O=>F.run A outer s H args us vs Q E N M L R (h _ _ _ _ O))
def Env0.make{K:fg0}{outer}(e:Env0 P w K mg base A outer s H)(C:Addr)(us:A2)(kw):
  Env0 P w K mg base (A.under (.builtin "type.__call__" (.ref C::us,kw))) outer s H:=(by first|exact e.frames|(simpa [Around.under,Code.envs,Code.isFrame,pushEnvs]using e.frames),e.mod,e.bs,e.bsz,e.funs,e.frf,e.hok,e.bare)
section
variable {s':Shared}
def Inv.env0(I:Inv X zp σ H s):Env0 X.prog X.w X.K X.mg X.base X.A X.stack s H:=
 (I.ok.frames,I.ok.mod,I.bs,nt0 I.ok.bsz I.sz,I.stack,I.stkFree,I.hok,I.bare)
def Inv.after{Q:VK}(I:Inv X zp σ H s)(h:CE X.stack X.prog X.w H s Q u s'):EP X zp σ Q u s':=by
 obtain⟨v,H',M,bare,N,J,r,q⟩:=h;obtain⟨L,g,d,t,K⟩:=s';obtain rfl:K=s.os:=M;exact(v,H',I.call (h':=L) (g':=g) (d':=d) (t':=t) (ch:=[]) N J bare (λb z=>absurd z @0),r,q)
end
def Ji(L:Sp)(J:List V)(E:XK)(t:TA):TE:=λσ H Q=>t σ H λM K=>L (M++J) K Q E
def Eo(C:Addr)(m:Str)(N:Sp)(J:List V)(E:XK)(ta:TE)(t:TA):TE:=λσ H Q=>ta σ H λx K=>∃a dx L,x=.ref a/\K a=some (.ins C dx L)/\L.lookup m=none/\
 t σ K λO M=>N (x::(O++J)) M Q E
def Jj(C:Addr)(M:Sp)(K:List V)(E:XK)(t:TA):TE:=λσ H Q=>t σ H λN J=>∀x dx,J x=none->J dx=none->dx≠x->
 M (.ref x::(N++K)) (upd (upd J dx (.own x)) x (.ins C dx [])) (λv L=>v=.non/\Q (.ref x) L) E
def Binds(K:fg0)(fd:FuncData)(ps:A1)(ds:A2):Prop:=
 ∀(s:Shared)(us:A2),K.In s.heap->(us++ds).length=ps.length->BindsTo s fd (us,[]) (ps.zip (us++ds))
def Binds.all{K:fg0}(h:∀us:List Value,us.length=ps.length->bindArgs fd (us,[])=pure (ps.zip us)):Binds K fd ps []:=λs us a J=>by
 rw[List.append_nil]at J ⊢;exact .of_eq (h us J)
def fJ(K:CXT)(X:Cx)(E:XK):Prop:=∀(zp:A5)(σ:St)(H:Hp)(s:Shared)(e:Value)(J:Shared),Inv X zp σ H s->K X.stack H s E e J->X.xe e J
section
variable {CX:CXT}{sp:Sp}{dvs:List V}{ds:A2}{E:XK}{m:Str}{p apos:Pos}
def rL{Q:VK}{vs}(F:FnOk X.prog X.w X.K X.mg X.base CX k f fd ps sp)(U:Room k X.A)(N:Binds X.K fd ps ds)(O:Vals dvs ds)(V:fJ CX X E)
  (I:Inv X zp σ H s) (r:Vals vs us) (h:sp (vs++dvs) H Q E):wpAny @5 X.A (call (.ref f) us) (EP X zp σ Q) X.xe s:=by
 have L:=r.append O;have R:(us++ds).length=ps.length:=by rw[<-L.length];erw[F.len _ _ _ _ h]
 refine wpAny_call (codeAny_mono (F.run X.A X.stack s H (us,[]) (us++ds) (vs++dvs) Q E U I.env0 (N s us I.kIn R) L h) λr W J=>?_);cases r with
 |error e=>exact V zp σ H s e W I J
 |ok M=>
  cases M with
  |ret u=>exact I.after J
  |next=>exact False.elim J
  |brk=>exact False.elim J
  |cont=>exact False.elim J
def tY(F:FnOk X.prog X.w X.K X.mg X.base CX k f fd ps sp)(T:Room k X.A)(V:Gl X x)(Z:X.mg x=some (.ref f))(Y:PySem.W.keepIn X.K (.ref f)=true)(O:Binds X.K fd ps ds)(R:Vals dvs ds)(D:fJ CX X E)
  (N:PA X (e::es) t) (J:(x==("__debug__":Str))=false) (U:starEach (e::es) X.env=(false,eval e X.env)::starEach es X.env) (L:(backTo pos (starEach es X.env)).any (·.1)=false):
  PE X (.Call (.Name x p) (e::es) [] pos) (Ji sp dvs E t):=by
 erw[λpins s σ H Q I h=>wpAny_Call_Name_kw (ld_glob I V Z (PySem.W.callWith_K I.ok.mod.kin Y (thn (N _ _ s σ H _ I h) (by rintro us S ⟨G,B,M,r,q⟩;exact(M.kIn,rL F T O R D M r q))) U L) J)]
def tZ{pl:Sem Bool}(T:PE X o ta)(c:Cls X.K C)(O:nr X.K C m f)(F:FnOk X.prog X.w X.K X.mg X.base CX k f fd ps sp)(D:Room k X.A)(Y:Binds X.K fd ps ds)(Z:Vals dvs ds)(S:fJ CX X E)(V:PA X (e::es) t)
  (L:starEach (e::es) X.env=(false,eval e X.env)::starEach es X.env) (J:(backTo pos (starEach es X.env)).any (·.1)=false)
  (B:eval (.Call (.Attribute o m apos) (e::es) [] pos) X.env=(do
   let ov ←eval o X.env
   standAt apos.atName
   let (f,first) ←holding [ov] (getMethod ov m pl)
   callWith pos f first (backTo pos (starEach (e::es) X.env)) (backToKw pos (keywordEach [] X.env)))):
  PE X (.Call (.Attribute o m apos) (e::es) [] pos) (Eo C m sp dvs E ta t):=by
 intro zp s σ H Q I h;refine PySem.W.methodCall_KW (pl:=pl) (thn (T zp s σ H _ I h) ?_) B;rintro u z ⟨x,R,M,j,a,dx,g,ex,U,l,q⟩;subst ex;obtain rfl:u=Value.ref a:=j;refine fI M U c O l ?_;refine PySem.W.callWith_K (first:=[.ref a]) (h₀:=X.base) I.ok.mod.kin O.kp (thn (V pos zp z σ R _ M q) λus d ⟨vs,y,N,r,G⟩=>(N.kIn,?_)) L J;erw[rL (us:=.ref a::us) (vs:=.ref a::vs) F D Y Z S N (.cons rfl r) G]
def xT{pl:Sem Bool}(R:PE X o ta)(c:Cls X.K C)(L:nr X.K C m f)(F:FnOk X.prog X.w X.K X.mg X.base CX k f fd ps sp)(U:Room k X.A)(N:Binds X.K fd ps ds)(O:Vals dvs ds)(Y:fJ CX X E)
  (V:eval (.Call (.Attribute o m apos) [] [] pos) X.env=(do
   let ov ←eval o X.env
   standAt apos.atName
   let (f,first) ←holding [ov] (getMethod ov m pl)
   callWith pos f first (backTo pos (starEach [] X.env)) (backToKw pos (keywordEach [] X.env)))):
  PE X (.Call (.Attribute o m apos) [] [] pos) (Eo C m sp dvs E ta FP):=by
 intro zp s σ H Q I h;refine PySem.W.methodCall_KW (pl:=pl) (thn (R zp s σ H _ I h) ?_) V;rintro u B ⟨x,T,J,Z,a,dx,D,ex,M,l,q⟩;subst ex;obtain rfl:u=Value.ref a:=Z;refine fI J M c L l ?_;erw[PySem.W.callWith_K0 (first:=[.ref a]) J.kIn L.kp (rL (us:=[.ref a]) (vs:=[.ref a]) F U N O Y J (.cons rfl .nil) q)]
structure Mk(K:fg0)(C f:Addr):Prop where
 makes:PySem.W.makesIn K C=true
 init:PySem.W.findIn K (.ref C) "__init__"=some (some (.ref f))
 fn:PySem.W.isFn K (.ref f)=true
 kp:PySem.W.keepIn K (.ref C)=true
def run_make{Q:VK}{vs}(M:Mk X.K C f)(F:FnOk X.prog X.w X.K X.mg X.base CX k f fd ps sp)(D:Room (k+1) X.A)(Y:Binds X.K fd ps ds)(Z:Vals dvs ds)
  (B:fJ CX X E) (I:Inv X zp σ H s) (r:Vals vs us)
  (h:∀x dx,H x=none->H dx=none->dx≠x->sp (.ref x::(vs++dvs)) (upd (upd H dx (.own x)) x (.ins C dx [])) (λv R=>v=.non/\Q (.ref x) R) E):
  wpAny @5 X.A (call (.ref C) us) (EP X zp σ Q) X.xe s:=by
 have N:=h (s.heap.objs.size+1) s.heap.objs.size (I.hok.fresh (Nat.le_succ _)) (I.hok.fresh (nr0 _)) (nn0 (Nat.lt_succ_self _));have L:=Inv.made (C:=C) I;have O:Vals (V.ref (s.heap.objs.size+1)::(vs++dvs)) (Value.ref (s.heap.objs.size+1)::(us++ds)):=.cons rfl (r.append Z);have T:(Value.ref (s.heap.objs.size+1)::us++ds).length=ps.length:=by
  have e:=O.length;rw[F.len _ _ _ _ N]at e;erw[e.symm]
 refine wpAny_call (xP (f:=f) I.kIn M.makes M.init (beq_iff_eq.mp M.fn) (codeAny_mono (F.run _ X.stack _ _ (Value.ref (s.heap.objs.size+1)::us,[]) (Value.ref (s.heap.objs.size+1)::(us++ds)) _ _ E (D.make C us [])
  (L.env0.make C us []) (Y _ (Value.ref (s.heap.objs.size+1)::us) L.kIn T) O N) λr j J=>?_))
 cases r with
 |error e=>exact B zp σ _ _ e j L J
 |ok W=>
  cases W with
  |ret u=>
   obtain⟨v,H',U,G,ev,S⟩:=L.after J;subst ev;exact(G,(V.ref (s.heap.objs.size+1),H',U,rfl,S))
  |next=>exact False.elim J
  |brk=>exact False.elim J
  |cont=>exact False.elim J
def xU(M:Mk X.K C f)(F:FnOk X.prog X.w X.K X.mg X.base CX k f fd ps sp)(U:Room (k+1) X.A)(O:Gl X x)(R:X.mg x=some (.ref C))(L:Binds X.K fd ps ds)(N:Vals dvs ds)(V:fJ CX X E)
  (J:(x==("__debug__":Str))=false):PE X (.Call (.Name x p) [] [] pos) (Jj C sp dvs E FP):=by
 intro zp s σ H Q I h;refine wpAny_Call_Name_kw (ld_glob I O R ?_ J);erw[PySem.W.callWith_K0 I.kIn M.kp (run_make (us:=[]) M F U L N V I .nil h)]
end
section
variable {CX:CXT}{ks:A1}{sp:Sp}{E:XK}{m:Str}{p apos kpos:Pos}{kws:List Keyword}{tk:TA}{nm:Option Str}
variable {g:List Value->List Value->List Value}{gV:List V->List V->List V}
end
structure cf(N P:A1)(sc:Scope):Prop where
 kind:sc.kind=.function
 co:sc.isCoroutine=false
 gen:sc.isGenerator=false
 nd:N.Nodup
 pre:N.take P.length=P
 par:∀x∈P,sc.names.lookup x=some .local\/sc.names.lookup x=some .cell
 nofree:∀y∈sc.names,y.2≠.free
theorem kT{kindOf:Str->Option NameKind}:∀{binds:List (Str×Value)}{m:A6},(∀v,(x,v)∉binds)->bindL kindOf binds m x=m x
 |[],_,_=>rfl
 |(n,v)::r,m,h=>by
  unfold bindL;rw[kT λw J=>h w (mc0 _ J)];split
  .have:x≠n:=by rintro rfl;erw[h v ms0]
   simp[this]
  .rfl
theorem kU{kindOf:Str->Option NameKind}:∀{binds:List (Str×Value)}{m:A6},(∀v,(x,v)∉binds)->bindC kindOf binds m x=m x
 |[],_,_=>rfl
 |(n,v)::r,m,h=>by
  unfold bindC;rw[kU λw J=>h w (mc0 _ J)];split
  .rfl
  .have:x≠n:=by rintro rfl;erw[h v ms0]
   simp[this]
theorem kW{kindOf:Str->Option NameKind}:∀{P:A1}{vs:A2}{i:Nat}{m:A6},P.Nodup->P[i]?=some x->vs[i]?=some v->kindOf x=some .local->
  bindL kindOf (P.zip vs) m x=some v
 |[],_,_,_,_,h,_,_=>by simp at h
 |_::_,[],_,_,_,_,h,_=>by simp at h
 |p::P,w::vs,0,m,M,J,K,L=>by
  simp at J K;subst J;subst K;show bindL kindOf ((p,w)::P.zip vs) m p=_;unfold bindL;rw[kT λv N=>(List.nodup_cons.mp M).1 (List.of_mem_zip N).1,if_pos L];simp
 |p::P,w::vs,i+1,m,M,J,K,L=>by
  show bindL kindOf ((p,w)::P.zip vs) m x=_;unfold bindL;erw[kW (i:=i) (List.nodup_cons.mp M).2 (by simpa using J) (by simpa using K) L]
theorem kX{kindOf:Str->Option NameKind}:∀{P:A1}{vs:A2}{i:Nat}{m:A6},P.Nodup->P[i]?=some x->vs[i]?=some v->kindOf x≠some .local->
  bindC kindOf (P.zip vs) m x=some v
 |[],_,_,_,_,h,_,_=>by simp at h
 |_::_,[],_,_,_,_,h,_=>by simp at h
 |p::P,w::vs,0,m,M,J,K,L=>by
  simp at J K;subst J;subst K;show bindC kindOf ((p,w)::P.zip vs) m p=_;unfold bindC;rw[kU λv N=>(List.nodup_cons.mp M).1 (List.of_mem_zip N).1,if_neg L];simp
 |p::P,w::vs,i+1,m,M,J,K,L=>by
  show bindC kindOf ((p,w)::P.zip vs) m x=_;unfold bindC;erw[kX (i:=i) (List.nodup_cons.mp M).2 (by simpa using J) (by simpa using K) L]
noncomputable def start(N:A1)(vs:List V):St:=vs.map some++List.replicate (N.length-vs.length) none
noncomputable def iV(M:CXT)(P:Program)(w:World)(K:fg0)(mg:A6)(base:Heap)(N:A1)(qual:Str)(scope:Scope)(f:Addr)(L:Value)(A:Around)(outer:List Env)(s:Shared)(H:Hp)(E:XK):Cx where
 prog:=P
 w:=w
 K:=K
 mg:=mg
 base:=base
 A:=A.deeper (envOfC qual scope s.heap.objs.size f L)
 N:=N
 s₀:=s
 H₀:=H
 env:=envOfC qual scope s.heap.objs.size f L
 outer:=outer
 stack:=envOfC qual scope s.heap.objs.size f L::outer
 ex:=[]
 calm:=true
 fn:=λa=>true
 pn:=[]
 xe:=λe R=>wpAny (model P w) (A.deeper (envOfC qual scope s.heap.objs.size f L)) (leaving (envOfC qual scope s.heap.objs.size f L) e) (λa J=>M outer H s E e J) (λO J=>M outer H s E O J) R
def pq{sc:Scope}{n:Nat}(h:sc.names.lookup x=some .cell):∃c,(cellsFrom n sc.names []).lookup x=some c:=by
 have q:=PySem.W.cellsFrom_some sc.names n [] (.inl h);erw[is0 q]
def vX{W:CXT}{K:fg0}{N ps}{qual}{scope}{cd}{outer}{s s1}{E}{vs}
  (S:cf N ps scope) (F:A.handled=none) (L:Env0 P w K mg base A outer s H) (I:vs.length=ps.length) (r:Vals vs us)
  (x:InCallC s s.heap.objs.size (bindL (envOfC qual scope s.heap.objs.size f cd).kindOf (ps.zip us) λd=>none) (cellsFrom (s.heap.objs.size+1) scope.names []) (bindC (envOfC qual scope s.heap.objs.size f cd).kindOf (ps.zip us) λd=>none) s1):
  Inv (iV W P w K mg base N qual scope f cd A outer s H E) [] (start N vs) H s1:=by
 have D:ps.length<=N.length:=by have:=congrArg List.length S.pre;rw[List.length_take]at this;grind
 obtain⟨U,j,rfl,Y⟩:=x.done;have M:∀b:Addr,b∉(iV W P w K mg base N qual scope f cd A outer s H E).ex:=λb z=>absurd (show b∈([]:A4)from z) @0
 refine((L.mod,S.kind,rfl,rfl,nr0 _,λy z c U J=>?_,λy hy=>?_,λy c d h=>?_,λd=>F,Around.frames_deeper L.frames,.inr (rfl,rfl),λb z=>absurd z (M b),L.bs,L.bsz,λb d d=>M b,λb z=>absurd z (M b),L.funs,L.frf),
  rfl,L.bare,Un.kept Y,(_,x.toInCall.ns,λi y v U J G=>?_),λy c h=>(_,x.cell y c h),L.hok.fresh (nr0 _),λy c h=>?_,λp O=>absurd (show p∈([]:A5)from O) @0,L.hok.kept Y,?_)
 .erw[name_of_addr x.apart (ml0 U) (ml0 J)]
 .have hy:=hy
  rcases hy with hy|hy
  .erw[pq hy]
  .erw[absurd rfl (S.nofree _ (ml0 hy))]
 .erw[Nat.le_of_lt (x.above y c (ml0 h))]
 .have V:i<vs.length:=by
   unfold start at J
   by_cases V:i<vs.length
   .erw[V]
   .rw[List.getElem?_append_right (by simpa using V)]at J
    rw[List.getElem?_replicate]at J;split at J<;>cases J
  have T:vs[i]?=some v:=by
   unfold start at J;rw[gl0 (by simpa using V),gm0]at J;cases e:vs[i]? with
   |none=>rw[e]at J;cases J
   |some a=>rw[e]at J;cases J;rfl
  obtain⟨u,Z,B⟩:=r.get T;have O:ps[i]?=some y:=by
   rw[<-S.pre,List.getElem?_take_of_lt @6];erw[U]
  have R:ps.Nodup:=by rw[<-S.pre];erw[S.nd.sublist (List.take_sublist _ _)]
  refine(u,B,?_);rcases S.par y (mg0 O)with k|k
  .exact .inl (k,kW R O Z k)
  .obtain⟨c,e⟩:=pq (n:=s.heap.objs.size+1) k
   refine .inr (.inl k,c,e,?_);have q:=x.cell y c e;rw[kX R O Z (by show scope.names.lookup y≠_;rw[k];decide)]at q;erw[q]
 .erw[L.hok.fresh (Nat.le_of_lt (x.above y c (ml0 h)))]
 .unfold start
  show _=N.length;rw[la0,lm0,List.length_replicate]
  simp_all
def Jk{T:CXT}{K:fg0}{name qual}{params}{body}{scope}{dV kV doc pm cdv ct oc}{an od}
  {osl}{N ps}{z:Sp} (lk:K.lookup f=some (oc,od,.func (PySem.W.fnOf name qual params body scope dV kV doc pm an cdv ct),osl)) (F:PySem.W.codeIn K cdv qual=true) (S:cf N ps scope)
  (Z:∀vs H Q E,z vs H Q E->vs.length=ps.length)
  (M:∀(A:Around)(outer:List Env)(s:Shared)(H:Hp)(vs:List V)(Q:VK)(E:XK),Room k (A.deeper (envOfC qual scope s.heap.objs.size f cdv))->z vs H Q E->
   ∃t,PSs (iV T P w K mg base N qual scope f cdv A outer s H E) body t/\t {nx:=λa H'=>Q .non H',rt:=Q} (start N vs) H):
  FnOk P w K mg base T (k+1) f (PySem.W.fnOf name qual params body scope dV kV doc pm an cdv ct) ps z:=by
 refine(Z,λA outer s H args us vs Q E D U d r Y=>?_);have hl:=Z _ _ _ _ Y;have g:=U.mod.kin.keeps λb o e=>(U.bs b o e).1
 have B:=U.mod.nolimit.keeps λb o e=>(U.bs b o e).1
 have O:∀y∈ps.zip us,scope.names.lookup y.1=some .local\/(scope.names.lookup y.1=some .cell/\((cellsFrom (s.heap.objs.size+1) scope.names []).lookup y.1).isSome=true):=λ⟨n,v⟩ hy=>by
  rcases S.par n (List.of_mem_zip hy).1 with q|q
  .exact .inl q
  .exact .inr (q,PySem.W.cellsFrom_some _ _ _ (.inl q))
 refine codeAny_call_function D.depth (g _ _ lk) rfl S.co S.gen rfl (PySem.W.codeRec_of g F) (d _ _ _ _ ?_);refine wpAny_newFunctionEnv_cells S.kind O λl c m x=>?_
 subst c;refine(B.keeps x.toInCall.keep,codeAny_func ?_);obtain⟨t,ht,hq⟩:=M A outer s H vs Q E (D.deeper _) Y;have I:Inv (iV T P w K mg base N qual scope f cdv A outer s H E) [] (start N vs) H m:=vX S D.hd U hl r x;refine wpAny_mono (ht [] m (start N vs) H _ I hq) (λp j R=>?_) λe j R=>R
 have fin:∀{L:St}{H':Hp}{v:V}{u:Value},Inv (iV T P w K mg base N qual scope f cdv A outer s H E) [] L H' j->RelV v u->Q v H'->CE outer P w H s Q u j:=
  λ{L H' v u} J G q=>(v,H',J.os,J.bare,J.base,J.hok,G,q)
 cases p with
 |ret u=>
  obtain⟨v,L,H',J,G,q⟩:=R;erw[fin J G q]
 |next=>
  obtain⟨L,H',J,q⟩:=R;erw[fin (v:=V.non) (u:=Value.none) J rfl q]
 |brk=>
  obtain⟨_,_,_,q⟩:=R;erw[False.elim q]
 |cont=>
  obtain⟨_,_,_,q⟩:=R;erw[False.elim q]
section
variable {p:Pos}{id T:String}{r:List V->Hp->VK->Prop}
def tCB(r:List V->Hp->VK->Prop)(t:TA):TE:=λσ H Q=>t σ H λK J=>r K J Q
def cZ(hc:bb X (.builtin id) r)(R:Gl X x)(U:X.mg x=none)(W:bootBuiltins x=some (.builtin id))(N:PA X (e::es) t)(V:x≠"__name__")(J:(x==("__debug__":Str))=false)
  (O:starEach (e::es) X.env=(false,eval e X.env)::starEach es X.env) (K:(backTo pos (starEach es X.env)).any (·.1)=false):PE X (.Call (.Name x p) (e::es) [] pos) (tCB r t):=by
 intro zp s σ H Q I h;refine wpAny_Call_Name_kw (ld_blt I R U W ?_ V J);erw[PyProof.Rows.callWith_builtin1 (thn (N pos zp s σ H _ I h) (by rintro us F ⟨D,L,M,Z,Y⟩;exact hc zp F σ L D us Q M Z Y)) O K]
def cq(hc:bb X (.type T) r)(R:Gl X x)(U:X.mg x=none)(W:bootBuiltins x=some (.type T))(N:PA X (e::es) t)(V:x≠"__name__")(J:(x==("__debug__":Str))=false)
  (O:starEach (e::es) X.env=(false,eval e X.env)::starEach es X.env) (K:(backTo pos (starEach es X.env)).any (·.1)=false):PE X (.Call (.Name x p) (e::es) [] pos) (tCB r t):=by
 intro zp s σ H Q I h;refine wpAny_Call_Name_kw (ld_blt I R U W ?_ V J);erw[PyProof.Rows.callWith_type1 (thn (N pos zp s σ H _ I h) (by rintro us F ⟨D,L,M,Z,Y⟩;exact hc zp F σ L D us Q M Z Y)) O K]
end
end L2
section
variable {prog:PySem.Program}{w:PySem.World}{s:PySem.Shared}{X:L2.Cx}{pos:PySem.Pos}{n:Nat}{α:Type}{zp:List (PySem.Addr×PySem.Obj)}{σ:L2.St}{H:L2.Hp}{xs:List L2.V}{its its' us:List PySem.Value}{T:String}{fd:PySem.FuncData}{st:PySem.Stmt}{f:PySem.Addr}{env:PySem.Env}{scope:PySem.Scope}
namespace HT
open PySem PyProof.Rows
section
open PySem.SeqAt
open PySem.AutoSeq1 (wpAny_loadPart')
open PySem.MeetsSeq PySem.MeetsSeq2 PySem.MeetsSeq3
end
section
variable {A:Around}{E:A0}
noncomputable def sIx(n d:Nat):Option Int->Nat
 |none=>d
 |some v=>if v<0 then (v+(n:Int)).toNat else min v.toNat n
end
end HT
namespace L2
open PySem PySem.Spec PyProof.Rows
abbrev TO:=St->Hp->(Option Int->Hp->Prop)->Prop
def PO(X:Cx)(e:Option Expr)(t:TO):Prop:=
 ∀(zp:A5)(s:Shared)(σ:St)(H:Hp)(Q:Option Int->Hp->Prop),Inv X zp σ H s->t σ H Q->
  wpAny @5 X.A (evalPart e X.env) (λu K=>∃o J,Inv X zp σ J K/\IsPart u o/\Q o J) X.xe s
def BO:TO:=λa H Q=>Q none H
def Jl(t:TE):TO:=λσ H Q=>t σ H λx J=>∃i,x=.int i/\Q (some i) J
section
variable {e:Expr}{te:TE}{lo hi:Option Expr}{tl th:TO}{p2:Pos}
def BQ(h:PE X e te):PO X (some e) (Jl te):=by
 intro zp s σ H Q I L;rw[evalPart_some];refine thn (h zp s σ H _ I L) ?_;rintro u O ⟨x,J,K,N,M⟩;obtain⟨i,rfl,q⟩:=M;obtain⟨t,rfl⟩:=N;exact(some i,J,K,.int i t,q)
def SlR(X:Cx)(r:V->Option Int->Option Int->Hp->VK->Prop):Prop:=
 ∀(zp:A5)(s:Shared)(σ:St)(H:Hp)(x:V)(v J K:Value)(lo hi:Option Int)(sl:Addr)(Q:VK),Inv X zp σ H s->RelV x v->s.heap.IsSliceOf sl J K .none->IsPart J lo->IsPart K hi->r x lo hi H Q->
  ∃T L,typeLookup (.type T) "__getitem__"=pure (some (.builtin L))/\s.TypeIs v T/\wpAny @5 X.A (getItem v (.ref sl)) (EP X zp σ Q) X.xe s
def tSl(r:V->Option Int->Option Int->Hp->VK->Prop)(te:TE)(tl th:TO):TE:=λσ H Q=>te σ H λx J=>tl σ J λl K=>th σ K λu L=>r x l u L Q
def xV{r}(B:SlR X r)(Z:PE X e te)(D:PO X lo tl)(S:PO X hi th):PE X (.Subscript e (.Slice lo hi none p2) pos) (tSl r te tl th):=by
 intro zp s σ H Q I h;refine Subscript_ (thn (Z zp s σ H _ I h) ?_);rintro v g ⟨x,N,R,y,E⟩;refine wpAny_Slice (thn (D zp g σ N _ R E) λK m ⟨l,O,U,P,j⟩=>thn (S zp m σ O _ U j) ?_);rintro L J ⟨u,M,V,G,z⟩;rw[evalPart_none];refine wq0 ?_;have W:Inv X zp σ M {J with heap:=J.heap.push {cls:=.type "slice",data:=.fields #[K,L,.none]}}:=V.kept (t':=J.toks) λb t q=>ps0 _ q
 obtain⟨T,k,Y,C,F⟩:=B zp {J with heap:=J.heap.push {cls:=.type "slice",data:=.fields #[K,L,.none]}} σ M x v K L l u J.heap.objs.size Q W y (Heap.IsSliceOf.new ..) P G z;show wpAny @5 X.A (subscriptTail e (.Slice lo hi none p2) v (.ref J.heap.objs.size)) (EP X zp σ Q) X.xe {J with heap:=J.heap.push {cls:=.type "slice",data:=.fields #[K,L,.none]}};erw[tail_any (ops:=[.ref J.heap.objs.size,v]) C Y F (by with_unfolding_all rfl)]
noncomputable def vY(xs:List V)(lo hi:Option Int):List V:=(xs.drop (HT.sIx xs.length 0 lo)).take (HT.sIx xs.length xs.length hi-HT.sIx xs.length 0 lo)
end
noncomputable def ixN(n:Nat)(i:Int):Option Nat:=if 0<=i then (if i<n then some i.toNat else none)else if -(n:Int)<=i then some (i+n).toNat else none
def atI{α:Type}(xs:List α)(i:Int):Option α:=(ixN xs.length i).bind λj=>xs[j]?
def ua{i}{j}(h:ixN n i=some j):seqIndex? i n=some j/\j<n/\ -(n:Int)<=i/\i<n:=by
 unfold ixN at h
 by_cases K:0<=i
 .rw[if_pos K]at h
  by_cases J:i<n
  .rw[if_pos J]at h
   have e:=Option.some.inj h;exact(by rw[seqIndex_of K J,e],by grind,by grind,J)
  .rw[if_neg J]at h;cases h
 .rw[if_neg K]at h
  by_cases J:-(n:Int)<=i
  .rw[if_pos J]at h
   have e:=Option.some.inj h;exact(by rw[seqIndex_neg @6 J,e],by grind,J,by grind)
  .rw[if_neg J]at h;cases h
def je{xs}{i}{v:α}(h:atI xs i=some v):∃j,seqIndex? i xs.length=some j/\xs[j]?=some v/\j<xs.length/\ -(xs.length:Int)<=i/\i<xs.length:=by
 unfold atI at h;cases e:ixN xs.length i with
 |none=>rw[e]at h;cases h
 |some j=>
  rw[e]at h;obtain⟨J,K,L,M⟩:=ua e;exact(j,J,h,K,L,M)
def ub(b:Expr):Prop:=∀o i,subscripted b false o i=operate [o,i] (getItem o i)
def IxR(X:Cx)(r:R2):Prop:=
 ∀(value slice:Expr)(zp:A5)(s:Shared)(σ:St)(H:Hp)(x y:V)(v u:Value)(Q:VK),Inv X zp σ H s->RelV x v->RelV y u->r x y H Q->
  subscripted slice false v u=operate [v,u] (getItem v u)->wpAny @5 X.A (subscriptTail value slice v u) (EP X zp σ Q) X.xe s
def MtR(X:Cx)(J:String)(r:V->List V->Hp->VK->Prop):Prop:=
 ∀(zp:A5)(s:Shared)(σ:St)(H:Hp)(x:V)(xs:List V)(v:Value)(us:A2)(Q:VK),Inv X zp σ H s->RelV x v->Vals xs us->r x xs H Q->
  wpAny @5 X.A (call (.builtin J) (v::us)) (EP X zp σ Q) X.xe s
section
variable {a b:Expr}{ta tb:TE}
def pB{r:R2}(N:IxR X r)(L:PE X a ta)(M:PE X b tb)(hs:ub b):PE X (.Subscript a b pos) (tOp r ta tb):=by
 intro zp s σ H Q I h;erw[Subscript_ (binT L M I h λv u U x y J K O R q=>N a b zp U σ J x y v u Q K O R q (hs _ _))]
def Mb(K:fg0):R2:=λx y H Q=>∃p xs i v,x=.ref p/\y=.int i/\SqL K H p xs/\atI xs i=some v/\Q v H
def Mc(K:fg0):R2:=λx y H Q=>∃p xs i v,x=.ref p/\y=.int i/\SqT K H p xs/\atI xs i=some v/\Q v H
def Me:R2:=λx y H Q=>∃z i c,x=.str z/\y=.int i/\z.length<=sizeLine/\atI z.cps.toList i=some c/\Q (.str ⟨#[c]⟩) H
def fY:IxR X (Mb X.K):=by
 intro value slice zp s σ H x y v u Q I B C h U;obtain⟨p,xs,i,z,rfl,rfl,D,Z,q⟩:=h;cases B;obtain⟨t,rfl⟩:=C;obtain⟨its,r,M,E⟩:=I.list D;obtain⟨j,J,V,P,W,Y⟩:=je Z;obtain⟨w,O,N⟩:=r.get V;have F:=r.length;have G:=fG;have fin:EP X zp σ Q w s:=(z,H,I,N,q)
 by_cases R:0<=i
 .have L:i.toNat=j:=by
   rw[seqIndex_of R Y]at J;erw[Option.some.inj J]
  erw[item_listR M.isList R @4 (by rw[L];simpa using O) fin U]
 .have L:(i+(its.toArray.size:Int)).toNat=j:=by
   rw[seqIndex_neg @6 W]at J;rw[ls0,<-F];erw[Option.some.inj J]
  exact subscriptTail_builtinR (x:=w) M.isList.typeIs slot_list_getitem.lookup
   (wpAny_getItem_list_neg (Q:=λr S=>r=w/\EP X zp σ Q r S) M.isList @6 (by rw[ls0]<;>simp_all) @4 (by rw[L];simpa using O) (rfl,fin)) U
def FQ:IxR X (Mc X.K):=by
 intro value slice zp s σ H x y v u Q I Y Z h W;obtain⟨p,xs,i,z,rfl,rfl,V,R,q⟩:=h;cases Y;obtain⟨t,rfl⟩:=Z;obtain⟨its,r,L,P⟩:=I.tuple V;obtain⟨j,N,O,D,B,C⟩:=je R;obtain⟨w,M,J⟩:=r.get O;have U:=r.length;have S:=fG;have fin:EP X zp σ Q w s:=(z,H,I,J,q);exact subscriptTail_builtinR (x:=w) L.typeIs slot_tuple_getitem.lookup
  (getItem_tuple (j:=j) (Q:=λr F=>r=w/\EP X zp σ Q r F) L @4 @4 (by rw[ls0,<-U];erw[N]) (by simpa using M) (rfl,fin)) W
def FR:IxR X Me:=by
 intro value slice zp s σ H x y v u Q I W Y h V;obtain⟨z,i,c,rfl,rfl,D,R,q⟩:=h;obtain⟨t,rfl⟩:=W;obtain⟨B,rfl⟩:=Y;obtain⟨j,J,M,Z,N,O⟩:=je R;have U:z.cps.toList.length=z.length:=by simp[Str.length]
 rw[U]at J N O;have F:=fG;exact tail_any (typeIs_str s z t) slot_str_getitem.lookup (getItem_str (c:=c) (by
  have K:decide (i < -(2 ^ 63:Int))=false:=df0 @4;have L:decide (i≥2 ^ 63)=false:=df0 @4;rw[K,L,Bool.or_false]) (by rw[J];simpa using M) (.str ⟨#[c]⟩,H,I.tok _,(_,rfl),q)) V
theorem Inv.lst{p}(I:Inv X zp σ H s)(h:H p=some (.lst xs)):
  ∃(its:A2)(n:Nat),Vals xs its/\s.heap.get? p=some {cls:=.type "list",data:=.seq its.toArray n}/\xs.length<=sizeLine:=by
 obtain⟨z,its,n,r,e⟩:=I.hok p _ h;exact(its,n,r,e,z)
def Inv.lstUpd{p}{J:List V}{n n'}{f}(I:Inv X zp σ H s)(h:H p=some (.lst xs))
  (M:s.heap.get? p=some {cls:=.type "list",data:=.seq its.toArray n}) (K:f {cls:=.type "list",data:=.seq its.toArray n}={cls:=.type "list",data:=.seq its'.toArray n'}) (r:Vals J its') (hz:J.length<=sizeLine) (t:Nat):
  Inv X zp σ (upd H p (.lst J)) {s with heap:=s.heap.update p f,toks:=t}:=by
 have e:(s.heap.update p f).get? p=some {cls:=.type "list",data:=.seq its'.toArray n'}:=by
  rw[hu0 f M (by rw[K]<;>rfl),K]
 refine I.write (x:=p) (e:=p) (by rw[h];trivial) (.inl rfl) (λb u L q=>(Heap.get?_update_other _ _ (Ne.symm L)).trans q) (_,e) ?_;exact(hz,its',n',r,e)
def Jm:V->V->V->Hp->(Hp->Prop)->Prop:=λo i v H Q=>∃p xs k j,o=.ref p/\i=.int k/\H p=some (.lst xs)/\ixN xs.length k=some j/\Q (upd H p (.lst (xs.set j v)))
def set_list:FC X Jm:=by
 intro zp s σ H o i v G P u Q I D F B h;obtain⟨p,xs,k,j,rfl,rfl,V,Y,q⟩:=h;cases D;obtain⟨t,rfl⟩:=F;obtain⟨its,n,r,M,Z⟩:=I.lst V;obtain⟨J,C,R,U⟩:=ua Y;have L:=r.length;have S:=fG;have N:Inv X zp σ (upd H p (.lst (xs.set j v))) {s with heap:=s.heap.update p (Obj.mapSeq (·.setIfInBounds j u))}:=
  I.lstUpd V M ((show Obj.mapSeq (·.setIfInBounds j u) {cls:=.type "list",data:=.seq its.toArray n}={cls:=.type "list",data:=.seq (its.set j u).toArray n} by
    simp[Obj.mapSeq])) (r.set B j) (by rw[List.length_set];erw[Z]) s.toks
 by_cases O:0<=k
 .have K:k.toNat=j:=by
   rw[seqIndex_of O U]at J;erw[Option.some.inj J]
  erw[PySem.W.ki_setAt M O @4 (by rw[ls0,<-L];exact U) (by rw[K];exact(_,N,q))]
 .have K:(k+(its.toArray.size:Int)).toNat=j:=by
   rw[seqIndex_neg @6 R]at J;rw[ls0,<-L];erw[Option.some.inj J]
  erw[PySem.W.ki_setBack M @6 (by rw[ls0,<-L];exact R) @4 (by rw[K];exact(_,N,q))]
def nu(lo J:Option Int)(n:Nat):(sliceBounds lo J none n).1=((HT.sIx n 0 lo:Nat):Int)/\(sliceBounds lo J none n).2.1=((HT.sIx n n J:Nat):Int)/\(sliceBounds lo J none n).2.2=1:=by
 refine(?_,?_,rfl)
 .cases lo with
  |none=>simp[sliceBounds,HT.sIx]
  |some i=>
   simp only[sliceBounds,HT.sIx,Option.getD_none,show (1:Int)>0 by decide,if_true]
   by_cases h:i<0
   .simp only[h,if_true]<;>lia
   .simp only[h,if_false]<;>lia
 .cases J with
  |none=>simp[sliceBounds,HT.sIx]
  |some i=>
   simp only[sliceBounds,HT.sIx,Option.getD_none,show (1:Int)>0 by decide,if_true]
   by_cases h:i<0
   .simp only[h,if_true]<;>lia
   .simp only[h,if_false]<;>lia
def kH(its:A2)(lo J:Option Int):slicePick its.toArray lo J none=((its.drop (HT.sIx its.length 0 lo)).take (HT.sIx its.length its.length J-HT.sIx its.length 0 lo)).toArray:=by
 obtain⟨K,L,M⟩:=nu lo J its.toArray.size;unfold slicePick;rw[K,L,M];simp only[sliceRange_one,pick_run,ls0]<;>rfl
def Mg(K:fg0):V->Option Int->Option Int->Hp->VK->Prop:=λx lo J H Q=>∃a xs,x=.ref a/\SqL K H a xs/\∀p,H p=none->Q (.ref p) (upd H p (.lst (vY xs lo J)))
def uc:SlR X (Mg X.K):=by
 intro zp s σ H x v Z F lo L sl Q I W N U V h;obtain⟨a,xs,rfl,O,q⟩:=h;cases W;obtain⟨its,r,M,R⟩:=I.list O;have J:=r.length;refine("list",_,slot_list_getitem.lookup,M.isList.typeIs,?_);refine wpAny_getItem_list_slice M.isList N U V .none @0 ?_ (by rw[ls0]<;>simp_all);rw[kH,<-J];refine(.ref s.heap.objs.size,_,I.laid (t':=s.toks) (o:=.lst (vY xs lo L)) (λb Y q=>ps0 _ q) (nr0 _) ?_,rfl,q _ (I.hok.fresh (nr0 _)));exact(nt0 ((by
   unfold vY;rw[List.length_take,List.length_drop]
   grind)) R,_,0,(r.drop (HT.sIx xs.length 0 lo)).take (HT.sIx xs.length xs.length L-HT.sIx xs.length 0 lo),pz0 _ rfl)
def nA:OpR X (compareOp .NotIn) (λx y H Q=>∃i j,x=.str i/\y=.str j/\Q (.bl (!(!(Builtin.Str.occurrences j i 0 j.length 1).isEmpty))) H):=by
 intro zp s σ H x y v u Q I J K h;obtain⟨i,j,rfl,rfl,q⟩:=h;obtain⟨t,rfl⟩:=J;obtain⟨L,rfl⟩:=K;erw[notIn_str (.bl _,H,I,rfl,q)]
def nC:bb X (.builtin "len") (λxs H Q=>∃p L,xs=[.ref p]/\(SqL X.K H p L\/SqT X.K H p L)/\Q (.int L.length) H):=by
 intro zp s σ H xs us Q I r h;obtain⟨p,L,rfl,hq,q⟩:=h;obtain⟨u,rfl,R⟩:=vals1 r;cases R;have U:=fG;rcases hq with hq|hq
 .obtain⟨its,N,M,O⟩:=I.list hq
  have J:=N.length;erw[Calls.call_len_list M.isList (by simp only[ls0]<;>lia) (.int L.length,H,I.tok _,(s.toks+1,by rw[ls0,J]),q)]
 .obtain⟨its,N,M,O⟩:=I.tuple hq
  have J:=N.length;erw[len_tuple M (by simp only[ls0]<;>lia) (.int L.length,H,I.tok _,(s.toks+1,by rw[ls0,J]),q)]
def fZ:bb X (.type "list") (λxs H Q=>∃p N,xs=[.ref p]/\(SqL X.K H p N\/SqT X.K H p N)/\∀l,H l=none->Q (.ref l) (upd H l (.lst N))):=by
 intro zp s σ H xs us Q I r h;obtain⟨p,N,rfl,hq,q⟩:=h;obtain⟨u,rfl,D⟩:=vals1 r;cases D;have fin:∀(its:A2),Vals N its->N.length<=sizeLine->∀(J:Heap)(L:Nat),(∀b F,s.heap.get? b=some F->J.get? b=some F)->
   J.get? s.heap.objs.size=some {cls:=.type "list",dict:=none,data:=.seq its.toArray L,slots:=#[]}->EP X zp σ Q (.ref s.heap.objs.size) {s with heap:=J}:=λits M R J L U e=>
  (.ref s.heap.objs.size,_,I.laid (t':=s.toks) U (nr0 _) (show ObjOk X.prog X.w _ J _ (.lst N)from(R,its,L,M,e)),rfl,q _ (I.hok.fresh (nr0 _)))
 rcases hq with hq|hq
 .obtain⟨its,M,Z,R⟩:=I.list hq
  have O:=M.length;obtain⟨o,Y,V,n,W⟩:=Z.isList;erw[call_list_seq p (.inl rfl) Y V W (λJ L U e=>fin its M R J L U e) (by simp only[ls0]<;>lia)]
 .obtain⟨its,M,Z,R⟩:=I.tuple hq
  have O:=M.length;obtain⟨o,Y,V,n,W⟩:=Z;erw[call_list_seq p (.inr rfl) Y V W (λJ L U e=>fin its M R J L U e) (by simp only[ls0]<;>lia)]
def tyV(K:fg0)(T:String)(x:V)(H:Hp):Prop:=match x with
 |.str _=>T="str"
 |.ref p=>T="list"/\∃xs,SqL K H p xs
 |_=>False
def xW{T}{x:V}{v:Value}(I:Inv X zp σ H s)(r:RelV x v)(J:tyV X.K T x H):
  s.TypeIs v T/\∀a,v=.ref a->∃L,s.heap.get? a=some L/\L.dict=none:=by
 cases x with
 |str z=>
  obtain⟨t,rfl⟩:=r;cases (J:T="str");exact(typeIs_str s z t,λb e=>nomatch e)
 |ref p=>
  cases r;obtain⟨rfl,xs,O⟩:=J
  .obtain⟨its,_,M,_⟩:=I.list O
   refine(M.isList.typeIs,λa e=>?_);cases e;obtain⟨o,n,e,c,N,_⟩:=M;exact(o,e,N)
 |_=>exact False.elim J
def Mh(K:fg0)(T:String)(r:V->List V->Hp->VK->Prop)(L:TE):TE:=λσ H Q=>L σ H λx J=>tyV K T x J/\r x [] J Q
def tBM(K:fg0)(T:String)(r:V->List V->Hp->VK->Prop)(M:TE)(t:TA):TE:=λσ H Q=>M σ H λx J=>tyV K T x J/\t σ J λxs L=>r x xs L Q
variable {o e:Expr}{es:A3}{to:TE}{t:TA}{name:Str}{apos cpos:Pos}{id:String}{r:V->List V->Hp->VK->Prop}
def xX(Z:PlainAttrs T)(slot:Slot T name id)(M:typeOf (.builtin id)=pure (.type "method_descriptor"))(W:MtR X id r)(Y:PE X o to)
  (J:attributeBase o name X.env (eval o X.env)=eval o X.env) (L:(apos.endLine==cpos.line)=true):PE X (.Call (.Attribute o name apos) [] [] cpos) (Mh X.K T r to):=by
 intro zp s σ H Q I h;refine wpAny_Call_method0_late J L (thn (Y zp s σ H _ I h) ?_);rintro v D ⟨x,R,N,O,B,F⟩;obtain⟨U,V⟩:=xW N O B;exact(T,id,Z,slot,M,U,V,Calls.callWith_builtin rfl (PySem.evalArgs_none (W zp D σ R x [] v [] Q N O .nil F)))
def kY(P:PlainAttrs T)(slot:Slot T name id)(O:typeOf (.builtin id)=pure (.type "method_descriptor"))(C:MtR X id r)(S:PE X o to)(B:PA X (e::es) t)
  (L:attributeBase o name X.env (eval o X.env)=eval o X.env)
  (N:((backTo cpos (starEach (e::es) X.env)).all (λx=>!x.1)&&(backToKw cpos (keywordEach [] X.env)).all (λx=>x.1.isSome)
   &&decide ((e::es).length+([]:List Keyword).length+(if ([]:List Keyword).isEmpty then 0 else 1)<30))=true)
  (M:(apos.endLine==cpos.line)=true) (hs:starEach (e::es) X.env=(false,eval e X.env)::starEach es X.env) (J:(backTo cpos (starEach es X.env)).any (·.1)=false):
  PE X (.Call (.Attribute o name apos) (e::es) [] cpos) (tBM X.K T r to t):=by
 intro zp s σ H Q I h;refine wpAny_Call_method_late L N M rfl (thn (S zp s σ H _ I h) ?_);rintro v j ⟨x,W,R,V,y,G⟩;obtain⟨F,D⟩:=xW R V y;refine(T,id,P,slot,O,F,D,?_);have U:=B cpos zp j σ W _ R G;rw[hs]at U ⊢;refine Calls.callWith_builtin (by show (false||(backTo cpos (starEach es X.env)).any (·.1))=false;rw[J]<;>rfl) (Calls.evalArgs_plain ?_);erw[thn U (by rintro us z ⟨q,Y,Z,A,E⟩;exact C zp z σ Y x q v us Q Z V A E)]
end
def MtM(X:Cx)(J:String)(r:V->List V->Hp->VK->Prop):Prop:=
 ∀(zp:A5)(s:Shared)(σ:St)(H:Hp)(x:V)(xs:List V)(v:Value)(us:A2)(Q:VK),Inv X zp σ H s->RelV x v->Vals xs us->r x xs H Q->
  wpAny @5 X.A (call (.builtin J) (v::us)) (EP X zp σ Q) X.xe s
def Vals.one:∀{x:V}{us:A2},Vals [x] us->∃u,us=[u]/\RelV x u:=by
 intro x us h;cases h with|cons r h=>cases h;exact(_,rfl,r)
def Vals.zero:∀{us:A2},Vals [] us->us=[]
 |_,.nil=>rfl
theorem Vals.dropLast(h:Vals xs us):Vals xs.dropLast us.dropLast:=by
 induction h with
 |nil=>exact .nil
 |cons r t ih=>
  cases t with
  |nil=>exact .nil
  |cons q J=>exact .cons r ih
theorem Vals.reverse(h:Vals xs us):Vals xs.reverse us.reverse:=by
 induction h with
 |nil=>exact .nil
 |cons r t ih=>rw[List.reverse_cons,List.reverse_cons];erw[Vals.append ih (.cons r .nil)]
theorem Vals.rep(h:Vals xs us):∀k:Nat,Vals (List.replicate k xs).flatten (List.replicate k us).flatten
 |0=>.nil
 |k+1=>by
  rw[List.replicate_succ,List.replicate_succ,List.flatten_cons,List.flatten_cons];erw[Vals.append h (Vals.rep h k)]
def rN(l:List α):l.eraseIdx (l.length-1)=l.dropLast:=by
 induction l with
 |nil=>rfl
 |cons a r ih=>
  cases r with
  |nil=>rfl
  |cons b r=>
   have e:(a::b::r).length-1=((b::r).length-1)+1:=by
    have J:(a::b::r).length=r.length+2:=rfl;have K:(b::r).length=r.length+1:=rfl
    assumption
   rw[e,List.eraseIdx_cons_succ,ih]
   all_goals rfl
theorem foldl_rep(its:A2):∀(k:Nat)(acc:A2),
  List.foldl (λK L=>K++L) acc.toArray (List.replicate k its.toArray)=(acc++(List.replicate k its).flatten).toArray
 |0,acc=>by simp
 |k+1,acc=>by
  have e:acc.toArray++its.toArray=(acc++its).toArray:=by simp
  have J:(acc++its)++(List.replicate k its).flatten=acc++(List.replicate (k+1) its).flatten:=by
   rw[List.replicate_succ,List.flatten_cons,List.append_assoc]
  rw[<-J,<-foldl_rep its k (acc++its),<-e,List.replicate_succ,List.foldl_cons]
section
variable {l b:Addr}{ys zs:List V}
def Inv.lset{f}{t':Nat}(I:Inv X zp σ H s)(J:H l=some (.lst xs))
  (e:s.heap.get? l=some {cls:=.type "list",data:=.seq its.toArray n}) (L:f its.toArray=its'.toArray) (N:Vals ys its') (hz:ys.length<=sizeLine):
  Inv X zp σ (upd H l (.lst ys)) {s with heap:=s.heap.update l (Obj.mapSeq f),toks:=t'}:=by
 have q:=PySem.IsL.update e f;rw[L]at q;refine I.write (x:=l) (e:=l) (by rw[J];erw[trivial]) (.inl rfl) (λO u K M=>(Heap.get?_update_other s.heap (Obj.mapSeq f) (Ne.symm K)).trans M) (_,q) ?_;exact(hz,its',_,N,q)
def Inv.lnew{its}{t':Nat}(I:Inv X zp σ H s)(J:Vals ys its)(hz:ys.length<=sizeLine):
  Inv X zp σ (upd H s.heap.objs.size (.lst ys)) {s with heap:=s.heap.push {cls:=.type "list",data:=.seq its.toArray},toks:=t'}:=
 I.laid (λa a q=>ps0 _ q) (nr0 _) (hz,its,0,J,pz0 _ rfl)
theorem Inv.fresh(I:Inv X zp σ H s):H s.heap.objs.size=none:=I.hok.fresh (nr0 _)
def Inv.lstM(I:Inv X zp σ H s)(J:H l=some (.lst xs)):xs.length<=sizeLine/\∃(its:A2)(n:Nat),Vals xs its/\xs.length=its.length/\s.heap.get? l=some {cls:=.type "list",data:=.seq its.toArray n}:=by
 obtain⟨z,its,n,r,e⟩:=I.hok l _ J;exact(z,its,n,r,r.length,e)
def pC(h:n<=sizeLine):Builtin.List.listTooLong n=false:=by
 unfold Builtin.List.listTooLong;erw[df0 @6]
end
def BR:V->List V->Hp->VK->Prop:=λx J H Q=>∃l xs y,x=.ref l/\J=[y]/\H l=some (.lst xs)/\xs.length<sizeLine/\Q .non (upd H l (.lst (xs++[y])))
def hX:MtM X "list.append" BR:=by
 intro zp s σ H x R v us Q I M L h;obtain⟨l,xs,y,rfl,rfl,J,O,q⟩:=h;cases M;obtain⟨u,rfl,K⟩:=L.one;obtain⟨z,its,n,r,N,e⟩:=I.lstM J;refine call_meets F.slot_list_append (_,e,rfl) F.entry_list_append (F.args_list_append_2 _ _) (PySem.list_append l its.toArray n u (by rw[ls0];simp_all)) (e,?_);refine(.non,_,I.lset (its':=its++[u]) J e @0 (r.append (.cons K .nil)) ?_,rfl,q);rw[la0,List.length_singleton]
 assumption
def BS:V->List V->Hp->VK->Prop:=λx K H Q=>∃l b xs J,x=.ref l/\K=[.ref b]/\H l=some (.lst xs)/\H b=some (.lst J)/\xs.length+J.length<=sizeLine/\Q .non (upd H l (.lst (xs++J)))
def vZ:MtM X "list.extend" BS:=by
 intro zp s σ H x C v us Q I Z Y h;obtain⟨l,b,xs,P,rfl,rfl,M,O,B,q⟩:=h;cases Z;obtain⟨u,rfl,W⟩:=Y.one;cases W;obtain⟨z,its,n,r,D,e⟩:=I.lstM M;obtain⟨S,J,U,V,R,N⟩:=I.lstM O;have L:its.toArray.size+J.toArray.size<=sizeLine:=by rw[ls0,ls0];simp_all
 have K:¬ (!its.toArray.isEmpty&&Builtin.List.listTooLong (its.toArray.size+J.toArray.size))=true:=by
  rw[pC L,Bool.and_false];erw[fx0]
 refine call_meets F.slot_list_extend (_,e,rfl) F.entry_list_extend (F.args_list_extend_2 _ _)
  (AutoSeq1.list_extend_list_list_0 l its.toArray n b J.toArray U K (by rw[ls0];simp_all) (Nat.le_succ_of_le ‹_›)) (e,N,?_)
 refine(.non,_,I.lset (its':=its++J) M e @0 (r.append V) ?_,rfl,q);rw[la0]
 lia
def Mi:V->List V->Hp->VK->Prop:=λx J H Q=>∃l xs y,x=.ref l/\J=[]/\H l=some (.lst xs)/\xs[xs.length-1]?=some y/\Q y (upd H l (.lst xs.dropLast))
def FS:MtM X "list.pop" Mi:=by
 intro zp s σ H x W v us Q I V U h;obtain⟨l,xs,y,rfl,rfl,L,O,q⟩:=h;cases V;have J:=U.zero;subst J;obtain⟨z,its,n,r,M,e⟩:=I.lstM L;obtain⟨u,N,R⟩:=r.get O;have K:its.toArray[its.toArray.size-1]?=some u:=by
  show its.toArray[its.length-1]?=some u;rw[<-Array.getElem?_toList,<-M];erw[N]
 refine call_meets F.slot_list_pop (_,e,rfl) F.entry_list_pop (F.args_list_pop_1 _) (MeetsSeq.list_pop_last l its.toArray n u K (by rw[ls0];simp_all)) (e,?_);refine(y,_,I.lset (its':=its.dropLast) L e ?_ r.dropLast ?_,R,q)
 .show its.toArray.eraseIdxIfInBounds (its.toArray.size-1)=its.dropLast.toArray
  rw[ls0,List.eraseIdxIfInBounds_toArray,rN]
 .rw[List.length_dropLast]
  grind
def xY:V->List V->Hp->VK->Prop:=λx J H Q=>∃l xs,x=.ref l/\J=[]/\H l=some (.lst xs)/\Q .non (upd H l (.lst xs.reverse))
def rP:MtM X "list.reverse" xY:=by
 intro zp s σ H x O v us Q I M L h;obtain⟨l,xs,rfl,rfl,K,q⟩:=h;cases M;have J:=L.zero;subst J;obtain⟨z,its,n,r,N,e⟩:=I.lstM K;refine call_meets F.slot_list_reverse (_,e,rfl) F.entry_list_reverse (F.args_list_reverse_1 _) (AutoSeq1.list_reverse_list_0 l its.toArray n (by rw[ls0];lia)) (e,?_);refine(.non,_,I.lset (its':=its.reverse) K e @0 r.reverse ?_,rfl,q);rw[List.length_reverse]
 lia
def Mj:R2:=λx y H Q=>∃l b xs J,x=.ref l/\y=.ref b/\H l=some (.lst xs)/\H b=some (.lst J)/\xs.length+J.length<=sizeLine/\∀p,H p=none->Q (.ref p) (upd H p (.lst (xs++J)))
def op_cat:OpR X (binaryOp .Add) Mj:=by
 intro zp s σ H x y v u Q I U V h;obtain⟨l,b,xs,D,rfl,rfl,N,M,Y,q⟩:=h;cases U;cases V;obtain⟨z,its,n,r,W,e⟩:=I.lstM N;obtain⟨F,J,Z,R,O,K⟩:=I.lstM M;refine PySem.P.add_list e K ?_ (by rw[ls0,ls0];lia);have L:its.toArray++J.toArray=(its++J).toArray:=by simp
 rw[L];exact(.ref _,_,I.lnew (t':=s.toks) (r.append R) (by rw[la0];lia),rfl,q _ I.fresh)
def Ml:R2:=λx y H Q=>∃l k xs,x=.ref l/\y=.int k/\H l=some (.lst xs)/\ -(2 ^ 63)<=k/\k<2 ^ 63/\xs.length*k.toNat<=sizeLine/\
 ∀p,H p=none->Q (.ref p) (upd H p (.lst (List.replicate k.toNat xs).flatten))
def len_rep(xs:List α)(k:Nat):(List.replicate k xs).flatten.length=k*xs.length:=by
 induction k with
 |zero=>simp
 |succ k ih=>rw[List.replicate_succ,List.flatten_cons,la0,ih,Nat.succ_mul,Nat.add_comm]
def FU:OpR X (binaryOp .Mult) Ml:=by
 intro zp s σ H x y v u Q I C S h;obtain⟨l,k,xs,rfl,rfl,D,Y,Z,V,q⟩:=h;cases C;obtain⟨t,rfl⟩:=S;obtain⟨z,its,n,r,B,e⟩:=I.lstM D;have M:its.toArray.size*k.toNat<=sizeLine:=by rw[ls0,<-B];erw[V]
 have K:¬ its.toArray.size*k.toNat>(2 ^ 63-1) / 8:=by
  have:(sizeLine:Nat)<=(2 ^ 63-1) / 8:=by decide
  grind
 have L:¬ (!Builtin.List.listFitsIndex k)=true:=by
  rw[fitsIndex_both Y Z];erw[fx0]
 have J:¬ Builtin.List.listTooLong (its.toArray.size*k.toNat)=true:=by
  rw[pC M];erw[fx0]
 have N:List.foldl (λO R=>O++R) #[] (List.replicate (if its.toArray.isEmpty=true then 0 else k.toNat) its.toArray)=(List.replicate k.toNat its).flatten.toArray:=by
  have W:∀m:Nat,List.foldl (λO R=>O++R) #[] (List.replicate m its.toArray)=(List.replicate m its).flatten.toArray:=λm=>by
   have:=foldl_rep its m [];rw[List.nil_append]at this;erw[this]
  rw[W];cases its with
  |nil=>simp
  |cons a G=>rw[if_neg @0]
 refine wpAny_binaryOp_repeat_ref (T:="list") (U:="int") @2 (_,e,rfl) (λP=>typeIs_int P k t) noFill_list_mul F.fills_int_mul F.slot_int_rmul repeat_list F.slot_int_index.lookup
  (call_meets F.slot_int_rmul (typeIs_int s k t) F.entry_int_rmul (F.args_int_rmul_2 _ _) (int___rmul___int_list k t l its.toArray n)
   (e,rfl,(_,e,rfl),call_meets F.slot_list_mul (_,e,rfl) F.entry_list_mul (F.args_list_mul_2 _ _) (AutoListH.list___mul___list_int_3 l its.toArray n k t L K J) (e,?_)))
 rw[N];exact(.ref _,_,I.lnew (t':=s.toks) (r.rep k.toNat) (by rw[len_rep,Nat.mul_comm];erw[V]),rfl,q _ I.fresh)
section
variable {A:Around}{E:A0}
end
end L2
namespace Att
open PySem PySem.W PySem.Calls PyProof.Rows
def iW{P}{h:Heap}:∀(ns:List Int)(vs:A2),WellAll P h vs (ns.map WData.int)->IntsAre vs ns:=by
 intro ns
 induction ns with
 |nil=>
  intro vs w;rw[List.map_nil]at w;cases w;exact .nil
 |cons n ns ih=>
  intro vs w;rw[mk0]at w;cases w with
  |cons a b=>
   cases a;exact .cons _ _ (ih _ b)
def wa{l:OpenLaw}(Z:l.most=some n){P}{h:Heap}{args}{vals}
  (J:l.row.toRowW.claim.pre args=true) (R:WellAll P h vals args):
  ∃a vs ns,vals=[Value.ref a]/\args=[WData.list (ns.map WData.int)]/\h.get? a=some {cls:=.type "list",data:=.seq vs.toArray}/\IntsAre vs ns/\ns.length<=n:=by
 have O:=(pre_splitW J).1;have U:l.pre.holds [] {args:=args}=true:=(pre_splitW J).2;obtain⟨d,r,rfl,V,W⟩:=hasAllW_cons O;obtain rfl:=hasAllW_nil W;obtain⟨xs,rfl,Y⟩:=hasW_list V;obtain⟨ns,rfl⟩:=items_int Y;have L:ns.length<=n:=by
  unfold OpenLaw.pre at U;have M:(WTm.not (.lt (.lit (.int (n:Int))) (.len (.arg 0)))).holds [] {args:=[.list (ns.map .int)]}=true:=by
   have M:=(holds_andW U).1;rw[Z]at M;erw[M]
  have N:=condW_of M (w_not (w_lt w_lit (w_len_list (w_arg rfl))));rw[lm0]at N;refine Nat.le_of_not_lt λq=>?_
  have D:(n:Int)<((ns.length:Nat):Int):=by simp_all
  first
   |(rw[dt0 D]at N;erw[absurd N (by decide)])
   |(simp at N;simp)
 cases R with
 |cons B C=>
  cases C;cases B with
  |list F K=>exact(_,_,ns,rfl,rfl,F,iW ns _ K,L)
def wb(l:OpenLaw)(args):l.row.toRowW.claim.post args (.bool true) args=true:=
 postW_of (r:=l.row.toRowW) (X:=(true==true))
  (by first|rfl|decide|simp[WShape.has,WShape.arms,WShape.armsAll]:WShape.has [] (.bool true) .bool=true)
  (w_eq_bool (w_res rfl) w_lit:(WTm.eq .res (.lit (.bool true))).value [] {args:=args,res:=some (.bool true),after:=args}=some (.bool (true==true))) rfl
def attach_call{l:OpenLaw}{q}{loose}{XP}{YP}{d}
  (v:l.most=some n) (F:d.params.defaults=[])
  (call:∀(w:World)(K J:Shared)(V C:A6)(M:Addr)(o:Obj)(Q U L:Value)(a:Addr)(vs:A2)(ns:List Int),
   Ground q loose [] XP w K V C J.heap->YP w J.heap->
   J.heap.get? M=some o->o.data=.func (docDef d.name d.params d.body d.scope Q U L)->J.heap.CodeRec U d.name->V d.name=some (.ref M)->
   J.heap.get? a=some {cls:=.type "list",data:=.seq vs.toArray}->IntsAre vs ns->ns.length<=n->J.gens=#[]->
   codeAny (model l.prog w) callerA (.call (.ref M) ([.ref a],[])) (λr W=>r=.ok (.ret (.bool true))/\OldK J.heap W.heap/\W.os=J.os/\AllBare W.gens) J):
  WalkO q loose XP YP l.row.toRowW d [] (λf vs=>PySem.call f vs):=by
 intro w K J V C G Y M o Q U L I kV m z Z S D y args vals p R P t B u;obtain rfl:I=.none:=Dflts.none S F;obtain rfl:kV=.none:=Dflts.noKw S;obtain⟨a,vs,ns,rfl,rfl,O,hints,N⟩:=wa v R B;refine enter_call (codeAny_mono (call w K J V C M o Q U L a vs ns G Y m (fd_plain z) Z D O hints N y) λr W k=>?_);obtain⟨rfl,E,A,j⟩:=k;exact(.inl (.bool true,.bool true,[],rfl,λb=>rfl,.bool true,wb l _,λb=>(List.Pairwise.nil,λb g=>(nomatch g))),E,A,j)
section
variable {A:Around}{E:A0}{K:Frag}
end
end Att
namespace L2
open PySem PySem.Spec PyProof.Rows
def hZ:∀{vs:A2}{ns},IntsAre vs ns->Vals (ns.map V.int) vs:=by
 intro vs ns h
 induction h with
 |nil=>exact .nil
 |cons n t h ih=>exact .cons (t,rfl) ih
def FV(H:Hp):Prop:=∀b,H b=none\/∃o xs,H b=some (.frz o (.lst xs))
def xZ{P:Program}{K:fg0}{mg mb}{g:CXT}{k:Nat}{fa a}{x:Str}{sp:Sp}{s₁}{vs:A2}{ns}
  (l:K.In s₁.heap) (U:s₁.heap.Ns mainGlobals mg) (J:s₁.heap.Ns builtinsNs mb) (E:∀x:Str,x≠"__name__"->mb x=bootBuiltins x) (R:s₁.heap.NoLimit) (hg:s₁.gens=#[])
  (S:s₁.heap.get? a=some {cls:=.type "list",data:=.seq vs.toArray}) (hi:IntsAre vs ns) (hl:ns.length<=sizeLine) (hr:Room k callerA)
  (F:∀base:Heap,K.In base->base.Ns mainGlobals mg->FnOk P w K mg base g k fa fd [x] sp) (N:∀(s:Shared)(u:Value),BindsTo s fd ([u],[]) [(x,u)])
  (j:∀H:Hp,FV H->SqL K H a (ns.map V.int)->sp [.ref a] H (λv c=>v=.bl true) λc c c=>False)
  (I:∀H e L,g [] H s₁ (λc c c=>False) e L->False):
  codeAny (model P w) callerA (.call (.ref fa) ([.ref a],[])) (λr L=>r=.ok (.ret (.bool true))/\OldK s₁.heap L.heap/\L.os=s₁.os/\AllBare L.gens) s₁:=by
 have rv:=hZ hi;have D:=hi.length;have core:∀H:Hp,FV H->SqL K H a (ns.map V.int)->HOk P w H s₁.heap->(∀b,H b≠none->b=a)->(H a≠none->K.lookup a=none)->
   codeAny (model P w) callerA (.call (.ref fa) ([.ref a],[])) (λr L=>r=.ok (.ret (.bool true))/\OldK s₁.heap L.heap/\L.os=s₁.os/\AllBare L.gens) s₁:=by
  intro H i hS Y p hK;have base_of:∀{b:Addr}{o:Obj},s₁.heap.get? b=some o->H b=none->(mZ s₁.heap H).get? b=some o:=λe n=>(PySem.W.hideAll_get _ e λhm=>by
     have q:=(List.mem_filter.mp hm).2
     simp_all)
  have y:∀{b:Addr}{o:Obj}{Q:Array DictEntry}{C:Nat},s₁.heap.get? b=some o->o.data=.dict Q C->H b=none:=λ{b o Q C} e d=>by
   cases q:H b with
   |none=>rfl
   |some u=>
    have G:b=a:=p b (by rw[q];simp);subst G;rw[S]at e;cases e;have d':=d;cases d'
  have M:∀{b:Addr}{m:A6},s₁.heap.Ns b m->(mZ s₁.heap H).Ns b m:=λ{b m} ⟨o,Q,C,e,d,r⟩=>(o,Q,C,base_of e (y e d),d,r)
  have O:K.In (mZ s₁.heap H):=λb o e=>base_of (l b o e) (by
   cases q:H b with
   |none=>rfl
   |some u=>
    have G:b=a:=p b (by rw[q];simp);subst G;rw[hK (by rw[q];simp)]at e;cases e)
  have hM:Mod K mg (mZ s₁.heap H):=(O,M U,(mb,M J,E),let ⟨mc,h1,h2⟩:=R;(mc,M h1,h2));have e0:Env0 P w K mg (mZ s₁.heap H) callerA [] s₁ H:=(rfl,hM,λb o e=>BC e,Nat.le_of_eq ((PySem.W.hideAll_size _ _)),trivial,λb J=>absurd (show b∈([]:A4)from J) @0,Y,.of_eq hg);refine codeAny_mono ((F _ O (M U)).run callerA [] s₁ H ([.ref a],[]) [.ref a] [.ref a] _ _ hr e0 (N s₁ (.ref a)) (.cons rfl .nil) (j H i hS)) λr L h=>?_
  cases r with
  |error e=>exact (I H e L h).elim
  |ok fl=>
   cases fl with
   |next=>exact False.elim h
   |brk=>exact False.elim h
   |cont=>exact False.elim h
   |ret u=>
    obtain⟨v,H',os,bare,un,Z,r',q⟩:=h;have q':=q;subst q';obtain rfl:u=Value.bool true:=r';refine(rfl,OldK.of_keep λb o e=>?_,os,bare);cases q:H b with
    |none=>exact un.keep b o e q (by intro z;erw[absurd (show b∈([]:A4)from z) @0]) @0
    |some u=>
     rcases i b with z|⟨ob,xs,z⟩
     .rw[q]at z;cases z
     .have z2:=un.frzs b ob _ z
      obtain⟨t,_⟩:=Y b _ z;obtain⟨e2,_⟩:=Z b _ z2;rw[e]at t;cases t;erw[e2]
 cases A:K.lookup a with
 |some o=>
  have e:=l a o A;rw[S]at e;cases e;refine core (λc=>none) (λc=>.inl rfl) (.inr (_,vs.toArray,_,A,rfl,rfl,rfl,by rw[ls0,D];erw[hl],by simpa using rv)) (λb u z=>by have B:=z;cases B) (λb z=>absurd rfl z) λz=>absurd rfl z
 |none=>
  refine core (λb=>if b=a then some (.frz {cls:=.type "list",data:=.seq vs.toArray} (.lst (ns.map V.int)))else none) (λb=>?_) (.inl (.inr ({cls:=.type "list",data:=.seq vs.toArray},if_pos rfl))) (λb u z=>?_) (λb z=>?_) λc=>A
  .by_cases J:b=a
   .exact .inr (_,_,if_pos J)
   .exact .inl (if_neg J)
  .by_cases J:b=a
   .have B:=(if_pos J).symm.trans z
    cases B;subst J;exact(S,by rw[lm0];erw[hl],vs,_,rv,S)
   .have B:=(if_neg J).symm.trans z
    cases B
  .by_cases J:b=a
   .erw[J]
   .erw[absurd (if_neg J) z]
def BU{l:PySem.W.OpenLaw}{n k}{q}{loose}{XP}{YP}{d}{K:Params->fg0}{Q:World->CXT}{P:World->Sp}{x:Str}
  (p:l.most=some n) (D:n<=sizeLine) (U:d.params.defaults=[]) (i:Room k callerA)
  (y:∀(w:World)(h:Heap),YP w h->(K w.params).In h)
  (F:∀(w:World)(L:A6)(O:Addr)(h:Heap),(K w.params).In h->h.Ns mainGlobals L->L d.name=some (.ref O)->
   ∃fd:FuncData,(∀(s:Shared)(u:Value),BindsTo s fd ([u],[]) [(x,u)])/\
    ∀base:Heap,(K w.params).In base->base.Ns mainGlobals L->FnOk l.prog w (K w.params) L base (Q w) k O fd [x] (P w))
  (B:∀(w:World)(H:Hp)(a:Addr)(ns:List Int),ns.length<=n->FV H->SqL (K w.params) H a (ns.map V.int)->P w [.ref a] H (λv c=>v=.bl true) λc c c=>False)
  (R:∀(w:World)(H:Hp)(s:Shared)(e:Value)(C:Shared),Q w [] H s (λc c c=>False) e C->False):
  PySem.W.WalkO q loose XP YP l.row.toRowW d [] (λf vs=>PySem.call f vs):=by
 refine Att.attach_call p U λw I N L mb O o pm cd E a vs ns G Y ho hd t Z M hints J r=>?_
 have S:=y w _ Y;obtain⟨fd,m,A⟩:=F w L O _ S G.T.g Z;erw[xZ S G.T.g G.T.b G.T.builtins G.T.nolimit r M hints (nt0 J D) i A m (λH j z=>B w H a ns J j z) λH e C=>R w H N e C]
noncomputable def defArgs(s:Stmt):Arguments:=match s with
 |.FunctionDef _ a _ _ _ _ _ _ _ _=>a
 |_=>{posonlyargs:=[],args:=[],vararg:=none,kwonlyargs:=[],kw_defaults:=[],kwarg:=none,defaults:=[]}
noncomputable def defBody(s:Stmt):List Stmt:=match s with
 |.FunctionDef _ _ b _ _ _ _ _ _ _=>b
 |_=>[]
noncomputable def defScope(s:Stmt):Scope:=match s with
 |.FunctionDef _ _ _ _ _ _ J _ _ _=>J
 |_=>{kind:=.function,names:=[],isGenerator:=false,isCoroutine:=false}
abbrev CX0:CXT:=λa a a a a a=>False
abbrev E0:XK:=λa a a=>False
def kZ :fJ CX0 X E0:=λa a a a a a a h=>h.elim
structure Fun(K:fg0)(x qual:Str)(st:Stmt)(f:Addr)(fd:FuncData):Prop where
 ex:∃(oc:Value)(od:Option Addr)(kV doc pm:Value)(an:Option Addr)(cdv ct:Value)(osl:Array (Option Value)),
  fd=PySem.W.fnOf x qual (defArgs st) (defBody st) @8 .none kV doc pm an cdv ct/\K.lookup f=some ⟨oc,od,.func fd,osl⟩/\PySem.W.codeIn K cdv qual=true
 kp:PySem.W.keepIn K (.ref f)=true
section
variable {P:Program}{K:fg0}{mg:A6}{base:Heap}
def Fun.ok{x qual}{N ps}{k:Nat}{R:Sp}(F:Fun K x qual st f fd)(S:cf N ps @8)(O:∀vs H Q E,R vs H Q E->vs.length=ps.length)
  (J:∀(cdv:Value)(A:Around)(outer:List Env)(s:Shared)(H:Hp)(vs:List V)(Q:VK)(E:XK),Room k (A.deeper (envOfC qual @8 s.heap.objs.size f cdv))->R vs H Q E->
   ∃t,PSs (iV CX0 P w K mg base N qual @8 f cdv A outer s H E).nox (defBody st) t/\t {nx:=λa U=>Q .non U,rt:=Q} (start N vs) H):FnOk P w K mg base CX0 (k+1) f fd ps R:=by
 obtain⟨G,I,kV,W,j,B,cdv,C,D,rfl,Z,L⟩:=F.ex;refine Jk Z L S O λA outer s H vs Q E Y M=>?_
 obtain⟨t,h,q⟩:=J cdv A outer s H vs Q E Y M;exact(t,h.nox,q)
def Fun.binds{x qual}{ps:A1}(F:Fun K x qual st f fd)
  (h:∀(kV J M:Value)(L:Option Addr)(cdv ct:Value)(us:A2),us.length=ps.length->bindArgs (PySem.W.fnOf x qual (defArgs st) (defBody st) @8 .none kV J M L cdv ct) (us,[])=pure (ps.zip us)):Binds K fd ps []:=by
 obtain⟨U,V,kV,J,M,L,cdv,ct,O,rfl,R,N⟩:=F.ex;exact .all (h kV J M L cdv ct)
def FW{x qual}{oc}{od an}{osl}{kV doc pm cdv ct}(l:K.lookup f=some (oc,od,.func (PySem.W.fnOf x qual (defArgs st) (defBody st) @8 .none kV doc pm an cdv ct),osl))
  (c:PySem.W.codeIn K cdv qual=true) (k:PySem.W.keepIn K (.ref f)=true):Fun K x qual st f (PySem.W.fnOf x qual (defArgs st) (defBody st) @8 .none kV doc pm an cdv ct):=((oc,od,kV,doc,pm,an,cdv,ct,osl,rfl,l,c),k)
end
def ia(h:n<=1000):n<sizeLine:=Nat.lt_of_le_of_lt h @2
def nD{A B:Prop}(h:B):if false=true then A else B:=by
 rw[if_neg fx0];erw[h]
def iteT{A B:Prop}(h:A):if true=true then A else B:=by
 rw[if_pos rfl];erw[h]
def Same(H J:Hp):Prop:=∀b o,H b=some o->J b=some o
def Same.refl(H:Hp):Same H H:=λa a h=>h
def Same.trans{H H1 H2}(a:Same H H1)(b:Same H1 H2):Same H H2:=λc o h=>b c o (a c o h)
def Same.free{J:Hp}(e:Same H J){l}(h:J l=.none):H l=.none:=by
 cases q:H l with
 |none=>rfl
 |some o=>
  rw[e l o q]at h;cases h
def Same.seq{K:fg0}{J:Hp}{a:Addr}(e:Same H J)(h:SqL K H a xs):SqL K J a xs:=by
 rcases h with (h|⟨o,h⟩)|h
 .exact .inl (.inl (e _ _ h))
 .exact .inl (.inr (o,e _ _ h))
 .exact .inr h
end L2
namespace L2.C
open PySem PySem.Spec PyProof.Rows L2
noncomputable def ib(env:Env):List (Str×NameKind)->List (Str×Addr)->List (Str×Addr)
 |[],J=>J
 |(n,k)::r,J=>if k==.free then ib env r ((n,(env.cells.lookup n).getD 0)::J)else ib env r J
def fv(h:∀x∈scope.names,x.2=.free->(env.cells.lookup x.1).isSome=true):
  closureFor scope env=pure (ib env scope.names []):=by
 simp only[closureFor];generalize scope.names=l at h ⊢;generalize ([]:List (Str×Addr))=J
 induction l generalizing J with
 |nil=>rfl
 |cons x r ih=>
  obtain⟨n,k⟩:=x;rw[List.forIn_cons]
  by_cases M:k=.free
  .subst M
   have K:=h (n,.free) ms0 rfl;obtain⟨c,K⟩:=is0 K;simp only[ib,cellOf,K];have:=ih (λy L=>h y (mc0 _ L)) ((n,c)::J);erw[this]
  .have N:(k==NameKind.free)=false:=by simpa using M
   simp only[ib,N];erw[ih (λy L=>h y (mc0 _ L)) J]
theorem ic :∀(l:List (Str×NameKind))(acc:List (Str×Addr)),(∀x∈l,x.2=.free->(env.cells.lookup x.1).isSome=true)->(∀x c,acc.lookup x=some c->env.cells.lookup x=some c)->
  ∀x c,(ib env l acc).lookup x=some c->env.cells.lookup x=some c
 |[],acc,_,K,x,c,e=>K x c e
 |(n,k)::r,acc,h,K,x,c,e=>by
  unfold ib at e
  by_cases L:k=.free
  .subst L
   obtain⟨M,O⟩:=is0 (h _ ms0 rfl);refine ic r _ (λy J=>h y (mc0 _ J)) (λy d q=>?_) x c e;rw[lk0]at q;cases J:y==n<;>simp_all
  .have N:(k==NameKind.free)=false:=by simpa using L
   rw[if_neg @6]at e;erw[ic r acc (λy J=>h y (mc0 _ J)) K x c e]
theorem gb :∀(l:List (Str×NameKind))(acc:List (Str×Addr))(x:Str),((x,NameKind.free)∈l\/∃c,acc.lookup x=some c)->∃c,(ib env l acc).lookup x=some c
 |[],acc,x,h=>by
  rcases h with h|h
  .cases h
  .erw[h]
 |(n,k)::r,acc,x,h=>by
  unfold ib
  by_cases J:k=.free
  .subst J
   refine gb r _ x ?_;rcases h with h|⟨c,h⟩
   .rcases mq0 h with h|h<;>simp_all
   .right
    rw[lk0];cases K:x==n with
    |true=>exact(_,rfl)
    |false=>exact(c,h)
  .rw[if_neg @6]
   refine gb r _ x ?_
   grind
theorem aY{env:Env}(M:env.scope.kind=.function):∀{names:List (Str×NameKind)}{x},names.lookup x=some .free->env.kindOf x=some .cell->
  (names.map λ(n,k)=>if (k==NameKind.free&&env.scope.kind==.function&&env.kindOf n==some .cell)then (n,NameKind.cell)else (n,k)).lookup x=some .cell
 |[],_,h,_=>by simp at h
 |(n,k)::r,x,h,L=>by
  have ih:=@aY _ M r x;show List.lookup x ((if (k==NameKind.free&&env.scope.kind==.function&&env.kindOf n==some _)=true then (n,NameKind.cell)else (n,k))::_)=_;cases J:x==n with
  |true=>
   simp_all
  |false=>
   simp only[lk0,J]at h
   by_cases K:(k==NameKind.free&&env.scope.kind==.function&&env.kindOf n==some .cell)=true
   .rw[if_pos K];simp only[lk0,J];erw[ih h L]
   .rw[if_neg K];simp only[lk0,J];erw[ih h L]
section
variable {A:Around}{R:Result->Shared->Prop}
noncomputable abbrev nE(ifs:A3)(env:Env):Sem Bool:=
 forIn ifs true λc r=>if r=true then do let ok ←isTrue c env (eval c env);pure (ForInStep.yield ok)else pure (ForInStep.yield r)
def pE{elt target iter}{ifs}{pos}{it acc}(I:Nat->Shared->Prop)
  (turn:∀n s,I n s->wpAny @3 A (pyNext it) (λr s1=>match r with
   |none=>R (.ok .next) s1
   |some v=>wpAny @3 A (letOwnedTupleGo target it v) (λa s2=>wpAny @3 A (assign target env v) (λa s3=>wpAny @3 A (nE ifs env) (λok s4=>
     if ok=true then wpAny @3 A (eval elt env) (λx M=>wpAny @3 A (call (.builtin "list.append") [acc,x]) (λa s6=>∃m,m<n/\I m s6) (λa a=>False) M) (λa a=>False) s4
     else ∃m,m<n/\I m s4) (λa a=>False) s3) (λa a=>False) s2) (λa a=>False) s1) (λa a=>False) s)
  (n:Nat) (h:I n s):codeAny @3 A (.compLoop (.ListComp elt [(target,iter,ifs,0)] scope pos) 0 it acc env) R s:=by
 have J:∀{E:A0}(x:Value)(Y:Shared),False->E x Y:=λa a z=>z.elim
 refine codeAny_loop rfl I (λn s W=>?_) n h;show wpAny _ A _ _ _ s;refine wpAny_noted ?_;rw[compTurn_list];refine wb0 (wpAny_standAt (wb0 (wpAny_mono (turn n s W) (λr s1 K=>?_) J)));cases r with
 |none=>exact wq0 K
 |some v=>
  refine wb0 (wpAny_mono K (λa s2 N=>?_) J);refine wb0 (wpAny_mono N (λa s3 O=>?_) J);refine wb0 (wpAny_mono O (λok s4 L=>?_) J);cases ok with
  |false=>exact wq0 (rfl,L)
  |true=>
   refine wb0 (wb0 (wpAny_mono L (λx M U=>?_) J));erw[wb0 (wpAny_mono U (λa s6 V=>wq0 (wq0 (rfl,V))) J)]
end
def blk(X:Cx)(scope:Scope)(N:A1)(C:Addr)(s:Shared)(H:Hp)(J:A4):Cx where
 prog:=X.prog
 w:=X.w
 K:=X.K
 mg:=X.mg
 base:=X.base
 A:=X.A
 N:=N
 s₀:=s
 H₀:=H
 env:=compEnvC scope (ib X.env scope.names []) C X.env
 outer:=X.stack
 stack:=X.stack
 ex:=J
 fn:=λa=>false
 calm:=X.calm
 pn:=[]
 xe:=λa a=>False
noncomputable def aA(X:Cx)(tn:A1)(js:List Nat):List Str:=tn++js.map λj=>X.N.getD j Str.empty
noncomputable def gc(tn:A1)(js:List Nat)(σ:St):St:=tn.map (λa=>.none)++js.map λj=>(σ[j]?).join
structure BlkOk(X:Cx)(scope:Scope)(js:List Nat):Prop where
 kind:scope.kind=.function
 free:∀y∈scope.names,y.2=.free->X.env.kindOf y.1=some .cell
 cell:∀y∈scope.names,y.2≠.cell
 loc:∀y∈scope.names,y.2=.local->scope.names.lookup y.1=some .local
 js:∀j∈js,∃x,X.N[j]?=some x/\scope.names.lookup x=some .free
section
variable {tn:A1}{js:List Nat}{fp:A4}
theorem BlkOk.cells(B:BlkOk X scope js)(I:Inv X zp σ H s):∀x∈scope.names,x.2=.free->(X.env.cells.lookup x.1).isSome=true:=λx K J=>by
 obtain⟨c,e⟩:=I.ok.has _ (.inl (B.free x K J));rw[e];rfl
def BlkOk.from(B:BlkOk X scope js)(I:Inv X zp σ H s){x}{c}(e:(ib X.env scope.names []).lookup x=some c):X.env.cells.lookup x=some c:=
 ic _ [] (B.cells I) (λa a z=>by cases z) x c e
def ya(B:BlkOk X scope js)(I:Inv X zp σ H s)(N:∀b∈fp,jz X zp H b)(F:∀b∈fp,∃o,s.heap.get? b=some o){C:Addr}(R:s.heap.objs.size<=C):(blk X scope @7 C s H fp).Ok where
 mod:=I.ok.mod
 kind:=B.kind
 glob:=I.ok.glob
 blt:=I.ok.blt
 above:=R
 inj:=λx y c L M=>I.ok.inj x y c (B.from I L) (B.from I M)
 has:=λx D=>by
  refine gb scope.names [] x (.inl ?_);have hm:=D.imp ml0 ml0;have K:∀k,(Prod.mk x k)∈(relabel scope X.env).names->k=.cell\/k=.free->(Prod.mk x NameKind.free)∈scope.names:=λk Z O=>by
   obtain⟨⟨n,V⟩,U,e⟩:=mm0 Z
   by_cases Y:(V==NameKind.free&&X.env.scope.kind==.function&&X.env.kindOf n==some .cell)=true
   .simp_all
   .have W:(Prod.mk n V)=(Prod.mk x k):=by rw[<-e];exact (if_neg Y).symm
    cases W;rcases O with rfl|rfl
    .erw[absurd rfl (B.cell _ U)]
    .erw[U]
  rcases hm with hm|hm
  .erw[K _ hm (.inl rfl)]
  .erw[K _ hm (.inr rfl)]
 cab:=λx c h a=>by cases h
 hd:=I.ok.hd
 frames:=I.ok.frames
 stk:=.inl rfl
 exf:=λb J=>(by
  obtain⟨o,e⟩:=F b J;erw[nn0 (nl0 (hs0 e) R)],λx c e=>(N b J).2.2.2.2.1 x c (B.from I e))
 bs:=I.bs
 bsz:=nt0 I.ok.bsz I.sz
 noex:=λb o e J=>by
  rcases (N b J).2.2.2.1 with z|z
  .erw[I.ok.noex b o e z]
  .erw[absurd (nl0 (hs0 e) (nt0 I.ok.bsz z)) (li0 _)]
 exfs:=λb J z=>by
  obtain⟨_,L,M,_⟩:=N b J;exact (mq0 (I.stkSub b z)).elim L M
 funs:=I.stack
 frf:=I.stkFree
def BV(B:BlkOk X scope js)(I:Inv X zp σ H s)(t:∀b∈fp,jz X zp H b)(h:∀b∈fp,∃o,s.heap.get? b=some o){C D:Addr}(V:s.heap.objs.size<=D)(E:s.heap.objs.size<=C)(Y:C≠D){R}{tk}
  (k:∀b o,s.heap.get? b=some o->R.get? b=some o) (a:R.get? D=some {cls:=.type "list",data:=.seq (#[]:A9) 0}) {m} (S:R.Ns C m):
  Inv (blk X scope @7 C s H fp) [] (gc tn js σ) (upd H D (.lst [])) {s with heap:=R,toks:=tk}:=by
 have Z:=I.hok.fresh V;refine(ya B I t h E,rfl,I.bare,Un.laid k V Z,(m,S,λi x v K J e3=>?_),λx c e=>?_,?_,λx c e=>?_,λp hp=>absurd (show p∈([]:A5)from hp) @0,I.hok.laid k V (by simp,[],0,.nil,by simpa using a),?_)
 .have K:(aA X tn js)[i]?=some x:=K
  by_cases d:i<tn.length
  .unfold gc at J
   rw[gl0 (by simpa using d),gm0]at J;cases q:tn[i]? with
   |none=>rw[q]at J;cases J
   |some y=>rw[q]at J;cases J
  .unfold gc at J
   unfold aA at K;rw[List.getElem?_append_right (by simp;simp_all),gm0]at J;rw[List.getElem?_append_right @6,gm0]at K;rw[lm0]at J;cases q:js[i-tn.length]? with
   |none=>rw[q]at J;cases J
   |some j=>
    rw[q]at K J;have J:(σ[j]?).join=some v:=Option.some.inj J;obtain⟨y,A,L⟩:=B.js j (mg0 q);have K:X.N.getD j Str.empty=x:=Option.some.inj K;have g:y=x:=by rw[<-K,List.getD_eq_getElem?_getD,A];rfl
    subst g;have W:σ[j]?=some (some v):=by
     cases r:σ[j]? with
     |none=>rw[r]at J;cases J
     |some o=>rw[r]at J;cases o with
      |none=>cases J
      |some v'=>cases J;rfl
    have F:=B.free _ (ml0 L) rfl;obtain⟨m0,_,Q⟩:=I.loc;obtain⟨u,r,lk⟩:=Q j y v A W (.inr (.inl F));refine(u,r,?_);rcases lk with⟨z,_⟩|⟨_,c,l,z⟩
    .rw[F]at z;cases z
    .obtain⟨P,O⟩:=gb (env:=X.env) scope.names [] y (.inl (ml0 L))
     have:P=c:=by have:=B.from I O;rw[l]at this;exact (Option.some.inj this).symm
     subst this;refine .inr (.inl (aY I.ok.kind L F),P,O,?_);obtain⟨o,M,U⟩:=z;exact(o,k _ _ M,U)
 .obtain⟨v,o,M,U⟩:=I.cell x c (B.from I e)
  exact(v,o,k _ _ M,U)
 .show upd H D (.lst []) C=none
  rw[ab Y];erw[I.hok.fresh E]
 .show upd H D (.lst []) c=none
  have G:=B.from I e;obtain⟨v,o,M,U⟩:=I.cell x c G;rw[ab (nn0 (nl0 (hs0 M) V))];erw[I.freeC x c G]
 .show (gc tn js σ).length=(aA X tn js).length
  unfold gc aA;simp
end
def PCs(X:Cx)(ifs:A3)(t:TT):Prop:=
 ∀(zp:A5)(s:Shared)(σ:St)(H:Hp)(Q:Bool->Hp->Prop),Inv X zp σ H s->t σ H Q->wpAny @5 X.A (nE ifs X.env) (TP X zp σ Q) X.xe s
def pcs_nil :PCs X [] (λa H Q=>Q true H):=λa a a H a I h=>wpAny_tests_nil (H,I,h)
def Eu(tn:A1)(js:List Nat)(F:TI)(g:TG)(tc:TT)(te:TE):TE:=λσ H Q=>F σ H λJ R=>∀p,R p=none->∃W:Nat->Nat->St->Hp->Prop,(∃m,W 0 m (gc tn js σ) (upd R p (.lst [])))/\∀i m N L,W i m N L->
 (J.stop i L/\Q (.ref p) L)\/(J.go i L/\∀x U,J.yld i L x U->g x N U λK Z=>tc K Z λb V=>
  if b=true then te K V λy Y=>∃O,Y p=some (.lst O)/\O.length<sizeLine/\∃M,M<m/\W (i+1) M K (upd Y p (.lst (O++[y])))else ∃M,M<m/\W (i+1) M K V)
section
variable {elt iter tg:Expr}{ifs:A3}{tn:A1}{js:List Nat}{wi:TI}{g:TG}{tc:TT}{te:TE}
def la{s2:Shared}{E:A0}{RR:Value->Addr->Result->Shared->Prop}{Q:VK}{j5:Value}(B:BlkOk X scope js)(Y:X.calm=true)
  (hg:∀C s H N,PG (blk X scope @7 C s H N) tg g) (hc:∀C s H N,PCs (blk X scope @7 C s H N) ifs tc) (he:∀C s H N,PE (blk X scope @7 C s H N) elt te)
  (h2:PIE X zp σ tg (λJ H1=>∀p,H1 p=none->∃W:Nat->Nat->St->Hp->Prop,(∃m,W 0 m (gc tn js σ) (upd H1 p (.lst [])))/\∀i m O L,W i m O L->
   (J.stop i L/\Q (.ref p) L)\/(J.go i L/\∀x V,J.yld i L x V->g x O V λF H3=>tc F H3 λb H4=>
    if b=true then te F H4 λy H5=>∃ys,H5 p=some (.lst ys)/\ys.length<sizeLine/\∃U,U<m/\W (i+1) U F (upd H5 p (.lst (ys++[y])))else ∃U,U<m/\W (i+1) U F H4)) j5 s2)
  (fin:∀(C D:Addr)(s':Shared)(L:Hp)(m:A6),Inv X zp σ L s'->s2.heap.objs.size<=C->C≠X.env.locals->(∀x c,X.env.cells.lookup x=some c->c≠C)->(∀p∈X.pn++zp,p.1≠C)->X.s₀.heap.objs.size<=C->L C=none->s'.heap.Ns C m->
   Q (.ref D) L->RR (.ref D) C (.ok .next) s'):
  wpAny @5 X.A (newList []) (λacc s3=>wpAny @5 X.A (newFunctionEnv scope X.env.globals (ib X.env scope.names []) [] X.env.qual none .none (some X.env)) (λl s4=>
   codeAny @5 X.A (.compStart (.ListComp elt [(tg,iter,ifs,0)] scope pos) 0 j5 acc {l with scope:=relabel scope X.env}) (RR acc l.locals) s4) E s3) E s2:=by
 obtain⟨it,N,j1,J,V,e,j,T,j7,f2,R⟩:=h2;subst e;refine wpAny_newObj_type (wpAny_newFunctionEnv B.cell (by intro y hy;simp at hy) (λh1 h Z=>?_) B.kind);dsimp only at h Z ⊢;generalize hP:s2.heap.push {cls:=.type "list",dict:=none,data:=.seq ([]:A2).toArray}=P2 at h Z ⊢;have hC:P2.objs.size=s2.heap.objs.size+1:=by rw[<-hP,Heap.size_push]
 have K:s2.heap.objs.size<=P2.objs.size:=by simp_all
 have j3:P2.objs.size≠s2.heap.objs.size:=by simp_all
 have j6:∀b o,s2.heap.get? b=some o->h1.get? b=some o:=λb o e=>
  Z.extBut b o (nn0 (nl0 (hs0 e) K)) (ps0 _ (hP▸ps0 _ e))
 have j4:h1.get? s2.heap.objs.size=some {cls:=.type "list",data:=.seq (#[]:A9) 0}:=
  Z.extBut _ _ (Ne.symm j3) (ps0 _ (hP▸pz0 _ rfl))
 have ho:∀b∈N,∃o,s2.heap.get? b=some o:=λb M=>let ⟨o,e,_⟩:=T.obj 0 _ j7 b M;(o,e)
 have z3:V s2.heap.objs.size=none:=j.hok.fresh (nr0 _);obtain⟨W,⟨m0,w0⟩,turn⟩:=R _ z3;have I4:=BV (tn:=tn) (tk:=s2.toks+([]:List (Str×Value)).length) B j f2 ho (nr0 _) K j3 j6 j4 h;have t:∀{L:Hp},(∀b∈N,L b=none)->∀b∈N,jz (blk X scope @7 P2.objs.size s2 V N) [] L b:=λhn=>(have I:=j;have hf:=f2;have hC:=K;λb M=>by
   have ok:=ya (tn:=tn) B I hf ho hC;exact(hn b M,(ok.exf b M).1,ok.exfs b M,.inl M,(ok.exf b M).2,λp hp=>absurd (show p∈[] from hp) @0))
 have j9:j1 0 h1:=T.keep _ _ _ j7 λb M o e=>j6 b o e
 have z1:∀b∈N,upd V s2.heap.objs.size (.lst []) b=none:=λb M=>by
  obtain⟨o,e⟩:=ho b M;rw[ab (nn0 (hs0 e))];exact (f2 b M).1
 have loop:∀s3:Shared,s3={s2 with heap:=h1,toks:=s2.toks+([]:List (Str×Value)).length}->
   codeAny @5 X.A (.compLoop (.ListComp elt [(tg,iter,ifs,0)] scope pos) 0 (.ref it) (.ref s2.heap.objs.size) (compEnvC scope (ib X.env scope.names []) P2.objs.size X.env)) (RR (.ref s2.heap.objs.size) P2.objs.size) s3:=by
  rintro s3 rfl
  refine pE (λn s'=>∃i O L,Inv (blk X scope @7 P2.objs.size s2 V N) [] O L s'/\j1 i s'.heap/\(∀b∈N,L b=none)/\W i n O L) ?_ m0 (0,_,_,I4,j9,z1,w0)
  rintro n s3 ⟨i,S,H3,I3,j8,j2,w3⟩
  rcases turn i n S H3 w3 with⟨stop,qn⟩|⟨go,step⟩
  .refine thn (T.done (blk X scope @7 P2.objs.size s2 V N) rfl rfl rfl Y i [] s3 S H3 _ I3 (t j2) j8 stop) ?_;rintro r s4 ⟨hr,k⟩
   subst hr;obtain⟨m,hm,_⟩:=k.loc;refine fin _ _ s4 H3 m ((have I:=j;have hf:=f2;have J:=k;I.call' J.os J.base J.hok J.bare λb M=>((hf b M).2.2.2.1,(hf b M).2.1,(hf b M).2.2.2.2.1,(hf b M).2.2.2.2.2))) K (Nat.ne_of_gt (nl0 j.lt K)) (λx c e=>?_) (λp hp z=>?_) (nt0 j.sz K) k.free hm qn
   .obtain⟨v,q⟩:=j.cell x c e
    erw[nn0 (nl0 q.lt K)]
   .erw[absurd (nl0 (hs0 (j.pin p hp).1) (by rw[z];exact K)) (li0 _)]
  .refine thn (T.item (blk X scope @7 P2.objs.size s2 V N) rfl rfl rfl Y i [] s3 S H3 _ I3 (t j2) j8 go) ?_;rintro r s4 ⟨u,hr,h4⟩
   subst hr;refine thn h4 ?_;rintro _ s5 ⟨x,H5,I5,r5,y5,j0,z2⟩;have z0:=I5.pinned (t z2) (T.obj _ _ j0);refine thn (hg _ _ _ _ _ s5 S H5 x u _ z0 r5 (step x H5 y5)) ?_;rintro _ s6 ⟨P,H6,I6,q6⟩;have again:∀{s7:Shared}{G:St}{H7:Hp},Inv (blk X scope @7 P2.objs.size s2 V N) ([]++jA N s5.heap) G H7 s7->(∃U,U<n/\W (i+1) U G H7)->
     ∃m,m<n/\∃i O L,Inv (blk X scope @7 P2.objs.size s2 V N) [] O L s7/\j1 i s7.heap/\(∀b∈N,L b=none)/\W i m O L:=λ{s7 G H7} I7 ⟨U,hm,w7⟩=>by
    refine(U,hm,i+1,G,H7,I7.unpinned,T.keep _ _ _ j0 λb M o e=>(I7.pin (b,o) (mr0 _ (mr0 _ (dz M e)))).1,λb M=>?_,w7);obtain⟨o,e,d⟩:=T.obj _ _ j0 b M;exact (I7.pin (b,o) (mr0 _ (mr0 _ (dz M e)))).2.1
   refine thn (hc _ _ _ _ _ s6 P H6 _ I6 q6) ?_;rintro ok s7 ⟨H7,I7,q7⟩;cases ok with
   |false=>
    rw[if_neg fx0]at q7 ⊢;erw[again I7 q7]
   |true=>
    rw[if_pos rfl]at q7 ⊢;refine thn (he _ _ _ _ _ s7 P H7 _ I7 q7) ?_;rintro xv s8 ⟨y,H8,I8,r8,ys,hp,hz,q8⟩;refine thn (hX _ s8 P H8 (.ref s2.heap.objs.size) [y] _ [xv] (λa L=>∃U,U<n/\W (i+1) U P L) I8 rfl (.cons r8 .nil) (_,ys,y,rfl,rfl,hp,hz,q8)) ?_;rintro _ s9 ⟨_,H9,I9,_,q9⟩;erw[again I9 q9]
 erw[codeAny_compStart_list (loop _ rfl) (T.self _ 0 _ _ _ j9 (loop _ rfl))]
def nF(B:BlkOk X scope js)(J:X.calm=true)(P:PI X tg iter wi)(S:∀C s H K,PG (blk X scope @7 C s H K) tg g)(hc:∀C s H K,PCs (blk X scope @7 C s H K) ifs tc)
  (F:∀C s H K,PE (blk X scope @7 C s H K) elt te) (hs:∀x,foldedSetIterable iter X.env x=pure x):PE X (.ListComp elt [(tg,iter,ifs,0)] scope pos) (Eu tn js wi g tc te):=λpins s σ H Q I h=>wpAny_comprehension_free rfl hs (fv (B.cells I)) B.kind B.loc (thn (P _ s σ H _ I h) λv z M=>thn M λE y L=>la B J S hc F L λC D j N m O M L U V W Y G q=>(m,G,λR A=>(.ref D,N,O.turned (λb o Z e=>(A.2 b Z).trans e) Y L (.inr W) U V,rfl,q)))
def ud{i:Nat}{y:Str}{S J:Pos}(B:BlkOk X scope js)(K:X.calm=true)(hi:PI X tg iter wi)(hg:∀C s H M,PG (blk X scope @7 C s H M) tg g)(hc:∀C s H M,PCs (blk X scope @7 C s H M) ifs tc)
  (he:∀C s H M,PE (blk X scope @7 C s H M) elt te) (p:X.N.Nodup) (Y:X.N[i]?=some y) (j:X.env.scope.names.lookup y=some .local)
  (Z:swapsWith (.ListComp elt [(tg,iter,ifs,0)] scope pos) (some (.Name y S)) J.line X.env=pure true) (hs:∀x,foldedSetIterable iter X.env x=pure x):
  PS X (.Assign [.Name y S] (.ListComp elt [(tg,iter,ifs,0)] scope pos) J) (λF σ H=>Eu tn js wi g tc te σ H λv L=>F.nx (σ.set i (some v)) L):=by
 intro zp s σ H F I h;rw[exec_Assign_Name_used _ _ _ _ Z];refine wb0 (wpAny_standAt (wb0 ?_));refine wb0 (wpAny_mono (wpAny_comprehension_free (use:=some (assign (.Name y S) X.env)) (Q:=λc P=>SP X zp F .next P) rfl hs (fv (B.cells I)) B.kind B.loc
  (thn (hi zp s σ H _ I h) λv s1 E=>thn E λj0 s2 R=>?_)) (λc P hq=>wq0 (wq0 hq)) λc c e=>e)
 refine la (Q:=λv L=>F.nx (σ.set i (some v)) L) B K hg hc he R ?_;intro C D P L m u E R A k t r hm q;refine wpAny_assign_Name (store_ok2 (v:=.ref D) u p Y (.inl j) rfl (λG U W=>?_) (.inr j));obtain⟨a,sb,d⟩:=W;have V:C≠a:=by
  rcases d with z|z
  .rw[z];erw[R]
  .exact (A _ _ z).symm
 refine(m,hm.sameBut sb V,λl O=>?_);exact(_,L,U.turned (t':=G.toks) (λb o W e=>(O.2 b W).trans e) r R (.inr t) A k,q)
end
end L2.C
namespace K40
open PySem L2
noncomputable abbrev cV:Nat:=141
noncomputable def top(i:Nat):Stmt:=PySem.Challenge.pw_strata_k40_whole_merged_trees.main.body.getD i (.Pass (0,0,0,0))
def met(j:Nat):Stmt:=match top 12 with|.ClassDef _ _ _ b ..=>b.getD j (.Pass (0,0,0,0))|_=>.Pass (0,0,0,0)
noncomputable abbrev m0:Value:=.str "strata.names" 194
noncomputable abbrev m1:Value:=.str "strata.vaults" 277
noncomputable abbrev m2:Value:=.str "strata.lines" 410
noncomputable abbrev m3:Value:=.str "strata.texts" 451
noncomputable abbrev m4:Value:=.str "strata.merging" 524
noncomputable abbrev m5:Value:=.str "law_strata_k40_whole_merged_trees" 596
abbrev fo(n q:Str)(st:Stmt)(K:Value)(J:Addr):Obj:=(.type "function",none,.func (PySem.W.fnOf n q (defArgs st) (defBody st) @8 .none .none .none K none (.ref J) .none),#[])
noncomputable def kE(P:Params)(k:Str)(t:Nat)(v:Value):DictEntry:=(PyData.keyHash P k,.str k t,v)
noncomputable def dO(n:Nat)(es:List DictEntry):Obj:=(.type "dict",none,.dict es.toArray n,#[])
noncomputable def cO(n:Str)(J mro:A2)(ns:Addr)(subs:A2)(sl:List (Option Value)):Obj:=(.type "type",none,.cls {name:=n,bases:=J,mro:=mro,ns:=ns,qualname:=n,subclasses:=subs},sl.toArray)
noncomputable def kO(n q:Str)(t l p e J:Nat)(w:Bool):Obj:=(.type "code",none,.fields #[.str n t,.str q (t+1),.str "/claim/cut.py" (t+2),.int l 0,.int p 0,.int 0 0,.int 0 0,.int 3 0,.ref (J-(if w then 5 else 3)),.bool true,.int 181 0,.ref (J-(if w then 4 else 2)),.none,if w then .ref (J-3)else .none,if w then .ref (J-2)else .none,.ref (J-1),.int (t+e-1:Nat) 0,.int l 0,.str "/claim/cut.py" (t+e)],#[])
def kf(x:Str)(i:Nat)(K:Value)(J t l p e:Nat)(w:Bool)(r:fg0):fg0:=(J,kO x x t l p e J w)::(J+1,fo x x (top i) K J)::r
def kk(P:Params):fg0:=(3,dO 71 [kE P "__name__" 165 (.str "law_strata_k40_whole_merged_trees" 596),kE P "__doc__" 166 (.none),kE P "__package__" 167 (.none),kE P "__loader__" 168 (.builtin "__main__.__loader__#opaque"),kE P "__spec__" 169 (.none),kE P "__annotations__" 170 (.ref 6),kE P "__builtins__" 171 (.ref 4),kE P "__file__" 173 (.str "/claim/cut.py" 172),kE P "__cached__" 174 (.none),kE P "_wall" 193 (.ref 21),kE P "LONGEST_NAME" 197 (.int 12 196),kE P "is_name_sign" 204 (.ref 28),kE P "is_name" 210 (.ref 33),kE P "names_rise" 216 (.ref 38),kE P "joined" 224 (.ref 45),kE P "StrataError" 244 (.ref 55),kE P "NoObject" 260 (.ref 68),kE P "BadTree" 276 (.ref 80),kE P "Vault" 355 (.ref 141),kE P "blob" 363 (.ref 152),kE P "tree" 369 (.ref 157),kE P "text_of" 377 (.ref 164),kE P "entries_of" 385 (.ref 171),kE P "entries_by_name" 393 (.ref 178),kE P "refuse_wrong_names" 401 (.ref 185),kE P "refuse_what_is_no_tree" 409 (.ref 192),kE P "lines_of" 417 (.ref 197),kE P "paired" 429 (.ref 204),kE P "common_counts" 439 (.ref 211),kE P "count_row" 450 (.ref 218),kE P "OURS_MARK" 454 (.str "<<<<<<<\n" 453),kE P "MIDDLE_MARK" 456 (.str "=======\n" 455),kE P "THEIRS_MARK" 458 (.str ">>>>>>>\n" 457),kE P "merged_text" 472 (.ref 225),kE P "parts_of" 478 (.ref 230),kE P "fixed_places" 484 (.ref 235),kE P "cut" 490 (.ref 240),kE P "both_changed" 499 (.ref 247),kE P "changed_side" 508 (.ref 254),kE P "settled" 517 (.ref 261),kE P "closed" 523 (.ref 266),kE P "merged_trees" 535 (.ref 273),kE P "merged_by_names" 554 (.ref 280),kE P "merged_entry" 566 (.ref 287),kE P "none_if_empty" 574 (.ref 294),kE P "merged_blobs" 587 (.ref 301),kE P "kind_of" 595 (.ref 308),kE P "_law_cell" 605 (.ref 315),kE P "_law_mix" 614 (.ref 322),kE P "_law_whole" 621 (.ref 329),kE P "_law_sign" 630 (.ref 336),kE P "_law_line" 639 (.ref 343),kE P "_law_ends" 645 (.ref 348),kE P "_law_row" 651 (.ref 353),kE P "_law_edited" 666 (.ref 360),kE P "_law_name" 672 (.ref 365),kE P "_law_lines" 678 (.ref 370),kE P "_law_node" 689 (.ref 377),kE P "_law_folder" 695 (.ref 382),kE P "_law_turn" 701 (.ref 387),kE P "_law_store" 707 (.ref 392),kE P "_law_seen" 713 (.ref 397),kE P "_law_most" 719 (.ref 402),kE P "_law_walk" 731 (.ref 409),kE P "_law_part" 744 (.ref 416),kE P "_law_both" 750 (.ref 421),kE P "_law_entry" 756 (.ref 426),kE P "_law_sides" 762 (.ref 431),kE P "_law_due" 773 (.ref 438),kE P "_law_good_merge" 782 (.ref 445),kE P "law" 788 (.ref 450)])::
 (kf "is_name_sign" 3 m0 27 198 6 1 5 true<|
 kf "is_name" 4 m0 32 205 10 1 4 false<|
 kf "names_rise" 5 m0 37 211 16 1 4 false<|
 kf "joined" 6 m0 44 217 18 2 6 true<|
 (95,kO "__init__" "Vault.__init__" 291 30 1 5 95 true)::
 ((96,fo "__init__" "Vault.__init__" (met 0) m1 95)::
 ((109,kO "kind" "Vault.kind" 305 37 2 6 109 true)::
 ((110,fo "kind" "Vault.kind" (met 2) m1 109)::
 ((116,kO "held" "Vault.held" 313 40 2 6 116 true)::
 ((117,fo "held" "Vault.held" (met 3) m1 116)::
 ((123,kO "content" "Vault.content" 321 45 3 8 123 true)::
 ((124,fo "content" "Vault.content" (met 4) m1 123)::
 ((130,kO "put" "Vault.put" 331 51 2 6 130 true)::
 ((131,fo "put" "Vault.put" (met 5) m1 130)::
 ((140,dO 4 [kE P "__module__" 286 (.str "strata.vaults" 277),kE P "__firstlineno__" 290 (.int 28 289),kE P "__init__" 297 (.ref 96),kE P "size" 304 (.ref 103),kE P "kind" 312 (.ref 110),kE P "held" 320 (.ref 117),kE P "content" 330 (.ref 124),kE P "put" 338 (.ref 131),kE P "copied" 345 (.ref 138),kE P "__static_attributes__" 348 (.ref 139),kE P "__dict__" 350 (.ref 142),kE P "__weakref__" 352 (.ref 143),kE P "__doc__" 353 (.none)])::
 ((141,cO "Vault" [.type "object"] [.ref 141,.type "object"] 140 [] [none,none,some (.str "Vault" 279),some (.str "Vault" 287),some (.builtin "object.__new__"),some (.bool true)])::
 (kf "blob" 13 m1 151 356 59 2 6 true<|
 kf "tree" 14 m1 156 364 61 2 4 false<|
 kf "text_of" 15 m1 163 370 67 2 6 true<|
 kf "entries_of" 16 m1 170 378 69 2 6 true<|
 kf "entries_by_name" 17 m1 177 386 71 2 6 true<|
 kf "refuse_wrong_names" 18 m1 184 394 75 1 6 true<|
 kf "refuse_what_is_no_tree" 19 m1 191 402 81 2 6 true<|
 kf "lines_of" 21 m2 196 412 84 1 4 false<|
 kf "paired" 22 m2 203 418 91 2 10 true<|
 kf "common_counts" 23 m2 210 430 106 2 8 true<|
 kf "count_row" 24 m2 217 440 112 3 9 true<|
 kf "merged_text" 29 m3 224 459 124 3 12 true<|
 kf "parts_of" 30 m3 229 473 132 1 4 false<|
 kf "fixed_places" 31 m3 234 479 142 3 4 false<|
 kf "cut" 32 m3 239 485 145 3 4 false<|
 kf "both_changed" 33 m3 246 491 147 3 7 true<|
 kf "changed_side" 34 m3 253 500 149 3 7 true<|
 kf "settled" 35 m3 260 509 151 3 7 true<|
 kf "closed" 36 m3 265 518 155 1 4 false<|
 kf "merged_trees" 38 m4 272 526 158 4 8 true<|
 kf "merged_by_names" 39 m4 279 536 164 5 17 true<|
 kf "merged_entry" 40 m4 286 555 177 5 10 true<|
 kf "none_if_empty" 41 m4 293 567 186 2 6 true<|
 kf "merged_blobs" 42 m4 300 575 188 5 11 true<|
 kf "kind_of" 43 m4 307 588 192 2 6 true<|
 kf "_law_cell" 45 m5 314 598 195 2 6 true<|
 kf "_law_mix" 46 m5 321 606 199 2 7 true<|
 kf "_law_whole" 47 m5 328 615 203 1 5 true<|
 kf "_law_sign" 48 m5 335 622 205 1 7 true<|
 kf "_law_line" 49 m5 342 631 209 2 7 true<|
 kf "_law_ends" 50 m5 347 640 214 2 4 false<|
 kf "_law_row" 51 m5 352 646 219 3 4 false<|
 kf "_law_edited" 52 m5 359 652 221 3 13 true<|
 kf "_law_name" 53 m5 364 667 230 2 4 false<|
 kf "_law_lines" 54 m5 369 673 237 1 4 false<|
 kf "_law_node" 55 m5 376 679 242 3 9 true<|
 kf "_law_folder" 56 m5 381 690 248 3 4 false<|
 kf "_law_turn" 57 m5 386 696 251 4 4 false<|
 kf "_law_store" 58 m5 391 702 270 2 4 false<|
 kf "_law_seen" 59 m5 396 708 274 2 4 false<|
 kf "_law_most" 60 m5 401 714 278 2 4 false<|
 kf "_law_walk" 61 m5 408 720 285 2 10 true<|
 kf "_law_part" 62 m5 415 732 300 3 11 true<|
 kf "_law_both" 63 m5 420 745 310 3 4 false<|
 kf "_law_entry" 64 m5 425 751 322 3 4 false<|
 kf "_law_sides" 65 m5 430 757 341 3 4 false<|
 kf "_law_due" 66 m5 437 763 350 3 9 true<|
 kf "_law_good_merge" 67 m5 444 774 358 3 7 true<|
 kf "law" 68 m5 449 783 362 1 4 false<|
 [])))))))))))))
noncomputable def ads:List Addr:=[3,27,28,32,33,37,38,44,45,95,96,109,110,116,117,123,124,130,131,140,141,151,152,156,157,163,164,170,171,177,178,184,185,191,192,196,197,203,204,210,211,217,218,224,225,229,230,234,235,239,240,246,247,253,254,260,261,265,266,272,273,279,280,286,287,293,294,300,301,307,308,314,315,321,322,328,329,335,336,342,343,347,348,352,353,359,360,364,365,369,370,376,377,381,382,386,387,391,392,396,397,401,402,408,409,415,416,420,421,425,426,430,431,437,438,444,445,449,450]
noncomputable def lo:List Str:=(["_wall","LONGEST_NAME","is_name_sign","is_name","names_rise","joined","StrataError","NoObject","BadTree","Vault","blob","tree","text_of","entries_of","entries_by_name","refuse_wrong_names","refuse_what_is_no_tree","lines_of","paired","common_counts"]:A1)++(["count_row","OURS_MARK","MIDDLE_MARK","THEIRS_MARK","merged_text","parts_of","fixed_places","cut","both_changed","changed_side","settled","closed","merged_trees","merged_by_names","merged_entry","none_if_empty","merged_blobs","kind_of","_law_cell","_law_mix"]:A1)++(["_law_whole","_law_sign","_law_line","_law_ends","_law_row","_law_edited","_law_name","_law_lines","_law_node","_law_folder","_law_turn","_law_store","_law_seen","_law_most","_law_walk","_law_part","_law_both","_law_entry","_law_sides","_law_due"]:A1)++(["_law_good_merge"]:A1)
noncomputable def posOf:Stmt->Pos
 |.FunctionDef _ _ _ _ _ _ _ _ _ p=>p
 |_=>(0,0,0,0)
def FX:DefRec:=("law",defArgs (top 68),defBody (top 68),defScope (top 68),posOf (top 68))
def vw:Program:={PySem.Challenge.pw_strata_k40_whole_merged_trees with main:={PySem.Challenge.pw_strata_k40_whole_merged_trees.main with body:=[top 68]}}
open PySem.W PySem.W.X in
theorem hl:LeftO PySem.Challenge.pw_strata_k40_whole_merged_trees vw lo (λs=>xlAt vw [] s&&recOk (RowW.records (OpenRow.toRowW PySem.Challenge.rw_strata_k40_whole_merged_trees.row)) s) (obsZ ads) (valZ kk 451 789) 5574:=by intro w;kernel_rfl
end K40
namespace SI
open PySem
inductive D where
 |none
 |bool (b:Bool)
 |int (i:Int)
 |str (x:Str)
 |tuple (ds:List D)
 |list (ds:List D)
 |scr (ns:List Int)
 |vlt (C h:Nat) (objs:List D)
 |tbl (rows:List (List D))
 |fdc (kvs:List (Sum Int Str×D))
noncomputable instance:DecidableEq D:=λa a=>Classical.propDecidable _
inductive Sl where
 |no
 |dat (d:D)
 |lent (d:D)
 |own (d:D)
 |io (d:D)
 |fr
inductive Op2 where|add|sub|mul|mod|fdiv
inductive Cop where|lt|le|gt|ge|eq|ne|isin|notin|isN|notN
inductive Bf where|len|int|tuple|all|srt|max
inductive Mf where|split|join|ends
inductive Tg where
 |one (i:Nat)
 |tup (is:List Nat)
inductive Md where|val|read|test|walk
noncomputable def big:Nat:=16777216
noncomputable def ixN(n:Nat)(i:Int):Option Nat:=if 0<=i then (if i<n then some i.toNat else none)else if -(n:Int)<=i then some (i+n).toNat else none
def atI{α:Type}(xs:List α)(i:Int):Option α:=(ixN xs.length i).bind λj=>xs[j]?
noncomputable def sIx(n d:Nat):Option Int->Nat
 |none=>d
 |some v=>if v<0 then (v+(n:Int)).toNat else min v.toNat n
def cut{α:Type}(xs:List α)(lo J:Option Int):List α:=(xs.drop (sIx xs.length 0 lo)).take (sIx xs.length xs.length J-sIx xs.length 0 lo)
noncomputable def okS:Nat->D->Bool
 |_,.none=>true
 |_,.int _=>true
 |_,.str _=>true
 |n+1,.tuple J=>J.all (okS n)
 |n+1,.list J=>J.all (okS n)
 |_,_=>false
noncomputable def pF:D->Option Bool
 |.bool b=>some b
 |.list J=>some (!J.isEmpty)
 |.scr K=>some (!K.isEmpty)
 |_=>none
noncomputable def asB:D->Option Bool
 |.bool b=>some b
 |_=>none
noncomputable def asI:D->Option Int
 |.int i=>some i
 |_=>none
def fin:Md->Option D->Option D
 |.test,d=>d.bind λd=>(pF d).map .bool
 |_,d=>d
noncomputable def bm:Md->Md
 |.test=>.test
 |_=>.val
noncomputable def noT:Md->Option D->Option D
 |.test,_=>none
 |_,d=>d
noncomputable def rOk(n:Int):Bool:=decide (-(2 ^ 62)<=n)&&decide (n<2 ^ 62)
def pG(n:Nat)(j:Int):Bool:=decide (-(2 ^ 63)<=j)&&decide (j<2 ^ 63)&&decide (n*j.toNat<=big)
noncomputable def rQ(i j:Int):Bool:=(decide (-(2 ^ 64)<i)&&decide (i<2 ^ 64))||(decide (-(2 ^ 64)<j)&&decide (j<2 ^ 64))
def nG{n}(J:-1000000<=n)(K:n<=1000000):rOk n=true:=by
 unfold rOk;grind
def pH{n}{j}(J:-1000000<=j)(K:j<=1000000)(L:n*j.toNat<=big):pG n j=true:=by
 unfold pG;grind
def opD:Op2->D->D->Option D
 |.add,.int i,.int j=>some (.int (i+j))
 |.add,.str x,.str y=>if x.length+y.length<=big then some (.str (x++y))else none
 |.add,.list a,.list b=>if a.length+b.length<=big then some (.list (a++b))else none
 |.sub,.int i,.int j=>some (.int (i-j))
 |.mul,.int i,.int j=>if rQ i j then some (.int (i*j))else none
 |.mul,.list a,.int j=>if pG a.length j then some (.list (List.replicate j.toNat a).flatten)else none
 |.mul,.str x,.int j=>if -1000<=j/\j<=1000/\x.length<=1000 then some (.str ⟨((List.replicate j.toNat x.cps.toList).flatten).toArray⟩)else none
 |.mod,.int i,.int j=>if 0<j then some (.int (i % j))else none
 |.fdiv,.int i,.int j=>if 0<j/\j<1073741824 then some (.int (i / j))else none
 |_,_,_=>none
noncomputable def pI:D->Option (Sum Int Str)
 |.int i=>some (.inl i)
 |.str x=>some (.inr x)
 |_=>none
noncomputable def look{α:Type}:List (Sum Int Str×α)->Sum Int Str->Option α
 |[],_=>none
 |(l,d)::r,k=>if l=k then some d else look r k
noncomputable def put{α:Type}:List (Sum Int Str×α)->Sum Int Str->α->List (Sum Int Str×α)
 |[],k,v=>[(k,v)]
 |(l,d)::r,k,v=>if l=k then (l,v)::r else (l,d)::put r k v
@[simp] def getD:D->D->Option D
 |.fdc J,k=>(pI k).map λk=>(look J k).getD .none
 |_,_=>none
def eqD(a b:D):Option Bool:=
 if okS 20 a&&okS 20 b then some (decide (a=b))else none
noncomputable def hasSub(x y:Str):Bool:=!(Builtin.Str.occurrences y x 0 y.length 1).isEmpty
def inD(a b:D):Option Bool:=
 match b with
 |.str y=>match a with
  |.str x=>some (hasSub x y)
  |_=>none
 |.tuple K=>if okS 20 a&&K.all (okS 19)then some (K.any λd=>decide (d=a))else none
 |.fdc J=>(pI a).map λk=>(look J k).isSome
 |_=>none
def dA:Cop->D->D->Option Bool
 |.lt,.int i,.int j=>some (decide (i<j))
 |.le,.int i,.int j=>some (decide (i<=j))
 |.gt,.int i,.int j=>some (decide (j<i))
 |.ge,.int i,.int j=>some (decide (j<=i))
 |.lt,.str x,.str y=>some (decide (x.cps.toList<y.cps.toList))
 |.le,.str x,.str y=>some (!decide (y.cps.toList<x.cps.toList))
 |.eq,a,b=>eqD a b
 |.ne,a,b=>(eqD a b).map (!·)
 |.isin,a,b=>inD a b
 |.notin,a,b=>(inD a b).map (!·)
 |.isN,a,b=>if b=.none then some (decide (a=.none))else none
 |.notN,a,b=>if b=.none then some (!decide (a=.none))else none
 |_,_,_=>none
def jC:D->D->Option D
 |.list J,.int i=>atI J i
 |.tuple J,.int i=>atI J i
 |.scr L,.int i=>(atI L i).map .int
 |.str x,.int i=>if x.length<=big then (atI x.cps.toList i).map λc=>.str ⟨#[c]⟩ else none
 |.fdc K,k=>(pI k).bind (look K)
 |_,_=>none
def slD(d:D)(lo J:Option Int):Option D:=
 match d with
 |.list K=>some (.list (cut K lo J))
 |.str x=>if x.length<=big then some (.str (Txt.slice x lo J))else none
 |_=>none
noncomputable def we(T:String):D->Option Bool
 |.bool _=>some (T=="bool"||T=="int")
 |.int _=>some (T=="int")
 |.tuple _=>some (T=="tuple")
 |.list _=>some (T=="list")
 |_=>none
noncomputable def strsOf:List D->Option (List Str)
 |[]=>some []
 |.str x::r=>(strsOf r).map (x::·)
 |_::_=>none
noncomputable def pairsOf:List D->Option (List (Sum Int Str×D))
 |[]=>some []
 |.tuple [.int i,d]::r=>(pairsOf r).map ((.inl i,d)::·)
 |.tuple [.str x,d]::r=>(pairsOf r).map ((.inr x,d)::·)
 |_::_=>none
noncomputable def putAll{α:Type}:List (Sum Int Str×α)->List (Sum Int Str×α)->List (Sum Int Str×α)
 |acc,[]=>acc
 |acc,(k,v)::r=>putAll (put acc k v) r
noncomputable def boolsOf:List D->Option (List Bool)
 |[]=>some []
 |.bool b::r=>(boolsOf r).map (b::·)
 |_::_=>none
noncomputable def ltS(x y:Str):Bool:=decide (x.cps.toList<y.cps.toList)
noncomputable def kI(x:Str):List Str->List Str
 |[]=>[x]
 |y::r=>if x=y then y::r else if ltS x y then x::y::r else y::kI x r
def srtS:List Str->List Str
 |[]=>[]
 |x::r=>kI x (srtS r)
noncomputable def jD(x:Str):Bool:=x.cps.toList.all λc=>decide (c<0x110000)
def cz:List (Sum Int Str×D)->Option (List Str)
 |[]=>some []
 |(.inr x,_)::r=>if jD x then (cz r).map (x::·)else none
 |_=>none
noncomputable def ltL(p q:A1):Bool:=decide (p.map (·.cps.toList)<q.map (·.cps.toList))
noncomputable def pJ(z:List Str×D):List (List Str×D)->List (List Str×D)
 |[]=>[z]
 |y::r=>if ltL z.1 y.1 then z::y::r else y::pJ z r
def pK:List (List Str×D)->List (List Str×D)
 |[]=>[]
 |z::r=>pJ z (pK r)
def BW(zs:List (List Str×D)):Option D:=if zs.length<5/\(zs.map (·.1)).Nodup then some (.list ((pK zs).map (·.2)))else none
noncomputable def jE:List D->Option (List (List Str×D))
 |[]=>some []
 |.tuple [.str x,d]::r=>(jE r).map (([x],.tuple [.str x,d])::·)
 |_=>none
@[simp] def BX:D->Option D
 |.list J=>(jE J).bind BW
 |_=>none
@[simp] def yb:D->Option D
 |.list J=>(pairsOf J).map λK=>.fdc (putAll [] K)
 |_=>none
def biD:Bf->List D->Option D
 |.len,[.list J]=>some (.int J.length)
 |.len,[.tuple J]=>some (.int J.length)
 |.len,[.scr M]=>some (.int M.length)
 |.len,[.str x]=>if x.length<=big then some (.int x.length)else none
 |.int,[.bool b]=>some (.int (if b then 1 else 0))
 |.max,[.int i,.int j]=>some (.int (if i<j then j else i))
 |.tuple,[.list J]=>if J.length<=big then some (.tuple J)else none
 |.all,[.list J]=>(boolsOf J).map λL=>.bool (L.all id)
 |.srt,[.list J]=>(strsOf J).bind λK=>if K.length<64 then some (.list ((srtS K).map .str))else none
 |_,_=>none
def meD:Mf->D->List D->Option D
 |.ends,.str x,[.str y]=>some (.bool (Txt.endswith x y))
 |.split,.str x,[.str y]=>if (y.length==0)=false/\x.length+2<=big then some (.list ((Txt.split x y).map .str))else none
 |.join,.str x,[.list K]=>(strsOf K).bind λJ=>if (J.map (·.length)).sum+J.length*x.length<=big then some (.str (Txt.join x J))else none
 |_,_,_=>none
def ig:D->Option (List D)
 |.list J=>some J
 |.str x=>if x.length<=big then some (x.cps.toList.map λc=>.str ⟨#[c]⟩)else none
 |_=>none
noncomputable def gd(n:Nat)(dss:List (List D)):List D:=(List.range n).map λi=>.tuple (dss.map λl=>(l[i]?).getD .none)
def yc:List D->Option (List D)
 |[.list a,.list b]=>if b.length<=a.length then some (gd b.length [a,b])else none
 |[.list a,.list b,.list c]=>if b.length=a.length/\c.length=a.length then some (gd a.length [a,b,c])else none
 |_=>none
@[simp] noncomputable def BY:D->Option (List D)
 |.list J=>some J
 |_=>none
@[simp] def FY:D->Option D
 |.fdc K=>(cz K).map λL=>.list (L.map .str)
 |.list J=>some (.list J)
 |.tuple J=>some (.list J)
 |_=>none
@[simp] def BZ:D->D->Option D
 |.fdc a,.fdc b=>(cz a).bind λs=>(cz b).bind λt=>if s.length+t.length<16 then some (.list ((srtS (s++t)).map .str))else none
 |_,_=>none
noncomputable def cA:D->Bool
 |.list _=>true
 |.vlt ..=>true
 |.tbl _=>true
 |_=>false
def aF(m:Md):Sl->Option D
 |.dat d=>some d
 |.lent d=>match m with|.val=>if cA d then none else some d|_=>some d
 |.own d=>match m with|.val=>none|.walk=>none|_=>some d
 |.io d=>match m with|.val=>none|.walk=>none|_=>some d
 |_=>none
noncomputable def ax:Tg->D->List Sl->Option (List Sl)
 |.one i,d,Y=>some (Y.set i (.dat d))
 |.tup K,.tuple J,Y=>if K.length=J.length then some ((K.zip J).foldl (λY p=>Y.set p.1 (.dat p.2)) Y)else none
 |.tup K,.list J,Y=>if K.length=J.length then some ((K.zip J).foldl (λY p=>Y.set p.1 (.dat p.2)) Y)else none
 |_,_,_=>none
noncomputable def lend:Sl->Sl
 |.own d=>.lent d
 |.io d=>.lent d
 |.fr=>.no
 |s=>s
@[simp] def blk(nt:Nat)(js:List Nat)(Y:List Sl):List Sl:=List.replicate nt .no++js.map λj=>lend (Y[j]?.getD .no)
noncomputable def ay(f:D->Option (Option D)):List D->Option (List D)
 |[]=>some []
 |d::r=>(f d).bind λo=>(ay f r).map λq=>match o with
  |none=>q
  |some x=>x::q
structure Fn where
 lent:List Bool
 run:List D->Option D
abbrev Fs:=Str->Option Fn
noncomputable def bL(m:Str):Str:=("Vault.":Str)++m
noncomputable def lg(c:Nat):D->Bool
 |.vlt J _ _=>J==c
 |_=>false
noncomputable def FZ:D->List D
 |.vlt _ _ J=>J
 |_=>[]
noncomputable def roM:Md->Option D->Option D
 |.read,o=>o
 |.test,o=>o
 |_,_=>none
@[simp] noncomputable def ij:Option Sl->Option (List (List D))
 |some (.io (.tbl J))=>some J
 |_=>none
abbrev E:=Fs->List (Str×D)->Md->List Sl->Option D
inductive Es where
 |nil
 |cons (a:E) (as:Es)
abbrev I:=Fs->List (Str×D)->Md->List Sl->Option (List D)
section
variable (Φ:Fs)(Γ:List (Str×D))
noncomputable def ev(m:Md)(Y:List Sl)(e:E):Option D:=e Φ Γ m Y
noncomputable def evI(m:Md)(Y:List Sl)(e:I):Option (List D):=e Φ Γ m Y
@[simp] noncomputable def evs(m:Md)(fl:List Bool)(Y:List Sl):Es->Option (List D)
 |.nil=>some []
 |.cons a J=>(ev Φ Γ (if fl.headD false then m else .val) Y a).bind λx=>(evs m fl.tail Y J).map (x::·)
@[simp] def evC(Y:List Sl):Es->Option Bool
 |.nil=>some true
 |.cons a J=>(ev Φ Γ .test Y a).bind asB
@[simp] def evP(Y:List Sl):Es->Option (Option Int)
 |.nil=>some none
 |.cons a J=>(ev Φ Γ .val Y a).bind λd=>(asI d).map some
end
noncomputable abbrev Es.A(x:E):Es:=.cons x .nil
noncomputable abbrev Es.B(x y:E):Es:=.cons x (.A y)
@[simp low] def ev_e{Φ:Fs}{Γ:List (Str×D)}{m}{Y:List Sl}{e}:ev Φ Γ m Y e=e Φ Γ m Y:=(rfl)
@[simp low] def ev_i{Φ:Fs}{Γ:List (Str×D)}{m}{Y:List Sl}{e}:evI Φ Γ m Y e=e Φ Γ m Y:=(rfl)
namespace E
@[simp] noncomputable def k(d:D):E|Φ,Γ,m,Y=>fin m (some d)
@[simp] def v(i:Nat):E|Φ,Γ,m,Y=>fin m (Y[i]?.bind (aF m))
@[simp] def g(x:Str):E|Φ,Γ,m,Y=>fin m (Γ.lookup x)
@[simp] def op(o:Op2)(a b:E):E|Φ,Γ,m,Y=>fin m ((ev Φ Γ .read Y a).bind λx=>(ev Φ Γ .read Y b).bind λy=>opD o x y)
@[simp] def neg(a:E):E|Φ,Γ,m,Y=>fin m ((ev Φ Γ .val Y a).bind λd=>(asI d).map λi=>.int (-i))
@[simp] def cmp(o:Cop)(a b:E):E|Φ,Γ,m,Y=>fin m ((ev Φ Γ .read Y a).bind λx=>(ev Φ Γ .read Y b).bind λy=>(dA o x y).map .bool)
@[simp] def chain(o J:Cop)(a b c:E):E|Φ,Γ,m,Y=>fin m ((ev Φ Γ .read Y a).bind λx=>(ev Φ Γ .read Y b).bind λy=>(dA o x y).bind λt=>if t then (ev Φ Γ .read Y c).bind λz=>(dA J y z).map .bool else some (.bool false))
@[simp] def and(a b:E):E|Φ,Γ,m,Y=>(ev Φ Γ (bm m) Y a).bind λd=>(asB d).bind λt=>if t then ev Φ Γ (bm m) Y b else some (.bool false)
@[simp] def or(a b:E):E|Φ,Γ,m,Y=>(ev Φ Γ (bm m) Y a).bind λd=>(asB d).bind λt=>if t then some (.bool true)else ev Φ Γ (bm m) Y b
@[simp] def not(a:E):E|Φ,Γ,m,Y=>(ev Φ Γ (bm m) Y a).bind λd=>(asB d).map λt=>.bool (!t)
@[simp] def ite(c a b:E):E|Φ,Γ,m,Y=>noT m ((ev Φ Γ .test Y c).bind λd=>(asB d).bind λt=>if t then ev Φ Γ .val Y a else ev Φ Γ .val Y b)
@[simp] def call(f:Str)(K:Es):E|Φ,Γ,m,Y=>fin m ((Φ f).bind λJ=>(evs Φ Γ .read J.lent Y K).bind J.run)
@[simp] def idx(a i:E):E|Φ,Γ,m,Y=>fin m ((ev Φ Γ .read Y a).bind λx=>(ev Φ Γ .val Y i).bind λy=>jC x y)
@[simp] def get(a k:E):E|Φ,Γ,m,Y=>fin m ((ev Φ Γ .read Y a).bind λx=>(ev Φ Γ .val Y k).bind λy=>getD x y)
@[simp] def lsk(a:E):E|Φ,Γ,m,Y=>fin m ((ev Φ Γ .read Y a).bind FY)
@[simp] def sor(a b:E):E|Φ,Γ,m,Y=>fin m ((ev Φ Γ .read Y a).bind λx=>(ev Φ Γ .read Y b).bind λy=>BZ x y)
@[simp] def fd0:E|Φ,Γ,m,Y=>fin m (some (.fdc []))
@[simp] def idx2(i:Nat)(a b:E):E|Φ,Γ,m,Y=>fin m ((ij Y[i]?).bind λK=>(ev Φ Γ .val Y a).bind λx=>(ev Φ Γ .val Y b).bind λy=>(asI x).bind λk=>(asI y).bind λl=>(atI K k).bind λJ=>atI J l)
@[simp] def srtn(a:E):E|Φ,Γ,m,Y=>fin m ((ev Φ Γ .read Y a).bind BX)
@[simp] def fdc(a:E):E|Φ,Γ,m,Y=>fin m ((ev Φ Γ .read Y a).bind yb)
@[simp] def sl(a:E)(lo J:Es):E|Φ,Γ,m,Y=>fin m ((ev Φ Γ .read Y a).bind λx=>(evP Φ Γ Y lo).bind λy=>(evP Φ Γ Y J).bind λz=>slD x y z)
@[simp] def lst(J:Es):E|Φ,Γ,m,Y=>fin m ((evs Φ Γ .val [] Y J).bind λds=>if ds.length<=1000 then some (.list ds)else none)
@[simp] def tup(J:Es):E|Φ,Γ,m,Y=>fin m ((evs Φ Γ .val [] Y J).bind λds=>if ds.length<=1000 then some (.tuple ds)else none)
@[simp] def comp(nt:Nat)(js:List Nat)(tg:Tg)(K:I)(ifs:Es)(J:E):E|Φ,Γ,m,Y=>fin m ((evI Φ Γ .read Y K).bind λds=>if ds.length<=big then (ay (λd=>(ax tg d (blk nt js Y)).bind λL=>(evC Φ Γ L ifs).bind λt=>if t then (ev Φ Γ .val L J).map some else some none) ds).map .list else none)
@[simp] def bi(f:Bf)(J:Es):E|Φ,Γ,m,Y=>fin m ((evs Φ Γ .read [true,true,true] Y J).bind λds=>biD f ds)
@[simp] def me(f:Mf)(o:E)(J:Es):E|Φ,Γ,m,Y=>fin m ((ev Φ Γ .read Y o).bind λx=>(evs Φ Γ .read [true,true] Y J).bind λds=>meD f x ds)
@[simp] def isi(a:E)(T:String):E|Φ,Γ,m,Y=>fin m ((ev Φ Γ .read Y a).bind λx=>(we T x).map .bool)
@[simp] def vob(c:Nat)(a:E):E|Φ,Γ,m,Y=>roM m (fin m ((ev Φ Γ .read Y a).bind λx=>if lg c x then some (.list (FZ x))else none))
@[simp] def vcall(c:Nat)(f:Str)(o:E)(K:Es):E|Φ,Γ,m,Y=>fin m ((ev Φ Γ .read Y o).bind λx=>if lg c x then (Φ (bL f)).bind λJ=>(evs Φ Γ .read J.lent.tail Y K).bind λds=>if J.lent.headD false then J.run (x::ds)else none else none)
end E
namespace I
@[simp] def seq(a:E):I|Φ,Γ,m,Y=>(ev Φ Γ m Y a).bind ig
@[simp] def rng(a:E):I|Φ,Γ,m,Y=>(ev Φ Γ .val Y a).bind λd=>(asI d).bind λn=>if rOk n then some ((List.range n.toNat).map λ(k:Nat)=>.int k)else none
@[simp] def revr(a:E):I|Φ,Γ,m,Y=>(ev Φ Γ .val Y a).bind λd=>(asI d).bind λn=>if rOk n then some ((List.range n.toNat).reverse.map λ(k:Nat)=>.int k)else none
@[simp] def rngd(a b:E):I|Φ,Γ,m,Y=>(ev Φ Γ .val Y a).bind λx=>(ev Φ Γ .val Y b).bind λy=>(asI x).bind λi=>(asI y).bind λj=>if rOk i&&rOk j then some ((List.range (i-j).toNat).map λ(k:Nat)=>.int (i-k))else none
@[simp] def rev(a:E):I|Φ,Γ,m,Y=>(ev Φ Γ m Y a).bind λd=>(BY d).map List.reverse
@[simp] def zip(J:Es):I|Φ,Γ,m,Y=>(evs Φ Γ .read [true,true,true] Y J).bind yc
end I
inductive Out where
 |nx (Y:List Sl)
 |rt (d w:D)
noncomputable def Out.andThen(o:Out)(f:List Sl->Option Out):Option Out:=match o with
 |.nx Y=>f Y
 |.rt d w=>some (.rt d w)
noncomputable def freeze:Sl->Sl
 |.own d=>.dat d
 |s=>s
noncomputable def frM:Mf->Bool
 |.split=>true
 |_=>false
noncomputable def fuel:Nat:=100000
def ik(c:List Sl->Option D)(b:List Sl->Option Out):Nat->List Sl->Option Out
 |0,_=>none
 |n+1,Y=>(c Y).bind λd=>(asB d).bind λt=>if t then (b Y).bind λo=>o.andThen (ik c b n)else some (.nx Y)
noncomputable def forL(t:D->List Sl->Option (List Sl))(b:List Sl->Option Out):List D->List Sl->Option Out
 |[],Y=>some (.nx Y)
 |d::r,Y=>(t d Y).bind λJ=>(b J).bind λo=>o.andThen (forL t b r)
abbrev S:=Fs->List (Str×D)->List Sl->Option Out
set_option genInjectivity false
inductive Ss where
 |nil
 |cons (s:S) (r:Ss)
noncomputable def ex(Φ:Fs)(Γ:List (Str×D))(Y:List Sl)(s:S):Option Out:=s Φ Γ Y
@[simp low] def ex_s{Φ:Fs}{Γ:List (Str×D)}{Y:List Sl}{s}:ex Φ Γ Y s=s Φ Γ Y:=(rfl)
@[simp] noncomputable def exs(Φ:Fs)(Γ:List (Str×D))(Y:List Sl):Ss->Option Out
 |.nil=>some (.nx Y)
 |.cons s r=>(ex Φ Γ Y s).bind λo=>o.andThen λJ=>exs Φ Γ J r
@[simp] def Jn(i:Nat)(Y:List Sl)(d:D):Option Out:=match Y[i]? with
 |some (.own (.list J))=>if J.length<big then some (.nx (Y.set i (.own (.list (J++[d])))))else none
 |some (.io (.list J))=>if J.length<big then some (.nx (Y.set i (.io (.list (J++[d])))))else none
 |_=>none
@[simp] noncomputable def Ga(i j:Nat)(Y:List Sl):Option Out:=match Y[i]? with
 |some (.own (.list J))=>(J[J.length-1]?).map λd=>.nx ((Y.set i (.own (.list J.dropLast))).set j (.dat d))
 |_=>none
@[simp] def Gb(i:Nat)(Y:List Sl):D->Option Out
 |.list K=>match Y[i]? with
  |some (.own (.list J))=>if J.length+K.length<=big then some (.nx (Y.set i (.own (.list (J++K)))))else none
  |some (.io (.list J))=>if J.length+K.length<=big then some (.nx (Y.set i (.io (.list (J++K)))))else none
  |_=>none
 |_=>none
@[simp] noncomputable def dW:List Sl->D
 |[]=>.none
 |.io d::_=>d
 |_::r=>dW r
noncomputable def lh(Y:List Sl):Bool:=Y.any λs=>match s with|.io _=>true|_=>false
@[simp] noncomputable def Jo(i:Nat)(Y:List Sl):D->Option Out
 |.int m=>match Y[i]? with
  |some (.dat (.int n))=>some (.nx (Y.set i (.dat (.int (n+m)))))
  |_=>none
 |_=>none
@[simp] noncomputable def Gc(i:Nat)(Y:List Sl):Option Out:=match Y[i]? with
 |some (.own (.list J))=>some (.nx (Y.set i (.own (.list J.reverse))))
 |_=>none
@[simp] def yd(i:Nat)(Y:List Sl)(d:D):D->Option Out
 |.int n=>match Y[i]? with
  |some (.own (.list J))=>(ixN J.length n).map λj=>.nx (Y.set i (.own (.list (J.set j d))))
  |_=>none
 |_=>none
@[simp] noncomputable def rowsOf:List D->Option (List (List D))
 |[]=>some []
 |.list a::r=>(rowsOf r).map (a::·)
 |_=>none
@[simp] noncomputable def rR:D->Bool
 |.list _=>true
 |.vlt ..=>true
 |_=>false
namespace S
@[simp] noncomputable def ext(i:Nat)(e:E):S|Φ,Γ,Y=>(ev Φ Γ .read Y e).bind λx=>Gb i Y x
@[simp] def expr(e:E):S|Φ,Γ,Y=>(ev Φ Γ .val Y e).map λa=>.nx Y
@[simp] def unp(t:Tg)(e:E):S|Φ,Γ,Y=>(ev Φ Γ .val Y e).bind λd=>(ax t d Y).map .nx
@[simp] def set(i:Nat)(e:E):S|Φ,Γ,Y=>(ev Φ Γ .val Y e).map λd=>.nx (Y.set i (.dat d))
@[simp] def new(i:Nat)(e:E):S|Φ,Γ,Y=>(ev Φ Γ .val Y e).bind λd=>if cA d then some (.nx (Y.set i (.own d)))else none
@[simp] def app(i:Nat)(e:E):S|Φ,Γ,Y=>(ev Φ Γ .val Y e).bind λd=>Jn i Y d
@[simp] def pop(i j:Nat):S|Φ,Γ,Y=>Ga i j Y
@[simp] def seti(i:Nat)(k e:E):S|Φ,Γ,Y=>(ev Φ Γ .val Y e).bind λd=>(ev Φ Γ .val Y k).bind λx=>yd i Y d x
@[simp] def ifs(c:E)(a b:Ss):S|Φ,Γ,Y=>(ev Φ Γ .test Y c).bind λd=>(asB d).bind λt=>if t then exs Φ Γ Y a else exs Φ Γ Y b
@[simp] def fors(tg:Tg)(J:I)(body:Ss):S|Φ,Γ,Y=>(evI Φ Γ .walk Y J).bind λds=>forL (ax tg) (λK=>exs Φ Γ K body) ds Y
@[simp] def ret(e:E):S|Φ,Γ,Y=>(ev Φ Γ .val (Y.map freeze) e).map λd=>.rt d (dW Y)
@[simp] def whl(c:E)(body:Ss):S|Φ,Γ,Y=>ik (λJ=>ev Φ Γ .test J c) (λJ=>exs Φ Γ J body) fuel Y
@[simp] def aug(i:Nat)(e:E):S|Φ,Γ,Y=>(ev Φ Γ .val Y e).bind λx=>Jo i Y x
@[simp] def rev(i:Nat):S|Φ,Γ,Y=>Gc i Y
@[simp] def newt(i:Nat)(e:E):S|Φ,Γ,Y=>match Y[i]? with
 |some .fr=>if lh Y then none else (ev Φ Γ .val Y e).bind λd=>(BY d).bind λJ=>(rowsOf J).map λK=>.nx (Y.set i (.io (.tbl K)))
 |_=>none
@[simp] def sett(i:Nat)(a b e:E):S|Φ,Γ,Y=>(ev Φ Γ .val Y e).bind λd=>(ij Y[i]?).bind λK=>(ev Φ Γ .val Y a).bind λx=>(ev Φ Γ .val Y b).bind λy=>(asI x).bind λk=>(asI y).bind λl=>(ixN K.length k).bind λk=>(K[k]?).bind λJ=>(ixN J.length l).map λl=>.nx (Y.set i (.io (.tbl (K.set k (J.set l d)))))
@[simp] def rett(i:Nat):S|Φ,Γ,Y=>(ij Y[i]?).map λJ=>.rt (.list (J.map .list)) .none
@[simp] noncomputable def stuck:S|Φ,Γ,Y=>none
end S
abbrev M:=Fs->List (Str×D)->List Sl->Option (D×List Sl)
inductive Ar where
 |v (j:Nat)
 |x (m:M)
noncomputable def evM(Φ:Fs)(Γ:List (Str×D))(Y:List Sl)(m:M):Option (D×List Sl):=m Φ Γ Y
@[simp low] def evM_e{Φ:Fs}{Γ:List (Str×D)}{Y:List Sl}{m}:evM Φ Γ Y m=m Φ Γ Y:=(rfl)
@[simp] def iP(b:Bool):Sl->Option D
 |.dat d=>some d
 |.lent d=>if b||!cA d then some d else none
 |.own d=>if b then some d else none
 |_=>none
def dX(Φ:Fs)(Γ:List (Str×D)):List Ar->List Sl->Option (List (Sum Nat D)×List Sl)
 |[],Y=>some ([],Y)
 |.v j::r,Y=>if ((Y[j]?).bind (aF .read)).isSome then (dX Φ Γ r Y).map λz=>(.inl j::z.1,z.2)else none
 |.x m::r,Y=>(evM Φ Γ Y m).bind λy=>(dX Φ Γ r y.2).map λz=>(.inr y.1::z.1,z.2)
def iX(Y:List Sl)(i:Nat):List Bool->List (Sum Nat D)->Option (List D)
 |_,[]=>some []
 |fl,.inl j::r=>if j=i then none else ((Y[j]?).bind (iP (fl.headD false))).bind λd=>(iX Y i fl.tail r).map (d::·)
 |fl,.inr d::r=>(iX Y i fl.tail r).map (d::·)
def iY(Y:List Sl)(i:Nat):Nat->List Bool->List (Sum Nat D)->Option (List D)
 |0,J,.inl j::r=>if j=i then ((Y[j]?).bind (aF .read)).bind λd=>(iX Y i J.tail r).map (d::·)else none
 |n+1,J,.inl j::r=>if j=i then none else ((Y[j]?).bind (iP (J.headD false))).bind λd=>(iY Y i n J.tail r).map (d::·)
 |n+1,J,.inr d::r=>(iY Y i n J.tail r).map (d::·)
 |_,_,_=>none
noncomputable def wg:List (Sum Nat D)->Option (List D)
 |[]=>some []
 |.inr d::r=>(wg r).map (d::·)
 |_=>none
@[simp] noncomputable def setIo(Y:List Sl)(i:Nat)(w:D):Option (List Sl):=match Y[i]? with
 |some (.io _)=>some (Y.set i (.io w))
 |some (.own (.list _))=>match w with
  |.list J=>some (Y.set i (.own (.list J)))
  |_=>none
 |_=>none
@[simp] noncomputable def pairD:D->Option (D×D)
 |.tuple [e,w]=>some (e,w)
 |_=>none
@[simp] noncomputable def Gd(Y:List Sl)(i:Nat):Option D:=match Y[i]? with
 |some (.io d)=>some d
 |_=>none
noncomputable def lj(f:D->D->Option (D×D)):List D->D->Option (List D×D)
 |[],w=>some ([],w)
 |d::r,w=>(f d w).bind λz=>(lj f r z.2).map λq=>(z.1::q.1,q.2)
open Classical in
def lq(Φ:Fs)(Γ:List (Str×D))(nt:Nat)(js:List Nat)(n:Nat)(tg:Tg)(J:M)(Y:List Sl)(d w:D):Option (D×D):=
 (ax tg d ((blk nt js Y).set n (.io w))).bind λK=>(evM Φ Γ K J).bind λz=>(Gd z.2 n).bind λL=>if z.2=K.set n (.io L)then some (z.1,L)else none
noncomputable def okK:Nat->D->Bool
 |_,.int _=>true
 |_,.str _=>true
 |n+1,.tuple J=>J.all (okK n)
 |_,_=>false
noncomputable def jF:D->Bool
 |.tuple _=>true
 |_=>false
noncomputable def nI(C:Nat):List D->Option D
 |[.vlt c 0 objs,d]=>if c=C then if okK 8 d&&jF d&&decide (objs.length<1000000)then (match objs.idxOf? d with
  |some j=>some (.tuple [.int (j:Nat),.vlt c 0 objs])
  |none=>some (.tuple [.int (objs.length:Nat),.vlt c 0 (objs++[d])]))else none else none
 |_=>none
@[simp] noncomputable def Jp(c:Nat):Option Sl->Option (List D)
 |some (.io (.vlt J 0 K))=>if J=c then some K else none
 |_=>none
namespace M
@[simp] noncomputable def put(c i:Nat)(e:E):M|Φ,Γ,Y=>(ev Φ Γ .val Y e).bind λd=>(Jp c Y[i]?).bind λJ=>((nI c [.vlt c 0 J,d]).bind pairD).map λq=>(q.1,Y.set i (.io q.2))
@[simp] def p(e:E):M|Φ,Γ,Y=>(ev Φ Γ .val Y e).map λd=>(d,Y)
@[simp] def call(f:Str)(n i:Nat)(L:List Ar):M|Φ,Γ,Y=>(Φ f).bind λJ=>(dX Φ Γ L Y).bind λz=>(iY z.2 i n J.lent z.1).bind λds=>(J.run ds).bind λr=>(pairD r).bind λq=>(setIo z.2 i q.2).map λK=>(q.1,K)
@[simp] def tup(J:List Ar):M|Φ,Γ,Y=>(dX Φ Γ J Y).bind λz=>(wg z.1).bind λds=>if ds.length<=1000 then some (.tuple ds,z.2)else none
@[simp] def comp(nt:Nat)(js:List Nat)(n i:Nat)(tg:Tg)(K:I)(J:M):M|Φ,Γ,Y=>(evI Φ Γ .walk Y K).bind λds=>if ds.length<big then (Gd Y i).bind λw=>(lj (lq Φ Γ nt js n tg J Y) ds w).bind λz=>some (.list z.1,Y.set i (.io z.2))else none
end M
namespace S
@[simp] def setm(i:Nat)(m:M):S|Φ,Γ,Y=>(evM Φ Γ Y m).map λz=>.nx (z.2.set i (.dat z.1))
@[simp] def retm(m:M):S|Φ,Γ,Y=>(evM Φ Γ (Y.map freeze) m).map λz=>.rt z.1 (dW z.2)
@[simp] def setim(i:Nat)(k:E)(m:M):S|Φ,Γ,Y=>(evM Φ Γ Y m).bind λz=>(ev Φ Γ .val z.2 k).bind λx=>yd i z.2 z.1 x
@[simp] def newv(i c:Nat):S|Φ,Γ,Y=>match Y[i]? with
 |some .fr=>if lh Y then none else some (.nx (Y.set i (.io (.vlt c 0 []))))
 |_=>none
end S
inductive Dk where
 |pure
 |io (i:Nat)
 |mk (i:Nat)
 |tb (i:Nat)
structure Def where
 lent:List Bool
 slots:Nat
 body:Ss
 k:Dk
noncomputable def aN(fl:List Bool)(n:Nat)(ds:List D):List Sl:=(fl.zip ds).map (λp=>if p.1 then Sl.lent p.2 else .dat p.2)++List.replicate (n-ds.length) .no
noncomputable def br(d:Def)(ds:List D):List Sl:=match d.k with
 |.pure=>aN d.lent d.slots ds
 |.io i=>(aN d.lent d.slots (ds.set i .none)).set i (.io (ds.getD i .none))
 |.mk i=>(aN d.lent d.slots ds).set i .fr
 |.tb i=>(aN d.lent d.slots ds).set i .fr
def Out.fin:Out->D×D
 |.nx Y=>(.none,dW Y)
 |.rt d w=>(d,w)
def Out.val(k:Dk)(o:Out):Option D:=match k with
 |.io _=>if rR o.fin.2 then some (.tuple [o.fin.1,o.fin.2])else none
 |_=>some o.fin.1
def den(prog:List (Str×Def))(Γ:List (Str×D)):Nat->Fs
 |0,_=>none
 |k+1,f=>(prog.lookup f).map λd=>(d.lent,λJ=>if J.length=d.lent.length then (exs (den prog Γ k) Γ (br d J) d.body).bind (Out.val d.k)else none)
section
variable {d:D}{i j:Int}{x y:Str}{ds es:List D}{kvs:List (Sum Int Str×D)}{ns:List Int}{b t:Bool}{Y:List Sl}
@[simp] def ye:asB (.bool b)=some b:=rfl
@[simp] def KS:asI (.int i)=some i:=rfl
@[simp] def KU{o:Option D}:fin .val o=o:=rfl
@[simp] def yf{o:Option D}:fin .read o=o:=rfl
@[simp] def KW:bm .test=.test:=rfl
@[simp] def Mm:bm .val=.val:=rfl
@[simp] def KY:bm .read=.val:=rfl
@[simp] def KZ:bm .walk=.val:=rfl
@[simp] def Jq{o:Option D}:fin .walk o=o:=rfl
@[simp] def Jr{o:Option D}:noT .walk o=o:=rfl
@[simp] def Ge:aF .walk (.lent d)=some d:=rfl
@[simp] def IB:aF .walk (.own d)=none:=rfl
@[simp] def Js{o:Option D}:fin .test o=o.bind λd=>(pF d).map .bool:=rfl
@[simp] def La{o:Option D}:noT .val o=o:=rfl
@[simp] def Jt{o:Option D}:noT .read o=o:=rfl
@[simp] def IC:pF (.bool b)=some b:=rfl
@[simp] def ID:pF (.list ds)=some (!ds.isEmpty):=rfl
@[simp] def Ju:pF (.scr ns)=some (!ns.isEmpty):=rfl
@[simp] def Lb:opD .add (.int i) (.int j)=some (.int (i+j)):=rfl
@[simp] def Cd:opD .add (.str x) (.str y)=if x.length+y.length<=big then some (.str (x++y))else none:=rfl
@[simp] def Cf:opD .add (.list ds) (.list es)=if ds.length+es.length<=big then some (.list (ds++es))else none:=rfl
@[simp] def Lc:opD .sub (.int i) (.int j)=some (.int (i-j)):=rfl
@[simp] def ue:opD .mul (.int i) (.int j)=if rQ i j then some (.int (i*j))else none:=rfl
@[simp] def nJ:opD .mul (.list ds) (.int j)=if pG ds.length j then some (.list (List.replicate j.toNat ds).flatten)else none:=rfl
@[simp] def Cg:opD .mul (.str x) (.int j)=if -1000<=j/\j<=1000/\x.length<=1000 then some (.str ⟨((List.replicate j.toNat x.cps.toList).flatten).toArray⟩)else none:=rfl
@[simp] def Cj:opD .mod (.int i) (.int j)=if 0<j then some (.int (i % j))else none:=rfl
@[simp] def Ck:opD .fdiv (.int i) (.int j)=if 0<j/\j<1073741824 then some (.int (i / j))else none:=rfl
@[simp] def Ld:dA .lt (.int i) (.int j)=some (decide (i<j)):=rfl
@[simp] def Le:dA .le (.int i) (.int j)=some (decide (i<=j)):=rfl
@[simp] def Lf:dA .ge (.int i) (.int j)=some (decide (j<=i)):=rfl
@[simp] def Lg:dA .gt (.int i) (.int j)=some (decide (j<i)):=rfl
@[simp] def Lh:dA .lt (.str x) (.str y)=some (decide (x.cps.toList<y.cps.toList)):=rfl
@[simp] def Li:dA .le (.str x) (.str y)=some (!decide (y.cps.toList<x.cps.toList)):=rfl
@[simp] def Gf{a b:D}:dA .eq a b=eqD a b:=rfl
@[simp] def Gg{a b:D}:dA .ne a b=(eqD a b).map (!·):=rfl
@[simp] def Gh{a b:D}:dA .isin a b=inD a b:=rfl
@[simp] def wj{a b:D}:dA .notin a b=(inD a b).map (!·):=rfl
@[simp] def Lj{a}:dA .isN a .none=some (decide (a=.none)):=by cases a<;>exact if_pos rfl
@[simp] def Jv{a}:dA .notN a .none=some (!decide (a=.none)):=by cases a<;>exact if_pos rfl
@[simp] def eq_int:eqD (.int i) (.int j)=some (decide (i=j)):=by
 show (if true then some _ else _)=_;simp
@[simp] def eq_str:eqD (.str x) (.str y)=some (decide (x=y)):=by
 show (if true then some _ else _)=_;simp
def da{a b:D}(J:okS 20 a=true)(K:okS 20 b=true):eqD a b=some (decide (a=b)):=by
 unfold eqD;rw[J,K];rfl
@[simp] def Jw:jC (.list ds) (.int i)=atI ds i:=rfl
@[simp] def IE:jC (.tuple ds) (.int i)=atI ds i:=rfl
@[simp] def Lk:jC (.scr ns) (.int i)=(atI ns i).map .int:=rfl
@[simp] def Ll{kvs}{d:D}:jC (.fdc kvs) d=(pI d).bind (look kvs):=rfl
@[simp] def Cn:jC (.str x) (.int i)=if x.length<=big then (atI x.cps.toList i).map λc=>.str ⟨#[c]⟩ else none:=rfl
@[simp] def Lm:pI (.int i)=some (.inl i):=rfl
@[simp] def Ln:pI (.str x)=some (.inr x):=rfl
@[simp] def uc{l h}:slD (.list ds) l h=some (.list (cut ds l h)):=rfl
@[simp] def Mn{l h}:slD (.str x) l h=if x.length<=big then some (.str (Txt.slice x l h))else none:=rfl
@[simp] def len_list:biD .len [.list ds]=some (.int ds.length):=rfl
@[simp] def len_tuple:biD .len [.tuple ds]=some (.int ds.length):=rfl
@[simp] def Lo:biD .len [.scr ns]=some (.int ns.length):=rfl
@[simp] def len_str:biD .len [.str x]=if x.length<=big then some (.int x.length)else none:=rfl
@[simp] def int_bool:biD .int [.bool b]=some (.int (if b then 1 else 0)):=rfl
@[simp] def Lp:biD .max [.int i,.int j]=some (.int (if i<j then j else i)):=rfl
@[simp] def tuple_list:biD .tuple [.list ds]=if ds.length<=big then some (.tuple ds)else none:=rfl
@[simp] def Jx:biD .all [.list ds]=(boolsOf ds).map λJ=>.bool (J.all id):=rfl
@[simp] def IF{l}:boolsOf (l.map .bool)=some l:=by
 induction l with
 |nil=>rfl
 |cons a r ih=>show (boolsOf _).map _=_;simp_all
@[simp] def Lq:meD .ends (.str x) [.str y]=some (.bool (Txt.endswith x y)):=rfl
@[simp] def yg:meD .split (.str x) [.str y]=if (y.length==0)=false/\x.length+2<=big then some (.list ((Txt.split x y).map .str))else none:=rfl
@[simp] def Lr:meD .join (.str x) [.list ds]=(strsOf ds).bind λJ=>if (J.map (·.length)).sum+J.length*x.length<=big then some (.str (Txt.join x J))else none:=rfl
@[simp] def jG:ig (.list ds)=some ds:=rfl
@[simp] def items_str:ig (.str x)=if x.length<=big then some (x.cps.toList.map λc=>.str ⟨#[c]⟩)else none:=rfl
@[simp] def Cp{a b}:yc [.list a,.list b]=if b.length<=a.length then some (gd b.length [a,b])else none:=rfl
@[simp] def Cq{a b c}:yc [.list a,.list b,.list c]=if b.length=a.length/\c.length=a.length then some (gd a.length [a,b,c])else none:=rfl
@[simp] def dc:cA (.list ds)=true:=rfl
@[simp] def Ls:cA (.int i)=false:=rfl
@[simp] def Lu:cA (.str x)=false:=rfl
@[simp] def Jy:cA (.bool b)=false:=rfl
@[simp] def Jz:cA .none=false:=rfl
@[simp] def IG:cA (.tuple ds)=false:=rfl
@[simp] def Lv:cA (.scr ns)=false:=rfl
@[simp] def JA{m}:aF m (.dat d)=some d:=rfl
@[simp] def rS:aF .val (.lent d)=if cA d then none else some d:=rfl
@[simp] def Gi:aF .read (.lent d)=some d:=rfl
@[simp] def Gj:aF .test (.lent d)=some d:=rfl
@[simp] def IH:aF .val (.own d)=none:=rfl
@[simp] def II:aF .read (.own d)=some d:=rfl
@[simp] def IJ:aF .test (.own d)=some d:=rfl
@[simp] def JB{i}:ax (.one i) d Y=some (Y.set i (.dat d)):=rfl
@[simp] def ip{is}:ax (.tup is) (.list ds) Y=if is.length=ds.length then some ((is.zip ds).foldl (λY p=>Y.set p.1 (.dat p.2)) Y)else none:=rfl
@[simp] def iq{is}:ax (.tup is) (.tuple ds) Y=if is.length=ds.length then some ((is.zip ds).foldl (λY p=>Y.set p.1 (.dat p.2)) Y)else none:=rfl
@[simp] def lend_own:lend (.own d)=.lent d:=rfl
@[simp] def JC:lend (.dat d)=.dat d:=rfl
@[simp] def IK:lend (.lent d)=.lent d:=rfl
@[simp] def Lw:lend .no=.no:=rfl
@[simp] def Lx:lend (.io d)=.lent d:=rfl
@[simp] def JD:aF .val (.io d)=none:=rfl
@[simp] def JE:aF .read (.io d)=some d:=rfl
@[simp] def JF:aF .test (.io d)=some d:=rfl
@[simp] def IL:freeze (.io d)=.io d:=rfl
@[simp] def IM:freeze .fr=.fr:=rfl
@[simp] def Ly{f}:(Out.nx Y).andThen f=f Y:=rfl
@[simp] def Lz{w}{f}:(Out.rt d w).andThen f=some (.rt d w):=rfl
@[simp] def Gk:freeze (.own d)=.dat d:=rfl
@[simp] def Gm:freeze (.dat d)=.dat d:=rfl
@[simp] def Ey:freeze (.lent d)=.lent d:=rfl
@[simp] def IP:freeze .no=.no:=rfl
@[simp] def JG :we T (.list ds)=some (T=="list"):=rfl
@[simp] def IQ :we T (.tuple ds)=some (T=="tuple"):=rfl
@[simp] def LA :we T (.int i)=some (T=="int"):=rfl
@[simp] def JH :we T (.bool b)=some (T=="bool"||T=="int"):=rfl
end
noncomputable abbrev Ss.A(x:S):Ss:=.cons x .nil
noncomputable abbrev Ss.B(x y:S):Ss:=.cons x (.A y)
def cP{d:D}{i}(h:asI d=some i):d=.int i:=by
 cases d with
 |int=>simp_all
 |_=>cases h
def rV{d:D}{b}(h:asB d=some b):d=.bool b:=by
 cases d with
 |bool=>simp_all
 |_=>cases h
def pL{c}{d:D}(h:lg c d=true):∃n J,d=.vlt c n J:=by
 cases d with
 |vlt=>cases eq_of_beq h;exact(_,_,rfl)
 |_=>cases h
theorem aE:∀J:List Str,strsOf (J.map .str)=some J
 |[]=>rfl
 |y::r=>by show (strsOf (r.map .str)).map _=_;rw[aE r];rfl
end SI
end
section
variable {α:Type}{K:fg0}{G G' H H' H0:L2.Hp}{d d1 d2 d3:SI.D}{ds:List SI.D}{vs:List L2.V}{fp ps qs:List PySem.Addr}{σ:L2.St}{Y Y1:List SI.Sl}{i j n:Nat}{u:PySem.Value}{P prog:PySem.Program}{w:PySem.World}{h:PySem.Heap}{a b c e iter o tg:PySem.Expr}{kvs:List (L2.Key×L2.V)}{X:L2.Cx}{zp:List (PySem.Addr×PySem.Obj)}{s:PySem.Shared}{A:PySem.Around}{Q:PySem.Value->PySem.Shared->Prop}{apos pos pos' spos:PySem.Pos}{fl:List Bool}{es:List PySem.Expr}{x:PySem.Str}{tn:List PySem.Str}{js:List Nat}{Γ:List (PySem.Str×SI.D)}{body:List PySem.Stmt}{env:PySem.Env}
namespace SI
set_option genInjectivity false
open PySem
structure IoC where
 ios:List (Str×Nat):=[]
 vn:Option Str:=none
 owns:List Str:=[]
structure Cs where
 N:List Str
 sc:Scope
 fns:List Str
 cst:List Str
 mts:List Nat
 dp:List Nat
 vc:Option Nat:=none
 vms:List Str:=[]
 io:IoC:={}
 tb:Option Nat:=none
noncomputable def dZ(C:Cs)(x:Str)(k:NameKind):Bool:=C.sc.names.lookup x==some k
noncomputable def df(x:Str):Bool:=!(x==("__debug__":Str))&&!(x==("__classdict__":Str))&&!(x==("__name__":Str))
def dU(C:Cs)(x:Str):Option Nat:=
 match C.N.idxOf? x with
 |some i=>if (dZ C x .local||dZ C x .cell||dZ C x .free)&&df x then some i else none
 |none=>none
def iZ(C:Cs)(x:Str):Option Nat:=
 match C.N.idxOf? x with
 |some i=>if (dZ C x .local||dZ C x .cell)&&df x then some i else none
 |none=>none
def ah(C:Cs)(x:Str):Bool:=dZ C x .globalImplicit&&df x
noncomputable def cOp:Operator->Option Op2
 |.Add=>some .add
 |.Sub=>some .sub
 |.Mult=>some .mul
 |.Mod=>some .mod
 |.FloorDiv=>some .fdiv
 |_=>none
noncomputable def rW:CmpOp->Option Cop
 |.Lt=>some .lt
 |.LtE=>some .le
 |.Gt=>some .gt
 |.GtE=>some .ge
 |.Eq=>some .eq
 |.NotEq=>some .ne
 |.In=>some .isin
 |.NotIn=>some .notin
 |.Is=>some .isN
 |.IsNot=>some .notN
noncomputable def isSet:Expr->Bool
 |.Set ..=>true
 |_=>false
noncomputable def isSlice:Expr->Bool
 |.Slice ..=>true
 |_=>false
noncomputable def isStar:Expr->Bool
 |.Starred ..=>true
 |_=>false
noncomputable def isTup:Expr->Bool
 |.Tuple ..=>true
 |_=>false
noncomputable def pM(x:Str):Option Bf:=
 if x=("len":Str)then some .len else if x=("int":Str)then some .int else if x=("tuple":Str)then some .tuple else if x=("all":Str)then some .all else if x=("max":Str)then some .max else none
noncomputable def uf(x:Str):Option Mf:=
 if x=("split":Str)then some .split else if x=("join":Str)then some .join else if x=("endswith":Str)then some .ends else none
noncomputable def yh(x:Str):Option String:=
 if x=("int":Str)then some "int" else if x=("list":Str)then some "list" else if x=("tuple":Str)then some "tuple" else if x=("bool":Str)then some "bool" else none
noncomputable def bu:Expr->Bool
 |.Call (.Name J _) [] [] _=>J==("super":Str)
 |_=>false
def slots(C:Cs):List Expr->Option (List Nat)
 |[]=>some []
 |.Name x _::r=>(iZ C x).bind λi=>(slots C r).map (i::·)
 |_::_=>none
def cTg(C:Cs):Expr->Option Tg
 |.Name x _=>(iZ C x).map .one
 |.Tuple es _ _=>(slots C es).map .tup
 |_=>none
noncomputable def bw:Expr->List Str
 |.Name x _=>[x]
 |.Tuple es _ _=>es.filterMap fun|.Name x _=>some x|_=>none
 |_=>[]
noncomputable def jH:Tg->Nat->Bool
 |.one i,n=>decide (i<n)
 |.tup J,n=>J.all λi=>decide (i<n)
noncomputable def freeOf(sc:Scope):List Str:=sc.names.filterMap λ(x,k)=>if k==.free then some x else none
noncomputable def rX(N:A1):List Str->Option (List Nat)
 |[]=>some []
 |x::r=>(N.idxOf? x).bind λi=>(rX N r).map (i::·)
noncomputable def Ez(C:Cs)(sc:Scope)(tn:A1):Bool:=
 sc.kind==.function&&
 sc.names.all (λy=>(y.2 != .free||dZ C y.1 .cell)&&y.2 != .cell&&(y.2 != .local||sc.names.lookup y.1==some .local))&&
 tn.all (λx=>sc.names.lookup x==some .local)&&
 (freeOf sc).all (λx=>sc.names.lookup x==some .free)&&
 decide ((tn++freeOf sc).Nodup)
def yi(C:Cs)(sc:Scope)(tg:Expr):Option (Cs×Nat×List Nat):=
 if Ez C sc (bw tg)then (rX C.N (freeOf sc)).map λjs=>({C with N:=bw tg++freeOf sc,sc:=sc,mts:=[],dp:=[],tb:=none},(bw tg).length,js)else none
def nn{p:Prop}{z:α}(h:none=some z):p:=nomatch h
noncomputable def jI:Expr->Bool
 |.ListComp ..=>true
 |.SetComp ..=>true
 |.DictComp ..=>true
 |_=>false
noncomputable def chk{α:Type}:(b:Bool)->(b=true->Option α)->Option α
 |true,f=>f rfl
 |false,_=>none
noncomputable def got{α J:Type}:(o:Option α)->((a:α)->o=some a->Option J)->Option J
 |some a,f=>f a rfl
 |none,_=>none
noncomputable def eqS{α:Type}(x y:Str)(f:x=y->Option α):Option α:=if h:x=y then f h else none
noncomputable def EA(m:Str):Bool:=m=("append":Str)||m=("extend":Str)||m=("reverse":Str)||m=("pop":Str)
mutual
noncomputable def Mo:Nat->Stmt->List (Str×Bool)
 |0,_=>[]
 |n+1,s=>match s with
  |.Assign [.Name _ _] (.Call (.Attribute (.Name x _) m _) [] [] _) _=>if EA m then [(x,false)] else []
  |.Assign [.Subscript (.Name x _) _ _] _ _=>[(x,false)]
  |.Assign [.Subscript (.Subscript (.Name x _) _ _) _ _] _ _=>[(x,true)]
  |.Expr (.Call (.Attribute (.Name x _) m _) _ [] _) _=>if EA m then [(x,false)] else []
  |.If _ a b _=>lr n a++lr n b
  |.For _ _ b _ _=>lr n b
  |.While _ b _ _=>lr n b
  |_=>[]
noncomputable def lr:Nat->List Stmt->List (Str×Bool)
 |0,_=>[]
 |n+1,[]=>[]
 |n+1,s::r=>Mo n s++lr n r
end
noncomputable def aC(sc:Scope)(ps:A1):List Str:=sc.names.filterMap λ(x,k)=>if (k==.local||k==.cell)&&!ps.contains x then some x else none
noncomputable def ef:Stmt->Option (List Str×List Stmt×Scope)
 |.FunctionDef _ args body _ _ _ J _ _ _=>some (args.args.map (·.arg),body,J)
 |_=>none
noncomputable def yj(x:Str):Stmt->Bool
 |.Assign [.Name y _] (.List _ _) _=>y=x
 |_=>false
def Gn(fns cst:A1)(ps:A1)(body:List Stmt)(sc:Scope)(vc:Option Nat:=none)(vms:List Str:=[])(io:IoC:={})(tb:Option Nat:=none):Cs:=
 let N:=ps++aC sc ps
 let ms:=lr 60 body++(io.owns.filter λx=>body.any (yj x)).map λx=>(x,false)
 {N,sc,fns,cst,vc,vms,io,tb,mts:=ms.filterMap λ(x,d)=>if d then none else N.idxOf? x,dp:=ms.filterMap λ(x,d)=>if d then N.idxOf? x else none}
end SI
namespace L2.Z
open PySem PySem.Spec PyProof.Rows L2 L2.C SI
noncomputable abbrev Fg:=fg0
noncomputable def vfs(l n:Addr)(h:Nat):List (Str×V):=[("objects",.ref l),("numbers",.ref n),("objects",.int h)]
mutual
inductive Dp (K:Fg)(H:Hp):D->V->Prop
 |none:Dp K H .none .non
 |bool (b:Bool):Dp K H (.bool b) (.bl b)
 |int (i:Int):Dp K H (.int i) (.int i)
 |str (x:Str):PyData.strOk x=true->Dp K H (.str x) (.str x)
 |tuple {a:Addr}{vs:List V}{ds:List D}:H a=some (.tup vs)->Dps K H ds vs->Dp K H (.tuple ds) (.ref a)
 |list {a:Addr}{vs:List V}{ds:List D}:H a=some (.lst vs)->Dps K H ds vs->Dp K H (.list ds) (.ref a)
 |scr {a:Addr}{ns:List Int}:SqL K H a (ns.map V.int)->Dp K H (.scr ns) (.ref a)
 |fdc {a:Addr}{ob:Obj}{kvs:List (Key×D)}{ws:List (Key×V)}:H a=some (.frz ob (.dK ws))->Dks K H kvs ws->Dp K H (.fdc kvs) (.ref a)
inductive Dps (K:Fg)(H:Hp):List D->List V->Prop
 |nil:Dps K H [] []
 |cons {d:D}{v:V}{ds:List D}{vs:List V}:Dp K H d v->Dps K H ds vs->Dps K H (d::ds) (v::vs)
inductive Dks (K:Fg)(H:Hp):List (Key×D)->List (Key×V)->Prop
 |nil:Dks K H [] []
 |cons {k:Key}{d:D}{v:V}{ds:List (Key×D)}{vs:List (Key×V)}:Dp K H d v->Dks K H ds vs->Dks K H ((k,d)::ds) ((k,v)::vs)
end
def Dp.mono(e:Same G G'){v:V}(x:Dp K G d v):Dp K G' d v:=Dp.rec (motive_1:=λd v a=>Dp K G' d v) (motive_2:=λJ L a=>Dps K G' J L) (motive_3:=λJ L a=>Dks K G' J L) .none .bool .int .str (λh a r=>.tuple (e _ _ h) r) (λh a r=>.list (e _ _ h) r) (λh=>.scr (e.seq h)) (λh a r=>.fdc (e _ _ h) r) .nil (λa a=>.cons) .nil (λa a=>.cons) x
def Dps.mono(e:Same G G')(x:Dps K G ds vs):Dps K G' ds vs:=Dps.rec (motive_1:=λd v a=>Dp K G' d v) (motive_2:=λds vs a=>Dps K G' ds vs) (motive_3:=λds vs a=>Dks K G' ds vs) .none .bool .int .str (λh a r=>.tuple (e _ _ h) r) (λh a r=>.list (e _ _ h) r) (λh=>.scr (e.seq h)) (λh a r=>.fdc (e _ _ h) r) .nil (λa a=>.cons) .nil (λa a=>.cons) x
def Dks.mono(e:Same G G'){ds}{vs}(x:Dks K G ds vs):Dks K G' ds vs:=Dks.rec (motive_1:=λd v a=>Dp K G' d v) (motive_2:=λds vs a=>Dps K G' ds vs) (motive_3:=λds vs a=>Dks K G' ds vs) .none .bool .int .str (λh a r=>.tuple (e _ _ h) r) (λh a r=>.list (e _ _ h) r) (λh=>.scr (e.seq h)) (λh a r=>.fdc (e _ _ h) r) .nil (λa a=>.cons) .nil (λa a=>.cons) x
theorem Dps.length(h:Dps K G ds vs):ds.length=vs.length:=by
 induction vs generalizing ds with
 |nil=>cases h;rfl
 |cons v vs ih=>cases h<;>simp_all
def Dps.get{k:Nat}(h:Dps K G ds vs)(e:ds[k]?=some d):∃v,vs[k]?=some v/\Dp K G d v:=by
 induction vs generalizing ds k with
 |nil=>cases h;simp at e
 |cons v vs ih=>
  cases h with
  |cons h r=>
   cases k with
   |zero=>simp_all
   |succ k=>simpa using ih r (by simpa using e)
def Dps.append{ds es}{vs us}(h:Dps K G ds vs)(q:Dps K G es us):Dps K G (ds++es) (vs++us):=by
 induction vs generalizing ds with
 |nil=>cases h;erw[q]
 |cons v vs ih=>cases h with|cons h r=>exact .cons h (ih r)
def Dps.one{v:V}(h:Dp K G d v):Dps K G [d] [v]:=.cons h .nil
theorem Dps.take(n:Nat)(h:Dps K G ds vs):Dps K G (ds.take n) (vs.take n):=by
 induction vs generalizing ds n with
 |nil=>cases h;simpa using Dps.nil
 |cons v vs ih=>
  cases h with
  |cons h r=>
   cases n with
   |zero=>simpa using Dps.nil
   |succ n=>simpa using Dps.cons h (ih n r)
theorem Dps.drop(n:Nat)(h:Dps K G ds vs):Dps K G (ds.drop n) (vs.drop n):=by
 induction vs generalizing ds n with
 |nil=>cases h;simpa using Dps.nil
 |cons v vs ih=>
  cases h with
  |cons h r=>
   cases n with
   |zero=>simpa using Dps.cons h r
   |succ n=>simpa using ih n r
theorem Dps.set{v:V}(J:Dp K G d v)(n:Nat)(h:Dps K G ds vs):Dps K G (ds.set n d) (vs.set n v):=by
 induction vs generalizing ds n with
 |nil=>cases h;simpa using Dps.nil
 |cons u vs ih=>
  cases h with
  |cons h r=>
   cases n with
   |zero=>simpa using Dps.cons J r
   |succ n=>simpa using Dps.cons h (ih n r)
theorem Dps.reverse(h:Dps K G ds vs):Dps K G ds.reverse vs.reverse:=by
 induction vs generalizing ds with
 |nil=>cases h;exact .nil
 |cons u vs ih=>
  cases h with
  |cons h r=>rw[List.reverse_cons,List.reverse_cons];exact (ih r).append (.one h)
theorem Dps.dropLast(h:Dps K G ds vs):Dps K G ds.dropLast vs.dropLast:=by
 rw[List.dropLast_eq_take,List.dropLast_eq_take,h.length];erw[h.take _]
theorem Dps.rep(h:Dps K G ds vs):∀k:Nat,Dps K G (List.replicate k ds).flatten (List.replicate k vs).flatten
 |0=>.nil
 |k+1=>by
  erw[h.append (Dps.rep h k)]
def rY{α}(xs:List α)(i:Int):SI.atI xs i=L2.atI xs i:=rfl
def Mp(n d:Nat)(o):SI.sIx n d o=HT.sIx n d o:=rfl
theorem Dps.atI{i}(h:Dps K G ds vs)(e:SI.atI ds i=some d):∃v,L2.atI vs i=some v/\Dp K G d v:=by
 rw[rY]at e;unfold L2.atI at e ⊢;rw[<-h.length];cases q:L2.ixN _ i with
 |none=>simp_all
 |some j=>
  rw[q]at e;erw[h.get (e)]
theorem Dps.cut(h:Dps K G ds vs)(lo hi):Dps K G (SI.cut ds lo hi) (L2.vY vs lo hi):=by
 unfold SI.cut L2.vY;rw[h.length];exact (h.drop _).take _
structure Ext(G H G' H':Hp):Prop where
 hh:Same H H'
 gg:Same G G'
 gh:Same G' H'
 nw:∀b o,G b=Option.none->H b=some o->G' b=Option.none
theorem Ext.refl(h:Same G H):Ext G H G H:=(Same.refl _,Same.refl _,h,λa a h a=>h)
theorem Ext.trans{G H G1 H1 G2 H2}(a:Ext G H G1 H1)(b:Ext G1 H1 G2 H2):Ext G H G2 H2:=
 (a.hh.trans b.hh,a.gg.trans b.gg,b.gh,λc o K J=>b.nw c o (a.nw c o K J) (a.hh c o J))
def aG{H}{p:Addr}{o:HO}(h:H p=.none):Same H (upd H p o):=λb u e=>by
 rwa [ab (ag e h)]
def Ext.laid{p:Addr}{o:HO}(h:Same G H)(J:H p=.none):Ext G H (upd G p o) (upd H p o):=
 (aG J,aG (h.free J),λb u e=>by
  by_cases q:b=p
  .subst q;rwa [aa]at e ⊢
  .rw[ab q]at e ⊢;erw[h b u e],λb u L K=>by
  rwa [ab (ag K J)])
def Ext.hid{p:Addr}{o:HO}(h:Same G H)(J:H p=.none):Ext G H G (upd H p o):=
 (aG J,Same.refl _,h.trans (aG J),λa a e a=>e)
def Ext.show{p:Addr}{o:HO}(e:Ext G H G' H')(M:H p=.none)(N:H' p=some o)(L:G' p=.none):Ext G H (upd G' p o) H':=
 (e.hh,e.gg.trans (aG L),λb u q=>by
  by_cases z:b=p
  .subst z;rw[aa]at q;grind
  .rw[ab z]at q;erw[e.gh b u q],λb u K J=>by
  rw[ab (ag J M)];erw[e.nw b u K J])
noncomputable def er(H:Hp)(ps:A4):Hp:=λb=>if b∈ps then .none else H b
def jJ{b}(h:b∈ps):er H ps b=.none:=if_pos h
def aH{b}(h:b∉ps):er H ps b=H b:=if_neg h
def dB{b}{o:HO}(h:er H ps b=some o):b∉ps/\H b=some o:=by
 by_cases q:b∈ps
 .rw[jJ q]at h;cases h
 .rw[aH q]at h;exact(q,h)
def dC :Same (er H ps) H:=λb o h=>(dB h).2
def RowsAt(K:Fg)(G H:Hp)(rows:List (List D))(qs:A4):Prop:=rows.length=qs.length/\∀(k:Nat) row q,rows[k]?=some row->qs[k]?=some q->∃J,H q=some (.lst J)/\Dps K G row J
def RowsAt.go{rows:List (List D)}(r:RowsAt K G H rows qs)(g:Same G G')(h:∀q∈qs,H' q=H q):RowsAt K G' H' rows qs:=
 (r.1,λk J q a b=>let ⟨L,c,d⟩:=r.2 k _ q a b;(L,(h q (mg0 b)).trans c,d.mono g))
theorem RowsAt.some{rows:List (List D)}(r:RowsAt K G H rows qs):∀q∈qs,∃o,H q=.some o:=λq M=>by
 obtain⟨k,J⟩:=List.getElem?_of_mem M;have L:k<rows.length:=by rw[r.1];exact (gi0 J).1
 obtain⟨N,a,_⟩:=r.2 k _ q (ge0 L) J;exact(_,a)
def RowsAt.mono{rows:List (List D)}(r:RowsAt K G H rows qs)(g:Same G G')(h:Same H H'):RowsAt K G' H' rows qs:=
 r.go g λq L=>let ⟨o,J⟩:=r.some q L;(h _ _ J).trans J.symm
inductive Dr (K:Fg)(G H:Hp):D->V->Prop
 |of {d:D}{v:V}:Dp K G d v->Dr K G H d v
 |list {a:Addr}{vs:List V}{ds:List D}:H a=some (.lst vs)->Dps K G ds vs->Dr K G H (.list ds) (.ref a)
 |vlt {C a dx l n:Addr}{h:Nat}{as:A4}{objs:List D}:H a=some (.ins C dx (vfs l n h))->H l=some (.lst (as.map .ref))->Dps K G objs (as.map .ref)->Dr K G H (.vlt C h objs) (.ref a)
 |tbl {a:Addr}{qs:A4}{rows:List (List D)}:H a=some (.lst (qs.map .ref))->RowsAt K G H rows qs->Dr K G H (.tbl rows) (.ref a)
section
variable {v:V}
def Dr.mono2(g:Same G G')(h:Same H H'):Dr K G H d v->Dr K G' H' d v
 |.of a=>.of (a.mono g)
 |.list a r=>.list (h _ _ a) (r.mono g)
 |.vlt a b r=>.vlt (h _ _ a) (h _ _ b) (r.mono g)
 |.tbl a r=>.tbl (h _ _ a) (r.mono g h)
def Dr.ext(e:Ext G H G' H')(h:Dr K G H d v):Dr K G' H' d v:=h.mono2 e.gg e.hh
theorem Dr.none(h:Dr K G H .none v):v=.non:=by cases h with|of h=>cases h;rfl
theorem Dr.bool{b}(h:Dr K G H (.bool b) v):v=.bl b:=by cases h with|of h=>cases h;rfl
theorem Dr.int{i}(h:Dr K G H (.int i) v):v=.int i:=by cases h with|of h=>cases h;rfl
theorem Dr.str{x}(h:Dr K G H (.str x) v):v=.str x/\PyData.strOk x=true:=by cases h with|of h=>cases h with|str _ o=>exact(rfl,o)
theorem Dr.lst(s:Same G H)(h:Dr K G H (.list ds) v):∃a vs,v=.ref a/\H a=some (.lst vs)/\Dps K G ds vs:=by
 cases h with
 |of h=>cases h with|list h r=>exact(_,_,rfl,s _ _ h,r)
 |list h r=>exact(_,_,rfl,h,r)
theorem Dr.fdc{ds:List (Key×D)}(s:Same G H)(h:Dr K G H (.fdc ds) v):∃a J vs,v=.ref a/\H a=some (.frz J (.dK vs))/\Dks K G ds vs:=by
 cases h with|of h=>cases h with|fdc h r=>exact(_,_,_,rfl,s _ _ h,r)
theorem Dr.tup(s:Same G H)(h:Dr K G H (.tuple ds) v):∃a vs,v=.ref a/\H a=some (.tup vs)/\Dps K G ds vs:=by
 cases h with|of h=>cases h with|tuple h r=>exact(_,_,rfl,s _ _ h,r)
theorem Dr.scr{ns}(s:Same G H)(h:Dr K G H (.scr ns) v):∃a,v=.ref a/\SqL K H a (ns.map V.int):=by
 cases h with|of h=>cases h with|scr h=>exact(_,rfl,s.seq h)
def Dr.dp(h:Dr K G H d v)(o:cA d=false):Dp K G d v:=by
 cases h with
 |of h=>exact h
 |_=>cases o
end
mutual
noncomputable def lu(w:World):D->Int
 |.int i=>hashInt i
 |.str x=>hashStr w x
 |.tuple J=>reduceHash (Builtin.Tuple.tupleHashOf (cU w J))
 |_=>0
noncomputable def cU(w:World):List D->List Int
 |[]=>[]
 |d::r=>lu w d::cU w r
end
inductive fw:Nat->List (D×Addr×Value)->List Addr->List D->Prop
 |nil {k:Nat}:fw k [] [] []
 |cons {k:Nat}{t:Tok}{d:D}{a:Addr}{xs:List (D×Addr×Value)}{as:A4}{ds:List D}:fw (k+1) xs as ds->fw k ((d,a,.int k t)::xs) (a::as) (d::ds)
abbrev NK:=Addr->List Addr->List D->Heap->Prop
def aM(w:World):NK:=λn L objs h=>
 (n==sysModules)=false/\∃J:List (D×Addr×Value),fw 0 J L objs/\objs.length<=1000000/\
  ∃o K M,h.get? n=some o/\o.ExactDict/\o.data=.dict K M/\K.toList=J.map (λx=>((lu w x.1,.ref x.2.1,x.2.2):DictEntry))/\(J.map (·.1)).Nodup
abbrev _root_.L2.Cx.nk(X:Cx):NK:=aM X.w
structure Bs where
 g:Hp
 pin:Option (Addr×List Addr):=Option.none
def IoAt(ν:NK)(K:Fg)(G H:Hp)(d:D)(p:Addr)(M:A4):Prop:=
 (∃N O,d=.list N/\M=[p]/\H p=some (.lst O)/\Dps K G N O)\/
 (∃C R l n L objs,d=.vlt C 0 objs/\M=[l,n]/\n≠l/\G p=some (.ins C R (vfs l n 0))/\H l=some (.lst (L.map .ref))/\H n=some (.ext (ν n L objs))/\Dps K G objs (L.map .ref)/\∀d∈objs,okK 8 d=true/\jF d=true)\/
 ∃rows J,d=.tbl rows/\M=p::J/\(p::J).Nodup/\H p=some (.lst (J.map .ref))/\RowsAt K G H rows J
section
variable {ν:NK}{p:Addr}
theorem IoAt.go(g:Same G G')(h:∀b∈fp,H' b=H b):IoAt ν K G H d p fp->IoAt ν K G' H' d p fp:=by
 rintro (⟨U,D,L,J,M,N⟩|⟨C,V,l,n,R,objs,L,J,M,N,O,W,Y,Z⟩|⟨F,T,L,J,M,N,O⟩)
 .exact .inl (U,D,L,J,(h p @6).trans M,N.mono g)
 .exact .inr (.inl (C,V,l,n,R,_,L,J,M,g _ _ N,(h l @6).trans O,(h n (by rw[J];simp)).trans W,Y.mono g,Z))
 .exact .inr (.inr (F,T,L,J,M,(h p (by rw[J];simp)).trans N,O.go g λq B=>h q @6))
theorem IoAt.some(h:IoAt ν K G H d p fp):∀b∈fp,∃o,H b=.some o:=by
 intro b hb;rcases h with⟨V,D,O,J,L,M⟩|⟨C,W,l,n,U,objs,O,J,L,M,N,R,Y,Z⟩|⟨F,T,O,J,L,M,N⟩
 .rw[J]at hb;obtain rfl:=List.mem_singleton.mp hb;exact(_,L)
 .rw[J]at hb
  simp only[List.mem_cons,List.not_mem_nil,or_false]at hb;rcases hb with rfl|rfl
  .exact(_,N)
  .exact(_,R)
 .rw[J]at hb
  rcases mq0 hb with rfl|hb
  .exact(_,M)
  .erw[N.some b hb]
def IoAt.ext(e:Ext G H G' H')(h:IoAt ν K G H d p fp):IoAt ν K G' H' d p fp:=
 h.go e.gg λb L=>let ⟨o,J⟩:=h.some b L;(e.hh _ _ J).trans J.symm
def IoAt.dr(s:Same G H):IoAt ν K G H d p fp->Dr K G H d (.ref p):=by
 rintro (⟨R,Y,rfl,_,M,J⟩|⟨C,U,l,n,O,objs,rfl,_,_,J,L,_,N,_⟩|⟨W,V,rfl,_,_,J,L⟩)
 .exact .list M J
 .exact .vlt (s _ _ J) L N
 .exact .tbl J L
def IoAt.same{e}{fq}(g:Same G G')(U:∀o,H p=.some o->H' p=.some o)(a:IoAt ν K G H d p fp)(b:IoAt ν K G' H' e p fq)(R:d=e):fp=fq:=by
 subst R;rcases a with⟨_,_,N,a2,_⟩|⟨_,_,_,_,_,_,N,a2,_,O,_⟩|⟨_,_,N,a2,_,O,_⟩<;>rcases b with⟨_,_,L,M,_⟩|⟨_,_,_,_,_,_,L,M,_,J,_⟩|⟨_,_,L,M,_,J,_⟩<;>rw[N]at L<;>try (cases L;done)
 .rw[a2,M]
 .rw[g _ _ O]at J
  cases J<;>simp_all
 .rw[U _ O]at J
  have z:=HO.lst.inj (Option.some.inj J);rw[a2,M,(List.map_inj_right (λc c z=>V.ref.inj z)).mp z]
end
def OwnAt(K:Fg)(G H:Hp)(d:D)(p:Addr):Prop:=∃J L,d=.list J/\H p=some (.lst L)/\Dps K G J L
structure Mq(ν:NK)(K:Fg)(G0:Bs)(H0 G H:Hp)(σ:St)(Y:List Sl):Prop where
 at':∀(i:Nat) d,Y[i]?=some (.io d)->∃p fp,σ[i]?=some (some (.ref p))/\IoAt ν K G H d p fp/\(∀b∈fp,G b=Option.none/\H0 b=Option.none)/\(∀z,G0.pin=some z->z=(p,fp))/\∀(j:Nat) e q,Y[j]?=some (.own e)->σ[j]?=some (some (.ref q))->q∉fp
 one:∀(i j:Nat) d e,Y[i]?=some (.io d)->Y[j]?=some (.io e)->i=j
 fr:∀(i:Nat),Y[i]?=some .fr->G0.pin=Option.none
structure EnvD(ν:NK)(K:Fg)(G0:Bs)(H0 G H:Hp)(σ:St)(Y:List Sl):Prop where
 ext:Ext G0.g H0 G H
 len:σ.length=Y.length
 dat:∀(i:Nat) d,Y[i]?=some (.dat d)->∃v,σ[i]?=some (some v)/\Dp K G d v
 lent:∀(i:Nat) d,Y[i]?=some (.lent d)->∃v,σ[i]?=some (some v)/\Dr K G0.g H0 d v
 own:∀(i:Nat) d,Y[i]?=some (.own d)->∃p,σ[i]?=some (some (.ref p))/\G p=Option.none/\H0 p=Option.none/\OwnAt K G H d p
 apart:∀(i j:Nat) d e p,Y[i]?=some (.own d)->Y[j]?=some (.own e)->σ[i]?=some (some (.ref p))->σ[j]?=some (some (.ref p))->i=j
 io:Mq ν K G0 H0 G H σ Y
section
variable {ν:NK}{G0:Bs}
def OwnAt.ext{p:Addr}(e:Ext G H G' H')(h:OwnAt K G H d p):OwnAt K G' H' d p:=let ⟨J,O,L,M,N⟩:=h;(J,O,L,e.hh _ _ M,N.mono e.gg)
def OwnAt.dr{p:Addr}(h:OwnAt K G H d p):Dr K G H d (.ref p):=by obtain⟨M,N,rfl,J,L⟩:=h;exact .list J L
theorem OwnAt.some{p:Addr}(h:OwnAt K G H d p):∃o,H p=.some o:=let ⟨_,_,_,h,_⟩:=h;(_,h)
def EnvD.sub(E:EnvD ν K G0 H0 G H σ Y):Same G H:=E.ext.gh
def EnvD.step(E:EnvD ν K G0 H0 G H σ Y)(e:Ext G H G' H'):EnvD ν K G0 H0 G' H' σ Y:=by
 refine(E.ext.trans e,E.len,λi d h=>(E.dat i d h).imp λv h=>(h.1,h.2.mono e.gg),E.lent,λi M h=>?_,E.apart,λi d h=>?_,E.io.one,E.io.fr)
 .obtain⟨p,a,c,f,g⟩:=E.own i M h
  obtain⟨o,J⟩:=g.some;exact(p,a,e.nw _ _ c J,f,g.ext e)
 .obtain⟨p,N,a,b,c,f⟩:=E.io.at' i d h
  exact(p,N,a,b.ext e,λx L=>((b.some x L).elim λo J=>e.nw _ _ (c x L).1 J,(c x L).2),f)
theorem EnvD.read(E:EnvD ν K G0 H0 G H σ Y){sl}(h:Y[i]?=some sl)(J:aF .read sl=some d):∃v,σ[i]?=some (some v)/\Dr K G H d v:=by
 cases sl with
 |dat L=>cases J;obtain⟨v,a,b⟩:=E.dat i d h;exact(v,a,.of b)
 |lent L=>cases J;obtain⟨v,a,b⟩:=E.lent i d h;exact(v,a,b.ext E.ext)
 |own L=>cases J;obtain⟨p,a,_,_,b⟩:=E.own i d h;exact(_,a,b.dr)
 |io L=>cases J;obtain⟨p,M,a,b,_⟩:=E.io.at' i d h;exact(_,a,b.dr E.sub)
 |_=>cases J
set_option tactic.hygienic true in
theorem EnvD.val(E:EnvD ν K G0 H0 G H σ Y){sl}(h:Y[i]?=some sl)(J:aF .val sl=some d):∃v,σ[i]?=some (some v)/\Dp K G d v:=by
 cases sl with
 |dat L=>cases J;erw[E.dat i d h]
 |lent L=>
  rw[rS]at J;split at J
  .cases J
  .rename_i c
   cases J;obtain⟨v,a,b⟩:=E.lent i d h;exact(v,a,(b.ext E.ext).dp (by simpa using c))
 |_=>cases J
def getE_set{l:List α}{i j}{x y}(h:(l.set i x)[j]?=some y):(j=i/\y=x)\/(j≠i/\l[j]?=some y):=by
 by_cases e:j=i
 .subst e
  by_cases q:j<l.length<;>simp_all
 .rw[gn0 (Ne.symm e)]at h;exact .inr (e,h)
def getE_io{i j}{s t}(h:(Y.set i s)[j]?=some t)(J:t≠s):j≠i/\Y[j]?=some t:=
 (getE_set h).elim (by rintro ⟨_,q⟩;erw[absurd q J]) id
theorem EnvD.set{v:V}(E:EnvD ν K G0 H0 G H σ Y)(B:i<σ.length)(h:Dp K G d v):EnvD ν K G0 H0 G H (σ.set i (some v)) (Y.set i (.dat d)):=by
 refine(E.ext,by simp[E.len],λj e J=>?_,λj e J=>?_,λj O J=>?_,λj k O Z p J N U M=>?_,λj e J=>?_,λj k d e J N=>E.io.one j k d e (getE_io J @0).2 (getE_io N @0).2,λj J=>E.io.fr j (getE_io J @0).2)
 .rcases getE_set J with⟨rfl,q⟩|⟨L,q⟩
  .simp_all
  .rw[gn0 (Ne.symm L)];erw[E.dat j e q]
 .obtain⟨L,q⟩:=getE_io J @0
  rw[gn0 (Ne.symm L)];erw[E.lent j e q]
 .obtain⟨L,q⟩:=getE_io J @0
  rw[gn0 (Ne.symm L)];erw[E.own j O q]
 .obtain⟨F,q⟩:=getE_io J @0
  obtain⟨R,r⟩:=getE_io N @0;rw[gn0 (Ne.symm F)]at U;rw[gn0 (Ne.symm R)]at M;erw[E.apart j k O Z p q r U M]
 .obtain⟨L,q⟩:=getE_io J @0
  obtain⟨p,T,a,b,c,f,g⟩:=E.io.at' j e q;refine(p,T,by rwa [gn0 (Ne.symm L)],b,c,f,λk W D N M=>?_);obtain⟨R,r⟩:=getE_io N @0;rw[gn0 (Ne.symm R)]at M;erw[g k W D r M]
def EnvD.setOwn{p:Addr}(E:EnvD ν K G0 H0 G H σ Y)(F:i<σ.length)(I:OwnAt K G H d p)(P:G p=.none)(S:H0 p=.none)
  (new:(∀(j:Nat) e,Y[j]?=some (.own e)->σ[j]?≠some (some (.ref p)))/\∀(j:Nat) e q V,Y[j]?=some (.io e)->σ[j]?=some (some (.ref q))->IoAt ν K G H e q V->p∉V):EnvD ν K G0 H0 G H (σ.set i (some (.ref p))) (Y.set i (.own d)):=by
 refine(E.ext,by simp[E.len],λj e J=>?_,λj e J=>?_,λj T J=>?_,λj k T B q J O R L=>?_,λj e J=>?_,λj k d e J O=>E.io.one j k d e (getE_io J @0).2 (getE_io O @0).2,λj J=>E.io.fr j (getE_io J @0).2)
 .obtain⟨N,z⟩:=getE_io J @0
  rw[gn0 (Ne.symm N)];erw[E.dat j e z]
 .obtain⟨N,z⟩:=getE_io J @0
  rw[gn0 (Ne.symm N)];erw[E.lent j e z]
 .rcases getE_set J with⟨rfl,z⟩|⟨N,z⟩
  .cases z;exact(p,gs0 F,P,S,I)
  .rw[gn0 (Ne.symm N)];erw[E.own j T z]
 .rcases getE_set J with⟨D,_⟩|⟨X,W⟩
  .rcases getE_set O with⟨U,_⟩|⟨Z,M⟩
   .rw[D,U]
   .rw[D,gs0 F]at R
    rw[gn0 (Ne.symm Z)]at L;cases R;erw[absurd L (new.1 k B M)]
  .rw[gn0 (Ne.symm X)]at R
   rcases getE_set O with⟨U,_⟩|⟨Z,M⟩
   .rw[U,gs0 F]at L
    cases L;erw[absurd R (new.1 j T W)]
   .rw[gn0 (Ne.symm Z)]at L
    erw[E.apart j k T B q W M R L]
 .obtain⟨N,q⟩:=getE_io J @0
  obtain⟨C,V,a,b,c,f,g⟩:=E.io.at' j e q;refine(C,V,by rw[gn0 (Ne.symm N)];erw[a],b,c,f,λk Q A O L=>?_);rcases getE_set O with⟨U,_⟩|⟨Z,M⟩
  .rw[U,gs0 F]at L
   cases L;erw[new.2 j e C V q a b]
  .rw[gn0 (Ne.symm Z)]at L
   erw[g k Q A M L]
def EnvD.fresh{p:Addr}(E:EnvD ν K G0 H0 G H σ Y)(Z:H p=.none)(R:Same G G')(U:Same H H'):(∀(j:Nat) e,Y[j]?=some (.own e)->σ[j]?≠some (some (.ref p)))/\∀(j:Nat) e q L,Y[j]?=some (.io e)->σ[j]?=some (some (.ref q))->IoAt ν K G' H' e q L->p∉L:=by
 refine(λj O M J=>?_,λj e q L M J io N=>?_)
 .obtain⟨q,a,_,_,b⟩:=E.own j O M
  obtain⟨o,V⟩:=b.some<;>simp_all
 .obtain⟨T,W,a,b,_⟩:=E.io.at' j e M
  rw[J]at a;cases a;rw[<-b.same R (U q) io rfl]at N;obtain⟨o,V⟩:=b.some p N<;>grind
def EnvD.change{d e}{p:Addr}{o:HO}(E:EnvD ν K G0 H0 G H σ Y)(M:Y[i]?=some (.own d))(U:σ[i]?=some (some (.ref p)))(h:OwnAt K G (upd H p o) e p):
  EnvD ν K G0 H0 G (upd H p o) σ (Y.set i (.own e)):=by
 obtain⟨F,a,c,f,g⟩:=E.own i d M;rw[U]at a;cases a;refine((λx o e=>?_,E.ext.gg,λx o e=>?_,E.ext.nw),by simp[E.len],λj e J=>?_,λj e J=>?_,λj L J=>?_,λj k L r q J N B R=>?_,λj e J=>?_,λj k d e J N=>E.io.one j k d e (getE_io J @0).2 (getE_io N @0).2,λj J=>E.io.fr j (getE_io J @0).2)
 .rw[ab (ag e f)];erw[E.ext.hh x o e]
 .rw[ab (ag e c)];erw[E.ext.gh x o e]
 .erw[E.dat j e (getE_io J @0).2]
 .erw[E.lent j e (getE_io J @0).2]
 .rcases getE_set J with⟨rfl,z⟩|⟨w,z⟩
  .cases z;exact(p,U,c,f,h)
  .obtain⟨q,T,C,P,X⟩:=E.own j L z
   have l:q≠p:=by
    rintro rfl
    erw[w (E.apart j i L d q z M T U)]
   refine(q,T,C,P,?_);obtain⟨Q,t,A,y,u⟩:=X;exact(Q,t,A,by rw[ab l];erw[y],u)
 .have O:∀{j:Nat}{L:D},(Y.set i (.own e))[j]?=some (.own L)->∃V,Y[j]?=some (.own V):=λJ=>(getE_set J).elim (by rintro ⟨e,_⟩;exact(d,e▸M)) λ⟨_,z⟩=>(_,z)
  obtain⟨_,W⟩:=O J;obtain⟨_,Z⟩:=O N;erw[E.apart j k _ _ q W Z B R]
 .obtain⟨F,I,a,b,c,f,g⟩:=E.io.at' j e (getE_io J @0).2
  have m:=g i d p M U;refine(F,I,a,b.go (Same.refl _) λx v=>ab λz=>m (z▸v),c,f,λk S q N R=>?_);rcases getE_set N with⟨rfl,_⟩|⟨_,z⟩
  .erw[g k d q M R]
  .erw[g k S q z R]
def EnvD.frz{Y'}(E:EnvD ν K G0 H0 G H σ Y)(w:Y'.length=Y.length)(h:∀(i:Nat) s,Y'[i]?=some s->Y[i]?=some s\/∃d,Y[i]?=some (.own d)/\s=.dat d):∃N,EnvD ν K G0 H0 N H σ Y'/\Same G N:=by
 classical
 let P:Addr->Prop:=λb=>∃(i:Nat)(d:D),Y[i]?=some (.own d)/\Y'[i]?=some (.dat d)/\σ[i]?=some (some (.ref b))
 have I:∀b,P b->G b=.none/\H0 b=.none:=λb ⟨i,d,T,_,U⟩=>by
  obtain⟨p,a,c,f,_⟩:=E.own i d T;rw[U]at a;cases a;exact(c,f)
 let N:Hp:=λb=>if P b then H b else G b
 have R:∀b,P b->N b=H b:=λb h=>if_pos h
 have J:∀b,¬P b->N b=G b:=λb h=>if_neg h
 have O:Same G N:=λb o e=>by rw[J b λh=>by rw[(I b h).1]at e;cases e];erw[e]
 have M:∀{i:Nat}{s:Sl},Y'[i]?=some s->(∀d,s≠.dat d)->Y[i]?=some s:=λL m=>(h _ _ L).elim id λ⟨d,_,e⟩=>absurd e (m d)
 refine(N,((E.ext.hh,E.ext.gg.trans O,λb o e=>?_,λb o y Z=>?_),by rw[w];erw[E.len],λi d L=>?_,λi d L=>E.lent i d (M L @0),λi d L=>?_,λi j d e p L V=>E.apart i j d e p (M L @0) (M V @0),λi d L=>?_,λi j d e L V=>E.io.one i j d e (M L @0) (M V @0),λi L=>E.io.fr i (M L @0)),O)
 .by_cases c:P b
  .rw[R b c]at e;erw[e]
  .rw[J b c]at e;erw[E.ext.gh b o e]
 .rw[J b λh=>by rw[(I b h).2]at Z;cases Z];erw[E.ext.nw b o y Z]
 .rcases h i _ L with z|⟨W,z,e⟩
  .obtain⟨v,a,b⟩:=E.dat i d z
   exact(v,a,b.mono O)
  .cases e
   obtain⟨p,a,c,f,g⟩:=E.own i d z;have q:=R p (i,d,z,L,a);obtain⟨S,X,rfl,F,U⟩:=g;exact(_,a,.list (q.trans F) (U.mono O))
 .have z:=M L @0
  obtain⟨p,a,c,f,g⟩:=E.own i d z;refine(p,a,?_,f,?_)
  .rw[J p λ⟨j,W,C,A,Q⟩=>by cases E.apart i j d W p z C a Q;rw[L]at A;cases A];erw[c]
  .obtain⟨S,X,T,F,U⟩:=g
   exact(S,X,T,F,U.mono O)
 .obtain⟨p,u,a,b,c,f,g⟩:=E.io.at' i d (M L @0)
  exact(p,u,a,b.go O λk k=>rfl,λx B=>(by rw[J x λ⟨j,W,C,_,Q⟩=>g j W x C Q B];exact (c x B).1,(c x B).2),f,λj e q V=>g j e q (M V @0))
def EnvD.freeze1(E:EnvD ν K G0 H0 G H σ Y)(L:Y[i]?=some (.own d)):∃J,EnvD ν K G0 H0 J H σ (Y.set i (.dat d))/\Same G J:=
 E.frz @0 λj s M=>(getE_set M).elim (by rintro ⟨e,q⟩;exact .inr (d,e▸L,q)) λ⟨_,q⟩=>.inl q
theorem EnvD.freeze(E:EnvD ν K G0 H0 G H σ Y):∃J,EnvD ν K G0 H0 J H σ (Y.map freeze)/\Same G J:=
 E.frz @0 λj s L=>by
  rw[gm0]at L;obtain⟨M,q,rfl⟩:=mx0 L;cases M with
  |own d=>exact .inr (d,q,rfl)
  |_=>exact .inl q
def EnvD.ioGo{d e}{p:Addr}{fp}(E:EnvD ν K G0 H0 G H σ Y)(Z:Y[i]?=some (.io d))(C:σ[i]?=some (some (.ref p)))(T:IoAt ν K G H d p fp)(x:Ext G (er H fp) G' (er H' fp))(I:∀b∈fp,G' b=.none)(new:IoAt ν K G' H' e p fp):EnvD ν K G0 H0 G' H' σ (Y.set i (.io e)):=by
 obtain⟨t,V,a,b,c,f,g⟩:=E.io.at' i d Z;rw[C]at a;cases a;obtain rfl:=b.same (Same.refl _) (λl h=>h) T rfl;have keep:∀{b o},b∉V->H b=some o->H' b=some o:=λu M=>(dB (x.hh _ _ (by rw[aH u];erw[M]))).2
 have B:∀{b o},H0 b=some o->b∉V:=λM A=>by rw[(c _ A).2]at M;cases M
 refine((λb o M=>keep (B M) (E.ext.hh b o M),E.ext.gg.trans x.gg,x.gh.trans dC,λb o W N=>x.nw b o (E.ext.nw b o W N) (by rw[aH (B N)];erw[E.ext.hh b o N])),by simp[E.len],λj L J=>?_,λj L J=>E.lent j L (getE_io J @0).2,λj L J=>?_,λj k L U q J O=>E.apart j k L U q (getE_io J @0).2 (getE_io O @0).2,λj L J=>?_,λj k L U J O=>?_,λj J=>E.io.fr j (getE_io J @0).2)
 .obtain⟨v,R,a2⟩:=E.dat j L (getE_io J @0).2
  exact(v,R,a2.mono x.gg)
 .have z:=(getE_io J @0).2
  obtain⟨q,R,a2,S,F⟩:=E.own j L z;have Q:=g j L q z R;obtain⟨o,y⟩:=F.some;refine(q,R,x.nw q o a2 (by rw[aH Q];erw[y]),S,?_);obtain⟨P,m,W,N,X⟩:=F;exact(P,m,W,keep Q N,X.mono x.gg)
 .rcases getE_set J with⟨rfl,z⟩|⟨w,z⟩
  .cases z
   exact(p,V,C,new,λb M=>(I b M,(c b M).2),f,λk U q O=>g k U q (getE_io O @0).2)
  .erw[absurd (E.io.one j i _ _ z Z) w]
 .have io:∀{j:Nat}{L:D},(Y.set i (.io e))[j]?=some (.io L)->j=i:=λJ=>(getE_set J).elim (·.1) λ⟨_,z⟩=>E.io.one _ _ _ _ z Z
  rw[io J,io O]
def EnvD.ownGo{d e}{p:Addr}(E:EnvD ν K G0 H0 G H σ Y)(U:Y[i]?=some (.own (.list d)))(F:σ[i]?=some (some (.ref p)))(x:Ext G (er H [p]) G' (er H' [p]))(gn:G' p=.none)(new:OwnAt K G' H' (.list e) p):EnvD ν K G0 H0 G' H' σ (Y.set i (.own (.list e))):=by
 obtain⟨t,a,c,f,g⟩:=E.own i _ U;rw[F]at a;cases a;have keep:∀{b o},b≠p->H b=some o->H' b=some o:=λnb M=>(dB (x.hh _ _ (by rw[aH (by simpa using nb)];erw[M]))).2
 have u:∀{b o},H0 b=some o->b≠p:=λM hm=>by rw[hm,f]at M;cases M
 have io:∀{j:Nat}{L:D},(Y.set i (.own (.list e)))[j]?=some (.io L)->Y[j]?=some (.io L):=λJ=>(getE_io J @0).2
 refine((λb o M=>keep (u M) (E.ext.hh b o M),E.ext.gg.trans x.gg,x.gh.trans dC,λb o S R=>x.nw b o (E.ext.nw b o S R) (by rw[aH (by simpa using u R)];erw[E.ext.hh b o R])),by simp[E.len],λj L J=>?_,λj L J=>E.lent j L (getE_io J @0).2,λj L J=>?_,λj k A gs q J V s T=>?_,λj L J=>?_,λj k L B J V=>E.io.one j k L B (io J) (io V),λj J=>E.io.fr j (getE_io J @0).2)
 .obtain⟨v,Z,a2⟩:=E.dat j L (getE_io J @0).2
  exact(v,Z,a2.mono x.gg)
 .rcases getE_set J with⟨rfl,z⟩|⟨ne,z⟩
  .cases z;exact(p,F,gn,f,new)
  .obtain⟨q,Z,a2,r,X⟩:=E.own j L z
   have l:q≠p:=by rintro rfl;erw[ne (E.apart j i _ _ q z U Z F)]
   obtain⟨o,O⟩:=X.some;refine(q,Z,x.nw q o a2 (by rw[aH (by simpa using l)];erw[O]),r,?_);obtain⟨n,vs,S,R,h3⟩:=X;exact(n,vs,S,keep l R,h3.mono x.gg)
 .have W:∀{j:Nat}{A:D},(Y.set i (.own (.list e)))[j]?=some (.own A)->∃C,Y[j]?=some (.own C):=λJ=>(getE_set J).elim (by rintro ⟨e,_⟩;exact(_,e▸U)) λ⟨_,z⟩=>(_,z)
  obtain⟨_,P⟩:=W J;obtain⟨_,I⟩:=W V;erw[E.apart j k _ _ q P I s T]
 .obtain⟨t,fp,a,b,c,h,Q⟩:=E.io.at' j L (io J)
  have w:=Q i _ p U F;refine(t,fp,a,b.go x.gg λy N=>?_,λy N=>?_,h,λk B q V T=>?_)
  .obtain⟨o,O⟩:=b.some y N
   rw[keep (λz=>w (z▸N)) O,O]
  .obtain⟨o,O⟩:=b.some y N
   exact(x.nw y o (c y N).1 (by rw[aH (λm=>w (by rw[<-List.mem_singleton.mp m];erw[N]))];erw[O]),(c y N).2)
  .rcases getE_set V with⟨rfl,_⟩|⟨_,z⟩
   .erw[Q k _ q U T]
   .erw[Q k B q z T]
end
end L2.Z
namespace L2
open PySem PySem.Spec PyProof.Rows
section
variable {Y:Type}[DecidableEq Y]
noncomputable def eg(kvs:List (Y×V))(k:Y):Option V:=(kvs.find? λJ=>decide (J.1=k)).map (·.2)
noncomputable def putK(kvs:List (Y×V))(k:Y)(v:V):List (Y×V):=
 if (kvs.any λJ=>decide (J.1=k))=true then kvs.map (λJ=>if J.1=k then (J.1,v)else J)else kvs++[(k,v)]
def jK{p}{r}{k:Y}(e:p.1=k):eg (p::r) k=some p.2:=by simp[eg,e]
def jL{p}{r}{k:Y}(e:¬ p.1=k):eg (p::r) k=eg r k:=by simp[eg,e]
def pN(kvs)(k:Y)(v:V):(putK kvs k v).length<=kvs.length+1:=by
 unfold putK
 grind
def RelO.isSome_eq{o:Option V}{u}(r:RelO o u):o.isSome=u.isSome:=by
 cases o with
 |none=>cases u with
  |none=>rfl
  |some _=>exact (r).elim
 |some _=>cases u with
  |none=>exact (r).elim
  |some _=>rfl
theorem RelO.getD{o:Option V}{u}{d}{d'}(r:RelO o u)(J:RelV d d'):RelV (o.getD d) (u.getD d'):=by
 cases o with
 |none=>cases u with
  |none=>exact J
  |some _=>exact (r).elim
 |some _=>cases u with
  |none=>exact (r).elim
  |some _=>exact r
def KV.val{kvs:List (Y×V)}{vs:List (Y×Value)}(r:KV kvs vs)(k:Y):RelO (eg kvs k) (valueAt vs k):=by
 induction r with
 |nil=>exact True.intro
 |@cons p q N K h t ih=>
  obtain⟨L,M⟩:=h
  by_cases e:p.1=k
  .have J:=L.symm.trans e
   have b:valueAt (q::K) k=some q.2:=by simp[valueAt,J]
   rwa [jK e,b]
  .have J:¬ q.1=k:=λz=>e (L.trans z)
   have b:valueAt (q::K) k=valueAt K k:=by simp[valueAt,J]
   rwa [jL e,b]
theorem KV.any{kvs:List (Y×V)}{vs:List (Y×Value)}(r:KV kvs vs)(k:Y):(kvs.any λJ=>decide (J.1=k))=vs.any λJ=>decide (J.1=k):=by
 induction r<;>simp_all
def KV.repl{kvs:List (Y×V)}{vs:List (Y×Value)}(r:KV kvs vs)(k:Y){y:V}(M:RelV y u):
  KV (kvs.map λJ=>if J.1=k then (J.1,y)else J) (vs.map λJ=>if J.1=k then (J.1,u)else J):=by
 unfold KV at r ⊢
 induction r with
 |nil=>exact .nil
 |@cons p q N O h t ih=>
  rw[mk0,mk0];refine .cons ?_ ih;obtain⟨K,L⟩:=h
  by_cases e:p.1=k
  .rw[if_pos e,if_pos (K.symm.trans e)];exact(K,M)
  .rw[if_neg e,if_neg (λz=>e (K.trans z))];exact(K,L)
def KV.put{kvs:List (Y×V)}{vs:List (Y×Value)}(r:KV kvs vs)(k:Y){y:V}(J:RelV y u):KV (putK kvs k y) (stored vs k u):=by
 unfold putK stored;rw[r.any k]
 by_cases e:(vs.any λK=>decide (K.1=k))=true
 .rw[if_pos e,if_pos e];erw[r.repl k J]
 .rw[if_neg e,if_neg e];erw[Paired.snoc r (rfl,J)]
def KV.keys{kvs:List (Y×V)}{vs:List (Y×Value)}(r:KV kvs vs):kvs.map (·.1)=vs.map (·.1):=by
 induction r<;>simp_all
theorem KV.length{kvs:List (Y×V)}{vs:List (Y×Value)}(r:KV kvs vs):kvs.length=vs.length:=Paired.length r
end
def lA{k:Key}(r:RelV (kV k) u):(aD P w).is k u=true:=by
 cases k with
 |inl i=>obtain⟨t,e⟩:=(r);subst e;erw[oZ P w i t]
 |inr x=>obtain⟨t,e⟩:=(r);subst e;erw[pd P w x t]
theorem lC :∀{J}{us:A2},Vals (J.map kV) us->ItemsAre (aD P w) J us
 |[],_,r=>by cases r;exact .nil
 |k::J,_,r=>by
  cases r with
  |cons h t=>exact .cons (lA h) (lC t)
section
variable {a:Addr}
def EC{u}(ok:HOk P w H h)(e:Rd H a u):ObjOk P w H h a u:=e.ok ok
def lD(ok:HOk P w H h)(e:Rd H a (.dK kvs)):kvs.length<=sizeLine/\(a==sysModules)=false/\∃vs,KV kvs vs/\h.DictOf (aD P w) a vs:=
 EC ok e
def cW{ks}(ok:HOk P w H h)(e:H a=some (.tup (ks.map kV))):(tupleKind (aD P w)).is h ks a:=by
 obtain⟨_,M,r,o,J,K,n,L⟩:=(ok a _ e);exact(o,_,n,J,K,L,by simpa using lC r)
end
def rZ(H:Hp)(a:Addr)(y:V)(r:Option V):Prop:=
 (∃J k,Rd H a (.dK J)/\y=kV k/\r=eg J k)
section
variable {a:Addr}{y v:V}{r:Value}{o:Option V}{E:A0}
def Inv.big(I:Inv X zp σ H s):sysModules<s.heap.objs.size:=Nat.lt_trans @2 ((I.mod.glob.keeps I.bk).lt)
def wm(Z:A.units+1<cLine)(I:Inv X zp σ H s)(g:rZ H a y (some v))(V:RelV y u)(h:∀J M,Inv X zp σ H M->RelV v J->Q J M):
  wpAny @5 A (getItem (.ref a) u) Q E s:=by
 obtain⟨U,k,e,O,l⟩:=g
 .subst O
  obtain⟨z,Y,W,K,N⟩:=lD I.hok e;obtain⟨J,R,L⟩:=RelO.some_of (v:=v) (o:=valueAt W k) (by rw[l];erw[K.val k]);erw[wpAny_getItem_of (lA V) N.mapOf R (h J _ (I.tok _) L)]
def Mr(U:A.units+1<cLine)(I:Inv X zp σ H s)(g:rZ H a y o)(R:RelV y u)(h:∀K,Inv X zp σ H K->Q (.bool o.isSome) K):
  wpAny @5 A (compareOp .In u (.ref a)) Q E s:=by
 obtain⟨O,k,e,M,l⟩:=g
 .subst M
  obtain⟨z,N,V,J,L⟩:=lD I.hok e;refine wpAny_in_of (lA R) N L.mapOf ?_;rw[<-(J.val k).isSome_eq,<-l];erw[h _ (I.tok _)]
def Cu(U:A.units+1<cLine)(I:Inv X zp σ H s)(g:rZ H a y o)(R:RelV y u)(h:∀K,Inv X zp σ H K->Q (.bool (!o.isSome)) K):
  wpAny @5 A (compareOp .NotIn u (.ref a)) Q E s:=by
 obtain⟨O,k,e,M,l⟩:=g
 .subst M
  obtain⟨z,N,V,J,L⟩:=lD I.hok e;refine wpAny_notIn_of (lA R) N L.mapOf ?_;rw[<-(J.val k).isSome_eq,<-l];erw[h _ (I.tok _)]
def Gp{H'}{h'}{vs}(z:kvs.length<=sizeLine)(L:(a==sysModules)=false)(J:KV kvs vs)(K:h'.DictOf (aD P w) a vs):
  ObjOk P w H' h' a (.dK kvs):=(z,L,vs,J,K)
end
section
variable {a:Addr}{k:Key}{E:A0}
end
section
variable {i value:Expr}{tpos:Pos}{td ty tv:TE}
end
def yk(h:Heap)(J:sysModules<h.objs.size):ObjOk P w H (h.push {cls:=.type "dict",data:=.dict #[]}) h.objs.size (.dK []):=
 (Nat.zero_le _,bn0 (Ne.symm (nn0 J)),[],.nil,Heap.DictOf.new h)
def Gq:TE:=λa H Q=>∀p,H p=none->Q (.ref p) (upd H p (.dK []))
def pP:PE X (.Dict [] [] pos) Gq:=λJ s K H Q I h=>
 wpAny_Dict_empty (.ref _,_,I.laid (λa a q=>ps0 _ q) (nr0 _) (yk _ I.big),rfl,h _ (I.hok.fresh (nr0 _)))
noncomputable def eh(kvs more:List (Key×V)):List (Key×V):=more.foldl (λJ K=>putK J K.1 K.2) kvs
def KV.merge:∀{more:List (Key×V)}{J:List (Key×Value)}{kvs:List (Key×V)}{vs},KV more J->KV kvs vs->KV (eh kvs more) (merged vs J):=by
 intro more J kvs vs r
 induction r generalizing kvs vs with
 |nil=>intro q;erw[q]
 |@cons p q L M h t ih=>
  intro K;have e:KV (putK kvs p.1 p.2) (stored vs q.1 q.2):=by
   have:=K.put p.1 h.2
   rwa [<-h.1]
  erw[ih e]
theorem fA:∀(more kvs:List (Key×V)),(eh kvs more).length<=kvs.length+more.length
 |[],kvs=>by show kvs.length<=kvs.length+0;lia
 |p::r,kvs=>by
  have J:=fA r (putK kvs p.1 p.2);have K:=pN kvs p.1 p.2;show (eh _ r).length<=_
  grind
structure M1(X:Cx)(o:Expr)(m:Str)(apos:Pos)(e:Expr)(cpos:Pos):Prop where
 base:attributeBase o m X.env (eval o X.env)=eval o X.env
 few:((backTo cpos (starEach [e] X.env)).all (λx=>!x.1)&&(backToKw cpos (keywordEach [] X.env)).all (λx=>x.1.isSome)
  &&decide (([e]:A3).length+([]:List Keyword).length+(if ([]:List Keyword).isEmpty then 0 else 1)<30))=true
 line:(apos.endLine==cpos.line)=true
 trees:backTo cpos (starEach [e] X.env)=[(false,eval e X.env)]
def IsD(H:Hp)(a:Addr):Prop:=(∃J,Rd H a (.dK J))
def Gr{a:Addr}(I:Inv X zp σ H s)(d:IsD H a):
  s.TypeIs (.ref a) "dict"/\(∀b,Value.ref a=.ref b->∃J,s.heap.get? b=some J/\J.dict=none)/\(a==sysModules)=false:=by
 obtain⟨O,e⟩:=d
 .obtain⟨_,N,R,_,K⟩:=lD I.hok e
  refine(K.typeIs,λb q=>?_,N);cases q;obtain⟨J,_,_,L,M,_⟩:=K;exact(J,L,M.2.1)
section
variable {a:Addr}{y d:V}{r:Value}{o:Option V}{E:A0}
def Gs(V:A.units+1<cLine)(I:Inv X zp σ H s)(g:rZ H a y o)(U:RelV y u)(h:∀M L,Inv X zp σ H L->RelV (o.getD .non) M->Q M L):
  wpAny @5 A (call (.builtin "dict.get") [.ref a,u]) Q E s:=by
 obtain⟨R,k,e,N,l⟩:=g
 .subst N
  obtain⟨z,O,W,J,K⟩:=lD I.hok e;refine call_meetsIn PySem.F.slot_dict_get K.typeIs PySem.F.entry_dict_get (PySem.F.args_dict_get_2 _ _) (meets_dict_get (aD X.prog X.w) a (lA U) O) (_,K.mapOf,h _ _ (I.tok _) ?_);rw[l];exact (J.val k).getD rfl
end
def Gu(M N:TE):TE:=λL H Q=>M L H λx J=>∃a,x=.ref a/\IsD J a/\N L J λy K=>∃o,rZ K a y o/\Q (o.getD .non) K
section
variable {f:Expr}{cpos:Pos}{td ty tx:TE}
def ym(Y:X.A.units+1<cLine)(W:PE X o td)(V:PE X e ty)(m:M1 X o "get" apos e cpos):PE X (.Call (.Attribute o "get" apos) [e] [] cpos) (Gu td ty):=by
 intro J s M H Q I h;refine wpAny_Call_method m.base m.few m.line PySem.F.plainAttrs_dict PySem.F.slot_dict_get PySem.F.type_dict_get (thn (W J s M H _ I h) ?_);rintro u C ⟨x,N,L,D,a,ex,d,Z⟩;subst ex;obtain rfl:u=Value.ref a:=D;obtain⟨S,P,_⟩:=Gr L d;refine(S,P,?_);rw[m.trees];refine Calls.callWith_builtin rfl (Calls.evalArgs_plain (Calls.spliced_cons (thn (V J C M N _ L Z) λG j ⟨y,O,R,B,E,g,T⟩=>Calls.spliced_nil ?_)));erw[Gs Y R g B λq z U K=>(_,O,U,K,T)]
end
section
variable {a:Addr}{E:A0}
end
section
variable {a:Addr}{y:V}{E:A0}
end
section
variable {Y:Type}[DecidableEq Y]
end
end L2
namespace L2.Z
open PySem PySem.Spec PyProof.Rows L2 L2.C SI
inductive Das (K:Fg)(G H:Hp):List Bool->List D->List V->Prop
 |nil {fl:List Bool}:Das K G H fl [] []
 |cons {fl:List Bool}{d:D}{v:V}{ds:List D}{vs:List V}:(fl.headD false=false->Dp K G d v)->Dr K G H d v->Das K G H fl.tail ds vs->Das K G H fl (d::ds) (v::vs)
theorem Das.dps{G H}:∀{ds:List D}{vs},Das K G H [] ds vs->Dps K G ds vs
 |_,_,.nil=>.nil
 |_,_,.cons J _ r=>.cons (J rfl) (Das.dps r)
theorem Das.length{G H}{vs}(h:Das K G H fl ds vs):ds.length=vs.length:=by
 induction h<;>simp_all
def tEv(ν:NK)(K:Fg)(Y:List Sl)(d:D):TE:=λO H Q=>∃M N G,EnvD ν K M N G H O Y/\∀v J L,Ext G H J L->Dp K J d v->Q v L
def tEr(ν:NK)(K:Fg)(Y:List Sl)(d:D):TE:=λO H Q=>∃M N G,EnvD ν K M N G H O Y/\∀v L J,Ext G H L J->Dr K L J d v->Q v J
def tEt(ν:NK)(K:Fg)(Y:List Sl)(b:Bool):TT:=λO H Q=>∃M N G,EnvD ν K M N G H O Y/\∀L J,Ext G H L J->Q b J
def tEa(ν:NK)(K:Fg)(Y:List Sl)(fl:List Bool)(ds:List D):TA:=λR H Q=>∃N O G,EnvD ν K N O G H R Y/\∀M L J,Ext G H L J->Das K L J fl ds M->Q M J
def tEn(ν:NK)(K:Fg)(Y:List Sl)(d:D):TE:=λO H Q=>∃M N G,EnvD ν K M N G H O Y/\∀p J L,Ext G H J L->J p=.none->H p=.none->OwnAt K J L d p->Q (.ref p) L
def Ev(X:Cx)(Y:List Sl)(e:Expr)(d:D):Prop:=PE X e (tEv X.nk X.K Y d)
def Er(X:Cx)(Y:List Sl)(e:Expr)(d:D):Prop:=PE X e (tEr X.nk X.K Y d)
def Et(X:Cx)(Y:List Sl)(e:Expr)(b:Bool):Prop:=PT X e (tEt X.nk X.K Y b)
def Ew(X:Cx)(Y:List Sl)(e:Expr)(b:Bool):Prop:=PW X e (tEt X.nk X.K Y b)
def Ea(X:Cx)(Y:List Sl)(fl:List Bool)(es:A3)(ds:List D):Prop:=PA X es (tEa X.nk X.K Y fl ds)
def En(X:Cx)(Y:List Sl)(e:Expr)(d:D):Prop:=PE X e (tEn X.nk X.K Y d)
theorem OwnAt.show{G H G' H'}{p}(e:Ext G H G' H')(g:G' p=.none)(M:H p=.none)(o:OwnAt K G' H' d p):∃L,Ext G H L H'/\Dp K L d (.ref p):=by
 obtain⟨R,J⟩:=o.some;refine(upd G' p R,e.show M J g,?_);obtain⟨U,V,rfl,N,O⟩:=o;rw[N]at J;cases J;exact .list aa (O.mono (aG g))
def En.ev(h:En X Y e d):Ev X Y e d:=by rintro J s N H Q I ⟨K,M,G,E,k⟩;exact h _ s N H Q I (K,M,G,E,λp O L e g V o=>let ⟨R,U,r⟩:=o.show e g V;k _ R L U r)theorem Ev.er {e:Expr} (h:Ev X Y e d):Er X Y e d:=by rintro J s N H Q I ⟨K,M,G,E,k⟩;erw[h J s N H Q I (K,M,G,E,λv O L e r=>k v O L e (.of r))]
def Ew.et{b}(h:Ew X Y e b):Et X Y e b:=PW.pt h
def yn{i j pos}:Ev X Y (.Constant (.int i) j pos) (.int i):=by rintro J s K H Q I ⟨L,M,G,E,k⟩;erw[Fu J s K H Q I (k _ G H (.refl E.sub) (.int i))]
def JI{b j pos}:Ev X Y (.Constant (.bool b) j pos) (.bool b):=by rintro J s M H Q I ⟨K,L,G,E,k⟩;exact (have h:=(k _ G H (.refl E.sub) (.bool b));Constant_bool (.bl b,H,I,rfl,h))
def Gv{j pos}:Ev X Y (.Constant .none j pos) .none:=by rintro J s M H Q I ⟨K,L,G,E,k⟩;exact (have h:=(k _ G H (.refl E.sub) .none);Constant_none (.non,H,I,rfl,h))
def Gw{x j pos}(h:PyData.strOk x=true):Ev X Y (.Constant (.str x) j pos) (.str x):=by rintro J s K H Q I ⟨L,M,G,E,k⟩;erw[Fw J s K H Q I (k _ G H (.refl E.sub) (.str x h))]
def yq(i:Nat){x}{pos}(h:(Y[i]?).bind (aF .read)=some d)(O:X.N[i]?=some x)(U:Vis X.env.scope x)(R:(x==("__debug__":Str))=false)(J:(x==("__classdict__":Str))=false):Er X Y (.Name x pos) d:=by
 rintro K s V H Q I ⟨W,Z,G,E,k⟩
 obtain⟨sl,L,M⟩:=bx0 h;obtain⟨v,e,r⟩:=E.read L M;erw[fF O U R J _ s V H Q I (v,e,k v G H (.refl E.sub) r)]
def starEach_cons{es}{env}(h:isStar e=false):starEach (e::es) env=(false,eval e env)::starEach es env:=by cases e<;>first|rfl|cases h
def ir :Ea X Y fl [] []:=by rintro K J s L H Q I ⟨M,N,G,E,k⟩;erw[pa_nil K J s L H Q I (k [] G H (.refl E.sub) .nil)]
def cC{es}(Z:Ev X Y e d)(T:Ea X Y fl.tail es ds)(hs:isStar e=false):Ea X Y fl (e::es) (d::ds):=
 by rintro L J s D H Q I ⟨M,N,G,E,k⟩;exact pa_cons Z T (starEach_cons hs) L J s D H Q I (M,N,G,E,λv U B O R=>
  (M,N,U,E.step O,λC V W K F=>k _ V W (O.trans K) (.cons (λa=>R.mono K.gg) (.of (R.mono K.gg)) F)))
def pQ{es}(V:Er X Y e d)(C:fl.headD false=true)(W:Ea X Y fl.tail es ds)(hs:isStar e=false):Ea X Y fl (e::es) (d::ds):=
 by rintro Z N s D H Q I ⟨J,K,G,E,k⟩;erw[pa_cons V W (starEach_cons hs) _ _ s D H Q I (J,K,G,E,λv O B L T=>(J,K,O,E.step L,λS R U M F=>k _ R U (L.trans M) (.cons (λc=>by simp_all) (T.ext M) F)))]
abbrev R2r(K:Fg)(r:R2)(d1 d2 d:D):Prop:=∀(x y:V)(G H:Hp)(Q:VK),Same G H->Dr K G H d1 x->Dr K G H d2 y->(∀v J L,Ext G H J L->Dp K J d v->Q v L)->r x y H Q
abbrev R2n(K:Fg)(r:R2)(d1 d2 d:D):Prop:=∀(x y:V)(G H:Hp)(Q:VK),Same G H->Dr K G H d1 x->Dr K G H d2 y->(∀p J L,Ext G H J L->J p=.none->H p=.none->OwnAt K J L d p->Q (.ref p) L)->r x y H Q
def ev_op{op}{r}(B:OpR X (binaryOp op) r)(F:Er X Y a d1)(D:Er X Y b d2)(h:R2r X.K r d1 d2 d):Ev X Y (.BinOp a op b pos) d:=
 λO s A H Q I ⟨L,M,G,E,k⟩=>xJ B F D _ s A H Q I (L,M,G,E,λx U j N C=>(L,M,U,E.step N,λy V Z J S=>
  h x y V Z Q J.gh (C.ext J) S λv R W T P=>k v R W (N.trans (J.trans T)) P))
def en_op{op}{r}(S:OpR X (binaryOp op) r)(B:Er X Y a d1)(C:Er X Y b d2)(h:R2n X.K r d1 d2 d):En X Y (.BinOp a op b pos) d:=
 by rintro J s z H Q I ⟨N,O,G,E,k⟩;exact xJ S B C J s z H Q I (N,O,G,E,λx U q M P=>(N,O,U,E.step M,λy V Z L A=>
  h x y V Z Q L.gh (P.ext L) A λp R W T F D j=>k p R W (M.trans (L.trans T)) F (M.hh.free (L.hh.free D)) j))
def pR{r}(B:IxR X r)(F:Er X Y a d1)(D:Ev X Y b d2)(h:R2r X.K r d1 d2 d)(hs:isSlice b=false):Ev X Y (.Subscript a b pos) d:=
 by rintro O s A H Q I ⟨L,M,G,E,k⟩;exact pB B F D (by cases b<;>first|exact λc c=>rfl|cases hs) _ s A H Q I ⟨L,M,G,E,λx U j N C=>(L,M,U,E.step N,λy V Z J S=>h x y V Z Q J.gh (C.ext J) (.of S) λv R W T P=>k v R W (N.trans (J.trans T)) P)⟩
def lF{g}{i j}(J:∀G,Dp K G d (g i j)):R2r K (rI0 g) (.int i) (.int j) d:=λx y G H Q s L M k=>(i,j,L.int,M.int,k _ G H (.refl s) (J G))
def r2_I{C}{g}{i j}(J:C i j)(L:∀G,Dp K G d (g i j)):R2r K (rI C g) (.int i) (.int j) d:=λx y G H Q s M N k=>(i,j,M.int,N.int,J,k _ G H (.refl s) (L G))
def big_eq:SI.big=sizeLine:=rfl
def strOk_iff{x}:PyData.strOk x=true↔∀c∈x.cps.toList,c<0x110000:=by
 unfold PyData.strOk;rw[<-Array.all_toList,List.all_eq_true];simp
set_option tactic.hygienic true in
def mul_eq(x:Str)(j:Int):Txt.mul x j=⟨((List.replicate j.toNat x.cps.toList).flatten).toArray⟩:=by
 have K:∀(n:Nat)(J:List Nat),(List.replicate n x.cps).foldl (·++·) J.toArray=(J++(List.replicate n x.cps.toList).flatten).toArray:=by
  intro n
  induction n with
  |zero=>intro J;simp
  |succ n ih=>
   intro J;rw[List.replicate_succ,List.foldl_cons,List.replicate_succ,List.flatten_cons];have e:J.toArray++x.cps=(J++x.cps.toList).toArray:=by simp
   rw[e,ih,List.append_assoc]
 unfold Txt.mul;split
 .rename_i h
  have:j.toNat=0:=by lia
  rw[this];rfl
 .rename_i h
  split
  .rename_i h2
   rw[Bool.or_eq_true]at h2;rcases h2 with h2|h2
   .have:j.toNat=1:=by have:=eq_of_beq h2;lia
    rw[this];simp
   .have e:x.cps.toList=[]:=by
     have:x.cps.size=0:=eq_of_beq h2;erw[ez0 (by simpa using this)]
    have L:(List.replicate j.toNat x.cps.toList).flatten=[]:=by rw[e];simp
    rw[L];cases x with|mk c=>congr 1;erw[Array.toList_inj.mp (by rw[e])]
  .have:=K j.toNat []
   rw[List.nil_append]at this;rw[<-this]
mutual
noncomputable def toW:D->PySem.W.Dat
 |.none=>.none
 |.bool b=>.bool b
 |.int i=>.int i
 |.str x=>.str x
 |.tuple J=>.tuple (fK J)
 |.list J=>.list (fK J)
 |.scr _=>.none
 |.vlt ..=>.none
 |.tbl _=>.none
 |.fdc _=>.none
noncomputable def fK:List D->List PySem.W.Dat
 |[]=>[]
 |d::r=>toW d::fK r
end
theorem gf{p}{q}:∀{ds:List D},(∀d∈ds,q d=true->p (toW d)=true)->ds.all q=true->(fK ds).all p=true
 |[],_,_=>rfl
 |d::r,h,a=>by
  rw[List.all_cons,be0]at a;show (p _&&(fK r).all p)=true;rw[h d ms0 a.1,gf (λe J=>h e (mc0 _ J)) a.2];rfl
def nL:∀(n m:Nat)(a b:D),okS n a=true->okS m b=true->toW a=toW b->a=b:=by
 intro n
 induction n with
 |zero=>
  intro m a b N L e;cases a with
  |none=>cases b<;>first|rfl|(cases e;done)|(cases m<;>cases L)
  |int i=>cases b<;>first|(cases e;rfl)|(cases e;done)
  |str x=>cases b<;>first|(cases e;rfl)|(cases e;done)
  |_=>cases N
 |succ n ih=>
  intro m a b N L e;have M:∀(m:Nat)(K J:List D),K.all (okS n)=true->J.all (okS m)=true->fK K=fK J->K=J:=by
   intro m K
   induction K with
   |nil=>intro J _ _ e;cases J with
    |nil=>rfl
    |cons=>cases e
   |cons d r U=>
    intro J O R e;cases J with
    |nil=>cases e
    |cons f q=>
     rw[List.all_cons,be0]at O R;have V:=e;injection V with Y Z
     rw[ih m d f O.1 R.1 Y,U q O.2 R.2 Z]
  cases a with
  |none=>cases b<;>first|rfl|(cases e;done)|(cases m<;>cases L)
  |int i=>cases b<;>first|(cases e;rfl)|(cases e;done)
  |str x=>cases b<;>first|(cases e;rfl)|(cases e;done)
  |tuple K=>
   cases b with
   |tuple J=>
    cases m with
    |zero=>cases L
    |succ m=>rw[M m K J N L (PySem.W.Dat.tuple.inj e)]
   |_=>cases e
  |list K=>
   cases b with
   |list J=>
    cases m with
    |zero=>cases L
    |succ m=>rw[M m K J N L (PySem.W.Dat.list.inj e)]
   |_=>cases e
  |_=>cases N
def Dps.mem(h:Dps K G ds vs)(J:d∈ds):∃v,Dp K G d v:=by
 obtain⟨k,e⟩:=List.getElem?_of_mem J;obtain⟨v,_,r⟩:=h.get e;exact(v,r)
def ug:∀(n:Nat)(d:D)(v:V),Dp K G d v->okS n d=true->PySem.W.kqdOk n (toW d)=true:=by
 intro n
 induction n with
 |zero=>
  intro d v h o;cases h with
  |none=>rfl
  |int i=>rfl
  |str x M=>exact M
  |_=>cases o
 |succ n ih=>
  intro d v h o;have J:∀{L:List D}{N:List V},Dps K G L N->L.all _=true->(fK L).all _=true:=λ{L N} r z=>
   gf (λe O R=>let ⟨u,q⟩:=r.mem O;ih e u q R) z
  cases h with
  |none=>rfl
  |int i=>rfl
  |str x M=>exact M
  |tuple _ r=>exact J r o
  |list _ r=>exact J r o
  |_=>cases o
def nM{H}(s:Same G H){v:V}(h:Dr K G H d v)(o:okS 20 d=true):PySem.W.kqdOk 20 (toW d)=true:=by
 cases h with
 |of h=>exact ug 20 d v h o
 |list _ r=>exact gf (λe J L=>let ⟨u,q⟩:=r.mem J;ug 19 e u q L) o
 |_=>rfl
def iu(I:Inv X zp σ H s)(Z:Same G H){n}(ih:∀(d:D)(v:V)(u:Value),Dp X.K G d v->RelV v u->okS n d=true->∃J,Reads s.heap u (PySem.W.kqdP (toW d)) J):
  ∀{vs:List V}{us:A2}{ds:List D},Vals vs us->Dps X.K G ds vs->ds.all (okS n)=true->∃J,ReadsAll s.heap us (PySem.W.kqdPs (fK ds)) J:=by
 intro vs us ds r
 induction r generalizing ds with
 |nil=>intro q _;cases q;exact(_,ReadsAll.nil)
 |cons U _ L=>
  intro q z;cases q with
  |cons O R=>
   rw[List.all_cons,be0]at z;obtain⟨J,M⟩:=ih _ _ _ O U z.1;obtain⟨Y,N⟩:=L R z.2;exact(_,ReadsAll.cons M N)
def pS(I:Inv X zp σ H s)(J:Same G H):∀(n:Nat)(d:D)(v:V)(u:Value),Dp X.K G d v->RelV v u->okS n d=true->∃L,Reads s.heap u (PySem.W.kqdP (toW d)) L:=by
 intro n
 induction n with
 |zero=>
  intro d v u h r o;cases h with
  |none=>cases r;exact(_,Reads.none)
  |int i=>obtain⟨t,rfl⟩:=r;exact(_,Reads.int i t)
  |str x Y=>obtain⟨t,rfl⟩:=r;exact(_,Reads.str x t)
  |_=>cases o
 |succ n ih=>
  intro d v u h r o;cases h with
  |none=>cases r;exact(_,Reads.none)
  |int i=>obtain⟨t,rfl⟩:=r;exact(_,Reads.int i t)
  |str x Y=>obtain⟨t,rfl⟩:=r;exact(_,Reads.str x t)
  |tuple q p=>
   cases r;obtain⟨R,U,⟨Z,M,N,m,O⟩,_⟩:=I.tuple (SqT.of (J _ _ q));obtain⟨L,w⟩:=iu I J ih U p o;exact(_,Reads.tuple M N O (by omega))
  |list q p=>
   cases r;obtain⟨R,U,⟨Z,m,M,N,_,O⟩,_⟩:=I.list (SqL.of (J _ _ q));obtain⟨L,w⟩:=iu I J ih U p o;exact(_,Reads.list M N O (by omega))
  |_=>cases o
def bP(I:Inv X zp σ H s)(J:Same G H){v:V}{u}(h:Dr X.K G H d v)(r:RelV v u)(o:okS 20 d=true):∃L,Reads s.heap u (PySem.W.kqdP (toW d)) L:=by
 cases h with
 |of h=>exact pS I J 20 d v u h r o
 |list q p=>
  cases r;obtain⟨R,U,⟨Y,m,M,N,_,O⟩,_⟩:=I.list (SqL.of q);obtain⟨L,w⟩:=iu I J (pS I J 19) U p o;exact(_,Reads.list M N O (by omega))
 |_=>cases o
def cu{n}{d}(o:PySem.W.kqdOk n d=true)(J:n<=64):SeqAt.shaped (PySem.W.kqdP d)=true:=by
 have l:=PySem.W.kqd_lay n d o;unfold SeqAt.shaped;rw[l.1];erw[dt0 (nt0 l.2 J)]
def JJ(K:Fg)(neg:Bool):R2:=λx y H Q=>∃G J L,Same G H/\Dr K G H J x/\Dr K G H L y/\okS 20 J=true/\okS 20 L=true/\Q (.bl (if neg then !decide (J=L)else decide (J=L))) H
def yr{x y}(s:Same G H)(M:Dr K G H d1 x)(N:Dr K G H d2 y)(J:okS 20 d1=true)(L:okS 20 d2=true):PyData.eqv (PySem.W.kqdP (toW d1)) (PySem.W.kqdP (toW d2))=decide (d1=d2):=by
 have q:=PySem.W.kqd_eqv 20 _ _ 20 (nM s M J) (nM s N L)
 by_cases e:d1=d2
 .rw[dt0 e];erw[q.mpr (by rw[e])]
 .rw[df0 e]
  erw[bf0 λz=>e (nL 20 20 d1 d2 J L (q.mp z))]
def Gy(U:X.A.units+64<cLine):OpR X (compareOp .Eq) (JJ X.K false):=by
 intro R s C H x y v u Q I Y Z h;obtain⟨G,D,B,J,L,M,N,O,q⟩:=h;obtain⟨T,V⟩:=bP I J L Y N;obtain⟨F,W⟩:=bP I J M Z O;erw[eq_dataH V W (cu (nM J L N) @2) (cu (nM J M O) @2) U (cw I q (yr J L M N O).symm)]
def Gz(U:X.A.units+64<cLine):OpR X (compareOp .NotEq) (JJ X.K true):=by
 intro R s C H x y v u Q I Y Z h;obtain⟨G,D,B,J,L,M,N,O,q⟩:=h;obtain⟨T,V⟩:=bP I J L Y N;obtain⟨F,W⟩:=bP I J M Z O;erw[ne_dataH V W (cu (nM J L N) @2) (cu (nM J M O) @2) U (cw I q (by rw[yr J L M N O];rfl))]
def Dr.dpsT{v:V}(h:Dr K G H (.tuple ds) v):∃vs,Dps K G ds vs:=by
 cases h with
 |of h=>cases h with|tuple _ r=>exact(_,r)
def yt{x}(s:Same G H)(M:Dr K G H d1 x)(J:okS 20 d1=true):∀{ds:List D}{vs:List V},Dps K G ds vs->ds.all (okS 19)=true->((PySem.W.kqdPs (fK ds)).any λy=>PyData.eqv y (PySem.W.kqdP (toW d1)))=ds.any λd=>decide (d=d1):=by
 intro ds
 induction ds with
 |nil=>intros;rfl
 |cons d r ih=>
  intro vs q o;cases q with
  |cons q N=>
   rw[List.all_cons,be0]at o;have e:=PySem.W.kqd_eqv 19 _ _ 20 (ug 19 d _ q o.1) (nM s M J);have L:PyData.eqv (PySem.W.kqdP (toW d)) (PySem.W.kqdP (toW d1))=decide (d=d1):=by
    by_cases z:d=d1
    .rw[dt0 z];erw[e.mpr (by rw[z])]
    .rw[df0 z];erw[bf0 λy=>z (nL 19 20 d d1 o.1 J (e.mp y))]
   show (PyData.eqv _ _||_)=(decide _||_);rw[L,<-ih N o.2]
def gi{G}(r:Dps K G ds vs)(o:ds.all (okS 19)=true):PyData.canLayAll0 (PySem.W.kqdPs (fK ds))=true/\PyData.depthAll (PySem.W.kqdPs (fK ds))<=20:=by
 have l:=PySem.W.kqd_lay 20 (.list _) (gf (λe J L=>let ⟨u,q⟩:=r.mem J;ug 19 e u q L) o);rw[PySem.W.kqdP]at l;simp only[PyData.canLay0,PyData.depth]at l
 grind
def JK(K:Fg)(neg:Bool):R2:=λx y H Q=>∃G d J L,Same G H/\Dr K G H d x/\Dps K G J L/\((Dr K G H (.list J) y)\/Dr K G H (.tuple J) y)/\okS 20 d=true/\J.all (okS 19)=true/\Q (.bl (if neg then !J.any (λe=>decide (e=d))else J.any λe=>decide (e=d))) H
def GA(B:X.A.units+64<cLine):OpR X (compareOp .In) (JK X.K false):=by
 intro U s S H x y v u Q I T Y h;obtain⟨G,d,D,C,J,M,r,h2,N,L,q⟩:=h;obtain⟨F,V⟩:=bP I J M T N;have l:=gi r L;have R:=PySem.W.kqd_lay 20 _ (nM J M N);rcases h2 with h2|h2
 .obtain⟨Z,O⟩:=bP I J h2 Y L
  erw[SeqAt.in_list_reads O V l.1 R.1 @1 (cw I q (yt J M N r L).symm)]
 .obtain⟨Z,O⟩:=bP I J h2 Y L
  erw[SeqAt.in_tuple_reads O V l.1 R.1 @1 (cw I q (yt J M N r L).symm)]
def wo(B:X.A.units+64<cLine):OpR X (compareOp .NotIn) (JK X.K true):=by
 intro U s S H x y v u Q I T Y h;obtain⟨G,d,D,C,J,M,r,h2,N,L,q⟩:=h;obtain⟨F,V⟩:=bP I J M T N;have l:=gi r L;have R:=PySem.W.kqd_lay 20 _ (nM J M N);rcases h2 with h2|h2
 .obtain⟨Z,O⟩:=bP I J h2 Y L
  erw[SeqAt.notIn_list_reads O V l.1 R.1 @1 (cw I q (by rw[yt J M N r L];rfl))]
 .obtain⟨Z,O⟩:=bP I J h2 Y L
  erw[SeqAt.notIn_tuple_reads O V l.1 R.1 @1 (cw I q (by rw[yt J M N r L];rfl))]
def GB(M:X.A.units+1<cLine):OpR X (compareOp .In) (λx y H Q=>∃a kvs k,y=.ref a/\x=kV k/\Rd H a (.dK kvs)/\Q (.bl (eg kvs k).isSome) H):=by
 intro J s U H x y v u Q I N O h;obtain⟨a,kvs,k,rfl,rfl,L,q⟩:=h;cases O;erw[Mr M I (kvs,k,L,rfl,rfl) N λR K=>(.bl _,H,K,rfl,q)]
theorem Dks.look{G}{k:Key}:∀{ds:List (Key×D)}{vs:List (Key×V)},Dks K G ds vs->(SI.look ds k=.none/\eg vs k=.none)\/∃d v,SI.look ds k=some d/\eg vs k=some v/\Dp K G d v:=by
 intro ds
 induction ds with
 |nil=>intro vs h;cases h;exact .inl (rfl,rfl)
 |cons _ _ ih=>
  intro vs h;cases h with
  |@cons l _ _ _ _ h r=>
   by_cases c:l=k
   .right
    refine(_,_,?_,jK c,h);show (if l=k then _ else _)=_;rw[if_pos c]
   .rw[jL c]
    show ((if l=k then _ else _)=_/\_)\/∃d v,(if l=k then _ else _)=_/\_;rw[if_neg c];erw[ih r]
def cW{v:V}{k:Key}(h:Dr K G H d v)(e:pI d=some k):v=kV k:=by
 cases d with
 |int i=>cases e;erw[h.int]
 |str x=>cases e;erw[h.str.1]
 |_=>cases e
def wt:OpR X (compareOp .LtE) (λx y H Q=>∃i j,x=.str i/\y=.str j/\Q (.bl (!decide (j.cps.toList<i.cps.toList))) H):=by
 intro J s N H x y v u Q I K L h;obtain⟨i,j,rfl,rfl,q⟩:=h;obtain⟨t,rfl⟩:=K;obtain⟨M,rfl⟩:=L;erw[PySem.P.le_str (cw I q rfl)]
set_option tactic.hygienic true in
def sd{op}{o}{t}(C:X.A.units+64<cLine)(U:rW op=some o)(h:dA o d1 d2=some t):∃r,OpR X (compareOp op) r/\R2r X.K r d1 d2 (.bool t):=by
 have T:X.A.units+1<cLine:=by lia
 have M:∀t,eqD d1 d2=some t->(∃r,OpR X (compareOp .Eq) r/\R2r X.K r d1 d2 (.bool t))/\∃r,OpR X (compareOp .NotEq) r/\R2r X.K r d1 d2 (.bool (!t)):=by
  clear h;intro t h;unfold eqD at h;split at h
  .rename_i c
   rw[be0]at c;cases h;exact((_,Gy C,λx y G H Q s J L k=>(G,d1,d2,s,J,L,c.1,c.2,k _ G H (.refl s) (.bool _))),(_,Gz C,λx y G H Q s J L k=>(G,d1,d2,s,J,L,c.1,c.2,k _ G H (.refl s) (.bool _))))
  .cases h
 have N:∀t,inD d1 d2=some t->(∃r,OpR X (compareOp .In) r/\R2r X.K r d1 d2 (.bool t))/\∃r,OpR X (compareOp .NotIn) r/\R2r X.K r d1 d2 (.bool (!t)):=by
  clear h M;intro t h;unfold inD at h;cases d2 with
  |str y=>
   cases d1 with
   |str x=>
    cases h;refine((_,vR,λu v G H Q s J L k=>(x,y,J.str.1,L.str.1,k _ G H (.refl s) (.bool _))),(_,nA,λu v G H Q s J L k=>(x,y,J.str.1,L.str.1,k _ G H (.refl s) (.bool _))))
   |_=>cases h
  |tuple E=>
   dsimp only at h;split at h
   .rename_i c
    rw[be0]at c;cases h;exact((_,GA C,λu v G H Q s J L k=>let ⟨W,r⟩:=L.dpsT;(G,d1,E,W,s,J,r,.inr L,c.1,c.2,k _ G H (.refl s) (.bool _))),(_,wo C,λu v G H Q s J L k=>let ⟨W,r⟩:=L.dpsT;(G,d1,E,W,s,J,r,.inr L,c.1,c.2,k _ G H (.refl s) (.bool _))))
   .cases h
  |fdc R=>
   obtain⟨O,g,m⟩:=mx0 h;subst m;refine((_,GB T,λu v G H Q s J L k=>?_),(_,(show OpR X (compareOp .NotIn) (λx y H Q=>∃a R k,y=.ref a/\x=kV k/\Rd H a (.dK R)/\Q (.bl (!(eg R k).isSome)) H) by
     intro f s σ H x y v u Q I n ry h;obtain⟨a,R,k,rfl,rfl,l,q⟩:=h;cases ry;erw[Cu T I (R,k,l,rfl,rfl) n λs' w=>(.bl _,H,w,rfl,q)]),λu v G H Q s J L k=>?_))
   .obtain⟨a,p,W,rfl,Z,S⟩:=L.fdc s
    refine(a,W,O,rfl,cW J g,.inr (_,Z),?_);have e:(eg W O).isSome=(look R O).isSome:=by
     rcases S.look (k:=O)with⟨F,B⟩|⟨d,v,F,B,_⟩<;>rw[F,B]<;>rfl
    rw[e];erw[k _ G H (.refl s) (.bool _)]
   .obtain⟨a,p,W,rfl,Z,S⟩:=L.fdc s
    refine(a,W,O,rfl,cW J g,.inr (_,Z),?_);have e:(eg W O).isSome=(look R O).isSome:=by
     rcases S.look (k:=O)with⟨F,B⟩|⟨d,v,F,B,_⟩<;>rw[F,B]<;>rfl
    rw[e];erw[k _ G H (.refl s) (.bool _)]
  |_=>cases h
 cases op with
 |Lt=>
  cases U;clear M N;cases d1 with
  |int i=>cases d2 with
   |int j=>cases h;exact(_,Jd,lF λb=>.bool _)
   |_=>cases h
  |str x=>cases d2 with
   |str y=>cases h;exact(_,vQ,λu v G H Q s J L k=>(x,y,J.str.1,L.str.1,k _ G H (.refl s) (.bool _)))
   |_=>cases h
  |_=>cases h
 |LtE=>
  cases U;clear M N;cases d1 with
  |int i=>cases d2 with
   |int j=>cases h;exact(_,Je,lF λb=>.bool _)
   |_=>cases h
  |str x=>cases d2 with
   |str y=>cases h;exact(_,wt,λu v G H Q s J L k=>(x,y,J.str.1,L.str.1,k _ G H (.refl s) (.bool _)))
   |_=>cases h
  |_=>cases h
 |Gt=>
  cases U;clear M N;cases d1 with
  |int i=>cases d2 with
   |int j=>cases h;exact(_,(BK λb b b b b b b q=>gt_int q),lF λb=>.bool _)
   |_=>cases h
  |_=>cases h
 |GtE=>
  cases U;clear M N;cases d1 with
  |int i=>cases d2 with
   |int j=>cases h;exact(_,(BK λb b b b b b b q=>ge_int q),lF λb=>.bool _)
   |_=>cases h
  |_=>cases h
 |Eq=>cases U;rw[Gf]at h;exact (M t h).1
 |NotEq=>
  cases U;rw[Gg]at h;obtain⟨P,Z,rfl⟩:=mx0 h;exact (M P Z).2
 |In=>cases U;rw[Gh]at h;exact (N t h).1
 |NotIn=>
  cases U;rw[wj]at h;obtain⟨P,Z,rfl⟩:=mx0 h;exact (N P Z).2
 |Is=>
  cases U;have Y:(if d2=.none then some (decide (d1=.none))else .none)=some t:=by clear M N;cases d1<;>exact h
  split at Y
  .rename_i c
   subst c;cases Y;refine(_,FM,λx y G H Q s J L k=>(L.none,?_));have e:decide (x=V.non)=decide (d1=D.none):=by
    by_cases c:d1=.none
    .subst c;rw[J.none];simp
    .rw[df0 c]
     refine df0 λz=>?_
     subst z;cases J with|of J=>cases J;erw[c rfl]
   rw[e];erw[k _ G H (.refl s) (.bool _)]
  .cases Y
 |IsNot=>
  cases U;have Y:(if d2=.none then some (!decide (d1=.none))else .none)=some t:=by clear M N;cases d1<;>exact h
  split at Y
  .rename_i c
   subst c;cases Y;refine(_,BL,λx y G H Q s J L k=>(L.none,?_));have e:decide (x=V.non)=decide (d1=D.none):=by
    by_cases c:d1=.none
    .subst c;rw[J.none];simp
    .rw[df0 c]
     refine df0 λz=>?_
     subst z;cases J with|of J=>cases J;erw[c rfl]
   rw[e];erw[k _ G H (.refl s) (.bool _)]
  .cases Y
def jM{op}{b}(h:isSet b=false):behindInMarks op b=false:=by cases b<;>first|rfl|cases h
section
def yu:OpR X (binaryOp .Mult) (λx y H Q=>∃z n,x=.str z/\y=.int n/\MulOk z n/\Q (.str (Txt.mul z n)) H):=by
 intro J s N H x y v u Q I K L h;obtain⟨z,n,rfl,rfl,ok,q⟩:=h;obtain⟨t,rfl⟩:=K;obtain⟨M,rfl⟩:=L;erw[SB.mul ok λM k=>(.str _,H,I.tok k,(_,rfl),q)]
set_option tactic.hygienic true
def yv{op}{o}(V:cOp op=some o)(h:opD o d1 d2=some d)(L:Er X Y a d1)(M:Er X Y b d2):Ev X Y (.BinOp a op b pos) d/\(cA d=true->En X Y (.BinOp a op b pos) d):=by
 have new:En X Y (.BinOp a op b pos) d->Ev X Y (.BinOp a op b pos) d/\(cA d=true->En X Y (.BinOp a op b pos) d):=λq=>(q.ev,λf=>q)
 have J:cA d=false->Ev X Y (.BinOp a op b pos) d->Ev X Y (.BinOp a op b pos) d/\(cA d=true->En X Y (.BinOp a op b pos) d):=λz q=>(q,λc=>by rw[z]at c;cases c)
 cases op with
 |Add=>
  cases V;cases d1 with
  |int i=>cases d2 with
   |int j=>cases h;erw[J rfl (ev_op FJ L M (lF λf=>.int _))]
   |_=>cases h
  |str x=>cases d2 with
   |str y=>
    rw[Cd]at h;split at h
    .rename_i c;cases h;rw[big_eq]at c;exact J rfl (ev_op op_add_str L M ((have h:=c;λu v G H Q s R U k=>by
      obtain⟨rfl,Z⟩:=R.str;obtain⟨rfl,B⟩:=U.str;exact(x,y,rfl,rfl,h,k _ G H (.refl s) (.str _ ((by
        have e:(x++y).cps=x.cps++y.cps:=rfl;unfold PyData.strOk at Z B ⊢;rw[e,Array.all_append,Z,B];rfl)))))))
    .cases h
   |_=>cases h
  |list D=>cases d2 with
   |list P=>
    rw[Cf]at h;split at h
    .rename_i c;cases h;rw[big_eq]at c;exact new (en_op op_cat L M ((have h:=c;λx y G H Q s R U k=>by
      obtain⟨a,F,rfl,N,W⟩:=R.lst s;obtain⟨b,S,rfl,K,C⟩:=U.lst s;exact(a,b,F,S,rfl,rfl,N,K,by rwa [<-W.length,<-C.length],λp O=>k p G _ (.hid s O) (s.free O) O (_,_,rfl,aa,W.append C)))))
    .cases h
   |_=>cases h
  |_=>cases h
 |Sub=>
  cases V;cases d1 with
  |int i=>cases d2 with
   |int j=>cases h;erw[J rfl (ev_op FK L M (lF λf=>.int _))]
   |_=>cases h
  |_=>cases h
 |Mult=>
  cases V;cases d1 with
  |int i=>cases d2 with
   |int j=>
    rw[ue]at h;split at h
    .rename_i c;cases h;exact J rfl (ev_op op_mul L M (r2_I ((by
      have h:=c;unfold SI.rQ at h;rw[Bool.or_eq_true,be0,be0]at h;rcases h with⟨N,K⟩|⟨N,K⟩
      .exact .inl (od0 N,od0 K)
      .exact .inr (od0 N,od0 K))) λf=>.int _))
    .cases h
   |_=>cases h
  |str x=>cases d2 with
   |int j=>
    rw[Cg]at h;split at h
    .rename_i c
     cases h;refine J rfl (ev_op yu L M λu v G H Q s R U k=>?_);obtain⟨rfl,Z⟩:=R.str;refine(x,j,rfl,U.int,(by
       have N:=c.2.1;have K:=c.2.2;have I:=c.1;refine(?_,λT f=>?_,λT f=>?_)
       .rw[df0 @4,df0 @4];rfl
       .intro E
        have:(1000:Int)<=(2 ^ 63-1) / j:=by
         rw[Int.le_ediv_iff_mul_le @4]
         grind
        grind
       .have A:x.length*j.toNat<=1000*1000:=Nat.mul_le_mul K @6
        erw[df0 (by rw[sizeLine_eq];grind)]),?_)
     rw[mul_eq];exact k _ G H (.refl s) (.str _ ((by
       have h:=Z;rw[strOk_iff]at h ⊢
       simp_all)))
    .cases h
   |_=>cases h
  |list D=>cases d2 with
   |int j=>
    rw[nJ]at h;split at h
    .rename_i c
     cases h;unfold pG at c;rw[be0,be0]at c;exact new (en_op FU L M ((have N:=(od0 c.1.1);have K:=(od0 c.1.2);have h:D.length*j.toNat<=sizeLine:=(by rw[<-big_eq];erw[od0 c.2]);λx y G H Q s R U k=>by
       obtain⟨a,F,rfl,T,W⟩:=R.lst s;exact(a,j,F,rfl,U.int,T,N,K,by rwa [<-W.length],λp O=>k p G _ (.hid s O) (s.free O) O (_,_,rfl,aa,W.rep _)))))
    .cases h
   |_=>cases h
  |_=>cases h
 |Mod=>
  cases V;cases d1 with
  |int i=>cases d2 with
   |int j=>
    rw[Cj]at h;split at h
    .rename_i c;cases h;erw[J rfl (ev_op op_mod L M (r2_I c λf=>.int _))]
    .cases h
   |_=>cases h
  |_=>cases h
 |FloorDiv=>
  cases V;cases d1 with
  |int i=>cases d2 with
   |int j=>
    rw[Ck]at h;split at h
    .rename_i c;cases h;erw[J rfl (ev_op op_fdiv L M (r2_I c λf=>.int _))]
    .cases h
   |_=>cases h
  |_=>cases h
 |_=>cases V
def yw{i}(R:Ev X Y a (.int i)):Ev X Y (.UnaryOp .USub a pos) (.int (-i)):=λJ s V H Q I ⟨K,M,G,E,k⟩=>
 Jb FL R _ s V H Q I (K,M,G,E,λv L N O U=>by
  cases U;exact(i,rfl,k _ L N O (.int _)))
def Cv(U:X.A.units+1<cLine):IxR X (λx y H Q=>∃p kvs k v,x=.ref p/\y=kV k/\Rd H p (.dK kvs)/\eg kvs k=some v/\Q v H):=by
 intro value slice K s D H x y v u Q I V W h R;obtain⟨p,kvs,k,z,rfl,rfl,O,N,q⟩:=h;cases V;have g:rZ H p (kV k) (some z):=by rw[<-N];exact(kvs,k,O,rfl,rfl)
 exact tail_any ((by
   obtain⟨kvs,k,e,_,_⟩:=g
   .obtain⟨_,_,Z,_,M⟩:=lD I.hok e
    erw[M.typeIs])) PySem.F.slot_dict_getitem.lookup (wm U I g W λT Y L J=>(z,H,L,J,q)) R
def lG{c}(h:c<0x110000):PyData.strOk ⟨#[c]⟩=true:=by
 unfold PyData.strOk;simp;erw[h]
def wu(S:X.A.units+1<cLine)(h:jC d1 d2=some d)(N:Er X Y a d1)(O:Ev X Y b d2)(hs:isSlice b=false):Ev X Y (.Subscript a b pos) d:=by
 cases d1 with
 |list D=>
  cases d2 with
  |int i=>
   refine pR fY N O (λu v G H Q s J K q=>?_) hs;obtain⟨p,W,rfl,L,r⟩:=J.lst s;obtain⟨w,e,M⟩:=r.atI h;exact(p,W,i,w,rfl,K.int,SqL.of L,e,q _ G H (.refl s) M)
  |_=>cases h
 |tuple D=>
  cases d2 with
  |int i=>
   refine pR FQ N O (λu v G H Q s J K q=>?_) hs;obtain⟨p,W,rfl,L,r⟩:=J.tup s;obtain⟨w,e,M⟩:=r.atI h;exact(p,W,i,w,rfl,K.int,SqT.of L,e,q _ G H (.refl s) M)
  |_=>cases h
 |scr T=>
  cases d2 with
  |int i=>
   refine pR fY N O (λu v G H Q s J K q=>?_) hs;obtain⟨p,rfl,L⟩:=J.scr s;obtain⟨n,e,rfl⟩:=mx0 h;have B:L2.atI (T.map V.int) i=some (.int n):=by
    rw[rY]at e;unfold L2.atI at e ⊢;rw[lm0];cases q:L2.ixN T.length i with
    |none=>rw[q]at e;cases e
    |some j=>
     rw[q]at e;show (T.map V.int)[j]?=_;rw[gm0,show T[j]?=some n from e];rfl
   exact(p,_,i,_,rfl,K.int,L,B,q _ G H (.refl s) (.int n))
  |_=>cases h
 |str x=>
  cases d2 with
  |int i=>
   rw[Cn]at h;split at h
   .rename_i F
    rw[big_eq]at F;obtain⟨k,e,rfl⟩:=mx0 h;refine pR FR N O (λu v G H Q s J K q=>?_) hs;obtain⟨rfl,o⟩:=J.str;refine(x,i,k,rfl,K.int,F,e,q _ G H (.refl s) (.str _ (lG ?_)));obtain⟨j,_,Z,_⟩:=je e;erw[strOk_iff.mp o k (mg0 Z)]
   .cases h
  |_=>cases h
 |fdc P=>
  obtain⟨R,C,Z⟩:=bx0 h;refine pR (Cv S) N O (λu v G H Q s J K q=>?_) hs;obtain⟨p,z,W,rfl,L,r⟩:=J.fdc s;rcases r.look (k:=R)with⟨U,_⟩|⟨E,w,U,I,M⟩
  .rw[Z]at U;cases U
  .rw[Z]at U;cases U
   exact(p,W,R,w,rfl,cW K C,.inr (_,L),I,q _ G H (.refl s) M)
 |_=>cases h
set_option tactic.hygienic false
def tPt(ν:NK)(K:Fg)(Y:List Sl)(o:Option Int):TO:=λO H Q=>∃M N G,EnvD ν K M N G H O Y/\∀L J,Ext G H L J->Q o J
def wx{lo hi}{l h}{ds}{p2}(F:Er X Y a (.list ds))(B:PO X lo (tPt X.nk X.K Y l))(D:PO X hi (tPt X.nk X.K Y h)):En X Y (.Subscript a (.Slice lo hi .none p2) pos) (.list (SI.cut ds l h)):=
 by rintro L s P H Q I ⟨M,N,G,E,k⟩;exact xV uc F B D L s P H Q I (M,N,G,E,λv V A O C=>(M,N,V,E.step O,λW j R=>(M,N,W,(E.step O).step R,λZ z J=>by
  obtain⟨p,S,rfl,T,r⟩:=((C.ext R).ext J).lst J.gh;have e:=O.trans (R.trans J);exact(p,S,rfl,SqL.of T,λq U=>k q Z _ (e.trans (.hid J.gh U)) (J.gh.free U) (e.hh.free U) (_,_,rfl,aa,r.cut l h)))))
def GC{K}{G H}{d}{v}{t}(s:Same G H)(h:Dr K G H d v)(J:pF d=some t):FN K v H t:=by
 cases d with
 |bool b=>rw[h.bool];cases J;rfl
 |list O=>obtain⟨a,N,rfl,L,r⟩:=h.lst s;cases J;exact .inl (N,SqL.of L,(by cases r<;>rfl))
 |scr M=>obtain⟨a,rfl,L⟩:=h.scr s;cases J;exact .inl (_,L,by cases M<;>rfl)
 |_=>cases J
def jN{t:Bool}(h:Er X Y a d)(V:pF d=some t)(U:∀J,isTrue a X.env J=(do let v ←J;standAt a.pos;holding [v] (truthy v))):Et X Y a t:=
 by rintro K s W H Q I ⟨M,O,G,E,k⟩;erw[xN h U K s W H Q I (M,O,G,E,λv N R L r=>(t,GC L.gh r V,k N R L))]
variable {t u:Bool}
def Cw{r}(h:Ev X Y a (.bool true))(q:Ev X Y (.BoolOp .And (b::r) pos) d):Ev X Y (.BoolOp .And (a::b::r) pos) d:=by
 intro M s T H Q I V;obtain⟨J,K,G,E,k⟩:=V;exact xE h q _ s T H Q I (J,K,G,E,λv N F L W=>by
  cases W;exact(_,rfl,iteT (J,K,N,E.step L,λv O R U Z=>k v O R (L.trans U) Z)))
def GD{r}(h:Ev X Y a (.bool false))(q:Ev X Y (.BoolOp .Or (b::r) pos) d):Ev X Y (.BoolOp .Or (a::b::r) pos) d:=by
 intro M s T H Q I V;obtain⟨J,K,G,E,k⟩:=V;exact Ei h q _ s T H Q I (J,K,G,E,λv N F L W=>by
  cases W;exact(_,rfl,nD (J,K,N,E.step L,λv O R U Z=>k v O R (L.trans U) Z)))
end
end L2.Z
namespace PySem
def wy:typeLookup (.type "list") ("keys":Str)=pure none:=by kernel_rfl
def onH:onTheHeap (.type "list")=false:=by kernel_rfl
def Cy:[Str.ofString "__module__",Str.ofString "__name__",Str.ofString "__qualname__",Str.ofString "__doc__",Str.ofString "__annotations__"].contains ("keys":Str)=false:=by decide +kernel
def lH:entryFor table "dict.update.loop"=some Builtin.«dict.update.loop»:=by kernel_rfl
def eQ:plainId "dict.update.loop"=true:=by decide +kernel
section
variable {E:A0}
def wz{a}{Q}{xs}{n}{sl}(U:A.handled=none)(L:s.heap.get? a=some {cls:=.type "list",data:=.seq xs n,slots:=sl})
  (h:∀h' tk,(∀b u,s.heap.get? b=some u->h'.get? b=some u)->Q none {s with heap:=h',toks:=tk}):
  wpAny @3 A (getAttr? (.ref a) ("keys":Str)) Q E s:=by
 have J:∀{O:Shared},O.heap=s.heap->O.TypeIs (.ref a) "list":=λe=>(_,by rw[e];erw[L],rfl)
 unfold getAttr? getAttrBy?;refine wb0 (m:=mkText _) (wb0 (wpAny_fresh' (wq0 ?_)));refine wb0 (wpAny_attempt ?_);unfold getAttrBy;refine wh0 ?_;refine wb0 (wpAny_typeOf (T:="list") (J rfl) ?_);refine wb0 (wpAny_of_eq F.slot_list_getattribute.lookup ?_);dsimp only;rw[onH,Bool.false_and,if_neg fx0];unfold getAttrByItsOwn;refine wb0 (wpAny_of_eq (a:=none) (by unfold hookBefore;rw[onH];rfl) ?_);refine wb0 (wpAny_attempt (wh0 ?_));unfold callGetattribute boundAndCalled;rw[Bool.false_and,if_neg fx0];refine wb0 (wpAny_of_eq (F.slot_list_getattribute.bind _) ?_)
 dsimp only;have M:=meets_getattribute_miss_list a xs n sl ("keys":Str) s.toks wy Cy (by decide +kernel);show wpAny _ _ (call (.builtin "list.__getattribute__") [.ref a,.str ("keys":Str) s.toks]) _ _ _;refine call_meets F.slot_list_getattribute (J rfl) am_entry_list_getattribute (F.args_list_getattribute_2 _ _) M ?_;refine And.intro L (And.intro U ?_);intro h' tk e N;obtain⟨t,u,K⟩:=N.there;show wpAny _ _ (getattributeRaised _ _ _ _ _ _ _) _ _ _;unfold getattributeRaised;refine wb0 (wpAny_isInstance (T:="AttributeError") (_,K,rfl) sub_AttributeError ?_);rw[if_pos rfl];refine wb0 (wpAny_of_eq (a:=none) (by unfold hookBehind;rw[onH];exact (by kernel_rfl)) ?_)
 show wpAny _ _ (do let R ←throw _;_) _ _ _;refine wb0 (wpAny_throw ?_);refine wb0 (wpAny_isInstance (T:="AttributeError") (_,K,rfl) sub_AttributeError ?_);rw[if_pos rfl];erw[wq0 (h h' tk N.keeps)]
end
section
variable {E:A0}
def bz{a b}{o u}(J:h.get? a=some o)(K:h.get? b=some u)(hc:o.cls≠u.cls):a≠b:=λe=>by grind
abbrev se(h:Heap)(v J K:Value):Prop:=∃t o n,v=.ref t/\h.get? t=some o/\o.cls=.type "tuple"/\o.data=.seq #[J,K] n
def jO{K:Type}[DecidableEq K]{knd:KeyKind prog w K}{h}{d}{kvs}(J:Heap.DictOf knd h d kvs):∃o,h.get? d=some o/\o.cls=.type "dict":=by
 obtain⟨o,O,N,L,M,_⟩:=J;exact(o,L,M.1)
def iw{K:Type}[DecidableEq K]{knd:KeyKind prog w K}{h h'}{d}{kvs}(M:Heap.DictOf knd h d kvs)(k:∀o,h.get? d=some o->h'.get? d=some o):Heap.DictOf knd h' d kvs:=by
 obtain⟨o,L,J,N,r⟩:=M;exact(o,L,J,k o N,r)
def sf{K:Type}[DecidableEq K](kvs)(k:K)(v:Value):(stored kvs k v).length<=kvs.length+1:=by
 unfold stored;split<;>simp
def wA{K:Type}[DecidableEq K]{knd:KeyKind prog w K}{l it d}{items}{ps:List (K×Value)}{R}(hh:A.handled=none)(hz:items.size=ps.length):
  ∀(m i:Nat)(kvs:List (K×Value))(s:Shared),i+m=ps.length->s.heap.IsListIter it l i->s.heap.IsList l items->(∀(j:Nat)(k:K)(v:Value),ps[j]?=some (k,v)->∃u L,items[j]?=some u/\se s.heap u L v/\knd.is k L=true)->
   Heap.DictOf knd s.heap d kvs->kvs.length+m<=sizeLine->
   (∀h' tk,Heap.DictOf knd h' d ((ps.drop i).foldl (λa p=>stored a p.1 p.2) kvs)->(∀b o,b≠it->b≠d->s.heap.get? b=some o->h'.get? b=some o)->R (.ok (.ret .none)) {s with heap:=h',toks:=tk})->
   codeAny @3 A (.builtin "dict.update.loop" ([.ref d,.ref it,rawInt i,.none],[])) R s:=by
 intro m
 induction m with
 |zero=>
  intro i kvs s hm F D f Z Y h;obtain⟨oi,U,O,_⟩:=id F;obtain⟨od,W,V⟩:=jO Z;have M:d≠it:=bz W U (by rw[V,O];decide);refine codeAny_builtin lH ?_;rw[ui0 eQ];unfold Builtin.«dict.update.loop»;dsimp only;refine wb0 (wpAny_pyNext_list_end (hh:A.in1.handled=none) F D (by rw[Array.getElem?_eq_none];simp_all) λh' eb=>?_);dsimp only;refine wb0 (m:=Builtin.Dict.addKeywords d []) (wb0 (wpAny_of_eq (a:=PUnit.unit) rfl (wq0 ?_)));refine wq0 (h h' s.toks ?_ λb o z x e=>eb b o z e);rw[List.drop_eq_nil_of_le @6]
  erw[iw Z λo e=>eb d o M e]
 |succ m ih=>
  intro i kvs s hm F D f Z Y h;obtain⟨oi,U,O,_⟩:=id F;obtain⟨od,W,V⟩:=jO Z;obtain⟨ol,el,cl,_⟩:=id D;have M:d≠it:=bz W U (by rw[V,O];decide);have X:=bz el U (by rw[cl,O];decide);have j0:=bz el W (by rw[cl,V];decide);refine codeAny_builtin lH ?_;rw[ui0 eQ];unfold Builtin.«dict.update.loop»;dsimp only;have B:i<ps.length:=by grind
  have hg:=ge0 B;obtain⟨u,L,hu,⟨t,o,n,rfl,ht,Q,r⟩,hk⟩:=f i _ _ hg;have j1:=bz ht U (by rw[Q,O];decide);refine wb0 (wpAny_pyNext_list_item F D hu λh1 q sb=>?_);have P:∀{b:Addr},b≠it->∀o,s.heap.get? b=some o->h1.get? b=some o:=λY o e=>(sb.2 _ Y).trans e
  have C:=P j1 _ ht;dsimp only;refine wb0 (wh0 (wb0 (wpAny_tryCatch ?_)));unfold Builtin.Dict.pairItems;refine wb0 (wpAny_typeOf (T:="tuple") (_,C,Q) ?_);rw[if_pos (by rfl)];refine wb0 (wpAny_seqItems C r (wq0 ?_));show wpAny _ _ (holding [L,_] (dictSet d L _)) _ _ _;refine wh0 (wpAny_dictSet_pairs hk (iw Z (P M)) (λh2 y j2=>?_) @4);have H:∀{b:Addr},b≠d->∀o,h1.get? b=some o->h2.get? b=some o:=λY o e=>(j2.2 _ Y).trans e
  refine wq0 (plainId_quiet eQ _,?_);have I:=ih (i+1) (stored kvs ps[i].1 ps[i].2) {s with heap:=h2,toks:=s.toks+1} (by lia) (q.at (H M.symm)) ((D.at (P X)).at (H j0)) (λj k v hj=>?_) y ?_ λh' tk a1 a2=>?_
  .erw[I]
  .obtain⟨u',G,c,⟨t',o',n',rfl,N,J,S⟩,g⟩:=f j k v hj
   exact(_,G,c,(t',o',n',rfl,H (bz N W (by rw[J,V];decide)) _ (P (bz N U (by rw[J,O];decide)) _ N),J,S),g)
  .have:=sf kvs ps[i].1 ps[i].2
   lia
  .refine h h' tk ?_ λb o z x e=>a2 b o z x (H x _ (P z _ e))
   rw[List.drop_eq_getElem_cons B];erw[a1]
def yx{n l}{Q}(J:s.heap.get? n=some {cls:=.type "dict",data:=.dict #[]})(h:Q (n,[.ref l]) s):wpAny @3 A (Builtin.Dict.selfAndRest "__init__" ([.ref n,.ref l],[])) Q E s:=by
 wp_walk
 erw[h]
def ja{K:Type}[DecidableEq K]{knd:KeyKind prog w K}{l}{items}{ps:List (K×Value)}{Q}{n}{sl}(D:A.handled=none)(hz:items.size=ps.length)(C:ps.length<=sizeLine)
  (G:s.heap.get? l=some {cls:=.type "list",data:=.seq items n,slots:=sl}) (I:∀(j:Nat)(k:K)(v:Value),ps[j]?=some (k,v)->∃u J,items[j]?=some u/\se s.heap u J v/\knd.is k J=true)
  (h:∀h' tk,Heap.DictOf knd h' s.heap.objs.size (ps.foldl (λa p=>stored a p.1 p.2) [])->(∀b o,s.heap.get? b=some o->h'.get? b=some o)->Q (.ref s.heap.objs.size) {s with heap:=h',toks:=tk}):
  wpAny @3 A (call (.type "dict") [.ref l]) Q E s:=by
 refine callType_codes (Q₁:=λN L=>N=.ref s.heap.objs.size/\L={s with heap:=s.heap.push {cls:=.type "dict",data:=.dict #[]}}) F.kt_called_dict (F.kt_typeCall_dict_1 _) F.entry_dict_init (kt_code_dict_new _ (rfl,rfl)) ?_
 rintro N L ⟨rfl,rfl⟩
 have Y:(s.heap.push {cls:=.type "dict",data:=.dict #[]}).get? s.heap.objs.size=some {cls:=.type "dict",data:=.dict #[]}:=pz0 _ rfl;refine((_,Y,rfl),F.args_dict_init_2 _ _,?_);have M:(s.heap.push {cls:=.type "dict",data:=.dict #[]}).get? l=some {cls:=.type "list",data:=.seq items n,slots:=sl}:=ps0 _ G;unfold Builtin.«dict.__init__»;refine wb0 (yx Y ?_);show wpAny _ _ (Builtin.Dict.updateFrom "dict.__init__" s.heap.objs.size (.ref l) [] .none) _ _ _;unfold Builtin.Dict.updateFrom;refine wb0 (wpAny_typeOf (T:="list") (_,M,rfl) ?_);rw[if_pos (by rfl)];refine wb0 (wz (D:A.in1.in1.handled=none) M λW tk O=>?_)
 rw[if_pos (show (none:Option Value).isNone=true from rfl)];refine wb0 (wpAny_rule ?_);have Z:W.IsList l items:=(_,O _ _ M,rfl,n,rfl);refine wb0 (wpAny_pyIter_list Z ?_);refine wq0 (plainId_quiet eQ _,?_);have kk:∀b o,s.heap.get? b=some o->(W.push {cls:=.type "list_iterator",data:=.fields #[.ref l,.int 0 0]}).get? b=some o:=λb o e=>ps0 _ (O _ _ (ps0 _ e))
 refine wA (knd:=knd) (l:=l) (items:=items) (ps:=ps) (show A.in1.handled=none from D) hz ps.length 0 [] _ @6 (_,pz0 _ rfl,rfl,rfl) (Z.push _) (λj k v S=>?_) (iw (Heap.DictOf.new s.heap) λo e=>ps0 _ (O _ _ e)) (by simpa using C) λh' V B a2=>?_
 .obtain⟨u,J,H,⟨t,o,m,rfl,X,R,U⟩,P⟩:=I j k v S
  exact(_,J,H,(t,o,m,rfl,kk _ _ X,R,U),P)
 .refine(rfl,h h' V B λb o e=>a2 b o (λz=>?_) (λz=>?_) (kk b o e))
  .have:=hs0 (O _ _ (ps0 (h:=s.heap) {cls:=.type "dict",data:=.dict #[]} e))
   rw[z]at this;erw[absurd this (li0 _)]
  .have:=hs0 e
   rw[z]at this;erw[absurd this (li0 _)]
end
end PySem
namespace L2.Z
open PySem PySem.Spec PyProof.Rows L2 L2.C SI
inductive PrV (H:Hp):List V->List (Key×V)->Prop
 |nil:PrV H [] []
 |cons {t:Addr}{k:Key}{v:V}{ws:List V}{ps:List (Key×V)}:H t=some (.tup [kV k,v])->PrV H ws ps->PrV H (.ref t::ws) ((k,v)::ps)
theorem PrV.length{H}{ws}{ps}(h:PrV H ws ps):ws.length=ps.length:=by
 induction h<;>simp_all
def wB{M}{ps}(h:PrV H M ps):∀{us:A2},Vals M us->HOk X.prog X.w H s.heap->∃qs:List (Key×Value),KV ps qs/\us.length=qs.length/\
  ∀(j:Nat)(k:Key)(v:Value),qs[j]?=some (k,v)->∃u J,us[j]?=some u/\se s.heap u J v/\(aD X.prog X.w).is k J=true:=by
 induction h with
 |nil=>intro us r _;cases r;exact([],.nil,rfl,λj k v e=>by simp at e)
 |@cons t k v M ps O _ ih=>
  intro us r ok;cases r with
  |@cons _ P _ B r F=>
   cases r;obtain⟨qs,V,W,Y⟩:=ih F ok;obtain⟨_,R,D,o,e,c,n,d⟩:=(ok t _ O);cases D with
   |@cons _ Q _ _ Z K=>cases K with
    |@cons _ S _ _ T L=>
     cases L;refine((k,S)::qs,.cons (rfl,T) V,by rw[lc0,lc0,W],λj U C N=>?_);cases j with
     |zero=>
      cases N;exact(_,Q,rfl,(t,o,n,rfl,e,c,d),lA Z)
     |succ j=>exact Y j U C N
def sg(J:X.calm=true):bb X (.type "dict") (λvs H Q=>∃a K ps,vs=[.ref a]/\H a=some (.lst K)/\PrV H K ps/\∀p,H p=none->Q (.ref p) (upd H p (.dK (eh [] ps)))):=by
 intro M s E H vs G Q I r h;obtain⟨a,K,ps,rfl,O,L,q⟩:=h;cases r with
 |cons r T=>
  cases T;cases r;obtain⟨U,V,n,F,S,R⟩:=I.lstM O;obtain⟨Z,W,Y,P⟩:=wB L F I.hok;refine ja (knd:=aD X.prog X.w) (ps:=Z) (I.ok.hd J) (by simpa using Y) @6 R (λj k v C=>?_) λB D N kk=>?_
  .simp_all
  .refine(.ref _,_,I.laid (t':=D) kk (nr0 _) (Gp ?_ (bn0 (Ne.symm (nn0 I.big))) (KV.merge W .nil) N),rfl,q _ I.fresh)
   have:=fA ps [];rw[<-L.length]at this;simp only[List.length_nil,Nat.zero_add]at this;erw[nt0 this U]
set_option tactic.hygienic true in
def sh{kvs}{k:Key}{v}(h:(kvs.map (·.1)).Nodup):((putK kvs k v).map (·.1)).Nodup:=by
 unfold putK;split
 .have e:(kvs.map λJ=>if J.1=k then (J.1,v)else J).map (·.1)=kvs.map (·.1):=by
   rw[List.map_map]
   apply List.map_congr_left
   intro J _;show (if J.1=k then (J.1,v)else J).1=J.1;split<;>rfl
  rw[e];erw[h]
 .rename_i c
  rw[List.map_append,mk0,List.map_nil,List.nodup_append];refine(h,by simp,λx M y L=>?_);rw[List.mem_singleton]at L;subst L;intro e;subst e;obtain⟨J,K,rfl⟩:=mm0 M;erw[c (List.any_eq_true.mpr (J,K,by simp))]
theorem Dks.put{d}{v}{J:Key}(N:Dp K G d v):∀{kvs:List (Key×D)}{vs:List (Key×V)},Dks K G kvs vs->(vs.map (·.1)).Nodup->Dks K G (SI.put kvs J d) (putK vs J v):=by
 intro kvs
 induction kvs with
 |nil=>intro vs h _;cases h;exact .cons N .nil
 |cons _ _ ih=>
  intro vs h W;cases h with
  |@cons l _ w _ L h r=>
  obtain⟨R,U⟩:=List.nodup_cons.mp W;show Dks K G (if l=J then _ else _) _
  by_cases c:l=J
  .subst c
   rw[if_pos rfl];have e:putK ((l,w)::L) l v=(l,v)::L:=by
    unfold putK;rw[if_pos @0,mk0,if_pos rfl]
    congr 1
    conv=>rhs;rw[<-List.map_id L]
    apply List.map_congr_left
    intro O M;rw[if_neg]
    .rfl
    .erw[λz=>R (z▸List.mem_map.mpr (O,M,rfl))]
   rw[e];exact .cons N r
  .rw[if_neg c]
   have e:putK ((l,w)::L) J v=(l,w)::putK L J v:=by
    unfold putK;rw[List.any_cons,df0 c,Bool.false_or];split
    .rw[mk0,if_neg c]
    .rfl
   rw[e];exact .cons h (ih r U)
def Dks.merge:∀{ps:List (Key×D)}{qs:List (Key×V)},Dks K G ps qs->∀{kvs:List (Key×D)}{vs:List (Key×V)},Dks K G kvs vs->(vs.map (·.1)).Nodup->Dks K G (putAll kvs ps) (eh vs qs):=by
 intro ps
 induction ps with
 |nil=>intro qs h _ _ r _;cases h;erw[r]
 |cons _ _ ih=>intro qs h _ _ r J;cases h with|cons h q=>exact ih q (Dks.put h r J) (sh J)
def pT{H}(s:Same G H):∀{ds:List D}{vs:List V}{ps:List (Key×D)},Dps K G ds vs->pairsOf ds=some ps->∃qs,PrV H vs qs/\Dks K G ps qs:=by
 intro ds
 induction ds with
 |nil=>intro vs ps r h;cases r;cases h;exact([],.nil,.nil)
 |cons d r ih=>
  intro vs ps Y h;cases Y with
  |cons W O=>cases W with
   |tuple R J=>cases J with
    |nil=>cases h
    |cons N J=>cases J with
     |nil=>cases N<;>cases h
     |cons U J=>cases J with
      |cons=>cases N<;>cases h
      |nil=>cases N with
       |int i=>
        obtain⟨qs,e,rfl⟩:=mx0 h;obtain⟨Z,L,M⟩:=ih O e;exact(_,.cons (k:=.inl i) (s _ _ R) L,.cons U M)
       |str x=>
        obtain⟨qs,e,rfl⟩:=mx0 h;obtain⟨Z,L,M⟩:=ih O e;exact(_,.cons (k:=.inr x) (s _ _ R) L,.cons U M)
       |_=>cases h
   |_=>cases h
section
variable {te:TE}{lo hi:Option Expr}{tl th:TO}{p2:Pos}
def wC(P:PE X e te)(E:PO X lo tl)(g:PO X hi th):PE X (.Subscript e (.Slice lo hi none p2) pos) (λL H Q=>te L H λx R=>tl L R λl U=>th L U λu V=>∃t,x=.str t/\t.length<=sizeLine/\Q (.str (Txt.slice t l u)) V):=by
 intro J s L H Q I h;refine Subscript_ (thn (P J s L H _ I h) ?_);rintro v n ⟨x,R,D,c,m⟩;refine wpAny_Slice (thn (E J n L R _ D m) ?_);rintro vl a ⟨l,U,B,f,r⟩;refine thn (g J a L U _ B r) ?_;rintro vu K ⟨u,V,C,Z,d⟩;rw[evalPart_none];refine wq0 ?_;obtain⟨t,rfl,M,q⟩:=d;obtain⟨F,rfl⟩:=c;have O:KeptH (λh=>∀b o,K.heap.get? b=some o->h.get? b=some o):=λh ob p b o e=>ps0 _ (p b o e)
 have N:∀b o,K.heap.get? b=some o->K.heap.get? b=some o:=λb o e=>e
 have fin:∀(W:Heap)(Y:Tok)(k:Nat),(∀b o,K.heap.get? b=some o->W.get? b=some o)->EP X J L Q (.str (Txt.slice t l u) Y) {K with heap:=W,toks:=k}:=λW Y k p=>(.str _,V,C.kept p,(Y,rfl),q)
 have z:ItemOn @5 X.A X.xe (.str t F) (.ref K.heap.objs.size) (EP X J L Q) {K with heap:=K.heap.push {cls:=.type "slice",data:=.fields #[vl,vu,.none]}}:=by
  cases f with
  |none=>cases Z with
   |none=>exact SBH.sliceItem_nn O N fin M
   |int j tj=>exact SBH.sliceItem_ns O N fin M
  |int i ti=>cases Z with
   |none=>exact SBH.sliceItem_sn O N fin M
   |int j tj=>exact SBH.sliceItem_ss O N fin M
 obtain⟨T,id,S,y,G⟩:=z;erw[tail_any (ops:=[.ref K.heap.objs.size,.str t F]) y S G (by with_unfolding_all rfl)]
def ED{x}{l u}(h:PyData.strOk x=true):PyData.strOk (Txt.slice x l u)=true:=by
 unfold Txt.slice;split
 .erw[h]
 .rw[strOk_iff]at h ⊢
  intro c J;obtain⟨i,_,hi⟩:=List.mem_filterMap.mp J;refine h c ?_;rw[<-Array.getElem?_toList]at hi;erw[mg0 hi]
end
def yy{vs}{J}{us}(r:Vals vs us)(e:vs=J.map V.bl):LSm.BoolsAre us J:=by
 induction r generalizing J with
 |nil=>
  cases J with
  |nil=>exact .nil
  |cons b q=>cases e
 |cons M _ ih=>
  cases J with
  |nil=>cases e
  |cons b q=>
   injection e with K L
   subst K;cases M;exact .cons b (ih L)
def yz(hc:X.calm=true):bb X (.builtin "all") (λxs H Q=>∃(p:Addr)(J:List Bool),xs=[.ref p]/\SqL X.K H p (J.map V.bl)/\Q (.bl (J.all id)) H):=by
 intro U s z H xs j Q I r h;obtain⟨p,J,rfl,Z,q⟩:=h;obtain⟨u,rfl,D⟩:=vals1 r;cases D;obtain⟨N,F,T,P⟩:=I.list Z;have L:=T.isList;have R:=yy F rfl;have M:p<s.heap.objs.size:=by obtain⟨_,e,_⟩:=L;erw[hs0 e]
 refine call_all_walk (wpAny_pyIter_list L ?_);refine(_,_,_,_,_,_,λi=>(J[i]?).getD true,rfl,Walks.list (A:=X.A.in1) (I.ok.hd hc) _ p (nn0 M) _,
  ((_,pz0 _ rfl,rfl,rfl),L.push _),λi v G C B W O=>?_,λS E Y=>?_)
 .obtain⟨b,e,rfl⟩:=R.get i v (by simpa using W)
  simp only[e]at O;erw[wpAny_truthy_bool O]
 .have e:((List.range N.toArray.size).all λi=>(J[i]?).getD true)=J.all id:=by
   rw[ls0,R.length];erw[LSm.range_all J]
  rw[e];exact(.bl _,H,I.kept (LSm.kept_iter Y),rfl,q)
def fu:bb X (.type "tuple") (λxs H Q=>∃p J,xs=[.ref p]/\SqL X.K H p J/\J.length<=sizeLine/\∀l,H l=.none->Q (.ref l) (upd H l (.tup J))):=by
 intro M s F H xs T Q I r h;obtain⟨p,J,rfl,O,R,q⟩:=h;obtain⟨u,rfl,Y⟩:=vals1 r;cases Y;obtain⟨U,N,W,_⟩:=I.list O;refine PySem.call_tuple_list W.isList (λZ V=>?_) (by rwa [ls0,<-N.length]);have L:=I.kept (t':=s.toks) V;exact(.ref _,_,L.laid (λb o e=>ps0 _ e) (nr0 _) (show ObjOk _ _ _ _ _ (.tup J)from(R,_,N,IsTup.new _ _)),rfl,q _ (L.hok.fresh (nr0 _)))
def pU{K}{G}:∀{ds:List D}{vs}{J},boolsOf ds=some J->Dps K G ds vs->vs=J.map V.bl:=by
 intro ds
 induction ds with
 |nil=>intro vs J h q;cases q;cases h;rfl
 |cons d r ih=>
  intro vs J h q;cases d with
  |bool b=>
   obtain⟨J,e,rfl⟩:=mx0 (h);cases q with
   |cons d q=>cases d;rw[ih e q];rfl
  |_=>cases h
section
variable {p:Pos}
def aL(es:A3):Prop:=∀e∈es,isStar e=false
theorem aW{env}:∀{es:A3},aL es->(backTo pos (starEach es env)).any (·.1)=false
 |[],_=>rfl
 |e::r,h=>by
  rw[starEach_cons (h e ms0)];show (false||(backTo _ _).any _)=false;rw[aW λx J=>h x (mc0 _ J)];rfl
theorem lI{env}:∀{es:A3},aL es->(backTo pos (starEach es env)).all (λx=>!x.1)=true
 |[],_=>rfl
 |e::r,h=>by
  rw[starEach_cons (h e ms0)];show (true&&(backTo _ _).all _)=true;rw[lI λx J=>h x (mc0 _ J)];rfl
noncomputable abbrev fl3:List Bool:=[true,true,true]
abbrev CRr(K:Fg)(r:List V->Hp->VK->Prop)(fl:List Bool)(ds:List D)(d:D):Prop:=∀(M:List V)(G H:Hp)(Q:VK),Same G H->Das K G H fl ds M->(∀v J L,Ext G H J L->Dp K J d v->Q v L)->r M H Q
abbrev CRn(K:Fg)(r:List V->Hp->VK->Prop)(fl:List Bool)(ds:List D)(d:D):Prop:=∀(M:List V)(G H:Hp)(Q:VK),Same G H->Das K G H fl ds M->(∀p J L,Ext G H J L->J p=.none->H p=.none->OwnAt K J L d p->Q (.ref p) L)->r M H Q
structure Blt(X:Cx)(x:Str):Prop where
 g:Gl X x
 m:X.mg x=Option.none
 n:x≠"__name__"
 d:(x==("__debug__":Str))=false
def dg{id}{r}(B:Blt X x)(hc:bb X (.builtin id) r)(T:bootBuiltins x=some (.builtin id))(Z:Ea X Y fl (e::es) ds)(hs:aL (e::es))(h:CRr X.K r fl ds d):Ev X Y (.Call (.Name x p) (e::es) [] pos) d:=
 λL s P H Q I ⟨N,U,G,E,k⟩=>cZ hc B.g B.m T Z B.n B.d (starEach_cons (hs e ms0)) (aW λy F=>hs y (mc0 _ F)) _ s P H Q I
  (N,U,G,E,λS O V J D=>h S O V Q J.gh D λv M R W C=>k v M R (J.trans W) C)
def pV{T}{r}(B:Blt X x)(hc:bb X (.type T) r)(F:bootBuiltins x=some (.type T))(Z:Ea X Y fl (e::es) ds)(hs:aL (e::es))(h:CRr X.K r fl ds d):Ev X Y (.Call (.Name x p) (e::es) [] pos) d:=
 λL s A H Q I ⟨N,U,G,E,k⟩=>cq hc B.g B.m F Z B.n B.d (starEach_cons (hs e ms0)) (aW λy D=>hs y (mc0 _ D)) _ s A H Q I
  (N,U,G,E,λP O V J C=>h P O V Q J.gh C λv M R W S=>k v M R (J.trans W) S)
def jP{T}{r}(B:Blt X x)(hc:bb X (.type T) r)(C:bootBuiltins x=some (.type T))(D:Ea X Y fl (e::es) ds)(hs:aL (e::es))(h:CRn X.K r fl ds d):En X Y (.Call (.Name x p) (e::es) [] pos) d:=
 λL s z H Q I ⟨N,U,G,E,k⟩=>cq hc B.g B.m C D B.n B.d (starEach_cons (hs e ms0)) (aW λy S=>hs y (mc0 _ S)) _ s z H Q I
  (N,U,G,E,λj O V J P=>h j O V Q J.gh P λp M R W Z F A=>k p M R (J.trans W) Z (J.hh.free F) A)
def Das.one{K}{G H}{vs}(h:Das K G H fl [d] vs):∃v,vs=[v]/\Dr K G H d v:=by
 cases h with|cons _ h r=>cases r;exact(_,rfl,h)
def Das.two{K}{G H}{vs}(h:Das K G H fl [d1,d2] vs):∃v w,vs=[v,w]/\Dr K G H d1 v/\Dr K G H d2 w:=by
 cases h with|cons _ h r=>cases r with|cons _ J r=>cases r;exact(_,_,rfl,h,J)
def wD:bootBuiltins ("max":Str)=some (.builtin "max"):=rfl
def si:bootBuiltins ("dict":Str)=some (.type "dict"):=rfl
def wF:bootBuiltins ("all":Str)=some (.builtin "all"):=rfl
def pW:bootBuiltins ("tuple":Str)=some (.type "tuple"):=rfl
set_option tactic.hygienic true in
def yA{f}(L:X.calm=true)(B:Blt X x)(K:pM x=some f)(h:biD f ds=some d)(N:Ea X Y fl3 (e::es) ds)(hs:aL (e::es)):
  Ev X Y (.Call (.Name x p) (e::es) [] pos) d:=by
 unfold pM at K;split at K
 .rename_i c
  subst c;cases K
  match ds,h with
  |[.list W],h=>
   cases h;refine dg B fV PySem.boot_len N hs λU G H Q s r k=>?_
   obtain⟨v,rfl,J⟩:=r.one;obtain⟨q,R,rfl,M,O⟩:=J.lst s;exact(_,R.length,rfl,.inl (R,SqL.of M,rfl),by rw[<-O.length];erw[k _ G H (.refl s) (.int _)])
  |[.tuple W],h=>
   cases h;refine dg B fV PySem.boot_len N hs λU G H Q s r k=>?_
   obtain⟨v,rfl,J⟩:=r.one;obtain⟨q,R,rfl,M,O⟩:=J.tup s;exact(_,R.length,rfl,.inr (R,SqT.of M,rfl),by rw[<-O.length];erw[k _ G H (.refl s) (.int _)])
  |[.scr C],h=>
   cases h;refine dg B fV PySem.boot_len N hs λU G H Q s r k=>?_
   obtain⟨v,rfl,J⟩:=r.one;obtain⟨q,rfl,M⟩:=J.scr s;exact(_,(C.map V.int).length,rfl,.inl (_,M,rfl),by rw[lm0];erw[k _ G H (.refl s) (.int _)])
  |[.str y],h=>
   rw[SI.len_str]at h;split at h
   .rename_i c
    cases h;rw[big_eq]at c;refine dg B fV PySem.boot_len N hs λU G H Q s r k=>?_
    obtain⟨v,rfl,J⟩:=r.one;exact(_,y.length,rfl,by rw[J.str.1];exact(c,rfl),k _ G H (.refl s) (.int _))
   .cases h
 split at K
 .rename_i c
  subst c;cases K
  match ds,h with
  |[.bool t],h=>
   cases h;refine pV B vT PyProof.Rows.boot_int N hs λU G H Q s r k=>?_
   obtain⟨v,rfl,J⟩:=r.one;exact .inr (t,by rw[J.bool],k _ G H (.refl s) (.int _))
 split at K
 .rename_i c
  subst c;cases K
  match ds,h with
  |[.list W],h=>
   rw[tuple_list]at h;split at h
   .rename_i c
    cases h;rw[big_eq]at c;refine pV B fu pW N hs λU G H Q s r k=>?_
    obtain⟨v,rfl,J⟩:=r.one;obtain⟨q,R,rfl,M,O⟩:=J.lst s;exact(q,R,rfl,SqL.of M,by rw[<-O.length];erw[c],λl Z=>k _ _ _ (.laid s Z) (.tuple aa (O.mono (aG (s.free Z)))))
   .cases h
 split at K
 .rename_i c
  subst c;cases K
  match ds,h with
  |[.list W],h=>
   obtain⟨T,F,rfl⟩:=mx0 (h:(boolsOf W).map _=some d);refine dg B (yz L) wF N hs λU G H Q s r k=>?_
   obtain⟨v,rfl,J⟩:=r.one;obtain⟨q,R,rfl,M,O⟩:=J.lst s;exact(q,T,rfl,by rw[<-pU F O];erw[SqL.of M],k _ G H (.refl s) (.bool _))
 split at K
 .rename_i c
  subst c;cases K
  match ds,h with
  |[.int i,.int j],h=>
   cases h;refine dg B (vS L) wD N hs λU G H Q s r k=>?_
   obtain⟨v,u,rfl,J,D⟩:=r.two;exact(i,j,by rw[J.int,D.int],k _ G H (.refl s) (.int _))
 .cases K
end
section
variable {p:Pos}
def yB:bootBuiltins ("isinstance":Str)=some (.builtin "isinstance"):=rfl
def wG{x}{T}{t}{px}(B:Blt X "isinstance")(N:Blt X x)(V:yh x=some T)(z:Er X Y a d)(hs:isStar a=false)(h:we T d=some t):Ev X Y (.Call (.Name "isinstance" p) [a,.Name x px] [] pos) (.bool t):=by
 have M:bootBuiltins x=some (.type T)/\(T="int"\/T="list"\/T="tuple"\/T="bool"):=by
  unfold yh at V
  repeat' split at V
  all_goals cases V
  all_goals subst_vars;exact(by decide +kernel,by simp)
 have w:PE X (.Name x px) (tC (.ty T)):=BF N.g N.m M.1 rfl N.n N.d;intro J s C H Q I j;obtain⟨S,A,G,E,k⟩:=j;refine cZ ((show bb X (.builtin "isinstance") (λF H Q=>∃v t r,F=[v,.ty T]/\fW X.K H v t/\PySem.W.kitOne X.K t (.type T)=some r/\Q (.bl r) H) by
   intro J s C H xs e Q I r h;obtain⟨v,t,b,rfl,Z,y,q⟩:=h;obtain⟨u,w',rfl,L,c⟩:=vals2 r;cases c;erw[vW I L Z y λo=>(.bl b,H,I.tok o,rfl,q)])) B.g B.m yB (pa_cons z (pa_cons w pa_nil rfl) (starEach_cons hs)) (by decide) (by decide) (starEach_cons hs) rfl J s C H Q I (S,A,G,E,λv P D O L=>?_)
 have:∃U,fW X.K D v U/\PySem.W.kitOne X.K U (.type T)=some t:=by
  cases d with
  |bool b=>rw[L.bool];exact(_,.bl b,by cases h;rcases M.2 with rfl|rfl|rfl|rfl<;>rfl)
  |int i=>rw[L.int];exact(_,.int i,by cases h;rcases M.2 with rfl|rfl|rfl|rfl<;>rfl)
  |tuple l=>obtain⟨a,F,rfl,R,_⟩:=L.tup O.gh;exact(_,.tup R,by cases h;rcases M.2 with rfl|rfl|rfl|rfl<;>rfl)
  |list l=>obtain⟨a,F,rfl,R,_⟩:=L.lst O.gh;exact(_,.lst R,by cases h;rcases M.2 with rfl|rfl|rfl|rfl<;>rfl)
  |_=>cases h
 obtain⟨U,Z,f⟩:=this;exact(v,U,t,rfl,Z,f,k _ P D O (.bool _))
def pX{K}{G}:∀{ds:List D}{J:A1}{vs:List V},strsOf ds=some J->Dps K G ds vs->vs=J.map V.str/\∀y∈J,PyData.strOk y=true:=by
 intro ds
 induction ds with
 |nil=>intro J vs e h;cases e;cases h;simp
 |cons d r ih=>
  intro J vs e h;cases h with
  |cons h t=>cases h with
   |str x N=>
    obtain⟨q,L,rfl⟩:=mx0 e;obtain⟨M,o⟩:=ih L t;exact(by rw[M];rfl,λz O=>(mq0 O).elim (λq=>q▸N) (o z))
   |_=>cases e
theorem pY{K}{G}:∀{J:A1},(∀y∈J,PyData.strOk y=true)->Dps K G (J.map .str) (J.map V.str)
 |[],_=>.nil
 |y::J,h=>.cons (.str y (h y ms0)) (pY λz L=>h z (mc0 _ L))
def gj:∀{J:A1}{us:A2},Vals (J.map V.str) us->StrsAre us J:=by
 intro J
 induction J with
 |nil=>intro us h;cases h;exact .nil
 |cons y J ih=>intro us h;cases h with|cons r t=>obtain⟨K,rfl⟩:=r;exact .cons y K (ih t)
def gm:∀{us:A2}{J:A1},StrsAre us J->Vals (J.map V.str) us:=by
 intro us J h
 induction h with
 |nil=>exact .nil
 |cons x t r ih=>exact .cons (t,rfl) ih
theorem join_codes(J:Str):∀(K:A1)(c:Nat),c∈(Str.join J K).cps.toList->c∈J.cps.toList\/∃y∈K,c∈y.cps.toList
 |[],c,h=>by cases h
 |[y],c,h=>.inr (y,ms0,h)
 |y::z::r,c,h=>by
  have e:(Str.join J (y::z::r)).cps.toList=y.cps.toList++J.cps.toList++(Str.join J (z::r)).cps.toList:=by
   show (y.cps++J.cps++(Str.join _ _).cps).toList=_;simp
  rw[e,List.mem_append,List.mem_append]at h;rcases h with (h|h)|h
  .exact .inr (y,ms0,h)
  .exact .inl h
  .rcases join_codes _ _ c h with q|⟨x,L,q⟩
   .exact .inl q
   .exact .inr (x,mc0 _ L,q)
def rJoin(K:Fg):V->List V->Hp->VK->Prop:=λx M H Q=>∃J a L,x=.str J/\M=[.ref a]/\SqL K H a (L.map V.str)/\(L.map (·.length)).sum+L.length*J.length<=16777216/\Q (.str (Txt.join J L)) H
def Cz:MtR X "str.join" (rJoin X.K):=by
 intro J s B H x F v T Q I W R h;obtain⟨Y,p,D,rfl,rfl,L,M,q⟩:=h;obtain⟨t,rfl⟩:=W;obtain⟨u,rfl,U⟩:=Vals.one R;cases U;obtain⟨N,V,O,_⟩:=I.list L;erw[join_list O.isList (by simpa using gj V) M λZ k=>(.str _,H,I.tok k,(_,rfl),q)]
def GE:V->List V->Hp->VK->Prop:=λx K H Q=>∃t J,x=.str t/\K=[.str J]/\(J.length==0)=false/\t.length+2<=sizeLine/\∀p,H p=none->Q (.ref p) (upd H p (.lst ((Txt.split t J).map V.str)))
def sj{prog}{w}{A}{E}{s}{x y}{t u}{Q}(L:(y.length==0)=false)(hsz:x.length+2<=sizeLine)
  (h:∀l k,l.map (·.1)=Txt.split x y->Q (.ref s.heap.objs.size) {s with heap:=s.heap.push {cls:=.type "list",data:=.seq (strValues l).toArray},toks:=k}):
  wpAny @3 A (call (.builtin "str.split") [.str x t,.str y u]) Q E s:=by
 have M:(Builtin.Str.partsBetween x (Builtin.Str.occurrences x y 0 x.length (x.length+1)) y.length).length<=sizeLine:=by
  have N:=StrLaws.occ_length_le x y 0 x.length (x.length+1);rw[length_partsBetween];lia
 cases J:(decide (x.length<y.length)||decide (Builtin.Str.strKind x<Builtin.Str.strKind y))with
 |true=>
  refine call_meets PySem.F.slot_str_split (typeIs_str _ _ _) PySem.F.entry_str_split (PySem.F.args_str_split_2 _ _) (meets_str_split_cannot_occur x y t u J) ?_;erw[h [(x,t)] s.toks (by unfold Txt.split;rw[if_pos J];rfl)]
 |false=>
  cases K:(Builtin.Str.occurrences x y 0 x.length (x.length+1)).isEmpty with
  |true=>
   refine call_meets PySem.F.slot_str_split (typeIs_str _ _ _) PySem.F.entry_str_split (PySem.F.args_str_split_2 _ _) (meets_str_split_not_found x y t u J L K) ?_;erw[h [(x,t)] s.toks (by unfold Txt.split;rw[if_neg (by rw[J];decide),if_pos K];rfl)]
  |false=>
   refine call_meets PySem.F.slot_str_split (typeIs_str _ _ _) PySem.F.entry_str_split (PySem.F.args_str_split_2 _ _) (meets_str_split_sep x y t u J L K @1 M) ?_;rw[strsFrom_eq];refine h _ _ ?_;rw[numbered_texts];unfold Txt.split;rw[if_neg (by rw[J];decide),if_neg (by rw[K];decide)]
def split_len(x y:Str):(Txt.split x y).length<=x.length+2:=by
 unfold Txt.split;split
 .simp
 .split
  .simp
  .have J:=StrLaws.occ_length_le x y 0 x.length (x.length+1)
   rw[length_partsBetween];simp_all
def pZ(x y:Str):∀p∈Txt.split x y,∀c∈p.cps.toList,c∈x.cps.toList:=by
 have L:∀i j c,c∈(Builtin.Str.strSub x i j).cps.toList->c∈x.cps.toList:=λi j c h=>by
  rw[StrLaws.strSub_toList]at h;erw[List.mem_of_mem_drop (List.mem_of_mem_take h)]
 have parts:∀(w:Nat)(J:List _)(a:Nat),∀p∈StrLaws.partsFrom x w a J,∀c∈p.cps.toList,c∈x.cps.toList:=by
  intro w J
  induction J with
  |nil=>intro a p hp c K;rw[List.mem_singleton.mp hp]at K;erw[L _ _ c K]
  |cons d r ih=>
   intro a p hp c K;rcases mq0 hp with e|hp
   .rw[e]at K;erw[L _ _ c K]
   .erw[ih _ p hp c K]
 intro p hp c K;unfold Txt.split at hp;split at hp
 .rwa [List.mem_singleton.mp hp]at K
 .split at hp
  .rwa [List.mem_singleton.mp hp]at K
  .rw[StrLaws.partsBetween_eq]at hp
   erw[parts _ _ _ p hp c K]
def qb{x y}(h:PyData.strOk x=true):∀p∈Txt.split x y,PyData.strOk p=true:=λp K=>by
 rw[strOk_iff]at h ⊢;erw[λc J=>h c (pZ x y p K c J)]
def yC:MtR X "str.split" GE:=by
 intro L s D H x F v T Q I W O h;obtain⟨t,J,rfl,rfl,N,K,q⟩:=h;obtain⟨Z,rfl⟩:=W;obtain⟨u,rfl,R⟩:=Vals.one O;obtain⟨Y,rfl⟩:=R;refine sj N K λl k e=>?_
 have U:Vals ((Txt.split t J).map V.str) (strValues l):=by rw[<-e];erw[gm (strsAre_of_values l)]
 have M:((Txt.split t J).map V.str).length<=sizeLine:=by
  rw[lm0];erw[nt0 (split_len t _) K]
 exact(.ref _,_,I.lnew U M,rfl,q _ I.fresh)
def JL:V->List V->Hp->VK->Prop:=λx J H Q=>∃t y,x=.str t/\J=[.str y]/\Q (.bl (Txt.endswith t y)) H
def CA:MtR X "str.endswith" JL:=by
 intro J s V H x U v R Q I M K h;obtain⟨t,y,rfl,rfl,q⟩:=h;obtain⟨N,rfl⟩:=M;obtain⟨u,rfl,L⟩:=Vals.one K;obtain⟨O,rfl⟩:=L;erw[call_gives PySem.F.slot_str_endswith (typeIs_str _ _ _) PySem.F.entry_str_endswith (PySem.F.args_str_endswith_2 _ _) (gives_str_endswith t y N _) (.bl _,H,I,rfl,q)]
def base_of{name}{env}(h:bu o=false):attributeBase o name env (eval o env)=eval o env:=by
 cases o with
 |Call f J M p=>cases f with
  |Name L q=>cases J with
   |nil=>cases M with
    |nil=>
     have K:(L=="super")=false:=h;unfold attributeBase
     simp_all
    |cons=>rfl
   |cons=>rfl
  |_=>rfl
 |_=>rfl
set_option tactic.hygienic true in
def yD{m}{f}(U:uf m=some f)(h:meD f d1 [d2]=some d)(n:Er X Y o d1)(i:Er X Y a d2)(hs:isStar a=false)(L:bu o=false)(K:(apos.endLine==pos.line)=true):
  Ev X Y (.Call (.Attribute o m apos) [a] [] pos) d/\(f=.split->En X Y (.Call (.Attribute o m apos) [a] [] pos) d):=by
 have W:=starEach_cons (es:=[]) (env:=X.env) hs;have V:∀pos:Pos,((backTo pos (starEach [a] X.env)).all (λx=>!x.1)&&(backToKw pos (keywordEach [] X.env)).all (λx=>x.1.isSome)
   &&decide ([a].length+([]:List Keyword).length+(if ([]:List Keyword).isEmpty then 0 else 1)<30))=true:=λpos=>by rw[W];rfl
 unfold uf at U;split at U
 .rename_i c
  subst c;cases U;have C:En X Y (.Call (.Attribute o "split" apos) [a] [] pos) d:=by
   cases d1 with
   |str x=>cases d2 with
    |str N=>
     rw[yg]at h;split at h
     .rename_i c
      cases h;rw[big_eq]at c;intro J s j H Q I B;obtain⟨O,R,G,E,k⟩:=B;refine kY PySem.F.plainAttrs_str PySem.F.slot_str_split PySem.F.type_str_split yC n (pa_cons i pa_nil W) (base_of L) (V pos) K W rfl J s j H Q I (O,R,G,E,λv T H1 M S=>?_);obtain⟨rfl,l⟩:=S.str;refine(rfl,O,R,T,E.step M,λw D u Z P=>?_);obtain⟨rfl,oy⟩:=P.str;have g:=M.trans Z;exact(x,N,rfl,rfl,c.1,c.2,λp hp=>k p D _ (g.trans (.hid g.gh hp)) (g.gh.free hp) (g.hh.free hp) (_,_,rfl,aa,pY (qb l)))
     .cases h
    |_=>cases h
   |_=>cases h
  exact(C.ev,λb=>C)
 split at U
 .rename_i c
  subst c;cases U;refine(?_,λz=>by cases z);cases d1 with
  |str N=>cases d2 with
   |list ls=>
    obtain⟨A,M,h⟩:=bx0 (h:(strsOf ls).bind _=some d);split at h
    .rename_i c
     cases h;intro J s j H Q I B;obtain⟨O,R,G,E,k⟩:=B;refine kY PySem.F.plainAttrs_str PySem.F.slot_str_join PySem.F.type_str_join Cz n (pa_cons i pa_nil W) (base_of L) (V pos) K W rfl J s j H Q I (O,R,G,E,λv T H1 M S=>?_);obtain⟨rfl,l⟩:=S.str;refine(rfl,O,R,T,E.step M,λw D u Z P=>?_);obtain⟨p,vs,rfl,t,r⟩:=P.lst Z.gh;obtain⟨rfl,oy⟩:=pX (by assumption) r;exact(N,p,A,rfl,rfl,SqL.of t,c,k _ D u (M.trans Z) (.str _ ((by
       rw[strOk_iff]at l ⊢;intro c hc;have e:Txt.join _ A=Str.join _ A:=StrLaws.glued_eq_join N A;rw[e]at hc;rcases join_codes _ A c hc with q|⟨y,t,h2⟩
       .erw[l c q]
       .erw[strOk_iff.mp (oy y t) c h2]))))
    .cases h
   |_=>cases h
  |_=>cases h
 split at U
 .rename_i c
  subst c;cases U;refine(?_,λz=>by cases z);cases d1 with
  |str x=>cases d2 with
   |str y=>
    cases h;intro J s j H Q I B;obtain⟨O,R,G,E,k⟩:=B;refine kY PySem.F.plainAttrs_str PySem.F.slot_str_endswith PySem.F.type_str_endswith CA n (pa_cons i pa_nil W) (base_of L) (V pos) K W rfl J s j H Q I (O,R,G,E,λv T H1 M S=>?_);obtain⟨rfl,_⟩:=S.str;refine(rfl,O,R,T,E.step M,λw D u Z P=>?_);obtain⟨rfl,_⟩:=P.str;exact(x,y,rfl,rfl,k _ D u (M.trans Z) (.bool _))
   |_=>cases h
  |_=>cases h
 .cases U
def Pur(K:Fg)(N:Fn):Sp:=λO H Q a=>∃M d G,N.run M=some d/\Same G H/\Das K G H N.lent M O/\∀v J L,Ext G H J L->Dp K J d v->Q v L
structure FnZ(P:Program)(w:World)(K:Fg)(mg:A6)(base:Heap)(k:Nat)(x:Str)(φ:Fn):Prop where
 ex:∃f fd ps,mg x=some (.ref f)/\PySem.W.keepIn K (.ref f)=true/\Binds K fd ps []/\FnOk P w K mg base CX0 k f fd ps (Pur K φ)
def sk{x}{k}{φ}(F:FnZ X.prog X.w X.K X.mg X.base k x φ)(P:Room k X.A)(B:Gl X x)(D:(x==("__debug__":Str))=false)(Z:Ea X Y φ.lent (e::es) ds)(h:φ.run ds=some d)(hs:aL (e::es)):
  Ev X Y (.Call (.Name x p) (e::es) [] pos) d:=by
 obtain⟨f,g,m,S,C,T,F⟩:=F.ex;intro L s q H Q I W;obtain⟨N,U,G,E,k⟩:=W;exact tY F P B S C T .nil kZ Z D (starEach_cons (hs e ms0)) (aW λy j=>hs y (mc0 _ j)) _ s q H Q I
  (N,U,G,E,λt O u J l=>(ds,d,O,h,J.gh,by simp_all,λv M R V z=>k v M R (J.trans V) z))
end
noncomputable def Its(x:Str):It:=(λi a=>i<x.cps.size,λi H v J=>J=H/\∃c,x.cps[i]?=some c/\v=.str ⟨#[c]⟩,λi a=>i=x.cps.size)
def yE{P}{w}{tg}{T}(J:Addr)(x:Str)(t:Tok)(n:["enumerate","zip","dict_itemiterator","dict_reverseitemiterator","odict_iterator","itertools.zip_longest","itertools.pairwise"].contains T=false)
  (W:∀A:Around,A.handled=none->Walks P w A J [J] [J] x.cps.size (SignAt x) (λi h=>h.IsStrIter J T x t i))
  (S:∀(A:Around)(i:Nat)(s:Shared)(Q:A0)(E:A0),s.heap.IsStrIter J T x t i->Q (.ref J) s->wpAny (model P w) A (pyIter (.ref J)) Q E s):Turn P w K tg (Its x) [J] J (λi h=>h.IsStrIter J T x t i) where
 mem:=by simp
 obj:=λi h N b M=>by
  have e:b=J:=by simpa using M
  subst e;obtain⟨o,e,c,d⟩:=N<;>simp_all
 keep:=λi h U N k=>by
  obtain⟨o,e,r⟩:=N;exact(o,k J @0 o e,r)
 item:=by
  intro X G y C j i L s g H E I V N O;subst G y C;obtain⟨Y,Z,p,F,D,B⟩:=V J @0;refine (W X.A (I.ok.hd j)).item i s _ _ O N λv U q a R kk=>?_
  obtain⟨c,u,z,rfl⟩:=a;have f:Inv X L g H {s with heap:=U,toks:=q}:=I.turned (λb o M e=>kk b o (by simpa using M) e) Y Z F D B;obtain⟨o,e,m,l⟩:=id R;exact(_,rfl,pj (s:={s with heap:=U,toks:=q}) e m l n (.str ⟨#[c]⟩,H,f,(u,rfl),(rfl,c,z,rfl),R,λb M=>(V b M).1))
 done:=by
  intro X G y C j i L s g H E I V N O;subst G y C;have O:=O;subst O;obtain⟨Y,Z,p,F,D,B⟩:=V J @0;exact (W X.A (I.ok.hd j)).done s _ _ N λU q kk=>(rfl,I.turned (λb o M e=>kk b o (by simpa using M) e) Y Z F D B)
 self:=S
def GF{l}{tl}(Z:PE X l tl):PI X tg l (λL H R=>tl L H λx M=>∃t,x=.str t/\R (Its t) M):=by
 intro K s L H R I h;refine thn (Z K s L H _ I h) ?_;rintro v J ⟨x,M,N,C,B⟩;obtain⟨a,e,q⟩:=B;subst e;obtain⟨t,rfl⟩:=C;have fin:∀(T:String)(o:Obj),["enumerate","zip","dict_itemiterator","dict_reverseitemiterator","odict_iterator","itertools.zip_longest","itertools.pairwise"].contains T=false->o={cls:=.type T,data:=.fields #[.str a t,.int 0 0]}->
   (∀A:Around,A.handled=none->Walks X.prog X.w A J.heap.objs.size [J.heap.objs.size] [J.heap.objs.size] a.cps.size (SignAt a) (λi h=>h.IsStrIter J.heap.objs.size T a t i))->
   (∀(A:Around)(i:Nat)(s:Shared)(Q:A0)(E:A0),s.heap.IsStrIter J.heap.objs.size T a t i->Q (.ref J.heap.objs.size) s->wpAny @5 A (pyIter (.ref J.heap.objs.size)) Q E s)->PIE X K L tg R (.ref J.heap.objs.size) {J with heap:=J.heap.push o}:=λT o F D W S=>by
  subst D;refine(J.heap.objs.size,[J.heap.objs.size],_,_,M,rfl,N.kept (t':=J.toks) λb o e=>ps0 _ e,yE _ a t F W S,(_,pz0 _ rfl,rfl,rfl),λb Y=>?_,q);have e:b=J.heap.objs.size:=by simpa using Y
  subst e;erw[N.fpOk (nr0 _) (N.hok.fresh (nr0 _))]
 cases V:a.cps.all (·<128)
 .erw[wpAny_pyIter_wide V (fin _ _ @2 rfl (λA O=>Walks.strWide O _ a t) λc c c c c U h=>wpAny_pyIter_striter_wide U h)]
 .erw[wpAny_pyIter_ascii V (fin _ _ @2 rfl (λA O=>Walks.strAscii O _ a t) λc c c c c U h=>wpAny_pyIter_striter_ascii U h)]
def KV.keys{Y}{ws}{vs:List (Y×Value)}(h:KV ws vs):ws.map (·.1)=vs.map (·.1):=by
 unfold KV at h
 induction h with
 |nil=>rfl
 |cons a _ ih=>rw[mk0,mk0,a.1,ih]
def Dks.keys{K}{G}:∀{ds:List (Key×D)}{vs:List (Key×V)},Dks K G ds vs->ds.map (·.1)=vs.map (·.1):=by
 intro ds
 induction ds with
 |nil=>intro vs h;cases h;rfl
 |cons _ _ ih=>intro vs h;cases h with|cons _ r=>rw[mk0,mk0,ih r]
def qc{x}(h:jD x=true):PyData.strOk x=true:=by
 rw[strOk_iff];erw[λc J=>od0 (List.all_eq_true.mp h c J)]
def lJ{x}{v}(h:iM (.inr x) v=true):∃t,v=.str x t:=by
 cases v<;>simp[iM,Value.isStrOf]at h<;>simp_all
def uh:∀{vs:A2}{ns:A1},vs.length=ns.length->(∀(j:Nat)(v:Value)(i:Str),vs[j]?=some v->ns[j]?=some i->∃t,v=.str i t)->StrsAre vs ns:=by
 intro vs
 induction vs with
 |nil=>intro ns J h;cases ns;exact .nil;cases J
 |cons v vs ih=>
  intro ns J h;cases ns with
  |nil=>cases J
  |cons i ns=>
   obtain⟨t,rfl⟩:=h 0 v i rfl rfl;exact .cons _ _ (ih (by simpa using J) λj v i a b=>h (j+1) v i (by simpa using a) (by simpa using b))
theorem cD:∀{kvs:List (Key×D)}{ss:A1},cz kvs=some ss->kvs.map (·.1)=ss.map .inr/\∀x∈ss,PyData.strOk x=true
 |[],_,h=>by cases h;exact(rfl,nofun)
 |(.inr x,_)::r,_,h=>by
  have h:(if jD x then (cz r).map (x::·)else .none)=some _:=h;split at h
  .obtain⟨L,J,rfl⟩:=mx0 h
   obtain⟨a,b⟩:=cD J;exact(by rw[mk0,mk0,a],λy K=>(mq0 K).elim (λe=>by subst e;erw[qc ‹_›]) (b y))
  .cases h
 |(.inl _,_)::_,_,h=>by cases h
def tEk(ν:NK)(K:Fg)(Y:List Sl)(d:D):TE:=λO H Q=>∃N M G,EnvD ν K N M G H O Y/\∀v J L,Ext G H J L->Dr K J M d v->Q v L
def Ek(X:Cx)(Y:List Sl)(e:Expr)(d:D):Prop:=PE X e (tEk X.nk X.K Y d)
section
variable {p:Pos}
def Ev.ek{e}(h:Ev X Y e d):Ek X Y e d:=by rintro J s O H Q I ⟨L,N,G,E,k⟩;erw[h J s O H Q I (L,N,G,E,λv K M e r=>k v K M e (.of r))]
def GG(i:Nat){x}{pos}(h:(Y[i]?).bind (aF .walk)=some d)(W:X.N[i]?=some x)(T:Vis X.env.scope x)(Z:(x==("__debug__":Str))=false)(M:(x==("__classdict__":Str))=false):Ek X Y (.Name x pos) d:=by
 rintro J s R H Q I ⟨F,U,G,E,k⟩
 obtain⟨sl,O,L⟩:=bx0 h;have:∃v,R[i]?=some (some v)/\Dr X.K G U d v:=by
  cases sl with
  |dat V=>cases L;obtain⟨v,a,b⟩:=E.dat i d O;exact(v,a,.of b)
  |lent V=>cases L;obtain⟨v,a,b⟩:=E.lent i d O;exact(v,a,b.mono2 E.ext.gg (Same.refl _))
  |_=>cases L
 obtain⟨v,e,r⟩:=this;erw[fF W T Z M J s R H Q I (v,e,k v G H (.refl E.sub) r)]
structure fC(K:Fg)(G1 Hb:Hp)(J:It)(ds:List D):Prop where
 go:∀i H',i<ds.length->Same G1 H'->Same Hb H'->J.go i H'
 yld:∀i G' H' x H2 d,ds[i]?=some d->Same G1 G'->Same G' H'->Same Hb H'->J.yld i H' x H2->∃G2,Ext G' H' G2 H2/\Dp K G2 d x
 stop:∀H',Same G1 H'->Same Hb H'->J.stop ds.length H'
def src_list{G1 Hb}{a}{vs}(M:∀J,Same G1 J->Same Hb J->SqL K J a vs)(r:Dps K G1 ds vs):fC K G1 Hb (Itl K a) ds where
 go:=λi J Z N L=>by
  have W:i<vs.length:=by rwa [<-r.length]
  exact(vs,_,M J N L,ge0 W)
 yld:=λi U J x Y b L O R V y=>by
  obtain⟨e,y⟩:=y;subst e;have:=y vs (M _ (O.trans R) V);obtain⟨v,e,d⟩:=r.get L;rw[this]at e;cases e;exact(U,.refl R,d.mono O)
 stop:=λJ N L=>(vs,M J N L,by rw[<-r.length];simp)
def src_range{K}{G1 Hb}(lo:Int)(n:Nat):fC K G1 Hb (Itr lo n) ((List.range n).map λ(k:Nat)=>.int (lo+k)) where
 go:=λi M L a a=>by rwa [lm0,lr0]at L
 yld:=λi N M x R b J U O a y=>by
  obtain⟨e,y⟩:=y;subst e y;have L:i<n:=by have:=(gi0 J).1;simp_all
  rw[gm0,List.getElem?_range L]at J;cases J;exact(N,.refl O,.int _)
 stop:=λM a a=>by show n<=_;simp
def CB{K}{G1 Hb}{x}(ok:PyData.strOk x=true):fC K G1 Hb (Its x) (x.cps.toList.map λc=>.str ⟨#[c]⟩) where
 go:=λi L R a a=>by rwa [lm0]at R
 yld:=λi N L v U b M V O a y=>by
  obtain⟨e,c,J,y⟩:=y;subst e y;rw[gm0,Array.getElem?_toList,J]at M;cases M;refine(N,.refl O,.str _ (lG ?_));rw[<-Array.getElem?_toList]at J;erw[strOk_iff.mp ok c (mg0 J)]
 stop:=λL a a=>by show _=x.cps.size;simp
def tSi(ν:NK)(K:Fg)(Y:List Sl)(U:Bool)(ds:List D):TI:=λV H R=>∃O N G,EnvD ν K O N G H V Y/\∀J M L,Ext G H M L->fC K M (if U then N else L) J ds->R J L
def Si(X:Cx)(Y:List Sl)(L:Bool)(iter:Expr)(ds:List D):Prop:=∀J,PI X J iter (tSi X.nk X.K Y L ds)
def yF{T:Bool}{ds'}{d}(h:ig d=some ds')(C:PE X iter (λF H Q=>∃W L G,EnvD X.nk X.K W L G H F Y/\∀v B O,Ext G H B O->Dr X.K B (if T then L else O) d v->Q v O)):Si X Y T iter ds':=by
 intro A J s F H R I S;obtain⟨W,L,G,E,k⟩:=S;cases d with
 |list P=>
  cases h;refine BJ C J s F H R I (W,L,G,E,λv Z M N V=>?_);have D:Same (if T then L else M) M:=by
   cases T with
   |true=>exact (E.step N).ext.hh
   |false=>exact Same.refl _
  cases V with
  |of V=>cases V with
   |list U r=>exact(_,rfl,(_,SqL.of (N.gh _ _ U)),k _ Z M N (src_list (λO g a=>SqL.of (g _ _ U)) r))
  |list U r=>exact(_,rfl,(_,SqL.of (D _ _ U)),k _ Z M N (src_list (λO a g=>SqL.of (g _ _ U)) r))
 |str x=>
  rw[items_str]at h;split at h
  .cases h
   refine GF C J s F H R I (W,L,G,E,λv Z M N V=>?_);obtain⟨rfl,ok⟩:=V.str;exact(_,rfl,k _ Z M N (CB ok))
  .cases h
 |_=>cases h
def jQ{n}(h:rOk n=true):-(2 ^ 62)<=n/\n<2 ^ 62:=by
 unfold rOk at h
 simp_all
def wH{wk}{n}{p pos}(B:Blt X "range")(V:Ev X Y a (.int n))(h:rOk n=true)(hs:isStar a=false):Si X Y wk (.Call (.Name "range" p) [a] [] pos) ((List.range n.toNat).map λ(k:Nat)=>.int k):=by
 have e:((List.range n.toNat).map λ(k:Nat)=>D.int k)=(List.range n.toNat).map λk=>.int (0+k):=by simp
 rw[e];intro F J s T H R I U;obtain⟨K,M,G,E,k⟩:=U;refine vO B.g B.m (cC (fl:=[]) V ir hs) (by rw[starEach_cons hs];rfl) _ s T H R I (K,M,G,E,λC L N O Z=>?_);obtain⟨v,rfl,W⟩:=Z.one;exact(n,by rw[W.int],(jQ h).1,(jQ h).2,k _ L N O (src_range 0 _))
end
noncomputable def Itd(lo:Int)(n:Nat):It:=(λi a=>i<n,λi H x J=>J=H/\x=.int (lo-i),λi a=>n<=i)
def lK{P}{w}{tg}(M:Addr)(lo:Int)(n:Nat):Turn P w K tg (Itd lo n) [M] M (λi h=>IsRangeIter h M (lo+(i:Nat)*(-1)) ((n:Int)-(i:Nat)) (-1)) where
 mem:=by simp
 obj:=λi h L b N=>by
  simp_all
 keep:=λi h R L k=>k M @0 _ L
 item:=by
  intro X B S D C i J s A H E I U L Q;subst B S D;obtain⟨V,Y,y,Z,T,F⟩:=U M @0;have W:=Walks.range (prog:=X.prog) (w:=X.w) (I.ok.hd C) M lo (-1) n;refine W.item i s _ _ Q L λv R G q O kk=>?_
  obtain⟨t,rfl⟩:=q;have j:Inv X J A H {s with heap:=R,toks:=G}:=I.turned (λb o N e=>kk b o (by simpa using N) e) V Y Z T F;refine(_,rfl,pj (s:={s with heap:=R,toks:=G}) (n:="range_iterator") O rfl rfl (by decide) (.int (lo-i),H,j,(t,?_),(rfl,rfl),O,λb N=>(U b N).1))
  grind
 done:=by
  intro X B S D C i J s A H E I U L Q;subst B S D;obtain⟨V,Y,y,Z,T,F⟩:=U M @0;erw[wpAny_pyNext_range_end (I.ok.hd C) L (by have:n<=i:=Q;lia) λR z=>(rfl,I.turned (t':=s.toks) (λb o N e=>z b o N e) V Y Z T F)]
 self:=λa a a a a L h=>wpAny_pyIter_rangeiter L h
section
variable {p:Pos}
def CC{zp}{H}{s}{R}{E}{lo J}{t u v}{tk}(I:Inv X zp σ H s)(N:-(2 ^ 62)<=lo)(O:lo<2 ^ 62)(U:-(2 ^ 62)<=J)(V:J<2 ^ 62)
  (q:R (Itd lo (lo-J).toNat) H):wpAny @5 X.A (pyIter (.ref s.heap.objs.size)) (PIE X zp σ tg R) E {s with heap:=s.heap.push {cls:=.type "range",data:=.fields #[.int lo t,.int J u,.int (-1) v]},toks:=tk}:=by
 refine wpAny_pyIter_range (IsRange.new ..) (PySem.W.small_down N O U V) ?_;have K:Inv X zp σ H {s with heap:=s.heap.push {cls:=.type "range",data:=.fields #[.int lo t,.int J u,.int (-1) v]},toks:=tk}:=I.kept λb o e=>ps0 _ e
 refine(_,_,_,_,H,rfl,
  K.kept λb o e=>ps0 _ e,lK _ lo _,?_,λb Y=>?_,q)
 .have L:lo+(0:Nat)*(-1)=lo:=by simp
  have M:(lo-J).toNat-(0:Nat)=Builtin.Range.rangeSize lo J (-1):=by rw[PySem.W.rangeSize_downNat];simp
  rw[L,M];erw[pz0 _ rfl]
 .have e:b=(s.heap.push {cls:=.type "range",data:=.fields #[.int lo t,.int J u,.int (-1) v]}).objs.size:=by simpa using Y
  subst e;erw[K.fpOk (nr0 _) (K.hok.fresh (nr0 _))]
def qd{G1 Hb}(lo:Int)(n:Nat):fC K G1 Hb (Itd lo n) ((List.range n).map λ(k:Nat)=>.int (lo-k)) where
 go:=λi M L a a=>by rwa [lm0,lr0]at L
 yld:=λi N M x R b J U O a y=>by
  obtain⟨e,y⟩:=y;subst e y;have L:i<n:=by have:=(gi0 J).1;simp_all
  rw[gm0,List.getElem?_range L]at J;cases J;exact(N,.refl O,.int _)
 stop:=λM a a=>by show n<=_;simp
def wI{wk}{i j}{p pos p1 p2}{k1}(B:Blt X "range")(d:Ev X Y a (.int i))(c:Ev X Y b (.int j))(W:rOk i=true)(Z:rOk j=true)(hs:isStar a=false)(L:isStar b=false):
  Si X Y wk (.Call (.Name "range" p) [a,b,.UnaryOp .USub (.Constant (.int 1) k1 p1) p2] [] pos) ((List.range (i-j).toNat).map λ(k:Nat)=>.int (i-k)):=by
 intro tg N s h H R I v;obtain⟨P,A,G,E,k⟩:=v;have l:Ea X Y [] [a,b,.UnaryOp .USub (.Constant (.int 1) k1 p1) p2] [.int i,.int j,.int (-1)]:=cC d (cC c (cC (yw yn) ir rfl) L) hs;have o:∀J,starEach [a,b,.UnaryOp .USub (.Constant (.int 1) k1 p1) p2] J=[(false,eval a J),(false,eval b J),(false,eval (.UnaryOp .USub (.Constant (.int 1) k1 p1) p2) J)]:=λJ=>by rw[starEach_cons hs,starEach_cons L];rfl
 have T:=l;refine Call_ (ld_blt I B.g B.m boot_range (PyProof.Rows.callWith_type1 (thn (T pos N s h H _ I (P,A,G,E,λQ M U V C=>((M,V,C):∃M,Ext G H M U/\Das X.K M U [] [.int i,.int j,.int (-1)] Q))) ?_) (starEach_cons hs) (aW (es:=[b,_]) (by
  intro x S;simp only[List.mem_cons,List.not_mem_nil,or_false]at S;rcases S with rfl|rfl
  .erw[L]
  .rfl))) @2 @2);rintro us s1 ⟨Q,U,z,C,F⟩
 obtain⟨M,V,F⟩:=F;obtain rfl:Q=[.int i,.int j,.int (-1)]:=by
  cases F with
  |cons _ W r=>cases r with
   |cons _ Z r=>cases r with
    |cons _ w r=>cases r;rw[W.int,Z.int,w.int]
 obtain⟨y,q⟩:=jQ W;obtain⟨u,f⟩:=jQ Z;cases C with
 |cons r O=>cases O with
  |cons n O=>cases O with
   |cons D O=>
    cases O;obtain⟨t,rfl⟩:=r;obtain⟨t',rfl⟩:=n;obtain⟨e,rfl⟩:=D;erw[call_range_3 @2 (CC z y q u f (k _ M U V (qd i (i-j).toNat))) (.inl (PyProof.noPylong_small @6))]
noncomputable def Itv(K:Fg)(a:Addr)(n:Nat):It:=
 (λi H=>i<n/\∃J,SqL K H a J/\J.length=n,λi H x L=>L=H/\∀J,SqL K H a J->J[n-1-i]?=some x,λi b=>i=n)
def yG{P}{w}{tg}(a J:Addr)(n:Nat):Turn P w K tg (Itv K a n) [J] J (λi h=>h.IsRevIter J a ((n:Int)-1-i)) where
 mem:=by simp
 obj:=λi h L b M=>by
  have e:b=J:=by simpa using M
  subst e;obtain⟨o,e,c,d⟩:=L;exact(o,e,λv z=>by rw[d]at z;cases z)
 keep:=λi h B L k=>L.at λo e=>k J @0 o e
 item:=by
  intro X Q S C G i U s σ H E I W L O;subst Q S C;obtain⟨hi,j,A,hx⟩:=O;obtain⟨t,rv,p,hz⟩:=I.list A;have R:n-1-i<j.length:=by grind
  obtain⟨u,m,r⟩:=rv.get (ge0 R);obtain⟨Y,Z,g,T,F,D⟩:=W J @0;have N:s.heap.IsRevIter J a (((n-1-i:Nat)):Int):=by rw[show (((n-1-i:Nat)):Int)=(n:Int)-1-i by grind];erw[L]
  refine PySem.wpAny_pyNext_rev_item N p.isList (x:=u) (by simpa using m) λB V sb=>?_
  have y:=I.turned (t':=s.toks) (λb o M e=>(sb.2 b M).trans e) Y Z T F D;obtain⟨o,e,c,d⟩:=id V;refine(u,rfl,pj (s:={s with heap:=B}) e c d (by decide) (j[n-1-i],H,y,r,(rfl,λys l=>by rw[I.list_inj l A];erw[ge0 R]),?_,λb M=>(W b M).1));rw[show (n:Int)-1-((i+1:Nat):Int)=(((n-1-i:Nat)):Int)-1 by grind];erw[V]
 done:=by
  intro X Q S C G i U s σ H E I W L O;subst Q S C;have O:=O;subst O;obtain⟨Y,Z,g,T,F,D⟩:=W J @0;have N:s.heap.IsRevIter J a (-1):=by rw[show (-1:Int)=(i:Int)-1-i by grind];erw[L]
  erw[PySem.wpAny_pyNext_rev_end (I.ok.hd G) N λB q=>(rfl,I.turned (t':=s.toks) (λb o M e=>q b o M e) Y Z T F D)]
 self:=λf f f f f L h=>PySem.wpAny_pyIter_revIter L h
def boot_rev:bootBuiltins ("reversed":Str)=some (.type "reversed"):=rfl
def nN{G1 Hb}{a}{vs}(R:∀J,Same G1 J->Same Hb J->SqL K J a vs)(r:Dps K G1 ds vs):fC K G1 Hb (Itv K a ds.length) ds.reverse where
 go:=λi J O U L=>(by simp_all,vs,R J U L,r.length.symm)
 yld:=λi V J x Y b L M N W y=>by
  obtain⟨e,y⟩:=y;subst e;have:=y vs (R _ (M.trans N) W);have O:=by have:=(gi0 L).1;simpa using this
  rw[List.getElem?_reverse O]at L;obtain⟨v,e,d⟩:=r.get L;rw[this]at e;cases e;exact(V,.refl N,d.mono M)
 stop:=λJ U L=>by show ds.reverse.length=ds.length;simp
def yH{l}{tl}{pos}(B:Blt X "reversed")(T:PE X l tl)(hs:isStar l=false):PI X tg (.Call (.Name "reversed" p) [l] [] pos) (λU H R=>tl U H λx J=>∃a xs,[x]=[V.ref a]/\SqL X.K J a xs/\R (Itv X.K a xs.length) J):=by
 intro N s U H R I h;refine Call_ (ld_blt I B.g B.m boot_rev (PyProof.Rows.callWith_type1 (thn ((pa_cons T pa_nil (starEach_cons hs)) pos N s U H (λY J=>∃a xs,Y=[V.ref a]/\SqL X.K J a xs/\R (Itv X.K a xs.length) J) I h) ?_) (starEach_cons hs) rfl) @2 @2);rintro G L ⟨Y,J,O,C,D⟩;obtain⟨a,xs,e,F,q⟩:=D;subst e;cases C with
 |cons r Q=>
  cases Q;cases r;obtain⟨M,S,p,P⟩:=O.list F;refine PySem.call_reversed_list p.isList ?_;have W:(L.heap.push (PySem.revObj a ((M.toArray.size:Int)-1))).IsRevIter L.heap.objs.size a ((xs.length:Int)-1-((0:Nat):Int)):=by
   refine(_,pz0 _ rfl,rfl,?_);rw[show (xs.length:Int)-1-((0:Nat):Int)=(M.toArray.size:Int)-1 by rw[ls0,S.length];simp_all];rfl
  refine PySem.wpAny_pyIter_revIter W (L.heap.objs.size,[L.heap.objs.size],_,_,J,rfl,O.kept (t':=L.toks) λb o e=>ps0 _ e,yG a _ xs.length,W,λb Z=>?_,q);have e:b=L.heap.objs.size:=by simpa using Z
  subst e;erw[O.fpOk (nr0 _) (O.hok.fresh (nr0 _))]
end
end L2.Z
namespace PySem
namespace F
def sub_ri_reversed:isSubtype (.type "range_iterator") (.type "reversed")=pure false:=rfl
end F
def eu(r:Addr)(a b c:Int)(t u v:Tok)(J:¬(!(Builtin.Range.rangeFitsLong a&&Builtin.Range.rangeFitsLong b&&Builtin.Range.rangeFitsLong c&&Builtin.Range.rangeFitsLong (-c)&&Builtin.Range.rangeFitsLong (a-c)&&Builtin.Range.rangeFitsLong (Builtin.Range.rangeSize a b c)))=true):
  Meets (Builtin.«range.__reversed__» ([.ref r],[])) (λd R s=>s.heap.get? r=some {cls:=.type "range",dict:=none,data:=.fields #[.int a t,.int b u,.int c v],slots:=#[]}/\R (.ok (.ret (Value.ref s.heap.objs.size))) {s with heap:=s.heap.push {cls:=Value.type (if (Builtin.Range.rangeFitsLong a&&Builtin.Range.rangeFitsLong b&&Builtin.Range.rangeFitsLong c&&Builtin.Range.rangeFitsLong (-c)&&Builtin.Range.rangeFitsLong (a-c)&&Builtin.Range.rangeFitsLong (Builtin.Range.rangeSize a b c))=true then "range_iterator" else "longrange_iterator"),data:=Data.fields #[rawInt (a+(Builtin.Range.rangeSize a b c-1)*c),rawInt (Builtin.Range.rangeSize a b c),rawInt (-c)]},toks:=s.toks}):=
 .of_wp λprog w A R s h=>by obtain⟨K,h⟩:=h;wp_walk;exact(_,rfl,h)
section
variable {E:A0}
def gp(n:Int):Builtin.Range.rangeSize 0 n 1=(n.toNat:Int):=by
 unfold Builtin.Range.rangeSize
 grind
noncomputable abbrev yI(n:Int):Obj:={cls:=.type "range_iterator",data:=.fields #[rawInt ((n.toNat:Int)-1),rawInt (n.toNat:Int),rawInt (-1)]}
def fk{r}{n:Int}{t u v}{Q}(J:IsRange s.heap r 0 n 1 t u v)(M:-(2 ^ 62)<=n)(N:n<2 ^ 62)
  (h:Q (.ref s.heap.objs.size) {s with heap:=s.heap.push (yI n)}):wpAny (model prog w) A (call (.builtin "range.__reversed__") [.ref r]) Q E s:=by
 have L:s.TypeIs (.ref r) "range":=(_,J,rfl);have K:(Builtin.Range.rangeFitsLong 0&&Builtin.Range.rangeFitsLong n&&Builtin.Range.rangeFitsLong 1&&Builtin.Range.rangeFitsLong (-1)&&Builtin.Range.rangeFitsLong (0-1)&&Builtin.Range.rangeFitsLong (Builtin.Range.rangeSize 0 n 1))=true:=by
  rw[gp];simp only[Builtin.Range.rangeFitsLong,be0,decide_eq_true_eq]
  grind
 refine call_meets F.slot_range_reversed L F.entry_range_reversed (F.args_range_reversed_1 _) (eu r 0 n 1 t u v (by rw[K];decide)) (J,?_);rw[K,gp];simp only[if_true];have e:(0:Int)+((n.toNat:Int)-1)*1=(n.toNat:Int)-1:=by simp_all
 rw[e];erw[h]
def fL{r}{n:Int}{t u v}{Q₁}(J:IsRange s.heap r 0 n 1 t u v)(K:-(2 ^ 62)<=n)(L:n<2 ^ 62)
  (h:Q₁ (.ref s.heap.objs.size) {s with heap:=s.heap.push (yI n)}):
  codeAny @3 A (.call (.builtin "reversed.__new__") ([.type "reversed",.ref r],[])) (wants Q₁ E) s:=by
 have M:s.TypeIs (.ref r) "range":=(_,J,rfl);refine codeAny_of_tree ?_;show wpAny _ A.in1 (do checkBuiltinCall "reversed.__new__" ([.type "reversed",.ref r],[]);again (.builtin "reversed.__new__" ([.type "reversed",.ref r],[]))) _ _ s;refine wb0 (wpAny_of_eq (F.newCall_reversed_1 _) (wq0 (plainId_quiet F.plain_reversed_new _,codeAny_builtin F.entry_reversed_new ?_)));rw[ui0 F.plain_reversed_new _];unfold Builtin.«reversed.__new__»;refine wb0 (wpAny_of_eq (newClass_reversed _) ?_)
 try dsimp only
 refine wb0 (wpAny_of_eq (a:=()) (by first|rfl|kernel_rfl) ?_);refine wb0 (wpAny_of_eq (a:=()) (by first|rfl|kernel_rfl) ?_)
 try dsimp only
 refine wb0 (wpAny_specialOf M F.slot_range_reversed.lookup ?_)
 try dsimp only
 refine wb0 (wpAny_of_eq (F.slot_range_reversed.bind _) ?_)
 try dsimp only
 first
 |rw[if_neg (fx0:¬ ((Value.builtin "range.__reversed__"==Value.none)=true))]
 |(show wpAny _ _ (if (Value.builtin "range.__reversed__"==Value.none)=true then _ else _) _ _ _;rw[if_neg (show ¬ ((Value.builtin "range.__reversed__"==Value.none)=true)from fx0)])
 refine wb0 (wpAny_rule ?_);refine wb0 (m:=runValue (.call (.builtin "range.__reversed__") ([.ref r],[]))) (fk J K L ?_:wpAny _ _ (call (.builtin "range.__reversed__") [.ref r]) _ _ _)
 first
 |exact wq0 h
 |exact wb0 (wq0 (wq0 h))
def fm{r}{n:Int}{t u v}{Q}(N:IsRange s.heap r 0 n 1 t u v)(L:-(2 ^ 62)<=n)(M:n<2 ^ 62)
  (h:Q (.ref s.heap.objs.size) {s with heap:=s.heap.push (yI n)}):wpAny (model prog w) A (call (.type "reversed") [.ref r]) Q E s:=by
 refine callType_other (Q₁:=λK J=>K=.ref _/\J={s with heap:=s.heap.push _}) (rfl) F.create_reversed (_,_,F.mro_reversed) F.made_reversed F.sub_ri_reversed (F.typeCall_reversed_1 _) (fL N L M (rfl,rfl)) ?_
 rintro K J ⟨rfl,rfl⟩
 exact((_,pz0 _ rfl,rfl),h)
end
end PySem
namespace L2.Z
open PySem PySem.Spec PyProof.Rows L2 L2.C SI
section
variable {p:Pos}
def CD{wk}{n:Int}{p p2 pos pos2}(B:Blt X "range")(C:Blt X "reversed")(w:Ev X Y a (.int n))(h:rOk n=true)(hs:isStar a=false):
  Si X Y wk (.Call (.Name "reversed" p2) [.Call (.Name "range" p) [a] [] pos] [] pos2) ((List.range n.toNat).reverse.map λ(k:Nat)=>.int k):=by
 intro c M s Q H R I y;obtain⟨S,P,G,E,k⟩:=y;obtain⟨j,z⟩:=jQ h;have f:Ea X Y [] [a] [.int n]:=cC w ir hs;refine Call_ (ld_blt I C.g C.m boot_rev (PyProof.Rows.callWith_type1 (Calls.spliced_cons ?_) rfl rfl) @2 @2);refine Call_ (ld_blt I B.g B.m boot_range (PyProof.Rows.callWith_type1 (thn (f pos M s Q H _ I (S,P,G,E,λF N O V Z=>((N,V,Z):∃N,Ext G H N O/\Das X.K N O [] [.int n] F))) ?_) (starEach_cons hs) rfl) @2 @2);rintro us J ⟨F,O,A,Z,W⟩;obtain⟨N,V,W⟩:=W;obtain rfl:F=[.int n]:=by
  cases W with
  |cons _ q r=>cases r;rw[q.int]
 cases Z with
 |cons r d=>
  cases d;obtain⟨t,rfl⟩:=r;refine call_range_1 (Calls.spliced_nil ?_);have U:Inv X M Q O {J with heap:=J.heap.push {cls:=.type "range",data:=.fields #[.int 0 J.toks,.int n t,.int 1 (J.toks+1)]},toks:=J.toks+1+1}:=A.kept λb o e=>ps0 _ e
  refine PySem.fm (r:=J.heap.objs.size) (t:=J.toks) (u:=t) (v:=J.toks+1) (pz0 _ rfl) j z ?_;refine wpAny_pyIter_rangeiter (x:=(n.toNat:Int)-1) (left:=(n.toNat:Int)) (step:=-1) (pz0 _ rfl) ?_;generalize L:({J with heap:=J.heap.push {cls:=.type "range",data:=.fields #[.int 0 J.toks,.int n t,.int 1 (J.toks+1)]},toks:=J.toks+1+1}:Shared)=T at U;refine(T.heap.objs.size,[T.heap.objs.size],_,_,O,by subst L;rfl,?_,lK _ ((n.toNat:Int)-1) n.toNat,?_,λb l=>?_,k _ N O V ((by
    have e:((List.range n.toNat).reverse.map λ(k:Nat)=>D.int k)=(List.range n.toNat).map λ(k:Nat)=>.int ((n.toNat:Int)-1-k):=by
     apply List.ext_getElem?
     intro i;rw[gm0,gm0]
     by_cases h:i<n.toNat
     .rw[List.getElem?_reverse (by simpa using h),lr0,List.getElem?_range (by omega),List.getElem?_range h]
      grind
     simp_all
    rw[e];erw[qd _ _])))
  .subst L
   erw[U.kept (t':=J.toks+1+1) λb o e=>ps0 _ e]
  .subst L
   show IsRangeIter _ _ ((n.toNat:Int)-1+((0:Nat):Int)*(-1)) ((n.toNat:Int)-((0:Nat):Int)) (-1);rw[show (n.toNat:Int)-1+((0:Nat):Int)*(-1)=(n.toNat:Int)-1 by simp_all,show (n.toNat:Int)-((0:Nat):Int)=(n.toNat:Int) by simp_all];erw[pz0 _ rfl]
  .have e:b=T.heap.objs.size:=by simpa using l
   subst e;subst L;erw[U.fpOk (nr0 _) (U.hok.fresh (nr0 _))]
end
end L2.Z
namespace PySem
abbrev cX(h:Heap)(T:Addr)(xs:A2):Prop:=h.get? T=some {cls:=.type "tuple",data:=.seq xs.toArray}
def Kp(F:A4)(h h':Heap):Prop:=∀(c:Addr)(o:Obj),c∉F->h.get? c=some o->h'.get? c=some o
def Zst(K:Value)(z TI TO:Addr)(L:List (Addr×Addr))(i:Nat)(h:Heap):Prop:=
 IsZip h z TI TO K/\cX h TI (L.map λq=>Value.ref q.1)/\(∃J:List Value,J.length=L.length/\cX h TO J)/\∀q∈L,h.IsListIter q.1 q.2 i
def aZ{a b}{h h'}{o}(K:Heap.SameBut a h h')(J:b≠a)(e:h.get? b=o):h'.get? b=o:=(K.2 b J).trans e
noncomputable abbrev nP(I:Addr->List Value)(n:Nat)(q:Addr×Addr):Value:=((I q.2)[n]?).getD .none
section
variable {E:A0}{z TI TO:Addr}{I:Addr->List Value}
abbrev JM(h:Heap)(z TI TO:Addr):Prop:=h.get? z=some {cls:=.type "zip",data:=.fields #[.ellipsis,.bool false,.bool false,.ref TI,.ref TO]}
def yJ{β}{b}{f}(nz:TO≠z)
  (step:∀(i l:Addr)(k:Nat)(ts:A2)(x:Value)(s:Shared)(P:ForInStep β->Shared->Prop),cX s.heap TO ts->ts.length<=1000->s.heap.IsListIter i l n->s.heap.IsList l (I l).toArray->(I l)[n]?=some x->TO≠i->
   (∀h',Kp [i,TO] s.heap h'->h'.objs.size=s.heap.objs.size->h'.IsListIter i l (n+1)->cX h' TO (ts.set k x)->P (.yield b) {s with heap:=h'})->wpAny (model prog w) A (f (.ref i,k) b) P E s)
  (stop:∀(i l:Addr)(k:Nat)(s:Shared)(P:ForInStep β->Shared->Prop),JM s.heap z TI TO->s.heap.IsListIter i l n->s.heap.IsList l (I l).toArray->(I l)[n]?=none->i≠z->
   (∀h' (e:Addr),Kp [z,i] s.heap h'->(∃o,h'.get? e=some o/\o.cls=.type "StopIteration")->E (.ref e) {s with heap:=h'})->wpAny (model prog w) A (f (.ref i,k) b) P E s):
  ∀(L:List (Addr×Addr))(ds N:A2)(s:Shared)(Q:β->Shared->Prop),JM s.heap z TI TO->cX s.heap TO (ds++N)->N.length=L.length->(ds++N).length<=1000->(z::TO::L.map (·.1)).Nodup->
   (∀q∈L,s.heap.IsListIter q.1 q.2 n/\s.heap.IsList q.2 (I q.2).toArray/\q.2∉z::TO::L.map (·.1))->
   ((∀q∈L,n<(I q.2).length)->∀h',Kp (TO::L.map (·.1)) s.heap h'->h'.objs.size=s.heap.objs.size->(∀q∈L,h'.IsListIter q.1 q.2 (n+1))->cX h' TO (ds++L.map (nP I n))->Q b {s with heap:=h'})->
   ((∃q∈L,(I q.2).length<=n)->∀h' (e:Addr),Kp (z::TO::L.map (·.1)) s.heap h'->(∃o,h'.get? e=some o/\o.cls=.type "StopIteration")->E (.ref e) {s with heap:=h'})->
   wpAny @3 A (forIn ((L.map λq=>Value.ref q.1).zipIdx ds.length) b f) Q E s:=by
 intro L
 induction L with
 |nil=>
  intro ds N s Q D F Y _ _ _ item _;rw[List.map_nil,List.zipIdx_nil,List.forIn_nil];have:=ez0 Y;subst this;erw[wq0 (item (λa h=>by cases h) s.heap (λa a a e=>e) rfl (λa h=>by cases h) F)]
 |cons q L ih=>
  intro ds N s Q D F Y y K u item M;obtain⟨i,l⟩:=q;obtain⟨H,j,p⟩:=u (i,l) @0;simp only[mk0,List.nodup_cons,List.mem_cons,not_or]at K p;rw[mk0,List.zipIdx_cons,List.forIn_cons];refine wb0 ?_;cases W:(I l)[n]? with
  |none=>
   exact stop i l _ s _ D H j W (λe=>K.1.2.1 e.symm) λh' e U Z=>M ((i,l),by simp,List.getElem?_eq_none_iff.mp W) h' e (λc o J=>U c o λm=>J (by simp at m ⊢;rcases m with m|m<;>simp[m])) Z
  |some x=>
   refine step i l _ _ x s _ F y H j W (λe=>K.2.1.1 e) λh' U sz B ot=>?_
   cases N with
   |nil=>cases Y
   |cons r N=>
    have kq:∀q∈L,q.1≠i/\q.1≠TO:=λq hq=>(λe=>K.2.2.1 (by rw[<-e];erw[List.mem_map_of_mem hq]),λe=>K.2.1.2 (by rw[<-e];erw[List.mem_map_of_mem hq]))
    have X:(ds++r::N).set ds.length x=(ds++[x])++N:=by simp
    have ln:ds.length+1=(ds++[x]).length:=by simp
    have T:=(gi0 W).1;dsimp only;rw[ln];refine ih (ds++[x]) N {s with heap:=h'} Q (U _ _ (by simp;exact(K.1.2.1,λe=>nz e.symm)) D) (by rw[X]at ot;erw[ot]) (by simpa using Y) (by rw[<-X];simpa using y) (by simp only[List.nodup_cons,List.mem_cons,not_or];exact((K.1.1,K.1.2.2),K.2.1.2,K.2.2.2)) (λq hq=>?_) (λg R O G C S=>?_) λ⟨q,hq,d⟩ R e O Z=>?_
    .obtain⟨v,t,V⟩:=u q (by simp[hq])
     simp only[mk0,List.mem_cons,not_or]at V ⊢;exact(v.at λo=>U _ o (by simp[kq q hq]),t.at λo=>U _ o (by simp[V]),V.1,V.2.1,V.2.2.2)
    .refine item (λq hq=>?_) R (λc o J e=>?_) (G.trans sz) (λq hq=>?_) ?_
     .rcases mq0 hq with rfl|hq
      .erw[T]
      .erw[g q hq]
     .simp only[mk0,List.mem_cons,not_or]at J
      erw[O c o (by simp only[List.mem_cons,not_or];exact(J.1,J.2.2)) (U c o (by simp[J]) e)]
     .rcases mq0 hq with rfl|hq
      .erw[B.at λo=>O _ o (by simp only[List.mem_cons,not_or];exact(λe=>K.2.1.1 e.symm,K.2.2.1))]
      .erw[C q hq]
     .rw[mk0,show nP I n (i,l)=x by simp[nP,W]]
      simpa using S
    .exact M (q,by simp[hq],d) R e (λc o J e=>by
      simp only[mk0,List.mem_cons,not_or]at J;erw[O c o (by simp only[List.mem_cons,not_or];exact(J.1,J.2.1,J.2.2.2)) (U c o (by simp[J]) e)]) Z
def kJ{T}{xs}{x}{k}{Q}(J:cX s.heap T xs)(L:xs.length<=1000)
  (h:∀h':Heap,cX h' T (xs.set k x)->Heap.SameBut T s.heap h'->Q () {s with heap:=h'}):
  wpAny @3 A (updateSeq T λx_1=>x_1.setIfInBounds k x) Q E s:=by
 have K:1000<=sizeLine:=by decide
 exact wpAny_updateSeq J rfl (h _ (hu0 _ J rfl|>.trans (by simp[Obj.mapSeq])) (Heap.SameBut.update ..)) @4 @4
def yK{L}(hh:A.handled=none)(st:Zst .none z TI TO L n s.heap)(t:L≠[])(R:L.length<=1000)(B:(z::TO::L.map (·.1)).Nodup)(nT:TI∉z::TO::L.map (·.1))
  (m:∀q∈L,s.heap.IsList q.2 (I q.2).toArray/\q.2∉z::TO::L.map (·.1))
  (item:(∀q∈L,n<(I q.2).length)->∀h',Zst (rawInt ↑s.heap.objs.size) z TI TO L (n+1) h'->cX h' s.heap.objs.size (L.map (nP I n))->Kp (z::TO::L.map (·.1)) s.heap h'->Q (.ref s.heap.objs.size) {s with heap:=h'})
  (stop:(∃q∈L,(I q.2).length<=n)->∀h' (e:Addr),Kp (z::TO::L.map (·.1)) s.heap h'->(∃o,h'.get? e=some o/\o.cls=.type "StopIteration")->E (.ref e) {s with heap:=h'}):
  wpAny @3 A (Builtin.«zip.__next__» ([.ref z],[])) (λfin s'=>∃v,fin=Fin.done (Flow.ret v)/\Q v s') E s:=by
 obtain⟨O,ht,⟨ts,Z,Y⟩,hi⟩:=st;have j1:=B;simp only[List.nodup_cons,List.mem_cons,not_or]at B nT;have nz:TO≠z:=λe=>B.1.1 e.symm
 unfold Builtin.«zip.__next__»;refine wb0 (wpAny_of_eq (a:=(.ref z,[])) rfl ?_);dsimp only;refine wb0 (wpAny_field O rfl rfl ?_);refine wb0 (wpAny_field O rfl rfl ?_);refine wb0 (wpAny_seqItems ht rfl ?_);dsimp only;rw[if_neg (by cases L with|nil=>exact absurd rfl t|cons=>simp)];refine wb0 (wb0 (wpAny_field O rfl rfl (wq0 ?_)));rw[if_pos rfl];refine wb0 (wpAny_rule ?_);refine wb0 (wpAny_field O rfl rfl ?_);refine wb0 (wpAny_setField_rec O (by decide:0<5) λh1 T C=>?_);refine wb0 ?_;have V:∀{b:Addr},b≠z->∀o,s.heap.get? b=some o->h1.get? b=some o:=λR o e=>aZ C R e
 have zq:∀q∈L,q.1≠z:=λq M e=>B.1.2 (by rw[<-e];erw[List.mem_map_of_mem M])
 refine yJ (z:=z) (TI:=TI) (TO:=TO) (n:=n) (I:=I) nz (λi l k ts x s P ot r D ls p j h=>?_) (λi l k s P O D ls p j h=>?_) L [] ts {s with heap:=h1} _ T (V nz _ Y) Z (by simpa [Z]using R) j1
  (λq M=>((hi q M).at (V (zq q M)),(m q M).1.at (V λe=>(m q M).2 (by simp[e])),(m q M).2)) (λal W H sz D ot=>?_) λex h' e H he=>stop ex h' e (λc o J q=>H c o J (V (λe=>J (by simp[e])) o q)) he
 .dsimp only
  refine wb0 (wpAny_onRaise ?_);show wpAny _ _ (do let v ←Builtin.SmallTypes.nextOf (.ref i);pure (some v)) _ _ _;refine wb0 (wpAny_nextOf_list_item D ls (by simpa using p) λW J1 sa=>wq0 ?_);have P1:=aZ sa j ot;dsimp only;refine wb0 (wpAny_seqItems P1 rfl ?_);dsimp only;refine wb0 (kJ P1 r λg O1 sc=>?_);refine wb0 (wpAny_letGo ?_);erw[wq0 (h g (λc o J e=>by simp at J;exact aZ sc J.2 (aZ sa J.1 e)) (sc.1.trans sa.1) (J1.at λo e=>aZ sc j.symm e) O1)]
 .dsimp only
  refine wb0 (wpAny_onRaise ?_);show wpAny _ _ (do let v ←Builtin.SmallTypes.nextOf (.ref i);pure (some v)) _ _ _;refine wb0 (wpAny_nextOf_list_end hh D ls (by simpa using p) λW e eb ⟨o,Y,J⟩=>?_);have K:=eb z _ j.symm O;refine wpAny_setField_rec K (by decide:0<5) λg j2 S=>h g e (λc o J e=>by simp at J;erw[aZ S J.1 (eb c o J.2 e)]) (o,aZ S (λq=>?_) Y,J)
  subst q;rw[K]at Y;cases Y;erw[absurd (show Value.type "zip"=Value.type "StopIteration" from J) @2]
 .dsimp only
  rw[List.nil_append]at ot;refine wb0 (wpAny_seqItems ot rfl ?_);dsimp only;have K:=H z _ (by simp only[List.mem_cons,not_or];erw[B.1]) T;have N:=sz.trans C.1;have u:(1000:Nat)<=sizeLine:=by decide
  refine wb0 (wpAny_newTuple ?_ (by simp;lia));dsimp only;unfold Builtin.SmallTypes.ownedTupleHandOut;dsimp only;have j0:=ps0 (h:=W) {cls:=.type "tuple",data:=.seq (L.map (nP I n)).toArray} K;refine wb0 (wb0 (wpAny_setField_rec j0 (by decide:0<5) λh8 d G=>?_));refine wpAny_setField_rec d (by decide:1<5) λf F X=>?_
  have y:∀{b:Addr},b≠z->∀o,W.get? b=some o->f.get? b=some o:=λR o e=>aZ X R (aZ G R (ps0 _ e))
  have n2:W.objs.size≠z:=λe=>by have:=hs0 K;rw[e]at this;erw[absurd this (li0 _)]
  have N:=N;rw[N]at F n2 ⊢;have U:Kp (z::TO::L.map (·.1)) s.heap f:=λc o J e=>y (λq=>J (by simp[q])) _ (H c o (λq=>J (by simp at q ⊢;rcases q with q|q<;>simp[q])) (V (λq=>J (by simp[q])) _ e))
  erw[wq0 (_,rfl,item al f (F,U _ _ (by simp only[List.mem_cons,not_or];exact nT) ht,(_,by simp,y nz _ ot),λq M=>(D q M).at λo e=>y (zq q M) o e) (aZ X n2 (aZ G n2 (by rw[<-N];exact pz0 _ rfl))) U)]
def jR{L}{Q}(U:A.handled=none)(M:Zst .none z TI TO L n s.heap)(J:L≠[])(O:L.length<=1000)(Z:(z::TO::L.map (·.1)).Nodup)(Y:TI∉z::TO::L.map (·.1))
  (V:∀q∈L,s.heap.IsList q.2 (I q.2).toArray/\q.2∉z::TO::L.map (·.1))
  (item:(∀q∈L,n<(I q.2).length)->∀h',Zst (rawInt ↑s.heap.objs.size) z TI TO L (n+1) h'->cX h' s.heap.objs.size (L.map (nP I n))->Kp (z::TO::L.map (·.1)) s.heap h'->Q (some (.ref s.heap.objs.size)) {s with heap:=h'})
  (stop:(∃q∈L,(I q.2).length<=n)->∀h',Kp (z::TO::L.map (·.1)) s.heap h'->Q none {s with heap:=h'}):wpAny (model prog w) A (pyNext (.ref z)) Q E s:=by
 have K:s.TypeIs (.ref z) _:=(_,M.1,rfl);refine wb0 (wpAny_attempt (wpAny_callSpecial?_slot K F.slot_zip_next ?_));erw[wpAny_call_entry F.slot_zip_next K F.entry_zip_next (yK U M J O Z Y V (λN h' a b c=>wq0 (item N h' a b c)) λex h' e W R=>wb0 (wpAny_isInstance R isSubtype_stop (wq0 (stop ex h' W)))) (F.args_zip_next_1 _)]
noncomputable def zL:Addr->List Addr->List (Addr×Addr)
 |_,[]=>[]
 |n,l::r=>(n,l)::zL (n+1) r
def wJ:∀(J:A4)(acc:A9)(s:Shared)(Q:Array Value->Shared->Prop),(∀l∈J,∃xs,s.heap.IsList l xs)->
  (∀h',Kp [] s.heap h'->h'.objs.size=s.heap.objs.size+J.length->(∀q∈zL s.heap.objs.size J,h'.IsListIter q.1 q.2 0)->Q (acc++((zL s.heap.objs.size J).map λq=>Value.ref q.1).toArray) {s with heap:=h'})->
  wpAny @3 A (forIn (J.map Value.ref) acc λx K=>do
   let y ←holding K.toList (pyIter x)
   pure (.yield (K.push y))) Q E s:=by
 intro J
 induction J with
 |nil=>
  intro acc s Q _ h;rw[List.map_nil,List.forIn_nil];erw[wq0 (by simpa [zL]using h s.heap (λa a a e=>e) rfl (λq m=>by cases m))]
 |cons l J ih=>
  intro acc s Q N h;obtain⟨xs,R⟩:=N l @0;rw[mk0,List.forIn_cons];refine wb0 (wb0 (wh0 (wpAny_pyIter_list R (wq0 ?_))));dsimp only;refine ih _ _ Q (λU m=>let ⟨xs,q⟩:=N U (by simp[m]);(xs,q.push _)) λh' O M L=>?_
  dsimp only at M L ⊢;rw[Heap.size_push]at M L ⊢;have:=h h' (λc o a e=>O c o @0 (ps0 _ e)) (by rw[M,lc0];lia) λq m=>by
   rcases mq0 m with rfl|m
   .exact(_,O _ _ @0 (pz0 _ rfl),rfl,rfl)
   .erw[L q m]
  rw[zL,mk0]at this
  simpa using this
theorem su:∀(n:Addr)(J:A4),(zL n J).length=J.length
 |_,[]=>rfl
 |n,_::r=>congrArg _ (su _ r)
theorem yL:∀{n:Addr}{ls},∀q∈zL n ls,n<=q.1/\q.1<n+ls.length/\q.2∈ls
 |_,[],_,m=>by cases m
 |n,l::r,q,m=>by
  rcases mq0 m with rfl|m
  .simp
  .obtain⟨a,b,c⟩:=yL q m
   exact(Nat.le_of_succ_le a,by rwa [Nat.add_assoc,Nat.add_comm 1]at b,.tail _ c)
theorem EE:∀(n:Addr)(K:A4),((zL n K).map (·.1)).Nodup
 |_,[]=>.nil
 |n,_::r=>List.nodup_cons.mpr (λm=>by
  obtain⟨q,J,e⟩:=mm0 m;erw[absurd (yL q J).1 @6],EE _ r)
def nQ{o}{n}(J:o.isFreed=false)(e:h.objs.size=n):(h.push o).get? n=some o:=by subst e;erw[pz0 _ J]
def yM{J:A4}{Q}(j:J.length<=1000)(C:∀l∈J,∃xs,s.heap.IsList l xs)
  (Z:checkTypeCall "zip" (J.map .ref,[])=pure ()) (T:checkBuiltinCall "zip.__new__" (.type "zip"::J.map .ref,[])=pure ()) (D:∀o,argsOk "object.__init__" (o::J.map .ref,[]))
  (h:∀h':Heap,Zst .none (s.heap.objs.size+J.length+2) (s.heap.objs.size+J.length) (s.heap.objs.size+J.length+1) (zL s.heap.objs.size J) 0 h'->Kp [] s.heap h'->Q (.ref (s.heap.objs.size+J.length+2)) {s with heap:=h'}):
  wpAny @3 A (call (.type "zip") (J.map .ref)) Q E s:=by
 refine callType_newIn (S:=λf R M=>M=s/\∀h':Heap,Zst .none (s.heap.objs.size+J.length+2) (s.heap.objs.size+J.length) (s.heap.objs.size+J.length+1) (zL s.heap.objs.size J) 0 h'->Kp [] s.heap h'->R (.ok (.ret (.ref (s.heap.objs.size+J.length+2)))) {s with heap:=h'}) F.called_zip (by decide) Z T D F.entry_zip_new (.of_wp λX R M N=>?_)
  (rfl,λh' U a2=>((_,U.1,rfl),h h' U a2))
 obtain⟨rfl,N⟩:=N;have O:(1000:Nat)<=sizeLine:=by decide
 unfold Builtin.«zip.__new__»;refine wb0 (wpAny_of_eq ((rfl)) ?_);dsimp only;rw[if_neg @2];unfold Builtin.SmallTypes.iterAll;refine wb0 (wb0 (wJ J #[] M _ C λV P K W=>?_));refine wq0 ?_;have G:=su M.heap.objs.size J;generalize H:zL M.heap.objs.size J=L at W N G ⊢;refine wb0 (wpAny_newTuple ?_ (by simp;lia));refine wb0 (wpAny_newTuple ?_ (by simp;lia));unfold Builtin.SmallTypes.newRecord;dsimp only;simp only[Heap.size_push]
 wp_walk
 refine(_,rfl,?_);simp only[Heap.size_push];have K:=K;have Y:∀{c o}(a b d:Obj),V.get? c=some o->(((V.push a).push b).push d).get? c=some o:=λa b d e=>ps0 _ (ps0 _ (ps0 _ e))
 rw[K];refine N _ (?_,?_,(L.map λf=>.none,by simp,?_),λq m=>(W q m).at λo e=>Y _ _ _ e) λc o B e=>Y _ _ _ (P c o B e)
 .exact (nQ rfl (by simp only[Heap.size_push];rw[K])).trans (by simp[Builtin.SmallTypes.ownedTupleFields])
 .erw[ps0 _ (ps0 _ ((nQ rfl K).trans @0))]
 .erw[ps0 _ ((nQ rfl (by simp only[Heap.size_push];rw[K])).trans @0)]
end
end PySem
namespace L2.Z
open PySem PySem.Spec PyProof.Rows L2 L2.C SI
section
variable {h':Heap}
def CF{t'}(I:Inv X zp σ H s)(L:∀b∈fp,jz X zp H b)(k:∀b o,b∉fp->s.heap.get? b=some o->h'.get? b=some o):Inv X zp σ H {s with heap:=h',toks:=t'}:=by
 have K:∀b u,H b=some u->b∉fp:=λb u e z=>by rw[(L b z).1]at e;cases e
 refine I.step (λb W=>?_) (λb o a a J e a=>k b o J e) (λb o a a J e a=>(_,k b o J e)) (λa a a a n=>n)
  (λb o J e=>(o,k b o J e)) (λa a e=>e) (λa a a e=>e) (λb F e=>(#[],by simp_all)) (λm Y=>?_) (λb u e=>?_) I.bare
 .obtain⟨_,O,T,R,U,V⟩:=L b W
  exact(R,O,U,V)
 .obtain⟨o,N,M,Z,r⟩:=Y
  exact(o,N,M,k _ o (λz=>(L _ z).2.1 rfl) Z,r)
 .refine (I.hok b u e).stay (λc v J q=>k c v ?_ q) (λa q=>q) λa a q=>q
  rcases J with z|z
  .rw[z];erw[K b u e]
  .erw[K c _ z]
def yN{t'}{T:Addr}{o}(I:Inv X zp σ H s)(N:∀b∈fp,jz X zp H b)(k:∀b o,b∉fp->s.heap.get? b=some o->h'.get? b=some o)(O:s.heap.objs.size<=T)
  (new:ObjOk X.prog X.w (upd H T o) h' T o):Inv X zp σ (upd H T o) {s with heap:=h',toks:=t'}:=by
 have L:∀b u,H b=some u->b∉fp:=λb u e z=>by rw[(N b z).1]at e;cases e
 have B:∀b u,s.heap.get? b=some u->b≠T:=λb u e z=>by subst z;erw[absurd (nl0 (hs0 e) O) (li0 _)]
 have K:∀b u,H b=some u->b≠T:=λb u e z=>by subst z;erw[absurd (nl0 (I.hok b u e).lt O) (li0 _)]
 refine I.step (ch:=fp) (λb M=>?_) (λb o a a J e a=>k b o J e) (λb o a a J e a=>(o.slots,k b o J e)) (λb o a e n=>by rw[ab (B b o e)];erw[n])
  (λb o J e=>(o,k b o J e)) (λb a e=>by rw[ab (K b _ e)];erw[e]) (λb a a e=>by rw[ab (K b _ e)];erw[e]) (λb Q e=>(#[],by rw[ab (K b _ e),e];simp)) (λm F=>?_) (λb u e=>?_) I.bare
 .obtain⟨_,V,C,W,Y,Z⟩:=N b M
  exact(W,V,Y,Z)
 .obtain⟨o,U,R,D,r⟩:=F
  exact(o,U,R,k _ o (λz=>(N _ z).2.1 rfl) D,r)
 .by_cases M:b=T
  .subst M
   rw[aa]at e
   simp_all
  .rw[ab M]at e
   refine (I.hok b u e).stay (λc v J q=>k c v ?_ q) (λc q=>by rw[ab (K c _ q)];erw[q]) λc a q=>by rw[ab (K c _ q)];erw[q]
   rcases J with z|z
   .rw[z];erw[L b u e]
   .erw[L c _ z]
end
noncomputable def Itz(K:Fg)(J:A4)(n:Nat):It:=
 (λi H=>i<n/\∃f:Addr->List V,∀l∈J,SqL K H l (f l)/\n<=(f l).length,
  λi H x L=>∃T,x=.ref T/\H T=none/\∀f:Addr->List V,(∀l∈J,SqL K H l (f l))->L=upd H T (.tup (J.map λl=>((f l)[i]?).getD .non)),
  λi H=>i=n/\∃f:Addr->List V,(∀l∈J,SqL K H l (f l))/\∃l∈J,(f l).length<=n)
def jS{a b}{o u}(J:h.get? a=some o)(K:h.get? b=some u)(hc:o.cls≠u.cls):a≠b:=λe=>by
 grind
def lM{h}{z TI TO}{L}{i}{I:Addr->List Value}(N:TI≠TO)(T:(L.map (·.1)).Nodup)(F:Zst .none z TI TO L i h)(U:∀q∈L,h.IsList q.2 (I q.2).toArray):
  (z::TO::L.map (·.1)).Nodup/\TI∉z::TO::L.map (·.1)/\∀q∈L,h.IsList q.2 (I q.2).toArray/\q.2∉z::TO::L.map (·.1):=by
 obtain⟨K,V,⟨B,_,O⟩,Z⟩:=F;have R:Value.type "tuple"≠Value.type "zip":=by decide
 have M:∀{a:Addr}{o:Obj},h.get? a=some o->o.cls≠.type _->a∉L.map (·.1):=λe D m=>by
  obtain⟨q,J,rfl⟩:=mm0 m;obtain⟨u,Y,W,_⟩:=Z q J;erw[jS e Y (by rwa [W]) rfl]
 refine(?_,?_,λq J=>(U q J,?_))
 .simp only[List.nodup_cons,List.mem_cons,not_or]
  exact(((jS O K R).symm,M K (by decide:Value.type "zip"≠_)),M O (by decide:Value.type "tuple"≠_),T)
 .simp only[List.mem_cons,not_or]
  exact(jS V K R,N,M V (by decide:Value.type "tuple"≠_))
 .obtain⟨o,e,c,_⟩:=U q J
  simp only[List.mem_cons,not_or];exact(jS e K (by rw[c];exact (by decide:Value.type "list"≠Value.type "zip")),jS e O (by rw[c];exact (by decide:Value.type "list"≠Value.type "tuple")),M e (by rw[c];decide))
def yO{P}{w}{elts}{tk}{tpos}{z TI TO}{L}(n:Nat)(T:TI≠TO)(nd:(L.map (·.1)).Nodup)(F:L≠[])(hb:L.length<=1000):
  Turn P w K (.Tuple elts tk tpos) (Itz K (L.map (·.2)) n) (z::TI::TO::L.map (·.1)) z (Zst .none z TI TO L):=by
 have C:∀{i h},Zst .none z TI TO L i h->∀b∈z::TI::TO::L.map (·.1),∃o,h.get? b=some o/\∀v,o.data≠.cell v:=λU b hb=>by
  obtain⟨hz,ht,⟨A,_,ho⟩,Y⟩:=U;simp only[List.mem_cons]at hb;rcases hb with rfl|rfl|rfl|hb
  .exact(_,hz,λv q=>by cases q)
  .exact(_,ht,λv q=>by cases q)
  .exact(_,ho,λv q=>by cases q)
  .obtain⟨q,J,rfl⟩:=mm0 hb
   obtain⟨o,e,_,d⟩:=Y q J;exact(_,e,λv z=>by rw[d]at z;cases z)
 have D:∀{X}{N s j H}{f:Addr->List V},Inv X N j H s->(∀l∈L.map (·.2),SqL X.K H l (f l))->∃g:Addr->List Value,∀l∈L.map (·.2),Vals (f l) (g l)/\s.heap.IsList l (g l).toArray:=λ{X N s j H f} I W=>by
  refine Classical.skolem (p:=λl (g:A2)=>l∈L.map (·.2)->Vals (f l) g/\s.heap.IsList l g.toArray).mp λl=>?_
  by_cases m:l∈L.map (·.2)
  .obtain⟨it,r,p,_⟩:=I.list (W l m)
   exact(it,λa=>(r,p.isList))
  .exact([],λz=>absurd z m)
 have S:∀{b:Addr},b∉z::TI::TO::L.map (·.1)->b∉z::TO::L.map (·.1):=λh m=>h (by simp only[List.mem_cons]at m ⊢;rcases m with m|m|m<;>simp[m])
 refine(by simp,λi h=>C,λi h h' U k=>?_,?_,?_,λa a a a a U h=>PySem.wpAny_pyIter_zip U.1 h)
 .obtain⟨hz,ht,⟨A,G,ho⟩,Y⟩:=U
  exact(k _ @0 _ hz,k _ @0 _ ht,(A,G,k _ @0 _ ho),λq J=>(Y q J).at (k _ (by simp only[List.mem_cons];exact .inr (.inr (.inr (List.mem_map_of_mem J))))))
 .intro X t hw y c i N s j H E I W U hg
  subst t hw y;obtain⟨Y,f,O⟩:=hg;obtain⟨g,R⟩:=D I λl m=>(O l m).1
  obtain⟨Z,B,n3⟩:=lM T nd U λq J=>(R _ (List.mem_map_of_mem J)).2
  refine jR (I:=g) (I.ok.hd c) U F hb Z B n3 (λal h1 a1 a2 kp=>(_,rfl,?_)) λ⟨q,J,hn⟩=>?_
  .refine wpAny_letOwnedTupleGo_zip a1.1 λh2 b1 Q=>?_
   have nz:s.heap.objs.size≠z:=λe=>by have:=hs0 U.1;rw[<-e]at this;erw[absurd this (li0 _)]
   have kk:∀b o,b∉z::TI::TO::L.map (·.1)->s.heap.get? b=some o->h2.get? b=some o:=λb o hb e=>aZ Q (λq=>hb (by simp[q])) (kp b o (S hb) e)
   have j0:Vals ((L.map (·.2)).map λl=>((f l)[i]?).getD .non) (L.map (nP g i)):=by
    have:∀M:List (Addr×Addr),(∀q∈M,q∈L)->Vals ((M.map (·.2)).map λl=>((f l)[i]?).getD .non) (M.map (nP g i)):=λM=>by
     induction M with
     |nil=>intro _;exact .nil
     |cons q M ih=>
      intro h;have m:=List.mem_map_of_mem (f:=(·.2)) (h q @0);have lt:=nl0 Y (O _ m).2;obtain⟨u,hu,ru⟩:=(R _ m).1.get (ge0 lt);refine .cons ?_ (ih λq J=>h q (by simp[J]));simp only[nP];rw[ge0 lt,hu];erw[ru]
    erw[this L λa h=>h]
   have I2:=yN (h':=h2) (t':=s.toks) (o:=.tup ((L.map (·.2)).map λl=>((f l)[i]?).getD .non)) I W kk (nr0 _) (by simp;erw[nt0 hb @2],_,j0,(_,aZ Q nz a2,rfl,_,rfl));refine(.ref s.heap.objs.size,_,I2,rfl,(_,rfl,I.fresh,λf' x=>?_),?_,λb hb=>?_)
   .congr 2
    exact List.map_congr_left λl m=>by rw[I.list_inj (x l m) (O l m).1]
   .obtain⟨c1,c2,⟨A,c3,c4⟩,c5⟩:=a1
    simp only[List.mem_cons,not_or,List.nodup_cons]at Z B;exact(b1,aZ Q B.1 c2,(A,c3,aZ Q (λe=>Z.1.1 e.symm) c4),λq J=>(c5 q J).at λo e=>aZ Q (λe=>Z.1.2 (by rw[<-e];erw[List.mem_map_of_mem J])) e)
   .rw[ab]
    .exact (W b hb).1
    .intro e
     obtain⟨o,eo,_⟩:=C U b hb;have:=hs0 eo;rw[e]at this;erw[absurd this (li0 _)]
  .have m:=List.mem_map_of_mem (f:=(·.2)) J
   erw[absurd Y (by have:=(R _ m).1.length;have:=(O _ m).2;lia)]
 .intro X t hw y c i N s j H E I W U hg
  subst t hw y;obtain⟨rfl,f,O,l,G,hn⟩:=hg;obtain⟨g,R⟩:=D I O;obtain⟨Z,B,n3⟩:=lM T nd U λq J=>(R _ (List.mem_map_of_mem J)).2
  refine jR (I:=g) (I.ok.hd c) U F hb Z B n3 (λal=>?_) λa h' kp=>(rfl,CF (t':=s.toks) I W λb o hb e=>kp b o (S hb) e)
  obtain⟨q,J,rfl⟩:=mm0 G;erw[absurd (al q J) (by have:=(R _ G).1.length;lia)]
section
variable {G1 Hb:Hp}{qs:List (Addr×List D)}
def CG(h:∀q∈qs,∃vs,Hb q.1=some (.lst vs)/\Dps K G1 q.2 vs/\n<=q.2.length)(e:∃q∈qs,q.2.length=n):fC K G1 Hb (Itz K (qs.map (·.1)) n) (gd n (qs.map (·.2))):=by
 obtain⟨f,I⟩:=Classical.skolem (p:=λl (vs:List V)=>∀O,Hb l=some (.lst O)->vs=O).mp λl=>by
  by_cases m:∃O,Hb l=some (.lst O)
  .obtain⟨O,m⟩:=m
   exact(O,λvs z=>by rw[m]at z;cases z;rfl)
  .exact([],λvs z=>absurd (_,z) m)
 have h:∀q∈qs,Hb q.1=some (.lst (f q.1))/\Dps K G1 q.2 (f q.1)/\n<=q.2.length:=λq m=>by
  obtain⟨vs,a,b⟩:=h q m;rw[I _ _ a];exact(a,b)
 have Z:∀{L},Same Hb L->∀l∈qs.map (·.1),SqL K L l (f l):=λR l m=>by
  obtain⟨q,J,rfl⟩:=mm0 m;erw[SqL.of (R _ _ (h q J).1)]
 have N:(gd n (qs.map (·.2))).length=n:=by simp[gd]
 refine(λi L W E R=>(by rwa [N]at W,f,λl m=>(Z R l m,?_)),λi Y L x H d U Q S P y=>?_,λL E R=>(N,f,Z R,?_))
 .obtain⟨q,J,rfl⟩:=mm0 m
  rw[<-(h q J).2.1.length];exact (h q J).2.2
 .obtain⟨T,rfl,G,y⟩:=y
  rw[y f (Z P)];have W:i<n:=by rw[<-N];exact (gi0 U).1
  unfold gd at U;rw[gm0,List.getElem?_range W]at U;cases U;have ex:∀vs,Ext Y L (upd Y T (.tup vs)) (upd L T (.tup vs)):=λvs=>.laid S G
  refine(_,ex _,.tuple aa ?_);have:∀(vs:List V)(M:List (Addr×List D)),(∀q∈M,q∈qs)->Dps K (upd Y T (.tup vs)) ((M.map (·.2)).map λl=>(l[i]?).getD .none) ((M.map (·.1)).map λl=>((f l)[i]?).getD .non):=λvs M=>by
   induction M with
   |nil=>intro _;exact .nil
   |cons q M ih=>
    intro F;obtain⟨_,b,c⟩:=h q (F q @0);have B:=nl0 W c;obtain⟨v,X,C⟩:=b.get (ge0 B);refine .cons ?_ (ih λq J=>F q (by simp[J]));dsimp only;rw[ge0 B,X];exact (C.mono Q).mono (ex _).gg
  erw[this _ qs λg z=>z]
 .obtain⟨q,J,e⟩:=e
  exact(q.1,List.mem_map_of_mem J,by rw[<-(h q J).2.1.length,e];erw[nr0 _])
def lN(s:Same G H):∀{fl:List Bool}{dss}{vs:List V},Das K G H fl (dss.map .list) vs->∃qs:List (Addr×List D),qs.map (·.2)=dss/\vs=qs.map (λq=>V.ref q.1)/\∀q∈qs,∃J,H q.1=some (.lst J)/\Dps K G q.2 J:=by
 intro fl dss
 induction dss generalizing fl with
 |nil=>intro vs h;cases h;exact([],rfl,rfl,λc z=>by cases z)
 |cons L dss ih=>
  intro vs h;cases h with
  |cons _ d r=>
  obtain⟨qs,rfl,rfl,h⟩:=ih r;obtain⟨l,J,rfl,a,b⟩:=d.lst s;exact((l,L)::qs,rfl,rfl,λq m=>by
   rcases mq0 m with rfl|m
   .exact(J,a,b)
   .erw[h q m])
def lP:∀{J:A4}{us:A2},Vals (J.map V.ref) us->us=J.map Value.ref:=by
 intro J
 induction J with
 |nil=>intro us h;cases h;rfl
 |cons _ _ ih=>intro us h;cases h with|cons r t=>cases r;rw[ih t];rfl
def boot_zip:bootBuiltins ("zip":Str)=some (.type "zip"):=rfl
def yP{X}{Y}{e}{es}{p pos}{dss}{elts}{tk}{tpos}(B:Blt X "zip")(c:Ea X Y [true,true,true] (e::es) (dss.map .list))(M:aL (e::es))(hz:dss.length<=1000)(w:dss≠[])
  (f:∀us:List Value,us.length=dss.length->checkTypeCall "zip" (us,[])=pure ()/\checkBuiltinCall "zip.__new__" (.type "zip"::us,[])=pure ()/\∀o,argsOk "object.__init__" (o::us,[])) (t:∀ds∈dss,n<=ds.length) (d:∃ds∈dss,ds.length=n):
  PI X (.Tuple elts tk tpos) (.Call (.Name "zip" p) (e::es) [] pos) (tSi X.nk X.K Y false (gd n dss)):=by
 rintro N s σ H R I ⟨y,u,G,E,k⟩
 refine Call_ (ld_blt I B.g B.m boot_zip (PyProof.Rows.callWith_type1 (thn (c pos N s σ H _ I (y,u,G,E,λS G1 J v W=>((G1,v,W):∃G1,Ext G H G1 J/\Das X.K G1 J [true,true,true] (dss.map .list) S))) λus Z ⟨S,J,O,W,F⟩=>?_) (starEach_cons (M e @0)) (aW λx i=>M x (mc0 _ i))) @2 @2);obtain⟨G1,A,F⟩:=F;obtain⟨qs,rfl,rfl,D⟩:=lN A.gh F;rw[show (qs.map λq=>V.ref q.1)=(qs.map (·.1)).map V.ref by simp]at W;obtain rfl:=lP W;have ne:qs.map (·.1)≠[]:=λz=>w (by rw[List.map_eq_nil_iff]at z ⊢;erw[z])
 obtain⟨h,k2,k3⟩:=f ((qs.map (·.1)).map .ref) @0;refine PySem.yM (by simpa using hz) (λl m=>?_) h k2 k3 λh' Q kp=>?_
 .obtain⟨q,T,rfl⟩:=mm0 m
  obtain⟨P,a,_⟩:=D q T;obtain⟨it,_,p,_⟩:=O.list (SqL.of a);exact(_,p.isList)
 .have j:∀(n:Addr)(U:A4),(zL n U).map (·.2)=U:=λn U=>by
   induction U generalizing n with
   |nil=>rfl
   |cons l r ih=>rw[zL,mk0,ih]
  have C:=CG (qs:=qs) (n:=n) (K:=X.K) (G1:=G1) (Hb:=J) (λq m=>let ⟨P,a,b⟩:=D q m;(P,a,b,t _ (List.mem_map_of_mem m))) (by obtain⟨ds,m,e⟩:=d;obtain⟨q,m2,rfl⟩:=mm0 m;exact(q,m2,e));rw[<-j Z.heap.objs.size (qs.map (·.1))]at C;refine PySem.wpAny_pyIter_zip Q.1 (_,_,_,_,J,rfl,O.kept (t':=Z.toks) λb o e=>kp b o @0 e,yO n (nn0 (Nat.lt_succ_self _)) (EE _ _) (λz=>ne (by rw[<-j Z.heap.objs.size (qs.map (·.1)),z];rfl)) (by rw[su];simpa using hz),Q,λb hb=>?_,k _ G1 J A C);have L:Z.heap.objs.size<=b:=by
   simp only[List.mem_cons]at hb;rcases hb with rfl|rfl|rfl|hb
   .erw[nt0 (Nat.le_add_right _ _) (Nat.le_add_right _ _)]
   .erw[Nat.le_add_right _ _]
   .erw[Nat.le_succ_of_le (Nat.le_add_right _ _)]
   .obtain⟨q,m,rfl⟩:=mm0 hb
    exact (yL q m).1
  erw[O.fpOk L (O.hok.fresh L)]
end
section
variable {E:A0}
theorem lQ{U t}{items}(M:t≠U):∀(n i:Nat)(s:Shared)(Q:List Value->Shared->Prop),s.heap.IsListIter U t i->s.heap.IsList t items->i+n<=items.size->
  (∀h',h'.IsListIter U t (i+n)->Heap.SameBut U s.heap h'->Q ((items.toList.drop i).take n) {s with heap:=h'})->wpAny (model prog w) A (draw (.ref U) n) Q E s
 |0,i,s,Q,J,_,_,V=>by
  show wpAny _ _ (pure []) Q E s;erw[wq0 (by simpa using V s.heap J (Heap.SameBut.refl ..))]
 |n+1,i,s,Q,J,T,F,V=>by
  have L:i<items.size:=by lia
  refine wb0 (wpAny_pyNext_list_item J T (x:=items[i]) (by simp[L]) λO K N=>?_);have Y:O.IsList t items:=by
   obtain⟨o,D,r⟩:=T;exact(o,(N.2 t M).trans D,r)
  refine wb0 (wh0 (lQ M n (i+1) _ _ K Y @1 λR Z W=>wq0 ?_));have B:items.toList.drop i=items[i]::items.toList.drop (i+1):=by simp[List.drop_eq_getElem_cons,L]
  have:=V R @4 (N.trans W)
  simp_all
def iy{t}{items}{Q}(D:A.handled=none)(V:s.heap.IsList t items)
  (T:∀h',Heap.ExtBut s.heap.objs.size s.heap h'->Q items.toList {s with heap:=h'}):wpAny (model prog w) A (unpackItems (.ref t) items.size none) Q E s:=by
 have L:t≠s.heap.objs.size:=by obtain⟨o,M,_⟩:=V;erw[nn0 (hs0 M)]
 unfold unpackItems;refine wb0 ?_;unfold notIterableAtAll;refine wb0 (wpAny_specialOf V.typeIs PySem.F.slot_list_iter.lookup ?_);refine wq0 ?_;simp only[Bool.false_eq_true,if_false];refine wb0 (wh0 (wpAny_pyIter_list V ?_));have O:(s.heap.push {cls:=.type "list_iterator",data:=.fields #[.ref t,.int 0 0]}).IsList t items:=by
  obtain⟨o,M,r⟩:=V;exact(o,ps0 _ M,r)
 refine wb0 (wh0 (lQ L items.size 0 _ _ (_,pz0 _ rfl,rfl,rfl) O @1 λR K N=>?_));have J:List.take items.size (List.drop 0 items.toList)=items.toList:=by
  rw[List.drop_zero];erw[List.take_of_length_le @0]
 rw[J];rw[if_neg @0];have Y:R.IsList t items:=by
  obtain⟨o,M,r⟩:=O;exact(o,(N.2 t L).trans M,r)
 refine wb0 (wh0 (wpAny_pyNext_list_end D K Y @0 λU W=>?_));erw[wq0 (T U λb o Z e=>W b o Z (N.extBut b o Z (ps0 _ e)))]
def gq{env}{elts}{x1}{pos}{t}{items}{Q}(K:A.handled=none)(M:s.heap.IsList t items)
  (L:(assignEach elts env).length=items.size) (J:(assignEach elts env).findIdx? (·.1)=none)
  (h:∀h',Heap.ExtBut s.heap.objs.size s.heap h'->wpAny @3 A (assignInOrder ((assignEach elts env).map (·.2)) items.toList) Q E {s with heap:=h'}):
  wpAny @3 A (assign (.Tuple elts x1 pos) env (.ref t)) Q E s:=by
 refine wb0 (wpAny_standAt ?_);unfold unpack;rw[L,J];erw[wb0 (wh0 (iy K M h))]
end
def Ms(K:fg0)(n:Nat)(t:TGs):TG:=λv L H Q=>∃a J,v=.ref a/\SqL K H a J/\J.length=n/\t J L H Q
def GH{X}{pos}{es}{k}{t}{n}(hc:X.calm=true)(h:PGs X es t)(R:(assignEach es X.env).length=n)(J:(assignEach es X.env).findIdx? (·.1)=none):PG X (.Tuple es k pos) (Ms X.K n t):=by
 intro M s F H v u Q I r L;obtain⟨a,T,N,U,O,L⟩:=L;subst N;cases r;obtain⟨Y,Z,V,B⟩:=I.list U;erw[gq (I.ok.hd hc) V.isList (by simp[R,<-O,Z.length]) J λD W=>h _ _ F H T _ Q (I.kept λb o e=>W b o (nn0 (hs0 e)) e) @1 L]
def Tgj(X:Cx)(tg:Expr)(t:Tg):Prop:=∀d,PG X tg (λv O H Q=>∃L M G Y N,EnvD X.nk X.K L M G H O Y/\Dp X.K G d v/\ax t d Y=some N/\∀J,EnvD X.nk X.K L M G H J N->Q J H)
section
variable {elt:Expr}{ifs:A3}{p px:Pos}
def qe{x}(M:X.N.Nodup)(J:X.N[i]?=some x)(U:Loc X.env.scope x)(R:X.fn x=true\/X.env.scope.names.lookup x=some .local):Tgj X (.Name x px) (.one i):=by
 rintro d K s V H v u Q I r ⟨W,Z,G,Y,T,env,L,O,k⟩
 cases O;erw[BH M J U R _ s V H v u Q I r (k _ (env.set (by rw[I.len];exact (gi0 J).1) L))]
structure GI(X:Cx)(x:Str)(i:Nat):Prop where
 at':X.N[i]?=some x
 loc:Loc X.env.scope x
 fn:X.fn x=true\/X.env.scope.names.lookup x=some .local
inductive Nms (X:Cx):List Expr->List Nat->Prop
 |nil:Nms X [] []
 |cons {x:Str}{px:Pos}{i:Nat}{es:A3}{is:List Nat}:GI X x i->Nms X es is->Nms X (.Name x px::es) (i::is)
def Nms.each{env}:∀{es}{J:List Nat},Nms X es J->(assignEach es env).length=J.length/\(assignEach es env).findIdx? (·.1)=.none:=by
 intro es J h
 induction h with
 |nil=>exact(rfl,rfl)
 |@cons _ _ _ es _ _ r ih=>
  refine(?_,?_)
  .show (assignEach es _).length+1=_
   rw[ih.1];rfl
  .show List.findIdx? _ ((false,_)::assignEach es _)=_
   rw[List.findIdx?_cons,ih.2];rfl
def Mt(X:Cx)(ts:A3)(O:List Nat):Prop:=∀L,L.length=O.length->PGs X ts (λR U H Q=>∃M N G Y,EnvD X.nk X.K M N G H U Y/\Dps X.K G L R/\∀J,EnvD X.nk X.K M N G H J ((O.zip L).foldl (λY p=>Y.set p.1 (.dat p.2)) Y)->Q J H)
def JN{ts}{D:List Nat}(P:X.N.Nodup)(h:Nms X ts D):Mt X ts D:=by
 induction h with
 |nil=>
  intro O R M s U H E B Q I r T;obtain⟨V,W,G,Y,J,Z,k⟩:=T;have:=ez0 R;subst this;cases Z;erw[BI _ s U H [] B Q I r (rfl,k U J)]
 |@cons x px i z D F y ih=>
  intro O R M s U H E B Q I r T;obtain⟨V,W,G,Y,J,Z,k⟩:=T;cases O with
  |nil=>cases R
  |cons d O=>
   cases Z with
   |cons C S=>
    exact xG (qe P F.at' F.loc F.fn d) (ih O (by simpa using R)) rfl _ s U H _ B Q I r
     (_,_,rfl,V,W,G,Y,_,J,C,rfl,λA K=>(V,W,G,_,K,S,λj L=>k _ L))
set_option tactic.hygienic true in
def CH{ts}{D:List Nat}{n}(hc:X.calm=true)(F:X.N.Nodup)(h:Nms X ts D):Tgj X (.Tuple ts n pos) (.tup D):=by
 intro d K s B H v u Q I r C;obtain⟨W,Z,G,Y,S,env,T,J,k⟩:=C;cases d with
 |tuple O=>
  rw[iq]at J;split at J
  .rename_i M
   cases J;cases T with
   |tuple V L=>
    obtain⟨R,U⟩:=h.each (env:=X.env);erw[FD hc (JN F h O M.symm) R U K s B H _ u Q I r (_,_,rfl,SqT.of (env.sub _ _ V),by rw[<-L.length];exact M.symm,W,Z,G,Y,env,L,k)]
  .cases J
 |list O=>
  rw[ip]at J;split at J
  .rename_i M
   cases J;cases T with
   |list V L=>
    obtain⟨R,U⟩:=h.each (env:=X.env);erw[GH hc (JN F h O M.symm) R U K s B H _ u Q I r (_,_,rfl,SqL.of (env.sub _ _ V),by rw[<-L.length];exact M.symm,W,Z,G,Y,env,L,k)]
  .cases J
 |_=>cases J
section
variable {ν:NK}{G0:Bs}
def blk_at{sl}(h:(SI.blk tn.length js Y)[i]?=some sl):sl=.no\/∃j,js[i-tn.length]?=some j/\tn.length<=i/\sl=lend (Y[j]?.getD .no):=by
 unfold SI.blk at h
 by_cases J:i<tn.length
 .rw[gl0 @6,List.getElem?_replicate,if_pos J]at h
  simp_all
 .rw[List.getElem?_append_right (by simp;lia)]at h
  cases q:js[i-tn.length]?<;>simp_all
def dD{i j}(h:tn.length<=i)(e:js[i-tn.length]?=some j):(gc tn js σ)[i]?=some (σ[j]?).join:=by
 unfold gc;rw[List.getElem?_append_right (by simpa using h),gm0,lm0,e];rfl
def dh(Y:List Sl):Prop:=∀(i:Nat) d,Y[i]?≠some (.own d)/\Y[i]?≠some (.io d)
def lend_own{sl}{d}:lend sl≠.own d/\lend sl≠.io d:=by cases sl<;>exact(λh=>(by cases h),λh=>(by cases h))
def aX:dh (SI.blk tn.length js Y):=λi d=>by
 refine(λh=>?_,λh=>?_)<;>rcases blk_at h with h|⟨j,_,_,h⟩
 .cases h
 .erw[lend_own.1 h.symm]
 .cases h
 .erw[lend_own.2 h.symm]
theorem EnvD.blk(E:EnvD ν K G0 H0 G H σ Y):EnvD ν K (G,none) H G H (gc tn js σ) (SI.blk tn.length js Y):=by
 have slot:∀{j:Nat}{sl},lend (Y[j]?.getD .no)=sl->sl≠.no->∃s,Y[j]?=some s/\lend s=sl:=λ{j sl} h U=>by
  cases r:Y[j]? with
  |none=>rw[r]at h;erw[absurd h.symm U]
  |some s=>rw[r]at h;exact(s,rfl,h)
 refine(.refl E.sub,by simp[gc,SI.blk],λi d h=>?_,λi d h=>?_,λi R h=>((aX i R).1 h).elim,λi a R a a h=>((aX i R).1 h).elim,λi d h=>((aX i d).2 h).elim,λi a d a h=>((aX i d).2 h).elim,λa a=>rfl)
 .rcases blk_at h with h|⟨j,L,N,h⟩
  .cases h
  obtain⟨s,M,h⟩:=slot h.symm @0;cases s with
  |dat O=>
   cases h;obtain⟨v,J,r⟩:=E.dat j d M;exact(v,by rw[dD N L,J];rfl,r)
  |_=>cases h
 .rcases blk_at h with h|⟨j,L,N,h⟩
  .cases h
  obtain⟨s,M,h⟩:=slot h.symm @0;cases s with
  |lent O=>
   cases h;obtain⟨v,J,r⟩:=E.lent j d M;exact(v,by rw[dD N L,J];rfl,r.ext E.ext)
  |own O=>
   cases h;obtain⟨q,J,_,_,r⟩:=E.own j d M;exact(_,by rw[dD N L,J];rfl,r.dr)
  |io O=>
   cases h;obtain⟨q,_,J,r,_⟩:=E.io.at' j d M;exact(_,by rw[dD N L,J];rfl,r.dr E.sub)
  |_=>cases h
def EnvD.touch{p}{o}(E:EnvD ν K G0 H0 G H σ Y)(L:dh Y)(N:G p=none)(M:H0 p=none):EnvD ν K G0 H0 G (upd H p o) σ Y:=
 ((λb u e=>by rw[ab (ag e M)];erw[E.ext.hh b u e],E.ext.gg,λb u e=>by rw[ab (ag e N)];erw[E.ext.gh b u e],E.ext.nw),E.len,E.dat,E.lent,λi J h=>((L i J).1 h).elim,λi a J a a h=>((L i J).1 h).elim,λi d h=>((L i d).2 h).elim,E.io.one,E.io.fr)
def EnvD.forget{Y'}(E:EnvD ν K G0 H0 G H σ Y)(R:Y'.length=Y.length)(h:∀(i:Nat) sl,Y'[i]?=some sl->sl=.no\/Y[i]?=some sl):EnvD ν K G0 H0 G H σ Y':=by
 have h:=λ{i:Nat}{sl} (n:sl≠.no) e=>(h i sl e).resolve_left n
 refine(E.ext,by rw[R];erw[E.len],λi d e=>E.dat i d (h nofun e),λi d e=>E.lent i d (h nofun e),λi d e=>E.own i d (h nofun e),λi j d e p J L=>E.apart i j d e p (h nofun J) (h nofun L),λi d e=>?_,λi j d e J L=>E.io.one i j d e (h nofun J) (h nofun L),λi e=>E.io.fr i (h nofun e));obtain⟨p,N,a,b,c,f,g⟩:=E.io.at' i d (h nofun e);exact(p,N,a,b,c,f,λj M q O=>g j M q (h nofun O))
end
def iz{t}{n}{Y Y'}(R:jH t n=true)(J:ax t d Y=some Y'):Y'.length=Y.length/\(∀i,n<=i->Y'[i]?=Y[i]?)/\(dh Y->dh Y'):=by
 have one:∀{i:Nat}{Y:List Sl}{d:D},i<n->(Y.set i (.dat d)).length=Y.length/\(∀j,n<=j->(Y.set i (.dat d))[j]?=Y[j]?)/\(dh Y->dh (Y.set i (.dat d))):=λ{i Y d} C=>
  (by simp,λj K=>gn0 @4,λh j e=>(λK=>(h j e).1 (getE_io K @0).2,λK=>(h j e).2 (getE_io K @0).2))
 have fold:∀(L:List (Nat×D))(Y:List Sl),(∀p∈L,p.1<n)->(L.foldl (λY p=>Y.set p.1 (.dat p.2)) Y).length=Y.length/\(∀j,n<=j->(L.foldl (λY p=>Y.set p.1 (Sl.dat p.2)) Y)[j]?=Y[j]?)/\(dh Y->dh (L.foldl (λY p=>Y.set p.1 (Sl.dat p.2)) Y)):=by
  intro L
  induction L with
  |nil=>intro Y _;exact(rfl,λc c=>rfl,λh=>h)
  |cons q r ih=>
   intro Y N;obtain⟨V,a2,W⟩:=one (Y:=Y) (d:=q.2) (N q ms0);obtain⟨Z,T,F⟩:=ih (Y.set q.1 (.dat q.2)) λx B=>N x (mc0 _ B)
   exact(Z.trans V,λj K=>(T j K).trans (a2 j K),λh=>F (W h))
 have M:∀{U:List Nat}{O:List D},(U.all λi=>decide (i<n))=true->∀p∈U.zip O,p.1<n:=λh p N=>od0 (List.all_eq_true.mp h p.1 (List.of_mem_zip (a:=p.1) (b:=p.2) N).1)
 cases t with
 |one i=>cases J;erw[one (od0 R)]
 |tup U=>
  cases d with
  |tuple O=>
   rw[iq]at J;split at J
   .cases J;erw[fold _ _ (M R)]
   .cases J
  |list O=>
   rw[ip]at J;split at J
   .cases J;erw[fold _ _ (M R)]
   .cases J
  |_=>cases J
def Ecs(X:Cx)(Y:List Sl)(ifs:A3)(t:Bool):Prop:=PCs X ifs (tEt X.nk X.K Y t)
def ecs_nil:Ecs X Y [] true:=by rintro J s M H Q I ⟨K,L,G,E,k⟩;exact (have h:=(k G H (.refl E.sub));wpAny_tests_nil (H,I,h))
def CI{t}(h:Et X Y c t):Ecs X Y [c] t:=(λJ s K H Q I q=>wpAny_tests_one (h _ s K H Q I q))
theorem jT(f:D->Option (Option D)):∀(xs:List D)(d:D),ay f (xs++[d])=(ay f xs).bind λa=>(f d).map λo=>a++o.toList
 |[],d=>by
  show (f d).bind _=_;cases f d with
  |none=>rfl
  |some o=>cases o<;>rfl
 |x::r,d=>by
  show (f x).bind _=((f x).bind _).bind _;cases f x with
  |none=>rfl
  |some o=>
   show (ay f (r++[d])).map _=((ay f r).map _).bind _;rw[jT f r d];cases ay f r with
   |none=>rfl
   |some q=>cases f d with
    |none=>rfl
    |some u=>cases o<;>rfl
def sv{f}{ds out}(h:ay f ds=some out):∀i≤ds.length,∃q,ay f (ds.take i)=some q:=by
 have L:∀(J K:List D)(out:List D),ay f (J++K)=some out->∃q,ay f J=some q:=by
  intro J
  induction J with
  |nil=>intro K out _;exact(_,rfl)
  |cons x r ih=>
   intro K out h;obtain⟨o,M,N⟩:=bx0 (h);obtain⟨q,O,U⟩:=mx0 N;obtain⟨W,R⟩:=ih K q O;exact(_,by show (f x).bind _=_;rw[M,R];rfl)
 erw[λi V=>L _ (ds.drop i) out @6]
theorem lR{f}:∀{ds out},ay f ds=some out->out.length<=ds.length
 |[],out,h=>by cases h;erw[nr0 _]
 |x::r,out,h=>by
  obtain⟨o,M,J⟩:=bx0 (h);obtain⟨q,K,L⟩:=mx0 J;have:=lR K;subst L;cases o<;>simp<;>lia
def teC(X:Cx)(scope:Scope)(N:A1)(e:Expr):TE:=λO H Q=>∀C M K L J s,Inv (L2.C.blk X scope N C M K L) J O H s->wpAny @5 X.A (eval e (L2.C.blk X scope N C M K L).env) (EP (L2.C.blk X scope N C M K L) J O Q) (λa a=>False) s
def tcC(X:Cx)(scope:Scope)(N:A1)(ifs:A3):TT:=λO H Q=>∀C M K L J s,Inv (L2.C.blk X scope N C M K L) J O H s->wpAny @5 X.A (nE ifs (L2.C.blk X scope N C M K L).env) (TP (L2.C.blk X scope N C M K L) J O Q) (λa a=>False) s
def tgC(X:Cx)(scope:Scope)(N:A1)(tg:Expr):TG:=λv V H Q=>∀C O L M J s u,Inv (L2.C.blk X scope N C O L M) J V H s->RelV v u->wpAny @5 X.A (assign tg (L2.C.blk X scope N C O L M).env u) (λa U=>∃K R,Inv (L2.C.blk X scope N C O L M) J K R U/\Q K R) (λa a=>False) s
structure ui(X:Cx)(Φ:Fs)(Γ:List (Str×D))(scope:Scope)(N:A1)(tg:Expr)(t:Tg)(ifs:A3)(ifs':Es)(elt:Expr)(elt':E):Prop where
 tgt:∀(C:Addr)(s:Shared)(H:Hp)(fp:A4),Tgj (L2.C.blk X scope N C s H fp) tg t
 test:∀(C:Addr)(s:Shared)(H:Hp)(fp:A4) Y b,evC Φ Γ Y ifs'=some b->Ecs (L2.C.blk X scope N C s H fp) Y ifs b
 elt:∀(C:Addr)(s:Shared)(H:Hp)(fp:A4) Y d,ev Φ Γ .val Y elt'=some d->Ev (L2.C.blk X scope N C s H fp) Y elt d
variable {Φ:Fs}{scope:Scope}{t:Tg}{ifs':Es}{elt':E}{out:List D}
abbrev gr(Φ:Fs)(Γ:List (Str×D))(n:Nat)(js:List Nat)(t:Tg)(ifs':Es)(elt':E)(Y:List Sl):D->Option (Option D):=
 λd=>(ax t d (SI.blk n js Y)).bind λJ=>(evC Φ Γ J ifs').bind λb=>if b then (ev Φ Γ .val J elt').map some else some none
def lS{σ}{G0}{H0 G1 H1}{J}{Q:VK}(hi:fC X.K G1 H1 J ds)(T:ui X Φ Γ scope @7 tg t ifs ifs' elt elt')(ht:jH t tn.length=true)(hz:ds.length<=sizeLine)(E:EnvD X.nk X.K G0 H0 G1 H1 σ Y)
  (G:ay (gr Φ Γ tn.length js t ifs' elt' Y) ds=some out)
  (k:∀q vs F L,Ext G1 H1 F L->F q=none->H1 q=none->L q=some (.lst vs)->Dps X.K F out vs->Q (.ref q) L):
  ∀q,H1 q=none->∃W:Nat->Nat->St->Hp->Prop,(∃m,W 0 m (gc tn js σ) (upd H1 q (.lst [])))/\∀i m N L,W i m N L->
   (J.stop i L/\Q (.ref q) L)\/(J.go i L/\∀v c,J.yld i L v c->tgC X scope @7 tg v N c λZ n=>tcC X scope @7 ifs Z n λb H4=>
    if b=true then teC X scope @7 elt Z H4 λy H5=>∃O,H5 q=some (.lst O)/\O.length<sizeLine/\∃m',m'<m/\W (i+1) m' Z (upd H5 q (.lst (O++[y])))else ∃m',m'<m/\W (i+1) m' Z H4):=by
 intro q V;have r:dh (SI.blk tn.length js Y):=aX;refine(λi m N L=>m=ds.length-i/\i<=ds.length/\∃F O outs,EnvD X.nk X.K (G1,none) H1 F L N (SI.blk tn.length js Y)/\L q=some (.lst O)/\F q=none/\Dps X.K F outs O/\ay (gr Φ Γ tn.length js t ifs' elt' Y) (ds.take i)=some outs,
  (ds.length,by simp,Nat.zero_le _,G1,[],[],?_,aa,E.sub.free V,.nil,rfl),?_)
 .exact (E.blk (tn:=tn) (js:=js)).touch r (E.sub.free V) V
 .rintro i m N L ⟨rfl,j7,F,O,outs,D,l,j1,r',B⟩
  have sm:=D.ext.gg.trans D.sub
  by_cases U:i<ds.length
  .refine .inr (hi.go i L U sm D.ext.hh,λv c y=>?_)
   have hb:=ge0 U;have tk:ds.take (i+1)=ds.take i++[ds[i]]:=by rw[List.take_add_one,hb];rfl
   generalize ds[i]=dd at hb tk;obtain⟨d,g⟩:=sv G (i+1) U;have j0:=g;rw[tk,jT,B]at j0;obtain⟨o,P,e1⟩:=mx0 (j0:(gr Φ Γ tn.length js t ifs' elt' Y dd).map _=some d);obtain⟨Y1,h,P⟩:=bx0 P;obtain⟨tb,j4,P⟩:=bx0 P;obtain⟨l1,l2,l3⟩:=iz ht h;obtain⟨G2,e2,d2⟩:=hi.yld i F L v c dd hb D.ext.gg D.sub D.ext.hh y;have j2:=e2.hh _ _ l;have j5:=e2.nw _ _ j1 l;have r2:=r'.mono e2.gg;have j6:O.length<=i:=by
    rw[<-r'.length];erw[nt0 (lR B) (by rw[List.length_take];simp_all)]
   have j9:=l3 r;have back:∀{x n:Hp}{j3:St},EnvD X.nk X.K (G1,none) H1 x n j3 Y1->EnvD X.nk X.K (G1,none) H1 x n j3 (SI.blk tn.length js Y):=λE3=>E3.forget l1.symm λj sl hj=>by
    by_cases j8:j<tn.length
    .left
     rcases blk_at hj with z|⟨_,_,z,_⟩
     .erw[z]
     .grind
    .right;rw[l2 j @6];erw[hj]
   intro C s0 R a M s u I rv;refine T.tgt C s0 R a dd M s N c v u _ I rv ((G1,none),H1,G2,_,Y1,D.step e2,d2,h,λZ E2=>?_);intro C s0 R a M s I;refine T.test C s0 R a Y1 tb j4 M s _ c _ I ((G1,none),H1,G2,E2,λx n H=>?_);have S:=H.hh _ _ j2;have f:=H.nw _ _ j5 j2;cases tb with
   |false=>
    rw[if_neg fx0]at P;cases P;subst e1;refine nD (ds.length-(i+1),by lia,rfl,U,x,O,_,back (E2.step H),S,f,?_,g);rw[Option.toList_none,List.append_nil];erw[r2.mono H.gg]
   |true=>
    rw[if_pos rfl]at P;obtain⟨w0,hw,A⟩:=mx0 P;subst A e1;refine iteT ?_;intro C s0 R a M s I;refine T.elt C s0 R a Y1 w0 hw M s _ n _ I ((G1,none),H1,x,E2.step H,λw G4 H4 A r4=>?_);refine(O,A.hh _ _ S,by grind,ds.length-(i+1),by lia,rfl,U,G4,O++[w],_,(back ((E2.step H).step A)).touch r (A.nw _ _ f S) V,aa,A.nw _ _ f S,?_,g);exact ((r2.mono H.gg).mono A.gg).append (.one r4)
  .have e:i=ds.length:=by lia
   subst e;rw[List.take_length,G]at B;cases B;exact .inl (hi.stop L sm D.ext.hh,k q O F L D.ext j1 V l r')
def uj(B:BlkOk X scope js)(M:X.calm=true)(w:PI X tg iter (tSi X.nk X.K Y false ds))(T:ui X Φ Γ scope @7 tg t ifs ifs' elt elt')(m:jH t tn.length=true)(hz:ds.length<=sizeLine)
  (R:ay (gr Φ Γ tn.length js t ifs' elt' Y) ds=some out) (hs:∀x,foldedSetIterable iter X.env x=pure x):En X Y (.ListComp elt [(tg,iter,ifs,0)] scope pos) (.list out):=by
 intro L s l H Q I h;obtain⟨S,P,G,E,k⟩:=h;refine nF (tn:=tn) (js:=js) (g:=tgC X scope @7 tg) (tc:=tcC X scope @7 ifs) (te:=teC X scope @7 elt) B M w
  (λC s H O L U V W v u F N r h=>h C s H O L U u N r) (λC s H O L U V W F N h=>h C s H O L U N) (λC s H O L U V W F N h=>h C s H O L U N) hs L s l H Q I ?_
 refine(S,P,G,E,λJ d c Z f=>lS f T m hz (E.step Z) R λq b D W A j z y r=>k q D W (Z.trans A) j (Z.hh.free z) (_,_,rfl,y,r))
end
def EF(ν:NK)(K:Fg)(M:Bs)(L N:Hp)(w:D):Prop:=∀p J,M.pin=some (p,J)->rR w=true->IoAt ν K L N w p J/\∀b∈J,L b=none
def Goes(ν:NK)(K:Fg)(N:Bs)(O G:Hp)(o:Out)(F:Ends):Prop:=match o with
 |.nx R=>∀J L M,EnvD ν K N O J L M R->Same G J->F.nx M L
 |.rt d w=>∀v J L,Dp K J d v->Ext N.g O J L->EF ν K N J L w->F.rt v L
def EnvD.ioEnd{ν}{K}{G0}{H0 G H}{σ}{Y}(E:EnvD ν K G0 H0 G H σ Y):EF ν K G0 G H (dW Y):=λp R M N=>by
 have L:∀Y,rR (dW Y)=true->∃i:Nat,Y[i]?=some (.io (dW Y)):=λY=>by
  induction Y with
  |nil=>intro h;cases h
  |cons s r ih=>
   cases s with
   |io d=>exact λe=>(0,rfl)
   |_=>exact λh=>let ⟨i,J⟩:=ih h;(i+1,J)
 obtain⟨i,J⟩:=L Y N;obtain⟨q,U,a,b,c,f,_⟩:=E.io.at' i _ J;cases f _ M;exact(b,λx O=>(c x O).1)
def Goes.go{ν}{K}{G0}{H0 G G1}{o}{F}(h:Goes ν K G0 H0 G o F)(s:Same G G1):Goes ν K G0 H0 G1 o F:=by
 cases o with
 |nx N=>exact λJ L M e g=>h J L _ e (s.trans g)
 |rt d w=>exact h
def tEp(ν:NK)(K:Fg)(Y:List Sl)(o:Out):TS:=λF M H=>∃J L G,EnvD ν K J L G H M Y/\Goes ν K J L G o F
def E1(X:Cx)(Y:List Sl)(J:Stmt)(o:Out):Prop:=PS X J (tEp X.nk X.K Y o)
def Ep(X:Cx)(Y:List Sl)(J:List Stmt)(o:Out):Prop:=PSs X J (tEp X.nk X.K Y o)
section
variable {st:Stmt}{rest:List Stmt}{o:Out}{p:Pos}{es:List D}{y:Str}
def GJ:Ep X Y [] (.nx Y):=by rintro J s L H F I ⟨M,N,G,K,R⟩;erw[fR J s L H F I (R G H L K (Same.refl _))]
def yQ(O:E1 X Y st (.nx Y1))(W:Ep X Y1 rest o):Ep X Y (st::rest) o:=by rintro L s U H F I ⟨M,N,G,J,R⟩;exact bV O W _ s U H F I (M,N,G,J,λV T Z K g=>(M,N,V,K,R.go g))theorem ep_consR {w} (O:E1 X Y st (.rt d w)):Ep X Y (st::rest) (.rt d w):=by rintro L s U H F I ⟨M,N,G,J,R⟩;exact bV (u:=λa a a=>False) O (λa a a a a a z=>z.elim) _ s U H F I (M,N,G,J,R)theorem ioOf_fz:∀Y:List Sl,dW (Y.map freeze)=dW Y
 |[]=>rfl
 |s::r=>by cases s<;>first|rfl|exact ioOf_fz r
def yS(h:Ev X (Y.map freeze) e d):E1 X Y (.Return (some e) pos) (.rt d (dW Y)):=by
 rintro M s Z H F I ⟨O,W,G,K,R⟩
 obtain⟨U,J,T⟩:=K.freeze;erw[ng h _ s Z H F I (O,W,U,J,λv N V L r=>R v N V r (J.ext.trans L) (by have:=(J.step L).ioEnd;rwa [ioOf_fz]at this))]
structure Sto(X:Cx)(x:Str)(i:Nat):Prop where
 nd:X.N.Nodup
 nm:GI X x i
def Sto.lt(S:Sto X x i){zp}{H}{s}(I:Inv X zp σ H s):i<σ.length:=by rw[I.len];exact (gi0 S.nm.at').1
def yT(S:Sto X x i)(h:En X Y e d)(hs:swapsWith e (some (.Name x pos')) pos.line X.env=pure false):E1 X Y (.Assign [.Name x pos'] e pos) (.nx (Y.set i (.own d))):=
 by rintro J s W H F I ⟨N,U,G,env,R⟩;exact hV S.nd S.nm.at' S.nm.loc h hs S.nm.fn J s W H F I (N,U,G,env,λp M O K V L r=>
  R M O _ ((env.step K).setOwn (S.lt I) r V (env.ext.hh.free L) (env.fresh L K.gg K.hh)) K.gg)
def CJ{Φ}{Γ}{elt}{ifs}{scope}{tn}{js}{t}{ifs'}{elt'}{out}(S:Sto X x i)(B:BlkOk X scope js)(M:X.calm=true)(b:PI X tg iter (tSi X.nk X.K Y false ds))
  (T:ui X Φ Γ scope @7 tg t ifs ifs' elt elt') (n:jH t tn.length=true) (hz:ds.length<=sizeLine) (W:ay (gr Φ Γ tn.length js t ifs' elt' Y) ds=some out) (hs:∀x,foldedSetIterable iter X.env x=pure x)
  (e:X.env.scope.names.lookup x=some .local) (E:swapsWith (.ListComp elt [(tg,iter,ifs,0)] scope p) (some (.Name x pos')) pos.line X.env=pure true):
  E1 X Y (.Assign [.Name x pos'] (.ListComp elt [(tg,iter,ifs,0)] scope p) pos) (.nx (Y.set i (.own (.list out)))):=by
 intro L s z H F I h;obtain⟨w,m,G,env,R⟩:=h;refine ud (tn:=tn) (js:=js) (g:=tgC X scope @7 tg) (tc:=tcC X scope @7 ifs) (te:=teC X scope @7 elt) B M b
  (λC s H V L Z D N v u A O r h=>h C s H V L Z u O r) (λC s H V L Z D N A O h=>h C s H V L Z O) (λC s H V L Z D N A O h=>h C s H V L Z O) S.nd S.nm.at' e E hs L s z H F I ?_
 refine(w,m,G,env,λJ a H1 U c=>lS (Q:=λv N=>F.nx (z.set i (some v)) N) c T n hz (env.step U) W λq vs f N P k j d r=>?_);have l:=(env.step U).step P;erw[R f N _ (l.setOwn (S.lt I) (_,_,rfl,d,r) k (env.ext.hh.free (U.hh.free j)) ((env.step U).fresh j P.gg P.hh)) (U.gg.trans P.gg)]
def GK{n m}(S:Sto X x i)(W:Y[i]?=some (.dat (.int n)))(h:Ev X Y e (.int m)):E1 X Y (.AugAssign (.Name x pos') .Add e pos) (.nx (Y.set i (.dat (.int (n+m))))):=by
 intro L s T H F I V;obtain⟨M,O,G,J,R⟩:=V;obtain⟨v,ev,U⟩:=J.dat i _ W;cases U;refine FE S.nd S.nm.at' S.nm.loc h FG S.nm.fn _ s T H F I (_,ev,M,O,G,J,λw N D K Z=>?_);cases Z;exact(n,m,rfl,rfl,R N _ _ ((J.step K).set (S.lt I) (.int _)) K.gg)
def JO{a b}{t}(h:Et X Y c t)(Z:t=true->Ep X Y a o)(T:t=false->Ep X Y b o):E1 X Y (.If c a b pos) o:=by
 cases t with
 |true=>
  intro N s V H F I U;obtain⟨K,L,G,J,R⟩:=U;erw[xF (u:=λd d d=>False) h (Z rfl) (λd d d d d d z=>z.elim) _ s V H F I (K,L,G,J,λO W M=>iteT (K,L,O,J.step M,R.go M.gg))]
 |false=>
  intro N s V H F I U;obtain⟨K,L,G,J,R⟩:=U;erw[xF (t:=λd d d=>False) h (λd d d d d d z=>z.elim) (T rfl) _ s V H F I (K,L,G,J,λO W M=>nD (K,L,O,J.step M,R.go M.gg))]
def tXs(X:Cx)(body:List Stmt):TS:=λF K H=>∀J s,Inv X J K H s->wpAny @5 X.A (execs body X.env) (SP X J F) X.xe s
def EG:PSs X body (tXs X body):=λJ s K H F I h=>h _ s I
def tXt(X:Cx)(c:Expr):TT:=λK H Q=>∀J s,Inv X J K H s->wpAny @5 X.A (isTrue c X.env (eval c X.env)) (TP X J K Q) X.xe s
def Mu:PT X c (tXt X c):=λJ s K H Q I h=>h _ s I
def tXg(X:Cx)(tg:Expr):TG:=λv N H Q=>∀J s u,Inv X J N H s->RelV v u->wpAny @5 X.A (assign tg X.env u) (λa M=>∃K L,Inv X J K L M/\Q K L) X.xe s
def Mv:PG X tg (tXg X tg):=λJ s K H v u Q I r h=>h _ s u I r
def GL{t}{run}(hi:Si X Y true iter ds)(ht:Tgj X tg t)(hb:∀V i,run V=some i->Ep X V body i)(h:forL (ax t) run ds Y=some o)
  (hc:X.calm=true) (hp:PassesOwn @5 X.A X.env X.xe) (hf:∀x,foldedSetIterable iter X.env x=pure x):E1 X Y (.For tg iter body [] pos) o:=by
 intro j s σ H F I h0;obtain⟨S,P,G,env,R⟩:=h0;refine FI hp hc (hi _) (Mv (tg:=tg)) (EG (body:=body)) hf j s σ H F I ?_;refine(S,P,G,env,λJ q H1 d f=>(λk m O B=>m=ds.length-k/\k<=ds.length/\∃V Q,forL (ax t) run (ds.drop k) V=some o/\EnvD X.nk X.K S P Q B O V/\Same q Q,(ds.length,by simp,Nat.zero_le _,Y,q,h,env.step d,Same.refl _),?_))
 rintro k m O B ⟨rfl,hk,V,Q,M,L,E⟩
 have g0:=d.gg.trans E
 by_cases N:k<ds.length
 .refine .inr (f.go k B N (E.trans L.sub) L.ext.hh,λU C=>k+1<=ds.length/\∃z W,forL (ax t) run (ds.drop (k+1)) z=some o/\EnvD X.nk X.K S P W C U z/\Same q W,by rintro U C ⟨h1,z,W,p2,Z,l⟩;exact(ds.length-(k+1),by grind,rfl,h1,z,W,p2,Z,l),λv C y=>?_)
  have b:=ge0 N;rw[List.drop_eq_getElem_cons N]at M;generalize ds[k]=u at b M;obtain⟨r,b1,M⟩:=bx0 (M:(ax t u V).bind _=some o);obtain⟨n,b2,M⟩:=bx0 M;obtain⟨W,c,d2⟩:=f.yld k Q B v C u b E L.sub L.ext.hh y;intro T s' u' I' r';refine ht u T s' O C v u' _ I' r' (S,P,W,V,r,L.step c,d2,b1,λU Z=>?_);intro D l I2;refine hb r n b2 D l U C _ I2 (S,P,W,Z,?_);cases n with
  |nx Y3=>exact λa H3 j0 g g3=>(N,Y3,a,M,g,E.trans (c.gg.trans g3))
  |rt dr w=>
   cases M;erw[R]
 .have e:k=ds.length:=by grind
  subst e;rw[List.drop_length]at M;cases M;exact .inl (f.stop B (E.trans L.sub) L.ext.hh,R Q B O L g0)
def yU{cond}{run}(hc:∀J d',cond J=some d'->∃b,d'=.bool b/\Et X J c b)(d:∀J E,run J=some E->Ep X J body E)(n:Nat)(h:ik cond run n Y=some o)
  (i:PassesOwn @5 X.A X.env X.xe):E1 X Y (.While c body [] pos) o:=by
 intro V s σ H F I r;obtain⟨T,B,G,env,R⟩:=r;refine xH i (Mu (c:=c)) (EG (body:=body)) V s σ H F I ?_;refine(λm M D=>∃J W,ik cond run m J=some o/\EnvD X.nk X.K T B W D M J/\Same G W,(n,Y,G,h,env,Same.refl _),?_)
 rintro m M D ⟨J,W,N,L,P⟩
 cases m with
 |zero=>cases N
 |succ m=>
  obtain⟨l,v,N⟩:=bx0 (N:(cond J).bind _=some o);obtain⟨t,rfl,e⟩:=hc J l v;rw[ye,bs0]at N;intro O x q;refine e O x M D _ q (T,B,W,L,λQ S Z=>?_);cases t with
  |true=>
   rw[if_pos rfl]at N;obtain⟨j,f,N⟩:=bx0 N;refine iteT (_,λj0 H2 w2=>(m,Nat.lt_succ_self _,w2),?_);intro U a u;refine d J j f U a M S _ u (T,B,Q,L.step Z,?_);cases j with
   |nx g=>exact λz H3 j1 C k=>(g,z,N,C,P.trans (Z.gg.trans k))
   |rt dr w=>cases N;erw[R]
  |false=>
   cases N;erw[nD (R Q S M (L.step Z) (P.trans Z.gg))]
end
structure VarOk(X:Cx)(x:Str)(i:Nat):Prop where
 at':X.N[i]?=some x
 vis:Vis X.env.scope x
 d:(x==("__debug__":Str))=false
 cd:(x==("__classdict__":Str))=false
section
variable {st:Stmt}{rest:List Stmt}{o:Out}{k:Expr}{p p1 cpos:Pos}{es:List D}{y:Str}
def VarOk.pe(V:VarOk X x i):PE X (.Name x p) (xC i):=fF V.at' V.vis V.d V.cd
def eT{name}:attributeBase (.Name x p1) name env (eval (.Name x p1) env)=eval (.Name x p1) env:=rfl
def dc{ν}{K}{G0}{H0 G H}{σ}(env:EnvD ν K G0 H0 G H σ Y)(h:Y[i]?=some (.own (.list ds))):∃q vs,σ[i]?=some (some (.ref q))/\H q=some (.lst vs)/\Dps K G ds vs:=by
 obtain⟨q,a,_,_,g⟩:=env.own i _ h;obtain⟨J,vs,L,M,N⟩:=g;cases L;exact(q,vs,a,M,N)
def sy{H}{ps}{q}{o}(h:q∈ps):er (upd H q o) ps=er H ps:=by
 funext b
 by_cases z:b∈ps
 .rw[jJ z,jJ z]
 .rw[aH z,aH z,ab λe=>z (by rwa [e])]
def jf{G H}{ps}(s:Same G H)(h:∀b∈ps,G b=.none):Same G (er H ps):=λb o e=>by
 rw[aH λz=>by simp_all];erw[s b o e]
noncomputable def mu(k:Bool)(d:D):Sl:=if k then .io d else .own d
def um{ν}{K}{G0}{H0 G H}{σ}{k}(env:EnvD ν K G0 H0 G H σ Y)(h:Y[i]?=some (mu k (.list ds))):∃q vs,σ[i]?=some (some (.ref q))/\H q=some (.lst vs)/\Dps K G ds vs/\
  ∀{G1 N:Hp}{es:List D}{U:List V},Ext G H G1 N->Dps K G1 es U->EnvD ν K G0 H0 G1 (upd N q (.lst U)) σ (Y.set i (mu k (.list es))):=by
 cases k with
 |false=>
  obtain⟨q,vs,a,b,g⟩:=dc env h;exact(q,vs,a,b,g,λJ r=>(env.step J).change h a (_,_,rfl,aa,r))
 |true=>
  obtain⟨q,B,a,io,_⟩:=env.io.at' i _ h;rcases id io with⟨Z,vs,L,rfl,T,F⟩|⟨_,_,_,_,_,_,L,_⟩|⟨_,_,L,_⟩
  .cases L
   refine(q,vs,a,T,F,λ{G1 N es U} J r=>?_);have O:=env.step J;obtain⟨Q,C,W,M,c,_⟩:=O.io.at' i _ h;rw[a]at W;cases W;obtain rfl:=io.same J.gg (J.hh q) M rfl;erw[O.ioGo h a M (by rw[sy @0];exact .refl (jf O.sub λb R=>(c b R).1)) (λb R=>(c b R).1) (.inl (_,_,rfl,rfl,aa,r))]
  .cases L
  .cases L
def yV{m}(V:VarOk X x i)(h:Ev X Y e d)(hs:isStar e=false)(D:Y[i]?=some (mu m (.list ds)))(hz:ds.length<sizeLine)(J:(apos.endLine==cpos.line)=true):
  E1 X Y (.Expr (.Call (.Attribute (.Name x p1) "append" apos) [e] [] cpos) pos) (.nx (Y.set i (mu m (.list (ds++[d]))))):=by
 have M:=starEach_cons (es:=[]) (env:=X.env) hs;intro K s B H F I T;obtain⟨O,W,G,env,R⟩:=T;obtain⟨q,N,a,b,g,Z⟩:=um env D;refine fU (kY PySem.F.plainAttrs_list PySem.F.slot_list_append PySem.F.type_list_append hX V.pe (pa_cons h pa_nil M) eT (by rw[M];rfl) J M rfl) rfl K s B H F I ?_;refine(.ref q,a,(rfl,N,SqL.of b),O,W,G,env,λw U C L r=>?_);exact(q,N,w,rfl,rfl,L.hh _ _ b,by rw[<-g.length];erw[hz],R U _ _ (Z L ((g.mono L.gg).append (.one r))) L.gg)
def yW{m}(V:VarOk X x i)(h:Er X Y e (.list es))(hs:isStar e=false)(C:Y[i]?=some (mu m (.list ds)))(hz:ds.length+es.length<=sizeLine)(J:(apos.endLine==cpos.line)=true):
  E1 X Y (.Expr (.Call (.Attribute (.Name x p1) "extend" apos) [e] [] cpos) pos) (.nx (Y.set i (mu m (.list (ds++es))))):=by
 have M:=starEach_cons (es:=[]) (env:=X.env) hs;intro L s P H F I D;obtain⟨U,Z,G,env,R⟩:=D;obtain⟨q,O,a,b,g,T⟩:=um env C;refine fU (kY PySem.F.plainAttrs_list PySem.F.slot_list_extend PySem.F.type_list_extend vZ V.pe (pa_cons h pa_nil M) eT (by rw[M];rfl) J M rfl) rfl L s P H F I ?_;refine(.ref q,a,(rfl,O,SqL.of b),U,Z,G,env,λw W E K r=>?_);obtain⟨Q,S,rfl,B,N⟩:=r.lst K.gh;exact(q,Q,O,S,rfl,rfl,K.hh _ _ b,B,by rw[<-g.length,<-N.length];erw[hz],R W _ _ (T K ((g.mono K.gg).append N)) K.gg)
def GM(V:VarOk X x i)(M:Y[i]?=some (.own (.list ds)))(J:(apos.endLine==cpos.line)=true):
  E1 X Y (.Expr (.Call (.Attribute (.Name x p1) "reverse" apos) [] [] cpos) pos) (.nx (Y.set i (.own (.list ds.reverse)))):=by
 intro L s U H F I O;obtain⟨W,Z,G,K,R⟩:=O;obtain⟨q,N,a,b,g⟩:=dc K M;refine fU (xX PySem.F.plainAttrs_list PySem.F.slot_list_reverse PySem.F.type_list_reverse rP V.pe eT J) rfl L s U H F I ?_;exact(.ref q,a,(rfl,N,SqL.of b),q,N,rfl,rfl,b,R G _ _ (K.change M a (_,_,rfl,aa,g.reverse)) (Same.refl _))
def GN(V:VarOk X x i)(S:Sto X y j)(M:Y[i]?=some (.own (.list ds)))(W:ds[ds.length-1]?=some d)(J:(apos.endLine==cpos.line)=true):
  E1 X Y (.Assign [.Name y pos'] (.Call (.Attribute (.Name x p1) "pop" apos) [] [] cpos) pos) (.nx ((Y.set i (.own (.list ds.dropLast))).set j (.dat d))):=by
 intro L s Z H F I U;obtain⟨T,D,G,K,R⟩:=U;obtain⟨q,N,a,b,g⟩:=dc K M;refine hV S.nd S.nm.at' S.nm.loc (xX PySem.F.plainAttrs_list PySem.F.slot_list_pop PySem.F.type_list_pop FS V.pe eT J) rfl S.nm.fn L s Z H F I ?_;obtain⟨v,ev,O⟩:=g.get W;rw[g.length]at ev;exact(.ref q,a,(rfl,N,SqL.of b),q,N,v,rfl,rfl,b,ev,R G _ _ ((K.change M a (_,_,rfl,aa,g.dropLast)).set (S.lt I) O) (Same.refl _))
def jU(J:isSlice k=false):∀v,assign (.Subscript (.Name x p1) k spos) env v=(do
   let ov ←holding [v] (eval (.Name x p1) env)
   let iv ←holding [v,ov] (eval k env)
   standAt spos
   holding [v,ov,iv] (setItem ov iv v)
   release [v,ov,iv] []):=by
 intro v;cases k<;>first|rfl|cases J
def lU :swapsWithSole [.Subscript (.Name x p1) k spos] e pos.line env=pure false:=by
 cases e<;>rfl
def iQ :swappedStores [.Subscript (.Name x p1) k spos] e env=pure .none:=rfl
def CK{n}{m}(V:VarOk X x i)(h:Ev X Y e d)(C:Ev X Y k (.int n))(M:isSlice k=false)(Z:Y[i]?=some (.own (.list ds)))(Q:SI.ixN ds.length n=some m):
  E1 X Y (.Assign [.Subscript (.Name x p1) k spos] e pos) (.nx (Y.set i (.own (.list (ds.set m d))))):=by
 intro K s A H F I B;obtain⟨N,O,G,J,R⟩:=B;obtain⟨q,E,a,b,g⟩:=dc J Z;refine jy h (nh V.pe C set_list (jU M)) lU iQ rfl K s A H F I ?_;refine(N,O,G,J,λv T j U S=>(.ref q,a,N,O,T,J.step U,λw D z W P=>?_));cases P;have L:=U.trans W;exact(q,E,n,m,rfl,rfl,L.hh _ _ b,by rw[<-g.length];erw[Q],R D _ _ ((J.step L).change Z a (_,_,rfl,aa,(g.mono L.gg).set (S.mono W.gg) m)) L.gg)
def jV(h:isSlice k=false):ub k:=by cases k<;>first|exact λa a=>rfl|cases h
end
inductive Ars (K:Fg)(G:Hp)(σ:St):List (Sum Nat D)->List V->Prop
 |nil:Ars K G σ [] []
 |v {j:Nat}{v:V}{zs:List (Sum Nat D)}{vs:List V}:σ[j]?=some (some v)->Ars K G σ zs vs->Ars K G σ (.inl j::zs) (v::vs)
 |x {d:D}{v:V}{zs:List (Sum Nat D)}{vs:List V}:Dp K G d v->Ars K G σ zs vs->Ars K G σ (.inr d::zs) (v::vs)
inductive Dai (K:Fg)(G H:Hp)(p:Addr)(d0:D):Nat->List Bool->List D->List V->Prop
 |io {fl:List Bool}{ds:List D}{vs:List V}:Das K G H fl.tail ds vs->Dai K G H p d0 0 fl (d0::ds) (.ref p::vs)
 |cons {n:Nat}{fl:List Bool}{d:D}{v:V}{ds:List D}{vs:List V}:(fl.headD false=false->Dp K G d v)->Dr K G H d v->Dai K G H p d0 n fl.tail ds vs->Dai K G H p d0 (n+1) fl (d::ds) (v::vs)
def Pio(ν:NK)(K:Fg)(R:Fn)(n:Nat):Sp:=λU H Q a=>∃O N e w G p J,R.run O=some (.tuple [e,w])/\Same G (er H J)/\IoAt ν K G H N p J/\Dai K G (er H J) p N n R.lent O U/\
 ∀v L M,Ext G (er H J) L (er M J)->IoAt ν K L M w p J->Dp K L e v->Q v M
structure GO(P:Program)(w:World)(K:Fg)(mg:A6)(base:Heap)(k:Nat)(x:Str)(n:Nat)(φ:Fn):Prop where
 ex:∃f fd ps,mg x=some (.ref f)/\PySem.W.keepIn K (.ref f)=true/\Binds K fd ps []/\FnOk P w K mg base CX0 k f fd ps (Pio (aM w) K φ n)
structure GP(P:Program)(w:World)(K:Fg)(mg:A6)(base:Heap)(k:Nat)(c:Addr)(m:Str)(φ:Fn):Prop where
 nm:m≠"objects"/\m≠"numbers"
 ex:∃f fd ps,Cls K c/\nr K c m f/\Binds K fd ps []/\FnOk P w K mg base CX0 k f fd ps (Pio (aM w) K φ 0)
noncomputable def CL(C J l n:Addr):HO:=.ins C J [("objects",.ref l),("numbers",.ref n)]
def jW(C x J l n:Addr)(H:Hp):Hp:=upd (upd (upd (upd H l (.lst [])) x (.ins C J [("objects",.ref l)])) n (.dK [])) x (CL C J l n)
def yX(C:Addr):Sp:=λK H Q a=>∃x J,K=[.ref x]/\H x=some (.ins C J [])/\∀l n,H l=none->H n=none->l≠n->Q .non (jW C x J l n H)
structure jX(P:Program)(w:World)(K:Fg)(mg:A6)(base:Heap)(C:Addr)(vn:Str):Prop where
 ex:∃f fd,Mk K C f/\mg vn=some (.ref C)/\(vn==("__debug__":Str))=false/\Binds K fd ["self"] []/\FnOk P w K mg base CX0 1 f fd ["self"] (yX C)
structure IoZ(P:Program)(w:World)(K:Fg)(mg:A6)(base:Heap)(Φ:Fs)(vc:Option Nat)(io:IoC)(k:Nat):Prop where
 fn:∀f n,io.ios.lookup f=some n->∀φ,Φ f=some φ->GO P w K mg base k f n φ
 put:∀c,vc=some c->io.vn.isSome=true->GP P w K mg base 2 c "put" ⟨[true,false],nI c⟩
 nv:∀c v,vc=some c->io.vn=some v->jX P w K mg base c v
def iA{N:A1}(h:N.idxOf? x=some i):N[i]?=some x:=by
 obtain⟨J,K,_⟩:=List.findIdx?_eq_some_iff_getElem.mp h
 simp_all
structure CxC(X:Cx)(C:Cs):Prop where
 N:X.N=C.N
 nd:C.N.Nodup
 vis:∀x k,C.sc.names.lookup x=some k->(k=.local\/k=.cell\/k=.free)->Vis X.env.scope x
 loc:∀x k,C.sc.names.lookup x=some k->(k=.local\/k=.cell)->Loc X.env.scope x/\(X.fn x=true\/X.env.scope.names.lookup x=some .local)
 cell:∀x,C.sc.names.lookup x=some .cell->X.env.kindOf x=some .cell
 glob:∀x,C.sc.names.lookup x=some .globalImplicit->Gl X x
 calm:X.calm=true
 kind:X.env.scope.kind=.function
noncomputable def bltNames:List Str:=["len","max","min","int","list","str","isinstance","range","tuple","bool","reversed","dict","zip","all","ord","sorted","set"]
structure CM(P:Program)(w:World)(K:Fg)(mg:A6)(base:Heap)(k:Nat)(c:Addr)(m:Str)(φ:Fn):Prop where
 nm:m≠"objects"/\m≠"numbers"
 ex:∃f fd ps,nr K c m f/\Binds K fd ps []/\FnOk P w K mg base CX0 k f fd ps (Pur K φ)
structure Wz(X:Cx)(Φ:Fs)(Γ:List (Str×D))(C:Cs)(k:Nat):Prop where
 blt:∀x∈bltNames,X.mg x=Option.none
 fns:∀x,C.fns.contains x=true->∀φ,Φ x=some φ->FnZ X.prog X.w X.K X.mg X.base k x φ
 gl:∀x d,Γ.lookup x=some d->∃u v,X.mg x=some u/\RelV v u/\∀G,Dp X.K G d v
 room:Room k X.A
 two:2<=k
 vc:∀c,C.vc=some c->Cls X.K c/\NoAttr X.K c "objects"
 vf:∀c m,C.vc=some c->C.vms.contains m=true->∀φ,Φ (bL m)=some φ->CM X.prog X.w X.K X.mg X.base k c m φ
 io:IoZ X.prog X.w X.K X.mg X.base Φ C.vc C.io k
structure SdE(X:Cx)(Φ:Fs)(Γ:List (Str×D))(e:Expr)(E':E)(n:Bool):Prop where
 v:∀{Y d},ev Φ Γ .val Y E'=some d->Ev X Y e d
 r:∀{Y d},ev Φ Γ .read Y E'=some d->Er X Y e d
 w:∀{Y d},ev Φ Γ .walk Y E'=some d->Ek X Y e d
 t:∀{Y d},ev Φ Γ .test Y E'=some d->∃b,d=.bool b/\Et X Y e b
 n:n=true->∀{Y d},ev Φ Γ .val Y E'=some d->cA d=true->En X Y e d
def lV{o}{m}{apos pos}{es}{env}(M:bu o=false)(hs:aL es)(N:es.length<=20)(K:(apos.endLine==pos.line)=true):
  eval (.Call (.Attribute o m apos) es [] pos) env=(do
   let ov ←eval o env
   standAt apos.atName
   let (f,first) ←holding [ov] (getMethod ov m (do return (<-importBound o env).getD true))
   callWith pos f first (backTo pos (starEach es env)) (backToKw pos (keywordEach [] env))):=by
 have J:methodCallForm (es.length+([]:List Keyword).length) (backTo pos (starEach es env)) (backToKw pos (keywordEach [] env))=true:=by
  unfold methodCallForm;rw[lI hs];show (true&&true&&decide (es.length+0+0<30))=true
  grind
 rw[arm_eval_Call,base_of M];unfold methodCall;rw[J];have L:methodCallPos true o env apos pos=pure pos:=by unfold methodCallPos;simp[K]
 rw[L];rfl
section
variable {c h k:Nat}{os:List D}{m:Str}{p px:Pos}
def sA{K}{G H}{v}(L:m≠"objects"/\m≠"numbers")(r:Dr K G H (.vlt c h os) v):∃a M J,v=.ref a/\H a=some (.ins c M J)/\J.lookup m=.none:=by
 cases r with
 |of O=>cases O
 |vlt N R r=>
  refine(_,_,_,rfl,N,?_);simp[vfs,lk0,(bn0 L.1),(bn0 L.2)]
def yY{φ}(F:CM X.prog X.w X.K X.mg X.base k c m φ)(hc:Cls X.K c)(t:Room k X.A)(l:Er X Y o (.vlt c h os))(ha:Ea X Y φ.lent.tail es ds)(hl:φ.lent.headD false=true)(J:φ.run (.vlt c h os::ds)=some d)(hs:aL es)(O:es=[]->ds=[])
  {pl} (r:eval (.Call (.Attribute o m apos) es [] pos) X.env=(do
   let ov ←eval o X.env
   standAt apos.atName
   let (f,first) ←holding [ov] (getMethod ov m pl)
   callWith pos f first (backTo pos (starEach es X.env)) (backToKw pos (keywordEach [] X.env)))):Ev X Y (.Call (.Attribute o m apos) es [] pos) d:=by
 obtain⟨f,fd,ps,g,u,q⟩:=F.ex;intro L s i H Q I h0;obtain⟨V,T,G,E,b⟩:=h0;cases es with
 |nil=>
  refine xT (pl:=pl) l hc g q t u .nil kZ r L s i H Q I (V,T,G,E,λv W x M R=>?_);obtain⟨a,D,B,rfl,C,S⟩:=sA F.nm R;refine(a,D,B,rfl,C,S,?_);have P:=O rfl;subst P;exact([.vlt c h os],d,W,J,M.gh,.cons (λz=>by rw[hl]at z;cases z) R .nil,λv U Z N j=>b v U Z (M.trans N) j)
 |cons e es=>
  refine tZ (pl:=pl) l hc g q t u .nil kZ ha (starEach_cons (hs e ms0)) (aW λy hy=>hs y (mc0 _ hy)) r L s i H Q I (V,T,G,E,λv W x M R=>?_);obtain⟨a,D,B,rfl,C,S⟩:=sA F.nm R;exact(a,D,B,rfl,C,S,V,T,W,E.step M,λvs n H2 N j=>(_,d,n,J,N.gh,by rw[List.append_nil];exact .cons (λz=>by simp_all) (R.ext N) j,λv U Z e3 r3=>b v U Z (M.trans (N.trans e3)) r3))
end
section
variable {Φ:Fs}{C:Cs}{k:Nat}{E':E}
def yZ{n}{core:List Sl->Option D}(h:∀m Y,ev Φ Γ m Y E'=fin m (core Y))(J:∀Y d,core Y=some d->Ev X Y e d/\(n=true->cA d=true->En X Y e d))(L:∀Y d t,core Y=some d->pF d=some t->Et X Y e t):SdE X Φ Γ e E' n:=by
 refine(λq=>?_,λq=>?_,λq=>?_,λq=>?_,λf a a q=>?_)
 .rw[h]at q;exact (J _ _ q).1
 .rw[h]at q;exact (J _ _ q).1.er
 .rw[h]at q;exact (J _ _ q).1.ek
 .rw[h]at q
  obtain⟨K,M,N⟩:=bx0 q;obtain⟨t,O,R⟩:=mx0 N;exact(t,R.symm,L _ K t M O)
 .rw[h]at q;exact (J _ _ q).2 f
def eA{n}{core:List Sl->Option D}(h:∀m Y,ev Φ Γ m Y E'=fin m (core Y))(K:∀Y d,core Y=some d->Ev X Y e d/\(n=true->cA d=true->En X Y e d))(L:∀J,isTrue e X.env J=(do let v ←J;standAt e.pos;holding [v] (truthy v)):=by intro;rfl):SdE X Φ Γ e E' n:=
 yZ h K λY d t M N=>jN (K Y d M).1.er N L
def ba{core:List Sl->Option D}(h:∀m Y,ev Φ Γ m Y E'=fin m (core Y))(L:∀Y d,core Y=some d->Ev X Y e d)(K:∀J,isTrue e X.env J=(do let v ←J;standAt e.pos;holding [v] (truthy v)):=by intro;rfl):SdE X Φ Γ e E' false:=
 eA h (λY d q=>(L Y d q,λz=>by cases z)) K
def sC{core:List Sl->Option D}(h:∀m Y,ev Φ Γ m Y E'=fin m (core Y))(K:∀Y d,core Y=some d->En X Y e d)(L:∀J,isTrue e X.env J=(do let v ←J;standAt e.pos;holding [v] (truthy v)):=by intro;rfl):SdE X Φ Γ e E' true:=
 eA h (λY d q=>((K Y d q).ev,λa a=>K Y d q)) L
set_option tactic.hygienic true
def bc(c:CxC X C)(h:dU C x=some i):VarOk X x i:=by
 unfold dU at h;split at h
 .rename_i j K
  split at h
  .rename_i q
   cases h;rw[be0,Bool.or_eq_true,Bool.or_eq_true]at q;obtain⟨q1,J⟩:=q;unfold df at J;rw[be0,be0]at J;refine(by rw[c.N];erw[iA K],?_,by simpa using J.1.1,by simpa using J.1.2);rcases q1 with (q1|q1)|q1
   .erw[c.vis x _ (eq_of_beq q1) (.inl rfl)]
   .erw[c.vis x _ (eq_of_beq q1) (.inr (.inl rfl))]
   .erw[c.vis x _ (eq_of_beq q1) (.inr (.inr rfl))]
  .cases h
 .cases h
def sD(c:CxC X C)(h:iZ C x=some i):GI X x i:=by
 unfold iZ at h;split at h
 .rename_i j J
  split at h
  .rename_i q
   cases h;rw[be0,Bool.or_eq_true]at q;obtain⟨q1,K⟩:=q;have l:Loc X.env.scope x/\(X.fn x=true\/X.env.scope.names.lookup x=some .local):=by
    rcases q1 with q1|q1
    .erw[c.loc x _ (eq_of_beq q1) (.inl rfl)]
    .erw[c.loc x _ (eq_of_beq q1) (.inr rfl)]
   exact(by rw[c.N];erw[iA J],l.1,l.2)
  .cases h
 .cases h
set_option tactic.hygienic false
def dE(c:CxC X C)(h:iZ C x=some i):Sto X x i:=(by rw[c.N];erw[c.nd],sD c h)
def bQ(c:CxC X C)(h:ah C x=true):Gl X x/\x≠"__name__"/\(x==("__debug__":Str))=false:=by
 unfold ah at h;rw[be0]at h;unfold df dZ at h;rw[be0,be0]at h;exact(c.glob x (eq_of_beq h.1),by simpa using h.2.2,by simpa using h.2.1.1)
def aO(c:CxC X C)(w:Wz X Φ Γ C k)(h:ah C x=true)(J:x∈bltNames):Blt X x:=((bQ c h).1,w.blt x J,(bQ c h).2.1,(bQ c h).2.2)
def qf(c:CxC X C){t:Tg}(h:cTg C tg=some t):Tgj X tg t:=by
 have M:∀{J:A3}{K:List Nat},slots C J=some K->Nms X J K:=by
  intro J
  induction J with
  |nil=>intro K h;cases h;exact .nil
  |cons e r ih=>
   intro K h;cases e with
   |Name x W=>
    obtain⟨i,L,O⟩:=bx0 (show (iZ C x).bind _=some K from h);obtain⟨U,R,rfl⟩:=mx0 O;exact .cons (sD c L) (ih R)
   |_=>cases h
 cases tg with
 |Name x W=>
  obtain⟨i,L,rfl⟩:=mx0 (show (iZ C x).map _=some t from h);have n:=sD c L;erw[qe (by rw[c.N];exact c.nd) n.at' n.loc n.fn]
 |Tuple J n V=>
  obtain⟨K,L,rfl⟩:=mx0 (show (slots C J).map _=some t from h);erw[CH c.calm (by rw[c.N];exact c.nd) (M L)]
 |_=>cases h
theorem lW{N}:∀{xs:A1}{js},rX N xs=some js->(js.map λj=>N.getD j Str.empty)=xs/\∀j∈js,∃x∈xs,N[j]?=some x
 |[],js,h=>by cases h;simp
 |x::r,js,h=>by
  obtain⟨i,J,K⟩:=bx0 (h);obtain⟨M,L,rfl⟩:=mx0 K;obtain⟨O,R⟩:=lW L;have e:=iA J
  simp_all
theorem bW{env:Env}{nk}(J:nk≠.free):∀{names:List (Str×NameKind)}{x:Str},names.lookup x=some nk->
  (names.map λ(n,k)=>if (k==NameKind.free&&env.scope.kind==.function&&env.kindOf n==some .cell)then (n,NameKind.cell)else (n,k)).lookup x=some nk
 |[],_,h=>by simp at h
 |(n,k)::r,x,h=>by
  have ih:=@bW env nk J r x;show List.lookup x ((if (k==NameKind.free&&env.scope.kind==.function&&env.kindOf n==some _)=true then (n,NameKind.cell)else (n,k))::_)=_;cases K:x==n with
  |true=>
   simp_all
  |false=>
   simp only[lk0,K]at h
   by_cases L:(k==NameKind.free&&env.scope.kind==.function&&env.kindOf n==some .cell)=true
   .rw[if_pos L];simp only[lk0,K];erw[ih h]
   .rw[if_neg L];simp only[lk0,K];erw[ih h]
structure Mw(X:Cx)(C B:Cs)(sc:Scope)(tg:Expr)(nt:Nat)(js:List Nat):Prop where
 ok:BlkOk X sc js
 nt:nt=(bw tg).length
 n:B.N=aA X (bw tg) js
 cx:∀(A:Addr)(s:Shared)(H:Hp)(fp:A4),CxC (L2.C.blk X sc (aA X (bw tg) js) A s H fp) B
 same:B.fns=C.fns/\B.cst=C.cst/\B.vc=C.vc/\B.vms=C.vms/\B.io=C.io
set_option tactic.hygienic true in
def nR(c:CxC X C){sc}{tg}{B}{nt}{js}(h:yi C sc tg=some (B,nt,js)):Mw X C B sc tg nt js:=by
 unfold yi at h;split at h
 .rename_i q
  obtain⟨V,T,R⟩:=mx0 h;injection R with R U
  injection U with U F
  subst R U F;unfold Ez at q;simp only[be0]at q;obtain⟨⟨⟨⟨Z,E⟩,v⟩,u⟩,g⟩:=q;have M:=λy L=>List.all_eq_true.mp E y L
  obtain⟨G,I⟩:=lW T;have Y:bw tg++freeOf sc=aA X (bw tg) V:=by
   unfold aA;rw[c.N,G]
  have K:∀y∈sc.names,y.2=.free->X.env.kindOf y.1=some .cell:=λy L D=>by
   have z:=M y L;simp only[be0,Bool.or_eq_true]at z;rcases z.1.1 with z|z
   .rw[D]at z;simp at z
   .erw[c.cell y.1 (eq_of_beq z)]
  have J:∀y∈sc.names,y.2≠.cell:=λy L=>by
   have z:=M y L;simp only[be0]at z
   simpa using z.1.2
  refine((eq_of_beq Z,K,J,λy L S=>?_,λj Q=>?_),rfl,Y,λA s H f=>(Y.symm,od0 g,λx W e O=>?_,λx W e O=>?_,λx e=>?_,λx e=>?_,c.calm,eq_of_beq Z),rfl,rfl,rfl,rfl,rfl)
  .have z:=M y L
   simp only[be0,Bool.or_eq_true]at z;rcases z.2 with z|z
   .rw[S]at z;simp at z
   .erw[eq_of_beq z]
  .obtain⟨x,P,e⟩:=I j Q
   refine(x,by rw[c.N];erw[e],eq_of_beq (List.all_eq_true.mp u x P))
  .have e:sc.names.lookup x=some W:=e
   rcases O with rfl|rfl|rfl
   .exact .inl (lookup_relabel_local e)
   .erw[absurd rfl (J _ (ml0 e))]
   .exact .inr (.inl (aY c.kind e (K _ (ml0 e) rfl)))
  .have e:sc.names.lookup x=some W:=e
   rcases O with rfl|rfl
   .exact(.inl (lookup_relabel_local e),.inr (lookup_relabel_local e))
   .erw[absurd rfl (J _ (ml0 e))]
  .have e:=e
   erw[absurd rfl (J _ (ml0 e))]
  .have e:=e
   erw[bW (env:=X.env) @2 e]
 .cases h
end
def bS{J:Type}{o:Option α}{f:α->Option J}{c:J}(h:o.bind f=some c):∃x,o=some x/\f x=some c:=bx0 h
noncomputable def mS{J:Type}{o:Option α}{f:α->J}{c:J}(h:o.map f=some c):∃x,o=some x/\f x=c:=mx0 h
def iS{p:Prop}[Decidable p]{x:α}{c:α}(h:(if p then some x else .none)=some c):p/\x=c:=by
 simp_all
def iB{p:Prop}[Decidable p]{x:Option α}{c:α}(h:(if p then x else .none)=some c):p/\x=some c:=by
 simp_all
def nt{b:Bool}(h:(!b)=true):b=false:=by simpa using h
def a2{a b:Bool}(h:(a&&b)=true):a=true/\b=true:=by simpa using h
def Apt(ν:NK)(K:Fg)(G H:Hp)(J:St)(Y:List Sl)(p:Addr):Prop:=(∀(j:Nat) e,Y[j]?=some (.own e)->J[j]?≠some (some (.ref p)))/\∀(j:Nat) e q fp,Y[j]?=some (.io e)->J[j]?=some (some (.ref q))->IoAt ν K G H e q fp->p∉fp
structure Gx(ν:NK)(K:Fg)(G H:Hp)(σ:St)(Y:List Sl)(G' H':Hp)(Y':List Sl):Prop where
 gg:Same G G'
 kp:∀q o,H q=some o->G q=none->Apt ν K G H σ Y q->H' q=some o/\G' q=none/\Apt ν K G' H' σ Y' q
theorem Gx.refl{ν:NK}{G H}{Y}:Gx ν K G H σ Y G H Y:=(Same.refl _,λb b h g a=>(h,g,a))
theorem Gx.trans{ν:NK}{G H G1 H1 G2 H2}{Y Y1 Y2}(a:Gx ν K G H σ Y G1 H1 Y1)(b:Gx ν K G1 H1 σ Y1 G2 H2 Y2):Gx ν K G H σ Y G2 H2 Y2:=
 (a.gg.trans b.gg,λq o h g c=>let ⟨M,L,J⟩:=a.kp q o h g c;b.kp q o M L J)
def EnvD.gx{ν:NK}{G0}{H0 G H G' H'}{Y}(E:EnvD ν K G0 H0 G H σ Y)(e:Ext G H G' H'):Gx ν K G H σ Y G' H' Y:=
 (e.gg,λq o h g a=>(e.hh _ _ h,e.nw _ _ g h,a.1,λj d p R N J io=>by
  obtain⟨U,O,L,M,_⟩:=E.io.at' j d N;rw[J]at L;cases L;rw[<-M.same e.gg (e.hh p) io rfl];erw[a.2 j d p O N J M]))
def tO(ν:NK)(K:Fg)(Y:List Sl)(d:D)(R:List Sl):TE:=λM H Q=>∃N O G,EnvD ν K N O G H M Y/\∀v J L,EnvD ν K N O J L M R->Gx ν K G H M Y J L R->Dp K J d v->Q v L
def tOa(ν:NK)(K:Fg)(Y:List Sl)(zs:List (Sum Nat D))(R:List Sl):TA:=λJ H Q=>∃N O G,EnvD ν K N O G H J Y/\∀U L M,EnvD ν K N O L M J R->Gx ν K G H J Y L M R->Ars K L J zs U->Q U M
def EvO(X:Cx)(Y:List Sl)(e:Expr)(d:D)(J:List Sl):Prop:=PE X e (tO X.nk X.K Y d J)
def EaO(X:Cx)(Y:List Sl)(es:A3)(zs:List (Sum Nat D))(J:List Sl):Prop:=PA X es (tOa X.nk X.K Y zs J)
section
variable {ν:NK}{G0:Bs}{p:Addr}{zs:List (Sum Nat D)}
def Ars.dps{G}:∀{zs:List (Sum Nat D)}{vs:List V}{ds:List D},Ars K G σ zs vs->wg zs=some ds->Dps K G ds vs:=by
 intro zs vs ds r
 induction r generalizing ds with
 |nil=>intro h;cases h;exact .nil
 |v=>intro h;cases h
 |x a r ih=>
  intro h;obtain⟨q,J,rfl⟩:=mx0 h;exact .cons a (ih J)
def uo{k}(env:EnvD ν K G0 H0 G H σ Y)(h:Y[i]?=some (mu k d))(hl:k=false->∃ds,d=.list ds):∃p J,σ[i]?=some (some (.ref p))/\IoAt ν K G H d p J/\(∀b∈J,G b=none/\H0 b=none)/\(∀(j:Nat) e q,j≠i->Y[j]?=some (.own e)->σ[j]?=some (some (.ref q))->q∉J)/\
  ∀{L M:Hp}{w:D},(k=false->∃es,w=.list es)->Ext G (er H J) L (er M J)->IoAt ν K L M w p J->EnvD ν K G0 H0 L M σ (Y.set i (mu k w))/\Gx ν K G H σ Y L M (Y.set i (mu k w)):=by
 have m:∀{J:A4}{L M:Hp}{w:D}{p},σ[i]?=some (some (.ref p))->IoAt ν K G H d p J->Ext G (er H J) L (er M J)->IoAt ν K L M w p J->(∀q,Apt ν K G H σ Y q->q∉J)->(∀(j:Nat) e q,j≠i->Y[j]?=some (.io e)->σ[j]?=some (some (.ref q))->q∉J)->Gx ν K G H σ Y L M (Y.set i (mu k w)):=λ{J L M w p} hp j1 x io S C=>by
  refine(x.gg,λq o Z T a=>?_);have P:=S q a;refine((dB (x.hh q o (by rw[aH P];erw[Z]))).2,x.nw q o T (by rw[aH P];erw[Z]),λj e O N=>?_,λj e I j0 O N V=>?_)
  .rcases getE_set O with⟨rfl,z⟩|⟨_,z⟩
   .cases k with
    |true=>cases z
    |false=>exact a.1 j d h N
   .erw[a.1 j e z N]
  .rcases getE_set O with⟨rfl,z⟩|⟨F,z⟩
   .cases k with
    |true=>
     cases z;rw[hp]at N;cases N;rw[V.same (Same.refl _) (λl h=>h) io rfl];erw[P]
    |false=>cases z
   .obtain⟨p2,u,R,W,_⟩:=env.io.at' j e z
    rw[N]at R;cases R;refine W.same x.gg (λo Q=>(dB (x.hh I o ?_)).2) V rfl▸a.2 j e I u z N W;rw[aH (C j e I F z N)];erw[Q]
 have v:∀{J:A4}{L M:Hp},Ext G (er H J) L (er M J)->∀b∈J,L b=none:=λ{J L M} x b B=>by
  cases q:L b with
  |none=>rfl
  |some o=>have:=x.gh b o q;rw[jJ B]at this;cases this
 cases k with
 |true=>
  obtain⟨p,J,a,b,c,f,g⟩:=env.io.at' i _ h;exact(p,J,a,b,c,λj e q l=>g j e q,λ{L M w} l x io=>(env.ioGo h a b x (v x) io,m a b x io (λq z=>z.2 i d p J h a b) λj e q F O=>absurd (env.io.one j i e d O h) F))
 |false=>
  obtain⟨ds,rfl⟩:=hl rfl;obtain⟨p,a,c,f,g⟩:=env.own i _ h;obtain⟨s,vs,Z,T,t⟩:=g
  .cases Z
   refine(p,[p],a,.inl (_,_,rfl,rfl,T,t),λb B=>by obtain rfl:=List.mem_singleton.mp B;exact(c,f),λj e q O Q S U=>?_,λ{L M w} hw x io=>?_)
   .obtain rfl:=List.mem_singleton.mp U
    erw[O (env.apart j i _ _ q Q h S a)]
   .obtain⟨n,rfl⟩:=hw rfl
    rcases io with⟨es,ws,z,_,A,y⟩|⟨_,_,_,_,_,_,z,_⟩|⟨_,_,z,_⟩<;>cases z
    .refine(env.ownGo h a x (v x p @0) (_,_,rfl,A,y),m a (.inl (_,_,rfl,rfl,T,t)) x (.inl (_,_,rfl,rfl,A,y)) (λq z U=>z.1 i _ h (by rw[List.mem_singleton.mp U];erw[a])) λj e q F O N U=>?_)
     obtain rfl:=List.mem_singleton.mp U;obtain⟨q2,u,R,W,b3,_,X⟩:=env.io.at' j e O;rw[N]at R;cases R;rcases id W with⟨_,_,_,E,_⟩|⟨_,_,_,_,_,_,_,_,_,r,_⟩|⟨_,_,_,E,_⟩
     .erw[X i _ q h a (by rw[E];simp)]
     .rw[c]at r;cases r
     .erw[X i _ q h a (by rw[E];simp)]
section
variable (eD:EnvD ν K G0 H0 G H σ Y)(hfD:∀b∈fp,H0 b=none)(hpD:∀(j:Nat) e q,j≠i->Y[j]?=some (.own e)->σ[j]?=some (some (.ref q))->q∉fp)
include eD hfD hpD
set_option tactic.hygienic true in
theorem sE{b}{v}(R:j≠i)(h:(Y[j]?).bind (iP b)=some d)(U:σ[j]?=some (some v)):(b=false->Dp K G d v)/\Dr K G (er H fp) d v:=by
 obtain⟨sl,L,J⟩:=bx0 h;have dat:∀{M},σ[j]?=some (some M)->M=v:=λa=>by rw[U]at a;cases a;rfl
 cases sl with
 |dat e=>
  cases J;obtain⟨M,a,r⟩:=eD.dat j _ L;cases dat a;exact(λf=>r,.of r)
 |lent e=>
  have J:(if (b||!cA e)=true then some e else none)=some d:=J;split at J
  .rename_i c
   cases J;obtain⟨M,a,r⟩:=eD.lent j _ L;cases dat a;have N:Dr K G (er H fp) d v:=r.mono2 eD.ext.gg λx o e=>by rw[aH λm=>by rw[hfD x m]at e;cases e];erw[eD.ext.hh x o e]
   exact(λz=>N.dp (by subst z;simpa using c),N)
  .cases J
 |own e=>
  cases b with
  |false=>cases J
  |true=>
   cases J;obtain⟨q,a,_,_,g⟩:=eD.own j _ L;cases dat a;have V:=hpD j _ q R L a;refine(λz=>(by cases z),?_);obtain⟨W,Z,rfl,J,O⟩:=g;exact .list (by rw[aH V];erw[J]) O
 |_=>cases J
theorem nU:∀{zs:List (Sum Nat D)}{fl:List Bool}{ds:List D}{vs:List V},Ars K G σ zs vs->iX Y i fl zs=some ds->Das K G (er H fp) fl ds vs:=by
 intro zs fl ds vs r
 induction r generalizing fl ds with
 |nil=>intro h;cases h;exact .nil
 |@v j _ zs _ a r ih=>
  intro h;have h:(if j=i then none else ((Y[j]?).bind (iP (fl.headD false))).bind λd=>(iX Y i fl.tail zs).map (d::·))=some _:=h;split at h
  .cases h
  .obtain⟨d,J,h⟩:=bx0 h
   obtain⟨q,L,rfl⟩:=mx0 h;obtain⟨M,N⟩:=sE eD hfD hpD ‹_› J a;exact .cons M N (ih L)
 |x a r ih=>
  intro h;obtain⟨q,J,rfl⟩:=mx0 h;exact .cons (λb=>a) (.of a) (ih J)
theorem nV{p}(M:σ[i]?=some (some (.ref p))):∀{n:Nat}{zs:List (Sum Nat D)}{fl:List Bool}{ds:List D}{vs:List V},Ars K G σ zs vs->iY Y i n fl zs=some ds->∃d0,(Y[i]?).bind (aF .read)=some d0/\Dai K G (er H fp) p d0 n fl ds vs
 |0,_,fl,_,_,.v (j:=j) (zs:=zs) a r,h=>by
  have h:(if j=i then ((Y[j]?).bind (aF .read)).bind λd=>(iX Y i fl.tail zs).map (d::·)else none)=some _:=h;split at h
  .subst j
   obtain⟨d,J,h⟩:=bx0 h;obtain⟨q,L,rfl⟩:=mx0 h;rw[M]at a;cases a;exact(d,J,.io (nU eD hfD hpD r L))
  .cases h
 |n+1,_,fl,_,_,.v (j:=j) (zs:=zs) a r,h=>by
  have h:(if j=i then none else ((Y[j]?).bind (iP (fl.headD false))).bind λd=>(iY Y i n fl.tail zs).map (d::·))=some _:=h;split at h
  .cases h
  .obtain⟨d,J,h⟩:=bx0 h
   obtain⟨q,L,rfl⟩:=mx0 h;obtain⟨R,U⟩:=sE eD hfD hpD ‹_› J a;obtain⟨d0,N,O⟩:=nV M r L;exact(d0,N,.cons R U O)
 |n+1,_,fl,_,_,.x a r,h=>by
  obtain⟨q,J,rfl⟩:=mx0 h;obtain⟨d0,N,O⟩:=nV M r J;exact(d0,N,.cons (λb=>a) (.of a) O)
 |0,_,_,_,_,.x a r,h=>by cases h
 |0,_,_,_,_,.nil,h=>by cases h
 |n+1,_,_,_,_,.nil,h=>by cases h
end
end
section
variable {Y2 Y':List Sl}{w:D}{zs:List (Sum Nat D)}{k:Nat}{y m:Str}{p p1:Pos}
def JP(V:VarOk X x j)(Z:((Y[j]?).bind (aF .read)).isSome=true)(F:EaO X Y es zs Y'):EaO X Y (.Name x p::es) (.inl j::zs) Y':=by
 rintro D J s B H Q I ⟨M,O,G,E,k⟩
 obtain⟨d,T⟩:=is0 Z;obtain⟨sl,U,W⟩:=bx0 T;obtain⟨v,a,_⟩:=E.read U W;erw[pa_cons V.pe F rfl _ _ s B H Q I (v,a,M,O,G,E,λC L N K g R=>k _ L N K g (.v a R))]
def za{G0}{H0 G H}{φ}{Q}{E}(R:EnvD X.nk X.K G0 H0 G H σ Y1)(F:Ars X.K G σ zs vs)(q:iY Y1 i n φ.lent zs=some ds)(N:φ.run ds=some (.tuple [d,w]))(J:setIo Y1 i w=some Y2)
  (k:∀v L M,EnvD X.nk X.K G0 H0 L M σ Y2->Gx X.nk X.K G H σ Y1 L M Y2->Dp X.K L d v->Q v M):Pio (aM X.w) X.K φ n vs H Q E:=by
 obtain⟨kk,P,V,a2,W,rfl⟩:=(show ∃k d,Y1[i]?=some (mu k d)/\(k=false->∃ds,d=.list ds)/\(k=false->∃A,w=.list A)/\Y2=Y1.set i (mu k w) by
   revert J;unfold setIo;generalize Y1[i]?=z;intro J;cases z with
   |none=>exact zn0 J
   |some z=>cases z with
    |own a=>cases a with
     |list=>cases w with
      |list=>cases J;exact(false,_,rfl,λa=>(_,rfl),λa=>(_,rfl),rfl)
      |_=>exact zn0 J
     |_=>exact zn0 J
    |io=>cases J;exact(true,_,rfl,λz=>(by cases z),λz=>(by cases z),rfl)
    |_=>exact zn0 J)
 obtain⟨p,j,D,B,Y,C,Z⟩:=uo R V a2;obtain⟨O,T,S⟩:=nV R (λb U=>(Y b U).2) C D F q;have:O=P:=by
  rw[V]at T;cases kk<;>(cases T;rfl)
 subst this;exact(ds,_,d,w,G,p,j,N,jf R.sub λb U=>(Y b U).1,B,S,λv L M x io I=>k v L M (Z W x io).1 (Z W x io).2 I)
def zb{φ}(F:GO X.prog X.w X.K X.mg X.base k x n φ)(z:Room k X.A)(S:Gl X x)(C:(x==("__debug__":Str))=false)(D:EaO X Y (e::es) zs Y1)(T:iY Y1 i n φ.lent zs=some ds)(J:φ.run ds=some (.tuple [d,w]))(L:setIo Y1 i w=some Y2)(hs:aL (e::es)):
  EvO X Y (.Call (.Name x p) (e::es) [] pos) d Y2:=by
 obtain⟨f,b,o,j,P,B,F⟩:=F.ex
 rintro M s l H Q I ⟨R,V,G,E,u⟩;exact tY F z S j P B .nil kZ D C (starEach_cons (hs e ms0)) (aW λy q=>hs y (mc0 _ q)) M s l H Q I
  (R,V,G,E,λa t c E1 Z W=>by dsimp only;rw[List.append_nil];erw[za (E:=E0) E1 W T J L λv O U N g r=>u v O U N (Z.trans g) r])
def CN{φ}{c:Nat}{objs}{de}(F:GP X.prog X.w X.K X.mg X.base k c m φ)(h:Room k X.A)(V:VarOk X y i)(o:Ev X Y e de)(hs:isStar e=false)(L:Y[i]?=some (.io (.vlt c 0 objs)))(M:φ.run [.vlt c 0 objs,de]=some (.tuple [d,w]))(J:(apos.endLine==pos.line)=true):
  EvO X Y (.Call (.Attribute (.Name y p1) m apos) [e] [] pos) d (Y.set i (.io w)):=by
 obtain⟨f,fd,ps,b,n,t,T⟩:=F.ex;intro N s σ H Q I l;obtain⟨B,S,G,E,kq⟩:=l;obtain⟨v,a,P⟩:=E.read L rfl;obtain⟨U,j,q,rfl,O,lk⟩:=sA F.nm P;have R:aL [e]:=λz hz=>by simp_all
 refine tZ V.pe b n T h t .nil kZ (pa_cons o pa_nil (starEach_cons hs)) (starEach_cons hs) rfl (lV rfl R (by decide:1<=20) J) N s σ H Q I (.ref U,a,U,j,q,rfl,O,lk,B,S,G,E,λu G1 H1 W r1=>?_);refine za (E:=E0) (i:=i) (E.step W) (.v a (.x r1 .nil)) ?_ M @6 λv D C Z g r=>kq v D C Z ((E.gx W).trans g) r
 show (if i=i then _ else none)=_;rw[if_pos rfl,L];rfl
def CO(S:Sto X x i)(h:EvO X Y e d Y1)(hs:swapsWith e (some (.Name x pos')) pos.line X.env=pure false):E1 X Y (.Assign [.Name x pos'] e pos) (.nx (Y1.set i (.dat d))):=
 by rintro J s U H F I ⟨M,O,G,env,R⟩;erw[hV S.nd S.nm.at' S.nm.loc h hs S.nm.fn J s U H F I (M,O,G,env,λv L N K g r=>R L N _ (K.set (S.lt I) r) g.gg)]
def CP(h:EvO X (Y.map freeze) e d Y1):E1 X Y (.Return (some e) pos) (.rt d (dW Y1)):=by
 rintro M s Z H F I ⟨O,W,G,K,R⟩
 obtain⟨U,J,T⟩:=K.freeze;erw[ng h _ s Z H F I (O,W,U,J,λv N V L a r=>R v N V r L.ext L.ioEnd)]
def zc{kx}{ns}{q}{spos}(V:VarOk X x i)(h:EvO X Y e d Y1)(C:Ev X Y1 kx (.int q))(M:isSlice kx=false)(U:Y1[i]?=some (.own (.list ns)))(Q:SI.ixN ns.length q=some j):
  E1 X Y (.Assign [.Subscript (.Name x p1) kx spos] e pos) (.nx (Y1.set i (.own (.list (ns.set j d))))):=by
 intro K s A H F I B;obtain⟨N,O,G,L,R⟩:=B;refine jy h (nh V.pe C set_list (jU M)) lU iQ rfl K s A H F I (N,O,G,L,λv Z z E1 D S=>?_);obtain⟨W,E,a,b,g⟩:=dc E1 U;refine(.ref W,a,N,O,Z,E1,λu T f J P=>?_);cases P;exact(W,E,q,j,rfl,rfl,J.hh _ _ b,by rw[<-g.length];erw[Q],R T _ _ ((E1.step J).change U a (_,_,rfl,aa,(g.mono J.gg).set (S.mono J.gg) j)) (D.gg.trans J.gg))
end
section
variable {ν:NK}{G0:Bs}{m:Nat}{w:D}{p:Addr}
def EnvD.blkO(E:EnvD ν K G0 H0 G H σ Y)(W:Y[i]?=some (.io w))(F:σ[i]?=some (some (.ref p)))(io:IoAt ν K G H w p fp)(T:js[m]?=some i)(y:∀k,js[k]?=some i->k=m):
  EnvD ν K (G,some (p,fp)) (er H fp) G H (gc tn js σ) ((SI.blk tn.length js Y).set (tn.length+m) (.io w)):=by
 obtain⟨p',S,a,b,c,f,g⟩:=E.io.at' i w W;rw[F]at a;cases a;obtain rfl:=b.same (Same.refl _) (λn h=>h) io rfl;have B:=E.blk (tn:=tn) (js:=js);have R:=λ{k:Nat}{d:D} (h:(SI.blk tn.length js Y)[k]?=some (.io d))=>(aX k d).2 h
 have U:=λ{k:Nat}{d:D} (h:(SI.blk tn.length js Y)[k]?=some (.own d))=>(aX k d).1 h
 have ml:tn.length+m<(SI.blk tn.length js Y).length:=by
  have:=(gi0 T).1;unfold SI.blk;simp;erw[this]
 refine((dC,Same.refl _,E.sub,λn n h n=>h),by rw[List.length_set];erw[B.len],λk d h=>B.dat k d (getE_io h @0).2,λk d h=>?_,λk d h=>(U (getE_io h @0).2).elim,λk n d n n h=>(U (getE_io h @0).2).elim,λk d h=>?_,λk l d e P I=>?_,λk h=>?_)
 .obtain⟨r,z⟩:=getE_io h @0
  rcases blk_at z with J|⟨j,N,Z,J⟩
  .cases J
  have Q:j≠i:=λq=>r (by have:=y (k-tn.length) (q▸N);grind)
  have A:(Y[j]?).bind (iP true)=some d:=by
   cases q:Y[j]? with
   |none=>rw[q]at J;cases J
   |some s=>
    rw[q]at J;have J:=J;cases s with
    |lent M=>cases J;rfl
    |own M=>cases J;rfl
    |io M=>exact absurd (E.io.one j i M w q W) Q
    |_=>cases J
  obtain⟨v,L,_⟩:=B.lent k d z;rw[dD Z N]at L;have V:σ[j]?=some (some v):=by
   cases q:σ[j]? with
   |none=>rw[q]at L;cases L
   |some u=>rw[q]at L;cases u<;>cases L;rfl
  exact(v,by rw[dD Z N,V];rfl,(sE E (λb X=>(c b X).2) (λj e q n=>g j e q) Q A V).2)
 .rcases getE_set h with⟨rfl,q⟩|⟨_,q⟩
  .cases q
   exact(p,S,by rw[dD (Nat.le_add_right _ _) (by rw[Nat.add_sub_cancel_left];erw[T]),F];rfl,b,λx C=>((c x C).1,jJ C),λz t=>by cases t;rfl,λo e q O=>(U (getE_io O @0).2).elim)
  .exact (R q).elim
 .rcases getE_set P with⟨rfl,_⟩|⟨_,q⟩
  .rcases getE_set I with⟨rfl,_⟩|⟨_,q⟩
   .rfl
   .exact (R q).elim
  .exact (R q).elim
 .rcases blk_at (getE_io h @0).2 with z|⟨j,_,_,z⟩
  .cases z
  .cases q:Y[j]?.getD .no<;>(rw[q]at z;cases z)
def EnvD.touchO{q}{o}(E:EnvD ν K (G,some (p,fp)) H0 G' H σ Y)(L:∀(i:Nat) d,Y[i]?≠some (.own d))(O:G' q=none)(N:H0 q=none)(R:q∉fp):EnvD ν K (G,some (p,fp)) H0 G' (upd H q o) σ Y:=
 ((λb u e=>by rw[ab (ag e N)];erw[E.ext.hh b u e],E.ext.gg,λb u e=>by rw[ab (ag e O)];erw[E.ext.gh b u e],E.ext.nw),E.len,E.dat,E.lent,λi J h=>(L i J h).elim,λi j J j j h=>(L i J h).elim,
  λi d h=>by
  obtain⟨V,M,a,b,c,f,g⟩:=E.io.at' i d h;cases f _ rfl;exact(p,fp,a,b.go (Same.refl _) λx U=>ab λz=>R (z▸U),c,f,g),E.io.one,E.io.fr)
end
section
variable {elt:Expr}{out:List D}{scope:Scope}{t:Tg}{m:Nat}{w w':D}{Φ:Fs}{elt':M}
def zd{Y Y1}{d}(J:ax t d Y=some Y1)(h:∀(j:Nat) e,Y[j]?≠some (.own e)):∀(j:Nat) e,Y1[j]?≠some (.own e):=by
 have fold:∀(K:List (Nat×D))(Y:List Sl),(∀(j:Nat) e,Y[j]?≠some (.own e))->∀(j:Nat) e,(K.foldl (λY p=>Y.set p.1 (Sl.dat p.2)) Y)[j]?≠some (.own e):=by
  intro K
  induction K with
  |nil=>exact λa h=>h
  |cons q r ih=>exact λY h=>ih _ λj e M=>h j e (getE_io M @0).2
 cases t with
 |one i=>cases J;erw[fold [(i,d)] Y h]
 |tup N=>
  cases d with
  |tuple L=>
   rw[iq]at J;split at J
   .cases J;erw[fold _ _ h]
   .cases J
  |list L=>
   rw[ip]at J;split at J
   .cases J;erw[fold _ _ h]
   .cases J
  |_=>cases J
set_option tactic.hygienic true in
def zf(B:BlkOk X scope js)(j2:X.calm=true)(hi:PI X tg iter (tSi X.nk X.K Y true ds))(ht:∀(A:Addr)(s:Shared)(H:Hp)(M:A4),Tgj (L2.C.blk X scope @7 A s H M) tg t)(y1:jH t tn.length=true)
  (he:∀(A:Addr)(s:Shared)(H:Hp)(M:A4) Y' e Y'',evM Φ Γ Y' elt'=some (Prod.mk e Y'')->EvO (L2.C.blk X scope @7 A s H M) Y' elt e Y'') (hz:ds.length<sizeLine) (z4:Y[i]?=some (.io w)) (hm:js[m]?=some i) (hu:∀k,js[k]?=some i->k=m)
  (z5:lj (lq Φ Γ tn.length js (tn.length+m) t elt' Y) ds w=some (Prod.mk out w')) (hs:∀x,foldedSetIterable iter X.env x=pure x):EvO X Y (.ListComp elt [(tg,iter,[],0)] scope pos) (.list out) (Y.set i (.io w')):=by
 intro L s σ H Q I h0;obtain⟨G0,H0,G,E,k⟩:=h0;refine nF (tn:=tn) (js:=js) (g:=tgC X scope @7 tg) (tc:=tcC X scope @7 []) (te:=teC X scope @7 elt) B j2 hi
  (λC s H M L s' R U v u Q' I' r h=>h C s H M L s' u I' r) (λC s H M L s' R U Q' I' h=>h C s H M L s' I') (λC s H M L s' R U Q' I' h=>h C s H M L s' I') hs L s σ H Q I ?_
 refine(G0,H0,G,E,λJ G1 H1 e1 j8 q j5=>?_);have E1:=E.step e1;obtain⟨p,M,hp,io,c,_,go⟩:=uo (k:=true) E1 z4 (λz=>by cases z);have EB:=E1.blkO (tn:=tn) z4 hp io hm hu;have z0:=E1.sub.free j5;have nq:q∉M:=λf=>by obtain⟨o,ho⟩:=io.some q f;rw[j5]at ho;cases ho
 have j0:er H1 M q=none:=by rw[aH nq];erw[j5]
 have j6:∀{w:D}(k:Nat) d,((SI.blk tn.length js Y).set (tn.length+m) (.io w))[k]?≠some (.own d):=λk d h=>(aX k d).1 (getE_io h @0).2
 have z6:∀{w d:D}{l:List Sl},ax t d ((SI.blk tn.length js Y).set (tn.length+m) (.io w))=some l->∀(j:Nat) d,l[j]?≠some (.own d):=λW=>zd W j6
 have z8:Same H0 (er H1 M):=λb o e=>by rw[aH λf=>by rw[(c b f).2]at e;cases e];erw[E1.ext.hh b o e]
 refine(λk n R U=>n=ds.length-k/\k<=ds.length/\∃G' wc ys outs rest,EnvD X.nk X.K (G1,some (Prod.mk p M)) (er H1 M) G' U R ((SI.blk tn.length js Y).set (tn.length+m) (.io wc))/\U q=some (.lst ys)/\G' q=none/\Dps X.K G' outs ys/\outs.length=k/\
   lj (lq Φ Γ tn.length js (tn.length+m) t elt' Y) (ds.drop k) wc=some (Prod.mk rest w')/\outs++rest=out,
  (ds.length,by simp,Nat.zero_le _,G1,w,[],[],out,EB.touchO j6 z0 j0 nq,aa,z0,.nil,rfl,z5,rfl),?_)
 rintro kk n R U ⟨rfl,q0,G',wc,ys,outs,rest,T,j4,P,r',ol,Z,oe⟩
 have gg:=T.ext.gg;have sm:=gg.trans T.sub;have hs0:=z8.trans T.ext.hh
 by_cases O:kk<ds.length
 .refine .inr (j8.go kk U O sm hs0,λv H2 y=>?_)
  have f:=ge0 O;rw[List.drop_eq_getElem_cons O]at Z;generalize ds[kk]=dd at f Z;obtain⟨⟨j1,w2⟩,N,y4⟩:=bx0 (Z:(lq Φ Γ tn.length js (tn.length+m) t elt' Y dd wc).bind _=some (Prod.mk rest w'));obtain⟨⟨j7,w3⟩,z9,hr⟩:=mx0 y4;cases hr;obtain⟨l,W,N⟩:=bx0 (N:(ax t dd _).bind _=some (Prod.mk j1 w2));obtain⟨⟨y9,Y2⟩,hf,N⟩:=bx0 N;obtain⟨w4,hw,N⟩:=bx0 N;dsimp only at N;split at N
  case isFalse=>cases N
  rename_i y5;cases N;subst y5;obtain⟨l1,l2,l3⟩:=iz y1 W;obtain⟨G2,e2,d2⟩:=j8.yld kk G' U v H2 dd f gg T.sub hs0 y;have E2:=T.step e2;have y2:=e2.hh _ _ j4;have y0:=e2.nw _ _ P j4;have back:∀{G3 H3:Hp}{z7:St},EnvD X.nk X.K (G1,some (Prod.mk p M)) (er H1 M) G3 H3 z7 (l.set (tn.length+m) (.io w2))->EnvD X.nk X.K (G1,some (Prod.mk p M)) (er H1 M) G3 H3 z7 ((SI.blk tn.length js Y).set (tn.length+m) (.io w2)):=λE3=>E3.forget (by simp[l1]) λj sl F=>by
   by_cases j3:j=tn.length+m
   .subst j3
    right
    have hl:tn.length+m<(SI.blk tn.length js Y).length:=by have:=(gi0 F).1;rwa [List.length_set]at this
    rw[gs0 (by rw[l1,List.length_set];erw[hl])];rw[gs0 hl]at F;erw[F]
   .rw[gn0 (Ne.symm j3)]at F ⊢
    by_cases q1:j<tn.length
    .left
     rcases blk_at F with z|⟨_,_,z,_⟩
     .erw[z]
     .grind
    .right
     rw[l2 j @4,gn0 (Ne.symm j3)];erw[F]
  have y7:=z6 W;intro A s0 S V L s u I rv;refine ht A s0 S V dd L s R H2 v u _ I rv (_,_,G2,_,l,E2,d2,W,λy8 j9=>?_);intro A s0 S V L s I;refine pcs_nil L s _ H2 _ I (iteT ?_);intro A s0 S V L s I;refine he A s0 S V l j1 _ hf L s _ H2 _ I (_,_,G2,j9,λx G4 H4 E4 g4 r4=>?_);have ap:Apt X.nk X.K G2 H2 y8 l q:=(λj e F=>absurd F (y7 j e),λj e p' V F hs y6 hm=>by
   obtain⟨p2,fq,b1,b2,_,b4,_⟩:=j9.io.at' j e F;cases b4 _ rfl;rw[hs]at b1;cases b1;rw[y6.same (Same.refl _) (λa h=>h) b2 rfl]at hm;erw[nq hm])
  obtain⟨y3,z3,_⟩:=g4.kp q _ y2 y0 ap;exact(ys,y3,by rw[<-r'.length,ol];erw[Nat.lt_of_le_of_lt ‹_› ‹_›],ds.length-(kk+1),by grind,rfl,O,G4,w2,ys++[x],outs++[j1],j7,(back E4).touchO j6 z3 j0 nq,aa,z3,((r'.mono (e2.gg.trans g4.gg)).append (.one r4)),by rw[la0,ol];rfl,z9,by rw[<-oe,List.append_assoc];rfl)
 .have e:kk=ds.length:=by lia
  subst e;rw[List.drop_length]at Z;cases Z;rw[List.append_nil]at oe;subst oe;obtain⟨p2,fq,b1,b2,b3,b4,_⟩:=T.io.at' (tn.length+m) w' (gs0 (by
   have:=(gi0 hm).1;unfold SI.blk;simp;erw[this]))
  cases b4 _ rfl;have x:Ext G1 (er H1 M) G' (er U M):=(λb o e=>by
   obtain⟨z1,z2⟩:=dB e;rw[aH z1];erw[T.ext.hh b o e],T.ext.gg,jf T.sub λb f=>(b3 b f).1,T.ext.nw)
  have x2:=x.show j0 (by rw[aH nq];erw[j4]) P;obtain⟨en,gx⟩:=go (λz=>(by cases z)) x2 (b2.go (aG P) λa a=>rfl);exact .inl (j8.stop U sm hs0,k _ _ U en ((E.gx e1).trans gx) (.list aa (r'.mono (aG P))))
end
mutual
inductive IsK (h:Heap):Nat->D->Value->Prop
 |int {n:Nat} (i:Int) (t:Tok):IsK h n (.int i) (.int i t)
 |str {n:Nat} (x:Str) (t:Tok):PyData.strOk x=true->IsK h n (.str x) (.str x t)
 |tup {n:Nat}{a:Addr}{o:Obj}{items:A2}{m:Nat}{ds:List D}:h.get? a=some o->o.cls=.type "tuple"->o.data=.seq items.toArray m->IsKs h n ds items->IsK h (n+1) (.tuple ds) (.ref a)
inductive IsKs (h:Heap):Nat->List D->List Value->Prop
 |nil {n:Nat}:IsKs h n [] []
 |cons {n:Nat}{d:D}{v:Value}{ds:List D}{vs:A2}:IsK h n d v->IsKs h n ds vs->IsKs h n (d::ds) (v::vs)
end
def isk{P:Nat->D->Value->Prop}{R:Nat->List D->List Value->Prop}(K:∀n i t,P n (.int i) (.int i t))(hs:∀n x t,PyData.strOk x=true->P n (.str x) (.str x t))
  (L:∀{n a o items m ds},h.get? a=some o->o.cls=.type "tuple"->o.data=.seq (List.toArray items) m->R n ds items->P (n+1) (.tuple ds) (.ref a)) (J:∀n,R n [] []) (hc:∀{n d v ds vs},P n d v->R n ds vs->R n (d::ds) (v::vs)):
  (∀{n d v},IsK h n d v->P n d v)/\∀{n ds vs},IsKs h n ds vs->R n ds vs:=
 (λx=>IsK.rec (λi t=>K _ i t) (λx t o=>hs _ x t o) (λa b c e r=>L a b c r) (J _) (λe e a b=>hc a b) x,
  λx=>IsKs.rec (λi t=>K _ i t) (λx t o=>hs _ x t o) (λa b c e r=>L a b c r) (J _) (λe e a b=>hc a b) x)
def IsK.inj{n m}{d e}{v:Value}(a:IsK h n d v)(b:IsK h m e v):d=e:=(isk (P:=λf d v=>∀{m e},IsK h m e v->d=e) (R:=λf M V=>∀{m J},IsKs h m J V->M=J) (λn i t m e b=>by cases b;rfl) (λn x t f m e b=>by cases b;rfl) (λN f O r m e b=>by
   cases b with
   |tup K _ L U=>
    rw[N]at K;cases K;rw[O]at L;have e:=L;simp only[Data.seq.injEq]at e;have e:=congrArg Array.toList e.1;simp only[List.toList_toArray]at e;subst e;rw[r U]) (λn m J b=>by cases b;rfl) λa r m J b=>by
   cases b with
   |cons c d=>rw[a c,r d]).1 a b
def IsK.keeps{h h'}(k:∀a o items m,h.get? a=some o->o.data=.seq items m->h'.get? a=some o){v:Value}(x:IsK h n d v):IsK h' n d v:=((isk (λb i t=>.int i t) (λb x t o=>.str x t o) (λK L J r=>.tup (k _ _ _ _ K J) L J r) (λb=>.nil) λa r=>.cons a r)).1 x
def IsK.reads{v:Value}(x:IsK h n d v):∃J,Reads h v (PySem.W.kqdP (toW d)) J:=
 (isk (P:=λa d v=>∃J,Reads h v (PySem.W.kqdP _) J) (R:=λa K O=>∃J,ReadsAll h O (PySem.W.kqdPs (fK K)) J) (λa i t=>(_,Reads.int i t)) (λa x t a=>(_,Reads.str x t)) (λL M N ⟨J,w⟩=>(_,Reads.tuple L M N (by omega))) (λa=>(_,.nil)) λ⟨_,w⟩ ⟨_,u⟩=>(_,.cons w u)).1 x
def IsK.ok{v:Value}(x:IsK h n d v):okS n d=true:=
 (isk (P:=λn d b=>okS n d=true) (R:=λn J b=>J.all _=true) (λn i t=>by cases n<;>rfl) (λn x t b=>by cases n<;>rfl) (λb b b r=>r) (λb=>rfl) λa r=>by rw[List.all_cons,a,r];rfl).1 x
mutual
noncomputable def qg:D->Nat
 |.tuple J=>nW J+1
 |_=>1
noncomputable def nW:List D->Nat
 |[]=>0
 |d::r=>qg d+nW r
end
def IsK.kok{v:Value}(x:IsK h n d v):PySem.W.kqdOk n (toW d)=true:=
 (isk (P:=λn d b=>PySem.W.kqdOk n (toW d)=true) (R:=λn J b=>(fK J).all _=true) (λn i t=>by cases n<;>rfl) (λn x t o=>by cases n<;>exact o) (λb b b r=>r) (λb=>rfl) λ{n d _ J _} a r=>by
  show (PySem.W.kqdOk _ _&&(fK _).all _)=true;rw[a,r];rfl).1 x
section
variable {E:A0}
def wK(J:∀{d:D}{v:Value}{s:Shared}{Q:Int->Shared->Prop},s.heap=h->IsK h n d v->Q (lu w d) {s with toks:=s.toks+qg d}->wpAny (model prog w) A (pyHash v) Q E s):
  ∀(vs:A2)(ds:List D)(acc:Array Int)(s:Shared)(Q:Array Int->Shared->Prop),s.heap=h->IsKs h n ds vs->Q (acc++(cU w ds).toArray) {s with toks:=s.toks+nW ds}->
   wpAny @3 A (forIn vs acc λx acc=>do let i ←pyHash x;pure (ForInStep.yield (acc.push i))) Q E s:=by
 intro vs
 induction vs with
 |nil=>
  intro ds acc s Q e r q;cases r;rw[List.forIn_nil];refine wq0 ?_;have:acc++(cU w []).toArray=acc:=by simp[cU]
  rw[this]at q;erw[q]
 |cons v vs ih=>
  intro ds acc s Q e r q;cases r with
  |@cons _ d _ ds _ a b=>
   rw[List.forIn_cons];refine wb0 (wb0 (J e a (wq0 ?_)));refine ih ds _ _ Q e b ?_;have K:acc.push (lu w d)++(cU w ds).toArray=acc++(cU w (d::ds)).toArray:=by simp[cU]
   rw[K];show Q _ {s with toks:=s.toks+qg d+nW ds};rw[Nat.add_assoc];erw[q]
def zg:∀{n:Nat}{A:Around}{d:D}{v:Value}{s:Shared}{Q:Int->Shared->Prop},A.units+n<cLine+1->IsK s.heap n d v->Q (lu w d) {s with toks:=s.toks+qg d}->wpAny (model prog w) A (pyHash v) Q E s:=by
 intro n
 induction n with
 |zero=>
  intro A d v s Q U K q;cases K with
  |int i t=>exact wpAny_pyHash_int q
  |str x t _=>exact wpAny_pyHash_str q
 |succ n ih=>
  intro A d v s Q U K q;cases K with
  |int i t=>exact wpAny_pyHash_int q
  |str x t _=>exact wpAny_pyHash_str q
  |@tup _ a o items m J L M N O=>
   have R:s.TypeIs (.ref a) "tuple":=(o,L,M);show wpAny @3 A (pyHashByItsType (.ref a)) Q E s;refine PySem.W.pyHash_slot R F.slot_tuple_hash F.entry_tuple_hash (F.args_tuple_hash_1 _) @2 (.inr @4) ?_;unfold Builtin.«tuple.__hash__»;refine wb0 (wpAny_of_eq (a:=(.ref a,[])) rfl ?_);dsimp only;unfold Builtin.Tuple.tupleItemsOf;refine wb0 (wb0 (wpAny_seqItems L N (wq0 ?_)));refine wb0 ?_;rw[<-Array.forIn_toList];refine wK (A:=A.in1) (n:=n) (h:=s.heap) (λe a q=>ih (by show A.units+1+n<cLine+1;grind) (by rw[e];erw[a]) q) items J #[] s _ rfl O ?_
   unfold retInt
   wp_walk
   refine(_,_,rfl,?_);have e:(#[]++(cU w J).toArray:Array Int).toList=cU w J:=by simp
   rw[e];erw[q]
def zh{d e}{a b}{Q}(M:A.units+64<cLine)(J:IsK s.heap 8 d (.ref a))(K:IsK s.heap 8 e (.ref b))(q:Q (decide (d=e)) s):wpAny @3 A (eqBool (.ref a) (.ref b)) Q E s:=by
 refine wh0 ?_
 by_cases c:a=b
 .subst c
  rw[if_pos @0];refine wb0 (wpAny_rule (wq0 ?_));rw[IsK.inj J K]at q
  simpa using q
 .rw[if_neg (by simpa using c)]
  obtain⟨R,N⟩:=J.reads;obtain⟨U,O⟩:=K.reads;have ev:PyData.eqv (PySem.W.kqdP (toW d)) (PySem.W.kqdP (toW e))=decide (d=e):=by
   have z:=PySem.W.kqd_eqv 8 (toW d) (toW e) 8 J.kok K.kok
   by_cases L:d=e
   .rw[dt0 L];erw[z.mpr (by rw[L])]
   .rw[df0 L]
    erw[bf0 λy=>L (nL 8 8 d e J.ok K.ok (z.mp y))]
  exact wb0 (eq_dataH (prog:=prog) (w:=w) (A:=A) (E:=E) N O (cu J.kok @2) (cu K.kok @2) M (by
   rw[ev];erw[wpAny_truthy_bool q]))
def CQ:∀{n m:Nat}{A:Around}{d:D}{v:Value}{s:Shared}{Q:Bool->Shared->Prop},n<=m->IsK s.heap n d v->Q true s->wpAny @3 A (eqIsQuiet m v) Q E s:=by
 intro n
 induction n with
 |zero=>
  intro m A d v s Q _ K q;cases K with
  |int i t=>cases m<;>exact wq0 q
  |str x t _=>cases m<;>exact wq0 q
 |succ n ih=>
  intro m A d v s Q S K q;cases K with
  |int i t=>cases m<;>exact wq0 q
  |str x t _=>cases m<;>exact wq0 q
  |@tup _ a o items k Y U Z T B=>
   obtain⟨m,rfl⟩:∃C,m=C+1:=(m-1,by lia);have V:s.TypeIs (.ref a) "tuple":=(o,U,Z);unfold eqIsQuiet;refine wb0 (wpAny_specialOf V F.slot_tuple_eq.lookup ?_);refine wb0 (wpAny_isInstance V PySem.isSubtype_tuple_tuple ?_);rw[if_neg @2];refine wb0 (wpAny_seqItems U T ?_);rw[<-Array.forIn_toList];have M:∀(L:A2)(N:List D)(J:Option Bool×Unit->Shared->Prop),IsKs s.heap n N L->J (none,()) s->
     wpAny @3 A (forIn L ((none:Option Bool),()) λy W=>do
      let __do_lift ←eqIsQuiet m y
      if (!__do_lift)=true then pure (ForInStep.done (some false,()))else pure (ForInStep.yield (none,()))) J E s:=by
    intro L
    induction L with
    |nil=>intro N J _ R;rw[List.forIn_nil];erw[wq0 R]
    |cons v L O=>
     intro N J K R;cases K with
     |cons a b=>
      rw[List.forIn_cons];refine wb0 (wb0 (ih @1 a ?_));rw[if_neg @2];erw[wq0 (O _ J b R)]
   erw[wb0 (M items Y _ B (wq0 q))]
def zi(prog:Program)(w:World):HeapKind prog w D where
 is:=λh d a=>IsK h 8 d (.ref a)
 hash:=lu w
 draws:=qg
 room:=λA=>A.units+64<cLine
 inj:=λK L=>IsK.inj K L
 keeps:=λ{h W k a d o V U} J O N R=>J.keeps λb u items m e c=>(R.2 b (λz=>by
  subst z;rw[O]at e;cases e;rw[N]at c;cases c)).trans e
 pyHash:=λ{A E s k a Q} M J q=>zg @1 J q
 eqBool:=λ{A E s x y a b Q} M K L q=>zh M K L q
 quiet:=λ{A E s k a Q} J q=>CQ (nr0 _) J q
end
def CS(I:Inv X zp σ H s){n}(ih:∀(d:D)(v:V)(u:Value),Dp X.K G d v->RelV v u->okK n d=true->IsK s.heap n d u):
  ∀{vs:List V}{us:A2}{ds:List D},Vals vs us->Dps X.K G ds vs->ds.all (okK n)=true->IsKs s.heap n ds us:=by
 intro vs us ds r
 induction r generalizing ds with
 |nil=>intro q _;cases q;exact .nil
 |cons N _ J=>
  intro q z;cases q with
  |cons L M=>
   rw[List.all_cons,be0]at z;exact .cons (ih _ _ _ L N z.1) (J M z.2)
def nX(I:Inv X zp σ H s)(U:Same G H):∀(n:Nat)(d:D)(v:V)(u:Value),Dp X.K G d v->RelV v u->okK n d=true->IsK s.heap n d u:=by
 intro n
 induction n with
 |zero=>
  intro d v u h r o;cases h with
  |int i=>obtain⟨t,rfl⟩:=r;exact .int i t
  |str x J=>obtain⟨t,rfl⟩:=r;exact .str x t J
  |_=>cases o
 |succ n ih=>
  intro d v u h r o;cases h with
  |int i=>obtain⟨t,rfl⟩:=r;exact .int i t
  |str x J=>obtain⟨t,rfl⟩:=r;exact .str x t J
  |tuple q p=>
   cases r;obtain⟨O,R,⟨W,L,M,m,N⟩,_⟩:=I.tuple (SqT.of (U _ _ q));exact .tup L M N (CS I ih R p o)
  |_=>cases o
def iC:∀{k:Nat}{xs:List (D×Addr×Value)}{J:A4}{ds:List D},fw k xs J ds->xs.length=ds.length/\J.length=ds.length:=by
 intro k xs J ds h
 induction h<;>simp_all
def zm{h}{G}{K}(L:∀(d:D)(a:Addr),Dp K G d (.ref a)->okK 8 d=true->IsK h 8 d (.ref a)):∀{k:Nat}{xs:List (D×Addr×Value)}{J:A4}{ds:List D},fw k xs J ds->Dps K G ds (J.map .ref)->(∀d∈ds,okK 8 d=true/\jF d=true)->∀x∈xs,IsK h 8 x.1 (.ref x.2.1):=by
 intro k xs J ds n
 induction n with
 |nil=>exact λb b b z=>by cases z
 |cons r ih=>
  intro q M x hx;cases q with
  |cons N O=>
   rcases mq0 hx with rfl|hx
   .erw[L _ _ N (M _ ms0).1]
   .erw[ih O (λd R=>M d (mc0 _ R)) x hx]
def numXs_at{d}:∀{k:Nat}{xs:List (D×Addr×Value)}{K:A4}{ds:List D},fw k xs K ds->(ds.idxOf? d=.none/\atKey xs d=.none)\/∃j a t,ds.idxOf? d=some j/\atKey xs d=some (a,.int ((k+j:Nat):Int) t):=by
 intro k xs K ds h
 induction h with
 |nil=>exact .inl (rfl,rfl)
 |@cons k _ e _ _ _ _ r ih=>
  unfold atKey at ih ⊢;rw[List.find?_cons,List.idxOf?_cons]
  by_cases c:e=d
  .simp_all
  .rw[df0 c,bn0 c]
   rcases ih with⟨J,L⟩|⟨j,M,N,J,L⟩
   .exact .inl (by rw[J];rfl,L)
   .refine .inr (j+1,M,N,by rw[J];rfl,?_)
    rwa [show k+(j+1)=k+1+j by lia]
def lX{d}{a}{t}:∀{k:Nat}{xs:List (D×Addr×Value)}{J:A4}{ds:List D},fw k xs J ds->fw k (xs++[(d,a,.int ((k+ds.length:Nat):Int) t)]) (J++[a]) (ds++[d]):=by
 intro k xs J ds h
 induction h with
 |nil=>exact .cons .nil
 |@cons k _ _ _ _ _ ds r ih=>
  rw[show k+1+ds.length=k+(ds.length+1) by grind]at ih;exact .cons ih
def jY{n}{J:A4}{objs}(I:Inv X zp σ H s)(D:Same G H)(Y:H n=some (.ext (aM X.w n J objs)))(dp:Dps X.K G objs (J.map .ref))(V:∀d∈objs,okK 8 d=true/\jF d=true):
  (n==sysModules)=false/\objs.length<=1000000/\∃xs,fw 0 xs J objs/\s.heap.DictOfH (zi X.prog X.w) n xs:=by
 obtain⟨⟨O,xs,L,W,o,N,M,Z,T,R,U,F⟩,_⟩:=(I.hok n _ Y:ObjOk X.prog X.w H s.heap n (.ext (aM X.w n J objs)));exact(O,W,xs,L,o,N,M,Z,T,R,U,zm (λd a q o=>nX I D 8 d _ _ q rfl o) L dp V,F)
def Vat(X:Cx)(G H:Hp)(x y:V)(d:D)(n:Addr)(J:A4)(objs:List D):Prop:=
 y=.ref n/\Same G H/\Dp X.K G d x/\okK 8 d=true/\jF d=true/\H n=some (.ext (aM X.w n J objs))/\Dps X.K G objs (J.map .ref)/\∀d∈objs,okK 8 d=true/\jF d=true
def jZ{K}{d}{x}(h:Dp K G d x)(t:jF d=true):∃a,x=.ref a:=by
 cases h<;>first|exact⟨_,rfl⟩|cases t
def wL(C:X.A.units+100<cLine):OpR X (compareOp .NotIn) (λx y H Q=>∃G d n L objs,Vat X G H x y d n L objs/\Q (.bl (objs.idxOf? d).isNone) H):=by
 intro N s P H x y v u Q I T F h;obtain⟨G,d,n,L,objs,⟨rfl,O,M,ok,tp,Y,U,W⟩,q⟩:=h;obtain⟨a,rfl⟩:=jZ M tp;cases F;cases T;obtain⟨V,B,S,Z,R⟩:=jY I O Y U W;refine wpAny_notIn_heap (by lia:X.A.units+1+64<cLine) (nX I O 8 d _ _ M rfl ok) V R (.bl _,H,I.tok _,rfl,?_);rcases numXs_at Z with⟨J,K⟩|⟨j,D,t,J,K⟩
 .rw[J]at q;rwa [K]
 .rw[J]at q;rwa [K]
def Mx(E:X.A.units+100<cLine):IxR X (λx y H Q=>∃G d n K objs j,Vat X G H y x d n K objs/\objs.idxOf? d=some j/\Q (.int (j:Nat)) H):=by
 intro value slice N s f H x y v u Q I D B h Z;obtain⟨G,d,n,K,objs,j,⟨rfl,R,M,ok,tp,Y,U,W⟩,V,q⟩:=h;obtain⟨a,rfl⟩:=jZ M tp;cases B;cases D;obtain⟨S,P,g,T,L⟩:=jY I R Y U W;rcases numXs_at (d:=d) T with⟨J,O⟩|⟨z,C,t,J,O⟩
 .simp_all
 .rw[V]at J
  cases J;refine tail_any L.typeIs PySem.F.slot_dict_getitem.lookup (wpAny_getItem_heap (by lia:X.A.units+1+64<cLine) (nX I R 8 d _ _ M rfl ok) L O (.int _,H,I.tok _,(t,?_),q)) Z;rw[Nat.zero_add]
def JQ(hu:X.A.units+100<cLine):FC X (λo i v H Q=>∃G d n K objs a,Vat X G H i o d n K objs/\i=.ref a/\objs.idxOf? d=.none/\objs.length<1000000/\v=.int (objs.length:Nat)/\Q (upd H n (.ext (aM X.w n (K++[a]) (objs++[d]))))):=by
 intro T s σ H o i v ov iv u Q I ro ri rv h;obtain⟨G,d,n,K,objs,a,⟨rfl,D,P,ok,tp,Z,S,p⟩,rfl,r,c,rfl,q⟩:=h;cases ro;cases ri;obtain⟨t,rfl⟩:=rv;obtain⟨z,hl,xs,N,C⟩:=jY I D Z S p;have hz:xs.length<=sizeLine:=by rw[(iC N).1,sizeLine_eq];grind
 rcases numXs_at (d:=d) N with⟨R,F⟩|⟨j',a',t',R,F⟩
 .refine wpAny_setItem_heap (hsz:=hz) (by grind:X.A.units+1+64<cLine) (nX I D 8 d _ _ P rfl ok) C λh' L x=>(_,?_,q)
  obtain⟨O,j,E,M,g,m,W,_,Y⟩:=L;rw[storedH_new F]at W Y;have J:=lX (d:=d) (a:=a) (t:=t) N;rw[Nat.zero_add]at J;erw[I.write (t':=_) (by rw[Z];exact True.intro) (.inl rfl) (λb w l e=>(x.2 b l).trans e) (O,M) ((z,_,J,by simp;grind,O,j,E,M,g,m,W,Y),(O,M),by rintro y f ⟨y1,ys,y2,y3,B,V,U,y4,y5⟩ k;exact(y1,ys,y2,y3,B,V,U,k B y4,y5))]
 .rw[r]at R;cases R
def EH(C:Nat):Fn:=([true,false],nI C)
set_option tactic.hygienic true
theorem lY{d}:∀{J:List D},J.idxOf? d=.none->(J++[d]).idxOf? d=some J.length
 |[],_=>by simp
 |o::r,h=>by
  rw[List.idxOf?_cons]at h;rw[List.cons_append,List.idxOf?_cons];split at h
  .cases h
  .rename_i c
   rw[if_neg c];cases q:r.idxOf? d with
   |some j=>simp_all
   |none=>rw[lY q];rfl
structure zo(st:Stmt):Prop where
 ex:∃p1 p2 p3 p4 p5 p6 p7 p8 p9 p10 p11 p12 p13 p14 p15 p16 p17 p18 p19 p20 p21 p22 p23 p24 p25:Pos,(p16.endLine==p18.line)=true/\defBody st =
  [.If (.Compare (.Name "made" p1) [.NotIn] [.Attribute (.Name "self" p2) "numbers" p3] p4)
   [.Assign [.Subscript (.Attribute (.Name "self" p5) "numbers" p6) (.Name "made" p7) p8] (.Call (.Name "len" p9) [.Attribute (.Name "self" p10) "objects" p11] [] p12) p13,
    .Expr (.Call (.Attribute (.Attribute (.Name "self" p14) "objects" p15) "append" p16) [.Name "made" p17] [] p18) p19] [] p20,
   .Return (some (.Subscript (.Attribute (.Name "self" p21) "numbers" p22) (.Name "made" p23) p24)) p25]
 gl:(defScope st).names.lookup ("len":Str)=some NameKind.globalImplicit
def GQ{P}{w}{mg}{base}{C}{x qual}{st}{f}{fd}(F:Fun K x qual st f fd)(S:cf ["self","made"] ["self","made"] @8)(T:zo st)(j2:mg "len"=none)(hc:Cls K C)(h1:NoAttr K C "objects")(h2:NoAttr K C "numbers"):
  FnOk P w K mg base CX0 2 f fd ["self","made"] (Pio (aM w) K (EH C) 0):=by
 obtain⟨p1,p2,p3,p4,p5,p6,p7,p8,p9,z2,z3,z4,z5,z6,z7,z8,z9,y0,y1,y2,y3,y4,y5,y6,y7,X,I⟩:=T.ex;have j4:∀{vs:List V}{H:Hp}{Q:VK}{E:XK},Pio (aM w) K (EH C) 0 vs H Q E->∃objs d e u G a W va,vs=[.ref a,va]/\Dp K G d va/\(if (okK 8 d&&jF d&&decide (objs.length<1000000))=true then (match objs.idxOf? d with
   |some j=>some (D.tuple [.int (j:Nat),.vlt C 0 objs])
   |none=>some (.tuple [.int (objs.length:Nat),.vlt C 0 (objs++[d])]))else none)=some (.tuple [e,u])/\Same G (er H W)/\IoAt (aM w) K G H (.vlt C 0 objs) a W/\
   ∀v G' H',Ext G (er H W) G' (er H' W)->IoAt (aM w) K G' H' u a W->Dp K G' e v->Q v H':=by
  rintro vs H Q E ⟨ds,d0,e,u,G,a,W,Y,o,io,j8,k⟩
  match ds,Y with
  |[.vlt c 0 objs,d],Y=>
   have Y:(if c=C then _ else none)=some (D.tuple [e,u]):=Y;split at Y
   .subst c
    cases j8 with
    |io j9=>cases j9 with
     |cons g1 g2 r=>cases r;exact(objs,d,e,u,G,a,W,_,rfl,g1 rfl,Y,o,io,k)
   .cases Y
 refine F.ok S (λvs H Q E h=>?_) (λB A outer s H vs Q E Y h=>?_)
 .obtain⟨objs,d,e,u,G,a,W,va,rfl,_⟩:=j4 h;rfl
 .obtain⟨objs,d,e,u,G,a,W,vb,rfl,t,M,o,io,kq⟩:=j4 h
  have hu:(iV CX0 P w K mg base ["self","made"] qual @8 f B A outer s H E).nox.A.units+100<cLine:=by have:=Y.un;show (A.deeper _).units+100<_;lia
  have U:∀p:Pos,PE (iV CX0 P w K mg base ["self","made"] qual @8 f B A outer s H E).nox (.Name "self" p) (xC 0):=λp=>fF rfl ((S.par "self" @0).elim .inl λz=>.inr (.inl z)) @2 @2
  have N:∀p:Pos,PE (iV CX0 P w K mg base ["self","made"] qual @8 f B A outer s H E).nox (.Name "made" p) (xC 1):=λp=>fF rfl ((S.par "made" @0).elim .inl λz=>.inr (.inl z)) @2 @2
  have m:=λ(p q:Pos)=>rH (pos:=q) (f:="numbers") (U p) rfl
  have j5:=λ(p q:Pos)=>rH (pos:=q) (f:="objects") (U p) rfl
  rw[I];refine(_,bV (xF (pos:=y2) (tX (pos:=p4) (wL hu) (N p1) (m p2 p3) rfl)
   (bV (jy (pos:=z5) (cZ (p:=p9) (pos:=z4) nC T.gl j2 PySem.boot_len (pa_cons (j5 z2 z3) pa_nil) @2 @2 rfl rfl) (nh (pos:=p8) (m p5 p6) (N p7) (JQ hu) λ_=>rfl) rfl rfl rfl)
    (bV (fU (pos:=y1) (kY (apos:=z8) (cpos:=y0) PySem.F.plainAttrs_list PySem.F.slot_list_append PySem.F.type_list_append hX (j5 z6 z7) (pa_cons (N z9) pa_nil) rfl rfl X rfl rfl) rfl) fR)) fR)
   (bV (ng (pos:=y7) (pB (pos:=y6) (Mx hu) (m y3 y4) (N y5) λg g=>rfl)) fR),?_)
  split at M
  case isFalse=>cases M
  rename_i hq;simp only[be0,decide_eq_true_eq]at hq;obtain⟨⟨ok,tp⟩,z0⟩:=hq;obtain⟨b,rfl⟩:=jZ t tp;rcases id io with⟨_,_,z,_⟩|⟨C',dx,l,n,J,z1,z,rfl,Z,R,hl,hn,i,hk⟩|⟨_,_,z,_⟩
  .cases z
  case inr.inr=>cases z
  cases z;have L:=o.trans dC;have fM:∀{H:Hp}{Q:VK},Q (.ref b) H->xC 1 (start ["self","made"] [V.ref a,V.ref b]) H Q:=λq=>(_,rfl,q)
  have fN:∀{H:Hp}{Q:VK},H a=some (.ins C dx (vfs l n 0))->Q (.ref n) H->LX K (xC 0) "numbers" (start ["self","made"] [V.ref a,V.ref b]) H Q:=λe q=>(.ref a,rfl,a,C,dx,_,_,rfl,e,hc,h2,rfl,q)
  have fO:∀{H:Hp}{Q:VK},H a=some (.ins C dx (vfs l n 0))->Q (.ref l) H->LX K (xC 0) "objects" (start ["self","made"] [V.ref a,V.ref b]) H Q:=λe q=>(.ref a,rfl,a,C,dx,_,_,rfl,e,hc,h1,rfl,q)
  have O:J.length=objs.length:=by have:=i.length;simpa using this.symm
  dsimp only[LL,LN,El,tOp,IV,LM,IY,tCB,Jh,FP,LQ,IW,tBM];refine fM (fN (L _ _ R) ?_);refine(G,d,n,J,objs,(rfl,L,t,ok,tp,hn,i,hk),?_);cases hj:objs.idxOf? d with
  |some j=>
   rw[hj]at M;cases M;refine(false,rfl,nD (fN (L _ _ R) (fM (G,d,n,J,objs,j,(rfl,L,t,ok,tp,hn,i,hk),hj,?_))));erw[kq _ G H (.refl o) io (.int _)]
  |none=>
   rw[hj]at M;cases M;have y8:a≠l:=λz=>by rw[z]at R;rw[L _ _ R]at hl;cases hl
   have j7:a≠n:=λz=>by rw[z]at R;rw[L _ _ R]at hn;cases hn
   refine(true,rfl,iteT ?_);refine fO (L _ _ R) (l,J.map .ref,rfl,.inl (SqL.of hl),fN (L _ _ R) (fM (G,d,n,J,objs,b,(rfl,L,t,ok,tp,hn,i,hk),rfl,hj,z0,by rw[lm0,O],?_)));refine fO (by rw[ab j7];erw[L _ _ R]) ((rfl,J.map .ref,SqL.of (by rw[ab (Ne.symm Z)];erw[hl])),fM (l,J.map .ref,.ref b,rfl,rfl,by rw[ab (Ne.symm Z)];erw[hl],by rw[lm0,O,sizeLine_eq];lia,?_));rw[show (J.map V.ref++[V.ref b])=(J++[b]).map V.ref by simp];have ee:er (upd (upd H n (.ext (aM w n (J++[b]) (objs++[d])))) l (.lst ((J++[b]).map .ref))) [l,n]=er H [l,n]:=by rw[sy @0,sy @0]
   have j0:Dps K G (objs++[d]) ((J++[b]).map .ref):=by rw[List.map_append];erw[i.append (.one t)]
   have j1:∀y∈objs++[d],okK 8 y=true/\jF y=true:=λy hy=>by
    rcases ma0 hy with hy|hy
    .erw[hk y hy]
    .obtain rfl:y=d:=by simpa using hy
     exact(ok,tp)
   have j3:upd (upd H n (.ext (aM w n (J++[b]) (objs++[d])))) l (.lst ((J++[b]).map .ref)) n=some (.ext (aM w n (J++[b]) (objs++[d]))):=by rw[ab Z];erw[aa]
   have j6:Same G (upd (upd H n (.ext (aM w n (J++[b]) (objs++[d])))) l (.lst ((J++[b]).map .ref))):=by
    have:Same G (er (upd (upd H n (.ext (aM w n (J++[b]) (objs++[d])))) l (.lst ((J++[b]).map .ref))) [l,n]):=by rw[ee];erw[o]
    erw[this.trans dC]
   erw[fN (j6 _ _ R) (fM (G,d,n,J++[b],objs++[d],objs.length,(rfl,j6,t,ok,tp,j3,j0,j1),lY hj,kq _ G (upd (upd H n (.ext (aM w n (J++[b]) (objs++[d])))) l (.lst ((J++[b]).map .ref))) (by rw[ee];exact .refl o) (.inr (.inl (C,dx,l,n,J++[b],objs++[d],rfl,rfl,Z,R,aa,j3,j0,j1))) (.int _)))]
set_option tactic.hygienic false
structure uq(st:Stmt):Prop where
 ex:∃p1 p2 p3 p4 p5 p6 p7 p8:Pos,defBody st=[.Assign [.Attribute (.Name "self" p1) "objects" p2] (.List [] p3) p4,.Assign [.Attribute (.Name "self" p5) "numbers" p6] (.Dict [] [] p7) p8]
def CT{P}{w}{mg}{base}{C}{x qual}{st}{f}{fd}(F:Fun K x qual st f fd)(S:cf ["self"] ["self"] @8)(T:uq st)(hc:Cls K C)(W:NoAttr K C "objects")(Y:NoAttr K C "numbers"):
  FnOk P w K mg base CX0 1 f fd ["self"] (yX C):=by
 obtain⟨Z,D,B,G,I,X,j,y,M⟩:=T.ex;refine F.ok S (λu H Q E h=>?_) (λN A outer s H u Q E g h=>?_)
 .obtain⟨x,O,rfl,_⟩:=h;rfl
 .obtain⟨x,O,rfl,V,q⟩:=h
  have J:∀p:Pos,PE (iV CX0 P w K mg base ["self"] qual @8 f N A outer s H E).nox (.Name "self" p) (xC 0):=λp=>fF rfl ((S.par "self" @0).elim .inl λz=>.inr (.inl z)) @2 @2
  rw[M];refine(_,bV (xQ (pos:=G) (pos':=D) (f:="objects") (J Z) (xS (pos:=B) pa_nil) rfl) (bV (xQ (pos:=y) (pos':=X) (f:="numbers") (J I) (pP (pos:=j)) rfl) fR),?_);refine(Nat.zero_le _,λl U=>(.ref x,rfl,x,C,O,[],rfl,?_,hc,W,by decide,λn L=>(.ref x,rfl,x,C,O,[("objects",.ref l)],rfl,?_,hc,Y,(by decide:1<1000),?_)))
  .rw[ab (ag V U)];erw[V]
  .have R:n≠x:=λz=>by subst z;rw[aa]at L;cases L
   rw[ab (Ne.symm R)];erw[aa]
  .have R:n≠x:=λz=>by subst z;rw[aa]at L;cases L
   rw[ab R]at L;have nl:n≠l:=λz=>by subst z;rw[aa]at L;cases L
   rw[ab nl]at L;erw[q l n U L (Ne.symm nl)]
def zt(l n:Addr)(h:Nat)(f:Str):(vfs l n h).lookup f=([("objects",.ref l),("numbers",.ref n)]:List (Str×V)).lookup f:=by
 unfold vfs;simp only[lk0];cases c:f=="objects"<;>rfl
def CU{X}{C}{vn y}{Y}{i}{p pos px spos}(Z:jX X.prog X.w X.K X.mg X.base C vn)(hr:Room 2 X.A)(hg:Gl X vn)(S:Sto X y i)(hf:Y[i]?=some .fr)(j8:∀(j:Nat) d,Y[j]?≠some (.io d)):
  E1 X Y (.Assign [.Name y px] (.Call (.Name vn p) [] [] pos) spos) (.nx (Y.set i (.io (.vlt C 0 [])))):=by
 obtain⟨f,fd,hM,hm,y8,hb,F⟩:=Z.ex;intro L s σ H F' I h0;obtain⟨G0,H0,G,E,R⟩:=h0;refine hV S.nd S.nm.at' S.nm.loc (te:=λz8 H' Q=>σ=z8/\H=H'/\∀G2 M x,EnvD X.nk X.K G0 H0 G2 M (σ.set i (some (.ref x))) (Y.set i (.io (.vlt C 0 [])))->Same G G2->Q (.ref x) M) ?_ rfl S.nm.fn L s σ H F' I (rfl,rfl,λG2 M x en g=>R G2 M _ en g);intro L s z8 H' Q I h;obtain⟨rfl,rfl,kq⟩:=h;refine thn (xU (p:=p) (pos:=pos) hM F hr hg hm hb .nil kZ y8 L s σ H (λv W=>∃x J l n,v=.ref x/\H x=none/\H J=none/\J≠x/\l≠x/\n≠x/\l≠J/\n≠J/\l≠n/\H l=none/\H n=none/\W=jW C x J l n (upd (upd H J (.own x)) x (.ins C J []))) I ?_) λu s2 hq=>?_
 .intro x J hx j4 O
  refine(x,J,rfl,aa,λl n U V t=>(rfl,x,J,l,n,rfl,hx,j4,O,?_));have l1:l≠x:=λz=>by subst z;rw[aa]at U;cases U
  rw[ab l1]at U;have l2:l≠J:=λz=>by subst z;rw[aa]at U;cases U
  rw[ab l2]at U;have n1:n≠x:=λz=>by subst z;rw[aa]at V;cases V
  rw[ab n1]at V;have n2:n≠J:=λz=>by subst z;rw[aa]at V;cases V
  rw[ab n2]at V;exact(l1,n1,l2,n2,t,U,V,rfl)
 .obtain⟨v,W,I2,rv,x,J,l,n,rfl,hx,j4,O,l1,n1,l2,n2,t,U,V,rfl⟩:=hq
  generalize T:jW C x J l n (upd (upd H J (.own x)) x (.ins C J []))=W at I2;have j6:W x=some (CL C J l n):=by rw[<-T];erw[aa]
  have j1:W n=some (.dK []):=by rw[<-T];unfold jW;rw[ab n1];erw[aa]
  have j5:W l=some (.lst []):=by rw[<-T];unfold jW;rw[ab l1,ab t,ab l1];erw[aa]
  have j3:W J=some (.own x):=by rw[<-T];unfold jW;rw[ab O,ab (Ne.symm n2),ab O,ab (Ne.symm l2),ab O];erw[aa]
  have other:∀b,b≠x->b≠J->b≠l->b≠n->W b=H b:=λb b1 b2 b3 b4=>by rw[<-T];unfold jW;rw[ab b1,ab b4,ab b1,ab b3,ab b1,ab b2]
  obtain⟨_,q2,vs,kv,⟨o,es,ep,ho,q1,y9,_,j9,_⟩⟩:=(I2.hok n _ j1:ObjOk X.prog X.w W s2.heap n (.dK []));have q3:vs=[]:=by cases kv;rfl
  subst q3;have q0:es.toList=[]:=by cases q:es.toList with|nil=>rfl|cons a r=>rw[q]at j9;cases j9
  have q4:aM X.w n [] [] s2.heap:=(q2,[],.nil,by decide,o,es,ep,ho,q1,y9,q0,List.nodup_nil);have I3:Inv X L σ (upd W n (.ext (aM X.w n [] []))) {s2 with heap:=s2.heap,toks:=s2.toks}:=I2.write (x:=n) (e:=n) (by rw[j1];erw[True.intro]) (.inl rfl) (λb w m e=>e) (o,ho)
   (q4,(o,ho),by rintro q8 q9 ⟨y1,ys,y2,y3,yo,q6,q5,y4,y5⟩ k;exact(y1,ys,y2,y3,yo,q6,q5,k yo y4,y5))
  generalize B:upd W n (.ext (aM X.w n [] []))=H3 at I3;have j7:H3 x=some (CL C J l n):=by rw[<-B,ab (Ne.symm n1)];erw[j6]
  have j2:H3 J=some (.own x):=by rw[<-B,ab (Ne.symm n2)];erw[j3]
  obtain⟨z1,z2,z3,z4,mA,z5,z6,z7⟩:=(I3.hok x _ j7:ObjOk X.prog X.w H3 s2.heap x (CL C J l n));have I4:Inv X L σ (upd H3 x (.ins C J (vfs l n 0))) {s2 with heap:=s2.heap,toks:=s2.toks}:=I3.write (x:=x) (e:=x) (by rw[j7];erw[True.intro]) (.inl rfl) (λb w m e=>e) (_,z4)
   (by rw[ab O];erw[j2],(by decide:3<=1000),z3,z4,mA,z5,λf=>by rw[zt];erw[z6 f],λf hf=>by
    have:=z7 f hf;simp only[mk0,List.map_nil,List.mem_cons,List.not_mem_nil,or_false]at this;unfold vfs;rcases this with z|z
    .erw[List.mem_cons.mpr (.inl z)]
    .erw[mc0 _ (List.mem_cons.mpr (.inl z))])
  generalize P:upd H3 x (.ins C J (vfs l n 0))=M at I4;have y7:M x=some (.ins C J (vfs l n 0)):=by rw[<-P];erw[aa]
  have q7:M J=some (.own x):=by rw[<-P,ab O];erw[j2]
  have y0:M n=some (.ext (aM X.w n [] [])):=by rw[<-P,ab n1,<-B];erw[aa]
  have z9:M l=some (.lst []):=by rw[<-P,ab l1,<-B,ab t];erw[j5]
  have y6:∀b,b≠x->b≠J->b≠l->b≠n->M b=H b:=λb b1 b2 b3 b4=>by rw[<-P,ab b1,<-B,ab b4];erw[other b b1 b2 b3 b4]
  have keep:∀b o,H b=some o->M b=some o:=λb o e=>by
   rw[y6 b (ag e hx) (ag e j4) (ag e U) (ag e V)];erw[e]
  let G':Hp:=upd G x (.ins C J (vfs l n 0))
  have gx:∀b,H b=none->G b=none:=λb hb=>E.sub.free hb
  have gg:Same G G':=aG (gx x hx);have e4:Ext G H G' M:=(keep,gg,λb o e=>by
   by_cases c:b=x
   .subst c
    have e:upd G b (.ins C J (vfs l n 0)) b=some o:=e;rw[aa]at e;cases e;erw[y7]
   .have e:upd G x (.ins C J (vfs l n 0)) b=some o:=e
    rw[ab c]at e;erw[keep b o (E.sub b o e)],λb o e1 e2=>by
    show upd G x (.ins C J (vfs l n 0)) b=none;rw[ab (ag e2 hx)];erw[e1])
  have E4:=E.step e4;have gl:G' l=none:=by show upd G x _ l=none;rw[ab l1];erw[gx l U]
  have gn:G' n=none:=by show upd G x _ n=none;rw[ab n1];erw[gx n V]
  have io:IoAt X.nk X.K G' M (.vlt C 0 []) x [l,n]:=.inr (.inl (C,J,l,n,[],[],rfl,rfl,Ne.symm t,aa,z9,y0,.nil,λm z=>by cases z));have il:=S.lt I;refine(.ref x,M,I4,rv,kq G' M x (E4.ext,by simp[E4.len],λj d N=>?_,λj d N=>?_,λj d N=>?_,λj k d e q N hk aj ak=>?_,λj d N=>?_,λj k d e N hk=>?_,λj N=>E4.io.fr j (getE_io N @0).2) gg)
  .obtain⟨ne,z⟩:=getE_io N @0
   rw[gn0 (Ne.symm ne)];erw[E4.dat j d z]
  .obtain⟨ne,z⟩:=getE_io N @0
   rw[gn0 (Ne.symm ne)];erw[E4.lent j d z]
  .obtain⟨ne,z⟩:=getE_io N @0
   rw[gn0 (Ne.symm ne)];erw[E4.own j d z]
  .obtain⟨nj,zj⟩:=getE_io N @0
   obtain⟨nk,zk⟩:=getE_io hk @0;rw[gn0 (Ne.symm nj)]at aj;rw[gn0 (Ne.symm nk)]at ak;erw[E4.apart j k d e q zj zk aj ak]
  .rcases getE_set N with⟨rfl,z⟩|⟨_,z⟩
   .cases z
    refine(x,[l,n],gs0 il,io,λb hb=>?_,λz hz=>(by rw[E.io.fr j hf]at hz;cases hz),λk e q hk ak hm=>?_)
    .simp only[List.mem_cons,List.not_mem_nil,or_false]at hb
     rcases hb with rfl|rfl
     .exact(gl,E.ext.hh.free U)
     .exact(gn,E.ext.hh.free V)
    .obtain⟨nk,zk⟩:=getE_io hk @0
     rw[gn0 (Ne.symm nk)]at ak;obtain⟨q',a1,_,_,a4⟩:=E.own k e zk;rw[ak]at a1;cases a1;obtain⟨o',j0⟩:=a4.some;simp only[List.mem_cons,List.not_mem_nil,or_false]at hm;rcases hm with rfl|rfl
     .rw[U]at j0;cases j0
     .rw[V]at j0;cases j0
   .erw[absurd z (j8 j d)]
  .have z0:∀{j:Nat}{d:D},(Y.set i (.io (.vlt C 0 [])))[j]?=some (.io d)->j=i:=λN=>(getE_set N).elim (·.1) λ⟨_,z⟩=>absurd z (j8 _ _)
   rw[z0 N,z0 hk]
end L2.Z
set_option maxRecDepth 10000
end
section
variable {c ep i n:Nat}{Y:List SI.Sl}{w:PySem.World}{fl:List Bool}{Φ:SI.Fs}{Γ:List (PySem.Str×SI.D)}{α β:Type}{a b:PySem.Expr}{A:PySem.Around}{s:PySem.Shared}{h:PySem.Heap}{m x y:PySem.Str}{ps:List Nat}{X:L2.Cx}{apos cpos pos px:PySem.Pos}{ls ss:List PySem.Str}{r:PySem.Addr}{na:Bool}{G H:L2.Hp}{mg:PySem.Str->Option PySem.Value}
namespace TX
open PySem SI
noncomputable abbrev af:Str:=⟨#[98,108,111,98]⟩
noncomputable abbrev ao:Str:=⟨#[116,114,101,101]⟩
def bA:Def:=([true],1,(.B (.ifs (.or (.chain .le .le (.k (.str ⟨#[97]⟩)) (.v 0) (.k (.str ⟨#[122]⟩))) (.or (.chain .le .le (.k (.str ⟨#[65]⟩)) (.v 0) (.k (.str ⟨#[90]⟩))) (.chain .le .le (.k (.str ⟨#[48]⟩)) (.v 0) (.k (.str ⟨#[57]⟩))))) (.A (.ret (.k (.bool true)))) .nil) (.ret (.cmp .isin (.v 0) (.k (.str ⟨#[46,95,45]⟩))))),.pure)
def eU:Def:=([true],1,(.cons (.ifs (.not (.chain .le .le ↑1 (.bi .len (.A (.v 0))) (.g "LONGEST_NAME"))) (.A (.ret (.k (.bool false)))) .nil) (.B (.ifs (.or (.cmp .eq (.v 0) (.k (.str ⟨#[46]⟩))) (.cmp .eq (.v 0) (.k (.str ⟨#[46,46]⟩)))) (.A (.ret (.k (.bool false)))) .nil) (.ret (.bi .all (.A (.comp 1 [] (.one 0) (.seq (.v 0)) .nil (.call "is_name_sign" (.A (.v 0))))))))),.pure)
def cg:Def:=([true],1,(.A (.ret (.bi .all (.A (.comp 2 [] (.tup [0,1]) (.zip (.B (.v 0) (.sl (.v 0) (.A ↑1) .nil))) .nil (.cmp .lt (.v 0) (.v 1))))))),.pure)
def gu:Def:=([true,true],2,(.A (.ret (.ite (.cmp .eq (.v 0) @9) (.v 1) (.op .add (.op .add (.v 0) (.k (.str ⟨#[47]⟩))) (.v 1))))),.pure)
def eV(cV:Nat):Def:=([true,true],2,(.A (.ret (.vcall cV "content" (.v 0) (.B (.v 1) (.k (.str af)))))),.pure)
def cj(cV:Nat):Def:=([true,true],2,(.A (.ret (.lsk (.vcall cV "content" (.v 0) (.B (.v 1) (.k (.str ao))))))),.pure)
def aQ(cV:Nat):Def:=([true,true],2,(.B (.ifs (.or (.cmp .isN (.v 1) (.k .none)) (.cmp .eq (.vcall cV "kind" (.v 0) (.A (.v 1))) (.k (.str af)))) (.A (.ret .fd0)) .nil) (.ret (.fdc (.call "entries_of" (.B (.v 0) (.v 1)))))),.pure)
def aI:Def:=([true],2,(.B (.fors (.one 1) (.seq (.v 0)) (.A (.ifs (.not (.call "is_name" (.A (.v 1)))) (.A .stuck) .nil))) (.ifs (.not (.call "names_rise" (.A (.v 0)))) (.A .stuck) .nil)),.pure)
def aB(cV:Nat):Def:=([true,true],2,(.A (.expr (.vcall cV "content" (.v 0) (.B (.v 1) (.k (.str ao)))))),.pure)
def dF:Def:=([true],4,(.cons (.new 1 (.me .split (.v 0) (.A (.k (.str ⟨#[10]⟩))))) (.cons (.pop 1 2) (.cons (.new 3 (.comp 1 [] (.one 0) (.seq (.v 1)) .nil (.op .add (.v 0) (.k (.str ⟨#[10]⟩))))) (.B (.ifs (.cmp .ne (.v 2) @9) (.A (.app 3 (.v 2))) .nil) (.ret (.v 3)))))),.pure)
def gy:Def:=([true,true],6,(.cons (.set 2 (.call "common_counts" (.B (.v 0) (.v 1)))) (.cons (.new 3 (.lst .nil)) (.cons (.set 4 ↑0) (.cons (.set 5 ↑0) (.B (.whl (.and (.cmp .lt (.v 4) (.bi .len (.A (.v 0)))) (.cmp .lt (.v 5) (.bi .len (.A (.v 1))))) (.A (.ifs (.cmp .eq (.idx (.v 0) (.v 4)) (.idx (.v 1) (.v 5))) (.cons (.app 3 (.tup (.B (.v 4) (.v 5)))) (.B (.aug 4 ↑1) (.aug 5 ↑1))) (.A (.ifs (.cmp .ge (.idx (.idx (.v 2) (.op .add (.v 4) ↑1)) (.v 5)) (.idx (.idx (.v 2) (.v 4)) (.op .add (.v 5) ↑1))) (.A (.aug 4 ↑1)) (.A (.aug 5 ↑1))))))) (.ret (.v 3))))))),.pure)
def bf:Def:=([true,true],4,(.cons (.new 2 (.lst (.A (.op .mul (.lst (.A ↑0)) (.op .add (.bi .len (.A (.v 1))) ↑1))))) (.cons (.fors (.one 3) (.rev (.v 0)) (.A (.app 2 (.call "count_row" (.cons (.v 3) (.B (.v 1) (.idx (.v 2) (.neg ↑1)))))))) (.B (.rev 2) (.ret (.v 2))))),.pure)
def cK:Def:=([true,true,true],5,(.cons (.new 3 (.op .mul (.lst (.A ↑0)) (.op .add (.bi .len (.A (.v 1))) ↑1))) (.B (.fors (.one 4) (.rngd (.op .sub (.bi .len (.A (.v 1))) ↑1) (.neg ↑1)) (.A (.ifs (.cmp .eq (.v 0) (.idx (.v 1) (.v 4))) (.A (.seti 3 (.v 4) (.op .add (.idx (.v 2) (.op .add (.v 4) ↑1)) ↑1))) (.A (.seti 3 (.v 4) (.bi .max (.B (.idx (.v 2) (.v 4)) (.idx (.v 3) (.op .add (.v 4) ↑1))))))))) (.ret (.v 3)))),.pure)
def bR:Def:=([true,true,true],8,(.cons (.new 3 (.lst .nil)) (.cons (.set 4 ↑0) (.B (.fors (.tup [5,6,7]) (.seq (.call "parts_of" (.A (.lst (.cons (.call "lines_of" (.A (.v 0))) (.B (.call "lines_of" (.A (.v 1))) (.call "lines_of" (.A (.v 2))))))))) (.B (.ifs (.call "both_changed" (.cons (.v 5) (.B (.v 6) (.v 7)))) (.A (.aug 4 ↑1)) .nil) (.ext 3 (.call "settled" (.cons (.v 5) (.B (.v 6) (.v 7))))))) (.ret (.tup (.B (.me .join @9 (.A (.v 3))) (.v 4))))))),.pure)
def dG:Def:=([true],5,(.cons (.new 1 (.lst .nil)) (.cons (.set 2 (.lst (.cons ↑0 (.B ↑0 ↑0)))) (.cons (.set 3 (.comp 1 [] (.one 0) (.seq (.v 0)) .nil (.bi .len (.A (.v 0))))) (.cons (.fors (.one 4) (.seq (.call "fixed_places" (.cons (.idx (.v 0) ↑0) (.B (.idx (.v 0) ↑1) (.idx (.v 0) ↑2))))) (.cons (.app 1 (.call "cut" (.cons (.v 0) (.B (.v 2) (.v 4))))) (.B (.set 2 (.comp 1 [] (.one 0) (.seq (.v 4)) .nil (.op .add (.v 0) ↑1))) (.app 1 (.call "cut" (.cons (.v 0) (.B (.v 4) (.v 2)))))))) (.B (.app 1 (.call "cut" (.cons (.v 0) (.B (.v 2) (.v 3))))) (.ret (.v 1))))))),.pure)
def bB:Def:=([true,true,true],4,(.B (.set 3 (.fdc (.call "paired" (.B (.v 0) (.v 2))))) (.ret (.comp 2 [3] (.tup [0,1]) (.seq (.call "paired" (.B (.v 0) (.v 1)))) (.A (.cmp .isin (.v 0) (.v 2))) (.lst (.cons (.v 0) (.B (.v 1) (.idx (.v 2) (.v 0)))))))),.pure)
def ur:Def:=([true,true,true],3,(.A (.ret (.comp 3 [] (.tup [0,1,2]) (.zip (.cons (.v 0) (.B (.v 1) (.v 2)))) .nil (.sl (.v 0) (.A (.v 1)) (.A (.v 2)))))),.pure)
def bC:Def:=([true,true,true],3,(.A (.ret (.and (.cmp .ne (.v 1) (.v 0)) (.and (.cmp .ne (.v 2) (.v 0)) (.cmp .ne (.v 2) (.v 1)))))),.pure)
def bD:Def:=([false,false,false],3,(.A (.ret (.ite (.cmp .eq (.v 1) (.v 0)) (.v 2) (.v 1)))),.pure)
def eW:Def:=([false,false,false],3,(.B (.ifs (.call "both_changed" (.cons (.v 0) (.B (.v 1) (.v 2)))) (.A (.ret (.op .add (.op .add (.op .add (.op .add (.lst (.A (.g "OURS_MARK"))) (.call "closed" (.A (.v 1)))) (.lst (.A (.g "MIDDLE_MARK")))) (.call "closed" (.A (.v 2)))) (.lst (.A (.g "THEIRS_MARK")))))) .nil) (.ret (.call "changed_side" (.cons (.v 0) (.B (.v 1) (.v 2)))))),.pure)
def gz:Def:=([true],1,(.A (.ret (.comp 1 [] (.one 0) (.seq (.v 0)) .nil (.ite (.me .ends (.v 0) (.A (.k (.str ⟨#[10]⟩)))) (.v 0) (.op .add (.v 0) (.k (.str ⟨#[10]⟩))))))),.pure)
def eX(cV:Nat):Def:=([true,true],2,(.A (.ret (.ite (.cmp .isN (.v 1) (.k .none)) (.k (.str ⟨#[110,111,110,101]⟩)) (.vcall cV "kind" (.v 0) (.A (.v 1)))))),.pure)
def eB:Def:=([true,true],2,(.B (.ifs (.v 0) (.A (.ret (.idx (.v 0) (.op .mod (.v 1) (.bi .len (.A (.v 0))))))) .nil) (.ret ↑0)),.pure)
def jg:Def:=([true,true],3,(.cons (.set 2 (.op .mod (.op .add (.call "_law_cell" (.B (.v 0) (.v 1))) (.op .mul ↑104729 (.op .add (.v 1) ↑1))) ↑4294967291)) (.B (.set 2 (.op .mod (.op .mul (.v 2) ↑48271) ↑4294967279)) (.ret (.op .mod (.op .add (.op .mul (.op .fdiv (.v 2) ↑64) ↑69621) (.v 2)) ↑4294967231)))),.pure)
def iD:Def:=([true],1,(.A (.ret (.and (.isi (.v 0) "int") (.not (.isi (.v 0) "bool"))))),.pure)
def gA:Def:=([true],3,(.cons (.set 1 (.k (.str ⟨#[32,33,34,35,36,38,39,40,41,42,43,44,45,46,47,48,49,50,51,52,53,54,55,56,57,58,59,60,61,62,63,64,65,66,67,68,69,70,71,72,73,74,75,76,77,78,79]⟩))) (.B (.set 2 (.k (.str ⟨#[80,81,82,83,84,85,86,87,88,89,90,91,92,93,94,95,96,97,98,99,100,101,102,103,104,105,106,107,108,109,110,111,112,113,114,115,116,117,118,119,120,121,122,123,124,125,126]⟩))) (.ret (.idx (.op .add (.v 1) (.v 2)) (.op .mod (.v 0) ↑94))))),.pure)
def gB:Def:=([true,true],3,(.cons (.set 2 (.call "_law_mix" (.B (.v 0) (.v 1)))) (.B (.ifs (.cmp .eq (.op .mod (.v 2) ↑4) ↑3) (.A (.ret (.op .add (.call "_law_sign" (.A (.op .fdiv (.v 2) ↑4))) (.call "_law_sign" (.A (.op .fdiv (.v 2) ↑376)))))) .nil) (.ret (.idx (.lst (.cons (.k (.str ⟨#[97]⟩)) (.cons (.k (.str ⟨#[98]⟩)) (.cons @9 (.cons (.k (.str ⟨#[97,32,98]⟩)) (.B (.k (.str ⟨#[124]⟩)) (.k (.str ⟨#[99]⟩)))))))) (.op .mod (.op .fdiv (.v 2) ↑4) ↑6))))),.pure)
def gC:Def:=([true,true],3,(.cons (.new 2 (.comp 1 [] (.one 0) (.seq (.v 0)) .nil (.op .add (.v 0) (.k (.str ⟨#[10]⟩))))) (.B (.ifs (.and (.v 1) (.and (.v 0) (.cmp .ne (.idx (.v 0) (.neg ↑1)) @9))) (.A (.seti 2 (.neg ↑1) (.idx (.v 0) (.neg ↑1)))) .nil) (.ret (.v 2)))),.pure)
def jh:Def:=([true,true,true],3,(.A (.ret (.comp 1 [1,0] (.one 0) (.rng (.v 2)) .nil (.call "_law_line" (.B (.v 2) (.op .add (.v 1) (.v 0))))))),.pure)
def dH:Def:=([true,true,true],9,(.cons (.set 3 (.lsk (.v 2))) (.B (.fors (.one 4) (.rng (.op .mod (.call "_law_mix" (.B (.v 0) (.v 1))) ↑4)) (.cons (.set 5 (.call "_law_mix" (.B (.v 0) (.op .add (.op .add (.v 1) ↑1) (.op .mul ↑2 (.v 4)))))) (.cons (.set 6 (.op .mod (.op .fdiv (.v 5) ↑3) (.op .add (.bi .len (.A (.v 3))) ↑1))) (.cons (.set 7 (.call "_law_line" (.B (.v 0) (.op .add (.op .add (.v 1) ↑2) (.op .mul ↑2 (.v 4)))))) (.B (.set 8 (.idx (.lst (.cons (.lst (.A (.v 7))) (.B (.lst .nil) (.lst (.A (.v 7)))))) (.op .mod (.v 5) ↑3))) (.set 3 (.op .add (.op .add (.sl (.v 3) .nil (.A (.v 6))) (.v 8)) (.sl (.v 3) (.A (.op .add (.v 6) (.idx (.lst (.cons ↑0 (.B ↑1 ↑1))) (.op .mod (.v 5) ↑3)))) .nil)))))))) (.ret (.v 3)))),.pure)
def bE:Def:=([true,true],5,(.cons (.set 2 (.call "_law_mix" (.B (.v 0) (.v 1)))) (.cons (.ifs (.cmp .gt (.op .mod (.v 2) ↑3) ↑0) (.A (.ret (.idx (.lst (.cons (.k (.str ⟨#[97]⟩)) (.cons (.k (.str ⟨#[98]⟩)) (.cons (.k (.str ⟨#[97,98]⟩)) (.cons (.k (.str ⟨#[97,46,98]⟩)) (.cons (.k (.str ⟨#[66]⟩)) (.cons (.k (.str ⟨#[48]⟩)) (.B (.k (.str ⟨#[97,45]⟩)) (.k (.str ⟨#[95]⟩)))))))))) (.op .mod (.op .fdiv (.v 2) ↑3) ↑8)))) .nil) (.cons (.set 3 (.k (.str ⟨#[97,98,99,100,101,102,103,104,105,106,107,108,109,110,111,112,113,114,115,116,117,118,119,120,121,122,65,66,67,68,69,70,71,72,73,74,75,76,77,78,79,80,81,82,83,84,85,86,87,88,89,90,48,49,50,51,52,53,54,55,56,57,46,95,45]⟩))) (.B (.set 4 (.me .join @9 (.A (.comp 1 [1,0,3] (.one 0) (.rng (.op .add ↑1 (.op .mod (.op .fdiv (.v 2) ↑3) ↑12))) .nil (.idx (.v 3) (.op .mod (.op .fdiv (.call "_law_mix" (.B (.v 2) (.op .add (.v 1) (.op .mul ↑7 (.v 0))))) ↑5) ↑65)))))) (.ret (.op .add (.v 4) (.op .mul (.k (.str ⟨#[97]⟩)) (.bi .int (.A (.cmp .isin (.v 4) (.tup (.B (.k (.str ⟨#[46]⟩)) (.k (.str ⟨#[46,46]⟩)))))))))))))),.pure)
def bN:Def:=([true],2,(.cons (.set 1 (.comp 1 [] (.one 0) (.seq (.me .split (.v 0) (.A (.k (.str ⟨#[10]⟩))))) .nil (.op .add (.v 0) (.k (.str ⟨#[10]⟩))))) (.B (.ifs (.cmp .eq (.idx (.v 1) (.neg ↑1)) (.k (.str ⟨#[10]⟩))) (.A (.ret (.sl (.v 1) .nil (.A (.neg ↑1))))) .nil) (.ret (.op .add (.sl (.v 1) .nil (.A (.neg ↑1))) (.lst (.A (.sl (.idx (.v 1) (.neg ↑1)) .nil (.A (.neg ↑1))))))))),.pure)
def di:Def:=([true,true,true],5,(.cons (.set 3 (.call "_law_mix" (.B (.v 0) (.op .add (.v 1) ↑1)))) (.cons (.ifs (.and (.cmp .gt (.v 2) ↑0) (.cmp .lt (.op .mod (.v 3) ↑5) ↑2)) (.A (.ret (.call "_law_folder" (.cons (.v 0) (.B (.v 1) (.v 2)))))) .nil) (.B (.set 4 (.call "_law_row" (.cons (.v 0) (.B (.op .add (.v 1) ↑2) (.op .mod (.op .fdiv (.v 3) ↑5) ↑4))))) (.ret (.tup (.B (.k (.str af)) (.me .join @9 (.A (.call "_law_ends" (.B (.v 4) (.cmp .eq (.op .mod (.v 3) ↑3) ↑0))))))))))),.pure)
def cF:Def:=([true,true,true],4,(.B (.set 3 (.bi .srt (.A (.comp 1 [1,0] (.one 0) (.rng (.op .mod (.call "_law_mix" (.B (.v 0) (.v 1))) ↑4)) .nil (.call "_law_name" (.B (.v 2) (.op .add (.op .add (.v 1) ↑3) (.v 0)))))))) (.ret (.tup (.B (.k (.str ao)) (.comp 1 [2,1,3,0] (.one 0) (.rng (.bi .len (.A (.v 3)))) .nil (.tup (.B (.idx (.v 3) (.v 0)) (.call "_law_node" (.cons (.v 4) (.B (.op .add (.op .add (.op .mul ↑4 (.v 2)) ↑5) (.v 0)) (.op .sub (.v 1) ↑1))))))))))),.pure)
def bF:Def:=([true,true,true,true],11,(.cons (.ifs (.cmp .eq (.idx (.v 2) ↑0) (.k (.str af))) (.cons (.set 4 (.call "_law_lines" (.A (.idx (.v 2) ↑1)))) (.B (.set 5 (.call "_law_edited" (.cons (.v 0) (.B (.v 1) (.comp 1 [] (.one 0) (.seq (.v 4)) .nil (.ite (.cmp .eq (.sl (.v 0) (.A (.neg ↑1)) .nil) (.k (.str ⟨#[10]⟩))) (.sl (.v 0) .nil (.A (.neg ↑1))) (.v 0))))))) (.ret (.tup (.B (.k (.str af)) (.me .join @9 (.A (.call "_law_ends" (.B (.v 5) (.cmp .eq (.op .mod (.call "_law_mix" (.B (.v 0) (.op .add (.v 1) ↑9))) ↑3) ↑0)))))))))) .nil) (.cons (.new 6 (.lst .nil)) (.cons (.fors (.one 7) (.rng (.bi .len (.A (.idx (.v 2) ↑1)))) (.cons (.unp (.tup [8,9]) (.idx (.idx (.v 2) ↑1) (.v 7))) (.cons (.set 10 (.call "_law_mix" (.B (.v 0) (.op .add (.v 1) (.op .mul ↑5 (.v 7)))))) (.B (.ifs (.cmp .eq (.op .mod (.v 10) ↑8) ↑1) (.A (.set 9 (.call "_law_node" (.cons (.v 0) (.B (.op .add (.op .add (.v 1) (.op .mul ↑5 (.v 7))) ↑1) (.op .sub (.v 3) ↑1)))))) (.A (.ifs (.chain .lt .lt ↑1 (.op .mod (.v 10) ↑8) ↑5) (.A (.set 9 (.call "_law_turn" (.cons (.v 0) (.cons (.op .add (.op .add (.op .mul ↑4 (.v 1)) ↑5) (.v 7)) (.B (.v 9) (.op .sub (.v 3) ↑1))))))) .nil))) (.ifs (.cmp .gt (.op .mod (.v 10) ↑8) ↑0) (.A (.app 6 (.tup (.B (.v 8) (.v 9))))) .nil))))) (.cons (.set 8 (.call "_law_name" (.B (.v 0) (.op .add (.v 1) ↑3)))) (.B (.ifs (.and (.cmp .eq (.op .mod (.call "_law_mix" (.B (.v 0) (.op .add (.v 1) ↑2))) ↑3) ↑0) (.cmp .notin (.v 8) (.fdc (.v 6)))) (.A (.app 6 (.tup (.B (.v 8) (.call "_law_node" (.cons (.v 0) (.B (.op .add (.v 1) ↑4) (.op .sub (.v 3) ↑1)))))))) .nil) (.ret (.tup (.B (.k (.str ao)) (.srtn (.v 6)))))))))),.pure)
def dj(cV:Nat):Def:=([true,true],2,(.B (.ifs (.cmp .eq (.vcall cV "kind" (.v 0) (.A (.v 1))) (.k (.str af))) (.A (.ret (.tup (.B (.k (.str af)) (.call "text_of" (.B (.v 0) (.v 1))))))) .nil) (.ret (.tup (.B (.k (.str ao)) (.comp 2 [0] (.tup [0,1]) (.seq (.call "entries_of" (.B (.v 0) (.v 1)))) .nil (.tup (.B (.v 0) (.call "_law_seen" (.B (.v 2) (.v 1)))))))))),.pure)
def gE:Def:=([true,true],6,(.cons (.newt 3 (.comp 1 [1] (.one 0) (.rng (.op .add (.bi .len (.cons (.v 0) .nil)) ↑1)) .nil (.op .mul (.lst (.cons ↑0 .nil)) (.op .add (.bi .len (.cons (.v 1) .nil)) ↑1)))) (.cons (.fors (.one 4) (.revr (.bi .len (.cons (.v 0) .nil))) (.cons (.fors (.one 2) (.revr (.bi .len (.cons (.v 1) .nil))) (.cons (.set 5 (.bi .max (.cons (.idx2 3 (.op .add (.v 4) ↑1) (.v 2)) (.cons (.idx2 3 (.v 4) (.op .add (.v 2) ↑1)) .nil)))) (.cons (.sett 3 (.v 4) (.v 2) (.bi .max (.cons (.v 5) (.cons (.op .mul (.bi .int (.cons (.cmp .eq (.idx (.v 0) (.v 4)) (.idx (.v 1) (.v 2))) .nil)) (.op .add ↑1 (.idx2 3 (.op .add (.v 4) ↑1) (.op .add (.v 2) ↑1)))) .nil)))) .nil))) .nil)) (.cons (.rett 3) .nil))),(.tb 3))
def gF:Def:=([true,true],6,(.cons (.set 2 (.call "_law_most" (.B (.v 0) (.v 1)))) (.cons (.new 3 (.lst .nil)) (.cons (.set 4 ↑0) (.cons (.set 5 ↑0) (.B (.whl (.and (.cmp .lt (.v 4) (.bi .len (.A (.v 0)))) (.cmp .lt (.v 5) (.bi .len (.A (.v 1))))) (.A (.ifs (.cmp .eq (.idx (.v 0) (.v 4)) (.idx (.v 1) (.v 5))) (.cons (.app 3 (.tup (.B (.v 4) (.v 5)))) (.B (.set 4 (.op .add (.v 4) ↑1)) (.set 5 (.op .add (.v 5) ↑1)))) (.A (.ifs (.cmp .lt (.idx (.idx (.v 2) (.op .add (.v 4) ↑1)) (.v 5)) (.idx (.idx (.v 2) (.v 4)) (.op .add (.v 5) ↑1))) (.A (.set 5 (.op .add (.v 5) ↑1))) (.A (.set 4 (.op .add (.v 4) ↑1)))))))) (.ret (.v 3))))))),.pure)
def gG:Def:=([false,false,false],7,(.cons (.ifs (.cmp .eq (.v 1) (.v 0)) (.A (.ret (.tup (.B (.me .join @9 (.A (.v 2))) ↑0)))) .nil) (.cons (.ifs (.or (.cmp .eq (.v 2) (.v 0)) (.cmp .eq (.v 2) (.v 1))) (.A (.ret (.tup (.B (.me .join @9 (.A (.v 1))) ↑0)))) .nil) (.cons (.set 3 (.k (.str ⟨#[60,60,60,60,60,60,60,10]⟩))) (.B (.fors (.tup [4,5]) (.seq (.lst (.B (.tup (.B (.v 1) (.k (.str ⟨#[61,61,61,61,61,61,61,10]⟩)))) (.tup (.B (.v 2) (.k (.str ⟨#[62,62,62,62,62,62,62,10]⟩))))))) (.B (.set 6 (.me .join @9 (.A (.v 4)))) (.set 3 (.op .add (.op .add (.op .add (.v 3) (.v 6)) (.idx (.lst (.B @9 (.k (.str ⟨#[10]⟩)))) (.bi .int (.A (.and (.cmp .ne (.v 6) @9) (.cmp .ne (.sl (.v 6) (.A (.neg ↑1)) .nil) (.k (.str ⟨#[10]⟩)))))))) (.v 5))))) (.ret (.tup (.B (.v 3) ↑1))))))),.pure)
def gH:Def:=([true,true,true],10,(.cons (.set 3 (.fdc (.call "_law_walk" (.B (.v 0) (.v 1))))) (.cons (.set 4 (.comp 2 [3] (.tup [0,1]) (.seq (.call "_law_walk" (.B (.v 0) (.v 2)))) (.A (.cmp .isin (.v 0) (.v 2))) (.tup (.cons (.v 0) (.B (.idx (.v 2) (.v 0)) (.v 1)))))) (.cons (.set 5 @9) (.cons (.set 6 ↑0) (.cons (.set 7 (.tup (.cons ↑0 (.B ↑0 ↑0)))) (.B (.fors (.one 8) (.seq (.op .add (.v 4) (.lst (.A (.tup (.cons (.bi .len (.A (.v 0))) (.B (.bi .len (.A (.v 1))) (.bi .len (.A (.v 2)))))))))) (.cons (.set 9 (.call "_law_part" (.cons (.sl (.v 0) (.A (.idx (.v 7) ↑0)) (.A (.idx (.v 8) ↑0))) (.B (.sl (.v 1) (.A (.idx (.v 7) ↑1)) (.A (.idx (.v 8) ↑1))) (.sl (.v 2) (.A (.idx (.v 7) ↑2)) (.A (.idx (.v 8) ↑2))))))) (.cons (.set 5 (.op .add (.op .add (.v 5) (.idx (.v 9) ↑0)) (.me .join @9 (.A (.sl (.v 0) (.A (.idx (.v 8) ↑0)) (.A (.op .add (.idx (.v 8) ↑0) ↑1))))))) (.B (.set 6 (.op .add (.v 6) (.idx (.v 9) ↑1))) (.set 7 (.tup (.cons (.op .add (.idx (.v 8) ↑0) ↑1) (.B (.op .add (.idx (.v 8) ↑1) ↑1) (.op .add (.idx (.v 8) ↑2) ↑1))))))))) (.ret (.tup (.B (.v 5) (.v 6)))))))))),.pure)
def jj:Def:=([true,true,true],5,(.cons (.new 3 (.lst .nil)) (.cons (.ifs (.or (.cmp .eq (.v 1) (.v 2)) (.cmp .eq (.v 2) (.v 0))) (.A (.ret (.tup (.B (.v 1) (.v 3))))) .nil) (.cons (.ifs (.cmp .eq (.v 1) (.v 0)) (.A (.ret (.tup (.B (.v 2) (.v 3))))) .nil) (.B (.setm 4 (.call "_law_sides" 2 3 [.x (.p @9),.x (.p (.lst (.cons (.ite (.cmp .isN (.v 0) (.k .none)) (.tup (.cons (.k (.str ao)) (.cons (.lst .nil) .nil))) (.v 0)) (.cons (.v 1) (.cons (.v 2) .nil))))),.v 3])) (.ret (.tup (.B (.v 4) (.v 3)))))))),.pure)
def bG:Def:=([true,true,true],3,(.B (.ifs (.or (.not (.isi (.v 1) "tuple")) (.or (.cmp .ne (.bi .len (.A (.v 1))) ↑2) (.or (.not (.call "_law_whole" (.A (.idx (.v 1) ↑0)))) (.not (.isi (.idx (.v 1) ↑1) "list"))))) (.A (.ret (.k (.bool false)))) .nil) (.ret (.and (.cmp .eq (.idx (.v 1) ↑1) (.idx (.v 2) ↑1)) (.cmp .eq (.call "_law_seen" (.B (.v 0) (.idx (.v 1) ↑0))) (.idx (.v 2) ↑0))))),.pure)
def lZ(cV:Nat):Def:=([true],9,(.cons (.set 1 (.call "_law_folder" (.cons (.v 0) (.cons ↑0 (.cons ↑2 .nil))))) (.cons (.set 2 (.call "_law_turn" (.cons (.v 0) (.cons ↑2 (.cons (.v 1) (.cons ↑2 .nil)))))) (.cons (.set 3 (.call "_law_turn" (.cons (.v 0) (.cons ↑3 (.cons (.v 1) (.cons ↑2 .nil)))))) (.cons (.ifs (.cmp .eq (.op .mod (.call "_law_mix" (.cons (.v 0) (.cons ↑60 .nil))) ↑5) ↑0) (.cons (.set 3 (.call "_law_folder" (.cons (.v 0) (.cons ↑4 (.cons ↑2 .nil))))) .nil) .nil) (.cons (.newv 4 cV) (.cons (.new 5 (.lst (.cons ↑0 (.cons ↑0 (.cons ↑0 .nil))))) (.cons (.fors (.one 6) (.seq (.idx (.lst (.cons (.lst (.cons ↑0 (.cons ↑1 (.cons ↑2 .nil)))) (.cons (.lst (.cons ↑2 (.cons ↑1 (.cons ↑0 .nil)))) (.cons (.lst (.cons ↑1 (.cons ↑2 (.cons ↑0 .nil)))) .nil)))) (.op .mod (.call "_law_mix" (.cons (.v 0) (.cons ↑61 .nil))) ↑3))) (.cons (.setim 5 (.v 6) (.call "_law_store" 0 4 [.v 4,.x (.p (.idx (.lst (.cons (.v 1) (.cons (.v 2) (.cons (.v 3) .nil)))) (.v 6)))])) .nil)) (.cons (.ifs (.cmp .eq (.op .mod (.call "_law_mix" (.cons (.v 0) (.cons ↑62 .nil))) ↑4) ↑0) (.cons (.setm 7 (.call "merged_trees" 0 4 [.v 4,.x (.p (.k .none)),.x (.p (.idx (.v 5) ↑1)),.x (.p (.idx (.v 5) ↑2))])) (.cons (.set 8 (.call "_law_due" (.cons (.k .none) (.cons (.v 2) (.cons (.v 3) .nil))))) .nil)) (.cons (.setm 7 (.call "merged_trees" 0 4 [.v 4,.x (.p (.idx (.v 5) ↑0)),.x (.p (.idx (.v 5) ↑1)),.x (.p (.idx (.v 5) ↑2))])) (.cons (.set 8 (.call "_law_due" (.cons (.v 1) (.cons (.v 2) (.cons (.v 3) .nil))))) .nil))) (.cons (.ifs (.not (.call "_law_good_merge" (.cons (.v 4) (.cons (.v 7) (.cons (.v 8) .nil))))) (.cons (.ret (.k (.bool false))) .nil) .nil) (.cons (.ret (.cmp .eq (.comp 1 [4] (.one 0) (.seq (.v 5)) .nil (.call "_law_seen" (.cons (.v 1) (.cons (.v 0) .nil)))) (.lst (.cons (.v 1) (.cons (.v 2) (.cons (.v 3) .nil)))))) .nil)))))))))),(.mk 4))
def nY(cV:Nat):Def:=([true,true],2,(.cons (.retm (.put cV 0 (.tup (.cons (.k (.str af)) (.cons (.v 1) .nil))))) .nil),(.io 0))
def nZ(cV:Nat):Def:=([true,true],4,(.cons (.expr (.call "refuse_wrong_names" (.cons (.comp 2 [] (.tup [0,1]) (.seq (.v 1)) .nil (.v 0)) .nil))) (.cons (.fors (.tup [2,3]) (.seq (.v 1)) (.cons (.ifs (.cmp .eq (.vcall cV "kind" (.v 0) (.cons (.v 3) .nil)) (.k (.str ⟨#[99,111,109,109,105,116]⟩))) (.cons .stuck .nil) .nil) .nil)) (.cons (.retm (.put cV 0 (.tup (.cons (.k (.str ao)) (.cons (.bi .tuple (.cons (.comp 2 [] (.tup [0,1]) (.seq (.v 1)) .nil (.tup (.cons (.v 0) (.cons (.v 1) .nil)))) .nil)) .nil))))) .nil))),(.io 0))
def bH:Def:=([true,true,true,true],4,(.cons (.ifs (.cmp .notN (.v 1) (.k .none)) (.cons (.expr (.call "refuse_what_is_no_tree" (.cons (.v 0) (.cons (.v 1) .nil)))) .nil) .nil) (.cons (.expr (.call "refuse_what_is_no_tree" (.cons (.v 0) (.cons (.v 2) .nil)))) (.cons (.expr (.call "refuse_what_is_no_tree" (.cons (.v 0) (.cons (.v 3) .nil)))) (.cons (.retm (.call "merged_by_names" 0 0 [.v 0,.v 1,.v 2,.v 3,.x (.p @9)])) .nil)))),(.io 0))
def aJ:Def:=([true,true,true,true,true],13,(.cons (.set 5 (.call "entries_by_name" (.cons (.v 0) (.cons (.v 1) .nil)))) (.cons (.set 6 (.call "entries_by_name" (.cons (.v 0) (.cons (.v 2) .nil)))) (.cons (.set 7 (.call "entries_by_name" (.cons (.v 0) (.cons (.v 3) .nil)))) (.cons (.new 8 (.lst .nil)) (.cons (.new 9 (.lst .nil)) (.cons (.fors (.one 10) (.seq (.sor (.v 6) (.v 7))) (.cons (.set 11 (.lst (.cons (.get (.v 5) (.v 10)) (.cons (.get (.v 6) (.v 10)) (.cons (.get (.v 7) (.v 10)) .nil))))) (.cons (.setm 12 (.call "merged_entry" 0 0 [.v 0,.x (.p (.idx (.v 11) ↑0)),.x (.p (.idx (.v 11) ↑1)),.x (.p (.idx (.v 11) ↑2)),.x (.p (.call "joined" (.cons (.v 4) (.cons (.v 10) .nil))))])) (.cons (.ifs (.cmp .notN (.idx (.v 12) ↑0) (.k .none)) (.cons (.app 8 (.tup (.cons (.v 10) (.cons (.idx (.v 12) ↑0) .nil)))) .nil) .nil) (.cons (.ext 9 (.idx (.v 12) ↑1)) .nil))))) (.cons (.retm (.tup [.x (.call "tree" 0 0 [.v 0,.v 8]),.x (.p (.v 9))])) .nil))))))),(.io 0))
def aS:Def:=([true,true,true,true,true],6,(.cons (.ifs (.not (.call "both_changed" (.cons (.v 1) (.cons (.v 2) (.cons (.v 3) .nil))))) (.cons (.ret (.tup (.cons (.call "changed_side" (.cons (.v 1) (.cons (.v 2) (.cons (.v 3) .nil)))) (.cons (.lst .nil) .nil)))) .nil) .nil) (.cons (.set 5 (.lst (.cons (.call "kind_of" (.cons (.v 0) (.cons (.v 2) .nil))) (.cons (.call "kind_of" (.cons (.v 0) (.cons (.v 3) .nil))) .nil)))) (.cons (.ifs (.cmp .eq (.v 5) (.lst (.cons (.k (.str ao)) (.cons (.k (.str ao)) .nil)))) (.cons (.retm (.call "none_if_empty" 0 0 [.v 0,.x (.call "merged_by_names" 0 0 [.v 0,.v 1,.v 2,.v 3,.v 4])])) .nil) .nil) (.cons (.ifs (.cmp .eq (.v 5) (.lst (.cons (.k (.str af)) (.cons (.k (.str af)) .nil)))) (.cons (.retm (.call "merged_blobs" 0 0 [.v 0,.v 1,.v 2,.v 3,.v 4])) .nil) .nil) (.cons (.ret (.tup (.cons (.ite (.cmp .isN (.v 2) (.k .none)) (.v 3) (.v 2)) (.cons (.lst (.cons (.v 4) .nil)) .nil)))) .nil))))),(.io 0))
def bg:Def:=([true,true],2,(.cons (.ret (.ite (.call "entries_of" (.cons (.v 0) (.cons (.idx (.v 1) ↑0) .nil))) (.v 1) (.tup (.cons (.k .none) (.cons (.idx (.v 1) ↑1) .nil))))) .nil),(.io 0))
def bI:Def:=([true,true,true,true,true],7,(.cons (.set 5 (.ite (.cmp .eq (.call "kind_of" (.cons (.v 0) (.cons (.v 1) .nil))) (.k (.str af))) (.call "text_of" (.cons (.v 0) (.cons (.v 1) .nil))) @9)) (.cons (.set 6 (.call "merged_text" (.cons (.v 5) (.cons (.call "text_of" (.cons (.v 0) (.cons (.v 2) .nil))) (.cons (.call "text_of" (.cons (.v 0) (.cons (.v 3) .nil))) .nil))))) (.cons (.retm (.tup [.x (.call "blob" 0 0 [.v 0,.x (.p (.idx (.v 6) ↑0))]),.x (.p (.op .mul (.lst (.cons (.v 4) .nil)) (.idx (.v 6) ↑1)))])) .nil))),(.io 0))
def dm:Def:=([true,true],2,(.cons (.ifs (.cmp .eq (.idx (.v 1) ↑0) (.k (.str af))) (.cons (.retm (.call "blob" 0 0 [.v 0,.x (.p (.idx (.v 1) ↑1))])) .nil) .nil) (.cons (.retm (.call "tree" 0 0 [.v 0,.x (.comp 2 [0] 2 0 (.tup [0,1]) (.seq (.idx (.v 1) ↑1)) (.tup [.x (.p (.v 0)),.x (.call "_law_store" 0 2 [.v 2,.v 1])]))])) .nil)),(.io 0))
def cv:Def:=([true,true,true],10,(.cons (.set 3 (.comp 1 [] (.one 0) (.seq (.v 1)) .nil (.ite (.cmp .isN (.v 0) (.k .none)) (.k (.str ⟨#[110,111,110,101]⟩)) (.idx (.v 0) ↑0)))) (.cons (.set 4 (.idx (.v 1) ↑0)) (.cons (.set 5 (.idx (.v 1) ↑1)) (.cons (.set 6 (.idx (.v 1) ↑2)) (.cons (.ifs (.or (.cmp .eq (.v 5) (.v 6)) (.cmp .eq (.v 6) (.v 4))) (.cons (.ret (.v 5)) .nil) .nil) (.cons (.ifs (.cmp .eq (.v 5) (.v 4)) (.cons (.ret (.v 6)) .nil) .nil) (.cons (.ifs (.cmp .eq (.sl (.v 3) (.cons ↑1 .nil) .nil) (.lst (.cons (.k (.str ao)) (.cons (.k (.str ao)) .nil)))) (.cons (.setm 7 (.call "_law_sides" 2 2 [.v 0,.x (.p (.lst (.cons (.ite (.cmp .eq (.idx (.v 3) ↑0) (.k (.str ao))) (.v 4) (.tup (.cons (.k (.str ao)) (.cons (.lst .nil) .nil)))) (.cons (.v 5) (.cons (.v 6) .nil))))),.v 2])) (.cons (.ret (.ite (.idx (.v 7) ↑1) (.v 7) (.k .none))) .nil)) .nil) (.cons (.ifs (.cmp .eq (.sl (.v 3) (.cons ↑1 .nil) .nil) (.lst (.cons (.k (.str af)) (.cons (.k (.str af)) .nil)))) (.cons (.set 8 (.ite (.cmp .eq (.idx (.v 3) ↑0) (.k (.str af))) (.idx (.v 4) ↑1) @9)) (.cons (.set 9 (.call "_law_both" (.cons (.call "_law_lines" (.cons (.v 8) .nil)) (.cons (.call "_law_lines" (.cons (.idx (.v 5) ↑1) .nil)) (.cons (.call "_law_lines" (.cons (.idx (.v 6) ↑1) .nil)) .nil))))) (.cons (.ext 2 (.op .mul (.lst (.cons (.v 0) .nil)) (.idx (.v 9) ↑1))) (.cons (.ret (.tup (.cons (.k (.str af)) (.cons (.idx (.v 9) ↑0) .nil)))) .nil)))) .nil) (.cons (.app 2 (.v 0)) (.cons (.ret (.ite (.cmp .isN (.v 5) (.k .none)) (.v 6) (.v 5))) .nil)))))))))),(.io 2))
def dq:Def:=([true,true,true],8,(.cons (.set 3 (.comp 1 [] (.one 0) (.seq (.v 1)) .nil (.fdc (.idx (.v 0) ↑1)))) (.cons (.new 4 (.lst .nil)) (.cons (.fors (.one 5) (.seq (.bi .srt (.cons (.op .add (.op .add (.lsk (.idx (.v 3) ↑0)) (.lsk (.idx (.v 3) ↑1))) (.lsk (.idx (.v 3) ↑2))) .nil))) (.cons (.set 6 (.ite (.cmp .eq (.v 0) @9) (.v 5) (.op .add (.op .add (.v 0) (.k (.str ⟨#[47]⟩))) (.v 5)))) (.cons (.setm 7 (.call "_law_entry" 2 2 [.v 6,.x (.p (.comp 1 [5] (.one 0) (.seq (.v 3)) .nil (.get (.v 0) (.v 1)))),.v 2])) (.cons (.ifs (.cmp .notN (.v 7) (.k .none)) (.cons (.app 4 (.tup (.cons (.v 5) (.cons (.v 7) .nil)))) .nil) .nil) .nil)))) (.cons (.ret (.tup (.cons (.k (.str ao)) (.cons (.v 4) .nil)))) .nil)))),(.io 2))
def eC(cV:Nat):Def:=([true,true],2,(.A (.ret (.idx (.vcall cV "held" (.v 0) (.A (.v 1))) ↑0))),.pure)
def eE(cV:Nat):Def:=([true,true],2,(.B (.ifs (.not (.chain .le .lt ↑0 (.v 1) (.bi .len (.A (.vob cV (.v 0)))))) (.A .stuck) .nil) (.ret (.idx (.vob cV (.v 0)) (.v 1)))),.pure)
def bX(cV:Nat):Def:=([true,true,true],4,(.cons (.set 3 (.vcall cV "held" (.v 0) (.A (.v 1)))) (.B (.ifs (.cmp .ne (.idx (.v 3) ↑0) (.v 2)) (.A .stuck) .nil) (.ret (.idx (.v 3) ↑1)))),.pure)
end TX
namespace SI
open PySem
section
variable {l:List Bool}{b:Ss}{ds:List D}{d w:D}{o:Out}
@[simp] def Nw:br (l,n,b,.pure) ds=aN l n ds:=rfl
@[simp] def Nx:br (l,n,b,.io i) ds=(aN l n (ds.set i .none)).set i (.io (ds.getD i .none)):=rfl
@[simp] def Ny:br (l,n,b,.mk i) ds=(aN l n ds).set i .fr:=rfl
@[simp] def My:br (l,n,b,.tb i) ds=(aN l n ds).set i .fr:=rfl
@[simp] def pA{ds:List D}:aN fl n ds=(fl.zip ds).map (λp=>if p.1 then Sl.lent p.2 else .dat p.2)++List.replicate (n-ds.length) .no:=rfl
@[simp] def Nh:Out.val .pure o=some o.fin.1:=rfl
@[simp] def Ni:Out.val (.mk i) o=some o.fin.1:=rfl
@[simp] def Nj:Out.val (.tb i) o=some o.fin.1:=rfl
@[simp] def Nk:Out.val (.io i) (.rt d w)=if rR w then some (.tuple [d,w])else none:=rfl
@[simp] def Nl:Out.fin (.nx Y)=(.none,dW Y):=rfl
@[simp] def Nm:Out.fin (.rt d w)=(d,w):=rfl
end
end SI
namespace TX
open PySem SI
def ans(Φ:Fs)(Γ:List (Str×D))(d:Def)(ds:List D):Option D:=(exs Φ Γ (br d ds) d.body).bind (Out.val d.k)
def Has(Φ:Fs)(f:Str)(fl:List Bool)(P:(List D->Option D)->Prop):Prop:=∃J,Φ f=some (fl,J)/\P J
noncomputable def ma(ns:List Int)(k:Int):Int:=if ns=[] then 0 else (ns[(k % ns.length).toNat]?).getD 0
def aR{α}{xs:List α}{i:Int}(J:0<=i)(K:i<xs.length):atI xs i=xs[i.toNat]?:=by
 unfold atI ixN;rw[if_pos J,if_pos K];rfl
def md{xs:List α}{i}(d:α)(h:i<xs.length):xs[i]?=some (xs[i]?.getD d):=by
 rw[ge0 h];rfl
def zu(ns)(k:Int):ans Φ Γ eB [.scr ns,.int k]=some (.int (ma ns k)):=by
 by_cases h:ns=[]
 .subst h;simp[ans,eB,ma]
 .have K:=lp0 h
  have J:=(show 0<=k % (ns.length:Int)/\k % (ns.length:Int)<ns.length by
    have:0<ns.length:=lp0 h;exact(en0 _ @1,el0 _ @1))
  have e:atI ns (k % (ns.length:Int))=some (ma ns k):=by
   rw[aR J.1 J.2,md 0 @1];simp[ma,h]
  simp[ans,eB,h,K,e]
end TX
namespace M1
open PySem PySem.Builtin PySem.Builtin.Str
def ext{a b:Str}(h:a.cps.toList=b.cps.toList):a=b:=by
 cases a;cases b
 congr 1
 erw[Array.toList_inj.mp h]
def aT(a b:Str):(a++b).cps.toList=a.cps.toList++b.cps.toList:=by
 show (a.cps++b.cps).toList=_;simp
def zw(x:Str)(c:Nat):Txt.split x ⟨#[c]⟩≠[]:=by
 unfold Txt.split;split
 .simp
 .split
  .simp
  .rw[StrLaws.partsBetween_eq]
   obtain⟨p,r,e⟩:=StrLaws.partsFrom_ne x (⟨#[c]⟩:Str).length 0 (occurrences x ⟨#[c]⟩ 0 x.length (x.length+1));rw[e];simp
noncomputable def nl:Str:=⟨#[10]⟩
def dI:∀ls:List Str,(Txt.join Str.empty ls).cps.toList=(ls.map λp=>p.cps.toList).flatten:=by
 intro ls;show (glued Str.empty ls).cps.toList=_;rw[StrLaws.glued_eq_join]
 induction ls with
 |nil=>rfl
 |cons x r ih=>
  cases r with
  |nil=>show x.cps.toList=_;simp
  |cons y r=>
   show (x++Str.empty++Str.join Str.empty (y::r)).cps.toList=_;rw[aT,aT,ih];show x.cps.toList++[]++_=_;simp
end M1
namespace TX
open PySem SI M1
noncomputable def mixF(ns:List Int)(k:Int):Int:=
 let a:=(ma ns k+104729*(k+1)) % 4294967291
 let b:=a*48271 % 4294967279
 (b / 64*69621+b) % 4294967231
abbrev EI(Φ:Fs):Prop:=Has Φ "_law_cell" [true,true] λJ=>∀K k,J [.scr K,.int k]=some (.int (ma K k))
abbrev gI(Φ:Fs):Prop:=Has Φ "_law_mix" [true,true] λJ=>∀K k,J [.scr K,.int k]=some (.int (mixF K k))
def zx(i:Int)(j:Int)(J:-(2 ^ 64)<j)(K:j<2 ^ 64):rQ i j=true:=by
 unfold rQ;rw[dt0 J,dt0 K];simp
def zy(i:Int)(j:Int)(J:-(2 ^ 64)<i)(K:i<2 ^ 64):rQ i j=true:=by
 unfold rQ;rw[dt0 J,dt0 K];simp
def CV(hc:EI Φ)(ns)(k:Int):ans Φ Γ jg [.scr ns,.int k]=some (.int (mixF ns k)):=by
 obtain⟨K,h,J⟩:=hc;simp[ans,jg,h,J,zy 104729,zx _ 48271,zx _ 69621,mixF]
def oa(ns)(k:Int)(m:Int)(h:0<m):0<=mixF ns k % m/\mixF ns k % m<m:=(en0 _ @1,el0 _ h)
theorem az{f}{inj g}:∀{xs:List β},(∀x∈xs,f (inj x)=some (some (g x)))->ay f (xs.map inj)=some (xs.map g)
 |[],_=>rfl
 |x::r,h=>by
  show (f (inj x)).bind _=_;rw[h x ms0];show (ay f (r.map inj)).map _=_;rw[az λy J=>h y (mc0 _ J)];rfl
def qh{α}{xs}{i}(d:α)(J:0<=i)(K:i<xs.length):atI xs i=some (xs[i.toNat]?.getD d):=by
 rw[aR J K,<-md d @1]
def fX{α}{xs}(h:xs≠[])(d:α):atI xs (-1)=some (xs.getLastD d):=by
 have J:=lp0 h;have e:ixN xs.length (-1)=some (xs.length-1):=by
  unfold ixN;rw[if_neg @2,if_pos @1]
  congr 1;lia
 unfold atI;rw[e];show xs[xs.length-1]?=_;rw[<-List.getLast?_eq_getElem?,List.getLastD_eq_getLast?];cases q:xs.getLast? with
 |none=>rw[List.getLast?_eq_none_iff]at q;erw[absurd q h]
 |some v=>rfl
theorem iR{c}:∀{J:A1}{p:Str},p∈J->p.length<=(Str.join ⟨#[c]⟩ J).length
 |[],_,h=>by cases h
 |[y],p,h=>by rw[List.mem_singleton.mp h];erw[nr0 _]
 |y::z::r,p,h=>by
  have e:(Str.join ⟨#[c]⟩ (y::z::r)).length=y.length+1+(Str.join ⟨#[c]⟩ (z::r)).length:=by
   show (y++⟨#[c]⟩++Str.join ⟨#[c]⟩ (z::r)).length=_;rw[Str.length_append,Str.length_append];rfl
  rcases mq0 h with rfl|h
  .lia
  .have:=iR (c:=c) h
   lia
def split_le(x:Str):∀p∈Txt.split x nl,p.length<=x.length:=by
 intro p J;have:=iR (c:=10) J;rw[show Str.join ⟨#[10]⟩ (Txt.split x nl)=x from StrLaws.join_split x nl]at this;erw[this]
def du(x:Str):Txt.split x nl≠[]:=zw x 10
def cL(x:Str):(Txt.split x nl).length<=x.length+1:=by
 have K:∀J:List Str,J≠[]->J.length<=(Str.join nl J).length+1:=by
  intro J
  induction J with
  |nil=>intro h;erw[absurd rfl h]
  |cons y r ih=>
   intro _;cases r with
   |nil=>simp
   |cons z q=>
    have e:(Str.join nl (y::z::q)).length=y.length+1+(Str.join nl (z::q)).length:=by
     show (y++nl++Str.join nl (z::q)).length=_;rw[Str.length_append,Str.length_append];rfl
    have:=ih @0;rw[e];simp only[lc0]at this ⊢
    lia
 have:=K _ (du x)
 rwa [show Str.join nl (Txt.split x nl)=x from StrLaws.join_split x nl]at this
theorem sF{f}{n}:∀{xs:List α},(∀x∈xs,f x<=n)->(xs.map f).sum<=xs.length*n
 |[],_=>by simp
 |x::r,h=>by
  have K:=h x ms0;have L:=sF (f:=f) (xs:=r) λy J=>h y (mc0 _ J)
  simp only[mk0,List.sum_cons,lc0,Nat.succ_mul]
  lia
def ka(ys):(Txt.join Str.empty ys).length<=(ys.map (·.length)).sum:=by
 have h:=StrLaws.join_length_le Str.empty ys;have e:Txt.join Str.empty ys=Str.join Str.empty ys:=StrLaws.glued_eq_join _ _;rw[e];have z:Str.empty.length=0:=rfl;rw[z,Nat.mul_zero,Nat.add_zero]at h;erw[h]
end TX
namespace TX
open PySem SI M1 L2.Z
noncomputable def signs65:List Nat:=[97,98,99,100,101,102,103,104,105,106,107,108,109,110,111,112,113,114,115,116,117,118,119,120,121,122,65,66,67,68,69,70,71,72,73,74,75,76,77,78,79,80,81,82,83,84,85,86,87,88,89,90,48,49,50,51,52,53,54,55,56,57,46,95,45]
def cc(c:Nat):Bool:=decide (c∈signs65)
def CW(c:Nat)(y:Str):hasSub ⟨#[c]⟩ y=decide (c∈y.cps.toList):=PySem.StrLaws.found_one y c
def GR(a b:Nat):decide ([a]<[b])=decide (a<b):=by
 by_cases h:a<b
 .rw[dt0 h,dt0]
  erw[List.Lex.rel h]
 .rw[df0 h,df0]
  intro z;cases z with
  |rel J=>exact h J
  |cons J=>cases J
def wM(c:Nat):cc c=((!decide (c<97)&&!decide (122<c))||((!decide (c<65)&&!decide (90<c))||(!decide (c<48)&&!decide (57<c)))||decide (c∈[46,95,45])):=by
 by_cases h:c<128
 .have J:∀c<128,cc c=((!decide (c<97)&&!decide (122<c))||((!decide (c<65)&&!decide (90<c))||(!decide (c<48)&&!decide (57<c)))||decide (c∈[46,95,45])):=by decide
  erw[J c h]
 .have K:cc c=false:=by
   unfold cc;refine df0 λz=>h ?_
   have:∀c∈signs65,c<128:=by decide
   erw[this c z]
  have L:decide (c∈[46,95,45])=false:=df0 (by simp;lia);rw[K,L,dt0 (by lia:122<c),dt0 (by lia:90<c),dt0 (by lia:57<c)];simp
abbrev uu(Φ:Fs):Prop:=Has Φ "is_name_sign" [true] λJ=>∀c,J [.str ⟨#[c]⟩]=some (.bool (cc c))
noncomputable def dot:Str:=⟨#[46]⟩
noncomputable def GS:Str:=⟨#[46,46]⟩
def aK(x:Str):Bool:=decide (1<=x.length)&&decide (x.length<=12)&&!decide (x=dot)&&!decide (x=GS)&&x.cps.toList.all cc
abbrev uv(Φ:Fs):Prop:=Has Φ "is_name" [true] λJ=>∀x:Str,x.length<=1000->J [.str x]=some (.bool (aK x))
noncomputable def wN:List Str->Bool
 |a::b::r=>decide (a.cps.toList<b.cps.toList)&&wN (b::r)
 |_=>true
@[simp] def GT{h}{os}:lg c (.vlt c h os)=true:=by simp[lg]
@[simp] def JR{h}{os}:FZ (.vlt c h os)=os:=rfl
@[simp] def JS{o}:roM .read o=o:=rfl
@[simp] def JT{o}:roM .test o=o:=rfl
noncomputable abbrev CY:Str:=⟨#[99,111,109,109,105,116]⟩
abbrev zz(Φ:Fs)(c:Nat):Prop:=Has Φ (bL "held") [true,true] λJ=>∀(h:Nat)(K:List D)(n:Nat)(d:D),K[n]?=some d->J [.vlt c h K,.int n]=some d
abbrev qi(Φ:Fs)(c:Nat):Prop:=Has Φ (bL "kind") [true,true] λJ=>∀(h:Nat)(K:List D)(n:Nat)(k:Str)(L:List D),K[n]?=some (.tuple (.str k::L))->J [.vlt c h K,.int n]=some (.str k)
abbrev gJ(Φ:Fs)(c:Nat):Prop:=Has Φ (bL "content") [true,true,true] λJ=>∀(h:Nat)(K:List D)(n:Nat)(k:Str)(d:D),K[n]?=some (.tuple [.str k,d])->J [.vlt c h K,.int n,.str k]=some d
abbrev gK(Φ:Fs)(c:Nat):Prop:=Has Φ "entries_of" [true,true] λJ=>∀(h:Nat)(L:List D)(n:Nat)(K:List D),L[n]?=some (.tuple [.str ao,.tuple K])->J [.vlt c h L,.int n]=some (.list K)
def zA(h:Nat)(J:List D)(n:Nat)(d:D)(K:J[n]?=some d):ans Φ Γ (eE c) [.vlt c h J,.int n]=some d:=by
 have L:=(gi0 K).1;have e:atI J (n:Int)=some d:=by rw[aR @1 @1];simpa using K
 have M:(0:Int)<=(n:Int):=by lia
 have N:(n:Int)<(J.length:Int):=by lia
 simp[ans,eE,e,M,L]
def zB(N:zz Φ c)(h:Nat)(J:List D)(n:Nat)(k:Str)(ds)(M:J[n]?=some (.tuple (.str k::ds))):ans Φ Γ (eC c) [.vlt c h J,.int n]=some (.str k):=by
 obtain⟨O,K,L⟩:=N;have q:=L h J n _ M;have e:atI (D.str k::ds) 0=some (.str k):=by rw[aR @1 @0];rfl
 simp[ans,eC,K,q,e]
def qj(O:zz Φ c)(h:Nat)(J:List D)(n:Nat)(k:Str)(d:D)(N:J[n]?=some (.tuple [.str k,d])):ans Φ Γ (bX c) [.vlt c h J,.int n,.str k]=some d:=by
 obtain⟨R,L,M⟩:=O;have q:=M h J n _ N;have e:atI [D.str k,d] 0=some (.str k):=rfl;have K:atI [D.str k,d] 1=some d:=rfl;simp[ans,bX,L,q,e,K]
def qk(hc:gJ Φ c)(h:Nat)(J:List D)(n:Nat)(es)(M:J[n]?=some (.tuple [.str ao,.tuple es])):ans Φ Γ (cj c) [.vlt c h J,.int n]=some (.list es):=by
 obtain⟨N,K,L⟩:=hc;have q:=L h J n ao _ M;simp[ans,cj,K,q]
end TX
namespace PySem
def sG{p:Array Nat}(h:p.size<=1):SetTable.below p 0=0:=by
 unfold SetTable.below;rcases p with⟨l⟩
 match l,h with
 |[],_=>rfl
 |[x],_=>simp[SetTable.below.go]
def sH{p}{i j}(h:p.size<=1)(e:p[i]?=some j):SetTable.below p (j+1)=i+1:=by
 unfold SetTable.below;rcases p with⟨l⟩
 match l,h with
 |[],_=>simp at e
 |[x],_=>
  have:i=0:=by
   have:=(Array.getElem?_eq_some_iff.mp e).1;simp at this;omega
  subst this;simp at e;simp[SetTable.below.go,e]
def ql{mask finger moves}{led plain}{hs}{q}(h:SetTable.laid mask finger moves led plain hs=some q):q.1.dummies=#[]:=by
 unfold SetTable.laid at h;obtain⟨J,_,h⟩:=bx0 h;cases h;rfl
end PySem
namespace PySem
open PyProof.Rows
def bh{f}:∀{l m:List β},l.Perm m->∀xs:List α,m=xs.map f->∃J:List α,J.Perm xs/\l=J.map f:=by
 intro l m h
 induction h with
 |nil=>simp
 |cons a _ ih=>
  intro xs e;cases xs with
  |nil=>cases e
  |cons x r=>
   injection e with N K
   obtain⟨J,p,rfl⟩:=ih r K;exact(_,p.cons x,by simp_all)
 |swap a b l=>
  intro xs e
  match xs,e with
  |[],e=>cases e
  |[_],e=>injection e with _ e;cases e
  |x::y::r,e=>
   injection e with N e
   exact(_,.swap ..,by simp_all)
 |trans _ _ L M=>
  intro xs e;obtain⟨J,p,K⟩:=M xs e;obtain⟨U,R,O⟩:=L J K;exact(U,R.trans p,O)
def CZ(t)(es)(h:Int)(x):(layNew t es h x).2.1.led=t.led:=by
 unfold layNew;split
 .simp only[SetTable.orStandIn];split<;>rfl
 .rfl
set_option tactic.hygienic true in
def zC(t:SetTable)(es:Array (Int×Value))(n:Nat):(relayAll t es n).2.1.led=t.led/\((relayAll t es n).2.1.plain=true->t.plain=true):=by
 unfold relayAll;split
 .rename_i L J e
  dsimp only;split
  .unfold SetTable.relaid SetTable.laid at e
   obtain⟨K,_,e⟩:=bx0 e;cases e;exact(rfl,id)
  .exact(rfl,λz=>by cases z)
 .exact(rfl,λz=>by cases z)
noncomputable abbrev byTx(w:World):Bool:=w.params.followText "set-order"
structure KD(prog:Program)(w:World)(Y:Type)[DecidableEq Y] where
 knd:KeyKind prog w Y
 vl:Y->Tok->Value
 is:∀k t,knd.is k (vl k t)=true
 sc:∀k t,(vl k t).scannable=true
 pk:∀k t,plainKind (vl k t)=false
noncomputable abbrev KD.e{prog:Program}{w:World}{Y:Type}[DecidableEq Y](kd:KD prog w Y)(p:Y×Tok):Int×Value:=(kd.knd.hash p.1,kd.vl p.1 p.2)
def JU(t:SetTable)(n:Nat):Prop:=t.plain=true->n=0
def StrSet{prog:Program}{w:World}{Y:Type}[DecidableEq Y](kd:KD prog w Y)(h:Heap)(a:Addr)(xs:List (Y×Tok))(ep:Nat):Prop:=
 ∃o J t,h.get? a=some o/\o.ExactSet/\o.data=.set J ep t/\t.fits J.size=true/\J.toList=xs.map kd.e/\t.led=!byTx w/\JU t xs.length
section
variable {prog:Program}{E:A0}{Y:Type}[DecidableEq Y][Inhabited Y]{kd:KD prog w Y}
def StrSet.keep{h h'}{a:Addr}{xs:List (Y×Tok)}(x:StrSet kd h a xs ep)(k:∀o,h.get? a=some o->h'.get? a=some o):StrSet kd h' a xs ep:=
 let ⟨o,J,t,K,r⟩:=x;(o,J,t,k o K,r)
def StrSet.isA{a:Addr}{xs:List (Y×Tok)}(x:StrSet kd s.heap a xs ep):s.TypeIs (.ref a) "set":=
 let ⟨o,_,_,J,K,_⟩:=x;(o,J,K.1)
def wO(kd:KD prog w Y)(xs:List (Y×Tok)):ElemsOf kd.knd (xs.map kd.e):=λe J=>by
 obtain⟨p,_,rfl⟩:=mm0 J;exact((_,kd.is _ _,rfl),kd.sc _ _)
def zD(kd:KD prog w Y)(xs:List (Y×Tok))(x:Y):((xs.map kd.e).findIdx? λe=>kd.knd.is x e.2).isSome=decide (x∈xs.map (·.1)):=by
 induction xs with
 |nil=>rfl
 |cons p r ih=>
  have e:=KeyKind.is_eq_decide (kd.is p.1 p.2) x
  grind
def dJ{a:Addr}{o}{es es'}{t t'}(K:h.get? a=some o)(J:o.data=.set es ep t):
  (h.update a (Obj.putSet es' t')).get? a=some {o with data:=.set es' (ep+1) t'}:=by
 have:=hu0 (Obj.putSet _ t') K (by rw[putSet_of es' t' J];rfl)
 rwa [putSet_of _ t' J]at this
set_option tactic.hygienic true in
noncomputable def GU{a:Addr}{xs:List (Y×Tok)}{x:Y}{tk:Tok}{Q:Bool->Shared->Prop}(hS:StrSet kd s.heap a xs ep)(hr:xs.length+1<4096)
  (h:∀h' I g b,Heap.SameBut a s.heap h'->StrSet kd h' a I g->I.Perm (if x∈xs.map (·.1)then xs else xs++[(Prod.mk x tk)])->Q b {s with heap:=h'}):
  wpAny @3 A (setAddHashed a (kd.vl x tk) (kd.knd.hash x)) Q E s:=by
 obtain⟨o,O,t,F,R,V,k,W,p,hp⟩:=hS;have d:O.size=xs.length:=by rw[<-al0,W,lm0]
 have hb:O.size<scanBound:=by rw[d];unfold scanBound;lia
 have Z:ElemsOf kd.knd O.toList:=by rw[W];erw[wO kd xs]
 have hk:kd.knd.is x (kd.vl x tk)=true:=kd.is x tk;have M:=zD kd xs x;unfold setAddHashed setAddHashedIn;refine wh0 (wb0 (wpAny_setState_of F V k ?_));dsimp only;rw[byScan_of (knd:=kd.knd) (x:=kd.vl x tk) (kd.sc x tk) hb Z];simp only[if_true];unfold setAddByScan;refine wb0 (wb0 (wpAny_rule (wb0 (wpAny_setScan_of (knd:=kd.knd) hk F V k Z ?_))));rw[<-W]at M;cases q:List.findIdx? (λe=>kd.knd.is x e.2) O.toList with
 |some j=>
  rw[q]at M;dsimp only;refine wq0 (wq0 (h s.heap xs ep false (Heap.SameBut.refl a _) (o,O,t,F,R,V,k,W,p,hp) ?_));rw[if_pos (od0 M.symm)]
 |none=>
  rw[q]at M;dsimp only;have j1:x∉xs.map (·.1):=of_decide_eq_false M.symm;rw[if_neg j1]at h;have gw:∀(b:Bool)(N:Shared)(u:A7),u () N->wpAny @3 A (match b with|true=>rule "set.scan.the-table-gave-way"|false=>pure ()) u E N:=
   λb N u z=>by cases b<;>first|exact wq0 z|exact wpAny_rule z
  have p1:=layNew_perm t O (kd.knd.hash x) (kd.vl x tk);have B:=layNew_fits t O (kd.knd.hash x) (kd.vl x tk);have S:=CZ t O (kd.knd.hash x) (kd.vl x tk);generalize layNew t O (kd.knd.hash x) (kd.vl x tk)=L at p1 B S ⊢;obtain⟨J,t1,wd,gv⟩:=L;dsimp only at p1 B S ⊢;have e0:(O.push (Prod.mk (kd.knd.hash x) (kd.vl x tk))).toList=(xs++[(Prod.mk x tk)]).map kd.e:=by
   rw[Array.toList_push,W,List.map_append];rfl
  obtain⟨I,P,v⟩:=bh p1 _ e0;have j0:J.size=xs.length+1:=by rw[<-al0,v,lm0,P.length_eq,la0];rfl
  have T:J.size<=sizeLine:=by rw[j0,sizeLine_eq];lia
  refine wb0 (gw _ _ _ ?_);have fin:∀K:SetTable,K.fits J.size=true->K.led=t.led->K.plain≠true->wpAny @3 A (do
    storeSet a J K
    if (!wd&&K.tooFull)=true then do
     (match (relayAll K J (SetTable.grown J.size)).2.2 with|true=>rule "set.scan.the-table-gave-way"|false=>pure ())
     storeSet a (relayAll K J (SetTable.grown J.size)).1 (relayAll K J (SetTable.grown J.size)).2.1
     pure (some true)
    else pure (some true)) (λr s'=>r=some true/\Q true s') E s:=by
   intro K g1 g2 g3;refine wb0 (wpAny_storeSet_of (prog:=prog) (w:=w) F V ?_ T);have U:=dJ (es':=J) (t':=K) F V;have D:=Heap.SameBut.update s.heap a (Obj.putSet J K);split
   .rename_i full
    have p2:=relayAll_perm K J (SetTable.grown J.size);have l:=relayAll_fits K J (SetTable.grown J.size);have C:=zC K J (SetTable.grown J.size);generalize relayAll K J (SetTable.grown J.size)=L2 at p2 l C ⊢;obtain⟨f,t3,j2⟩:=L2;dsimp only at p2 l C ⊢;obtain⟨zs,pz,ez⟩:=bh p2 _ v;refine wb0 (gw _ _ _ (wb0 (wpAny_storeSet_of (prog:=prog) (w:=w) U rfl ?_ ?_)))
    .refine wq0 (rfl,h _ zs _ true (D.trans (Heap.SameBut.update _ a _)) (_,f,t3,dJ U rfl,R,rfl,l,ez,C.1.trans (g2.trans p),λtp=>absurd (C.2 tp) g3) (pz.trans P))
    .rw[<-al0,ez,lm0,pz.length_eq,P.length_eq,la0,sizeLine_eq];simp only[List.length_singleton];lia
   .erw[wq0 (rfl,h _ I _ true D (_,J,K,U,R,rfl,g1,v,g2.trans p,λz=>absurd z g3) P)]
  split
  .refine wb0 ?_
   rw[hashByValue_scannable 8 (x:=kd.vl x tk) (kd.sc x tk),kd.pk];refine wq0 ?_;refine wpAny_mono (fin {t1 with plain:=false} (SetTable.fits_plain_off B) S (λz=>by cases z)) (λr s' z=>?_) λc c z=>z
   obtain⟨rfl,z⟩:=z;erw[wq0 z]
  .rename_i np
   refine wb0 (wq0 ?_);refine wpAny_mono (fin t1 B S np) (λr s' z=>?_) λc c z=>z
   obtain⟨rfl,z⟩:=z;erw[wq0 z]
def add_str{a:Addr}{xs:List (Y×Tok)}{x}{tk}{Q}(L:StrSet kd s.heap a xs ep)(M:xs.length+1<4096)
  (h:∀h' K J b,Heap.SameBut a s.heap h'->StrSet kd h' a K J->K.Perm (if x∈xs.map (·.1)then xs else xs++[(x,tk)])->Q b {s with heap:=h',toks:=s.toks+1}):
  wpAny @3 A (setAdd a (kd.vl x tk)) Q E s:=wh0 (wb0 (kd.knd.pyHash (kd.is x tk) (GU L M h)))
end
def gL(h:Heap):h.get? h.objs.size=none:=by
 cases q:h.get? _ with
 |none=>rfl
 |some o=>exact absurd (hs0 q) (li0 _)
noncomputable abbrev aq(w:World):Obj:={cls:=.type "set",dict:=none,data:=.set #[] 0 (.fresh 0 0 (!byTx w))}
section
variable {prog:Program}{E:A0}{Y:Type}[DecidableEq Y][Inhabited Y]{kd:KD prog w Y}
theorem StrSet.cls{h}{a}{xs}{ep}(x:StrSet kd h a xs ep):∃o,h.get? a=some o/\o.cls=.type "set":=by
 obtain⟨o,_,_,J,K,_⟩:=x;exact(o,J,K.1)
omit [Inhabited Y] in
def iE{xs K:List (Y×Tok)}{x}{tk}(n:(xs.map (·.1)).Nodup)(p:K.Perm (if x∈xs.map (·.1)then xs else xs++[(x,tk)])):
  (K.map (·.1)).Nodup/\(∀y,y∈K.map (·.1)↔y∈xs.map (·.1)\/y=x)/\K.length<=xs.length+1:=by
 have J:=p.map (·.1);have L:=p.length_eq
 by_cases q:x∈xs.map (·.1)
 .rw[if_pos q]at J L
  exact(J.nodup_iff.mpr n,λy=>J.mem_iff.trans (.inl,λz=>z.elim id λe=>e▸q),by lia)
 .rw[if_neg q]at J L
  rw[List.map_append]at J;refine(J.nodup_iff.mpr (List.nodup_append.mpr (n,by simp,λa M b N=>?_)),λy=>J.mem_iff.trans ?_,by simp_all)
  .grind
  .rw[List.mem_append]
   erw[or_congr Iff.rfl @0]
def zE{l it S}{items}{ss:List Y}{R}(hh:A.handled=none)(hz:items.size=ss.length)(j0:items.size<4000)(hv:∀(j:Nat)(x:Y),ss[j]?=some x->∃tk,items[j]?=some (kd.vl x tk)):
  ∀(m i:Nat)(xs:List (Y×Tok))(ep:Nat)(s:Shared),i+m=ss.length->xs.length<=i->(xs.map (·.1)).Nodup->s.heap.IsListIter it l i->s.heap.IsList l items->StrSet kd s.heap S xs ep->
   (∀h' tk K D,StrSet kd h' S K D->(K.map (·.1)).Nodup->(∀y,y∈K.map (·.1)↔y∈xs.map (·.1)\/y∈ss.drop i)->K.length<=ss.length->(∀b o,b≠it->b≠S->s.heap.get? b=some o->h'.get? b=some o)->R (.ok (.ret .none)) {s with heap:=h',toks:=tk})->
   codeAny @3 A (.builtin "set.update.loop" ([.ref S,.ref it],[])) R s:=by
 intro m
 induction m with
 |zero=>
  intro i xs ep s hm hx u M N L h;obtain⟨oi,Z,W,_⟩:=id M;obtain⟨oS,eS,V⟩:=L.cls;have J:S≠it:=bz eS Z (by rw[V,W];decide);refine codeAny_builtin PyProof.Rows.F.entry_set_update_loop ?_;rw[ui0 PyProof.Rows.F.plain_set_update_loop];unfold Builtin.«set.update.loop»;dsimp only;refine wb0 (wpAny_pyNext_list_end (hh:A.in1.handled=none) M N (by rw[Array.getElem?_eq_none];simp_all) λh' p=>?_);refine wq0 (h h' s.toks xs ep (L.keep λo e=>p S o J e) u (λy=>?_) @6 λb o T U e=>p b o T e);rw[List.drop_eq_nil_of_le @6]
  simp
 |succ m ih=>
  intro i xs ep s hm hx u M N L h;obtain⟨oi,Z,W,_⟩:=id M;obtain⟨oS,eS,V⟩:=L.cls;obtain⟨ol,d,t,_⟩:=id N;have J:S≠it:=bz eS Z (by rw[V,W];decide);have f:=bz d Z (by rw[t,W];decide);have g:=bz d eS (by rw[t,V];decide);have O:i<ss.length:=by grind
  obtain⟨tk,hu⟩:=hv i _ (ge0 O);refine codeAny_builtin PyProof.Rows.F.entry_set_update_loop ?_;rw[ui0 PyProof.Rows.F.plain_set_update_loop];unfold Builtin.«set.update.loop»;dsimp only;refine wb0 (wpAny_pyNext_list_item M N hu λh1 I sb=>?_);have z:∀{b:Addr},b≠it->∀o,s.heap.get? b=some o->h1.get? b=some o:=λP o e=>(sb.2 _ P).trans e
  dsimp only;refine wb0 (wh0 (add_str (L.keep (z J)) @4 λh2 K B b v Q py=>?_));have q:∀{b:Addr},b≠S->∀o,h1.get? b=some o->h2.get? b=some o:=λP o e=>(v.2 _ P).trans e
  obtain⟨U,m2,z2⟩:=iE u py;refine wq0 (plainId_quiet PyProof.Rows.F.plain_set_update_loop _,?_);refine ih (i+1) K B {s with heap:=h2,toks:=s.toks+1} (by lia) (by lia) U (I.at (q J.symm)) ((N.at (z f)).at (q g)) Q λh' k zs C a1 a2 a3 a4 a5=>?_
  refine h h' k zs C a1 a2 (λy=>(a3 y).trans ?_) a4 λb o T U e=>a5 b o T U (q U _ (z T _ e))
  rw[List.drop_eq_getElem_cons O,m2 y,List.mem_cons,or_assoc]
def qo(v){Q₁}(h:Q₁ (.ref s.heap.objs.size) {s with heap:=s.heap.push (aq w)}):
  codeAny @3 A (.call (.builtin "set.__new__") ([.type "set",v],[])) (wants Q₁ E) s:=by
 refine codeAny_of_tree ?_;refine wb0 (wpAny_of_eq (F.newCall_set_1 v) (wq0 (plainId_quiet F.plain_set_new _,codeAny_builtin F.entry_set_new ?_)));rw[ui0 F.plain_set_new _];unfold Builtin.«set.__new__» Builtin.Frozenset.newClass;have K:=sub_set_self;obtain⟨J,g,d,M,L⟩:=s;dsimp only
 wp_walk
 refine wpAny_askSetting (wq0 ?_);dsimp only;simp only[newObj];refine wb0 (wpAny_alloc (wq0 (wq0 ?_)));erw[h]
def zF{l S}{items}{ss:List Y}{R}(P:A.handled=none)(N:s.heap.get? S=some (aq w))(U:s.heap.IsList l items)(hz:items.size=ss.length)(W:items.size<4000)(I:∀(j:Nat)(x:Y),ss[j]?=some x->∃tk,items[j]?=some (kd.vl x tk))
  (h:∀h' tk J ep,StrSet kd h' S J ep->(J.map (·.1)).Nodup->(∀y,y∈J.map (·.1)↔y∈ss)->J.length<=ss.length->(∀b o,b≠S->s.heap.get? b=some o->h'.get? b=some o)->R (.ok (.ret .none)) {s with heap:=h',toks:=tk}):
  codeAny @3 A (.call (.builtin "set.__init__") ([.ref S,.ref l],[])) R s:=by
 have Q:s.TypeIs (.ref S) "set":=(_,N,rfl);refine codeAny_call_builtin F.called_set.init.plain F.entry_set_init (check_set_init_1 Q ?_);obtain⟨ol,V,K,nl,L⟩:=id U;obtain⟨v,k,g,f⟩:=ol;simp only at K L;subst K;subst L;have t:=F.sub_list_set;have p:=F.sub_list_frozenset;have d:(Value.type "list"==Value.type "dict")=false:=by decide
 unfold Builtin.«set.__init__» noKeywords Builtin.Frozenset.updateFrom;generalize M:pyIter=PI
 wp_walk
 subst M;refine wpAny_pyIter_list U (wb0 (wpAny_runValue ?_));have z:=hs0 V;have q:=hs0 N;have O:=ps0 {cls:=.type "list_iterator",data:=.fields #[.ref l,.int 0 0]} N;have Z:StrSet kd (s.heap.push {cls:=.type "list_iterator",data:=.fields #[.ref l,.int 0 0]}) S [] 0:=(aq w,#[],.fresh 0 0 (!byTx w),O,(rfl,rfl,rfl),rfl,rfl,rfl,rfl,λa=>rfl);refine zE (kd:=kd) (prog:=prog) (w:=w) (items:=items) (ss:=ss) (by exact P) hz W I ss.length 0 [] 0 {s with heap:=s.heap.push {cls:=.type "list_iterator",data:=.fields #[.ref l,.int 0 0]}} (by simp_all) (nr0 _) List.nodup_nil (_,pz0 _ rfl,rfl,rfl) (U.push _) Z λh' tk J ep T a2 D B C=>?_
 refine wq0 ?_;refine wq0 (h h' tk J ep T a2 (λy=>(D y).trans @0) B λb o u e=>C b o (nn0 (hs0 e)) u (ps0 _ e))
set_option maxHeartbeats 3200000 in
def dN(v){Q}(h:∀O:Around,O.handled=A.handled->codeAny @3 O (.call (.builtin "set.__init__") ([.ref s.heap.objs.size,v],[])) (wants (λr K=>r=.none/\Q (.ref s.heap.objs.size) K) E) {s with heap:=s.heap.push (aq w)}):
  wpAny @3 A (call (.type "set") [v]) Q E s:=by
 obtain⟨c,I,P⟩:=F.called_set.mro;have M:=F.called_set.made;have R:=F.called_set.sub;refine wpAny_call (codeAny_of_tree ?_);show wpAny _ _ (callAny (.type "set") ([v],[])) _ _ _;refine wq0 (Code.quiet_builtin _ (by decide +kernel),codeAny_builtin F.entry_type_call ?_);rw[Around.under_plain (weight_type_call_type "set" [v] []) rfl];have D:=F.called_set.notType;have B:=F.called_set.canCreate;have C:=F.typeCall_set_1 v
 repeat (any_goals (first|assumption|wp_step))
 refine codeAny_mono (qo (w:=w) v (E:=E) (Q₁:=λv J=>v=.ref s.heap.objs.size/\J={s with heap:=s.heap.push (aq w)}) (rfl,rfl)) λr J N=>?_
 cases r with
 |error e=>exact N
 |ok fl=>
  cases fl with
  |ret v=>
   obtain⟨rfl,rfl⟩:=N;have V:(s.heap.push (aq w)).get? s.heap.objs.size=some (aq w):=pz0 _ rfl;have S:Shared.TypeIs {s with heap:=s.heap.push (aq w)} (.ref s.heap.objs.size) "set":=(_,V,rfl);have Z:=F.called_set.init.lookup;have W:=F.called_set.init.bind (.ref s.heap.objs.size)
   repeat (any_goals (first|assumption|wp_step))
   refine codeAny_mono (h _ rfl) λT K L=>?_
   cases T with
   |error e=>exact L
   |ok U=>
    cases U with
    |ret r=>
     obtain⟨rfl,q⟩:=L
     repeat (any_goals (first|assumption|wp_step))
    |_=>exact L.elim
  |_=>exact N.elim
def kK{l}{items}{ss:List Y}{Q}(U:A.handled=none)(V:s.heap.IsList l items)(hz:items.size=ss.length)(K:items.size<4000)(W:∀(j:Nat)(x:Y),ss[j]?=some x->∃tk,items[j]?=some (kd.vl x tk))
  (h:∀h' tk S J ep,s.heap.objs.size<=S->StrSet kd h' S J ep->(J.map (·.1)).Nodup->(∀y,y∈J.map (·.1)↔y∈ss)->J.length<=ss.length->(∀b o,s.heap.get? b=some o->h'.get? b=some o)->Q (.ref S) {s with heap:=h',toks:=tk}):
  wpAny @3 A (call (.type "set") [.ref l]) Q E s:=
 dN _ λZ R=>zF (s:={s with heap:=s.heap.push (aq w)}) (R.trans U) (pz0 _ rfl) (V.push _) hz K W λh' tk J ep L a2 M N O=>(rfl,h h' tk _ J ep (nr0 _) L a2 M N λb o e=>O b o (nn0 (hs0 e)) (ps0 _ e))
end
def slot_sit_next:Slot "set_iterator" "__next__" "set_iterator.__next__":=
 .of (owner:="set_iterator") (n:="__next__") (rfl) (by decide +kernel) (by decide +kernel) (by decide +kernel) (by first|exact .inl (by decide +kernel)|rfl) (rfl)
def fD:Slot "set_iterator" "__iter__" "set_iterator.__iter__":=
 .of (owner:="set_iterator") (n:="__iter__") (rfl) (by decide +kernel) (by decide +kernel) (by decide +kernel) (by first|exact .inl (by decide +kernel)|rfl) (rfl)
def bJ:entryFor table "set_iterator.__next__"=some Builtin.«set_iterator.__next__»:=entryFor_of_fast (rfl)
def kb:entryFor table "set.__iter__"=some Builtin.«frozenset.__iter__»:=by refine entryFor_alias (id':="frozenset.__iter__") ?_ rfl ?_ ?_<;>first|kernel_rfl|rfl
def bT(a):argsOk "set_iterator.__next__" ([a],[]):=by rfl
def uw{l:List α}{i}(h:i<l.length):(l[i]::l.eraseIdx i).Perm l:=by
 rw[List.eraseIdx_eq_take_drop_succ];refine (List.perm_middle.symm).trans (List.Perm.of_eq ?_);simp
theorem ux(f:Nat->Nat):∀(n k:Nat)(l:List α)(o:Array α),n=l.length->(pickOrder.go f n k l o).toList.Perm (o.toList++l)
 |0,k,l,o,e=>by
  have:=ez0 e.symm;subst this;show o.toList.Perm _;simp
 |n+1,k,l,o,e=>by
  have K:0<l.length:=by omega
  have J:=Nat.mod_lt (f k) K;show (match l[f k % l.length]? with|some x=>pickOrder.go f n _ _ _|none=>o).toList.Perm _;rw[ge0 J];refine (ux f n _ _ _ @4).trans ?_;rw[Array.toList_push,List.append_assoc];exact (List.Perm.refl _).append (uw J)
def mf(f:Nat->Nat)(xs:Array α):(pickOrder f xs).toList.Perm xs.toList:=by
 have:=ux f xs.size 0 xs.toList #[] (rfl)
 simpa [pickOrder]using this
section
variable {prog:Program}{E:A0}
def zG{n}{Q}(J:n≠0)(h:∀i d,i<n->Q i {s with drawn:=d}):wpAny (model prog w) A (choose .order n) Q E s:=λΓ p a=>by
 exact(J,h _ _ (Nat.mod_lt _ (Nat.pos_of_ne_zero J)))
def mh(n:Nat):∀(xs:List α)(s:Shared)(Q:List α->Shared->Prop),n=xs.length->(∀K d,K.Perm xs->Q K {s with drawn:=d})->wpAny (model prog w) A (drawOrder n xs) Q E s:=by
 induction n with
 |zero=>
  intro xs s Q e h;cases xs with
  |nil=>exact wq0 (h [] s.drawn (.refl _))
  |cons x r=>cases e
 |succ n ih=>
  intro xs s Q e h;cases xs with
  |nil=>cases e
  |cons x r=>
   refine wb0 (m:=choose .order _) (zG @0 λi d J=>?_);rw[ge0 J];dsimp only;refine wb0 (ih _ _ _ (by rw[List.length_eraseIdx_of_lt J];simp at e ⊢;omega) λK L p=>wq0 (h _ L ?_));exact (p.cons _).trans (uw J)
def asks{Q}(h:Q (byTx w) s):wpAny @3 A setsByText Q E s:=wb0 (wpAny_askSetting (wq0 h))
def wQ{S}{o}{es}{t}{ep sl i}{Q}(M:s.heap.get? S=some o)(K:o.data=.set es ep t)(L:t.fits es.size=true)(J:byTx w=true)
  (h:Q (((pickOrder (w.params.setOrder S ep) es)[i]?).map λe=>(e.2,sl)) s):wpAny @3 A (setNext S sl i ep) Q E s:=by
 refine wb0 (wpAny_setState_of M K L (wb0 (asks ?_)));rw[J];simp only[bne_self_eq_false];refine wb0 ?_;refine wb0 (wpAny_setState_of M K L (wb0 (asks ?_)));rw[J];erw[wb0 (wpAny_askSetting (wq0 (wq0 h)))]
def qq{S}{o}{es}{t}{ep sl i}{Q}(U:s.heap.get? S=some o)(N:o.data=.set es ep t)(O:t.fits es.size=true)(M:byTx w=false)(R:t.led=true)(L:t.plain=false->es.size<=1)
  (h:Q (match es[SetTable.below t.place sl]?,t.place[SetTable.below t.place sl]? with|some (_,x),some j=>some (x,j+1)|_,_=>none) s):wpAny @3 A (setNext S sl i ep) Q E s:=by
 refine wb0 (wpAny_setState_of U N O (wb0 (asks ?_)));rw[M];have J:(!t.plain&&decide (es.size>1))=false:=by
  cases c:t.plain with
  |true=>rfl
  |false=>rw[df0 (by have:=L c;omega),Bool.and_false]
 have K:(!t.led&&!es.isEmpty)=false:=by rw[R];rfl
 show wpAny @3 A (if (!t.plain&&decide (es.size>1))=true then _ else _) Q E s;rw[if_neg (by rw[J];erw[fx0])];show wpAny _ A ((if (!t.led&&!es.isEmpty)=true then _ else _) >>= _) Q E s;rw[if_neg (by rw[K];erw[fx0])];erw[wb0 (wq0 (wq0 h))]
end
def SetIt(h:Heap)(I S:Addr)(J:Value)(i n ep:Nat):Prop:=∃o,h.get? I=some o/\o.cls=.type "set_iterator"/\o.data=.fields #[J,.int i 0,.ref S,.int n 0,.int ep 0]
def SetIt.is{I S}{f0}{i n ep}(x:SetIt s.heap I S f0 i n ep):s.TypeIs (.ref I) "set_iterator":=let ⟨o,a,b,_⟩:=x;(o,a,b)
def SetIt.keep{h h'}{I S}{f0}{i n ep}(x:SetIt h I S f0 i n ep)(k:∀o,h.get? I=some o->h'.get? I=some o):SetIt h' I S f0 i n ep:=let ⟨o,a,b⟩:=x;(o,k o a,b)
def SetIt.upd{h}{I S}{f0}{i n ep}(x:SetIt h I S f0 i n ep)(k:Nat)(v):
  ∃o,(h.update I (Obj.mapFields (·.setIfInBounds k v))).get? I=some o/\o.cls=.type "set_iterator"/\o.data=.fields ((#[f0,.int i 0,.ref S,.int n 0,.int ep 0]:A9).setIfInBounds k v):=by
 obtain⟨o,L,K,J⟩:=x;exact(_,hu0 _ L (Obj.isFreed_of_fields (Obj.data_mapFields J _)),(Obj.cls_mapFields ..).trans K,Obj.data_mapFields J _)
section
variable {prog:Program}{E:A0}{Y:Type}[DecidableEq Y][Inhabited Y]{kd:KD prog w Y}{I S T:Addr}{xs:List (Y×Tok)}{sl:Nat}{x f0:Value}{nx:Nat}{Q:Option Value->Shared->Prop}
def gM{P}(J:SetIt s.heap I S f0 i n ep)(N:StrSet kd s.heap S xs ep)(R:n=xs.length)
  (h:wpAny @3 A (if let .int slot _:=f0 then do
    match ←setNext S slot.toNat (i:Int).toNat (ep:Int).toNat with
    |some (x,next)=>
     setField (.ref I) 0 (rawInt next)
     setField (.ref I) 1 (rawInt ((i:Int)+1))
     ret x
    |none=>setField (.ref I) 2 .none;raiseNew (<-newExc (.type "StopIteration") [])
   else do
    let some places ←seqItems? f0|unsupported "internal:set_iterator"
    match places[(i:Int).toNat]? with
    |some (.int place _)=>
     let x ←setNextDrawn S place.toNat (ep:Int).toNat
     setField (.ref I) 1 (rawInt ((i:Int)+1))
     ret x
    |some _=>unsupported "internal:set_iterator"
    |none=>setField (.ref I) 0 (rawInt 0);setField (.ref I) 2 .none;raiseNew (<-newExc (.type "StopIteration") [])) P E s):
  wpAny @3 A (Builtin.«set_iterator.__next__» ([.ref I],[])) P E s:=by
 obtain⟨o,U,Z,O⟩:=J;obtain⟨F,L,t,eS,_,K,M,W,_⟩:=N;have V:L.size=n:=by rw[R,<-al0,W,lm0]
 refine wb0 (wq0 ?_);refine wb0 (wpAny_fieldsOf U O ?_);unfold setEntries;refine wb0 (wb0 (wpAny_setState_of eS K M (wq0 ?_)));dsimp only;rw[if_neg (by rw[V];simp)];erw[h]
def qr(J:SetIt s.heap I S (.int sl 0) i n ep)(O:StrSet kd s.heap S xs ep)(U:n=xs.length)(W:∀(A:Around)(E:A0)(Q:Option (Value×Nat)->Shared->Prop),Q (some (x,nx)) s->wpAny @3 A (setNext S sl i ep) Q E s)
  (N:∀h',SetIt h' I S (.int nx 0) (i+1) n ep->Heap.SameBut I s.heap h'->Q (some x) {s with heap:=h'}):wpAny (model prog w) A (pyNext (.ref I)) Q E s:=by
 refine wb0 (wpAny_attempt (wpAny_callSpecial?_slot J.is slot_sit_next (wpAny_call_entry slot_sit_next J.is bJ (gM J O U ?_) (bT _))));refine wb0 (W _ _ _ ?_);obtain⟨o,V,Z,R⟩:=id J;obtain⟨F,L,M,K⟩:=J.upd 0 _;refine wb0 (wpAny_setField V R @0 (wb0 (wpAny_setField L K @0 (wq0 (x,rfl,wq0 (N _ (_,hu0 _ L (Obj.isFreed_of_fields (Obj.data_mapFields K _)),(Obj.cls_mapFields ..).trans M,?_) ((Heap.SameBut.update ..).trans (Heap.SameBut.update ..))))))));rw[Obj.data_mapFields K]
 rfl
def qt{P:Fin->Shared->Prop}{J}{o}{vs}(M:A.handled=none)(N:s.heap.get? I=some o)(L:o.data=.fields vs)(hz:2<vs.size)(K:∀e h',Shared.TypeIs {s with heap:=h'} e "StopIteration"->Heap.ExtBut I s.heap h'->J e {s with heap:=h'}):
  wpAny @3 A (do setField (.ref I) 2 .none;raiseNew (<-newExc (.type "StopIteration") [])) P J s:=by
 refine wb0 (wpAny_setField N L hz (wb0 ?_));simp only[newExc,newTuple];refine wb0 (m:=firstArgMember _ _) (wpAny_of_eq (a:=Value.none) (by first|rfl|(simp only[firstArgMember];rfl)) (wpAny_newObj_type ?_ (by size_fits)));unfold raiseNew;refine wb0 (wpAny_handled ?_);rw[M];refine wb0 (wq0 (wpAny_throw ?_));refine K _ _ ?_ (((Heap.SameBut.update ..).extBut.push _).push _);exact⟨_,pz0 _ rfl,rfl⟩
def uy(O:A.handled=none)(J:SetIt s.heap I S (.int sl 0) i n ep)(M:StrSet kd s.heap S xs ep)(R:n=xs.length)(W:∀(A:Around)(E:A0)(Q:Option (Value×Nat)->Shared->Prop),Q none s->wpAny @3 A (setNext S sl i ep) Q E s)
  (L:∀h',Heap.ExtBut I s.heap h'->Q none {s with heap:=h'}):wpAny (model prog w) A (pyNext (.ref I)) Q E s:=by
 refine wb0 (wpAny_attempt (wpAny_callSpecial?_slot J.is slot_sit_next (wpAny_call_entry slot_sit_next J.is bJ (gM J M R ?_) (bT _))));refine wb0 (W _ _ _ ?_);obtain⟨o,U,Z,N⟩:=id J;erw[qt (O) U N @0 λe h' V K=>wb0 (wpAny_isInstance V isSubtype_stop (wq0 (L _ K)))]
def wR{p}{oT}{m}{y}(J:SetIt s.heap I S (.ref T) i n ep)(K:StrSet kd s.heap S xs ep)(B:n=xs.length)(F:s.heap.get? T=some oT)(O:oT.data=.seq (ps.map λ(k:Nat)=>rawInt (k:Int)).toArray m)(P:ps[i]?=some p)(j:xs[p]?=some y)
  (Z:∀h',SetIt h' I S (.ref T) (i+1) n ep->Heap.SameBut I s.heap h'->Q (some (kd.vl y.1 y.2)) {s with heap:=h'}):wpAny (model prog w) A (pyNext (.ref I)) Q E s:=by
 unfold pyNext;refine wb0 (wpAny_attempt (wpAny_callSpecial?_slot (name:=Str.ofString "__next__") J.is slot_sit_next (wpAny_call_entry slot_sit_next J.is bJ (gM J K B ?_) (bT _))));dsimp only;simp only[Int.toNat_natCast];unfold seqItems?;refine wb0 (wb0 (wpAny_load F ?_));rw[O];refine wq0 ?_;dsimp only;have e:(ps.map λ(k:Nat)=>rawInt (k:Int)).toArray[i]?=some (rawInt (p:Int)):=by simp[P]
 rw[e];obtain⟨g,V,t,eS,_,N,W,z,_⟩:=id K;show wpAny _ _ (setNextDrawn S (p:Int).toNat ep >>= _) _ _ _;unfold setNextDrawn;refine wb0 (wb0 (wpAny_setState_of eS N W ?_));dsimp only;simp only[bne_self_eq_false,Bool.false_eq_true,if_false,Int.toNat_natCast];have U:V[p]?=some (kd.e y):=by rw[<-Array.getElem?_toList,z,gm0,j];rfl
 rw[U];refine wq0 ?_;obtain⟨o,C,u,D⟩:=id J;obtain⟨q,R,L,M⟩:=J.upd 1 (rawInt ((i:Int)+1));refine wb0 (wpAny_setField C D @0 (wq0 (_,rfl,wq0 (Z _ (q,R,L,?_) (Heap.SameBut.update ..)))));rw[M];simp[rawInt]
def zH{oT}{m}(W:A.handled=none)(J:SetIt s.heap I S (.ref T) i n ep)(R:StrSet kd s.heap S xs ep)(Z:n=xs.length)(U:s.heap.get? T=some oT)(L:oT.data=.seq (ps.map λ(k:Nat)=>rawInt (k:Int)).toArray m)(D:ps[i]?=none)
  (O:∀h',Heap.ExtBut I s.heap h'->Q none {s with heap:=h'}):wpAny (model prog w) A (pyNext (.ref I)) Q E s:=by
 unfold pyNext;refine wb0 (wpAny_attempt (wpAny_callSpecial?_slot (name:=Str.ofString "__next__") J.is slot_sit_next (wpAny_call_entry slot_sit_next J.is bJ (gM J R Z ?_) (bT _))));dsimp only;simp only[Int.toNat_natCast];unfold seqItems?;refine wb0 (wb0 (wpAny_load U ?_));rw[L];refine wq0 ?_;dsimp only;have e:(ps.map λ(k:Nat)=>rawInt (k:Int)).toArray[i]?=none:=by simpa using D
 rw[e];obtain⟨o,F,P,V⟩:=id J;obtain⟨j,M,C,K⟩:=J.upd 0 (rawInt 0);refine wb0 (wpAny_setField F V @0 ?_);refine qt (W:A.in1.handled=none) M K @0 λe h' B N=>?_
 erw[wb0 (wpAny_isInstance (T:="StopIteration") (b:=true) B isSubtype_stop (wq0 (O _ ((Heap.SameBut.update ..).extBut.trans N))))]
end
def ke:entryFor table "set_iterator.__iter__"=some Builtin.«dict_keyiterator.__iter__»:=by
 refine entryFor_alias (id':="dict_keyiterator.__iter__") ?_ rfl ?_ ?_<;>first|kernel_rfl|rfl
section
variable {prog:Program}{E:A0}{Y:Type}[DecidableEq Y][Inhabited Y]{kd:KD prog w Y}{I S T:Addr}{xs:List (Y×Tok)}
abbrev eqG:Array GenState->Array GenState->Prop:=λa b=>b=a
abbrev Da{prog:Program}{w:World}{Y:Type}[DecidableEq Y](kd:KD prog w Y)(J:List (Y×Tok))(i:Nat)(v:Value):Prop:=∃p,J[i]?=some p/\v=kd.vl p.1 p.2
def kg{f0}{i}(J:SetIt s.heap I S f0 i n ep){Q}(K:Q (.ref I) s):wpAny @3 A (pyIter (.ref I)) Q E s:=wpAny_pyIter_slot J.is fD (wpAny_call_entry fD J.is ke (wq0 (_,rfl,_,_,J.is,slot_sit_next.lookup,K)) ((by rfl)))
def wU(L:byTx w=true)(V:S≠I)(v:A.handled=none):∃J:List (Y×Tok),J.Perm xs/\
  WalksS prog w A I [I,S] [I] eqG xs.length (Da kd J) (λi s=>SetIt s.heap I S (.int 0 0) i xs.length ep/\StrSet kd s.heap S xs ep):=by
 obtain⟨J,Z,P⟩:=bh (mf (w.params.setOrder S ep) (xs.map kd.e).toArray) xs rfl;have O:∀(s:Shared)(i:Nat),StrSet kd s.heap S xs ep->∀(A:Around)(E:A0)(Q:Option (Value×Nat)->Shared->Prop),Q ((J[i]?).map λp=>(kd.vl p.1 p.2,0)) s->wpAny @3 A (setNext S 0 i ep) Q E s:=λs i f A E Q q=>by
  obtain⟨o,j,t,R,_,U,u,g,_⟩:=f;refine wQ R U u L ?_;rw[(show j=(List.map kd.e xs).toArray by
    rw[<-g]),<-Array.getElem?_toList,P,gm0]
  cases z:J[i]?<;>simp_all
 refine(J,Z,(λb L=>by simp at L;simp[L],λa=>rfl,λa a a R U=>U.trans R,λi s F k K a D=>(K.1.keep λo e=>D I @0 o e,K.2.keep λo e=>D S @0 o e),λi s Q E l K M=>?_,λs Q E K M=>?_,λi s Q E K M=>kg K.1 M))
 .have W:i<J.length:=by rw[Z.length_eq];erw[l]
  have e:=ge0 W;refine qr K.1 K.2 rfl (x:=kd.vl J[i].1 J[i].2) (nx:=0) (λA E Q q=>O s i K.2 A E Q (by rw[e];erw[q])) λF N B=>?_
  erw[M _ _ (_,e,rfl) (N,K.2.keep λo e=>(B.2 _ V).trans e) (λb o L e=>(B.2 b (λz=>L (by simp[z]))).trans e,rfl,rfl,rfl,nr0 _)]
 .have e:=List.getElem?_eq_none (by rw[Z.length_eq];erw[nr0 _])
  refine uy v K.1 K.2 rfl (λA E Q q=>O s _ K.2 A E Q (by rw[e];erw[q])) λF C=>?_
  erw[M _ (λb o L e=>C b o (λz=>L (by simp[z])) e,rfl,rfl,rfl,nr0 _)]
def zI(K:byTx w=false)(O:S≠I)(hh:A.handled=none):
  WalksS prog w A I [I,S] [I] eqG xs.length (Da kd xs) (λi s=>∃sl,SetIt s.heap I S (.int (sl:Nat) 0) i xs.length ep/\StrSet kd s.heap S xs ep/\∀o es t,s.heap.get? S=some o->o.data=.set es ep t->xs.length<=1/\SetTable.below t.place sl=i):=by
 refine(λb K=>by simp at K;simp[K],λc=>rfl,λc c c J L=>L.trans J,λi s f tk N c j=>?_,λi s Q E v N R=>?_,λs Q E N R=>?_,λi s Q E N R=>?_)
 .obtain⟨sl,a,b,d⟩:=N
  obtain⟨o0,j0,t0,g,r0⟩:=id b;refine(sl,a.keep λo e=>j I @0 o e,b.keep λo e=>j S @0 o e,λo es t J L=>d o es t ?_ L);have:=j S @0 _ g;have J:=J;rw[this]at J;cases J;erw[g]
 .obtain⟨sl,a,b,d⟩:=N
  obtain⟨o,es,t,J,C,L,W,Z,P,h6⟩:=id b;have M:es.size=xs.length:=by rw[<-al0,Z,lm0]
  obtain⟨V,B⟩:=d o es t J L;have hf:=W;simp only[SetTable.fits,be0,beq_iff_eq]at hf;have l:t.place[i]?=some t.place[i]:=Array.getElem?_eq_getElem (by omega);have hy:es[i]?=some (kd.e xs[i]):=by rw[<-Array.getElem?_toList,Z,gm0,ge0 v];rfl
  refine qr (nx:=t.place[i]+1) a b rfl (x:=kd.vl xs[i].1 xs[i].2) (λA E Q q=>qq J L W K (by rw[P,K];rfl) (λc=>by rw[M];erw[V]) ?_) λf U u=>?_
  .rw[B,l,hy]
   erw[q]
  .refine R _ _ (xs[i],ge0 v,rfl) (t.place[i]+1,U,b.keep λo e=>(u.2 _ O).trans e,λo' p t' F D=>?_) (λb o K e=>(u.2 b (λz=>K (by simp[z]))).trans e,rfl,rfl,rfl,nr0 _)
   have F:=F;rw[(u.2 _ O).trans J]at F;cases F;rw[L]at D;injection D with _ _ D
   subst D;exact(V,sH @4 l)
 .obtain⟨sl,a,b,d⟩:=N
  obtain⟨o,es,t,J,C,L,W,Z,P,h6⟩:=id b;have M:es.size=xs.length:=by rw[<-al0,Z,lm0]
  obtain⟨V,B⟩:=d o es t J L;refine uy hh a b rfl (λA E Q q=>qq J L W K (by rw[P,K];rfl) (λc=>by rw[M];erw[V]) ?_) λf k=>R _ (λb o K e=>k b o (λz=>K (by simp[z])) e,rfl,rfl,rfl,nr0 _)
  rw[B,show es[xs.length]?=none from Array.getElem?_eq_none @6];erw[q]
 .obtain⟨sl,a,_⟩:=N
  erw[kg a R]
def sI(F:ps.Perm (List.range xs.length))(O:S≠I)(R:T≠I)(P:A.handled=none):
  WalksS prog w A I [I,S,T] [I] eqG xs.length (Da kd (ps.map λk=>xs.getD k default)) (λi s=>SetIt s.heap I S (.ref T) i xs.length ep/\StrSet kd s.heap S xs ep/\∃o,s.heap.get? T=some o/\o.data=.seq (ps.map λ(k:Nat)=>rawInt (k:Int)).toArray):=by
 have q:ps.length=xs.length:=by rw[F.length_eq,lr0]
 refine(λb K=>by simp at K;simp[K],λf=>rfl,λf f f B C=>C.trans B,λi s W u J f U=>?_,λi s Q E j J L=>?_,λs Q E J L=>?_,λi s Q E J L=>kg J.1 L)
 .obtain⟨a,b,o,c,d⟩:=J
  exact(a.keep λo e=>U I @0 o e,b.keep λo e=>U S @0 o e,o,U T @0 o c,d)
 .obtain⟨a,b,o,c,d⟩:=J
  have M:i<ps.length:=by simp_all
  have e:=ge0 M;have Z:=List.mem_range.mp (F.mem_iff.mp (List.getElem_mem M));refine wR a b rfl c d e (ge0 Z) λW N V=>?_
  erw[L _ _ (xs[ps[i]],by simp[e,List.getD,ge0 Z],rfl) (N,b.keep λo e=>(V.2 _ O).trans e,o,(V.2 _ R).trans c,d) (λb o K e=>(V.2 b (λz=>K (by simp[z]))).trans e,rfl,rfl,rfl,nr0 _)]
 .obtain⟨a,b,o,c,d⟩:=J
  erw[zH P a b rfl c d (List.getElem?_eq_none @6) λW D=>L _ (λb o K e=>D b o (λz=>K (by simp[z])) e,rfl,rfl,rfl,nr0 _)]
end
section
variable {prog:Program}{E:A0}{S:Addr}{Y:Type}[DecidableEq Y][Inhabited Y]{kd:KD prog w Y}{xs:List (Y×Tok)}
structure mi{prog:Program}{w:World}{Y:Type}[DecidableEq Y](kd:KD prog w Y)(A:Around)(S:Addr)(xs:List (Y×Tok))(s s':Shared)(I:Addr):Prop where
 ex:∃(fp:A4)(order:List (Y×Tok))(St:Nat->Shared->Prop),order.Perm xs/\WalksS prog w A I fp [I] eqG xs.length (Da kd order) St/\St 0 s'/\(∀b∈fp,b=S\/s.heap.get? b=none)/\s.heap.get? I=none
def zJ{Q}(u:A.handled=none)(O:StrSet kd s.heap S xs ep)(hz:xs.length<4000)
  (h:∀h' d I,(∀b o,s.heap.get? b=some o->h'.get? b=some o)->mi kd A S xs s {s with heap:=h',drawn:=d} I->Q (.ref I) {s with heap:=h',drawn:=d}):
  wpAny @3 A (pyIter (.ref S)) Q E s:=by
 obtain⟨o,M,t,K,j1,N,Z,h4,h5,h6⟩:=id O;have ltS:=hs0 K;have U:M.size=xs.length:=by rw[<-al0,h4,lm0]
 refine wpAny_pyIter_slot O.isA F.slot_set_iter (wpAny_call_entry F.slot_set_iter O.isA kb ?_ (F.args_set_iter_1 _));unfold Builtin.«frozenset.__iter__» Builtin.Frozenset.slot0;refine wb0 (wb0 (m:=slotArgs "__iter__" 0 _) (wq0 (wq0 ?_)));unfold Builtin.Frozenset.sizeOf setEntries;refine wb0 (wb0 (wb0 (wpAny_setState_of K N Z (wq0 (wq0 ?_)))));unfold setDrawn;refine wb0 (wb0 (wpAny_setState_of K N Z (wb0 (asks (wq0 ?_)))));show wpAny @3 A.in1 (do
  let first ←if (!byTx w&&(!t.plain&&decide (M.size>1)))=true then do newTuple ((<-drawOrder M.size (List.range M.size)).map λ(i:Nat)=>rawInt i)else pure (rawInt 0)
  ret (<-newFields "set_iterator" [first,rawInt 0,.ref S,rawInt M.size,rawInt (<-setEpoch S)])) _ _ s
 have fin:∀(j:Value)(R:Shared),R.heap.get? S=some o->(∀P:Value->Shared->Prop,P (.ref R.heap.objs.size) {R with heap:=R.heap.push {cls:=.type "set_iterator",data:=.fields #[j,.int 0 0,.ref S,.int xs.length 0,.int ep 0]}}->
   wpAny @3 A.in1 (do ret (<-newFields "set_iterator" [j,rawInt 0,.ref S,rawInt M.size,rawInt (<-setEpoch S)])) (λf s'=>∃v,f=.done (.ret v)/\P v s') E R):=λj R g P q=>by
  refine wb0 (wpAny_setEpoch_of g N Z ?_);unfold newFields;refine wb0 (wpAny_newObj_type (wq0 (_,rfl,?_)));rw[U];erw[q]
 cases hb:byTx w with
 |true=>
  rw[if_neg @0];refine wb0 (wq0 (fin _ s K _ ?_));have J:S≠s.heap.objs.size:=nn0 ltS;obtain⟨L,po,W⟩:=wU (kd:=kd) (prog:=prog) (A:=A) (I:=s.heap.objs.size) (S:=S) (xs:=xs) (ep:=ep) hb J u;refine(_,_,(_,pz0 _ rfl,rfl),slot_sit_next.lookup,?_);refine h _ s.drawn _ (λb o e=>ps0 _ e) (_,L,_,po,W,((_,pz0 _ rfl,rfl,rfl),O.keep λo e=>ps0 _ e),λb hb=>?_,gL _);rcases mq0 hb with e|hb
  .rw[e];exact .inr (gL _)
  .exact .inl (by simpa using hb)
 |false=>
  by_cases l:xs.length<=1
  .rw[if_neg (by rw[df0 @6];simp)]
   refine wb0 (wq0 (fin _ s K _ ?_));have J:S≠s.heap.objs.size:=nn0 ltS;have W:=zI (kd:=kd) (A:=A) (I:=s.heap.objs.size) (S:=S) (xs:=xs) (ep:=ep) hb J u;refine(_,_,(_,pz0 _ rfl,rfl),slot_sit_next.lookup,?_);refine h _ s.drawn _ (λb o e=>ps0 _ e) (_,xs,_,.refl _,W,(0,(_,pz0 _ rfl,rfl,rfl),O.keep λo e=>ps0 _ e,λo' j0 t' B C=>?_),λb hb=>?_,gL _)
   .have B:=B
    rw[ps0 _ K]at B;cases B;rw[N]at C;injection C with _ _ C
    subst C;simp only[SetTable.fits,be0,beq_iff_eq]at Z;exact(l,sG @6)
   rcases mq0 hb with e|hb
   .rw[e];exact .inr (gL _)
   .exact .inl (by simpa using hb)
  .have np:=bf0 λz=>l (by rw[h6 z];erw[Nat.zero_le _])
   rw[if_pos (by rw[np,dt0 @6];rfl)];refine wb0 (mh _ _ _ _ List.length_range.symm λps d D=>wb0 ?_);rw[U]at D;have hl:ps.length=xs.length:=by rw[D.length_eq,lr0]
   refine wpAny_newTuple ?_ (by rw[lm0,hl,sizeLine_eq];grind);refine fin _ {s with heap:=s.heap.push _,drawn:=d} (ps0 _ K) _ ?_;have J:S≠(s.heap.push {cls:=.type "tuple",data:=.seq (ps.map λ(k:Nat)=>rawInt (k:Int)).toArray}).objs.size:=by rw[Heap.size_push];erw[nn0 (Nat.lt_succ_of_lt ltS)]
   have V:s.heap.objs.size≠(s.heap.push {cls:=.type "tuple",data:=.seq (ps.map λ(k:Nat)=>rawInt (k:Int)).toArray}).objs.size:=by rw[Heap.size_push];simp_all
   have W:=sI (kd:=kd) (prog:=prog) (w:=w) (A:=A) (I:=(s.heap.push {cls:=.type "tuple",data:=.seq (ps.map λ(k:Nat)=>rawInt (k:Int)).toArray}).objs.size) (S:=S) (T:=s.heap.objs.size) (xs:=xs) (ep:=ep) D J V u;have kk:∀b o,s.heap.get? b=some o->((s.heap.push {cls:=.type "tuple",data:=.seq (ps.map λ(k:Nat)=>rawInt (k:Int)).toArray}).push {cls:=.type "set_iterator",data:=.fields #[.ref s.heap.objs.size,.int 0 0,.ref S,.int xs.length 0,.int ep 0]}).get? b=some o:=λb o e=>ps0 _ (ps0 _ e)
   have p:∀b,s.heap.objs.size<=b->s.heap.get? b=none:=λb hb=>by
    cases q:s.heap.get? b with
    |none=>rfl
    |some o=>exact absurd (hs0 q) (Nat.not_lt.mpr hb)
   refine(_,_,(_,pz0 _ rfl,rfl),slot_sit_next.lookup,?_);refine h _ d _ kk (_,_,_,(D.map _).trans (.of_eq ((by
     apply List.ext_getElem
     .simp
     .intro i K N
      simp[N]))),W,((_,pz0 _ rfl,rfl,rfl),O.keep λo e=>kk _ _ e,_,ps0 _ (pz0 _ rfl),rfl),λb hb=>?_,p _ (by rw[Heap.size_push];simp))
   rcases mq0 hb with e|hb
   .rw[e];exact .inr (p _ (by rw[Heap.size_push];simp_all))
   .rcases mq0 hb with e|hb
    .exact .inl e
    .have:b=s.heap.objs.size:=by simpa using hb
     rw[this];exact .inr (gL _)
def zK{Q}(K:s.TypeIs (.ref S) "set")(h:Q false s):wpAny @3 A (Builtin.List.listLengthHint (.ref S)) Q E s:=by
 unfold Builtin.List.listLengthHint;refine wb0 (wpAny_specialOf K F.slot_set_len.lookup ?_);generalize J:("set.__len__":String)=L
 wp_delta
 rw[show splitId L=some ("set","__len__")from by subst J;decide +kernel];subst J;refine wb0 (wpAny_isInstance (T:="set") (b:=true) K (by rw[isSubtype_type];kernel_rfl) ?_);refine wpAny_ite_split (λz=>absurd z @2) λa=>wpAny_ite_split (λa=>wb0 (wpAny_typeOf K (wq0 h))) λz=>absurd (by decide +kernel) z
noncomputable def sJ{R}{L}(B:A.handled=none)(t:StrSet kd s.heap S xs ep)(hz:xs.length<4000)(res)(u:s.heap.get? L=some {cls:=.type "list",data:=.seq #[]})(D:L≠S)
  (h:∀h' tk d (J:List (Y×Tok)) (acc:A9) c,J.Perm xs->(∀b o,b≠L->s.heap.get? b=some o->h'.get? b=some o)->h'.get? L=some {cls:=.type "list",dict:=none,data:=.seq acc c,slots:=#[]}->acc.toList=J.map (λp=>kd.vl p.1 p.2)->R (.ok (.ret res)) {s with heap:=h',toks:=tk,drawn:=d}):
  wpAny @3 A.in1 (Builtin.List.listExtendWith (.ref L) (.ref S) res)
   (λfin K=>match fin with|.done f=>R (.ok f) K|.again Q=>Q.quiet=true/\codeAny @3 A Q R K) (λe K=>R (.error e) K) s:=by
 unfold Builtin.List.listExtendWith;refine wb0 (wpAny_typeOf (T:="set") t.isA ?_);have q1:Builtin.List.listSameRef (.ref L) (.ref S)=false:=by simp[Builtin.List.listSameRef,D]
 have q2:(Value.type "set"==Value.type "list")=false:=by decide
 have q3:(Value.type "set"==Value.type "tuple")=false:=by decide
 simp only[q1,q2,q3,Bool.or_false,Bool.false_eq_true,if_false];refine wb0 (zJ (A:=A.in1) B t hz λh' d I kk W=>?_);obtain⟨fp,J,St,po,W,st,j0,j⟩:=W.ex;have j2:I≠L:=λe=>by rw[e,u]at j;cases j
 have nf:L∉fp:=λU=>(j0 L U).elim D λz=>by rw[u]at z;cases z
 refine wb0 (wh0 (zK (s:={s with heap:=h',drawn:=d}) (t.keep λo e=>kk _ _ e).isA ?_));have C:∀(V:Heap)(tk c:Nat),St 0 {s with heap:=V,drawn:=d,toks:=tk}->(∀b o,b≠L->s.heap.get? b=some o->V.get? b=some o)->V.get? L=some {cls:=.type "list",data:=.seq #[] c}->codeAny (model prog w) A (.builtin "list.extend.loop" ([.ref L,.ref I,res],[])) R {s with heap:=V,drawn:=d,toks:=tk}:=λV tk c j1 k2 l2=>by
  refine codeAny_extend_loopS W (by rw[sizeLine_eq];grind) L nf res xs.length 0 _ #[] c rfl (Nat.zero_le _) j1 l2 (ItemsOf.nil _) λK acc Q hm l N=>?_
  have es:K={s with heap:=K.heap,toks:=K.toks,drawn:=d}:=by
   obtain⟨_,a1,a2,a3,_⟩:=hm;obtain⟨hp,g,dd,tk,os⟩:=K;simp only at a1 a2 a3;subst a1 a2 a3;rfl
  rw[es];refine h K.heap K.toks d J acc Q po (λb o U e=>hm.heap b o (λz=>?_) (k2 b o U e)) l ?_
  .rcases mq0 z with z|z
   .erw[U z]
   .have:b=I:=by simpa using z
    rw[this,j]at e;cases e
  .apply List.ext_getElem?
   intro i;rw[Array.getElem?_toList,gm0];cases q:acc[i]? with
   |none=>
    have hi:acc.size<=i:=by simpa using q
    rw[List.getElem?_eq_none (by rw[po.length_eq];rw[N.1]at hi;erw[hi])];rfl
   |some v=>
    obtain⟨p,e1,rfl⟩:=N.2 i v q;rw[e1];rfl
 have M:∀(f:Array Value->Array Value)(B:Heap)(b:Addr)(o:Obj),b≠L->B.get? b=some o->(B.update L (Obj.mapSeq f)).get? b=some o:=λf B b o P e=>(Heap.get?_update_other _ _ (Ne.symm P)).trans e
 have O:=kk _ _ u;refine wpAny_ite_split (λa=>?_) (λa=>wq0 (plainId_quiet F.plain_extend_loop _,C h' s.toks 0 st (λb o a e=>kk b o e) O));refine wb0 (wpAny_rule (wb0 ?_));show wpAny @3 _ (updateSeq L (·.push .none) >>= λa=>updateSeq L (·.pop)) _ _ _;refine wb0 (wpAny_updateSeq O rfl ?_);have Z:=hu0 (Obj.mapSeq (·.push Value.none)) O rfl;refine wpAny_updateSeq (hz:=by seq_fits) Z rfl ?_;have k:=hu0 (Obj.mapSeq (·.pop)) Z rfl;refine wq0 (plainId_quiet F.plain_extend_loop _,C _ s.toks _ (W.frame 0 _ _ _ st (nr0 _) λb U o e=>?_) (λb o P e=>M _ _ _ _ P (M _ _ _ _ P (kk b o e))) k)
 erw[M _ _ _ _ (λz=>nf (z▸U)) (M _ _ _ _ (λz=>nf (z▸U)) e)]
def qu{R}(W:A.handled=none)(U:StrSet kd s.heap S xs ep)(hz:xs.length<4000)
  (h:∀h' tk d (J:List (Y×Tok)),J.Perm xs->s.heap.objs.size<=h'.objs.size->(∀b o,s.heap.get? b=some o->h'.get? b=some o)->R (J.map λp=>kd.vl p.1 p.2) {s with heap:=h',toks:=tk,drawn:=d}):
  wpAny @3 A (collect (.ref S)) R E s:=by
 have ltS:=let ⟨_,_,_,e,_⟩:=U;hs0 e
 unfold collect;refine wb0 (wpAny_runValue (codeAny_builtin entry_proto_collect' ?_));rw[ui0 PySem.F.plain_proto_collect];show wpAny _ A.in1 (newList [] >>= λl=>again (.builtin "list.__iadd__" ([l,.ref S],[]))) _ _ s;refine wb0 (wpAny_newObj_type (wq0 (plainId_quiet PySem.F.plain_list_iadd _,codeAny_builtin entry_list_iadd' ?_)));rw[ui0 PySem.F.plain_list_iadd];have V:(s.heap.push {cls:=.type "list",data:=.seq ([]:A2).toArray}).get? s.heap.objs.size=some {cls:=.type "list",data:=.seq #[]}:=pz0 _ rfl;show wpAny _ A.in1 (Builtin.List.listExtendWith (.ref s.heap.objs.size) (.ref S) (.ref s.heap.objs.size)) _ _ _
 refine wpAny_mono (sJ (kd:=kd) (A:=A) (s:={s with heap:=s.heap.push {cls:=.type "list",data:=.seq ([]:A2).toArray}})
  (R:=λq O=>∃h' tk d,∃J:List (Y×Tok),∃(K:A9)(c:Nat),q=.ok (.ret (.ref s.heap.objs.size))/\O={s with heap:=h',toks:=tk,drawn:=d}/\J.Perm xs/\(∀b o,s.heap.get? b=some o->h'.get? b=some o)/\h'.get? s.heap.objs.size=some {cls:=.type "list",dict:=none,data:=.seq K c,slots:=#[]}/\K.toList=J.map (λp=>kd.vl p.1 p.2))
  W (U.keep λo e=>ps0 _ e) hz (.ref s.heap.objs.size) V (Nat.ne_of_gt ltS) λh' tk d J K c M a2 L N=>(h',tk,d,J,K,c,rfl,rfl,M,λb o e=>a2 b o (nn0 (hs0 e)) (ps0 _ e),L,N)) (λfin O x=>?_) λe O x=>?_
 .cases fin with
  |done f=>
   obtain⟨h',tk,d,J,K,c,e,rfl,M,a2,L,N⟩:=x;cases e;show wpAny @3 A (load s.heap.objs.size >>= _) _ _ _;refine wb0 (wpAny_load L (wq0 ?_));rw[N];erw[h h' tk d J M (Nat.le_of_lt (hs0 L)) a2]
  |again Z=>
   refine(x.1,codeAny_mono x.2 λq T y=>?_);obtain⟨h',tk,d,J,K,c,rfl,rfl,M,a2,L,N⟩:=y;show wpAny @3 A (load s.heap.objs.size >>= _) _ _ _;refine wb0 (wpAny_load L (wq0 ?_));rw[N];erw[h h' tk d J M (Nat.le_of_lt (hs0 L)) a2]
 .obtain⟨_,_,_,_,_,_,z,_⟩:=x
  cases z
noncomputable def kdS(prog:Program)(w:World):KD prog w Str:=(strKind prog w,.str,λk t=>by simp[strKind,Value.isStrOf],λa a=>rfl,λa a=>rfl)
def nK(J:List (Str×Tok)):StrsAre (J.map λp=>Value.str p.1 p.2) (J.map (·.1)):=by
 induction J with
 |nil=>exact .nil
 |cons p r ih=>exact .cons _ _ ih
def sL{Q}{P:List Value->Array Value->Prop}(B:A.handled=none)(F:StrSet kd s.heap S xs ep)(hz:xs.length<64)
  (N:∀(W:Around)(Z:A0)(K:Shared)(a:Addr)(J:List (Y×Tok))(O:Fin->Shared->Prop),J.length<64->K.heap.get? a=some (seqObj "list" (J.map λp=>kd.vl p.1 p.2).toArray 0)->(∀out,P (J.map λp=>kd.vl p.1 p.2) out->O (.done (.ret .none)) {K with heap:=sortedHeap K.heap a (J.map λp=>kd.vl p.1 p.2) out})->wpAny @3 W (Builtin.«list.sort» ([.ref a],[])) O Z K)
  (h:∀h' tk d D (out:A9) n (J:List (Y×Tok)),(∀b o,s.heap.get? b=some o->h'.get? b=some o)->h'.get? D=some (seqObj "list" out n)->s.heap.objs.size<=D->J.Perm xs->P (J.map λp=>kd.vl p.1 p.2) out->Q (.ref D) {s with heap:=h',toks:=tk,drawn:=d}):
  wpAny @3 A (call (.builtin "sorted") [.ref S]) Q E s:=by
 refine Calls.call_function_entry kind_sorted plain_sorted entry_sorted (args_sorted1 _) ?_;refine wb0 (wq0 (wb0 (qu (A:=A.in1) B F @1 λM tk d J V j R=>?_)));have C:=V.length_eq;refine wb0 (wpAny_newList ?_ (by rw[lm0,C,sizeLine_eq];lia));have L:(M.push _).get? M.objs.size=some (seqObj "list" (J.map λp=>kd.vl p.1 p.2).toArray 0):=pz0 _ rfl;have I:=λb o e=>hs0 (R b o e)
 refine wb0 (wh0 (wpAny_call_entry slot_list_sort (_,L,rfl) entry_list_sort (N _ _ _ _ J _ @1 L λout T=>(_,rfl,?_)) (args_list_sort _)));refine wq0 (_,rfl,?_);obtain⟨n,fin⟩:=sortedHeap_at (out:=out) L;refine h _ tk d M.objs.size _ n J (λb o e=>?_) fin j V T;have U:=I b o e;exact (sortedHeap_old (nn0 U) (by rw[size_push'];erw[Nat.lt_succ_of_lt U])).trans (ps0 _ (R b o e))
def jb{xs}{Q}(V:A.handled=none)(U:StrSet (kdS prog w) s.heap S xs ep)(hz:xs.length<64)
  (h:∀h' tk d D (out:A9) n (ss:A1),(∀b o,s.heap.get? b=some o->h'.get? b=some o)->h'.get? D=some (seqObj "list" out n)->s.heap.objs.size<=D->StrsAre out.toList ss->ss.Perm (xs.map (·.1))->sortedS ss=true->Q (.ref D) {s with heap:=h',toks:=tk,drawn:=d}):
  wpAny @3 A (call (.builtin "sorted") [.ref S]) Q E s:=by
 refine sL (P:=λB out=>∀ss,StrsAre B ss->∃K,StrsAre out.toList K/\K.Perm ss/\sortedS K=true) V U hz (λC I z a J j l M k=>?_) λh' tk d D out n J kk M F Z L=>?_
 .erw[list_sort_treeK strKind_oneLt M (nK _).keysOf (λq u rest e=>keyKind_strs (by rw[<-e];exact nK _)) @6 λT L a2=>k _ λss W=>sorted_out_str W L a2]
 .obtain⟨ss,N,O,R⟩:=L _ (nK _)
  erw[h h' tk d D _ n ss kk M F N (O.trans (Z.map _)) R]
end
end PySem
namespace SI
open PySem
def aU(x:Str):ltS x x=false:=df0 (List.lt_irrefl _)
def og(h:x.cps.toList=y.cps.toList):x=y:=by
 cases x;simp_all
def eY{x y z}(J:ltS x y=true)(K:ltS y z=true):ltS x z=true:=dt0 (List.lt_trans (od0 J) (od0 K))
def iF{x y}(h:x≠y)(J:ltS x y=false):ltS y x=true:=dt0 (Classical.byContradiction λK=>h (og (List.le_antisymm (List.not_lt.mp K) (List.not_lt.mp (of_decide_eq_false J)))))
abbrev bY(l:A1):Prop:=l.Pairwise λa b=>ltS a b=true
set_option tactic.hygienic true
theorem mem_insS(x:Str):∀(l:A1)(y:Str),y∈kI x l↔y=x\/y∈l
 |[],y=>by simp[kI]
 |z::r,y=>by
  unfold kI;split
  .rename_i e;subst e;simp
  .split
   .simp
   .rw[List.mem_cons,mem_insS x r y,List.mem_cons]
    exact(λh=>h.elim (λa=>.inr (.inl a)) λh=>h.elim .inl λa=>.inr (.inr a),λh=>h.elim (λa=>.inr (.inl a)) λh=>h.elim .inl λa=>.inr (.inr a))
theorem mj(x:Str):∀l:List Str,bY l->bY (kI x l)
 |[],_=>by simp[kI]
 |z::r,h=>by
  obtain⟨K,L⟩:=List.pairwise_cons.mp h;unfold kI;split
  .erw[h]
  .rename_i N
   split
   .rename_i M
    refine List.pairwise_cons.mpr (λb hb=>?_,h);rcases mq0 hb with e|hb
    .rwa [e]
    .erw[eY M (K b hb)]
   .rename_i J
    refine List.pairwise_cons.mpr (λb hb=>?_,mj x r L);rcases (mem_insS x r b).mp hb with e|hb
    .rw[e];erw[iF N (bf0 J)]
    .erw[K b hb]
set_option tactic.hygienic false
theorem mem_srtS:∀(l:A1)(y:Str),y∈srtS l↔y∈l
 |[],y=>by simp[srtS]
 |x::r,y=>by rw[srtS,mem_insS,mem_srtS r,List.mem_cons]
theorem bj:∀l:List Str,bY (srtS l)
 |[]=>List.Pairwise.nil
 |x::r=>mj x _ (bj r)
def dM:∀{l m:A1},bY l->bY m->(∀y,y∈l↔y∈m)->l=m:=by
 intro l m a b h;have J:∀{l:A1},bY l->l.Nodup:=λh=>h.imp λ{a b} z e=>by rw[e,aU]at z;cases z
 erw[List.Perm.eq_of_pairwise (λx y c c p q=>absurd (eY p q) (by rw[aU];exact fx0)) a b ((List.perm_ext_iff_of_nodup (J a) (J b)).2 h)]
def kh(l:A1):(srtS l).length<=l.length:=by
 induction l with
 |nil=>exact nr0 _
 |cons x r ih=>
  have:∀q,(kI x q).length<=q.length+1:=by
   intro q
   induction q with
   |nil=>exact nr0 _
   |cons y q J=>
    unfold kI;split
    .simp
    .split<;>simp_all
  have:=this (srtS r);rw[srtS,lc0]
  lia
end SI
namespace L2.Z
open PySem PySem.Spec PyProof.Rows L2 L2.C SI
def uz{ss}(h:sortedS ss=true)(n:ss.Nodup):bY ss:=by
 have K:∀(l:List _)(p:Str),risingS p l=true->(p::l).Nodup->bY (p::l):=by
  intro l
  induction l with
  |nil=>intro p _ _;simp
  |cons x r ih=>
   intro p h n;have h:(!ltCps _ _&&risingS x r)=true:=h;rw[be0,Bool.not_eq_true',ltCps_eq]at h;obtain⟨M,N⟩:=List.nodup_cons.mp n;have J:=ih x h.2 N;have L:=iF (λe=>M (by rw[e];erw[ms0])) h.1;refine List.pairwise_cons.mpr (λb hb=>?_,J);rcases mq0 hb with e|hb
   .rwa [e]
   .erw[eY L ((List.pairwise_cons.mp J).1 b hb)]
 cases ss with
 |nil=>simp
 |cons p l=>exact K l p h n
section
variable {e:Expr}{p p2 q:Pos}{d:D}{ds:List D}
def jc{prog:Program}{w:World}{Y:Type}[DecidableEq Y](kd:KD prog w Y)(l:Addr)(K:List Y):Heap->Prop:=λh=>∃J ep,J.map (·.1)=K/\StrSet kd h l J ep
def gS{prog}{w}{Y:Type}[DecidableEq Y][Inhabited Y]{kd:KD prog w Y}{H}{h}{l}{ys}{ep}(J:StrSet kd h l ys ep):ObjOk prog w H h l (.ext (jc kd l (ys.map (·.1)))):=by
 refine((ys,ep,rfl,J),?_,λL M z K=>?_)
 .obtain⟨o,_,_,e,_⟩:=J
  exact(o,e)
 .obtain⟨a,b,c,d⟩:=z
  exact(a,b,c,d.keep K)
def qv{Y:Type}{f}{g:Y->Tok->Value}(K:∀y u,RelV (f y) u->∃tk,u=g y tk):∀{ss:List Y}{us},Vals (ss.map f) us->us.length=ss.length/\∀(j:Nat)(x:Y),ss[j]?=some x->∃tk,us[j]?=some (g x tk):=by
 intro ss
 induction ss with
 |nil=>intro us h;cases h;exact(rfl,λj x h=>by simp at h)
 |cons y r ih=>
  intro us h;cases h with
  |cons L J=>
   obtain⟨a,b⟩:=ih J;refine(by simp[a],λj x h=>?_);cases j<;>simp_all
def lE{us}(h:Vals (ss.map V.str) us):us.length=ss.length/\∀(j:Nat)(x:Str),ss[j]?=some x->∃tk,us[j]?=some (.str x tk):=qv (f:=V.str) (λa a h=>h) h
def hZ{ss:List Int}{us}(h:Vals (ss.map V.int) us):us.length=ss.length/\∀(j:Nat)(x:Int),ss[j]?=some x->∃tk,us[j]?=some (.int x tk):=qv (f:=V.int) (λa a h=>h) h
def wV{Y:Type}[DecidableEq Y][Inhabited Y](kd:KD X.prog X.w Y)(U:Y->V)(F:∀(ss:List Y)(us:A2),Vals (ss.map U) us->us.length=ss.length/\∀(j:Nat)(x:Y),ss[j]?=some x->∃tk,us[j]?=some (kd.vl x tk))(hc:X.calm=true):bb X (.type "set") (λxs H Q=>∃(r:Addr)(ss:List Y),xs=[.ref r]/\SqL X.K H r (ss.map U)/\ss.length<64/\∀l (J:List Y),H l=none->J.Nodup->(∀y,y∈J↔y∈ss)->J.length<=ss.length->Q (.ref l) (upd H l (.ext (jc kd l J)))):=by
 intro O s o H xs us Q I r h;obtain⟨t,ss,rfl,T,v,k⟩:=h;obtain⟨u,rfl,E⟩:=vals1 r;cases E;obtain⟨D,P,C,_⟩:=I.list T;obtain⟨R,z⟩:=F _ _ P;refine kK (kd:=kd) (I.ok.hd hc) C.isList (by rw[ls0,R]) (by rw[ls0,R];lia) (λj x e=>by obtain⟨tk,e⟩:=z j x e;exact(tk,by simpa using e)) λf tk S g ep N W B M L kk=>?_
 have Z:=I.hok.fresh N;refine(.ref S,_,I.laid (t':=tk) kk N (gS W),rfl,k S (g.map (·.1)) Z B M (by rw[lm0];erw[L]))
def mq{zp}{J:St}{H}{s}(I:Inv X zp J H s)(d):Inv X zp J H {s with drawn:=d}:=
 (I.ok,I.os,I.bare,I.base,I.loc,I.cell,I.free,I.freeC,I.pin,I.hok,I.len)
def gO(hc:X.calm=true):bb X (.builtin "sorted") (λxs H Q=>∃(l:Addr)(K:A1),xs=[.ref l]/\H l=some (.ext (jc (kdS X.prog X.w) l K))/\K.length<64/\∀r (ss:A1),H r=none->ss.Perm K->sortedS ss=true->Q (.ref r) (upd H r (.lst (ss.map V.str)))):=by
 intro R s E H xs P Q I r h;obtain⟨l,K,rfl,Z,L,k⟩:=h;obtain⟨u,rfl,T⟩:=vals1 r;cases T;obtain⟨⟨xs,ep,rfl,W⟩,_⟩:=(I.hok l _ Z:ObjOk X.prog X.w H s.heap l (.ext _));refine jb (I.ok.hd hc) W (by rw[lm0]at L;erw[L]) λS C d D M n ss kk U N F O B=>?_
 have J:(ss.map V.str).length<=sizeLine:=by
  rw[lm0,O.length_eq,lm0,sizeLine_eq];rw[lm0]at L;lia
 refine(.ref D,_,((mq I d).laid (s:={s with drawn:=d}) (t':=C) kk N (show ObjOk X.prog X.w _ _ _ (.lst _)from(J,M.toList,n,gm F,by simpa using U))),rfl,k D ss (I.hok.fresh N) O B)
def dP:bootBuiltins ("sorted":Str)=some (.builtin "sorted"):=rfl
def iG:bootBuiltins ("set":Str)=some (.type "set"):=rfl
end
section
variable {o e:Expr}{p p1:Pos}{d dk:D}{key:Key}{kvs:List (Key×D)}
def JV{m}(K:attributeBase o m X.env (eval o X.env)=eval o X.env)(hs:isStar a=false)(L:(apos.endLine==pos.line)=true):M1 X o m apos a pos:=by
 have J:=starEach_cons (es:=[]) (env:=X.env) hs;exact(K,by rw[J];rfl,L,by rw[J];rfl)
end
section
variable {o:Expr}{ipos p p1:Pos}{d:D}{kvs es:List (Key×D)}{ls:List D}
def sM(J:X.calm=true):bb X (.type "dict") (λvs H Q=>∃a N ps,vs=[.ref a]/\H a=some (.lst N)/\PrV H N ps/\∀p M,H p=.none->Q (.ref p) (upd H p (.frz M (.dK (eh [] ps))))):=by
 intro L s C H vs B Q I r h;obtain⟨a,N,ps,rfl,W,K,q⟩:=h;refine thn (sg J L s C H _ B (λv R=>∃p,v=.ref p/\H p=.none/\R=upd H p (.dK (eh [] ps))) I r (a,N,ps,rfl,W,K,λp K=>(p,rfl,K,rfl))) λu O h=>?_
 obtain⟨v,R,U,D,p,rfl,K,rfl⟩:=h;obtain⟨Z,T,vs,F,V⟩:=(U.hok p _ aa:ObjOk X.prog X.w _ O.heap p (.dK _));obtain⟨M,es,ep,g,rest⟩:=id V;have:=U.write (x:=p) (e:=p) (o:=.frz M (.dK (eh [] ps))) (h':=O.heap) (t':=O.toks) (by rw[aa];trivial) (.inl rfl) (λb b b e=>e) (_,g) (g,Z,T,vs,F,V);rw[tW]at this;exact(.ref p,_,this,D,q p M K)
end
end L2.Z
namespace L2.Z
open PySem PySem.W PyProof.Rows
def Wt{α:Type}(J:A8)(n:Nat):KasT α->(α->Prop)->Prop
 |.ret a,Q=>Q a
 |.ask i j k,Q=>i<n/\j<n/\Wt J n (k (J i j)) Q
theorem Wt.mono{α}{lt}{n}{P Q}(J:∀a,P a->Q a):∀{t:KasT α},Wt lt n t P->Wt lt n t Q
 |.ret _,h=>J _ h
 |.ask _ _ _,⟨K,L,h⟩=>(K,L,Wt.mono J h)
structure LtO(lt:A8):Prop where
 as:∀a b,lt a b=true->lt b a=false
 tr:∀a b c,lt b a=false->lt c b=false->lt c a=false
noncomputable abbrev gk(p:Array Nat)(i:Nat):Nat:=p.getD i 0
def Up(J:A8)(p:Array Nat)(m:Nat):Prop:=∀i j,i<=j->j<m->J (gk p j) (gk p i)=false
def LtO.irr{lt}(J:LtO lt)(a:Nat):lt a a=false:=by
 cases h:lt a a with
 |false=>rfl
 |true=>have:=J.as a a h;grind
noncomputable def zM(J:A8)(n:Nat):KasT (Array Nat)->Bool
 |.ret p=>p.size==n&&p.toList.isPerm (List.range n)&&(List.range n).all λj=>(List.range (j+1)).all λi=>!J (gk p j) (gk p i)
 |.ask i j k=>decide (i<n)&&decide (j<n)&&zM J n (k (J i j))
theorem zN{K lt':A8}(h:∀i j,i<n->j<n->K i j=lt' i j):∀t:KasT (Array Nat),zM lt' n t=true->Wt K n t λp=>p.size=n/\p.toList.Perm (List.range n)/\Up K p n
 |.ret p,q=>by
  simp only[zM,be0,beq_iff_eq,List.isPerm_iff,List.all_eq_true,List.mem_range,Bool.not_eq_true']at q;obtain⟨⟨a,b⟩,c⟩:=q;have m:∀k,k<n->gk p k<n:=λk M=>List.mem_range.mp (b.mem_iff.mp (by simp[gk,a,M]))
  exact(a,b,λi j L J=>by rw[h _ _ (m j J) (m i (Nat.lt_of_le_of_lt L J))];erw[c j J i (Nat.lt_succ_of_le L)])
 |.ask i j k,q=>by
  simp only[zM,be0,decide_eq_true_eq]at q;exact(q.1.1,q.1.2,by rw[h _ _ q.1.1 q.1.2];erw[zN h _ q.2])
theorem zO{p q}{i}(J:p i=false)(K:q i=true)(h:∀x,p x=true->q x=true):∀l:List Nat,l.countP p<=l.countP q/\(i∈l->l.countP p<l.countP q)
 |[]=>(nr0 _,λz=>by cases z)
 |x::r=>by
  obtain⟨a,b⟩:=zO J K h r;refine(?_,λm=>?_)
  .cases c:p x<;>cases d:q x<;>simp_all<;>lia
  .rcases mq0 m with rfl|m
   .simp[J,K];lia
   .have:=b m
    cases c:p x<;>cases d:q x<;>simp_all<;>lia
noncomputable def GW(a b c d i j:Nat):Bool:=decide ([a,b,c,d].getD i 0<[a,b,c,d].getD j 0)
def wW:∀n<5,∀a<5,∀b<5,∀c<5,∀d<5,zM (GW a b c d) n (kas_sort n)=true:=by decide +kernel
def Dc{lt}{n}(L:LtO lt)(O:n<5):Wt lt n (kas_sort n) λp=>p.size=n/\p.toList.Perm (List.range n)/\Up lt p n:=by
 let r:Nat->Nat:=λi=>(List.range n).countP λk=>lt k i
 have M:∀i,r i<5:=λi=>Nat.lt_of_le_of_lt List.countP_le_length (by simpa using O)
 refine zN (lt':=GW (r 0) (r 1) (r 2) (r 3)) (λi j N R=>?_) _ (wW n O _ (M 0) _ (M 1) _ (M 2) _ (M 3));have J:∀k,k<n->[r 0,r 1,r 2,r 3].getD k 0=r k:=λk U=>by
  match k,(by lia:k<4)with
  |0,_|1,_|2,_|3,_=>rfl
 rw[GW,J i N,J j R];cases h:lt i j with
 |true=>
  refine (dt0 ((zO (i:=i) (p:=λk=>lt k i) (q:=λk=>lt k j) (L.irr i) h (λx K=>?_) _).2 (List.mem_range.mpr N))).symm;cases c:lt x j with
  |true=>rfl
  |false=>rw[L.tr j x i c (L.as x i K)]at h;cases h
 |false=>
  refine (df0 (Nat.not_lt.mpr (List.countP_mono_left λx a K=>?_))).symm;cases c:lt x i with
  |true=>rfl
  |false=>rw[L.tr j i x h c]at K;cases K
end L2.Z
namespace L2.Z
open PySem PySem.W PySem.Calls PyProof.Rows
theorem Wt.kas{α}{lt}{n}{cmp}{s}(hc:∀i j,i<n->j<n->∀C:Bool->Shared->Prop,C (lt i j) s->cmp i j C s){Q}:∀{t:KasT α},Wt lt n t (λa=>Q a s)->t.kasWp cmp Q s
 |.ret _,h=>h
 |.ask i j _,⟨J,K,h⟩=>hc i j J K _ (Wt.kas hc h)
section
variable {prog:Program}{E:A0}
noncomputable abbrev byP(vs:A2)(p:List Nat):List Value:=p.map λi=>vs.getD i .none
def wX(vs):byP vs (List.range vs.length)=vs:=by
 apply List.ext_getElem @0
 intro i K J;simp[J]
def eZ(J:A8)(n:Nat)(p:List Nat):Prop:=p.Perm (List.range n)/\∀i j,i<=j->j<n->J (p.getD j 0) (p.getD i 0)=false
def kL{lt}(O:LtO lt){Y}{a}{vs}{n}{P}(W:s.heap.get? a=some (seqObj "list" vs.toArray n))(z:vs.length<5)
  (l:2<=vs.length->∀h',(∀b o,b≠a->s.heap.get? b=some o->h'.get? b=some o)->∀R:SortKind->Shared->Prop,R Y {s with heap:=h'}->wpAny (model prog w) A (keyKind' vs.toArray) R E {s with heap:=h'})
  (hc:∀h',(∀b o,b≠a->s.heap.get? b=some o->h'.get? b=some o)->∀i j,i<vs.length->j<vs.length->∀R:Bool->Shared->Prop,R (lt i j) {s with heap:=h'}->wpAny (model prog w) A (keyLt' Y (vs.getD i .none) (vs.getD j .none)) R (λc c=>False) {s with heap:=h'})
  (h:∀p,eZ lt vs.length p->P (.done (.ret .none)) {s with heap:=sortedHeap s.heap a vs (byP vs p).toArray}):
  wpAny @3 A (Builtin.«list.sort» ([.ref a],[])) P E s:=by
 rw[list_sort_plain];have D:=hs0 W;refine wb0 (listItems_at W rfl ?_);refine wb0 (listUpdate_at W rfl ?_ (by rw[ls0,sizeLine_eq];lia) (Nat.zero_le _));obtain⟨Z,M⟩:∃Z,(s.heap.update a (Obj.mapSeq λc=>#[])).get? a=some (seqObj "list" #[] Z):=(_,get?_update_seq W (λc=>#[]));refine wb0 (seqEpoch_at M rfl ?_);refine wb0 (wpAny_newTuple ?_ (by show vs.length<=_;rw[sizeLine_eq];lia));refine wb0 (wpAny_newList ?_ (Nat.zero_le _));refine wh0 ?_;have J:(((s.heap.update a (Obj.mapSeq λc=>#[])).push (seqObj "tuple" vs.toArray 0)).push (seqObj "list" #[] 0)).get? a=some (seqObj "list" #[] Z):=by
  rw[Heap.get?_push_ne _ _ _ (by rw[size_push',Heap.size_update];erw[nn0 (Nat.lt_succ_of_lt D)]),Heap.get?_push_ne _ _ _ (by rw[Heap.size_update];erw[nn0 D])];erw[M]
 have B:∀b o,b≠a->s.heap.get? b=some o->(((s.heap.update a (Obj.mapSeq λc=>#[])).push (seqObj "tuple" vs.toArray 0)).push (seqObj "list" #[] 0)).get? b=some o:=λb o u e=>by
  refine ps0 _ (ps0 _ ?_);rw[Heap.get?_update_ne _ _ _ _ u];erw[e]
 show wpAny @3 A _ P E {s with heap:=((s.heap.update a (Obj.mapSeq λc=>#[])).push (seqObj "tuple" vs.toArray 0)).push (seqObj "list" #[] 0)};dsimp only;have t:vs.toArray.size=vs.length:=by simp
 by_cases V:vs.toArray.size<2
 .rw[if_pos V,if_pos V]
  refine wb0 (wq0 ?_);rw[StateT.run_pure];refine wb0 (wq0 ?_);dsimp only;refine wb0 (seqEpoch_at J rfl ?_);refine wb0 (listUpdate_at J rfl ?_ (hsz2:=by rw[Array.size_map];show (pairsOf vs).size<=_;rw[pairsOf_size,sizeLine_eq];lia));simp only[bne_self_eq_false,Bool.false_eq_true,if_false];have q:=h (List.range vs.length) (.refl _,λi j a b=>by
   have:i=0:=by lia
   have:j=0:=by lia
   subst i j;erw[O.irr _])
  rw[wX]at q;refine wq0 ?_;have e:(arrOf (SortSt.mk' general' (vs.toArray.zip vs.toArray) #[] 7 none)).map (·.2)=vs.toArray:=by
   show (vs.toArray.zip vs.toArray).map (·.2)=_
   apply Array.toList_inj.mp;simp;erw[List.map_snd_zip (nr0 _)]
  show P _ {s with heap:=sortedHeap s.heap a vs ((arrOf (SortSt.mk' general' (vs.toArray.zip vs.toArray) #[] 7 none)).map (·.2))};rw[e];erw[q]
 .rw[if_neg V,if_neg V]
  have L:2<=vs.length:=by lia
  refine wb0 (l L _ B _ ?_);have ok:=(Dc O (n:=vs.length) @1);refine wb0 (wpAny_mono (kat_run (Q:=λK U=>U={s with heap:=((s.heap.update a (Obj.mapSeq λc=>#[])).push (seqObj "tuple" vs.toArray 0)).push (seqObj "list" #[] 0)}/\∃p:Array Nat,arrOf K=p.map (kas_item (vs.toArray.zip vs.toArray))/\failedOf K=none/\eZ lt vs.length p.toList/\p.size=vs.length)
   (G:=λp U=>U={s with heap:=((s.heap.update a (Obj.mapSeq λc=>#[])).push (seqObj "tuple" vs.toArray 0)).push (seqObj "list" #[] 0)}/\eZ lt vs.length p.toList) rfl L @1 (λp' K U S a2 I F=>(F.1,p',a2,I,F.2,S))
   (Wt.kas (λi j f v C q=>hc _ B i j f v C q) (ok.mono λp q=>(rfl,q.2.1,λi j x y=>by have:=q.2.2 i j x y;simpa [gk]using this)))) ?_ λc c e=>e)
  rintro ⟨⟨⟩,K⟩ U ⟨rfl,p,T,g,k,d⟩
  dsimp only;have N:=kat_snds (vs:=vs) rfl T;refine wb0 (seqEpoch_at J rfl ?_);rw[N];refine wb0 (listUpdate_at J rfl ?_ (hsz2:=by rw[ls0,lm0,al0,d,sizeLine_eq];lia));rw[g];simp only[bne_self_eq_false,Bool.false_eq_true,if_false];erw[wq0 (h p.toList k)]
def sN{M}(O:LtO M){Y}{l}{vs}{Q}(T:s.heap.IsList l vs.toArray)(N:vs.length<5)
  (Z:2<=vs.length->∀h',(∀b o,s.heap.get? b=some o->h'.get? b=some o)->∀R:SortKind->Shared->Prop,R Y {s with heap:=h'}->wpAny (model prog w) A.in1.in1 (keyKind' vs.toArray) R (λa a=>False) {s with heap:=h'})
  (hc:∀h',(∀b o,s.heap.get? b=some o->h'.get? b=some o)->∀i j,i<vs.length->j<vs.length->∀R:Bool->Shared->Prop,R (M i j) {s with heap:=h'}->wpAny (model prog w) A.in1.in1 (keyLt' Y (vs.getD i .none) (vs.getD j .none)) R (λa a=>False) {s with heap:=h'})
  (h:∀h' D n p,(∀b o,s.heap.get? b=some o->h'.get? b=some o)->h'.get? D=some (seqObj "list" (byP vs p).toArray n)->s.heap.objs.size<=D->eZ M vs.length p->Q (.ref D) {s with heap:=h'}):
  wpAny @3 A (call (.builtin "sorted") [.ref l]) Q E s:=by
 refine Calls.call_function_entry kind_sorted plain_sorted entry_sorted (args_sorted1 _) ?_;unfold Builtin.«sorted»;refine wb0 (m:=checkCount "sorted" 1 1 _) (wq0 ?_);refine wb0 (collect_list T ?_ (by rw[sizeLine_eq];lia));refine wb0 (wpAny_newList ?_ (by rw[sizeLine_eq];lia));have J:((s.heap.push (seqObj "list" #[] 0)).update s.heap.objs.size (Obj.mapSeq (·++vs.toArray))).objs.size=s.heap.objs.size+1:=by
  rw[Heap.size_update,size_push']
 have L:(((s.heap.push (seqObj "list" #[] 0)).update s.heap.objs.size (Obj.mapSeq (·++vs.toArray))).push (seqObj "list" vs.toArray 0)).get? (s.heap.objs.size+1)=some (seqObj "list" vs.toArray 0):=by
  rw[<-J];erw[pz0 _ rfl]
 have keep:∀b o,s.heap.get? b=some o->(((s.heap.push (seqObj "list" #[] 0)).update s.heap.objs.size (Obj.mapSeq (·++vs.toArray))).push (seqObj "list" vs.toArray 0)).get? b=some o:=λb o q=>by
  have K:=hs0 q;rw[Heap.get?_push_ne _ _ _ (by rw[J];erw[nn0 (Nat.lt_succ_of_lt K)]),Heap.get?_update_ne _ _ _ _ (nn0 K),Heap.get?_push_ne _ _ _ (nn0 K)];erw[q]
 show wpAny _ _ _ _ _ {s with heap:=((s.heap.push (seqObj "list" #[] 0)).update s.heap.objs.size (Obj.mapSeq (·++vs.toArray))).push (seqObj "list" vs.toArray 0)};rw[J];have U:∀{h':Heap},(∀b o,b≠s.heap.objs.size+1->(((s.heap.push (seqObj "list" #[] 0)).update s.heap.objs.size (Obj.mapSeq (·++vs.toArray))).push (seqObj "list" vs.toArray 0)).get? b=some o->h'.get? b=some o)->∀b o,s.heap.get? b=some o->h'.get? b=some o:=λkk b o q=>kk b o (nn0 (Nat.lt_succ_of_lt (hs0 q))) (keep b o q)
 refine wb0 (wh0 (wpAny_call_entry slot_list_sort (_,L,rfl) entry_list_sort (kL (Y:=Y) O (s:={s with heap:=((s.heap.push (seqObj "list" #[] 0)).update s.heap.objs.size (Obj.mapSeq (·++vs.toArray))).push (seqObj "list" vs.toArray 0)}) (A:=A.in1.in1) L N (λa2 h' kk R r=>wpAny_mono (Z a2 h' (U kk) R r) (λa a x=>x) λa a x=>x.elim) (λh' kk i j V W R r=>hc h' (U kk) i j V W R r) λp F=>(_,rfl,?_)) (args_list_sort _)));refine wq0 (_,rfl,?_);obtain⟨n,fin⟩:=sortedHeap_at (out:=(byP vs p).toArray) L;refine h _ (s.heap.objs.size+1) n p (λb o e=>?_) fin (Nat.le_succ _) F
 have M:=hs0 e;exact (sortedHeap_old (nn0 (Nat.lt_succ_of_lt M)) (by rw[size_push',J];erw[Nat.lt_succ_of_lt (Nat.lt_succ_of_lt M)])).trans (keep b o e)
end
end L2.Z
namespace L2.Z
open PySem PySem.W PySem.Calls PyProof.Rows SI PySem.MeetsSeq3
open AutoSeq1 (wpAny_loadPart')
def str_inj(h:x.cps.toList=y.cps.toList):x=y:=by cases x;cases y;congr 1;erw[Array.toList_inj.mp h]
def zP{x y}{p q}:ltL (x::p) (y::q)=if x=y then ltL p q else decide (x.cps.toList<y.cps.toList):=by
 unfold ltL
 by_cases e:x=y
 .subst e;rw[if_pos rfl];simp[List.cons_lt_cons_iff]
 .rw[if_neg e]
  have:x.cps.toList≠y.cps.toList:=λz=>e (str_inj z)
  simp[List.cons_lt_cons_iff,this]
section
variable {prog:Program}{E:A0}
def oj(f:Nat->List Str):LtO λi j=>ltL (f i) (f j):=by
 constructor
 .intro a b h
  simp only[ltL,decide_eq_true_eq,decide_eq_false_iff_not]at h ⊢;erw[Std.Asymm.asymm _ _ h]
 .intro a b c J K
  simp only[ltL,decide_eq_false_iff_not]at J K ⊢;erw[List.le_trans (J:_<=_) K]
def zQ{p q}(J:ltL p q=false)(K:ltL q p=false):p=q:=by
 unfold ltL at J K;have:=List.le_antisymm (of_decide_eq_false J:q.map (·.cps.toList)<=p.map _) (of_decide_eq_false K);exact ((List.map_inj_right λa a z=>str_inj z).mp this).symm
end
end L2.Z
namespace L2.Z
open PySem PySem.W PySem.Spec PySem.Calls PyProof.Rows L2 L2.C SI
theorem insB_perm{z}:∀l,(pJ z l).Perm (z::l)
 |[]=>.refl _
 |q::r=>by
  show (if ltL _ _ then z::q::r else q::pJ z r).Perm _;split
  .rfl
  .exact ((insB_perm r).cons q).trans (.swap z q r)
theorem iH:∀l:List (List Str×D),(pK l).Perm l
 |[]=>.refl _
 |p::r=>(insB_perm _).trans ((iH r).cons p)
theorem mv{z}:∀{l:List (List Str×D)},l.Pairwise (λa b=>ltL b.1 a.1=false)->(pJ z l).Pairwise (λa b=>ltL b.1 a.1=false)
 |[],_=>List.pairwise_singleton _ _
 |q::r,h=>by
  obtain⟨K,L⟩:=List.pairwise_cons.mp h;show (if ltL _ _ then z::q::r else q::pJ z r).Pairwise _;split
  .refine List.pairwise_cons.mpr (λy hy=>?_,h)
   have J:=(oj λi=>match i with|0=>z.1|_=>q.1).as 0 1 ‹_›;rcases mq0 hy with rfl|hy
   .erw[J]
   .exact (oj λi=>match i with|0=>z.1|1=>q.1|_=>y.1).tr 0 1 2 J (K y hy)
  .refine List.pairwise_cons.mpr (λy hy=>?_,mv L)
   rcases mq0 ((insB_perm r).mem_iff.mp hy)with rfl|hy
   .erw[bf0 ‹_›]
   .erw[K y hy]
theorem iI:∀l:List (List Str×D),(pK l).Pairwise (λa b=>ltL b.1 a.1=false)
 |[]=>.nil
 |p::r=>mv (iI r)
def map_getD(d:α)(l):(List.range l.length).map (λi=>l.getD i d)=l:=List.ext_getElem @0 λi K J=>by simp[List.getD,J]
def Dd{zs:List (List Str×D)}(O:(zs.map (·.1)).Nodup){a b}(K:a∈zs)(M:b∈zs)(h:a.1=b.1):a=b:=by
 induction zs with
 |nil=>cases K
 |cons z r ih=>
  obtain⟨L,N⟩:=List.nodup_cons.mp O;rcases mq0 K with e|ha'<;>rcases mq0 M with J|hb'
  .rw[e,J]
  .exact (L (List.mem_map.mpr (b,hb',by rw[<-h,e]))).elim
  .exact (L (List.mem_map.mpr (a,ha',by rw[h,J]))).elim
  .erw[ih N ha' hb']
noncomputable abbrev atZ(zs:List (List Str×D))(i:Nat):List Str×D:=zs.getD i ([],.none)
def qw{zs l}(O:(zs.map (·.1)).Nodup)(J:l.Perm zs)(R:l.Pairwise (λa b=>ltL b.1 a.1=false)):l=pK zs:=
 (J.trans (iH zs).symm).eq_of_pairwise (λa b M N K L=>Dd O (J.mem_iff.mp M) ((iH zs).mem_iff.mp N) (zQ L K)) R (iI zs)
theorem zR{K}{G}:∀{ds:List D}{vs:List V},Dps K G ds vs->∀J:List Nat,(∀i∈J,i<ds.length)->Dps K G (J.map λi=>ds.getD i .none) (J.map λi=>vs.getD i .non)
 |_,_,_,[],_=>.nil
 |ds,vs,r,i::J,h=>by
  have L:=h i ms0;refine .cons ?_ (zR r J λj M=>h j (mc0 _ M));obtain⟨v,e,d⟩:=r.get (ge0 L)
  simpa [List.getD,L,e]using d
theorem uA:∀{xs:List V}{us:A2},Vals xs us->∀J:List Nat,(∀i∈J,i<xs.length)->Vals (J.map λi=>xs.getD i .non) (byP us J)
 |_,_,_,[],_=>.nil
 |xs,us,r,i::J,h=>by
  have K:=h i ms0;refine .cons ?_ (uA r J λj L=>h j (mc0 _ L));obtain⟨u,e,d⟩:=r.get (ge0 K)
  simpa [List.getD,K,e]using d
section
variable {prog:Program}{E:A0}
def IsPn(h:Heap)(q:Str)(v:Value):Prop:=∃a o J n t u,v=.ref a/\h.get? a=some o/\o.cls=.type "tuple"/\o.data=.seq J n/\J=#[.str q t,u]
def zS{v}{Q}(h:Q true s):wpAny @3 A (eqBool v v) Q E s:=wh0 (wpAny_ite_split (λa=>wb0 (wpAny_rule (wq0 h))) λJ=>absurd (beq_self_eq_true v) J)
def uB{x y}:ltL [x] [y]=decide (x.cps.toList<y.cps.toList):=by
 rw[zP];split
 .subst_vars;exact (df0 (List.lt_irrefl _)).symm
 .rfl
def IsPn.keep{h h'}{q}{v}(k:∀b o,h.get? b=some o->h'.get? b=some o):IsPn h q v->IsPn h' q v:=by
 rintro ⟨a,o,M,n,t,u,J,K,L⟩
 exact(a,o,M,n,t,u,J,k a o K,L)
def JW{p q}{x y}{Q}(R:IsPn s.heap p x)(U:IsPn s.heap q y)(O:p=q->x=y)(h:Q (ltL [p] [q]) s):wpAny @3 A (keyLt' (tuples' true) x y) Q E s:=by
 rw[uB]at h;obtain⟨a,o,D,n,t,u,rfl,L,a2,M,rfl⟩:=R;obtain⟨b,F,B,T,V,W,rfl,J,Z,K,rfl⟩:=U;refine kat_lt L M J K ?_;show KatLex prog w A true _ Q [(.str p t,.str q V),(u,W)] 0 s;refine kat_cons (wpAny_eqBool_str ?_)
 by_cases e:p=q
 .rw[dt0 e]
  have N:=O e;subst e;cases N;rw[L]at J;cases J;rw[M]at K;cases K;refine kat_yes (kat_cons (zS (kat_yes (kat_nil ?_))));rw[df0 (List.lt_irrefl _)]at h;erw[h]
 .rw[df0 e]
  erw[kat_no (oneLt_str h)]
end
def De{prog}{w}{A}{E}{s}{R}:∀{vs:A2},0<vs.length->(∀v∈vs,∃q,IsPn s.heap q v)->R (tuples' true) s->wpAny @3 A (keyKind' vs.toArray) R E s:=by
 intro vs W L h;have:∀vs:List Value,(∀v∈vs,∃q,IsPn s.heap q v)->∃J,KatTups s.heap vs J/\J.length=vs.length/\∀v∈J,∃x t,v=.str x t:=by
  intro vs
  induction vs with
  |nil=>exact λb=>([],trivial,rfl,nofun)
  |cons v r ih=>
   intro L;obtain⟨J,M,O,N⟩:=ih λv K=>L v (mc0 _ K)
   obtain⟨q,a,o,Z,n,t,u,rfl,U,a2,V,rfl⟩:=L v ms0;exact(_::J,.cons U a2 V rfl M,by simp[O],λv K=>(mq0 K).elim (λe=>(q,t,e)) (N v))
 obtain⟨J,M,O,N⟩:=this vs L;refine kat_kind (T:=.type "str") M @6 (λv K=>?_) rfl h;obtain⟨x,t,rfl⟩:=N v K;exact .now
inductive PnV (H:Hp):List V->List Str->Prop
 |nil:PnV H [] []
 |cons {a:Addr}{x:Str}{y:V}{vs:List V}{ss:A1}:H a=some (.tup [.str x,y])->PnV H vs ss->PnV H (.ref a::vs) (x::ss)
def zT{H}{h}(ok:HOk X.prog X.w H h):∀{K:List V}{ss:A1}{us:A2},PnV H K ss->Vals K us->us.length=ss.length/\∀(i:Nat) u,us[i]?=some u->IsPn h (ss.getD i Str.empty) u:=by
 intro K ss us r
 induction r generalizing us with
 |nil=>intro z;cases z;exact(rfl,λi u e=>by simp at e)
 |@cons a _ _ _ _ e r ih=>
  intro z;cases z with
  |cons z J=>
  obtain⟨l,k⟩:=ih J;refine(by simp[l],λi u q=>?_);cases i with
  |succ i=>simpa using k i u (by simpa using q)
  |zero=>
   cases q;cases z;obtain⟨z,N,J,O,e,L,n,M⟩:=ok a _ e;cases J with
   |cons R J=>cases J with
    |cons U J=>
     cases J;obtain⟨t,rfl⟩:=R;exact(a,O,_,n,t,_,rfl,e,L,M,rfl)
section
variable {p:Pos}{d:D}{ls:List D}
def oq:bb X (.builtin "sorted") (λxs H Q=>∃(l:Addr)(M:List V)(ss:A1),xs=[.ref l]/\H l=some (.lst M)/\PnV H M ss/\ss.Nodup/\ss.length<5/\∀r L,H r=.none->eZ (λi j=>ltL [ss.getD i Str.empty] [ss.getD j Str.empty]) ss.length L->Q (.ref r) (upd H r (.lst (L.map λi=>M.getD i .non)))):=by
 intro B s o H xs U Q I r h;obtain⟨l,M,ss,rfl,S,P,z,t,k⟩:=h;obtain⟨u,rfl,q⟩:=vals1 r;cases q;obtain⟨U,Z,O,_⟩:=I.list (SqL.of S);obtain⟨T,K⟩:=zT I.hok P Z;have get:∀i,i<U.length->U[i]?=some (U.getD i .none):=λi J=>by simp[List.getD,J]
 refine sN (oj λi=>[ss.getD i Str.empty]) (Y:=tuples' true) O.isList (by omega) (λf N kk R r=>De (s:={s with heap:=N}) (by lia) (λv E=>?_) r) (λN kk i j J W R r=>JW (s:={s with heap:=N}) ((K i _ (get i J)).keep kk) ((K j _ (get j W)).keep kk) (λe=>?_) r) λN D n L kk C F io=>?_
 .obtain⟨i,J⟩:=List.getElem?_of_mem E
  exact(_,(K i v J).keep kk)
 .rw[T]at J W
  have:i=j:=(List.getElem_inj z).mp (by simpa [List.getD,J,W]using e);rw[this]
 .rw[T]at io
  have O:=io.1.length_eq;rw[lr0]at O;have g:M.length=ss.length:=by rw[Z.length,T]
  exact(.ref D,_,I.laid (t':=s.toks) kk F (show ObjOk X.prog X.w _ _ _ (.lst _)from(by rw[lm0,O,sizeLine_eq];lia,_,n,uA Z L (λi J=>by rw[g];erw[List.mem_range.mp (io.1.mem_iff.mp J)]),C)),rfl,k D L (I.hok.fresh F) io)
def uC{K}{G H}(s:Same G H):∀{ls:List D}{L:List V}{zs},jE ls=some zs->Dps K G ls L->∃ss:List Str,PnV H L ss/\zs.map (·.1)=ss.map (λx=>[x])/\zs.map (·.2)=ls:=by
 intro ls
 induction ls with
 |nil=>intro L zs h a;cases a;cases h;exact([],.nil,rfl,rfl)
 |cons d r ih=>
  intro L zs h a;cases a with
  |cons a b=>cases a with
   |tuple O J=>cases J with
    |nil=>cases h
    |cons M J=>cases M with
     |str=>cases J with
      |nil=>cases h
      |cons Z J=>cases J with
       |cons=>cases h
       |nil=>
        obtain⟨zs,N,rfl⟩:=mS h;obtain⟨ss,R,U,W⟩:=ih N b;exact(_,.cons (s _ _ O) R,by simp[U],by simp[W])
     |_=>cases h
   |_=>cases h
def sO(T:Blt X "sorted")(ha:Er X Y a (.list ls))(hd:BX (.list ls)=some d)(hs:isStar a=false):Ev X Y (.Call (.Name "sorted" p) [a] [] pos) d:=by
 obtain⟨J,o,h⟩:=bS (hd:(jE ls).bind _=some d);obtain⟨hz,D,rfl⟩:=(show J.length<5/\(J.map (·.1)).Nodup/\d=.list ((pK J).map (·.2)) by
   unfold BW at h;split at h
   .cases h;exact(‹_/\_›.1,‹_/\_›.2,rfl)
   .cases h)
 intro Z s σ H Q I t;obtain⟨z,f,G,E,k⟩:=t;refine cZ oq T.g T.m dP (pa_cons ha pa_nil (starEach_cons hs)) T.n T.d (starEach_cons hs) rfl Z s σ H Q I (z,f,G,E,λv u H1 U r1=>?_);obtain⟨q,ws,rfl,h2,S⟩:=r1.lst U.gh;obtain⟨ss,p1,B,P⟩:=uC U.gh o S;have sl:J.length=ss.length:=by simpa using congrArg List.length B
 have R:∀i,i<ss.length->(atZ J i).1=[ss.getD i Str.empty]:=λi L=>by
  have:=congrArg (·[i]?) B;simp[L,show i<J.length by lia]at this
  simpa [atZ,List.getD,L,show i<J.length by lia]using this
 refine(q,ws,ss,rfl,h2,p1,?_,by simp_all,λr2 M W io=>?_)
 .rw[B]at D
  exact (List.pairwise_map.mp D).imp λh e=>h (by rw[e])
 .have F:∀i∈M,i<ss.length:=λi L=>List.mem_range.mp (io.1.mem_iff.mp L)
  have O:eZ (λi j=>ltL (atZ J i).1 (atZ J j).1) J.length M:=by
   rw[sl];refine(io.1,λi j N V=>?_);have C:=io.1.length_eq;rw[lr0]at C;have m:∀i,i<ss.length->M.getD i 0<ss.length:=λi L=>F _ (by simp[List.getD,show i<M.length by simp_all])
   dsimp only;rw[R _ (m j V),R _ (m i (Nat.lt_of_le_of_lt ‹_› ‹_›))];erw[io.2 i j N V]
  have e:=(by
    have C:=O.1.length_eq;rw[lr0]at C;have pe:(M.map (atZ J)).Perm J:=by
     have:=O.1.map (atZ J)
     rwa [map_getD]at this
    refine qw D pe (List.pairwise_iff_getElem.mpr λi j L V N=>?_);rw[lm0]at L V;have:=O.2 i j (Nat.le_of_lt N) @6
    simpa [List.getD,L,V]using this)
  rw[<-e,List.map_map]at k;refine k _ _ _ (U.trans (.laid U.gh W)) (.list aa ((?_:Dps X.K u _ _).mono (aG (U.gh.free W))));have:=zR S M λi L=>by rw[<-P,lm0,sl];erw[F i L]
  rw[<-P]at this;have l:M.map ((λx=>x.2) ∘ atZ J)=M.map λi=>(J.map (·.2)).getD i .none:=List.map_congr_left λi L=>by
   have:=F i L;simp[atZ,List.getD,show i<J.length by lia]
  rw[l];erw[this]
end
end L2.Z
namespace PySem
open PyProof.Rows
section
variable {prog:Program}{E:A0}{Y:Type}[DecidableEq Y][Inhabited Y]{kd:KD prog w Y}
def uD:isSubtype (.type "set") (.type "set")=pure true:=rfl
def ou{a}{Q}(J:s.TypeIs (.ref a) "set")(h:Q true s):wpAny @3 A (Builtin.Frozenset.isAnySet (.ref a)) Q E s:=wb0 (wpAny_isInstance J uD (wq0 h))
def EJ{S}{xs}{ep}{Q}(M:StrSet kd s.heap S xs ep)(h:Q ep s):wpAny @3 A (setEpoch S) Q E s:=by
 obtain⟨o,O,t,J,N,K,L,_⟩:=M;erw[wpAny_setEpoch_of J K L h]
def zU{S}{xs}{ep}{Q}(T:StrSet kd s.heap S xs ep)(h:∀(J:List (Y×Tok)) d,J.Perm xs->Q (J.map kd.e).toArray {s with drawn:=d}):
  wpAny @3 A (setWalk S) Q E s:=by
 obtain⟨o,K,t,U,D,V,W,M,Z,C⟩:=T;unfold setWalk;refine wb0 (wpAny_setState_of U V W (wb0 (asks ?_)));have O:∀J:List (Y×Tok),∀a:Array (Int×Value),a.toList=J.map kd.e->a=(J.map kd.e).toArray:=λJ a e=>by rw[<-e]
 cases F:byTx w with
 |true=>
  obtain⟨J,N,L⟩:=bh (mf (w.params.setOrder S ep) K) xs M;refine wb0 (wpAny_askSetting (wq0 ?_));have:=h J s.drawn N;rw[<-O _ _ L]at this;erw[this]
 |false=>
  by_cases R:(!t.plain&&decide (K.size>1))=true
  .show wpAny _ _ (if (!t.plain&&decide (K.size>1))=true then _ else _) Q E s
   rw[if_pos R];refine wb0 (mh _ _ _ _ (rfl) λP d B=>wq0 ?_);obtain⟨J,N,L⟩:=bh B xs M;rw[L];erw[h J d N]
  .show wpAny _ _ (if (!t.plain&&decide (K.size>1))=true then _ else _) Q E s
   rw[if_neg R];refine wb0 (m:=if (!t.led&&decide (K.size>1))=true then unsupported "set:maker-not-led" else pure ()) ?_;rw[Z,F];refine wq0 (wq0 ?_);rw[O _ _ M];erw[h xs s.drawn (.refl _)]
def ki{b}{f}{Q}:∀l:List α,(∀a∈l,∀P:ForInStep β->Shared->Prop,P (.yield b) s->wpAny @3 A (f a b) P E s)->Q b s->wpAny @3 A (forIn l b f) Q E s:=by
 intro l J h
 induction l with
 |nil=>exact wq0 h
 |cons a l ih=>
  rw[List.forIn_cons];erw[wb0 (J a ms0 _ (ih λa m=>J a (mc0 _ m)))]
set_option tactic.hygienic true in
def zV(R:∀k t a,kd.vl k t≠.ref a){Q}{l}(O:∀q∈l,∃xs ep,StrSet kd s.heap q xs ep)(h:Q true s):wpAny @3 A (setsQuiet l) Q E s:=by
 refine wb0 (ki l (λa m P q=>?_) (wq0 h));obtain⟨xs,ep,o,U,t,J,N,K,L,M,_⟩:=O a m;refine wb0 (wpAny_setEntries_of J K L (wb0 ?_));rw[<-Array.forIn_toList,M];refine ki _ (λp m P q=>?_) (wq0 q);obtain⟨⟨x,V⟩,_,rfl⟩:=mm0 m;have z:=R x V;dsimp only;revert z;generalize kd.vl x V=v;intro z;cases v with
 |ref=>exact absurd rfl (z _)
 |_=>exact wq0 q
def Df{S r}{xs ys}{ep er}{os}{Q}(j:∀k t a,kd.vl k t≠.ref a)(M:StrSet kd s.heap S xs ep)(L:StrSet kd s.heap r ys er)(hz:ys.length<4000)(I:∀q∈os,∃xs ep,StrSet kd s.heap q xs ep)
  (h:∀(J:List (Y×Tok)) h' er' d,J.Perm xs->Heap.SameBut r s.heap h'->StrSet kd h' r ys er'->Q (J.map kd.e).toArray {s with heap:=h',drawn:=d}):
  wpAny @3 A (setWalkUnseen S os (some r)) Q E s:=by
 have p:wpAny @3 A (setWalk S) Q E s:=zU M λJ d u=>h J s.heap er d u (Heap.SameBut.refl _ _) L
 obtain⟨o,Z,t,T,P,F,D,B,C,h6⟩:=id M;unfold setWalkUnseen;refine wb0 (wpAny_setState_of T F D (wb0 (asks ?_)));dsimp only;split
 .erw[p]
 refine wb0 (zV j (λq m=>(mq0 m).elim (λe=>e▸(_,_,M)) (I q)) ?_);rw[if_neg @0];refine wb0 (wpAny_rule ?_);obtain⟨oR,U,l,O,v,R,V,W,g,f⟩:=id L;refine wb0 (wpAny_setState_of O R V ?_);have K:Z=(xs.map kd.e).toArray:=by rw[<-B]
 dsimp only;split
 .have N:U.size=ys.length:=by rw[<-al0,W,lm0]
  refine wb0 (wpAny_storeSet_of (prog:=prog) (w:=w) O R (wq0 ?_) (by rw[N,sizeLine_eq];grind));rw[K];refine h xs _ (er+1) s.drawn (.refl _) (Heap.SameBut.update s.heap r _) (_,U,_,dJ O R,v,rfl,?_,W,?_,λz=>?_)
  .erw[V]
  .show (l.led&&t.led)=_
   rw[g,C,Bool.and_self]
  .have z:=z
   rw[be0]at z;erw[f z.1]
 .refine wq0 ?_
  rw[K];erw[h xs s.heap er s.drawn (.refl _) (Heap.SameBut.refl _ _) L]
def Dg{Q}(h:StrSet kd (s.heap.push (aq w)) s.heap.objs.size [] 0->Q (.ref s.heap.objs.size) {s with heap:=s.heap.push (aq w)}):wpAny (model prog w) A (newSet (.type "set")) Q E s:=by
 unfold newSet;refine wb0 (asks ?_);simp only[newObj];erw[wb0 (wpAny_alloc (wq0 (h (aq w,#[],.fresh 0 0 (!byTx w),pz0 _ rfl,(rfl,rfl,rfl),rfl,rfl,rfl,rfl,λa=>rfl))))]
end
end PySem
namespace L2.Z
open PySem PySem.Spec PyProof.Rows L2 L2.C SI
end L2.Z
namespace PySem
open SetTable
noncomputable def itL(m:Nat):Nat->Nat->Nat
 |0,i=>i
 |t+1,i=>itL m t ((i*5+1) % (m+1))
def Mk(m:Nat):Prop:=m=7\/m=15\/m=31
def Mk.all{m}(h:Mk m):∀i,i<m+1->∀j,j<m+1->∃t,t<m+1/\itL m t i=j:=by
 rcases h with rfl|rfl|rfl<;>decide +kernel
set_option tactic.hygienic true
theorem uE{m:Nat}{K:Array (Option Nat)}:∀(n i p:Nat),p<32->(∃t,t<n/\K.getD (itL m t i) (some 0)=none)->∃j,layClean.free m K n i p=some j/\K.getD j (some 0)=none
 |0,_,_,_,⟨_,z,_⟩=>absurd z (Nat.not_lt_zero _)
 |n+1,i,p,M,⟨t,N,e⟩=>by
  unfold layClean.free;split
  .rename_i k q
   exact(_,rfl,by simpa using List.find?_some q)
  .rename_i q
   have L:=List.find?_eq_none.mp q 0 (List.mem_range.mpr (by unfold runEnd;split<;>lia));have J:p / 32=0:=by lia
   simp only[leap,J,Nat.add_zero];cases t with
   |zero=>exact absurd (by simpa [itL]using e) (by simpa using L)
   |succ t=>exact uE n _ 0 @2 (t,by lia,e)
theorem qx{m:Nat}{L:Array (Option Nat)}(N:Mk m)(ex:∃j,j<m+1/\L.getD j (some 0)=none):∀(b n i p:Nat),i<m+1->p<32 ^ b->b+m<n->∃j,layClean.free m L n i p=some j/\L.getD j (some 0)=none
 |0,n,i,p,M,K,J=>by
  obtain⟨V,U,O⟩:=ex;obtain⟨t,W,R⟩:=N.all i M V U;erw[uE n i p (by rw[Nat.pow_zero]at K;lia) (t,by lia,by rw[R];exact O)]
 |b+1,0,_,_,_,_,J=>absurd J (Nat.not_lt_zero _)
 |b+1,n+1,i,p,M,K,J=>by
  unfold layClean.free;split
  .rename_i k q
   exact(_,rfl,by simpa using List.find?_some q)
  .erw[qx N ex b n _ (p / 32) (Nat.mod_lt _ (Nat.succ_pos _)) (Nat.div_lt_of_lt_mul (by rw[Nat.mul_comm,<-Nat.pow_succ];exact K)) @1]
set_option tactic.hygienic false
def Dh(x:Int):bits x<32 ^ 13:=by
 unfold bits
 lia
noncomputable abbrev EK(m:Nat)(J:Array (Option Nat)):List (Nat×Nat):=(List.range (m+1)).filterMap λj=>(J.getD j none).map (Prod.mk j ·)
structure LayOk(m:Nat)(ow:Array (Option Nat))(k:Nat):Prop where
 sz:ow.size=m+1
 pm:((EK m ow).map (·.2)).Perm (List.range k)
def LayOk.step{m k:Nat}{J:Array (Option Nat)}(F:Mk m)(h:LayOk m J k)(C:k<=m)(x:Int):∃j,layClean.free m J (turns m) (bits x % (m+1)) (bits x)=some j/\LayOk m (J.setIfInBounds j (some k)) (k+1):=by
 obtain⟨N,L⟩:=h;have ex:∃j,j<m+1/\J.getD j (some 0)=none:=by
  refine Classical.byContradiction λz=>?_
  have O:∀j∈List.range (m+1),((J.getD j none).map (Prod.mk j ·)).isSome=true:=λj K=>by
   have K:=List.mem_range.mp K;cases q:J.getD j none with
   |some v=>rfl
   |none=>exact (z (j,K,by simpa [Array.getD,N,K]using q)).elim
  have:(EK m J).length=m+1:=by
   have:∀l:List Nat,(∀j∈l,((J.getD j none).map (Prod.mk j ·)).isSome=true)->(l.filterMap λj=>(J.getD j none).map (Prod.mk j ·)).length=l.length:=by
    intro l
    induction l with
    |nil=>intro _;rfl
    |cons a r ih=>
     intro h;obtain⟨v,e⟩:=is0 (h a ms0);rw[List.filterMap_cons,e];simp only[lc0];rw[ih λj K=>h j (mc0 _ K)]
   rw[this _ O,lr0]
  have:=L.length_eq;rw[lm0,lr0]at this
  grind
 obtain⟨j,V,R⟩:=qx F ex 13 (turns m) (bits x % (m+1)) (bits x) (Nat.mod_lt _ (Nat.succ_pos _)) (Dh x) (by unfold turns;grind);refine(j,V,by simp[N],?_);have K:j<m+1:=by
  rcases Nat.lt_or_ge j (m+1)with z|z
  .erw[z]
  .simp[Array.getD,N,Nat.not_lt.mpr z]at R
 have W:J.getD j none=none:=by simpa [Array.getD,N,K]using R
 obtain⟨A,B,e⟩:=List.append_of_mem (List.mem_range.mpr K);have M:=List.nodup_range (n:=m+1);rw[e]at M;have M:=List.nodup_append.mp M;have same:∀l:List Nat,j∉l->(l.filterMap λi=>((J.setIfInBounds j (some k)).getD i none).map (Prod.mk i ·))=l.filterMap λi=>(J.getD i none).map (Prod.mk i ·):=λl U=>by
  induction l with
  |nil=>rfl
  |cons i r ih=>
   have D:j≠i:=λz=>U (z▸ms0)
   rw[List.filterMap_cons,List.filterMap_cons,ih λz=>U (mc0 _ z)];simp[Array.getD_eq_getD_getElem?,Array.getElem?_setIfInBounds,D]
 have Z:j∉A:=λz=>M.2.2 j z j ms0 rfl
 have T:j∉B:=(List.nodup_cons.mp M.2.1).1;have new:(J.setIfInBounds j (some k)).getD j none=some k:=by simp[Array.getD_eq_getD_getElem?,Array.getElem?_setIfInBounds,N,K]
 show (((List.range (m+1)).filterMap _).map _).Perm _;have L:(((List.range (m+1)).filterMap λi=>(J.getD i none).map (Prod.mk i ·)).map (·.2)).Perm (List.range k):=L;rw[e,List.filterMap_append,List.filterMap_cons,W]at L;rw[e,List.filterMap_append,List.filterMap_cons,new,same A Z,same B T,List.range_succ];simp only[Option.map_none,mo0,List.map_append,mk0]at L ⊢;erw[List.perm_middle.trans ((List.Perm.cons _ L).trans (List.perm_append_singleton _ _).symm)]
theorem gi{m:Nat}(M:Mk m):∀(hs:List Int)(K:Array (Option Nat))(k:Nat),LayOk m K k->k+hs.length<=m+1->
  ∃J,hs.foldl (λacc h=>do
   let (owner,k) ←acc
   let j ←layClean.free m owner (turns m) (bits h % (m+1)) (bits h)
   pure (Prod.mk (owner.setIfInBounds j (some k)) (k+1))) (some (Prod.mk K k))=some (Prod.mk J (k+hs.length))/\LayOk m J (k+hs.length)
 |[],K,k,h,_=>(K,rfl,h)
 |x::r,K,k,h,L=>by
  have L:k+(r.length+1)<=m+1:=L;obtain⟨j,O,N⟩:=h.step M @1 x;obtain⟨J,a,b⟩:=gi M r _ _ N @1<;>grind
def qy{m f v:Nat}{l p:Bool}{hs:Array Int}(K:Mk m)(hz:hs.size<=m+1):
  ∃t J,laid m f v l p hs=some (Prod.mk t J)/\J.toList.Perm (List.range hs.size)/\t.mask=m/\t.place.size=hs.size/\t.led=l/\t.plain=p:=by
 obtain⟨L,a,b⟩:=gi K hs.toList (Array.replicate (m+1) none) 0 (by simp,by
  simp_all) (by simp_all)
 rw[Nat.zero_add,al0]at a b;have e:layClean m hs=some L:=by
  unfold layClean;rw[<-Array.foldl_toList,a];rfl
 refine(_,_,by unfold laid;rw[e];rfl,b.pm,rfl,?_,rfl,rfl);have:=b.pm.length_eq;rw[lm0,lr0]at this;rw[<-this,ls0,lm0]
end PySem
namespace PySem
open PyProof.Rows
def kj{es:Array (Int×Value)}{J:Array Nat}(h:J.toList.Perm (List.range es.size)):(J.filterMap (es[·]?)).toList.Perm es.toList:=by
 rw[Array.toList_filterMap];refine (h.filterMap _).trans ?_;have:=by
  have:∀l:List (Int×Value),(List.range l.length).filterMap (l[·]?)=l:=by
   intro l
   induction l with
   |nil=>rfl
   |cons a r ih=>
    rw[lc0,List.range_succ_eq_map,List.filterMap_cons,List.filterMap_map];simp only[List.getElem?_cons_zero,List.cons.injEq,true_and];erw[ih]
  simpa using (this es.toList)
 rw[this]
def qz:∀n,n<32->SetTable.sizeAbove n<=64/\Mk (SetTable.sizeAbove n-1)/\n<SetTable.sizeAbove n:=by
 unfold Mk;decide +kernel
section
variable {prog:Program}{E:A0}{Y:Type}[DecidableEq Y][Inhabited Y]{kd:KD prog w Y}
def qA{xs}{es:Array (Int×Value)}{t:SetTable}{m f v}{l p}(D:Mk m)(hz:xs.length<=m)(U:es.toList=xs.map kd.e)(B:p=true->xs.length=0):
  ∃(t':SetTable)(J:Array Nat)(K:List (Y×Tok)),SetTable.laid m f v l p (es.map (·.1))=some (t',J)/\(J.filterMap (es[·]?)).size=es.size/\K.Perm xs/\(J.filterMap (es[·]?)).toList=K.map kd.e/\t'.fits (J.filterMap (es[·]?)).size=true/\t'.led=l/\JU t' K.length/\t'.mask=m/\t'.fill=xs.length:=by
 have L:es.size=xs.length:=by rw[<-al0,U,lm0]
 obtain⟨t',J,N,O,W,R,Z,T⟩:=qy (f:=f) (v:=v) (l:=l) (p:=p) (hs:=es.map (·.1)) D @4;rw[Array.size_map]at O R;have op:=kj (es:=es) O;have M:(J.filterMap (es[·]?)).size=es.size:=by rw[<-al0,op.length_eq,al0]
 obtain⟨K,V,F⟩:=bh op _ U;have fl:t'.fill=xs.length:=by unfold SetTable.fill;rw[R,(ql N),L];rfl
 refine(t',J,K,N,M,V,F,?_,Z,λz=>by rw[V.length_eq];erw[B (T▸z)],W,fl);unfold SetTable.fits
 simp_all
def wY{r}{ys}{er n}{Q:A7}(S:StrSet kd s.heap r ys er)(P:n<32)(hz:ys.length<=n)
  (h:∀h' zs O,Heap.SameBut r s.heap h'->zs.Perm ys->StrSet kd h' r zs O->Q () {s with heap:=h'}):wpAny (model prog w) A (setRelay r n) Q E s:=by
 obtain⟨o,J,t,L,a2,M,Z,V,T,F⟩:=S;have R:J.size=ys.length:=by rw[<-al0,V,lm0]
 obtain⟨q,D,u⟩:=qz n P;obtain⟨W,U,zs,N,K,z,B,C,I,j,_⟩:=qA (kd:=kd) (t:=t) (f:=t.finger) (v:=t.movedTo (SetTable.sizeAbove n-1)) (l:=t.led) (p:=t.plain) D @4 V F;unfold setRelay;refine wb0 (wpAny_setState_of L M Z ?_);dsimp only;rw[if_neg (by rw[sizeLine_eq];grind)];have N:SetTable.relaid t (J.map (·.1)) n=some (Prod.mk W U):=N;rw[N];refine wb0 (?_:wpAny _ _ (if ((U.filterMap (J[·]?)).size != J.size)=true then _ else pure (Prod.mk (U.filterMap (J[·]?)) W)) _ _ _);rw[if_neg (by rw[K];simp)];erw[wq0 (wpAny_storeSet_of (prog:=prog) (w:=w) L M (h _ zs (er+1) (Heap.SameBut.update s.heap r _) z (_,_,_,dJ L M,a2,rfl,C,B,I.trans T,j)) (by rw[K,R,sizeLine_eq];grind))]
def qB{r}{ys}{er n}{Q:A7}(L:StrSet kd s.heap r ys er)(hz:ys.length+n<16)
  (h:∀h' zs K,Heap.SameBut r s.heap h'->zs.Perm ys->StrSet kd h' r zs K->Q () {s with heap:=h'}):wpAny (model prog w) A (setRoomFor r n) Q E s:=by
 obtain⟨o,M,t,N,a2,O,J,R,V,W⟩:=id L;have U:M.size=ys.length:=by rw[<-al0,R,lm0]
 have Z:t.place.size=M.size:=by
  unfold SetTable.fits at J;rw[be0,beq_iff_eq]at J;erw[J.1]
 unfold setRoomFor;refine wb0 (wpAny_setState_of N O J ?_);dsimp only;unfold SetTable.roomFor
 by_cases c:(t.fill+n)*5≥t.mask*3
 .rw[if_pos c]
  erw[wY L @4 @4 h]
 .rw[if_neg c]
  erw[wq0 (h s.heap ys er (Heap.SameBut.refl _ _) (.refl _) L)]
def iJ{S:Addr}{ep}{each}{Q:A7}(N:StrSet kd s.heap S [] ep)(h:Q () s):wpAny @3 A (setMerge r S each) Q E s:=by
 obtain⟨o,U,t,J,a2,K,L,M,O,R⟩:=N;unfold setMerge;split
 .erw[wq0 h]
 refine wb0 (wpAny_setState_of J K L ?_);dsimp only;rw[if_pos (by rw[Array.isEmpty_iff];erw[Array.toList_eq_nil_iff.mp M])];erw[wq0 h]
noncomputable def mw{S:Addr}{xs}{ep}{each}{Q:A7}(T:s.heap.get? r=some (aq w))(ne:r≠S)(hS:StrSet kd s.heap S xs ep)(h1:xs≠[])(hz:xs.length<16)
  (h:∀h' ys er,Heap.SameBut r s.heap h'->ys.Perm xs->StrSet kd h' r ys er->Q () {s with heap:=h'}):wpAny (model prog w) A (setMerge r S each) Q E s:=by
 obtain⟨o,es,t,a1,a2,a3,u,P,a6,g⟩:=hS;have N:es.size=xs.length:=by rw[<-al0,P,lm0]
 unfold setMerge;rw[if_neg (by simpa using ne)];refine wb0 (wpAny_setState_of a1 a3 u ?_);dsimp only;have e0:es.isEmpty=false:=by
  rw[Array.isEmpty_eq_false_iff];intro z;rw[z]at N;erw[h1 (ez0 N.symm)]
 rw[if_neg (by rw[e0];erw[fx0])];have go:∀(J:SetTable)(M:Array (Int×Value))(er:Nat)(R:Heap)(B:Obj),Heap.SameBut r s.heap R->Mk J.mask->xs.length<=J.mask->J.fits M.size=true->J.fill=0->J.led=(!byTx w)->J.plain=true->R.get? r=some B->B.ExactSet->B.data=.set M er J->wpAny @3 A (do
   let (_,_,L) ←setState r
   match L.road t with
   |.slotForSlot=>storeSet r es {t with finger:=L.finger,led:=L.led&&t.led,moves:=L.moves,plain:=L.plain&&t.plain}
   |.clean=>
    let (es,t) ←(do
     let some (Prod.mk t O):=SetTable.laid L.mask L.finger L.moves (led:=L.led&&t.led) (plain:=L.plain&&t.plain) (es.map (·.1))|unsupported "internal:set-table-without-room"
     let V:=O.filterMap (es[·]?)
     if V.size != es.size then unsupported "internal:set-table-lost-an-element"
     pure (Prod.mk V t))
    storeSet r es t
   |.oneByOne=>
    for (h,x) in ←setWalkUnseen S [r] (some r) do
     let _ ←holding [x] (setAddHashed r x h)
     each
     if (<-setState S).2.1 != ep then unsupported "set.changed-during-merge") Q E {s with heap:=R}:=by
  intro J M er R B k1 hm j ft fl ld pn W e Z;refine wb0 (wpAny_setState_of W Z ft ?_);dsimp only;have line:es.size<=sizeLine:=by rw[N,sizeLine_eq];lia
  have led:(J.led&&t.led)=!byTx w:=by rw[ld,a6,Bool.and_self]
  unfold SetTable.road;rw[if_neg (by rw[fl];simp)]
  by_cases c:(J.mask==t.mask&&t.dummies.isEmpty)=true
  .rw[if_pos c]
   dsimp only;refine wpAny_storeSet_of (prog:=prog) (w:=w) W Z (h _ xs (er+1) (k1.trans (Heap.SameBut.update R r _)) (.refl _) (_,es,_,dJ W Z,e,rfl,u,P,led,λz=>g (by simpa [pn]using z))) line
  .rw[if_neg c]
   dsimp only;obtain⟨C,F,zs,U,K,py,ey,I,q,pl,_⟩:=qA (kd:=kd) (t:=t) (f:=J.finger) (v:=J.moves) (l:=J.led&&t.led) (p:=J.plain&&t.plain) hm j P (λz=>g (by rw[be0]at z;erw[z.2]));rw[U];dsimp only;rw[if_neg (by rw[K];simp)];erw[wb0 (wq0 (wpAny_storeSet_of (prog:=prog) (w:=w) W Z (h _ zs (er+1) (k1.trans (Heap.SameBut.update R r _)) py (_,_,_,dJ W Z,e,rfl,I,ey,q.trans led,pl)) (by rw[K];exact line)))]
 unfold setRoomFor;refine wb0 (wb0 (wpAny_setState_of (es:=#[]) (ep:=0) (t:=.fresh 0 0 (!byTx w)) T rfl rfl ?_));dsimp only[SetTable.roomFor,SetTable.fresh,SetTable.fill];simp only[ls0,List.length_nil,Nat.zero_add]
 by_cases c:es.size*5≥7*3
 .rw[if_pos c]
  dsimp only;obtain⟨b1,k,b4⟩:=qz (es.size*2) @1;unfold setRelay;refine wb0 (wpAny_setState_of (es:=#[]) (ep:=0) (t:=.fresh 0 0 (!byTx w)) T rfl rfl ?_);dsimp only;rw[if_neg (by rw[sizeLine_eq];lia)];obtain⟨C,F,U,e2,d,D,e5,e6⟩:=qy (f:=0) (v:=SetTable.movedTo (.fresh 0 0 (!byTx w)) (SetTable.sizeAbove (es.size*2)-1)) (l:=!byTx w) (p:=true) (hs:=#[]) k (Nat.zero_le _);have ri:=ql U;have U:SetTable.relaid (.fresh 0 0 (!byTx w)) (Array.map (λx:Int×Value=>x.fst) #[]) (es.size*2)=some (Prod.mk C F):=by rw[Array.map_empty];erw[U]
  rw[U];have K:(F.filterMap ((#[]:Array (Int×Value))[·]?)).size=0:=by
   have:=(kj (es:=#[]) e2).length_eq
   rwa [al0]at this
  refine wb0 (?_:wpAny _ _ (if ((F.filterMap ((#[]:Array (Int×Value))[·]?)).size != (#[]:Array (Int×Value)).size)=true then _ else pure (Prod.mk (F.filterMap ((#[]:Array (Int×Value))[·]?)) C)) _ _ _);rw[if_neg (by rw[K];simp)];refine wq0 (wpAny_storeSet_of (prog:=prog) (w:=w) T rfl ?_ (by rw[K];erw[Nat.zero_le _]));have D:=D;refine go C _ 1 _ _ (Heap.SameBut.update _ r _) (d▸k) (by rw[d];lia) ?_ ?_ e5 e6 (dJ T rfl) (rfl,rfl,rfl) rfl
  .unfold SetTable.fits SetTable.fill
   rw[K,D,ri];simp
  .unfold SetTable.fill
   rw[D,ri];rfl
 .rw[if_neg c]
  dsimp only;erw[wq0 (go (.fresh 0 0 (!byTx w)) #[] 0 _ _ (Heap.SameBut.refl _ _) (.inl rfl) (by lia:xs.length<=7) rfl rfl rfl rfl T (rfl,rfl,rfl) rfl)]
theorem uF{S:Addr}{xs}{ep}{nm}{Q}(D:S≠r):∀(l J:List (Y×Tok))(er:Nat)(s:Shared),J.length+l.length<4000->(J.map (·.1)).Nodup->StrSet kd s.heap S xs ep->StrSet kd s.heap r J er->
  (∀h' zs K,Heap.SameBut r s.heap h'->StrSet kd h' r zs K->(zs.map (·.1)).Nodup->(∀y,y∈zs.map (·.1)↔y∈J.map (·.1)\/y∈l.map (·.1))->zs.length<=J.length+l.length->Q ⟨⟩ {s with heap:=h'})->
  wpAny @3 A (forIn (l.map kd.e) PUnit.unit λx a=>match x with
   |(h,x)=>do
    let _ ←holding [x] (setAddHashed r x h)
    Builtin.Frozenset.unchanged nm S ep
    if (<-setState S).2.1 != ep then do
     (unsupported "set.changed-during-merge":Sem PUnit)
     pure (.yield PUnit.unit)
    else pure (.yield PUnit.unit)) Q E s
 |[],J,er,s,U,V,F,R,h=>wq0 (h s.heap J er (Heap.SameBut.refl _ _) R V (λy=>by simp) (nr0 _))
 |p::l,J,er,s,U,V,F,R,h=>by
  have U:=U;rw[mk0,List.forIn_cons];refine wb0 (wb0 (wh0 (GU (x:=p.1) (tk:=p.2) R @4 λT z C b M B j=>?_)));have L:=F.keep λo e=>(M.2 _ D).trans e
  unfold Builtin.Frozenset.unchanged;refine wb0 (wb0 (EJ L ?_));rw[if_neg @0];refine wq0 ?_;obtain⟨o,f,t,N,a2,O,Z,q,u,g⟩:=id L;refine wb0 (wpAny_setState_of (s:={s with heap:=T}) N O Z ?_);rw[if_neg @0];refine wq0 ?_;obtain⟨I,m1,v⟩:=iE V j;refine uF D l z C {s with heap:=T} (by grind) I L B λP zs K W N a2 O Z=>h P zs K (M.trans W) N a2 (λy=>(O y).trans ?_) (by rw[lc0];grind)
  rw[m1 y,mk0,List.mem_cons,or_assoc]
def sP{S:Addr}{xs ys}{ep er}{nm}{Q:A7}(hr:∀k t a,kd.vl k t≠.ref a)(Z:r≠S)(j:StrSet kd s.heap S xs ep)(hR:StrSet kd s.heap r ys er)(h1:xs≠[])(h2:ys≠[])(nd:(ys.map (·.1)).Nodup)(hz:ys.length+xs.length<16)
  (h:∀h' d zs N,Heap.SameBut r s.heap h'->StrSet kd h' r zs N->(zs.map (·.1)).Nodup->(∀y,y∈zs.map (·.1)↔y∈ys.map (·.1)\/y∈xs.map (·.1))->zs.length<=ys.length+xs.length->Q () {s with heap:=h',drawn:=d}):wpAny (model prog w) A (setMerge r S (Builtin.Frozenset.unchanged nm S ep)) Q E s:=by
 obtain⟨o,I,t,f,a2,v,l,p,a6,a7⟩:=id j;have K:I.size=xs.length:=by rw[<-al0,p,lm0]
 unfold setMerge;rw[if_neg (by simpa using Z)];refine wb0 (wpAny_setState_of f v l ?_);dsimp only;have e0:I.isEmpty=false:=by
  rw[Array.isEmpty_eq_false_iff];intro z;rw[z]at K;erw[h1 (ez0 K.symm)]
 rw[if_neg (by rw[e0];erw[fx0]),K];refine wb0 (qB hR hz λh' zs N u M J=>?_);obtain⟨o',O,g,b1,b2,b3,W,b5,b6,b7⟩:=id J;have U:O.size=zs.length:=by rw[<-al0,b5,lm0]
 refine wb0 (wpAny_setState_of (s:={s with heap:=h'}) b1 b3 W ?_);dsimp only;have fi:g.place.size=O.size:=by
  unfold SetTable.fits at W;rw[be0,beq_iff_eq]at W;erw[W.1]
 have fl:(g.fill != 0)=true:=by
  rw[bne_iff_ne];unfold SetTable.fill;rw[fi,U,M.length_eq];intro z;erw[h2 (ez0 @6)]
 unfold SetTable.road;rw[if_pos fl];dsimp only;have R:=j.keep λo e=>(u.2 _ Z.symm).trans e
 refine wb0 (Df (s:={s with heap:=h'}) hr R J (by rw[M.length_eq];grind) (λq m=>by rw[List.mem_singleton]at m;rw[m];exact(_,_,J)) λL h3 T d B V D=>?_);rw[<-Array.forIn_toList];refine wb0 (uF (kd:=kd) (nm:=nm) Z.symm L zs T {s with heap:=h3,drawn:=d} (by rw[B.length_eq,M.length_eq];grind) ((M.map _).nodup_iff.mpr nd) (R.keep λo e=>(V.2 _ Z.symm).trans e) D λh4 us F C c1 c2 c3 P=>wq0 (h h4 d us F (u.trans (V.trans C)) c1 c2 (λy=>(c3 y).trans ?_) (by rw[B.length_eq,M.length_eq]at P;erw[P])));rw[(B.map _).mem_iff,(M.map _).mem_iff]
def ox:entryFor table "set.__or__"=some Builtin.«frozenset.__or__»:=by refine entryFor_alias (id':="frozenset.__or__") ?_ rfl ?_ ?_<;>first|kernel_rfl|rfl
def Di{S T}{xs ys}{ep eq}{Q}(hr:∀k t a,kd.vl k t≠.ref a)(j:S≠T)(U:StrSet kd s.heap S xs ep)(M:StrSet kd s.heap T ys eq)(nx:(xs.map (·.1)).Nodup)(ny:(ys.map (·.1)).Nodup)(hz:xs.length+ys.length<16)
  (h:∀h' d r zs er,(∀b o,s.heap.get? b=some o->h'.get? b=some o)->s.heap.objs.size<=r->StrSet kd h' r zs er->(zs.map (·.1)).Nodup->(∀y,y∈zs.map (·.1)↔y∈xs.map (·.1)\/y∈ys.map (·.1))->zs.length<=xs.length+ys.length->Q (.ref r) {s with heap:=h',drawn:=d}):
  wpAny @3 A (binaryOp .BitOr (.ref S) (.ref T)) Q E s:=by
 refine wpAny_binaryOp_same (T:="set") U.isA M.isA F.fills_set_or F.slot_set_or (wpAny_call_entry F.slot_set_or U.isA ox ?_ (F.args_set_or_2 _ _));unfold Builtin.«frozenset.__or__»;refine wb0 (wb0 (m:=slotArgs "__or__" 1 _) (wq0 (wq0 ?_)));dsimp only;rw[if_neg fx0];refine wb0 (m:=andM (Builtin.Frozenset.isAnySet (.ref S)) (Builtin.Frozenset.isAnySet (.ref T))) ?_;refine wb0 (ou U.isA (ou M.isA ?_));refine wb0 (m:=Builtin.Frozenset.addrOf (.ref S)) (wq0 ?_);refine wb0 (?_:wpAny _ _ (Builtin.Frozenset.copyOf S >>= _) _ _ _)
 unfold Builtin.Frozenset.copyOf Builtin.Frozenset.baseOf;refine wb0 (wb0 (wb0 (wpAny_isInstance U.isA uD (wq0 ?_))));rw[if_pos rfl];refine wb0 (Dg (kd:=kd) λhR=>?_);have u:∀b o,s.heap.get? b=some o->(s.heap.push (aq w)).get? b=some o:=λb o e=>ps0 _ e
 have g:∀b o,s.heap.get? b=some o->b≠s.heap.objs.size:=λb o e=>nn0 (hs0 e)
 have ltS:S≠s.heap.objs.size:=by obtain⟨o,e,_⟩:=U.cls;erw[g _ _ e]
 have O:T≠s.heap.objs.size:=by obtain⟨o,e,_⟩:=M.cls;erw[g _ _ e]
 have Z:=U.keep λo e=>u S o e
 have L:=M.keep λo e=>u T o e
 have p:(s.heap.push (aq w)).get? s.heap.objs.size=some (aq w):=pz0 _ rfl;refine wb0 (m:=Builtin.Frozenset.addrOf (.ref s.heap.objs.size)) (wq0 (wb0 ?_));have fin:∀(h':Heap)(d:Drawn)(zs:List (Y×Tok))(er:Nat),Heap.SameBut s.heap.objs.size (s.heap.push (aq w)) h'->StrSet kd h' s.heap.objs.size zs er->(zs.map (·.1)).Nodup->(∀y,y∈zs.map (·.1)↔y∈xs.map (·.1)\/y∈ys.map (·.1))->zs.length<=xs.length+ys.length->wpAny @3 A.in1 (pure (.ref s.heap.objs.size)) (λa D=>wpAny @3 A.in1 (ret a) (λfin D=>∃v,fin=Fin.done (Flow.ret v)/\v≠Value.notImplemented/\Q v D) E D) E {s with heap:=h',drawn:=d}:=λh' d zs er R a1 a2 a3 a4=>
  wq0 (wq0 (_,rfl,λz=>(nomatch z),h h' d _ zs er (λb o e=>(R.2 _ (g b o e)).trans (u b o e)) (nr0 _) a1 a2 a3 a4))
 have upd:∀(V:Heap),StrSet kd V T ys eq->∀(P:A0),wpAny @3 A.in1 (setMerge s.heap.objs.size T (Builtin.Frozenset.unchanged (toString "frozenset."++toString "__or__") T eq)) (λc D=>wpAny @3 A.in1 (pure (.ref s.heap.objs.size)) P E D) E {s with heap:=V}->wpAny (model prog w) A.in1 (if (Value.ref T != .ref S)=true then (do
   let a ←Builtin.Frozenset.addrOf (.ref s.heap.objs.size)
   let __r ←holding [.ref s.heap.objs.size] (Builtin.Frozenset.updateFrom (toString "frozenset."++toString "__or__") a (.ref T))
   (λ(_:PUnit)=>(pure (.ref s.heap.objs.size):Sem Value)) __r)else pure (.ref s.heap.objs.size)) P E {s with heap:=V}:=λV M P q=>by
  rw[if_pos (by simpa using j.symm)];refine wb0 (m:=Builtin.Frozenset.addrOf (.ref s.heap.objs.size)) (wq0 (wb0 (wh0 ?_)));unfold Builtin.Frozenset.updateFrom;refine wb0 (ou (s:={s with heap:=V}) M.isA ?_);rw[if_pos rfl];refine wb0 (m:=Builtin.Frozenset.addrOf (.ref T)) (wq0 ?_);unfold Builtin.Frozenset.merge;erw[wb0 (EJ M q)]
 by_cases C:xs=[]
 .subst C
  refine iJ Z (wq0 (upd _ L _ ?_))
  by_cases W:ys=[]
  .subst W
   erw[iJ L (fin _ s.drawn [] 0 (Heap.SameBut.refl _ _) hR .nil (λy=>by simp) (Nat.zero_le _))]
  .erw[mw (s:={s with heap:=s.heap.push (aq w)}) p O.symm L W (by lia) λB zs er R J K=>fin B s.drawn zs er R K ((J.map _).nodup_iff.mpr ny) (λy=>by rw[(J.map _).mem_iff];simp) (by rw[J.length_eq];lia)]
 .refine mw (s:={s with heap:=s.heap.push (aq w)}) p ltS.symm Z C (by lia) λB zs er R J K=>wq0 ?_
  have N:=L.keep λo e=>(R.2 _ O).trans e
  refine upd _ N _ ?_
  by_cases W:ys=[]
  .subst W
   erw[iJ N (fin B s.drawn zs er R K ((J.map _).nodup_iff.mpr nx) (λy=>by rw[(J.map _).mem_iff];simp) (by rw[J.length_eq];lia))]
  .erw[sP (s:={s with heap:=B}) hr O.symm N K W (λz=>C (by rw[z]at J;exact J.symm.eq_nil)) ((J.map _).nodup_iff.mpr nx) (by rw[J.length_eq];lia) λh2 d us I f b1 b2 b3 l=>fin h2 d us I (R.trans f) b1 b2 (λy=>(b3 y).trans (by rw[(J.map _).mem_iff])) (by rw[J.length_eq]at l;exact l)]
end
end PySem
namespace L2.Z
set_option genInjectivity false
open PySem PySem.Spec PyProof.Rows L2 L2.C SI
section
variable {prog:Program}{E:A0}
def zW(x:Str):(aD prog w).hash (.inr x)=(kdS prog w).knd.hash x:=rfl
def kN{d S}{kvs}{ep}{R}(f:s.heap.get? S=some (aq w))(hd:s.heap.DictAt (aD prog w) d kvs ep)(lo:(d==sysModules)=false)(hk:kvs.map (·.1)=ss.map .inr)(hz:ss.length<16)
  (h:∀h' L ep,StrSet (kdS prog w) h' S L ep->(L.map (·.1)).Nodup->(∀y,y∈L.map (·.1)↔y∈ss)->L.length<=ss.length->Heap.SameBut S s.heap h'->R (.ok (.ret .none)) {s with heap:=h'}):
  codeAny @3 A (.call (.builtin "set.__init__") ([.ref S,.ref d],[])) R s:=by
 have hT:s.TypeIs (.ref S) "set":=(_,f,rfl);have j6:=hd.dictOf.typeIs;refine codeAny_call_builtin F.called_set.init.plain F.entry_set_init (check_set_init_1 hT ?_);have q1:=F.sub_dict_set;have q2:=F.sub_dict_frozenset;unfold Builtin.«set.__init__» noKeywords Builtin.Frozenset.updateFrom
 wp_walk
 obtain⟨o,J,I,j0,K,j2,z,j7⟩:=id hd;have U:J.size=ss.length:=by
  have e1:=z.length;have l:=congrArg List.length hk;rw[lm0,lm0]at l;rw[al0]at e1
  lia
 have Q:d≠S:=λe=>by
  subst e;rw[I]at f;cases f;erw[absurd (show Value.type "set"=Value.type "dict" from j0.1) @2]
 have S0:StrSet (kdS prog w) s.heap S [] 0:=(aq w,#[],.fresh 0 0 (!byTx w),f,(rfl,rfl,rfl),rfl,rfl,rfl,rfl,λa=>rfl);refine wpAny_loadPart I ?_;rw[K];refine wq0 (wb0 (wpAny_dictEntries I K (wb0 (qB (kd:=kdS prog w) (s:=s) S0 (by rw[U,List.length_nil];lia) λu zs er sb pz p=>?_))));have zn:=pz.eq_nil;subst zn;have j3:=(sb.2 _ Q).trans I;refine wb0 (wpAny_dictEntries (s:={s with heap:=u}) j3 K (wb0 ?_));rw[Std.Legacy.Range.forIn_eq_forIn_range'];simp only[Std.Legacy.Range.size,Nat.sub_zero,Nat.add_sub_cancel,Nat.div_one];refine wpAny_forIn_list _
  (λrest a s'=>∃h' i L er,s'={s with heap:=h'}/\rest=List.range' i (J.size-i)/\i<=J.size/\Heap.SameBut S s.heap h'/\StrSet (kdS prog w) h' S L er/\(L.map (·.1)).Nodup/\(∀y,y∈L.map (·.1)↔y∈ss.take i)/\L.length<=i)
  _ ?_ ?_ _ _ (u,0,[],er,rfl,by simp,Nat.zero_le _,sb,p,.nil,λy=>by simp,nr0 _)
 .rintro x rest b s' ⟨h',i,L,er,rfl,D,hi,N,V,nd,C,j5⟩
  have M:i<J.size:=by
   rcases Nat.lt_or_ge i J.size with h|h
   .erw[h]
   .rw[Nat.sub_eq_zero_of_le h]at D;simp at D
  obtain⟨rfl,B⟩:x=i/\rest=List.range' (i+1) (J.size-(i+1)):=by
   have e:J.size-i=(J.size-(i+1))+1:=by lia
   rw[e,List.range'_succ]at D;injection D with u g
   exact(u,g)
  have j:=(N.2 _ Q).trans I;refine wb0 (wpAny_dictEntries (s:={s with heap:=h'}) j K ?_);rw[Array.getElem?_eq_getElem M];have T:x<ss.length:=by lia
  obtain⟨kv,P⟩:∃kv,kvs[x]?=some kv:=(kvs[x]'(by rw[show kvs.length=ss.length by simpa using congrArg List.length hk];erw[T]),ge0 _);obtain⟨k,v⟩:=kv;have ek:k=.inr ss[x]:=by
   have:=congrArg (·[x]?) hk
   simpa [P,T]using this
  subst ek;obtain⟨O,_⟩:=z.get? (e:=J[x]) (by simp[M]) P;obtain⟨k',Z,W⟩:=j2 J[x] (Array.getElem_mem M);obtain rfl:k'=.inr ss[x]:=(aD prog w).inj _ _ _ Z O;obtain⟨t,et⟩:=lJ O;show wpAny _ _ (holding [J[x].key] (setAddHashed S J[x].key J[x].hash) >>= _) _ _ _;rw[W,et,zW];refine wb0 (wh0 (GU (kd:=kdS prog w) (s:={s with heap:=h'}) (x:=ss[x]) (tk:=t) V (by lia) λg y2 l b q S2 p2=>?_));obtain⟨n2,m2,z2⟩:=iE nd p2;have j4:=(q.2 _ Q).trans j;refine wb0 (wpAny_dictEpoch (s:={s with heap:=g}) j4 K ?_)
  rw[if_neg @0];refine wq0 (g,x+1,y2,l,rfl,B,M,N.trans q,S2,n2,λy=>?_,by lia);rw[m2 y,C y,List.take_succ,ge0 T,Option.toList_some,List.mem_append,List.mem_singleton]
 .rintro b s' ⟨h',i,L,er,rfl,D,hi,N,V,nd,C,j5⟩
  have j1:i=J.size:=by
   rcases Nat.lt_or_ge i J.size with h|h
   .have e:J.size-i=(J.size-(i+1))+1:=by lia
    rw[e,List.range'_succ]at D;erw[nomatch D]
   .erw[Nat.le_antisymm hi h]
  refine wq0 (wq0 (h h' L er V nd (λy=>(C y).trans ?_) @1 N));rw[j1,U,List.take_length]
def kP{d}{kvs}{ep}{Q}(O:s.heap.DictAt (aD prog w) d kvs ep)(lo:(d==sysModules)=false)(R:kvs.map (·.1)=ss.map .inr)(hz:ss.length<16)
  (h:∀h' S J ep,s.heap.objs.size<=S->StrSet (kdS prog w) h' S J ep->(J.map (·.1)).Nodup->(∀y,y∈J.map (·.1)↔y∈ss)->J.length<=ss.length->(∀b o,s.heap.get? b=some o->h'.get? b=some o)->Q (.ref S) {s with heap:=h'}):
  wpAny @3 A (call (.type "set") [.ref d]) Q E s:=
 dN _ λU a=>kN (s:={s with heap:=s.heap.push (aq w)}) (pz0 _ rfl) (O.push _) lo R hz λh' J ep K a2 L M N=>(rfl,h h' _ J ep (nr0 _) K a2 L M λb o e=>(N.2 _ (nn0 (hs0 e))).trans (ps0 _ e))
end
section
variable {p p2 p3 q q2 q3:Pos}{d:D}
def mx:bb X (.type "set") (λxs H Q=>∃(r:Addr)(R:Obj)(N:List (Key×V))(ss:A1),xs=[.ref r]/\H r=some (.frz R (.dK N))/\N.map (·.1)=ss.map .inr/\ss.length<16/\∀l (J:A1),H l=none->J.Nodup->(∀y,y∈J↔y∈ss)->J.length<=ss.length->Q (.ref l) (upd H l (.ext (jc (kdS X.prog X.w) l J)))):=by
 intro U s t H xs f Q I r h;obtain⟨P,R,N,ss,rfl,F,T,D,k⟩:=h;obtain⟨u,rfl,E⟩:=vals1 r;cases E;obtain⟨g,_,lo,v,B,W⟩:=I.hok P _ F;obtain⟨ep,K⟩:=W.dictAt;refine kP K lo (B.keys.symm.trans T) D λz S j ep O Z C M L kk=>?_
 exact(.ref S,_,I.laid (t':=s.toks) kk O (gS Z),rfl,k S (j.map (·.1)) (I.hok.fresh O) C M (by rw[lm0];erw[L]))
def GX:OpR X (binaryOp .BitOr) (λx y H Q=>∃(l m:Addr)(J js:A1),x=.ref l/\y=.ref m/\l≠m/\H l=some (.ext (jc (kdS X.prog X.w) l J))/\H m=some (.ext (jc (kdS X.prog X.w) m js))/\J.Nodup/\js.Nodup/\J.length+js.length<16/\∀r zs,H r=none->zs.Nodup->(∀y,y∈zs↔y∈J\/y∈js)->zs.length<16->Q (.ref r) (upd H r (.ext (jc (kdS X.prog X.w) r zs)))):=by
 intro M s f H x y v u Q I C S h;obtain⟨l,m,J,js,rfl,rfl,F,V,W,B,D,N,k⟩:=h;cases C;cases S;obtain⟨⟨j,ep,rfl,R⟩,_⟩:=(I.hok l _ V:ObjOk X.prog X.w H s.heap l (.ext _));obtain⟨⟨g,P,rfl,U⟩,_⟩:=(I.hok m _ W:ObjOk X.prog X.w H s.heap m (.ext _));rw[lm0,lm0]at N;refine Di (λa a a z=>by cases z) F R U B D N λE d r zs er kk L O T K Z=>?_
 exact(.ref r,_,(mq I d).laid (s:={s with drawn:=d}) (t':=s.toks) kk L (gS O),rfl,k r (zs.map (·.1)) (I.hok.fresh L) T K (by rw[lm0];lia))
def wZ{x y}(L:X.calm=true)(Z:Blt X "sorted")(J:Blt X "set")(h:BZ x y=some d)(ha:Er X Y a x)(hb:Er X Y b y)(hs:isStar a=false)(R:isStar b=false):Ev X Y (.Call (.Name "sorted" p) [.BinOp (.Call (.Name "set" p2) [a] [] q) .BitOr (.Call (.Name "set" p3) [b] [] q2) q3] [] pos) d:=by
 cases x with
 |fdc kv=>
  cases y with
  |fdc jv=>
   obtain⟨ss,h1,h⟩:=bS (h:(cz kv).bind _=some d);obtain⟨ts,h2,h⟩:=bS (h:(cz jv).bind _=some d);obtain⟨hz,rfl⟩:=iS (h:(if ss.length+ts.length<16 then some (D.list ((srtS (ss++ts)).map .str))else .none)=some d)
   rintro W s σ H Q I ⟨G0,H0,G,E,k⟩
   have N:=λ{e:Expr} (h:isStar e=false)=>starEach_cons (env:=X.env) (es:=[]) h
   refine cZ (gO L) Z.g Z.m dP (pa_cons (xJ GX (cq mx J.g J.m iG (pa_cons ha pa_nil (N hs)) J.n J.d (N hs) rfl) (cq mx J.g J.m iG (pa_cons hb pa_nil (N R)) J.n J.d (N R) rfl)) pa_nil (N rfl)) Z.n Z.d (N rfl) rfl W s σ H Q I (G0,H0,G,E,λv P H1 B r1=>?_);obtain⟨r,ob,ws,rfl,a1,a2⟩:=r1.fdc B.gh;refine(r,ob,ws,ss,rfl,a1,a2.keys.symm.trans (cD h1).1,by lia,λl ks hl nd f j2=>?_);have e2:Ext P H1 P (upd H1 l (.ext (jc (kdS X.prog X.w) l ks))):=.hid B.gh hl;refine(G0,H0,P,E.step (B.trans e2),λv T F C r2=>?_)
   obtain⟨r',j0,j1,rfl,b1,b2⟩:=r2.fdc C.gh;refine(r',j0,j1,ts,rfl,b1,b2.keys.symm.trans (cD h2).1,by lia,λK S O t U len2=>?_);have e4:Ext T F T (upd F K (.ext (jc (kdS X.prog X.w) K S))):=.hid C.gh O;have M:=C.hh _ _ aa;have ne:l≠K:=λz=>by rw[z,O]at M;cases M
   refine(l,K,ks,S,rfl,rfl,ne,by rw[ab ne];erw[M],aa,nd,t,by lia,λr3 zs j o V len3=>?_);refine(r3,zs,rfl,aa,by lia,λr4 us u pe so=>?_);have e5:Ext T (upd F K (.ext (jc (kdS X.prog X.w) K S))) T (upd (upd F K (.ext (jc (kdS X.prog X.w) K S))) r3 (.ext (jc (kdS X.prog X.w) r3 zs))):=.hid e4.gh j;have e:=dM (uz so (pe.nodup_iff.mpr o)) (bj _) λy=>pe.mem_iff.trans ((V y).trans (((or_congr (f y) (U y)).trans List.mem_append.symm).trans (mem_srtS _ y).symm))
   subst e;refine k _ _ _ (B.trans (e2.trans (C.trans (e4.trans (e5.trans (.laid e5.gh u)))))) (.list aa ((pY λx hx=>?_).mono (Same.refl _)));rcases ma0 ((mem_srtS _ x).mp hx)with z|z
   .exact (cD h1).2 x z
   .exact (cD h2).2 x z
  |_=>cases h
 |_=>cases h
def sQ(hc:X.calm=true):bb X (.type "list") (λxs H Q=>∃(r:Addr)(T:Obj)(O:List (Key×V))(ss:A1),xs=[.ref r]/\H r=some (.frz T (.dK O))/\O.map (·.1)=ss.map .inr/\∀l,H l=none->Q (.ref l) (upd H l (.lst (ss.map V.str)))):=by
 intro F s σ H xs us Q I r h;obtain⟨t,T,O,ss,rfl,E,P,k⟩:=h;obtain⟨u,rfl,o⟩:=vals1 r;cases o;obtain⟨g,z,lo,N,R,C⟩:=I.hok t _ E;obtain⟨ep,M⟩:=C.dictAt;have J:=R.keys.symm.trans P;have U:N.length=ss.length:=by simpa using congrArg List.length J
 have Z:N.length<=sizeLine:=by rw[<-KV.length R];erw[z]
 refine PySem.W.kdl_call (PySem.W.kdl_dict (kvs:=N) (ep:=ep) lo) (I.ok.hd hc) M Z λh' tk K c kk L items=>?_
 have e:=uh (by rw[al0,items.1,U]) λj v i D B=>by
  obtain⟨k',x,f,S⟩:=items.2 j v (by rw[<-Array.getElem?_toList];erw[D]);have:=congrArg (·[j]?) J;simp only[gm0,f,B,mo0]at this;cases this;erw[lJ S]
 exact(.ref s.heap.objs.size,_,I.laid (t':=tk) kk (nr0 _) (show ObjOk X.prog X.w _ _ _ (.lst _)from(by rw[lm0,<-U];erw[Z],K.toList,c,gm e,by simpa using L)),rfl,k _ I.fresh)
end
def jk{e}{env}(h:isSet e=false):∀x,foldedSetIterable e env x=pure x:=by
 intro x;cases e<;>first|rfl|cases h
section
variable {k:Nat}{C:Cs}{c e:Expr}{a' b' c':E}{as:A3}{as':Es}{p:Pos}{f:Str}{nb nc:Bool}
theorem Wz.blk(w:Wz X Φ Γ C k){B}{sc}{N}(h:B.fns=C.fns/\B.cst=C.cst/\B.vc=C.vc/\B.vms=C.vms/\B.io=C.io)(A:Addr)(s)(H:Hp)(fp):Wz (L2.C.blk X sc N A s H fp) Φ Γ B k:=
 (w.blt,λx O K J=>w.fns x (by rwa [<-h.1]) K J,w.gl,w.room,w.two,λc L=>w.vc c (by rwa [<-h.2.2.1]),λc m L M K J=>w.vf c m (by rwa [<-h.2.2.1]) (by rwa [<-h.2.2.2.1]) K J,by rw[h.2.2.1,h.2.2.2.2];erw[w.io])
def Wz.u1(w:Wz X Φ Γ C k):X.A.units+1<cLine:=by have:=w.room.units;grind
def Dj{d}(h:∀Y,Ev X Y e d)(K:∀J,isTrue e X.env J=(do let v ←J;standAt e.pos;holding [v] (truthy v))):SdE X Φ Γ e (.k d) false:=ba (λa a=>rfl) (λY L q=>by simp_all) K
def GY(V:VarOk X x i):SdE X Φ Γ (.Name x p) (.v i) false:=by
 refine(λq=>(λJ s Z H Q I ⟨T,F,G,E,k⟩=>by
   obtain⟨sl,K,L⟩:=bx0 q;obtain⟨v,e,r⟩:=E.val K L;erw[fF V.at' V.vis V.d V.cd _ s Z H Q I (v,e,k v G H (.refl E.sub) r)]),λq=>yq i q V.at' V.vis V.d V.cd,λq=>GG i q V.at' V.vis V.d V.cd,λq=>?_,λz=>by cases z)
 obtain⟨D,M,N⟩:=bS q;obtain⟨t,O,R⟩:=mS N;refine(t,R.symm,jN (yq i ?_ V.at' V.vis V.d V.cd) O λa=>rfl);obtain⟨sl,U,W⟩:=bS M;rw[U];cases sl<;>exact W
def Mz(c:CxC X C)(w:Wz X Φ Γ C k)(h:ah C x=true):SdE X Φ Γ (.Name x p) (.g x) false:=ba (λa a=>rfl) λY d N=>by
 obtain⟨u,v,K,L,M⟩:=w.gl x d N
 rintro J s O H Q I ⟨R,U,G,E,k⟩;erw[BE (bQ c h).1 K L (bQ c h).2.2 J s O H Q I (k _ G H (.refl E.sub) (M G))]
def JX{op}{o}(h:cOp op=some o)(A:SdE X Φ Γ a a' na)(B:SdE X Φ Γ b b' nb):SdE X Φ Γ (.BinOp a op b pos) (.op o a' b') true:=eA (λc c=>rfl) λY d q=>by
 obtain⟨x,J,q⟩:=bS q;obtain⟨y,K,q⟩:=bS q;have:=yv (pos:=pos) h q (A.r J) (B.r K);exact(this.1,λc=>this.2)
def GZ(A:SdE X Φ Γ a a' na):SdE X Φ Γ (.UnaryOp .USub a pos) (.neg a') false:=ba (λb b=>rfl) λY d q=>by
 obtain⟨x,J,q⟩:=bS q;obtain⟨i,K,rfl⟩:=mS q;obtain rfl:=cP K;erw[yw (A.v J)]
def Ha(A:SdE X Φ Γ a a' na):SdE X Φ Γ (.UnaryOp .Not a pos) (.not a') false:=by
 have J:∀{Y d},ev Φ Γ .val Y (.not a')=some d->Ev X Y (.UnaryOp _ a pos) d:=λq=>by
  obtain⟨x,N,q⟩:=bS q;obtain⟨t,O,rfl⟩:=mS q;obtain rfl:=rV O;exact (have h:=(A.v N);λK s R H Q I ⟨L,M,G,E,k⟩=>
    FA h _ s R H Q I (L,M,G,E,λv U V W F=>by
     cases F;exact(t,rfl,k _ U V W (.bool _))))
 refine(J,λq=>(J q).er,λq=>(J q).ek,λq=>?_,λz=>by cases z);obtain⟨x,N,q⟩:=bS q;obtain⟨t,O,rfl⟩:=mS q;obtain⟨b,rfl,T⟩:=A.t N;cases O;exact(_,rfl,(λK s R H Q I Z=>Fy T _ s R H Q I (let ⟨L,M,G,E,k⟩:=Z;(L,M,G,E,k))))
def Hc{op}{o}(w:Wz X Φ Γ C k)(h:rW op=some o)(hs:(!isSet b)=true)(A:SdE X Φ Γ a a' na)(B:SdE X Φ Γ b b' nb):SdE X Φ Γ (.Compare a [op] [b] pos) (.cmp o a' b') false:=by
 have both:∀{Y d},((ev Φ Γ .read Y a').bind λx=>(ev Φ Γ .read Y b').bind λy=>(dA o x y).map D.bool)=some d->∃t,d=.bool t/\Ev X Y (.Compare a _ _ pos) (.bool t)/\Et X Y (.Compare a _ _ pos) t:=λq=>by
  obtain⟨x,q1,q⟩:=bS q;obtain⟨y,q2,q⟩:=bS q;obtain⟨t,q3,rfl⟩:=mS q;obtain⟨r,hr,l⟩:=sd w.room.units h q3;exact(t,rfl,(have T:=(A.r q1);have F:=(B.r q2);have S:=(jM (nt hs));(by rintro N s g H Q I ⟨K,L,G,E,k⟩;erw[BM hr T F S _ s g H Q I (K,L,G,E,λx R H1 M P=>(K,L,R,E.step M,λy U W J j=>l x y U W Q J.gh (P.ext J) j λv O V Z u=>k v O V (M.trans (J.trans Z)) u))])),(have T:=(A.r q1);have F:=(B.r q2);have S:=(jM (nt hs));λN s g H Q I ⟨K,L,G,E,k⟩=>tX hr T F S _ s g H Q I (K,L,G,E,λx R H1 M P=>(K,L,R,E.step M,λy U W J j=>
     l x y U W _ J.gh (P.ext J) j λv O V Z u=>by
      cases u;exact(t,rfl,k O V (M.trans (J.trans Z)))))))
 refine yZ (λc c=>rfl) (λY d q=>?_) λY d t q ht=>?_
 .obtain⟨t,rfl,z,_⟩:=both q;simp_all
 .obtain⟨t,rfl,_,z⟩:=both q;simp_all
def qC{op op'}{Y}{r r'}{d1 d2 d3}{t u}(l:OpR X (compareOp op) r)(V:OpR X (compareOp op') r')(j:Er X Y a d1)(q:Er X Y b d2)(hc:t=true->Er X Y c d3)
  (h1:R2r X.K r d1 d2 (.bool t)) (h2:t=true->R2r X.K r' d2 d3 (.bool u)) (g:lastMarks [op,op'] [b,c]=false) (hu:t=false->u=false):
  Ev X Y (.Compare a [op,op'] [b,c] pos) (.bool u)/\Et X Y (.Compare a [op,op'] [b,c] pos) u:=by
 have W:∀(O:TE),(t=true->O=tEr X.nk X.K Y d3)->∀(L:St)(H:Hp)(Q:VK),(∃M N G,EnvD X.nk X.K M N G H L Y/\∀v Z T,Ext G H Z T->Dp X.K Z (.bool u) v->Q v T)->rD r r' (tEr X.nk X.K Y d1) (tEr X.nk X.K Y d2) O L H Q:=by
  intro O S L H Q U;obtain⟨M,N,G,E,kk⟩:=U;refine(M,N,G,E,λx G1 H1 F r1=>(M,N,G1,E.step F,λy G2 H2 R r2=>h1 x y G2 H2 _ R.gh (r1.ext R) r2 λv P H3 D r3=>?_));cases r3;refine(t,rfl,?_);cases t with
  |true=>
   rw[S rfl];refine(M,N,P,((E.step F).step R).step D,λz G4 H4 B r4=>h2 rfl y z G4 H4 Q B.gh ((r2.ext D).ext B) r4 λv G5 H5 e5 r5=>kk v G5 H5 (F.trans (R.trans (D.trans (B.trans e5)))) r5)
  |false=>
   erw[kk _ P H3 (F.trans (R.trans D)) (by rw[hu rfl];exact .bool _)]
 have fin:∀O,PE X c O->(t=true->O=tEr X.nk X.K Y d3)->Ev X Y (.Compare a [op,op'] [b,c] pos) _/\Et X Y (.Compare a _ [b,c] pos) u:=λO o ht=>
  (λJ s L H Q I U=>xK l V j q o g J s L H Q I (W _ ht L H Q U),λJ s L H Q I U=>xM l V j q o g J s L H Q I (W _ ht L H _ (by
   obtain⟨M,N,G,E,kk⟩:=U;exact(M,N,G,E,λv Z T e r=>by cases r;exact(u,rfl,kk Z T e)))))
 cases t with
 |true=>exact fin _ (hc rfl) λd=>rfl
 |false=>exact fin (λd d d=>False) (λd d d d d d z=>z.elim) λz=>by cases z
def zX{op op'}{o o'}(w:Wz X Φ Γ C k)(h:rW op=some o)(h':rW op'=some o')(hs:(!isSet c)=true)(A:SdE X Φ Γ a a' na)(B:SdE X Φ Γ b b' nb)(Cc:SdE X Φ Γ c c' nc):SdE X Φ Γ (.Compare a [op,op'] [b,c] pos) (.chain o o' a' b' c') false:=by
 have both:∀{Y d},((ev Φ Γ .read Y a').bind λx=>(ev Φ Γ .read Y b').bind λy=>(dA o x y).bind λt=>if t then (ev Φ Γ .read Y c').bind λz=>(dA o' y z).map D.bool else some (.bool false))=some d->
   ∃u,d=.bool u/\Ev X Y (.Compare a [op,op'] [b,c] pos) (.bool u)/\Et X Y _ u:=λq=>by
  obtain⟨x,R,q⟩:=bS q;obtain⟨y,U,q⟩:=bS q;obtain⟨t,V,q⟩:=bS q;obtain⟨r,N,L⟩:=sd w.room.units h V;have M:lastMarks [op,op'] [b,c]=false:=jM (nt hs);cases t with
  |true=>
   obtain⟨z,W,q⟩:=bS q;obtain⟨u,Z,rfl⟩:=mS q;obtain⟨r',K,J⟩:=sd w.room.units h' Z;exact(u,rfl,qC N K (A.r R) (B.r U) (λe=>Cc.r W) L (λe=>J) M (λz=>by cases z))
  |false=>
   cases q;exact(false,rfl,qC (d3:=.none) (r':=λe e e e=>False) N (λO s P H x y v u Q I F S h=>h.elim) (A.r R) (B.r U) (λz=>by cases z) L (λz=>by cases z) M (λe=>rfl))
 refine yZ (λe e=>rfl) (λY d q=>?_) λY d t q T=>?_
 .obtain⟨t,rfl,z,_⟩:=both q;exact(z,λz=>by cases z)
 .obtain⟨t,rfl,_,z⟩:=both q;simp_all
structure SdB(X:Cx)(Φ:Fs)(Γ:List (Str×D))(op:BoolOp)(es:A3)(f:E):Prop where
 v:∀{pos Y d},ev Φ Γ .val Y f=some d->Ev X Y (.BoolOp op es pos) d
 t:∀{pos Y d},ev Φ Γ .test Y f=some d->∃b,d=.bool b/\Ew X Y (.BoolOp op es pos) b
def uG{op}(B:SdB X Φ Γ op as a')(h:(∀Y,ev Φ Γ .read Y a'=ev Φ Γ .val Y a')/\∀Y,ev Φ Γ .walk Y a'=ev Φ Γ .val Y a'):SdE X Φ Γ (.BoolOp op as pos) a' false:=
 (B.v,λq=>(B.v (by rwa [<-h.1])).er,λq=>(B.v (by rwa [<-h.2])).ek,λq=>let ⟨b,e,z⟩:=B.t q;(b,e,z.et),λz=>by cases z)
def Hd{op}(A:SdE X Φ Γ a a' na):SdB X Φ Γ op [a] a':=(λq=>(have h:=(A.v q);Fz h),λq=>by
 obtain⟨b,rfl,t⟩:=A.t q;cases op with
 |And=>exact(b,rfl,(BG t))
 |Or=>exact(b,rfl,(Fx t)))
def zY(A:SdE X Φ Γ a a' na)(B:SdB X Φ Γ .And (b::as) b'):SdB X Φ Γ .And (a::b::as) (.and a' b'):=(λq=>by
 obtain⟨x,W,q⟩:=bS q;obtain⟨t,P,q⟩:=bS q;obtain rfl:=rV P;cases t with
 |true=>exact Cw (A.v W) (B.v q)
 |false=>cases q;exact (by
   have h:=(A.v W);intro J s U H Q I R;obtain⟨L,M,G,E,k⟩:=R;exact xE (tb:=λc c c=>False) h (λc c c c c c z=>z.elim) _ s U H Q I (L,M,G,E,λv O V N j=>by
    cases j;exact(_,rfl,nD (k _ O V N (.bool _))))),λq=>by
 obtain⟨x,W,q⟩:=bS q;obtain⟨t,rfl,Z⟩:=A.t W;cases t with
 |true=>
  obtain⟨b,rfl,S⟩:=B.t q;exact(b,rfl,(by
    intro K J s U H Q I R;obtain⟨L,M,G,E,k⟩:=R;erw[xD Z S _ _ s U H Q I (L,M,G,E,λO V N=>iteT (L,M,O,E.step N,λT F D=>k T F (N.trans D)))]))
 |false=>cases q;exact(_,rfl,(by
   intro K J s U H Q I R;obtain⟨L,M,G,E,k⟩:=R;erw[xD (tB':=λc c c=>False) Z (λc c c c c c c z=>z.elim) _ _ s U H Q I (L,M,G,E,λO V N=>nD (k O V N))])))
def EL(A:SdE X Φ Γ a a' na)(B:SdB X Φ Γ .Or (b::as) b'):SdB X Φ Γ .Or (a::b::as) (.or a' b'):=(λq=>by
 obtain⟨x,W,q⟩:=bS q;obtain⟨t,P,q⟩:=bS q;obtain rfl:=rV P;cases t with
 |true=>cases q;exact (by
   have h:=(A.v W);intro J s U H Q I R;obtain⟨L,M,G,E,k⟩:=R;exact Ei (tb:=λc c c=>False) h (λc c c c c c z=>z.elim) _ s U H Q I (L,M,G,E,λv O V N j=>by
    cases j;exact(_,rfl,iteT (k _ O V N (.bool _)))))
 |false=>exact GD (A.v W) (B.v q),λq=>by
 obtain⟨x,W,q⟩:=bS q;obtain⟨t,rfl,Z⟩:=A.t W;cases t with
 |true=>cases q;exact(_,rfl,(by
   intro K J s U H Q I R;obtain⟨L,M,G,E,k⟩:=R;erw[Eh (tB':=λc c c=>False) Z (λc c c c c c c z=>z.elim) _ _ s U H Q I (L,M,G,E,λO V N=>iteT (k O V N))]))
 |false=>
  obtain⟨b,rfl,S⟩:=B.t q;exact(b,rfl,(by
    intro K J s U H Q I R;obtain⟨L,M,G,E,k⟩:=R;erw[Eh Z S _ _ s U H Q I (L,M,G,E,λO V N=>nD (L,M,O,E.step N,λT F D=>k T F (N.trans D)))])))
def He(Cc:SdE X Φ Γ c c' nc)(A:SdE X Φ Γ a a' na)(B:SdE X Φ Γ b b' nb):SdE X Φ Γ (.IfExp c a b pos) (.ite c' a' b') false:=by
 have J:∀{Y d},ev Φ Γ .val Y (.ite c' a' b')=some d->Ev X Y (.IfExp c a b pos) d:=λq=>by
  obtain⟨x,P,q⟩:=bS q;obtain⟨t,rfl,T⟩:=Cc.t P;cases t with
  |true=>exact (by
    have D:=(A.v q);intro N s Z H Q I W;obtain⟨K,L,G,E,k⟩:=W;erw[ph (tb:=λe e e=>False) T D (λe e e e e e z=>z.elim) _ s Z H Q I (K,L,G,E,λO F M=>iteT (K,L,O,E.step M,λv R U V r=>k v R U (M.trans V) r))])
  |false=>exact (by
    have S:=(B.v q);intro N s Z H Q I W;obtain⟨K,L,G,E,k⟩:=W;erw[ph (ta:=λe e e=>False) T (λe e e e e e z=>z.elim) S _ s Z H Q I (K,L,G,E,λO F M=>nD (K,L,O,E.step M,λv R U V r=>k v R U (M.trans V) r))])
 exact(J,λq=>(J q).er,λq=>(J q).ek,λq=>(by cases (q)),λz=>by cases z)
def Hf{vc}(w:Wz X Φ Γ C k)(h:C.vc=some vc)(hs:(!bu a)=true)(j:x="objects")(A:SdE X Φ Γ a a' na):SdE X Φ Γ (.Attribute a x pos) (.vob vc a') false:=by
 subst j;have K:∀{Y d},((ev Φ Γ .read Y a').bind λx=>if lg vc x then some (D.list (FZ x))else .none)=some d->Er X Y (.Attribute a _ pos) d:=λq=>by
  obtain⟨x,L,q⟩:=bS q;obtain⟨P,rfl⟩:=iS q;obtain⟨hh,os,rfl⟩:=pL P;exact (have F:=(w.vc vc h).1;have B:=(w.vc vc h).2;have S:=(A.r L);have J:=(nt hs);λN s o H Q I ⟨O,U,G,E,k⟩=>rH S (base_of J) _ s o H Q I (O,U,G,E,λv R V W M=>by
     cases M with
     |of M=>cases M
     |vlt Z T r=>exact(_,_,_,_,_,rfl,Z,F,B,rfl,k _ R V W (.list T r))))
 refine(λq=>nn q,λq=>K q,λq=>nn q,λq=>?_,λz=>by cases z);obtain⟨d',L,u⟩:=bS q;obtain⟨t,g,l⟩:=mS u;exact(t,l.symm,jN (K L) g λb=>rfl)
def Hg(w:Wz X Φ Γ C k)(hs:(!isSlice b)=true)(A:SdE X Φ Γ a a' na)(B:SdE X Φ Γ b b' nb):SdE X Φ Γ (.Subscript a b pos) (.idx a' b') false:=ba (λc c=>rfl) λY d q=>by
 obtain⟨x,J,q⟩:=bS q;obtain⟨y,K,q⟩:=bS q;erw[wu w.u1 q (A.r J) (B.v K) (nt hs)]
def mD{z}{r}(h:ij z=some r):z=some (.io (.tbl r)):=by
 cases z with
 |none=>exact zn0 h
 |some z=>cases z with
  |io d=>cases d with
   |tbl=>cases h;rfl
   |_=>exact zn0 h
  |_=>exact zn0 h
def Dl{p1 p2}(V:VarOk X x i)(hs:(!isSlice a&&!isSlice b)=true)(A:SdE X Φ Γ a a' na)(B:SdE X Φ Γ b b' nb):SdE X Φ Γ (.Subscript (.Subscript (.Name x p1) a p2) b pos) (.idx2 i a' b') false:=ba (λc c=>rfl) λY d q=>by
 obtain⟨R,O,q⟩:=bS q;obtain⟨y1,q2,q⟩:=bS q;obtain⟨y2,q3,q⟩:=bS q;obtain⟨F,q4,z1⟩:=bS q;obtain⟨k2,q5,z2⟩:=bS z1;obtain⟨N,J,q7⟩:=bS z2;obtain rfl:=cP q4;obtain rfl:=cP q5;have Z:=mD O
 rintro L s σ H Q I ⟨S,P,G,E,k⟩
 obtain⟨v,ev,dr⟩:=E.read Z rfl;cases dr with
 |of z=>cases z
 |@tbl t D _ h1 r=>
  have U:∃j,R[j]?=some N/\L2.ixN R.length F=some j:=by
   rw[rY]at J;unfold L2.atI at J;cases z:L2.ixN R.length F with
   |none=>rw[z]at J;cases J
   |some j=>rw[z]at J;exact(j,J,rfl)
  obtain⟨j,g,hx⟩:=U;have T:=(gi0 g).1;obtain⟨M,l⟩:∃M,D[j]?=some M:=(_,ge0 (by rw[<-r.1];erw[T]));obtain⟨vs,h2,r2⟩:=r.2 j N M g l;refine pB fY (pB fY V.pe (A.v q2) (jV (nt (a2 hs).1))) (B.v q3) (jV (nt (a2 hs).2)) L s σ H Q I (.ref t,ev,S,P,G,E,λu o H1 K r1=>?_);cases r1;refine(t,D.map .ref,F,.ref M,rfl,rfl,SqL.of (K.hh _ _ h1),?_,S,P,o,E.step K,λu G2 H2 W r3=>?_)
  .unfold L2.atI
   rw[lm0,<-r.1,hx];show (D.map L2.V.ref)[j]?=_;rw[gm0,l];rfl
  .cases r3
   obtain⟨vv,a1,a3⟩:=(r2.mono (K.gg.trans W.gg)).atI q7;exact(M,vs,k2,vv,rfl,rfl,SqL.of (W.hh _ _ (K.hh _ _ h2)),a1,k _ G2 H2 (K.trans W) a3)
structure SdO(X:Cx)(Φ:Fs)(Γ:List (Str×D))(eo:Option Expr)(as:Es):Prop where
 o:∀{Y o},evP Φ Γ Y as=some o->PO X eo (tPt X.nk X.K Y o)
def Dm:SdO X Φ Γ .none .nil:=⟨λq=>by cases q;exact (λJ s M H Q I ⟨K,L,G,E,k⟩=>(by
  have h:=(k G H (.refl E.sub));rw[evalPart_none];erw[wq0 (none,H,I,.none,h)]))⟩
def Dn(A:SdE X Φ Γ a a' na):SdO X Φ Γ (some a) (.cons a' .nil):=⟨λq=>by
 obtain⟨d,R,U⟩:=bS q;obtain⟨i,V,rfl⟩:=mS U;obtain rfl:=cP V;exact (have h:=(A.v R);λJ s Z H Q I ⟨K,M,G,E,k⟩=>
   BQ h _ s Z H Q I (K,M,G,E,λv L N O W=>by
    cases W;exact(i,rfl,k L N O)))⟩
def JY{lo J}{lo' hi'}(A:SdE X Φ Γ a a' na)(L:SdO X Φ Γ lo lo')(H:SdO X Φ Γ J hi'):SdE X Φ Γ (.Subscript a (.Slice lo J .none p) pos) (.sl a' lo' hi') true:=eA (λb b=>rfl) λY d q=>by
 obtain⟨x,V,q⟩:=bS q;obtain⟨y,W,q⟩:=bS q;obtain⟨z,Z,q⟩:=bS q;cases x with
 |list ds=>cases q;have:=wx (pos:=pos) (p2:=p) (A.r V) (L.o W) (H.o Z);exact(this.ev,λb b=>this)
 |str x=>
  obtain⟨U,rfl⟩:=iS q;exact((have P:=(A.r V);have g:=(L.o W);have u:=(H.o Z);λK s t H Q I ⟨M,N,G,E,k⟩=>wC P g u K s t H Q I (M,N,G,E,λv T H1 O l=>(M,N,T,E.step O,λF H2 R=>(M,N,F,(E.step O).step R,λD B S=>by
     obtain⟨rfl,ok⟩:=l.str;exact(x,rfl,by rw[big_eq]at U;erw[U],k _ D B (O.trans (R.trans S)) (.str _ ((by
       unfold Txt.slice;split
       .erw[ok]
       .rw[strOk_iff]at ok ⊢
        intro c j;obtain⟨i,_,J⟩:=List.mem_filterMap.mp j;refine ok c ?_;rw[<-Array.getElem?_toList]at J;erw[mg0 J])))))))),λb z=>by cases z)
 |_=>cases q
structure SdA(X:Cx)(Φ:Fs)(Γ:List (Str×D))(es:A3)(as:Es):Prop where
 s:aL es
 r:∀{fl Y ds},evs Φ Γ .read fl Y as=some ds->Ea X Y fl es ds
 v:∀{Y ds},evs Φ Γ .val [] Y as=some ds->Ea X Y [] es ds
 l:∀{m fl Y ds},evs Φ Γ m fl Y as=some ds->ds.length=es.length
def Hh:SdA X Φ Γ [] .nil:=(λa z=>(by cases z),λq=>(by cases q;erw[ir]),λq=>(by cases q;erw[ir]),λq=>by simp_all)
def Do(hs:(!isStar a)=true)(A:SdE X Φ Γ a a' na)(R:SdA X Φ Γ as as'):SdA X Φ Γ (a::as) (.cons a' as'):=by
 refine(λx N=>(mq0 N).elim (λz=>z▸nt hs) (R.s x),λ{fl _ _} q=>?_,λq=>?_,λq=>?_)
 .obtain⟨x,J,q⟩:=bS q
  obtain⟨M,K,rfl⟩:=mS q;cases L:fl.headD _ with
  |true=>rw[L]at J;erw[pQ (A.r J) L (R.r K) (nt hs)]
  |false=>rw[L]at J;erw[cC (A.v J) (R.r K) (nt hs)]
 .obtain⟨x,J,q⟩:=bS q
  obtain⟨M,K,rfl⟩:=mS q;erw[cC (A.v J) (R.v K) (nt hs)]
 .obtain⟨x,J,q⟩:=bS q
  obtain⟨M,K,rfl⟩:=mS q;rw[lc0,lc0,R.l K]
def Hi(A:SdA X Φ Γ as as'):SdE X Φ Γ (.List as pos) (.lst as') true:=sC (λa a=>rfl) λY d q=>by
 obtain⟨Z,U,q⟩:=bS q;obtain⟨R,rfl⟩:=iS q;exact (have h:=(A.v U);(by rintro J s V H Q I ⟨M,O,G,E,k⟩;erw[xS h J s V H Q I (M,O,G,E,λT N W K r=>(by rw[<-r.length];exact Nat.le_of_lt (ia R),λp L=>k p N _ (K.trans (.hid K.gh L)) (K.gh.free L) (K.hh.free L) (_,_,rfl,aa,r.dps)))]))
def Hj{j}(A:SdA X Φ Γ as as'):SdE X Φ Γ (.Tuple as j pos) (.tup as') false:=ba (λa a=>rfl) λY d q=>by
 obtain⟨Z,R,q⟩:=bS q;obtain⟨O,rfl⟩:=iS q;exact (have h:=(A.v R);(by rintro L s U H Q I ⟨M,N,G,E,k⟩;erw[xR h _ s U H Q I (M,N,G,E,λT V W J r=>(by rw[<-r.length];exact Nat.le_of_lt (ia O),λp K=>k _ _ _ (J.trans (.laid J.gh K)) (.tuple aa (r.dps.mono (aG (J.gh.free K))))))]))
def Hk:SdE X Φ Γ (.Dict [] [] pos) .fd0 false:=ba (core:=λa=>some (.fdc [])) (λa a=>rfl) λY d q=>by
 cases q
 rintro J s D H Q I ⟨B,S,G,E,k⟩
 refine thn (pP J s D H (λv M=>∃p,v=.ref p/\H p=.none/\M=upd H p (.dK [])) I λp K=>(p,rfl,K,rfl)) ?_;rintro u L ⟨v,M,N,T,p,ev,K,R⟩;subst ev R;obtain⟨U,V,F,W,O⟩:=(N.hok p _ aa:ObjOk X.prog X.w _ L.heap p (.dK _));obtain⟨Z,P,ep,g,rest⟩:=id O;have:=N.write (x:=p) (e:=p) (o:=.frz Z (.dK [])) (h':=L.heap) (t':=L.toks) (by rw[aa];trivial) (.inl rfl) (λa a a e=>e) (_,g) (g,U,V,F,W,O);rw[tW]at this;exact(.ref p,_,this,T,k _ _ _ (.laid E.sub K) (.fdc aa .nil))
def Dq(c:CxC X C)(w:Wz X Φ Γ C k)(K:C.fns.contains f=true)(J:ah C f=true)(A:SdA X Φ Γ (a::as) as'):SdE X Φ Γ (.Call (.Name f p) (a::as) [] pos) (.call f as') false:=ba (λb b=>rfl) λY d q=>by
 obtain⟨N,L,q⟩:=bS q;obtain⟨O,M,q⟩:=bS q;erw[sk (w.fns f K N L) w.room (bQ c J).1 (bQ c J).2.2 (A.r M) q A.s]
def Hl{tn}{T}(c:CxC X C)(w:Wz X Φ Γ C k)(K:f="isinstance")(L:ah C f=true)(h:yh tn=some T)(J:(ah C tn&&!isStar a)=true)(A:SdE X Φ Γ a a' na):SdE X Φ Γ (.Call (.Name f p) [a,.Name tn px] [] pos) (.isi a' T) false:=ba (λb b=>rfl) λY d q=>by
 subst K;obtain⟨x,M,q⟩:=bS q;obtain⟨t,N,rfl⟩:=mS q;exact wG (aO c w L (by simp[bltNames])) (aO c w (a2 J).1 ((by
   unfold yh at h
   repeat' split at h
   all_goals first|grind|(subst_vars;simp[bltNames])))) h (A.r M) (nt (a2 J).2) N
set_option tactic.hygienic true in
def Hm{g:Str}{sp qp}(c:CxC X C)(w:Wz X Φ Γ C k)(hf:f="sorted")(hg:ah C f=true)(h:g="set")(O:ah C g=true)(A:SdA X Φ Γ [a] as'):SdE X Φ Γ (.Call (.Name f p) [.Call (.Name g sp) [a] [] qp] [] pos) (.bi .srt as') false:=ba (λb b=>rfl) λY d q=>by
 subst hf h;obtain⟨j,q1,q⟩:=bS q;exact (by
   have L:=(aO c w hg (by simp[bltNames]));have M:=(aO c w O (by simp[bltNames]));have ha:=(A.r q1);have hs:=(A.s a ms0)
   match j,q with
   |[.list ls],q=>
    have st:=starEach_cons (env:=X.env) (es:=[]) hs;obtain⟨ss,u,J⟩:=bx0 (q:(strsOf ls).bind _=some d)
    .have J:=J
     split at J
     .rename_i hz
      cases J;intro K s σ H Q I z;obtain⟨S,P,G,E,k⟩:=z;refine cZ (gO c.calm) L.g L.m dP (pa_cons (cq (wV (kdS X.prog X.w) V.str (λb b=>(λq=>qv (f:=V.str) (λb b q=>q) q)) c.calm) M.g M.m iG ha M.n M.d st rfl) pa_nil rfl) L.n L.d rfl rfl K s σ H Q I ?_;refine(S,P,G,E,λvs Z T N r1=>?_);obtain⟨v,rfl,hv⟩:=r1.one;obtain⟨r,ws,rfl,t,o⟩:=hv.lst N.gh;obtain⟨rfl,W⟩:=pX u o;refine(r,ss,rfl,SqL.of t,hz,λl D hl nd U j0=>?_);refine(l,D,rfl,aa,by lia,λr2 j1 R B so=>?_);have e:=dM (uz so (B.nodup_iff.mpr nd)) (bj ss) λy=>B.mem_iff.trans ((U y).trans (mem_srtS ss y).symm)
      subst e;have F:Ext Z T Z (upd T l (.ext (jc (kdS X.prog X.w) l D))):=.hid N.gh hl;erw[k _ _ _ (N.trans (F.trans (.laid F.gh R))) (.list aa ((pY λx hx=>W x ((mem_srtS ss x).mp hx)).mono (Same.refl _)))]
     .cases J)
def Ds(c:CxC X C)(w:Wz X Φ Γ C k)(J:f="sorted")(K:ah C f=true)(hs:(!isStar a)=true)(A:SdE X Φ Γ a a' na):SdE X Φ Γ (.Call (.Name f p) [a] [] pos) (.srtn a') false:=ba (λb b=>rfl) λY d q=>by
 subst J;obtain⟨x,L,q⟩:=bS q;cases x with
 |list ls=>exact sO (aO c w K (by simp[bltNames])) (A.r L) q (nt hs)
 |_=>cases q
def Hn{g K:Str}{sp qp sp2 qp2 q3}(c:CxC X C)(w:Wz X Φ Γ C k)(L:f="sorted")(M:ah C f=true)(h:g="set"/\K="set")(J:ah C g=true)(hs:(!isStar a&&!isStar b)=true)(A:SdE X Φ Γ a a' na)(B:SdE X Φ Γ b b' nb):SdE X Φ Γ (.Call (.Name f p) [.BinOp (.Call (.Name g sp) [a] [] qp) .BitOr (.Call (.Name K sp2) [b] [] qp2) q3] [] pos) (.sor a' b') false:=ba (λe e=>rfl) λY d q=>by
 obtain⟨rfl,rfl⟩:=h;subst L;obtain⟨x,N,q⟩:=bS q;obtain⟨y,O,q⟩:=bS q;erw[wZ c.calm (aO c w M (by simp[bltNames])) (aO c w J (by simp[bltNames])) q (A.r N) (B.r O) (nt (a2 hs).1) (nt (a2 hs).2)]
def Ho(c:CxC X C)(w:Wz X Φ Γ C k)(Z:f="list")(T:ah C f=true)(hs:(!isStar a)=true)(A:SdE X Φ Γ a a' na):SdE X Φ Γ (.Call (.Name f p) [a] [] pos) (.lsk a') true:=sC (λb b=>rfl) λY d q=>by
 subst Z;obtain⟨x,P,q⟩:=bS q;exact (by
   have B:=(aO c w T (by simp[bltNames]));have W:=(A.r P);have hs:=(nt hs);have R:aL [a]:=λx F=>by cases F with|head=>exact hs|tail _ z=>cases z
   have O:Ea X Y [true,true,true] [a] [x]:=pQ W rfl ir hs;cases x with
   |fdc D=>
    obtain⟨ss,K,rfl⟩:=mS (q:(cz D).map _=some d);refine jP B (sQ c.calm) PyProof.Rows.boot_list O R λU G H Q s r k=>?_
    obtain⟨v,rfl,L⟩:=r.one;obtain⟨q,S,N,rfl,V,M⟩:=L.fdc s;exact(q,S,N,ss,rfl,V,M.keys.symm.trans (cD K).1,λl J=>k l G _ (.hid s J) (s.free J) J (_,_,rfl,aa,(pY (cD K).2)))
   |list ls=>
    cases q;refine jP B fZ PyProof.Rows.boot_list O R λU G H Q s r k=>?_
    obtain⟨v,rfl,L⟩:=r.one;obtain⟨q,N,rfl,K,M⟩:=L.lst s;exact(q,N,rfl,.inl (SqL.of K),λl J=>k l G _ (.hid s J) (s.free J) J (_,_,rfl,aa,M))
   |tuple ls=>
    cases q;refine jP B fZ PyProof.Rows.boot_list O R λU G H Q s r k=>?_
    obtain⟨v,rfl,L⟩:=r.one;obtain⟨q,N,rfl,K,M⟩:=L.tup s;exact(q,N,rfl,.inr (SqT.of K),λl J=>k l G _ (.hid s J) (s.free J) J (_,_,rfl,aa,M))
   |_=>cases q)
def Hq(c:CxC X C)(w:Wz X Φ Γ C k)(W:f="dict")(Z:ah C f=true)(hs:(!isStar a)=true)(A:SdE X Φ Γ a a' na):SdE X Φ Γ (.Call (.Name f p) [a] [] pos) (.fdc a') false:=ba (λb b=>rfl) λY d q=>by
 subst W;obtain⟨x,D,q⟩:=bS q;cases x with
 |list ls=>
  obtain⟨ps,h,rfl⟩:=mS (q:(pairsOf ls).map _=some d);exact (by
    have B:=(aO c w Z (by simp[bltNames]));have V:=(A.r D);have hs:=(nt hs);intro K s j H Q I R;obtain⟨N,O,G,E,k⟩:=R;refine cq (sM c.calm) B.g B.m si (pa_cons V pa_nil (starEach_cons hs)) B.n B.d (starEach_cons hs) rfl K s j H Q I (N,O,G,E,λv z u J L=>?_);obtain⟨q,P,rfl,U,L⟩:=L.lst J.gh;obtain⟨S,T,F⟩:=pT J.gh L h;exact(q,P,S,rfl,U,T,λl t M=>k _ _ _ (J.trans (.laid J.gh M)) (.fdc aa ((Dks.merge F .nil List.nodup_nil).mono (aG (J.gh.free M))))))
 |_=>cases q
def JZ{b}(c:CxC X C)(w:Wz X Φ Γ C k)(J:ah C f=true)(h:pM f=some b)(A:SdA X Φ Γ (a::as) as'):SdE X Φ Γ (.Call (.Name f p) (a::as) [] pos) (.bi b as') false:=ba (λe e=>rfl) λY d q=>by
 obtain⟨L,K,q⟩:=bS q;exact yA c.calm (aO c w J ((by
   unfold pM at h
   repeat' split at h
   all_goals first|grind|(subst_vars;simp[bltNames])))) h q (A.r K) A.s
def zZ{m}{vc}(w:Wz X Φ Γ C k)(h:C.vc=some vc)(M:C.vms.contains m=true)(J:(!bu a&&decide (as.length<=20)&&(apos.endLine==pos.line))=true)(O:SdE X Φ Γ a a' na)(A:SdA X Φ Γ as as'):SdE X Φ Γ (.Call (.Attribute a m apos) as [] pos) (.vcall vc m a' as') false:=ba (λb b=>rfl) λY d q=>by
 obtain⟨x,R,q⟩:=bS q;obtain⟨N,q⟩:=iB q;obtain⟨V,U,q⟩:=bS q;obtain⟨W,K,q⟩:=bS q;obtain⟨L,q⟩:=iB q;obtain⟨Z,T,rfl⟩:=pL N;erw[yY (w.vf vc m h M V U) (w.vc vc h).1 w.room (O.r R) (A.r K) L q A.s (λe=>ez0 (by rw[A.l K,e];rfl)) (lV (nt (a2 (a2 J).1).1) A.s (od0 (a2 (a2 J).1).2) (a2 J).2)]
def Ka{m}{g}(h:uf m=some g)(J:(!bu a&&!isStar b&&(apos.endLine==pos.line))=true)(O:SdE X Φ Γ a a' na)(A:SdE X Φ Γ b b' nb):SdE X Φ Γ (.Call (.Attribute a m apos) [b] [] pos) (.me g a' (.cons b' .nil)) (frM g):=eA (λc c=>rfl) λY d q=>by
 obtain⟨x,K,q⟩:=bS q;obtain⟨R,L,q⟩:=bS q;obtain⟨y,M,N⟩:=bS (L);cases N;have:=yD h q (O.r K) (A.r M) (nt (a2 (a2 J).1).2) (nt (a2 (a2 J).1).1) (a2 J).2;exact(this.1,λz c=>this.2 (by cases g<;>first|rfl|cases z))
def Hr(w:Wz X Φ Γ C k)(g:m="get")(R:(!bu a&&!isStar b&&(apos.endLine==pos.line))=true)(O:SdE X Φ Γ a a' na)(A:SdE X Φ Γ b b' nb):SdE X Φ Γ (.Call (.Attribute a m apos) [b] [] pos) (.get a' b') false:=ba (λc c=>rfl) λY d q=>by
 subst g;obtain⟨x,q1,q⟩:=bS q;obtain⟨y,q2,q⟩:=bS q;cases x with
 |fdc o=>
  obtain⟨K,q3,rfl⟩:=mS (q:(pI y).map _=some d);exact (by
    have l:=(O.r q1);have z:=(A.v q2);have t:=(nt (a2 (a2 R).1).2);have J:=(nt (a2 (a2 R).1).1);have u:=(a2 R).2;intro L s σ H Q I j;obtain⟨W,Z,G,E,k⟩:=j;refine ym w.u1 l z (JV (base_of J) t u) L s σ H Q I (W,Z,G,E,λv B H1 M r1=>?_);obtain⟨q,ob,D,rfl,F,P⟩:=r1.fdc M.gh;refine(q,rfl,(D,.inr (_,F)),W,Z,B,E.step M,λw S T N r2=>(eg D K,by rw[cW (.of (H:=T) r2) q3];exact(_,_,.inr (_,N.hh _ _ F),rfl,rfl),k _ S T (M.trans N) ?_));rcases (P.mono N.gg).look (k:=K)with⟨U,V⟩|⟨d,v,U,V,z3⟩
    .rw[U,V];exact .none
    .rw[U,V];erw[z3])
 |_=>cases q
structure SdI(X:Cx)(Φ:Fs)(Γ:List (Str×D))(e:Expr)(src:I):Prop where
 w:∀{Y ds},evI Φ Γ .walk Y src=some ds->Si X Y true e ds
 r:∀{Y ds},evI Φ Γ .read Y src=some ds->Si X Y false e ds
 s:isSet e=false
def Hs(hs:(!isSet e)=true)(A:SdE X Φ Γ e a' na):SdI X Φ Γ e (.seq a'):=(λq=>by
 obtain⟨d,K,q⟩:=bS q;exact (have J:=(A.w K);yF q J),λq=>by
 obtain⟨d,K,q⟩:=bS q;exact (have J:=(A.r K);yF q J),nt hs)
def Ht(c:CxC X C)(w:Wz X Φ Γ C k)(M:f="range")(N:ah C f=true)(hs:(!isStar a)=true)(A:SdE X Φ Γ a a' na):SdI X Φ Γ (.Call (.Name f p) [a] [] pos) (.rng a'):=by
 subst M;have J:∀L {Y K},((ev Φ Γ .val Y a').bind λd=>(asI d).bind λn=>if rOk n then some ((List.range n.toNat).map λ(k:Nat)=>D.int k)else .none)=some K->Si X Y L (.Call (.Name _ p) _ [] pos) K:=λL b b q=>by
  obtain⟨d,R,q⟩:=bS q;obtain⟨i,U,q⟩:=bS q;obtain⟨O,rfl⟩:=iS q;obtain rfl:=cP U;erw[wH (aO c w N (by simp[bltNames])) (A.v R) O (nt hs)]
 exact(J _,J _,rfl)
def Dt{g:Str}{sp qp}(c:CxC X C)(w:Wz X Φ Γ C k)(N:f="reversed")(O:ah C f=true)(h:g="range")(K:ah C g=true)(hs:(!isStar a)=true)(A:SdE X Φ Γ a a' na):SdI X Φ Γ (.Call (.Name f p) [.Call (.Name g sp) [a] [] qp] [] pos) (.revr a'):=by
 subst N h;have J:∀M {Y L},((ev Φ Γ .val Y a').bind λd=>(asI d).bind λn=>if rOk n then some ((List.range n.toNat).reverse.map λ(k:Nat)=>D.int k)else .none)=some L->Si X Y M (.Call (.Name _ p) [.Call (.Name _ sp) _ [] qp] [] pos) L:=λM b b q=>by
  obtain⟨d,U,q⟩:=bS q;obtain⟨i,V,q⟩:=bS q;obtain⟨R,rfl⟩:=iS q;obtain rfl:=cP V;erw[CD (aO c w K (by simp[bltNames])) (aO c w O (by simp[bltNames])) (A.v U) R (nt hs)]
 exact(J _,J _,rfl)
def Du{p1 p2}{k1}(c:CxC X C)(w:Wz X Φ Γ C k)(N:f="range")(O:ah C f=true)(hs:(!isStar a&&!isStar b)=true)(A:SdE X Φ Γ a a' na)(B:SdE X Φ Γ b b' nb):SdI X Φ Γ (.Call (.Name f p) [a,b,.UnaryOp .USub (.Constant (.int 1) k1 p1) p2] [] pos) (.rngd a' b'):=by
 subst N;have J:∀M {Y K},((ev Φ Γ .val Y a').bind λx=>(ev Φ Γ .val Y b').bind λy=>(asI x).bind λi=>(asI y).bind λj=>if rOk i&&rOk j then some ((List.range (i-j).toNat).map λ(k:Nat)=>D.int (i-k))else .none)=some K->Si X Y M (.Call (.Name "range" p) [a,b,.UnaryOp .USub (.Constant (.int 1) k1 p1) p2] [] pos) K:=λM d d q=>by
  obtain⟨x,R,q⟩:=bS q;obtain⟨y,U,q⟩:=bS q;obtain⟨i,V,q⟩:=bS q;obtain⟨j,W,q⟩:=bS q;obtain⟨L,rfl⟩:=iS q;obtain rfl:=cP V;obtain rfl:=cP W;erw[wI (aO c w O (by simp[bltNames])) (A.v R) (B.v U) (a2 L).1 (a2 L).2 (nt (a2 hs).1) (nt (a2 hs).2)]
 exact(J true,J false,rfl)
def Hu(c:CxC X C)(w:Wz X Φ Γ C k)(j:f="reversed")(D:ah C f=true)(hs:(!isStar a)=true)(A:SdE X Φ Γ a a' na):SdI X Φ Γ (.Call (.Name f p) [a] [] pos) (.rev a'):=by
 subst j;refine(λq=>?_,λq=>?_,rfl)<;>(obtain⟨d,Q,q⟩:=bS q;obtain⟨P,S,rfl⟩:=mS q;obtain rfl:=(show d=.list P by
   cases d with
   |list=>cases S;rfl
   |_=>cases S))
 .exact (by
   have B:=(aO c w D (by simp[bltNames]));have Z:=(A.w Q);have hs:=(nt hs);intro z L s T H R I W;obtain⟨U,V,G,E,k⟩:=W;refine yH B Z hs _ s T H R I (U,V,G,E,λv N O K M=>?_);cases M with
   |of M=>cases M with
    |list J r=>exact(_,_,rfl,SqL.of (K.gh _ _ J),by rw[<-r.length];erw[k _ N O K (nN (λF g b=>SqL.of (g _ _ J)) r)])
   |list J r=>exact(_,_,rfl,SqL.of (((E.step K).ext.hh) _ _ J),by rw[<-r.length];erw[k _ N O K (nN (λF b g=>SqL.of (g _ _ J)) r)]))
 .exact (by
   have B:=(aO c w D (by simp[bltNames]));have Z:=(A.r Q);have hs:=(nt hs);intro z L s T H R I W;obtain⟨U,V,G,E,k⟩:=W;refine yH B Z hs _ s T H R I (U,V,G,E,λv N O K M=>?_);obtain⟨q,u,rfl,J,r⟩:=M.lst K.gh;exact(_,_,rfl,SqL.of J,by rw[<-r.length];erw[k _ N O K (nN (λF b g=>SqL.of (g _ _ J)) r)]))
structure SdR(X:Cx)(Φ:Fs)(Γ:List (Str×D))(tg e:Expr)(src:I):Prop where
 r:∀{Y ds},evI Φ Γ .read Y src=some ds->PI X tg e (tSi X.nk X.K Y false ds)
 s:isSet e=false
def SdI.sr{tg}{src}(h:SdI X Φ Γ e src):SdR X Φ Γ tg e src:=(λq=>h.r q tg,h.s)
def Dv{e3}{elts}{tk}{tpos}(c:CxC X C)(w:Wz X Φ Γ C k)(K:f="zip")(L:ah C f=true)(A:SdA X Φ Γ [a,b,e3] as'):SdR X Φ Γ (.Tuple elts tk tpos) (.Call (.Name f p) [a,b,e3] [] pos) (.zip as'):=(λq=>by
 subst K;obtain⟨ls,J,q⟩:=bS q;have l:=A.l J;rcases ls with _|⟨u,_|⟨v,_|⟨y,_|_⟩⟩⟩<;>first|(cases l;done)|skip
 cases u with
 |list x=>cases v with
  |list v=>cases y with
   |list z=>
    rw[Cq]at q;obtain⟨M,rfl⟩:=iS q;exact yP (dss:=[x,v,z]) (aO c w L (by simp[bltNames])) (A.r J) A.s @0 @0 (λN h=>by rcases N with _|⟨_,_|⟨_,_|⟨_,_|_⟩⟩⟩<;>first|(cases h;done)|exact⟨rfl,by kernel_rfl,λd=>rfl⟩) (by simp[M]) (x,by simp,rfl)
   |_=>cases q
  |_=>cases q
 |_=>(cases q),rfl)
def Hv{elts}{tk}{tpos}(c:CxC X C)(w:Wz X Φ Γ C k)(K:f="zip")(L:ah C f=true)(A:SdA X Φ Γ [a,b] as'):SdR X Φ Γ (.Tuple elts tk tpos) (.Call (.Name f p) [a,b] [] pos) (.zip as'):=(λq=>by
 subst K;obtain⟨ls,J,q⟩:=bS q;have l:=A.l J;rcases ls with _|⟨u,_|⟨v,_|_⟩⟩<;>first|(cases l;done)|skip
 cases u with
 |list x=>cases v with
  |list v=>
   rw[Cp]at q;obtain⟨M,rfl⟩:=iS q;exact yP (dss:=[x,v]) (aO c w L (by simp[bltNames])) (A.r J) A.s @0 @0 (λN h=>by rcases N with _|⟨_,_|⟨_,_|_⟩⟩<;>first|(cases h;done)|exact⟨rfl,by kernel_rfl,λd=>rfl⟩) (by simp[M]) (v,by simp,rfl)
  |_=>cases q
 |_=>(cases q),rfl)
end
section
structure Ce(C:Cs)(e:Expr) where
 f:E
 n:Bool
 ok:∀{Φ Γ k X},CxC X C->Wz X Φ Γ C k->SdE X Φ Γ e f n
structure Ca(C:Cs)(es:A3) where
 f:Es
 ok:∀{Φ Γ k X},CxC X C->Wz X Φ Γ C k->SdA X Φ Γ es f
structure Ci(C:Cs)(e:Expr) where
 f:I
 ok:∀{Φ Γ k X},CxC X C->Wz X Φ Γ C k->SdI X Φ Γ e f
structure Cr(C:Cs)(tg e:Expr) where
 f:I
 ok:∀{Φ Γ k X},CxC X C->Wz X Φ Γ C k->SdR X Φ Γ tg e f
structure Cb(C:Cs)(op:BoolOp)(es:A3) where
 f:E
 ok:∀{Φ Γ k X},CxC X C->Wz X Φ Γ C k->SdB X Φ Γ op es f
structure Co(C:Cs)(e:Option Expr) where
 f:Es
 ok:∀{Φ Γ k X},CxC X C->Wz X Φ Γ C k->SdO X Φ Γ e f
structure Ct(C:Cs)(ifs:A3) where
 f:Es
 ok:∀{Φ Γ k X},CxC X C->Wz X Φ Γ C k->∀{Y b},evC Φ Γ Y f=some b->Ecs X Y ifs b
structure Cc(C:Cs)(elt tg iter:Expr)(ifs:A3)(sc:Scope) where
 f:E
 ok:∀{Φ Γ k X},CxC X C->Wz X Φ Γ C k->∀{Y d},ev Φ Γ .val Y f=some d->∃ds out js,∃(t:Tg)(ifs':Es)(elt':E),d=.list out/\BlkOk X sc js/\PI X tg iter (tSi X.nk X.K Y false ds)/\ui X Φ Γ sc (aA X (bw tg) js) tg t ifs ifs' elt elt'/\jH t (bw tg).length=true/\ds.length<=sizeLine/\ay (gr Φ Γ (bw tg).length js t ifs' elt' Y) ds=some out/\∀x,foldedSetIterable iter X.env x=pure x
 fin:∀Φ Γ m Y,ev Φ Γ m Y f=SI.fin m (ev Φ Γ .val Y f)
variable (r:∀C e,Option (Ce C e))(C:Cs)
def cEs:(es:A3)->Option (Ca C es)
 |[]=>some (.nil,λa a=>Hh)
 |e::es=>chk (!isStar e) λh=>(r C e).bind λA=>(cEs es).map λR=>(.cons A.f R.f,λc w=>Do h (A.ok c w) (R.ok c w))
def cB(op:BoolOp):(es:A3)->Option (Cb C op es)
 |[]=>none
 |[a]=>(r C a).map λA=>(A.f,λc w=>Hd (A.ok c w))
 |a::b::es=>(r C a).bind λA=>(cB op (b::es)).map λB=>match op,B with
  |.And,B=>(.and A.f B.f,λc w=>zY (A.ok c w) (B.ok c w))
  |.Or,B=>(.or A.f B.f,λc w=>EL (A.ok c w) (B.ok c w))
def cBo(op:BoolOp)(a b:Expr)(es:A3)(pos:Pos):Option (Ce C (.BoolOp op (a::b::es) pos)):=(r C a).bind λA=>(cB r C op (b::es)).map λB=>match op,B with
 |.And,B=>(.and A.f B.f,false,λc w=>uG (zY (A.ok c w) (B.ok c w)) (λd=>rfl,λd=>rfl))
 |.Or,B=>(.or A.f B.f,false,λc w=>uG (EL (A.ok c w) (B.ok c w)) (λd=>rfl,λd=>rfl))
noncomputable def cO:(e:Option Expr)->Option (Co C e)
 |none=>some (.nil,λa a=>Dm)
 |some e=>(r C e).map λA=>(.cons A.f .nil,λc w=>Dn (A.ok c w))
noncomputable def cT:(es:A3)->Option (Ct C es)
 |[]=>some (.nil,λa a a a q=>by cases q;erw[ecs_nil])
 |[e]=>(r C e).map λA=>(.cons A.f .nil,λc w a a q=>by
  obtain⟨x,K,L⟩:=bS q;obtain⟨t,rfl,J⟩:=(A.ok c w).t K;cases L;erw[CI J])
 |_=>none
def cQ(e:Expr):Option (Ci C e):=chk (!isSet e) λh=>(r C e).map λA=>(.seq A.f,λc w=>Hs h (A.ok c w))
def cI:(e:Expr)->Option (Ci C e)
 |.Call (.Name f p) [a] [] pos=>if L:f="range" then chk (ah C f) λJ=>chk (!isStar a) λK=>(r C a).map λA=>(.rng A.f,λc w=>Ht c w L J K (A.ok c w))
  else if L:f="reversed" then (match a with
   |.Call (.Name g _) [b] [] _=>chk (ah C f) λJ=>eqS g "range" λh=>chk (ah C g) λM=>chk (!isStar b) λK=>(r C b).map λA=>(.revr A.f,λc w=>Dt c w L J h M K (A.ok c w))
   |a=>chk (ah C f) λJ=>chk (!isStar a) λK=>(r C a).map λA=>(.rev A.f,λc w=>Hu c w L J K (A.ok c w)))else cQ r C (.Call (.Name f p) [a] [] pos)
 |.Call (.Name f p) [a,b,.UnaryOp .USub (.Constant (.int 1) _ _) _] [] _=>if L:f="range" then chk (ah C f) λJ=>chk (!isStar a&&!isStar b) λK=>(r C a).bind λA=>(r C b).map λB=>(.rngd A.f B.f,λc w=>Du c w L J K (A.ok c w) (B.ok c w)) else none
 |e=>cQ r C e
def cRI(tg e:Expr):Option (Cr C tg e):=(cI r C e).map λA=>(A.f,λc w=>(A.ok c w).sr)
def cR:(tg e:Expr)->Option (Cr C tg e)
 |.Tuple L j q,.Call (.Name f p) [a,b] [] pos=>if J:f="zip" then chk (ah C f) λK=>(cEs r C [a,b]).map λA=>(.zip A.f,λc w=>Hv c w J K (A.ok c w)) else cRI r C (.Tuple L j q) (.Call (.Name f p) [a,b] [] pos)
 |.Tuple L j q,.Call (.Name f p) [a,b,d] [] pos=>if J:f="zip" then chk (ah C f) λK=>(cEs r C [a,b,d]).map λA=>(.zip A.f,λc w=>Dv c w J K (A.ok c w)) else cRI r C (.Tuple L j q) (.Call (.Name f p) [a,b,d] [] pos)
 |tg,e=>cRI r C tg e
def cCo(L tg iter:Expr)(ifs:A3)(sc:Scope):Option (Cc C L tg iter ifs sc):=(cR r C tg iter).bind λS=>got (yi C sc tg) λq h=>got (cTg q.1 tg) λt U=>chk (jH t q.2.1) λO=>(cT r q.1 ifs).bind λT=>(r q.1 L).map λA=>(.comp q.2.1 q.2.2 t S.f T.f A.f,λc w Y d z=>by
 obtain⟨B,nt,W⟩:=q;obtain⟨N,Z,z⟩:=bS z;obtain⟨V,z⟩:=iB z;obtain⟨M,F,rfl⟩:=mS z;have R:=nR c h;have e:=R.nt;subst e;exact(N,M,W,t,T.f,A.f,rfl,R.ok,(S.ok c w).r Z,(λA s H J=>qf (R.cx A s H J) U,λK s H J Y b z=>T.ok (R.cx K s H J) (w.blk R.same K s H J) z,λK s H J Y d z=>(A.ok (R.cx K s H J) (w.blk R.same K s H J)).v z),O,by rw[<-big_eq];erw[V],F,jk (S.ok c w).s),λa a m Y=>by cases m<;>rfl)
def Hw{elt tg iter}{ifs}{sc}{pos}(A:Cc C elt tg iter ifs sc){Φ}{Γ}{k}{X}(c:CxC X C)(w:Wz X Φ Γ C k):SdE X Φ Γ (.ListComp elt [(tg,iter,ifs,0)] sc pos) A.f true:=sC (A.fin _ _) λY d q=>by
 obtain⟨Z,W,T,t,K,J,rfl,L,M,N,O,R,U,V⟩:=A.ok c w q;erw[uj L c.calm M N O R U V]
def cBi(f:Str)(p:Pos)(a:Expr)(J:A3)(pos:Pos)(K:ah C f=true):Option (Ce C (.Call (.Name f p) (a::J) [] pos)):=got (pM f) λb h=>(cEs r C (a::J)).map λA=>(.bi b A.f,false,λc w=>JZ c w K h (A.ok c w))
def cSd(f:Str)(p:Pos)(a:Expr)(pos:Pos)(K:ah C f=true)(J:f="sorted"):Option (Ce C (.Call (.Name f p) [a] [] pos)):=chk (!isStar a) λL=>(r C a).map λA=>(.srtn A.f,false,λc w=>Ds c w J K L (A.ok c w))
def Kb(f:Str)(p:Pos)(K:A3)(pos:Pos):Option (Ce C (.Call (.Name f p) K [] pos)):=chk (ah C f) λL=>
 if J:C.fns.contains f=true then (match K with
  |[]=>none
  |a::K=>(cEs r C (a::K)).map λA=>(.call f A.f,false,λc w=>Dq c w J L (A.ok c w)))
 else if J:f="isinstance" then (match K with
  |[a,.Name t _]=>chk (ah C t&&!isStar a) λR=>(r C a).bind λA=>got (yh t) λT h=>some (.isi A.f T,false,λc w=>Hl c w J L h R (A.ok c w))
  |_=>none)
 else match K with
  |[]=>none
  |a::K=>if J:f="sorted" then (match a,K with
    |.Call (.Name g W) [b] [] U,[]=>if h:g="set" then chk (ah C g) λM=>(cEs r C [b]).map λA=>(.bi .srt A.f,false,λc w=>Hm c w J L h M (A.ok c w)) else cSd r C f p _ pos L J
    |.BinOp (.Call (.Name g W) [b] [] U) .BitOr (.Call (.Name O Z) [d] [] V) F,[]=>if h:g="set"/\O="set" then chk (ah C g) λM=>chk (!isStar b&&!isStar d) λN=>(r C b).bind λA=>(r C d).map λB=>(.sor A.f B.f,false,λc w=>Hn c w J L h M N (A.ok c w) (B.ok c w)) else none
    |a,[]=>cSd r C f p a pos L J
    |_,_=>none)
   else if J:f="dict" then (match K with
    |[]=>chk (!isStar a) λN=>(r C a).map λA=>(.fdc A.f,false,λc w=>Hq c w J L N (A.ok c w))
    |_=>none)
   else if J:f="list" then (match K with
    |[]=>chk (!isStar a) λN=>(r C a).map λA=>(.lsk A.f,true,λc w=>Ho c w J L N (A.ok c w))
    |_=>none)
   else cBi r C f p a K pos L
def cMe(o:Expr)(m:Str)(apos:Pos)(K:A3)(pos:Pos):Option (Ce C (.Call (.Attribute o m apos) K [] pos)):=(r C o).bind λO=>
 if L:C.vms.contains m=true then got C.vc λM h=>chk (!bu o&&decide (K.length<=20)&&(apos.endLine==pos.line)) λJ=>(cEs r C K).map λA=>(.vcall M m O.f A.f,false,λc w=>zZ w h L J (O.ok c w) (A.ok c w))
 else match K with
  |[a]=>if L:m="get" then chk (!bu o&&!isStar a&&(apos.endLine==pos.line)) λJ=>(r C a).map λA=>(.get O.f A.f,false,λc w=>Hr w L J (O.ok c w) (A.ok c w)) else got (uf m) λg h=>chk (!bu o&&!isStar a&&(apos.endLine==pos.line)) λJ=>(r C a).map λA=>(.me g O.f (.cons A.f .nil),frM g,λc w=>Ka h J (O.ok c w) (A.ok c w))
  |_=>none
def cTb(e:Expr)(pos:Pos)(b:Expr):Option (Ce C (.Subscript e b pos)):=match e with
 |.Subscript (.Name x K) a L=>got (dU C x) λi h=>if C.tb=some i then chk (!isSlice a&&!isSlice b) λJ=>(r C a).bind λA=>(r C b).map λB=>(.idx2 i A.f B.f,false,λc w=>Dl (bc c h) J (A.ok c w) (B.ok c w)) else none
 |_=>none
def MA(a:Expr)(pos:Pos):(i:Expr)->Option (Ce C (.Subscript a i pos))
 |.Slice lo J none _=>(r C a).bind λA=>(cO r C lo).bind λL=>(cO r C J).map λH=>(.sl A.f L.f H.f,true,λc w=>JY (A.ok c w) (L.ok c w) (H.ok c w))
 |i=>if let some z:=cTb r C a pos i then some z else chk (!isSlice i) λh=>(r C a).bind λA=>(r C i).map λI=>(.idx A.f I.f,false,λc w=>Hg w h (A.ok c w) (I.ok c w))
def Kc:(e:Expr)->Option (Ce C e)
 |.Constant (.int i) _ _=>some (.k (.int i),false,λd d=>Dj (λd=>yn) λd=>rfl)
 |.Constant (.str x) _ _=>chk (jD x) λh=>some (.k (.str x),false,λd d=>Dj (λd=>Gw (qc h)) λd=>rfl)
 |.Constant (.bool b) _ _=>some (.k (.bool b),false,λd d=>Dj (λd=>JI) λd=>rfl)
 |.Constant .none _ _=>some (.k .none,false,λd d=>Dj (λd=>Gv) λd=>rfl)
 |.Name x _=>match h:dU C x with
  |some i=>some (.v i,false,λc d=>GY (bc c h))
  |none=>chk (ah C x) λh=>chk (C.cst.contains x) λd=>some (.g x,false,λc w=>Mz c w h)
 |.BinOp a op b _=>got (cOp op) λo h=>(r C a).bind λA=>(r C b).map λB=>(.op o A.f B.f,true,λc w=>JX h (A.ok c w) (B.ok c w))
 |.UnaryOp .USub a _=>(r C a).map λA=>(.neg A.f,false,λc w=>GZ (A.ok c w))
 |.UnaryOp .Not a _=>(r C a).map λA=>(.not A.f,false,λc w=>Ha (A.ok c w))
 |.Compare a [op] [b] _=>got (rW op) λo h=>chk (!isSet b) λK=>(r C a).bind λA=>(r C b).map λB=>(.cmp o A.f B.f,false,λc w=>Hc w h K (A.ok c w) (B.ok c w))
 |.Compare a [op,M] [b,e] _=>got (rW op) λo h=>got (rW M) λV R=>chk (!isSet e) λK=>(r C a).bind λA=>(r C b).bind λB=>(r C e).map λE=>(.chain o V A.f B.f E.f,false,λc w=>zX w h R K (A.ok c w) (B.ok c w) (E.ok c w))
 |.BoolOp op (a::b::J) pos=>cBo r C op a b J pos
 |.IfExp t a b _=>(r C t).bind λT=>(r C a).bind λA=>(r C b).map λB=>(.ite T.f A.f B.f,false,λc w=>He (T.ok c w) (A.ok c w) (B.ok c w))
 |.Call g N [] pos=>match g with
  |.Name f p=>Kb r C f p N pos
  |.Attribute o m apos=>cMe r C o m apos N pos
  |_=>none
 |.Attribute o x _=>eqS x "objects" λU=>got C.vc λF h=>chk (!bu o) λK=>(r C o).map λO=>(.vob F O.f,false,λc w=>Hf w h K U (O.ok c w))
 |.Subscript a i pos=>MA r C a pos i
 |.List J _=>(cEs r C J).map λA=>(.lst A.f,true,λc w=>Hi (A.ok c w))
 |.Dict [] [] _=>some (.fd0,false,λd d=>Hk)
 |.Tuple J _ _=>(cEs r C J).map λA=>(.tup A.f,false,λc w=>Hj (A.ok c w))
 |.ListComp L [⟨Z,iter,ifs,0⟩] W _=>(cCo r C L Z iter ifs W).map λA=>(A.f,true,λc w=>Hw C A c w)
 |_=>none
end
noncomputable def cE:Nat->(C:Cs)->(e:Expr)->Option (Ce C e)
 |0=>λa a=>none
 |n+1=>Kc (cE n)
theorem qD{f}(K:∀d o,f d=some o->o≠none):∀{ds out:List D},ay f ds=some out->ds.length=out.length/\∀(i:Nat) d,ds[i]?=some d->∃x,f d=some (some x)/\out[i]?=some x
 |[],out,h=>by cases h;exact(rfl,λi d e=>by simp at e)
 |d::r,out,h=>by
  obtain⟨o,J,h⟩:=bx0 (h);obtain⟨q,M,N⟩:=mx0 h;cases o with
  |none=>exact absurd rfl (K d _ J)
  |some x=>
   subst N;obtain⟨a,b⟩:=qD K M;refine(by simp[a],λi L e=>?_);cases i with
   |zero=>simp at e;subst e;exact(x,J,rfl)
   |succ i=>simpa using b i L (by simpa using e)
section
variable {ν:NK}{K:Fg}{G0:Bs}{H0 G' H':Hp}{σ:St}
def EnvD.setIo{i}{d}{x}{fp}(E:EnvD ν K G0 H0 G H σ Y)(C:i<σ.length)(B:Y[i]?=some .fr)(R:∀(j:Nat) d,Y[j]?≠some (.io d))(io:IoAt ν K G H d x fp)(F:∀b∈fp,G b=none/\H0 b=none)(S:∀(j:Nat) e q,Y[j]?=some (.own e)->σ[j]?=some (some (.ref q))->q∉fp):
  EnvD ν K G0 H0 G H (σ.set i (some (.ref x))) (Y.set i (.io d)):=by
 refine(E.ext,by simp[E.len],λj d J=>?_,λj d J=>?_,λj d J=>?_,λj k d e q J M W L=>?_,λj T J=>?_,λj k T e J M=>?_,λj J=>E.io.fr j (getE_io J @0).2)
 .obtain⟨O,z⟩:=getE_io J @0
  rw[gn0 (Ne.symm O)];erw[E.dat j d z]
 .obtain⟨O,z⟩:=getE_io J @0
  rw[gn0 (Ne.symm O)];erw[E.lent j d z]
 .obtain⟨O,z⟩:=getE_io J @0
  rw[gn0 (Ne.symm O)];erw[E.own j d z]
 .obtain⟨Q,P⟩:=getE_io J @0
  obtain⟨U,V⟩:=getE_io M @0;rw[gn0 (Ne.symm Q)]at W;rw[gn0 (Ne.symm U)]at L;erw[E.apart j k d e q P V W L]
 .rcases getE_set J with⟨rfl,z⟩|⟨_,z⟩
  .cases z
   refine(x,fp,gs0 C,io,F,λz Z=>(by rw[E.io.fr j B]at Z;cases Z),λk e q M L=>?_);obtain⟨U,V⟩:=getE_io M @0;rw[gn0 (Ne.symm U)]at L;erw[S k e q V L]
  simp_all
 .have N:∀{j:Nat}{e:D},(Y.set i (.io d))[j]?=some (.io e)->j=i:=λJ=>(getE_set J).elim (·.1) λ⟨_,z⟩=>absurd z (R _ _)
  rw[N J,N M]
def RowsAt.ext{rows}{qs}(e:Ext G H G' H')(r:RowsAt K G H rows qs):RowsAt K G' H' rows qs:=r.mono e.gg e.hh
end
section
variable {c e elt iter tg:Expr}{p pos':Pos}{d:D}{ds:List D}
variable {scope:Scope}{tn:A1}{js:List Nat}{t:Tg}{elt':E}{rows:List (List D)}
structure Aa(X:Cx)(Φ:Fs)(Γ:List (Str×D))(scope:Scope)(N:A1)(tg:Expr)(t:Tg)(elt:Expr)(elt':E):Prop where
 tgt:∀(C:Addr)(s:Shared)(H:Hp)(fp:A4),Tgj (L2.C.blk X scope N C s H fp) tg t
 elt:∀(C:Addr)(s:Shared)(H:Hp)(fp:A4) Y d,ev Φ Γ .val Y elt'=some d->cA d=true->En (L2.C.blk X scope N C s H fp) Y elt d
def xa{σ}{G0}{H0 G1 H1}{J}{Q:VK}(hi:fC X.K G1 H1 J ds)(T:Aa X Φ Γ scope @7 tg t elt elt')(ht:jH t tn.length=true)(hz:ds.length<=sizeLine)(E:EnvD X.nk X.K G0 H0 G1 H1 σ Y)
  (z0:ay (gr Φ Γ tn.length js t .nil elt' Y) ds=some (rows.map .list))
  (k:∀q qs U L,Ext G1 H1 U L->(q::qs).Nodup->(∀b∈q::qs,U b=none/\H1 b=none)->L q=some (.lst (qs.map .ref))->RowsAt X.K U L rows qs->Q (.ref q) L):
  ∀q,H1 q=none->∃W:Nat->Nat->St->Hp->Prop,(∃m,W 0 m (gc tn js σ) (upd H1 q (.lst [])))/\∀i m N L,W i m N L->
   (J.stop i L/\Q (.ref q) L)\/(J.go i L/\∀v H2,J.yld i L v H2->tgC X scope @7 tg v N H2 λR H3=>tcC X scope @7 [] R H3 λb H4=>
    if b=true then teC X scope @7 elt R H4 λy H5=>∃ys,H5 q=some (.lst ys)/\ys.length<sizeLine/\∃m',m'<m/\W (i+1) m' R (upd H5 q (.lst (ys++[y])))else ∃m',m'<m/\W (i+1) m' R H4):=by
 intro q O;have z6:dh (SI.blk tn.length js Y):=aX;have j2:∀d o,gr Φ Γ tn.length js t .nil elt' Y d=some o->o≠none:=λd o h=>by
  obtain⟨f,_,h⟩:=bx0 h;obtain⟨x,_,rfl⟩:=mx0 (h:(ev Φ Γ .val f elt').map some=some o);intro z;cases z
 obtain⟨j5,y3⟩:=qD j2 z0;rw[lm0]at j5;refine(λi m N L=>m=ds.length-i/\i<=ds.length/\∃U qs,EnvD X.nk X.K (G1,none) H1 U L N (SI.blk tn.length js Y)/\L q=some (.lst (qs.map .ref))/\(q::qs).Nodup/\(∀b∈q::qs,U b=none/\H1 b=none)/\RowsAt X.K U L (rows.take i) qs,
  (ds.length,by simp,Nat.zero_le _,G1,[],?_,aa,by simp,λb hb=>by obtain rfl:=List.mem_singleton.mp hb;exact(E.sub.free O,O),by simp,λk g x h a=>by simp at h),?_)
 .exact (E.blk (tn:=tn) (js:=js)).touch z6 (E.sub.free O) O
 .rintro i m N L ⟨rfl,q0,U,qs,Z,S,z5,B,r'⟩
  have z9:=(B q ms0).1;have sm:=Z.ext.gg.trans Z.sub
  by_cases j0:i<ds.length
  .refine .inr (hi.go i L j0 sm Z.ext.hh,λv H2 y=>?_)
   have hb:=ge0 j0;generalize ds[i]=dd at hb;obtain⟨x,V,hx⟩:=y3 i dd hb;rw[gm0,Option.map_eq_some_iff]at hx;obtain⟨g,j9,rfl⟩:=hx;obtain⟨f,j4,V⟩:=bx0 V;obtain⟨w0,hw,V⟩:=mx0 (V:(ev Φ Γ .val f elt').map some=some (some (D.list g)));cases V;obtain⟨l1,l2,l3⟩:=iz ht j4;obtain⟨G2,e2,d2⟩:=hi.yld i U L v H2 dd hb Z.ext.gg Z.sub Z.ext.hh y;have j8:=e2.hh _ _ S;have y0:=e2.nw _ _ z9 S;have P:qs.length=i:=by rw[<-r'.1,List.length_take];simp_all
   have back:∀{G3 H3:Hp}{z8:St},EnvD X.nk X.K (G1,none) H1 G3 H3 z8 f->EnvD X.nk X.K (G1,none) H1 G3 H3 z8 (SI.blk tn.length js Y):=λE3=>E3.forget l1.symm λj sl hj=>by
    by_cases q1:j<tn.length
    .left
     rcases blk_at hj with z|⟨_,_,z,_⟩
     .erw[z]
     .grind
    .right;rw[l2 j @6];erw[hj]
   intro C s0 F fp M s u I rv;refine T.tgt C s0 F fp dd M s N H2 v u _ I rv ((G1,none),H1,G2,_,f,Z.step e2,d2,j4,λR E2=>?_);intro C s0 F fp M s I;refine ecs_nil (Y:=f) M s _ H2 _ I ((G1,none),H1,G2,E2,λG3 H3 l=>?_);have j1:=l.hh _ _ j8;have y1:=l.nw _ _ y0 j8;refine iteT ?_;intro C s0 F fp M s I;refine T.elt C s0 F fp f _ hw rfl M s _ H3 _ I ((G1,none),H1,G3,E2.step l,λp' G4 H4 e4 g4 h4 o4=>?_);have j3:=e2.trans (l.trans e4);have y4:=e4.hh _ _ j1;have E4:=back ((E2.step l).step e4);have r4:=r'.ext j3;have r3:=r'.ext (e2.trans l);have y2:=(E2.step l).ext.hh.free h4
   have j6:p'≠q:=λz=>by rw[z,j1]at h4;cases h4
   have j7:p'∉qs:=λz=>by
    obtain⟨o,V⟩:=r3.some p' z;rw[h4]at V;cases V
   obtain⟨n1,n2⟩:=List.nodup_cons.mp z5;obtain⟨vs,ov,od⟩:∃vs,H4 p'=some (.lst vs)/\Dps X.K G4 g vs:=by
    obtain⟨y9,vs,z1,z2,z3⟩:=o4;cases z1;exact(vs,z2,z3)
   refine(qs.map .ref,y4,by rw[lm0,P];erw[nt0 ‹_› ‹_›],ds.length-(i+1),by grind,rfl,j0,G4,qs++[p'],E4.touch z6 (e4.nw _ _ y1 j1) O,by rw[List.map_append];erw[aa],?_,λb hb=>?_,?_)
   .refine List.nodup_cons.mpr (λz=>?_,?_)
    .rcases ma0 z with z|z
     .erw[n1 z]
     .erw[j6 (List.mem_singleton.mp z).symm]
    .refine List.nodup_append.mpr (n2,by simp,λu hu w' y6=>?_)
     rw[List.mem_singleton.mp y6]
     rintro rfl
     erw[j7 hu]
   .have z7:b∈q::qs->G4 b=none/\H1 b=none:=λhb=>by
     refine(?_,(B b hb).2);obtain⟨o,V⟩:∃o,L b=some o:=by
      rcases mq0 hb with rfl|hb
      .exact(_,S)
      .erw[r'.some b hb]
     erw[j3.nw _ _ (B b hb).1 V]
    rcases mq0 hb with rfl|hb
    .erw[z7 ms0]
    .rcases ma0 hb with hb|hb
     .erw[z7 (mc0 _ hb)]
     .obtain rfl:=List.mem_singleton.mp hb
      exact(g4,y2)
   .have tk:rows.take (i+1)=rows.take i++[g]:=by rw[List.take_add_one,j9];rfl
    rw[tk];have y5:(rows.take i).length=i:=by rw[r'.1];erw[P]
    refine(by rw[la0,la0,r4.1];rfl,λn y7 x h1 h2=>?_)
    by_cases hn:n<i
    .rw[gl0 @6]at h1 h2
     obtain⟨y8,z3,z4⟩:=r4.2 n y7 x h1 h2;refine(y8,?_,z4);rw[ab (λz=>n1 (z▸mg0 h2):x≠q)];erw[z3]
    .have:n=i:=by
      have:=(gi0 h2).1;rw[la0,P]at this;simp at this
      lia
     subst this;rw[List.getElem?_append_right @1,y5,Nat.sub_self]at h1;rw[List.getElem?_append_right @1,P,Nat.sub_self]at h2;cases h1;cases h2;exact(vs,by rw[ab j6];erw[ov],od)
  .have e:i=ds.length:=by lia
   subst e;rw[List.take_of_length_le @1]at r';exact .inl (hi.stop L sm Z.ext.hh,k q qs U L Z.ext z5 B S r')
def Dw(S:Sto X x i)(B:BlkOk X scope js)(O:X.calm=true)(hi:PI X tg iter (tSi X.nk X.K Y false ds))
  (T:Aa X Φ Γ scope @7 tg t elt elt') (ht:jH t tn.length=true) (hz:ds.length<=sizeLine) (l:ay (gr Φ Γ tn.length js t .nil elt' Y) ds=some (rows.map .list)) (hs:∀x,foldedSetIterable iter X.env x=pure x)
  (hf:Y[i]?=some .fr) (j0:∀(j:Nat) d,Y[j]?≠some (.io d)) (U:swapsWith (.ListComp elt [(tg,iter,[],0)] scope p) (some (.Name x pos')) pos.line X.env=pure false\/X.env.scope.names.lookup x=some .local/\swapsWith (.ListComp elt [(tg,iter,[],0)] scope p) (some (.Name x pos')) pos.line X.env=pure true):
  E1 X Y (.Assign [.Name x pos'] (.ListComp elt [(tg,iter,[],0)] scope p) pos) (.nx (Y.set i (.io (.tbl rows)))):=by
 intro L s σ H F I h;obtain⟨G0,H0,G,env,R⟩:=h;have k:∀{J}{P E:Hp},Ext G H P E->fC X.K P E J ds->_:=λ{J P E} D f=>xa (Q:=λv Z=>F.nx (σ.set i (some v)) Z) f T ht hz (env.step D) l λq qs G' Z e2 nd fr h2 r=>by
  refine R G' Z _ (((env.step D).step e2).setIo (S.lt I) hf j0 (.inr (.inr (rows,qs,rfl,rfl,nd,h2,r))) (λb hb=>((fr b hb).1,(env.step D).ext.hh.free (fr b hb).2)) λj e q' hj hq hm=>?_) (D.gg.trans e2.gg);obtain⟨q2,a1,_,_,a4⟩:=(env.step D).own j e hj;rw[hq]at a1;cases a1;obtain⟨o,ho⟩:=a4.some;rw[(fr _ hm).2]at ho;cases ho
 rcases U with U|⟨hy,U⟩
 .refine hV S.nd S.nm.at' S.nm.loc (nF (tn:=tn) (js:=js) (g:=tgC X scope @7 tg) (tc:=tcC X scope @7 []) (te:=teC X scope @7 elt) B O hi
   (λC s H N L V W Z v u z M r h=>h C s H N L V u M r) (λC s H N L V W Z z M h=>h C s H N L V M) (λC s H N L V W Z z M h=>h C s H N L V M) hs) U S.nm.fn L s σ H F I ?_
  exact(G0,H0,G,env,λJ P E D f=>k D f)
 .refine ud (tn:=tn) (js:=js) (g:=tgC X scope @7 tg) (tc:=tcC X scope @7 []) (te:=teC X scope @7 elt) B O hi
   (λC s H N L V W Z v u z M r h=>h C s H N L V u M r) (λC s H N L V W Z z M h=>h C s H N L V M) (λC s H N L V W Z z M h=>h C s H N L V M) S.nd S.nm.at' hy U hs L s σ H F I ?_
  exact(G0,H0,G,env,λJ P E D f=>k D f)
def swaps_sub2{o k}{env}{spos}:swapsWithSole [.Subscript o k spos] e pos.line env=pure false:=by
 cases e<;>rfl
def swapped_sub2{o k}{env}{spos}:swappedStores [.Subscript o k spos] e env=pure .none:=rfl
def Ab{K}{G H}{rs}{qs}{row}{vs}{k l}{q}{d}{v}(r:RowsAt K G H rs qs)(W:qs.Nodup)(U:rs[k]?=some row)(M:qs[k]?=some q)(h:Dps K G row vs)(V:Dp K G d v):RowsAt K G (upd H q (.lst (vs.set l v))) (rs.set k (row.set l d)) qs:=by
 refine(by rw[List.length_set];erw[r.1],λn N Z J L=>?_);rw[List.getElem?_set]at J
 by_cases c:k=n
 .subst c
  rw[M]at L;cases L;rw[if_pos rfl,if_pos (gi0 U).1]at J;cases J;exact(_,aa,h.set V l)
 .rw[if_neg c]at J
  obtain⟨T,a,b⟩:=r.2 n _ Z J L;refine(T,?_,b);rw[ab]
  .erw[a]
  .rintro rfl
   obtain⟨F,O⟩:=gi0 M;obtain⟨D,R⟩:=gi0 L;erw[c ((List.getElem_inj W).mp (O.trans R.symm))]
set_option tactic.hygienic true in
def Dx{n1 n2}{k l}{row}{p1 p2 spos}(V:VarOk X x i)(h:Ev X Y e d)(ha:Ev X Y a (.int n1))(O:Ev X Y b (.int n2))(S:isSlice a=false)(P:isSlice b=false)(ho:Y[i]?=some (.io (.tbl rows)))(hk:SI.ixN rows.length n1=some k)(j:rows[k]?=some row)(hl:SI.ixN row.length n2=some l):
  E1 X Y (.Assign [.Subscript (.Subscript (.Name x p1) a p2) b spos] e pos) (.nx (Y.set i (.io (.tbl (rows.set k (row.set l d)))))):=by
 intro D s σ H F I h0;obtain⟨B,C,G,Z,R⟩:=h0;refine jy h (nh (pB fY V.pe ha (jV S)) O set_list ((by
   intro v;cases b<;>first|rfl|cases P))) swaps_sub2 swapped_sub2 rfl D s σ H F I ?_
 refine(B,C,G,Z,λv G1 H1 e1 r1=>?_);have E1:=Z.step e1;obtain⟨t,fp,ht,io,fr,j0,ow⟩:=E1.io.at' i _ ho;refine(.ref t,ht,B,C,G1,E1,λu G2 H2 Q r2=>?_);cases r2;rcases io with⟨_,_,z,_⟩|⟨_,_,_,_,_,_,z,_⟩|⟨rs,N,z,rfl,q,K,L⟩
 .cases z
 .cases z
 .cases z
  have E:=(gi0 j).1;obtain⟨M,T⟩:∃M,N[k]?=some M:=(_,ge0 (by rw[<-L.1];erw[E]));refine(t,N.map .ref,n1,.ref M,rfl,rfl,SqL.of (Q.hh _ _ K),?_,B,C,G2,E1.step Q,λu f H3 e3 r3=>?_)
  .unfold L2.atI
   rw[lm0,<-L.1];show (L2.ixN rows.length n1).bind _=_;rw[show L2.ixN rows.length n1=some k from hk];show (N.map L2.V.ref)[k]?=_;rw[gm0,T];rfl
  .cases r3
   have J:=Q.trans e3;have W:=L.ext J;obtain⟨vs,h2,g2⟩:=W.2 k row M j T;have hm:M∈t::N:=mc0 _ (mg0 T);obtain⟨nt,nq⟩:=List.nodup_cons.mp q;have g:=E1.step J;refine(M,vs,n2,l,rfl,rfl,h2,by rw[<-g2.length];erw[hl],R f _ _ (g.ioGo ho ht (.inr (.inr (rows,N,rfl,rfl,q,J.hh _ _ K,W))) ?_ (λb O=>?_) (.inr (.inr (_,N,rfl,rfl,q,?_,Ab W nq j T g2 (r1.mono J.gg))))) (e1.gg.trans J.gg))
   .have:er (upd H3 M (.lst (vs.set l v))) (t::N)=er H3 (t::N):=by
     funext b;unfold er;split
     .rfl
     .rename_i c
      rw[ab (λz=>c (z▸hm):b≠M)]
    rw[this];refine .refl λb o O=>?_
    have nb:b∉t::N:=λz=>by
     have:f b=none:=by
      obtain⟨o',U⟩:∃o,H1 b=some o:=by
       rcases mq0 z with rfl|z
       .exact(_,K)
       .erw[L.some b z]
      erw[J.nw _ _ (fr b z).1 U]
     rw[this]at O;cases O
    rw[aH nb];erw[g.sub b o O]
   .obtain⟨o',U⟩:∃o,H1 b=some o:=by
     rcases mq0 O with rfl|z
     .exact(_,K)
     .erw[L.some b z]
    erw[J.nw _ _ (fr b O).1 U]
   .rw[ab (λz=>nt (z▸mg0 T):t≠M)];erw[J.hh _ _ K]
theorem my{K}{G0 H0 H}:∀(rows:List (List D))(qs:A4)(G:Hp),Ext G0 H0 G H->RowsAt K G H rows qs->qs.Nodup->(∀b∈qs,G b=none/\H0 b=none)->∃J,Ext G0 H0 J H/\Same G J/\(∀b,b∉qs->J b=G b)/\Dps K J (rows.map .list) (qs.map .ref)
 |[],[],G,e,_,_,_=>(G,e,Same.refl _,λf f=>rfl,.nil)
 |[],_::_,_,_,r,_,_=>by cases r.1
 |_::_,[],_,_,r,_,_=>by cases r.1
 |row::rows,q::qs,G,e,r,C,N=>by
  obtain⟨Q,T,F⟩:=r.2 0 _ q rfl rfl;obtain⟨R,B⟩:=List.nodup_cons.mp C;have M:=N q ms0;have O:Same G (upd G q (.lst Q)):=aG M.1;obtain⟨J,Z,V,U,W⟩:=my _ qs _ (e.show M.2 T M.1) (by simpa using r.1,λk row x a b=>let ⟨S,c,d⟩:=r.2 (k+1) _ x (by simpa using a) (by simpa using b);(S,c,d.mono O)) B λb L=>(by rw[ab (λz=>R (z▸L):b≠q)];exact (N b (mc0 _ L)).1,(N b (mc0 _ L)).2)
  refine(J,Z,O.trans V,λb L=>?_,.cons (.list (by rw[U q R];erw[aa]) (F.mono (O.trans V))) W);rw[U b λz=>L (mc0 _ z),ab (λz=>L (z▸ms0):b≠q)]
def Dy{p1}(V:VarOk X x i)(B:Y[i]?=some (.io (.tbl rows))):E1 X Y (.Return (some (.Name x p1)) pos) (.rt (.list (rows.map .list)) .none):=by
 rintro U s q H F I ⟨u,g,G,J,R⟩
 obtain⟨t,f,C,io,M,E,v⟩:=J.io.at' i _ B;rcases io with⟨_,_,z,_⟩|⟨_,_,_,_,_,_,z,_⟩|⟨l,j,z,rfl,Q,K,L⟩
 .cases z
 .cases z
 .cases z
  obtain⟨nt,S⟩:=List.nodup_cons.mp Q;obtain⟨W,T,k,P,Z⟩:=my rows j G J.ext L S λb D=>M b (mc0 _ D)
  have N:=M t ms0;have O:W t=none:=by rw[P t nt];erw[N.1]
  erw[ng V.pe _ s q H F I (_,C,R _ _ _ (.list aa (Z.mono (aG O))) (T.show N.2 K O) λa a a z=>by cases z)]
end
section
variable {k:Nat}{C:Cs}{e t:Expr}{a' b' t':E}{p spos:Pos}{j:Nat}{nb nt':Bool}{o:Out}
def kl{v}{t}{line}{env}(h:jI v=false):swapsWith v t line env=pure false:=by cases v<;>first|rfl|cases h
def mz{elt tg iter}{ifs}{sc}{d}(A:Cc C elt tg iter ifs sc)(S:Sto X x i)(c:CxC X C)(w:Wz X Φ Γ C k)(Z:ev Φ Γ .val Y A.f=some d):
  E1 X Y (.Assign [.Name x px] (.ListComp elt [(tg,iter,ifs,0)] sc p) pos) (.nx (Y.set i (.own d))):=by
 obtain⟨F,T,D,t,W,K,rfl,L,M,N,O,R,U,V⟩:=A.ok c w Z;cases J:(X.env.blockKind==.function&&X.env.kindOf x==some _&&px.line==p.line&&!(sc.names.any _))with
 |false=>exact yT S (uj L c.calm M N O R U V) (congrArg _ J)
 |true=>
  refine CJ S L c.calm M N O R U V ?_ (congrArg _ J);simp only[be0]at J;erw[eq_of_beq J.1.1.2]
def Hx(S:Sto X x i)(hc:(!jI a)=true)(A:SdE X Φ Γ a a' true)(q:ex Φ Γ Y (.new i a')=some o):E1 X Y (.Assign [.Name x px] a pos) o:=by
 obtain⟨d,K,q⟩:=bS q;obtain⟨J,rfl⟩:=iS q;erw[yT S (A.n rfl K J) (kl (nt hc))]
def Hy(S:Sto X x i)(hc:(!jI a)=true)(A:SdE X Φ Γ a a' na)(q:ex Φ Γ Y (.set i a')=some o):E1 X Y (.Assign [.Name x px] a pos) o:=by
 obtain⟨d,W,rfl⟩:=mS q;exact (have h:=(A.v W);have V:=(kl (nt hc));(by rintro L s Z H F I ⟨N,U,G,J,R⟩;erw[hV S.nd S.nm.at' S.nm.loc h V S.nm.fn _ s Z H F I (N,U,G,J,λv M O K r=>R M O _ ((J.step K).set (S.lt I) r) K.gg)]))
def Dz{elt tg iter}{ifs}{sc}(c:CxC X C)(w:Wz X Φ Γ C k)(S:Sto X x i)(A:Cc C elt tg iter ifs sc)(q:ex Φ Γ Y (.new i A.f)=some o):E1 X Y (.Assign [.Name x px] (.ListComp elt [(tg,iter,ifs,0)] sc p) pos) o:=by
 obtain⟨d,J,q⟩:=bS q;obtain⟨K,rfl⟩:=iS q;erw[mz A S c w J]
def DA{elt tg iter}{ifs}{sc}(c:CxC X C)(w:Wz X Φ Γ C k)(S:Sto X x i)(A:Cc C elt tg iter ifs sc)(q:ex Φ Γ Y (.set i A.f)=some o):E1 X Y (.Assign [.Name x px] (.ListComp elt [(tg,iter,ifs,0)] sc p) pos) o:=by
 obtain⟨d,Z,rfl⟩:=mS q;exact (have h:=(mz A S c w Z);λM s D H F I ⟨N,V,G,K,R⟩=>
   h _ s D H F I (N,V,G,K,λQ U B L g=>by
    have W:i<Y.length:=by rw[<-K.len];erw[S.lt I]
    obtain⟨O,J,T⟩:=L.freeze1 (gs0 W);rw[List.set_set]at J;erw[R O U _ J (g.trans T)]))
def oIv{J:Type}{o:J}{z:Option Sl}{f:List D->Option J}(q:(match z with|some (.own (.list U))=>f U|_=>none)=some o):∃J,z=some (.own (.list J))/\f J=some o:=by
 cases z with
 |none=>exact zn0 q
 |some z=>cases z with
  |own d=>cases d with
   |list J=>exact(J,rfl,q)
   |_=>exact zn0 q
  |_=>exact zn0 q
def lIv{J:Type}{o:J}{z:Option Sl}{f g:List D->Option J}(q:(match z with|some (.own (.list U))=>f U|some (.io (.list U))=>g U|_=>none)=some o):(∃J,z=some (.own (.list J))/\f J=some o)\/∃J,z=some (.io (.list J))/\g J=some o:=by
 cases z with
 |none=>exact zn0 q
 |some z=>cases z with
  |own d=>cases d with
   |list J=>exact .inl (J,rfl,q)
   |_=>exact zn0 q
  |io d=>cases d with
   |list J=>exact .inr (J,rfl,q)
   |_=>exact zn0 q
  |_=>exact zn0 q
def Hz(V:VarOk X y i)(S:Sto X x j)(K:m="pop")(J:(apos.endLine==cpos.line)=true)(q:ex Φ Γ Y (.pop i j)=some o):E1 X Y (.Assign [.Name x px] (.Call (.Attribute (.Name y p) m apos) [] [] cpos) pos) o:=by
 subst K;obtain⟨U,h,q⟩:=oIv (q:Ga i j Y=some o);obtain⟨d,L,rfl⟩:=mS q;erw[GN V S h L J]
def DB(V:VarOk X x i)(hs:(!isSlice b)=true)(A:SdE X Φ Γ a a' na)(B:SdE X Φ Γ b b' nb)(q:ex Φ Γ Y (.seti i b' a')=some o):E1 X Y (.Assign [.Subscript (.Name x p) b spos] a pos) o:=by
 obtain⟨d,J,q⟩:=bS q;obtain⟨y,K,q⟩:=bS q;cases y with
 |int=>obtain⟨U,h,q⟩:=oIv q;obtain⟨j,L,rfl⟩:=mS q;erw[CK V (A.v J) (B.v K) (nt hs) h L]
 |_=>exact zn0 q
def HA(V:VarOk X x i)(M:m="append")(J:((apos.endLine==cpos.line)&&!isStar a)=true)(A:SdE X Φ Γ a a' na)(q:ex Φ Γ Y (.app i a')=some o):E1 X Y (.Expr (.Call (.Attribute (.Name x p) m apos) [a] [] cpos) pos) o:=by
 subst M;obtain⟨d,L,q⟩:=bS q;obtain⟨U,h,q⟩|⟨U,h,q⟩:=lIv q<;>obtain⟨K,rfl⟩:=iS q
 .erw[yV (m:=false) V (A.v L) (nt (a2 J).2) h K (a2 J).1]
 .erw[yV (m:=true) V (A.v L) (nt (a2 J).2) h K (a2 J).1]
def HB(V:VarOk X x i)(M:m="extend")(J:((apos.endLine==cpos.line)&&!isStar a)=true)(A:SdE X Φ Γ a a' na)(q:ex Φ Γ Y (.ext i a')=some o):E1 X Y (.Expr (.Call (.Attribute (.Name x p) m apos) [a] [] cpos) pos) o:=by
 subst M;obtain⟨d,L,q⟩:=bS q;cases d with
 |list=>
  obtain⟨U,h,q⟩|⟨U,h,q⟩:=lIv q<;>obtain⟨K,rfl⟩:=iS q
  .erw[yW (m:=false) V (A.r L) (nt (a2 J).2) h K (a2 J).1]
  .erw[yW (m:=true) V (A.r L) (nt (a2 J).2) h K (a2 J).1]
 |_=>exact zn0 q
def uH{as}{p'}{g}(A:SdE X Φ Γ (.Call g as [] p') a' na)(q:ex Φ Γ Y (.expr a')=some o):E1 X Y (.Expr (.Call g as [] p') pos) o:=by
 obtain⟨d,V,rfl⟩:=mS q
 rintro K s W H F I ⟨N,U,G,J,R⟩;erw[fU (A.v V) rfl K s W H F I (N,U,G,J,λv M O L r=>R M O _ (J.step L) L.gg)]
def HC(S:Sto X x i)(A:SdE X Φ Γ a a' na)(q:ex Φ Γ Y (.aug i a')=some o):E1 X Y (.AugAssign (.Name x px) .Add a pos) o:=by
 obtain⟨d,J,q⟩:=bS q;cases d with
 |int m=>
  unfold Jo at q;generalize h:Y[i]?=z at q;cases z with
  |none=>exact zn0 q
  |some z=>cases z with
   |dat y=>cases y with
    |int=>cases q;erw[GK S h (A.v J)]
    |_=>exact zn0 q
   |_=>exact zn0 q
 |_=>exact zn0 q
def HD(V:VarOk X x i)(K:m="reverse")(J:(apos.endLine==cpos.line)=true)(q:ex Φ Γ Y (.rev i)=some o):E1 X Y (.Expr (.Call (.Attribute (.Name x p) m apos) [] [] cpos) pos) o:=by
 subst K;obtain⟨U,h,q⟩:=oIv (q:Gc i Y=some o);cases q;erw[GM V h J]
def HE{tg b}{t}{vp}(T:Tgj X tg t)(D:isTup tg=true)(A:SdE X Φ Γ (.Subscript a b vp) a' na)(q:ex Φ Γ Y (.unp t a')=some o):E1 X Y (.Assign [tg] (.Subscript a b vp) pos) o:=by
 obtain⟨d,B,q⟩:=bS q;obtain⟨E,Q,rfl⟩:=mS q;intro U s S H F I Z;obtain⟨M,N,G,J,R⟩:=Z;have K:swapsWithSole [tg] (.Subscript a b vp) pos.line X.env=pure false/\swappedStores [tg] (.Subscript a b vp) X.env=pure .none/\(assignEach [tg] X.env).map (·.2)=[assign tg X.env]:=by cases tg<;>first|exact⟨rfl,rfl,rfl⟩|cases D
 erw[jy (A.v B) (T d) K.1 K.2.1 K.2.2 _ s S H F I (M,N,G,J,λv L V O r=>(M,N,L,Y,_,J.step O,r,Q,λP W=>R L V _ W O.gg))]
end
structure Cm(C:Cs)(e:Expr) where
 f:M
 ok:∀{Φ Γ k X},CxC X C->Wz X Φ Γ C k->∀{Y d Y'},evM Φ Γ Y f=some (d,Y')->EvO X Y e d Y'
structure Cma(C:Cs)(es:A3) where
 f:List Ar
 ok:∀{Φ Γ k X},CxC X C->Wz X Φ Γ C k->∀{Y zs Y'},dX Φ Γ f Y=some (zs,Y')->EaO X Y es zs Y'
 s:aL es
section
variable {k:Nat}{C:Cs}{Y':List Sl}{e:Expr}{es:A3}{a':E}{as:List Ar}{d:D}{p:Pos}{f:Str}{j:Nat}{zs:List (Sum Nat D)}
def Ac(A:SdE X Φ Γ e a' na)(q:evM Φ Γ Y (.p a')=some (d,Y')):EvO X Y e d Y':=by
 obtain⟨V,R,q⟩:=mS q;cases q;exact (have h:=(A.v R);(by rintro K s U H Q I ⟨M,O,G,E,k⟩;erw[h _ s U H Q I (M,O,G,E,λv L N J r=>k v L N (E.step J) (E.gx J) r)]))
def qE{d}{q}(h:SI.pairD d=some q):d=.tuple [q.1,q.2]:=by
 cases d with
 |tuple l=>cases l with
  |nil=>exact zn0 h
  |cons a l=>cases l with
   |nil=>exact zn0 h
   |cons b l=>cases l with
    |nil=>cases h;rfl
    |cons=>exact zn0 h
 |_=>exact zn0 h
def gIv{z:Option Sl}{w:D}(h:(match z with|some (.io d)=>some d|_=>none)=some w):z=some (.io w):=by
 cases z with
 |none=>exact zn0 h
 |some z=>cases z with
  |io=>cases h;rfl
  |_=>exact zn0 h
def vIv{z}{c}{R}(h:Jp c z=some R):z=some (.io (.vlt c 0 R)):=by
 cases z with
 |none=>exact zn0 h
 |some z=>cases z with
  |io d=>cases d with
   |vlt a b=>cases b with
    |zero=>obtain⟨rfl,rfl⟩:=iS h;rfl
    |succ=>exact zn0 h
   |_=>exact zn0 h
  |_=>exact zn0 h
def DC(J:CxC X C)(w:Wz X Φ Γ C k)(h:C.io.ios.lookup f=some n)(K:ah C f=true)(A:∀{Y zs Y'},dX Φ Γ as Y=some (zs,Y')->EaO X Y (e::es) zs Y')(hs:aL (e::es))(q:evM Φ Γ Y (.call f n i as)=some (d,Y')):EvO X Y (.Call (.Name f p) (e::es) [] pos) d Y':=by
 obtain⟨V,M,q⟩:=bS q;obtain⟨⟨zs,W⟩,N,q⟩:=bS q;obtain⟨T,O,q⟩:=bS q;obtain⟨r,L,q⟩:=bS q;obtain⟨z,R,q⟩:=bS q;obtain⟨Z,U,q⟩:=mS q;cases q;rw[qE R]at L;erw[zb (w.io.fn f n h V M) w.room (bQ J K).1 (bQ J K).2.2 (A N) O L U hs]
def HF(w:Wz X Φ Γ C k)(h:C.vc=some c)(O:C.io.vn.isSome=true)(N:m="put")(V:VarOk X y i)(K:((apos.endLine==pos.line)&&!isStar e)=true)(A:SdE X Φ Γ e a' na)(q:evM Φ Γ Y (.put c i a')=some (d,Y')):EvO X Y (.Call (.Attribute (.Name y p) m apos) [e] [] pos) d Y':=by
 subst N;obtain⟨T,U,q⟩:=bS q;obtain⟨R,L,q⟩:=bS q;obtain⟨z,W,q⟩:=mS q;obtain⟨r,M,Z⟩:=bS W;cases q;rw[qE Z]at M;have J:=vIv L
 erw[CN (w.io.put c h O) (w.room.mono w.two) V (A.v U) (nt (a2 K).2) J M (a2 K).1]
def HG{x1}(A:∀{Y zs Y'},dX Φ Γ as Y=some (zs,Y')->EaO X Y es zs Y')(q:evM Φ Γ Y (.tup as)=some (d,Y')):EvO X Y (.Tuple es x1 pos) d Y':=by
 obtain⟨⟨zs,D⟩,W,q⟩:=bS q;obtain⟨B,Z,q⟩:=bS q;obtain⟨V,q⟩:=iS q;cases q;exact (have h:=(A W);λK s F H Q I ⟨L,N,G,E,k⟩=>
   xR h _ s F H Q I (L,N,G,E,λT M J E1 R O=>by
    have r:=O.dps Z;refine(by rw[<-r.length];erw[Nat.le_of_lt (ia V)],λq U=>?_);have e:Ext M J _ (upd J q (.tup T)):=.laid E1.sub U;erw[k _ _ _ (E1.step e) (R.trans (E1.gx e)) (.tuple aa (r.mono e.gg))]))
def Ad(q:dX Φ Γ [] Y=some (zs,Y')):EaO X Y [] zs Y':=by cases q;exact (by rintro pos J s K H Q I ⟨L,M,G,E,k⟩;erw[pa_nil _ _ s K H Q I (k [] G H E .refl .nil)])
def MB(V:VarOk X x j)(A:∀{Y zs Y'},dX Φ Γ as Y=some (zs,Y')->EaO X Y es zs Y')(q:dX Φ Γ (.v j::as) Y=some (zs,Y')):EaO X Y (.Name x p::es) zs Y':=by
 have q:(if ((Y[j]?).bind _).isSome=true then (dX Φ Γ as Y).map _ else none)=some _:=q;split at q
 .obtain⟨z,J,q⟩:=mS q
  cases q;erw[JP V ‹_› (A J)]
 .cases q
def HH{m}(E:∀{Y d Y'},evM Φ Γ Y m=some (d,Y')->EvO X Y e d Y')(hs:isStar e=false)(A:∀{Y zs Y'},dX Φ Γ as Y=some (zs,Y')->EaO X Y es zs Y')(q:dX Φ Γ (.x m::as) Y=some (zs,Y')):EaO X Y (e::es) zs Y':=by
 obtain⟨⟨d,P⟩,T,q⟩:=bS (q);obtain⟨z,F,q⟩:=mS q;cases q;exact (have W:=(E T);have Z:=(A F);(by rintro pos L s B H Q I ⟨J,K,G,E,k⟩;erw[pa_cons W Z (starEach_cons hs) _ _ s B H Q I (J,K,G,E,λv O S E1 V D=>(J,K,O,E1,λu N R M g U=>k _ N R M (V.trans g) (.x (D.mono g.gg) U)))]))
end
section
variable (r:∀C e,Option (Ce C e))(rm:∀C e,Option (Cm C e))(C:Cs)
noncomputable def isName:Expr->Bool
 |.Name ..=>true
 |_=>false
def cAr:(es:A3)->Option (Cma C es)
 |[]=>some ([],λa a=>Ad,λa h=>by cases h)
 |.Name x p::es=>(cAr es).bind λR=>match h:dU C x with
  |some j=>some (.v j::R.f,λc w=>MB (bc c h) (R.ok c w),λz hz=>by
   rcases mq0 hz with rfl|hz
   .rfl
   .erw[R.s z hz])
  |none=>(r C (.Name x p)).map λA=>(.x (.p A.f)::R.f,λc w=>HH (Ac (A.ok c w)) rfl (R.ok c w),λz hz=>by
   rcases mq0 hz with rfl|hz
   .rfl
   .erw[R.s z hz])
 |e::es=>chk (!isStar e) λJ=>(rm C e).bind λE=>(cAr es).map λR=>(.x E.f::R.f,λc w=>HH (E.ok c w) (nt J) (R.ok c w),λz hz=>by
   rcases mq0 hz with rfl|hz
   .erw[nt J]
   .erw[R.s z hz])
def cTs:(es:A3)->Option (Cma C es)
 |[]=>some ([],λa a=>Ad,λa h=>by cases h)
 |e::es=>chk (!isStar e) λJ=>(rm C e).bind λE=>(cTs es).map λR=>(.x E.f::R.f,λc w=>HH (E.ok c w) (nt J) (R.ok c w),λz hz=>by
   rcases mq0 hz with rfl|hz
   .erw[nt J]
   .erw[R.s z hz])
noncomputable def Ae:List Ar->Nat->Option Nat
 |.v j::_,0=>some j
 |_::r,n+1=>Ae r n
 |_,_=>none
noncomputable def oneAt(js:List Nat)(i:Nat):Option Nat:=(js.idxOf? i).bind λm=>if (js.drop (m+1)).contains i then none else some m
set_option tactic.hygienic true in
def Af{js}{i m}(h:oneAt js i=some m):js[m]?=some i/\∀k,js[k]?=some i->k=m:=by
 obtain⟨V,J,h⟩:=bx0 h;split at h
 .cases h
 .rename_i L
  cases h;obtain⟨M,N,O⟩:=List.findIdx?_eq_some_iff_getElem.mp J;refine(by simp_all,λk K=>?_);obtain⟨R,U⟩:=gi0 K;rcases Nat.lt_trichotomy k m with z|z|z
  .simp_all
  .erw[z]
  .refine absurd (List.contains_iff_mem.mpr (mg0 (i:=k-(m+1)) ?_)) L
   rwa [List.getElem?_drop,show m+1+(k-(m+1))=k by omega]
def Kd(io:Nat):(e:Expr)->Option (Cm C e)
 |.Call (.Name f p) (a::V) [] pos=>match h:C.io.ios.lookup f with
  |some n=>chk (ah C f) λQ=>(cAr r rm C (a::V)).bind λA=>(Ae A.f n).map λi=>(.call f n i A.f,λc w=>DC c w h Q (A.ok c w) A.s)
  |none=>(r C (.Call (.Name f p) (a::V) [] pos)).map λA=>(.p A.f,λc w=>Ac (A.ok c w))
 |.Call (.Attribute (.Name y p) m apos) [a] [] pos=>if N:m="put" then chk (C.io.vn.isSome) λg=>chk ((apos.endLine==pos.line)&&!isStar a) λE=>got C.vc λc D=>got (dU C y) λi P=>(r C a).map λA=>(.put c i A.f,λW w=>HF w D g N (bc W P) E (A.ok W w)) else (r C (.Call (.Attribute (.Name y p) m apos) [a] [] pos)).map λA=>(.p A.f,λc w=>Ac (A.ok c w))
 |.Tuple F x1 pos=>(cTs rm C F).map λA=>(.tup A.f,λc w=>HG (A.ok c w))
 |.ListComp J [⟨O,iter,[],0⟩] Z pos=>((r C (.ListComp J [(O,iter,[],0)] Z pos)).map λA=>(.p A.f,λc w=>Ac (A.ok c w))).or<|(cI r C iter).bind λS=>got (yi C Z O) λq h=>got (cTg q.1 O) λt j=>chk (jH t q.2.1) λI=>(rm q.1 J).bind λA=>got (oneAt q.2.2 io) λm N=>some (.comp q.2.1 q.2.2 (q.2.1+m) io t S.f A.f,λ{Φ Γ k X} c w {Y d T} z=>by
  obtain⟨B,nt,js⟩:=q;obtain⟨ds,l,z⟩:=bS z;obtain⟨v,z⟩:=iB z;obtain⟨w0,L,z⟩:=bS z;obtain⟨u,o,z⟩:=bS z;cases z;have R:=nR c h;have e:=R.nt;subst e;have M:=gIv L
  obtain⟨m1,m2⟩:=Af N;erw[zf R.ok c.calm ((S.ok c w).w l _) (λA s H K=>qf (R.cx A s H K) j) I (λU s H K Y e T z=>A.ok (R.cx U s H K) (w.blk R.same U s H K) z) (by rw[<-big_eq];exact v) M m1 m2 o (jk (S.ok c w).s)])
 |e=>(r C e).map λA=>(.p A.f,λc w=>Ac (A.ok c w))
end
def cMm(io:Nat):Nat->(C:Cs)->(e:Expr)->Option (Cm C e)
 |0=>λa a=>none
 |n+1=>λC=>Kd (cE 60) (cMm io n) C io
def eS{c}{x y:α}(h:(if c=true then none else some x)=some y):¬ c=true/\y=x:=by
 grind
def Ag(K:¬ lh Y=true):∀(j:Nat) d,Y[j]?≠some (.io d):=λj d J=>K (List.any_eq_true.mpr (_,mg0 J,rfl))
def DD{Φ}{Γ}{k:Nat}{C}{vn y}{p pos px spos}{o}(Z:jX X.prog X.w X.K X.mg X.base c vn)(w:Wz X Φ Γ C k)(L:Gl X vn)(S:Sto X y i)(q:ex Φ Γ Y (.newv i c)=some o):E1 X Y (.Assign [.Name y px] (.Call (.Name vn p) [] [] pos) spos) o:=by
 have q:SI.S.newv i c Φ Γ Y=some o:=q;dsimp only[SI.S.newv]at q;cases J:Y[i]? with
 |none=>simp_all
 |some sl=>
  rw[J]at q;cases sl with
  |fr=>
   obtain⟨M,rfl⟩:=eS q;erw[CU Z (w.room.mono w.two) L S J (Ag M)]
  |_=>cases q
def Ah{Y Y1}{a b}{d y}{x}{i}{p pos spos}{o}(V:VarOk X x i)(hs:(!isSlice b)=true)(A:EvO X Y a d Y1)(B:Ev X Y1 b y)(q:yd i Y1 d y=some o):E1 X Y (.Assign [.Subscript (.Name x p) b spos] a pos) o:=by
 cases y with
 |int=>obtain⟨U,h,q⟩:=oIv q;obtain⟨j,J,rfl⟩:=mS q;erw[zc V A B (nt hs) h J]
 |_=>exact zn0 q
section
structure Cst(C:Cs)(st:Stmt) where
 f:S
 ok:∀{Φ Γ k X},CxC X C->Wz X Φ Γ C k->PassesOwn @5 X.A X.env X.xe->∀{Y o},ex Φ Γ Y f=some o->E1 X Y st o
structure Css(C:Cs)(sts:List Stmt) where
 f:Ss
 ok:∀{Φ Γ k X},CxC X C->Wz X Φ Γ C k->PassesOwn @5 X.A X.env X.xe->∀{Y o},exs Φ Γ Y f=some o->Ep X Y sts o
variable (r:∀C e,Option (Ce C e))(rm:∀C e,Option (Cm C e))(C:Cs)
def cAs(y:Str)(O:Pos)(pos:Pos):(v:Expr)->Option (Cst C (.Assign [.Name y O] v pos)):=λv=>got (iZ C y) λj h=>match v with
 |.Call (.Attribute (.Name x _) m apos) [] [] cpos=>eqS m "pop" λN=>chk (apos.endLine==cpos.line) λM=>got (dU C x) λi L=>chk (!C.mts.contains j) λa=>some (.pop i j,λc a a a a q=>Hz (bc c L) (dE c h) N M q)
 |.ListComp J [⟨U,iter,ifs,0⟩] R _=>(cCo r C J U iter ifs R).map λA=>if C.mts.contains j then(.new j A.f,λc w a a a q=>Dz c w (dE c h) A q) else(.set j A.f,λc w a a a q=>DA c w (dE c h) A q)
 |v=>chk (!jI v) λK=>(r C v).bind λA=>if C.mts.contains j then (match A with
   |⟨f,true,ok⟩=>some (.new j f,λc w a a a q=>Hx (dE c h) K (ok c w) q)
   |_=>none)else some (.set j A.f,λc w a a a q=>Hy (dE c h) K (A.ok c w) q)
def mC:∀{ds:List D}{rs},rowsOf ds=some rs->ds=rs.map .list:=by
 intro ds
 induction ds with
 |nil=>intro _ h;cases h;rfl
 |cons d r ih=>
  intro _ h;cases d with
  |list a=>
   obtain⟨q,J,rfl⟩:=mS (h:(rowsOf r).map _=some _);rw[mk0,ih J]
  |_=>cases h
set_option tactic.hygienic true in
def cNt(y:Str)(U pos:Pos)(K tg iter:Expr)(sc:Scope)(p:Pos):Option (Cst C (.Assign [.Name y U] (.ListComp K [(tg,iter,[],0)] sc p) pos)):=got (iZ C y) λj F=>if C.tb=some j then (cR r C tg iter).bind λS=>got (yi C sc tg) λq h=>got (cTg q.1 tg) λt Q=>chk (jH t q.2.1) λD=>(r q.1 K).bind λA=>match A with
 |⟨f,true,ok⟩=>some (.newt j (.comp q.2.1 q.2.2 t S.f .nil f),λ{Φ Γ k X} c w a Y o z=>by
  have z:(match Y[j]? with
   |some .fr=>if lh Y then .none else (ev Φ Γ .val Y (.comp q.2.1 q.2.2 t S.f .nil f)).bind λd=>(BY d).bind λO=>(rowsOf O).map λV=>Out.nx (Y.set j (.io (.tbl V)))
   |_=>.none)=some o:=z
  split at z
  .rename_i T
   split at z
   .cases z
   .rename_i M
    obtain⟨d,E,z⟩:=bS z;obtain⟨l,u,z⟩:=bS z;obtain⟨V,g,rfl⟩:=mS z;obtain⟨B,nt,js⟩:=q;obtain⟨O,v,z⟩:=bS E;obtain⟨P,z⟩:=iB z;obtain⟨I,W,rfl⟩:=mS z;cases u;have R:=nR c h;have e:=R.nt;subst e;rw[mC g]at W;refine Dw (dE c F) R.ok c.calm ((S.ok c w).r v) (λA s H L=>qf (R.cx A s H L) Q,λN s H L Y d z Z=>(ok (R.cx N s H L) (w.blk R.same N s H L)).n rfl z Z) D (by rw[<-big_eq];erw[P]) W (jk (S.ok c w).s) T (Ag M) ?_;cases J:(X.env.blockKind==.function&&X.env.kindOf y==some .local&&U.line==p.line&&!(sc.names.any λ(n,k)=>n==y&&(k==.local||k==.cell)))with
    |false=>exact .inl (congrArg (pure (f:=Sem)) J)
    |true=>
     refine .inr (?_,congrArg (pure (f:=Sem)) J);simp only[be0]at J;erw[eq_of_beq J.1.1.2]
  .cases z)
 |_=>none else none
def cAm(y:Str)(O:Pos)(pos:Pos):(v:Expr)->Option (Cst C (.Assign [.Name y O] v pos))
 |.Call (.Name K p) [] [] _=>if N:C.io.vn=some K then got (iZ C y) λj h=>got C.vc λc J=>chk (ah C K) λM=>some (.newv j c,λL w a Y o q=>DD (w.io.nv c K J N) w (bQ L M).1 (dE L h) q) else none
 |v=>got (iZ C y) λj h=>chk (!jI v) λJ=>(rm C v).map λA=>(.setm j A.f,λc w a Y o q=>by
  obtain⟨⟨d,U⟩,R,rfl⟩:=mS q;erw[CO (dE c h) (A.ok c w R) (kl (nt J))])
def cRt(x:Str)(p pos:Pos):Option (Cst C (.Return (some (.Name x p)) pos)):=got (dU C x) λi h=>if C.tb=some i then some (.rett i,λc a a Y o q=>by
  obtain⟨K,J,rfl⟩:=mS q;erw[Dy (bc c h) (mD J)]) else none
def Ke(U:∀C Q,Option (Css C Q)):(st:Stmt)->Option (Cst C st)
 |.Assign [.Name y O] v pos=>(match v with
  |.ListComp Z [⟨P,iter,[],0⟩] sc p=>(cNt r C y O pos Z P iter sc p).or ((cAs r C y O pos _).or (cAm rm C y O pos _))
  |v=>(cAs r C y O pos v).or (cAm rm C y O pos v))
 |.Assign [.Subscript (.Subscript (.Name x _) a _) b _] e _=>chk (!isSlice a&&!isSlice b) λN=>got (dU C x) λi h=>(r C a).bind λA=>(r C b).bind λB=>(r C e).map λE=>(.sett i A.f B.f E.f,λc w j Y o q=>by
  obtain⟨d,J,z1⟩:=bS q;obtain⟨U,D,z2⟩:=bS z1;obtain⟨y1,q3,z3⟩:=bS z2;obtain⟨y2,q4,z4⟩:=bS z3;obtain⟨n1,q5,z5⟩:=bS z4;obtain⟨n2,q6,z6⟩:=bS z5;obtain⟨k1,q7,z7⟩:=bS z6;obtain⟨j0,q8,z8⟩:=bS z7;obtain⟨l,q9,rfl⟩:=mS z8;obtain rfl:=cP q5;obtain rfl:=cP q6;erw[Dx (bc c h) ((E.ok c w).v J) ((A.ok c w).v q3) ((B.ok c w).v q4) (nt (a2 N).1) (nt (a2 N).2) (mD D) q7 q8 q9])
 |.Assign [.Tuple k n p] (.Subscript a b vp) _=>got (cTg C (.Tuple k n p)) λt h=>(r C (.Subscript a b vp)).map λA=>(.unp t A.f,λc w j j j q=>HE (qf c h) rfl (A.ok c w) q)
 |.Assign [.Subscript (.Name x _) b _] a _=>chk (!isSlice b) λN=>got (dU C x) λi h=>(r C b).bind λB=>((r C a).map λA=>(.seti i B.f A.f,λc w j j j q=>DB (bc c h) N (A.ok c w) (B.ok c w) q)).or ((rm C a).map λA=>(.setim i B.f A.f,λc w j Y o q=>by
  obtain⟨⟨d,u⟩,J,q⟩:=bS q;obtain⟨y,D,q⟩:=bS q;erw[Ah (bc c h) N (A.ok c w J) ((B.ok c w).v D) q]))
 |.Expr (.Call (.Attribute (.Name x _) m apos) [a] [] cpos) _=>chk ((apos.endLine==cpos.line)&&!isStar a) λI=>got (dU C x) λi h=>(r C a).bind λA=>if M:m="extend" then some (.ext i A.f,λc w j j j q=>HB (bc c h) M I (A.ok c w) q) else if M:m="append" then some (.app i A.f,λc w j j j q=>HA (bc c h) M I (A.ok c w) q) else none
 |.Expr (.Call (.Name f p) W [] F) _=>(r C (.Call (.Name f p) W [] F)).map λA=>(.expr A.f,λc w j j j q=>uH (A.ok c w) q)
 |.Expr (.Call (.Attribute (.Name x V) m apos) [] [] cpos) pos=>eqS m "reverse" λM=>chk (apos.endLine==cpos.line) λhl=>got (dU C x) λi h=>some (.rev i,λc j j j j q=>HD (bc c h) M hl q)
 |.Expr (.Call (.Attribute g m p) (a::b::W) [] F) _=>(r C (.Call (.Attribute g m p) (a::b::W) [] F)).map λA=>(.expr A.f,λc w j j j q=>uH (A.ok c w) q)
 |.AugAssign (.Name x V) .Add e pos=>got (iZ C x) λi h=>(r C e).map λA=>(.aug i A.f,λc w j j j q=>HC (dE c h) (A.ok c w) q)
 |.While t body [] _=>(r C t).bind λT=>(U C body).map λB=>(.whl T.f B.f,λc w K Y o q=>by
  have q:ik (λL=>ev _ _ .test L T.f) (λL=>exs _ _ L B.f) fuel Y=some o:=q;erw[yU (λL d' R=>(T.ok c w).t R) (λL o' R=>B.ok c w K R) fuel q K])
 |.If t a b _=>(r C t).bind λT=>(U C a).bind λA=>(U C b).map λB=>(.ifs T.f A.f B.f,λc w K Y o q=>by
  obtain⟨d,J,q⟩:=bS q;obtain⟨t,rfl,ht⟩:=(T.ok c w).t J;exact JO ht (λz=>by subst z;erw[A.ok c w K q]) λz=>by subst z;erw[B.ok c w K q])
 |.For P iter body [] _=>got (cTg C P) λt h=>(cI r C iter).bind λS=>(U C body).map λB=>(.fors t S.f B.f,λc w K Y o q=>by
  obtain⟨ds,J,q⟩:=bS q;erw[GL ((S.ok c w).w J) (qf c h) (λL o' R=>B.ok c w K R) q c.calm K (jk (S.ok c w).s)])
 |.Return (some (.Name x V)) pos=>if let some z:=cRt C x V pos then some z else (r C (.Name x V)).map λA=>(.ret A.f,λc w j j j q=>by
  obtain⟨d,J,rfl⟩:=mS q;erw[yS ((A.ok c w).v J)])
 |.Return (some e) _=>((r C e).map λA=>(.ret A.f,λc w j j j q=>by
  obtain⟨d,J,rfl⟩:=mS q;erw[yS ((A.ok c w).v J)])).or ((rm C e).map λA=>(.retm A.f,λc w j Y o q=>by
  obtain⟨⟨d,u⟩,J,rfl⟩:=mS q;erw[CP (A.ok c w J)]))
 |.Raise ..=>some (.stuck,λj j j j j q=>nn q)
 |_=>none
noncomputable def Kf(s:∀C st,Option (Cst C st)):(J:List Stmt)->Option (Css C J)
 |[]=>some (.nil,λa a a a a q=>by cases q;erw[GJ])
 |st::J=>(s C st).bind λA=>(Kf s J).map λB=>(.cons A.f B.f,λc w K Y o q=>by
  obtain⟨M,L,q⟩:=bS q;cases M with
  |nx N=>exact yQ (A.ok c w K L) (B.ok c w K q)
  |rt d u=>cases q;erw[ep_consR (A.ok c w K L)])
end
def cSs(io:Nat):Nat->(C:Cs)->(J:List Stmt)->Option (Css C J)
 |0=>λa a=>none
 |n+1=>λC=>Kf C (λC=>Ke (cE 60) (cMm io 20) C (cSs io n))
section
variable {ν:NK}{P:Program}{K:Fg}{base:Heap}{k:Nat}
def mF{N}{fl}:∀{ds:List D}{vs:List V},Same G H->Das K G H fl ds vs->ds.length=fl.length->n=N.length->vs.length<=N.length->EnvD ν K (G,.none) H G H (start N vs) (aN fl n ds)/\dh (aN fl n ds):=by
 intro ds vs s r J B C;have L:=r.length;have U:∀(i n:Nat) sl,(List.replicate n Sl.no)[i]?=some sl->sl=.no:=λi n sl h=>by
  rw[List.getElem?_replicate]at h;split at h
  .cases h;rfl
  .cases h
 have O:∀(fl:List Bool)(ds:List D)(vs:List V),Das K G H fl ds vs->ds.length=fl.length->∀(i:Nat) sl,((fl.zip ds).map (λp=>if p.1 then Sl.lent p.2 else .dat p.2))[i]?=some sl->
   ∃d v,vs[i]?=some v/\((sl=.lent d/\Dr K G H d v)\/(sl=.dat d/\Dp K G d v)):=by
  intro fl ds vs r
  induction r with
  |nil=>intro J i sl h;simp at h
  |@cons fl d v ds vs T F _ ih=>
   intro J i sl h;cases fl with
   |nil=>simp at J
   |cons b fl=>
    cases i with
    |zero=>
     simp at h;refine(d,v,rfl,?_);cases b with
     |true=>exact .inl (by simpa using h.symm,F)
     |false=>exact .inr (by simpa using h.symm,T rfl)
    |succ i=>simpa using ih (by simpa using J) i sl (by simpa using h)
 have Z:((fl.zip ds).map (λp=>if p.1 then Sl.lent p.2 else Sl.dat p.2)).length=vs.length:=by simp[L,<-J]
 have slot:∀(i:Nat) sl,(aN fl n ds)[i]?=some sl->sl=.no\/∃d v,(start N vs)[i]?=some (some v)/\((sl=.lent d/\Dr K G H d v)\/(sl=.dat d/\Dp K G d v)):=λi sl h=>by
  unfold aN at h
  by_cases W:i<vs.length
  .rw[gl0 (by rw[Z];erw[W])]at h
   obtain⟨d,v,e,q⟩:=O fl ds vs r J i sl h;refine .inr (d,v,?_,q);unfold start;rw[gl0 (by simpa using W),gm0,e];rfl
  .rw[List.getElem?_append_right (by rw[Z];simp_all)]at h
   exact .inl (U _ _ _ h)
 have M:dh (aN fl n ds):=λi d=>(λh=>(by rcases slot i _ h with z|⟨R,v,e,⟨z,_⟩|⟨z,_⟩⟩<;>cases z),λh=>(by rcases slot i _ h with z|⟨R,v,e,⟨z,_⟩|⟨z,_⟩⟩<;>cases z))
 refine((.refl s,?_,λi d h=>?_,λi d h=>?_,λi d h=>((M i d).1 h).elim,λi j d e p h=>((M i d).1 h).elim,λi d h=>((M i d).2 h).elim,λi j d e h=>((M i d).2 h).elim,λa a=>rfl),M)
 .unfold start aN
  simp[B,L,<-J]
 .rcases slot i _ h with z|⟨R,v,e,z|z⟩
  .cases z
  .cases z.1
  .cases z.1;exact(v,e,z.2)
 .rcases slot i _ h with z|⟨R,v,e,z|z⟩
  .cases z
  .cases z.1;exact(v,e,z.2)
  .cases z.1
def EnvD.setFr{G0}{H0 G H}{σ}{Y}{i}(E:EnvD ν K G0 H0 G H σ Y)(O:G0.pin=.none):EnvD ν K G0 H0 G H σ (Y.set i .fr):=by
 refine(E.ext,by simp[E.len],λj d h=>E.dat j d (getE_io h @0).2,λj d h=>E.lent j d (getE_io h @0).2,λj d h=>E.own j d (getE_io h @0).2,λj k d e p J L=>E.apart j k d e p (getE_io J @0).2 (getE_io L @0).2,λj d h=>?_,λj k d e J L=>E.io.one j k d e (getE_io J @0).2 (getE_io L @0).2,λl l=>O);obtain⟨p,M,a,b,c,f,g⟩:=E.io.at' j d (getE_io h @0).2;exact(p,M,a,b,c,f,λk e q N=>g k e q (getE_io N @0).2)
def EnvD.openIo{σ}{Y}{i}{d0}{p}{fp}(E:EnvD ν K (G,.none) (er H fp) G (er H fp) σ Y)(J:dh Y)(O:Same G (er H fp))(io:IoAt ν K G H d0 p fp)(Z:i<σ.length)(T:∀(j:Nat),Y[j]?≠some .fr):
  EnvD ν K (G,some (p,fp)) (er H fp) G H (σ.set i (some (.ref p))) (Y.set i (.io d0)):=by
 have R:∀b∈fp,G b=.none:=λb M=>by
  cases q:G b with
  |none=>rfl
  |some o=>have:=O b o q;rw[jJ M]at this;cases this
 refine((dC,Same.refl _,O.trans dC,λa a h a=>h),by simp[E.len],λj d h=>?_,λj d h=>?_,λj d h=>((J j d).1 (getE_io h @0).2).elim,λj a d a a h=>((J j d).1 (getE_io h @0).2).elim,λj d h=>?_,λj k d e U V=>?_,λj h=>(T j (getE_io h @0).2).elim)
 .obtain⟨N,z⟩:=getE_io h @0
  rw[gn0 (Ne.symm N)];erw[E.dat j d z]
 .obtain⟨N,z⟩:=getE_io h @0
  rw[gn0 (Ne.symm N)];erw[E.lent j d z]
 .rcases getE_set h with⟨rfl,z⟩|⟨_,z⟩
  .cases z
   exact(p,fp,gs0 Z,io,λb M=>(R b M,jJ M),λz F=>by simp_all,λk e q W=>((J k e).1 (getE_io W @0).2).elim)
  .exact ((J j d).2 z).elim
 .have L:∀{j:Nat}{d:D},(Y.set i (.io d0))[j]?=some (.io d)->j=i:=λh=>(getE_set h).elim (·.1) λ⟨_,z⟩=>((J _ _).2 z).elim
  rw[L U,L V]
def oz{p}{d0}:∀{n:Nat}{fl}{ds:List D}{vs:List V},Dai K G H p d0 n fl ds vs->Das K G H fl (ds.set n .none) (vs.set n .non)/\vs[n]?=some (.ref p)/\ds[n]?=some d0:=by
 intro n fl ds vs h
 induction h with
 |io r=>exact(.cons (λa=>.none) (.of .none) r,rfl,rfl)
 |cons J L r ih=>exact(.cons J L ih.1,ih.2)
def xc{N}{vs:List V}{v}(h:vs[n]?=some v):(start N (vs.set n .non)).set n (some v)=start N vs:=by
 have J:=(gi0 h).1;have e:start N (vs.set n .non)=(start N vs).set n (some .non):=by
  unfold start
  simp_all
 rw[e,List.set_set];have:(start N vs)[n]?=some (some v):=by
  unfold start;rw[gl0 @6,gm0,h];rfl
 exact List.ext_getElem? λj=>by
  by_cases q:n=j
  .subst q;rw[gs0 (gi0 this).1,this]
  .rw[gn0 q]
noncomputable def dkS:Dk->Nat
 |.io i=>i
 |.mk i=>i
 |.tb i=>i
 |.pure=>0
noncomputable def dkT:Dk->Option Nat
 |.tb i=>some i
 |_=>none
def sR(fns cst:A1)(lent:List Bool)(dk:Dk)(st:Stmt)(vc:Option Nat:=none)(vms:List Str:=[])(io:IoC:={}):Option Def:=
 (ef st).bind λ(ps,body,sc)=>(cSs (dkS dk) 60 (Gn fns cst ps body sc vc vms io (dkT dk)) body).map λb=>{lent,slots:=(ps++aC sc ps).length,body:=b.f,k:=dk}
structure HI(P:Program)(w:World)(K:Fg)(mg:A6)(base:Heap)(Φ:Fs)(Γ:List (Str×D))(fns:A1)(vc:Option Nat)(vms:A1)(io:IoC)(k:Nat):Prop where
 two:2<=k
 blt:∀x∈bltNames,mg x=Option.none
 fns:∀x,fns.contains x=true->∀φ,Φ x=some φ->FnZ P w K mg base k x φ
 gl:∀x d,Γ.lookup x=some d->∃u v,mg x=some u/\RelV v u/\∀G,Dp K G d v
 vcl:∀c,vc=some c->Cls K c/\NoAttr K c "objects"
 vf:∀c m,vc=some c->vms.contains m=true->∀φ,Φ (bL m)=some φ->CM P w K mg base k c m φ
 io:IoZ P w K mg base Φ vc io k
def DE(Φ:Fs)(Γ:List (Str×D))(d:Def):Fn:=(d.lent,λJ=>if J.length=d.lent.length then (exs Φ Γ (br d J) d.body).bind (Out.val d.k)else .none)
def Kg(w:World)(K:Fg)(J:Fn):Dk->Sp
 |.io i=>Pio (aM w) K J i
 |_=>Pur K J
theorem Dai.length{p}{d0}{fl}{ds:List D}{vs:List V}(h:Dai K G H p d0 n fl ds vs):ds.length=vs.length:=by
 have:=(oz h).1.length
 simpa using this
set_option tactic.hygienic true in
def uI{x qual}{st}{f}{fd}{ps fns cst}{lent}{dk}{dfn}{vc}{vms}{io}(F:Fun K x qual st f fd)(S:cf (ps++aC @8 ps) ps @8)(hp:ef st=some (ps,defBody st,defScope st))(hd:sR fns cst lent dk st vc vms io=some dfn)(hlen:lent.length=ps.length)
  (M:HI P w K mg base Φ Γ fns vc vms io k):FnOk P w K mg base CX0 (k+1) f fd ps (Kg w K (DE Φ Γ dfn) dk):=by
 unfold sR at hd;rw[hp,bs0]at hd;obtain⟨b,hb,rfl⟩:=mx0 (hd:(cSs (dkS dk) 60 (Gn fns cst ps (defBody st) @8 vc vms io (dkT dk)) (defBody st)).map _=some dfn);have runs:∀{ds:List D}{r:D},(DE Φ Γ (lent,(ps++aC @8 ps).length,b.f,dk)).run ds=some r->ds.length=lent.length/\∃o,exs Φ Γ (br (lent,(ps++aC @8 ps).length,b.f,dk) ds) b.f=some o/\Out.val dk o=some r:=λ{ds r} h1=>by
  have h1:(if ds.length=lent.length then _ else .none)=some r:=h1;split at h1
  .exact(‹_›,bx0 h1)
  .cases h1
 have hpre:=congrArg List.length S.pre;rw[List.length_take]at hpre;have body:∀{cdv:Value}{A:Around}{outer:List Env}{s:Shared}{H:Hp}{E:XK},Room k (A.deeper (envOfC qual @8 s.heap.objs.size f cdv))->∀{Y o},exs Φ Γ Y b.f=some o->Ep (iV CX0 P w K mg base (ps++aC @8 ps) qual @8 f cdv A outer s H E).nox Y (defBody st) o:=by
  intro cdv A outer s H E hr Y o h2;have C:CxC (iV CX0 P w K mg base (ps++aC @8 ps) qual @8 f cdv A outer s H E).nox (Gn fns cst ps (defBody st) @8 vc vms io (dkT dk)):=by
   refine(rfl,S.nd,λy kd e ek=>?_,λy kd e ek=>(?_,.inl rfl),λy e=>e,λy e=>e,rfl,S.kind)
   .rcases ek with rfl|rfl|rfl
    .exact .inl e
    .exact .inr (.inl e)
    .exact .inr (.inr e)
   .rcases ek with rfl|rfl
    .exact .inl e
    .exact .inr e
  erw[b.ok C (M.blt,M.fns,M.gl,hr,M.two,M.vcl,M.vf,M.io) PassesOwn.never h2]
 cases dk with
 |io i=>
  refine F.ok S (λvs H Q E h=>?_) (λcdv A outer s H vs Q E hr h=>?_)
  .obtain⟨ds,d0,e,u,G,p,fp,h1,_,_,r,_⟩:=h
   rw[<-Dai.length r,(runs h1).1,hlen]
  .obtain⟨ds,d0,e,u,G,p,fp,h1,sm,io,r,kq⟩:=h
   obtain⟨hl,o,h2,h3⟩:=runs h1;have h3:(if rR o.fin.2=true then some (D.tuple [o.fin.1,o.fin.2])else .none)=some (.tuple [e,u]):=h3;split at h3
   case isFalse=>cases h3
   rename_i hio;obtain⟨g1,g2,g3⟩:=oz (show Dai K G (er H fp) p d0 i lent ds vs from r);have vl:vs.length<=(ps++aC @8 ps).length:=by rw[<-Dai.length r,hl,hlen];simp
   obtain⟨E0,no⟩:=mF (ν:=aM w) (N:=ps++aC @8 ps) sm g1 (by simpa using hl) rfl (by simpa using vl);have E1:=E0.openIo (i:=i) no sm io (by unfold start;have:=(gi0 g2).1;simp;lia) (λj=>λh=>by
     have:=mg0 h;unfold aN at this
     simp_all)
   rw[xc g2]at E1;have e0:br (lent,(ps++aC @8 ps).length,b.f,.io i) ds=(aN lent (ps++aC @8 ps).length (ds.set i .none)).set i (.io d0):=by
    show (aN lent _ (ds.set i .none)).set i (.io (ds.getD i .none))=_;rw[List.getD_eq_getElem?_getD,g3];rfl
   rw[e0]at h2;have key:∀{G' H':Hp},Ext G (er H fp) G' H'->IoAt (aM w) K G' H' o.fin.2 p fp/\(∀b∈fp,G' b=.none)->Ext G (er H fp) G' (er H' fp):=λx ⟨_,gn⟩=>
    (λb o e=>by
     obtain⟨z1,z2⟩:=dB e;rw[aH z1];erw[x.hh b o e],x.gg,jf x.gh gn,x.nw)
   have body:=body hr h2 (cdv:=cdv) (outer:=outer) (s:=s) (H:=H) (E:=E);refine(_,body,(G,some (p,fp)),er H fp,G,E1,?_);cases o with
   |nx Y'=>
    cases h3;erw[λG' H' σ' env a=>kq .non G' H' (key env.ext (env.ioEnd p fp rfl hio)) (env.ioEnd p fp rfl hio).1 .none]
   |rt d' u'=>
    cases h3;erw[λv G' H' dv x ie=>kq v G' H' (key x (ie p fp rfl hio)) (ie p fp rfl hio).1 dv]
 |_=>
  refine F.ok S (λvs H Q E h=>?_) (λcdv A outer s H vs Q E hr h=>?_)
  .obtain⟨ds,d,G,h1,_,r,_⟩:=h
   rw[<-r.length,(runs h1).1,hlen]
  .obtain⟨ds,d,G,h1,sm,r,kq⟩:=h
   obtain⟨hl,o,h2,h3⟩:=runs h1;obtain⟨E0,no⟩:=mF (ν:=aM w) (N:=ps++aC @8 ps) sm r hl rfl (by rw[<-r.length,hl,hlen];simp);have body:=body hr h2 (cdv:=cdv) (outer:=outer) (s:=s) (H:=H) (E:=E);refine(_,body,(G,.none),H,G,by first|exact E0|exact E0.setFr rfl,?_);cases o with
   |nx Y'=>
    cases h3;erw[λG' H' σ' env a=>kq .non G' H' env.ext .none]
   |rt d' u'=>
    cases h3;erw[λv G' H' dv e a=>kq v G' H' e dv]
structure Ai(K:Fg)(mg:A6)(fns cst:A1)(vc:Option Nat)(vms:A1)(io:IoC)(x:Str)(d:Def):Prop where
 ex:∃st f fd ps,Fun K x x st f fd/\mg x=some (.ref f)/\Binds K fd ps []/\cf (ps++aC @8 ps) ps @8/\ef st=some (ps,defBody st,defScope st)/\sR fns cst d.lent d.k st vc vms io=some d/\d.lent.length=ps.length
structure DF(K:Fg)(fns cst:A1)(c:Nat)(vms:A1)(io:IoC)(m:Str)(d:Def):Prop where
 nm:m≠"objects"/\m≠"numbers"
 ex:∃st f fd ps,Fun K m (bL m) st f fd/\nr K c m f/\Binds K fd ps []/\cf (ps++aC @8 ps) ps @8/\ef st=some (ps,defBody st,defScope st)/\sR fns cst d.lent .pure st (some c) vms io=some d/\d.lent.length=ps.length
noncomputable def qF:Dk->Bool
 |.io _=>true
 |_=>false
structure Base(P:Program)(w:World)(K:Fg)(mg:A6)(base:Heap)(Γ:List (Str×D))(vc:Option Nat)(io:IoC):Prop where
 blt:∀x∈bltNames,mg x=Option.none
 gl:∀x d,Γ.lookup x=some d->∃u v,mg x=some u/\RelV v u/\∀G,Dp K G d v
 vcl:∀c,vc=some c->Cls K c/\NoAttr K c "objects"
 put:∀c,vc=some c->io.vn.isSome=true->GP P w K mg base 2 c "put" ⟨[true,false],nI c⟩
 nv:∀c v,vc=some c->io.vn=some v->jX P w K mg base c v
def MC{φ}{k}(h:qF k=false):Kg w K φ k=Pur K φ:=by cases k<;>first|rfl|cases h
theorem fb{prog}{fns cst vms}{vc}{io}(B:Base P w K mg base Γ vc io)(defs:∀x d,(fns.contains x=true\/(io.ios.lookup x).isSome=true)->prog.lookup x=some d->Ai K mg fns cst vc vms io x d)
  (kinds:∀x d,prog.lookup x=some d->(fns.contains x=true->qF d.k=false)/\∀n,io.ios.lookup x=some n->d.k=.io n)
  (J:∀c m d,vc=some c->vms.contains m=true->prog.lookup (bL m)=some d->DF K fns cst c vms io m d):
  ∀k x O,den prog Γ k x=some O->(fns.contains x=true->FnZ P w K mg base (k+2) x O)/\(∀c m,x=bL m->vc=some c->vms.contains m=true->CM P w K mg base (k+2) c m O)/\∀n,io.ios.lookup x=some n->GO P w K mg base (k+2) x n O
 |0,x,O,h=>by cases h
 |k+1,x,O,h=>by
  obtain⟨d,U,rfl⟩:=mx0 (h);have M:HI P w K mg base _ Γ fns vc vms io (k+2):=(by lia,B.blt,λy z L q=>(fb B defs kinds J k y L q).1 z,B.gl,B.vcl,λc m C N L q=>(fb B defs kinds J k _ L q).2.1 c m rfl C N,(λf n j L q=>(fb B defs kinds J k f L q).2.2 n j,B.put,B.nv));refine(λI=>?_,λc m e C N=>?_,λn Q=>?_)
  .obtain⟨E,f,R,ps,F,N,V,S,D,W,T⟩:=(defs x d (.inl I) U).ex
   have:=uI F S D W T M;rw[MC ((kinds x d U).1 I)]at this;exact⟨(f,R,ps,N,F.kp,V,this)⟩
  .subst e
   have Z:=J c m d C N U;obtain⟨E,f,R,ps,F,N,V,S,D,W,T⟩:=Z.ex;exact(Z.nm,(f,R,ps,N,V,uI (dk:=.pure) F S D (by rw[C];erw[W]) T M))
  .obtain⟨E,f,R,ps,F,N,V,S,D,W,T⟩:=(defs x d (.inr (by rw[Q];rfl)) U).ex
   have:=uI F S D W T M;rw[(kinds x d U).2 n Q]at this;exact⟨(f,R,ps,N,F.kp,V,this)⟩
end
def Aj(K:Fg):Sp:=λM H Q b=>∃(a:Addr)(J:List Int),M=[.ref a]/\SqL K H a (J.map V.int)/\J.length<=63/\∀L,Q (.bl true) L
def HJ{P}{w}{K:Fg}{mg}{base}{k}{f}{fd}{ps}{φ}(F:FnOk P w K mg base CX0 k f fd ps (Pur K φ))(J:φ.lent=[true])(h:∀ns:List Int,ns.length<=63->φ.run [.scr ns]=some (.bool true)):
  FnOk P w K mg base CX0 k f fd ps (Aj K):=F.imp λR H Q E q=>by
 obtain⟨a,ns,rfl,M,N,q⟩:=q;exact(_,_,H,h ns N,Same.refl _,by rw[J];exact .cons (λz=>by cases z) (.of (.scr M)) .nil,λv O L b r=>by cases r;erw[q L])
def run_eq{Φ}{Γ}{d}{ds}(h:ds.length=d.lent.length):(DE Φ Γ d).run ds=TX.ans Φ Γ d ds:=if_pos h
def ae{prog}{Γ}{k}{x}{d}{P}(h:prog.lookup x=some d)(J:P (DE (den prog Γ k) Γ d).run):TX.Has (den prog Γ (k+1)) x d.lent P:=
 (_,by show (prog.lookup x).map _=_;rw[h];rfl,J)
noncomputable def walk{l:PySem.W.OpenLaw}{q}{loose}{XP}{YP}{d}{K:Params->fg0}(U:l.most=some 63)(J:d.params.defaults=[])
  (O:∀(w:World)(h:Heap),YP w h->(K w.params).In h)
  (F:∀(w:World)(mg:A6)(L:Addr)(h:Heap),(K w.params).In h->h.Ns mainGlobals mg->mg d.name=some (.ref L)->
   ∃M:FuncData,(∀(s:Shared)(u:Value),BindsTo s M ([u],[]) [("_law_script",u)])/\∀base:Heap,(K w.params).In base->base.Ns mainGlobals mg->FnOk l.prog w (K w.params) mg base CX0 40 L M ["_law_script"] (Aj (K w.params))):
  PySem.W.WalkO q loose XP YP l.row.toRowW d [] (λf vs=>PySem.call f vs):=
 L2.BU U @2 J (rfl,by decide,by decide) O F (λb b a V R b N=>(a,V,rfl,N,R,λb=>rfl)) λb b b b b z=>z
noncomputable def Kh(Q:Str->Prop):List Str->Prop
 |[]=>True
 |x::r=>Q x/\Kh Q r
theorem uJ{Q}:∀{xs:A1},Kh Q xs->∀x∈xs,Q x
 |[],_,x,h=>by cases h
 |y::r,J,x,h=>(mq0 h).elim (λe=>e▸J.1) (uJ J.2 x)
def Ki(Q:Str->D->Prop):List (Str×D)->Prop
 |[]=>True
 |p::r=>Q p.1 p.2/\Ki Q r
theorem uK{Q}:∀{prog:List (Str×D)},Ki Q prog->∀x d,prog.lookup x=some d->Q x d
 |[],_,x,d,h=>by cases h
 |(y,e)::r,K,x,d,h=>by
  rw[lk0]at h;cases J:x==y with
  |true=>
   rw[J]at h;have:=eq_of_beq J;subst this;cases h;erw[K.1]
  |false=>rw[J]at h;erw[uK K.2 x d h]
noncomputable def aVv:Nat->(List Value->Prop)->Prop
 |0,P=>P []
 |n+1,P=>∀a,aVv n λl=>P (a::l)
def lenN{n}:∀{P}(h:aVv n P)(us)(e:us.length=n),P us:=by
 induction n with
 |zero=>intro P h us e;cases us with|nil=>exact h|cons=>cases e
 |succ n ih=>intro P h us e;cases us with|nil=>cases e|cons a r=>exact ih (h a) r (Nat.succ.inj e)
def walkX{q}{loose}{XP}{K}{ads}{n t}{r}{d}{kwd}{run}
  (e:∀P:Params,ads=(K P).map (·.1)) (h:PySem.W.WalkO q loose XP (λw h=>(K w.params).In h) r d kwd run):PySem.W.WalkX q loose XP (PySem.W.X.obsZ ads) (PySem.W.X.valZ K n t) r d kwd run:=
 λw Z T mg z G y a o u D C B kV j I N S R E args vals F L M J U V O=>
  h w _ _ mg z G (λb o Q=>L.keeps b o ((PySem.W.X.z_facts e y).2.1 b o Q)) a o u D _ B kV j I N S R E _ _ F M J U V O
def Kk{α:Type}(Q:Str->α->Prop):List (Str×α)->Prop
 |[]=>True
 |p::r=>Q p.1 p.2/\Kk Q r
theorem uL{α}{Q}:∀{prog:List (Str×α)},Kk Q prog->∀x d,prog.lookup x=some d->Q x d
 |[],_,x,d,h=>by cases h
 |(y,e)::r,K,x,d,h=>by
  rw[lk0]at h;cases J:x==y with
  |true=>
   rw[J]at h;have:=eq_of_beq J;subst this;cases h;erw[K.1]
  |false=>rw[J]at h;erw[uL K.2 x d h]
def HK{P}{w}{K}{mg}{base}{Γ}{prog}{fns cst vms}{vc}{io}(B:Base P w K mg base Γ vc io)(defs:∀x d,(fns.contains x=true\/(io.ios.lookup x).isSome=true)->prog.lookup x=some d->Ai K mg fns cst vc vms io x d)
  (kinds:∀x d,prog.lookup x=some d->(fns.contains x=true->qF d.k=false)/\∀n,io.ios.lookup x=some n->d.k=.io n)
  (J:∀c m d,vc=some c->vms.contains m=true->prog.lookup (bL m)=some d->DF K fns cst c vms io m d) (k:Nat):HI P w K mg base (den prog Γ k) Γ fns vc vms io (k+2):=
 (by lia,B.blt,λy R L q=>(fb B defs kinds J k y L q).1 R,B.gl,B.vcl,λc m M O L q=>(fb B defs kinds J k _ L q).2.1 c m rfl M O,(λf n N L q=>(fb B defs kinds J k f L q).2.2 n N,B.put,B.nv))
def kindB(fns:A1)(io:IoC)(p:Str×Def):Bool:=(!(fns.contains p.1)||!qF p.2.k)&&(match io.ios.lookup p.1,p.2.k with|some n,.io m=>n==m|some _,_=>false|_,_=>true)
def kinds_of{prog:List (Str×Def)}{fns}{io}(h:prog.all (kindB fns io)=true):∀x d,prog.lookup x=some d->(fns.contains x=true->qF d.k=false)/\∀n,io.ios.lookup x=some n->d.k=.io n:=λx d K=>by
 have:(x,d)∈prog:=by
  clear h
  induction prog with
  |nil=>cases K
  |cons p r ih=>
   rw[lk0]at K;cases q:x==p.1 with
   |true=>
    rw[q]at K;cases K;rw[eq_of_beq q];erw[ms0]
   |false=>rw[q]at K;erw[mc0 _ (ih K)]
 have:=List.all_eq_true.mp h _ this;unfold kindB at this;rw[be0]at this;obtain⟨L,J⟩:=this;refine(λN=>?_,λn M=>?_)
 .rw[N]at L
  simpa using L
 .simp only at J
  rw[M]at J;cases e:d.k with
  |io m=>
   rw[e]at J;simp only at J;rw[eq_of_beq J]
  |_=>rw[e]at J;cases J
end L2.Z
namespace TX
open PySem SI M1
abbrev MG(o:Option D):Prop:=∃t:Str,o=some (.str t)/\aK t=true
def iK{t}(h:aK t=true):1<=t.length/\t.length<=12:=by
 unfold aK at h;simp only[be0,decide_eq_true_eq]at h;exact(h.1.1.1.1,h.1.1.1.2)
def sgn7(ns:List Int)(b:Int)(k:Nat):Nat:=(signs65[(mixF ns (b+7*(k:Int)) / 5 % 65).toNat]?).getD 0
def DG(ns)(b:Int)(k:Nat):cc (sgn7 ns b k)=true:=by
 have K:=en0 (mixF ns (b+7*(k:Int)) / 5) (b:=65) @2;have L:=el0 (mixF ns (b+7*(k:Int)) / 5) (b:=65) @2;have J:(mixF ns (b+7*(k:Int)) / 5 % 65).toNat<signs65.length:=by show _<65;lia
 unfold sgn7 cc;rw[ge0 J];erw[dt0 (List.getElem_mem J)]
def join_one(l:List Nat):Txt.join Str.empty (l.map λc=>(⟨#[c]⟩:Str))=⟨l.toArray⟩:=by
 apply og
 rw[dI,List.map_map];show _=l
 induction l with
 |nil=>rfl
 |cons c r ih=>rw[mk0,List.flatten_cons,ih];rfl
def qG(ts)(h:ts.length<64):biD .srt [.list (ts.map .str)]=some (.list ((srtS ts).map .str)):=by
 show ((strsOf (ts.map .str)).bind λss=>if ss.length<64 then some (D.list ((srtS ss).map .str))else .none)=_;rw[aE,bs0,if_pos h]
end TX
namespace TX
open PySem SI M1 L2.Z
variable {cNO cBT cNP:Nat}
def oA(x y:Str):(x++y).length=x.length+y.length:=by show (x.cps++y.cps).size=_;rw[Array.size_append];rfl
end TX
namespace SI
open PySem
section
variable {x0 y:α}{l:List α}
@[simp ↓ high] def gt0:(x0::l)[0]?=some x0:=rfl
@[simp ↓ high] def gtS :(x0::l)[n+1]?=l[n]?:=rfl
@[simp ↓ high] def st0:(x0::l).set 0 y=y::l:=rfl
@[simp ↓ high] def stS :(x0::l).set (n+1) y=x0::l.set n y:=rfl
end
def fzM(Y:List Sl):List Sl:=Y.map freeze
@[simp] def Nn{x y}:(fzM (x::Y)).set 0 y=y::fzM Y:=rfl
@[simp] def Np{x y}:(fzM (x::Y)).set (n+1) y=freeze x::(fzM Y).set n y:=rfl
@[simp] theorem Kl:∀{Y:List Sl},dW (fzM Y)=dW Y
 |[]=>rfl
 |s::r=>by cases s<;>first|rfl|exact Kl (Y:=r)
@[simp ↓ high] def fz_g{Y} :(fzM Y)[i]?=Y[i]?.map freeze:=gm0
section
variable {s:S}{r a b:Ss}{d:D}{m:Md}{t:Bool}{e:E}
def nxS(Φ:Fs)(Γ:List (Str×D))(o:Option Out)(r:Ss):Option Out:=o.bind λo=>o.andThen λJ=>exs Φ Γ J r
def ifS(Φ:Fs)(Γ:List (Str×D))(o:Option D)(Y:List Sl)(a b:Ss):Option Out:=o.bind λd=>(asB d).bind λt=>if t then exs Φ Γ Y a else exs Φ Γ Y b
def xf(Φ:Fs)(Γ:List (Str×D))(tg:Tg)(body:Ss)(ds:List D)(Y:List Sl):Option Out:=forL (ax tg) (λJ=>exs Φ Γ J body) ds Y
def cpF(Φ:Fs)(Γ:List (Str×D))(Y:List Sl)(nt:Nat)(js:List Nat)(tg:Tg)(ifs:Es)(J:E)(d:D):Option (Option D):=(ax tg d (blk nt js Y)).bind λK=>(evC Φ Γ K ifs).bind λt=>if t then (ev Φ Γ .val K J).map some else some none
@[simp ↓ high] def exs_c:exs Φ Γ Y (.cons s r)=nxS Φ Γ (ex Φ Γ Y s) r:=(rfl)
@[simp] def cp:nxS Φ Γ (some (.nx Y)) r=exs Φ Γ Y r:=(rfl)
@[simp] def Nz{w:D}:nxS Φ Γ (some (.rt d w)) r=some (.rt d w):=(rfl)
@[simp ↓ high] def ex_if{c}:ex Φ Γ Y (.ifs c a b)=ifS Φ Γ (ev Φ Γ .test Y c) Y a b:=(rfl)
@[simp] def Ak:ifS Φ Γ (some (.bool t)) Y a b=if t then exs Φ Γ Y a else exs Φ Γ Y b:=(rfl)
@[simp ↓ high] def ex_ret:ex Φ Γ Y (.ret e)=(ev Φ Γ .val (fzM Y) e).map λd=>.rt d (dW Y):=(rfl)
@[simp ↓ high] def ex_for{tg:Tg}{src}:ex Φ Γ Y (.fors tg src r)=(evI Φ Γ .walk Y src).bind λds=>xf Φ Γ tg r ds Y:=(rfl)
@[simp ↓ high] def ev_cp{nt}{js}{tg:Tg}{src}{ifs}:ev Φ Γ m Y (.comp nt js tg src ifs e)=fin m ((evI Φ Γ .read Y src).bind λds=>if ds.length<=big then (ay (cpF Φ Γ Y nt js tg ifs e) ds).map .list else none):=(rfl)
def sS(o:Option D):Option (List D):=o.bind λd=>(asI d).bind λn=>if rOk n then some ((List.range n.toNat).map λ(k:Nat)=>.int k)else none
@[simp ↓ high] def evI_r:evI Φ Γ m Y (.rng e)=sS (ev Φ Γ .val Y e):=(rfl)
def xg{n}(J:-1000000<=n)(K:n<=1000000):sS (some (.int n))=some ((List.range n.toNat).map λ(k:Nat)=>.int k):=by
 show (if rOk n then _ else _)=_;rw[if_pos (nG J K)]
def Km(h:n<=1000000):sS (some (.int n))=some ((List.range n).map λ(k:Nat)=>.int k):=xg @1 @1
def HL(o:Option D):Option (List D):=o.bind λd=>sS (biD .len [d])
@[simp ↓ 20000] def evI_rl:evI Φ Γ m Y (.rng (.bi .len (.cons e .nil)))=HL (ev Φ Γ .read Y e):=by
 show sS (((ev Φ Γ .read Y e).bind λx=>some _).bind _)=_;cases h:ev Φ Γ _ Y e<;>rfl
def EM{ds}(h:ds.length<=1000000):HL (some (.list ds))=some ((List.range ds.length).map λ(k:Nat)=>.int k):=by rw[HL,bs0,len_list,(show sS (some (.int ds.length))=some ((List.range ds.length).map λ(k:Nat)=>.int k)from xg @1 @1)]
theorem Al{inj}{tg:Tg}{F:α->List Sl}(J:Nat->α->Prop){P:Option Out->Prop}(k:∀s,J 0 s->P (some (.nx (F s)))):∀{xs:List β}{s} (h:∀x∈xs,∀n s,J (n+1) s->∃K,J n K/\(ax tg (inj x) (F s)).bind (λY=>exs Φ Γ Y r)=some (.nx (F K))),J xs.length s->P (xf Φ Γ tg r (xs.map inj) (F s))
 |[],s,_,j=>k s j
 |x::xs,s,h,j=>by
  obtain⟨K,R,e⟩:=h x ms0 _ s j;obtain⟨L,M,N⟩:=bx0 e;show P ((ax tg (inj x) (F s)).bind λL=>(exs Φ Γ L r).bind _);rw[M,bs0,N];erw[Al J k (λy O=>h y (mc0 _ O)) R]
@[simp] theorem DH{p:α->Bool}:∀{xs:List α},boolsOf (xs.map λx=>.bool (p x))=some (xs.map p)
 |[]=>rfl
 |x::xs=>by rw[mk0,boolsOf,DH];rfl
def cpF_e{nt}{js}{tg:Tg}{ifs}:cpF Φ Γ Y nt js tg ifs e d=(ax tg d (blk nt js Y)).bind λJ=>(evC Φ Γ J ifs).bind λt=>if t then (ev Φ Γ .val J e).map some else some none:=(rfl)
def mulO(o p:Option D):Option D:=o.bind λx=>p.bind λy=>opD .mul x y
@[simp ↓ high] def ev_m{a b}:ev Φ Γ m Y (.op .mul a b)=fin m (mulO (ev Φ Γ .read Y a) (ev Φ Γ .read Y b)):=(rfl)
def mulL{i j}(J:-(2 ^ 64)<i)(K:i<2 ^ 64):mulO (some (.int i)) (some (.int j))=some (.int (i*j)):=by
 rw[mulO,bs0,bs0,ue,TX.zy _ _ J K,if_pos rfl]
@[simp] def orP{P}[Decidable P]:(if P then some (D.bool true)else some (D.bool t))=some (.bool (decide P||t)):=by by_cases h:P<;>simp[h]
@[simp] def NA{P}[Decidable P]:(if P then some (D.bool t)else some (D.bool false))=some (.bool (decide P&&t)):=by by_cases h:P<;>simp[h]
def cJ(k:Dk)(o:Option Out):Option D:=o.bind (Out.val k)
@[simp] def MH{w:D}:cJ .pure (some (.rt d w))=some d:=rfl
@[simp] def MI:cJ .pure (some (.nx Y))=some .none:=rfl
@[simp] def LB{w:D}:cJ (.mk i) (some (.rt d w))=some d:=rfl
@[simp] def LC{w:D}:cJ (.tb i) (some (.rt d w))=some d:=rfl
@[simp] def LD{w:D}:cJ (.io i) (some (.rt d w))=if rR w then some (.tuple [d,w])else none:=rfl
@[simp] def LF :cJ (.io i) (some (.nx Y))=if rR (dW Y)then some (.tuple [.none,dW Y])else none:=rfl
section
variable {j:Nat}{as:List Ar}{z:List (Sum Nat D)}{mm:M}
@[simp] def MJ:dX Φ Γ [] Y=some ([],Y):=(rfl)
@[simp] def MK:dX Φ Γ (.v j::as) Y=if ((Y[j]?).bind (aF .read)).isSome then (dX Φ Γ as Y).map λz=>(.inl j::z.1,z.2)else none:=(rfl)
@[simp] def ML:dX Φ Γ (.x mm::as) Y=(evM Φ Γ Y mm).bind λy=>(dX Φ Γ as y.2).map λz=>(.inr y.1::z.1,z.2):=(rfl)
@[simp] def MM:iX Y i fl []=some []:=by cases fl<;>rfl
@[simp] def MN:iX Y i fl (.inl j::z)=if j=i then none else ((Y[j]?).bind (iP (fl.headD false))).bind λd=>(iX Y i fl.tail z).map (d::·):=by cases fl<;>rfl
@[simp] def MO:iX Y i fl (.inr d::z)=(iX Y i fl.tail z).map (d::·):=by cases fl<;>rfl
@[simp] def MP:iY Y i 0 fl (.inl j::z)=if j=i then ((Y[j]?).bind (aF .read)).bind λd=>(iX Y i fl.tail z).map (d::·)else none:=(rfl)
@[simp] def MQ:iY Y i (n+1) fl (.inl j::z)=if j=i then none else ((Y[j]?).bind (iP (fl.headD false))).bind λd=>(iY Y i n fl.tail z).map (d::·):=(rfl)
@[simp] def MR:iY Y i (n+1) fl (.inr d::z)=(iY Y i n fl.tail z).map (d::·):=(rfl)
@[simp] def MS:wg []=some []:=(rfl)
@[simp] def MT:wg (.inr d::z)=(wg z).map (d::·):=(rfl)
@[simp ↓ high] def ex_retm:ex Φ Γ Y (.retm mm)=(evM Φ Γ (fzM Y) mm).map λz=>.rt z.1 (dW z.2):=(rfl)
end
def mG{xs}{x:α}(h:xs[n]?=some x):atI xs (n:Int)=some x:=by
 have:=(gi0 h).1
 rwa [TX.aR @1 @1]
section
variable {x y z u v:α}{l:List α}
@[simp] def Nq:atI (x::l) 0=some x:=mG rfl
@[simp] def Nr:atI (x::y::l) 1=some y:=mG rfl
@[simp] def Nt:atI (x::y::z::l) 2=some z:=mG rfl
@[simp] def Nu:atI (x::y::z::u::l) 3=some u:=mG rfl
@[simp] def Nv:atI (x::y::z::u::v::l) 4=some v:=mG rfl
end
end
end SI
namespace TX
open SI L2.Z PySem
def ans_e{Φ}{Γ}{fl}{b}{k}{ds}:ans Φ Γ (fl,n,b,k) ds=cJ k (exs Φ Γ (br (fl,n,b,k) ds) b):=(rfl)
end TX
namespace TX
open PySem SI M1 L2.Z
inductive Th where
 |blob (t:Str)
 |tree (es:List (Str×Int))
noncomputable instance:DecidableEq Th:=λa a=>Classical.propDecidable _
noncomputable def bZ(p:Str×Int):D:=.tuple [.str p.1,.int p.2]
noncomputable def Th.o:Th->D
 |.blob t=>.tuple [.str af,.str t]
 |.tree J=>.tuple [.str ao,.tuple (J.map bZ)]
@[simp] def NB{a b:List (Str×Int)}:a.map bZ=b.map bZ↔a=b:=List.map_inj_right λx y q=>by simp[bZ]at q;erw[Prod.ext q.1 q.2]
def Th.o_inj{a b:Th}(h:a.o=b.o):a=b:=by cases a<;>cases b<;>simp_all [Th.o]
def Th.o_ok(t:Th):okK 8 t.o=true/\jF t.o=true:=by cases t<;>simp[okK,bZ,Th.o,jF]
abbrev vt(c:Nat)(L:List Th):D:=.vlt c 0 (L.map Th.o)
noncomputable def putL(L:List Th)(t:Th):List Th:=if t∈L then L else L++[t]
def Ex(L J:List Th):Prop:=(∀(i:Nat) t,L[i]?=some t->J[i]?=some t)/\(L.Nodup->J.Nodup)
def Ex.refl(L:List Th):Ex L L:=(λa a h=>h,id)
def Ex.trans{a b d}(h:Ex a b)(k:Ex b d):Ex a d:=(λi x e=>k.1 i x (h.1 i x e),λn=>k.2 (h.2 n))
set_option tactic.hygienic true in
def oB(L:List Th)(t:Th):Ex L (putL L t)/\(putL L t).length<=L.length+1:=by
 unfold putL;split
 .exact(.refl _,by lia)
 .rename_i h
  exact((λi x e=>by rwa [gl0 (gi0 e).1],λn=>List.nodup_append.mpr (n,by simp,λa J b K e=>h @6)),by simp)
def sU{l:List D}{d}{j}(h:l.idxOf? d=some j):l[j]?=some d:=by
 obtain⟨J,K,_⟩:=List.findIdx?_eq_some_iff_getElem.mp h
 simp_all
def uM(L:List Th)(t:Th)(hz:L.length<1000000):∃j:Nat,(putL L t)[j]?=some t/\nI c [vt c L,t.o]=some (.tuple [.int (j:Nat),vt c (putL L t)]):=by
 have m:t.o∈L.map _↔t∈L:=(λz=>by obtain⟨s,J,N⟩:=mm0 z;erw[Th.o_inj N▸J],List.mem_map_of_mem);have o:=t.o_ok.1;cases h:(L.map _).idxOf? t.o with
 |some j=>
  have J:=m.mp (Classical.byContradiction λz=>by rw[List.idxOf?_eq_none_iff.mpr z]at h;cases h);refine(j,?_,by simp[nI,putL,o,h,hz,J];erw[t.o_ok.2]);have e:=sU h;rw[gm0]at e;obtain⟨s,K,M⟩:=mx0 e;simp[putL,J,K,Th.o_inj M]
 |none=>
  have J:t∉L:=λz=>List.idxOf?_eq_none_iff.mp h (m.mpr z)
  exact(L.length,by simp[putL,J],by simp[nI,putL,o,h,hz,J];erw[t.o_ok.2])
abbrev Am(J:List D->Option D):Prop:=∀K:List Str,K.length<=12->J [.list (K.map .str)]=some (.bool (wN K))
abbrev An(Φ:Fs):Prop:=Has Φ "names_rise" [true] Am
def Kn{α}(l:List α):cut l (some 1) none=l.tail:=by
 cases l with
 |nil=>rfl
 |cons x r=>simp[cut,sIx]
theorem uN:∀(xs:A1)(y:Str),((y::xs).zip xs).all (λp=>decide (p.1.cps.toList<p.2.cps.toList))=wN (y::xs)
 |[],_=>rfl
 |x::r,y=>by
  rw[wN,<-uN r x,List.zip_cons_cons,List.all_cons]
def Ko:Am (ans Φ Γ cg):=by
 intro M J;simp only[ans_e,cg];simp[Kn];cases M with
 |nil=>rfl
 |cons y r=>
  have:=(show gd r.length [(y::r).map D.str,r.map D.str]=((y::r).zip r).map λp=>.tuple [.str p.1,.str p.2] by
    refine List.ext_getElem (by simp[gd]) λi K N=>?_
    have h:=by simpa [gd]using K
    simp only[gd,List.getElem_map,List.getElem_range,List.getElem_zip];show D.tuple [(((y::r).map _)[i]?).getD _,((r.map _)[i]?).getD _]=_;rw[gm0,gm0,ge0 h,ge0 _];rfl)
  simp only[mk0]at this;simp at J;have L:r.length<=big:=nt0 J @2;simp[this,L];rw[az (g:=λp=>D.bool (decide (p.1.cps.toList<p.2.cps.toList))) λp a=>rfl];simp[<-uN]
theorem Ao:∀{xs:A1},bY xs->wN xs=true
 |[],_=>rfl
 |[_],_=>rfl
 |a::b::r,h=>by
  obtain⟨J,K⟩:=List.pairwise_cons.mp h;have:=J b ms0;unfold ltS at this;show (decide _&&wN _)=true;rw[this,Ao K];rfl
def Good(xs:A1):Prop:=bY xs/\(∀x∈xs,aK x=true)/\xs.length<=12
abbrev Kq(Φ:Fs):Prop:=Has Φ "refuse_wrong_names" [true] λJ=>∀K,Good K->J [.list (K.map .str)]=some .none
def DI(N:uv Φ)(O:An Φ)(xs)(h:Good xs):ans Φ Γ aI [.list (xs.map .str)]=some .none:=by
 obtain⟨U,L,M⟩:=N;obtain⟨V,R,K⟩:=O;have K:=K xs h.2.2;rw[Ao h.1]at K;simp only[ans_e,aI];simp;refine Al (F:=λs=>[_,s]) (J:=λa a=>True) (P:=λo=>cJ _ (nxS Φ Γ o _)=_) (λs a=>?_) (λx m n s a=>(.dat (.str x),trivial,?_)) trivial
 .simp_all
 .have:=h.2.1 x m
  simp[L,M x (nt0 (iK this).2 _),this]
abbrev Ap(Φ:Fs)(c:Nat):Prop:=Has Φ "tree" [true,true] λK=>∀(L:List Th)(J:List (Str×Int)),Good (J.map (·.1))->(∀p∈J,∃n:Nat,p.2=n/\n<L.length)->L.length<1000->∃j:Nat,(putL L (.tree J))[j]?=some (.tree J)/\K [vt c L,.list (J.map bZ)]=some (.tuple [.int j,vt c (putL L (.tree J))])
def Aq(C:Kq Φ)(N:qi Φ c)(L:List Th)(es:List (Str×Int))(U:Good (es.map (·.1)))(B:∀p∈es,∃n:Nat,p.2=n/\n<L.length)(hz:L.length<1000):∃j:Nat,(putL L (.tree es))[j]?=some (.tree es)/\ans Φ Γ (nZ c) [vt c L,.list (es.map bZ)]=some (.tuple [.int j,vt c (putL L (.tree es))]):=by
 obtain⟨E,V,Z⟩:=C;obtain⟨z,W,T⟩:=N;obtain⟨j,S,q⟩:=uM (c:=c) L (.tree es) @4;refine(j,S,?_);have R:=Z _ U;rw[List.map_map]at R;have O:es.length<=12:=by simpa using U.2.2
 have M:es.length<=big:=nt0 O @2;simp only[ans_e,nZ];simp[M,V];rw[az (g:=D.str ∘ Prod.fst) (λa a=>rfl)];simp[show (λx:Str×Int=>x.1)=Prod.fst from rfl]at R ⊢;rw[R];simp;refine Al (inj:=bZ) (F:=λs:Sl×Sl=>[.io (vt c L),.lent (.list (es.map bZ)),s.1,s.2]) (s:=(.no,.no)) (J:=λa a=>True) (P:=λo=>cJ (.io 0) (nxS Φ Γ o _)=_) (λs a=>?_) (λx m n s a=>((.dat (.str x.1),.dat (.int x.2)),trivial,?_)) trivial
 .simp[M]
  rw[az (g:=bZ) (λa a=>rfl)];simp[M,show nI c [.vlt c 0 (L.map Th.o),.tuple [.str ao,.tuple (es.map bZ)]]=_ from q]
 .obtain⟨n,Q,O⟩:=B x m
  obtain⟨k,K,N,I⟩:∃k K,(L.map Th.o)[n]?=some (.tuple (.str k::K))/\k≠CY:=by
   rw[gm0,ge0 O];cases L[n]with
   |blob t=>exact(_,_,rfl,by decide)
   |tree es=>exact(_,_,rfl,by decide)
  simp[W,bZ,Q,T 0 _ n k K N,I]
abbrev As(Φ:Fs)(c:Nat):Prop:=Has Φ "blob" [true,true] λJ=>∀(L:List Th)(x:Str),L.length<1000->∃j:Nat,(putL L (.blob x))[j]?=some (.blob x)/\J [vt c L,.str x]=some (.tuple [.int j,vt c (putL L (.blob x))])
def Au(L:List Th)(x:Str)(hz:L.length<1000):∃j:Nat,(putL L (.blob x))[j]?=some (.blob x)/\ans Φ Γ (nY c) [vt c L,.str x]=some (.tuple [.int j,vt c (putL L (.blob x))]):=by
 obtain⟨j,J,q⟩:=uM (c:=c) L _ @1;exact(j,J,by simp only[ans_e,nY];simp[show nI c [_,.tuple _]=_ from q])
def MU(c:Nat):ans Φ Γ bA [.str ⟨#[c]⟩]=some (.bool (cc c)):=by
 rw[wM];simp only[ans_e,bA]
 by_cases h:97<=c/\c<=122\/65<=c/\c<=90\/48<=c/\c<=57<;>simp[GR,h,inD,CW]
def MV(hs:uu Φ)(L:Γ.lookup ("LONGEST_NAME":Str)=some (D.int 12))(x:Str)(R:x.length<=1000):ans Φ Γ eU [.str x]=some (.bool (aK x)):=by
 obtain⟨V,N,O⟩:=hs;have K:x.length<=big:=nt0 R @2;have U:x.cps.size<=big:=K;simp only[ans_e,eU,aK,dot,GS]
 by_cases M:1<=x.length/\x.length<=12
 .by_cases J:x=⟨#[46]⟩\/x=⟨#[46,46]⟩
  .simp[K,L,M,J,show ¬ ((x.length:Int)<1\/12<(x.length:Int)) by lia]
   rcases J with rfl|rfl<;>simp
  .simp[K,U,L,M,J,show ¬ ((x.length:Int)<1\/12<(x.length:Int)) by lia]
   rw[az (g:=λc=>D.bool (cc c)) λc a=>by simp[cpF_e,N,O]];simp[not_or.mp J]
 .simp[K,L,show (x.length:Int)<1\/12<(x.length:Int) by grind]
  lia
def nmR(M:gI Φ)(ns:List Int)(b:Int):MG (ans Φ Γ bE [.scr ns,.int b]):=by
 obtain⟨l,W,B⟩:=M;have P:=B ns b;generalize mixF ns b=N at P;simp only[ans_e,bE];simp[W,P]
 by_cases V:0<N % 3
 .have F:=en0 (N / 3) (b:=8) @2
  have u:=el0 (N / 3) (b:=8) @2;generalize N / 3 % 8=m at F u;obtain⟨k,rfl⟩:=Int.eq_ofNat_of_zero_le F;simp[V]
  match k,(by lia:k<8)with
  |0,_|1,_|2,_|3,_|4,_|5,_|6,_|7,_=>exact(_,rfl,by decide)
 .have m1:=en0 (N / 3) (b:=12) @2
  have m2:=el0 (N / 3) (b:=12) @2;obtain⟨k,Z⟩:=Int.eq_ofNat_of_zero_le m1;rw[Z]at m2;have R:k+1<=big:=nt0 (m:=13) @1 @2;have M:∀c∈List.map (sgn7 ns b) (List.range (k+1)),cc c=true:=λc L=>by
   obtain⟨j,_,rfl⟩:=mm0 L;erw[DG ns b j]
  simp[V,Z,xg (n:=1+(k:Int)) @1 @1,show (1+(k:Int)).toNat=k+1 by lia,R];rw[az (g:=D.str ∘ (λc=>(⟨#[c]⟩:Str)) ∘ sgn7 ns b) λj a=>by
   have f:=qh (xs:=signs65) 0 (en0 (mixF ns (b+7*(j:Int)) / 5) (b:=65) @2) (el0 _ @2);simp[cpF_e,W,B,mulL (i:=7) @2 @2];exact(by decide,f),<-List.map_map,<-List.map_map]
  obtain⟨K,L⟩:∃K,(List.range (k+1)).map (sgn7 ns b)=K:=(_,rfl);have C:K.length=k+1:=by rw[<-L];simp
  rw[L]at M ⊢;have S:strsOf (K.map (D.str ∘ λc=>(⟨#[c]⟩:Str)))=some (K.map λc=>⟨#[c]⟩):=by rw[<-List.map_map,aE]
  have J:Txt.join ⟨#[]⟩ (K.map λc=>(⟨#[c]⟩:Str))=⟨K.toArray⟩:=join_one K;have E:((λx:Str=>x.length) ∘ λc:Nat=>(⟨#[c]⟩:Str))=λa=>1:=rfl
  have L2:(⟨#[]⟩:Str).length=0:=rfl;simp[S,J,E,L2,List.map_const',List.sum_replicate_nat,C,R];obtain⟨T,O⟩:∃T:Str,⟨K.toArray⟩=T:=(_,rfl);have U:T.length=k+1:=by rw[<-O];show K.toArray.size=_;simp[C]
  have v:T.cps.toList.all cc=true:=by rw[<-O];simpa using M
  rw[O];have m0:mulO (some (.str ⟨#[97]⟩)) (some (.int 0))=some (.str ⟨#[]⟩):=rfl;have m1:mulO (some (.str ⟨#[97]⟩)) (some (.int 1))=some (.str ⟨#[97]⟩):=rfl;have n:∀Q:Str,opD .add (.str T) (.str Q)=if T.length+Q.length<=big then some (.str (T++Q))else none:=λa=>rfl
  have z:k+1+1<=big:=nt0 (m:=14) @1 @2
  by_cases q:⟨#[46]⟩=T\/⟨#[46,46]⟩=T
  .refine(T++⟨#[97]⟩,?_,by rcases q with rfl|rfl<;>decide)
   simp[inD,okS,q,m1,n,U,show (⟨#[97]⟩:Str).length=1 from rfl,z]
  .refine(T,?_,?_)
   .simp[inD,okS,q,m0,n,U,L2,R]
    erw[og (by show (T.cps++#[]).toList=_;simp)]
   .have I:=not_or.mp q
    rw[aK,v];simp[U,dot,GS,Ne.symm I.1,Ne.symm I.2];lia
def HM{Φ'}{Γ'}(W:gI Φ)(N:gI Φ')(ns:List Int)(b:Int):ans Φ Γ bE [.scr ns,.int b]=ans Φ' Γ' bE [.scr ns,.int b]:=by
 obtain⟨Z,J,L⟩:=W;obtain⟨T,K,M⟩:=N;have m1:=en0 (mixF ns b / 3) (b:=12) @2;have m2:=el0 (mixF ns b / 3) (b:=12) @2;obtain⟨k,R⟩:=Int.eq_ofNat_of_zero_le m1;rw[R]at m2;have V:k+1<=big:=nt0 (m:=13) @1 @2;simp only[ans_e,bE]
 by_cases O:0<mixF ns b % 3
 .simp[J,L,K,M,O]
  generalize atI _ _=o;cases o
  .rfl
  .simp
 .simp[J,L,K,M,O,R,xg (n:=1+(k:Int)) @1 @1,show (1+(k:Int)).toNat=k+1 by lia,V]
  have U:=λj:Nat=>qh (xs:=signs65) 0 (en0 (mixF ns (b+7*(j:Int)) / 5) (b:=65) @2) (el0 _ @2)
  rw[az (g:=D.str ∘ (λc=>(⟨#[c]⟩:Str)) ∘ sgn7 ns b) λj a=>by
   simp[cpF_e,J,L,mulL (i:=7) @2 @2];exact(by decide,U j),az (g:=D.str ∘ (λc=>(⟨#[c]⟩:Str)) ∘ sgn7 ns b) λj a=>by
   simp[cpF_e,K,M,mulL (i:=7) @2 @2];exact(by decide,U j)]
  simp;generalize strsOf _=z;cases z with
  |none=>rfl
  |some F=>
   simp;split
   .simp
    generalize Option.bind (mulO _ _) _=o;rcases o with _|z
    .rfl
    .cases z<;>rfl
   .rfl
noncomputable def Kr:Fs:=λf=>if f="_law_mix" then some ([true,true],λJ=>match J with
 |[.scr K,.int k]=>some (.int (mixF K k))
 |_=>none) else none
def uO:gI Kr:=(_,if_pos rfl,λa a=>rfl)
def nmS(ns:List Int)(k:Int):Str:=match ans Kr [] bE [.scr ns,.int k]with
 |some (.str x)=>x
 |_=>⟨#[]⟩
abbrev HNm(Φ:Fs):Prop:=Has Φ "_law_name" [true,true] λK=>∀J k,K [.scr J,.int k]=some (.str (nmS J k))/\aK (nmS J k)=true
def nmE(J:gI Φ)(ns:List Int)(k:Int):ans Φ Γ bE [.scr ns,.int k]=some (.str (nmS ns k))/\aK (nmS ns k)=true:=by
 obtain⟨x,a,b⟩:=nmR uO ns k;have:nmS ns k=x:=by unfold nmS;rw[a]
 rw[HM J uO,this];exact(a,b)
mutual
inductive Nd where
 |blob (t:Str)
 |tree (es:Nds)
inductive Nds where
 |nil
 |cons (x:Str) (n:Nd) (r:Nds)
end
mutual
noncomputable def Nd.d:Nd->D
 |.blob t=>.tuple [.str af,.str t]
 |.tree J=>.tuple [.str ao,.list J.ds]
noncomputable def Nds.ds:Nds->List D
 |.nil=>[]
 |.cons x n r=>.tuple [.str x,n.d]::r.ds
end
noncomputable def Nds.names:Nds->List Str
 |.nil=>[]
 |.cons x _ r=>x::r.names
noncomputable def tb(w:Nat):Nat:=if w<=3 then 30 else 1300
mutual
noncomputable def Nd.ok(w:Nat):Nat->Nd->Prop
 |_,.blob t=>t.length<=tb w
 |0,.tree _=>False
 |k+1,.tree J=>bY J.names/\(∀x∈J.names,aK x=true)/\J.names.length<=w/\J.ok w k
noncomputable def Nds.ok(w:Nat):Nat->Nds->Prop
 |_,.nil=>True
 |k,.cons _ n r=>n.ok w k/\r.ok w k
end
theorem Nds.len:∀es:Nds,es.ds.length=es.names.length
 |.nil=>rfl
 |.cons x n r=>by rw[Nds.ds,Nds.names,lc0,lc0,Nds.len r]
def HN(ns:List Int)(k:Int)(M:Nat):List Str:=(List.range M).map λj:Nat=>nmS ns (k+3+j)
def Av(L:HNm Φ)(ns:List Int):∃r,Φ "_law_name"=some ([true,true],r)/\∀k,r [.scr ns,.int k]=some (.str (nmS ns k))/\aK (nmS ns k)=true:=by
 obtain⟨M,J,K⟩:=L;exact(M,J,K ns)
abbrev uP(Φ:Fs)(m:Nat):Prop:=Has Φ "_law_folder" [true,true,true] λK=>∀L k,∃J,(Nd.tree J).ok 3 m/\(∃M,M<=3/\J.names=srtS (HN L k M))/\K [.scr L,.int k,.int m]=some (Nd.tree J).d
abbrev qH(Φ:Fs)(m:Nat):Prop:=Has Φ "_law_node" [true,true,true] λJ=>∀K k,∃n:Nd,n.ok 3 m/\J [.scr K,.int k,.int m]=some n.d
theorem eF{f:D->Option (Option D)}{P:Str->Prop}:∀xs:List D,(∀x∈xs,∃t:Str,P t/\f x=some (some (.str t)))->∃ts:List Str,ts.length=xs.length/\(∀t∈ts,P t)/\ay f xs=some (ts.map .str)
 |[],_=>([],rfl,(λa h=>by cases h),rfl)
 |x::r,h=>by
  obtain⟨t,p,e⟩:=h x ms0;obtain⟨ts,l,q,J⟩:=eF r λy L=>h y (mc0 _ L)
  refine(t::ts,by rw[lc0,l,lc0],λu K=>?_,?_)
  .rcases mq0 K with z|z
   .rw[z];erw[p]
   .erw[q u z]
  .rw[ay,e,bs0,J];rfl
theorem iT{f}{m}:∀(zs:A1)(i:Nat),(∀(j:Nat)(z:Str),zs[j]?=some z->∃n:Nd,n.ok 3 m/\f (.int ((i+j:Nat):Int))=some (some (.tuple [.str z,n.d])))->∃es:Nds,es.names=zs/\es.ok 3 m/\ay f ((List.range' i zs.length).map λk:Nat=>D.int k)=some es.ds
 |[],i,_=>(.nil,rfl,trivial,rfl)
 |z::r,i,h=>by
  obtain⟨n,p,e⟩:=h 0 z rfl;obtain⟨es,a,b,c⟩:=iT r (i+1) λj y J=>by
   obtain⟨n,p,e⟩:=h (j+1) y (by simpa using J);exact(n,p,by rw[<-e];congr 2;lia)
  refine(.cons z n es,by rw[Nds.names,a],(p,b),?_);rw[lc0,List.range'_succ,mk0,ay,show f (D.int i)=some _ from e,c];rfl
def HP{ts:A1}{i:Int}(K:0<=i)(L:i<ts.length):∃t∈ts,atI (ts.map D.str) i=some (.str t):=by
 have J:i.toNat<ts.length:=by simp_all
 refine(ts[i.toNat],List.getElem_mem J,?_);rw[aR K (by rw[lm0];erw[L]),gm0,ge0 J];rfl
abbrev Aw(Φ:Fs):Prop:=Has Φ "_law_sign" [true] λJ=>∀n,∃x:Str,x.length=1/\J [.int n]=some (.str x)
def Ks(n:Int):∃x:Str,x.length=1/\ans Φ Γ gA [.int n]=some (.str x):=by
 have K:=en0 n (b:=94) @2;have M:=el0 n (b:=94) @2;simp only[ans_e,gA];simp;rw[if_pos @2];simp;rw[if_pos @2];generalize L:(_++_:Str)=s;have N:s.cps.toList.length=94:=by rw[<-L];decide
 have J:(n % 94).toNat<s.cps.toList.length:=by simp_all
 rw[aR K @6,ge0 J];exact(_,rfl,by simp;rfl)
abbrev sV(Φ:Fs):Prop:=Has Φ "_law_line" [true,true] λJ=>∀K k,∃x:Str,x.length<=3/\J [.scr K,.int k]=some (.str x)
def Kt(R:gI Φ)(hs:Aw Φ)(ns:List Int)(k:Int):∃x:Str,x.length<=3/\ans Φ Γ gB [.scr ns,.int k]=some (.str x):=by
 obtain⟨T,K,O⟩:=R;obtain⟨F,M,L⟩:=hs;simp only[ans_e,gB];have J:=O ns k;generalize mixF ns k=N at J
 by_cases c:N % 4=3
 .obtain⟨x,V,Y⟩:=L (N / 4)
  obtain⟨y,W,Z⟩:=L (N / 376);refine(x++y,by rw[oA];simp_all,?_);simp[K,J,M,Y,Z,c,V,W,show 2<=big by decide]
 .obtain⟨t,U,e⟩:=HP (ts:=[⟨#[97]⟩,⟨#[98]⟩,⟨#[]⟩,⟨#[97,32,98]⟩,⟨#[124]⟩,⟨#[99]⟩]) (i:=N / 4 % 6) (en0 _ @2) (el0 _ @2)
  refine(t,(by decide:∀x∈[(⟨#[97]⟩:Str),⟨#[98]⟩,⟨#[]⟩,⟨#[97,32,98]⟩,⟨#[124]⟩,⟨#[99]⟩],x.length<=3) t U,?_);simp only[mk0,List.map_nil]at e;simp[K,J,c,e]
abbrev EN(Φ:Fs):Prop:=Has Φ "_law_row" [true,true,true] λJ=>∀L b (n:Nat),n<=3->∃K:List Str,K.length=n/\(∀x∈K,x.length<=3)/\J [.scr L,.int b,.int n]=some (.list (K.map .str))
def MW(M:sV Φ)(ns:List Int)(b:Int)(n:Nat)(N:n<=3):∃xs:List Str,xs.length=n/\(∀x∈xs,x.length<=3)/\ans Φ Γ jh [.scr ns,.int b,.int n]=some (.list (xs.map .str)):=by
 obtain⟨U,J,K⟩:=M;simp only[ans_e,jh];simp[Km (n:=n) @1,show n<=big from nt0 N @2];generalize L:cpF Φ Γ _ _ _ _ _ _=f;obtain⟨R,a,p,q⟩:=eF (f:=f) ((List.range n).map λk:Nat=>D.int k) λx O=>by
  obtain⟨k,_,rfl⟩:=mm0 O;obtain⟨t,l,e⟩:=K ns (b+k);exact(t,l,by rw[<-L];simp[cpF_e,J,e])
 exact(R,by simpa using a,p,by simp_all)
abbrev sW(Φ:Fs):Prop:=Has Φ "_law_ends" [true,true] λK=>∀(J:A1)(b:Bool)(k m:Nat),k<=40->m<=40->J.length<=k->(∀x∈J,x.length<=m)->∃L:List Str,L.length<=k/\(∀x∈L,x.length<=m+1)/\K [.list (J.map .str),.bool b]=some (.list (L.map .str))
def Ku(J:A1)(b:Bool)(k m:Nat)(Z:k<=40)(F:m<=40)(M:J.length<=k)(N:∀x∈J,x.length<=m):∃xs:List Str,xs.length<=k/\(∀x∈xs,x.length<=m+1)/\ans Φ Γ gC [.list (J.map .str),.bool b]=some (.list (xs.map .str)):=by
 have R:(⟨#[10]⟩:Str).length=1:=rfl;have O:∀x∈J,x.length+(⟨#[10]⟩:Str).length<=big:=λx h=>nt0 (by have:=N x h;grind:x.length+1<=41) @2
 have K:∀x∈J.map (·++(⟨#[10]⟩:Str)),x.length<=m+1:=λx h=>by
  obtain⟨y,T,rfl⟩:=mm0 h;rw[oA,R];have:=N y T;simp_all
 simp only[ans_e,gC];simp[show J.length<=big from nt0 (nt0 M Z) @2];rw[az (g:=λx:Str=>D.str (x++⟨#[10]⟩)) λx h=>by have:=O x h;simp[cpF_e,this]];have L:∃xs:List Str,xs.length<=k/\(∀x∈xs,x.length<=m+1)/\(J.map λx=>D.str (x++⟨#[10]⟩))=xs.map .str:=(_,by simpa using M,K,by simp);cases b with
 |false=>simpa using L
 |true=>
  by_cases V:J=[]
  .simpa [V]using L
  .obtain⟨r,t,rfl⟩:=List.eq_nil_or_concat J|>.resolve_left V
   rw[List.concat_eq_append]at *;have Y:ixN (r.length+1) (-1)=some r.length:=by
    unfold ixN;rw[if_neg @2,if_pos @4]
    congr 1;grind
   have U:atI (r.map D.str++[.str t]) (-1)=some (.str t):=by unfold atI;simp[Y]
   by_cases W:t=⟨#[]⟩
   .subst W;simpa [U]using L
   .refine(r.map (·++⟨#[10]⟩)++[t],by simpa using M,λx h=>?_,?_)
    .rcases ma0 h with h|h
     .erw[K x (by rw[List.map_append];exact List.mem_append_left _ h)]
     .rw[List.mem_singleton.mp h];erw[Nat.le_succ_of_le (N t @0)]
    .simp[U,W,Y]
def qI(X:gI Φ)(H:EN Φ)(G:sW Φ)(m:Nat)(I:0<m->uP Φ m)(ns:List Int)(k:Int):∃n:Nd,n.ok 3 m/\ans Φ Γ di [.scr ns,.int k,.int m]=some n.d:=by
 obtain⟨g,L,C⟩:=X;obtain⟨f,O,Q⟩:=H;obtain⟨v,R,S⟩:=G;have K:=C ns (k+1);generalize mixF ns (k+1)=N at K
 by_cases J:0<m/\N % 5<2
 .obtain⟨w,T,P⟩:=I J.1
  obtain⟨B,p,_,e⟩:=P ns k;refine(.tree B,p,?_);simp only[ans_e,di];simp[L,K,J.1,J.2,T,e]
 have q:=en0 (N / 5) (b:=4) @2;have u:=el0 (N / 5) (b:=4) @2;obtain⟨j,U⟩:∃j:Nat,N / 5 % 4=j:=((N / 5 % 4).toNat,by grind);obtain⟨M,l,A,Y⟩:=Q ns (k+2) j @4;obtain⟨E,D,F,Z⟩:=S M (decide (N % 3=0)) 3 3 @6 @6 @4 A;have W:=nt0 (sF F) (Nat.mul_le_mul_right 4 D);refine(.blob (Txt.join Str.empty E),nt0 (ka _) (nt0 W @2),?_);have V:(E.map λx=>x.length).sum<=big:=nt0 W @2;simp only[ans_e,di]
 by_cases z:0<m
 .have y:¬ N % 5<2:=λy=>J (z,y)
  simp[L,K,z,y,U,O,Y,R,Z,aE,V,show (⟨#[]⟩:Str).length=0 from rfl];rfl
 .simp[L,K,z,U,O,Y,R,Z,aE,V,show (⟨#[]⟩:Str).length=0 from rfl]
  rfl
def km(A:gI Φ)(O:HNm Φ)(m:Nat)(E:qH Φ m)(ns:List Int)(k:Int):∃es,(Nd.tree es).ok 3 (m+1)/\(∃M,M<=3/\es.names=srtS (HN ns k M))/\ans Φ Γ cF [.scr ns,.int k,.int ((m+1:Nat):Int)]=some (Nd.tree es).d:=by
 obtain⟨q,Z,P⟩:=A;obtain⟨u,T,J⟩:=Av O ns;obtain⟨v,F,G⟩:=E;have g:=oa ns k 4 @2;have I:=P ns k;generalize O:mixF ns k % 4=M at g;have L:M.toNat<=big:=by unfold big;grind
 simp only[ans_e,cF];simp[Z,I,O,xg (n:=M) @4 @4,L];rw[az (g:=λj:Nat=>D.str (nmS ns (k+3+j))) λj c=>by simp[cpF_e,T,J]];have R:=qG ((List.range M.toNat).map λj:Nat=>nmS ns (k+3+j)) (by simp;grind);rw[List.map_map]at R;have V:srtS ((List.range M.toNat).map λj:Nat=>nmS ns (k+3+j))=srtS (HN ns k M.toNat):=rfl;have U:=kh ((List.range M.toNat).map λj:Nat=>nmS ns (k+3+j));have W:∀t∈srtS ((List.range M.toNat).map λj:Nat=>nmS ns (k+3+j)),aK t=true:=λt y=>by
  obtain⟨j,_,rfl⟩:=mm0 ((mem_srtS _ t).mp y);exact (J _).2
 have Y:=bj ((List.range M.toNat).map λj:Nat=>nmS ns (k+3+j));generalize srtS ((List.range M.toNat).map λj:Nat=>nmS ns (k+3+j))=N at R U W Y V;rw[lm0,lr0]at U;simp[show (λj:Nat=>D.str (nmS ns (k+3+j)))=D.str ∘ (λj:Nat=>nmS ns (k+3+j))from rfl,R,EM (ds:=N.map .str) (by simp;grind),show N.length<=big from nt0 U (by unfold big;assumption)];rw[List.range_eq_range'];generalize X:cpF Φ Γ _ _ _ _ _ _=f;obtain⟨es,K,S,C⟩:=iT (m:=m) (f:=f) N 0 λj z L=>by
  obtain⟨n,a,b⟩:=G ns (4*k+5+j);refine(n,a,?_);have H:=(gi0 L).1;have B:atI (N.map D.str) (j:Int)=some (.str z):=by
   rw[aR @6 (by rw[lm0];exact_mod_cast H),Int.toNat_natCast,gm0,L];rfl
  have Q:(m:Int)+1-1=(m:Int):=by simp_all
  rw[<-X];simp[cpF_e,F,b,B,Q,mulL (i:=4) @2 @2]
 refine(es,(by rw[K];erw[Y],by rw[K];erw[W],by rw[K];lia,S),(M.toNat,by lia,by rw[K,V]),?_);rw[C];rfl
mutual
noncomputable def Nd.rep(L:List Th):Nat->Nd->Prop
 |i,.blob t=>L[i]?=some (.blob t)
 |i,.tree K=>∃J:List (Str×Int),J.map (·.1)=K.names/\L[i]?=some (.tree J)/\K.rep L (J.map (·.2))
noncomputable def Nds.rep(L:List Th):List Int->Nds->Prop
 |[],.nil=>True
 |i::J,.cons _ n r=>(∃k:Nat,i=k/\n.rep L k)/\r.rep L J
 |_,_=>False
end
mutual
theorem Nd.rep_ex{L J:List Th}(h:Ex L J):∀(n:Nd)(i:Nat),n.rep L i->n.rep J i
 |.blob t,i,e=>by rw[Nd.rep]at e ⊢;erw[h.1 i _ e]
 |.tree K,i,e=>by
  rw[Nd.rep]at e ⊢;obtain⟨M,a,b,c⟩:=e;exact(M,a,h.1 i _ b,Nds.rep_ex h K _ c)
theorem Nds.rep_ex{L K:List Th}(h:Ex L K):∀(es:Nds)(J:List Int),es.rep L J->es.rep K J
 |.nil,[],e=>by rw[Nds.rep];trivial
 |.nil,_::_,e=>by rw[Nds.rep]at e;erw[e.elim];all_goals simp
 |.cons x n r,[],e=>by rw[Nds.rep]at e;erw[e.elim];all_goals simp
 |.cons x n r,i::J,e=>by
  rw[Nds.rep]at e ⊢;obtain⟨⟨k,rfl,a⟩,b⟩:=e;exact((k,rfl,Nd.rep_ex h n k a),Nds.rep_ex h r J b)
end
mutual
noncomputable def Nd.cnt:Nd->Nat
 |.blob _=>1
 |.tree J=>J.cnt+1
noncomputable def Nds.cnt:Nds->Nat
 |.nil=>0
 |.cons _ n r=>n.cnt+r.cnt
end
def Nd.hd{L}{n:Nd}{i}(h:n.rep L i):i<L.length:=by
 cases n with
 |blob t=>exact (gi0 h).1
 |tree J=>obtain⟨K,_,b,_⟩:=h;exact (gi0 b).1
theorem Nds.hds{L}:∀{es:Nds}{J:List Int},es.rep L J->(∀i∈J,∃n:Nat,i=n/\n<L.length)/\J.length=es.names.length
 |.nil,[],_=>(nofun,rfl)
 |.nil,_::_,h=>h.elim
 |.cons x n r,[],h=>h.elim
 |.cons x n r,i::J,h=>by
  obtain⟨⟨k,rfl,a⟩,b⟩:=h;obtain⟨p,q⟩:=Nds.hds b;refine(λj hj=>?_,by rw[lc0,q,Nds.names,lc0]);rcases mq0 hj with e|hj
  .exact(k,e,Nd.hd a)
  .erw[p j hj]
abbrev Ax(c m:Nat)(K:List D->Option D):Prop:=∀(L:List Th)(n:Nd),n.ok 4 m->L.length+n.cnt<=900->∃J i,K [vt c L,n.d]=some (.tuple [.int (i:Nat),vt c J])/\n.rep J i/\Ex L J/\J.length<=L.length+n.cnt
abbrev oC(Φ:Fs)(c m:Nat):Prop:=Has Φ "_law_store" [true,true] (Ax c m)
theorem kn{k:Nat}{f:D->D->Option (D×D)}(hs:∀(L:List Th)(x:Str)(n:Nd),n.ok 4 k->L.length+n.cnt<=900->∃J i,f (.tuple [.str x,n.d]) (vt c L)=some (bZ (x,((i:Nat):Int)),vt c J)/\n.rep J i/\Ex L J/\J.length<=L.length+n.cnt):∀(es:Nds)(L:List Th),es.ok 4 k->L.length+es.cnt<=900->
  ∃J K,lj f es.ds (vt c L)=some ((es.names.zip K).map bZ,vt c J)/\es.rep J K/\Ex L J/\J.length<=L.length+es.cnt
 |.nil,L,_,_=>(L,[],rfl,by rw[Nds.rep];trivial,Ex.refl _,nr0 _)
 |.cons x n r,L,h,W=>by
  rw[Nds.ok]at h;rw[Nds.cnt]at W;obtain⟨N,i,O,a2,R,Y⟩:=hs L x n h.1 @1;obtain⟨L2,K,U,V,M,Z⟩:=kn hs r N h.2 @1;refine(L2,i::K,?_,?_,R.trans M,by rw[Nds.cnt];lia)
  .rw[Nds.ds,lj,O,bs0,U];rfl
  .rw[Nds.rep];exact((i,rfl,Nd.rep_ex M n i a2),V)
def mH(I:As Φ c)(A:Ap Φ c)(m:Nat)(hs:∀k,m=k+1->oC Φ c k):Ax c m (ans Φ Γ dm):=by
 intro L n M N;obtain⟨l,B,S⟩:=I;obtain⟨r,C,P⟩:=A;simp only[ans_e,dm];cases n with
 |blob t=>
  rw[Nd.cnt]at N;obtain⟨j,U,q⟩:=S L t @1;obtain⟨O,Y⟩:=oB L (.blob t);refine(putL L (.blob t),j,?_,by rw[Nd.rep];erw[U],O,Y);simp[Nd.d,B,q]
 |tree J=>
  cases m with
  |zero=>exact M.elim
  |succ k=>
   rw[Nd.ok]at M;obtain⟨z,y,u,g⟩:=M;rw[Nd.cnt]at N;obtain⟨b,Q,G⟩:=hs k rfl;have D:J.ds.length<big:=by rw[Nds.len];erw[Nat.lt_of_le_of_lt u @2]
   simp[Nd.d,D,C];generalize X:lq Φ Γ _ _ _ _ _ _=f;obtain⟨R,K,T,a2,F,v⟩:=kn (c:=c) (k:=k) (f:=f) (λL x n M N=>by
    obtain⟨Z,i,p,q⟩:=G L n M N;exact(Z,i,by rw[<-X];simp[lq,Q,p,bZ],q)) J L g (by lia)
   obtain⟨E,w⟩:=Nds.hds a2;have V:(J.names.zip K).map (·.1)=J.names:=List.map_fst_zip @1;have W:(J.names.zip K).map (·.2)=K:=List.map_snd_zip @1;obtain⟨j,U,q⟩:=P R (J.names.zip K) (by rw[V];exact(z,y,by lia)) (λp H=>E _ (by rw[<-W];erw[List.mem_map_of_mem H])) @1;obtain⟨O,Y⟩:=oB R (.tree (J.names.zip K));refine(putL R (.tree (J.names.zip K)),j,?_,by rw[Nd.rep];exact(_,V,U,by rw[W];erw[Nds.rep_ex O J K a2]),F.trans O,by rw[Nd.cnt];lia);simp[T,q]
mutual
theorem Nd.cnt_le:∀(n:Nd)(m:Nat),n.ok 4 m->n.cnt<=5 ^ m
 |.blob t,m,_=>by rw[Nd.cnt];erw[Nat.one_le_pow _ _ @1]
 |.tree J,0,h=>h.elim
 |.tree J,m+1,h=>by
  rw[Nd.ok]at h;have:=Nds.cnt_le J m h.2.2.2;have K:=h.2.2.1;have L:1<=5 ^ m:=Nat.one_le_pow _ _ @1;rw[Nd.cnt,Nat.pow_succ];have:J.names.length*5 ^ m<=4*5 ^ m:=Nat.mul_le_mul_right _ K
  lia
theorem Nds.cnt_le:∀(es:Nds)(m:Nat),es.ok 4 m->es.cnt<=es.names.length*5 ^ m
 |.nil,m,_=>Nat.zero_le _
 |.cons x n r,m,h=>by
  rw[Nds.ok]at h;have J:=Nd.cnt_le n m h.1;have K:=Nds.cnt_le r m h.2;rw[Nds.cnt,Nds.names,lc0,Nat.succ_mul]
  lia
end
mutual
theorem Nd.ok34:∀(n:Nd)(m:Nat),n.ok 3 m->n.ok 4 m
 |.blob t,m,h=>nt0 (show t.length<=tb 3 by cases m<;>exact h) @2
 |.tree J,0,h=>h.elim
 |.tree J,m+1,h=>by
  rw[Nd.ok]at h ⊢;exact(h.1,h.2.1,Nat.le_succ_of_le h.2.2.1,Nds.ok34 J m h.2.2.2)
theorem Nds.ok34:∀(es:Nds)(m:Nat),es.ok 3 m->es.ok 4 m
 |.nil,m,_=>trivial
 |.cons x n r,m,h=>by
  rw[Nds.ok]at h ⊢;exact(Nd.ok34 n m h.1,Nds.ok34 r m h.2)
end
variable {w:Nat}
theorem gP{inj}{tg}{r}{F:α->List Sl}(J:List β->α->Prop){P:Option Out->Prop}(k:∀s,J [] s->P (some (.nx (F s))))(h:∀x q s,J (x::q) s->∃K,J q K/\(ax tg (inj x) (F s)).bind (λY=>exs Φ Γ Y r)=some (.nx (F K))):∀{xs:List β}{s},J xs s->P (xf Φ Γ tg r (xs.map inj) (F s))
 |[],s,j=>k s j
 |x::xs,s,j=>by
  obtain⟨K,O,e⟩:=h x xs s j;obtain⟨L,M,N⟩:=bx0 e;show P ((ax tg (inj x) (F s)).bind λL=>(exs Φ Γ L r).bind _);rw[M,bs0,N];erw[gP J k h O]
noncomputable def Nds.l:Nds->List (Str×Nd)
 |.nil=>[]
 |.cons x n r=>(x,n)::r.l
abbrev pD(p:Str×Nd):D:=.tuple [.str p.1,p.2.d]
theorem Nds.ds_l:∀es:Nds,es.ds=es.l.map pD
 |.nil=>rfl
 |.cons x n r=>by rw[Nds.ds,Nds.l,mk0,Nds.ds_l r]
theorem Nds.names_l:∀es:Nds,es.names=es.l.map (·.1)
 |.nil=>rfl
 |.cons x n r=>by rw[Nds.names,Nds.l,mk0,Nds.names_l r]
theorem Nds.ok_l{m}:∀{es:Nds},es.ok w m↔∀p∈es.l,p.2.ok w m
 |.nil=>(λa a h=>(by cases h),λa=>trivial)
 |.cons x n r=>by rw[Nds.ok,Nds.l,Nds.ok_l];simp
def kQ{n}(h:n<=2000):n<=big:=nt0 h @2
def xh{l:List α}{z}:cut (l++[z]) none (some (-1))=l:=by
 unfold cut sIx;simp;rw[show (-1+((l.length:Int)+1)).toNat=l.length by grind];simp
abbrev cY(k m:Nat)(xs:A1):Prop:=xs.length<=k/\∀x∈xs,x.length<=m
abbrev Ay(Φ:Fs):Prop:=Has Φ "_law_lines" [true] λJ=>∀x:Str,x.length<=30->∃K,cY 31 31 K/\J [.str x]=some (.list (K.map .str))
def xi(x:Str)(h:x.length<=30):∃xs,cY 31 31 xs/\ans Φ Γ bN [.str x]=some (.list (xs.map .str)):=by
 have W:=cL x;have N:=split_le x;have Y:=du x;have U:x.length+2<=big:=kQ @4;simp only[ans_e,bN];simp[U,show (⟨#[10]⟩:Str).length=1 from rfl,show (⟨#[10]⟩:Str)=nl from rfl];generalize Txt.split x nl=V at *;obtain⟨r,t,rfl⟩:=List.eq_nil_or_concat V|>.resolve_left Y
 rw[List.concat_eq_append]at *;have K:nl.length=1:=rfl;simp at W;have O:(r++[t]).length<=big:=kQ (by simp;grind);simp[K,show r.length+1<=big by simpa using O];have R:∀p∈r++[t],p.length+nl.length<=big:=λp J=>kQ (by have:=N p J;rw[K];grind)
 rw[show List.map D.str r++[D.str t]=(r++[t]).map .str by simp,az (g:=λp=>D.str (p++nl)) λp J=>by have:=R p J;simp[cpF_e,this]];have L:cY 30 31 (r.map (·++nl)):=(by simpa using (nt0 ‹_› ‹_›),λy hy=>by
  obtain⟨p,J,rfl⟩:=mm0 hy;have:=N p (by simp[J]);rw[oA,K];grind)
 have Z:=N t @0;have M:atI (r.map (λp=>D.str (p++nl))++[D.str (t++nl)]) (-1)=some (.str (t++nl)):=by rw[fX @0 .none];simp
 simp[M,xh]
 by_cases e:t++nl=nl
 .exact(r.map (·++nl),(by have:=L.1;erw[Nat.le_succ_of_le ‹_›],L.2),by simp[e,M,xh,Function.comp_def])
 .have F:=Txt.slice_le (t++nl) none (some (-1))
  have T:(t++nl).length<=31:=by rw[oA,K];grind
  refine(r.map (·++nl)++[Txt.slice (t++nl) none (some (-1))],(by have:=L.1;rw[la0];show _+1<=_;simp_all,λy hy=>?_),?_)
  .rcases ma0 hy with hy|hy
   .erw[L.2 y hy]
   .rw[List.mem_singleton.mp hy];lia
  .simp[e,M,xh,show (t++nl).length<=big from kQ @1,show r.length+1<=big by simpa using O,Function.comp_def]
abbrev EO(Φ:Fs):Prop:=Has Φ "_law_edited" [true,true,true] λJ=>∀M k K,cY 31 31 K->∃L,cY 40 31 L/\J [.scr M,.int k,.list (K.map .str)]=some (.list (L.map .str))
def ER{tg}{r}{F:α->List Sl}{n}(J:Nat->α->Prop){P:Option Out->Prop}(k:∀s,J n s->P (some (.nx (F s))))(h:∀j s,j<n->J j s->∃M,J (j+1) M/\(ax tg (.int (j:Nat)) (F s)).bind (λY=>exs Φ Γ Y r)=some (.nx (F M))){s}(R:J 0 s):P (xf Φ Γ tg r ((List.range n).map λk:Nat=>.int k) (F s)):=by
 refine gP (inj:=λk:Nat=>D.int k) (J:=λq s=>∃j,j<=n/\q=List.range' j (n-j)/\J j s) (λs z=>?_) (λx q s z=>?_) (0,Nat.zero_le _,by rw[List.range_eq_range'];rfl,R)
 .obtain⟨j,N,K,L⟩:=z
  have:n-j=0:=by have:=congrArg List.length K;simpa using this.symm
  have:j=n:=by lia
  subst this;erw[k s L]
 .obtain⟨j,N,K,L⟩:=z
  have O:n-j=q.length+1:=by have:=congrArg List.length K;simpa using this.symm
  rw[O,List.range'_succ]at K
  grind
def oE{α β}{f:α->β}{l:List α}{a b}:cut (l.map f) a b=(cut l a b).map f:=by unfold cut;simp
def uQ{l:List α}{a b}:∀x∈cut l a b,x∈l:=λx h=>List.mem_of_mem_drop (List.mem_of_mem_take h)
def DJ{l:List α}{i j}(J:0<=i)(K:i<=j):(cut l none (some i)).length+(cut l (some j) none).length<=l.length:=by
 unfold cut sIx;simp only[Nat.sub_zero,List.drop_zero,List.length_take,List.length_drop];rw[if_neg @6,if_neg @4]
 grind
def sX(X:gI Φ)(E:sV Φ)(ns)(k:Int)(xs)(hx:cY 31 31 xs):∃U,cY 40 31 U/\ans Φ Γ dH [.scr ns,.int k,.list (xs.map .str)]=some (.list (U.map .str)):=by
 obtain⟨f,V,C⟩:=X;obtain⟨m,Y,G⟩:=E;have g:=oa ns k 4 @2;have I:=C ns k;generalize H:mixF ns k % 4=M at g;simp only[ans_e,dH];simp[V,I,H,xg (n:=M) @4 @4];refine ER (F:=λs:List Str×Sl×Sl×Sl×Sl×Sl=>[.lent (.scr ns),.lent (.int k),.lent (.list (xs.map .str)),.dat (.list (s.1.map .str)),s.2.1,s.2.2.1,s.2.2.2.1,s.2.2.2.2.1,s.2.2.2.2.2]) (s:=(xs,.no,.no,.no,.no,.no)) (J:=λj s=>cY (31+j) 31 s.1) (P:=λo=>∃U,cY 40 31 U/\cJ .pure (nxS Φ Γ o (.cons (.ret (.v 3)) .nil))=some (.list (U.map .str))) (λs j=>?_) (λj s q z=>?_) hx
 .exact(s.1,(by have:=j.1;grind,j.2),by simp)
 .have W:=C ns (k+1+2*j)
  generalize mixF ns (k+1+2*j)=N at W;obtain⟨t,r,D⟩:=G ns (k+2+2*j);have m2:mulO (some (.int 2)) (some (.int (j:Nat)))=some (.int (2*(j:Int))):=mulL @2 @2;have B:=en0 (N / 3) (b:=(s.1.length:Int)+1) @4;have Q:=el0 (N / 3) (b:=(s.1.length:Int)+1) @6;have T:(0:Int)<(s.1.length:Int)+1:=by simp_all
  generalize Z:N / 3 % ((s.1.length:Int)+1)=a at B Q;have fin:∀(d:Int)(O:A1),0<=d->O.length<=1->(∀x∈O,x.length<=31)->cY (31+(j+1)) 31 (cut s.1 none (some a)++O++cut s.1 (some (a+d)) none)/\(cut s.1 none (some a)).length+O.length<=big/\(cut s.1 none (some a)).length+O.length+(cut s.1 (some (a+d)) none).length<=big:=λd O y u A=>by
   have:=DJ (l:=s.1) (i:=a) (j:=a+d) B @1;have:=z.1;refine((by simp;lia,λx hx=>?_),kQ @1,kQ @1);rcases ma0 hx with hx|hx
   .rcases ma0 hx with hx|hx
    .erw[z.2 x (uQ x hx)]
    .erw[A x hx]
   .erw[z.2 x (uQ x hx)]
  obtain S|c1|c2:N % 3=0\/N % 3=1\/N % 3=2:=by lia
  .obtain⟨R,K,L⟩:=fin 0 [t] @1 @0 (by simp;lia)
   refine((_,.dat (.int (j:Nat)),.dat (.int N),.dat (.int a),.dat (.str t),.dat (.list [.str t])),R,?_);simp at K L;simp[V,W,m2,T,Z,Y,D,S,oE,K,L]
  .obtain⟨R,K,L⟩:=fin 1 [] @1 @0 @0
   refine((_,.dat (.int (j:Nat)),.dat (.int N),.dat (.int a),.dat (.str t),.dat (.list [])),R,?_);simp at K L;simp[V,W,m2,T,Z,Y,D,c1,oE,K,L]
  .obtain⟨R,K,L⟩:=fin 1 [t] @1 @0 (by simp;lia)
   refine((_,.dat (.int (j:Nat)),.dat (.int N),.dat (.int a),.dat (.str t),.dat (.list [.str t])),R,?_);simp at K L;simp[V,W,m2,T,Z,Y,D,c2,oE,K,L]
variable {w:Nat}
abbrev ES(m:Nat)(J:List D->Option D):Prop:=∀M k (A:Nd),A.ok 3 m->∃B:Nd,B.ok 4 m/\(∀K,A=.tree K->∃L,B=.tree L)/\J [.scr M,.int k,A.d,.int m]=some B.d
abbrev mI(Φ:Fs)(m:Nat):Prop:=Has Φ "_law_turn" [true,true,true,true] (ES m)
theorem ET:∀l:List (Str×Nd),jE (l.map pD)=some (l.map λp=>([p.1],pD p))
 |[]=>rfl
 |p::l=>by
  show (jE _).map _=_;rw[ET l];rfl
theorem qJ(g:α->List Str×D):∀l:List α,∃J:List α,J.Perm l/\pK (l.map g)=J.map g
 |[]=>([],.refl _,rfl)
 |a::l=>by
  obtain⟨J,p,e⟩:=qJ g l;have K:∀l:List α,∃J:List α,J.Perm (a::l)/\pJ (g a) (l.map g)=J.map g:=by
   intro l
   induction l with
   |nil=>exact([a],.refl _,rfl)
   |cons b r ih=>
    obtain⟨O,p,e⟩:=ih;rw[mk0,pJ];split
    .exact(a::b::r,.refl _,rfl)
    .exact(b::O,(p.cons b).trans (.swap a b r),by rw[e];rfl)
  obtain⟨M,N,L⟩:=K J;exact(M,N.trans (p.cons a),by rw[mk0,pK,e,L])
noncomputable def Nds.of:List (Str×Nd)->Nds
 |[]=>.nil
 |p::l=>.cons p.1 p.2 (Nds.of l)
theorem Nds.of_l:∀l:List (Str×Nd),(Nds.of l).l=l
 |[]=>rfl
 |p::l=>by rw[Nds.of,Nds.l,Nds.of_l l]
def HQ{l}(h:l.length<5)(n:(l.map (·.1)).Nodup):∃K:Nds,BX (.list (l.map pD))=some (.list K.ds)/\K.l.Perm l/\bY K.names:=by
 obtain⟨M,p,e⟩:=qJ (λp:Str×Nd=>([p.1],pD p)) l;have O:((l.map λp=>(([p.1],pD p):List Str×D)).map (·.1)).Nodup:=by
  rw[List.map_map];erw[List.pairwise_map.mpr ((List.pairwise_map.mp n).imp λz e=>z (by injection e))]
 refine(Nds.of M,?_,by rw[Nds.of_l];erw[p],?_)
 .show (jE (l.map pD)).bind BW=_
  rw[ET,bs0,BW,if_pos (by simpa using h,O),e,Nds.ds_l,Nds.of_l,List.map_map];rfl
 .rw[Nds.names_l,Nds.of_l]
  have J:=iI (l.map λp=>([p.1],pD p));rw[e]at J;have J:=List.pairwise_map.mp J;have N:=(p.map _).nodup_iff.mpr n;refine List.pairwise_map.mpr ((List.Pairwise.and J (List.pairwise_map.mp N)).imp λ{a b} z=>?_);have L:=z.1;dsimp only at L;rw[uB]at L;erw[iF z.2.symm L]
variable {w:Nat}
theorem uR{k:Sum Int Str}{v:α}:∀{l:List (Sum Int Str×α)},k∉l.map (·.1)->put l k v=l++[(k,v)]
 |[],_=>rfl
 |(j,w)::r,h=>by
  have J:j≠k:=λe=>h (by simp[e])
  rw[put,if_neg J,uR λz=>h (by simp[z])];rfl
theorem dQ :∀{xs acc:List (Sum Int Str×α)},((acc++xs).map (·.1)).Nodup->putAll acc xs=acc++xs
 |[],acc,_=>by rw[putAll,List.append_nil]
 |(k,v)::r,acc,h=>by
  have e:acc++(k,v)::r=(acc++[(k,v)])++r:=by simp
  have J:k∉acc.map (·.1):=λz=>by
   rw[List.map_append,mk0]at h;exact (List.nodup_append.mp h).2.2 k z k ms0 rfl
  rw[putAll,uR J,dQ (by rw[<-e];erw[h]),e]
def qK(l:List (Str×Nd)):pairsOf (l.map pD)=some (l.map λp=>((.inr p.1:Sum Int Str),p.2.d)):=by
 induction l with
 |nil=>rfl
 |cons p l ih=>show (pairsOf _).map _=_;rw[ih];rfl
theorem oF{x}:∀l:List (Str×Nd),(look (l.map λp=>((.inr p.1:Sum Int Str),p.2.d)) (.inr x)).isSome=decide (x∈l.map (·.1))
 |[]=>rfl
 |p::l=>by
  show (if Sum.inr _=.inr x then some _ else look _ _).isSome=_
  by_cases e:p.1=x
  .simp[e]
  .have J:¬ x=p.1:=λz=>e z.symm
   rw[if_neg λz=>e (Sum.inr.inj z),oF l];simp[J]
structure Fnd(es:Nds)(m j:Nat)(l:List (Str×Nd)):Prop where
 sub:(l.map (·.1)).Sublist ((es.l.take j).map (·.1))
 ok:∀q∈l,q.2.ok 4 m
def Fnd.len{es}{m j}{l}(h:Fnd es m j l):l.length<=es.l.length:=by
 have:=h.sub.length_le
 grind
def Fnd.drop{es}{m j}{l}(h:Fnd es m j l):Fnd es m (j+1) l:=
 (h.sub.trans (List.Sublist.map _ (List.take_sublist_take_left (Nat.le_succ _))),h.ok)
def Fnd.add{es}{m j}{l}{x}{n b}(h:Fnd es m j l)(e:es.l[j]?=some (x,n))(J:b.ok 4 m):Fnd es m (j+1) (l++[(x,b)]):=by
 refine(?_,λq hq=>?_)
 .rw[List.take_add_one,e,List.map_append,List.map_append]
  erw[h.sub.append (List.Sublist.refl _)]
 .rcases ma0 hq with hq|hq
  .erw[h.ok q hq]
  .rwa [List.mem_singleton.mp hq]
def xj(hm:gI Φ)(hn:HNm Φ)(m:Nat)(hd:qH Φ m)(ht:mI Φ m)(ns)(k:Int)(es:Nds)(D:(Nd.tree es).ok 3 (m+1)):
  ∃K:Nds,(Nd.tree K).ok 4 (m+1)/\ans Φ Γ bF [.scr ns,.int k,(Nd.tree es).d,.int ((m+1:Nat):Int)]=some (Nd.tree K).d:=by
 obtain⟨r1,O,r⟩:=hm;obtain⟨r2,H,h2⟩:=Av hn ns;obtain⟨r3,v,c⟩:=hd;obtain⟨r4,e4,h4⟩:=ht;rw[Nd.ok]at D;obtain⟨o1,o2,o3,o4⟩:=D;rw[Nds.ok_l]at o4;have nd:es.names.Nodup:=o1.imp λ{a b} z e=>by rw[e,aU]at z;cases z
 have ll:es.l.length=es.names.length:=by rw[Nds.names_l];simp
 have A:(m:Int)+1-1=(m:Int):=by simp_all
 have f:es.ds.length<=3:=by rw[Nds.len];erw[o3]
 have tl:∀l:List (Str×Nd),l.length<=3->(l.map pD).length<big:=λl h=>by rw[lm0];erw[Nat.lt_of_le_of_lt h @2]
 simp only[ans_e,bF];simp[Nd.d,show ¬ (ao=af) by decide];rw[EM @4];simp;rw[Nds.ds_l,lm0];refine ER (F:=λs:List (Str×Nd)×Sl×Sl×Sl×Sl=>[.lent (.scr ns),.lent (.int k),.lent (.tuple [.str ao,.list (es.l.map pD)]),.lent (.int ((m:Int)+1)),.no,.no,.own (.list (s.1.map pD)),s.2.1,s.2.2.1,s.2.2.2.1,s.2.2.2.2]) (s:=([],.no,.no,.no,.no)) (J:=λj s=>Fnd es m j s.1) (P:=λo=>∃K:Nds,(Nd.tree K).ok 4 (m+1)/\cJ .pure (nxS Φ Γ o _)=some (.tuple [.str ao,.list K.ds])) (λs j=>?_) (λj s hj z=>?_) (by simp,nofun)
 .obtain⟨l,s7,s8,s9,j0⟩:=s
  have j:=j;have U:=j.sub;rw[List.take_length,<-Nds.names_l]at U;have S:=U.nodup nd;have l3:l.length<=3:=by have:=j.len;lia
  have Q:=r ns (k+2);generalize mixF ns (k+2)=M at Q;obtain⟨G,nn⟩:=h2 (k+3);generalize nmS ns (k+3)=u at G nn ⊢;have fin:∀V:List (Str×Nd),(V.map (·.1)).Nodup->V.length<=4->(∀q∈V,q.2.ok 4 m/\aK q.1=true)->∃K:Nds,(Nd.tree K).ok 4 (m+1)/\BX (.list (V.map pD))=some (.list K.ds):=λV n1 n2 n3=>by
   obtain⟨K,f1,t,f3⟩:=HQ @1 n1;have hq:∀q∈K.l,q∈V:=λq h=>t.mem_iff.mp h
   refine(K,?_,f1);rw[Nd.ok];refine(f3,λx L=>?_,?_,Nds.ok_l.mpr λq h=>(n3 q (hq q h)).1)
   .rw[Nds.names_l]at L
    obtain⟨q,h,rfl⟩:=mm0 L;exact (n3 q (hq q h)).2
   .rw[Nds.names_l,lm0,t.length_eq];erw[n2]
  have R:∀q∈l,q.2.ok 4 m/\aK q.1=true:=λq hq=>by
   have qm:=U.subset (List.mem_map_of_mem hq);exact(j.ok q hq,o2 _ qm)
  have i:=tl l l3;rw[lm0]at i;have pn:=qK l;have pa:putAll [] (l.map λp=>((.inr p.1:Sum Int Str),p.2.d))=l.map λp=>(.inr p.1,p.2.d):=dQ (acc:=[]) (by
   simp only[List.nil_append,List.map_map,Function.comp_def];erw[List.pairwise_map.mpr ((List.pairwise_map.mp S).imp λz e=>z (Sum.inr.inj e))])
  by_cases cM:M % 3=0
  .by_cases X:u∈l.map (·.1)
   .obtain⟨K,a,q⟩:=fin l S @1 R
    refine(K,a,?_);simp at q;simp[H,G,O,Q,cM,pn,pa,inD,oF,X,q]
   .obtain⟨b,W,Y⟩:=c ns (k+4)
    obtain⟨K,a,q⟩:=fin (l++[(u,b)]) (by
     rw[List.map_append];erw[List.nodup_append.mpr (S,by simp,λx L y hy e=>X (by rw[show u=x from (e.trans (List.mem_singleton.mp hy)).symm];exact L))]) (by simp;lia) (λq hq=>by
     rcases ma0 hq with hq|hq
     .erw[R q hq]
     .rw[List.mem_singleton.mp hq]
      exact(Nd.ok34 b m W,nn))
    refine(K,a,?_);simp at q;simp[H,G,O,Q,cM,pn,pa,inD,oF,X,v,A,Y,i,q]
  .obtain⟨K,a,q⟩:=fin l S @1 R
   refine(K,a,?_);simp at q;simp[H,G,O,Q,cM,q]
 .have T:=r ns (k+5*j)
  have gN:=oa ns (k+5*j) 8 @2;generalize mixF ns (k+5*j)=N at T gN;obtain⟨⟨x,n⟩,L⟩:∃p,es.l[j]?=some p:=(_,ge0 hj);have B:=o4 (x,n) (mg0 L);have m5:mulO (some (.int 5)) (some (.int (j:Nat)))=some (.int (5*(j:Int))):=mulL @2 @2;have m4:mulO (some (.int 4)) (some (.int k))=some (.int (4*k)):=mulL @2 @2;have C:atI (es.l.map pD) (j:Int)=some (.tuple [.str x,n.d]):=mG (by rw[gm0,L];rfl);have sl:=tl s.1 (by have:=z.len;lia);rw[lm0]at sl
  by_cases c0:N % 8=0
  .refine((s.1,.dat (.int (j:Nat)),.dat (.str x),.dat n.d,.dat (.int N)),z.drop,?_)
   simp[C,m5,O,T,c0]
  have Z:0<N % 8:=by lia
  by_cases I:N % 8=1
  .obtain⟨b,W,Y⟩:=c ns (k+5*j+1)
   refine((s.1++[(x,b)],.dat (.int (j:Nat)),.dat (.str x),.dat b.d,.dat (.int N)),z.add L (Nd.ok34 b m W),?_);simp[C,m5,O,T,I,v,A,Y,sl]
  by_cases g:N % 8<5
  .have E:1<N % 8:=by lia
   obtain⟨b,W,_,Y⟩:=h4 ns (4*k+5+j) n B;refine((s.1++[(x,b)],.dat (.int (j:Nat)),.dat (.str x),.dat b.d,.dat (.int N)),z.add L W,?_);simp[C,m5,O,T,I,g,E,Z,e4,m4,A,Y,sl]
  .refine((s.1++[(x,n)],.dat (.int (j:Nat)),.dat (.str x),.dat n.d,.dat (.int N)),z.add L (Nd.ok34 n m B),?_)
   simp[C,m5,O,T,I,g,Z,sl]
variable {w:Nat}
def ko(Y:gI Φ)(p:HNm Φ)(r:Ay Φ)(y:EO Φ)(v:sW Φ)(m:Nat)(c:∀O,m=O+1->qH Φ O/\mI Φ O):ES m (ans Φ Γ bF):=by
 intro J k A M;cases A with
 |blob t=>
  have b:t.length<=30:=by cases m<;>exact M
  obtain⟨u,ul,q⟩:=(show ∃u:Str,u.length<=1300/\ans Φ Γ bF [.scr J,.int k,(Nd.blob t).d,.int m]=some (Nd.blob u).d by
    obtain⟨r1,C,K⟩:=Y;obtain⟨r2,Q,L⟩:=r;obtain⟨r3,S,j⟩:=y;obtain⟨r4,G,z⟩:=v;obtain⟨B,R,s⟩:=L t b;have V:=K J (k+9);generalize mixF J (k+9)=N at V;simp only[ans_e,bF];simp[Nd.d,Q,s,show B.length<=big from kQ (by have:=R.1;lia)];generalize W:cpF Φ Γ _ _ _ _ _ _=f;obtain⟨ys,yl,yp,q⟩:=eF (P:=λx=>x.length<=31) (f:=f) (B.map .str) λd g=>by
     obtain⟨x,o,rfl⟩:=mm0 g;have xl:=R.2 x o;have D:x.length<=big:=kQ @1;have zl:=Txt.slice_le x none (some (-1))
     by_cases e:Txt.slice x (some (-1)) none=⟨#[10]⟩
     .exact(Txt.slice x none (some (-1)),by lia,by rw[<-W];simp[cpF_e,D,e])
     .exact(x,xl,by rw[<-W];simp[cpF_e,D,e])
    rw[lm0]at yl;obtain⟨zs,T,i⟩:=j J k ys (by have:=R.1;lia,yp);obtain⟨F,a,h,n⟩:=z zs (decide (N % 3=0)) 40 31 @1 @1 T.1 T.2;have Z:=nt0 (sF h) (Nat.mul_le_mul_right 32 a);have l:(F.map λx=>x.length).sum<=big:=nt0 Z @2;refine(Txt.join Str.empty F,nt0 (ka _) (nt0 Z @2),?_);simp[q,S,i,C,V,G,n,aE,l,show (⟨#[]⟩:Str).length=0 from rfl];rfl)
  exact(.blob u,by cases m<;>exact ul,nofun,q)
 |tree I=>
  cases m with
  |zero=>exact M.elim
  |succ m=>
   obtain⟨K,L⟩:=c m rfl;obtain⟨U,X,H⟩:=xj Y p m K L J k I M;exact(.tree U,X,λE e=>(U,rfl),H)
end TX
namespace M2
variable [DecidableEq α]
noncomputable def lcs:List α->List α->Nat
 |[],_=>0
 |_::_,[]=>0
 |a::J,b::K=>if a=b then lcs J K+1 else max (lcs J (b::K)) (lcs (a::J) K)
termination_by J K=>J.length+K.length
def lcs_nil_left(J:List α):lcs [] J=0:=by rw[lcs]
def lcs_nil_right(J:List α):lcs J []=0:=by cases J<;>rw[lcs]
def lcs_cons(a b:α)(J K:List α):lcs (a::J) (b::K)=if a=b then lcs J K+1 else max (lcs J (b::K)) (lcs (a::J) K):=by rw[lcs]
def qL(n:Nat):∀J K:List α,J.length+K.length<=n->
  (∀b,lcs J K<=lcs J (b::K)/\lcs J (b::K)<=lcs J K+1)/\(∀a,lcs J K<=lcs (a::J) K/\lcs (a::J) K<=lcs J K+1):=by
 induction n with
 |zero=>
  intro J K h;have M:J=[]:=ez0 @6;have N:K=[]:=ez0 @6;subst M N;refine(λb=>?_,λa=>?_)
  .rw[lcs_nil_left,lcs_nil_left];simp
  .rw[lcs_nil_right,lcs_nil_right];simp_all
 |succ n ih=>
  intro J K h;constructor
  .intro b
   cases J with
   |nil=>rw[lcs_nil_left,lcs_nil_left];simp_all
   |cons a J=>
    rw[lc0]at h;have L:=ih J K @4;rw[lcs_cons];split
    .have:=L.2 a
     simp_all
    .have O:=L.1 b
     have R:=L.2 a
     grind
  .intro a
   cases K with
   |nil=>rw[lcs_nil_right,lcs_nil_right];simp_all
   |cons b K=>
    rw[lc0]at h;have L:=ih J K @4;rw[lcs_cons];split
    .have:=L.1 b
     simp_all
    .have O:=L.1 b
     have R:=L.2 a
     grind
def lcs_left_le(J K:List α)(a:α):lcs (a::J) K<=lcs J K+1:=((qL _ J K (nr0 _)).2 a).2
def lcs_max(a b:α)(J K:List α):lcs (a::J) (b::K)=max (max (lcs J (b::K)) (lcs (a::J) K)) (if a=b then 1+lcs J K else 0):=by
 rw[lcs_cons];split
 .have L:=(((qL _ J K (nr0 _)).1 b).2)
  have M:=lcs_left_le J K a
  grind
 .simp_all
def walk:Nat->Nat->List α->List α->List (Nat×Nat)
 |_,_,[],_=>[]
 |_,_,_::_,[]=>[]
 |i,k,a::J,b::K=>if a=b then (i,k)::walk (i+1) (k+1) J K else if lcs (a::J) K<=lcs J (b::K)then walk (i+1) k J (b::K)else walk i (k+1) (a::J) K
termination_by _ _ J K=>J.length+K.length
def walk_nil_left(i k:Nat)(J:List α):walk i k [] J=[]:=by rw[walk]
def walk_nil_right(i k:Nat)(J:List α):walk i k J []=[]:=by cases J<;>rw[walk]
def walk_cons(i k:Nat)(a b:α)(J K:List α):walk i k (a::J) (b::K)=if a=b then (i,k)::walk (i+1) (k+1) J K else if lcs (a::J) K<=lcs J (b::K)then walk (i+1) k J (b::K)else walk i (k+1) (a::J) K:=by rw[walk]
def walk_length(n:Nat):∀(J K:List α)(i k:Nat),J.length+K.length<=n->(walk i k J K).length=lcs J K:=by
 induction n with
 |zero=>
  intro J K i k h;have L:J=[]:=ez0 @1;subst L;rw[walk_nil_left,lcs_nil_left];rfl
 |succ n ih=>
  intro J K i k h;cases J with
  |nil=>rw[walk_nil_left,lcs_nil_left];rfl
  |cons a J=>
   cases K with
   |nil=>rw[walk_nil_right,lcs_nil_right];rfl
   |cons b K=>
    rw[walk_cons,lcs_cons]
    grind
inductive Rising (as bs:List α):Nat->Nat->List (Nat×Nat)->Prop
 |nil {i k:Nat}:Rising as bs i k []
 |cons {i k i' k':Nat}{r:List (Nat×Nat)}{x:α}:i<=i'->k<=k'->as[i']?=some x->bs[k']?=some x->Rising as bs (i'+1) (k'+1) r->Rising as bs i k ((i',k')::r)
def Rising.weak{J K:List α}{i k i' k'}{r}(h:Rising J K i k r)(L:i'<=i)(M:k'<=k):Rising J K i' k' r:=by
 cases h with
 |nil=>exact .nil
 |cons a b c d e=>exact .cons (nt0 L a) (nt0 M b) c d e
set_option tactic.hygienic true in
def qM(J K:List α)(n:Nat):∀(i k:Nat),(J.drop i).length+(K.drop k).length<=n->Rising J K i k (walk i k (J.drop i) (K.drop k)):=by
 induction n with
 |zero=>
  intro i k h;have W:J.drop i=[]:=ez0 @6;rw[W,walk_nil_left];exact .nil
 |succ n ih=>
  intro i k h;cases L:J.drop i with
  |nil=>rw[walk_nil_left];exact .nil
  |cons a r=>
   cases M:K.drop k with
   |nil=>rw[walk_nil_right];exact .nil
   |cons b q=>
    have N:J.drop (i+1)=r:=by rw[<-List.drop_drop,L];rfl
    have O:K.drop (k+1)=q:=by rw[<-List.drop_drop,M];rfl
    have U:J[i]?=some a:=by rw[<-List.head?_drop,L];rfl
    have V:K[k]?=some b:=by rw[<-List.head?_drop,M];rfl
    rw[L,M]at h;simp only[lc0]at h;rw[walk_cons];split
    .rename_i R
     subst R;refine .cons (nr0 _) (nr0 _) U V ?_;have:=ih (i+1) (k+1) (by rw[N,O];lia)
     rwa [N,O]at this
    .split
     .have:=ih (i+1) k (by rw[N,M];simp;lia)
      rw[N,M]at this;erw[this.weak @1 @1]
     .have:=ih i (k+1) (by rw[L,O];simp;lia)
      rw[L,O]at this;erw[this.weak @0 @0]
noncomputable def runsFrom:Nat->Nat->List (Nat×Nat)->List (Nat×Nat×Nat×Nat)
 |_,_,[]=>[]
 |i,k,(J,K)::r=>(if i<J\/k<K then [(i,J - i,k,K - k)] else [])++runsFrom (J+1) (K+1) r
def runs(J K:List α):List (Nat×Nat×Nat×Nat):=runsFrom 0 0 (walk 0 0 J K++[(J.length,K.length)])
noncomputable def qN(J K:List α):Nat->List (Nat×Nat×Nat×Nat)->List α
 |done,[]=>J.drop done
 |done,(i,m,k,n)::r=>(J.drop done).take (i-done)++((K.drop k).take n++qN J K (i+m) r)
noncomputable def turned(J K:List α)(told:List (Nat×Nat×Nat×Nat)):List α:=qN J K 0 told
end M2
namespace TX
open PySem SI M1 L2.Z
def uS{inj}{tg}{r}{F:α->List Sl}{n}(J:Nat->α->Prop){P:Option Out->Prop}(k:∀s,J n s->P (some (.nx (F s))))(h:∀j s,j<n->J j s->∃M,J (j+1) M/\(ax tg (inj j) (F s)).bind (λY=>exs Φ Γ Y r)=some (.nx (F M))){s}(R:J 0 s):P (xf Φ Γ tg r ((List.range n).map inj) (F s)):=by
 refine gP (inj:=inj) (J:=λq s=>∃j,j<=n/\q=List.range' j (n-j)/\J j s) (λs z=>?_) (λx q s z=>?_) (0,Nat.zero_le _,by rw[List.range_eq_range'];rfl,R)
 .obtain⟨j,N,K,L⟩:=z
  have:n-j=0:=by have:=congrArg List.length K;simpa using this.symm
  have:j=n:=by lia
  subst this;erw[k s L]
 .obtain⟨j,N,K,L⟩:=z
  have O:n-j=q.length+1:=by have:=congrArg List.length K;simpa using this.symm
  rw[O,List.range'_succ]at K
  grind
def mulR{n}(h:n<=2000):mulO (some (.list [.int 0])) (some (.int ((n:Nat):Int)))=some (.list (List.replicate n (.int 0))):=by
 rw[mulO,bs0,bs0,nJ,if_pos (pH @1 @1 (by simp;erw[kQ h]))];simp
def dY(K J:A1):List D:=(List.range (J.length+1)).map λk=>.int (M2.lcs K (J.drop k):Nat)
def Az(K J:A1):(dY K J).length=J.length+1:=by unfold dY;simp
def fc(K J:A1){k}(h:k<=J.length):atI (dY K J) (k:Int)=some (.int (M2.lcs K (J.drop k):Nat)):=by
 rw[aR @6 (by rw[Az];lia),Int.toNat_natCast];unfold dY;rw[gm0,List.getElem?_range (Nat.succ_le_succ ‹_›)];rfl
def bK{xs:A1}{k}(h:k<xs.length):atI (xs.map D.str) (k:Int)=some (.str xs[k]):=by
 rw[aR @1 @6,Int.toNat_natCast,gm0,ge0 h];rfl
def partD(a:Str)(K J:A1)(j:Nat):List D:=(List.range (J.length+1)).map λk=>if j<=k then .int (M2.lcs (a::K) (J.drop k):Nat)else .int 0
def mJ(a:Str)(K J:A1)(j:Nat):(partD a K J j).length=J.length+1:=by unfold partD;simp
def AA(a:Str)(K J:A1){j}(h:j<=J.length):atI (partD a K J j) (j:Int)=some (.int (M2.lcs (a::K) (J.drop j):Nat)):=by
 rw[aR @1 (by rw[mJ];lia),Int.toNat_natCast];unfold partD;rw[gm0,List.getElem?_range @1];simp
def sY(a:Str)(J K:A1):partD a J K 0=dY (a::J) K:=rfl
def xk(a:Str)(K J:A1){j}(h:j<J.length):(partD a K J (j+1)).set j (.int (M2.lcs (a::K) (J.drop j):Nat))=partD a K J j:=by
 apply List.ext_getElem?
 intro i;rw[List.getElem?_set];unfold partD;rw[gm0,gm0]
 by_cases L:i<J.length+1
 .rw[List.getElem?_range L]
  grind
 grind
def sZ{n j}(h:j<n):ixN n (j:Int)=some j:=by
 unfold ixN
 simp_all
abbrev mK(Φ:Fs):Prop:=Has Φ "count_row" [true,true,true] λK=>∀(a:Str)(L J:A1),J.length<=1400->K [.str a,.list (J.map .str),.list (dY L J)]=some (.list (dY (a::L) J))
def kR(a:Str)(L K:A1)(E:K.length<=1400):ans Φ Γ cK [.str a,.list (K.map .str),.list (dY L K)]=some (.list (dY (a::L) K)):=by
 have G:=nG (n:=(K.length:Int)-1) @4 @4;have I:=nG (n:=-1) @6 @6;have C:((K.length:Int)-1+1).toNat=K.length:=by simp_all
 have Z:=mulR (n:=K.length+1) @4;rw[Int.natCast_succ]at Z;simp only[ans_e,cK];simp[Z,G,I,C];rw[(show (List.replicate (K.length+1) (D.int 0))=partD a L K K.length by
   apply List.ext_getElem?
   intro i;unfold partD;rw[gm0,List.getElem?_replicate]
   by_cases Y:i<K.length+1
   .rw[List.getElem?_range Y,if_pos Y]
    by_cases e:K.length<=i
    .simp[e,List.drop_eq_nil_of_le e,M2.lcs_nil_right]
    .simp[e]
   simp_all)]
 refine uS (F:=λs:Nat×Sl=>[.lent (.str a),.lent (.list (K.map .str)),.lent (.list (dY L K)),.own (.list (partD a L K s.1)),s.2]) (s:=(K.length,.no)) (J:=λk s=>s.1+k=K.length) (P:=λo=>cJ .pure (nxS Φ Γ o _)=_) (λs h=>?_) (λk s X h=>?_) rfl
 .have:s.1=0:=by simp_all
  simp[this,sY]
 .obtain⟨j,S⟩:∃j,s.1=j+1:=(s.1-1,by lia)
  have T:((K.length:Int)-1-k)=(j:Int):=by lia
  refine((j,.dat (.int j)),by show j+(k+1)=_;lia,?_);rw[T,S];have R:=bK (xs:=K) (k:=j) @1;have U:=fc L K (k:=j) @1;have M:=fc L K (k:=j+1) @1;have N:=AA a L K (j:=j+1) @1;have V:=sZ (n:=(partD a L K (j+1)).length) (j:=j) (by rw[mJ];lia);have Q:=xk a L K (j:=j) @1;have W:K.drop j=K[j]::K.drop (j+1):=List.drop_eq_getElem_cons @1;rw[show ((j+1:Nat):Int)=(j:Int)+1 from Int.natCast_succ j]at M N;rw[<-Q]
  by_cases c:a=K[j]
  .have e:M2.lcs (a::L) (K.drop j)=M2.lcs L (K.drop (j+1))+1:=by rw[W,M2.lcs_cons,if_pos c]
   rw[e];generalize M2.lcs L (K.drop (j+1))=m at M;simp[R,<-c,M,V]
  .have e:M2.lcs (a::L) (K.drop j)=max (M2.lcs L (K.drop j)) (M2.lcs (a::L) (K.drop (j+1))):=by rw[W,M2.lcs_cons,if_neg c]
   rw[e];generalize M2.lcs L (K.drop j)=m at U;generalize M2.lcs (a::L) (K.drop (j+1))=O at N;have B:(if m<O then (O:Int)else m)=((max m O:Nat):Int):=by split<;>lia
   simp[R,U,N,V,c,B]
end TX
namespace SI
open PySem
def HR(Φ:Fs)(Γ:List (Str×D))(c:E)(r:Ss)(n:Nat)(Y:List Sl):Option Out:=ik (λJ=>ev Φ Γ .test J c) (λJ=>exs Φ Γ J r) n Y
@[simp ↓ high] def ex_w{Φ}{Γ}{Y}{c}{r}:ex Φ Γ Y (.whl c r)=HR Φ Γ c r fuel Y:=(rfl)
def Kv{Φ}{Γ}{c}{r}{F:α->List Sl}(J:Nat->α->Prop)(Q:α->Prop){P:Option Out->Prop}(k:∀s,Q s->P (some (.nx (F s))))(h:∀m s,J m s->(ev Φ Γ .test (F s) c=some (.bool false)/\Q s)\/(ev Φ Γ .test (F s) c=some (.bool true)/\∃K L,K<m/\exs Φ Γ (F s) r=some (.nx (F L))/\J K L))(m:Nat):∀n s,J m s->m<n->P (HR Φ Γ c r n (F s)):=by
 induction m using Nat.strongRecOn with
 |_ m ih=>
  intro n s j U;cases n with
  |zero=>lia
  |succ n=>
   show P ((ev Φ Γ _ _ c).bind _);rcases h m s j with⟨M,N⟩|⟨M,K,L,N,O,R⟩
   .rw[M];erw[k s N]
   .rw[M]
    show P ((exs Φ Γ _ r).bind _);rw[O];erw[ih K N n L R @1]
end SI
namespace TX
open PySem SI M1 L2.Z
def cG(J K:A1)(k:Nat):List D:=(List.range (k+1)).map λt=>.list (dY (J.drop (J.length-t)) K)
def gQ(J K:A1):List D:=(List.range (J.length+1)).map λi=>.list (dY (J.drop i) K)
def fe(J K:A1)(k:Nat):(cG J K k).length=k+1:=by unfold cG;simp
def xm(J K:A1):(cG J K J.length).reverse=gQ J K:=by
 apply List.ext_getElem?
 intro i
 by_cases h:i<J.length+1
 .rw[List.getElem?_reverse (by rwa [fe]),fe]
  unfold cG gQ;rw[gm0,gm0,List.getElem?_range h]
  grind
 .rw[List.getElem?_eq_none (by rw[List.length_reverse,fe];lia),List.getElem?_eq_none (by unfold gQ;simp;lia)]
def jm(J K:A1){i}(h:i<=J.length):atI (gQ J K) (i:Int)=some (.list (dY (J.drop i) K)):=by
 rw[aR @6 (by unfold gQ;simp;lia),Int.toNat_natCast];unfold gQ;rw[gm0,List.getElem?_range (Nat.succ_le_succ ‹_›)];rfl
abbrev uT(Φ:Fs):Prop:=Has Φ "common_counts" [true,true] λL=>∀(J K:A1),J.length<=1400->K.length<=1400->L [.list (J.map .str),.list (K.map .str)]=some (.list (gQ J K))
def tf(hc:mK Φ)(K L:A1)(G:K.length<=1400)(Q:L.length<=1400):ans Φ Γ bf [.list (K.map .str),.list (L.map .str)]=some (.list (gQ K L)):=by
 obtain⟨I,W,C⟩:=hc;have U:=mulR (n:=L.length+1) @4;rw[Int.natCast_succ]at U;have V:[D.list (List.replicate (L.length+1) (.int 0))]=cG K L 0:=by
  have z:cG K L 0=[D.list (dY [] L)]:=by unfold cG;simp
  have S:List.replicate (L.length+1) (D.int 0)=dY [] L:=by
   unfold dY
   apply List.ext_getElem?
   intro i;rw[List.getElem?_replicate,gm0]
   by_cases N:i<L.length+1
   .rw[if_pos N,List.getElem?_range N]
    show _=some (D.int _);rw[M2.lcs_nil_left];rfl
   .rw[if_neg N,List.getElem?_eq_none (by simp;simp_all)];rfl
  rw[z,S]
 simp only[ans_e,bf];simp[U];rw[V,show (K.map D.str).reverse=(List.range K.length).map λk=>D.str (K[K.length-1-k]?.getD Str.empty)from by
  apply List.ext_getElem?
  intro k;rw[gm0]
  by_cases O:k<K.length
  .rw[List.getElem?_reverse (by simpa using O),lm0,gm0,List.getElem?_range O,ge0 @1,mo0,mo0,ge0 (by lia:K.length-1-k<K.length)];rfl
  .rw[List.getElem?_eq_none (by simp;lia),List.getElem?_eq_none (by simp;lia)];rfl]
 refine uS (F:=λs:Nat×Sl=>[.lent (.list (K.map .str)),.lent (.list (L.map .str)),.own (.list (cG K L s.1)),s.2]) (s:=(0,.no)) (J:=λk s=>s.1=k) (P:=λo=>cJ .pure (nxS Φ Γ o _)=_) (λs h=>?_) (λk s O h=>?_) rfl
 .simp[h,xm]
 .obtain⟨M,E⟩:=s
  obtain rfl:M=k:=h;have Y:=(show atI (cG K L M) (-1)=some (.list (dY (K.drop (K.length-M)) L)) by
    rw[fX (d:=.none) (by unfold cG;simp)];unfold cG;rw[List.range_succ];simp)
  have R:=(show cG K L (M+1)=cG K L M++[.list (dY (K.drop (K.length-(M+1))) L)] by
    unfold cG;rw[List.range_succ,List.map_append];rfl)
  have Z:=C K[K.length-1-M] (K.drop (K.length-M)) L Q;have T:K.drop (K.length-(M+1))=K[K.length-1-M]::K.drop (K.length-M):=by
   rw[show K.length-(M+1)=K.length-1-M by lia,List.drop_eq_getElem_cons @1,show K.length-1-M+1=K.length-M by lia]
  rw[T]at R;have B:(cG K L M).length<big:=by rw[fe];erw[Nat.lt_of_le_of_lt (by lia:_<=1400) @2]
  refine((M+1,.dat (.str K[K.length-1-M])),rfl,?_);rw[R,ge0 @1];simp[W,Y,Z,B]
noncomputable def prD(p:Nat×Nat):D:=.tuple [.int p.1,.int p.2]
abbrev mi(L:List D->Option D):Prop:=∀(J K:A1),J.length<=1400->K.length<=1400->L [.list (J.map .str),.list (K.map .str)]=some (.list ((M2.walk 0 0 J K).map prD))
abbrev uU(Φ:Fs):Prop:=Has Φ "paired" [true,true] mi
structure Wk(as bs:A1)(m:Nat)(s:Nat×Nat×List (Nat×Nat)):Prop where
 i:s.1<=as.length
 k:s.2.1<=bs.length
 l:s.2.2.length<=s.1
 w:s.2.2++M2.walk s.1 s.2.1 (as.drop s.1) (bs.drop s.2.1)=M2.walk 0 0 as bs
 m:m=as.length-s.1+(bs.length-s.2.1)
def mL{c}{r}{F:Nat×Nat×List (Nat×Nat)->List Sl}{P:Option Out->Prop}(K L:A1)(B:K.length<=1400)(C:L.length<=1400)(hc:∀s,ev Φ Γ .test (F s) c=some (.bool (decide (s.1<K.length)&&decide (s.2.1<L.length))))
  (Z:∀i k Q,(R:i<K.length)->(U:k<L.length)->K[i]=L[k]->Q.length<big->exs Φ Γ (F (i,k,Q)) r=some (.nx (F (i+1,k+1,Q++[(i,k)]))))
  (T:∀i k Q,(R:i<K.length)->(U:k<L.length)->K[i]≠L[k]->exs Φ Γ (F (i,k,Q)) r=some (.nx (F (if M2.lcs (K.drop i) (L.drop (k+1))<=M2.lcs (K.drop (i+1)) (L.drop k)then (i+1,k,Q)else (i,k+1,Q)))))
  (k:∀i k,P (some (.nx (F (i,k,M2.walk 0 0 K L))))):P (HR Φ Γ c r fuel (F (0,0,[]))):=by
 refine Kv (F:=F) (J:=Wk K L) (Q:=λs=>s.2.2=M2.walk 0 0 K L) (λs h=>?_) (λm s w=>?_) (K.length+L.length) fuel (0,0,[]) (by simp,by simp,by simp,by simp,by simp) (by unfold fuel;grind)
 .obtain⟨i,D,Q⟩:=s
  obtain rfl:Q=_:=h;erw[k i D]
 .obtain⟨i,k,Q⟩:=s
  obtain⟨R,U,Y,M,rfl⟩:=w;dsimp only at R U Y M ⊢;rw[hc]
  by_cases N:i<K.length
  .by_cases O:k<L.length
   .right
    have V:=List.drop_eq_getElem_cons N;have W:=List.drop_eq_getElem_cons O;refine(by simp[N,O],?_);rw[V,W,M2.walk_cons]at M;rw[<-V,<-W]at M
    by_cases c:K[i]=L[k]
    .rw[if_pos c]at M
     exact(_,(i+1,k+1,Q++[(i,k)]),by dsimp only;grind,Z i k Q N O c (Nat.lt_of_le_of_lt (by grind:_<=1400) @2),N,O,by simp;lia,by rw[<-M];simp,rfl)
    .rw[if_neg c]at M
     have:=T i k Q N O c
     by_cases q:M2.lcs (K.drop i) (L.drop (k+1))<=M2.lcs (K.drop (i+1)) (L.drop k)
     .rw[if_pos q]at M this
      exact(_,(i+1,k,Q),by dsimp only;grind,this,N,U,by show Q.length<=i+1;erw[Nat.le_succ_of_le ‹_›],M,rfl)
     .rw[if_neg q]at M this
      exact(_,(i,k+1,Q),by dsimp only;lia,this,R,O,Y,M,rfl)
   .left
    have:k=L.length:=by lia
    subst this;rw[List.drop_length,M2.walk_nil_right,List.append_nil]at M;exact(by simp,M)
  .left
   have:i=K.length:=by lia
   subst this;rw[List.drop_length,M2.walk_nil_left,List.append_nil]at M;exact(by simp,M)
def tq(hc:uT Φ):mi (ans Φ Γ gy):=by
 intro J K V W;obtain⟨C,T,D⟩:=hc;simp only[ans_e,gy];simp[T,D J K V W];refine mL (F:=λs=>[.lent (.list (J.map .str)),.lent (.list (K.map .str)),.dat (.list (gQ J K)),.own (.list (s.2.2.map prD)),.dat (.int s.1),.dat (.int s.2.1)]) (P:=λo=>cJ .pure (nxS Φ Γ o _)=_) J K V W (λs=>?_) (λi k Q L M c B=>?_) (λi k Q L M c=>?_) λi k=>?_
 .simp
 .have N:=bK L
  have O:=bK M;simp[N,O,c,B,prD]
 .have N:=bK L
  have O:=bK M;have Y:=jm J K (i:=i) (Nat.le_of_lt ‹_›);have R:=jm J K (i:=i+1) L;have U:=fc (J.drop i) K (k:=k+1) M;have Z:=fc (J.drop (i+1)) K (k:=k) (Nat.le_of_lt ‹_›);rw[show ((i+1:Nat):Int)=(i:Int)+1 from Int.natCast_succ i]at R;rw[show ((k+1:Nat):Int)=(k:Int)+1 from Int.natCast_succ k]at U
  by_cases q:M2.lcs (J.drop i) (K.drop (k+1))<=M2.lcs (J.drop (i+1)) (K.drop k)
  .simp[N,O,c,Y,R,U,Z,q]
  .simp[N,O,c,Y,R,U,Z,q]
 .simp
noncomputable def bM(J K:A1)(P:A8)(r c:Nat):D:=if P r c then .int (M2.lcs (J.drop r) (K.drop c):Nat)else .int 0
def gridRow(K J:A1)(P:A8)(r:Nat):List D:=(List.range (J.length+1)).map (bM K J P r)
def grid(J K:A1)(P:A8):List (List D):=(List.range (J.length+1)).map (gridRow J K P)
def bp(K J:A1)(P:A8)(r:Nat):(gridRow K J P r).length=J.length+1:=by unfold gridRow;simp
def eG(J K:A1)(P:A8):(grid J K P).length=J.length+1:=by unfold grid;simp
def cb(K J:A1)(P:A8)(r:Nat){c}(h:c<=J.length):(gridRow K J P r)[c]?=some (bM K J P r c):=by
 unfold gridRow;rw[gm0,List.getElem?_range (Nat.succ_le_succ ‹_›)];rfl
def eI(J K:A1)(P:A8){r}(h:r<=J.length):(grid J K P)[r]?=some (gridRow J K P r):=by
 unfold grid;rw[gm0,List.getElem?_range @1];rfl
def oh(K J:A1)(P:A8)(r:Nat){c}(h:c<=J.length):atI (gridRow K J P r) (c:Int)=some (bM K J P r c):=by
 rw[aR @6 (by rw[bp];lia),Int.toNat_natCast,cb K J P r h]
def uV(J K:A1)(P:A8){r}(h:r<=J.length):atI (grid J K P) (r:Int)=some (gridRow J K P r):=by
 rw[aR @0 (by rw[eG];lia),Int.toNat_natCast,eI J K P h]
def AB(J K:A1)(P M:A8){r c}(O:r<=J.length)(hc:c<=K.length)(h:∀r' L,M r' L=(P r' L||(r'==r&&L==c))):
  (grid J K P).set r ((gridRow J K P r).set c (.int (M2.lcs (J.drop r) (K.drop c):Nat)))=grid J K M:=by
 have cell:∀r' L,(r'≠r\/L≠c)->bM J K M r' L=bM J K P r' L:=λr' L hn=>by
  unfold bM;rw[h r' L];have:(r'==r&&L==c)=false:=by
   rcases hn with hn|hn<;>simp_all
  rw[this,Bool.or_false]
 apply List.ext_getElem?
 intro r'
 by_cases e:r'=r
 .subst e
  rw[gs0 (by rw[eG];lia),eI J K M O]
  congr 1
  apply List.ext_getElem?
  intro L
  by_cases e:L=c
  .subst e
   rw[gs0 (by rw[bp];lia),cb J K M _ hc];unfold bM;rw[h];simp
  .rw[gn0 (Ne.symm e)]
   by_cases N:L<=K.length
   .rw[cb J K P _ N,cb J K M _ N,cell _ _ (.inr e)]
   .rw[List.getElem?_eq_none (by rw[bp];lia),List.getElem?_eq_none (by rw[bp];lia)]
 .rw[gn0 (Ne.symm e)]
  by_cases N:r'<=J.length
  .rw[eI J K P N,eI J K M N]
   congr 1
   apply List.map_congr_left
   intro L _;exact (cell _ _ (.inl e)).symm
  .rw[List.getElem?_eq_none (by rw[eG];lia),List.getElem?_eq_none (by rw[eG];lia)]
noncomputable def Qr(i:Nat):Nat->Nat->Bool:=λr a=>decide (i<=r)
noncomputable def Pr(i k:Nat):Nat->Nat->Bool:=λr c=>decide (i<r)||(decide (r=i)&&decide (k<=c))
def kr(J K:A1){P P'}(h:∀r c,r<=J.length->c<=K.length->bM J K P r c=bM J K P' r c):grid J K P=grid J K P':=by
 apply List.map_congr_left
 intro r L
 apply List.map_congr_left
 grind
def xn(J K:A1)(i:Nat):grid J K (Pr i 0)=grid J K (Qr i):=kr J K λr c a a=>by
 have:Pr i 0 r c=Qr i r c:=by
  unfold Pr Qr
  grind
 unfold bM;rw[this]
def xo(K J:A1)(i:Nat):grid K J (Qr (i+1))=grid K J (Pr i J.length):=kr K J λr c a O=>by
 unfold bM Pr Qr
 by_cases h:i<r
 .simp[h];grind
 .by_cases e:r=i/\J.length<=c
  .obtain⟨rfl,e⟩:=e
   simp[e,List.drop_eq_nil_of_le e,M2.lcs_nil_right]
  .have N:¬ i+1<=r:=by assumption
   simp only[df0 N,df0 h]
   by_cases L:r=i
   .have M:¬ J.length<=c:=λz=>e (L,z)
    simp[M]
   .simp[L]
def tu(J K:A1):((List.range (J.length+1)).map λa=>List.replicate (K.length+1) (D.int 0))=grid J K (Qr J.length):=by
 apply List.map_congr_left
 intro r M
 apply List.ext_getElem?
 intro c;rw[List.getElem?_replicate]
 by_cases L:c<K.length+1
 .rw[if_pos L,cb J K _ r @1]
  unfold bM Qr
  by_cases e:J.length<=r
  .simp[List.drop_eq_nil_of_le e,M2.lcs_nil_left]
  .simp[e]
 .rw[if_neg L,List.getElem?_eq_none (by rw[bp];lia)]
def AC(J K:A1):(grid J K (Qr 0)).map D.list=gQ J K:=by
 unfold grid gQ;rw[List.map_map];rfl
def DK(f:Nat->α)(n:Nat):(List.range n).reverse.map f=(List.range n).map λt=>f (n-1-t):=by
 apply List.ext_getElem?
 intro k;rw[gm0,gm0]
 by_cases J:k<n<;>simp_all
theorem qO:∀l:List (List D),rowsOf (l.map .list)=some l
 |[]=>rfl
 |a::l=>by rw[mk0,rowsOf,qO l];rfl
abbrev tw:Ss:=(.cons (.set 5 (.bi .max (.cons (.idx2 3 (.op .add (.v 4) ↑1) (.v 2)) (.cons (.idx2 3 (.v 4) (.op .add (.v 2) ↑1)) .nil)))) (.cons (.sett 3 (.v 4) (.v 2) (.bi .max (.cons (.v 5) (.cons (.op .mul (.bi .int (.cons (.cmp .eq (.idx (.v 0) (.v 4)) (.idx (.v 1) (.v 2))) .nil)) (.op .add ↑1 (.idx2 3 (.op .add (.v 4) ↑1) (.op .add (.v 2) ↑1)))) .nil)))) .nil))
def xq(J K:A1){i k}(G:i<J.length)(I:k<K.length)(y:Sl):∃T,exs Φ Γ [.lent (.list (J.map .str)),.lent (.list (K.map .str)),.dat (.int k),.io (.tbl (grid J K (Pr i (k+1)))),.dat (.int i),y] tw =
  some (.nx [.lent (.list (J.map .str)),.lent (.list (K.map .str)),.dat (.int k),.io (.tbl (grid J K (Pr i k))),.dat (.int i),T]):=by
 have C:=bK G;have a2:=bK I;have V:=uV J K (Pr i (k+1)) (r:=i) @1;have R:=uV J K (Pr i (k+1)) (r:=i+1) (by assumption);have O:=oh J K (Pr i (k+1)) (i+1) (c:=k) @1;have M:=oh J K (Pr i (k+1)) i (c:=k+1) (by assumption);have N:=oh J K (Pr i (k+1)) (i+1) (c:=k+1) (by assumption);have q:bM J K (Pr i (k+1)) (i+1) k=.int (M2.lcs (J.drop (i+1)) (K.drop k):Nat):=by unfold bM Pr;simp
 have u:bM J K (Pr i (k+1)) i (k+1)=.int (M2.lcs (J.drop i) (K.drop (k+1)):Nat):=by unfold bM Pr;simp
 have g:bM J K (Pr i (k+1)) (i+1) (k+1)=.int (M2.lcs (J.drop (i+1)) (K.drop (k+1)):Nat):=by unfold bM Pr;simp
 rw[q]at O;rw[u]at M;rw[g]at N;rw[show ((i+1:Nat):Int)=(i:Int)+1 from Int.natCast_succ i]at R;rw[show ((k+1:Nat):Int)=(k:Int)+1 from Int.natCast_succ k]at M N;have F:=sZ (n:=(grid J K (Pr i (k+1))).length) (j:=i) (by rw[eG];erw[Nat.lt_succ_of_lt ‹_›]);have W:=eI J K (Pr i (k+1)) (r:=i) @1;have D:=sZ (n:=(gridRow J K (Pr i (k+1)) i).length) (j:=k) (by rw[bp];lia);have L:=AB J K (Pr i (k+1)) (Pr i k) (r:=i) (c:=k) @1 @1 (λr c=>by
  unfold Pr
  by_cases Q:i<r
  .simp[Q]
  .by_cases S:r=i
   .subst S
    by_cases P:k<=c
    .by_cases Y:k+1<=c
     .simp[P,Y]
     .have:c=k:=by lia
      simp[this]
    .have Y:¬ k+1<=c:=by lia
     have E:c≠k:=by lia
     simp[P,Y,E]
   .simp[Q,S])
 have X:=List.drop_eq_getElem_cons G;have H:=List.drop_eq_getElem_cons I;have U:M2.lcs (J.drop i) (K.drop k)=max (max (M2.lcs (J.drop (i+1)) (K.drop k)) (M2.lcs (J.drop i) (K.drop (k+1)))) (if J[i]=K[k] then 1+M2.lcs (J.drop (i+1)) (K.drop (k+1))else 0):=by
  have:=M2.lcs_max J[i] K[k] (J.drop (i+1)) (K.drop (k+1));rw[<-X,<-H]at this;erw[this]
 rw[U]at L;generalize grid J K (Pr i (k+1))=f at V R F W L;generalize gridRow J K (Pr i (k+1)) i=v at V M W D L;generalize gridRow J K (Pr i (k+1)) (i+1)=z at R O N;generalize M2.lcs (J.drop (i+1)) (K.drop k)=A at O L;generalize M2.lcs (J.drop i) (K.drop (k+1))=B at M L;generalize M2.lcs (J.drop (i+1)) (K.drop (k+1))=Z at N L;refine(.dat (.int (if A<B then (B:Int)else A)),?_);rw[<-L]
 by_cases c:J[i]=K[k]
 .have e:(if (if A<B then (B:Int)else A)<1+(Z:Int)then 1+(Z:Int)else if A<B then (B:Int)else A)=((max (max A B) (1+Z):Nat):Int):=by
   split<;>split<;>lia
  have m1:mulO (some (.int 1)) (some (.int (1+(Z:Int))))=some (.int (1+(Z:Int))):=by rw[mulL @2 @2,Int.one_mul]
  simp[C,a2,V,R,O,M,N,c,m1,F,W,D,e]
 .have e:(if (if A<B then (B:Int)else A)<0 then 0 else if A<B then (B:Int)else A)=((max (max A B) 0:Nat):Int):=by
   split<;>split<;>lia
  have m0:mulO (some (.int 0)) (some (.int (1+(Z:Int))))=some (.int 0):=by rw[mulL @2 @2,Int.zero_mul]
  simp[C,a2,V,R,O,M,N,c,m0,F,W,D,e]
def rvL(o:Option D):Option (List D):=o.bind λd=>(asI d).bind λn=>if rOk n then some ((List.range n.toNat).reverse.map λ(k:Nat)=>.int k)else none
@[simp ↓ 20000] def evI_rv{m}{Y}{e}:evI Φ Γ m Y (.revr e)=rvL (ev Φ Γ .val Y e):=(rfl)
def rvN(h:n<=1400):rvL (some (.int (n:Int)))=some ((List.range n).map λt=>D.int ((n-1-t:Nat):Int)):=by
 rw[rvL,bs0,show asI (D.int (n:Int))=some (n:Int)from rfl,bs0,if_pos (nG @6 @4),Int.toNat_natCast,DK]
abbrev EU(Φ:Fs):Prop:=Has Φ "_law_most" [true,true] λL=>∀(J K:A1),J.length<=1400->K.length<=1400->L [.list (J.map .str),.list (K.map .str)]=some (.list (gQ J K))
def AD(L K:A1)(U:K.length<=1400){i}(V:i<L.length)(s2 O:Sl):∃N M,exs Φ Γ [.lent (.list (L.map .str)),.lent (.list (K.map .str)),s2,.io (.tbl (grid L K (Qr (i+1)))),.dat (.int i),O] (.cons (.fors (.one 2) (.revr (.bi .len (.cons (.v 1) .nil))) tw) .nil) =
  some (.nx [.lent (.list (L.map .str)),.lent (.list (K.map .str)),N,.io (.tbl (grid L K (Qr i))),.dat (.int i),M]):=by
 rw[exs_c,ex_for,evI_rv,show ev Φ Γ .val [.lent (.list (L.map .str)),.lent (.list (K.map .str)),s2,.io (.tbl (grid L K (Qr (i+1)))),.dat (.int i),O] (.bi .len (.cons (.v 1) .nil))=some (.int K.length) by simp,rvN U,bs0,xo];refine uS (F:=λs:Nat×Sl×Sl=>[.lent (.list (L.map .str)),.lent (.list (K.map .str)),s.2.1,.io (.tbl (grid L K (Pr i s.1))),.dat (.int i),s.2.2]) (s:=(K.length,s2,O)) (J:=λt s=>s.1+t=K.length) (P:=λo=>∃N M,nxS Φ Γ o _=some (.nx [.lent (.list (L.map .str)),.lent (.list (K.map .str)),N,.io (.tbl (grid L K (Qr i))),.dat (.int i),M])) (λs h=>?_) (λt s Y h=>?_) rfl
 .have:s.1=0:=by simp_all
  exact(s.2.1,s.2.2,by rw[this,xn];rfl)
 .obtain⟨k,W⟩:∃k,s.1=k+1:=(s.1-1,by grind)
  have R:K.length-1-t=k:=by grind
  obtain⟨M,q⟩:=xq (Φ:=Φ) (Γ:=Γ) L K V (k:=k) @4 s.2.2;refine((k,.dat (.int k),M),by show k+(t+1)=_;grind,?_);rw[R,W];erw[q]
abbrev uW:E:=(.comp 1 [1] (.one 0) (.rng (.op .add (.bi .len (.cons (.v 0) .nil)) ↑1)) .nil (.op .mul (.lst (.cons ↑0 .nil)) (.op .add (.bi .len (.cons (.v 1) .nil)) ↑1)))
def MX(h:n<=1400):sS (some (.int ((n:Int)+1)))=some ((List.range (n+1)).map λ(k:Nat)=>.int k):=Km (n:=n+1) @4
def Kw(h:n<=1400):mulO (some (.list [.int 0])) (some (.int ((n:Int)+1)))=some (.list (List.replicate (n+1) (.int 0))):=mulR (n:=n+1) @4
abbrev EV(Φ:Fs):Prop:=Has Φ "_law_walk" [true,true] mi
def AE(hc:EU Φ):mi (ans Φ Γ gF):=by
 intro J K V W;obtain⟨C,T,D⟩:=hc;simp only[ans_e,gF];simp[T,D J K V W];refine mL (F:=λs=>[.lent (.list (J.map .str)),.lent (.list (K.map .str)),.dat (.list (gQ J K)),.own (.list (s.2.2.map prD)),.dat (.int s.1),.dat (.int s.2.1)]) (P:=λo=>cJ .pure (nxS Φ Γ o _)=_) J K V W (λs=>?_) (λi k Q L M c B=>?_) (λi k Q L M c=>?_) λi k=>?_
 .simp
 .have N:=bK L
  have O:=bK M;simp[N,O,c,B,prD]
 .have N:=bK L
  have O:=bK M;have Y:=jm J K (i:=i) @1;have R:=jm J K (i:=i+1) L;have U:=fc (J.drop i) K (k:=k+1) M;have Z:=fc (J.drop (i+1)) K (k:=k) @1;rw[show ((i+1:Nat):Int)=(i:Int)+1 from Int.natCast_succ i]at R;rw[Int.natCast_succ k]at U
  by_cases q:M2.lcs (J.drop i) (K.drop (k+1))<=M2.lcs (J.drop (i+1)) (K.drop k)
  .simp[N,O,c,Y,R,U,Z,q,Nat.not_lt.mpr q]
  .simp[N,O,c,Y,R,U,Z,q,Nat.lt_of_not_le q]
 .simp
def AF(as J)(K:as.length<=1400)(L:J.length<=1400):ev Φ Γ .val [.lent (.list (as.map .str)),.lent (.list (J.map .str)),.no,.fr,.no,.no] uW=some (.list ((grid as J (Qr as.length)).map .list)):=by
 have M:as.length+1<=big:=kQ @1;rw[ev_cp,evI_r,show ev Φ Γ .val _ _=some (.int (as.length+1)) by simp,MX K,bs0,if_pos @6,az λk a=>(by
   rw[cpF_e,show ax (.one 0) (D.int k) _=some [_,.lent _] from rfl,bs0,show evC Φ Γ _ .nil=some true from rfl,bs0,if_pos rfl,ev_m,show ev Φ Γ .read _ _=some (.list [.int 0]) by simp,show ev Φ Γ .read _ _=some (.int ((J.length:Int)+1)) by simp,Kw L];rfl)]
 rw[<-tu,List.map_map];rfl
def AG(as bs)(R:as.length<=1400)(U:bs.length<=1400):ans Φ Γ gE [.list (as.map .str),.list (bs.map .str)]=some (.list (gQ as bs)):=by
 obtain⟨K,L,M,Y⟩:=(show ∃K L M,ex Φ Γ [.lent (.list (as.map .str)),.lent (.list (bs.map .str)),.no,.io (.tbl (grid as bs (Qr as.length))),.no,.no] (.fors (.one 4) (.revr (.bi .len (.cons (.v 0) .nil))) (.cons (.fors (.one 2) (.revr (.bi .len (.cons (.v 1) .nil))) tw) .nil))=some (.nx [.lent (.list (as.map .str)),.lent (.list (bs.map .str)),K,.io (.tbl (grid as bs (Qr 0))),L,M]) by
   rw[ex_for,evI_rv,show ev Φ Γ .val [.lent (.list (as.map .str)),.lent (.list (bs.map .str)),.no,.io (.tbl (grid as bs (Qr as.length))),.no,.no] (.bi .len (.cons (.v 0) .nil))=some (.int as.length) by simp,rvN R,bs0];refine uS (F:=λs:Nat×Sl×Sl×Sl=>[.lent (.list (as.map .str)),.lent (.list (bs.map .str)),s.2.1,.io (.tbl (grid as bs (Qr s.1))),s.2.2.1,s.2.2.2]) (s:=(as.length,.no,.no,.no)) (J:=λt s=>s.1+t=as.length) (P:=λo=>∃K L M,o=some (.nx [.lent (.list (as.map .str)),.lent (.list (bs.map .str)),K,.io (.tbl (grid as bs (Qr 0))),L,M])) (λs h=>?_) (λt s T h=>?_) rfl
   .have:s.1=0:=by simp_all
    exact(s.2.1,s.2.2.1,s.2.2.2,by rw[this])
   .obtain⟨i,Z⟩:∃i,s.1=i+1:=(s.1-1,by grind)
    have V:as.length-1-t=i:=by grind
    obtain⟨N,O,q⟩:=AD (Φ:=Φ) (Γ:=Γ) as bs U (i:=i) @4 s.2.1 s.2.2.2;refine((i,N,.dat (.int i),O),by show i+(t+1)=_;grind,?_);rw[V,Z,show ax (.one 4) (D.int (i:Int)) [.lent (.list (as.map .str)),.lent (.list (bs.map .str)),s.2.1,.io (.tbl (grid as bs (Qr (i+1)))),s.2.2.1,s.2.2.2]=some [.lent (.list (as.map .str)),.lent (.list (bs.map .str)),s.2.1,.io (.tbl (grid as bs (Qr (i+1)))),.dat (.int i),s.2.2.2] from rfl,bs0];erw[q])
 have W:ex Φ Γ [.lent (.list (as.map .str)),.lent (.list (bs.map .str)),.no,.fr,.no,.no] (.newt 3 uW)=some (.nx [.lent (.list (as.map .str)),.lent (.list (bs.map .str)),.no,.io (.tbl (grid as bs (Qr as.length))),.no,.no]):=by
  rw[ex_s];simp only[S.newt,gtS,gt0];rw[if_neg (by simp[lh]),AF as bs R U,bs0,BY,bs0,qO];rfl
 simp only[ans_e,gE,My,exs_c];rw[show (aN [true,true] 6 [D.list (as.map .str),.list (bs.map .str)]).set 3 Sl.fr=[.lent (.list (as.map .str)),.lent (.list (bs.map .str)),.no,.fr,.no,.no] from rfl,W,cp,exs_c,Y,cp];simp[<-AC]
def eJ{L:List Th}{t}(h:L[n]?=some t):(L.map Th.o)[n]?=some t.o:=by simp_all
abbrev uX(Φ:Fs)(c:Nat):Prop:=Has Φ "text_of" [true,true] λJ=>∀(L:List Th)(n:Nat) t,L[n]?=some (.blob t)->J [vt c L,.int n]=some (.str t)
def AH(hc:gJ Φ c)(L:List Th)(n:Nat)(t:Str)(h:L[n]?=some (.blob t)):ans Φ Γ (eV c) [vt c L,.int n]=some (.str t):=by
 obtain⟨M,J,K⟩:=hc;simp only[ans_e,eV];simp[J,(K 0 _ n _ _ (eJ h))]
noncomputable def kOf:Option Th->Str
 |none=>⟨#[110,111,110,101]⟩
 |some (.blob _)=>af
 |some (.tree _)=>ao
noncomputable def qP(L:List Th)(d:D):Option Th->Prop
 |none=>d=.none
 |some t=>∃n:Nat,d=.int n/\L[n]?=some t
abbrev jo(Φ:Fs)(c:Nat):Prop:=Has Φ "kind_of" [true,true] λJ=>∀(L:List Th) d o,qP L d o->J [vt c L,d]=some (.str (kOf o))
def tB(N:qi Φ c)(L:List Th)(d:D)(o)(h:qP L d o):ans Φ Γ (eX c) [vt c L,d]=some (.str (kOf o)):=by
 obtain⟨R,J,K⟩:=N;simp only[ans_e,eX];cases o with
 |none=>cases h;simp[kOf]
 |some t=>
  obtain⟨n,rfl,M⟩:=h;cases t with
  |blob t=>have q:=K 0 _ n _ _ (eJ M);simp[J,q,kOf]
  |tree O=>have q:=K 0 _ n _ _ (eJ M);simp[J,q,kOf]
noncomputable def byN:Option Th->List (Str×Int)
 |some (.tree J)=>J
 |_=>[]
noncomputable def fdE(es:List (Str×Int)):D:=.fdc (es.map λp=>(.inr p.1,.int p.2))
def tD(es:List (Str×Int)):pairsOf (es.map bZ)=some (es.map λp=>((.inr p.1:Sum Int Str),D.int p.2)):=by
 induction es with
 |nil=>rfl
 |cons p l ih=>show (pairsOf _).map _=_;rw[ih];rfl
abbrev uY(Φ:Fs)(c:Nat):Prop:=Has Φ "entries_by_name" [true,true] λJ=>∀(L:List Th) d o,qP L d o->((byN o).map (·.1)).Nodup->J [vt c L,d]=some (fdE (byN o))
def tE(V:qi Φ c)(U:gK Φ c)(L:List Th)(d:D)(o)(h:qP L d o)(W:((byN o).map (·.1)).Nodup):ans Φ Γ (aQ c) [vt c L,d]=some (fdE (byN o)):=by
 obtain⟨T,K,N⟩:=V;obtain⟨F,O,R⟩:=U;simp only[ans_e,aQ];cases o with
 |none=>cases h;simp[byN,fdE]
 |some t=>
  obtain⟨n,rfl,J⟩:=h;cases t with
  |blob t=>have q:=N 0 _ n af _ (eJ J);simp[K,q,byN,fdE]
  |tree M=>
   have q:=N 0 _ n ao _ (eJ J);have Z:=R 0 _ n (M.map bZ) (eJ J);have Y:putAll [] _=M.map λp=>(.inr p.1,D.int p.2):=dQ (acc:=[]) (by
    simp only[List.nil_append,List.map_map];erw[List.pairwise_map.mpr ((List.pairwise_map.mp W).imp λz e=>z (Sum.inr.inj e))])
   simp[K,q,show ¬ (ao=af) by decide,O,Z,byN,fdE,yb,tD,Y]
def aP{n}(h:n<=9000):n<=big:=nt0 h @2
def lnF(x:Str):List Str:=(Txt.split x nl).dropLast.map (·++nl)++(if (Txt.split x nl).getLastD Str.empty=Str.empty then [] else [(Txt.split x nl).getLastD Str.empty])
def tF{x}{r}{t}(h:Txt.split x nl=r++[t]):lnF x=r.map (·++nl)++(if t=Str.empty then [] else [t]):=by
 unfold lnF;rw[h,List.dropLast_concat,List.getLastD_concat]
abbrev qQ(Φ:Fs):Prop:=Has Φ "lines_of" [true] λJ=>∀x:Str,x.length<=3000->J [.str x]=some (.list ((lnF x).map .str))
def oG(x:Str)(h:x.length<=3000):ans Φ Γ dF [.str x]=some (.list ((lnF x).map .str)):=by
 have W:=cL x;have Z:=split_le x;have Y:=du x;have N:x.length+2<=big:=aP @1;have O:=@tF x;simp only[ans_e,dF];simp[N,show (⟨#[10]⟩:Str)=nl from rfl];generalize Txt.split x nl=U at *;obtain⟨r,t,rfl⟩:=List.eq_nil_or_concat U|>.resolve_left Y
 rw[List.concat_eq_append]at *;rw[O rfl];have R:nl.length=1:=rfl;simp at W;have M:∀p∈r,p.length+nl.length<=big:=λp L=>aP @4
 have V:r.length<=big:=aP @1;have J:r.length<big:=Nat.lt_of_le_of_lt (by lia:_<=9000) @2;simp[R,V];rw[az (g:=λp=>D.str (p++nl)) λp L=>by have:=M p L;simp[cpF_e,this]];have K:(⟨#[]⟩:Str)=Str.empty:=rfl
 by_cases e:t=Str.empty
 .simp[e,K,Function.comp_def]
 .simp[e,K,J,Function.comp_def]
def AI(t:Str):Txt.slice (t++nl) none (some (-1))=t:=by
 have L:(t++nl).length=t.length+1:=by rw[oA];rfl
 have J:(t++nl).cps.toList=t.cps.toList++[10]:=by rw[aT];rfl
 have K:t.cps.toList.length=t.length:=by rw[al0];rfl
 rw[PyProof.Rows.slice_to_neg @2,L,show max (0:Int) (((t.length+1:Nat):Int) + -1)=(t.length:Int) by grind];have:=eq_of_beq (PyProof.Rows.slice_closes_to (x:=t++nl) (j:=t.length) (by simp_all,by rw[J];simp[K];grind));rw[this,J]
 apply M1.ext
 simp[<-K]
def AJ(t:Str):t++nl=nl↔t=Str.empty:=by
 constructor
 .intro h
  have:=congrArg (λs:Str=>s.length) h;simp only[oA]at this;have J:t.length=0:=by simp_all
  apply M1.ext
  erw[ez0 (by rw[al0];exact J)]
 .rintro rfl;rfl
abbrev oH(Φ:Fs):Prop:=Has Φ "_law_lines" [true] λJ=>∀x:Str,x.length<=3000->J [.str x]=some (.list ((lnF x).map .str))
def tG(x:Str)(h:x.length<=3000):ans Φ Γ bN [.str x]=some (.list ((lnF x).map .str)):=by
 have Y:=cL x;have O:=split_le x;have Z:=du x;have U:x.length+2<=big:=aP @4;have V:=@tF x;simp only[ans_e,bN];simp[U,show (⟨#[10]⟩:Str).length=1 from rfl,show (⟨#[10]⟩:Str)=nl from rfl];generalize Txt.split x nl=W at *;obtain⟨r,t,rfl⟩:=List.eq_nil_or_concat W|>.resolve_left Z
 rw[List.concat_eq_append]at *;rw[V rfl];have M:nl.length=1:=rfl;simp at Y;have N:(r++[t]).length<=big:=aP (by simp;grind);simp[M,show r.length+1<=big by simpa using N];have R:∀p∈r++[t],p.length+nl.length<=big:=λp L=>aP (by have:=O p L;rw[M];grind)
 rw[show List.map D.str r++[D.str t]=(r++[t]).map .str by simp,az (g:=λp=>D.str (p++nl)) λp L=>by have:=R p L;simp[cpF_e,this]];have F:=O t @0;have K:atI (r.map (λp=>D.str (p++nl))++[D.str (t++nl)]) (-1)=some (.str (t++nl)):=by rw[fX @0 .none];simp
 simp[K,xh]
 by_cases e:t=Str.empty
 .have J:=(AJ t).mpr e
  rw[if_pos e];simp[J,K,xh,Function.comp_def]
 .have J:¬ t++nl=nl:=λz=>e ((AJ t).mp z)
  have T:(t++nl).length<=big:=aP (by rw[oA,M];grind);simp[J,e,K,xh,T,AI,show r.length+1<=big by simpa using N,Function.comp_def]
end TX
namespace M3
open M2
variable [DecidableEq α]
noncomputable abbrev Tr:=Nat×Nat×Nat
noncomputable abbrev Pt(J:Type):=List J×List J×List J
noncomputable def cutN(xs:List α)(i j:Nat):List α:=(xs.drop i).take (j-i)
noncomputable def fixed(P Q:List (Nat×Nat)):List Tr:=P.filterMap λp=>(Q.lookup p.1).map λv=>(p.1,p.2,v)
def cut3(B O T:List α)(s e:Tr):Pt α:=(cutN B s.1 e.1,cutN O s.2.1 e.2.1,cutN T s.2.2 e.2.2)
noncomputable def next(s:Tr):Tr:=(s.1+1,s.2.1+1,s.2.2+1)
noncomputable def parts(B O T:List α):Tr->List Tr->List (Pt α)
 |s,[]=>[cut3 B O T s (B.length,O.length,T.length)]
 |s,f::r=>cut3 B O T s f::cut3 B O T f (next f)::parts B O T (next f) r
def cut_one(xs){i}{x:α}(h:xs[i]?=some x):cutN xs i (i+1)=[x]:=by
 obtain⟨J,rfl⟩:=gi0 h;unfold cutN;rw[List.drop_eq_getElem_cons J,show i+1-i=1 by simp_all];rfl
inductive Up (B O T:List α):Tr->List Tr->Prop
 |nil {s:Tr}:s.1<=B.length->s.2.1<=O.length->s.2.2<=T.length->Up B O T s []
 |cons {s f:Tr}{r:List Tr}{x:α}:s.1<=f.1->s.2.1<=f.2.1->s.2.2<=f.2.2->B[f.1]?=some x->O[f.2.1]?=some x->T[f.2.2]?=some x->Up B O T (next f) r->Up B O T s (f::r)
def R2(x y:Nat×Nat):Prop:=x.1<y.1/\x.2<y.2
def R3(x y:Tr):Prop:=x.1<y.1/\x.2.1<y.2.1/\x.2.2<y.2.2
def Rising.pw{J K:List α}{i k}{P}(h:Rising J K i k P):P.Pairwise R2/\(∀p∈P,i<=p.1/\k<=p.2)/\∀p∈P,∃x,J[p.1]?=some x/\K[p.2]?=some x:=by
 induction h with
 |nil=>simp
 |@cons i k U V r x O R L M _ ih=>
  obtain⟨a,b,c⟩:=ih;refine(List.Pairwise.cons (λq N=>?_) a,λp hp=>?_,λp hp=>?_)
  .have:=b q N;exact(by grind,by grind)
  .grind
  .rcases mq0 hp with rfl|hp
   .exact(x,L,M)
   .erw[c p hp]
def pw_cmp{P:List (Nat×Nat)}(h:P.Pairwise R2):∀x∈P,∀y∈P,x=y\/R2 x y\/R2 y x:=by
 induction h with
 |nil=>simp
 |@cons a l J _ ih=>
  intro x L y K;rcases mq0 L with e|hx'
  .subst e
   rcases mq0 K with e|hy'
   .exact .inl e.symm
   .exact .inr (.inl (J y hy'))
  .rcases mq0 K with e|hy'
   .subst e;exact .inr (.inr (J x hx'))
   .erw[ih x hx' y hy']
def mem_of_lookup{Q:List (Nat×Nat)}{k v}(h:Q.lookup k=some v):(k,v)∈Q:=by
 induction Q with
 |nil=>cases h
 |cons q r ih=>
  obtain⟨a,b⟩:=q;rw[lk0]at h
  by_cases c:k=a
  .simp_all
  .have:(k==a)=false:=by simpa using c
   rw[this]at h;erw[mc0 _ (ih h)]
def kS{Q:List (Nat×Nat)}(h:Q.Pairwise R2){k v}(hm:(k,v)∈Q):Q.lookup k=some v:=by
 induction h with
 |nil=>cases hm
 |@cons a l K _ ih=>
  obtain⟨J,a2⟩:=a;rw[lk0];rcases mq0 hm with e|hm
  .simp_all
  .have:=(K _ hm).1
   have c:(k==J)=false:=by grind
   rw[c];erw[ih hm]
def iL{P Q}{f}(h:f∈fixed P Q):(f.1,f.2.1)∈P/\(f.1,f.2.2)∈Q:=by
 obtain⟨p,J,e⟩:=List.mem_filterMap.mp h;obtain⟨v,K,rfl⟩:=mx0 e;exact(J,mem_of_lookup K)
def ku{P Q}(L:P.Pairwise R2)(M:Q.Pairwise R2):(fixed P Q).Pairwise R3:=by
 unfold fixed;rw[List.pairwise_filterMap];refine L.imp λ{a R} h b N U J=>?_
 obtain⟨v,O,rfl⟩:=mx0 N;obtain⟨V,K,rfl⟩:=mx0 J;refine(h.1,h.2,?_);rcases pw_cmp M _ (mem_of_lookup O) _ (mem_of_lookup K)with e|e|e
 .have:=h.1;grind
 .erw[e.2]
 .have:=h.1;have:=e.1;grind
theorem EW{B O T:List α}:∀{F:List Tr}{s:Tr},F.Pairwise R3->s.1<=B.length->s.2.1<=O.length->s.2.2<=T.length->(∀f∈F,s.1<=f.1/\s.2.1<=f.2.1/\s.2.2<=f.2.2)->(∀f∈F,∃x,B[f.1]?=some x/\O[f.2.1]?=some x/\T[f.2.2]?=some x)->Up B O T s F
 |[],s,_,M,N,R,_,_=>.nil M N R
 |f::r,s,V,M,N,R,W,U=>by
  obtain⟨Y,Z⟩:=List.pairwise_cons.mp V;obtain⟨x,K,a2,L⟩:=U f ms0;obtain⟨D,C,Q⟩:=W f ms0;exact .cons D C Q K a2 L (EW Z ((gi0 K).1) ((gi0 a2).1) ((gi0 L).1) (λg J=>by have:=Y g J;exact(this.1,this.2.1,this.2.2)) λg J=>U g (mc0 _ J))
def places(B O T:List α):List Tr:=fixed (walk 0 0 B O) (walk 0 0 B T)
def walk0(J K:List α):Rising J K 0 0 (walk 0 0 J K):=by
 have:=qM J K _ 0 0 (nr0 _)
 rwa [List.drop_zero,List.drop_zero]at this
def places_up(B O T:List α):Up B O T (0,0,0) (places B O T):=EW ((ku (Rising.pw (walk0 B O)).1 (Rising.pw (walk0 B T)).1)) (Nat.zero_le _) (Nat.zero_le _) (Nat.zero_le _) (λa a=>(Nat.zero_le _,Nat.zero_le _,Nat.zero_le _)) ((λf U=>by
  obtain⟨N,R⟩:=iL U;obtain⟨x,J,L⟩:=(Rising.pw (walk0 B O)).2.2 _ N;obtain⟨y,K,M⟩:=(Rising.pw (walk0 B T)).2.2 _ R;simp only at J L K M;rw[J]at K;cases K;exact(x,J,L,M)))
def partsOf(B O T:List α):List (Pt α):=parts B O T (0,0,0) (places B O T)
theorem parts_all{B O T:List α}{C:Tr->Prop}{D:Pt α->Prop}(J:∀s e,C s->C e->D (cut3 B O T s e))(L:∀f,C f->C (next f))(R:C (B.length,O.length,T.length)):∀{F:List Tr}{s:Tr},C s->(∀f∈F,C f)->∀p∈parts B O T s F,D p
 |[],s,M,_,p,hp=>by
  rw[show p=cut3 B O T s (B.length,O.length,T.length) by simpa [parts]using hp];erw[J _ _ M R]
 |f::r,s,M,N,p,hp=>by
  have K:=N f ms0;rcases mq0 (show p∈cut3 B O T s f::cut3 B O T f (next f)::parts B O T (next f) r from hp)with rfl|hp
  .erw[J _ _ M K]
  .rcases mq0 hp with rfl|hp
   .erw[J _ _ K (L f K)]
   .erw[parts_all J L R (L f K) (λg U=>N g (mc0 _ U)) p hp]
noncomputable def both(p:Pt α):Bool:=decide (p.2.1≠p.1)&&(decide (p.2.2≠p.1)&&decide (p.2.2≠p.2.1))
variable [DecidableEq α]
noncomputable def sw(f:Tr):Tr:=(f.1,f.2.2,f.2.1)
theorem qR:∀{K L:List Tr},K.Pairwise R3->L.Pairwise R3->(∀x,x∈K↔x∈L)->K=L
 |[],[],_,_,_=>rfl
 |[],b::r,_,_,h=>absurd ((h b).mpr ms0) @0
 |a::r,[],_,_,h=>absurd ((h a).mp ms0) @0
 |a::K,b::L,R,U,h=>by
  obtain⟨M,a2⟩:=List.pairwise_cons.mp R;obtain⟨N,O⟩:=List.pairwise_cons.mp U;have e:a=b:=by
   rcases mq0 ((h a).mp ms0)with e|e
   .erw[e]
   .rcases mq0 ((h b).mpr ms0)with e'|e'
    .erw[e'.symm]
    .have x:=(N a e).1
     have y:=(M b e').1
     lia
  subst e
  congr 1
  refine qR a2 O λx=>(λJ=>?_,λJ=>?_)
  .rcases mq0 ((h x).mp (mc0 _ J))with e|e
   .subst e;erw[absurd (M x J).1 (li0 _)]
   .erw[e]
  .rcases mq0 ((h x).mpr (mc0 _ J))with e|e
   .subst e;erw[absurd (N x J).1 (li0 _)]
   .erw[e]
def mM{P Q}(L:Q.Pairwise R2){f}(J:(f.1,f.2.1)∈P)(K:(f.1,f.2.2)∈Q):f∈fixed P Q:=
 List.mem_filterMap.mpr (_,J,by rw[kS L K];rfl)
def fixed_swap{P Q}(J:P.Pairwise R2)(K:Q.Pairwise R2):(fixed Q P).map sw=fixed P Q:=by
 refine qR ?_ (ku J K) λx=>(λL=>?_,λL=>?_)
 .rw[List.pairwise_map]
  exact (ku K J).imp λh=>(h.1,h.2.2,h.2.1)
 .obtain⟨y,M,rfl⟩:=mm0 L
  obtain⟨a,b⟩:=iL M;erw[mM K b a]
 .obtain⟨a,b⟩:=iL L
  erw[List.mem_map.mpr (sw x,mM J b a,rfl)]
end M3
namespace TX
open PySem SI M1 L2.Z
noncomputable def trD(f:M3.Tr):D:=.list [.int f.1,.int f.2.1,.int f.2.2]
noncomputable def cH(p:M3.Pt Str):D:=.list [.list (p.1.map .str),.list (p.2.1.map .str),.list (p.2.2.map .str)]
def oI{α}(xs:List α)(i j:Nat):SI.cut xs (some (i:Int)) (some (j:Int))=M3.cutN xs i j:=by
 unfold SI.cut M3.cutN;have e:∀k d:Nat,sIx _ d (some k)=min k xs.length:=λk d=>rfl
 rw[e,e]
 by_cases J:i<=xs.length
 .rw[Nat.min_eq_left J]
  by_cases K:j<=xs.length
  .rw[Nat.min_eq_left K]
  .rw[Nat.min_eq_right @1,List.take_of_length_le @0,List.take_of_length_le (by simp;lia)]
 .rw[List.drop_eq_nil_of_le @1,List.drop_eq_nil_of_le @1];simp
def gR{α β}(f:α->β)(xs)(i j:Nat):M3.cutN (xs.map f) i j=(M3.cutN xs i j).map f:=by
 unfold M3.cutN;simp
abbrev Kx(Φ:Fs):Prop:=Has Φ "cut" [true,true,true] λJ=>∀(B O T:A1)(s e:M3.Tr),J [cH (B,O,T),trD s,trD e]=some (cH (M3.cut3 B O T s e))
def Ky{a b c d e f g h i}:gd 3 [[a,b,c],[d,e,f],[g,h,i]]=[.tuple [a,d,g],.tuple [b,e,h],.tuple [c,f,i]]:=rfl
def DL(B O T:A1)(s e):ans Φ Γ ur [cH (B,O,T),trD s,trD e]=some (cH (M3.cut3 B O T s e)):=by
 have J:3<=big:=by decide
 simp only[ans_e,ur];simp[cH,trD,ay,cpF_e,oI,gR,M3.cut3,J,Ky]
theorem ky{f}{inj}{g}:∀{xs:List β},(∀x∈xs,f (inj x)=some (g x))->ay f (xs.map inj)=some (xs.filterMap g)
 |[],_=>rfl
 |x::r,h=>by
  rw[mk0,ay,h x ms0,List.filterMap_cons,ky λy J=>h y (mc0 _ J)];cases g x<;>rfl
noncomputable def kvD(p:Nat×Nat):Sum Int Str×D:=(.inl p.1,.int p.2)
theorem eK:∀P:List (Nat×Nat),pairsOf (P.map prD)=some (P.map kvD)
 |[]=>rfl
 |p::r=>by
  show (pairsOf _).map _=_;rw[eK r];rfl
def AK{α}(acc)(k k')(v:α):look (put acc k v) k'=if k=k' then some v else look acc k':=by
 induction acc with
 |nil=>rfl
 |cons q r ih=>
  obtain⟨l,d⟩:=q;show look (if l=k then (l,v)::r else (l,d)::put r k v) k'=if k=k' then some v else (if l=k' then some d else look r k')
  by_cases c:l=k
  .subst c
   rw[if_pos rfl];show (if l=k' then some v else look r k')=_
   simp_all
  .rw[if_neg c]
   show (if l=k' then some d else look _ k')=_
   by_cases J:l=k'
   .subst J
    rw[if_pos rfl,if_pos rfl,if_neg (λe=>c e.symm)]
   simp_all
def iU{Q:List (Nat×Nat)}(h:Q.Pairwise M3.R2):∀(acc:List (Sum Int Str×D))(k:Nat),look (putAll acc (Q.map kvD)) (.inl (k:Int))=match Q.lookup k with
  |some v=>some (.int (v:Nat))
  |none=>look acc (.inl (k:Int)):=by
 induction h with
 |nil=>intro acc k;rfl
 |@cons q r L _ ih=>
  intro acc k;obtain⟨a,b⟩:=q;show look (putAll (put acc (.inl a) (.int b)) _) _=_;rw[ih,AK,lk0]
  by_cases c:k=a
  .subst c
   have:r.lookup k=none:=by
    cases e:r.lookup k with
    |none=>rfl
    |some v=>exact absurd (L _ (M3.mem_of_lookup e)).1 (li0 _)
   rw[this];simp
  .have J:(k==a)=false:=by simpa using c
   have K:¬ ((.inl a:Sum Int Str)=.inl k):=λz=>by
    grind
   rw[J,if_neg K]
abbrev uZ(Φ:Fs):Prop:=Has Φ "fixed_places" [true,true,true] λJ=>∀(B O T:A1),B.length<=1400->O.length<=1400->T.length<=1400->J [.list (B.map .str),.list (O.map .str),.list (T.map .str)]=some (.list ((M3.places B O T).map trD))
def oJ(J K:A1):(M2.walk 0 0 J K).length<=J.length:=by
 rw[M2.walk_length _ J K 0 0 (nr0 _)];exact (by
   induction J generalizing K with
   |nil=>rw[M2.lcs_nil_left];simp
   |cons a r ih=>have:=M2.lcs_left_le r K a;grind)
def tH(L:uU Φ)(B O T:A1)(K:B.length<=1400)(R:O.length<=1400)(U:T.length<=1400):ans Φ Γ bB [.list (B.map .str),.list (O.map .str),.list (T.map .str)]=some (.list ((M3.places B O T).map trD)):=by
 obtain⟨Y,N,M⟩:=L;have V:(M2.walk 0 0 B O).length<=big:=aP (by have:=oJ B O;lia);have W:=(M3.Rising.pw (M3.walk0 B T)).1;have e:(M3.places B O T).map trD=(M2.walk 0 0 B O).filterMap λp=>((M2.walk 0 0 B T).lookup p.1).map λv=>trD (p.1,p.2,v):=by
  unfold M3.places M3.fixed;rw[List.map_filterMap]
  congr 1
  funext p;rw[Option.map_map];rfl
 rw[e];have J:=iU W [];simp only[ans_e,bB];simp[N,M B T K U,M B O K R,eK,V];rw[ky (g:=λp=>((M2.walk 0 0 B T).lookup p.1).map λv=>trD (p.1,p.2,v))]
 .rfl
 intro p L;have J:=J p.1;cases q:(M2.walk 0 0 B T).lookup p.1 with
 |none=>
  rw[q]at J;simp[cpF_e,prD,inD,J,q,look]
 |some v=>
  rw[q]at J;simp[cpF_e,prD,inD,J,q,trD]
abbrev AL(Φ:Fs):Prop:=Has Φ "parts_of" [true] λJ=>∀(B O T:A1),B.length<=1400->O.length<=1400->T.length<=1400->J [cH (B,O,T)]=some (.list ((M3.partsOf B O T).map cH))
def places_len(B O T:A1):(M3.places B O T).length<=B.length:=by
 have J:(M3.places B O T).length<=(M2.walk 0 0 B O).length:=List.length_filterMap_le _ _;have:=oJ B O;erw[nt0 ‹_› ‹_›]
def xr(A:uZ Φ)(hc:Kx Φ)(B O T:A1)(I:B.length<=1400)(E:O.length<=1400)(X:T.length<=1400):ans Φ Γ dG [cH (B,O,T)]=some (.list ((M3.partsOf B O T).map cH)):=by
 obtain⟨l,S,y⟩:=A;obtain⟨k,W,u⟩:=hc;have H:=places_len B O T;have g:=y B O T I E X;have three:(3:Nat)<=big:=by decide
 have L:=u B O T;generalize K:cH (B,O,T)=R at L;have Y:jC R (.int 0)=some (.list (B.map .str)):=by rw[<-K];rfl
 have Z:jC R (.int 1)=some (.list (O.map .str)):=by rw[<-K];rfl
 have a2:jC R (.int 2)=some (.list (T.map .str)):=by rw[<-K];rfl
 have C:ig R=some [.list (B.map .str),.list (O.map .str),.list (T.map .str)]:=by rw[<-K];rfl
 have G:D.list [.int B.length,.int O.length,.int T.length]=trD (B.length,O.length,T.length):=rfl;have m:D.list [.int 0,.int 0,.int 0]=trD (0,0,0):=rfl;simp only[ans_e,dG];simp[S,g,Y,Z,a2,C,three,ay,cpF_e];unfold M3.partsOf;generalize M3.places B O T=F at H;rw[G,m];refine gP (inj:=trD) (F:=λs:Sl×List (M3.Pt Str)×M3.Tr=>[.lent R,.own (.list (s.2.1.map cH)),.dat (trD s.2.2),.dat (trD (B.length,O.length,T.length)),s.1]) (s:=(.no,[],(0,0,0))) (J:=λq s=>s.2.1++M3.parts B O T s.2.2 q=M3.parts B O T (0,0,0) F/\s.2.1.length+2*q.length=2*F.length) (P:=λo=>cJ .pure (nxS Φ Γ o _)=_) (λs U=>?_) (λf q s U=>?_) (rfl,by simp)
 .obtain⟨v,done,s⟩:=s
  obtain⟨M,V⟩:=U;simp at V M;have N:done.length<big:=Nat.lt_of_le_of_lt (show _<=9000 by lia) @2;rw[<-M];simp[W,L,N,M3.parts]
 .obtain⟨v,done,s⟩:=s
  obtain⟨M,V⟩:=U;simp at V M;have N:done.length<big:=Nat.lt_of_le_of_lt (show _<=9000 by lia) @2;have Q:done.length+1<big:=Nat.lt_of_le_of_lt (show _<=9000 by lia) @2;have j:ig (trD f)=some [.int f.1,.int f.2.1,.int f.2.2]:=rfl;have z:D.list [.int (f.1+1),.int (f.2.1+1),.int (f.2.2+1)]=trD (M3.next f):=rfl;refine((.dat (trD f),done++[M3.cut3 B O T s f,M3.cut3 B O T f (M3.next f)],M3.next f),(by rw[<-M];simp[M3.parts],by simp;lia),?_);simp[W,L,N,Q,j,ay,cpF_e,three,z]
noncomputable def om:Str:=⟨#[60,60,60,60,60,60,60,10]⟩
noncomputable def mm:Str:=⟨#[61,61,61,61,61,61,61,10]⟩
noncomputable def tm:Str:=⟨#[62,62,62,62,62,62,62,10]⟩
structure Kz(Γ:List (Str×D)):Prop where
 o:Γ.lookup ("OURS_MARK":Str)=some (D.str om)
 m:Γ.lookup ("MIDDLE_MARK":Str)=some (D.str mm)
 t:Γ.lookup ("THEIRS_MARK":Str)=some (D.str tm)
def clo(l:Str):Str:=if Txt.endswith l nl then l else l++nl
def closedF(J:A1):List Str:=J.map clo
def au(p:M3.Pt Str):List Str:=if M3.both p then [om]++closedF p.2.1++[mm]++closedF p.2.2++[tm] else if p.2.1=p.1 then p.2.2 else p.2.1
noncomputable def gT(b o t:D):Bool:=decide (o≠b)&&(decide (t≠b)&&decide (t≠o))
abbrev vd(Φ:Fs):Prop:=Has Φ "both_changed" [true,true,true] λJ=>∀b o t:D,okS 20 b=true->okS 20 o=true->okS 20 t=true->J [b,o,t]=some (.bool (gT b o t))
def AM(b o t:D)(L:okS 20 b=true)(J:okS 20 o=true)(K:okS 20 t=true):ans Φ Γ bC [b,o,t]=some (.bool (gT b o t)):=by
 simp only[ans_e,bC]
 by_cases M:o=b
 .subst M;simp[da J J,gT]
 .by_cases N:t=b
  .subst N;simp[da J K,da K K,gT]
  .simp[da J L,da K L,da K J,gT]
abbrev AN(Φ:Fs):Prop:=Has Φ "changed_side" [false,false,false] λJ=>∀b o t:D,okS 20 b=true->okS 20 o=true->J [b,o,t]=some (if o=b then t else o)
def AO(b o t:D)(J:okS 20 b=true)(L:okS 20 o=true):ans Φ Γ bD [b,o,t]=some (if o=b then t else o):=by
 simp only[ans_e,bD]
 by_cases K:o=b
 .simp[da J J,K]
 .simp[da L J,K]
def bU(l:A1):okS 20 (.list (l.map .str))=true:=by simp[okS]
def strs_eq{a b:A1}:D.list (a.map .str)=.list (b.map .str)↔a=b:=(λh=>(List.map_inj_right λc c q=>D.str.inj q).mp (D.list.inj h),λh=>by rw[h])
def mN(b o t):gT (.list (b.map .str)) (.list (o.map .str)) (.list (t.map .str))=M3.both (b,o,t):=by
 unfold gT M3.both;simp[strs_eq,-D.list.injEq]
abbrev ve(Φ:Fs):Prop:=Has Φ "closed" [true] λK=>∀(J:A1),J.length<=1400->(∀x∈J,x.length<=1400)->K [.list (J.map .str)]=some (.list ((closedF J).map .str))
def tI(J:A1)(O:J.length<=1400)(L:∀x∈J,x.length<=1400):ans Φ Γ gz [.list (J.map .str)]=some (.list ((closedF J).map .str)):=by
 have N:J.length<=big:=aP @4;simp only[ans_e,gz];simp[N];rw[az (g:=λx=>D.str (clo x))]
 .simp[closedF]
 .intro x M
  have K:x.length+nl.length<=big:=aP (by have:=L x M;show x.length+1<=_;grind)
  by_cases c:Txt.endswith x nl=true
  .simp[cpF_e,show (⟨#[10]⟩:Str)=nl from rfl,K,c,clo]
  .simp[cpF_e,show (⟨#[10]⟩:Str)=nl from rfl,K,c,clo]
structure Fit(ls:A1):Prop where
 many:ls.length<=1310
 sum:(ls.map (·.length)).sum<=1310
def HS :∀x∈ls,x.length<=(ls.map (·.length)).sum:=by
 induction ls<;>grind
def Fit.short(h:Fit ls):∀x∈ls,x.length<=1400:=λx J=>by have:=HS x J;have:=h.sum;grind
abbrev qS(Φ:Fs):Prop:=Has Φ "settled" [false,false,false] λJ=>∀(p:M3.Pt Str),Fit p.2.1->Fit p.2.2->J [.list (p.1.map .str),.list (p.2.1.map .str),.list (p.2.2.map .str)]=some (.list ((au p).map .str))
def qT(g:Kz Γ)(Z:vd Φ)(hc:ve Φ)(hs:AN Φ)(p:M3.Pt Str)(N:Fit p.2.1)(O:Fit p.2.2):
  ans Φ Γ eW [.list (p.1.map .str),.list (p.2.1.map .str),.list (p.2.2.map .str)]=some (.list ((au p).map .str)):=by
 obtain⟨b,o,t⟩:=p;obtain⟨f,K,B⟩:=Z;obtain⟨v,Y,R⟩:=hc;obtain⟨l,M,C⟩:=hs;have q:o.length<=1310:=N.many;have u:t.length<=1310:=O.many;have U:=R o @1 N.short;have V:=R t @1 O.short;have T:(closedF o).length=o.length:=by unfold closedF;simp
 have F:(closedF t).length=t.length:=by unfold closedF;simp
 have J:=B _ _ _ (bU b) (bU o) (bU t);rw[mN]at J;have L:=C _ _ (.list (t.map .str)) (bU b) (bU o);simp only[ans_e,eW];unfold au;cases h:M3.both (b,o,t)with
 |false=>
  by_cases e:o=b
  .subst e
   simp[K,J,h,M,L]
  .have W:¬ (D.list (o.map .str)=.list (b.map .str)):=λz=>e (strs_eq.mp z)
   rw[if_neg W]at L;simp[K,J,h,M,L,e]
 |true=>
  have H:1+o.length<=big:=aP @1;have A:1+o.length+1<=big:=aP @1;have j:1+o.length+1+t.length<=big:=aP @1;have y:1+o.length+1+t.length+1<=big:=aP @1;have P:o.length+1<=big:=aP @1;have G:o.length+1+1<=big:=aP @1;have X:o.length+1+1+t.length<=big:=aP @1;have I:o.length+(t.length+1)+1+1<=big:=aP @1;have E:o.length+(t.length+1+1)+1<=big:=aP @1;have Q:o.length+(t.length+1+1+1)<=big:=aP @1;have S:o.length+(t.length+1+1)<=big:=aP @1;simp[K,J,h,Y,U,V,g.o,g.m,g.t,T,F,H,A,j,y,P,G,X,I,E,Q,S]
def mergedF(B O T:A1):List Str:=(M3.partsOf B O T).flatMap au
noncomputable def confF(B O T:A1):Nat:=(M3.partsOf B O T).countP M3.both
def AQ(xs:List Nat)(i:Nat):(xs.drop i).sum<=xs.sum:=by
 have:=congrArg List.sum (List.take_append_drop i xs)
 grind
def AR(xs:List Nat)(i:Nat):(xs.take i).sum<=xs.sum:=by
 have:=congrArg List.sum (List.take_append_drop i xs)
 grind
def aV(h:Fit ls)(i j:Nat):Fit (M3.cutN ls i j):=(nt0 ((by
  unfold M3.cutN
  grind)) h.many,by
 rw[<-gR];erw[nt0 (nt0 (AR _ _) (AQ _ _)) h.sum])
theorem eM(B O T:A1):∀(F:List M3.Tr)(s:M3.Tr),(M3.parts B O T s F).length=2*F.length+1
 |[],s=>rfl
 |f::r,s=>by
  show (M3.parts B O T (M3.next f) r).length+1+1=2*(r.length+1)+1;rw[eM B O T r];grind
def DM(l:Str):(clo l).length<=l.length+1:=by
 unfold clo;split
 .simp_all
 .rw[Str.length_append];erw[nr0 _]
def kz(J:A1):((closedF J).map (·.length)).sum<=(J.map (·.length)).sum+J.length:=by
 induction J with
 |nil=>exact nr0 _
 |cons a r ih=>
  show (clo a).length+((closedF r).map (·.length)).sum<=a.length+(r.map (·.length)).sum+(r.length+1);have:=DM a
  grind
def qU{p}(J:Fit p.2.1)(K:Fit p.2.2):(au p).length<=2623/\((au p).map (·.length)).sum<=5264:=by
 have L:(closedF p.2.1).length=p.2.1.length:=by unfold closedF;simp
 have M:(closedF p.2.2).length=p.2.2.length:=by unfold closedF;simp
 have m1:=J.many;have m2:=K.many;have W:=J.sum;have Y:=K.sum;have U:=kz p.2.1;have V:=kz p.2.2;have N:om.length=8:=rfl;have O:mm.length=8:=rfl;have R:tm.length=8:=rfl;unfold au;split
 .simp only[la0,lc0,List.length_nil,L,M,List.map_append,List.sum_append,mk0,List.map_nil,List.sum_cons,List.sum_nil]
  grind
 .split<;>grind
def vg :ls.length*Str.empty.length=0:=rfl
noncomputable abbrev J(K:A1):Str:=Txt.join Str.empty K
theorem qV:∀J:List Str,J≠[]->(Str.join nl J).length+1=(J.map (·.length)).sum+J.length
 |[],h=>absurd rfl h
 |[y],_=>rfl
 |y::z::q,_=>by
  have e:(Str.join nl (y::z::q)).length=y.length+1+(Str.join nl (z::q)).length:=by
   show (y++nl++Str.join nl _).length=_;rw[Str.length_append,Str.length_append];rfl
  have:=qV (z::q) @0
  grind
def HU(x:Str):((lnF x).map (·.length)).sum<=x.length/\(lnF x).length<=x.length+1:=by
 have M:=cL x;have J:=qV _ (du x);rw[show Str.join nl (Txt.split x nl)=x from StrLaws.join_split x nl]at J;have N:=du x;have K:=@tF x;generalize Txt.split x nl=L at *;obtain⟨r,t,rfl⟩:=List.eq_nil_or_concat L|>.resolve_left N
 rw[List.concat_eq_append]at *;rw[K rfl];have k:∀r:List Str,((r.map (·++nl)).map (·.length)).sum=(r.map (·.length)).sum+r.length:=λr=>by
  induction r with
  |nil=>rfl
  |cons a r ih=>
   rw[mk0,mk0,List.sum_cons,ih,Str.length_append,mk0,List.sum_cons,lc0];show a.length+1+_=_
   grind
 have O:Str.empty.length=0:=rfl;simp at M J;split
 .rw[List.append_nil,k,lm0];grind
 .rw[List.map_append,List.sum_append,k,la0,lm0]
  simp;grind
def fP{x}(h:x.length<=1300):Fit (lnF x):=by
 have:=HU x;exact(by grind,by grind)
abbrev vh(Φ:Fs):Prop:=Has Φ "merged_text" [true,true,true] λK=>∀(x y z:Str),x.length<=1300->y.length<=1300->z.length<=1300->
 K [.str x,.str y,.str z]=some (.tuple [.str (J (mergedF (lnF x) (lnF y) (lnF z))),.int (confF (lnF x) (lnF y) (lnF z):Nat)])
def tJ(l:qQ Φ)(k:AL Φ)(m:vd Φ)(hs:qS Φ)(x y z:Str)(t:x.length<=1300)(r:y.length<=1300)(d:z.length<=1300):
  ans Φ Γ bR [.str x,.str y,.str z]=some (.tuple [.str (J (mergedF (lnF x) (lnF y) (lnF z))),.int (confF (lnF x) (lnF y) (lnF z):Nat)]):=by
 obtain⟨r1,u,D⟩:=l;obtain⟨r2,g,b⟩:=k;obtain⟨r3,C,i⟩:=m;obtain⟨r4,Q,p4⟩:=hs;have q1:=D x @4;have q2:=D y @4;have q3:=D z @1;have v:=fP t;have I:=fP r;have E:=fP d;unfold mergedF confF;generalize lnF x=B at *;generalize lnF y=O at *;generalize lnF z=T at *;have mB:=v.many;have mO:=I.many;have mT:=E.many;have U:=b B O T @1 @1 @1;unfold cH at U;simp only[]at U;have L:=(show ∀p∈M3.partsOf B O T,Fit p.2.1/\Fit p.2.2 from M3.parts_all (λs e a a=>(aV I _ _,aV E _ _)) (λa a=>trivial) trivial trivial λa a=>trivial)
 have V:(M3.partsOf B O T).length<=2621:=by
  unfold M3.partsOf;rw[eM];have:=places_len B O T
  lia
 generalize M3.partsOf B O T=A at U L V;simp only[ans_e,bR];simp[u,q1,q2,q3,g,U];refine gP (inj:=cH) (F:=λs:List Str×Nat×Sl×Sl×Sl=>[.lent (.str x),.lent (.str y),.lent (.str z),.own (.list (s.1.map .str)),.dat (.int (s.2.1:Nat)),s.2.2.1,s.2.2.2.1,s.2.2.2.2]) (s:=([],0,.no,.no,.no)) (J:=λq s=>(∀p∈q,Fit p.2.1/\Fit p.2.2)/\s.1++q.flatMap au=A.flatMap au/\s.2.1+q.countP M3.both=A.countP M3.both/\s.1.length+2623*q.length<=2623*2621/\(s.1.map (·.length)).sum+5264*q.length<=5264*2621) (P:=λo=>cJ .pure (nxS Φ Γ o _)=_) (λs Z=>?_) (λp q s Z=>?_) (L,rfl,by simp,by simp;lia,by simp;lia)
 .obtain⟨K,n,s5,s6,s7⟩:=s
  obtain⟨_,M,R,W,Y⟩:=Z;simp at M R W Y;rw[<-M,<-R];have sb:(K.map (·.length)).sum+K.length*Str.empty.length<=big:=by rw[vg];unfold big;lia
  have f:(⟨#[]⟩:Str)=Str.empty:=rfl;simp[aE,f,sb]
 .obtain⟨K,n,s5,s6,s7⟩:=s
  obtain⟨X,M,R,W,Y⟩:=Z;obtain⟨S,G⟩:=X p ms0;have j:=p4 p S G;obtain⟨g1,g2⟩:=qU S G;have N:=i _ _ _ (bU p.1) (bU p.2.1) (bU p.2.2);rw[mN]at N;simp only[lc0,List.flatMap_cons,List.countP_cons]at M R W Y;have H:K.length+(au p).length<=big:=by unfold big;lia
  refine((K++au p,n+(if M3.both p then 1 else 0),.dat (.list (p.1.map .str)),.dat (.list (p.2.1.map .str)),.dat (.list (p.2.2.map .str))),(λc h=>X c (mc0 _ h),by rw[<-M,List.append_assoc],by dsimp only;lia,by dsimp only;rw[la0];lia,by dsimp only;rw[List.map_append,List.sum_append];lia),?_);cases h:M3.both p with
  |true=>
   rw[h]at N;simp[cH,C,N,Q,j,H]
  |false=>
   rw[h]at N;simp[cH,C,N,Q,j,H]
def vi{x}{L}{c}(h:x.cps.toList=L++[c]):Txt.endswith x nl=decide (c=10):=by
 have K:x.length=L.length+1:=by show x.cps.size=_;rw[<-al0,h];simp
 have M:x.cps.extract L.length (L.length+1)=#[c]:=by
  apply Array.toList_inj.mp
  rw[Array.toList_extract,h];simp
 show (decide (0+1<=x.length)&&(x.cps.extract (x.length-1) (x.length-1+1)==#[10]))=_;rw[K,show L.length+1-1=L.length by simp_all,M]
 by_cases J:c=10<;>simp[J]
def tK{x}{L}{c}(h:x.cps.toList=L++[c]):Txt.slice x (some (-1)) none=⟨#[c]⟩:=by
 have J:x.length=L.length+1:=by show x.cps.size=_;rw[<-al0,h];simp
 rw[PyProof.Rows.slice_from_neg @2,J,show max (0:Int) (((L.length+1:Nat):Int) + -1)=(L.length:Int) by grind];have:=eq_of_beq (PyProof.Rows.slice_closes_from (x:=x) (i:=L.length) (by simp_all,by rw[h];simp;grind));rw[this,h];simp
def qW(a b):J (a++b)=J a++J b:=by
 apply M1.ext
 rw[aT,dI,dI,dI,List.map_append,List.flatten_append]
def qX(x:Str):J [x]=x:=rfl
def KA:J []=Str.empty:=rfl
def fQ(x:Str):Str:=if x≠Str.empty/\Txt.slice x (some (-1)) none≠nl then nl else Str.empty
inductive Lns:List Str->Prop
 |nil:Lns []
 |one {l:Str}:l≠Str.empty->Lns [l]
 |cons {l:Str}{r:A1}:Txt.endswith l nl=true->Lns r->Lns (l::r)
def vj{l}(h:l≠Str.empty)(p:Str):clo l=l++fQ (p++l):=by
 obtain⟨L,c,e⟩:=(show ∃L c,l.cps.toList=L++[c] by
   have N:l.cps.toList≠[]:=λe=>h (M1.ext (by rw[e];rfl))
   exact(_,_,(List.dropLast_concat_getLast N).symm))
 have J:(p++l).cps.toList=(p.cps.toList++L)++[c]:=by rw[aT,e,List.append_assoc]
 have O:p++l≠Str.empty:=λz=>by
  have:(p++l).cps.toList=[]:=by rw[z];rfl
  rw[J]at this;simp at this
 have M:l++Str.empty=l:=M1.ext (rfl);unfold clo fQ;rw[vi e,tK J]
 by_cases K:c=10
 .subst K
  rw[if_pos @0,if_neg (λz=>z.2 rfl),M]
 .have R:⟨#[c]⟩≠nl:=λz=>K (by
   have:(⟨#[c]⟩:Str).cps=nl.cps:=by rw[z]
   have:#[c]=#[10]:=this
   simpa using this)
  simp_all
def ff(a b c:Str):a++b++c=a++(b++c):=M1.ext (by simp[aT])
def xt(a:Str):a++Str.empty=a:=M1.ext (rfl)
def empty_app(a:Str):Str.empty++a=a:=M1.ext (by rw[aT];rfl)
def tL(h:Lns ls):∀p:Str,J (closedF ls)=J ls++(if ls=[] then Str.empty else fQ (p++J ls)):=by
 induction h with
 |nil=>intro p;rfl
 |@one l K=>
  intro p;rw[if_neg @0];show J [clo l]=_;rw[qX,qX,vj K p]
 |@cons l r K O ih=>
  intro p;rw[if_neg @0];show J ([clo l]++closedF r)=_;have L:clo l=l:=by unfold clo;rw[if_pos K]
  rw[qW,qX,L,ih (p++l)];have N:J (l::r)=l++J r:=by rw[show l::r=[l]++r from rfl,qW,qX]
  rw[N]
  by_cases M:r=[]
  .subst M
   have:=vj ((λe=>by subst e;exact absurd K @2:l≠Str.empty)) p
   rwa [L]at this
  .rw[if_neg M,ff,ff]
def IR:fQ Str.empty=Str.empty:=if_neg λz=>z.1 rfl
def qY(h:Lns ls):J (closedF ls)=J ls++fQ (J ls):=by
 rw[tL h _,empty_app]
 by_cases K:ls=[]
 .subst K;rfl
 .rw[if_neg K]
def cN(p:M3.Pt Str):Str:=if M3.both p then om++J p.2.1++fQ (J p.2.1)++mm++J p.2.2++fQ (J p.2.2)++tm else if p.2.1=p.1 then J p.2.2 else J p.2.1
def mP{p}(K:Lns p.2.1)(L:Lns p.2.2):J (au p)=cN p:=by
 unfold au cN;split
 .simp only[qW,qX,qY K,qY L,ff]
 .split<;>rfl
def fh(h:Fit ls):(J ls).length<=1310:=nt0 (ka ls) h.sum
def gU(h:Fit ls):(ls.map (·.length)).sum+ls.length*Str.empty.length<=big:=by
 rw[vg];erw[aP (by have:=h.sum;grind)]
def jq(x:Str):(fQ x).length<=1:=by
 unfold fQ;split
 .erw[nr0 _]
 .erw[Nat.zero_le _]
abbrev fixE:E:=.idx (.lst (.cons @9 (.cons (.k (.str ⟨#[10]⟩)) .nil))) (.bi .int (.cons (.and (.cmp .ne (.v 6) @9) (.cmp .ne (.sl (.v 6) (.cons (.neg ↑1) .nil) .nil) (.k (.str ⟨#[10]⟩)))) .nil))
abbrev gW:Ss:=.cons (.set 6 (.me .join @9 (.cons (.v 4) .nil))) (.cons (.set 3 (.op .add (.op .add (.op .add (.v 3) (.v 6)) fixE) (.v 5))) .nil)
def mQ{d0 d1 d2 s6}{f mk}{row}(V:Fit row)(B:f.length<=7000)(C:mk.length<=10):
  exs Φ Γ [d0,d1,d2,.dat (.str f),.dat (.list (row.map .str)),.dat (.str mk),s6] gW=some (.nx [d0,d1,d2,.dat (.str (f++J row++fQ (J row)++mk)),.dat (.list (row.map .str)),.dat (.str mk),.dat (.str (J row))]):=by
 have Z:=gU V;have F:=fh V;have D:=jq (J row);have M:(J row).length<=big:=aP @4;have a2:f.length+(J row).length<=big:=aP @4;have W:(f++J row).length+(fQ (J row)).length<=big:=aP (by rw[Str.length_append];grind);have Y:(f++J row++fQ (J row)).length+mk.length<=big:=aP (by rw[Str.length_append,Str.length_append];grind);have L:(⟨#[]⟩:Str)=Str.empty:=rfl;have U:(⟨#[10]⟩:Str)=nl:=rfl;have K:ev Φ Γ .read [d0,d1,d2,.dat (.str f),.dat (.list (row.map .str)),.dat (.str mk),.dat (.str (J row))] fixE=some (.str (fQ (J row))):=by
  generalize J row=x at M;unfold fQ fixE
  by_cases N:x=Str.empty
  .simp[L,N]
  .by_cases R:Txt.slice x (some (-1)) none=nl
   .simp[L,U,N,R,M]
   .simp[L,U,N,R,M]
 unfold gW;generalize fixE=T at K ⊢;have O:=aE row;simp[O,L,Z,K,a2,W,Y]
abbrev AS(Φ:Fs):Prop:=Has Φ "_law_part" [false,false,false] λJ=>∀(p:M3.Pt Str),Fit p.2.1->Fit p.2.2->J [.list (p.1.map .str),.list (p.2.1.map .str),.list (p.2.2.map .str)]=some (.tuple [.str (cN p),.int (if M3.both p then 1 else 0)])
def gX(a b:A1):eqD (.list (a.map .str)) (.list (b.map .str))=some (decide (a=b)):=by
 rw[da (bU a) (bU b)]
 congr 1
 erw[decide_eq_decide.mpr strs_eq]
def AU(p:M3.Pt Str)(M:Fit p.2.1)(R:Fit p.2.2):ans Φ Γ gG [.list (p.1.map .str),.list (p.2.1.map .str),.list (p.2.2.map .str)]=some (.tuple [.str (cN p),.int (if M3.both p then 1 else 0)]):=by
 obtain⟨b,o,t⟩:=p;have M:Fit o:=M;have R:Fit t:=R;have W:=gU M;have F:=gU R;have V:(⟨#[]⟩:Str)=Str.empty:=rfl;simp only[ans_e,gG];unfold cN
 by_cases L:o=b
 .have K:M3.both (b,o,t)=false:=by unfold M3.both;simp[L]
  rw[K];simp[gX,L,aE,V,F]
 .by_cases N:t=b
  .have K:M3.both (b,o,t)=false:=by unfold M3.both;simp[N]
   rw[K];simp[gX,L,N,aE,V,W]
  .by_cases U:t=o
   .have K:M3.both (b,o,t)=false:=by unfold M3.both;simp[U]
    rw[K];simp[gX,L,N,U,aE,V,W]
   .have K:M3.both (b,o,t)=true:=by unfold M3.both;simp[L,N,U]
    rw[K];have D:=fh M;have B:=jq (J o);have Y:=mQ (Φ:=Φ) (Γ:=Γ) (d0:=.dat (.list (b.map .str))) (d1:=.dat (.list (o.map .str))) (d2:=.dat (.list (t.map .str))) (s6:=.no) (f:=om) (mk:=mm) M @2 @2;have Z:=mQ (Φ:=Φ) (Γ:=Γ) (d0:=.dat (.list (b.map .str))) (d1:=.dat (.list (o.map .str))) (d2:=.dat (.list (t.map .str))) (s6:=.dat (.str (J o))) (f:=om++J o++fQ (J o)++mm) (mk:=tm) R (by rw[Str.length_append,Str.length_append,Str.length_append];show 8+_+_+8<=_;lia) @2;generalize T:gW=C at Y Z;have O:=T;unfold gW fixE at O
    simp only[O,show (⟨#[60,60,60,60,60,60,60,10]⟩:Str)=om from rfl,show (⟨#[61,61,61,61,61,61,61,10]⟩:Str)=mm from rfl,show (⟨#[62,62,62,62,62,62,62,10]⟩:Str)=tm from rfl];simp[gX,L,N,U,xf,forL,Y,Z]
theorem Lns.drop{ls}(h:Lns ls):∀n,Lns (ls.drop n):=by
 induction h with
 |nil=>intro n;rw[List.drop_nil];exact .nil
 |one J=>intro n;cases n with
  |zero=>exact .one J
  |succ n=>rw[List.drop_succ_cons,List.drop_nil];exact .nil
 |cons J K ih=>intro n;cases n with
  |zero=>exact .cons J K
  |succ n=>simp_all
theorem Lns.take{ls}(h:Lns ls):∀n,Lns (ls.take n):=by
 induction h with
 |nil=>intro n;rw[List.take_nil];exact .nil
 |one J=>intro n;cases n with
  |zero=>exact .nil
  |succ n=>rw[List.take_succ_cons,List.take_nil];exact .one J
 |cons J K ih=>intro n;cases n with
  |zero=>exact .nil
  |succ n=>exact .cons J (ih n)
theorem Lns.cutN{ls}(h:Lns ls)(i j:Nat):Lns (M3.cutN ls i j):=(h.drop i).take _
def DN(J:A1){r}(h:Lns r):Lns (J.map (·++nl)++r):=by
 induction J with
 |nil=>exact h
 |cons x q ih=>exact .cons ((by rw[vi (by rw[aT];rfl)];rfl)) ih
set_option tactic.hygienic true in
def AV(x:Str):Lns (lnF x):=by
 refine DN _ ?_;split
 .exact .nil
 .rename_i h;exact .one h
def mR{p}(K:Fit p.2.1)(L:Fit p.2.2):(cN p).length<=2646:=by
 have a:=fh K;have b:=fh L;have c:=jq (J p.2.1);have d:=jq (J p.2.2);have M:om.length=8:=rfl;have N:mm.length=8:=rfl;have O:tm.length=8:=rfl;unfold cN;split
 .simp only[Str.length_append];grind
 .split<;>grind
noncomputable def tupD(f:M3.Tr):D:=.tuple [.int f.1,.int f.2.1,.int f.2.2]
abbrev AW:Ss:=(.cons (.set 9 (.call "_law_part" (.cons (.sl (.v 0) (.cons (.idx (.v 7) ↑0) .nil) (.cons (.idx (.v 8) ↑0) .nil)) (.cons (.sl (.v 1) (.cons (.idx (.v 7) ↑1) .nil) (.cons (.idx (.v 8) ↑1) .nil)) (.cons (.sl (.v 2) (.cons (.idx (.v 7) ↑2) .nil) (.cons (.idx (.v 8) ↑2) .nil)) .nil))))) (.cons (.set 5 (.op .add (.op .add (.v 5) (.idx (.v 9) ↑0)) (.me .join @9 (.cons (.sl (.v 0) (.cons (.idx (.v 8) ↑0) .nil) (.cons (.op .add (.idx (.v 8) ↑0) ↑1) .nil)) .nil)))) (.cons (.set 6 (.op .add (.v 6) (.idx (.v 9) ↑1))) (.cons (.set 7 (.tup (.cons (.op .add (.idx (.v 8) ↑0) ↑1) (.cons (.op .add (.idx (.v 8) ↑1) ↑1) (.cons (.op .add (.idx (.v 8) ↑2) ↑1) .nil))))) .nil))))
def xu(Q:AS Φ){B O T}(R:Fit B)(U:Fit O)(V:Fit T){s3 s4 s9}{x}{n}{s f}(X:x.length<=10000000):
  exs Φ Γ [.lent (.list (B.map .str)),.lent (.list (O.map .str)),.lent (.list (T.map .str)),s3,s4,.dat (.str x),.dat (.int n),.dat (tupD s),.dat (tupD f),s9] AW =
   some (.nx [.lent (.list (B.map .str)),.lent (.list (O.map .str)),.lent (.list (T.map .str)),s3,s4,.dat (.str (x++cN (M3.cut3 B O T s f)++J (M3.cutN B f.1 (f.1+1)))),.dat (.int (n+if M3.both (M3.cut3 B O T s f)then 1 else 0)),.dat (tupD (M3.next f)),.dat (tupD f),.dat (.tuple [.str (cN (M3.cut3 B O T s f)),.int (if M3.both (M3.cut3 B O T s f)then 1 else 0)])]):=by
 obtain⟨E,Y,G⟩:=Q;have q:=G (M3.cut3 B O T s f) (aV U _ _) (aV V _ _);have H:=mR (p:=M3.cut3 B O T s f) (aV U _ _) (aV V _ _);have A:=fh (aV R f.1 (f.1+1));have S:=gU (aV R f.1 (f.1+1));have L:x.length+(cN (M3.cut3 B O T s f)).length<=big:=by unfold big;grind
 have M:(x++cN (M3.cut3 B O T s f)).length+(J (M3.cutN B f.1 (f.1+1))).length<=big:=by rw[Str.length_append];unfold big;grind
 have Z:(⟨#[]⟩:Str)=Str.empty:=rfl;have W:∀(K:A1)(i:Nat),SI.cut (K.map D.str) (some (i:Int)) (some ((i:Int)+1))=(M3.cutN K i (i+1)).map D.str:=λK i=>by
  have:=oI (K.map D.str) i (i+1);rw[Int.natCast_succ]at this;rw[this,gR]
 unfold M3.cut3 at q;simp only[]at q;generalize C:cN (M3.cut3 B O T s f)=P at L M ⊢;generalize F:(if M3.both (M3.cut3 B O T s f)then (1:Int)else 0)=N;have I:E [.list ((M3.cutN B s.1 f.1).map .str),.list ((M3.cutN O s.2.1 f.2.1).map .str),.list ((M3.cutN T s.2.2 f.2.2).map .str)]=some (.tuple [.str P,.int N]):=by rw[<-C,<-F];erw[q]
 simp[tupD,Y,oI,gR,I,L,M,W,aE,Z,S,M3.next]
abbrev tM(Φ:Fs):Prop:=Has Φ "_law_both" [true,true,true] λK=>∀(B O T:A1),Fit B->Fit O->Fit T->Lns O->Lns T->K [.list (B.map .str),.list (O.map .str),.list (T.map .str)]=some (.tuple [.str (J (mergedF B O T)),.int (confF B O T:Nat)])
def xw{B O T}{f}{x}(J:B[f.1]?=some x)(K:O[f.2.1]?=some x)(L:T[f.2.2]?=some x):au (M3.cut3 B O T f (M3.next f))=[x]/\M3.both (M3.cut3 B O T f (M3.next f))=false/\M3.cutN B f.1 (f.1+1)=[x]:=by
 have e:M3.cut3 B O T f (M3.next f)=(Prod.mk ([x]) (Prod.mk ([x]) ([x]))):=by
  show (Prod.mk (M3.cutN B _ (f.1+1)) (Prod.mk (M3.cutN O _ (f.2.1+1)) (M3.cutN T _ (f.2.2+1))))=_;rw[M3.cut_one B J,M3.cut_one O K,M3.cut_one T L]
 have M:M3.both (Prod.mk ([x]) (Prod.mk ([x]) ([x])))=false:=by unfold M3.both;simp
 rw[e];refine(?_,M,M3.cut_one B J);unfold au
 simp_all
structure BothJ(B O T:A1)(X:Str)(N:Nat)(q:List M3.Tr)(x:Str)(n:Nat)(s:M3.Tr):Prop where
 len:x.length+3956*q.length<=3956*1311
 go:(∃F,q=F++[(B.length,O.length,T.length)]/\M3.Up B O T s F/\x++J ((M3.parts B O T s F).flatMap au)=X/\n+(M3.parts B O T s F).countP M3.both=N)\/(q=[]/\x=X/\n=N)
def BothJ.step{B O T}(W:Fit B)(Y:Fit O)(Z:Fit T)(U:Lns O)(V:Lns T){X x}{N n}{q}{s f}(h:BothJ B O T X N (f::q) x n s):BothJ B O T X N q (x++cN (M3.cut3 B O T s f)++J (M3.cutN B f.1 (f.1+1))) (n+if M3.both (M3.cut3 B O T s f)then 1 else 0) (M3.next f):=by
 have v:=mR (p:=M3.cut3 B O T s f) (aV Y _ _) (aV Z _ _);have z:=fh (aV W f.1 (f.1+1));have S:=h.len;refine(?_,?_)
 .simp only[lc0,Str.length_append]at S ⊢;grind
 .rcases h.go with⟨F,e,u,R,M⟩|⟨e,_⟩
  .cases F with
   |nil=>
    simp at e;obtain⟨K,L⟩:=e;subst K L;refine .inr (rfl,?_,?_)
    .have cB:M3.cutN B B.length (B.length+1)=[]:=by unfold M3.cutN;rw[List.drop_length];simp
     show _++J (M3.cutN B B.length (B.length+1))=_;rw[cB,KA,xt,<-R];show _=_++J ([M3.cut3 B O T s (B.length,O.length,T.length)].flatMap au);rw[List.flatMap_cons,List.flatMap_nil,List.append_nil,mP (U.cutN _ _) (V.cutN _ _)]
    .rw[<-M]
     show _=n+List.countP M3.both [M3.cut3 B O T s (B.length,O.length,T.length)];rw[List.countP_cons,List.countP_nil,Nat.zero_add]
   |cons g F=>
    simp only[List.cons_append,List.cons.injEq]at e;obtain⟨K,L⟩:=e;subst K;cases u with
    |@cons _ _ _ y H A j D C Q P=>
     obtain⟨G,I,E⟩:=xw D C Q;refine .inl (F,L,P,?_,?_)
     .rw[<-R]
      show _=x++J ((M3.cut3 B O T s f::M3.cut3 B O T f (M3.next f)::M3.parts B O T (M3.next f) F).flatMap au);rw[List.flatMap_cons,List.flatMap_cons,qW,qW,G,E,mP (U.cutN _ _) (V.cutN _ _)];simp only[ff]
     .rw[<-M]
      show _=n+(M3.cut3 B O T s f::M3.cut3 B O T f (M3.next f)::M3.parts B O T (M3.next f) F).countP M3.both;rw[List.countP_cons,List.countP_cons,I];simp only[Bool.false_eq_true,if_false]
      grind
  .cases e
def xx(hw:EV Φ)(C:AS Φ)(B O T)(R:Fit B)(U:Fit O)(V:Fit T)(z:Lns O)(y:Lns T):ans Φ Γ gH [.list (B.map .str),.list (O.map .str),.list (T.map .str)]=some (.tuple [.str (J (mergedF B O T)),.int (confF B O T:Nat)]):=by
 have turn:=λ{s3 s4 s9 x n s f} W=>xu (Φ:=Φ) (Γ:=Γ) C R U V (s3:=s3) (s4:=s4) (s9:=s9) (x:=x) (n:=n) (s:=s) (f:=f) W
 obtain⟨r,N,Q⟩:=hw;have k:=R.many;have t:=U.many;have mT:=V.many;have j:(M2.walk 0 0 B T).length<=big:=aP (by have:=oJ B T;grind);have L:=(M3.Rising.pw (M3.walk0 B O)).1;have Y:=(M3.Rising.pw (M3.walk0 B T)).1;have K:=iU L [];have E:(M2.walk 0 0 B T).filterMap (λp=>((M2.walk 0 0 B O).lookup p.1).map λv=>tupD (Prod.mk p.1 (Prod.mk v p.2)))=(M3.places B O T).map tupD:=by
  unfold M3.places;rw[<-M3.fixed_swap L Y];unfold M3.fixed;rw[List.map_filterMap,List.map_filterMap]
  congr 1
  funext p;rw[Option.map_map,Option.map_map];rfl
 have A:=places_len B O T;have G:=M3.places_up B O T;have Z:(M3.places B O T).length+1<=big:=aP @4;have H:D.tuple [.int B.length,.int O.length,.int T.length]=tupD (Prod.mk B.length (Prod.mk O.length T.length)):=rfl;have m:D.tuple [.int 0,.int 0,.int 0]=tupD (Prod.mk 0 (Prod.mk 0 0)):=rfl;have X:(⟨#[]⟩:Str)=Str.empty:=rfl;have S:mergedF B O T=(M3.parts B O T (Prod.mk 0 (Prod.mk 0 0)) (M3.places B O T)).flatMap au/\confF B O T=(M3.parts B O T (Prod.mk 0 (Prod.mk 0 0)) (M3.places B O T)).countP M3.both:=(rfl,rfl);rw[S.1,S.2];simp only[ans_e,gH];simp[N,Q B O @1 @4,Q B T @1 @1,eK,j];rw[ky (g:=λp=>((M2.walk 0 0 B O).lookup p.1).map λv=>tupD (Prod.mk p.1 (Prod.mk v p.2)))]
 .rw[E]
  generalize M3.places B O T=F at A G Z;simp[Z];rw[H,m,X,show F.map tupD++[tupD (Prod.mk B.length (Prod.mk O.length T.length))]=(F++[(Prod.mk B.length (Prod.mk O.length T.length))]).map tupD by simp];generalize Sl.dat (D.fdc (putAll [] (List.map kvD (M2.walk 0 0 B O))))=s3;generalize Sl.dat (D.list (List.map tupD F))=s4;refine gP (inj:=tupD) (F:=λs:Str×Nat×M3.Tr×Sl×Sl=>[.lent (.list (B.map .str)),.lent (.list (O.map .str)),.lent (.list (T.map .str)),s3,s4,.dat (.str s.1),.dat (.int (s.2.1:Nat)),.dat (tupD s.2.2.1),s.2.2.2.1,s.2.2.2.2]) (s:=(Prod.mk Str.empty (Prod.mk 0 (Prod.mk ((Prod.mk 0 (Prod.mk 0 0))) (Prod.mk .no .no))))) (J:=λq s=>BothJ B O T (J ((M3.parts B O T (Prod.mk 0 (Prod.mk 0 0)) F).flatMap au)) ((M3.parts B O T (Prod.mk 0 (Prod.mk 0 0)) F).countP M3.both) q s.1 s.2.1 s.2.2.1) (P:=λo=>cJ .pure (nxS Φ Γ o _)=_) (λs M=>?_) (λf q s M=>?_) (by show 0+_<=_;simp;lia,.inl (F,rfl,G,empty_app _,Nat.zero_add _))
  .rcases M.go with⟨l,e,_⟩|⟨_,N,I⟩
   .simp at e
   .rw[<-N,<-I];simp
  .obtain⟨x,n,s,u,s9⟩:=s
   have W:x.length<=10000000:=by have:=M.len;dsimp only at this;lia
   refine((Prod.mk _ (Prod.mk _ (Prod.mk (M3.next f) (Prod.mk (.dat (tupD f)) (.dat (.tuple [.str (cN (M3.cut3 B O T s f)),.int (if M3.both (M3.cut3 B O T s f)then 1 else 0)])))))),M.step R U V z y,?_);rw[show ax (.one 8) (tupD f) [.lent (.list (B.map .str)),.lent (.list (O.map .str)),.lent (.list (T.map .str)),s3,s4,.dat (.str x),.dat (.int (n:Nat)),.dat (tupD s),u,s9]=some [.lent (.list (B.map .str)),.lent (.list (O.map .str)),.lent (.list (T.map .str)),s3,s4,.dat (.str x),.dat (.int (n:Nat)),.dat (tupD s),.dat (tupD f),s9] from rfl,bs0];have:=turn (s3:=s3) (s4:=s4) (s9:=s9) (n:=(n:Nat)) (s:=s) (f:=f) W;rw[show ((n:Nat):Int)+(if M3.both (M3.cut3 B O T s f)then (1:Int)else 0)=((n+(if M3.both (M3.cut3 B O T s f)then 1 else 0):Nat):Int) by split<;>simp]at this
   erw[this]
 .intro p C
  have K:=K p.1;cases q:(M2.walk 0 0 B O).lookup p.1 with
  |none=>
   rw[q]at K;simp[cpF_e,prD,inD,K,q,look]
  |some v=>
   rw[q]at K;simp[cpF_e,prD,inD,K,q,tupD]
noncomputable instance:DecidableEq Nd:=λa a=>Classical.propDecidable _
noncomputable def ol:Option Nd->List (Str×Nd)
 |some (.tree J)=>J.l
 |_=>[]
noncomputable def ot:Option Nd->Str
 |some (.blob t)=>t
 |_=>Str.empty
noncomputable def jn(p x:Str):Str:=if p=Str.empty then x else p++⟨#[47]⟩++x
abbrev MF:=Str->Option Nd->Option Nd->Option Nd->Option Nd×List Str
def mS(f:MF)(ns:A1)(p:Str)(b o t:List (Str×Nd)):List (Str×Nd)×List Str:=
 (ns.filterMap λx=>(f (jn p x) (b.lookup x) (o.lookup x) (t.lookup x)).1.map λn=>(x,n),ns.flatMap λx=>(f (jn p x) (b.lookup x) (o.lookup x) (t.lookup x)).2)
def nm2(o t:List (Str×Nd)):List Str:=srtS (o.map (·.1)++t.map (·.1))
def mT(f:MF)(p:Str)(b:Option Nd)(o t:Nds):List (Str×Nd)×List Str:=mS f (nm2 o.l t.l) p (ol b) o.l t.l
noncomputable def mE:Nat->MF
 |k,p,b,o,t=>if o=t\/t=b then (o,[])else if o=b then (t,[])else match o,t with
  |some (.tree K),some (.tree L)=>match k with
   |0=>(none,[])
   |k+1=>(if (mT (mE k) p b K L).1=[] then none else some (.tree (Nds.of (mT (mE k) p b K L).1)),(mT (mE k) p b K L).2)
  |some (.blob x),some (.blob y)=>(some (.blob (J (mergedF (lnF (ot b)) (lnF x) (lnF y)))),List.replicate (confF (lnF (ot b)) (lnF x) (lnF y)) p)
  |o,t=>(if o=none then t else o,[p])
section
variable {k:Nat}{p:Str}{b o t:Option Nd}
def dR(h:o=t\/t=b):mE k p b o t=(o,[]):=by unfold mE;rw[if_pos h]
def gY(h:¬ (o=t\/t=b))(J:o=b):mE k p b o t=(t,[]):=by unfold mE;rw[if_neg h,if_pos J]
def jr{eo et}(h:¬ (some (Nd.tree eo)=some (Nd.tree et)\/some (Nd.tree et)=b))(J:¬ some (Nd.tree eo)=b):mE (k+1) p b (some (.tree eo)) (some (.tree et))=(if (mT (mE k) p b eo et).1=[] then none else some (.tree (Nds.of (mT (mE k) p b eo et).1)),(mT (mE k) p b eo et).2):=by
 rw[mE,if_neg h,if_neg J]
def ju{x y}(h:¬ (some (Nd.blob x)=some (Nd.blob y)\/some (Nd.blob y)=b))(K:¬ some (Nd.blob x)=b):mE k p b (some (.blob x)) (some (.blob y))=(some (.blob (J (mergedF (lnF (ot b)) (lnF x) (lnF y)))),List.replicate (confF (lnF (ot b)) (lnF x) (lnF y)) p):=by
 rw[mE,if_neg h,if_neg K]
noncomputable def okd:Option Nd->Str
 |none=>⟨#[110,111,110,101]⟩
 |some (.blob _)=>af
 |some (.tree _)=>ao
def jw(h:¬ (o=t\/t=b))(J:¬ o=b)(K:¬ (okd o=ao/\okd t=ao))(L:¬ (okd o=af/\okd t=af)):mE k p b o t=(if o=none then t else o,[p]):=by
 unfold mE;rw[if_neg h,if_neg J];rcases o with _|(_|_)<;>rcases t with _|(_|_)<;>first|rfl|exact absurd ⟨rfl,rfl⟩ K|exact absurd ⟨rfl,rfl⟩ L
end
def bO{l}(h:bY l):l.Nodup:=h.imp λ{a b} z e=>by rw[e,aU]at z;cases z
theorem fj{x}:∀{l:List (Str×Nd)},x∉l.map (·.1)->l.lookup x=none
 |[],_=>rfl
 |p::l,h=>by
  have J:(x==p.1)=false:=by simpa using λe=>h (by simp[e])
  rw[lk0,J];erw[fj λz=>h (by simp[z])]
def AX(f:MF)(K:∀p b,f p b none none=(none,[]))(p:Str)(b o t):mS f (srtS (b.map (·.1)++o.map (·.1)++t.map (·.1))) p b o t=mS f (nm2 o t) p b o t:=by
 have e:nm2 o t=(srtS (b.map (·.1)++o.map (·.1)++t.map (·.1))).filter λx=>decide (x∈o.map (·.1)++t.map (·.1)):=by
  refine dM (bj _) ((bj _).sublist List.filter_sublist) λx=>?_
  rw[nm2,mem_srtS,List.mem_filter,mem_srtS];simp only[decide_eq_true_eq];constructor
  .intro h;exact(by rw[List.append_assoc];erw[mr0 _ h],h)
  .erw[λh=>h.2]
 rw[e];have J:∀x,¬ (x∈o.map (·.1)++t.map (·.1))->f (jn p x) (b.lookup x) (o.lookup x) (t.lookup x)=(none,[]):=λx h=>by
  rw[fj λz=>h (List.mem_append_left _ z),fj λz=>h (mr0 _ z),K]
 generalize srtS _=L;clear e;unfold mS
 induction L with
 |nil=>rfl
 |cons x r ih=>
  rw[Prod.mk.injEq]at ih ⊢
  by_cases h:x∈o.map (·.1)++t.map (·.1)
  .rw[List.filter_cons_of_pos (by simpa using h),List.filterMap_cons,List.flatMap_cons,List.flatMap_cons,ih.1,ih.2]
   exact(rfl,rfl)
  .rw[List.filter_cons_of_neg (by simpa using h),List.filterMap_cons,List.flatMap_cons,J x h,<-ih.1,<-ih.2]
   exact(rfl,rfl)
mutual
theorem Nd.rep_inj{L:List Th}(J:L.Nodup):∀(n:Nd)(i j:Nat),n.rep L i->n.rep L j->i=j
 |.blob t,i,j,a,b=>by
  rw[Nd.rep]at a b;exact (List.getElem?_inj (gi0 a).1 J).mp (a.trans b.symm)
 |.tree U,i,j,a,b=>by
  rw[Nd.rep]at a b;obtain⟨V,K,a2,M⟩:=a;obtain⟨W,N,O,R⟩:=b;have:=Nds.rep_inj J U _ _ M R;have e:V=W:=(List.zip_of_prod K this).trans (List.zip_of_prod N rfl).symm;subst e;exact (List.getElem?_inj (gi0 a2).1 J).mp (a2.trans O.symm)
theorem Nds.rep_inj{L:List Th}(K:L.Nodup):∀(es:Nds)(J js:List Int),es.rep L J->es.rep L js->J=js
 |.nil,[],[],_,_=>rfl
 |.nil,_::_,_,h,_=>by rw[Nds.rep]at h;erw[h.elim];all_goals simp
 |.nil,[],_::_,_,h=>by rw[Nds.rep]at h;erw[h.elim];all_goals simp
 |.cons x n r,[],_,h,_=>by rw[Nds.rep]at h;erw[h.elim];all_goals simp
 |.cons x n r,_::_,[],_,h=>by rw[Nds.rep]at h;erw[h.elim];all_goals simp
 |.cons x n r,i::J,j::js,a,b=>by
  rw[Nds.rep]at a b;obtain⟨⟨k,rfl,M⟩,a2⟩:=a;obtain⟨⟨l,rfl,N⟩,O⟩:=b;rw[Nd.rep_inj K n k l M N,Nds.rep_inj K r J js a2 O]
end
mutual
theorem Nd.rep_fun{L:List Th}:∀(n M:Nd)(i:Nat),n.rep L i->M.rep L i->n=M
 |.blob t,.blob u,i,a,b=>by
  rw[Nd.rep]at a;rw[Nd.rep]at b;rw[a]at b;cases b;rfl
 |.blob t,.tree K,i,a,b=>by
  rw[Nd.rep]at a;rw[Nd.rep]at b;obtain⟨N,_,J,_⟩:=b;rw[a]at J;cases J
 |.tree K,.blob t,i,a,b=>by
  rw[Nd.rep]at a;rw[Nd.rep]at b;obtain⟨N,_,a2,_⟩:=a;rw[b]at a2;cases a2
 |.tree K,.tree W,i,a,b=>by
  rw[Nd.rep]at a;rw[Nd.rep]at b;obtain⟨N,O,a2,R⟩:=a;obtain⟨Y,U,J,V⟩:=b;rw[a2]at J;cases J;rw[Nds.rep_fun K W _ R V (O.symm.trans U)]
theorem Nds.rep_fun{L:List Th}:∀(es K:Nds)(J:List Int),es.rep L J->K.rep L J->es.names=K.names->es=K
 |.nil,.nil,_,_,_,_=>rfl
 |.nil,.cons x n r,_,_,_,h=>by simp[Nds.names]at h
 |.cons x n r,.nil,_,_,_,h=>by simp[Nds.names]at h
 |.cons x n r,.cons y m s,[],a,_,_=>by rw[Nds.rep]at a;erw[a.elim];all_goals simp
 |.cons x n r,.cons y m s,i::J,a,b,h=>by
  rw[Nds.rep]at a b;obtain⟨⟨k,rfl,M⟩,a2⟩:=a;obtain⟨⟨l,e,N⟩,O⟩:=b;have e:l=k:=by lia
  subst e;rw[Nds.names,Nds.names]at h;injection h with R U
  rw[R,Nd.rep_fun n m l M N,Nds.rep_fun r s J a2 O U]
end
def RepL(L:List Th):List (Str×Int)->List (Str×Nd)->Prop
 |[],[]=>True
 |p::J,q::K=>(p.1=q.1/\∃k:Nat,p.2=k/\q.2.rep L k)/\RepL L J K
 |_,_=>False
variable {L L':List Th}
theorem RepL.of:∀{es:Nds}{ps:List (Str×Int)},ps.map (·.1)=es.names->es.rep L (ps.map (·.2))->RepL L ps es.l
 |.nil,[],_,_=>trivial
 |.nil,_::_,h,_=>by simp[Nds.names]at h
 |.cons x n r,[],h,_=>by simp[Nds.names]at h
 |.cons x n r,p::ps,h,a=>by
  injection h with J K
  exact((J,a.1),RepL.of K a.2)
theorem RepL.to:∀{l:List (Str×Nd)}{ps:List (Str×Int)},RepL L ps l->ps.map (·.1)=(Nds.of l).names/\(Nds.of l).rep L (ps.map (·.2))
 |[],[],_=>(rfl,by trivial)
 |[],_::_,h=>h.elim
 |_::_,[],h=>h.elim
 |q::l,p::ps,h=>by
  obtain⟨J,K⟩:=RepL.to h.2;rw[mk0,mk0,J,h.1.1];exact(rfl,h.1.2,K)
theorem Nds.of_of:∀es:Nds,Nds.of es.l=es
 |.nil=>rfl
 |.cons x n r=>by rw[Nds.l,Nds.of,Nds.of_of r]
def rep_tree{es}{i}:(Nd.tree es).rep L i↔∃ps,L[i]?=some (.tree ps)/\RepL L ps es.l:=by
 constructor
 .rintro ⟨ps,a,b,c⟩;exact(ps,b,RepL.of a c)
 .rintro ⟨ps,b,c⟩
  have:=RepL.to c;rw[Nds.of_of]at this;exact(ps,this.1,b,this.2)
theorem RepL.names:∀{l:List (Str×Nd)}{ps:List (Str×Int)},RepL L ps l->ps.map (·.1)=l.map (·.1)
 |[],[],_=>rfl
 |[],_::_,h=>h.elim
 |_::_,[],h=>h.elim
 |q::l,p::ps,h=>by rw[mk0,mk0,h.1.1,RepL.names h.2]
theorem RepL.ex(e:Ex L L'):∀{l:List (Str×Nd)}{ps:List (Str×Int)},RepL L ps l->RepL L' ps l
 |[],[],_=>trivial
 |[],_::_,h=>h.elim
 |_::_,[],h=>h.elim
 |q::l,p::ps,h=>by
  obtain⟨⟨J,k,K,M⟩,N⟩:=h;exact((J,k,K,Nd.rep_ex e _ _ M),RepL.ex e N)
theorem RepL.snoc{x}{n}{k:Nat}(J:n.rep L k):∀{l:List (Str×Nd)}{ps:List (Str×Int)},RepL L ps l->RepL L (ps++[(x,(k:Int))]) (l++[(x,n)])
 |[],[],_=>((rfl,k,rfl,J),trivial)
 |[],_::_,h=>h.elim
 |_::_,[],h=>h.elim
 |q::l,p::ps,h=>(h.1,RepL.snoc J h.2)
theorem RepL.lt:∀{l:List (Str×Nd)}{ps:List (Str×Int)},RepL L ps l->∀p∈ps,∃n:Nat,p.2=n/\n<L.length
 |[],[],_,_,h=>by cases h
 |[],_::_,h,_,_=>h.elim
 |_::_,[],h,_,_=>h.elim
 |q::l,p::ps,h,z,hz=>by
  rcases mq0 hz with rfl|hz
  .obtain⟨k,a,b⟩:=h.1.2;exact(k,a,Nd.hd b)
  .erw[RepL.lt h.2 z hz]
noncomputable def OR(L:List Th)(d:D):Option Nd->Prop
 |none=>d=.none
 |some n=>∃k:Nat,d=.int k/\n.rep L k
def OR.ex(e:Ex L L'){d:D}:∀{o:Option Nd},OR L d o->OR L' d o
 |none,h=>h
 |some n,⟨k,a,b⟩=>(k,a,Nd.rep_ex e _ _ b)
def OR.ok{d:D}:∀{o:Option Nd},OR L d o->okS 20 d=true/\cA d=false
 |none,h=>by cases h;exact(rfl,rfl)
 |some n,⟨k,a,b⟩=>by subst a;exact(rfl,rfl)
def OR.eq(O:L.Nodup){d d'}:∀{o K:Option Nd},OR L d o->OR L d' K->(d=d'↔o=K)
 |none,none,h,N=>by cases h;cases N;simp
 |none,some n,h,⟨k,a,b⟩=>by cases h;simp_all
 |some n,none,⟨k,a,b⟩,h=>by cases h;subst a;simp
 |some n,some m,⟨k,a,b⟩,⟨l,M,J⟩=>by
  subst a M;constructor
  .intro e
   have e:k=l:=by grind
   subst e;rw[Nd.rep_fun _ _ _ b J]
  .intro e
   injection e with e
   subst e;rw[Nd.rep_inj O _ _ _ b J]
theorem OR.none{d:D}{o:Option Nd}(h:OR L d o):d=.none↔o=none:=by
 cases o with
 |none=>exact(λb=>rfl,λb=>h)
 |some n=>obtain⟨k,a,_⟩:=h;simp_all
def OR.at{d:D}{o:Option Nd}(h:OR L d o):∃J,qP L d J/\kOf J=okd o/\RepL L (byN J) (ol o):=by
 cases o with
 |none=>exact(.none,h,rfl,trivial)
 |some n=>
  obtain⟨k,a,b⟩:=h;cases n with
  |blob t=>exact(some _,(k,a,b),rfl,trivial)
  |tree N=>obtain⟨O,K,M⟩:=rep_tree.mp b;exact(some _,(k,a,K),rfl,M)
theorem RepL.get{x}:∀{l:List (Str×Nd)}{ps:List (Str×Int)},RepL L ps l->OR L ((look (ps.map λp=>((.inr p.1:Sum Int Str),D.int p.2)) (.inr x)).getD .none) (l.lookup x)
 |[],[],_=>rfl
 |[],_::_,h=>h.elim
 |_::_,[],h=>h.elim
 |q::l,p::ps,h=>by
  obtain⟨⟨K,k,M,N⟩,O⟩:=h;rw[lk0,mk0,look]
  by_cases e:p.1=x
  .have J:(x==q.1)=true:=by rw[<-K,e];simp
   rw[if_pos (by rw[e]),J,M];exact(k,rfl,N)
  .have J:(x==q.1)=false:=by rw[<-K];simpa using λz=>e z.symm
   rw[if_neg λz=>e (Sum.inr.inj z),J];erw[RepL.get O]
mutual
noncomputable def Nd.dep:Nat->Nd->Prop
 |_,.blob _=>True
 |0,.tree _=>False
 |k+1,.tree J=>J.names.length<=12/\J.dep k
noncomputable def Nds.dep:Nat->Nds->Prop
 |_,.nil=>True
 |k,.cons _ n r=>n.dep k/\r.dep k
end
theorem Nds.dep_l{k:Nat}:∀{es:Nds},es.dep k↔∀p∈es.l,p.2.dep k
 |.nil=>(λa a h=>(by cases h),λa=>trivial)
 |.cons x n r=>by rw[Nds.dep,Nds.l,Nds.dep_l (es:=r)];simp
mutual
theorem Nd.dep_ok:∀{n:Nd}{k:Nat},n.ok 4 k->n.dep k
 |.blob t,k,_=>by cases k<;>trivial
 |.tree J,0,h=>h.elim
 |.tree J,k+1,h=>by
  rw[Nd.ok]at h;rw[Nd.dep];exact(nt0 h.2.2.1 @2,Nds.dep_ok h.2.2.2)
theorem Nds.dep_ok:∀{es:Nds}{k:Nat},es.ok 4 k->es.dep k
 |.nil,k,_=>trivial
 |.cons x n r,k,h=>by
  rw[Nds.ok]at h;exact(Nd.dep_ok h.1,Nds.dep_ok h.2)
end
mutual
theorem Nd.okS{j:Nat}:∀{n:Nd}{k:Nat},n.dep k->SI.okS (j+(3*k+2)) n.d=true
 |.blob t,k,_=>rfl
 |.tree es,0,h=>h.elim
 |.tree es,k+1,h=>by
  rw[Nd.dep]at h;have:=Nds.okS (j:=j) (es:=es) h.2;show (true&&(es.ds.all (SI.okS (j+(3*k+3)))&&true))=true;rw[this];rfl
theorem Nds.okS{j:Nat}:∀{es:Nds}{k:Nat},es.dep k->es.ds.all (SI.okS (j+(3*k+3)))=true
 |.nil,k,_=>rfl
 |.cons x n r,k,h=>by
  rw[Nds.dep]at h;show ((true&&(SI.okS (j+(3*k+2)) n.d&&true))&&r.ds.all (SI.okS (j+(3*k+3))))=true;rw[Nd.okS h.1,Nds.okS h.2];rfl
end
mutual
theorem Nd.d_inj:∀{a b:Nd},a.d=b.d->a=b
 |.blob t,.blob u,h=>by simp[Nd.d]at h;rw[h]
 |.blob t,.tree J,h=>by simp[Nd.d]at h
 |.tree J,.blob t,h=>by simp[Nd.d]at h
 |.tree J,.tree K,h=>by simp[Nd.d]at h;rw[Nds.ds_inj h]
theorem Nds.ds_inj:∀{a b:Nds},a.ds=b.ds->a=b
 |.nil,.nil,_=>rfl
 |.nil,.cons _ _ _,h=>by simp[Nds.ds]at h
 |.cons _ _ _,.nil,h=>by simp[Nds.ds]at h
 |.cons x n r,.cons y m s,h=>by
  simp[Nds.ds]at h;obtain⟨⟨J,K⟩,M⟩:=h;rw[J,Nd.d_inj K,Nds.ds_inj M]
end
def OkO(k:Nat)(o:Option Nd):Prop:=∀n,o=some n->n.ok 4 k
theorem lookup_mem{x}{n}:∀{l:List (Str×Nd)},l.lookup x=some n->(x,n)∈l
 |[],h=>by cases h
 |p::l,h=>by
  rw[lk0]at h
  by_cases e:x=p.1
  .subst e
   simp at h;subst h;erw[ms0]
  .rw[show (x==p.1)=false by simpa using e]at h
   erw[mc0 _ (lookup_mem h)]
def OkO.at{k:Nat}{l:List (Str×Nd)}(h:∀p∈l,p.2.ok 4 k)(x:Str):OkO k (l.lookup x):=λn e=>h _ (lookup_mem e)
theorem OkO.ol{k:Nat}{b}(h:OkO (k+1) b):∀p∈ol b,p.2.ok 4 k:=by
 rcases b with _|(_|es)
 .erw[nofun]
 .erw[nofun]
 .have:=h _ rfl
  erw[Nds.ok_l.mp this.2.2.2]
theorem OkO.ot{k:Nat}{b}(h:OkO k b):(ot b).length<=1300:=by
 rcases b with _|(t|es)
 .erw[Nat.zero_le _]
 .have:=h _ rfl
  cases k<;>exact this
 .erw[Nat.zero_le _]
structure OkT(k:Nat)(es:Nds):Prop where
 rise:bY (es.l.map (·.1))
 name:∀x∈es.l.map (·.1),aK x=true
 len:(es.l.map (·.1)).length<=4
 ok:∀p∈es.l,p.2.ok 4 k
theorem OkO.tree{k:Nat}{es:Nds}(h:OkO (k+1) (some (.tree es))):OkT k es:=by
 have:=h _ rfl;rw[Nd.ok,Nds.names_l]at this;exact(this.1,this.2.1,this.2.2.1,Nds.ok_l.mp this.2.2.2)
def oK{x}(y z:Str)(h:x.length<=1300):confF (lnF x) (lnF y) (lnF z)<=2621:=by
 unfold confF;refine nt0 List.countP_le_length ?_;unfold M3.partsOf;rw[eM];have:=places_len (lnF x) (lnF y) (lnF z);have:=(fP h).many
 grind
def oM{k:Nat}{o t:Nds}(J:OkT k o)(K:OkT k t):(nm2 o.l t.l).length<=8:=by
 have:=kh (o.l.map (·.1)++t.l.map (·.1));rw[la0]at this;have:=J.len;have:=K.len;unfold nm2
 grind
def qZ{k:Nat}{o t:Nds}(J:OkT k o)(K:OkT k t):∀x∈nm2 o.l t.l,aK x=true:=λx M=>by
 rcases ma0 ((mem_srtS _ x).mp M)with h|h
 .erw[J.name x h]
 .erw[K.name x h]
theorem vk{f:α->List Str}{n}:∀{xs:List α},(∀x∈xs,(f x).length<=n)->(xs.flatMap f).length<=xs.length*n
 |[],_=>Nat.zero_le _
 |x::r,h=>by
  rw[List.flatMap_cons,la0,lc0,Nat.succ_mul];have:=h x ms0;have:=vk λy J=>h y (mc0 _ J)
  grind
noncomputable def cM(k:Nat):Nat:=2621*12 ^ k
def HV(k:Nat):cM (k+1)=12*cM k:=by unfold cM;rw[Nat.pow_succ];grind
def HW(k:Nat):2621<=cM k:=by
 unfold cM
 grind
inductive xy (b o t:Option Nd):Prop
 |same:o=t\/t=b->xy b o t
 |base:¬ (o=t\/t=b)->o=b->xy b o t
 |tree (eo et:Nds):¬ (o=t\/t=b)->¬ o=b->o=some (.tree eo)->t=some (.tree et)->xy b o t
 |blob (x y:Str):¬ (o=t\/t=b)->¬ o=b->o=some (.blob x)->t=some (.blob y)->xy b o t
 |els:¬ (o=t\/t=b)->¬ o=b->¬ (okd o=ao/\okd t=ao)->¬ (okd o=af/\okd t=af)->xy b o t
def kd1:¬ (⟨#[110,111,110,101]⟩:Str)=ao:=by decide
def kd2:¬ (⟨#[110,111,110,101]⟩:Str)=af:=by decide
def kd3:¬ af=ao:=by decide
def kd4:¬ ao=af:=by decide
def DO(b o t:Option Nd):xy b o t:=by
 by_cases J:o=t\/t=b
 .exact .same J
 .by_cases K:o=b
  .exact .base J K
  .rcases o with _|(x|eo)
   .exact .els J K (λz=>kd1 z.1) λz=>kd2 z.1
   .rcases t with _|(y|et)
    .exact .els J K (λz=>kd1 z.2) λz=>kd2 z.2
    .exact .blob x y J K rfl rfl
    .exact .els J K (λz=>kd3 z.1) λz=>kd4 z.2
   .rcases t with _|(y|et)
    .exact .els J K (λz=>kd1 z.2) λz=>kd2 z.2
    .exact .els J K (λz=>kd3 z.2) λz=>kd4 z.1
    .exact .tree eo et J K rfl rfl
theorem oN:∀(k:Nat)(p:Str)(b o t:Option Nd),OkO k b->OkO k o->OkO k t->(mE k p b o t).2.length<=cM k
 |k,p,b,o,t,R,O,U=>by
  cases DO b o t with
  |same J=>rw[dR J];simp
  |base J K=>rw[gY J K];simp
  |blob x y J K M N=>
   subst M N;rw[ju J K,List.length_replicate];erw[nt0 (oK _ _ R.ot) (HW _)]
  |els J K V W=>rw[jw J K V W];erw[nt0 (by decide:1<=2621) (HW _)]
  |tree Y Z J K M N=>
   subst M N;cases k with
   |zero=>exact (O _ rfl).elim
   |succ k=>
    rw[jr J K,HV];erw[nt0 (vk λx a=>oN k _ _ _ _ (OkO.at R.ol x) (OkO.at O.tree.ok x) (OkO.at U.tree.ok x)) (Nat.mul_le_mul_right _ (nt0 (oM O.tree U.tree) @2))]
def AY(f:MF)(p:Str)(b)(o t:Nds):(mT f p b o t).1.map (·.1)=(nm2 o.l t.l).filter λx=>(f (jn p x) ((ol b).lookup x) (o.l.lookup x) (t.l.lookup x)).1.isSome:=by
 show (List.filterMap _ _).map _=_;generalize nm2 _ _=J
 induction J with
 |nil=>rfl
 |cons x r ih=>
  cases e:(f (jn p x) ((ol b).lookup x) (o.l.lookup x) (t.l.lookup x)).1<;>simp_all
def oO{k:Nat}(f:MF)(p:Str)(b){o t:Nds}(J:OkT k o)(K:OkT k t):Good ((mT f p b o t).1.map (·.1)):=by
 rw[AY];have s:((nm2 o.l t.l).filter λx=>(f (jn p x) ((ol b).lookup x) (o.l.lookup x) (t.l.lookup x)).1.isSome).Sublist _:=List.filter_sublist;exact((bj _).sublist s,λx M=>qZ J K x (s.subset M),nt0 s.length_le (nt0 (oM J K) @2))
theorem AZ:∀(k:Nat)(p:Str)(b o t:Option Nd),OkO k o->OkO k t->∀n,(mE k p b o t).1=some n->n.dep k
 |k,p,b,o,t,O,R,n,e=>by
  cases DO b o t with
  |same J=>rw[dR J]at e;erw[Nd.dep_ok (O n e)]
  |base J K=>rw[gY J K]at e;erw[Nd.dep_ok (R n e)]
  |blob x y J K M N=>
   subst M N;rw[ju J K]at e;injection e with e
   subst e;cases k<;>trivial
  |els J K U V=>
   rw[jw J K U V]at e;simp only at e;split at e
   .erw[Nd.dep_ok (R n e)]
   .erw[Nd.dep_ok (O n e)]
  |tree Y Z J K M N=>
   subst M N;cases k with
   |zero=>exact (O _ rfl).elim
   |succ k=>
    rw[jr J K]at e;simp only at e;split at e
    .cases e
    .injection e with e
     subst e;rw[Nd.dep,Nds.names_l,Nds.dep_l,Nds.of_l];refine((oO (mE k) p b O.tree R.tree).2.2,λq W=>?_);obtain⟨x,_,e⟩:=List.mem_filterMap.mp W;obtain⟨n,M,N⟩:=mx0 e;subst N;erw[AZ k _ _ _ _ (OkO.at O.tree.ok x) (OkO.at R.tree.ok x) n M]
def Ba(k:Nat)(p:Str)(b){o t:Nds}(J:OkT k o)(K:OkT k t):(Nd.tree (Nds.of (mT (mE k) p b o t).1)).dep (k+1):=by
 rw[Nd.dep,Nds.names_l,Nds.dep_l,Nds.of_l];refine((oO _ p b J K).2.2,λq O=>?_);obtain⟨x,_,e⟩:=List.mem_filterMap.mp O;obtain⟨n,M,N⟩:=mx0 e;subst N;erw[AZ k _ _ _ _ (OkO.at J.ok x) (OkO.at K.ok x) n M]
abbrev oP(Φ:Fs):Prop:=Has Φ "joined" [true,true] λJ=>∀p x:Str,p.length<=100->x.length<=100->J [.str p,.str x]=some (.str (jn p x))
def tN(p x:Str)(N:p.length<=100)(O:x.length<=100):ans Φ Γ gu [.str p,.str x]=some (.str (jn p x)):=by
 have J:(⟨#[]⟩:Str)=Str.empty:=rfl;have M:(⟨#[47]⟩:Str).length=1:=rfl;have K:p.length+1<=big:=aP @4;have a2:p.length+1+x.length<=big:=aP @4;simp only[ans_e,gu]
 by_cases h:p=Str.empty
 .simp[h,J,jn]
 .simp[h,J,jn,K,a2,M,oA]
def Bb{p x}:(jn p x).length<=p.length+1+x.length:=by
 unfold jn;split
 .simp_all
 .rw[Str.length_append,Str.length_append];erw[nr0 _]
abbrev vm(Φ:Fs)(c:Nat):Prop:=Has Φ "refuse_what_is_no_tree" [true,true] λJ=>∀(L:List Th)(n:Nat) es,L[n]?=some (.tree es)->J [vt c L,.int n]=some .none
def tP(hc:gJ Φ c)(L:List Th)(n:Nat)(es)(h:L[n]?=some (.tree es)):ans Φ Γ (aB c) [vt c L,.int n]=some .none:=by
 obtain⟨M,J,K⟩:=hc;simp only[ans_e,aB];simp[J,(K 0 _ n _ _ (eJ h))]
def EX{n}{d}(h:n<=9000):mulO (some (.list [d])) (some (.int ((n:Nat):Int)))=some (.list (List.replicate n d)):=by
 rw[mulO,bs0,bs0,nJ,if_pos (pH @1 @1 (by simp;erw[aP h]))];simp
def KB{Y Y1}{m}{e}{a b}(K:evM Φ Γ Y m=some (a,Y1))(J:ev Φ Γ .val Y1 e=some b):evM Φ Γ Y (.tup [.x m,.x (.p e)])=some (.tuple [a,b],Y1):=by rw[ev_e]at J;simp[K,J]
noncomputable def DP:E:=.op .mul (.lst (.cons (.v 4) .nil)) (.idx (.v 6) ↑1)
abbrev EY:E:=.ite (.cmp .eq (.call "kind_of" (.cons (.v 0) (.cons (.v 1) .nil))) (.k (.str af))) (.call "text_of" (.cons (.v 0) (.cons (.v 1) .nil))) @9
def HX(V:jo Φ c)(W:uX Φ c){L}{db}{b}{Y}(N:OR L db b):ev Φ Γ .val (.io (vt c L)::.lent db::Y) EY=some (.str (ot b)):=by
 obtain⟨D,K,R⟩:=V;obtain⟨B,O,U⟩:=W;obtain⟨F,Z,T,_⟩:=N.at;have J:=R L db F Z;rw[T]at J;rcases b with _|(t|es)
 .simp[K,J,okd,kd2,ot,Str.empty]
 .obtain⟨k,rfl,M⟩:=N
  rw[Nd.rep]at M;simp[K,J,okd,O,U L k t M,ot]
 .simp[K,J,okd,kd4,ot,Str.empty]
abbrev vo(Φ:Fs)(c:Nat):Prop:=Has Φ "merged_blobs" [true,true,true,true,true] λK=>∀(L:List Th)(M:D)(b:Option Nd)(x y:Str)(i j:Nat)(p:Str),OR L M b->(ot b).length<=1300->x.length<=1300->y.length<=1300->L[i]?=some (.blob x)->L[j]?=some (.blob y)->L.length<1000->
 ∃n:Nat,(putL L (.blob (J (mergedF (lnF (ot b)) (lnF x) (lnF y)))))[n]?=some (.blob (J (mergedF (lnF (ot b)) (lnF x) (lnF y))))/\K [vt c L,M,.int i,.int j,.str p]=some (.tuple [.tuple [.int n,.list ((List.replicate (confF (lnF (ot b)) (lnF x) (lnF y)) p).map .str)],vt c (putL L (.blob (J (mergedF (lnF (ot b)) (lnF x) (lnF y)))))])
def tQ(H:jo Φ c)(z:uX Φ c)(A:vh Φ)(I:As Φ c)(L:List Th)(K:D)(b)(x y:Str)(i j:Nat)(p:Str)(U:OR L K b)(Z:(ot b).length<=1300)(q:x.length<=1300)(u:y.length<=1300)(E:L[i]?=some (.blob x))(X:L[j]?=some (.blob y))(hz:L.length<1000):
  ∃n:Nat,(putL L (.blob (J (mergedF (lnF (ot b)) (lnF x) (lnF y)))))[n]?=some (.blob (J (mergedF (lnF (ot b)) (lnF x) (lnF y))))/\ans Φ Γ bI [vt c L,K,.int i,.int j,.str p]=some (.tuple [.tuple [.int n,.list ((List.replicate (confF (lnF (ot b)) (lnF x) (lnF y)) p).map .str)],vt c (putL L (.blob (J (mergedF (lnF (ot b)) (lnF x) (lnF y)))))]):=by
 obtain⟨e,F,W⟩:=H;obtain⟨a,V,R⟩:=z;obtain⟨r3,B,P⟩:=A;obtain⟨r4,Q,G⟩:=I;obtain⟨th,l,t,_⟩:=U.at;have o:=W L K th l;rw[t]at o;have s:=P (ot b) x y Z q u;have g:=EX (d:=.str p) (nt0 (oK (x:=ot b) x y Z) @2);obtain⟨n,f,m⟩:=G L (J (mergedF (lnF (ot b)) (lnF x) (lnF y))) hz;refine(n,f,?_);have r:=U.ok.2;generalize J (mergedF (lnF (ot b)) (lnF x) (lnF y))=M at *;generalize confF (lnF (ot b)) (lnF x) (lnF y)=C at *;simp only[ans_e,bI];have O:=HX (Γ:=Γ) (Y:=[.lent (.int i),.lent (.int j),.lent (.str p),.no,.no]) (e,F,W) (a,V,R) U
 have h:ex Φ Γ [.io (vt c L),.lent K,.lent (.int i),.lent (.int j),.lent (.str p),.no,.no] (.set 5 EY)=some (.nx [.io (vt c L),.lent K,.lent (.int i),.lent (.int j),.lent (.str p),.dat (.str (ot b)),.no]):=by
  rw[ex_s,S.set,O];rfl
 rw[show br ([true,true,true,true,true],7,_,.io 0) [vt c L,K,.int i,.int j,.str p]=[.io (vt c L),.lent K,.lent (.int i),.lent (.int j),.lent (.str p),.no,.no] from rfl,exs_c,h,cp];have s2:ex Φ Γ [.io (vt c L),.lent K,.lent (.int i),.lent (.int j),.lent (.str p),.dat (.str (ot b)),.no] (.set 6 (.call "merged_text" (.cons (.v 5) (.cons (.call "text_of" (.cons (.v 0) (.cons (.v 2) .nil))) (.cons (.call "text_of" (.cons (.v 0) (.cons (.v 3) .nil))) .nil)))))=some (.nx [.io (vt c L),.lent K,.lent (.int i),.lent (.int j),.lent (.str p),.dat (.str (ot b)),.dat (.tuple [.str M,.int (C:Nat)])]):=by
  simp[V,R L i x E,R L j y X,B,s]
 rw[exs_c,s2,cp];have s3:∀N:Sl,ev Φ Γ .val (N::fzM [.lent K,.lent (.int i),.lent (.int j),.lent (.str p),.dat (.str (ot b)),.dat (.tuple [.str M,.int (C:Nat)])]) DP=some (.list (List.replicate C (.str p))):=λN=>by
  show ev Φ Γ .val [N,.lent K,.lent (.int i),.lent (.int j),.lent (.str p),.dat (.str (ot b)),.dat (.tuple [.str M,.int (C:Nat)])] DP=_;rw[DP,ev_m,show ev Φ Γ .read [N,.lent K,.lent (.int i),.lent (.int j),.lent (.str p),.dat (.str (ot b)),.dat (.tuple [.str M,.int (C:Nat)])] (.lst (.cons (.v 4) .nil))=some (.list [.str p]) by simp,show ev Φ Γ .read [N,.lent K,.lent (.int i),.lent (.int j),.lent (.str p),.dat (.str (ot b)),.dat (.tuple [.str M,.int (C:Nat)])] (.idx (.v 6) ↑1)=some (.int (C:Nat)) by simp,g];rfl
 have s4:evM Φ Γ (fzM [.io (vt c L),.lent K,.lent (.int i),.lent (.int j),.lent (.str p),.dat (.str (ot b)),.dat (.tuple [.str M,.int (C:Nat)])]) (.call "blob" 0 0 [.v 0,.x (.p (.idx (.v 6) ↑0))])=some (.int n,.io (vt c (putL L (.blob M)))::fzM [.lent K,.lent (.int i),.lent (.int j),.lent (.str p),.dat (.str (ot b)),.dat (.tuple [.str M,.int (C:Nat)])]):=by
  simp[Q,m]
 have T:=KB s4 (s3 _);unfold DP at T;rw[exs_c,ex_retm,T,List.map_replicate];rfl
noncomputable def kM:Nat->Nat
 |0=>1
 |k+1=>8*kM k+1
abbrev EZ(c k:Nat)(J:List D->Option D):Prop:=∀(L:List Th)(K dO N:D)(b o t:Option Nd)(p:Str),L.Nodup->OR L K b->OR L dO o->OR L N t->OkO k b->OkO k o->OkO k t->p.length+13*k<=80->L.length+kM k<1000->
 ∃M L',J [vt c L,K,dO,N,.str p]=some (.tuple [.tuple [M,.list ((mE k p b o t).2.map .str)],vt c L'])/\OR L' M (mE k p b o t).1/\Ex L L'/\L'.length<=L.length+kM k
abbrev vq(Φ:Fs)(c k:Nat):Prop:=Has Φ "merged_entry" [true,true,true,true,true] (EZ c k)
abbrev Fb(c k:Nat)(J:List D->Option D):Prop:=∀(L:List Th)(K:D)(b:Option Nd)(i j:Nat)(o t:Nds)(p:Str),L.Nodup->OR L K b->(Nd.tree o).rep L i->(Nd.tree t).rep L j->OkO (k+1) b->OkT k o->OkT k t->p.length+13*(k+1)<=80->L.length+(8*kM k+1)<1000->
 ∃(n:Nat)(L':List Th),J [vt c L,K,.int i,.int j,.str p]=some (.tuple [.tuple [.int n,.list ((mT (mE k) p b o t).2.map .str)],vt c L'])/\(Nd.tree (Nds.of (mT (mE k) p b o t).1)).rep L' n/\Ex L L'/\L'.length<=L.length+(8*kM k+1)
abbrev vx(Φ:Fs)(c k:Nat):Prop:=Has Φ "merged_by_names" [true,true,true,true,true] (Fb c k)
def oQ{ps}{x}:getD (fdE ps) (.str x)=some ((look (ps.map λp=>((.inr p.1:Sum Int Str),D.int p.2)) (.inr x)).getD .none):=rfl
def oU{x}(h:aK x=true):jD x=true:=by
 unfold aK at h;simp only[be0]at h;refine List.all_eq_true.mpr λc J=>dt0 ?_
 have:=od0 (List.all_eq_true.mp h.2 c J);have q:∀c∈signs65,c<0x110000:=by decide
 erw[q c this]
theorem gZ:∀{l:List (Sum Int Str×D)}{J:A1},l.map (·.1)=J.map .inr->(∀x∈J,jD x=true)->cz l=some J
 |[],[],_,_=>rfl
 |[],_::_,h,_=>by cases h
 |_::_,[],h,_=>by cases h
 |(j,d)::r,x::J,h,o=>by
  injection h with K M
  subst K;show (if jD x then (cz r).map _ else none)=_;rw[if_pos (o x ms0),gZ M λy N=>o y (mc0 _ N)];rfl
abbrev DQ:Ss:=(.cons (.set 11 (.lst (.cons (.get (.v 5) (.v 10)) (.cons (.get (.v 6) (.v 10)) (.cons (.get (.v 7) (.v 10)) .nil))))) (.cons (.setm 12 (.call "merged_entry" 0 0 [.v 0,.x (.p (.idx (.v 11) ↑0)),.x (.p (.idx (.v 11) ↑1)),.x (.p (.idx (.v 11) ↑2)),.x (.p (.call "joined" (.cons (.v 4) (.cons (.v 10) .nil))))])) (.cons (.ifs (.cmp .notN (.idx (.v 12) ↑0) (.k .none)) (.cons (.app 8 (.tup (.cons (.v 10) (.cons (.idx (.v 12) ↑0) .nil)))) .nil) .nil) (.cons (.ext 9 (.idx (.v 12) ↑1)) .nil))))
def Bc{k}(t:vq Φ c k)(l:oP Φ){L}{pb po pt}{B O T}{p x}{s1 s2 s3 s11 s12}{ps}{cs}(b:L.Nodup)(s:RepL L pb B)(G:RepL L po O)(rt:RepL L pt T)(u:∀q∈B,q.2.ok 4 k)(g:∀q∈O,q.2.ok 4 k)(y:∀q∈T,q.2.ok 4 k)(r:aK x=true)(hp:p.length+13*(k+1)<=80)(hz:L.length+kM k<1000)(d:ps.length<100)(lc:cs.length+cM k<=big):
  ∃(L':List Th)(K M:Sl)(J:List (Str×Int)),Ex L L'/\L'.length<=L.length+kM k/\(∀es,RepL L ps es->RepL L' J (es++((mE k (jn p x) (B.lookup x) (O.lookup x) (T.lookup x)).1.map λn=>(x,n)).toList))/\J.length<=ps.length+1/\
   exs Φ Γ [.io (vt c L),s1,s2,s3,.lent (.str p),.dat (fdE pb),.dat (fdE po),.dat (fdE pt),.own (.list (ps.map bZ)),.own (.list (cs.map .str)),.dat (.str x),s11,s12] DQ=some (.nx [.io (vt c L'),s1,s2,s3,.lent (.str p),.dat (fdE pb),.dat (fdE po),.dat (fdE pt),.own (.list (J.map bZ)),.own (.list ((cs++(mE k (jn p x) (B.lookup x) (O.lookup x) (T.lookup x)).2).map .str)),.dat (.str x),K,M]):=by
 obtain⟨r1,E,v⟩:=t;obtain⟨r2,X,m⟩:=l;have xl:=(iK r).2;have H:=s.get (x:=x);have A:=G.get (x:=x);have j:=rt.get (x:=x);have U:=oQ (ps:=pb) (x:=x);have V:=oQ (ps:=po) (x:=x);have W:=oQ (ps:=pt) (x:=x);generalize (look (pb.map λp=>((.inr p.1:Sum Int Str),D.int p.2)) (.inr x)).getD .none=F at H U;generalize (look (po.map λp=>((.inr p.1:Sum Int Str),D.int p.2)) (.inr x)).getD .none=C at A V;generalize (look (pt.map λp=>((.inr p.1:Sum Int Str),D.int p.2)) (.inr x)).getD .none=Q at j W;have jl:=Bb (p:=p) (x:=x);have f:=m p x @4 @4
 have Z:=oN k (jn p x) _ _ _ (OkO.at u x) (OkO.at g x) (OkO.at y x);obtain⟨dr,L',Y,a2,N,I⟩:=v L F C Q _ _ _ (jn p x) b H A j (OkO.at u x) (OkO.at g x) (OkO.at y x) @1 hz;generalize mE k (jn p x) (B.lookup x) (O.lookup x) (T.lookup x)=R at *;obtain⟨G,P⟩:=R;simp only[]at Y a2 Z;have z:cs.length+P.length<=big:=by lia
 have o:ps.length<big:=Nat.lt_trans d @2;generalize fdE pb=e at U;generalize fdE po=a at V;generalize fdE pt=h at W;cases G with
 |none=>
  cases a2;refine(L',.dat (.list [F,C,Q]),.dat (.tuple [.none,.list (P.map .str)]),ps,N,I,λes S=>?_,Nat.le_succ _,?_)
  .rw[show (Option.map (λn=>(x,n)) none:Option (Str×Nd)).toList=[] from rfl,List.append_nil];erw[S.ex N]
  .simp[-SI.getD,U,V,W,X,f,E,Y,z]
 |some n=>
  obtain⟨i,rfl,a2⟩:=a2;refine(L',.dat (.list [F,C,Q]),.dat (.tuple [.int i,.list (P.map .str)]),ps++[(x,(i:Int))],N,I,λes S=>(S.ex N).snoc a2,by simp,?_);simp[-SI.getD,U,V,W,X,f,E,Y,z,o,bZ]
def rf{k}{b}(h:OkO (k+1) b):((ol b).map (·.1)).Nodup:=by
 rcases b with _|(_|es)
 .exact .nil
 .exact .nil
 .erw[bO h.tree.rise]
def vy(f:MF)(x:Str)(q)(p:Str)(b o t):(mS f (x::q) p b o t).1=((f (jn p x) (b.lookup x) (o.lookup x) (t.lookup x)).1.map λn=>(x,n)).toList++(mS f q p b o t).1/\(mS f (x::q) p b o t).2=(f (jn p x) (b.lookup x) (o.lookup x) (t.lookup x)).2++(mS f q p b o t).2:=by
 refine(?_,rfl);unfold mS;simp only[List.filterMap_cons];cases (f _ _ _ _).1<;>rfl
structure MY(L0:List Th)(k:Nat)(p:Str)(B O T:List (Str×Nd))(R:List (Str×Nd)×List Str)(q:A1)(L:List Th)(ps:List (Str×Int))(es:List (Str×Nd))(cs:A1):Prop where
 nd:L.Nodup
 ex:Ex L0 L
 nam:∀x∈q,aK x=true
 rep:RepL L ps es
 e1:es++(mS (mE k) q p B O T).1=R.1
 e2:cs++(mS (mE k) q p B O T).2=R.2
 lL:L.length+q.length*kM k<=L0.length+8*kM k
 lp:ps.length+q.length<=8
 lc:cs.length+q.length*cM k<=8*cM k
abbrev HY:Ss:=(.cons (.retm (.tup [.x (.call "tree" 0 0 [.v 0,.v 8]),.x (.p (.v 9))])) .nil)
def mU(k:Nat)(hk:cM k<=200000)(hm:vq Φ c k)(hb:uY Φ c)(hj:oP Φ)(ht:Ap Φ c):Fb c k (ans Φ Γ aJ):=by
 intro L C b i j o t p nd ob ri rj V K M hp hz;have step:=λ{L pb po pt p x s1 s2 s3 s11 s12 ps cs}=>Bc (Φ:=Φ) (Γ:=Γ) (c:=c) hm hj (L:=L) (pb:=pb) (po:=po) (pt:=pt) (B:=ol b) (O:=o.l) (T:=t.l) (p:=p) (x:=x) (s1:=s1) (s2:=s2) (s3:=s3) (s11:=s11) (s12:=s12) (ps:=ps) (cs:=cs)
 obtain⟨r1,X,A⟩:=hb;obtain⟨r2,H,h2⟩:=ht;obtain⟨tb,b1,b2,a⟩:=ob.at;obtain⟨po,o1,m⟩:=rep_tree.mp ri;obtain⟨pt,t1,d⟩:=rep_tree.mp rj;have q1:=A L C tb b1 (by rw[a.names];erw[rf V]);have q2:=A L (.int i) (some (.tree po)) (i,rfl,o1) (by show (po.map (·.1)).Nodup;rw[m.names];erw[bO K.rise]);have q3:=A L (.int j) (some (.tree pt)) (j,rfl,t1) (by show (pt.map (·.1)).Nodup;rw[d.names];erw[bO M.rise]);have q4:=(show BZ (fdE po) (fdE pt)=some (.list ((nm2 o.l t.l).map .str)) by
   have X:cz (po.map λp=>(.inr p.1,D.int p.2))=some _:=gZ (by rw[<-m.names];simp) λx g=>oU (K.name x g)
   have H:cz (pt.map λp=>(.inr p.1,D.int p.2))=some _:=gZ (by rw[<-d.names];simp) λx g=>oU (M.name x g)
   have l1:=K.len;have l2:=M.len;show (cz _).bind _=_;rw[X,bs0,H,bs0,if_pos @1];rfl)
 have nl:=oM K M;have nn:=qZ K M;have good:=oO (mE k) p b K M;have z:mT (mE k) p b o t=mS (mE k) (nm2 o.l t.l) p (ol b) o.l t.l:=rfl;generalize mT (mE k) p b o t=R at z good;generalize nm2 o.l t.l=ns at *;generalize byN tb=pb at *;simp only[byN]at q2 q3;have lk:ns.length*kM k<=8*kM k:=Nat.mul_le_mul_right _ nl;have f:ns.length*cM k<=8*cM k:=Nat.mul_le_mul_right _ nl;simp only[ans_e,aJ];have f0:fdE pb≠.none:=nofun;simp[-BZ,X,q1,q2,q3,q4];refine gP (inj:=D.str) (F:=λs:List Th×List (Str×Int)×List (Str×Nd)×List Str×Sl×Sl×Sl=>[.io (vt c s.1),.lent C,.lent (.int i),.lent (.int j),.lent (.str p),.dat (fdE pb),.dat (fdE po),.dat (fdE pt),.own (.list (s.2.1.map bZ)),.own (.list (s.2.2.2.1.map .str)),s.2.2.2.2.1,s.2.2.2.2.2.1,s.2.2.2.2.2.2]) (s:=(L,[],[],[],.no,.no,.no)) (J:=λq s=>MY L k p (ol b) o.l t.l R q s.1 s.2.1 s.2.2.1 s.2.2.2.1) (P:=λo'=>∃(n:Nat)(L':List Th),cJ (.io 0) (nxS Φ Γ o' HY)=some (.tuple [.tuple [.int n,.list (R.2.map .str)],vt c L'])/\(Nd.tree (Nds.of R.1)).rep L' n/\Ex L L'/\L'.length<=L.length+(8*kM k+1)) (λs u=>?_) (λx q s u=>?_) (nd,.refl _,nn,trivial,by rw[z];rfl,by rw[z];rfl,Nat.add_le_add_left lk _,by simpa using nl,by simpa using f)
 .obtain⟨Y,ps,I,cs,W,s11,s12⟩:=s
  obtain⟨U,N,_,rep1,Z,a2,E,lp,_⟩:=u;simp only[]at *;have Z:I=R.1:=by rw[<-Z];exact (List.append_nil I).symm
  have a2:cs=R.2:=by rw[<-a2];exact (List.append_nil cs).symm
  subst Z a2;have nm:=rep1.names;obtain⟨n,n1,n2⟩:=h2 Y ps (by rw[nm];erw[good]) rep1.lt (by simp at E;grind);obtain⟨p1,p2⟩:=oB Y (.tree ps);refine(n,putL Y (.tree ps),?_,rep_tree.mpr (ps,n1,by rw[Nds.of_l];erw[rep1.ex p1]),N.trans p1,by simp at E;grind);have s4:evM Φ Γ (fzM [.io (vt c Y),.lent C,.lent (.int i),.lent (.int j),.lent (.str p),.dat (fdE pb),.dat (fdE po),.dat (fdE pt),.own (.list (ps.map bZ)),.own (.list (R.2.map .str)),W,s11,s12]) (.call "tree" 0 0 [.v 0,.v 8])=some (.int n,.io (vt c (putL Y (.tree ps)))::fzM [.lent C,.lent (.int i),.lent (.int j),.lent (.str p),.dat (fdE pb),.dat (fdE po),.dat (fdE pt),.own (.list (ps.map bZ)),.own (.list (R.2.map .str)),W,s11,s12]):=by
   simp[H,n2]
  have s5:=KB (e:=.v 9) (b:=.list (R.2.map .str)) s4 @0;rw[cp,exs_c,ex_retm,s5];rfl
 .obtain⟨Y,ps,I,cs,W,s11,s12⟩:=s
  obtain⟨U,N,Q,rep1,Z,a2,E,lp,lc⟩:=u;simp only[lc0]at *;rw[Nat.succ_mul]at E lc;obtain⟨L',S,G,r,h,c2,c3,c4,c5⟩:=step (s1:=.lent C) (s2:=.lent (.int i)) (s3:=.lent (.int j)) (s11:=s11) (s12:=s12) (ps:=ps) (cs:=cs) U (a.ex N) (m.ex N) (d.ex N) V.ol K.ok M.ok (Q x ms0) hp @1 @1 (by unfold big;lia);obtain⟨m1,m2⟩:=vy (mE k) x q p (ol b) o.l t.l;have j0:=oN k (jn p x) _ _ _ (OkO.at V.ol x) (OkO.at K.ok x) (OkO.at M.ok x);refine((L',r,_,_,.dat (.str x),S,G),(h.2 U,N.trans h,λy hy=>Q y (mc0 _ hy),c3 I rep1,by rw[<-Z,m1,List.append_assoc],by rw[<-a2,m2,List.append_assoc],by dsimp only;lia,by dsimp only;lia,by dsimp only;rw[la0];lia),?_)
  erw[c5]
abbrev Fc(Φ:Fs)(c:Nat):Prop:=Has Φ "none_if_empty" [true,true] λJ=>∀(L:List Th)(n:Nat)(M:List (Str×Int))(K:D),L[n]?=some (.tree M)->J [vt c L,.tuple [.int n,K]]=some (.tuple [.tuple [if M=[] then .none else .int n,K],vt c L])
def Bd(K:gK Φ c)(L)(n:Nat)(ps)(cs:D)(h:L[n]?=some (.tree ps)):ans Φ Γ bg [vt c L,.tuple [.int n,cs]]=some (.tuple [.tuple [if ps=[] then .none else .int n,cs],vt c L]):=by
 obtain⟨N,M,J⟩:=K;have q:=J 0 _ n _ (eJ h);simp only[ans_e,bg]
 by_cases z:ps=[]<;>simp_all
def eq2(a b x y:Str):eqD (.list [.str a,.str b]) (.list [.str x,.str y])=some (decide (a=x/\b=y)):=by
 rw[da rfl rfl];simp
def HZ{L}(J:L.Nodup){db dO dt}{b o t}(K:OR L db b)(M:OR L dO o)(N:OR L dt t):gT db dO dt=!decide ((o=t\/t=b)\/o=b):=by
 have O:=M.eq J K;have R:=N.eq J K;have U:=N.eq J M;unfold gT
 grind
set_option tactic.hygienic true in
def rg(k:Nat)(hk:cM k<=200000)(hB:vd Φ)(hS:AN Φ)(hK:jo Φ c)(hN:Fc Φ c)(hM:vo Φ c)(hR:∀d,k=d+1->vx Φ c d):EZ c k (ans Φ Γ aS):=by
 intro L C dO D b o t p u Y K N G T I hp hz;obtain⟨r1,Z,h1⟩:=hB;obtain⟨r2,l,h2⟩:=hS;obtain⟨r3,Q,r⟩:=hK;obtain⟨r4,a,h4⟩:=hN;obtain⟨r5,e5,h5⟩:=hM;have M:=h1 C dO D Y.ok.1 K.ok.1 N.ok.1;rw[HZ u Y K N]at M;have m:=h2 C dO D Y.ok.1 K.ok.1;obtain⟨to,o1,o2,_⟩:=K.at;obtain⟨tt,t1,t2,_⟩:=N.at;have F:=r L dO to o1;have B:=r L D tt t1;rw[o2]at F;rw[t2]at B;have f:=Y.ok.2;have E:=K.ok.2;have X:=N.ok.2;simp only[ans_e,aS];have k1:1<=kM k:=by cases k<;>simp[kM]
 cases DO b o t with
 |same h=>
  rw[dR h];refine(if dO=C then D else dO,L,?_,?_,.refl _,by lia)
  .simp[Z,M,h,l,f,E,X,m]
  .simp only
   split
   .rename_i z
    have z:=(K.eq u Y).mp z;rcases h with h|h
    .rw[h];erw[N]
    .rw[z,<-h];erw[N]
   .erw[K]
 |base h v=>
  rw[gY h v];refine(D,L,?_,N,.refl _,by lia);rw[if_pos ((K.eq u Y).mpr v)]at m;simp[Z,M,v,l,f,E,X,m]
 |els R U V W=>
  rw[jw R U V W];have e:=K.none;have O:¬ ((o=t\/t=b)\/o=b):=λz=>z.elim R U
  rw[df0 O]at M;refine(if dO=.none then D else dO,L,?_,?_,.refl _,by lia)
  .by_cases z:dO=.none
   .simp[Z,M,Q,F,B,eq2,V,W,z,E,X]
    simp[z]at F M;simp[Z,M,Q,F,B,eq2,V,W,z,E,X]
   .simp[Z,M,Q,F,B,eq2,V,W,z,E,X]
  .by_cases z:o=none
   .rw[if_pos (e.mpr z),if_pos z];erw[N]
   .rw[if_neg (λy=>z (e.mp y)),if_neg z];erw[K]
 |blob x y R U V W=>
  subst V W;rw[ju R U];have O:¬ ((some (Nd.blob x)=some (Nd.blob y)\/some (Nd.blob y)=b)\/some (Nd.blob x)=b):=λz=>z.elim R U
  rw[df0 O]at M;obtain⟨i,rfl,H⟩:=K;obtain⟨j,rfl,A⟩:=N;rw[Nd.rep]at H;rw[Nd.rep]at A;obtain⟨n,O,q⟩:=h5 L C b x y i j p Y G.ot (OkO.ot T) (OkO.ot I) H A @1;obtain⟨p1,p2⟩:=oB L (.blob (J (mergedF (lnF (ot b)) (lnF x) (lnF y))));refine(.int n,_,?_,(n,rfl,by rw[Nd.rep];erw[O]),p1,by lia);simp[Z,M,Q,F,B,eq2,okd,kd3,e5,q,f]
 |tree S P R U V W=>
  subst V W;have O:¬ ((some (Nd.tree S)=some (Nd.tree P)\/some (Nd.tree P)=b)\/some (Nd.tree S)=b):=λz=>z.elim R U
  rw[df0 O]at M;obtain⟨i,rfl,H⟩:=K;obtain⟨j,rfl,A⟩:=N;cases k with
  |zero=>exact (T _ rfl).elim
  |succ k=>
   rw[jr R U];obtain⟨r6,e6,h6⟩:=hR k rfl;obtain⟨n,L',O,q,n3,n4⟩:=h6 L C b i j S P p u Y H A G T.tree I.tree hp hz;obtain⟨g,m1,m2⟩:=rep_tree.mp q;rw[Nds.of_l]at m2;have q6:=h4 L' n g (.list ((mT (mE k) p b S P).2.map .str)) m1;have s:g=[]↔(mT (mE k) p b S P).1=[]:=by
    have:=m2.names;constructor
    .intro z;rw[z]at this;erw[List.map_eq_nil_iff.mp this.symm]
    .intro z;rw[z]at this;erw[List.map_eq_nil_iff.mp this]
   refine(if g=[] then .none else .int n,L',?_,?_,n3,n4)
   .simp[Z,M,Q,F,B,eq2,okd,e6,O,a,q6,f]
   .simp only
    by_cases z:g=[]
    .rw[if_pos z,if_pos (s.mp z)];rfl
    .rw[if_neg z,if_neg λy=>z (s.mpr y)];exact(n,rfl,q)
abbrev Fd(c:Nat)(J:List D->Option D):Prop:=∀(L:List Th)(K:D)(b:Option Nds)(i j:Nat)(o t:Nds),L.Nodup->OR L K (b.map .tree)->(Nd.tree o).rep L i->(Nd.tree t).rep L j->OkO 2 (b.map .tree)->OkT 1 o->OkT 1 t->L.length<=800->
 ∃(n:Nat)(L':List Th),J [vt c L,K,.int i,.int j]=some (.tuple [.tuple [.int n,.list ((mT (mE 1) Str.empty (b.map .tree) o t).2.map .str)],vt c L'])/\(Nd.tree (Nds.of (mT (mE 1) Str.empty (b.map .tree) o t).1)).rep L' n/\Ex L L'
abbrev Be(Φ:Fs)(c:Nat):Prop:=Has Φ "merged_trees" [true,true,true,true] (Fd c)
def tS(G:vm Φ c)(P:vx Φ c 1):Fd c (ans Φ Γ bH):=by
 intro L Q b i j o t X K F D M N O z;obtain⟨q,R,J⟩:=G;obtain⟨u,U,S⟩:=P;obtain⟨Z,Y,_⟩:=rep_tree.mp F;obtain⟨T,B,_⟩:=rep_tree.mp D;obtain⟨n,L',W,I,E,y⟩:=S L Q (b.map .tree) i j o t Str.empty X K F D M N O @2 (by simp[kM];lia);refine(n,L',?_,I,E);have V:(⟨#[]⟩:Str)=Str.empty:=rfl;simp only[ans_e,bH];cases b with
 |none=>
  cases K;simp[R,J L i Z Y,J L j T B,U,V,W]
 |some b=>
  obtain⟨k,rfl,A⟩:=K;obtain⟨H,C,_⟩:=rep_tree.mp A;simp[R,J L k H C,J L i Z Y,J L j T B,U,V,W]
noncomputable def oD:Option Nd->D
 |none=>.none
 |some n=>n.d
def Nd.d_ne(n:Nd):n.d≠.none:=by cases n<;>simp[Nd.d]
def oD_none{o}:oD o=.none↔o=none:=by
 cases o with
 |none=>exact(λa=>rfl,λa=>rfl)
 |some n=>exact(λh=>absurd h n.d_ne,λh=>by cases h)
def tT(o):cA (oD o)=false:=by rcases o with _|(_|_)<;>rfl
def Bg{k:Nat}(J:k<=6){o}(h:∀n,o=some n->n.dep k):okS 20 (oD o)=true:=by
 cases o with
 |none=>rfl
 |some n=>
  have:=Nd.okS (j:=18-3*k) (h n rfl)
  rwa [show 18-3*k+(3*k+2)=20 by grind]at this
theorem OkO.dep{k:Nat}{o}(h:OkO k o):∀n,o=some n->n.dep k:=λn e=>Nd.dep_ok (h n e)
def mV{k:Nat}(J:k<=6){a b}(K:OkO k a)(M:OkO k b):eqD (oD a) (oD b)=some (decide (a=b)):=by
 rw[da (Bg J K.dep) (Bg J M.dep)]
 congr 1
 exact decide_eq_decide.mpr (by
   constructor
   .intro h
    cases a with
    |none=>exact (oD_none.mp h.symm).symm
    |some n=>cases b with
     |none=>exact oD_none.mp h
     |some m=>rw[Nd.d_inj h]
   .intro h;rw[h])
abbrev Fe(k:Nat)(J:List D->Option D):Prop:=∀(p:Str)(b o t:Option Nd)(told:List D),OkO k b->OkO k o->OkO k t->p.length+13*k<=80->told.length+cM k<=2000000->
 J [.str p,.list [oD b,oD o,oD t],.list told]=some (.tuple [oD (mE k p b o t).1,.list (told++(mE k p b o t).2.map .str)])
abbrev vz(Φ:Fs)(k:Nat):Prop:=Has Φ "_law_entry" [true,true,true] (Fe k)
abbrev Fh(k:Nat)(J:List D->Option D):Prop:=∀(p:Str)(b:Option Nd)(o t:Nds)(told:List D),OkO (k+1) b->OkT k o->OkT k t->p.length+13*(k+1)<=80->told.length+12*cM k<=2000000->
 J [.str p,.list [(Nd.tree (Nds.of (ol b))).d,(Nd.tree o).d,(Nd.tree t).d],.list told]=some (.tuple [(Nd.tree (Nds.of (mT (mE k) p b o t).1)).d,.list (told++(mT (mE k) p b o t).2.map .str)])
abbrev rh(Φ:Fs)(k:Nat):Prop:=Has Φ "_law_sides" [true,true,true] (Fh k)
def fdN(l:List (Str×Nd)):D:=.fdc (l.map λp=>(.inr p.1,p.2.d))
def oV{l}(J:(l.map (·.1)).Nodup):yb (.list (l.map pD))=some (fdN l):=by
 have K:putAll [] _=l.map λp=>(.inr p.1,p.2.d):=dQ (by
  simp only[List.nil_append,List.map_map];erw[List.pairwise_map.mpr ((List.pairwise_map.mp J).imp λz e=>z (Sum.inr.inj e))])
 show (pairsOf _).map _=_;rw[qK,mo0,K];rfl
theorem rk{x}:∀l:List (Str×Nd),(look (l.map λp=>((.inr p.1:Sum Int Str),p.2.d)) (.inr x)).getD .none=oD (l.lookup x)
 |[]=>rfl
 |p::l=>by
  show (if Sum.inr _=.inr x then some _ else look _ _).getD _=_;rw[lk0]
  by_cases e:p.1=x
  .rw[if_pos (by rw[e]),show (x==p.1)=true by simp[e]];rfl
  .rw[if_neg λz=>e (Sum.inr.inj z),show (x==p.1)=false by simpa using λz=>e z.symm];erw[rk l]
def oW{x}{l}:getD (fdN l) (.str x)=some (oD (l.lookup x)):=congrArg _ (rk l)
def oX{l}(h:∀x∈l.map (·.1),aK x=true):FY (fdN l)=some (.list ((l.map (·.1)).map .str)):=by
 show (cz _).map _=_;rw[gZ @0 λx J=>oU (h x J)];rfl
abbrev DR:Ss:=(.cons (.set 6 (.ite (.cmp .eq (.v 0) @9) (.v 5) (.op .add (.op .add (.v 0) (.k (.str ⟨#[47]⟩))) (.v 5)))) (.cons (.setm 7 (.call "_law_entry" 2 2 [.v 6,.x (.p (.comp 1 [5] (.one 0) (.seq (.v 3)) .nil (.get (.v 0) (.v 1)))),.v 2])) (.cons (.ifs (.cmp .notN (.v 7) (.k .none)) (.cons (.app 4 (.tup (.cons (.v 5) (.cons (.v 7) .nil)))) .nil) .nil) .nil)))
def Bh{k:Nat}(P:vz Φ k){B O T}{p x}{s1 s6 s7}{told}{es}(j:∀q∈B,q.2.ok 4 k)(z:∀q∈O,q.2.ok 4 k)(A:∀q∈T,q.2.ok 4 k)(I:aK x=true)(l:p.length+13*(k+1)<=80)(G:told.length+cM k<=2000000)(H:es.length<100):
  ∃(V W:Sl),exs Φ Γ [.lent (.str p),s1,.io (.list told),.dat (.list [fdN B,fdN O,fdN T]),.own (.list (es.map pD)),.dat (.str x),s6,s7] DR=some (.nx [.lent (.str p),s1,.io (.list (told++(mE k (jn p x) (B.lookup x) (O.lookup x) (T.lookup x)).2.map .str)),.dat (.list [fdN B,fdN O,fdN T]),.own (.list ((es++((mE k (jn p x) (B.lookup x) (O.lookup x) (T.lookup x)).1.map λn=>(x,n)).toList).map pD)),.dat (.str x),V,W]):=by
 obtain⟨r,F,S⟩:=P;have d:=(iK I).2;have t:=Bb (p:=p) (x:=x);have D:=@oW x B;have C:=@oW x O;have Q:=@oW x T;have q:=S (jn p x) _ _ _ told (OkO.at j x) (OkO.at z x) (OkO.at A x) @4 G;generalize mE k (jn p x) (B.lookup x) (O.lookup x) (T.lookup x)=R at *;obtain⟨U,u⟩:=R;simp only[]at q;generalize oD (B.lookup x)=g at *;generalize oD (O.lookup x)=f at *;generalize oD (T.lookup x)=m at *;generalize fdN B=K at *;generalize fdN O=M at *;generalize fdN T=N at *;have Y:(⟨#[]⟩:Str)=Str.empty:=rfl;have E:(⟨#[47]⟩:Str).length=1:=rfl;have Z:p.length+1<=big:=aP @4
 have a2:p.length+1+x.length<=big:=aP @4;have three:3<=big:=by decide
 have X:es.length<big:=Nat.lt_trans H @2;have J:ex Φ Γ [.lent (.str p),s1,.io (.list told),.dat (.list [K,M,N]),.own (.list (es.map pD)),.dat (.str x),s6,s7] (.set 6 (.ite (.cmp .eq (.v 0) @9) (.v 5) (.op .add (.op .add (.v 0) (.k (.str ⟨#[47]⟩))) (.v 5))))=some (.nx [.lent (.str p),s1,.io (.list told),.dat (.list [K,M,N]),.own (.list (es.map pD)),.dat (.str x),.dat (.str (jn p x)),s7]):=by
  by_cases h:p=Str.empty
  .simp[h,Y,jn]
  .simp[h,Y,jn,Z,a2,E,oA]
 have y:ex Φ Γ [.lent (.str p),s1,.io (.list told),.dat (.list [K,M,N]),.own (.list (es.map pD)),.dat (.str x),.dat (.str (jn p x)),s7] (.setm 7 (.call "_law_entry" 2 2 [.v 6,.x (.p (.comp 1 [5] (.one 0) (.seq (.v 3)) .nil (.get (.v 0) (.v 1)))),.v 2]))=some (.nx [.lent (.str p),s1,.io (.list (told++u.map .str)),.dat (.list [K,M,N]),.own (.list (es.map pD)),.dat (.str x),.dat (.str (jn p x)),.dat (oD U)]):=by
  simp[-SI.getD,F,three,ay,cpF_e,D,C,Q,q]
 rw[exs_c,J,cp,exs_c,y,cp];refine(.dat (.str (jn p x)),.dat (oD U),?_);cases U with
 |none=>simp[oD]
 |some n=>simp[oD,n.d_ne,X]
abbrev MZ:E:=.bi .srt (.cons (.op .add (.op .add (.lsk (.idx (.v 3) ↑0)) (.lsk (.idx (.v 3) ↑1))) (.lsk (.idx (.v 3) ↑2))) .nil)
def KC{B O T}{s0 s1 s2}{r}(W:∀x∈B.map (·.1),aK x=true)(Y:∀x∈O.map (·.1),aK x=true)(Z:∀x∈T.map (·.1),aK x=true)(Q:(B.map (·.1)).length<=4)(S:(O.map (·.1)).length<=4)(P:(T.map (·.1)).length<=4):ev Φ Γ .walk (s0::s1::s2::.dat (.list [fdN B,fdN O,fdN T])::r) MZ=some (.list ((srtS (B.map (·.1)++O.map (·.1)++T.map (·.1))).map .str)):=by
 have R:=oX W;have U:=oX Y;have V:=oX Z;generalize B.map (·.1)=b at *;generalize O.map (·.1)=o at *;generalize T.map (·.1)=t at *;generalize fdN B=F at *;generalize fdN O=D at *;generalize fdN T=C at *;have M:b.length+o.length<=big:=aP @4;have N:b.length+o.length+t.length<=big:=aP @4;have J:b.length+(o.length+t.length)<=big:=aP @4;have K:=qG (b++o++t) (by simp;grind);simp only[List.map_append,List.append_assoc]at K ⊢;simp[-FY,R,U,V,M,N,J,K]
def mW(k:Nat)(hk:cM k<=200000)(hm:vz Φ k):Fh k (ans Φ Γ dq):=by
 intro p b o t told N K M hp hz;have step:=λ{x s1 s6 s7 told es}=>Bh (Φ:=Φ) (Γ:=Γ) hm (B:=ol b) (O:=o.l) (T:=t.l) (p:=p) (x:=x) (s1:=s1) (s6:=s6) (s7:=s7) (told:=told) (es:=es) N.ol K.ok M.ok
 have C:=(show (∀x∈(ol b).map (·.1),aK x=true)/\((ol b).map (·.1)).length<=4 by
   rcases b with _|(_|es)
   .exact(nofun,Nat.zero_le _)
   .exact(nofun,Nat.zero_le _)
   .exact(N.tree.name,N.tree.len))
 have u:=λ{s0 s1 s2 r}=>KC (Φ:=Φ) (Γ:=Γ) (s0:=s0) (s1:=s1) (s2:=s2) (r:=r) C.1 K.name M.name C.2 K.len M.len
 have H:∀es:Nds,jC (Nd.tree es).d (.int 1)=some (.list (es.l.map pD)):=λes=>by rw[<-Nds.ds_l];rfl
 have c:yb (.list ((Nds.of (ol b)).l.map pD))=some (fdN (ol b)):=by rw[Nds.of_l];erw[oV (rf N)]
 have i:=oV (bO K.rise);have e:=oV (bO M.rise);have E:mT (mE k) p b o t=mS (mE k) (srtS ((ol b).map (·.1)++o.l.map (·.1)++t.l.map (·.1))) p (ol b) o.l t.l:=(AX _ ((λp b=>dR (.inl rfl))) _ _ _ _).symm;generalize mT (mE k) p b o t=R at E;have nl:(srtS ((ol b).map (·.1)++o.l.map (·.1)++t.l.map (·.1))).length<=12:=by
  have:=kh ((ol b).map (·.1)++o.l.map (·.1)++t.l.map (·.1));have:=C.2;have:=K.len;have:=M.len;simp only[la0]at *
  grind
 have nn:∀x∈srtS ((ol b).map (·.1)++o.l.map (·.1)++t.l.map (·.1)),aK x=true:=λx hx=>by
  rcases ma0 ((mem_srtS _ x).mp hx)with h|h
  .rcases ma0 h with h|h
   .erw[C.1 x h]
   .erw[K.name x h]
  .erw[M.name x h]
 generalize srtS ((ol b).map (·.1)++o.l.map (·.1)++t.l.map (·.1))=ns at *;have three:3<=big:=by decide
 have a:=H (Nds.of (ol b));have g2:=H o;have g3:=H t;generalize (Nd.tree (Nds.of (ol b))).d=U at *;generalize (Nd.tree o).d=V at *;generalize (Nd.tree t).d=W at *;have A:ns.length*cM k<=12*cM k:=Nat.mul_le_mul_right _ nl;simp only[ans_e,dq];have s3:ex Φ Γ [.lent (.str p),.lent (.list [U,V,W]),.io (.list told),.no,.no,.no,.no,.no] (.set 3 (.comp 1 [] (.one 0) (.seq (.v 1)) .nil (.fdc (.idx (.v 0) ↑1))))=some (.nx [.lent (.str p),.lent (.list [U,V,W]),.io (.list told),.dat (.list [fdN (ol b),fdN o.l,fdN t.l]),.no,.no,.no,.no]):=by
  simp[-yb,three,ay,cpF_e,a,g2,g3,c,i,e]
 have s4:ex Φ Γ [.lent (.str p),.lent (.list [U,V,W]),.io (.list told),.dat (.list [fdN (ol b),fdN o.l,fdN t.l]),.no,.no,.no,.no] (.new 4 (.lst .nil))=some (.nx [.lent (.str p),.lent (.list [U,V,W]),.io (.list told),.dat (.list [fdN (ol b),fdN o.l,fdN t.l]),.own (.list []),.no,.no,.no]):=by simp
 rw[show br ([true,true,true],8,_,.io 2) [.str p,.list [U,V,W],.list told]=[.lent (.str p),.lent (.list [U,V,W]),.io (.list told),.no,.no,.no,.no,.no] from rfl,exs_c,s3,cp,exs_c,s4,cp,exs_c,ex_for,ev_i,I.seq,u,bs0,jG,bs0];refine gP (inj:=D.str) (F:=λs:List D×List (Str×Nd)×List Str×Sl×Sl×Sl=>[.lent (.str p),.lent (.list [U,V,W]),.io (.list s.1),.dat (.list [fdN (ol b),fdN o.l,fdN t.l]),.own (.list (s.2.1.map pD)),s.2.2.2.1,s.2.2.2.2.1,s.2.2.2.2.2]) (s:=(Prod.mk told (Prod.mk ([]) (Prod.mk ([]) (Prod.mk .no (Prod.mk .no .no)))))) (J:=λq s=>(∀x∈q,aK x=true)/\s.1=told++s.2.2.1.map .str/\s.2.1++(mS (mE k) q p (ol b) o.l t.l).1=R.1/\s.2.2.1++(mS (mE k) q p (ol b) o.l t.l).2=R.2/\s.2.1.length+q.length<=12/\s.2.2.1.length+q.length*cM k<=12*cM k) (P:=λo=>cJ (.io 2) (nxS Φ Γ o _)=_) (λs X=>?_) (λx q s X=>?_) (nn,by simp,by rw[E];rfl,by rw[E];rfl,by simpa using nl,by simpa using A)
 .obtain⟨tl,es,Y,s5,s6,s7⟩:=s
  obtain⟨_,Q,S,G,_,_⟩:=X;simp only[]at *;have g:es=R.1:=by rw[<-S];exact (List.append_nil es).symm
  have a2:Y=R.2:=by rw[<-G];exact (List.append_nil Y).symm
  subst Q g a2;simp[Nd.d,Nds.ds_l,Nds.of_l]
 .obtain⟨tl,es,Y,s5,s6,s7⟩:=s
  obtain⟨Z,Q,S,G,h4,h5⟩:=X;simp only[lc0]at *;rw[Nat.succ_mul]at h5;subst Q;obtain⟨j,z,f⟩:=step (s1:=.lent (.list [U,V,W])) (s6:=s6) (s7:=s7) (told:=told++Y.map .str) (es:=es) (Z x ms0) hp (by simp;grind) @4;obtain⟨m1,m2⟩:=vy (mE k) x q p (ol b) o.l t.l;have m:=oN k (jn p x) _ _ _ (OkO.at N.ol x) (OkO.at K.ok x) (OkO.at M.ok x);refine((Prod.mk _ (Prod.mk _ (Prod.mk (Y++_) (Prod.mk (.dat (.str x)) (Prod.mk j z))))),(λy hy=>Z y (mc0 _ hy),?_,by rw[<-S,m1,List.append_assoc],by rw[<-G,m2,List.append_assoc],?_,by dsimp only;rw[la0];lia),f)
  .dsimp only;rw[List.map_append,List.append_assoc]
  .dsimp only
   rw[la0];have:((mE k (jn p x) ((ol b).lookup x) (o.l.lookup x) (t.l.lookup x)).1.map λn=>(Prod.mk x n)).toList.length<=1:=by
    cases (mE k (jn p x) ((ol b).lookup x) (o.l.lookup x) (t.l.lookup x)).1<;>simp
   lia
def Ia{o}{Y}:cpF Φ Γ Y 1 [] (.one 0) .nil (.ite (.cmp .isN (.v 0) (.k .none)) (.k (.str ⟨#[110,111,110,101]⟩)) (.idx (.v 0) ↑0)) (oD o)=some (some (.str (okd o))):=by
 rcases o with _|(_|_)<;>simp[cpF_e,oD,okd,Nd.d]
abbrev Ib:Ss:=(.cons (.app 2 (.v 0)) (.cons (.ret (.ite (.cmp .isN (.v 5) (.k .none)) (.v 6) (.v 5))) .nil))
abbrev vA:Ss:=(.cons (.set 8 (.ite (.cmp .eq (.idx (.v 3) ↑0) (.k (.str af))) (.idx (.v 4) ↑1) @9)) (.cons (.set 9 (.call "_law_both" (.cons (.call "_law_lines" (.cons (.v 8) .nil)) (.cons (.call "_law_lines" (.cons (.idx (.v 5) ↑1) .nil)) (.cons (.call "_law_lines" (.cons (.idx (.v 6) ↑1) .nil)) .nil))))) (.cons (.ext 2 (.op .mul (.lst (.cons (.v 0) .nil)) (.idx (.v 9) ↑1))) (.cons (.ret (.tup (.cons (.k (.str af)) (.cons (.idx (.v 9) ↑0) .nil)))) .nil))))
abbrev vB:Ss:=(.cons (.setm 7 (.call "_law_sides" 2 2 [.v 0,.x (.p (.lst (.cons (.ite (.cmp .eq (.idx (.v 3) ↑0) (.k (.str ao))) (.v 4) (.tup (.cons (.k (.str ao)) (.cons (.lst .nil) .nil)))) (.cons (.v 5) (.cons (.v 6) .nil))))),.v 2])) (.cons (.ret (.ite (.idx (.v 7) ↑1) (.v 7) (.k .none))) .nil))
abbrev tU:E:=.sl (.v 3) (.cons ↑1 .nil) .nil
abbrev DS:Ss:=(.cons (.ifs (.cmp .eq tU (.lst (.cons (.k (.str ao)) (.cons (.k (.str ao)) .nil)))) vB .nil) (.cons (.ifs (.cmp .eq tU (.lst (.cons (.k (.str af)) (.cons (.k (.str af)) .nil)))) vA .nil) Ib))
abbrev kA(p:Str)(s1:D)(told:List D)(b o t:Option Nd):List Sl:=[.lent (.str p),.lent s1,.io (.list told),.dat (.list [.str (okd b),.str (okd o),.str (okd t)]),.dat (oD b),.dat (oD o),.dat (oD t),.no,.no,.no]
def ent_head{k}(Y:k<=6){p}{b o t}{told}(M:OkO k b)(N:OkO k o)(O:OkO k t):ans Φ Γ cv [.str p,.list [oD b,oD o,oD t],.list told]=if o=t\/t=b then some (.tuple [oD o,.list told])else if o=b then some (.tuple [oD t,.list told])else cJ (.io 2) (exs Φ Γ (kA p (.list [oD b,oD o,oD t]) told b o t) DS):=by
 have three:3<=big:=by decide
 have J:=mV Y N O;have R:=mV Y O M;have V:=mV Y N M;have Z:ex Φ Γ [.lent (.str p),.lent (.list [oD b,oD o,oD t]),.io (.list told),.no,.no,.no,.no,.no,.no,.no] (.set 3 (.comp 1 [] (.one 0) (.seq (.v 1)) .nil (.ite (.cmp .isN (.v 0) (.k .none)) (.k (.str ⟨#[110,111,110,101]⟩)) (.idx (.v 0) ↑0))))=some (.nx [.lent (.str p),.lent (.list [oD b,oD o,oD t]),.io (.list told),.dat (.list [.str (okd b),.str (okd o),.str (okd t)]),.no,.no,.no,.no,.no,.no]):=by
  rw[ex_s,S.set,ev_cp,ev_i,I.seq];simp[three,ay,Ia]
 simp only[ans_e,cv];rw[show br ([true,true,true],10,_,.io 2) [.str p,.list [oD b,oD o,oD t],.list told]=[.lent (.str p),.lent (.list [oD b,oD o,oD t]),.io (.list told),.no,.no,.no,.no,.no,.no,.no] from rfl,exs_c,Z,cp]
 by_cases h:o=t\/t=b
 .rw[if_pos h]
  by_cases K:o=t
  .rw[dt0 K]at J
   simp[J]
  .have W:=h.resolve_left K
   rw[df0 K]at J;rw[dt0 W]at R;simp[J,R]
 .rw[if_neg h]
  have K:¬ o=t:=λz=>h (.inl z)
  have W:¬ t=b:=λz=>h (.inr z)
  rw[df0 K]at J;rw[df0 W]at R
  by_cases U:o=b
  .rw[if_pos U]
   rw[dt0 U]at V;simp[J,R,V]
  .rw[if_neg U]
   rw[df0 U]at V;simp[J,R,V]
def dy{p}{s1}{told}{b o t}{x}:ev Φ Γ .test (kA p s1 told b o t) (.cmp .eq tU (.lst (.cons (.k (.str x)) (.cons (.k (.str x)) .nil))))=some (.bool (decide (okd o=x/\okd t=x))):=by
 simp[Kn,eq2]
def Bi(T:oH Φ)(Z:tM Φ){p}{s1}{told}{b}{x y}(K:(ot b).length<=1300)(F:x.length<=1300)(B:y.length<=1300)(o:told.length+2621<=2000000):exs Φ Γ (kA p s1 told b (some (.blob x)) (some (.blob y))) vA=some (.rt (Nd.blob (J (mergedF (lnF (ot b)) (lnF x) (lnF y)))).d (.list (told++List.replicate (confF (lnF (ot b)) (lnF x) (lnF y)) (.str p)))):=by
 obtain⟨s,V,N⟩:=T;obtain⟨i,W,Y⟩:=Z;have P:=N (ot b) @1;have G:=N x @1;have I:=N y @1;have E:=Y (lnF (ot b)) (lnF x) (lnF y) (fP K) (fP F) (fP B) (AV x) (AV y);have c:=oK (x:=ot b) x y K;have Q:=EX (n:=confF (lnF (ot b)) (lnF x) (lnF y)) (d:=.str p) @1;generalize J (mergedF (lnF (ot b)) (lnF x) (lnF y))=M at *;generalize confF (lnF (ot b)) (lnF x) (lnF y)=C at *;have l:oD (some (Nd.blob x))=.tuple [.str af,.str x]:=rfl;have U:oD (some (Nd.blob y))=.tuple [.str af,.str y]:=rfl;have O:ex Φ Γ (kA p s1 told b (some (.blob x)) (some (.blob y))) (.set 8 (.ite (.cmp .eq (.idx (.v 3) ↑0) (.k (.str af))) (.idx (.v 4) ↑1) @9))=some (.nx [.lent (.str p),.lent s1,.io (.list told),.dat (.list [.str (okd b),.str af,.str af]),.dat (oD b),.dat (.tuple [.str af,.str x]),.dat (.tuple [.str af,.str y]),.no,.dat (.str (ot b)),.no]):=by
  rcases b with _|(t|es)
  .simp[okd,kd2,ot,oD,Nd.d,Str.empty]
  .simp[okd,ot,oD,Nd.d]
  .simp[okd,kd4,ot,oD,Nd.d,Str.empty]
 have a2:ex Φ Γ [.lent (.str p),.lent s1,.io (.list told),.dat (.list [.str (okd b),.str af,.str af]),.dat (oD b),.dat (.tuple [.str af,.str x]),.dat (.tuple [.str af,.str y]),.no,.dat (.str (ot b)),.no] (.set 9 (.call "_law_both" (.cons (.call "_law_lines" (.cons (.v 8) .nil)) (.cons (.call "_law_lines" (.cons (.idx (.v 5) ↑1) .nil)) (.cons (.call "_law_lines" (.cons (.idx (.v 6) ↑1) .nil)) .nil)))))=some (.nx [.lent (.str p),.lent s1,.io (.list told),.dat (.list [.str (okd b),.str af,.str af]),.dat (oD b),.dat (.tuple [.str af,.str x]),.dat (.tuple [.str af,.str y]),.no,.dat (.str (ot b)),.dat (.tuple [.str M,.int (C:Nat)])]):=by
  simp[V,P,G,I,W,E]
 have R:ex Φ Γ [.lent (.str p),.lent s1,.io (.list told),.dat (.list [.str (okd b),.str af,.str af]),.dat (oD b),.dat (.tuple [.str af,.str x]),.dat (.tuple [.str af,.str y]),.no,.dat (.str (ot b)),.dat (.tuple [.str M,.int (C:Nat)])] (.ext 2 (.op .mul (.lst (.cons (.v 0) .nil)) (.idx (.v 9) ↑1)))=some (.nx [.lent (.str p),.lent s1,.io (.list (told++List.replicate C (.str p))),.dat (.list [.str (okd b),.str af,.str af]),.dat (oD b),.dat (.tuple [.str af,.str x]),.dat (.tuple [.str af,.str y]),.no,.dat (.str (ot b)),.dat (.tuple [.str M,.int (C:Nat)])]):=by
  have f:∀r:List Sl,ev Φ Γ .read (.lent (.str p)::r) (.lst (.cons (.v 0) .nil))=some (.list [.str p]):=λr=>by simp
  have m:∀X s1 H A j z q u g:Sl,ev Φ Γ .read [X,s1,H,A,j,z,q,u,g,.dat (.tuple [.str M,.int (C:Nat)])] (.idx (.v 9) ↑1)=some (.int (C:Nat)):=λa a a a a a a a a=>by simp
  have K:told.length+(List.replicate C (D.str p)).length<=big:=by rw[List.length_replicate];unfold big;lia
  rw[ex_s,S.ext,ev_m,f,m,Q,yf,bs0];simp only[Gb,gtS,gt0,stS,st0];rw[if_pos K]
 rw[exs_c,O,cp,exs_c,a2,cp,exs_c,R,cp];simp[Nd.d]
def Bj{k}(W:rh Φ k){p}{s1}{told}{b}{o t}(J:OkO (k+1) b)(K:OkT k o)(M:OkT k t)(Y:p.length+13*(k+1)<=80)(Z:told.length+12*cM k<=2000000):exs Φ Γ (kA p s1 told b (some (.tree o)) (some (.tree t))) vB=some (.rt (oD (if (mT (mE k) p b o t).1=[] then none else some (.tree (Nds.of (mT (mE k) p b o t).1)))) (.list (told++(mT (mE k) p b o t).2.map .str))):=by
 obtain⟨B,U,V⟩:=W;have q:=V p b o t told J K M Y Z;generalize mT (mE k) p b o t=R at *;have N:ev Φ Γ .val (kA p s1 told b (some (.tree o)) (some (.tree t))) (.lst (.cons (.ite (.cmp .eq (.idx (.v 3) ↑0) (.k (.str ao))) (.v 4) (.tup (.cons (.k (.str ao)) (.cons (.lst .nil) .nil)))) (.cons (.v 5) (.cons (.v 6) .nil))))=some (.list [(Nd.tree (Nds.of (ol b))).d,(Nd.tree o).d,(Nd.tree t).d]):=by
  rcases b with _|(x|es)
  .simp[okd,kd1,oD,ol,Nds.of,Nd.d,Nds.ds]
  .simp[okd,kd3,oD,ol,Nds.of,Nd.d,Nds.ds]
  .simp[okd,oD,ol,Nds.of_of]
 have T:(Nds.of R.1).ds=[]↔R.1=[]:=by rw[Nds.ds_l,Nds.of_l];erw[List.map_eq_nil_iff]
 have O:ex Φ Γ (kA p s1 told b (some (.tree o)) (some (.tree t))) (.setm 7 (.call "_law_sides" 2 2 [.v 0,.x (.p (.lst (.cons (.ite (.cmp .eq (.idx (.v 3) ↑0) (.k (.str ao))) (.v 4) (.tup (.cons (.k (.str ao)) (.cons (.lst .nil) .nil)))) (.cons (.v 5) (.cons (.v 6) .nil))))),.v 2]))=some (.nx [.lent (.str p),.lent s1,.io (.list (told++R.2.map .str)),.dat (.list [.str (okd b),.str ao,.str ao]),.dat (oD b),.dat (oD (some (.tree o))),.dat (oD (some (.tree t))),.dat (Nd.tree (Nds.of R.1)).d,.no,.no]):=by
  generalize E.lst _=D at N ⊢;rw[ev_e]at N;simp[U,N,q];exact(rfl,rfl)
 rw[exs_c,O,cp]
 by_cases z:R.1=[]
 .simp[Nd.d,z,oD,Nds.of,Nds.ds]
 .have F:¬ (Nds.of R.1).ds=[]:=λy=>z (T.mp y)
  simp[Nd.d,F,z,oD]
def rp(k:Nat)(B:cM k<=200000)(V:k<=6)(F:oH Φ)(T:tM Φ)(D:∀Y,k=Y+1->rh Φ Y):Fe k (ans Φ Γ cv):=by
 intro p b o t told N J O C Q;rw[ent_head V N J O];have G:(⟨#[]⟩:Str)=Str.empty:=rfl;cases DO b o t with
 |same h=>rw[dR h,if_pos h];simp
 |base h W=>rw[gY h W,if_neg h,if_pos W];simp
 |els K M R U=>
  rw[jw K M R U,if_neg K,if_neg M];have Z:told.length<big:=by unfold big;lia
  rw[exs_c,ex_if,dy,Ak,df0 R];simp only[Bool.false_eq_true,if_false,exs,cp];rw[ex_if,dy,Ak,df0 U]
  by_cases z:o=none
  .subst z;simp[Z,oD]
  .have S:¬ oD o=.none:=λy=>z (oD_none.mp y)
   simp[Z,z,S]
 |blob x y K M R U=>
  subst R U;have P:=HW k;rw[ju K M,if_neg K,if_neg M,exs_c,ex_if,dy,Ak,df0 (λz=>kd3 z.1)];simp only[Bool.false_eq_true,if_false,exs,cp];rw[ex_if,dy,Ak,dt0 (rfl,rfl),if_pos rfl,Bi (x:=x) (y:=y) (told:=told) F T N.ot (OkO.ot J) (OkO.ot O) @1,List.map_replicate];rfl
 |tree I E K M R U=>
  subst R U;cases k with
  |zero=>exact (J _ rfl).elim
  |succ k=>
   rw[HV]at B;rw[jr K M,if_neg K,if_neg M,exs_c,ex_if,dy,Ak,dt0 (rfl,rfl),if_pos rfl,Bj (D k rfl) N J.tree O.tree C (by rw[HV]at Q;lia)];rfl
abbrev Fi(c m:Nat)(J:List D->Option D):Prop:=∀(L:List Th)(n:Nd)(i:Nat),n.dep m->n.rep L i->J [vt c L,.int i]=some n.d
abbrev kB(Φ:Fs)(c m:Nat):Prop:=Has Φ "_law_seen" [true,true] (Fi c m)
def mX{L}{f}:∀{l:List (Str×Nd)}{ps:List (Str×Int)},RepL L ps l->(∀x n (k:Nat),(x,n)∈l->n.rep L k->f (bZ (x,(k:Int)))=some (some (pD (x,n))))->ay f (ps.map bZ)=some (l.map pD):=by
 intro l
 induction l with
 |nil=>intro ps h _;cases ps;rfl;erw[h.elim]
 |cons c l ih=>
  intro ps h N;cases ps with
  |nil=>exact h.elim
  |cons p ps=>
   obtain⟨y,i⟩:=p;obtain⟨x,n⟩:=c;obtain⟨⟨J,k,K,M⟩,O⟩:=h;simp only at J K M;subst J K;rw[mk0,ay,N y n k ms0 M,ih O λx n k m=>N x n k (mc0 _ m)];rfl
def kC(m:Nat)(B:qi Φ c)(Q:uX Φ c)(D:gK Φ c)(hs:∀k,m=k+1->kB Φ c k):Fi c m (ans Φ Γ (dj c)):=by
 intro L n i K J;obtain⟨E,M,N⟩:=B;obtain⟨X,V,Z⟩:=Q;obtain⟨H,W,T⟩:=D;simp only[ans_e,dj];cases n with
 |blob t=>
  rw[Nd.rep]at J;have q:=N 0 _ i af _ (eJ J);simp[M,q,V,Z L i t J,Nd.d]
 |tree I=>
  cases m with
  |zero=>exact K.elim
  |succ k=>
   rw[Nd.dep]at K;obtain⟨A,Y,F⟩:=hs k rfl;obtain⟨P,O,R⟩:=rep_tree.mp J;have q:=N 0 _ i ao _ (eJ O);have G:=T 0 _ i _ (eJ O);have S:P.length<=big:=by
    have:=congrArg List.length R.names;simp only[lm0]at this;have U:=K.1;rw[Nds.names_l,lm0]at U;erw[aP @1]
   simp[M,q,kd4,W,G,S];rw[mX R λx n k C J=>by
    have:=F L n k (Nds.dep_l.mp K.2 _ C) J;simp[cpF_e,bZ,Y,this]]
   simp[Nd.d,Nds.ds_l]
theorem rz{f g:α->Option β}:∀{xs:List α},(∀x∈xs,f x=g x)->xs.filterMap f=xs.filterMap g
 |[],_=>rfl
 |x::r,h=>by rw[List.filterMap_cons,List.filterMap_cons,h x ms0,rz λy J=>h y (mc0 _ J)]
theorem hU:∀{l:List (Str×Nd)},(l.map (·.1)).Nodup->(l.map (·.1)).filterMap (λx=>(l.lookup x).map λn=>(x,n))=l
 |[],_=>rfl
 |(y,n)::l,h=>by
  rw[mk0,List.nodup_cons]at h;rw[mk0,List.filterMap_cons,lk0];simp only[beq_self_eq_true,mo0]
  congr 1
  refine Eq.trans ?_ (hU h.2);refine rz λx J=>?_
  have:(x==y)=false:=by simpa using λe=>h.1 (by rwa [<-e])
  rw[lk0,this]
theorem eN{f:α->Option β}{p}:∀{xs:List α},(∀x∈xs,p x=false->f x=none)->xs.filterMap f=(xs.filter p).filterMap f
 |[],_=>rfl
 |x::r,h=>by
  rw[List.filterMap_cons,List.filter_cons];have ih:=eN λy J=>h y (mc0 _ J)
  cases e:p x with
  |true=>rw[if_pos rfl,List.filterMap_cons,ih]
  |false=>rw[h x ms0 e,if_neg fx0,ih]
def vC{k:Nat}{f}{p}{b}{o t u:Nds}(J:bY (u.l.map (·.1)))(hs:∀x∈u.l.map (·.1),x∈nm2 o.l t.l)(h:∀x,f (jn p x) ((ol b).lookup x) (o.l.lookup x) (t.l.lookup x)=(u.l.lookup x,[])):mT f p b o t=(u.l,[]):=by
 unfold mT mS;simp only[h];have M:bY (nm2 o.l t.l):=bj _;rw[eN λx a K=>by rw[fj (of_decide_eq_false K)];rfl,dM (M.sublist List.filter_sublist) J λx=>by
  rw[List.mem_filter];simp only[decide_eq_true_eq];exact(λz=>z.2,λz=>(hs x z,z)),hU (bO J)]
 simp
def DT{k}{p}{b}{o t}(J:OkT k o)(h:o=t\/some (.tree t)=b):mT (mE k) p b o t=(o.l,[]):=by
 refine vC (k:=k) J.rise (λx K=>(mem_srtS _ x).mpr (List.mem_append_left _ K)) λx=>?_
 refine dR ?_;rcases h with h|h
 .rw[h];exact .inl rfl
 .rw[<-h];exact .inr rfl
def DU{k}{p}{b}{o t}(J:OkT k t)(h:some (.tree o)=b):mT (mE k) p b o t=(t.l,[]):=by
 refine vC (k:=k) J.rise (λx K=>(mem_srtS _ x).mpr (mr0 _ K)) λx=>?_
 subst h;show mE k _ (o.l.lookup x) _ _=_
 by_cases e:o.l.lookup x=t.l.lookup x
 .rw[dR (.inl e),e]
 .rw[gY (λz=>z.elim e λy=>e y.symm) rfl]
abbrev KF(J:List D->Option D):Prop:=∀(b:Option Nds)(o t:Nds),OkO 2 (b.map .tree)->OkO 2 (some (.tree o))->OkO 2 (some (.tree t))->J [oD (b.map .tree),oD (some (.tree o)),oD (some (.tree t))]=some (.tuple [(Nd.tree (Nds.of (mT (mE 1) Str.empty (b.map .tree) o t).1)).d,.list ((mT (mE 1) Str.empty (b.map .tree) o t).2.map .str)])
abbrev Ic(Φ:Fs):Prop:=Has Φ "_law_due" [true,true,true] KF
def DV(hs:rh Φ 1):KF (ans Φ Γ jj):=by
 intro b o t M J K;obtain⟨P,F,B⟩:=hs;have N:=mV @2 J K;have U:=mV @2 K M;have V:=mV @2 J M;have D:(⟨#[]⟩:Str)=Str.empty:=rfl;have G:=tT (b.map .tree);have T:=tT (some (.tree o));have C:=tT (some (.tree t));simp only[ans_e,jj]
 by_cases h:some (Nd.tree o)=some (.tree t)\/some (Nd.tree t)=b.map .tree
 .rw[DT J.tree (h.imp (λz=>by injection z with z;injection z) id),Nds.of_of]
  by_cases O:some (Nd.tree o)=some (.tree t)
  .rw[dt0 O]at N
   simp[N,T];rfl
  .have W:=h.resolve_left O
   rw[df0 O]at N;rw[dt0 W]at U;simp[N,U,T];rfl
 .have O:¬ some (Nd.tree o)=some (.tree t):=λz=>h (.inl z)
  have W:¬ some (Nd.tree t)=b.map .tree:=λz=>h (.inr z)
  rw[df0 O]at N;rw[df0 W]at U
  by_cases Y:some (Nd.tree o)=b.map .tree
  .rw[DU K.tree Y,Nds.of_of]
   rw[dt0 Y]at V;simp[N,U,V,C];rfl
  .rw[df0 Y]at V
   have q:=B Str.empty (b.map .tree) o t [] M J.tree K.tree @2 @2;generalize mT (mE 1) Str.empty (b.map .tree) o t=R at *;have Z:ev Φ Γ .val [.lent (oD (b.map .tree)),.lent (oD (some (.tree o))),.lent (oD (some (.tree t))),.own (.list []),.no] (.lst (.cons (.ite (.cmp .isN (.v 0) (.k .none)) (.tup (.cons (.k (.str ao)) (.cons (.lst .nil) .nil))) (.v 0)) (.cons (.v 1) (.cons (.v 2) .nil))))=some (.list [(Nd.tree (Nds.of (ol (b.map .tree)))).d,(Nd.tree o).d,(Nd.tree t).d]):=by
    cases b with
    |none=>simp[oD,ol,Nds.of,Nd.d,Nds.ds]
    |some S=>simp[oD,ol,Nds.of_of,Nd.d_ne,Nd.d]
   generalize E.lst (.cons _ _)=Q at Z ⊢;rw[ev_e]at Z;simp[N,U,V,F,Z,D,q]
abbrev Bk(Φ:Fs):Prop:=Has Φ "_law_whole" [true] λJ=>∀n:Int,J [.int n]=some (.bool true)
def whole_run(n:Int):ans Φ Γ iD [.int n]=some (.bool true):=rfl
abbrev Fj(c:Nat)(J:List D->Option D):Prop:=∀(L:List Th)(i:Nat)(n:Nd)(K:A1),n.dep 2->n.rep L i->J [vt c L,.tuple [.int i,.list (K.map .str)],.tuple [n.d,.list (K.map .str)]]=some (.bool true)
abbrev Bl(Φ:Fs)(c:Nat):Prop:=Has Φ "_law_good_merge" [true,true,true] (Fj c)
def Bm(hw:Bk Φ)(hs:kB Φ c 2):Fj c (ans Φ Γ bG):=by
 intro L i n V J U;obtain⟨W,K,O⟩:=hw;obtain⟨Y,M,R⟩:=hs;have ok:=Nd.okS (j:=12) J;have N:eqD n.d n.d=some true:=by rw[da ok ok];simp
 simp only[ans_e,bG];simp[K,O,gX,M,(R L n i J U),N]
abbrev Na:E:=(.idx (.lst (.cons (.lst (.cons ↑0 (.cons ↑1 (.cons ↑2 .nil)))) (.cons (.lst (.cons ↑2 (.cons ↑1 (.cons ↑0 .nil)))) (.cons (.lst (.cons ↑1 (.cons ↑2 (.cons ↑0 .nil)))) .nil)))) (.op .mod (.call "_law_mix" (.cons (.v 0) (.cons ↑61 .nil))) ↑3))
abbrev DW:Ss:=(.cons (.setim 5 (.v 6) (.call "_law_store" 0 4 [.v 4,.x (.p (.idx (.lst (.cons (.v 1) (.cons (.v 2) (.cons (.v 3) .nil)))) (.v 6)))])) .nil)
structure Ie(B O T:Nd)(q:List Int)(L:List Th)(i j k:Nat):Prop where
 set:∀x∈q,x=0\/x=1\/x=2
 nd:L.Nodup
 len:L.length+25*q.length<=75
 b:0∈q\/B.rep L i
 o:1∈q\/O.rep L j
 t:2∈q\/T.rep L k
def Bn(hs:oC Φ c 2){B O T}(C:B.ok 4 2)(Q:O.ok 4 2)(S:T.ok 4 2){x}{q}{L}{i j k}{s0 s6 s7 s8}(h:Ie B O T (x::q) L i j k):∃L' P G I,Ie B O T q L' P G I/\(ax (.one 6) (.int x) [s0,.dat B.d,.dat O.d,.dat T.d,.io (vt c L),.own (.list [.int (i:Nat),.int (j:Nat),.int (k:Nat)]),s6,s7,s8]).bind (λY=>exs Φ Γ Y DW)=some (.nx [s0,.dat B.d,.dat O.d,.dat T.d,.io (vt c L'),.own (.list [.int (P:Nat),.int (G:Nat),.int (I:Nat)]),.dat (.int x),s7,s8]):=by
 obtain⟨X,U,V⟩:=hs;obtain⟨R,Z,W,b,o,t⟩:=h;rw[lc0]at W;have J:∀y:Int,y≠x->(y∈x::q->y∈q):=λy M E=>(mq0 E).resolve_left M
 rcases R x ms0 with rfl|rfl|rfl
 .have D:=Nd.cnt_le B 2 C
  obtain⟨L',n,N,a2,K,F⟩:=V L B C @1;exact(L',n,j,k,(λy M=>R y (mc0 _ M),K.2 Z,by lia,.inr a2,o.imp (J 1 @2) (Nd.rep_ex K _ _),t.imp (J 2 @2) (Nd.rep_ex K _ _)),by simp[U,N,ixN])
 .have D:=Nd.cnt_le O 2 Q
  obtain⟨L',n,N,a2,K,F⟩:=V L O Q @1;exact(L',i,n,k,(λy M=>R y (mc0 _ M),K.2 Z,by lia,b.imp (J 0 @2) (Nd.rep_ex K _ _),.inr a2,t.imp (J 2 @2) (Nd.rep_ex K _ _)),by simp[U,N,ixN])
 .have D:=Nd.cnt_le T 2 S
  obtain⟨L',n,N,a2,K,F⟩:=V L T S @1;exact(L',i,j,n,(λy M=>R y (mc0 _ M),K.2 Z,by lia,b.imp (J 0 @2) (Nd.rep_ex K _ _),o.imp (J 1 @2) (Nd.rep_ex K _ _),.inr a2),by simp[U,N,ixN])
abbrev Nb:Ss:=(.cons (.ifs (.not (.call "_law_good_merge" (.cons (.v 4) (.cons (.v 7) (.cons (.v 8) .nil))))) (.cons (.ret (.k (.bool false))) .nil) .nil) (.cons (.ret (.cmp .eq (.comp 1 [4] (.one 0) (.seq (.v 5)) .nil (.call "_law_seen" (.cons (.v 1) (.cons (.v 0) .nil)))) (.lst (.cons (.v 1) (.cons (.v 2) (.cons (.v 3) .nil)))))) .nil))
def DX(Y:Bl Φ c)(Z:kB Φ c 2){B O T n:Nd}{L}{i j k m}{cs:A1}{s0 s6}(K:B.dep 2)(M:O.dep 2)(N:T.dep 2)(F:n.dep 2)(I:B.rep L i)(E:O.rep L j)(X:T.rep L k)(H:n.rep L m):∃w,exs Φ Γ [s0,.dat B.d,.dat O.d,.dat T.d,.io (vt c L),.own (.list [.int (i:Nat),.int (j:Nat),.int (k:Nat)]),s6,.dat (.tuple [.int (m:Nat),.list (cs.map .str)]),.dat (.tuple [n.d,.list (cs.map .str)])] Nb=some (.rt (.bool true) w):=by
 obtain⟨A,R,W⟩:=Y;obtain⟨z,U,J⟩:=Z;have S:=J L B i K I;have P:=J L O j M E;have G:=J L T k N X;have three:3<=big:=by decide
 have D:=Nd.okS (j:=11) K;have C:=Nd.okS (j:=11) M;have Q:=Nd.okS (j:=11) N;generalize B.d=b at *;generalize O.d=o at *;generalize T.d=t at *;have ok:okS 20 (.list [b,o,t])=true:=by
  show (okS 19 b&&(okS 19 o&&(okS 19 t&&true)))=true;rw[D,C,Q];rfl
 have V:eqD (.list [b,o,t]) (.list [b,o,t])=some true:=by rw[da ok ok];simp
 exact(_,by simp[R,(W L m n cs F H),three,ay,cpF_e,blk,U,S,P,G,V];rfl)
abbrev KG:S:=.ifs (.cmp .eq (.op .mod (.call "_law_mix" (.cons (.v 0) (.cons ↑62 .nil))) ↑4) ↑0) (.cons (.setm 7 (.call "merged_trees" 0 4 [.v 4,.x (.p (.k .none)),.x (.p (.idx (.v 5) ↑1)),.x (.p (.idx (.v 5) ↑2))])) (.cons (.set 8 (.call "_law_due" (.cons (.k .none) (.cons (.v 2) (.cons (.v 3) .nil))))) .nil)) (.cons (.setm 7 (.call "merged_trees" 0 4 [.v 4,.x (.p (.idx (.v 5) ↑0)),.x (.p (.idx (.v 5) ↑1)),.x (.p (.idx (.v 5) ↑2))])) (.cons (.set 8 (.call "_law_due" (.cons (.v 1) (.cons (.v 2) (.cons (.v 3) .nil))))) .nil))
def Bo(I:gI Φ)(G:Be Φ c)(P:Ic Φ){ns}{b o t}{L}{i j k}{s6 s7 s8}(D:L.Nodup)(hz:L.length<=75)(F:OkO 2 (some (.tree b)))(J:OkO 2 (some (.tree o)))(K:OkO 2 (some (.tree t)))(E:(Nd.tree b).rep L i)(C:(Nd.tree o).rep L j)(Q:(Nd.tree t).rep L k):
  ∃(L':List Th)(n:Nd)(m:Nat)(cs:A1),n.dep 2/\n.rep L' m/\Ex L L'/\ex Φ Γ [.lent (.scr ns),.dat (Nd.tree b).d,.dat (Nd.tree o).d,.dat (Nd.tree t).d,.io (vt c L),.own (.list [.int (i:Nat),.int (j:Nat),.int (k:Nat)]),s6,s7,s8] KG=some (.nx [.lent (.scr ns),.dat (Nd.tree b).d,.dat (Nd.tree o).d,.dat (Nd.tree t).d,.io (vt c L'),.own (.list [.int (i:Nat),.int (j:Nat),.int (k:Nat)]),s6,.dat (.tuple [.int (m:Nat),.list (cs.map .str)]),.dat (.tuple [n.d,.list (cs.map .str)])]):=by
 obtain⟨H,U,S⟩:=I;obtain⟨A,V,Y⟩:=G;obtain⟨y,W,Z⟩:=P;have q:=S ns 62
 by_cases z:mixF ns 62 % 4=0
 .obtain⟨m,L',M,a2,N⟩:=Y L .none none j k o t D rfl C Q nofun J.tree K.tree @4
  have d:=Z none o t nofun J K;refine(L',_,m,(mT (mE 1) Str.empty none o t).2,Ba 1 Str.empty none J.tree K.tree,a2,N,?_);simp only[Option.map_none]at *;generalize mT (mE 1) Str.empty none o t=R at *;rw[show oD none=.none from rfl,show oD (some (.tree o))=(Nd.tree o).d from rfl,show oD (some (.tree t))=(Nd.tree t).d from rfl]at d;generalize (Nd.tree b).d=B at *;generalize (Nd.tree o).d=O at *;generalize (Nd.tree t).d=T at *;generalize (Nd.tree (Nds.of R.1)).d=X at *;simp[U,q,z,V,M,W,d]
 .obtain⟨m,L',M,a2,N⟩:=Y L (.int i) (some b) j k o t D (i,rfl,E) C Q F J.tree K.tree @4
  have d:=Z (some b) o t F J K;refine(L',_,m,(mT (mE 1) Str.empty (some (.tree b)) o t).2,Ba 1 Str.empty (some (.tree b)) J.tree K.tree,a2,N,?_);simp only[mo0]at *;generalize mT (mE 1) Str.empty (some (.tree b)) o t=R at *;rw[show oD (some (.tree b))=(Nd.tree b).d from rfl,show oD (some (.tree o))=(Nd.tree o).d from rfl,show oD (some (.tree t))=(Nd.tree t).d from rfl]at d;generalize (Nd.tree b).d=B at *;generalize (Nd.tree o).d=O at *;generalize (Nd.tree t).d=T at *;generalize (Nd.tree (Nds.of R.1)).d=X at *;simp[U,q,z,V,M,W,d]
def KH(G:gI Φ)(hF:uP Φ 2)(hT:mI Φ 2)(hs:oC Φ c 2)(hM:Be Φ c)(hD:Ic Φ)(hG:Bl Φ c)(hS:kB Φ c 2)(ns):ans Φ Γ (lZ c) [.scr ns]=some (.bool true):=by
 have X:=λr=>(show ∃q:List Int,(∀x∈q,x=0\/x=1\/x=2)/\0∈q/\1∈q/\2∈q/\q.length=3/\ev Φ Γ .walk (.lent (.scr ns)::r) Na=some (.list (q.map .int)) by
   obtain⟨r1,U,Q⟩:=G;have h:mixF ns 61 % 3=0\/mixF ns 61 % 3=1\/mixF ns 61 % 3=2:=by lia
   have q:=Q ns 61;rcases h with h|h|h
   .exact([0,1,2],by simp,by simp,by simp,by simp,rfl,by simp_all)
   .exact([2,1,0],by simp,by simp,by simp,by simp,rfl,by simp[U,q,h])
   .exact([1,2,0],by simp,by simp,by simp,by simp,rfl,by simp[U,q,h]))
 have V:=λ{b o t L i j k s6 s7 s8}=>Bo (Γ:=Γ) G hM hD (ns:=ns) (b:=b) (o:=o) (t:=t) (L:=L) (i:=i) (j:=j) (k:=k) (s6:=s6) (s7:=s7) (s8:=s8)
 obtain⟨r1,U,Q⟩:=G;obtain⟨l,A,g⟩:=hF;obtain⟨p,y,f⟩:=hT;obtain⟨b,B,_,b2⟩:=g ns 0;obtain⟨O,o1,o2,o3⟩:=f ns 2 (.tree b) B;obtain⟨T,t1,t2,t3⟩:=f ns 3 (.tree b) B;obtain⟨o,rfl⟩:=o2 b rfl;obtain⟨t,rfl⟩:=t2 b rfl;obtain⟨u,u1,_,u2⟩:=g ns 4;have q:=Q ns 60;have head:∃K:Nds,(Nd.tree K).ok 4 2/\ex Φ Γ [.lent (.scr ns),.dat (Nd.tree b).d,.dat (Nd.tree o).d,.dat (Nd.tree t).d,.fr,.no,.no,.no,.no] (.ifs (.cmp .eq (.op .mod (.call "_law_mix" (.cons (.v 0) (.cons ↑60 .nil))) ↑5) ↑0) (.cons (.set 3 (.call "_law_folder" (.cons (.v 0) (.cons ↑4 (.cons ↑2 .nil))))) .nil) .nil)=some (.nx [.lent (.scr ns),.dat (Nd.tree b).d,.dat (Nd.tree o).d,.dat (Nd.tree K).d,.fr,.no,.no,.no,.no]):=by
  by_cases z:mixF ns 60 % 5=0
  .exact(u,Nd.ok34 _ _ u1,by simp[U,q,z,A,show l [.scr ns,.int 4,.int 2]=some (Nd.tree u).d from u2])
  .exact(t,t1,by simp[U,q,z])
 obtain⟨K,H,hd⟩:=head;have M:OkO 2 (some (.tree b)):=λn e=>by cases e;erw[Nd.ok34 _ _ B]
 have N:OkO 2 (some (.tree o)):=λn e=>by cases e;erw[o1]
 have R:OkO 2 (some (.tree K)):=λn e=>by cases e;erw[H]
 obtain⟨q0,p1,p2,p3,p4,p5,p6⟩:=X [.dat (Nd.tree b).d,.dat (Nd.tree o).d,.dat (Nd.tree K).d,.io (vt c []),.own (.list [.int 0,.int 0,.int 0]),.no,.no,.no];simp only[ans_e,lZ];have s1:ex Φ Γ [.lent (.scr ns),.no,.no,.no,.fr,.no,.no,.no,.no] (.set 1 (.call "_law_folder" (.cons (.v 0) (.cons ↑0 (.cons ↑2 .nil)))))=some (.nx [.lent (.scr ns),.dat (Nd.tree b).d,.no,.no,.fr,.no,.no,.no,.no]):=by
  simp[A,show l [.scr ns,.int 0,.int 2]=some (Nd.tree b).d from b2]
 have s2:ex Φ Γ [.lent (.scr ns),.dat (Nd.tree b).d,.no,.no,.fr,.no,.no,.no,.no] (.set 2 (.call "_law_turn" (.cons (.v 0) (.cons ↑2 (.cons (.v 1) (.cons ↑2 .nil))))))=some (.nx [.lent (.scr ns),.dat (Nd.tree b).d,.dat (Nd.tree o).d,.no,.fr,.no,.no,.no,.no]):=by
  simp[y,show p [.scr ns,.int 2,(Nd.tree b).d,.int 2]=some (Nd.tree o).d from o3]
 have s3:ex Φ Γ [.lent (.scr ns),.dat (Nd.tree b).d,.dat (Nd.tree o).d,.no,.fr,.no,.no,.no,.no] (.set 3 (.call "_law_turn" (.cons (.v 0) (.cons ↑3 (.cons (.v 1) (.cons ↑2 .nil))))))=some (.nx [.lent (.scr ns),.dat (Nd.tree b).d,.dat (Nd.tree o).d,.dat (Nd.tree t).d,.fr,.no,.no,.no,.no]):=by
  simp[y,show p [.scr ns,.int 3,(Nd.tree b).d,.int 2]=some (Nd.tree t).d from t3]
 have s4:ex Φ Γ [.lent (.scr ns),.dat (Nd.tree b).d,.dat (Nd.tree o).d,.dat (Nd.tree K).d,.fr,.no,.no,.no,.no] (.newv 4 c)=some (.nx [.lent (.scr ns),.dat (Nd.tree b).d,.dat (Nd.tree o).d,.dat (Nd.tree K).d,.io (vt c []),.no,.no,.no,.no]):=by
  simp[lh]
 have s5:ex Φ Γ [.lent (.scr ns),.dat (Nd.tree b).d,.dat (Nd.tree o).d,.dat (Nd.tree K).d,.io (vt c []),.no,.no,.no,.no] (.new 5 (.lst (.cons ↑0 (.cons ↑0 (.cons ↑0 .nil)))))=some (.nx [.lent (.scr ns),.dat (Nd.tree b).d,.dat (Nd.tree o).d,.dat (Nd.tree K).d,.io (vt c []),.own (.list [.int 0,.int 0,.int 0]),.no,.no,.no]):=by
  simp
 rw[show br ([true],9,_,.mk 4) [.scr ns]=[.lent (.scr ns),.no,.no,.no,.fr,.no,.no,.no,.no] from rfl,exs_c,s1,cp,exs_c,s2,cp,exs_c,s3,cp,exs_c,hd,cp,exs_c,s4,cp,exs_c,s5,cp,exs_c,ex_for,ev_i,I.seq,p6,bs0,jG,bs0];refine gP (inj:=D.int) (F:=λs:List Th×Nat×Nat×Nat×Sl=>[.lent (.scr ns),.dat (Nd.tree b).d,.dat (Nd.tree o).d,.dat (Nd.tree K).d,.io (vt c s.1),.own (.list [.int (s.2.1:Nat),.int (s.2.2.1:Nat),.int (s.2.2.2.1:Nat)]),s.2.2.2.2,.no,.no]) (s:=([],0,0,0,.no)) (J:=λq s=>Ie (.tree b) (.tree o) (.tree K) q s.1 s.2.1 s.2.2.1 s.2.2.2.1) (P:=λo=>cJ (.mk 4) (nxS Φ Γ o _)=_) (λs S=>?_) (λx q s S=>?_) (p1,.nil,by rw[p5];decide,.inl p2,.inl p3,.inl p4)
 .obtain⟨L,i,j,k,s6⟩:=s
  obtain⟨_,nd,E,W,Y,Z⟩:=S;have W:=W.resolve_left nofun;have Y:=Y.resolve_left nofun;have Z:=Z.resolve_left nofun;simp only[]at *;obtain⟨L',n,m,cs,d1,d2,C,d4⟩:=V (s6:=s6) (s7:=.no) (s8:=.no) nd (by simpa using E) M N R W Y Z;obtain⟨w,e⟩:=DX (Γ:=Γ) hG hS (cs:=cs) (s0:=.lent (.scr ns)) (s6:=s6) (Nd.dep_ok (M _ rfl)) (Nd.dep_ok (N _ rfl)) (Nd.dep_ok (R _ rfl)) d1 (Nd.rep_ex C _ _ W) (Nd.rep_ex C _ _ Y) (Nd.rep_ex C _ _ Z) d2;rw[cp,exs_c,d4,cp,e];rfl
 .obtain⟨L,i,j,k,s6⟩:=s
  obtain⟨L',i',j',k',a,e⟩:=Bn (Γ:=Γ) hs (M _ rfl) (N _ rfl) (R _ rfl) (s0:=.lent (.scr ns)) (s6:=s6) (s7:=.no) (s8:=.no) S;exact((L',i',j',k',.dat (.int x)),a,e)
end TX
noncomputable section
namespace K40
open PySem L2 L2.Z SI TX
noncomputable def gam:List (Str×D):=[("LONGEST_NAME",.int 12),("OURS_MARK",.str ⟨#[60,60,60,60,60,60,60,10]⟩),("MIDDLE_MARK",.str ⟨#[61,61,61,61,61,61,61,10]⟩),("THEIRS_MARK",.str ⟨#[62,62,62,62,62,62,62,10]⟩)]
noncomputable def cst:List Str:=["LONGEST_NAME","OURS_MARK","MIDDLE_MARK","THEIRS_MARK"]
noncomputable def vms:List Str:=["kind","held","content"]
noncomputable def io:IoC:={ios:=[("blob",0),("tree",0),("merged_trees",0),("merged_by_names",0),("merged_entry",0),("none_if_empty",0),("merged_blobs",0),("_law_store",0),("_law_entry",2),("_law_sides",2)],vn:=some "Vault",owns:=["_law_told"]}
def prog:List (Str×Def):=("is_name_sign",bA)::("is_name",eU)::("names_rise",cg)::("joined",gu)::("text_of",(eV cV))::("entries_of",(cj cV))::("entries_by_name",(aQ cV))::("refuse_wrong_names",aI)::("refuse_what_is_no_tree",(aB cV))::("lines_of",dF)::("paired",gy)::("common_counts",bf)::("count_row",cK)::("merged_text",bR)::("parts_of",dG)::("fixed_places",bB)::("cut",ur)::("both_changed",bC)::("changed_side",bD)::("settled",eW)::("closed",gz)::("kind_of",(eX cV))::("_law_cell",eB)::("_law_mix",jg)::("_law_whole",iD)::("_law_sign",gA)::("_law_line",gB)::("_law_ends",gC)::("_law_row",jh)::("_law_edited",dH)::("_law_name",bE)::("_law_lines",bN)::("_law_node",di)::("_law_folder",cF)::("_law_turn",bF)::("_law_seen",(dj cV))::("_law_most",gE)::("_law_walk",gF)::("_law_part",gG)::("_law_both",gH)::("_law_due",jj)::("_law_good_merge",bG)::("law",(lZ cV))::("blob",(nY cV))::("tree",(nZ cV))::("merged_trees",bH)::("merged_by_names",aJ)::("merged_entry",aS)::("none_if_empty",bg)::("merged_blobs",bI)::("_law_store",dm)::("_law_entry",cv)::("_law_sides",dq)::(bL "kind",(eC cV))::(bL "held",(eE cV))::(bL "content",(bX cV))::[]
noncomputable def fns:List Str:=(prog.take 43).map (·.1)
theorem ti:uq (met 0):=⟨(_,_,_,_,_,_,_,_,rfl)⟩
theorem tp:zo (met 5):=((_,_,_,_,_,_,_,_,_,_,_,_,_,_,_,_,_,_,_,_,_,_,_,_,_,rfl,rfl),by decide +kernel)
def scB(ps:A1)(J:Stmt):Bool:=decide ((defScope J).kind=.function/\(defScope J).isCoroutine=false/\(defScope J).isGenerator=false/\(ps++aC (defScope J) ps).Nodup/\(ps++aC (defScope J) ps).take ps.length=ps/\(∀x∈ps,(defScope J).names.lookup x=some .local\/(defScope J).names.lookup x=some .cell)/\∀y∈(defScope J).names,y.2≠.free)
theorem Bp{ps:A1}{J:Stmt}(h:scB ps J=true):cf (ps++aC (defScope J) ps) ps (defScope J):=
 have⟨a,b,c,d,e,f,g⟩:=od0 h
 (a,b,c,d,e,f,g)
structure FF(x q:Str)(st:Stmt)(f cd:Addr)(pm:Value)(ps:A1):Prop where
 l:∀P,(kk P).lookup f=some (fo x q st pm cd):=by intro;kernel_rfl
 c:∀P,(PySem.W.codeIn (kk P) (.ref cd) q&&PySem.W.keepIn (kk P) (.ref f))=true:=by intro;kernel_rfl
 s:scB ps st=true:=by kernel_rfl
 d:ef st=some (ps,defBody st,defScope st):=by rfl
 b:∀(kV doc pm:Value)(an:Option Addr)(cdv ct:Value),aVv ps.length λus=>bindArgs (PySem.W.fnOf x q (defArgs st) (defBody st) @8 .none kV doc pm an cdv ct) ⟨us,[]⟩=pure (ps.zip us):=by (repeat intro _);exact rfl
section
variable {q:Str}{st:Stmt}{f cd:Addr}{pm:Value}{ps:A1}{P:Params}
abbrev FT(x:Str)(i:Nat)(cd:Addr)(pm:Value)(ps:A1):Prop:=FF x x (top i) (cd+1) cd pm ps
theorem FF.fn(F:FF x q st f cd pm ps)(P:Params):Fun (kk P) x q st f (PySem.W.fnOf x q (defArgs st) (defBody st) @8 .none .none .none pm none (.ref cd) .none):=FW (F.l P) (ax0 (F.c P)).1 (ax0 (F.c P)).2
def FF.v(F:FF x q st f cd pm ps):=λa b c d e f=>lenN (F.b a b c d e f)
theorem mkD{d:Def}(F:FF x x st f cd pm ps)(X:(kk P).In h)(G:h.Ns mainGlobals mg)(a:PySem.W.nsIn (kk P) mainGlobals x=some (some (.ref f)):=by kernel_rfl)(c:sR fns cst d.lent d.k st (some cV) vms io=some d:=by kernel_rfl)(e:d.lent.length=ps.length:=by rfl):Ai (kk P) mg fns cst (some cV) vms io x d:=
 ⟨(st,f,_,ps,F.fn P,PySem.W.mg_of X G a,(F.fn P).binds F.v,Bp F.s,F.d,c,e)⟩
theorem noV{J:Prop}(z:fns.contains x=true\/(io.ios.lookup x).isSome=true)(a:fns.contains x=false)(b:(io.ios.lookup x).isSome=false):J:=by
 rcases z with z|z
 .rw[a]at z;cases z
 .rw[b]at z;cases z
theorem mn{n:Str}(X:(kk P).In h)(G:h.Ns mainGlobals mg)(e:PySem.W.nsIn (kk P) mainGlobals n=some none:=by kernel_rfl):mg n=none:=PySem.W.mg_none_of X G e
theorem mo{n:Str}{v:Value}(X:(kk P).In h)(G:h.Ns mainGlobals mg)(e:PySem.W.nsIn (kk P) mainGlobals n=some (some v):=by kernel_rfl):mg n=some v:=PySem.W.mg_of X G e
theorem mkT(F:FF x q st f cd pm ps)(a:PySem.W.findIn (kk P) (.ref cV) x=some (some (.ref f)):=by kernel_rfl)(n:PySem.W.isFn (kk P) (.ref f)=true:=by kernel_rfl):nr (kk P) cV x f:=(a,n,(ax0 (F.c P)).2)
theorem mkV{d:Def}(F:FF x (bL x) st f cd pm ps)(T:nr (kk P) cV x f)(n:x≠"objects"/\x≠"numbers")(c:sR fns cst d.lent .pure st (some cV) vms io=some d:=by kernel_rfl)(e:d.lent.length=ps.length:=by rfl):DF (kk P) fns cst cV vms io x d:=
 (n,(st,f,_,ps,F.fn P,T,(F.fn P).binds F.v,Bp F.s,F.d,c,e))
end
theorem F3:FT "is_name_sign" 3 27 m0 ["sign"]:={}
theorem F4:FT "is_name" 4 32 m0 ["text"]:={}
theorem F5:FT "names_rise" 5 37 m0 ["names"]:={}
theorem F6:FT "joined" 6 44 m0 ["path","name"]:={}
theorem F15:FT "text_of" 15 163 m1 ["vault","number"]:={}
theorem F16:FT "entries_of" 16 170 m1 ["vault","number"]:={}
theorem F17:FT "entries_by_name" 17 177 m1 ["vault","number"]:={}
theorem F18:FT "refuse_wrong_names" 18 184 m1 ["names"]:={}
theorem F19:FT "refuse_what_is_no_tree" 19 191 m1 ["vault","number"]:={}
theorem F21:FT "lines_of" 21 196 m2 ["text"]:={}
theorem F22:FT "paired" 22 203 m2 ["one","other"]:={}
theorem F23:FT "common_counts" 23 210 m2 ["one","other"]:={}
theorem F24:FT "count_row" 24 217 m2 ["line","other","behind"]:={}
theorem F29:FT "merged_text" 29 224 m3 ["base","ours","theirs"]:={}
theorem F30:FT "parts_of" 30 229 m3 ["rows"]:={}
theorem F31:FT "fixed_places" 31 234 m3 ["base","ours","theirs"]:={}
theorem F32:FT "cut" 32 239 m3 ["rows","starts","stops"]:={}
theorem F33:FT "both_changed" 33 246 m3 ["base","ours","theirs"]:={}
theorem F34:FT "changed_side" 34 253 m3 ["base","ours","theirs"]:={}
theorem F35:FT "settled" 35 260 m3 ["base","ours","theirs"]:={}
theorem F36:FT "closed" 36 265 m3 ["lines"]:={}
theorem F43:FT "kind_of" 43 307 m4 ["vault","number"]:={}
theorem F45:FT "_law_cell" 45 314 m5 ["_law_script","_law_k"]:={}
theorem F46:FT "_law_mix" 46 321 m5 ["_law_script","_law_k"]:={}
theorem F47:FT "_law_whole" 47 328 m5 ["_law_found"]:={}
theorem F48:FT "_law_sign" 48 335 m5 ["_law_number"]:={}
theorem F49:FT "_law_line" 49 342 m5 ["_law_script","_law_k"]:={}
theorem F50:FT "_law_ends" 50 347 m5 ["_law_row_here","_law_cut"]:={}
theorem F51:FT "_law_row" 51 352 m5 ["_law_script","_law_base","_law_many"]:={}
theorem F52:FT "_law_edited" 52 359 m5 ["_law_script","_law_base","_law_row_here"]:={}
theorem F53:FT "_law_name" 53 364 m5 ["_law_script","_law_k"]:={}
theorem F54:FT "_law_lines" 54 369 m5 ["_law_text"]:={}
theorem F55:FT "_law_node" 55 376 m5 ["_law_script","_law_k","_law_deep"]:={}
theorem F56:FT "_law_folder" 56 381 m5 ["_law_script","_law_k","_law_deep"]:={}
theorem F57:FT "_law_turn" 57 386 m5 ["_law_script","_law_k","_law_node_here","_law_deep"]:={}
theorem F59:FT "_law_seen" 59 396 m5 ["_law_vault","_law_number"]:={}
theorem F60:FT "_law_most" 60 401 m5 ["_law_one","_law_other"]:={}
theorem F61:FT "_law_walk" 61 408 m5 ["_law_one","_law_other"]:={}
theorem F62:FT "_law_part" 62 415 m5 ["_law_base","_law_ours","_law_theirs"]:={}
theorem F63:FT "_law_both" 63 420 m5 ["_law_base","_law_ours","_law_theirs"]:={}
theorem F66:FT "_law_due" 66 437 m5 ["_law_base","_law_ours","_law_theirs"]:={}
theorem F67:FT "_law_good_merge" 67 444 m5 ["_law_vault","_law_found","_law_due_here"]:={}
theorem F68:FT "law" 68 449 m5 ["_law_script"]:={}
theorem F13:FT "blob" 13 151 m1 ["vault","text"]:={}
theorem F14:FT "tree" 14 156 m1 ["vault","entries"]:={}
theorem F38:FT "merged_trees" 38 272 m4 ["vault","base","ours","theirs"]:={}
theorem F39:FT "merged_by_names" 39 279 m4 ["vault","base","ours","theirs","path"]:={}
theorem F40:FT "merged_entry" 40 286 m4 ["vault","base","ours","theirs","path"]:={}
theorem F41:FT "none_if_empty" 41 293 m4 ["vault","made"]:={}
theorem F42:FT "merged_blobs" 42 300 m4 ["vault","base","ours","theirs","path"]:={}
theorem F58:FT "_law_store" 58 391 m5 ["_law_vault","_law_node_here"]:={}
theorem F64:FT "_law_entry" 64 425 m5 ["_law_path","_law_sides_here","_law_told"]:={}
theorem F65:FT "_law_sides" 65 430 m5 ["_law_path","_law_sides_here","_law_told"]:={}
theorem Fm0:FF "__init__" "Vault.__init__" (met 0) 96 95 m1 ["self"]:={}
theorem Fm5:FF "put" "Vault.put" (met 5) 131 130 m1 ["self","made"]:={}
theorem Fm2:FF "kind" "Vault.kind" (met 2) 110 109 m1 ["self","number"]:={}
theorem Fm3:FF "held" "Vault.held" (met 3) 117 116 m1 ["self","number"]:={}
theorem Fm4:FF "content" "Vault.content" (met 4) 124 123 m1 ["self","number","wanted"]:={}
abbrev dn(k:Nat):Fs:=den prog gam k
theorem KI(k:Nat):EI (dn (k+1)):=ae (d:=eB) rfl λJ j=>by rw[run_eq rfl];erw[zu J j]
theorem kF(k:Nat):gI (dn (k+2)):=ae (d:=jg) rfl λJ j=>by rw[run_eq rfl];erw[CV (KI k) J j]
theorem KJ(k:Nat):Aw (dn (k+1)):=ae (d:=gA) rfl λn=>by rw[run_eq rfl];erw[Ks n]
theorem Fk(k:Nat):sV (dn (k+3)):=ae (d:=gB) rfl λJ j=>by rw[run_eq rfl];erw[Kt (kF k) (KJ (k+1)) J j]
theorem KL(k:Nat):EN (dn (k+4)):=ae (d:=jh) rfl λK b n J=>by rw[run_eq rfl];erw[MW (Fk k) K b n J]
theorem rA(k:Nat):sW (dn (k+1)):=ae (d:=gC) rfl λJ b j m K M N O=>by rw[run_eq rfl];erw[Ku J b j m K M N O]
theorem hName(k:Nat):HNm (dn (k+3)):=ae (d:=bE) rfl λJ j=>by rw[run_eq rfl];erw[nmE (kF k) J j]
theorem DY(k:Nat):uu (dn (k+1)):=ae (d:=bA) rfl λc=>by rw[run_eq rfl];erw[MU c]
theorem DZ(k:Nat):uv (dn (k+2)):=ae (d:=eU) rfl λx h=>by rw[run_eq rfl];erw[MV (DY k) rfl x h]
theorem KM(k:Nat):An (dn (k+1)):=ae (d:=cg) rfl λK J=>by rw[run_eq rfl];erw[Ko K J]
theorem Nc(k:Nat):Kq (dn (k+3)):=ae (d:=aI) rfl λK J=>by rw[run_eq rfl];erw[DI (DZ k) (KM (k+1)) K J]
theorem Fl(k:Nat):zz (dn (k+1)) cV:=ae (d:=(eE cV)) rfl λh K n d J=>by rw[run_eq rfl];erw[zA h K n d J]
theorem mY(k:Nat):qi (dn (k+2)) cV:=ae (d:=(eC cV)) rfl λh M n kk J K=>by rw[run_eq rfl];erw[zB (Fl k) h M n kk J K]
theorem kG(k:Nat):gJ (dn (k+2)) cV:=ae (d:=(bX cV)) rfl λh K n kk d J=>by rw[run_eq rfl];erw[qj (Fl k) h K n kk d J]
theorem eO(k:Nat):gK (dn (k+3)) cV:=ae (d:=(cj cV)) rfl λh M n J K=>by rw[run_eq rfl];erw[qk (kG k) h M n J K]
theorem vD(k:Nat):uX (dn (k+3)) cV:=ae (d:=(eV cV)) rfl λL n t h=>by rw[run_eq rfl];erw[AH (kG k) L n t h]
theorem vE(k:Nat):oP (dn (k+1)):=ae (d:=gu) rfl λp x J K=>by rw[run_eq rfl];erw[tN p x J K]
theorem Bq(k:Nat):qH (dn (k+5)) 0:=ae (d:=di) rfl λJ j=>by rw[run_eq rfl];erw[qI (kF (k+2)) (KL k) (rA (k+3)) 0 (λz=>absurd z @2) J j]
theorem Ig(k:Nat):uP (dn (k+6)) 1:=ae (d:=cF) rfl λJ j=>by rw[run_eq rfl];erw[km (kF (k+3)) (hName (k+2)) 0 (Bq k) J j]
theorem Br(k:Nat):qH (dn (k+7)) 1:=ae (d:=di) rfl λJ j=>by rw[run_eq rfl];erw[qI (kF (k+4)) (KL (k+2)) (rA (k+5)) 1 (λa=>Ig k) J j]
theorem Ih(k:Nat):uP (dn (k+8)) 2:=ae (d:=cF) rfl λJ j=>by rw[run_eq rfl];erw[km (kF (k+5)) (hName (k+4)) 1 (Br k) J j]
theorem tV(k:Nat):Ay (dn (k+1)):=ae (d:=bN) rfl λx J=>by rw[run_eq rfl];erw[xi x J]
theorem Bt(k:Nat):EO (dn (k+4)):=ae (d:=dH) rfl λK j M J=>by rw[run_eq rfl];erw[sX (kF (k+1)) (Fk k) K j M J]
theorem Ii(k:Nat):mI (dn (k+5)) 0:=ae (d:=bF) rfl λK j a J=>by rw[run_eq rfl];erw[ko (kF (k+2)) (hName (k+1)) (tV (k+3)) (Bt k) (rA (k+3)) 0 nofun K j a J]
theorem Ij(k:Nat):mI (dn (k+6)) 1:=ae (d:=bF) rfl λK j a J=>by rw[run_eq rfl];erw[ko (kF (k+3)) (hName (k+2)) (tV (k+4)) (Bt (k+1)) (rA (k+4)) 1 (λb e=>by cases e;exact(Bq k,Ii k)) K j a J]
theorem Ik(k:Nat):mI (dn (k+8)) 2:=ae (d:=bF) rfl λK j a J=>by rw[run_eq rfl];erw[ko (kF (k+5)) (hName (k+4)) (tV (k+6)) (Bt (k+3)) (rA (k+6)) 2 (λb e=>by cases e;exact(Br k,Ij (k+1))) K j a J]
theorem Bu(k:Nat):As (dn (k+1)) cV:=ae (d:=(nY cV)) rfl λL x J=>by rw[run_eq rfl];erw[Au L x J]
theorem vF(k:Nat):Ap (dn (k+4)) cV:=ae (d:=(nZ cV)) rfl λL J K M N=>by rw[run_eq rfl];erw[Aq (Nc k) (mY (k+1)) L J K M N]
theorem Bv:∀(m k:Nat),oC (dn (k+m+5)) cV m
 |0,k=>ae (k:=k+4) (d:=dm) rfl λL n a b=>by rw[run_eq rfl];erw[mH (Bu (k+3)) (vF k) 0 (λc z=>by cases z) L n a b]
 |m+1,k=>ae (k:=k+m+5) (d:=dm) rfl λL n a b=>by rw[run_eq rfl];erw[mH (Bu (k+m+4)) (vF (k+m+1)) (m+1) (λc z=>by cases z;exact Bv m k) L n a b]
theorem Eb(k:Nat):vm (dn (k+3)) cV:=ae (d:=(aB cV)) rfl λL n J h=>by rw[run_eq rfl];erw[tP (kG k) L n J h]
theorem oY(k:Nat):jo (dn (k+3)) cV:=ae (d:=(eX cV)) rfl λL d o h=>by rw[run_eq rfl];erw[tB (mY k) L d o h]
theorem vG(k:Nat):uY (dn (k+4)) cV:=ae (d:=(aQ cV)) rfl λL d o J K=>by rw[run_eq rfl];erw[tE (mY (k+1)) (eO k) L d o J K]
theorem Bw(k:Nat):qQ (dn (k+1)):=ae (d:=dF) rfl λx h=>by rw[run_eq rfl];erw[oG x h]
theorem xA(k:Nat):mK (dn (k+1)):=ae (d:=cK) rfl λa J K h=>by rw[run_eq rfl];erw[kR a J K h]
theorem Ec(k:Nat):uT (dn (k+2)):=ae (d:=bf) rfl λJ K M N=>by rw[run_eq rfl];erw[tf (xA k) J K M N]
theorem Ed(k:Nat):uU (dn (k+3)):=ae (d:=gy) rfl λJ K M N=>by rw[run_eq rfl];erw[tq (Ec k) J K M N]
theorem Ee(k:Nat):uZ (dn (k+4)):=ae (d:=bB) rfl λB O T J K M=>by rw[run_eq rfl];erw[tH (Ed k) B O T J K M]
theorem Nf(k:Nat):Kx (dn (k+1)):=ae (d:=ur) rfl λB O T s e=>by rw[run_eq rfl];erw[DL B O T s e]
theorem Il(k:Nat):AL (dn (k+5)):=ae (d:=dG) rfl λB O T J K M=>by rw[run_eq rfl];erw[xr (Ee k) (Nf (k+3)) B O T J K M]
theorem vH(k:Nat):vd (dn (k+1)):=ae (d:=bC) rfl λb o t J K M=>by rw[run_eq rfl];erw[AM b o t J K M]
theorem By(k:Nat):AN (dn (k+1)):=ae (d:=bD) rfl λb o t J K=>by rw[run_eq rfl];erw[AO b o t J K]
theorem Ef(k:Nat):ve (dn (k+1)):=ae (d:=gz) rfl λM J K=>by rw[run_eq rfl];erw[tI M J K]
theorem Bz(k:Nat):qS (dn (k+2)):=ae (d:=eW) rfl λp J K=>by rw[run_eq rfl];erw[qT (rfl,rfl,rfl) (vH k) (Ef k) (By k) p J K]
theorem Eg(k:Nat):vh (dn (k+6)):=ae (d:=bR) rfl λx y z J K M=>by rw[run_eq rfl];erw[tJ (Bw (k+4)) (Il k) (vH (k+4)) (Bz (k+3)) x y z J K M]
theorem vI(k:Nat):vo (dn (k+7)) cV:=ae (d:=bI) rfl λL J b x y i j p K M N O R U V=>by rw[run_eq rfl];erw[tQ (oY (k+3)) (vD (k+3)) (Eg k) (Bu (k+5)) L J b x y i j p K M N O R U V]
theorem Fm(k:Nat):Fc (dn (k+4)) cV:=ae (d:=bg) rfl λL n K J h=>by rw[run_eq rfl];erw[Bd (eO k) L n K J h]
theorem Im(k:Nat):vq (dn (k+8)) cV 0:=ae (d:=aS) rfl λL J dO K b o t p M N O R U V W Y Z=>by rw[run_eq rfl];erw[rg 0 @2 (vH (k+6)) (By (k+6)) (oY (k+4)) (Fm (k+3)) (vI k) nofun L J dO K b o t p M N O R U V W Y Z]
theorem Io(k:Nat):vx (dn (k+9)) cV 0:=ae (d:=aJ) rfl λL J b i j o t p K M N O R U V W Y=>by rw[run_eq rfl];erw[mU 0 @2 (Im k) (vG (k+4)) (vE (k+7)) (vF (k+4)) L J b i j o t p K M N O R U V W Y]
theorem Ip(k:Nat):vq (dn (k+10)) cV 1:=ae (d:=aS) rfl λL J dO K b o t p M N O R U V W Y Z=>by rw[run_eq rfl];erw[rg 1 @2 (vH (k+8)) (By (k+8)) (oY (k+6)) (Fm (k+5)) (vI (k+2)) (λa e=>by cases e;exact Io k) L J dO K b o t p M N O R U V W Y Z]
theorem Iq(k:Nat):vx (dn (k+11)) cV 1:=ae (d:=aJ) rfl λL J b i j o t p K M N O R U V W Y=>by rw[run_eq rfl];erw[mU 1 @2 (Ip k) (vG (k+6)) (vE (k+9)) (vF (k+6)) L J b i j o t p K M N O R U V W Y]
theorem KN(k:Nat):Be (dn (k+12)) cV:=ae (d:=bH) rfl λL J b i j o t K M N O R U V W=>by rw[run_eq rfl];erw[tS (Eb (k+8)) (Iq k) L J b i j o t K M N O R U V W]
theorem KO(k:Nat):EU (dn (k+1)):=ae (d:=gE) rfl λJ K M N=>by rw[run_eq rfl];erw[AG J K M N]
theorem KP(k:Nat):EV (dn (k+2)):=ae (d:=gF) rfl λJ K M N=>by rw[run_eq rfl];erw[AE (KO k) J K M N]
theorem KQ(k:Nat):AS (dn (k+1)):=ae (d:=gG) rfl λp J K=>by rw[run_eq rfl];erw[AU p J K]
theorem BA(k:Nat):tM (dn (k+3)):=ae (d:=gH) rfl λB O T J K M N R=>by rw[run_eq rfl];erw[xx (KP k) (KQ (k+1)) B O T J K M N R]
theorem vJ(k:Nat):oH (dn (k+1)):=ae (d:=bN) rfl λx h=>by rw[run_eq rfl];erw[tG x h]
theorem Ir(k:Nat):vz (dn (k+4)) 0:=ae (d:=cv) rfl λp b o t told J K M N O=>by rw[run_eq rfl];erw[rp 0 @2 @2 (vJ (k+2)) (BA k) nofun p b o t told J K M N O]
theorem Iu(k:Nat):rh (dn (k+5)) 0:=ae (d:=dq) rfl λp b o t told J K M N O=>by rw[run_eq rfl];erw[mW 0 @2 (Ir k) p b o t told J K M N O]
theorem Iv(k:Nat):vz (dn (k+6)) 1:=ae (d:=cv) rfl λp b o t told J K M N O=>by rw[run_eq rfl];erw[rp 1 @2 @2 (vJ (k+4)) (BA (k+2)) (λa e=>by cases e;exact Iu k) p b o t told J K M N O]
theorem Iw(k:Nat):rh (dn (k+7)) 1:=ae (d:=dq) rfl λp b o t told J K M N O=>by rw[run_eq rfl];erw[mW 1 @2 (Iv k) p b o t told J K M N O]
theorem Ng(k:Nat):Ic (dn (k+8)):=ae (d:=jj) rfl λb o t J K M=>by rw[run_eq rfl];erw[DV (Iw k) b o t J K M]
theorem Iy(k:Nat):Bk (dn (k+1)):=ae (d:=iD) rfl λn=>by rw[run_eq rfl];erw[whole_run n]
theorem Iz(k:Nat):kB (dn (k+4)) cV 0:=ae (d:=(dj cV)) rfl λL n i J K=>by rw[run_eq rfl];erw[kC 0 (mY (k+1)) (vD k) (eO k) nofun L n i J K]
theorem IA(k:Nat):kB (dn (k+5)) cV 1:=ae (d:=(dj cV)) rfl λL n i J K=>by rw[run_eq rfl];erw[kC 1 (mY (k+2)) (vD (k+1)) (eO (k+1)) (λa e=>by cases e;exact Iz k) L n i J K]
theorem BB(k:Nat):kB (dn (k+6)) cV 2:=ae (d:=(dj cV)) rfl λL n i J K=>by rw[run_eq rfl];erw[kC 2 (mY (k+3)) (vD (k+2)) (eO (k+2)) (λa e=>by cases e;exact IA k) L n i J K]
theorem KR(k:Nat):Bl (dn (k+7)) cV:=ae (d:=bG) rfl λL i n J K M=>by rw[run_eq rfl];erw[Bm (Iy (k+5)) (BB k) L i n J K M]
theorem holds(ns:List Int)(J:ns.length<=63):ans (dn 37) gam (lZ cV) [.scr ns]=some (.bool true):=KH (kF 35) (Ih 29) (Ik 29) (Bv 2 30) (KN 25) (Ng 29) (KR 30) (BB 31) ns
set_option maxHeartbeats 0 in
theorem all_mk{w:World}{Z:Addr}(P:Params)(X:(kk P).In h)(G:h.Ns mainGlobals mg)(U:mg "law"=some (.ref Z)):
  ∃T:FuncData,(∀(s:Shared)(v:Value),BindsTo s T ([v],[]) [("_law_script",v)])/\∀base:Heap,(kk P).In base->base.Ns mainGlobals mg->FnOk PySem.Challenge.pw_strata_k40_whole_merged_trees w (kk P) mg base CX0 40 Z T ["_law_script"] (Aj (kk P)):=by
 have e:=U.symm.trans (PySem.W.mg_of X G (by kernel_rfl:PySem.W.nsIn (kk P) mainGlobals "law"=some (some (.ref 450))));cases e;have K:Cls (kk P) cV:=((by kernel_rfl),(by kernel_rfl),(by kernel_rfl),(by kernel_rfl));have Y:PySem.W.findIn (kk P) (.ref cV) "objects"=some none:=by kernel_rfl
 have F:PySem.W.findIn (kk P) (.ref cV) "numbers"=some none:=by kernel_rfl
 have T0:=mkT (P:=P) Fm0;have I:=mkT (P:=P) Fm5;have D:=mkT (P:=P) Fm2;have C:=mkT (P:=P) Fm3;have S:=mkT (P:=P) Fm4;have defs:∀x d,(fns.contains x=true\/(io.ios.lookup x).isSome=true)->prog.lookup x=some d->Ai (kk P) mg fns cst (some cV) vms io x d:=λx d j J=>uL (Q:=λx d=>(fns.contains x=true\/(io.ios.lookup x).isSome=true)->Ai (kk P) mg fns cst (some cV) vms io x d) (prog:=prog) (λa=>mkD F3 X G,λa=>mkD F4 X G,λa=>mkD F5 X G,λa=>mkD F6 X G,λa=>mkD F15 X G,λa=>mkD F16 X G,λa=>mkD F17 X G,λa=>mkD F18 X G,λa=>mkD F19 X G,λa=>mkD F21 X G,λa=>mkD F22 X G,λa=>mkD F23 X G,λa=>mkD F24 X G,λa=>mkD F29 X G,λa=>mkD F30 X G,λa=>mkD F31 X G,λa=>mkD F32 X G,λa=>mkD F33 X G,λa=>mkD F34 X G,λa=>mkD F35 X G,λa=>mkD F36 X G,λa=>mkD F43 X G,λa=>mkD F45 X G,λa=>mkD F46 X G,λa=>mkD F47 X G,λa=>mkD F48 X G,λa=>mkD F49 X G,λa=>mkD F50 X G,λa=>mkD F51 X G,λa=>mkD F52 X G,λa=>mkD F53 X G,λa=>mkD F54 X G,λa=>mkD F55 X G,λa=>mkD F56 X G,λa=>mkD F57 X G,λa=>mkD F59 X G,λa=>mkD F60 X G,λa=>mkD F61 X G,λa=>mkD F62 X G,λa=>mkD F63 X G,λa=>mkD F66 X G,λa=>mkD F67 X G,λa=>mkD F68 X G,λa=>mkD F13 X G,λa=>mkD F14 X G,λa=>mkD F38 X G,λa=>mkD F39 X G,λa=>mkD F40 X G,λa=>mkD F41 X G,λa=>mkD F42 X G,λa=>mkD F58 X G,λa=>mkD F64 X G,λa=>mkD F65 X G,λz=>noV z (by kernel_rfl) (by kernel_rfl),λz=>noV z (by kernel_rfl) (by kernel_rfl),λz=>noV z (by kernel_rfl) (by kernel_rfl),trivial) x d J j
 have O:∀c m d,some cV=some c->vms.contains m=true->prog.lookup (bL m)=some d->DF (kk P) fns cst c vms io m d:=λc m d N V J=>by
  cases N;have V:m=("kind":Str)\/m=("held":Str)\/m=("content":Str):=by simpa [vms]using V
  rcases V with rfl|rfl|rfl
  .rw[show prog.lookup (bL "kind")=some (eC cV) by kernel_rfl]at J;cases J;erw[mkV Fm2 D @2]
  .rw[show prog.lookup (bL "held")=some (eE cV) by kernel_rfl]at J;cases J;erw[mkV Fm3 C @2]
  .rw[show prog.lookup (bL "content")=some (bX cV) by kernel_rfl]at J;cases J;erw[mkV Fm4 S @2]
 have R:∀x∈bltNames,mg x=none:=uJ (xs:=bltNames) (mn X G,mn X G,mn X G,mn X G,mn X G,mn X G,mn X G,mn X G,mn X G,mn X G,mn X G,mn X G,mn X G,mn X G,mn X G,mn X G,mn X G,trivial);have H:∀x d,gam.lookup x=some d->∃u v,mg x=some u/\RelV v u/\∀G,Dp (kk P) G d v:=uK (prog:=gam) ((.int 12 196,.int 12,mo X G,(_,rfl),λa=>.int _),(.str "<<<<<<<\n" 453,.str "<<<<<<<\n",mo X G,(_,rfl),λa=>.str _ (by kernel_rfl)),(.str "=======\n" 455,.str "=======\n",mo X G,(_,rfl),λa=>.str _ (by kernel_rfl)),(.str ">>>>>>>\n" 457,.str ">>>>>>>\n",mo X G,(_,rfl),λa=>.str _ (by kernel_rfl)),trivial);refine(PySem.W.fnOf "law" "law" (defArgs (top 68)) (defBody (top 68)) (defScope (top 68)) .none .none .none m5 none (.ref 449) .none,λs v=>.of_eq rfl,λbase y q=>?_)
 have E:jX PySem.Challenge.pw_strata_k40_whole_merged_trees w (kk P) mg base cV "Vault":=⟨(_,_,((by kernel_rfl),T0.1,T0.2,(by kernel_rfl)),mo X G,by decide,(Fm0.fn P).binds Fm0.v,CT (Fm0.fn P) (Bp Fm0.s) ti K Y F)⟩;have B:Base PySem.Challenge.pw_strata_k40_whole_merged_trees w (kk P) mg base gam (some cV) io:=(R,H,λc N=>by cases N;exact(K,Y),λc N a=>by cases N;exact(by decide,(_,_,_,K,I,(Fm5.fn P).binds Fm5.v,GQ (Fm5.fn P) (Bp Fm5.s) tp (mn X G) K Y F)),λc v N A=>by cases N;cases A;erw[E]);have M:=HK (P:=PySem.Challenge.pw_strata_k40_whole_merged_trees) (w:=w) (base:=base) (Γ:=gam) (prog:=prog) B defs (kinds_of (by kernel_rfl)) O 37
 exact HJ (uI (F68.fn P) (Bp F68.s) F68.d (by kernel_rfl:sR fns cst [true] (lZ cV).k (top 68) (some cV) vms io=some (lZ cV)) rfl M) rfl λg J=>by rw[run_eq rfl];erw[holds g J]
end K40
open PySem PySem.W PySem.W.X PyProof.Rows K40
set_option maxRecDepth 100000 in
set_option maxHeartbeats 0 in
theorem PySem.Challenge.cw_strata_k40_whole_merged_trees_holds : PySem.Challenge.rw_strata_k40_whole_merged_trees.Holds := by
 w_on
 refine PySem.W.holds_law ws0 λsaid=>?_
 refine PySem.W.holds_openX (q:=vw) (loose:=lo) (Xt:=λs=>xlAt vw [] s&&recOk (RowW.records (OpenRow.toRowW PySem.Challenge.rw_strata_k40_whole_merged_trees.row)) s) (XP:=XL vw []) (Yf:=obsZ ads) (Ya:=valZ kk 451 789) (d:=FX) (kwd:=[]) (N:=5574) hl (λs e=>xl_of s (ax0 e).1) XL.keeps (by kernel_rfl) (by kernel_rfl) (by kernel_rfl) (λs e=>recFacts_of (ax0 e).2) (by rfl) said (by decide +kernel) (rfl,rfl,rfl,rfl,rfl,by decide +kernel) ?hw ?hc
 case hw=>w_witness2
 case hc=>exact L2.Z.walkX (λP=>by kernel_rfl) (L2.Z.walk (l:=PySem.Challenge.rw_strata_k40_whole_merged_trees) rfl rfl (λw h Y=>Y) (λw mg fa h KX G hmg=>K40.all_mk w.params KX G hmg))

end
end

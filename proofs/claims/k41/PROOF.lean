import PyProof.Rows.All
import Wide.All
import OpenK.AllK
import Wide.FinOn
import PySem.Challenge.RW_strata_k41_whole_files_apart
set_option tactic.hygienic false
set_option genSizeOf false
set_option compiler.extract_closed false
set_option bootstrap.genMatcherCode false
set_option Elab.async false
set_option linter.all false
set_option maxRecDepth 100000
local macro_rules|`(tactic|erw[$t:term])=>`(tactic|exact $t)
set_option hygiene false in
local macro_rules
|`(@0)=>`((by simp))
|`(@1)=>`((by lia))
|`(@2)=>`((by decide))
|`(@3)=>`((model prog w))
|`(@4)=>`((model X.prog X.w))
|`(@5)=>`((by grind))
|`(@6)=>`((by simp_all))
|`(@7)=>`((aA X tn js))
|`(@8)=>`((A.ok c w))
|`(@9)=>`((defScope st))
|`(@10)=>`((.k (.str ⟨#[]⟩)))
|`(@11)=>`((.ref s.heap.objs.size))
|`(@12)=>`((.cons (.v 1) .nil))
|`(@13)=>`((.list (W.map thD)))
|`(@14)=>`((by decide +kernel))
|`(@15)=>`((apos.endLine==cpos.line))
local macro_rules|`(↑$n:num)=>`((.k (.int $n)))
local macro_rules|`(($a,$b,*))=>`(⟨$a,$b,*⟩)
noncomputable section
theorem ws0:PySem.Challenge.rw_strata_k41_whole_files_apart.wellSaid=true:=by decide +kernel
abbrev A0:=PySem.Value->PySem.Shared->Prop
abbrev A1:=List PySem.Str
abbrev A2:=List PySem.Value
abbrev A3:=List PySem.Expr
abbrev A4:=List PySem.Addr
abbrev A5:=List (PySem.Addr×PySem.Obj)
abbrev A6:=PySem.Str->Option PySem.Value
abbrev A7:=Unit->PySem.Shared->Prop
abbrev A8:=Nat->Nat->Bool
abbrev A9:=Array PySem.Value
def zn0{J:Type}{P:Prop}{e:J}(h:none=some e):P:=nomatch h
def gi0{J:Type}{l:List J}{i:Nat}{a:J}:l[i]?=some a->∃h:i<l.length,l[i]=a:=List.getElem?_eq_some_iff.1
def bf0{a:Bool}:¬a=true->a=false:=Bool.eq_false_iff.2
def is0{J:Type}{x:Option J}:x.isSome=true->∃a,x=some a:=Option.isSome_iff_exists.1
def lp0{J:Type}{l:List J}:l≠[]->0<l.length:=List.length_pos_iff.2
def bn0{J:Type}[BEq J][LawfulBEq J]{a b:J}:a≠b->(a==b)=false:=beq_eq_false_iff_ne.2
abbrev wb0:=@PySem.wpAny_bind
abbrev wq0:=@PySem.wpAny_pure
abbrev wh0:=@PySem.wpAny_holding
abbrev fg0:=@PySem.W.Frag
abbrev ml0:=@PySem.mem_of_lookup
abbrev hu0:=@PySem.Heap.get?_update_self
abbrev ez0:=@List.eq_nil_of_length_eq_zero
abbrev ui0:=@PySem.Around.under_plainId
def bx0{J K:Type}{f:J->Option K}{b:K}{x:Option J}:x.bind f=some b->∃a,x=some a/\f a=some b:=Option.bind_eq_some_iff.1
def mx0{J K:Type}{f:J->K}{b:K}{x:Option J}:x.map f=some b->∃a,x=some a/\f a=b:=Option.map_eq_some_iff.1
def ax0{a b:Bool}:(a&&b)=true->a=true/\b=true:=Bool.and_eq_true_iff.1
def fx0:false≠true:=Bool.false_ne_true
def mm0{J K:Type}{f:J->K}{l:List J}{b:K}:b∈l.map f->∃a,a∈l/\f a=b:=List.mem_map.1
def ma0{J:Type}{a:J}{s t:List J}:a∈s++t->a∈s\/a∈t:=List.mem_append.1
def mq0{J:Type}{a b:J}{l:List J}:a∈b::l->a=b\/a∈l:=List.mem_cons.1
abbrev bs0:=@Option.bind_some
abbrev mc0:=@List.mem_cons_of_mem
abbrev ps0:=@PySem.Heap.get?_push_of_some
abbrev ms0:=@List.mem_cons_self
abbrev lm0:=@List.length_map
abbrev ls0:=@List.size_toArray
abbrev ge0:=@List.getElem?_eq_getElem
abbrev hs0:=@PySem.Heap.lt_size
abbrev nr0:=@Nat.le_refl
abbrev nl0:=@Nat.lt_of_lt_of_le
abbrev pz0:=@PySem.Heap.get?_push_size
abbrev lc0:=@List.length_cons
abbrev nt0:=@Nat.le_trans
abbrev gn0:=@List.getElem?_set_ne
abbrev nn0:=@Nat.ne_of_lt
abbrev be0:=@Bool.and_eq_true
abbrev df0:=@decide_eq_false
abbrev dt0:=@decide_eq_true
abbrev od0:=@of_decide_eq_true
abbrev gm0:=@List.getElem?_map
abbrev lk0:=@List.lookup_cons
abbrev mo0:=@Option.map_some
abbrev mk0:=@List.map_cons
abbrev li0:=@Nat.lt_irrefl
abbrev al0:=@Array.length_toList
abbrev la0:=@List.length_append
abbrev mr0:=@List.mem_append_right
abbrev gs0:=@List.getElem?_set_self
abbrev mg0:=@List.mem_of_getElem?
abbrev gl0:=@List.getElem?_append_left
abbrev el0:=@Int.emod_lt_of_pos
abbrev en0:=@Int.emod_nonneg
abbrev lr0:=@List.length_range
namespace L2
open PySem PySem.Spec PyProof.Rows
noncomputable abbrev Key:=Sum Int Str
def iM:Key->Value->Bool
 |.inl k,v=>Value.isInt k v
 |.inr x,v=>Value.isStrOf x v
def LG(w:World):Key->Int
 |.inl k=>hashInt k
 |.inr x=>hashStr w x
def keyIs_shape:∀{k:Key}{v:Value},iM k v=true->(∃i t,k=Sum.inl i/\v=Value.int i t)\/(∃x t,k=Sum.inr x/\v=Value.str x t)
 |.inl i,v,h=>by
  obtain⟨t,e⟩:=Value.isInt_shape h;exact .inl (i,t,rfl,e)
 |.inr x,v,h=>by
  obtain⟨t,e⟩:=Value.isStrOf_shape h;exact .inr (x,t,rfl,e)
def Fo(a b:Int):decide ((Sum.inl a:Key)=Sum.inl b)=(a==b):=by
 by_cases e:a=b<;>simp_all
def Fp(a b:Str):decide ((Sum.inr a:Key)=Sum.inr b)=decide (a=b):=by
 simp
def Fq(a:Int)(b:Str):decide ((Sum.inl a:Key)=Sum.inr b)=false:=df0 (λq=>nomatch q)
def Ft(a:Str)(b:Int):decide ((Sum.inr a:Key)=Sum.inl b)=false:=df0 (λq=>nomatch q)
def aD(prog:Program)(w:World):PySem.KeyKind prog w Key where
 is:=iM
 hash:=LG w
 inj:=λv a b M L=>by
  rcases keyIs_shape M with⟨i,t,rfl,rfl⟩|⟨x,t,rfl,rfl⟩
  .rcases keyIs_shape L with⟨j,u,rfl,e⟩|⟨y,u,rfl,e⟩
   .injection e with J _;rw[J]
   .erw[nomatch e]
  .rcases keyIs_shape L with⟨j,u,rfl,e⟩|⟨y,u,rfl,e⟩
   .erw[nomatch e]
   .injection e with J _;rw[J]
 byValue:=λk v h=>by
  rcases keyIs_shape h with⟨i,t,rfl,rfl⟩|⟨x,t,rfl,rfl⟩<;>rfl
 pyHash:=λK h=>by
  rcases keyIs_shape K with⟨i,t,rfl,rfl⟩|⟨x,t,rfl,rfl⟩
  .erw[wpAny_pyHash_int h]
  .erw[wpAny_pyHash_str h]
 eqBool:=λN K h=>by
  rcases keyIs_shape N with⟨i,t,rfl,rfl⟩|⟨x,t,rfl,rfl⟩
  .rcases keyIs_shape K with⟨j,u,rfl,rfl⟩|⟨y,u,rfl,rfl⟩
   .rw[Fo]at h;erw[wpAny_eqBool_int h]
   .rw[Fq]at h;erw[SeqAt.EqAt.int_str i t y u _ _ _ _ h]
  .rcases keyIs_shape K with⟨j,u,rfl,rfl⟩|⟨y,u,rfl,rfl⟩
   .rw[Ft]at h;erw[SeqAt.EqAt.str_int x t j u _ _ _ _ h]
   .rw[Fp]at h;erw[wpAny_eqBool_str h]
 «strs»:=λk x t v h=>by
  rcases keyIs_shape h with⟨i,u,rfl,e⟩|⟨y,u,rfl,e⟩
  .erw[nomatch e]
  .injection e with J _
   subst J;cases v<;>rfl
def oZ(prog)(w:World)(i:Int)(t:Tok):(aD prog w).is (.inl i) (.int i t)=true:=(show iM (.inl i) (.int i t)=true by simp[iM,Value.isInt])
def pd(prog)(w:World)(x:Str)(t:Tok):(aD prog w).is (.inr x) (.str x t)=true:=(show iM (.inr x) (.str x t)=true by simp[iM,Value.isStrOf])
inductive V where
 |non|bl (b:Bool)|int (i:Int)|str (x:Str)|ref (a:Addr)|ty (n:String)
 deriving DecidableEq
def RelV:V->Value->Prop
 |.non,u=>u=Value.none
 |.bl b,u=>u=Value.bool b
 |.int i,u=>∃t,u=Value.int i t
 |.str x,u=>∃t,u=Value.str x t
 |.ref a,u=>u=Value.ref a
 |.ty n,u=>u=Value.type n
abbrev Vals:List V->List Value->Prop:=Paired RelV
theorem Vals.length{xs:List V}{us:A2}(r:Vals xs us):xs.length=us.length:=Paired.length r
def Vals.get:∀{xs:List V}{us:A2}{i:Nat}{x:V},Vals xs us->xs[i]?=some x->∃u,us[i]?=some u/\RelV x u:=by
 intro xs us i x h
 induction h generalizing i with
 |nil=>intro e;simp at e
 |cons r t ih=>
  intro e;cases i with
  |zero=>simp at e;subst e;exact(_,rfl,r)
  |succ i=>simpa using ih (by simpa using e)
theorem Vals.set{x:V}{u:Value}(r:RelV x u):∀{xs:List V}{us:A2}(i:Nat),Vals xs us->Vals (xs.set i x) (us.set i u):=by
 intro xs us i h
 induction h generalizing i with
 |nil=>exact .nil
 |cons q t ih=>cases i;exact .cons r t;exact .cons q (ih _)
def Vals.append:∀{xs K:List V}{us J:A2},Vals xs us->Vals K J->Vals (xs++K) (us++J):=by
 intro xs K us J h s
 induction h with
 |nil=>exact s
 |cons r t ih=>exact .cons r ih
theorem Vals.take:∀{xs:List V}{us:A2}(n:Nat),Vals xs us->Vals (xs.take n) (us.take n):=by
 intro xs us n h
 induction h generalizing n with
 |nil=>cases n<;>exact .nil
 |cons r t ih=>cases n;exact .nil;exact .cons r (ih _)
theorem Vals.drop:∀{xs:List V}{us:A2}(n:Nat),Vals xs us->Vals (xs.drop n) (us.drop n)
 |_,_,0,r=>r
 |_,_,_+1,.nil=>.nil
 |_,_,n+1,.cons _ t=>Vals.drop n t
def Vals.none_of:∀{xs:List V}{us:A2}{i:Nat},Vals xs us->xs[i]?=none->us[i]?=none:=λ{xs us i} r e=>by
 have J:=r.length;have K:=List.getElem?_eq_none_iff.mp e;erw[List.getElem?_eq_none_iff.mpr @1]
def RelO:Option V->Option Value->Prop
 |some v,some u=>RelV v u
 |none,none=>True
 |_,_=>False
def KV{Y:Type}:List (Y×V)->List (Y×Value)->Prop:=Paired λ(p:Y×V) (q:Y×Value)=>p.1=q.1/\RelV p.2 q.2
def kV:Key->V
 |.inl i=>.int i
 |.inr x=>.str x
inductive HO where
 |lst (xs:List V)
 |tup (xs:List V)
 |dK (kvs:List (Key×V))
 |ins (C dx:Addr) (fs:List (Str×V))
 |own (x:Addr)
 |frz (o:Obj) (u:HO)
 |tbl (ps:A9)
 |ext (φ:Heap->Prop)
abbrev Hp:=Addr->Option HO
noncomputable def upd(H:Hp)(a:Addr)(o:HO):Hp:=λb=>if b=a then some o else H b
def aa{H:Hp}{a:Addr}{o:HO}:upd H a o a=some o:=by unfold upd;simp
def ab{H:Hp}{a b}{o:HO}(h:b≠a):upd H a o b=H b:=by unfold upd;rw[if_neg h]
def tW{H:Hp}{a:Addr}{o u}:upd (upd H a o) a u=upd H a u:=by
 funext b;unfold upd;simp_all
def ag{H:Hp}{a b}{o:HO}(h:H a=some o)(h':H b=none):a≠b:=by
 intro e;simp_all
section
variable (P:Program)(w:World)
def ObjOk(H:Hp)(h:Heap)(a:Addr):HO->Prop
 |.lst L=>L.length<=sizeLine/\∃(J:A2)(n:Nat),Vals L J/\h.get? a=some {cls:=.type "list",data:=.seq J.toArray n}
 |.tup L=>L.length<=sizeLine/\∃J:List Value,Vals L J/\IsTup h a J.toArray
 |.dK K=>K.length<=sizeLine/\(a==sysModules)=false/\∃Y,KV K Y/\h.DictOf (aD P w) a Y
 |.ins C M N=>H M=some (.own a)/\N.length<=1000/\M≠a/\h.get? a=some (PySem.W.instObj C M)/\
   ∃O,h.Ns1 M O/\(∀f,RelO (N.lookup f) (O f))/\PySem.Within O (N.map (·.1))
 |.own _=>∃o,h.get? a=some o
 |.frz o u=>h.get? a=some o/\ObjOk H h a u
 |.tbl Z=>h.get? a=some {cls:=.none,data:=.fields Z}
 |.ext R=>R h/\(∃o,h.get? a=some o)/\∀U V:Heap,R U->(∀o,U.get? a=some o->V.get? a=some o)->R V
def HOk(H:Hp)(h:Heap):Prop:=∀a o,H a=some o->ObjOk P w H h a o
end
section
variable {P:Program}{w:World}{H H':Hp}{h h':Heap}{a:Addr}{o:HO}
theorem ObjOk.lt(x:ObjOk P w H h a o):a<h.objs.size:=by
 cases o with
 |lst K=>obtain⟨_,_,_,_,e⟩:=x;erw[hs0 e]
 |tup K=>obtain⟨_,_,_,p⟩:=x;erw[p.lt]
 |dK J=>obtain⟨_,_,_,_,o,_,_,e,_⟩:=x;erw[hs0 e]
 |ins C L M=>obtain⟨_,_,_,e,_⟩:=x;erw[hs0 e]
 |own y=>obtain⟨_,e⟩:=x;erw[hs0 e]
 |frz N u=>obtain⟨e,_⟩:=x;erw[hs0 e]
 |tbl O=>exact hs0 (x)
 |ext R=>obtain⟨_,⟨_,e⟩,_⟩:=x;erw[hs0 e]
def ObjOk.stay(x:ObjOk P w H h a o)(k:∀b u,(b=a\/H b=some (.own a))->h.get? b=some u->h'.get? b=some u)
  (R:∀b,H b=some (.own a)->H' b=some (.own a)) (F:∀b xs,H b=some (.tup xs)->H' b=some (.tup xs)):ObjOk P w H' h' a o:=by
 induction o with
 |lst xs=>obtain⟨z,M,n,r,e⟩:=x;exact(z,_,n,r,k _ _ (.inl rfl) e)
 |tup xs=>obtain⟨z,M,r,J,e,c⟩:=x;exact(z,_,r,J,k _ _ (.inl rfl) e,c)
 |dK U=>obtain⟨z,y,Y,r,J,L,K,e,c⟩:=x;exact(z,y,Y,r,J,L,K,k _ _ (.inl rfl) e,c)
 |ins C Z T=>
  obtain⟨d,z,ne,e,V,⟨W,L,K,O,c⟩,r⟩:=x;exact(R _ d,z,ne,k _ _ (.inl rfl) e,V,(W,L,K,k _ _ (.inr d) O,c),r)
 |own y=>obtain⟨J,e⟩:=x;exact(J,k _ _ (.inl rfl) e)
 |frz J u ih=>obtain⟨e,q⟩:=x;exact(k _ _ (.inl rfl) e,ih q)
 |tbl D=>
  erw[k a _ (.inl rfl) x]
 |ext B=>obtain⟨p,⟨o,e⟩,N⟩:=x;exact(N _ _ p λo q=>k _ _ (.inl rfl) q,(o,k _ _ (.inl rfl) e),N)
theorem HOk.lt(x:HOk P w H h)(e:H a=some o):a<h.objs.size:=(x a o e).lt
def HOk.fresh(x:HOk P w H h)(e:h.objs.size<=a):H a=none:=by
 cases q:H a with
 |none=>rfl
 |some u=>exact absurd (nl0 (x.lt q) e) (li0 _)
def HOk.kept(x:HOk P w H h)(k:∀b u,h.get? b=some u->h'.get? b=some u):HOk P w H h':=λa o e=>
 (x a o e).stay (λb u c q=>k b u q) (λc q=>q) λc c q=>q
def HOk.laid(x:HOk P w H h)(k:∀b u,h.get? b=some u->h'.get? b=some u)(L:h.objs.size<=a)(new:ObjOk P w (upd H a o) h' a o):HOk P w (upd H a o) h':=λb u e=>by
 have K:=x.fresh L
 by_cases J:b=a
 .subst J;rw[aa]at e;simp_all
 .rw[ab J]at e
  exact (x b u e).stay (λc v d q=>k c v q) (λc q=>by rwa [ab (ag q K)]) λc M q=>by rwa [ab (ag q K)]
end
def Rd(H:Hp)(a:Addr)(u:HO):Prop:=H a=some u\/∃o,H a=some (.frz o u)
def Rd.ok{P:Program}{w:World}{H:Hp}{h:Heap}{a:Addr}{u}(r:Rd H a u)(x:HOk P w H h):ObjOk P w H h a u:=by
 rcases r with r|⟨o,r⟩
 .erw[x a u r]
 .obtain⟨_,q⟩:=x a _ r
  erw[q]
def Mut:Option HO->Prop
 |some (.lst _)=>True
 |some (.dK _)=>True
 |some (.ins _ _ _)=>True
 |some (.ext _)=>True
 |_=>False
section
variable {P:Program}{w:World}{H:Hp}{h h':Heap}{x e:Addr}{o':HO}
def HOk.write(ok:HOk P w H h)(mu:Mut (H x))(U:e=x\/H e=some (.own x))(k:∀b u,b≠e->h.get? b=some u->h'.get? b=some u)(O:∃u,h'.get? e=some u)
  (new:ObjOk P w (upd H x o') h' x o'):HOk P w (upd H x o') h':=λb u q=>by
 have K:∀c y,H c=some (.own y)->c≠x:=λc y r z=>by subst z;rw[r]at mu;erw[mu]
 have L:∀c M,H c=some (.tup M)->c≠x:=λc M r z=>by subst z;rw[r]at mu;erw[mu]
 by_cases N:b=x
 .subst N;rw[aa]at q;simp_all
 .rw[ab N]at q
  by_cases J:b=e
  .have R:H b=some (.own x):=by
    rcases U with z|z
    .erw[absurd (J.trans z) N]
    .rw[J];erw[z]
   rw[q]at R;cases R;obtain⟨v,W⟩:=O;exact(v,by rwa [J])
  .refine (ok b u q).stay (λc v V r=>k c v ?_ r) (λc r=>by rw[ab (K c b r)];erw[r]) λc M r=>by rw[ab (L c M r)];erw[r]
   grind
end
structure Un(fs ex:A4)(H H':Hp)(h h':Heap):Prop where
 keep:∀b o,h.get? b=some o->H b=none->b∉fs->b∉ex->h'.get? b=some o
 slot:∀b o,h.get? b=some o->H b=none->b∈fs->b∉ex->∃sl,h'.get? b=some {o with slots:=sl}
 free:∀b o,h.get? b=some o->H b=none->b∉ex->H' b=none
 there:∀b o,h.get? b=some o->b∉ex->∃o',h'.get? b=some o'
 tups:∀b xs,H b=some (.tup xs)->H' b=some (.tup xs)
 frzs:∀b o u,H b=some (.frz o u)->H' b=some (.frz o u)
 tbls:∀b ps,H b=some (.tbl ps)->∃more,H' b=some (.tbl (ps++more))
section
variable {fs fs' ex ex':A4}{H H1 H2:Hp}{h h1 h2 h':Heap}{a x e:Addr}{o:HO}
def Un.any(u:Un fs ex H H1 h h1){b:Addr}{ob}(q:h.get? b=some ob)(n:H b=none)(K:b∉ex):∃sl,h1.get? b=some {ob with slots:=sl}:=by
 by_cases J:b∈fs
 .erw[u.slot b ob q n J K]
 .exact(_,u.keep b ob q n J K)
def Un.kept(k:∀b u,h.get? b=some u->h'.get? b=some u):Un fs ex H H h h':=
 (λb J q a a a=>k b J q,λb J q a a a=>(_,k b J q),λa a a n a=>n,λb J q a=>(J,k b J q),λa a q=>q,λa a a q=>q,λa K q=>(#[],by simp_all))
def Un.refl:Un fs ex H H h h:=Un.kept λa a q=>q
def Un.laid(k:∀b u,h.get? b=some u->h'.get? b=some u)(K:h.objs.size<=a)(J:H a=none):Un fs ex H (upd H a o) h h' where
 keep:=λb u q c c c=>k b u q
 slot:=λb u q c c c=>(_,k b u q)
 free:=λb u q n c=>by rwa [ab (nn0 (nl0 (hs0 q) K))]
 there:=λb u q c=>(u,k b u q)
 tups:=λb L q=>by rwa [ab (ag q J)]
 frzs:=λb u L q=>by rwa [ab (ag q J)]
 tbls:=λb M q=>(#[],by rw[ab (ag q J),q];simp)
def Un.write(mu:Mut (H x))(R:e=x\/H e=some (.own x))(k:∀b u,b≠e->h.get? b=some u->h'.get? b=some u)(M:∃u,h'.get? e=some u):Un fs ex H (upd H x o) h h':=by
 have N:∀b,H b=none->b≠x:=λb n z=>by subst z;rwa [n]at mu
 have L:∀b,H b=none->b≠e:=λb n z=>by
  simp_all
 have K:∀b u,H b=some u->¬ Mut (some u)->b≠x:=λb u q U z=>by simp_all
 refine(λb u q n a a=>k b u (L b n) q,λb u q n a a=>(u.slots,k b u (L b n) q),λb u q n a=>by rw[ab (N b n)];erw[n],λb u q a=>?_,
  λb O q=>by rwa [ab (K b _ q λz=>z)],λb u O q=>by rwa [ab (K b _ q λz=>z)],λb V q=>(#[],by rw[ab (K b _ q λz=>z),q];simp))
 by_cases J:b=e
 .simp_all
 .exact(u,k b u J q)
end
noncomputable def trk(h:Heap)(H:Hp):List Addr:=(List.range h.objs.size).filter λa=>(H a).isSome
def mZ(h:Heap)(H:Hp):Heap:=PySem.W.hideAll h (trk h H)
def BC{h:Heap}{H:Hp}{b:Addr}{o:Obj}(e:(mZ h H).get? b=some o):h.get? b=some o/\H b=none:=by
 have J:=PySem.W.of_hideAll _ e;refine(J,?_);cases q:H b with
 |none=>rfl
 |some x=>
  have K:b∈trk h H:=List.mem_filter.mpr (List.mem_range.mpr (hs0 J),by simp[q]);have z:(mZ h H).get? b=none:=PySem.W.hideAll_none _ K
  simp_all
noncomputable def BD(g h:Heap)(L:Addr):List (Addr×Obj):=(List.range h.objs.size).filterMap λa=>if a=L\/(g.get? a).isSome=true then none else (h.get? a).map λo=>(a,o)
def rest(g h:Heap)(L d:Addr):List (Addr×Obj):=(BD g h L).filter λp=>decide (p.1≠d)
structure Mod(K:fg0)(mg:A6)(base:Heap):Prop where
 kin:K.In base
 glob:base.Ns mainGlobals mg
 blt:∃mb,base.Ns builtinsNs mb/\∀x:Str,x≠"__name__"->mb x=bootBuiltins x
 nolimit:base.NoLimit
structure Cx where
 prog:Program
 w:World
 K:fg0
 mg:Str->Option Value
 base:Heap
 A:Around
 N:List Str
 s₀:Shared
 H₀:Hp
 env:Env
 outer:List Env
 stack:List Env
 ex:List Addr
 fn:Str->Bool
 calm:Bool
 pn:List (Addr×Obj)
 xe:Value->Shared->Prop
noncomputable def frs(l:List Env):List Addr:=l.filterMap (·.frame)
abbrev Cx.fs(X:Cx):List Addr:=frs X.outer
def Vis(sc:Scope)(x:Str):Prop:=sc.names.lookup x=some .local\/sc.names.lookup x=some .cell\/sc.names.lookup x=some .free
def Loc(sc:Scope)(x:Str):Prop:=sc.names.lookup x=some .local\/sc.names.lookup x=some .cell
def Look(env:Env)(h:Heap)(m:A6)(x:Str)(u:Value):Prop:=
 (env.kindOf x=some .local/\m x=some u)\/((env.kindOf x=some .cell\/env.kindOf x=some .free)/\∃c,env.cells.lookup x=some c/\h.IsCell c (some u))
structure Cx.Ok(X:Cx):Prop where
 mod:Mod X.K X.mg X.base
 kind:X.env.scope.kind=.function
 glob:X.env.globals=mainGlobals
 blt:X.env.builtins=builtinsNs
 above:X.s₀.heap.objs.size<=X.env.locals
 inj:∀x y c,X.env.cells.lookup x=some c->X.env.cells.lookup y=some c->x=y
 has:∀x,(X.env.kindOf x=some .cell\/X.env.kindOf x=some .free)->∃c,X.env.cells.lookup x=some c
 cab:∀x c,X.fn x=true->X.env.cells.lookup x=some c->X.s₀.heap.objs.size<=c
 hd:X.calm=true->X.A.handled=none
 frames:X.A.frames=some X.stack
 stk:X.stack=X.outer\/(X.stack=X.env::X.outer/\X.env.frame=some X.env.locals)
 exf:∀b∈X.ex,b≠X.env.locals/\∀x c,X.env.cells.lookup x=some c->c≠b
 bs:∀b o,X.base.get? b=some o->X.s₀.heap.get? b=some o/\X.H₀ b=none
 bsz:X.base.objs.size<=X.s₀.heap.objs.size
 noex:∀b o,X.base.get? b=some o->b∉X.ex
 exfs:∀b∈X.ex,b∉X.fs
 funs:X.s₀.heap.FunFrames X.base X.outer
 frf:∀b∈X.fs,X.H₀ b=none
structure Inv(X:Cx)(Zp:A5)(σ:List (Option V))(H:Hp)(s:Shared):Prop where
 ok:X.Ok
 os:s.os=X.s₀.os
 bare:AllBare s.gens
 base:Un X.fs X.ex X.H₀ H X.s₀.heap s.heap
 loc:∃m,s.heap.Ns X.env.locals m/\∀(i:Nat)(x:Str)(v:V),X.N[i]?=some x->σ[i]?=some (some v)->Vis X.env.scope x->∃u,RelV v u/\Look X.env s.heap m x u
 cell:∀x c,X.env.cells.lookup x=some c->∃v,s.heap.IsCell c v
 free:H X.env.locals=none
 freeC:∀x c,X.env.cells.lookup x=some c->H c=none
 pin:∀p∈X.pn++Zp,s.heap.get? p.1=some p.2/\H p.1=none/\p.1≠X.env.locals/\p.1∉X.fs/\∀v,p.2.data≠.cell v
 hok:HOk X.prog X.w H s.heap
 len:σ.length=X.N.length
section
variable {X:Cx}{Zp:A5}{σ:List (Option V)}{H H':Hp}{s:Shared}{h':Heap}
theorem Inv.bs(I:Inv X Zp σ H s):∀b o,X.base.get? b=some o->s.heap.get? b=some o/\H b=none:=λb o e=>
 (I.base.keep b o (I.ok.bs b o e).1 (I.ok.bs b o e).2 ((λJ=>by
   have:=(I.ok.funs.mem J).1
   grind)) (I.ok.noex b o e),I.base.free b o (I.ok.bs b o e).1 (I.ok.bs b o e).2 (I.ok.noex b o e))
def Inv.bk(I:Inv X Zp σ H s):∀b o,X.base.get? b=some o->s.heap.get? b=some o:=λb o e=>(I.bs b o e).1
theorem Inv.mod(I:Inv X Zp σ H s):Mod X.K X.mg X.base:=I.ok.mod
def Inv.kIn(I:Inv X Zp σ H s):X.K.In s.heap:=I.ok.mod.kin.keeps I.bk
theorem Inv.lt(I:Inv X Zp σ H s):X.env.locals<s.heap.objs.size:=let ⟨_,J,_⟩:=I.loc;J.lt
def Inv.sz(I:Inv X Zp σ H s):X.s₀.heap.objs.size<=s.heap.objs.size:=nt0 I.ok.above (Nat.le_of_lt I.lt)
def Inv.cne(I:Inv X Zp σ H s):∀x c,X.env.cells.lookup x=some c->c≠X.env.locals:=λx c e z=>by
 obtain⟨v,o,O,N⟩:=I.cell x c e;obtain⟨m,⟨R,M,L,K,J,_⟩,_⟩:=I.loc<;>grind
theorem Inv.funs(I:Inv X Zp σ H s):s.heap.FunFrames X.base X.outer:=by
 have J:∀(l:List _),(∀b∈frs l,b∈X.fs)->X.s₀.heap.FunFrames X.base l->s.heap.FunFrames X.base l:=by
  intro l
  induction l with
  |nil=>intro _ _;trivial
  |cons R r ih=>
   intro O W;obtain⟨V,⟨L,o,N,Y,Z,U⟩,T⟩:=W;have K:=O L (by unfold frs;rw[List.filterMap_cons,N];erw[ms0]);obtain⟨sl,e⟩:=I.base.slot L o Z (I.ok.frf L K) K λz=>I.ok.exfs L z K
   exact(V,(L,_,N,Y,e,U),ih (λb M=>O b (by unfold frs;rw[List.filterMap_cons,N];erw[mc0 _ M])) T)
 erw[J _ (λa M=>M) I.ok.funs]
theorem Inv.stack(I:Inv X Zp σ H s):s.heap.FunFrames X.base X.stack:=by
 rcases I.ok.stk with e|⟨e,J⟩
 .rw[e];erw[I.funs]
 .rw[e]
  obtain⟨m,K,_⟩:=I.loc;exact .cons (by rw[I.ok.kind];decide) J K (Heap.get?_none_of_le (nt0 I.ok.bsz I.ok.above)) I.funs
def Inv.stkSub(I:Inv X Zp σ H s):∀b∈frs X.stack,b∈X.env.locals::X.fs:=λb J=>by
 rcases I.ok.stk with e|⟨e,K⟩
 .rw[e]at J;erw[mc0 _ J]
 .rw[e]at J
  unfold frs at J
  rwa [List.filterMap_cons,K]at J
def Inv.stkFree(I:Inv X Zp σ H s):∀b∈frs X.stack,H b=none:=λb hb=>by
 rcases mq0 (I.stkSub b hb)with e|hb
 .rw[e];erw[I.free]
 .obtain⟨_,o,J,_⟩:=I.ok.funs.mem hb
  erw[I.base.free b o J (I.ok.frf b hb) λz=>I.ok.exfs b z hb]
def Inv.step{C}{t':Nat}{P}{ch:A4}(I:Inv X Zp σ H s)
  (K:∀b∈ch,(b∈X.ex\/X.s₀.heap.objs.size<=b)/\b≠X.env.locals/\(∀x c,X.env.cells.lookup x=some c->c≠b)/\∀p∈X.pn++Zp,p.1≠b)
  (keep:∀b o,b≠X.env.locals->b∉X.fs->b∉ch->s.heap.get? b=some o->H b=none->h'.get? b=some o)
  (slot:∀b o,b≠X.env.locals->b∈X.fs->b∉ch->s.heap.get? b=some o->H b=none->∃sl,h'.get? b=some {o with slots:=sl}) (free:∀b o,b∉ch->s.heap.get? b=some o->H b=none->H' b=none)
  (there:∀b o,b∉ch->s.heap.get? b=some o->∃Y,h'.get? b=some Y)
  (T:∀b xs,H b=some (.tup xs)->H' b=some (.tup xs)) (V:∀b o u,H b=some (.frz o u)->H' b=some (.frz o u)) (Z:∀b ps,H b=some (.tbl ps)->∃more,H' b=some (.tbl (ps++more)))
  (ns:∀m,s.heap.Ns X.env.locals m->h'.Ns X.env.locals m) (D:HOk X.prog X.w H' h') (E:AllBare C):
  Inv X Zp σ H' {s with heap:=h',gens:=C,drawn:=P,toks:=t'}:=by
 have W:∀b o,X.s₀.heap.get? b=some o->b≠X.env.locals:=λb o e=>nn0 (nl0 (hs0 e) I.ok.above)
 have N:∀b o,X.s₀.heap.get? b=some o->b∉X.ex->b∉ch:=λb o e J O=>by
  rcases (K b O).1 with z|z
  .erw[J z]
  .erw[absurd (nl0 (hs0 e) z) (li0 _)]
 have cellK:∀x c,X.env.cells.lookup x=some c->∀v,s.heap.IsCell c v->h'.IsCell c v:=λx c e v ⟨o,R,F⟩=>by
  have L:c∉ch:=λz=>(K c z).2.2.1 x c e rfl
  by_cases Q:c∈X.fs
  .obtain⟨sl,q⟩:=slot c o (I.cne x c e) Q L R (I.freeC x c e)
   exact(_,q,F)
  .exact(o,keep c o (I.cne x c e) Q L R (I.freeC x c e),F)
 refine(I.ok,I.os,E,(λb o e n O J=>?_,λb o e n O J=>?_,λb o e n J=>?_,λb o e J=>?_,λb xs e=>T b xs (I.base.tups b xs e),λb o xs e=>V b o xs (I.base.frzs b o xs e),λb ps e=>?_),?_,λx c e=>?_,?_,λx c e=>?_,λp S=>?_,D,I.len)
 .erw[keep b o (W b o e) O (N b o e J) (I.base.keep b o e n O J) (I.base.free b o e n J)]
 .obtain⟨sl,M⟩:=I.base.slot b o e n O J
  obtain⟨B,U⟩:=slot b _ (W b o e) O (N b o e J) M (I.base.free b o e n J);exact(B,U)
 .obtain⟨Y,M⟩:=I.base.there b o e J
  erw[free b Y (N b o e J) M (I.base.free b o e n J)]
 .obtain⟨Y,M⟩:=I.base.there b o e J
  erw[there b Y (N b o e J) M]
 .obtain⟨m1,M⟩:=I.base.tbls b ps e
  obtain⟨m2,U⟩:=Z b _ M;exact(m1++m2,by rw[U,Array.append_assoc])
 .obtain⟨m,j,A⟩:=I.loc
  refine(m,ns m j,λi x v M U G=>?_);obtain⟨u,r,l⟩:=A i x v M U G;refine(u,r,?_);rcases l with l|⟨k,c,e,z⟩
  .exact .inl l
  .exact .inr (k,c,e,cellK x c e _ z)
 .obtain⟨v,z⟩:=I.cell x c e
  exact(v,cellK x c e v z)
 .obtain⟨m,⟨o,_,_,R,_⟩,_⟩:=I.loc
  erw[free _ o (λz=>(K _ z).2.1 rfl) R I.free]
 .obtain⟨v,o,R,F⟩:=I.cell x c e
  erw[free c o (λz=>(K c z).2.2.1 x c e rfl) R (I.freeC x c e)]
 .obtain⟨e,n,ne,nf,d⟩:=I.pin p S
  have L:p.1∉ch:=λz=>(K p.1 z).2.2.2 p S rfl
  exact(keep p.1 p.2 ne nf L e n,free p.1 p.2 L e n,ne,nf,d)
def Inv.un{t':Nat}(I:Inv X Zp σ H s)(u:Un X.fs [] H H' s.heap h')(L:HOk X.prog X.w H' h'):Inv X Zp σ H' {s with heap:=h',toks:=t'}:=by
 obtain⟨m,⟨o,Y,W,M,r⟩,_⟩:=id I.loc;obtain⟨sl,R⟩:=u.any M I.free @0;exact I.step (ch:=[]) (λa z=>nomatch z) (λb o a K a e n=>u.keep b o e n K @0) (λb o a K a e n=>u.slot b o e n K @0) (λb o a e n=>u.free b o e n @0) (λb o a e=>u.there b o e @0) u.tups u.frzs u.tbls (λZ U=>by
  obtain⟨T,O,N,J,V⟩:=U;rw[M]at J;cases J;exact(_,_,_,R,V)) L I.bare
def Inv.call{O}{t':Nat}{U}{ch}(I:Inv X Zp σ H s)(u:Un (frs X.stack) ch H H' s.heap h')(N:HOk X.prog X.w H' h')(Z:AllBare O)
  (K:∀b∈ch,(b∈X.ex\/X.s₀.heap.objs.size<=b)/\b≠X.env.locals/\(∀x c,X.env.cells.lookup x=some c->c≠b)/\∀p∈X.pn++Zp,p.1≠b):
  Inv X Zp σ H' {s with heap:=h',gens:=O,drawn:=U,toks:=t'}:=by
 obtain⟨m,⟨o,B,D,R,r⟩,_⟩:=id I.loc;obtain⟨sl,M⟩:=u.any R I.free λz=>(K _ z).2.1 rfl
 exact I.step K (λb o M Y J e n=>u.keep b o e n (λz=>(mq0 (I.stkSub b z)).elim M Y) J) (λb o a a J e n=>u.any e n J) (λb o J e n=>u.free b o e n J) (λb o J e=>u.there b o e J) u.tups u.frzs u.tbls (λC T=>by
  obtain⟨Q,W,V,L,F⟩:=T;rw[R]at L;cases L;exact(_,_,_,M,F)) N Z
def Inv.turned{t':Nat}{it}(I:Inv X Zp σ H s)(k:∀b o,b≠it->s.heap.get? b=some o->h'.get? b=some o)(Z:H it=none)(L:it≠X.env.locals)
  (O:it∈X.ex\/X.s₀.heap.objs.size<=it) (R:∀x c,X.env.cells.lookup x=some c->c≠it) (U:∀p∈X.pn++Zp,p.1≠it):Inv X Zp σ H {s with heap:=h',toks:=t'}:=by
 have K:∀b u,H b=some u->b≠it:=λb u e z=>by simp_all
 refine I.step (ch:=[it]) (λb V=>?_) (λb o a a J e a=>k b o (λz=>J (by simp[z])) e) (λb o a a J e a=>(_,k b o (λz=>J (by simp[z])) e)) (λa a a a n=>n)
  (λb o J e=>(o,k b o (λz=>J (by simp[z])) e)) (λa a e=>e) (λa a a e=>e) (λb T e=>(#[],by simp_all)) (λm W=>?_) (λb u e=>?_) I.bare
 .have e:=by simpa using V
  subst e;exact(O,L,R,U)
 .obtain⟨o,N,M,Y,r⟩:=W
  exact(o,N,M,k _ o (Ne.symm L) Y,r)
 .refine (I.hok b u e).stay (λc v J q=>k c v ?_ q) (λa q=>q) λa a q=>q
  rcases J with z|z
  .rw[z];erw[K b u e]
  .erw[K c _ z]
def Inv.tok(I:Inv X Zp σ H s)(t:Nat):Inv X Zp σ H {s with toks:=t}:=I.un Un.refl I.hok
theorem Inv.kept{t':Nat}(I:Inv X Zp σ H s)(k:∀b u,s.heap.get? b=some u->h'.get? b=some u):Inv X Zp σ H {s with heap:=h',toks:=t'}:=I.un (Un.kept k) (I.hok.kept k)
theorem Inv.laid{a:Addr}{o:HO}{t':Nat}(I:Inv X Zp σ H s)(k:∀b u,s.heap.get? b=some u->h'.get? b=some u)(J:s.heap.objs.size<=a)(new:ObjOk X.prog X.w (upd H a o) h' a o):
  Inv X Zp σ (upd H a o) {s with heap:=h',toks:=t'}:=I.un (Un.laid k J (I.hok.fresh J)) (I.hok.laid k J new)
theorem Inv.write{x e}{o:HO}{t':Nat}(I:Inv X Zp σ H s)(mu:Mut (H x))(K:e=x\/H e=some (.own x))(k:∀b u,b≠e->s.heap.get? b=some u->h'.get? b=some u)(J:∃u,h'.get? e=some u)
  (new:ObjOk X.prog X.w (upd H x o) h' x o):Inv X Zp σ (upd H x o) {s with heap:=h',toks:=t'}:=I.un (Un.write mu K k J) (I.hok.write mu K k J new)
def Inv.pins_of{pins'}(I:Inv X Zp σ H s)(h:∀p∈pins',s.heap.get? p.1=some p.2/\H p.1=none/\p.1≠X.env.locals/\p.1∉X.fs/\∀v,p.2.data≠.cell v):Inv X pins' σ H s:=
 (I.ok,I.os,I.bare,I.base,I.loc,I.cell,I.free,I.freeC,λp J=>(ma0 J).elim (λz=>I.pin p (List.mem_append_left _ z)) (h p),I.hok,I.len)
def pf{N:A1}(L:N.Nodup){i j:Nat}{x:Str}(a:N[i]?=some x)(b:N[j]?=some x):i=j:=by
 obtain⟨M,J⟩:=gi0 a;obtain⟨O,K⟩:=gi0 b;exact (List.getElem_inj L).mp (J.trans K.symm)
def store_ok2{M:Model}{A:Around}{E:A0}{i:Nat}{x:Str}{v:V}{u:Value}{Q:A7}(I:Inv X Zp σ H s)(hN:X.N.Nodup)(C:X.N[i]?=some x)(L:Loc X.env.scope x)(r:RelV v u)
  (h:∀s',Inv X Zp (σ.set i (some v)) H s'->(∃a,Heap.SameBut a s.heap s'.heap/\(a=X.env.locals\/X.env.cells.lookup x=some a))->Q () s') (hf:X.fn x=true\/X.env.scope.names.lookup x=some .local):wpAny M A (storeName X.env x u) Q E s:=by
 obtain⟨m,t,hl⟩:=id I.loc;have B:(X.env.scope.kind==.class||(X.env.scope.kind==.module&&X.env.locals != X.env.globals))=false:=by rw[I.ok.kind];rfl
 have U:i<σ.length:=by rw[I.len];exact (gi0 C).1
 have W:=I.cne;have tracked:∀{a:Addr}{h':Heap},(∃o,s.heap.get? a=some o/\H a=none)->Heap.SameBut a s.heap h'->HOk X.prog X.w H h':=λ{a h'} ha J b ob e=>by
  obtain⟨_,_,O⟩:=ha;refine (I.hok b ob e).stay (λc g hc q=>(J.2 c ?_).trans q) (λf q=>q) λf f q=>q
  rintro rfl
  rcases hc with rfl|hc
  .rw[O]at e;cases e
  .rw[O]at hc;cases hc
 rcases L with hk|hk
 .refine wpAny_storeName_local hk t (λh' j0 J=>?_) B
  obtain⟨oL,_,_,j1,_⟩:=id t;refine h _ (I.ok,I.os,I.bare,(λb o e n Y L=>?_,λb o e n Y L=>?_,I.base.free,λb o e L=>?_,I.base.tups,I.base.frzs,I.base.tbls),(_,j0,λj y v' K R l=>?_),λy c e=>?_,I.free,I.freeC,λp hp=>?_,tracked (oL,j1,I.free) J,by simpa using I.len) (_,J,.inl rfl)
  .exact (J.2 b (nn0 (nl0 (hs0 e) I.ok.above))).trans (I.base.keep b o e n Y L)
  .obtain⟨sl,K⟩:=I.base.slot b o e n Y L
   exact(sl,(J.2 b (nn0 (nl0 (hs0 e) I.ok.above))).trans K)
  .obtain⟨o',K⟩:=I.base.there b o e L
   exact(o',(J.2 b (nn0 (nl0 (hs0 e) I.ok.above))).trans K)
  .by_cases T:j=i
   .subst T
    rw[C]at K;cases K;rw[gs0 U]at R;cases R;exact(u,r,.inl (hk,by simp))
   .rw[gn0 (Ne.symm T)]at R
    obtain⟨u',r',q⟩:=hl j y v' K R l;refine(u',r',?_);rcases q with⟨k,e⟩|⟨k,c,e,z⟩
    .refine .inl (k,?_)
     have:y≠x:=λe=>T (pf hN K (e▸C))
     simp[this,e]
    .exact .inr (k,c,e,z.sameBut J (W y c e))
  .obtain⟨g,z⟩:=I.cell y c e
   exact(g,z.sameBut J (W y c e))
  .obtain⟨e,n,ne,nf,d⟩:=I.pin p hp
   exact((J.2 p.1 ne).trans e,n,ne,nf,d)
 .have Z:X.fn x=true:=by
   rcases hf with z|z
   .erw[z]
   .rw[z]at hk;cases hk
  obtain⟨c,hc⟩:=I.ok.has x (.inl hk);obtain⟨g,z⟩:=I.cell x c hc;refine wpAny_storeName_cell I.ok.kind hk hc z (λh' F J=>?_);obtain⟨oc,S,P⟩:=id z;refine h {s with heap:=h'} (I.ok,I.os,I.bare,(λb o e n Y L=>?_,λb o e n Y L=>?_,I.base.free,λb o e L=>?_,I.base.tups,I.base.frzs,I.base.tbls),(m,t.sameBut J (Ne.symm (W x c hc)),λj y v' K R l=>?_),λy G e=>?_,I.free,I.freeC,λp hp=>?_,tracked (oc,S,I.freeC x c hc) J,by simpa using I.len) (c,J,.inr hc)
  .exact (J.2 b (nn0 (nl0 (hs0 e) (I.ok.cab x c Z hc)))).trans (I.base.keep b o e n Y L)
  .obtain⟨sl,K⟩:=I.base.slot b o e n Y L
   exact(sl,(J.2 b (nn0 (nl0 (hs0 e) (I.ok.cab x c Z hc)))).trans K)
  .obtain⟨o',K⟩:=I.base.there b o e L
   exact(o',(J.2 b (nn0 (nl0 (hs0 e) (I.ok.cab x c Z hc)))).trans K)
  .by_cases T:j=i
   .subst T
    rw[C]at K;cases K;rw[gs0 U]at R;cases R;exact(u,r,.inr (.inl hk,c,hc,F))
   .rw[gn0 (Ne.symm T)]at R
    obtain⟨u',r',q⟩:=hl j y v' K R l;refine(u',r',?_);rcases q with q|⟨k,G,e,z'⟩
    .exact .inl q
    .refine .inr (k,G,e,z'.sameBut J ?_)
     rintro rfl
     erw[T (pf hN K (I.ok.inj _ _ _ e hc▸C))]
  .by_cases D:G=c
   .subst D;exact(_,F)
   .obtain⟨w2,z2⟩:=I.cell y G e
    exact(w2,z2.sameBut J D)
  .obtain⟨e,n,ne,nf,d⟩:=I.pin p hp
   refine((J.2 p.1 ?_).trans e,n,ne,nf,d);intro q;rw[q,S]at e;have q':=Option.some.inj e;erw[d g (by rw[<-q'];exact P)]
def jx{M:Model}{A:Around}{E:A0}{i:Nat}{x:Str}{v:V}{u:Value}{Q:A7}(I:Inv X Zp σ H s)(L:X.N.Nodup)(R:X.N[i]?=some x)(U:Loc X.env.scope x)(r:RelV v u)
  (h:∀J,Inv X Zp (σ.set i (some v)) H J->Q () J) (O:X.fn x=true\/X.env.scope.names.lookup x=some .local):wpAny M A (storeName X.env x u) Q E s:=
 store_ok2 I L R U r (λJ K a=>h J K) O
def Inv.call'{s'}{ch}(I:Inv X Zp σ H s)(M:s'.os=s.os)(u:Un (frs X.stack) ch H H' s.heap s'.heap)(K:HOk X.prog X.w H' s'.heap)(L:AllBare s'.gens)
  (J:∀b∈ch,(b∈X.ex\/X.s₀.heap.objs.size<=b)/\b≠X.env.locals/\(∀x c,X.env.cells.lookup x=some c->c≠b)/\∀p∈X.pn++Zp,p.1≠b):Inv X Zp σ H' s':=by
 obtain⟨h',O,N,U,R⟩:=s';subst M;erw[I.call u K L J]
end
abbrev XK:=Value->Option Addr->Hp->Prop
abbrev St:=List (Option V)
abbrev VK:=V->Hp->Prop
abbrev TE:=St->Hp->VK->Prop
abbrev TT:=St->Hp->(Bool->Hp->Prop)->Prop
abbrev TA:=St->Hp->(List V->Hp->Prop)->Prop
structure Ends where
 nx:St->Hp->Prop
 rt:VK
 bk:St->Hp->Prop:=λa a=>False
 ct:St->Hp->Prop:=λa a=>False
abbrev TS:=Ends->St->Hp->Prop
def EP(X:Cx)(J:A5)(M:St)(Q:VK)(u:Value)(L:Shared):Prop:=∃v K,Inv X J M K L/\RelV v u/\Q v K
def TP(X:Cx)(J:A5)(M:St)(Q:Bool->Hp->Prop)(b:Bool)(L:Shared):Prop:=∃K,Inv X J M K L/\Q b K
def AP(X:Cx)(J:A5)(N:St)(Q:List V->Hp->Prop)(us:A2)(M:Shared):Prop:=∃L K,Inv X J N K M/\Vals L us/\Q L K
def SP(X:Cx)(K:A5)(D:Ends)(f:Flow)(M:Shared):Prop:=
 match f with
 |.next=>∃J L,Inv X K J L M/\D.nx J L
 |.brk=>∃J L,Inv X K J L M/\D.bk J L
 |.cont=>∃J L,Inv X K J L M/\D.ct J L
 |.ret u=>∃v J L,Inv X K J L M/\RelV v u/\D.rt v L
def PE(X:Cx)(e:Expr)(t:TE):Prop:=
 ∀(J:A5)(s:Shared)(K:St)(H:Hp)(Q:VK),Inv X J K H s->t K H Q->wpAny @4 X.A (eval e X.env) (EP X J K Q) X.xe s
def PT(X:Cx)(e:Expr)(t:TT):Prop:=
 ∀(J:A5)(s:Shared)(K:St)(H:Hp)(Q:Bool->Hp->Prop),Inv X J K H s->t K H Q->wpAny @4 X.A (isTrue e X.env (eval e X.env)) (TP X J K Q) X.xe s
def PW(X:Cx)(e:Expr)(t:TT):Prop:=
 ∀(K:Sem Value)(J:A5)(s:Shared)(L:St)(H:Hp)(Q:Bool->Hp->Prop),Inv X J L H s->t L H Q->wpAny @4 X.A (isTrue e X.env K) (TP X J L Q) X.xe s
variable {α β:Type}{C a b dx f:Addr}{xs:List V}{us:A2}{x:Str}{u v:Value}{H H':Hp}{P prog:Program}{w:World}{base h h':Heap}{c e o tg:Expr}{X:Cx}{Zp:A5}{s:Shared}{i k t':Nat}{A:Around}{E Q:A0}{σ:St}{pos:Pos}{ta te:TE}{t:TA}{es:A3}{mg:A6}{fd:FuncData}{ps:A1}
def PW.pt{t}(h:PW X e t):PT X e t:=h _
def PA(X:Cx)(es:A3)(t:TA):Prop:=
 ∀(pos:Pos)(Zp:A5)(s:Shared)(σ:St)(H:Hp)(Q:List V->Hp->Prop),Inv X Zp σ H s->t σ H Q->wpAny @4 X.A (spliced (backTo pos (starEach es X.env))) (AP X Zp σ Q) X.xe s
def PS(X:Cx)(J:Stmt)(t:TS):Prop:=
 ∀(Zp:A5)(s:Shared)(σ:St)(H:Hp)(D:Ends),Inv X Zp σ H s->t D σ H->wpAny @4 X.A (exec J X.env) (SP X Zp D) X.xe s
def PSs(X:Cx)(J:List Stmt)(t:TS):Prop:=
 ∀(Zp:A5)(s:Shared)(σ:St)(H:Hp)(D:Ends),Inv X Zp σ H s->t D σ H->wpAny @4 X.A (execs J X.env) (SP X Zp D) X.xe s
def thn{t}{Q J:α->Shared->Prop}{M:Model}(h:wpAny M A t Q E s)(K:∀a s,Q a s->J a s):wpAny M A t J E s:=wpAny_mono h K λb b x=>x
section
def bin{a b}{ta tb}(U:PE X a ta)(W:PE X b tb){R:V->V->Hp->Prop}(I:Inv X Zp σ H s)(h:ta σ H λx M=>tb σ M λy J=>R x y J)
   {Q}{f:Value->Value->Sem α}
  (Y:∀v u s2 x y J,Inv X Zp σ J s2->RelV x v->RelV y u->R x y J->wpAny @4 X.A (f v u) Q X.xe s2):
  wpAny @4 X.A (eval a X.env) (λv K=>wpAny @4 X.A (eval b X.env) (λu L=>wpAny @4 X.A (f v u) Q X.xe L) X.xe K) X.xe s:=by
 refine thn (U Zp s σ H _ I h) ?_;rintro v B ⟨x,M,N,F,Z⟩;refine thn (W Zp B σ M _ N Z) ?_;rintro u s2 ⟨y,J,O,D,T⟩;erw[Y v u s2 x y J O F D T]
def xC(i:Nat):TE:=λσ H Q=>∃v,σ[i]?=some (some v)/\Q v H
def tC(v:V):TE:=λa H Q=>Q v H
def fF(O:X.N[i]?=some x)(W:Vis X.env.scope x)(L:(x==("__debug__":Str))=false)(K:(x==("__classdict__":Str))=false):PE X (.Name x pos) (xC i):=by
 intro Zp s σ H Q I h;obtain⟨v,e,h⟩:=h;obtain⟨m,V,R⟩:=I.loc;obtain⟨u,r,l⟩:=R i x v O e W;have fin:EP X _ σ Q u s:=(v,H,I,r,h);rcases l with⟨hk,U⟩|⟨hk,c,M,J⟩
 .erw[wpAny_Name (wpAny_loadName_local I.ok.kind hk V U fin) L]
 .rcases hk with hk|hk
  .erw[wpAny_Name (wpAny_loadName_cell I.ok.kind hk M J fin) L]
  .erw[wpAny_Name (wpAny_loadName_free I.ok.kind hk M J fin K) L]
def Fu{i j pos}:PE X (.Constant (.int i) j pos) (tC (.int i)):=λa a a H a I h=>wpAny_Constant_int (.int i,H,I.tok _,(_,rfl),h)
def Fw{x j pos}:PE X (.Constant (.str x) j pos) (tC (.str x)):=λa a a H a I h=>Calls.Constant_str (.str x,H,I.tok _,(_,rfl),h)
def Gl(X:Cx)(x:Str):Prop:=X.env.kindOf x=some .globalImplicit
def qH(I:Inv X Zp σ H s)(K:Gl X x)(L:X.mg x=some u)(h:Q u s)
  (J:(x==("__debug__":Str))=false):wpAny @4 X.A (eval (.Name x pos) X.env) Q E s:=
 Calls.Name_function_global I.ok.kind K (Calls.loadGlobal_global (by rw[I.ok.glob];erw[I.mod.glob.keeps I.bk]) L h) J
def ld_blt(I:Inv X Zp σ H s)(M:Gl X x)(N:X.mg x=none)(R:bootBuiltins x=some u)(h:Q u s)
  (O:x≠"__name__") (L:(x==("__debug__":Str))=false):wpAny @4 X.A (eval (.Name x pos) X.env) Q E s:=by
 obtain⟨U,J,K⟩:=I.mod.blt;erw[Calls.Name_function_global I.ok.kind M (Calls.loadGlobal_builtin (by rw[I.ok.glob];exact I.mod.glob.keeps I.bk) N (by rw[I.ok.blt];exact J.keeps I.bk) ((K x O).trans R) h) L]
def BE{v:V}(K:Gl X x)(L:X.mg x=some u)(r:RelV v u)(J:(x==("__debug__":Str))=false):PE X (.Name x pos) (tC v):=
 λa a a H a I h=>qH I K L (v,H,I,r,h) J
def BF{v:V}(K:Gl X x)(L:X.mg x=none)(N:bootBuiltins x=some u)(r:RelV v u)(M:x≠"__name__")(J:(x==("__debug__":Str))=false):PE X (.Name x pos) (tC v):=
 λa a a H a I h=>ld_blt I K L N (v,H,I,r,h) M J
variable {a b:Expr}{tb:TE}
variable {tA tB':TT}{rest:A3}
def LH(t u:TT):TT:=λσ H Q=>t σ H λc J=>if c=true then u σ J Q else Q false J
def tOr(t u:TT):TT:=λσ H Q=>t σ H λc J=>if c=true then Q true J else u σ J Q
def LI(t:TT):TT:=λσ H Q=>t σ H λc J=>Q (!c) J
def BG(J:PT X a tA):PW X (.BoolOp .And [a] pos) tA:=by
 intro L Zp s σ H Q I h;refine isTrue_and (thn (J _ s σ H Q I h) λc K e=>?_);cases c with
 |true=>exact isTrue_and_nil e
 |false=>exact e
def Fx(J:PT X a tA):PW X (.BoolOp .Or [a] pos) tA:=by
 intro L Zp s σ H Q I h;refine isTrue_or (thn (J _ s σ H Q I h) λc K e=>?_);cases c with
 |false=>exact isTrue_or_nil e
 |true=>exact e
def xD(M:PT X a tA)(N:PW X (.BoolOp .And (b::rest) pos) tB'):PW X (.BoolOp .And (a::b::rest) pos) (LH tA tB'):=by
 intro R Zp s σ H Q I h;refine isTrue_and (thn (M Zp s σ H _ I h) ?_);rintro c O ⟨J,K,L⟩;cases c with
 |true=>exact N R Zp O σ J Q K L
 |false=>exact(J,K,L)
def Eh(M:PT X a tA)(N:PW X (.BoolOp .Or (b::rest) pos) tB'):PW X (.BoolOp .Or (a::b::rest) pos) (tOr tA tB'):=by
 intro R Zp s σ H Q I h;refine isTrue_or (thn (M Zp s σ H _ I h) ?_);rintro c O ⟨J,K,L⟩;cases c with
 |true=>exact(J,K,L)
 |false=>exact N R Zp O σ J Q K L
def Fy(J:PT X a tA):PT X (.UnaryOp .Not a pos) (LI tA):=λpins s σ H Q I h=>isTrue_not (J _ s σ H _ I h)
def IT(ta tb:TE):TE:=λσ H Q=>ta σ H λx J=>∃c,x=.bl c/\if c=true then tb σ J Q else Q (.bl false) J
def LJ(ta tb:TE):TE:=λσ H Q=>ta σ H λx J=>∃c,x=.bl c/\if c=true then Q (.bl true) J else tb σ J Q
def IU(ta:TE):TE:=λσ H Q=>ta σ H λx J=>∃c,x=.bl c/\Q (.bl (!c)) J
def Fz{op}{t}(h:PE X a t):PE X (.BoolOp op [a] pos) t:=λpins s σ H Q I J=>BoolOp_one (h _ s σ H Q I J)
def xE(M:PE X a ta)(N:PE X (.BoolOp .And (b::rest) pos) tb):PE X (.BoolOp .And (a::b::rest) pos) (IT ta tb):=by
 intro Zp s σ H Q I h;refine BoolOp_and (thn (M Zp s σ H _ I h) ?_);rintro v R ⟨x,K,L,O,J⟩;obtain⟨c,rfl,J⟩:=J;cases O;refine wpAny_truthy_bool ?_;cases c with
 |true=>exact N Zp R σ K Q L J
 |false=>exact(.bl false,K,L,rfl,J)
def Ei(M:PE X a ta)(N:PE X (.BoolOp .Or (b::rest) pos) tb):PE X (.BoolOp .Or (a::b::rest) pos) (LJ ta tb):=by
 intro Zp s σ H Q I h;refine BoolOp_or (thn (M Zp s σ H _ I h) ?_);rintro v R ⟨x,K,L,O,J⟩;obtain⟨c,rfl,J⟩:=J;cases O;refine wpAny_truthy_bool ?_;cases c with
 |false=>exact N Zp R σ K Q L J
 |true=>exact(.bl true,K,L,rfl,J)
def FA(M:PE X a ta):PE X (.UnaryOp .Not a pos) (IU ta):=by
 intro Zp s σ H Q I h;refine UnaryOp_ (thn (M Zp s σ H _ I h) ?_);rintro v O ⟨x,K,L,N,J⟩;obtain⟨c,rfl,J⟩:=J;cases N;erw[not_of (wpAny_truthy_bool (.bl (!c),K,L,rfl,J))]
def tIf(t:TT)(ta tb:TE):TE:=λσ H Q=>t σ H λc J=>if c=true then ta σ J Q else tb σ J Q
def ph{c}(hc:PT X c tA)(N:PE X a ta)(O:PE X b tb):PE X (.IfExp c a b pos) (tIf tA ta tb):=by
 intro Zp s σ H Q I h;refine wpAny_IfExp (thn (hc Zp s σ H _ I h) ?_);rintro d M ⟨J,K,L⟩;cases d with
 |true=>exact N Zp M σ J Q K L
 |false=>exact O Zp M σ J Q K L
end
def SqL(K:fg0)(H:Hp)(a:Addr)(xs:List V):Prop:=
 Rd H a (.lst xs)\/
  ∃(o:Obj)(J:A9)(n:Nat),K.lookup a=some o/\o.cls=.type "list"/\o.dict=none/\o.data=.seq J n/\J.size<=sizeLine/\Vals xs J.toList
def SqT(K:fg0)(H:Hp)(a:Addr)(xs:List V):Prop:=
 Rd H a (.tup xs)\/
  ∃(o:Obj)(J:A9)(n:Nat),K.lookup a=some o/\o.cls=.type "tuple"/\o.data=.seq J n/\J.size<=sizeLine/\Vals xs J.toList
noncomputable def LK:Value->Option V
 |.none=>some .non
 |.bool b=>some (.bl b)
 |.int i _=>some (.int i)
 |.str x _=>some (.str x)
 |.ref a=>some (.ref a)
 |.type n=>some (.ty n)
 |_=>none
def RelV.abs{x:V}(r:RelV x u):LK u=some x:=by
 cases x with
 |non=>cases r;rfl
 |bl _=>cases r;rfl
 |int _=>obtain⟨t,rfl⟩:=r;rfl
 |str _=>obtain⟨t,rfl⟩:=r;rfl
 |ref _=>cases r;rfl
 |ty _=>cases r;rfl
theorem RelV.inj{x y}(r:RelV x u)(q:RelV y u):x=y:=Option.some.inj (r.abs.symm.trans q.abs)
theorem Vals.inj:∀{xs J:List V}{us:A2},Vals xs us->Vals J us->xs=J:=by
 intro xs J us h
 induction h generalizing J with
 |nil=>intro h;cases h;rfl
 |cons r t ih=>intro h;cases h with|cons K t'=>rw[r.inj K,ih t']
section
variable {ys:List V}
def SqL.of{K:fg0}(h:H a=some (.lst xs)):SqL K H a xs:=.inl (.inl h)
def SqT.of{K:fg0}(h:H a=some (.tup xs)):SqT K H a xs:=.inl (.inl h)
def Inv.list(I:Inv X Zp σ H s)(h:SqL X.K H a xs):∃J:List Value,Vals xs J/\PlainL s.heap a J.toArray/\xs.length<=sizeLine:=by
 rcases h with h|⟨o,J,n,N,L,M,O,R,r⟩
 .obtain⟨z,J,n,r,e⟩:=h.ok I.hok
  exact(_,r,(_,n,e,rfl,rfl,rfl),z)
 .refine(_,r,(o,n,I.kIn a o N,L,M,by omega),?_)
  have e:=r.length
  grind
def Inv.tuple(I:Inv X Zp σ H s)(h:SqT X.K H a xs):∃J:List Value,Vals xs J/\IsTup s.heap a J.toArray/\xs.length<=sizeLine:=by
 rcases h with h|⟨o,J,n,M,L,N,O,r⟩
 .obtain⟨z,J,r,p⟩:=h.ok I.hok
  exact(_,r,p,z)
 .refine(_,r,(o,I.kIn a o M,L,n,by omega),?_)
  have e:=r.length
  simp_all
def Inv.list_inj(I:Inv X Zp σ H s)(h:SqL X.K H a xs)(h':SqL X.K H a ys):xs=ys:=by
 obtain⟨O,r,⟨o,n,e,_,_,d⟩,_⟩:=I.list h;obtain⟨M,R,⟨V,U,L,_,_,J⟩,_⟩:=I.list h';rw[e]at L;cases L;rw[d]at J;injection J with N _
 have:=by simpa using congrArg Array.toList N
 subst this;erw[r.inj R]
end
noncomputable abbrev Cx.wish(X:Cx)(E:A0):Cx:={X with xe:=E}
noncomputable abbrev Cx.nox(X:Cx):Cx:=X.wish λa a=>False
theorem Cx.Ok.wish(ok:X.Ok)(E:A0):(X.wish E).Ok:=
 (ok.mod,ok.kind,ok.glob,ok.blt,ok.above,ok.inj,ok.has,ok.cab,ok.hd,ok.frames,ok.stk,ok.exf,ok.bs,ok.bsz,ok.noex,ok.exfs,ok.funs,ok.frf)
def Cx.Ok.unwish(ok:(X.wish E).Ok):X.Ok:=
 (ok.mod,ok.kind,ok.glob,ok.blt,ok.above,ok.inj,ok.has,ok.cab,ok.hd,ok.frames,ok.stk,ok.exf,ok.bs,ok.bsz,ok.noex,ok.exfs,ok.funs,ok.frf)
theorem Inv.wish(I:Inv X Zp σ H s)(E:A0):Inv (X.wish E) Zp σ H s:=(I.ok.wish E,I.os,I.bare,I.base,I.loc,I.cell,I.free,I.freeC,I.pin,I.hok,I.len)
theorem Inv.unwish(I:Inv (X.wish E) Zp σ H s):Inv X Zp σ H s:=(I.ok.unwish,I.os,I.bare,I.base,I.loc,I.cell,I.free,I.freeC,I.pin,I.hok,I.len)
theorem SP.unwish{D}{f}{s'}(h:SP (X.wish E) Zp D f s'):SP X Zp D f s':=by
 cases f with
 |next=>obtain⟨J,H',I,q⟩:=h;exact(_,H',I.unwish,q)
 |brk=>obtain⟨J,H',I,q⟩:=h;exact(_,H',I.unwish,q)
 |cont=>obtain⟨J,H',I,q⟩:=h;exact(_,H',I.unwish,q)
 |ret u=>obtain⟨v,J,H',I,r,q⟩:=h;exact(v,_,H',I.unwish,r,q)
theorem PSs.nox{st}{t}(h:PSs X.nox st t):PSs X st t:=λpins s σ H D I J=>
 wpAny_mono (h _ s σ H D (I.wish _) J) (λa a q=>q.unwish) λa a z=>False.elim z
section
variable {st:Stmt}{rest:List Stmt}{t u:TS}
def IV:TS:=λD σ H=>D.nx σ H
def LL(t u:TS):TS:=λD σ H=>t {D with nx:=u D} σ H
def kK:PSs X [] IV:=λa a σ H a I h=>wpAny_execs_nil (σ,H,I,h)
def bV(K:PS X st t)(L:PSs X rest u):PSs X (st::rest) (LL t u):=by
 intro Zp s σ H D I h;refine wpAny_execs_cons (thn (K _ s σ H _ I h) λf M q=>?_);cases f with
 |next=>
  obtain⟨N,H',J,q⟩:=q;erw[L _ M _ H' D J q]
 |ret v=>exact q
 |brk=>exact q
 |cont=>exact q
def Inv.quiet(I:Inv X Zp σ H s):interactive X.env=false:=by simp[interactive,I.ok.kind]
def IW(te:TE):TS:=λD σ H=>te σ H λa J=>D.nx σ J
def fU(L:PE X e te)(hs:swapsWith e none pos.line X.env=pure false):PS X (.Expr e pos) (IW te):=by
 erw[λpins s σ H D I h=>wpAny_Expr_any (thn (L _ s σ H _ I h) (by rintro v O ⟨x,J,K,N,M⟩;exact(σ,J,K,M))) I.quiet hs]
def LM(te:TE):TS:=λD σ H=>te σ H D.rt
def ng(L:PE X e te):PS X (.Return (some e) pos) (LM te):=by
 erw[λpins s σ H D I h=>wpAny_Return_some (thn (L _ s σ H _ I h) (by rintro v O ⟨x,J,K,N,M⟩;exact(x,σ,J,K,N,M)))]
def LN(c:TT)(t u:TS):TS:=λD σ H=>c σ H λb J=>if b=true then t D σ J else u D σ J
def xF{c}{a b}{tc}(hc:PT X c tc)(N:PSs X a t)(O:PSs X b u):PS X (.If c a b pos) (LN tc t u):=by
 intro Zp s σ H D I h;refine wpAny_If (thn (hc Zp s σ H _ I h) ?_);rintro d M ⟨J,K,L⟩;cases d with
 |true=>exact N Zp M σ J D K L
 |false=>exact O Zp M σ J D K L
end
abbrev TG:=V->St->Hp->(St->Hp->Prop)->Prop
abbrev TGs:=List V->St->Hp->(St->Hp->Prop)->Prop
def PG(X:Cx)(target:Expr)(t:TG):Prop:=
 ∀(Zp:A5)(s:Shared)(σ:St)(H:Hp)(v:V)(u:Value)(Q:St->Hp->Prop),Inv X Zp σ H s->RelV v u->t v σ H Q->
  wpAny @4 X.A (assign target X.env u) (λa K=>∃J H',Inv X Zp J H' K/\Q J H') X.xe s
def PGs(X:Cx)(ts:A3)(t:TGs):Prop:=
 ∀(Zp:A5)(s:Shared)(σ:St)(H:Hp)(K:List V)(us:A2)(Q:St->Hp->Prop),Inv X Zp σ H s->Vals K us->t K σ H Q->
  wpAny @4 X.A (assignInOrder ((assignEach ts X.env).map (·.2)) us) (λa L=>∃J H',Inv X Zp J H' L/\Q J H') X.xe s
abbrev FB:=V->V->V->Hp->(Hp->Prop)->Prop
def FC(X:Cx)(t:FB):Prop:=
 ∀(Zp:A5)(s:Shared)(σ:St)(H:Hp)(o i v:V)(K J u:Value)(Q:Hp->Prop),Inv X Zp σ H s->RelV o K->RelV i J->RelV v u->t o i v H Q->
  wpAny @4 X.A (setItem K J u) (λa L=>∃H',Inv X Zp σ H' L/\Q H') X.xe s
abbrev TIp:=V->V->Hp->VK->Prop
def PIp(X:Cx)(op:Operator)(t:TIp):Prop:=
 ∀(Zp:A5)(s:Shared)(σ:St)(H:Hp)(x y:V)(v u:Value)(Q:VK),Inv X Zp σ H s->RelV x v->RelV y u->t x y H Q->
  wpAny @4 X.A (inplaceOp op v u) (EP X Zp σ Q) X.xe s
def Ej(i:Nat):TG:=λv σ H Q=>Q (σ.set i (some v)) H
def BH(K:X.N.Nodup)(M:X.N[i]?=some x)(O:Loc X.env.scope x)(L:X.fn x=true\/X.env.scope.names.lookup x=some .local):PG X (.Name x pos) (Ej i):=λpins s σ H v u Q I r h=>wpAny_assign_Name (jx I K M O r (λR J=>(_,H,J,h)) L)
def LO:TGs:=λJ σ H Q=>J=[]/\Q σ H
def IX(t:TG)(u:TGs):TGs:=λK σ H Q=>∃v r,K=v::r/\t v σ H λJ H'=>u r J H' Q
def BI:PGs X [] LO:=by
 intro Zp s σ H J us Q I r h;obtain⟨e,h⟩:=h;subst e;erw[assignInOrder_nil (σ,H,I,h)]
def xG{e:Expr}{t}{u}(N:PG X e t)(O:PGs X es u)
  (hs:(assignEach (e::es) X.env).map (·.2)=assign e X.env::(assignEach es X.env).map (·.2)):PGs X (e::es) (IX t u):=by
 intro Zp s σ H Y us Q I r h;obtain⟨v,W,M,h⟩:=h;subst M;cases r with
 |cons r U=>
  rw[hs];refine assignInOrder_cons (thn (N Zp s σ H _ _ _ I r h) ?_);rintro _ V ⟨J,K,L,R⟩;erw[O Zp V J K _ _ Q L U R]
def LP(K:fg0)(n:Nat)(t:TGs):TG:=λv σ H Q=>∃a xs,v=.ref a/\SqT K H a xs/\xs.length=n/\t xs σ H Q
def FD{t}{n:Nat}(hc:X.calm=true)(h:PGs X es t)
  (O:(assignEach es X.env).length=n) (J:(assignEach es X.env).findIdx? (·.1)=none):PG X (.Tuple es k pos) (LP X.K n t):=by
 intro Zp s σ H v u Q I r L;obtain⟨a,xs,M,R,N,L⟩:=L;subst M;cases r;obtain⟨W,Y,U,Z⟩:=I.tuple R;erw[assign_Tuple_tuple (I.ok.hd hc) U (by simp[O,<-N,Y.length]) J λh' V=>h _ _ σ H xs _ Q (I.kept λb o e=>V b o (nn0 (hs0 e)) e) @1 L]
def LQ(M ti:TE)(t:FB):TG:=λv σ H Q=>M σ H λo J=>ti σ J λi K=>t o i v K λL=>Q σ L
def nh{o i}{to ti}{t}(Y:PE X o to)(W:PE X i ti)(hs:FC X t)
  (V:∀v,assign (.Subscript o i pos) X.env v=(do
   let J ←holding [v] (eval o X.env)
   let K ←holding [v,J] (eval i X.env)
   standAt pos
   holding [v,J,K] (setItem J K v)
   release [v,J,K] [])):PG X (.Subscript o i pos) (LQ to ti t):=by
 intro Zp s σ H v u Q I r h;rw[V];refine wb0 (wh0 (thn (Y Zp s σ H _ I h) ?_));rintro J S ⟨x,L,O,D,Z⟩;refine wb0 (wh0 (thn (W Zp S σ L _ O Z) ?_));rintro K G ⟨y,M,R,B,T⟩;refine wb0 (wpAny_standAt (wb0 (wh0 (thn (hs Zp G σ M x y v J K u _ R D B r T) ?_))));rintro _ j ⟨N,U,F⟩;erw[wpAny_release (σ,N,U,F)]
def IY(te:TE)(g:TG):TS:=λD σ H=>te σ H λx J=>g x σ J D.nx
def jy{tg e}{g}(M:PE X e te)(N:PG X tg g)(hs:swapsWithSole [tg] e pos.line X.env=pure false)(hw:swappedStores [tg] e X.env=pure none)
  (L:(assignEach [tg] X.env).map (·.2)=[assign tg X.env]):PS X (.Assign [tg] e pos) (IY te g):=by
 intro Zp s σ H D I h;refine wpAny_Assign_stores (thn (M Zp s σ H _ I h) ?_) hs hw;rintro v U ⟨x,J,K,R,O⟩;rw[L];erw[thn (N Zp U σ J x v _ K R O) λa V q=>q]
def hV{pos'}(M:X.N.Nodup)(U:X.N[i]?=some x)(V:Loc X.env.scope x)(O:PE X e te)(hs:swapsWith e (some (.Name x pos')) pos.line X.env=pure false)(R:X.fn x=true\/X.env.scope.names.lookup x=some .local):
  PS X (.Assign [.Name x pos'] e pos) (IY te (Ej i)):=by
 intro Zp s σ H D I h;refine wpAny_Assign_Name (thn (O Zp s σ H _ I h) ?_) hs;rintro v Z ⟨y,J,K,Y,W⟩;erw[jx K M U V Y (λT L=>(_,J,L,W)) R]
def LR(i:Nat)(te:TE)(ti:TIp):TS:=λD σ H=>∃x,σ[i]?=some (some x)/\te σ H λy J=>ti x y J λz K=>D.nx (σ.set i (some z)) K
def FE{op}{ti}{pos'}(B:X.N.Nodup)(U:X.N[i]?=some x)(M:Loc X.env.scope x)(G:PE X e te)(d:PIp X op ti)(j:X.fn x=true\/X.env.scope.names.lookup x=some .local):
  PS X (.AugAssign (.Name x pos') op e pos) (LR i te ti):=by
 intro Zp s σ H D I h;obtain⟨v,F,h⟩:=h;obtain⟨m,p,q⟩:=I.loc;have O:Vis X.env.scope x:=by rcases M with k|k;exact .inl k;exact .inr (.inl k)
 obtain⟨u,r,l⟩:=q i x v U F O;refine wpAny_AugAssign_Name ?_;have R:wpAny @4 X.A (eval e X.env) (λw K=>wpAny @4 X.A (inplaceOp op u w) (λr L=>wpAny @4 X.A (storeName X.env x r) (λa=>SP X Zp D .next) X.xe L) X.xe K) X.xe s:=by
  refine thn (G Zp s σ H _ I h) ?_;rintro w s1 ⟨y,V,Y,r1,n⟩;refine thn (d Zp s1 σ V v y u w _ Y r r1 n) ?_;rintro z s2 ⟨zv,W,Z,r2,q2⟩;erw[jx Z B U M r2 (λs3 T=>(_,W,T,q2)) j]
 rcases l with⟨hk,g⟩|⟨hk,c,S,J⟩
 .erw[wpAny_loadName_local I.ok.kind hk p g R]
 .rcases hk with hk|hk
  .erw[wpAny_loadName_cell I.ok.kind hk S J R]
  .rcases M with k|k
   .have:X.env.scope.names.lookup x=some .free:=hk
    rw[k]at this;cases this
   .have:X.env.scope.names.lookup x=some .free:=hk
    rw[k]at this;cases this
def ipI(f:Int->Int->Int):TIp:=λx y H Q=>∃i j,x=.int i/\y=.int j/\Q (.int (f i j)) H
def FG:PIp X .Add (ipI λi j=>i+j):=by
 intro Zp s σ H x y v u Q I L M h;obtain⟨i,j,J,K,q⟩:=h;subst J;subst K;obtain⟨t,rfl⟩:=L;obtain⟨t',rfl⟩:=M;erw[iadd_int (.int _,H,I.tok _,(_,rfl),q)]
def FH(c:TT)(tb:TS):TS:=λD σ H=>∃W:Nat->St->Hp->Prop,(∃m,W m σ H)/\∀m σ H,W m σ H->
 c σ H λb K=>if b=true then ∃N:St->Hp->Prop,(∀J H',N J H'->∃L,L<m/\W L J H')/\tb {D with nx:=N,ct:=N,bk:=D.nx} σ K else D.nx σ K
def xH{body:List Stmt}{tc:TT}{tb:TS}(j:PassesOwn @4 X.A X.env X.xe)(hc:PT X c tc)(y:PSs X body tb):PS X (.While c body [] pos) (FH tc tb):=by
 intro Zp s σ H D I h;obtain⟨W,⟨m0,l⟩,turn⟩:=h;refine wpAny_While (codeAny_whileLoop (λn q=>∃M H',Inv X Zp M H' q/\W n M H') ?_ m0 (σ,H,I,l))
 rintro n g ⟨K,F,z,r⟩
 refine wpAny_passesOwn j (thn (hc Zp g K F _ z (turn n K F r)) λb m ⟨B,S,O⟩=>?_);cases b with
 |true=>
  obtain⟨N,G,O⟩:=O;refine wpAny_passesOwn j (thn (y Zp m K B _ S O) λf p R=>?_);cases f with
  |next=>
   obtain⟨J,L,U,Z⟩:=R;obtain⟨Y,V,T⟩:=G J L Z;exact(Y,V,J,L,U,T)
  |cont=>
   obtain⟨J,L,U,Z⟩:=R;obtain⟨Y,V,T⟩:=G J L Z;exact(Y,V,J,L,U,T)
  |brk=>exact R
  |ret v=>exact R
 |false=>
  erw[wpAny_execs_nil (K,B,S,O)]
structure It where
 go:Nat->Hp->Prop
 yld:Nat->Hp->V->Hp->Prop
 stop:Nat->Hp->Prop
def jz(X:Cx)(Zp:A5)(H:Hp)(b:Addr):Prop:=
 H b=none/\b≠X.env.locals/\b∉X.fs/\(b∈X.ex\/X.s₀.heap.objs.size<=b)/\(∀x c,X.env.cells.lookup x=some c->c≠b)/\∀p∈X.pn++Zp,p.1≠b
def Inv.fpOk(I:Inv X Zp σ H s)(J:s.heap.objs.size<=b)(K:H' b=none):jz X Zp H' b:=by
 refine(K,Nat.ne_of_gt (nl0 I.lt J),(have h:=J;λJ=>by
   obtain⟨_,o,L,_⟩:=I.ok.funs.mem J;erw[absurd (nl0 (hs0 L) (nt0 I.sz h)) (li0 _)]),.inr (nt0 I.sz J),λx c e z=>?_,λp M z=>?_)
 .obtain⟨v,q⟩:=I.cell x c e
  erw[absurd (nl0 q.lt (by rwa [z])) (li0 _)]
 .erw[absurd (nl0 (hs0 (I.pin p M).1) (by rwa [z])) (li0 _)]
structure Turn(P:Program)(w:World)(K:fg0)(tg:Expr)(J:It)(fp:A4)(it:Addr)(tn:Nat->Heap->Prop):Prop where
 mem:it∈fp
 obj:∀i h,tn i h->∀b∈fp,∃o,h.get? b=some o/\∀v,o.data≠.cell v
 keep:∀i h h',tn i h->(∀b∈fp,∀o,h.get? b=some o->h'.get? b=some o)->tn i h'
 item:∀(X:Cx),X.prog=P->X.w=w->X.K=K->X.calm=true->∀(i:Nat)(Zp:A5)(s:Shared)(σ:St)(H:Hp)(E:A0),Inv X Zp σ H s->(∀b∈fp,jz X Zp H b)->tn i s.heap->J.go i H->
  wpAny (model P w) X.A (pyNext (.ref it)) (λr s1=>∃u,r=some u/\
   wpAny (model P w) X.A (letOwnedTupleGo tg (.ref it) u) (λa s2=>∃x H',Inv X Zp σ H' s2/\RelV x u/\J.yld i H x H'/\tn (i+1) s2.heap/\∀b∈fp,H' b=none) E s1) E s
 done:∀(X:Cx),X.prog=P->X.w=w->X.K=K->X.calm=true->∀(i:Nat)(Zp:A5)(s:Shared)(σ:St)(H:Hp)(E:A0),Inv X Zp σ H s->(∀b∈fp,jz X Zp H b)->tn i s.heap->J.stop i H->
  wpAny (model P w) X.A (pyNext (.ref it)) (λr s1=>r=none/\Inv X Zp σ H s1) E s
 self:∀(A:Around)(i:Nat)(s:Shared)(Q:A0)(E:A0),tn i s.heap->Q (.ref it) s->wpAny (model P w) A (pyIter (.ref it)) Q E s
abbrev TI:=St->Hp->(It->Hp->Prop)->Prop
def PIE(X:Cx)(Zp:A5)(σ:St)(tg:Expr)(R:It->Hp->Prop)(L:Value)(s2:Shared):Prop:=
 ∃(N:Addr)(M:A4)(O:Nat->Heap->Prop)(J:It)(H':Hp),L=.ref N/\Inv X Zp σ H' s2/\Turn X.prog X.w X.K tg J M N O/\O 0 s2.heap/\(∀b∈M,jz X Zp H' b)/\R J H'
def PI(X:Cx)(tg iter:Expr)(K:TI):Prop:=
 ∀(Zp:A5)(s:Shared)(σ:St)(H:Hp)(R:It->Hp->Prop),Inv X Zp σ H s->K σ H R->
  wpAny @4 X.A (eval iter X.env) (λv J=>wpAny @4 X.A (pyIter v) (PIE X Zp σ tg R) X.xe J) X.xe s
def pj{M:Model}{it}{o:Obj}{n}{vs}{Q:A7}(N:s.heap.get? it=some o)(hc:o.cls=.type n)(K:o.data=.fields vs)
  (L:["enumerate","zip","dict_itemiterator","dict_reverseitemiterator","odict_iterator","itertools.zip_longest","itertools.pairwise"].contains n=false) (J:Q () s):wpAny M A (letOwnedTupleGo tg (.ref it) u) Q E s:=by
 cases tg<;>first
  |exact wq0 J
  |(cases u<;>first
    |exact wq0 J
    |(refine wb0 (wpAny_load N ?_)
      rw[hc,K];show wpAny M A (if (["enumerate","zip","dict_itemiterator",_,"odict_iterator","itertools.zip_longest","itertools.pairwise"].contains n&&vs[0]?==some (rawInt _))=true then _ else _) Q E s;rw[if_neg (by intro h;rw[L,Bool.false_and]at h;cases h)];erw[wq0 J]))
noncomputable def Itl(K:fg0)(a:Addr):It:=
 (λi H=>∃xs x,SqL K H a xs/\xs[i]?=some x,λi H x H'=>H'=H/\∀xs,SqL K H a xs->xs[i]?=some x,λi H=>∃xs,SqL K H a xs/\xs.length<=i)
noncomputable def Itr(lo:Int)(n:Nat):It:=(λi a=>i<n,λi H x H'=>H'=H/\x=.int (lo+i),λi a=>n<=i)
def vN{K:fg0}(a M:Addr):Turn P w K tg (Itl K a) [M] M (λi h=>h.IsListIter M a i) where
 mem:=by simp
 obj:=λi h J b L=>by
  have e:b=M:=by simpa using L
  subst e;obtain⟨o,e,c,d⟩:=J;exact(o,e,λv z=>by rw[d]at z;cases z)
 keep:=λi h h' J k=>J.at λo e=>k M @0 o e
 item:=by
  intro X F B T y i Zp s σ H E I O J D;subst F B T;obtain⟨xs,x,R,S⟩:=D;obtain⟨G,j,p,n⟩:=I.list R;obtain⟨u,l,ru⟩:=j.get S;obtain⟨U,V,m,W,Y,Z⟩:=O M @0;refine wpAny_pyNext_list_item J p.isList (x:=u) (by simpa using l) λh' N sb=>?_
  have q:=I.turned (t':=s.toks) (λb o L e=>(sb.2 b L).trans e) U V W Y Z;obtain⟨o,e,c,d⟩:=id N;exact(u,rfl,pj (s:={s with heap:=h'}) e c d (by decide) (x,H,q,ru,(rfl,λys r=>by rw[I.list_inj r R];erw[S]),N,λb L=>(O b L).1))
 done:=by
  intro X F B T y i Zp s σ H E I O J D;subst F B T;obtain⟨xs,R,S⟩:=D;obtain⟨G,j,p,n⟩:=I.list R;obtain⟨U,V,m,W,Y,Z⟩:=O M @0;have hl:=j.length;erw[wpAny_pyNext_list_end (I.ok.hd y) J p.isList (by simp;simp_all) λh' g=>(rfl,I.turned (t':=s.toks) (λb o L e=>g b o L e) U V W Y Z)]
 self:=λf f f f f J h=>wpAny_pyIter_listiter J h
def rC{K:fg0}(L:Addr)(lo:Int)(n:Nat):Turn P w K tg (Itr lo n) [L] L (λi h=>IsRangeIter h L (lo+(i:Nat)*1) ((n:Int)-(i:Nat)) 1) where
 mem:=by simp
 obj:=λi h J b M=>by
  simp_all
 keep:=λi h h' J k=>k L @0 _ J
 item:=by
  intro X F S T D i Zp s σ H E I O J B;subst F S T;obtain⟨R,U,z,V,Y,Z⟩:=O L @0;have W:=Walks.range (prog:=X.prog) (w:=X.w) (I.ok.hd D) L lo 1 n;refine W.item i s _ _ B J λv h' q y N kk=>?_
  obtain⟨t,rfl⟩:=y;have G:Inv X Zp σ H {s with heap:=h',toks:=q}:=I.turned (λb o M e=>kk b o (by simpa using M) e) R U V Y Z;refine(_,rfl,pj (n:="range_iterator") N rfl rfl @2 (.int (lo+i),H,G,(t,?_),(rfl,rfl),N,λb M=>(O b M).1));rw[Int.mul_one]
 done:=by
  intro X F S T D i Zp s σ H E I O J B;subst F S T;obtain⟨R,U,z,V,Y,Z⟩:=O L @0;erw[wpAny_pyNext_range_end (I.ok.hd D) J (by have:n<=i:=B;lia) λh' j=>(rfl,I.turned (t':=s.toks) (λb o M e=>j b o M e) R U V Y Z)]
 self:=λa a a a a J h=>wpAny_pyIter_rangeiter J h
def IZ(K:fg0)(L:TE):TI:=λσ H R=>L σ H λx J=>∃a,x=.ref a/\(∃xs,SqL K J a xs)/\R (Itl K a) J
def BJ{l}{tl}(N:PE X l tl):PI X tg l (IZ X.K tl):=by
 intro Zp s σ H R I h;refine thn (N _ s σ H _ I h) λv T ⟨x,L,J,W,V⟩=>?_
 obtain⟨a,e,⟨xs,O⟩,q⟩:=V;subst e;cases W;obtain⟨U,Z,p,Y⟩:=J.list O;refine wpAny_pyIter_list p.isList ?_;refine(_,_,_,_,L,rfl,J.kept λb o e=>ps0 _ e,vN a _,(_,pz0 _ rfl,rfl,rfl),λb M=>?_,q);have e:=by simpa using M
 subst e;erw[J.fpOk (nr0 _) (J.hok.fresh (nr0 _))]
def xI{R}{lo J}{t u v}{tk}(I:Inv X Zp σ H s)(N:-(2 ^ 62)<=lo)(O:lo<2 ^ 62)(U:-(2 ^ 62)<=J)(V:J<2 ^ 62)
  (q:R (Itr lo (J-lo).toNat) H):wpAny @4 X.A (pyIter @11) (PIE X Zp σ tg R) E {s with heap:=s.heap.push {cls:=.type "range",data:=.fields #[.int lo t,.int J u,.int 1 v]},toks:=tk}:=by
 refine wpAny_pyIter_range (IsRange.new ..) (small_one N O U V) ?_;have K:Inv X Zp σ H {s with heap:=s.heap.push {cls:=.type "range",data:=.fields #[.int lo t,.int J u,.int 1 v]},toks:=tk}:=I.kept λb o e=>ps0 _ e
 refine(_,_,_,_,H,rfl,
  K.kept λb o e=>ps0 _ e,rC _ lo _,?_,λb W=>?_,q)
 .have L:lo+((0:Nat):Int)*1=lo:=by simp
  have M:((J-lo).toNat:Nat)-(0:Nat)=Builtin.Range.rangeSize lo J 1:=by rw[rangeSize_one];grind
  rw[L,M];erw[pz0 _ rfl]
 .have e:b=(s.heap.push {cls:=.type "range",data:=.fields #[.int lo t,.int J u,.int 1 v]}).objs.size:=by simpa using W
  subst e;erw[K.fpOk (nr0 _) (K.hok.fresh (nr0 _))]
def Ja(ta:TA):TI:=λσ H R=>ta σ H λK J=>∃j:Int,K=[.int j]/\ -(2 ^ 62)<=j/\j<2 ^ 62/\R (Itr 0 j.toNat) J
def vO{a}{ta}{p pos}(M:Gl X "range")(N:X.mg "range"=none)(L:PA X [a] ta)(hs:starEach [a] X.env=[(false,eval a X.env)]):PI X tg (.Call (.Name "range" p) [a] [] pos) (Ja ta):=by
 intro Zp s σ H R I h;refine Call_ (ld_blt I M N boot_range (PyProof.Rows.callWith_type1 (thn (L pos Zp s σ H _ I h) ?_) hs rfl) @2 @2);rintro us Y ⟨Z,W,K,U,J⟩;obtain⟨j,e,J,O,q⟩:=J;subst e;cases U with
 |cons r V=>
  cases V;obtain⟨t,rfl⟩:=r;erw[call_range_1 (xI K @6 @6 J O (by simpa using q))]
def LS(U:TI)(g:TG)(tb:TS):TS:=λD σ H=>U σ H λJ O=>∃W:Nat->Nat->St->Hp->Prop,(∃m,W 0 m σ O)/\∀i m σ H,W i m σ H->
 (J.stop i H/\D.nx σ H)\/(J.go i H/\∃N:St->Hp->Prop,(∀K H',N K H'->∃M,M<m/\W (i+1) M K H')/\∀x H',J.yld i H x H'->g x σ H' λL R=>tb {D with nx:=N,ct:=N,bk:=D.nx} L R)
noncomputable def jA(J:A4)(h:Heap):List (Addr×Obj):=J.filterMap λb=>(h.get? b).map λo=>(b,o)
def dz{fp}{o:Obj}(J:b∈fp)(e:h.get? b=some o):(b,o)∈jA fp h:=List.mem_filterMap.mpr (b,J,by rw[e];rfl)
def vP{fp}{p}(L:p∈jA fp h):p.1∈fp/\h.get? p.1=some p.2:=by
 obtain⟨b,K,e⟩:=List.mem_filterMap.mp L;cases q:h.get? b with
 |none=>simp_all
 |some o=>
  rw[q]at e;have J:=Option.some.inj e;subst J;exact(K,q)
def Inv.pinned{fp}(I:Inv X Zp σ H s)(K:∀b∈fp,jz X Zp H b)(L:∀b∈fp,∃o,s.heap.get? b=some o/\∀v,o.data≠.cell v):Inv X (Zp++jA fp s.heap) σ H s:=
 I.pins_of λp M=>(ma0 M).elim (λz=>I.pin p (mr0 _ z)) λz=>by
  obtain⟨J,e⟩:=vP z;obtain⟨O,R,U,_⟩:=K _ J;obtain⟨o,N,d⟩:=L _ J<;>simp_all
def Inv.unpinned{Zp pl}(I:Inv X (Zp++pl) σ H s):Inv X Zp σ H s:=I.pins_of λp J=>I.pin p (mr0 _ (List.mem_append_left _ J))
def FI{iter}{body}{wi}{g}{tb}(S:PassesOwn @4 X.A X.env X.xe)(hc:X.calm=true)(hi:PI X tg iter wi)(hg:PG X tg g)(O:PSs X body tb)
  (hs:∀x,foldedSetIterable iter X.env x=pure x):PS X (.For tg iter body [] pos) (LS wi g tb):=by
 intro Zp s σ H D I h;refine wpAny_For (thn (hi Zp s σ H _ I h) λv s1 h1=>thn h1 λj2 s2 h2=>?_) hs;obtain⟨it,F,tn,J,H2,e,I2,T,j0,f2,W,⟨m0,w0⟩,turn⟩:=h2;subst e;have R:∀{H':Hp},(∀b∈F,H' b=none)->∀b∈F,jz X Zp H' b:=λhn b O=>(hn b O,(f2 b O).2)
 refine codeAny_forLoop_any (λn s'=>∃i U H',Inv X Zp U H' s'/\tn i s'.heap/\(∀b∈F,H' b=none)/\W i n U H') ?_ m0 (0,σ,H2,I2,j0,λb O=>(f2 b O).1,w0)
 rintro n s3 ⟨i,V,z,I3,j,B,w3⟩
 rcases turn i n V z w3 with⟨stop,qn⟩|⟨go,N,hN,step⟩
 .refine wpAny_passesOwn S (thn (T.done X rfl rfl rfl hc i Zp s3 V z X.xe I3 (R B) j stop) ?_);rintro r s4 ⟨l,I4⟩
  subst l;erw[wpAny_execs_nil (V,z,I4,qn)]
 .refine wpAny_passesOwn S (thn (T.item X rfl rfl rfl hc i Zp s3 V z X.xe I3 (R B) j go) ?_);rintro r s4 ⟨u,l,h4⟩
  subst l;refine wpAny_passesOwn S (thn h4 ?_);rintro _ s5 ⟨x,H5,I5,r5,y5,Z,q⟩;have y:=I5.pinned (R q) (T.obj _ _ Z);refine wpAny_passesOwn S (thn (hg _ s5 V H5 x u _ y r5 (step x H5 y5)) ?_);rintro _ s6 ⟨j1,H6,I6,q6⟩;refine wpAny_passesOwn S (thn (O _ s6 j1 H6 _ I6 q6) λf p Y=>?_);have again:∀{K:St}{L:Hp},Inv X (Zp++jA F s5.heap) K L p->N K L->∃m,m<n/\∃i U H',Inv X Zp U H' p/\tn i p.heap/\(∀b∈F,H' b=none)/\W i m U H':=λ{K L} M G=>by
   obtain⟨m',hm,w7⟩:=hN K L G;refine(m',hm,i+1,K,L,M.unpinned,T.keep _ _ _ Z λb O o e=>(M.pin (b,o) (mr0 _ (mr0 _ (dz O e)))).1,λb O=>?_,w7);obtain⟨o,e,d⟩:=T.obj _ _ Z b O;exact (M.pin (b,o) (mr0 _ (mr0 _ (dz O e)))).2.1
  cases f with
  |next=>obtain⟨K,L,M,G⟩:=Y;erw[again M G]
  |cont=>obtain⟨K,L,M,G⟩:=Y;erw[again M G]
  |brk=>obtain⟨K,L,M,Y⟩:=Y;exact(K,L,M.unpinned,Y)
  |ret v=>obtain⟨x7,K,L,M,r7,Y⟩:=Y;exact(x7,K,L,M.unpinned,r7,Y)
abbrev R2:=V->V->Hp->VK->Prop
def OpR(X:Cx)(f:Value->Value->Sem Value)(r:R2):Prop:=
 ∀(Zp:A5)(s:Shared)(σ:St)(H:Hp)(x y:V)(v u:Value)(Q:VK),Inv X Zp σ H s->RelV x v->RelV y u->r x y H Q->
  wpAny @4 X.A (f v u) (EP X Zp σ Q) X.xe s
def UnR(X:Cx)(f:Value->Sem Value)(r:V->Hp->VK->Prop):Prop:=
 ∀(Zp:A5)(s:Shared)(σ:St)(H:Hp)(x:V)(v:Value)(Q:VK),Inv X Zp σ H s->RelV x v->r x H Q->
  wpAny @4 X.A (f v) (EP X Zp σ Q) X.xe s
def bb(X:Cx)(f:Value)(r:List V->Hp->VK->Prop):Prop:=
 ∀(Zp:A5)(s:Shared)(σ:St)(H:Hp)(xs:List V)(us:A2)(Q:VK),Inv X Zp σ H s->Vals xs us->r xs H Q->
  wpAny @4 X.A (call f us) (EP X Zp σ Q) X.xe s
def LU(X:Cx)(r:V->Hp->(Bool->Hp->Prop)->Prop):Prop:=
 ∀(Zp:A5)(s:Shared)(σ:St)(H:Hp)(x:V)(v:Value)(Q:Bool->Hp->Prop),Inv X Zp σ H s->RelV x v->r x H Q->
  wpAny @4 X.A (truthy v) (TP X Zp σ Q) X.xe s
def tOp(r:R2)(ta tb:TE):TE:=λσ H Q=>ta σ H λx J=>tb σ J λy K=>r x y K Q
def tUn(r:V->Hp->VK->Prop)(ta:TE):TE:=λσ H Q=>ta σ H λx J=>r x J Q
def rI(C:Int->Int->Prop)(g:Int->Int->V):R2:=λx y H Q=>∃i j,x=.int i/\y=.int j/\C i j/\Q (g i j) H
def rI0(g:Int->Int->V):R2:=λx y H Q=>∃i j,x=.int i/\y=.int j/\Q (g i j) H
def rU(g:Int->V):V->Hp->VK->Prop:=λx H Q=>∃i,x=.int i/\Q (g i) H
section
variable {a b:Expr}{tb tc:TE}
def Kr(U:PE X a ta)(W:PE X b tb){R:V->V->Hp->Prop}(I:Inv X Zp σ H s)
  (h:ta σ H λx M=>tb σ M λy J=>R x y J)  {f:Value->Value->Sem Value}
  (Y:∀v u s2 x y J,Inv X Zp σ J s2->RelV x v->RelV y u->R x y J->wpAny @4 X.A (f v u) Q X.xe s2):
  wpAny @4 X.A (eval a X.env) (λv K=>wpAny @4 X.A (eval b X.env) (λu L=>wpAny @4 X.A (f v u) Q X.xe L) X.xe K) X.xe s:=thn (U _ s σ H _ I h) λv B ⟨x,M,N,F,Z⟩=>thn (W _ B σ M _ N Z) λu s2 ⟨y,J,O,D,T⟩=>Y v u s2 x y J O F D T
def xJ{op}{r:R2}(N:OpR X (binaryOp op) r)(L:PE X a ta)(M:PE X b tb):PE X (.BinOp a op b pos) (tOp r ta tb):=λpins s σ H Q I h=>wpAny_BinOp (Kr L M I h λv u U x y J K O R q=>N _ U σ J x y v u Q K O R q)
def Jb{op}{r}(M:UnR X (unaryOp op) r)(L:PE X a ta):PE X (.UnaryOp op a pos) (tUn r ta):=by
 erw[λpins s σ H Q I h=>UnaryOp_ (thn (L _ s σ H _ I h) (by rintro v R ⟨x,J,K,O,N⟩;exact M _ R σ J x v Q K O N))]
def opI{f:Value->Value->Sem Value}{C}{g:Int->Int->Int}
  (rule:∀(i j:Int)(t u:Tok)(s:Shared)(Q:A0)(E:A0),C i j->Q (.int (g i j) s.toks) {s with toks:=s.toks+1}->wpAny (model X.prog X.w) X.A (f (.int i t) (.int j u)) Q E s):
  OpR X f (rI C λi j=>.int (g i j)):=by
 intro Zp s σ H x y v u Q I K L h;obtain⟨i,j,rfl,rfl,J,q⟩:=h;obtain⟨t,rfl⟩:=K;obtain⟨t',rfl⟩:=L;erw[rule i j t t' s _ _ J (.int _,H,I.tok _,(_,rfl),q)]
def Jc{f:Value->Value->Sem Value}{g:Int->Int->Int}
  (rule:∀(i j:Int)(t u:Tok)(s:Shared)(Q:A0)(E:A0),Q (.int (g i j) s.toks) {s with toks:=s.toks+1}->wpAny (model X.prog X.w) X.A (f (.int i t) (.int j u)) Q E s):
  OpR X f (rI0 λi j=>.int (g i j)):=by
 intro Zp s σ H x y v u Q I J K h;obtain⟨i,j,rfl,rfl,q⟩:=h;obtain⟨t,rfl⟩:=J;obtain⟨t',rfl⟩:=K;erw[rule i j t t' s _ _ (.int _,H,I.tok _,(_,rfl),q)]
def BK{f:Value->Value->Sem Value}{g:Int->Int->Bool}
  (rule:∀(i j:Int)(t u:Tok)(s:Shared)(Q:A0)(E:A0),Q (.bool (g i j)) s->wpAny @4 X.A (f (.int i t) (.int j u)) Q E s):
  OpR X f (rI0 λi j=>.bl (g i j)):=by
 intro Zp s σ H x y v u Q I J K h;obtain⟨i,j,rfl,rfl,q⟩:=h;obtain⟨t,rfl⟩:=J;obtain⟨t',rfl⟩:=K;erw[rule i j t t' s _ _ (.bl _,H,I,rfl,q)]
def LV(i j:Int):Prop:=0<j/\j<1073741824
def CMul(i j:Int):Prop:=(-(2 ^ 64)<i/\i<2 ^ 64)\/(-(2 ^ 64)<j/\j<2 ^ 64)
def CMul.ok{i j}(h:CMul i j):IntMulOk i j:=by
 rcases h with⟨J,K⟩|⟨J,K⟩
 .exact .of_left (intBits_le_64 J K)
 .exact .of_right (intBits_le_64 J K)
def FJ:OpR X (binaryOp .Add) (rI0 λi j=>.int (i+j)):=Jc λa a a a a a a q=>add_int q
def FK:OpR X (binaryOp .Sub) (rI0 λi j=>.int (i-j)):=Jc λa a a a a a a q=>sub_int q
def op_mul:OpR X (binaryOp .Mult) (rI CMul λi j=>.int (i*j)):=opI λa a a a a a a J q=>mul_int q J.ok
def op_fdiv:OpR X (binaryOp .FloorDiv) (rI LV λi j=>.int (i / j)):=opI λi j a a a a a J q=>by
 have K:=J.1;have L:=J.2;erw[floordiv_int @1 (by rwa [Int.fdiv_eq_ediv_of_nonneg i @1]) (.inl (PyProof.noPylong_small @1))]
def op_mod:OpR X (binaryOp .Mod) (rI (λa j=>0<j) λi j=>.int (i % j)):=opI λi j a a a a a J q=>by
 erw[mod_int' @1 (by rwa [Int.fmod_eq_emod_of_nonneg i @1])]
def unI{f}{g:Int->Int}
  (rule:∀(i:Int)(t:Tok)(s:Shared)(Q:A0)(E:A0),Q (.int (g i) s.toks) {s with toks:=s.toks+1}->wpAny (model X.prog X.w) X.A (f (.int i t)) Q E s):
  UnR X f (rU λi=>.int (g i)):=by
 intro Zp s σ H x v Q I J h;obtain⟨i,rfl,q⟩:=h;obtain⟨t,rfl⟩:=J;erw[rule i t s _ _ (.int _,H,I.tok _,(_,rfl),q)]
def FL:UnR X (unaryOp .USub) (rU λi=>.int (-i)):=unI λa a a a a q=>neg_int q
end
section
variable {a b:Expr}{tb tc:TE}
def cw{Q:VK}{k k'}(I:Inv X Zp σ H s)(q:Q (.bl k) H)(e:k=k'):EP X Zp σ Q (.bool k') s:=by
 subst e;exact(.bl k,H,I,rfl,q)
def Jd:OpR X (compareOp .Lt) (rI0 λi j=>.bl (decide (i<j))):=BK λa a a a a a a q=>lt_int q
def Je:OpR X (compareOp .LtE) (rI0 λi j=>.bl (decide (i<=j))):=BK λa a a a a a a q=>le_int q
def vQ:OpR X (compareOp .Lt) (λx y H Q=>∃i j,x=.str i/\y=.str j/\Q (.bl (decide (i.cps.toList<j.cps.toList))) H):=by
 intro Zp s σ H x y v u Q I J K h;obtain⟨i,j,rfl,rfl,q⟩:=h;obtain⟨t,rfl⟩:=J;obtain⟨t',rfl⟩:=K;erw[lt_str (cw I q rfl)]
def vR:OpR X (compareOp .In) (λx y H Q=>∃i j,x=.str i/\y=.str j/\Q (.bl (!(Builtin.Str.occurrences j i 0 j.length 1).isEmpty)) H):=by
 intro Zp s σ H x y v u Q I J K h;obtain⟨i,j,rfl,rfl,q⟩:=h;obtain⟨t,rfl⟩:=J;obtain⟨t',rfl⟩:=K;erw[in_str (cw I q rfl)]
def FM:OpR X (compareOp .Is) (λx y H Q=>y=.non/\Q (.bl (decide (x=.non))) H):=by
 intro Zp s σ H x y v u Q I J K h;obtain⟨rfl,q⟩:=h;cases K;refine is_none_gen (cw I q ?_);cases x<;>first
  |rfl
  |(obtain⟨t,rfl⟩:=J;rfl)
def BL:OpR X (compareOp .IsNot) (λx y H Q=>y=.non/\Q (.bl (!decide (x=.non))) H):=by
 intro Zp s σ H x y v u Q I J K h;obtain⟨rfl,q⟩:=h;cases K;refine isnot_none_gen (cw I q ?_);cases x<;>first
  |rfl
  |(obtain⟨t,rfl⟩:=J;rfl)
def BM{op}{r:R2}(O:OpR X (compareOp op) r)(L:PE X a ta)(M:PE X b tb)(N:behindInMarks op b=false):PE X (.Compare a [op] [b] pos) (tOp r ta tb):=λpins s σ H Q I h=>wpAny_Compare1 (Kr L M I h λv u V x y J K R U q=>O _ V σ J x y v u Q K R U q) N
def El(t:TE):TT:=λσ H Q=>t σ H λx H'=>∃k,x=.bl k/\Q k H'
def tX{op}{r:R2}(W:OpR X (compareOp op) r)(R:PE X a ta)(U:PE X b tb)(V:behindInMarks op b=false):PT X (.Compare a [op] [b] pos) (El (tOp r ta tb)):=by
 intro Zp s σ H Q I h;refine wpAny_isTrue_Compare1 (thn (R Zp s σ H _ I h) ?_) V;rintro v S ⟨x,J,M,F,Y⟩;refine thn (U Zp S σ J _ M Y) ?_;rintro u G ⟨y,K,N,D,Z⟩;refine thn (W Zp G σ K x y v u _ N F D Z) ?_;rintro c j ⟨z,L,O,B,k,rfl,T⟩;cases B;erw[wpAny_truthy_bool (L,O,T)]
def rD(r r':R2)(ta tb tc:TE):TE:=λσ H Q=>ta σ H λx K=>tb σ K λy L=>r x y L λz J=>∃k,z=.bl k/\
 (if k=true then tc σ J λN M=>r' y N M Q else Q (.bl false) J)
def xK{op op'}{r r'}(D:OpR X (compareOp op) r)(J:OpR X (compareOp op') r')(Z:PE X a ta)(T:PE X b tb)(hc:PE X c tc)
  (F:lastMarks [op,op'] [b,c]=false):PE X (.Compare a [op,op'] [b,c] pos) (rD r r' ta tb tc):=by
 intro Zp s σ H Q I h;refine Compare_chain (thn (Z Zp s σ H _ I h) ?_) F;rintro v m ⟨x,O,V,j,B⟩;refine chain_link (thn (T Zp m σ O _ V B) ?_);rintro u l ⟨y,R,W,N,S⟩;refine thn (D Zp l σ R x y v u _ W j N S) ?_;rintro d p ⟨z,K,L,q,k,rfl,M⟩;cases q;refine wpAny_truthy_bool ?_;cases k with
 |false=>exact ite_ff (.bl false,K,L,rfl,M)
 |true=>
  refine ite_tt (chain_last (thn (hc Zp p σ K _ L M) ?_));rintro w' n ⟨z',U,Y,g,G⟩;erw[J Zp n σ U y z' u w' Q Y N g G]
def xM{op op'}{r r'}(G:OpR X (compareOp op) r)(J:OpR X (compareOp op') r')(D:PE X a ta)(B:PE X b tb)(hc:PE X c tc)
  (S:lastMarks [op,op'] [b,c]=false):PT X (.Compare a [op,op'] [b,c] pos) (El (rD r r' ta tb tc)):=by
 intro Zp s σ H Q I h;refine isTrue_chain (thn (D Zp s σ H _ I h) ?_) S;rintro v s1 ⟨x,O,W,p,q⟩;refine test_link (thn (B Zp s1 σ O _ W q) ?_);rintro u s2 ⟨y,R,Y,N,g⟩;refine thn (G Zp s2 σ R x y v u _ Y p N g) ?_;rintro d s3 ⟨z,K,L,n,k,rfl,M⟩;cases n;refine wpAny_truthy_bool ?_;cases k with
 |false=>
  obtain⟨k',F,j⟩:=M;cases F;erw[ite_ff (K,L,j)]
 |true=>
  refine ite_tt (test_last (thn (hc Zp s3 σ K _ L M) ?_));rintro w' s4 ⟨z',U,Z,r4,m⟩;refine thn (J Zp s4 σ U y z' u w' _ Z N r4 m) ?_;rintro d' s5 ⟨z2,V,T,r5,k2,rfl,l⟩;cases r5;erw[wpAny_truthy_bool (V,T,l)]
def FN(K:fg0)(x:V)(H:Hp)(k:Bool):Prop:=
 match x with
 |.non=>k=false
 |.bl b=>k=b
 |.int i=>k=(i != 0)
 |.str y=>y.length<=sizeLine/\k=((y.length:Int) != 0)
 |.ref p=>(∃xs,SqL K H p xs/\k=!xs.isEmpty)\/(∃xs,SqT K H p xs/\k=!xs.isEmpty)\/∃J,H p=some (.dK J)/\k=!J.isEmpty
 |_=>False
def rE{Y}{kvs}{vs:List (Y×Value)}(r:KV kvs vs):(!vs.isEmpty)=!kvs.isEmpty:=by
 cases r<;>rfl
def jB{its}(r:Vals xs its):(!its.toArray.isEmpty)=!xs.isEmpty:=by
 cases r<;>simp
def fG:(sizeLine:Nat)<2 ^ 63:=by decide
def FO:LU X (λx H Q=>∃k,FN X.K x H k/\Q k H):=by
 intro Zp s σ H x v Q I O h;obtain⟨k,e,q⟩:=h;have Z:=fG;have T:=sizeLine_eq;cases x with
 |non=>
  cases O;have J:=e;subst J;erw[truthy_none (H,I,q)]
 |bl b=>
  cases O;have J:=e;subst J;erw[wpAny_truthy_bool (H,I,q)]
 |int i=>
  obtain⟨t,rfl⟩:=O;have J:=e;subst J;erw[PySem.P.truthy_int (H,I,q)]
 |str y=>
  obtain⟨t,rfl⟩:=O;obtain⟨F,J⟩:y.length<=sizeLine/\k=((y.length:Int) != 0):=e;subst J;erw[PySem.P.truthy_str @5 (H,I.tok _,q)]
 |ref p=>
  cases O;have J:=e;rcases J with⟨xs,M,J⟩|⟨xs,M,J⟩|⟨N,M,J⟩
  .subst J
   obtain⟨R,r,U,W⟩:=I.list M;have L:=r.length;erw[wpAny_truthy_list U.isList (by simp only[ls0];lia) (H,I.tok _,by rw[jB r];exact q)]
  .subst J
   obtain⟨R,r,U,W⟩:=I.tuple M;have L:=r.length;erw[truthy_tuple U (by simp only[ls0];lia) (H,I.tok _,by rw[jB r];exact q)]
  .subst J
   obtain⟨W,Y,V,r,m⟩:N.length<=sizeLine/\(p==sysModules)=false/\∃V,KV N V/\s.heap.DictOf (aD X.prog X.w) p V:=I.hok p _ M;have L:=Paired.length r;erw[wpAny_truthy_dict Y m @1 (H,I.tok _,by rw[rE r];exact q)]
 |_=>exact (e:False).elim
def xN(N:PE X a ta)(O:∀J,isTrue a X.env J=(do let v ←J;standAt a.pos;holding [v] (truthy v))):
  PT X a (λσ H Q=>ta σ H λx H'=>∃k,FN X.K x H' k/\Q k H'):=by
 erw[λpins s σ H Q I h=>isTrue_plain (thn (N _ s σ H _ I h) (by rintro v V ⟨x,L,M,U,R⟩;exact FO _ V σ L x v Q M U R)) (O _)]
def op_add_str:OpR X (binaryOp .Add) (λx y H Q=>∃i j,x=.str i/\y=.str j/\i.length+j.length<=sizeLine/\Q (.str (i++j)) H):=by
 intro Zp s σ H x y v u Q I K L h;obtain⟨i,j,rfl,rfl,J,q⟩:=h;obtain⟨t,rfl⟩:=K;obtain⟨t',rfl⟩:=L;erw[add_str (λt' M=>(.str _,H,I.tok _,(_,rfl),q)) J]
def vals1{x:V}(r:Vals [x] us):∃u,us=[u]/\RelV x u:=by
 cases r with
 |cons J K=>cases K;exact(_,rfl,J)
def vals2{x y}(r:Vals [x,y] us):∃u J,us=[u,J]/\RelV x u/\RelV y J:=by
 cases r with
 |cons K L=>
  cases L with
  |cons M N=>cases N;exact(_,_,rfl,K,M)
def vS(hc:X.calm=true):bb X (.builtin "max") (λxs H Q=>∃i j,xs=[.int i,.int j]/\Q (.int (if j>i then j else i)) H):=by
 intro Zp s σ H xs us Q I r h;obtain⟨i,j,rfl,q⟩:=h;obtain⟨u,L,rfl,⟨t,rfl⟩,⟨t',rfl⟩⟩:=vals2 r;refine max_two_ints (I.ok.hd hc) λh' K k=>(_,H,I.kept k,?_,q)
 by_cases J:j>i
 .rw[if_pos J,if_pos J];exact(_,rfl)
 .rw[if_neg J,if_neg J];exact(_,rfl)
def vT:bb X (.type "int") (λxs H Q=>(∃i,xs=[.int i]/\Q (.int i) H)\/∃k,xs=[.bl k]/\Q (.int (if k then 1 else 0)) H):=by
 intro Zp s σ H xs us Q I r h;rcases h with⟨i,rfl,q⟩|⟨k,rfl,q⟩
 .obtain⟨u,rfl,t,rfl⟩:=vals1 r
  erw[call_int_int (.int i,H,I,(_,rfl),q)]
 .obtain⟨u,rfl,J⟩:=vals1 r
  cases J;erw[call_int_bool (.int _,H,I.tok _,(_,rfl),q)]
def LW(K:fg0)(x:V)(H:Hp)(n:Nat):Prop:=
 match x with
 |.str y=>y.length<=sizeLine/\n=y.length
 |.ref p=>(∃xs,SqL K H p xs/\n=xs.length)\/∃xs,SqT K H p xs/\n=xs.length
 |_=>False
def fV:bb X (.builtin "len") (λxs H Q=>∃x n,xs=[x]/\LW X.K x H n/\Q (.int n) H):=by
 intro Zp s σ H xs us Q I r h;obtain⟨x,n,rfl,e,q⟩:=h;obtain⟨u,rfl,U⟩:=vals1 r;have W:=sizeLine_eq;cases x with
 |str y=>
  obtain⟨t,rfl⟩:=U;obtain⟨Y,L⟩:y.length<=sizeLine/\n=y.length:=e;subst L;erw[len_str @1 (.int _,H,I.tok _,(_,rfl),q)]
 |ref p=>
  cases U;have L:=e;rcases L with⟨xs,M,L⟩|⟨xs,M,L⟩
  .subst L
   obtain⟨N,R,O,V⟩:=I.list M;have J:=R.length;erw[Calls.call_len_list O.isList (by simp only[ls0];lia) (.int xs.length,H,I.tok _,(_,by simp only[ls0];rw[J]),q)]
  .subst L
   obtain⟨N,R,O,V⟩:=I.tuple M;have J:=R.length;erw[len_tuple O (by simp only[ls0];lia) (.int xs.length,H,I.tok _,(_,by simp only[ls0];rw[J]),q)]
 |_=>exact (e).elim
end
structure ObjM(h:Heap)(x dx C:Addr)(mA:A6):Prop where
 obj:h.get? x=some (PySem.W.instObj C dx)
 ns:h.Ns1 dx mA
 ne:dx≠x
set_option tactic.hygienic true in
def vU{dx}{mA}(n:h.Ns1 dx mA):∃K,h.get? dx=some K/\∀name,PySem.W.lookIn name K=some (mA name):=by
 obtain⟨o,es,V,R,M,N,_,O⟩:=n;refine(o,R,λname=>?_);have e:=O name;unfold nsFind findBy at e;rw[<-Array.find?_toList]at e;unfold PySem.W.lookIn;rw[M];dsimp only;split
 .simp_all
 .rename_i q
  rw[q]at e;have a:es.toList.any (·.refKey)=false:=by
   rw[List.any_eq_false];intro y U;obtain⟨z,t,J⟩:=N y (Array.mem_toList_iff.mp U);simp[DictEntry.refKey,J]
  have L:¬ es.toList.any (·.refKey)=true:=by rw[a];simp
  rw[if_neg L];erw[congrArg _ e]
def ObjM.look{x dx C}{mA}(I:ObjM h x dx C mA):∃J,PySem.W.InstAt h x (PySem.W.instObj C dx) C (some J)/\∀name,PySem.W.lookIn name J=some (mA name):=
 let ⟨J,L,K⟩:=vU I.ns
 (J,(I.obj,rfl,rfl,L),K)
section
variable {K:fg0}{x:Addr}{mA:A6}{name:Str}
def get_map{expr}(X:K.In s.heap)(I:ObjM s.heap x dx C mA)(N:PySem.W.plainGet K C name=true)(O:PySem.W.hasDictIn K C=true)
  (M:PySem.W.findIn K (.ref C) name=some none) (U:mA name=some v) (L:PySem.W.handedIn v=true) (h:Q v {s with toks:=s.toks+1}):
  wpAny @3 A (getAttr (.ref x) name expr) Q E s:=by
 obtain⟨V,J,R⟩:=I.look;erw[PySem.W.get_value X J (PySem.W.plainGet_of N).1 (PySem.W.findObj_own O M rfl (by rw[R,U])) L h]
def xO{pl:Sem Bool}{Q}(X:K.In s.heap)(I:ObjM s.heap x dx C mA)(L:PySem.W.plainGet K C name=true)
  (M:PySem.W.findIn K (.ref C) name=some (some (.ref f))) (N:PySem.W.isFn K (.ref f)=true) (U:mA name=none) (h:Q (.ref f,[.ref x]) s):
  wpAny @3 A (getMethod (.ref x) name pl) Q E s:=by
 obtain⟨O,J,R⟩:=I.look;erw[PySem.W.method_fn X J (PySem.W.plainGet_of L).1 (PySem.W.plainGet_of L).2 M (beq_iff_eq.mp N) (by show (PySem.W.lookIn _ O).map _=some _;simp_all) h]
def BN{ns}{Q:A7}(X:K.In s.heap)(I:ObjM s.heap x dx C mA)
  (hs:PySem.W.findIn K (.ref C) "__setattr__"=some (some (.builtin "object.__setattr__"))) (F:PySem.W.plainOver K C=true) (D:PySem.W.takerIn K C name=some none) (T:PySem.W.hasDictIn K C=true)
  (hw:PySem.Within mA ns) (hsz:ns.length<=sizeLine)
  (h:∀h',ObjM h' x dx C (λy=>if y=name then some v else mA y)->Heap.SameBut dx s.heap h'->Q () {s with heap:=h',toks:=s.toks+2}):
  wpAny @3 A (setAttr (.ref x) name v) Q E s:=by
 obtain⟨z,J,G⟩:=I.look;refine PySem.W.set_plain X J hs (PySem.W.osa_open (s:={s with toks:=s.toks+1}) (r:=none) X J F D λb=>?_);obtain⟨S,Z,O⟩:=PySem.W.any_some T;have B:=I.obj;refine wb0 (wq0 (wb0 (wb0 (wpAny_loadPart B (wb0 (PySem.W.Looks.here (PySem.W.looks_clsIn X Z) ?_))))));rw[O];refine wq0 (a:=some dx) (wb0 (wq0 (wb0 ?_)));refine wpAny_nsSet1 I.ns λh' L M=>?_
 obtain⟨j,Y,V,U,R,N⟩:=L.count (PySem.Within.cons name v hw);refine wb0 (wpAny_lookBehind U (by rw[R];erw[pastItsLine_dict (nt0 N (by rw[lc0];lia))]) ?_);erw[wq0 (h _ ((M.2 _ (Ne.symm I.ne)).trans I.obj,L,I.ne) M)]
def xP{R}{vs:A2}{kw}(X:K.In s.heap)(M:PySem.W.makesIn K C=true)
  (L:PySem.W.findIn K (.ref C) "__init__"=some (some (.ref f))) (J:PySem.W.typeIn K (.ref f)=some (.type "function"))
  (h:codeAny @3 (A.under (.builtin "type.__call__" (.ref C::vs,kw))) (.call (.ref f) (.ref (s.heap.objs.size+1)::vs,kw)) (PySem.W.InitBack (s.heap.objs.size+1) R)
   {s with heap:=(s.heap.push PySem.W.emptyDict).push (PySem.W.instObj C s.heap.objs.size)}):
  codeAny @3 A (.call (.ref C) (vs,kw)) R s:=PySem.W.make_core (PySem.W.makes_of X M) (PySem.W.looks_findIn X L) (λself=>PySem.W.bind_fn X _ J) (.inl rfl) h
end
noncomputable def fH(f:Str)(v:V):List (Str×V)->List (Str×V)
 |[]=>[(f,v)]
 |(g,x)::r=>if g=f then (g,v)::r else (g,x)::fH f v r
theorem iN(f g:Str)(v:V):∀L:List (Str×V),(fH f v L).lookup g=if g=f then some v else L.lookup g
 |[]=>by
  show List.lookup g [(f,v)]=_
  by_cases h:g=f
  .simp_all
  .simp only[List.lookup,(bn0 h),if_neg h]
 |(k,x)::r=>by
  rw[show fH f v ((k,x)::r)=(if k=f then (k,v)::r else (k,x)::fH f v r)from rfl]
  by_cases K:k=f
  .rw[if_pos K]
   by_cases h:g=k
   .simp_all
   .have J:=bn0 h
    simp only[List.lookup,J,if_neg (λe:g=f=>h (e.trans K.symm))]
  .rw[if_neg K]
   by_cases h:g=k
   .simp_all
   .have J:=bn0 h
    simp only[List.lookup,J];exact (iN f g v r)
theorem mH(f:Str)(v:V):∀J:List (Str×V),f∈(fH f v J).map (·.1)/\∀g,g∈J.map (·.1)->g∈(fH f v J).map (·.1)
 |[]=>(by simp[fH],λg h=>by simp at h)
 |(k,x)::r=>by
  obtain⟨L,M⟩:=mH f v r;rw[show fH f v ((k,x)::r)=(if k=f then (k,v)::r else (k,x)::fH f v r)from rfl]
  by_cases K:k=f
  .rw[if_pos K]
   subst K;exact(by simp,λg h=>by simpa using h)
  .rw[if_neg K]
   refine(?_,λg h=>?_)
   .rw[mk0]
    erw[mc0 _ L]
   .rw[mk0]at h ⊢
    rcases mq0 h with e|e
    .erw[List.mem_cons.mpr (.inl e)]
    .erw[mc0 _ (M g e)]
theorem iO(f:Str)(v:V):∀J:List (Str×V),(fH f v J).length<=J.length+1
 |[]=>by simp[fH]
 |(k,x)::r=>by
  have ih:=iO f v r;rw[show fH f v _=(if k=f then (k,v)::r else (k,x)::fH f v r)from rfl]
  grind
def RelO.some_of{v:V}{o}(r:RelO (some v) o):∃u,o=some u/\RelV v u:=by
 cases o with
 |none=>exact (r).elim
 |some u=>exact(u,rfl,r)
def RelO.none_of{o}(r:RelO none o):o=none:=by
 cases o with
 |none=>rfl
 |some u=>exact (r).elim
section
variable {fs fs':List (Str×V)}
def jd(K:HOk P w H h)(e:H a=some (.ins C dx fs)):∃J,ObjM h a dx C J/\(∀f,RelO (fs.lookup f) (J f))/\PySem.Within J (fs.map (·.1))/\fs.length<=1000/\H dx=some (.own a):=by
 obtain⟨d,z,ne,L,J,n,r,q⟩:=(K a _ e);exact(J,(L,n,ne),r,q,z,d)
end
structure Cls(K:fg0)(C:Addr):Prop where
 pg:PySem.W.plainGet K C Str.empty=true
 hd:PySem.W.hasDictIn K C=true
 po:PySem.W.plainOver K C=true
 sa:PySem.W.findIn K (.ref C) "__setattr__"=some (some (.builtin "object.__setattr__"))
def Cls.get{K:fg0}(c:Cls K C)(f:Str):PySem.W.plainGet K C f=true:=c.pg
def NoAttr(K:fg0)(C:Addr)(f:Str):Prop:=PySem.W.findIn K (.ref C) f=some none
def NoAttr.taker{K:fg0}{f:Str}(n:NoAttr K C f):PySem.W.takerIn K C f=some none:=by
 unfold PySem.W.takerIn;rw[n];rfl
structure nr(K:fg0)(C:Addr)(m:Str)(f:Addr):Prop where
 at_:PySem.W.findIn K (.ref C) m=some (some (.ref f))
 fn:PySem.W.isFn K (.ref f)=true
 kp:PySem.W.keepIn K (.ref f)=true
section
variable {fs:List (Str×V)}{f:Str}{v:V}
def rF{b}(I:Inv X Zp σ H s)(e:H a=some (.ins C dx fs))(c:Cls X.K C)(n:NoAttr X.K C f)(l:fs.lookup f=some v)
  (h:∀u L,Inv X Zp σ H L->RelV v u->Q u L):wpAny @4 A (getAttr (.ref a) f b) Q E s:=by
 obtain⟨N,O,r,_,_,_⟩:=jd I.hok e;obtain⟨u,M,J⟩:=RelO.some_of (by rw[<-l];erw[r f]);exact get_map I.kIn O (c.get f) c.hd n M ((by
   cases v with
   |non=>cases (J);rfl
   |bl b=>cases (J);rfl
   |int i=>obtain⟨t,e⟩:=(J);cases e;rfl
   |str x=>obtain⟨t,e⟩:=(J);cases e;rfl
   |ref a=>cases (J);rfl
   |ty n=>cases (J);rfl)) (h u _ (I.tok _) J)
def fI{m:Str}{g:Addr}{pl:Sem Bool}{Q:Value×List Value->Shared->Prop}(I:Inv X Zp σ H s)(e:H a=some (.ins C dx fs))(c:Cls X.K C)(k:nr X.K C m g)(l:fs.lookup m=none)
  (h:Q (.ref g,[.ref a]) s):wpAny @4 A (getMethod (.ref a) m pl) Q E s:=by
 obtain⟨J,O,r,_,_,_⟩:=jd I.hok e;erw[xO I.kIn O (c.get m) k.at_ k.fn (RelO.none_of (by rw[<-l];exact r m)) h]
def rG{y}{Q:A7}(I:Inv X Zp σ H s)(e:H a=some (.ins C dx fs))(c:Cls X.K C)(n:NoAttr X.K C f)(F:fs.length<1000)(Z:RelV y u)
  (h:∀M,Inv X Zp σ (upd H a (.ins C dx (fH f y fs))) M->Q () M):wpAny @4 A (setAttr (.ref a) f u) Q E s:=by
 obtain⟨D,O,r,N,_,L⟩:=jd I.hok e;have Y:(fs.map (·.1)).length<=sizeLine:=by rw[lm0,sizeLine_eq];lia
 refine BN I.kIn O c.sa c.po n.taker c.hd N Y λh' J T=>h _ ?_
 have V:∃o,h'.get? dx=some o:=let ⟨o,_,_,R,_⟩:=J.ns;(o,R)
 refine I.write (x:=a) (e:=dx) (by rw[e];erw[True.intro]) (.inr L) (λb q U z=>(T.2 b U).trans z) V ?_;refine(by rw[ab O.ne];erw[L],?_,O.ne,J.obj,_,J.ns,λg=>?_,λg W=>?_)
 .have:=iO f y fs;lia
 .rw[iN]
  by_cases q:g=f
  .rw[if_pos q,if_pos q];erw[Z]
  simp_all
 .by_cases q:g=f
  .rw[q];exact (mH f y fs).1
  .refine (mH f y fs).2 g (N g λz=>W ?_)
   simp_all
def Inv.made(I:Inv X Zp σ H s):Inv X Zp σ (upd (upd H s.heap.objs.size (.own (s.heap.objs.size+1))) (s.heap.objs.size+1) (.ins C s.heap.objs.size []))
  {s with heap:=(s.heap.push PySem.W.emptyDict).push (PySem.W.instObj C s.heap.objs.size)}:=by
 have J:(s.heap.push PySem.W.emptyDict).get? _=some _:=pz0 _ rfl;have K:=by
  have:=pz0 (s.heap.push PySem.W.emptyDict) (o:=PySem.W.instObj C s.heap.objs.size) rfl
  rwa [Heap.size_push]at this
 have L:(s.heap.push _).Ns _ _:=(_,_,_,J,rfl,(λe M=>absurd M @0),λa=>rfl);refine (I.laid (o:=.own _) (t':=s.toks) (λb u q=>ps0 _ q) (nr0 _) (_,J)).laid (λb u q=>ps0 _ q) (Nat.le_of_eq (Heap.size_push _ _)) ?_;have ne:s.heap.objs.size≠s.heap.objs.size+1:=nn0 (Nat.lt_succ_self _);refine(by rw[ab ne,aa],Nat.zero_le _,ne,K,_,(Heap.Ns1.of_empty L).at λo q=>ps0 _ q,λa=>True.intro,λy N=>absurd rfl N)
def attr_of{env}{f:Str}(K:attributeBase e f env (eval e env)=eval e env)
  (h:wpAny @3 A (eval e env) (λo J=>wpAny @3 A (getAttr o f true) Q E J) E s):wpAny @3 A (eval (.Attribute e f pos) env) Q E s:=
 Attribute_any_ h (by rw[arm_eval_Attribute,K])
end
def LX(K:fg0)(ta:TE)(f:Str):TE:=λσ H Q=>ta σ H λx J=>∃a C dx L v,x=.ref a/\J a=some (.ins C dx L)/\Cls K C/\NoAttr K C f/\L.lookup f=some v/\Q v J
def LY(K:fg0)(ta N:TE)(f:Str):TS:=λD σ H=>N σ H λy M=>ta σ M λx L=>∃a C dx J,x=.ref a/\L a=some (.ins C dx J)/\Cls K C/\NoAttr K C f/\J.length<1000/\
 D.nx σ (upd L a (.ins C dx (fH f y J)))
section
variable {value:Expr}{f:Str}{pos' tpos:Pos}{tv:TE}
def rH(R:PE X e ta)(O:attributeBase e f X.env (eval e X.env)=eval e X.env):PE X (.Attribute e f pos) (LX X.K ta f):=by
 intro Zp s σ H Q I h;refine attr_of O (thn (R Zp s σ H _ I h) ?_);rintro u Y ⟨x,J,L,V,a,C,dx,W,v,ex,N,c,n,l,q⟩;subst ex;obtain rfl:u=Value.ref a:=V;erw[rF L N c n l λT Z M U=>(v,J,M,U,q)]
def xQ(R:PE X o ta)(U:PE X value tv)(hs:swapsWith value (some (.Attribute o f pos')) pos.line X.env=pure false):PS X (.Assign [.Attribute o f pos'] value pos) (LY X.K ta tv f):=by
 intro Zp s σ H D I h;refine plainObj_wpAny_Assign_Attribute (thn (U Zp s σ H _ I h) λu T ⟨y,J,L,Z,q⟩=>thn (R Zp T σ J _ L q) ?_) hs;rintro V S ⟨x,F,M,Y,a,C,dx,B,ex,O,c,n,l,W⟩;subst ex;obtain rfl:V=Value.ref a:=Y;erw[rG M O c n l Z λG N=>(σ,_,N,W)]
def Em{pl:Sem Bool}{m}{apos}{args}(O:PE X e te)(I:Inv X Zp σ H s)
  (h:te σ H λx J=>∃a C dx L g,x=.ref a/\J a=some (.ins C dx L)/\Cls X.K C/\nr X.K C m g/\L.lookup m=none/\
   ∀s1,Inv X Zp σ J s1->wpAny @4 X.A (callWith pos (.ref g) [.ref a] (backTo pos (starEach args X.env)) (backToKw pos (keywordEach [] X.env))) Q X.xe s1)
  (R:eval (.Call (.Attribute e m apos) args [] pos) X.env=(do
   let ov ←eval e X.env
   standAt apos.atName
   let (f,first) ←holding [ov] (getMethod ov m pl)
   callWith pos f first (backTo pos (starEach args X.env)) (backToKw pos (keywordEach [] X.env)))):
  wpAny @4 X.A (eval (.Call (.Attribute e m apos) args [] pos) X.env) Q X.xe s:=by
 refine PySem.W.methodCall_KW (pl:=pl) (thn (O Zp s σ H _ I h) ?_) R;rintro u s1 ⟨x,J,M,U,a,C,dx,L,g,ex,N,c,k,l,q⟩;subst ex;obtain rfl:u=Value.ref a:=U;erw[fI M N c k l (q s1 M)]
end
section
variable {c:Value}{b:Bool}
inductive fW (K:fg0)(H:Hp):V->Value->Prop where
 |bl (x:Bool):fW K H (.bl x) (.type "bool")
 |int (i:Int):fW K H (.int i) (.type "int")
 |lst {a:Addr}{xs:List V} (e:H a=some (.lst xs)):fW K H (.ref a) (.type "list")
 |tup {a:Addr}{xs:List V} (e:H a=some (.tup xs)):fW K H (.ref a) (.type "tuple")
def vW{x:V}{u t}(I:Inv X Zp σ H s)(J:RelV x u)(O:fW X.K H x t)(e:PySem.W.kitOne X.K t c=some b)(h:∀tk,Q (.bool b) {s with toks:=tk}):
  wpAny @4 A (call (.builtin "isinstance") [u,c]) Q E s:=by
 cases O with
 |bl y=>cases (J);erw[PySem.W.kia_one PySem.W.kitx_bool I.kIn True.intro e (λz=>nomatch z) h]
 |int i=>obtain⟨t,q⟩:=(J);cases q;erw[PySem.W.kia_one PySem.W.kitx_int I.kIn True.intro e (λz=>nomatch z) h]
 |@lst a xs L=>
  cases (show u=Value.ref a from J);obtain⟨_,_,n,_,M⟩:=(I.hok a _ L);erw[PySem.W.kia_one PySem.W.kitx_list I.kIn (_,M,rfl) e (λz=>nomatch z) h]
 |@tup a xs L=>
  cases (show u=Value.ref a from J);obtain⟨_,_,_,p⟩:=(I.hok a _ L);obtain⟨o,M,N,_⟩:=p;erw[PySem.W.kia_one PySem.W.kitx_tuple I.kIn (o,M,N) e (λz=>nomatch z) h]
end
structure Room(k:Nat)(A:Around):Prop where
 hd:A.handled=none
 dp:A.depth+3*k+5<recursionLimit
 un:A.units+16*k+200<cLine
def Room.mono{j k}(r:Room k A)(h:j<=k):Room j A:=(r.hd,by have:=r.dp;grind,by have:=r.un;grind)
theorem Room.deeper(r:Room (k+1) A)(env:Env):Room k (A.deeper env):=
 (r.hd,by have:=r.dp;show A.depth+1+3*k+5<_;grind,by have:=r.un;show A.units+3+16*k+200<_;grind)
def rJ{kw}:(A.under (.builtin "type.__call__" (.ref C::us,kw))).depth=A.depth+1:=rfl
def rK{kw}:(A.under (.builtin "type.__call__" (.ref C::us,kw))).units=A.units+1:=rfl
def Room.make(r:Room (k+1) A)(C:Addr)(us:A2)(J:List (Str×Value)):Room k (A.under (.builtin "type.__call__" (.ref C::us,J))):=
 (r.hd,by have:=r.dp;rw[rJ];grind,by have:=r.un;rw[rK];grind)
theorem Room.depth(r:Room k A):A.depth<recursionLimit:=by have:=r.dp;grind
theorem Room.units(r:Room k A):A.units+64<cLine:=by have:=r.un;grind
def FP:TA:=λa H Q=>Q [] H
def Jh(ta:TE)(L:TA):TA:=λσ H Q=>ta σ H λx J=>L σ J λxs K=>Q (x::xs) K
def pa_nil:PA X [] FP:=λa a a a H Q I h=>Calls.spliced_nil ([],H,I,.nil,h)
def pa_cons(N:PE X e te)(O:PA X es t)(hs:starEach (e::es) X.env=(false,eval e X.env)::starEach es X.env:=by rfl):PA X (e::es) (Jh te t):=by
 intro pos Zp s σ H Q I h;rw[hs];show wpAny _ _ (spliced ((false,eval e _)::backTo _ _)) _ _ s;erw[Calls.spliced_cons (thn (N _ s σ H _ I h) (by rintro u Y ⟨x,J,L,V,R⟩;exact thn (O _ _ Y σ J _ L R) (by rintro us Z ⟨xs,K,M,W,U⟩;exact(_,K,M,.cons V W,U))))]
def LZ(t:TA):TE:=λσ H Q=>t σ H λxs J=>xs.length<=sizeLine/\∀p,J p=none->Q (.ref p) (upd J p (.tup xs))
def Ma(t:TA):TE:=λσ H Q=>t σ H λxs J=>xs.length<=sizeLine/\∀p,J p=none->Q (.ref p) (upd J p (.lst xs))
def xR{x1}(h:PA X es t):PE X (.Tuple es x1 pos) (LZ t):=by
 intro Zp s σ H Q I K;refine wpAny_Tuple_spliced (thn (h _ _ s σ H _ I K) λus M ⟨xs,L,J,r,z,q⟩=>(by rwa [<-r.length],?_));refine(.ref _,_,J.laid (λb u e=>ps0 _ e) (nr0 _) ?_,rfl,q _ (J.hok.fresh (nr0 _)));exact(z,us,r,(_,pz0 _ rfl,rfl,_,rfl))
def xS(h:PA X es t):PE X (.List es pos) (Ma t):=by
 intro Zp s σ H Q I K;refine wpAny_List_spliced (thn (h _ _ s σ H _ I K) λus M ⟨xs,L,J,r,z,q⟩=>(by rwa [<-r.length],?_));refine(.ref _,_,J.laid (λb u e=>ps0 _ e) (nr0 _) ?_,rfl,q _ (J.hok.fresh (nr0 _)));exact(z,us,0,r,pz0 _ rfl)
abbrev Sp:=List V->Hp->VK->XK->Prop
abbrev CXT:=List Env->Hp->Shared->XK->Value->Shared->Prop
structure Env0(P:Program)(w:World)(K:fg0)(mg:A6)(base:Heap)(A:Around)(outer:List Env)(s:Shared)(H:Hp):Prop where
 frames:A.frames=some outer
 mod:Mod K mg base
 bs:∀b o,base.get? b=some o->s.heap.get? b=some o/\H b=none
 bsz:base.objs.size<=s.heap.objs.size
 funs:s.heap.FunFrames base outer
 frf:∀b∈frs outer,H b=none
 hok:HOk P w H s.heap
 bare:AllBare s.gens
def CE(outer:List Env)(P:Program)(w:World)(H:Hp)(s:Shared)(Q:VK)(u:Value)(J:Shared):Prop:=
 ∃v H',J.os=s.os/\AllBare J.gens/\Un (frs outer) [] H H' s.heap J.heap/\HOk P w H' J.heap/\RelV v u/\Q v H'
def CR(K:CXT)(outer:List Env)(P:Program)(w:World)(H:Hp)(s:Shared)(Q:VK)(E:XK)(r:Result)(J:Shared):Prop:=
 match r with
 |.ok (.ret u)=>CE outer P w H s Q u J
 |.ok _=>False
 |.error e=>K outer H s E e J
structure FnOk(P:Program)(w:World)(K:fg0)(mg:A6)(base:Heap)(CX:CXT)(k:Nat)(f:Addr)(fd:FuncData)(ps:A1)(sp:Sp):Prop where
 len:∀vs H Q E,sp vs H Q E->vs.length=ps.length
 run:∀(A:Around)(outer:List Env)(s:Shared)(H:Hp)(args:Args)(us:A2)(vs:List V)(Q:VK)(E:XK),Room k A->Env0 P w K mg base A outer s H->BindsTo s fd args (ps.zip us)->Vals vs us->sp vs H Q E->
  codeAny (model P w) A (.call (.ref f) args) (CR CX outer P w H s Q E) s
def FnOk.imp{K:fg0}{J:CXT}{sp sp'}(F:FnOk P w K mg base J k f fd ps sp)
  (h:∀vs H Q E,sp' vs H Q E->sp vs H Q E):FnOk P w K mg base J k f fd ps sp':=
 (λvs H Q E q=>F.len vs H Q E (h _ _ _ _ q),λA outer s H args us vs Q E N M L R O=>F.run A _ s H _ us vs Q E N M L R (h _ _ _ _ O))
def Env0.make{K:fg0}{outer}(e:Env0 P w K mg base A outer s H)(C:Addr)(us:A2)(kw):
  Env0 P w K mg base (A.under (.builtin "type.__call__" (.ref C::us,kw))) outer s H:=(by first|exact e.frames|rfl,e.mod,e.bs,e.bsz,e.funs,e.frf,e.hok,e.bare)
section
variable {s':Shared}
def Inv.env0(I:Inv X Zp σ H s):Env0 X.prog X.w X.K X.mg X.base X.A X.stack s H:=
 (I.ok.frames,I.ok.mod,I.bs,nt0 I.ok.bsz I.sz,I.stack,I.stkFree,I.hok,I.bare)
def Inv.after{Q:VK}(I:Inv X Zp σ H s)(h:CE X.stack X.prog X.w H s Q u s'):EP X Zp σ Q u s':=by
 obtain⟨v,H',L,bare,M,J,r,q⟩:=h;obtain⟨N,g,d,t,K⟩:=s';obtain rfl:K=s.os:=L;exact(v,H',I.call M J bare (λb z=>absurd z @0),r,q)
end
def Ji(L:Sp)(J:List V)(E:XK)(t:TA):TE:=λσ H Q=>t σ H λM K=>L (M++J) K Q E
def Eo(C:Addr)(m:Str)(N:Sp)(J:List V)(E:XK)(ta:TE)(t:TA):TE:=λσ H Q=>ta σ H λx K=>∃a dx L,x=.ref a/\K a=some (.ins C dx L)/\L.lookup m=none/\
 t σ K λO M=>N (x::(O++J)) M Q E
def Jj(C:Addr)(M:Sp)(K:List V)(E:XK)(t:TA):TE:=λσ H Q=>t σ H λN J=>∀x dx,J x=none->J dx=none->dx≠x->
 M (.ref x::(N++K)) (upd (upd J dx (.own x)) x (.ins C dx [])) (λv L=>v=.non/\Q (.ref x) L) E
def Binds(K:fg0)(fd:FuncData)(ps:A1)(ds:A2):Prop:=
 ∀(s:Shared)(us:A2),K.In s.heap->(us++ds).length=ps.length->BindsTo s fd (us,[]) (ps.zip (us++ds))
def Binds.all{K:fg0}(h:∀us:List Value,us.length=ps.length->bindArgs fd (us,[])=pure (ps.zip us)):Binds K fd ps []:=λs us a J=>by
 rw[List.append_nil]at J ⊢;exact .of_eq (h us J)
def fJ(K:CXT)(X:Cx)(E:XK):Prop:=∀(Zp:A5)(σ:St)(H:Hp)(s:Shared)(e:Value)(J:Shared),Inv X Zp σ H s->K X.stack H s E e J->X.xe e J
section
variable {CX:CXT}{sp:Sp}{dvs:List V}{ds:A2}{E:XK}{m:Str}{p apos:Pos}
def rL{Q:VK}{vs}(F:FnOk X.prog X.w X.K X.mg X.base CX k f fd ps sp)(R:Room k X.A)(M:Binds X.K fd ps ds)(N:Vals dvs ds)(U:fJ CX X E)
  (I:Inv X Zp σ H s) (r:Vals vs us) (h:sp (vs++dvs) H Q E):wpAny @4 X.A (call (.ref f) us) (EP X Zp σ Q) X.xe s:=by
 have L:=r.append N;have O:(us++ds).length=ps.length:=by rw[<-L.length];erw[F.len _ _ _ _ h]
 refine wpAny_call (codeAny_mono (F.run _ _ s H _ _ _ Q E R I.env0 (M s us I.kIn O) L h) λr V J=>?_);cases r with
 |error e=>exact U _ σ H s e V I J
 |ok fl=>
  cases fl with
  |ret u=>exact I.after J
  |next=>exact False.elim J
  |brk=>exact False.elim J
  |cont=>exact False.elim J
def tY(F:FnOk X.prog X.w X.K X.mg X.base CX k f fd ps sp)(T:Room k X.A)(V:Gl X x)(Z:X.mg x=some (.ref f))(Y:PySem.W.keepIn X.K (.ref f)=true)(O:Binds X.K fd ps ds)(R:Vals dvs ds)(D:fJ CX X E)
  (N:PA X (e::es) t) (J:(x==("__debug__":Str))=false) (U:starEach (e::es) X.env=(false,eval e X.env)::starEach es X.env) (L:(backTo pos (starEach es X.env)).any (·.1)=false):
  PE X (.Call (.Name x p) (e::es) [] pos) (Ji sp dvs E t):=by
 erw[λpins s σ H Q I h=>wpAny_Call_Name_kw (qH I V Z (PySem.W.callWith_K I.ok.mod.kin Y (thn (N _ _ s σ H _ I h) (by rintro us S ⟨G,B,M,r,q⟩;exact(M.kIn,rL F T O R D M r q))) U L) J)]
def tZ{pl:Sem Bool}(T:PE X o ta)(c:Cls X.K C)(O:nr X.K C m f)(F:FnOk X.prog X.w X.K X.mg X.base CX k f fd ps sp)(D:Room k X.A)(Y:Binds X.K fd ps ds)(Z:Vals dvs ds)(S:fJ CX X E)(V:PA X (e::es) t)
  (L:starEach (e::es) X.env=(false,eval e X.env)::starEach es X.env) (J:(backTo pos (starEach es X.env)).any (·.1)=false)
  (B:eval (.Call (.Attribute o m apos) (e::es) [] pos) X.env=(do
   let ov ←eval o X.env
   standAt apos.atName
   let (f,first) ←holding [ov] (getMethod ov m pl)
   callWith pos f first (backTo pos (starEach (e::es) X.env)) (backToKw pos (keywordEach [] X.env)))):
  PE X (.Call (.Attribute o m apos) (e::es) [] pos) (Eo C m sp dvs E ta t):=by
 intro Zp s σ H Q I h;refine PySem.W.methodCall_KW (pl:=pl) (thn (T Zp s σ H _ I h) ?_) B;rintro u z ⟨x,R,M,j,a,dx,g,ex,U,l,q⟩;subst ex;obtain rfl:u=Value.ref a:=j;refine fI M U c O l ?_;refine PySem.W.callWith_K (first:=[.ref a]) (h₀:=X.base) I.ok.mod.kin O.kp (thn (V pos Zp z σ R _ M q) λus d ⟨vs,y,N,r,G⟩=>(N.kIn,?_)) L J;erw[rL (us:=.ref a::us) (vs:=.ref a::vs) F D Y Z S N (.cons rfl r) G]
def xT{pl:Sem Bool}(R:PE X o ta)(c:Cls X.K C)(L:nr X.K C m f)(F:FnOk X.prog X.w X.K X.mg X.base CX k f fd ps sp)(U:Room k X.A)(N:Binds X.K fd ps ds)(O:Vals dvs ds)(Y:fJ CX X E)
  (V:eval (.Call (.Attribute o m apos) [] [] pos) X.env=(do
   let ov ←eval o X.env
   standAt apos.atName
   let (f,first) ←holding [ov] (getMethod ov m pl)
   callWith pos f first (backTo pos (starEach [] X.env)) (backToKw pos (keywordEach [] X.env)))):
  PE X (.Call (.Attribute o m apos) [] [] pos) (Eo C m sp dvs E ta FP):=by
 intro Zp s σ H Q I h;refine PySem.W.methodCall_KW (pl:=pl) (thn (R Zp s σ H _ I h) ?_) V;rintro u B ⟨x,T,J,Z,a,dx,D,ex,M,l,q⟩;subst ex;obtain rfl:u=Value.ref a:=Z;refine fI J M c L l ?_;erw[PySem.W.callWith_K0 (first:=[.ref a]) J.kIn L.kp (rL (us:=[.ref a]) (vs:=[.ref a]) F U N O Y J (.cons rfl .nil) q)]
structure Mk(K:fg0)(C f:Addr):Prop where
 makes:PySem.W.makesIn K C=true
 init:PySem.W.findIn K (.ref C) "__init__"=some (some (.ref f))
 fn:PySem.W.isFn K (.ref f)=true
 kp:PySem.W.keepIn K (.ref C)=true
def DR{Q:VK}{vs}(M:Mk X.K C f)(F:FnOk X.prog X.w X.K X.mg X.base CX k f fd ps sp)(T:Room (k+1) X.A)(W:Binds X.K fd ps ds)(Y:Vals dvs ds)
  (D:fJ CX X E) (I:Inv X Zp σ H s) (r:Vals vs us)
  (h:∀x dx,H x=none->H dx=none->dx≠x->sp (.ref x::(vs++dvs)) (upd (upd H dx (.own x)) x (.ins C dx [])) (λv R=>v=.non/\Q (.ref x) R) E):
  wpAny @4 X.A (call (.ref C) us) (EP X Zp σ Q) X.xe s:=by
 have N:=h _ s.heap.objs.size (I.hok.fresh (Nat.le_succ _)) (I.hok.fresh (nr0 _)) (nn0 (Nat.lt_succ_self _));have L:=Inv.made (C:=C) I;have O:Vals (V.ref (s.heap.objs.size+1)::(vs++dvs)) _:=.cons rfl (r.append Y);have Z:=by
  have e:=O.length;rw[F.len _ _ _ _ N]at e;erw[e.symm]
 refine wpAny_call (xP (f:=f) I.kIn M.makes M.init (beq_iff_eq.mp M.fn) (codeAny_mono (F.run _ X.stack _ _ _ _ _ _ E (T.make C us [])
  (L.env0.make C us []) (W _ _ L.kIn Z) O N) λr G J=>?_))
 cases r with
 |error e=>exact D Zp σ _ _ e G L J
 |ok fl=>
  cases fl with
  |ret u=>
   obtain⟨v,H',U,S,ev,B⟩:=L.after J;subst ev;exact(S,(V.ref _,H',U,rfl,B))
  |next=>exact False.elim J
  |brk=>exact False.elim J
  |cont=>exact False.elim J
def xU(M:Mk X.K C f)(F:FnOk X.prog X.w X.K X.mg X.base CX k f fd ps sp)(U:Room (k+1) X.A)(O:Gl X x)(R:X.mg x=some (.ref C))(L:Binds X.K fd ps ds)(N:Vals dvs ds)(V:fJ CX X E)
  (J:(x==("__debug__":Str))=false):PE X (.Call (.Name x p) [] [] pos) (Jj C sp dvs E FP):=λpins s σ H Q I h=>wpAny_Call_Name_kw (qH I O R (PySem.W.callWith_K0 I.kIn M.kp (DR (us:=[]) M F U L N V I .nil h)) J)
end
section
variable {CX:CXT}{ks:A1}{sp:Sp}{E:XK}{m:Str}{p apos kpos:Pos}{kws:List Keyword}{tk:TA}{nm:Option Str}
variable {g:List Value->List Value->List Value}{gV:List V->List V->List V}
end
structure cf(N P:A1)(sc:Scope):Prop where
 kind:sc.kind=.function
 co:sc.isCoroutine=false
 gen:sc.isGenerator=false
 nd:N.Nodup
 pre:N.take P.length=P
 par:∀x∈P,sc.names.lookup x=some .local\/sc.names.lookup x=some .cell
 nofree:∀y∈sc.names,y.2≠.free
theorem kT{kindOf:Str->Option NameKind}:∀{binds:List (Str×Value)}{m:A6},(∀v,(x,v)∉binds)->bindL kindOf binds m x=m x
 |[],_,_=>rfl
 |(n,v)::r,m,h=>by
  unfold bindL;rw[kT λw J=>h w (mc0 _ J)];split
  .have:x≠n:=by rintro rfl;erw[h v ms0]
   simp[this]
  .rfl
theorem kU{kindOf:Str->Option NameKind}:∀{binds:List (Str×Value)}{m:A6},(∀v,(x,v)∉binds)->bindC kindOf binds m x=m x
 |[],_,_=>rfl
 |(n,v)::r,m,h=>by
  unfold bindC;rw[kU λw J=>h w (mc0 _ J)];split
  .rfl
  .have:x≠n:=by rintro rfl;erw[h v ms0]
   simp[this]
theorem kW{kindOf:Str->Option NameKind}:∀{P:A1}{vs:A2}{i:Nat}{m:A6},P.Nodup->P[i]?=some x->vs[i]?=some v->kindOf x=some .local->
  bindL kindOf (P.zip vs) m x=some v
 |[],_,_,_,_,h,_,_=>by simp at h
 |_::_,[],_,_,_,_,h,_=>by simp at h
 |p::P,w::vs,0,m,nd,J,K,L=>by
  simp at J K;subst J;subst K;show bindL _ ((p,w)::P.zip vs) m p=_;unfold bindL;rw[kT λv M=>(List.nodup_cons.mp nd).1 (List.of_mem_zip M).1,if_pos L];simp
 |p::P,w::vs,i+1,m,nd,J,K,L=>by
  unfold bindL;erw[kW (List.nodup_cons.mp nd).2 (by simpa using J) (by simpa using K) L]
theorem kX{kindOf:Str->Option NameKind}:∀{P:A1}{vs:A2}{i:Nat}{m:A6},P.Nodup->P[i]?=some x->vs[i]?=some v->kindOf x≠some .local->
  bindC kindOf (P.zip vs) m x=some v
 |[],_,_,_,_,h,_,_=>by simp at h
 |_::_,[],_,_,_,_,h,_=>by simp at h
 |p::P,w::vs,0,m,nd,J,K,L=>by
  simp at J K;subst J;subst K;show bindC _ ((p,w)::P.zip vs) m p=_;unfold bindC;rw[kU λv M=>(List.nodup_cons.mp nd).1 (List.of_mem_zip M).1,if_neg L];simp
 |p::P,w::vs,i+1,m,nd,J,K,L=>by
  unfold bindC;erw[kX (List.nodup_cons.mp nd).2 (by simpa using J) (by simpa using K) L]
noncomputable def start(N:A1)(vs:List V):St:=vs.map some++List.replicate (N.length-vs.length) none
noncomputable def iV(M:CXT)(P:Program)(w:World)(K:fg0)(mg:A6)(base:Heap)(N:A1)(qual:Str)(scope:Scope)(f:Addr)(L:Value)(A:Around)(outer:List Env)(s:Shared)(H:Hp)(E:XK):Cx where
 prog:=P
 w:=w
 K:=K
 mg:=mg
 base:=base
 A:=A.deeper (envOfC qual scope s.heap.objs.size f L)
 N:=N
 s₀:=s
 H₀:=H
 env:=envOfC qual scope s.heap.objs.size f L
 outer:=outer
 stack:=envOfC qual scope s.heap.objs.size f L::outer
 ex:=[]
 calm:=true
 fn:=λa=>true
 pn:=[]
 xe:=λe R=>wpAny (model P w) (A.deeper (envOfC qual scope s.heap.objs.size f L)) (leaving (envOfC qual scope s.heap.objs.size f L) e) (λa J=>M outer H s E e J) (λO J=>M outer H s E O J) R
def tT{sc:Scope}{n:Nat}(h:sc.names.lookup x=some .cell):∃c,(cellsFrom n sc.names []).lookup x=some c:=is0 (PySem.W.cellsFrom_some _ n [] (.inl h))
def vX{W:CXT}{K:fg0}{N ps}{qual}{scope}{cd}{outer}{s s1}{E}{vs}
  (S:cf N ps scope) (F:A.handled=none) (L:Env0 P w K mg base A outer s H) (I:vs.length=ps.length) (r:Vals vs us)
  (x:InCallC s s.heap.objs.size (bindL (envOfC qual scope s.heap.objs.size f cd).kindOf (ps.zip us) λd=>none) (cellsFrom (s.heap.objs.size+1) scope.names []) (bindC (envOfC qual scope s.heap.objs.size f cd).kindOf (ps.zip us) λd=>none) s1):
  Inv (iV W P w K mg base N qual scope f cd A outer s H E) [] (start N vs) H s1:=by
 have D:ps.length<=N.length:=by have:=congrArg List.length S.pre;rw[List.length_take]at this;grind
 obtain⟨U,j,rfl,Y⟩:=x.done;have M:∀b:Addr,b∉(iV W P w K mg base N qual scope f cd A outer s H E).ex:=λb z=>absurd (show b∈([]:A4)from z) @0
 refine((L.mod,S.kind,rfl,rfl,nr0 _,λy z c U J=>?_,λy hy=>?_,λy c d h=>?_,λd=>F,Around.frames_deeper L.frames,.inr (rfl,rfl),λb z=>absurd z (M b),L.bs,L.bsz,λb d d=>M b,λb z=>absurd z (M b),L.funs,L.frf),
  rfl,L.bare,Un.kept Y,(_,x.toInCall.ns,λi y v U J G=>?_),λy c h=>(_,x.cell y c h),L.hok.fresh (nr0 _),λy c h=>?_,λp O=>absurd (show p∈([]:A5)from O) @0,L.hok.kept Y,?_)
 .erw[name_of_addr x.apart (ml0 U) (ml0 J)]
 .have hy:=hy
  rcases hy with hy|hy
  .erw[tT hy]
  .erw[absurd rfl (S.nofree _ (ml0 hy))]
 .erw[Nat.le_of_lt (x.above y c (ml0 h))]
 .have V:i<vs.length:=by
   unfold start at J
   by_cases V:i<vs.length
   .erw[V]
   .rw[List.getElem?_append_right (by simpa using V)]at J
    rw[List.getElem?_replicate]at J;split at J<;>cases J
  have T:vs[i]?=some v:=by
   unfold start at J;rw[gl0 (by simpa using V),gm0]at J;cases e:vs[i]? with
   |none=>rw[e]at J;cases J
   |some a=>rw[e]at J;cases J;rfl
  obtain⟨u,Z,B⟩:=r.get T;have O:ps[i]?=some y:=by
   rw[<-S.pre,List.getElem?_take_of_lt @6];erw[U]
  have R:ps.Nodup:=by rw[<-S.pre];erw[S.nd.sublist (List.take_sublist _ _)]
  refine(u,B,?_);rcases S.par y (mg0 O)with k|k
  .exact .inl (k,kW R O Z k)
  .obtain⟨c,e⟩:=tT (n:=s.heap.objs.size+1) k
   refine .inr (.inl k,c,e,?_);have q:=x.cell y c e;rw[kX R O Z (by show scope.names.lookup y≠_;rw[k];decide)]at q;erw[q]
 .erw[L.hok.fresh (Nat.le_of_lt (x.above y c (ml0 h)))]
 .unfold start
  show _=N.length;rw[la0,lm0,List.length_replicate]
  simp_all
def Jk{T:CXT}{K:fg0}{name qual}{params}{body}{scope}{dV kV doc pm cdv ct oc}{an od}
  {osl}{N ps}{z:Sp} (lk:K.lookup f=some (oc,od,.func (PySem.W.fnOf name qual params body scope dV kV doc pm an cdv ct),osl)) (F:PySem.W.codeIn K cdv qual=true) (S:cf N ps scope)
  (Z:∀vs H Q E,z vs H Q E->vs.length=ps.length)
  (M:∀(A:Around)(outer:List Env)(s:Shared)(H:Hp)(vs:List V)(Q:VK)(E:XK),Room k (A.deeper (envOfC qual scope s.heap.objs.size f cdv))->z vs H Q E->
   ∃t,PSs (iV T P w K mg base N qual scope f cdv A outer s H E) body t/\t {nx:=λa H'=>Q .non H',rt:=Q} (start N vs) H):
  FnOk P w K mg base T (k+1) f (PySem.W.fnOf name qual params body scope dV kV doc pm an cdv ct) ps z:=by
 refine(Z,λA outer s H args us vs Q E D U p r Y=>?_);have hl:=Z _ _ _ _ Y;have g:=U.mod.kin.keeps λb o e=>(U.bs b o e).1
 have B:=U.mod.nolimit.keeps λb o e=>(U.bs b o e).1
 have O:∀y∈ps.zip us,scope.names.lookup y.1=some .local\/(scope.names.lookup y.1=some .cell/\((cellsFrom (s.heap.objs.size+1) scope.names []).lookup y.1).isSome=true):=λ⟨n,v⟩ hy=>by
  rcases S.par n (List.of_mem_zip hy).1 with q|q
  .exact .inl q
  .exact .inr (q,PySem.W.cellsFrom_some _ _ _ (.inl q))
 refine codeAny_call_function D.depth (g _ _ lk) rfl S.co S.gen rfl (PySem.W.codeRec_of g F) (p _ _ _ _ ?_);refine wpAny_newFunctionEnv_cells S.kind O λl d m x=>?_
 subst d;refine(B.keeps x.toInCall.keep,codeAny_func ?_);obtain⟨t,ht,hq⟩:=M A outer s H vs Q E (D.deeper _) Y;have I:Inv (iV T P w K mg base N qual scope f cdv A outer s H E) [] (start N vs) H m:=vX S D.hd U hl r x;refine wpAny_mono (ht [] m (start N vs) H _ I hq) (λfl j R=>?_) λe j R=>R
 have fin:∀{L:St}{H':Hp}{v:V}{u:Value},Inv (iV T P w K mg base N qual scope f cdv A outer s H E) [] L H' j->RelV v u->Q v H'->CE outer P w H s Q u j:=
  λ{L H' v u} J G q=>(v,H',J.os,J.bare,J.base,J.hok,G,q)
 cases fl with
 |ret u=>
  obtain⟨v,L,H',J,G,q⟩:=R;erw[fin J G q]
 |next=>
  obtain⟨L,H',J,q⟩:=R;erw[fin (v:=V.non) J rfl q]
 |brk=>
  obtain⟨_,_,_,q⟩:=R;erw[False.elim q]
 |cont=>
  obtain⟨_,_,_,q⟩:=R;erw[False.elim q]
section
variable {p:Pos}{id T:String}{r:List V->Hp->VK->Prop}
def tCB(r:List V->Hp->VK->Prop)(t:TA):TE:=λσ H Q=>t σ H λK J=>r K J Q
def cZ(hc:bb X (.builtin id) r)(R:Gl X x)(U:X.mg x=none)(W:bootBuiltins x=some (.builtin id))(N:PA X (e::es) t)(V:x≠"__name__")(J:(x==("__debug__":Str))=false)
  (O:starEach (e::es) X.env=(false,eval e X.env)::starEach es X.env) (K:(backTo pos (starEach es X.env)).any (·.1)=false):PE X (.Call (.Name x p) (e::es) [] pos) (tCB r t):=by
 erw[λpins s σ H Q I h=>wpAny_Call_Name_kw (ld_blt I R U W (PyProof.Rows.callWith_builtin1 (thn (N _ _ s σ H _ I h) (by rintro us F ⟨D,L,M,Z,Y⟩;exact hc _ F σ L D us Q M Z Y)) O K) V J)]
def cq(hc:bb X (.type T) r)(R:Gl X x)(U:X.mg x=none)(W:bootBuiltins x=some (.type T))(N:PA X (e::es) t)(V:x≠"__name__")(J:(x==("__debug__":Str))=false)
  (O:starEach (e::es) X.env=(false,eval e X.env)::starEach es X.env) (K:(backTo pos (starEach es X.env)).any (·.1)=false):PE X (.Call (.Name x p) (e::es) [] pos) (tCB r t):=by
 erw[λpins s σ H Q I h=>wpAny_Call_Name_kw (ld_blt I R U W (PyProof.Rows.callWith_type1 (thn (N _ _ s σ H _ I h) (by rintro us F ⟨D,L,M,Z,Y⟩;exact hc _ F σ L D us Q M Z Y)) O K) V J)]
end
end L2
section
variable {prog:PySem.Program}{w:PySem.World}{s:PySem.Shared}{X:L2.Cx}{pos:PySem.Pos}{n:Nat}{α:Type}{Zp:List (PySem.Addr×PySem.Obj)}{σ:L2.St}{H:L2.Hp}{xs:List L2.V}{its its' us:List PySem.Value}{T:String}{fd:PySem.FuncData}{st:PySem.Stmt}{f:PySem.Addr}{env:PySem.Env}{scope:PySem.Scope}
namespace HT
open PySem PyProof.Rows
section
open PySem.SeqAt
open PySem.AutoSeq1 (wpAny_loadPart')
open PySem.MeetsSeq PySem.MeetsSeq2 PySem.MeetsSeq3
end
section
variable {A:Around}{E:A0}
noncomputable def sIx(n d:Nat):Option Int->Nat
 |none=>d
 |some v=>if v<0 then (v+(n:Int)).toNat else min v.toNat n
end
end HT
namespace L2
open PySem PySem.Spec PyProof.Rows
abbrev TO:=St->Hp->(Option Int->Hp->Prop)->Prop
def PO(X:Cx)(e:Option Expr)(t:TO):Prop:=
 ∀(Zp:A5)(s:Shared)(σ:St)(H:Hp)(Q:Option Int->Hp->Prop),Inv X Zp σ H s->t σ H Q->
  wpAny @4 X.A (evalPart e X.env) (λu K=>∃o J,Inv X Zp σ J K/\IsPart u o/\Q o J) X.xe s
def BO:TO:=λa H Q=>Q none H
def Jl(t:TE):TO:=λσ H Q=>t σ H λx J=>∃i,x=.int i/\Q (some i) J
section
variable {e:Expr}{te:TE}{lo hi:Option Expr}{tl th:TO}{p2:Pos}
def Hm:PO X none BO:=λpins s σ H Q I h=>wq0 (_,H,I,.none,h)
def BQ(h:PE X e te):PO X (some e) (Jl te):=by
 intro Zp s σ H Q I L;rw[evalPart_some];refine thn (h Zp s σ H _ I L) ?_;rintro u O ⟨x,J,K,N,M⟩;obtain⟨i,rfl,q⟩:=M;obtain⟨t,rfl⟩:=N;exact(some i,J,K,.int i t,q)
def SlR(X:Cx)(r:V->Option Int->Option Int->Hp->VK->Prop):Prop:=
 ∀(Zp:A5)(s:Shared)(σ:St)(H:Hp)(x:V)(v J K:Value)(lo hi:Option Int)(sl:Addr)(Q:VK),Inv X Zp σ H s->RelV x v->s.heap.IsSliceOf sl J K .none->IsPart J lo->IsPart K hi->r x lo hi H Q->
  ∃T L,typeLookup (.type T) "__getitem__"=pure (some (.builtin L))/\s.TypeIs v T/\wpAny @4 X.A (getItem v (.ref sl)) (EP X Zp σ Q) X.xe s
def tSl(r:V->Option Int->Option Int->Hp->VK->Prop)(te:TE)(tl th:TO):TE:=λσ H Q=>te σ H λx J=>tl σ J λl K=>th σ K λu L=>r x l u L Q
def xV{r}(B:SlR X r)(Z:PE X e te)(D:PO X lo tl)(S:PO X hi th):PE X (.Subscript e (.Slice lo hi none p2) pos) (tSl r te tl th):=by
 intro Zp s σ H Q I h;refine Subscript_ (thn (Z _ s σ H _ I h) λv y ⟨x,N,R,z,E⟩=>?_);refine wpAny_Slice (thn (D _ y σ N _ R E) λL g ⟨l,O,U,P,A⟩=>thn (S _ g σ O _ U A) λM K ⟨u,J,V,G,j⟩=>?_);refine wq0 ?_;have W:Inv X _ σ J {K with heap:=K.heap.push {cls:=.type "slice",data:=.fields #[L,M,.none]}}:=V.kept λb k q=>ps0 _ q
 obtain⟨T,m,Y,C,F⟩:=B _ _ σ J x v L M l u _ Q W z (Heap.IsSliceOf.new ..) P G j;erw[tail_any C Y F (rfl)]
noncomputable def vY(xs:List V)(lo hi:Option Int):List V:=(xs.drop (HT.sIx xs.length 0 lo)).take (HT.sIx xs.length xs.length hi-HT.sIx xs.length 0 lo)
end
noncomputable def ixN(n:Nat)(i:Int):Option Nat:=if 0<=i then (if i<n then some i.toNat else none)else if -(n:Int)<=i then some (i+n).toNat else none
def atI{α:Type}(xs:List α)(i:Int):Option α:=(ixN xs.length i).bind λj=>xs[j]?
def ua{i}{j}(h:ixN n i=some j):seqIndex? i n=some j/\j<n/\ -(n:Int)<=i/\i<n:=by
 unfold ixN at h
 by_cases K:0<=i
 .rw[if_pos K]at h
  by_cases J:i<n
  .rw[if_pos J]at h
   have e:=Option.some.inj h;exact(by rw[seqIndex_of K J,e],by grind,by grind,J)
  .rw[if_neg J]at h;cases h
 .rw[if_neg K]at h
  by_cases J:-(n:Int)<=i
  .rw[if_pos J]at h
   have e:=Option.some.inj h;exact(by rw[seqIndex_neg @6 J,e],by grind,J,by grind)
  .rw[if_neg J]at h;cases h
def je{xs}{i}{v:α}(h:atI xs i=some v):∃j,seqIndex? i xs.length=some j/\xs[j]?=some v/\j<xs.length/\ -(xs.length:Int)<=i/\i<xs.length:=by
 unfold atI at h;cases e:ixN xs.length i with
 |none=>simp_all
 |some j=>
  rw[e]at h;obtain⟨J,K,L,M⟩:=ua e;exact(j,J,h,K,L,M)
def ub(b:Expr):Prop:=∀o i,subscripted b false o i=operate [o,i] (getItem o i)
def IxR(X:Cx)(r:R2):Prop:=
 ∀(value slice:Expr)(Zp:A5)(s:Shared)(σ:St)(H:Hp)(x y:V)(v u:Value)(Q:VK),Inv X Zp σ H s->RelV x v->RelV y u->r x y H Q->
  subscripted slice false v u=operate [v,u] (getItem v u)->wpAny @4 X.A (subscriptTail value slice v u) (EP X Zp σ Q) X.xe s
def MtR(X:Cx)(J:String)(r:V->List V->Hp->VK->Prop):Prop:=
 ∀(Zp:A5)(s:Shared)(σ:St)(H:Hp)(x:V)(xs:List V)(v:Value)(us:A2)(Q:VK),Inv X Zp σ H s->RelV x v->Vals xs us->r x xs H Q->
  wpAny @4 X.A (call (.builtin J) (v::us)) (EP X Zp σ Q) X.xe s
section
variable {a b:Expr}{ta tb:TE}
def pB{r:R2}(N:IxR X r)(L:PE X a ta)(M:PE X b tb)(hs:ub b):PE X (.Subscript a b pos) (tOp r ta tb):=λpins s σ H Q I h=>Subscript_ (Kr L M I h λv u U x y J K O R q=>N a b _ U σ J x y v u Q K O R q (hs _ _))
def Mb(K:fg0):R2:=λx y H Q=>∃p xs i v,x=.ref p/\y=.int i/\SqL K H p xs/\atI xs i=some v/\Q v H
def Mc(K:fg0):R2:=λx y H Q=>∃p xs i v,x=.ref p/\y=.int i/\SqT K H p xs/\atI xs i=some v/\Q v H
def Me:R2:=λx y H Q=>∃z i c,x=.str z/\y=.int i/\z.length<=sizeLine/\atI z.cps.toList i=some c/\Q (.str ⟨#[c]⟩) H
def fY:IxR X (Mb X.K):=by
 intro value slice Zp s σ H x y v u Q I B C h U;obtain⟨p,xs,i,z,rfl,rfl,D,Z,q⟩:=h;cases B;obtain⟨t,rfl⟩:=C;obtain⟨its,r,M,E⟩:=I.list D;obtain⟨j,J,V,P,W,Y⟩:=je Z;obtain⟨w,O,N⟩:=r.get V;have F:=r.length;have G:=fG;have fin:EP X Zp σ Q w s:=(z,H,I,N,q)
 by_cases R:0<=i
 .have L:i.toNat=j:=by
   rw[seqIndex_of R Y]at J;erw[Option.some.inj J]
  erw[item_listR M.isList R @5 (by rw[L];simpa using O) fin U]
 .have L:(i+(its.toArray.size:Int)).toNat=j:=by
   rw[seqIndex_neg @6 W]at J;rw[ls0,<-F];erw[Option.some.inj J]
  exact subscriptTail_builtinR (x:=w) M.isList.typeIs slot_list_getitem.lookup
   (wpAny_getItem_list_neg (Q:=λr S=>r=w/\EP X Zp σ Q r S) M.isList @6 (by rw[ls0]<;>simp_all) @5 (by rw[L];simpa using O) (rfl,fin)) U
def FQ:IxR X (Mc X.K):=by
 intro value slice Zp s σ H x y v u Q I Y Z h W;obtain⟨p,xs,i,z,rfl,rfl,V,R,q⟩:=h;cases Y;obtain⟨t,rfl⟩:=Z;obtain⟨its,r,L,P⟩:=I.tuple V;obtain⟨j,N,O,D,B,C⟩:=je R;obtain⟨w,M,J⟩:=r.get O;have U:=r.length;have S:=fG;have fin:EP X Zp σ Q w s:=(z,H,I,J,q);exact subscriptTail_builtinR (x:=w) L.typeIs slot_tuple_getitem.lookup
  (getItem_tuple (j:=j) (Q:=λr F=>r=w/\EP X Zp σ Q r F) L @5 @5 (by rw[ls0,<-U];erw[N]) (by simpa using M) (rfl,fin)) W
def FR:IxR X Me:=by
 intro value slice Zp s σ H x y v u Q I U V h R;obtain⟨z,i,c,rfl,rfl,Z,N,q⟩:=h;obtain⟨t,rfl⟩:=U;obtain⟨F,rfl⟩:=V;obtain⟨j,J,K,W,L,M⟩:=je N;have O:z.cps.toList.length=z.length:=by simp[Str.length]
 rw[O]at J L M;have Y:=fG;exact tail_any (typeIs_str s z t) slot_str_getitem.lookup (getItem_str (c:=c) (by
  grind) (by rw[J];simpa using K) (.str ⟨#[c]⟩,H,I.tok _,(_,rfl),q)) R
def iQ(its:A2)(n j:Nat)(u:Value):Obj.mapSeq (·.setIfInBounds j u) {cls:=.type "list",data:=.seq its.toArray n}={cls:=.type "list",data:=.seq (its.set j u).toArray n}:=by
 simp[Obj.mapSeq]
theorem Inv.lst{p}(I:Inv X Zp σ H s)(h:H p=some (.lst xs)):
  ∃(its:A2)(n:Nat),Vals xs its/\s.heap.get? p=some {cls:=.type "list",data:=.seq its.toArray n}/\xs.length<=sizeLine:=by
 obtain⟨z,its,n,r,e⟩:=I.hok p _ h;exact(_,n,r,e,z)
def Inv.lstUpd{p}{J:List V}{n n'}{f}(I:Inv X Zp σ H s)(h:H p=some (.lst xs))
  (M:s.heap.get? p=some {cls:=.type "list",data:=.seq its.toArray n}) (K:f {cls:=.type "list",data:=.seq its.toArray n}={cls:=.type "list",data:=.seq its'.toArray n'}) (r:Vals J its') (hz:J.length<=sizeLine) (t:Nat):
  Inv X Zp σ (upd H p (.lst J)) {s with heap:=s.heap.update p f,toks:=t}:=by
 have e:(s.heap.update p f).get? p=some {cls:=.type "list",data:=.seq its'.toArray n'}:=by
  rw[hu0 f M (by rw[K]<;>rfl),K]
 refine I.write (by rw[h];trivial) (.inl rfl) (λb u L q=>(Heap.get?_update_other _ _ (Ne.symm L)).trans q) (_,e) ?_;exact(hz,_,n',r,e)
def Jm:V->V->V->Hp->(Hp->Prop)->Prop:=λo i v H Q=>∃p xs k j,o=.ref p/\i=.int k/\H p=some (.lst xs)/\ixN xs.length k=some j/\Q (upd H p (.lst (xs.set j v)))
def set_list:FC X Jm:=by
 intro Zp s σ H o i v G P u Q I D F B h;obtain⟨p,xs,k,j,rfl,rfl,O,V,q⟩:=h;cases D;obtain⟨t,rfl⟩:=F;obtain⟨its,n,r,L,Z⟩:=I.lst O;obtain⟨J,C,R,U⟩:=ua V;have Y:=r.length;have S:=fG;have M:=
  I.lstUpd O L (iQ its n j u) (r.set B j) (by rw[List.length_set];erw[Z]) s.toks
 by_cases N:0<=k
 .have K:k.toNat=j:=by
   rw[seqIndex_of N U]at J;erw[Option.some.inj J]
  erw[PySem.W.ki_setAt L N @1 @6 (by rw[K];exact(_,M,q))]
 .have K:(k+(its.toArray.size:Int)).toNat=j:=by
   rw[seqIndex_neg @1 R]at J;rw[ls0,<-Y];erw[Option.some.inj J]
  erw[PySem.W.ki_setBack L @1 @6 @1 (by rw[K];exact(_,M,q))]
def nu(lo J:Option Int)(n:Nat):(sliceBounds lo J none n).1=((HT.sIx n 0 lo:Nat):Int)/\(sliceBounds lo J none n).2.1=((HT.sIx n n J:Nat):Int)/\(sliceBounds lo J none n).2.2=1:=by
 refine(?_,?_,rfl)
 .cases lo with
  |none=>rfl
  |some i=>
   simp only[sliceBounds,HT.sIx,Option.getD_none,show (1:Int)>0 by decide,if_true]
   by_cases h:i<0
   .simp only[h,if_true]<;>lia
   .simp only[h,if_false]<;>lia
 .cases J with
  |none=>rfl
  |some i=>
   simp only[sliceBounds,HT.sIx,Option.getD_none,show (1:Int)>0 by decide,if_true]
   by_cases h:i<0
   .simp only[h,if_true]<;>lia
   .simp only[h,if_false]<;>lia
def kH(its:A2)(lo J:Option Int):slicePick its.toArray lo J none=((its.drop (HT.sIx its.length 0 lo)).take (HT.sIx its.length its.length J-HT.sIx its.length 0 lo)).toArray:=by
 obtain⟨K,L,M⟩:=nu lo J _;unfold slicePick;rw[K,L,M];simp only[sliceRange_one,pick_run]<;>rfl
def Mg(K:fg0):V->Option Int->Option Int->Hp->VK->Prop:=λx lo J H Q=>∃a xs,x=.ref a/\SqL K H a xs/\∀p,H p=none->Q (.ref p) (upd H p (.lst (vY xs lo J)))
def uc:SlR X (Mg X.K):=by
 intro Zp s σ H x v Z F lo W sl Q I V M R U h;obtain⟨a,xs,rfl,N,q⟩:=h;cases V;obtain⟨its,r,L,O⟩:=I.list N;have J:=r.length;refine(_,_,slot_list_getitem.lookup,L.isList.typeIs,?_);refine wpAny_getItem_list_slice L.isList M R U .none @0 ?_ @5;rw[kH,<-J];refine(.ref _,_,I.laid (λb Y q=>ps0 _ q) (nr0 _) ?_,rfl,q _ (I.hok.fresh (nr0 _)));exact(nt0 ((by
   unfold vY;rw[List.length_take,List.length_drop]
   grind)) O,_,0,(r.drop _).take _,pz0 _ rfl)
def nA:OpR X (compareOp .NotIn) (λx y H Q=>∃i j,x=.str i/\y=.str j/\Q (.bl (!(!(Builtin.Str.occurrences j i 0 j.length 1).isEmpty))) H):=by
 intro Zp s σ H x y v u Q I J K h;obtain⟨i,j,rfl,rfl,q⟩:=h;obtain⟨t,rfl⟩:=J;obtain⟨L,rfl⟩:=K;erw[notIn_str (.bl _,H,I,rfl,q)]
def nC:bb X (.builtin "len") (λxs H Q=>∃p L,xs=[.ref p]/\(SqL X.K H p L\/SqT X.K H p L)/\Q (.int L.length) H):=by
 intro Zp s σ H xs us Q I r h;obtain⟨p,L,rfl,hq,q⟩:=h;obtain⟨u,rfl,R⟩:=vals1 r;cases R;have U:=fG;rcases hq with hq|hq
 .obtain⟨its,N,M,O⟩:=I.list hq
  have J:=N.length;erw[Calls.call_len_list M.isList (by simp only[ls0]<;>lia) (.int _,H,I.tok _,(_,by rw[ls0,J]),q)]
 .obtain⟨its,N,M,O⟩:=I.tuple hq
  have J:=N.length;erw[len_tuple M (by simp only[ls0]<;>lia) (.int _,H,I.tok _,(_,by rw[ls0,J]),q)]
def fZ:bb X (.type "list") (λxs H Q=>∃p M,xs=[.ref p]/\(SqL X.K H p M\/SqT X.K H p M)/\∀l,H l=none->Q (.ref l) (upd H l (.lst M))):=by
 intro Zp s σ H xs us Q I r h;obtain⟨p,M,rfl,hq,q⟩:=h;obtain⟨u,rfl,D⟩:=vals1 r;cases D;have fin:∀(its:A2),Vals M its->M.length<=sizeLine->∀(J:Heap)(N:Nat),(∀b F,s.heap.get? b=some F->J.get? b=some F)->
   J.get? s.heap.objs.size=some _->EP X Zp σ Q _ _:=λits L R J N U e=>
  (.ref _,_,I.laid (t':=s.toks) U (nr0 _) (show ObjOk X.prog X.w _ J _ (.lst M)from(R,its,N,L,e)),rfl,q _ (I.hok.fresh (nr0 _)))
 rcases hq with hq|hq
 .obtain⟨its,L,Z,R⟩:=I.list hq
  have O:=L.length;obtain⟨o,Y,V,n,W⟩:=Z.isList;erw[call_list_seq p (.inl rfl) Y V W (λJ N U e=>fin its L R J N U e) @6]
 .obtain⟨its,L,Z,R⟩:=I.tuple hq
  have O:=L.length;obtain⟨o,Y,V,n,W⟩:=Z;erw[call_list_seq p (.inr rfl) Y V W (λJ N U e=>fin its L R J N U e) @6]
def tyV(K:fg0)(T:String)(x:V)(H:Hp):Prop:=match x with
 |.str _=>T="str"
 |.ref p=>T="list"/\∃xs,SqL K H p xs
 |_=>False
def xW{T}{x:V}{v:Value}(I:Inv X Zp σ H s)(r:RelV x v)(J:tyV X.K T x H):
  s.TypeIs v T/\∀a,v=.ref a->∃L,s.heap.get? a=some L/\L.dict=none:=by
 cases x with
 |str z=>
  obtain⟨t,rfl⟩:=r;cases (J);exact(typeIs_str s z t,λb e=>nomatch e)
 |ref p=>
  cases r;obtain⟨rfl,xs,O⟩:=J
  .obtain⟨its,_,M,_⟩:=I.list O
   refine(M.isList.typeIs,λa e=>?_);cases e;obtain⟨o,n,e,c,N,_⟩:=M;exact(o,e,N)
 |_=>exact False.elim J
def Mh(K:fg0)(T:String)(r:V->List V->Hp->VK->Prop)(L:TE):TE:=λσ H Q=>L σ H λx J=>tyV K T x J/\r x [] J Q
def tBM(K:fg0)(T:String)(r:V->List V->Hp->VK->Prop)(M:TE)(t:TA):TE:=λσ H Q=>M σ H λx J=>tyV K T x J/\t σ J λxs L=>r x xs L Q
variable {o e:Expr}{es:A3}{to:TE}{t:TA}{name:Str}{apos cpos:Pos}{id:String}{r:V->List V->Hp->VK->Prop}
def xX(Z:PlainAttrs T)(slot:Slot T name id)(M:typeOf (.builtin id)=pure (.type "method_descriptor"))(W:MtR X id r)(Y:PE X o to)
  (J:attributeBase o name X.env (eval o X.env)=eval o X.env) (L:@15=true):PE X (.Call (.Attribute o name apos) [] [] cpos) (Mh X.K T r to):=by
 intro Zp s σ H Q I h;refine wpAny_Call_method0_late J L (thn (Y Zp s σ H _ I h) ?_);rintro v D ⟨x,R,N,O,B,F⟩;obtain⟨U,V⟩:=xW N O B;exact(T,id,Z,slot,M,U,V,Calls.callWith_builtin rfl (PySem.evalArgs_none (W Zp D σ R x [] v [] Q N O .nil F)))
def kY(P:PlainAttrs T)(slot:Slot T name id)(O:typeOf (.builtin id)=pure (.type "method_descriptor"))(C:MtR X id r)(S:PE X o to)(B:PA X (e::es) t)
  (L:attributeBase o name X.env (eval o X.env)=eval o X.env)
  (N:((backTo cpos (starEach (e::es) X.env)).all (λx=>!x.1)&&(backToKw cpos (keywordEach [] X.env)).all (λx=>x.1.isSome)
   &&decide ((e::es).length+([]:List Keyword).length+(if ([]:List Keyword).isEmpty then 0 else 1)<30))=true)
  (M:@15=true) (hs:starEach (e::es) X.env=(false,eval e X.env)::starEach es X.env) (J:(backTo cpos (starEach es X.env)).any (·.1)=false):
  PE X (.Call (.Attribute o name apos) (e::es) [] cpos) (tBM X.K T r to t):=by
 intro Zp s σ H Q I h;refine wpAny_Call_method_late L N M rfl (thn (S Zp s σ H _ I h) ?_);rintro v j ⟨x,W,R,V,y,G⟩;obtain⟨F,D⟩:=xW R V y;refine(T,id,P,slot,O,F,D,?_);have U:=B cpos Zp j σ W _ R G;rw[hs]at U ⊢;refine Calls.callWith_builtin (by show (false||(backTo cpos (starEach es X.env)).any (·.1))=false;rw[J]<;>rfl) (Calls.evalArgs_plain ?_);erw[thn U (by rintro us z ⟨q,Y,Z,A,E⟩;exact C Zp z σ Y x q v us Q Z V A E)]
end
def MtM(X:Cx)(J:String)(r:V->List V->Hp->VK->Prop):Prop:=
 ∀(Zp:A5)(s:Shared)(σ:St)(H:Hp)(x:V)(xs:List V)(v:Value)(us:A2)(Q:VK),Inv X Zp σ H s->RelV x v->Vals xs us->r x xs H Q->
  wpAny @4 X.A (call (.builtin J) (v::us)) (EP X Zp σ Q) X.xe s
def Vals.one:∀{x:V}{us:A2},Vals [x] us->∃u,us=[u]/\RelV x u:=by
 intro x us h;cases h with|cons r h=>cases h;exact(_,rfl,r)
def Vals.zero:∀{us:A2},Vals [] us->us=[]
 |_,.nil=>rfl
theorem Vals.dropLast(h:Vals xs us):Vals xs.dropLast us.dropLast:=by
 induction h with
 |nil=>exact .nil
 |cons r t ih=>
  cases t with
  |nil=>exact .nil
  |cons q J=>exact .cons r ih
theorem Vals.reverse(h:Vals xs us):Vals xs.reverse us.reverse:=by
 induction h with
 |nil=>exact .nil
 |cons r t ih=>rw[List.reverse_cons,List.reverse_cons];erw[Vals.append ih (.cons r .nil)]
theorem Vals.rep(h:Vals xs us):∀k:Nat,Vals (List.replicate k xs).flatten (List.replicate k us).flatten
 |0=>.nil
 |k+1=>by
  erw[Vals.append h (Vals.rep h k)]
def rN(l:List α):l.eraseIdx (l.length-1)=l.dropLast:=by
 simp
theorem foldl_rep(its:A2):∀(k:Nat)(acc:A2),
  List.foldl (λK L=>K++L) acc.toArray (List.replicate k its.toArray)=(acc++(List.replicate k its).flatten).toArray
 |0,acc=>by simp
 |k+1,acc=>by
  have e:acc.toArray++its.toArray=(acc++its).toArray:=by simp
  have J:(acc++its)++(List.replicate k its).flatten=acc++(List.replicate (k+1) its).flatten:=by
   rw[List.replicate_succ,List.flatten_cons,List.append_assoc]
  rw[<-J,<-foldl_rep _ k _,<-e,List.replicate_succ,List.foldl_cons]
section
variable {l b:Addr}{ys zs:List V}
def Inv.lset{f}{t':Nat}(I:Inv X Zp σ H s)(J:H l=some (.lst xs))
  (e:s.heap.get? l=some {cls:=.type "list",data:=.seq its.toArray n}) (L:f its.toArray=its'.toArray) (N:Vals ys its') (hz:ys.length<=sizeLine):
  Inv X Zp σ (upd H l (.lst ys)) {s with heap:=s.heap.update l (Obj.mapSeq f),toks:=t'}:=by
 have q:=PySem.IsL.update e f;rw[L]at q;refine I.write (by rw[J];erw[trivial]) (.inl rfl) (λO u K M=>(Heap.get?_update_other _ _ (Ne.symm K)).trans M) (_,q) ?_;exact(hz,_,_,N,q)
def Inv.lnew{its}{t':Nat}(I:Inv X Zp σ H s)(J:Vals ys its)(hz:ys.length<=sizeLine):
  Inv X Zp σ (upd H s.heap.objs.size (.lst ys)) {s with heap:=s.heap.push {cls:=.type "list",data:=.seq its.toArray},toks:=t'}:=
 I.laid (λa a q=>ps0 _ q) (nr0 _) (hz,_,0,J,pz0 _ rfl)
theorem Inv.fresh(I:Inv X Zp σ H s):H s.heap.objs.size=none:=I.hok.fresh (nr0 _)
def Inv.lstM(I:Inv X Zp σ H s)(J:H l=some (.lst xs)):xs.length<=sizeLine/\∃(its:A2)(n:Nat),Vals xs its/\xs.length=its.length/\s.heap.get? l=some {cls:=.type "list",data:=.seq its.toArray n}:=by
 obtain⟨z,its,n,r,e⟩:=I.hok l _ J;exact(z,_,n,r,r.length,e)
def pC(h:n<=sizeLine):Builtin.List.listTooLong n=false:=df0 @1
end
def BR:V->List V->Hp->VK->Prop:=λx J H Q=>∃l xs y,x=.ref l/\J=[y]/\H l=some (.lst xs)/\xs.length<sizeLine/\Q .non (upd H l (.lst (xs++[y])))
def hX:MtM X "list.append" BR:=by
 intro Zp s σ H x R v us Q I M L h;obtain⟨l,xs,y,rfl,rfl,J,O,q⟩:=h;cases M;obtain⟨u,rfl,K⟩:=L.one;obtain⟨z,its,n,r,N,e⟩:=I.lstM J;refine call_meets F.slot_list_append (_,e,rfl) F.entry_list_append (F.args_list_append_2 _ _) (PySem.list_append l _ n u @5) (e,?_);refine(.non,_,I.lset J e @0 (r.append (.cons K .nil)) ?_,rfl,q)
 grind
def BS:V->List V->Hp->VK->Prop:=λx K H Q=>∃l b xs J,x=.ref l/\K=[.ref b]/\H l=some (.lst xs)/\H b=some (.lst J)/\xs.length+J.length<=sizeLine/\Q .non (upd H l (.lst (xs++J)))
def vZ:MtM X "list.extend" BS:=by
 intro Zp s σ H x C v us Q I Z Y h;obtain⟨l,b,xs,P,rfl,rfl,M,O,B,q⟩:=h;cases Z;obtain⟨u,rfl,W⟩:=Y.one;cases W;obtain⟨z,its,n,r,D,e⟩:=I.lstM M;obtain⟨S,J,U,V,R,N⟩:=I.lstM O;have L:its.toArray.size+J.toArray.size<=sizeLine:=by grind
 have K:¬ (!its.toArray.isEmpty&&Builtin.List.listTooLong (its.toArray.size+J.toArray.size))=true:=by
  rw[pC L,Bool.and_false];simp
 refine call_meets F.slot_list_extend (_,e,rfl) F.entry_list_extend (F.args_list_extend_2 _ _)
  (AutoSeq1.list_extend_list_list_0 l _ n b _ U K @5 @1) (e,N,?_)
 refine(.non,_,I.lset M e @0 (r.append V) ?_,rfl,q);rw[la0]
 lia
def Mi:V->List V->Hp->VK->Prop:=λx J H Q=>∃l xs y,x=.ref l/\J=[]/\H l=some (.lst xs)/\xs[xs.length-1]?=some y/\Q y (upd H l (.lst xs.dropLast))
def FS:MtM X "list.pop" Mi:=by
 intro Zp s σ H x W v us Q I R O h;obtain⟨l,xs,y,rfl,rfl,L,M,q⟩:=h;cases R;have J:=O.zero;subst J;obtain⟨z,its,n,r,U,e⟩:=I.lstM L;obtain⟨u,V,N⟩:=r.get M;have K:its.toArray[its.toArray.size-1]?=some u:=by
  simp_all
 refine call_meets F.slot_list_pop (_,e,rfl) F.entry_list_pop (F.args_list_pop_1 _) (MeetsSeq.list_pop_last l _ n u K @6) (e,?_);refine(y,_,I.lset L e ?_ r.dropLast ?_,N,q)
 .simp
 .rw[List.length_dropLast]
  lia
def xY:V->List V->Hp->VK->Prop:=λx J H Q=>∃l xs,x=.ref l/\J=[]/\H l=some (.lst xs)/\Q .non (upd H l (.lst xs.reverse))
def rP:MtM X "list.reverse" xY:=by
 intro Zp s σ H x O v us Q I M L h;obtain⟨l,xs,rfl,rfl,K,q⟩:=h;cases M;have J:=L.zero;subst J;obtain⟨z,its,n,r,N,e⟩:=I.lstM K;refine call_meets F.slot_list_reverse (_,e,rfl) F.entry_list_reverse (F.args_list_reverse_1 _) (AutoSeq1.list_reverse_list_0 l _ n @6) (e,?_);refine(.non,_,I.lset K e @0 r.reverse ?_,rfl,q);rw[List.length_reverse]
 lia
def Mj:R2:=λx y H Q=>∃l b xs J,x=.ref l/\y=.ref b/\H l=some (.lst xs)/\H b=some (.lst J)/\xs.length+J.length<=sizeLine/\∀p,H p=none->Q (.ref p) (upd H p (.lst (xs++J)))
def op_cat:OpR X (binaryOp .Add) Mj:=by
 intro Zp s σ H x y v u Q I U V h;obtain⟨l,b,xs,D,rfl,rfl,N,M,Y,q⟩:=h;cases U;cases V;obtain⟨z,its,n,r,W,e⟩:=I.lstM N;obtain⟨F,J,Z,R,O,K⟩:=I.lstM M;refine PySem.P.add_list e K ?_ @6;have L:its.toArray++J.toArray=(its++J).toArray:=by simp
 rw[L];exact(.ref _,_,I.lnew (r.append R) (by rw[la0];lia),rfl,q _ I.fresh)
def Ml:R2:=λx y H Q=>∃l k xs,x=.ref l/\y=.int k/\H l=some (.lst xs)/\ -(2 ^ 63)<=k/\k<2 ^ 63/\xs.length*k.toNat<=sizeLine/\
 ∀p,H p=none->Q (.ref p) (upd H p (.lst (List.replicate k.toNat xs).flatten))
def len_rep(xs:List α)(k:Nat):(List.replicate k xs).flatten.length=k*xs.length:=by
 simp
def FU:OpR X (binaryOp .Mult) Ml:=by
 intro Zp s σ H x y v u Q I D B h;obtain⟨l,k,xs,rfl,rfl,Y,V,W,O,q⟩:=h;cases D;obtain⟨t,rfl⟩:=B;obtain⟨z,its,n,r,Z,e⟩:=I.lstM Y;have M:its.toArray.size*k.toNat<=sizeLine:=by rw[ls0,<-Z];erw[O]
 have K:¬ its.toArray.size*k.toNat>(2 ^ 63-1) / 8:=by
  have:(sizeLine:Nat)<=(2 ^ 63-1) / 8:=by decide
  lia
 have L:¬ (!Builtin.List.listFitsIndex k)=true:=by
  rw[fitsIndex_both V W];erw[fx0]
 have J:¬ Builtin.List.listTooLong (its.toArray.size*k.toNat)=true:=by
  rw[pC M];erw[fx0]
 have N:List.foldl (λS P=>S++P) #[] (List.replicate (if its.toArray.isEmpty=true then 0 else k.toNat) its.toArray)=(List.replicate k.toNat its).flatten.toArray:=by
  have R:=λm=>by
   have:=foldl_rep its m [];omega
  rw[R];cases its<;>simp_all
 refine wpAny_binaryOp_repeat_ref (T:="list") (U:="int") @2 (_,e,rfl) (λC=>typeIs_int C k t) noFill_list_mul F.fills_int_mul F.slot_int_rmul repeat_list F.slot_int_index.lookup
  (call_meets F.slot_int_rmul (typeIs_int s k t) F.entry_int_rmul (F.args_int_rmul_2 _ _) (int___rmul___int_list k t l its.toArray n)
   (e,rfl,(_,e,rfl),call_meets F.slot_list_mul (_,e,rfl) F.entry_list_mul (F.args_list_mul_2 _ _) (AutoListH.list___mul___list_int_3 l its.toArray n k t L K J) (e,?_)))
 rw[N];exact(.ref _,_,I.lnew (t':=s.toks) (r.rep k.toNat) (by rw[len_rep,Nat.mul_comm];erw[O]),rfl,q _ I.fresh)
section
variable {A:Around}{E:A0}
end
end L2
namespace Att
open PySem PySem.W PySem.Calls PyProof.Rows
def iW{P}{h:Heap}:∀(ns:List Int)(vs:A2),WellAll P h vs (ns.map WData.int)->IntsAre vs ns:=by
 intro ns
 induction ns with
 |nil=>
  intro vs w;cases w;exact .nil
 |cons n ns ih=>
  intro vs w;cases w with
  |cons a b=>
   cases a;exact .cons _ _ (ih _ b)
def wa{l:OpenLaw}(Y:l.most=some n){P}{h:Heap}{args}{vals}
  (J:l.row.toRowW.claim.pre args=true) (O:WellAll P h vals args):
  ∃a vs ns,vals=[Value.ref a]/\args=[WData.list (ns.map WData.int)]/\h.get? a=some {cls:=.type "list",data:=.seq vs.toArray}/\IntsAre vs ns/\ns.length<=n:=by
 have N:=(pre_splitW J).1;have W:=(pre_splitW J).2;obtain⟨d,r,rfl,R,U⟩:=hasAllW_cons N;obtain rfl:=hasAllW_nil U;obtain⟨xs,rfl,V⟩:=hasW_list R;obtain⟨ns,rfl⟩:=items_int V;have L:ns.length<=n:=by
  have M:=by
   have M:=(holds_andW W).1
   rwa [Y]at M
  have B:=condW_of M (w_not (w_lt w_lit (w_len_list (w_arg rfl))))
  simp_all
 cases O with
 |cons F D=>
  cases D;cases F with
  |list Z K=>exact(_,_,ns,rfl,rfl,Z,iW ns _ K,L)
def wb(l:OpenLaw)(args):l.row.toRowW.claim.post args (.bool true) args=true:=
 postW_of
  (rfl)
  (w_eq_bool (w_res rfl) w_lit) rfl
def attach_call{l:OpenLaw}{q:Program}{loose:A1}{XP:(Str->Option Value)->Heap->Prop}{S:World->Heap->Prop}{d:DefRec}
  (m:l.most=some n) (F:d.params.defaults=[])
  (call:∀(w:World)(K J:Shared)(V C:A6)(M:Addr)(o:Obj)(Q U L:Value)(a:Addr)(vs:A2)(ns:List Int),
   Ground q loose [] XP w K V C J.heap->S w J.heap->
   J.heap.get? M=some o->o.data=.func (docDef d.name d.params d.body d.scope Q U L)->J.heap.CodeRec U d.name->V d.name=some (.ref M)->
   J.heap.get? a=some {cls:=.type "list",data:=.seq vs.toArray}->IntsAre vs ns->ns.length<=n->J.gens=#[]->
   codeAny (model l.prog w) callerA (.call (.ref M) ([.ref a],[])) (λr W=>r=.ok (.ret (.bool true))/\OldK J.heap W.heap/\W.os=J.os/\AllBare W.gens) J):
  WalkO q loose XP S l.row.toRowW d [] (λf vs=>PySem.call f vs):=by
 intro w K J V C G Y M o Q U L E kV k y Z P D u args vals c R I p B g;obtain rfl:E=.none:=Dflts.none P F;obtain rfl:kV=.none:=Dflts.noKw P;obtain⟨a,vs,ns,rfl,rfl,O,hints,N⟩:=wa m R B;refine enter_call (codeAny_mono (call w _ J V C M o Q U L a vs ns G Y k (fd_plain y) Z D O hints N u) λr W t=>?_);obtain⟨rfl,A,j,z⟩:=t;exact(.inl (_,_,[],rfl,λb=>rfl,.bool true,wb l _,λb=>(List.Pairwise.nil,λb v=>(nomatch v))),A,j,z)
section
variable {A:Around}{E:A0}{K:Frag}
end
end Att
namespace L2
open PySem PySem.Spec PyProof.Rows
def hZ:∀{vs:A2}{ns},IntsAre vs ns->Vals (ns.map V.int) vs:=by
 intro vs ns h
 induction h with
 |nil=>exact .nil
 |cons n t h ih=>exact .cons (t,rfl) ih
def FV(H:Hp):Prop:=∀b,H b=none\/∃o xs,H b=some (.frz o (.lst xs))
def xZ{P:Program}{K:fg0}{mg mb}{g:CXT}{k:Nat}{fa a}{x:Str}{sp:Sp}{s₁}{vs:A2}{ns}
  (l:K.In s₁.heap) (U:s₁.heap.Ns mainGlobals mg) (J:s₁.heap.Ns builtinsNs mb) (E:∀x:Str,x≠"__name__"->mb x=bootBuiltins x) (R:s₁.heap.NoLimit) (hg:s₁.gens=#[])
  (S:s₁.heap.get? a=some {cls:=.type "list",data:=.seq vs.toArray}) (hi:IntsAre vs ns) (hl:ns.length<=sizeLine) (hr:Room k callerA)
  (F:∀base:Heap,K.In base->base.Ns mainGlobals mg->FnOk P w K mg base g k fa fd [x] sp) (N:∀(s:Shared)(u:Value),BindsTo s fd ([u],[]) [(x,u)])
  (j:∀H:Hp,FV H->SqL K H a (ns.map V.int)->sp [.ref a] H (λv c=>v=.bl true) λc c c=>False)
  (I:∀H e L,g [] H s₁ (λc c c=>False) e L->False):
  codeAny (model P w) callerA (.call (.ref fa) ([.ref a],[])) (λr L=>r=.ok (.ret (.bool true))/\OldK s₁.heap L.heap/\L.os=s₁.os/\AllBare L.gens) s₁:=by
 have rv:=hZ hi;have D:=hi.length;have core:∀H:Hp,FV H->SqL K H a (ns.map V.int)->HOk P w H s₁.heap->(∀b,H b≠none->b=a)->(H a≠none->K.lookup a=none)->
   codeAny (model P w) callerA (.call (.ref fa) ([.ref a],[])) (λr L=>r=.ok (.ret (.bool true))/\OldK s₁.heap L.heap/\L.os=s₁.os/\AllBare L.gens) s₁:=by
  intro H i hS Y p hK;have base_of:∀{b:Addr}{o:Obj},s₁.heap.get? b=some o->H b=none->(mZ s₁.heap H).get? b=some o:=λe n=>(PySem.W.hideAll_get _ e λhm=>by
     have q:=(List.mem_filter.mp hm).2
     simp_all)
  have y:∀{b:Addr}{o:Obj}{Q:Array DictEntry}{C:Nat},s₁.heap.get? b=some o->o.data=.dict Q C->H b=none:=λ{b o Q C} e d=>by
   cases q:H b with
   |none=>rfl
   |some u=>
    have G:b=a:=p b (by rw[q];simp);subst G;rw[S]at e;cases e;have d':=d;cases d'
  have M:∀{b:Addr}{m:A6},s₁.heap.Ns b m->(mZ s₁.heap H).Ns b m:=λ{b m} ⟨o,Q,C,e,d,r⟩=>(o,Q,C,base_of e (y e d),d,r)
  have O:K.In (mZ s₁.heap H):=λb o e=>base_of (l b o e) (by
   cases q:H b with
   |none=>rfl
   |some u=>
    have G:b=a:=p b (by rw[q];simp);subst G;rw[hK (by rw[q];simp)]at e;cases e)
  have hM:Mod K mg (mZ s₁.heap H):=(O,M U,(mb,M J,E),let ⟨mc,h1,h2⟩:=R;(mc,M h1,h2));have e0:Env0 P w K mg (mZ s₁.heap H) callerA [] s₁ H:=(rfl,hM,λb o e=>BC e,Nat.le_of_eq ((PySem.W.hideAll_size _ _)),trivial,λb J=>absurd (show b∈([]:A4)from J) @0,Y,.of_eq hg);refine codeAny_mono ((F _ O (M U)).run callerA [] s₁ H ([.ref a],[]) [.ref a] [.ref a] _ _ hr e0 (N s₁ (.ref a)) (.cons rfl .nil) (j H i hS)) λr L h=>?_
  cases r with
  |error e=>exact (I H e L h).elim
  |ok fl=>
   cases fl with
   |next=>exact False.elim h
   |brk=>exact False.elim h
   |cont=>exact False.elim h
   |ret u=>
    obtain⟨v,H',os,bare,un,Z,r',q⟩:=h;have q':=q;subst q';obtain rfl:u=Value.bool true:=r';refine(rfl,OldK.of_keep λb o e=>?_,os,bare);cases q:H b with
    |none=>exact un.keep b o e q (by intro z;erw[absurd (show b∈([]:A4)from z) @0]) @0
    |some u=>
     rcases i b with z|⟨ob,xs,z⟩
     .rw[q]at z;cases z
     .have z2:=un.frzs b ob _ z
      obtain⟨t,_⟩:=Y b _ z;obtain⟨e2,_⟩:=Z b _ z2;rw[e]at t;cases t;erw[e2]
 cases A:K.lookup a with
 |some o=>
  have e:=l a o A;rw[S]at e;cases e;refine core (λc=>none) (λc=>.inl rfl) (.inr (_,vs.toArray,_,A,rfl,rfl,rfl,by rw[ls0,D];erw[hl],by simpa using rv)) (λb u z=>by have B:=z;cases B) (λb z=>absurd rfl z) λz=>absurd rfl z
 |none=>
  refine core (λb=>if b=a then some (.frz {cls:=.type "list",data:=.seq vs.toArray} (.lst (ns.map V.int)))else none) (λb=>?_) (.inl (.inr ({cls:=.type "list",data:=.seq vs.toArray},if_pos rfl))) (λb u z=>?_) (λb z=>?_) λc=>A
  .by_cases J:b=a
   .exact .inr (_,_,if_pos J)
   .exact .inl (if_neg J)
  .by_cases J:b=a
   .have B:=(if_pos J).symm.trans z
    cases B;subst J;exact(S,by rw[lm0];erw[hl],vs,_,rv,S)
   .have B:=(if_neg J).symm.trans z
    cases B
  .by_cases J:b=a
   .erw[J]
   .erw[absurd (if_neg J) z]
def BU{l:PySem.W.OpenLaw}{n k}{q}{loose}{XP}{YP}{d}{K:Params->fg0}{C:World->CXT}{S:World->Sp}{x:Str}
  (p:l.most=some n) (Z:n<=sizeLine) (R:d.params.defaults=[]) (i:Room k callerA)
  (y:∀(w:World)(h:Heap),YP w h->(K w.params).In h)
  (F:∀(w:World)(L:A6)(N:Addr)(h:Heap),(K w.params).In h->h.Ns mainGlobals L->L d.name=some (.ref N)->
   ∃fd:FuncData,(∀(s:Shared)(u:Value),BindsTo s fd ([u],[]) [(x,u)])/\
    ∀base:Heap,(K w.params).In base->base.Ns mainGlobals L->FnOk l.prog w (K w.params) L base (C w) k N fd [x] (S w))
  (D:∀(w:World)(H:Hp)(a:Addr)(ns:List Int),ns.length<=n->FV H->SqL (K w.params) H a (ns.map V.int)->S w [.ref a] H (λv c=>v=.bl true) λc c c=>False)
  (O:∀(w:World)(H:Hp)(s:Shared)(e:Value)(B:Shared),C w [] H s (λc c c=>False) e B->False):
  PySem.W.WalkO q loose XP YP l.row.toRowW d [] (λf vs=>PySem.call f vs):=by
 refine Att.attach_call p R λw P I L mb N o pm cd E a vs ns G Y ho hd t U M hints J r=>?_
 have Q:=y w _ Y;obtain⟨fd,m,A⟩:=F w L N _ Q G.T.g U;erw[xZ Q G.T.g G.T.b G.T.builtins G.T.nolimit r M hints (nt0 J Z) i A m (λH j z=>D w H a ns J j z) λH e B=>O w H _ e B]
noncomputable def defArgs(s:Stmt):Arguments:=match s with
 |.FunctionDef _ a _ _ _ _ _ _ _ _=>a
 |_=>{posonlyargs:=[],args:=[],vararg:=none,kwonlyargs:=[],kw_defaults:=[],kwarg:=none,defaults:=[]}
noncomputable def defBody(s:Stmt):List Stmt:=match s with
 |.FunctionDef _ _ b _ _ _ _ _ _ _=>b
 |_=>[]
noncomputable def defScope(s:Stmt):Scope:=match s with
 |.FunctionDef _ _ _ _ _ _ J _ _ _=>J
 |_=>{kind:=.function,names:=[],isGenerator:=false,isCoroutine:=false}
abbrev CX0:CXT:=λa a a a a a=>False
abbrev E0:XK:=λa a a=>False
def kZ :fJ CX0 X E0:=λa a a a a a a h=>h.elim
structure Fun(K:fg0)(x qual:Str)(st:Stmt)(f:Addr)(fd:FuncData):Prop where
 ex:∃(oc:Value)(od:Option Addr)(kV doc pm:Value)(an:Option Addr)(cdv ct:Value)(osl:Array (Option Value)),
  fd=PySem.W.fnOf x qual (defArgs st) (defBody st) @9 .none kV doc pm an cdv ct/\K.lookup f=some ⟨oc,od,.func fd,osl⟩/\PySem.W.codeIn K cdv qual=true
 kp:PySem.W.keepIn K (.ref f)=true
section
variable {P:Program}{K:fg0}{mg:A6}{base:Heap}
def Fun.ok{x qual}{N ps}{k:Nat}{R:Sp}(F:Fun K x qual st f fd)(S:cf N ps @9)(O:∀vs H Q E,R vs H Q E->vs.length=ps.length)
  (J:∀(cdv:Value)(A:Around)(outer:List Env)(s:Shared)(H:Hp)(vs:List V)(Q:VK)(E:XK),Room k (A.deeper (envOfC qual @9 s.heap.objs.size f cdv))->R vs H Q E->
   ∃t,PSs (iV CX0 P w K mg base N qual @9 f cdv A outer s H E).nox (defBody st) t/\t {nx:=λa U=>Q .non U,rt:=Q} (start N vs) H):FnOk P w K mg base CX0 (k+1) f fd ps R:=by
 obtain⟨G,I,kV,W,j,B,cdv,C,D,rfl,Z,L⟩:=F.ex;refine Jk Z L S O λA outer s H vs Q E Y M=>?_
 obtain⟨t,h,q⟩:=J _ A _ s H vs Q E Y M;exact(t,h.nox,q)
def Fun.binds{x qual}{ps:A1}(F:Fun K x qual st f fd)
  (h:∀(kV J M:Value)(L:Option Addr)(cdv ct:Value)(us:A2),us.length=ps.length->bindArgs (PySem.W.fnOf x qual (defArgs st) (defBody st) @9 .none kV J M L cdv ct) (us,[])=pure (ps.zip us)):Binds K fd ps []:=by
 obtain⟨U,V,kV,J,M,L,cdv,ct,O,rfl,R,N⟩:=F.ex;exact .all (h kV _ M L _ ct)
def FW{x qual}{oc}{od an}{osl}{kV doc pm cdv ct}(l:K.lookup f=some (oc,od,.func (PySem.W.fnOf x qual (defArgs st) (defBody st) @9 .none kV doc pm an cdv ct),osl))
  (c:PySem.W.codeIn K cdv qual=true) (k:PySem.W.keepIn K (.ref f)=true):Fun K x qual st f (PySem.W.fnOf x qual (defArgs st) (defBody st) @9 .none kV doc pm an cdv ct):=((oc,od,kV,_,pm,an,_,ct,_,rfl,l,c),k)
end
def ia(h:n<=1000):n<sizeLine:=Nat.lt_of_le_of_lt h @2
def nD{A B:Prop}(h:B):if false=true then A else B:=h
def iteT{A B:Prop}(h:A):if true=true then A else B:=h
def Same(H J:Hp):Prop:=∀b o,H b=some o->J b=some o
def Same.refl(H:Hp):Same H H:=λa a h=>h
def Same.trans{H H1 H2}(a:Same H H1)(b:Same H1 H2):Same H H2:=λc o h=>b c o (a c o h)
def Same.free{J:Hp}(e:Same H J){l}(h:J l=.none):H l=.none:=by
 cases q:H l with
 |none=>rfl
 |some o=>
  rw[e l o q]at h;cases h
def Same.seq{K:fg0}{J:Hp}{a:Addr}(e:Same H J)(h:SqL K H a xs):SqL K J a xs:=by
 rcases h with (h|⟨o,h⟩)|h
 .exact .inl (.inl (e _ _ h))
 .exact .inl (.inr (o,e _ _ h))
 .exact .inr h
end L2
namespace L2.C
open PySem PySem.Spec PyProof.Rows L2
noncomputable def kn(env:Env):List (Str×NameKind)->List (Str×Addr)->List (Str×Addr)
 |[],J=>J
 |(n,k)::r,J=>if k==.free then kn env r ((n,(env.cells.lookup n).getD 0)::J)else kn env r J
def fv(h:∀x∈scope.names,x.2=.free->(env.cells.lookup x.1).isSome=true):
  closureFor scope env=pure (kn env scope.names []):=by
 simp only[closureFor];generalize scope.names=l at h ⊢;generalize ([]:List (Str×Addr))=J
 induction l generalizing J with
 |nil=>rfl
 |cons x r ih=>
  obtain⟨n,k⟩:=x;rw[List.forIn_cons]
  by_cases M:k=.free
  .subst M
   have K:=h (n,.free) ms0 rfl;obtain⟨c,K⟩:=is0 K;simp only[kn,cellOf,K];have:=ih (λy L=>h y (mc0 _ L)) ((n,c)::J);erw[this]
  .have N:(k==NameKind.free)=false:=by simpa using M
   simp only[kn,N];erw[ih (λy L=>h y (mc0 _ L)) J]
theorem ic :∀(l:List (Str×NameKind))(acc:List (Str×Addr)),(∀x∈l,x.2=.free->(env.cells.lookup x.1).isSome=true)->(∀x c,acc.lookup x=some c->env.cells.lookup x=some c)->
  ∀x c,(kn env l acc).lookup x=some c->env.cells.lookup x=some c
 |[],acc,_,K,x,c,e=>K x c e
 |(n,k)::r,acc,h,K,x,c,e=>by
  unfold kn at e
  by_cases L:k=.free
  .subst L
   obtain⟨M,O⟩:=is0 (h _ ms0 rfl);refine ic r _ (λy J=>h y (mc0 _ J)) (λy d q=>?_) x c e;rw[lk0]at q;cases J:y==n<;>simp_all
  .have N:(k==NameKind.free)=false:=by simpa using L
   rw[if_neg @6]at e;erw[ic r acc (λy J=>h y (mc0 _ J)) K x c e]
theorem gb :∀(l:List (Str×NameKind))(acc:List (Str×Addr))(x:Str),((x,NameKind.free)∈l\/∃c,acc.lookup x=some c)->∃c,(kn env l acc).lookup x=some c
 |[],acc,x,h=>by
  rcases h with h|h
  .cases h
  .erw[h]
 |(n,k)::r,acc,x,h=>by
  unfold kn
  by_cases J:k=.free
  .subst J
   refine gb r _ x ?_;rcases h with h|⟨c,h⟩
   .rcases mq0 h with h|h<;>simp_all
   .right
    rw[lk0];cases K:x==n with
    |true=>exact(_,rfl)
    |false=>exact(c,h)
  .rw[if_neg @6]
   refine gb r _ x ?_
   grind
theorem aY{env:Env}(M:env.scope.kind=.function):∀{names:List (Str×NameKind)}{x},names.lookup x=some .free->env.kindOf x=some .cell->
  (names.map λ(n,k)=>if (k==NameKind.free&&env.scope.kind==.function&&env.kindOf n==some .cell)then (n,NameKind.cell)else (n,k)).lookup x=some .cell
 |[],_,h,_=>by simp at h
 |(n,k)::r,x,h,L=>by
  have ih:=@aY _ M r x;show List.lookup x ((if (k==NameKind.free&&env.scope.kind==.function&&env.kindOf n==some _)=true then (n,NameKind.cell)else (n,k))::_)=_;cases J:x==n with
  |true=>
   simp_all
  |false=>
   simp only[lk0,J]at h
   by_cases K:(k==NameKind.free&&env.scope.kind==.function&&env.kindOf n==some .cell)=true
   .rw[if_pos K];simp only[lk0,J];erw[ih h L]
   .rw[if_neg K];simp only[lk0,J];erw[ih h L]
section
variable {A:Around}{R:Result->Shared->Prop}
noncomputable abbrev nE(ifs:A3)(env:Env):Sem Bool:=
 forIn ifs true λc r=>if r=true then do let ok ←isTrue c env (eval c env);pure (ForInStep.yield ok)else pure (ForInStep.yield r)
def pE{elt target iter}{ifs}{pos}{it acc}(I:Nat->Shared->Prop)
  (turn:∀n s,I n s->wpAny @3 A (pyNext it) (λr s1=>match r with
   |none=>R (.ok .next) s1
   |some v=>wpAny @3 A (letOwnedTupleGo target it v) (λa s2=>wpAny @3 A (assign target env v) (λa s3=>wpAny @3 A (nE ifs env) (λok s4=>
     if ok=true then wpAny @3 A (eval elt env) (λx s5=>wpAny @3 A (call (.builtin "list.append") [acc,x]) (λa s6=>∃m,m<n/\I m s6) (λa a=>False) s5) (λa a=>False) s4
     else ∃m,m<n/\I m s4) (λa a=>False) s3) (λa a=>False) s2) (λa a=>False) s1) (λa a=>False) s)
  (n:Nat) (h:I n s):codeAny @3 A (.compLoop (.ListComp elt [(target,iter,ifs,0)] scope pos) 0 it acc env) R s:=by
 have J:∀{E:A0}(x:Value)(W:Shared),False->E x W:=λa a z=>z.elim
 refine codeAny_loop rfl I (λn s V=>?_) n h;show wpAny _ A _ _ _ s;refine wpAny_noted ?_;rw[compTurn_list];refine wb0 (wpAny_standAt (wb0 (wpAny_mono (turn n s V) (λr s1 K=>?_) J)));cases r with
 |none=>exact wq0 K
 |some v=>
  refine wb0 (wpAny_mono K (λa s2 M=>?_) J);refine wb0 (wpAny_mono M (λa s3 N=>?_) J);refine wb0 (wpAny_mono N (λok s4 L=>?_) J);cases ok with
  |false=>exact wq0 (rfl,L)
  |true=>
   refine wb0 (wb0 (wpAny_mono L (λx s5 O=>?_) J));erw[wb0 (wpAny_mono O (λa s6 U=>wq0 (wq0 (rfl,U))) J)]
end
theorem cf_cases:∀(l:List (Str×NameKind))(n:Nat)(acc:List (Str×Addr)){x}{c},(cellsFrom n l acc).lookup x=some c->(n<=c/\(x,NameKind.cell)∈l)\/acc.lookup x=some c
 |[],_,_,_,_,h=>.inr h
 |(y,k)::r,n,acc,x,c,h=>by
  unfold cellsFrom at h
  by_cases J:(k==NameKind.cell)=true
  .rw[if_pos J]at h
   rcases cf_cases r _ _ h with z|z
   .grind
   .rw[lk0]at z
    cases e:x==y<;>simp_all
  .rw[if_neg J]at h
   exact (cf_cases r _ _ h).imp (λz=>(z.1,mc0 _ z.2)) id
theorem qI:∀(l:List (Str×NameKind))(n:Nat)(acc:List (Str×Addr))(x:Str),((x,NameKind.cell)∈l\/∃c,acc.lookup x=some c)->∃c,(cellsFrom n l acc).lookup x=some c
 |[],_,_,_,h=>h.elim (λz=>by cases z) id
 |(y,k)::r,n,acc,x,h=>by
  unfold cellsFrom
  by_cases J:(k==NameKind.cell)=true
  .rw[if_pos J]
   refine qI r _ _ x ?_;rcases h with h|⟨c,h⟩
   .rcases mq0 h with e|h<;>simp_all
   .rw[lk0]
    cases x==y<;>exact .inr (_,by first|rfl|exact h)
  .rw[if_neg J]
   refine qI r _ _ x (h.imp (λz=>?_) id)
   grind
theorem wV:∀(l:List (Str×NameKind))(n:Nat)(acc:List (Str×Addr)),(∀x c,acc.lookup x=some c->c<n)->(∀x y c,acc.lookup x=some c->acc.lookup y=some c->x=y)->
  ∀x y c,(cellsFrom n l acc).lookup x=some c->(cellsFrom n l acc).lookup y=some c->x=y
 |[],_,_,_,h=>h
 |(z,k)::r,n,acc,L,h=>by
  unfold cellsFrom
  by_cases M:(k==NameKind.cell)=true
  .rw[if_pos M]
   refine wV r _ _ (λx c e=>?_) λx y c J K=>?_
   .rw[lk0]at e
    cases q:x==z with
    |true=>simp_all
    |false=>rw[q]at e;erw[Nat.lt_succ_of_lt (L x c e)]
   .rw[lk0]at J K
    cases N:x==z<;>cases O:y==z<;>rw[N]at J<;>rw[O]at K
    .erw[h x y c J K]
    .cases K;erw[absurd (L _ _ J) (li0 _)]
    .cases J;erw[absurd (L _ _ K) (li0 _)]
    simp_all
  .rw[if_neg M];erw[wV r _ _ L h]
theorem qK:∀(l:List (Str×NameKind))(h:Heap)(acc:List (Str×Addr)),(∀x c,acc.lookup x=some c->∃v,h.IsCell c v)->∀x c,(cellsFrom h.objs.size l acc).lookup x=some c->∃v,(pushCells h l).IsCell c v
 |[],_,_,h=>h
 |(z,k)::r,h,acc,a=>by
  unfold cellsFrom pushCells
  by_cases J:(k==NameKind.cell)=true
  .rw[if_pos J,if_pos J,<-Heap.size_push]
   refine qK r _ _ λx c e=>?_
   rw[lk0]at e;cases q:x==z with
   |true=>rw[q]at e;cases e;exact(_,_,pz0 _ rfl,rfl)
   |false=>rw[q]at e;obtain⟨v,o,K,L⟩:=a x c e;exact(v,o,ps0 _ K,L)
  .rw[if_neg J,if_neg J];erw[qK r _ _ a]
theorem clOf_mem :∀(l:List (Str×NameKind))(acc:List (Str×Addr)){x}{c},(kn env l acc).lookup x=some c->(x,NameKind.free)∈l\/acc.lookup x=some c
 |[],_,_,_,h=>.inr h
 |(y,k)::r,acc,x,c,h=>by
  unfold kn at h
  by_cases J:(k==NameKind.free)=true
  .rw[if_pos J]at h
   rcases clOf_mem r _ h with z|z
   .exact .inl (mc0 _ z)
   .rw[lk0]at z
    cases e:x==y with
    |true=>rw[beq_iff_eq.mp e,beq_iff_eq.mp J];exact .inl ms0
    |false=>rw[e]at z;exact .inr z
  .rw[if_neg J]at h
   exact (clOf_mem r _ h).imp (mc0 _) id
def nfe{M}{A}{E}{s}{g}{cl}{q}{o}{Q}
  (h:Q {scope,locals:=s.heap.objs.size,globals:=g,cells:=cellsFrom (s.heap.objs.size+1) scope.names cl,qual:=q,func:=none,code:=o.code,frame:=o.frame,builtins:=o.builtins}
   {s with heap:=pushCells (s.heap.push {cls:=.type "dict",data:=.dict #[]}) scope.names}):
  wpAny M A (newFunctionEnv scope g cl [] q none .none (some o)) Q E s:=by
 refine wb0 (wpAny_alloc (wb0 (wpAny_layCells _ (λname kind cells=>rfl) _ _ _ _ ?_)));rw[Heap.size_push ..];erw[wq0 h]
abbrev clB(X:Cx)(scope:Scope)(C:Addr):List (Str×Addr):=cellsFrom (C+1) scope.names (kn X.env scope.names [])
def blk(X:Cx)(scope:Scope)(N:A1)(C:Addr)(s:Shared)(H:Hp)(J:A4):Cx where
 prog:=X.prog
 w:=X.w
 K:=X.K
 mg:=X.mg
 base:=X.base
 A:=X.A
 N:=N
 s₀:=s
 H₀:=H
 env:=compEnvC scope (clB X scope C) C X.env
 outer:=X.stack
 stack:=X.stack
 ex:=J
 fn:=λx=>scope.names.lookup x==some .cell
 calm:=X.calm
 pn:=[]
 xe:=λa a=>False
noncomputable def aA(X:Cx)(tn:A1)(js:List Nat):List Str:=tn++js.map λj=>X.N.getD j Str.empty
noncomputable def gc(tn:A1)(js:List Nat)(σ:St):St:=tn.map (λa=>.none)++js.map λj=>(σ[j]?).join
structure BlkOk(X:Cx)(scope:Scope)(js:List Nat):Prop where
 kind:scope.kind=.function
 free:∀y∈scope.names,y.2=.free->X.env.kindOf y.1=some .cell
 nd:∀y∈scope.names,scope.names.lookup y.1=some y.2
 js:∀j∈js,∃x,X.N[j]?=some x/\scope.names.lookup x=some .free
section
variable {tn:A1}{js:List Nat}{fp:A4}
theorem BlkOk.cells(B:BlkOk X scope js)(I:Inv X Zp σ H s):∀x∈scope.names,x.2=.free->(X.env.cells.lookup x.1).isSome=true:=λx K J=>by
 obtain⟨c,e⟩:=I.ok.has _ (.inl (B.free x K J));rw[e];rfl
def BlkOk.from(B:BlkOk X scope js)(I:Inv X Zp σ H s){x}{c}(e:(kn X.env scope.names []).lookup x=some c):X.env.cells.lookup x=some c:=
 ic _ [] (B.cells I) (λa a z=>by cases z) x c e
def BlkOk.from'(B:BlkOk X scope js)(I:Inv X Zp σ H s){C:Addr}{x}{c}(e:(clB X scope C).lookup x=some c):(C<c/\(x,NameKind.cell)∈scope.names)\/X.env.cells.lookup x=some c:=
 (cf_cases _ _ _ e).imp id (B.from I)
def ya(B:BlkOk X scope js)(I:Inv X Zp σ H s)(O:∀b∈fp,jz X Zp H b)(R:∀b∈fp,∃o,s.heap.get? b=some o){C:Addr}(K:s.heap.objs.size<=C):(blk X scope @7 C s H fp).Ok where
 mod:=I.ok.mod
 kind:=B.kind
 glob:=I.ok.glob
 blt:=I.ok.blt
 above:=K
 inj:=wV _ _ _ (λx c e=>by
  obtain⟨v,q⟩:=I.cell x c (B.from I e);erw[Nat.lt_succ_of_lt (nl0 q.lt K)]) λx y c M N=>I.ok.inj x y c (B.from I M) (B.from I N)
 has:=λx Z=>by
  refine qI scope.names _ _ x (Or.imp id (λz=>gb scope.names [] x (.inl z)) ?_);have hm:=Z.imp ml0 ml0;have L:∀k,(Prod.mk x k)∈(relabel scope X.env).names->k=.cell\/k=.free->(Prod.mk x NameKind.cell)∈scope.names\/(Prod.mk x NameKind.free)∈scope.names:=λk W Y=>by
   obtain⟨⟨n,U⟩,D,e⟩:=mm0 W
   by_cases V:(U==NameKind.free&&X.env.scope.kind==.function&&X.env.kindOf n==some .cell)=true
   .simp_all
   .have F:(Prod.mk n U)=(Prod.mk x k):=by rw[<-e];exact (if_neg V).symm
    grind
  rcases hm with hm|hm
  .erw[L _ hm (.inl rfl)]
  .erw[L _ hm (.inr rfl)]
 cab:=λx c h e=>by
  rcases cf_cases _ _ _ e with z|z
  .erw[nt0 K (Nat.le_of_succ_le z.1)]
  .have q:=B.nd _ ((clOf_mem _ _ z).resolve_right @0)
   rw[eq_of_beq (h:(scope.names.lookup x==some .cell)=true)]at q;cases q
 hd:=I.ok.hd
 frames:=I.ok.frames
 stk:=.inl rfl
 exf:=λb J=>(by
  obtain⟨o,e⟩:=R b J;erw[nn0 (nl0 (hs0 e) K)],λx c e=>by
  rcases B.from' I e with z|z
  .obtain⟨o,q⟩:=R b J
   erw[Nat.ne_of_gt (nl0 (hs0 q) (nt0 K (Nat.le_of_lt z.1)))]
  .exact (O b J).2.2.2.2.1 x c z)
 bs:=I.bs
 bsz:=nt0 I.ok.bsz I.sz
 noex:=λb o e J=>by
  rcases (O b J).2.2.2.1 with z|z
  .erw[I.ok.noex b o e z]
  .erw[absurd (nl0 (hs0 e) (nt0 I.ok.bsz z)) (li0 _)]
 exfs:=λb J z=>by
  obtain⟨_,M,N,_⟩:=O b J;exact (mq0 (I.stkSub b z)).elim M N
 funs:=I.stack
 frf:=I.stkFree
def KC(B:BlkOk X scope js)(I:Inv X Zp σ H s)(L:∀b∈fp,jz X Zp H b)(N:∀b∈fp,∃o,s.heap.get? b=some o){C:Addr}(K:s.heap.objs.size<=C){H'}(M:∀b∈fp,H' b=none):
  ∀b∈fp,jz (blk X scope @7 C s H fp) [] H' b:=λb J=>by
 have ok:=ya (tn:=tn) B I L N K;exact(M b J,(ok.exf b J).1,ok.exfs b J,.inl J,(ok.exf b J).2,λp O=>absurd (show p∈[] from O) @0)
def BV(B:BlkOk X scope js)(I:Inv X Zp σ H s)(d:∀b∈fp,jz X Zp H b)(ho:∀b∈fp,∃o,s.heap.get? b=some o){C D:Addr}(R:s.heap.objs.size<=D)(W:s.heap.objs.size<=C)(Y:C≠D){M}{tk}
  (k:∀b o,s.heap.get? b=some o->M.get? b=some o) (h:M.get? D=some {cls:=.type "list",data:=.seq (#[]:A9) 0}) {m} (G:M.Ns C m) (Q:∀x c,(clB X scope C).lookup x=some c->∃v,M.IsCell c v) (Z:D<C):
  Inv (blk X scope @7 C s H fp) [] (gc tn js σ) (upd H D (.lst [])) {s with heap:=M,toks:=tk}:=by
 have F:=I.hok.fresh R;refine(ya B I d ho W,rfl,I.bare,Un.laid k R F,(m,G,λi x v L J e3=>?_),λx c e=>?_,?_,λx c e=>?_,λp hp=>absurd (show p∈([]:A5)from hp) @0,I.hok.laid k R (by simp,[],0,.nil,by simpa using h),?_)
 .have L:(aA X tn js)[i]?=some x:=L
  by_cases a:i<tn.length
  .unfold gc at J
   rw[gl0 (by simpa using a),gm0]at J;cases q:tn[i]? with
   |none=>rw[q]at J;cases J
   |some y=>rw[q]at J;cases J
  .unfold gc at J
   unfold aA at L;rw[List.getElem?_append_right (by simp;simp_all),gm0]at J;rw[List.getElem?_append_right @6,gm0]at L;rw[lm0]at J;cases q:js[i-tn.length]? with
   |none=>rw[q]at J;cases J
   |some j=>
    rw[q]at L J;have J:(σ[j]?).join=some v:=Option.some.inj J;obtain⟨y,g,K⟩:=B.js j (mg0 q);have L:X.N.getD j Str.empty=x:=Option.some.inj L;have l:y=x:=by rw[<-L,List.getD_eq_getElem?_getD,g];rfl
    subst l;have U:σ[j]?=some (some v):=by
     cases r:σ[j]? with
     |none=>rw[r]at J;cases J
     |some o=>rw[r]at J;cases o with
      |none=>cases J
      |some v'=>cases J;rfl
    have S:=B.free _ (ml0 K) rfl;obtain⟨m0,_,P⟩:=I.loc;obtain⟨u,r,lk⟩:=P j y v g U (.inr (.inl S));refine(u,r,?_);rcases lk with⟨z,_⟩|⟨_,c,t,z⟩
    .rw[S]at z;cases z
    .obtain⟨E,O⟩:=qI scope.names (C+1) _ y (.inr (gb (env:=X.env) scope.names [] y (.inl (ml0 K))))
     have:E=c:=by
      rcases B.from' I O with z|z
      .have:=B.nd _ z.2;rw[K]at this;cases this
      .rw[t]at z;exact (Option.some.inj z).symm
     subst this;refine .inr (.inl (aY I.ok.kind K S),E,O,?_);obtain⟨o,V,A⟩:=z;exact(o,k _ _ V,A)
 .erw[Q x c e]
 .show upd H D (.lst []) C=none
  rw[ab Y];erw[I.hok.fresh W]
 .show upd H D (.lst []) c=none
  rcases B.from' I e with z|e'
  .rw[ab (Nat.ne_of_gt (Nat.lt_trans Z z.1))]
   erw[I.hok.fresh (nt0 W (Nat.le_of_lt z.1))]
  .obtain⟨v,o,V,A⟩:=I.cell x c e'
   rw[ab (nn0 (nl0 (hs0 V) R))];erw[I.freeC x c e']
 .show (gc tn js σ).length=(aA X tn js).length
  unfold gc aA;simp
def HE{C:Addr}{M:St}{H'}{s'}{N}{pl}(I:Inv X Zp σ H s)(L:∀b∈fp,jz X Zp H b)(J:Inv (blk X scope N C s H fp) pl M H' s'):Inv X Zp σ H' s':=
 I.call' J.os J.base J.hok J.bare λb K=>((L b K).2.2.2.1,(L b K).2.1,(L b K).2.2.2.2.1,(L b K).2.2.2.2.2)
end
def PCs(X:Cx)(ifs:A3)(t:TT):Prop:=
 ∀(Zp:A5)(s:Shared)(σ:St)(H:Hp)(Q:Bool->Hp->Prop),Inv X Zp σ H s->t σ H Q->wpAny @4 X.A (nE ifs X.env) (TP X Zp σ Q) X.xe s
def pcs_nil{X}:PCs X [] (λa H Q=>Q true H):=λa a a H a I h=>wpAny_tests_nil (H,I,h)
def Eu(tn:A1)(js:List Nat)(F:TI)(g:TG)(tc:TT)(te:TE):TE:=λσ H Q=>F σ H λJ R=>∀p,R p=none->∃W:Nat->Nat->St->Hp->Prop,(∃m,W 0 m (gc tn js σ) (upd R p (.lst [])))/\∀i m N L,W i m N L->
 (J.stop i L/\Q (.ref p) L)\/(J.go i L/\∀x U,J.yld i L x U->g x N U λK Z=>tc K Z λb V=>
  if b=true then te K V λy Y=>∃O,Y p=some (.lst O)/\O.length<sizeLine/\∃M,M<m/\W (i+1) M K (upd Y p (.lst (O++[y])))else ∃M,M<m/\W (i+1) M K V)
section
variable {elt iter tg:Expr}{ifs:A3}{tn:A1}{js:List Nat}{wi:TI}{g:TG}{tc:TT}{te:TE}
def qm{s2:Shared}{E:A0}{RR:Value->Addr->Result->Shared->Prop}{Q:VK}{j4:Value}(B:BlkOk X scope js)(V:X.calm=true)
  (hg:∀C s H M,PG (blk X scope @7 C s H M) tg g) (hc:∀C s H M,PCs (blk X scope @7 C s H M) ifs tc) (he:∀C s H M,PE (blk X scope @7 C s H M) elt te)
  (h2:PIE X Zp σ tg (λJ H1=>∀p,H1 p=none->∃W:Nat->Nat->St->Hp->Prop,(∃m,W 0 m (gc tn js σ) (upd H1 p (.lst [])))/\∀i m N L,W i m N L->
   (J.stop i L/\Q (.ref p) L)\/(J.go i L/\∀x U,J.yld i L x U->g x N U λF h=>tc F h λb H4=>
    if b=true then te F H4 λy H5=>∃ys,H5 p=some (.lst ys)/\ys.length<sizeLine/\∃O,O<m/\W (i+1) O F (upd H5 p (.lst (ys++[y])))else ∃O,O<m/\W (i+1) O F H4)) j4 s2)
  (fin:∀(C D:Addr)(s':Shared)(L:Hp)(m:A6),Inv X Zp σ L s'->s2.heap.objs.size<=C->C≠X.env.locals->(∀x c,X.env.cells.lookup x=some c->c≠C)->(∀p∈X.pn++Zp,p.1≠C)->X.s₀.heap.objs.size<=C->L C=none->s'.heap.Ns C m->
   Q (.ref D) L->RR (.ref D) C (.ok .next) s'):
  wpAny @4 X.A (newList []) (λacc s3=>wpAny @4 X.A (newFunctionEnv scope X.env.globals (kn X.env scope.names []) [] X.env.qual none .none (some X.env)) (λI s4=>
   codeAny @4 X.A (.compStart (.ListComp elt [(tg,iter,ifs,0)] scope pos) 0 j4 acc {I with scope:=relabel scope X.env}) (RR acc I.locals) s4) E s3) E s2:=by
 obtain⟨it,M,t,J,U,e,Y,T,j6,f2,R⟩:=h2;subst e;refine wpAny_newObj_type (nfe ?_);dsimp only;generalize hP:s2.heap.push {cls:=.type "list",dict:=none,data:=.seq ([]:A2).toArray}=P2;have hC:P2.objs.size=s2.heap.objs.size+1:=by rw[<-hP,Heap.size_push]
 have K:s2.heap.objs.size<=P2.objs.size:=by simp_all
 have z2:P2.objs.size≠s2.heap.objs.size:=by simp_all
 have kp:∀b o,P2.get? b=some o->(pushCells (P2.push {cls:=.type "dict",data:=.dict #[]}) scope.names).get? b=some o:=λb o e=>pushCells_keeps _ _ b o (ps0 _ e)
 have j3:(pushCells (P2.push {cls:=.type "dict",data:=.dict #[]}) scope.names).Ns P2.objs.size λa=>none:=(Heap.Ns.new P2 (.type "dict")).keeps (pushCells_keeps _ _)
 have j2:∀x c,(clB X scope P2.objs.size).lookup x=some c->∃v,(pushCells (P2.push {cls:=.type "dict",data:=.dict #[]}) scope.names).IsCell c v:=by
  have:=qK scope.names (P2.push {cls:=.type "dict",data:=.dict #[]}) (kn X.env scope.names []) λx c e=>by
   obtain⟨v,o,q,d⟩:=Y.cell x c (B.from Y e);exact(v,o,ps0 _ (hP▸ps0 _ q),d)
  rwa [Heap.size_push]at this
 generalize pushCells (P2.push {cls:=.type "dict",data:=.dict #[]}) scope.names=h1 at kp j3 j2 ⊢;have j5:∀b o,s2.heap.get? b=some o->h1.get? b=some o:=λb o e=>kp b o (hP▸ps0 _ e)
 have j1:h1.get? s2.heap.objs.size=some {cls:=.type "list",data:=.seq (#[]:A9) 0}:=kp _ _ (hP▸pz0 _ rfl);have ho:∀b∈M,∃o,s2.heap.get? b=some o:=λb Z=>let ⟨o,e,_⟩:=T.obj 0 _ j6 b Z;(o,e)
 have z3:U s2.heap.objs.size=none:=Y.hok.fresh (nr0 _);obtain⟨W,⟨m0,w0⟩,turn⟩:=R _ z3;have I4:=BV (tn:=tn) (tk:=s2.toks) B Y f2 ho (nr0 _) K z2 j5 j1 j3 j2 (by rw[hC];erw[Nat.lt_succ_self _]);have l:∀{L:Hp},(∀b∈M,L b=none)->∀b∈M,jz (blk X scope @7 P2.objs.size s2 U M) [] L b:=λhn=>KC (tn:=tn) B Y f2 ho K hn
 have j8:t 0 h1:=T.keep _ _ _ j6 λb Z o e=>j5 b o e
 have z0:∀b∈M,upd U s2.heap.objs.size (.lst []) b=none:=λb Z=>by
  obtain⟨o,e⟩:=ho b Z;rw[ab (nn0 (hs0 e))];exact (f2 b Z).1
 have loop:∀s3:Shared,s3={s2 with heap:=h1}->
   codeAny @4 X.A (.compLoop (.ListComp elt [(tg,iter,ifs,0)] scope pos) 0 (.ref it) (.ref s2.heap.objs.size) (compEnvC scope (clB X scope P2.objs.size) P2.objs.size X.env)) (RR (.ref s2.heap.objs.size) P2.objs.size) s3:=by
  rintro s3 rfl
  refine pE (λn s'=>∃i N L,Inv (blk X scope @7 P2.objs.size s2 U M) [] N L s'/\t i s'.heap/\(∀b∈M,L b=none)/\W i n N L) ?_ m0 (0,_,_,I4,j8,z0,w0)
  rintro n s3 ⟨i,S,h,I3,j7,j0,w3⟩
  rcases turn i n S h w3 with⟨stop,qn⟩|⟨go,step⟩
  .refine thn (T.done (blk X scope @7 P2.objs.size s2 U M) rfl rfl rfl V i [] s3 S h _ I3 (l j0) j7 stop) ?_;rintro r s4 ⟨hr,j⟩
   subst hr;obtain⟨m,hm,_⟩:=j.loc;refine fin _ _ s4 h m (HE Y f2 j) K (Nat.ne_of_gt (nl0 Y.lt K)) (λx c e=>?_) (λp hp z=>?_) (nt0 Y.sz K) j.free hm qn
   .obtain⟨v,q⟩:=Y.cell x c e
    erw[nn0 (nl0 q.lt K)]
   .erw[absurd (nl0 (hs0 (Y.pin p hp).1) (by rw[z];exact K)) (li0 _)]
  .refine thn (T.item (blk X scope @7 P2.objs.size s2 U M) rfl rfl rfl V i [] s3 S h _ I3 (l j0) j7 go) ?_;rintro r s4 ⟨u,hr,h4⟩
   subst hr;refine thn h4 ?_;rintro _ s5 ⟨x,H5,I5,r5,y5,k,z1⟩;have j9:=I5.pinned (l z1) (T.obj _ _ k);refine thn (hg _ _ _ _ _ s5 S H5 x u _ j9 r5 (step x H5 y5)) ?_;rintro _ s6 ⟨P,H6,I6,q6⟩;have again:∀{s7:Shared}{G:St}{H7:Hp},Inv (blk X scope @7 P2.objs.size s2 U M) ([]++jA M s5.heap) G H7 s7->(∃O,O<n/\W (i+1) O G H7)->
     ∃m,m<n/\∃i N L,Inv (blk X scope @7 P2.objs.size s2 U M) [] N L s7/\t i s7.heap/\(∀b∈M,L b=none)/\W i m N L:=λ{s7 G H7} I7 ⟨O,hm,w7⟩=>by
    refine(O,hm,i+1,G,H7,I7.unpinned,T.keep _ _ _ k λb Z o e=>(I7.pin (b,o) (mr0 _ (mr0 _ (dz Z e)))).1,λb Z=>?_,w7);obtain⟨o,e,d⟩:=T.obj _ _ k b Z;exact (I7.pin (b,o) (mr0 _ (mr0 _ (dz Z e)))).2.1
   refine thn (hc _ _ _ _ _ s6 P H6 _ I6 q6) ?_;rintro ok s7 ⟨H7,I7,q7⟩;cases ok with
   |false=>
    rw[if_neg fx0]at q7 ⊢;erw[again I7 q7]
   |true=>
    rw[if_pos rfl]at q7 ⊢;refine thn (he _ _ _ _ _ s7 P H7 _ I7 q7) ?_;rintro xv s8 ⟨y,H8,I8,r8,ys,hp,hz,q8⟩;refine thn (hX _ s8 P H8 (.ref s2.heap.objs.size) [y] _ [xv] (λa L=>∃O,O<n/\W (i+1) O P L) I8 rfl (.cons r8 .nil) (_,ys,y,rfl,rfl,hp,hz,q8)) ?_;rintro _ s9 ⟨_,H9,I9,_,q9⟩;erw[again I9 q9]
 erw[codeAny_compStart_list (loop _ rfl) (T.self _ 0 _ _ _ j8 (loop _ rfl))]
def nF(B:BlkOk X scope js)(J:X.calm=true)(P:PI X tg iter wi)(S:∀C s H K,PG (blk X scope @7 C s H K) tg g)(hc:∀C s H K,PCs (blk X scope @7 C s H K) ifs tc)
  (F:∀C s H K,PE (blk X scope @7 C s H K) elt te) (hs:∀x,foldedSetIterable iter X.env x=pure x):PE X (.ListComp elt [(tg,iter,ifs,0)] scope pos) (Eu tn js wi g tc te):=λpins s σ H Q I h=>wpAny_comprehension_free rfl hs (fv (B.cells I)) B.kind (λy E e=>(B.nd y E).trans (by rw[e])) (thn (P _ s σ H _ I h) λv u M=>thn M λA l L=>qm B J S hc F L λC D z N m O M L U V W Y G q=>(m,G,λR j=>(.ref D,N,O.turned (λb o Z e=>(j.2 b Z).trans e) Y L (.inr W) U V,rfl,q)))
def ud{i}{y}{py spos}(B:BlkOk X scope js)(J:X.calm=true)(hi:PI X tg iter wi)(d:∀C s H L,PG (blk X scope @7 C s H L) tg g)(hc:∀C s H L,PCs (blk X scope @7 C s H L) ifs tc)
  (p:∀C s H L,PE (blk X scope @7 C s H L) elt te) (t:X.N.Nodup) (Y:X.N[i]?=some y) (R:X.env.scope.names.lookup y=some .local)
  (Z:swapsWith (.ListComp elt [(tg,iter,ifs,0)] scope pos) (some (.Name y py)) spos.line X.env=pure true) (hs:∀x,foldedSetIterable iter X.env x=pure x):
  PS X (.Assign [.Name y py] (.ListComp elt [(tg,iter,ifs,0)] scope pos) spos) (λF σ H=>Eu tn js wi g tc te σ H λv K=>F.nx (σ.set i (some v)) K):=by
 intro Zp s σ H F I h;rw[exec_Assign_Name_used _ _ _ _ Z];refine wb0 (wpAny_standAt (wb0 ?_));refine wb0 (wpAny_mono (wpAny_comprehension_free (use:=some (assign (.Name y py) X.env)) (Q:=λc S=>SP X Zp F .next S) rfl hs (fv (B.cells I)) B.kind (λy R e=>(B.nd y R).trans (by rw[e]))
  (thn (hi Zp s σ H _ I h) λv s1 G=>thn G λj0 s2 O=>?_)) (λc S hq=>wq0 (wq0 hq)) λc c e=>e)
 refine qm (Q:=λv K=>F.nx (σ.set i (some v)) K) B J d hc p O ?_;intro C D S K m A G O E u l k hm q;refine wpAny_assign_Name (store_ok2 (v:=.ref D) A t Y (.inl R) rfl (λP U W=>?_) (.inr R));obtain⟨a,sb,r⟩:=W;have V:C≠a:=by
  rcases r with z|z
  .rw[z];erw[O]
  .exact (E _ _ z).symm
 refine(m,hm.sameBut sb V,λj M=>?_);exact(_,K,U.turned (t':=P.toks) (λb o W e=>(M.2 b W).trans e) k O (.inr l) E u,q)
end
end L2.C
namespace K41
open PySem L2
noncomputable abbrev cV:Nat:=153
noncomputable def top(i:Nat):Stmt:=PySem.Challenge.pw_strata_k41_whole_files_apart.main.body.getD i (.Pass (0,0,0,0))
def met(j:Nat):Stmt:=match top 13 with|.ClassDef _ _ _ b ..=>b.getD j (.Pass (0,0,0,0))|_=>.Pass (0,0,0,0)
noncomputable abbrev m0:Value:=.str "strata.names" 194
noncomputable abbrev m1:Value:=.str "strata.vaults" 293
noncomputable abbrev m2:Value:=.str "strata.lines" 426
noncomputable abbrev m3:Value:=.str "strata.texts" 467
noncomputable abbrev m4:Value:=.str "strata.merging" 540
noncomputable abbrev m5:Value:=.str "strata.walking" 612
noncomputable abbrev m6:Value:=.str "law_strata_k41_whole_files_apart" 644
abbrev fo(n q:Str)(st:Stmt)(K:Value)(J:Addr):Obj:=(.type "function",none,.func (PySem.W.fnOf n q (defArgs st) (defBody st) @9 .none .none .none K none (.ref J) .none),#[])
noncomputable def kE(P:Params)(k:Str)(t:Nat)(v:Value):DictEntry:=(PyData.keyHash P k,.str k t,v)
noncomputable def dO(n:Nat)(es:List DictEntry):Obj:=(.type "dict",none,.dict es.toArray n,#[])
noncomputable def cO(n:Str)(J mro:A2)(ns:Addr)(subs:A2)(sl:List (Option Value)):Obj:=(.type "type",none,.cls {name:=n,bases:=J,mro:=mro,ns:=ns,qualname:=n,subclasses:=subs},sl.toArray)
noncomputable def kO(n q:Str)(t l p e J:Nat)(w:Bool):Obj:=(.type "code",none,.fields #[.str n t,.str q (t+1),.str "/claim/cut.py" (t+2),.int l 0,.int p 0,.int 0 0,.int 0 0,.int 3 0,.ref (J-(if w then 5 else 3)),.bool true,.int 181 0,.ref (J-(if w then 4 else 2)),.none,if w then .ref (J-3)else .none,if w then .ref (J-2)else .none,.ref (J-1),.int (t+e-1:Nat) 0,.int l 0,.str "/claim/cut.py" (t+e)],#[])
def kf(x:Str)(i:Nat)(K:Value)(J t l p e:Nat)(w:Bool)(r:fg0):fg0:=(J,kO x x t l p e J w)::(J+1,fo x x (top i) K J)::r
def kk(P:Params):fg0:=(3,dO 70 [kE P "__name__" 165 (.str "law_strata_k41_whole_files_apart" 644),kE P "__doc__" 166 (.none),kE P "__package__" 167 (.none),kE P "__loader__" 168 (.builtin "__main__.__loader__#opaque"),kE P "__spec__" 169 (.none),kE P "__annotations__" 170 (.ref 6),kE P "__builtins__" 171 (.ref 4),kE P "__file__" 173 (.str "/claim/cut.py" 172),kE P "__cached__" 174 (.none),kE P "_wall" 193 (.ref 21),kE P "LONGEST_NAME" 197 (.int 12 196),kE P "is_name_sign" 204 (.ref 28),kE P "is_name" 210 (.ref 33),kE P "names_rise" 216 (.ref 38),kE P "joined" 224 (.ref 45),kE P "StrataError" 244 (.ref 55),kE P "NoObject" 260 (.ref 68),kE P "BadTree" 276 (.ref 80),kE P "NoPath" 292 (.ref 92),kE P "Vault" 371 (.ref 153),kE P "blob" 379 (.ref 164),kE P "tree" 385 (.ref 169),kE P "text_of" 393 (.ref 176),kE P "entries_of" 401 (.ref 183),kE P "entries_by_name" 409 (.ref 190),kE P "refuse_wrong_names" 417 (.ref 197),kE P "refuse_what_is_no_tree" 425 (.ref 204),kE P "lines_of" 433 (.ref 209),kE P "paired" 445 (.ref 216),kE P "common_counts" 455 (.ref 223),kE P "count_row" 466 (.ref 230),kE P "OURS_MARK" 470 (.str "<<<<<<<\n" 469),kE P "MIDDLE_MARK" 472 (.str "=======\n" 471),kE P "THEIRS_MARK" 474 (.str ">>>>>>>\n" 473),kE P "merged_text" 488 (.ref 237),kE P "parts_of" 494 (.ref 242),kE P "fixed_places" 500 (.ref 247),kE P "cut" 506 (.ref 252),kE P "both_changed" 515 (.ref 259),kE P "changed_side" 524 (.ref 266),kE P "settled" 533 (.ref 273),kE P "closed" 539 (.ref 278),kE P "merged_trees" 551 (.ref 285),kE P "merged_by_names" 570 (.ref 292),kE P "merged_entry" 582 (.ref 299),kE P "none_if_empty" 590 (.ref 306),kE P "merged_blobs" 603 (.ref 313),kE P "kind_of" 611 (.ref 320),kE P "MOST_NAMES" 615 (.int 20 614),kE P "files" 624 (.ref 327),kE P "names_of" 630 (.ref 332),kE P "blobs_below" 643 (.ref 339),kE P "_law_cell" 653 (.ref 346),kE P "_law_mix" 662 (.ref 353),kE P "_law_whole" 669 (.ref 360),kE P "_law_sign" 678 (.ref 367),kE P "_law_line" 687 (.ref 374),kE P "_law_ends" 693 (.ref 379),kE P "_law_row" 699 (.ref 384),kE P "_law_edited" 714 (.ref 391),kE P "_law_lines" 720 (.ref 396),kE P "_law_most" 726 (.ref 401),kE P "_law_walk" 738 (.ref 408),kE P "_law_part" 751 (.ref 415),kE P "_law_both" 757 (.ref 420),kE P "_law_text" 766 (.ref 427),kE P "_law_three" 772 (.ref 432),kE P "_law_folder_of" 778 (.ref 437),kE P "_law_one" 791 (.ref 444),kE P "law" 797 (.ref 449)])::
 (kf "is_name_sign" 3 m0 27 198 6 1 5 true<|
 kf "is_name" 4 m0 32 205 10 1 4 false<|
 kf "names_rise" 5 m0 37 211 16 1 4 false<|
 kf "joined" 6 m0 44 217 18 2 6 true<|
 (107,kO "__init__" "Vault.__init__" 307 32 1 5 107 true)::
 ((108,fo "__init__" "Vault.__init__" (met 0) m1 107)::
 ((121,kO "kind" "Vault.kind" 321 39 2 6 121 true)::
 ((122,fo "kind" "Vault.kind" (met 2) m1 121)::
 ((128,kO "held" "Vault.held" 329 42 2 6 128 true)::
 ((129,fo "held" "Vault.held" (met 3) m1 128)::
 ((135,kO "content" "Vault.content" 337 47 3 8 135 true)::
 ((136,fo "content" "Vault.content" (met 4) m1 135)::
 ((142,kO "put" "Vault.put" 347 53 2 6 142 true)::
 ((143,fo "put" "Vault.put" (met 5) m1 142)::
 ((152,dO 4 [kE P "__module__" 302 (.str "strata.vaults" 293),kE P "__firstlineno__" 306 (.int 30 305),kE P "__init__" 313 (.ref 108),kE P "size" 320 (.ref 115),kE P "kind" 328 (.ref 122),kE P "held" 336 (.ref 129),kE P "content" 346 (.ref 136),kE P "put" 354 (.ref 143),kE P "copied" 361 (.ref 150),kE P "__static_attributes__" 364 (.ref 151),kE P "__dict__" 366 (.ref 154),kE P "__weakref__" 368 (.ref 155),kE P "__doc__" 369 (.none)])::
 ((153,cO "Vault" [.type "object"] [.ref 153,.type "object"] 152 [] [none,none,some (.str "Vault" 295),some (.str "Vault" 303),some (.builtin "object.__new__"),some (.bool true)])::
 (kf "blob" 14 m1 163 372 61 2 6 true<|
 kf "tree" 15 m1 168 380 63 2 4 false<|
 kf "text_of" 16 m1 175 386 69 2 6 true<|
 kf "entries_of" 17 m1 182 394 71 2 6 true<|
 kf "entries_by_name" 18 m1 189 402 73 2 6 true<|
 kf "refuse_wrong_names" 19 m1 196 410 77 1 6 true<|
 kf "refuse_what_is_no_tree" 20 m1 203 418 83 2 6 true<|
 kf "lines_of" 22 m2 208 428 86 1 4 false<|
 kf "paired" 23 m2 215 434 93 2 10 true<|
 kf "common_counts" 24 m2 222 446 108 2 8 true<|
 kf "count_row" 25 m2 229 456 114 3 9 true<|
 kf "merged_text" 30 m3 236 475 126 3 12 true<|
 kf "parts_of" 31 m3 241 489 134 1 4 false<|
 kf "fixed_places" 32 m3 246 495 144 3 4 false<|
 kf "cut" 33 m3 251 501 147 3 4 false<|
 kf "both_changed" 34 m3 258 507 149 3 7 true<|
 kf "changed_side" 35 m3 265 516 151 3 7 true<|
 kf "settled" 36 m3 272 525 153 3 7 true<|
 kf "closed" 37 m3 277 534 157 1 4 false<|
 kf "merged_trees" 39 m4 284 542 160 4 8 true<|
 kf "merged_by_names" 40 m4 291 552 166 5 17 true<|
 kf "merged_entry" 41 m4 298 571 179 5 10 true<|
 kf "none_if_empty" 42 m4 305 583 188 2 6 true<|
 kf "merged_blobs" 43 m4 312 591 190 5 11 true<|
 kf "kind_of" 44 m4 319 604 194 2 6 true<|
 kf "files" 47 m5 326 616 198 3 7 true<|
 kf "names_of" 48 m5 331 625 201 1 4 false<|
 kf "blobs_below" 49 m5 338 631 208 3 11 true<|
 kf "_law_cell" 51 m6 345 646 218 2 6 true<|
 kf "_law_mix" 52 m6 352 654 222 2 7 true<|
 kf "_law_whole" 53 m6 359 663 226 1 5 true<|
 kf "_law_sign" 54 m6 366 670 228 1 7 true<|
 kf "_law_line" 55 m6 373 679 232 2 7 true<|
 kf "_law_ends" 56 m6 378 688 237 2 4 false<|
 kf "_law_row" 57 m6 383 694 242 3 4 false<|
 kf "_law_edited" 58 m6 390 700 244 3 13 true<|
 kf "_law_lines" 59 m6 395 715 253 1 4 false<|
 kf "_law_most" 60 m6 400 721 258 2 4 false<|
 kf "_law_walk" 61 m6 407 727 265 2 10 true<|
 kf "_law_part" 62 m6 414 739 280 3 11 true<|
 kf "_law_both" 63 m6 419 752 290 3 4 false<|
 kf "_law_text" 64 m6 426 758 302 2 7 true<|
 kf "_law_three" 65 m6 431 767 305 3 4 false<|
 kf "_law_folder_of" 66 m6 436 773 319 3 4 false<|
 kf "_law_one" 67 m6 443 779 330 3 11 true<|
 kf "law" 68 m6 448 792 344 1 4 false<|
 [])))))))))))))
noncomputable def ads:List Addr:=[3,27,28,32,33,37,38,44,45,107,108,121,122,128,129,135,136,142,143,152,153,163,164,168,169,175,176,182,183,189,190,196,197,203,204,208,209,215,216,222,223,229,230,236,237,241,242,246,247,251,252,258,259,265,266,272,273,277,278,284,285,291,292,298,299,305,306,312,313,319,320,326,327,331,332,338,339,345,346,352,353,359,360,366,367,373,374,378,379,383,384,390,391,395,396,400,401,407,408,414,415,419,420,426,427,431,432,436,437,443,444,448,449]
noncomputable def lo:List Str:=(["_wall","LONGEST_NAME","is_name_sign","is_name","names_rise","joined","StrataError","NoObject","BadTree","NoPath","Vault","blob","tree","text_of","entries_of","entries_by_name","refuse_wrong_names","refuse_what_is_no_tree","lines_of","paired"]:A1)++(["common_counts","count_row","OURS_MARK","MIDDLE_MARK","THEIRS_MARK","merged_text","parts_of","fixed_places","cut","both_changed","changed_side","settled","closed","merged_trees","merged_by_names","merged_entry","none_if_empty","merged_blobs","kind_of","MOST_NAMES"]:A1)++(["files","names_of","blobs_below","_law_cell","_law_mix","_law_whole","_law_sign","_law_line","_law_ends","_law_row","_law_edited","_law_lines","_law_most","_law_walk","_law_part","_law_both","_law_text","_law_three","_law_folder_of","_law_one"]:A1)
noncomputable def posOf:Stmt->Pos
 |.FunctionDef _ _ _ _ _ _ _ _ _ p=>p
 |_=>(0,0,0,0)
def FX:DefRec:=("law",defArgs (top 68),defBody (top 68),defScope (top 68),posOf (top 68))
def vw:Program:={PySem.Challenge.pw_strata_k41_whole_files_apart with main:={PySem.Challenge.pw_strata_k41_whole_files_apart.main with body:=[top 68]}}
open PySem.W PySem.W.X in
theorem hl:LeftO PySem.Challenge.pw_strata_k41_whole_files_apart vw lo (λs=>xlAt vw [] s&&recOk (RowW.records (OpenRow.toRowW PySem.Challenge.rw_strata_k41_whole_files_apart.row)) s) (obsZ ads) (valZ kk 450 798) 5898:=by intro w;kernel_rfl
end K41
namespace SI
open PySem
inductive D where
 |none
 |bool (b:Bool)
 |int (i:Int)
 |str (x:Str)
 |tuple (ds:List D)
 |list (ds:List D)
 |scr (ns:List Int)
 |vlt (C h:Nat) (objs:List D)
 |tbl (rows:List (List D))
 |fdc (kvs:List (Sum Int Str×D))
noncomputable instance:DecidableEq D:=λa a=>Classical.propDecidable _
inductive Sl where
 |no
 |dat (d:D)
 |lent (d:D)
 |own (d:D)
 |io (d:D)
 |fr
inductive Op2 where|add|sub|mul|mod|fdiv
inductive Cop where|lt|le|gt|ge|eq|ne|isin|notin|isN|notN
inductive Bf where|len|int|tuple|all|max
inductive Mf where|split|join|ends|rstr
inductive Tg where
 |one (i:Nat)
 |tup (is:List Nat)
inductive Md where|val|read|test|walk
noncomputable def big:Nat:=16777216
noncomputable def ixN(n:Nat)(i:Int):Option Nat:=if 0<=i then (if i<n then some i.toNat else none)else if -(n:Int)<=i then some (i+n).toNat else none
def atI{α:Type}(xs:List α)(i:Int):Option α:=(ixN xs.length i).bind λj=>xs[j]?
noncomputable def sIx(n d:Nat):Option Int->Nat
 |none=>d
 |some v=>if v<0 then (v+(n:Int)).toNat else min v.toNat n
def cut{α:Type}(xs:List α)(lo J:Option Int):List α:=(xs.drop (sIx xs.length 0 lo)).take (sIx xs.length xs.length J-sIx xs.length 0 lo)
noncomputable def okS:Nat->D->Bool
 |_,.none=>true
 |_,.int _=>true
 |_,.str _=>true
 |n+1,.tuple J=>J.all (okS n)
 |n+1,.list J=>J.all (okS n)
 |_,_=>false
noncomputable def pF:D->Option Bool
 |.bool b=>some b
 |.list J=>some (!J.isEmpty)
 |.scr K=>some (!K.isEmpty)
 |_=>none
noncomputable def asB:D->Option Bool
 |.bool b=>some b
 |_=>none
noncomputable def asI:D->Option Int
 |.int i=>some i
 |_=>none
def fin:Md->Option D->Option D
 |.test,d=>d.bind λd=>(pF d).map .bool
 |_,d=>d
noncomputable def bm:Md->Md
 |.test=>.test
 |_=>.val
noncomputable def noT:Md->Option D->Option D
 |.test,_=>none
 |_,d=>d
noncomputable def rOk(n:Int):Bool:=decide (-(2 ^ 62)<=n)&&decide (n<2 ^ 62)
def pG(n:Nat)(j:Int):Bool:=decide (-(2 ^ 63)<=j)&&decide (j<2 ^ 63)&&decide (n*j.toNat<=big)
noncomputable def rQ(i j:Int):Bool:=(decide (-(2 ^ 64)<i)&&decide (i<2 ^ 64))||(decide (-(2 ^ 64)<j)&&decide (j<2 ^ 64))
def nG{n}(J:-1000000<=n)(K:n<=1000000):rOk n=true:=by
 unfold rOk;grind
def pH{n}{j}(J:-1000000<=j)(K:j<=1000000)(L:n*j.toNat<=big):pG n j=true:=by
 unfold pG;grind
def opD:Op2->D->D->Option D
 |.add,.int i,.int j=>some (.int (i+j))
 |.add,.str x,.str y=>if x.length+y.length<=big then some (.str (x++y))else none
 |.add,.list a,.list b=>if a.length+b.length<=big then some (.list (a++b))else none
 |.sub,.int i,.int j=>some (.int (i-j))
 |.mul,.int i,.int j=>if rQ i j then some (.int (i*j))else none
 |.mul,.list a,.int j=>if pG a.length j then some (.list (List.replicate j.toNat a).flatten)else none
 |.mul,.str x,.int j=>if -1000<=j/\j<=1000/\x.length<=1000 then some (.str ⟨((List.replicate j.toNat x.cps.toList).flatten).toArray⟩)else none
 |.mod,.int i,.int j=>if 0<j then some (.int (i % j))else none
 |.fdiv,.int i,.int j=>if 0<j/\j<1073741824 then some (.int (i / j))else none
 |_,_,_=>none
noncomputable def pI:D->Option (Sum Int Str)
 |.int i=>some (.inl i)
 |.str x=>some (.inr x)
 |_=>none
noncomputable def look{α:Type}:List (Sum Int Str×α)->Sum Int Str->Option α
 |[],_=>none
 |(l,d)::r,k=>if l=k then some d else look r k
noncomputable def put{α:Type}:List (Sum Int Str×α)->Sum Int Str->α->List (Sum Int Str×α)
 |[],k,v=>[(k,v)]
 |(l,d)::r,k,v=>if l=k then (l,v)::r else (l,d)::put r k v
@[simp] def getD:D->D->Option D
 |.fdc J,k=>(pI k).map λk=>(look J k).getD .none
 |_,_=>none
def eqD(a b:D):Option Bool:=
 if okS 20 a&&okS 20 b then some (decide (a=b))else none
noncomputable def hasSub(x y:Str):Bool:=!(Builtin.Str.occurrences y x 0 y.length 1).isEmpty
def inD(a b:D):Option Bool:=
 match b with
 |.str y=>match a with
  |.str x=>some (hasSub x y)
  |_=>none
 |.tuple J=>if okS 20 a&&J.all (okS 19)then some (J.any λd=>decide (d=a))else none
 |.list J=>if okS 20 a&&J.all (okS 19)then some (J.any λd=>decide (d=a))else none
 |.fdc K=>(pI a).map λk=>(look K k).isSome
 |_=>none
def dA:Cop->D->D->Option Bool
 |.lt,.int i,.int j=>some (decide (i<j))
 |.le,.int i,.int j=>some (decide (i<=j))
 |.gt,.int i,.int j=>some (decide (j<i))
 |.ge,.int i,.int j=>some (decide (j<=i))
 |.lt,.str x,.str y=>some (decide (x.cps.toList<y.cps.toList))
 |.le,.str x,.str y=>some (!decide (y.cps.toList<x.cps.toList))
 |.eq,a,b=>eqD a b
 |.ne,a,b=>(eqD a b).map (!·)
 |.isin,a,b=>inD a b
 |.notin,a,b=>(inD a b).map (!·)
 |.isN,a,b=>if b=.none then some (decide (a=.none))else none
 |.notN,a,b=>if b=.none then some (!decide (a=.none))else none
 |_,_,_=>none
def jC:D->D->Option D
 |.list J,.int i=>atI J i
 |.tuple J,.int i=>atI J i
 |.scr L,.int i=>(atI L i).map .int
 |.str x,.int i=>if x.length<=big then (atI x.cps.toList i).map λc=>.str ⟨#[c]⟩ else none
 |.fdc K,k=>(pI k).bind (look K)
 |_,_=>none
def slD(d:D)(lo J:Option Int):Option D:=
 match d with
 |.list K=>some (.list (cut K lo J))
 |.str x=>if x.length<=big then some (.str (Txt.slice x lo J))else none
 |_=>none
noncomputable def we(T:String):D->Option Bool
 |.bool _=>some (T=="bool"||T=="int")
 |.int _=>some (T=="int")
 |.tuple _=>some (T=="tuple")
 |.list _=>some (T=="list")
 |_=>none
noncomputable def strsOf:List D->Option (List Str)
 |[]=>some []
 |.str x::r=>(strsOf r).map (x::·)
 |_::_=>none
noncomputable def pairsOf:List D->Option (List (Sum Int Str×D))
 |[]=>some []
 |.tuple [.int i,d]::r=>(pairsOf r).map ((.inl i,d)::·)
 |.tuple [.str x,d]::r=>(pairsOf r).map ((.inr x,d)::·)
 |_::_=>none
def putAll{α:Type}:List (Sum Int Str×α)->List (Sum Int Str×α)->List (Sum Int Str×α)
 |acc,[]=>acc
 |acc,(k,v)::r=>putAll (put acc k v) r
noncomputable def boolsOf:List D->Option (List Bool)
 |[]=>some []
 |.bool b::r=>(boolsOf r).map (b::·)
 |_::_=>none
noncomputable def ltS(x y:Str):Bool:=decide (x.cps.toList<y.cps.toList)
def kI(x:Str):List Str->List Str
 |[]=>[x]
 |y::r=>if x=y then y::r else if ltS x y then x::y::r else y::kI x r
def oV:List Str->List Str
 |[]=>[]
 |x::r=>kI x (oV r)
noncomputable def jD(x:Str):Bool:=x.cps.toList.all λc=>decide (c<0x110000)
def cz:List (Sum Int Str×D)->Option (List Str)
 |[]=>some []
 |(.inr x,_)::r=>if jD x then (cz r).map (x::·)else none
 |_=>none
noncomputable def ltL(p q:A1):Bool:=decide (p.map (·.cps.toList)<q.map (·.cps.toList))
def pJ(z:List Str×D):List (List Str×D)->List (List Str×D)
 |[]=>[z]
 |y::r=>if ltL z.1 y.1 then z::y::r else y::pJ z r
def pK:List (List Str×D)->List (List Str×D)
 |[]=>[]
 |z::r=>pJ z (pK r)
def BW(zs:List (List Str×D)):Option D:=if zs.length<7/\(zs.map (·.1)).Nodup then some (.list ((pK zs).map (·.2)))else none
noncomputable def jE:List D->Option (List (List Str×D))
 |[]=>some []
 |.tuple [.str x,d]::r=>(jE r).map (([x],.tuple [.str x,d])::·)
 |_=>none
@[simp] def BX:D->Option D
 |.list J=>(jE J).bind BW
 |_=>none
@[simp] def NT:D->Option D
 |.list J=>(pairsOf J).map λK=>.fdc (putAll [] K)
 |_=>none
def biD:Bf->List D->Option D
 |.len,[.list J]=>some (.int J.length)
 |.len,[.tuple J]=>some (.int J.length)
 |.len,[.scr L]=>some (.int L.length)
 |.len,[.str x]=>if x.length<=big then some (.int x.length)else none
 |.int,[.bool b]=>some (.int (if b then 1 else 0))
 |.max,[.int i,.int j]=>some (.int (if i<j then j else i))
 |.tuple,[.list J]=>if J.length<=big then some (.tuple J)else none
 |.all,[.list J]=>(boolsOf J).map λK=>.bool (K.all id)
 |_,_=>none
def meD:Mf->D->List D->Option D
 |.ends,.str x,[.str y]=>some (.bool (Txt.endswith x y))
 |.rstr,.str x,[.str y]=>if x.length<=big then some (.str (Txt.rstripChars x y))else none
 |.split,.str x,[.str y]=>if (y.length==0)=false/\x.length+2<=big then some (.list ((Txt.split x y).map .str))else none
 |.join,.str x,[.list K]=>(strsOf K).bind λJ=>if (J.map (·.length)).sum+J.length*x.length<=big then some (.str (Txt.join x J))else none
 |_,_,_=>none
def ig:D->Option (List D)
 |.list J=>some J
 |.str x=>if x.length<=big then some (x.cps.toList.map λc=>.str ⟨#[c]⟩)else none
 |_=>none
noncomputable def gd(n:Nat)(dss:List (List D)):List D:=(List.range n).map λi=>.tuple (dss.map λl=>(l[i]?).getD .none)
def yc:List D->Option (List D)
 |[.list a,.list b]=>if b.length<=a.length then some (gd b.length [a,b])else none
 |[.list a,.list b,.list c]=>if b.length=a.length/\c.length=a.length then some (gd a.length [a,b,c])else none
 |_=>none
@[simp] noncomputable def BY:D->Option (List D)
 |.list J=>some J
 |_=>none
@[simp] def FY:D->Option D
 |.fdc K=>(cz K).map λL=>.list (L.map .str)
 |.list J=>some (.list J)
 |.tuple J=>some (.list J)
 |_=>none
@[simp] def BZ:D->D->Option D
 |.fdc a,.fdc b=>(cz a).bind λs=>(cz b).bind λt=>if s.length+t.length<16 then some (.list ((oV (s++t)).map .str))else none
 |_,_=>none
noncomputable def cA:D->Bool
 |.list _=>true
 |.vlt ..=>true
 |.tbl _=>true
 |_=>false
def aF(m:Md):Sl->Option D
 |.dat d=>some d
 |.lent d=>match m with|.val=>if cA d then none else some d|_=>some d
 |.own d=>match m with|.val=>none|.walk=>none|_=>some d
 |.io d=>match m with|.val=>none|.walk=>none|_=>some d
 |_=>none
noncomputable def ax:Tg->D->List Sl->Option (List Sl)
 |.one i,d,Y=>some (Y.set i (.dat d))
 |.tup K,.tuple J,Y=>if K.length=J.length then some ((K.zip J).foldl (λY p=>Y.set p.1 (.dat p.2)) Y)else none
 |.tup K,.list J,Y=>if K.length=J.length then some ((K.zip J).foldl (λY p=>Y.set p.1 (.dat p.2)) Y)else none
 |_,_,_=>none
noncomputable def lend:Sl->Sl
 |.own d=>.lent d
 |.io d=>.lent d
 |.fr=>.no
 |s=>s
@[simp] def blk(nt:Nat)(js:List Nat)(Y:List Sl):List Sl:=List.replicate nt .no++js.map λj=>lend (Y[j]?.getD .no)
noncomputable def ay(f:D->Option (Option D)):List D->Option (List D)
 |[]=>some []
 |d::r=>(f d).bind λo=>(ay f r).map λq=>match o with
  |none=>q
  |some x=>x::q
structure Fn where
 lent:List Bool
 run:List D->Option D
abbrev Fs:=Str->Option Fn
noncomputable def bL(m:Str):Str:=("Vault.":Str)++m
noncomputable def lg(c:Nat):D->Bool
 |.vlt J _ _=>J==c
 |_=>false
noncomputable def FZ:D->List D
 |.vlt _ _ J=>J
 |_=>[]
noncomputable def roM:Md->Option D->Option D
 |.read,o=>o
 |.test,o=>o
 |_,_=>none
@[simp] noncomputable def ij:Option Sl->Option (List (List D))
 |some (.io (.tbl J))=>some J
 |_=>none
abbrev E:=Fs->List (Str×D)->Md->List Sl->Option D
inductive Es where
 |nil
 |cons (a:E) (as:Es)
abbrev I:=Fs->List (Str×D)->Md->List Sl->Option (List D)
section
variable (Φ:Fs)(Γ:List (Str×D))
noncomputable def ev(m:Md)(Y:List Sl)(e:E):Option D:=e Φ Γ m Y
noncomputable def evI(m:Md)(Y:List Sl)(e:I):Option (List D):=e Φ Γ m Y
@[simp] def evs(m:Md)(fl:List Bool)(Y:List Sl):Es->Option (List D)
 |.nil=>some []
 |.cons a J=>(ev Φ Γ (if fl.headD false then m else .val) Y a).bind λx=>(evs m fl.tail Y J).map (x::·)
@[simp] def evC(Y:List Sl):Es->Option Bool
 |.nil=>some true
 |.cons a J=>(ev Φ Γ .test Y a).bind asB
@[simp] def evP(Y:List Sl):Es->Option (Option Int)
 |.nil=>some none
 |.cons a J=>(ev Φ Γ .val Y a).bind λd=>(asI d).map some
end
abbrev Es.A(x:E):Es:=.cons x .nil
abbrev Es.B(x y:E):Es:=.cons x (.A y)
@[simp low] def ev_e{Φ:Fs}{Γ:List (Str×D)}{m}{Y:List Sl}{e}:ev Φ Γ m Y e=e Φ Γ m Y:=(rfl)
@[simp low] def ev_i{Φ:Fs}{Γ:List (Str×D)}{m}{Y:List Sl}{e}:evI Φ Γ m Y e=e Φ Γ m Y:=(rfl)
namespace E
@[simp] def k(d:D):E|Φ,Γ,m,Y=>fin m (some d)
@[simp] def v(i:Nat):E|Φ,Γ,m,Y=>fin m (Y[i]?.bind (aF m))
@[simp] def g(x:Str):E|Φ,Γ,m,Y=>fin m (Γ.lookup x)
@[simp] def op(o:Op2)(a b:E):E|Φ,Γ,m,Y=>fin m ((ev Φ Γ .read Y a).bind λx=>(ev Φ Γ .read Y b).bind λy=>opD o x y)
@[simp] def neg(a:E):E|Φ,Γ,m,Y=>fin m ((ev Φ Γ .val Y a).bind λd=>(asI d).map λi=>.int (-i))
@[simp] def cmp(o:Cop)(a b:E):E|Φ,Γ,m,Y=>fin m ((ev Φ Γ .read Y a).bind λx=>(ev Φ Γ .read Y b).bind λy=>(dA o x y).map .bool)
@[simp] def chain(o J:Cop)(a b c:E):E|Φ,Γ,m,Y=>fin m ((ev Φ Γ .read Y a).bind λx=>(ev Φ Γ .read Y b).bind λy=>(dA o x y).bind λt=>if t then (ev Φ Γ .read Y c).bind λz=>(dA J y z).map .bool else some (.bool false))
@[simp] def and(a b:E):E|Φ,Γ,m,Y=>(ev Φ Γ (bm m) Y a).bind λd=>(asB d).bind λt=>if t then ev Φ Γ (bm m) Y b else some (.bool false)
@[simp] def or(a b:E):E|Φ,Γ,m,Y=>(ev Φ Γ (bm m) Y a).bind λd=>(asB d).bind λt=>if t then some (.bool true)else ev Φ Γ (bm m) Y b
@[simp] def not(a:E):E|Φ,Γ,m,Y=>(ev Φ Γ (bm m) Y a).bind λd=>(asB d).map λt=>.bool (!t)
@[simp] def ite(c a b:E):E|Φ,Γ,m,Y=>noT m ((ev Φ Γ .test Y c).bind λd=>(asB d).bind λt=>if t then ev Φ Γ .val Y a else ev Φ Γ .val Y b)
@[simp] def call(f:Str)(K:Es):E|Φ,Γ,m,Y=>fin m ((Φ f).bind λJ=>(evs Φ Γ .read J.lent Y K).bind J.run)
@[simp] def idx(a i:E):E|Φ,Γ,m,Y=>fin m ((ev Φ Γ .read Y a).bind λx=>(ev Φ Γ .val Y i).bind λy=>jC x y)
@[simp] def get(a k:E):E|Φ,Γ,m,Y=>fin m ((ev Φ Γ .read Y a).bind λx=>(ev Φ Γ .val Y k).bind λy=>getD x y)
@[simp] def lsk(a:E):E|Φ,Γ,m,Y=>fin m ((ev Φ Γ .read Y a).bind FY)
@[simp] def sor(a b:E):E|Φ,Γ,m,Y=>fin m ((ev Φ Γ .read Y a).bind λx=>(ev Φ Γ .read Y b).bind λy=>BZ x y)
@[simp] def fd0:E|Φ,Γ,m,Y=>fin m (some (.fdc []))
@[simp] def idx2(i:Nat)(a b:E):E|Φ,Γ,m,Y=>fin m ((ij Y[i]?).bind λK=>(ev Φ Γ .val Y a).bind λx=>(ev Φ Γ .val Y b).bind λy=>(asI x).bind λk=>(asI y).bind λl=>(atI K k).bind λJ=>atI J l)
@[simp] def srtn(a:E):E|Φ,Γ,m,Y=>fin m ((ev Φ Γ .read Y a).bind BX)
@[simp] def fdc(a:E):E|Φ,Γ,m,Y=>fin m ((ev Φ Γ .read Y a).bind NT)
@[simp] def sl(a:E)(lo J:Es):E|Φ,Γ,m,Y=>fin m ((ev Φ Γ .read Y a).bind λx=>(evP Φ Γ Y lo).bind λy=>(evP Φ Γ Y J).bind λz=>slD x y z)
@[simp] def lst(J:Es):E|Φ,Γ,m,Y=>fin m ((evs Φ Γ .val [] Y J).bind λds=>if ds.length<=1000 then some (.list ds)else none)
@[simp] def tup(J:Es):E|Φ,Γ,m,Y=>fin m ((evs Φ Γ .val [] Y J).bind λds=>if ds.length<=1000 then some (.tuple ds)else none)
@[simp] def comp(nt:Nat)(js:List Nat)(tg:Tg)(K:I)(ifs:Es)(J:E):E|Φ,Γ,m,Y=>fin m ((evI Φ Γ .read Y K).bind λds=>if ds.length<=big then (ay (λd=>(ax tg d (blk nt js Y)).bind λL=>(evC Φ Γ L ifs).bind λt=>if t then (ev Φ Γ .val L J).map some else some none) ds).map .list else none)
@[simp] def bi(f:Bf)(J:Es):E|Φ,Γ,m,Y=>fin m ((evs Φ Γ .read [true,true,true] Y J).bind λds=>biD f ds)
@[simp] def me(f:Mf)(o:E)(J:Es):E|Φ,Γ,m,Y=>fin m ((ev Φ Γ .read Y o).bind λx=>(evs Φ Γ .read [true,true] Y J).bind λds=>meD f x ds)
@[simp] def isi(a:E)(T:String):E|Φ,Γ,m,Y=>fin m ((ev Φ Γ .read Y a).bind λx=>(we T x).map .bool)
@[simp] def vob(c:Nat)(a:E):E|Φ,Γ,m,Y=>roM m (fin m ((ev Φ Γ .read Y a).bind λx=>if lg c x then some (.list (FZ x))else none))
@[simp] def vcall(c:Nat)(f:Str)(o:E)(K:Es):E|Φ,Γ,m,Y=>fin m ((ev Φ Γ .read Y o).bind λx=>if lg c x then (Φ (bL f)).bind λJ=>(evs Φ Γ .read J.lent.tail Y K).bind λds=>if J.lent.headD false then J.run (x::ds)else none else none)
end E
namespace I
@[simp] def seq(a:E):I|Φ,Γ,m,Y=>(ev Φ Γ m Y a).bind ig
@[simp] def rng(a:E):I|Φ,Γ,m,Y=>(ev Φ Γ .val Y a).bind λd=>(asI d).bind λn=>if rOk n then some ((List.range n.toNat).map λ(k:Nat)=>.int k)else none
@[simp] def revr(a:E):I|Φ,Γ,m,Y=>(ev Φ Γ .val Y a).bind λd=>(asI d).bind λn=>if rOk n then some ((List.range n.toNat).reverse.map λ(k:Nat)=>.int k)else none
@[simp] def rngd(a b:E):I|Φ,Γ,m,Y=>(ev Φ Γ .val Y a).bind λx=>(ev Φ Γ .val Y b).bind λy=>(asI x).bind λi=>(asI y).bind λj=>if rOk i&&rOk j then some ((List.range (i-j).toNat).map λ(k:Nat)=>.int (i-k))else none
@[simp] def rev(a:E):I|Φ,Γ,m,Y=>(ev Φ Γ m Y a).bind λd=>(BY d).map List.reverse
@[simp] def zip(J:Es):I|Φ,Γ,m,Y=>(evs Φ Γ .read [true,true,true] Y J).bind yc
end I
inductive Out where
 |nx (Y:List Sl)
 |rt (d w:D)
noncomputable def Out.andThen(o:Out)(f:List Sl->Option Out):Option Out:=match o with
 |.nx Y=>f Y
 |.rt d w=>some (.rt d w)
noncomputable def freeze:Sl->Sl
 |.own d=>.dat d
 |s=>s
noncomputable def frM:Mf->Bool
 |.split=>true
 |_=>false
noncomputable def fuel:Nat:=100000
def ik(c:List Sl->Option D)(b:List Sl->Option Out):Nat->List Sl->Option Out
 |0,_=>none
 |n+1,Y=>(c Y).bind λd=>(asB d).bind λt=>if t then (b Y).bind λo=>o.andThen (ik c b n)else some (.nx Y)
noncomputable def forL(t:D->List Sl->Option (List Sl))(b:List Sl->Option Out):List D->List Sl->Option Out
 |[],Y=>some (.nx Y)
 |d::r,Y=>(t d Y).bind λJ=>(b J).bind λo=>o.andThen (forL t b r)
abbrev S:=Fs->List (Str×D)->List Sl->Option Out
set_option genInjectivity false
inductive Ss where
 |nil
 |cons (s:S) (r:Ss)
noncomputable def ex(Φ:Fs)(Γ:List (Str×D))(Y:List Sl)(s:S):Option Out:=s Φ Γ Y
@[simp low] def ex_s{Φ:Fs}{Γ:List (Str×D)}{Y:List Sl}{s}:ex Φ Γ Y s=s Φ Γ Y:=(rfl)
@[simp] def exs(Φ:Fs)(Γ:List (Str×D))(Y:List Sl):Ss->Option Out
 |.nil=>some (.nx Y)
 |.cons s r=>(ex Φ Γ Y s).bind λo=>o.andThen λJ=>exs Φ Γ J r
@[simp] def Jn(i:Nat)(Y:List Sl)(d:D):Option Out:=match Y[i]? with
 |some (.own (.list J))=>if J.length<big then some (.nx (Y.set i (.own (.list (J++[d])))))else none
 |some (.io (.list J))=>if J.length<big then some (.nx (Y.set i (.io (.list (J++[d])))))else none
 |_=>none
@[simp] noncomputable def Ga(i j:Nat)(Y:List Sl):Option Out:=match Y[i]? with
 |some (.own (.list J))=>(J[J.length-1]?).map λd=>.nx ((Y.set i (.own (.list J.dropLast))).set j (.dat d))
 |_=>none
@[simp] def Gb(i:Nat)(Y:List Sl):D->Option Out
 |.list K=>match Y[i]? with
  |some (.own (.list J))=>if J.length+K.length<=big then some (.nx (Y.set i (.own (.list (J++K)))))else none
  |some (.io (.list J))=>if J.length+K.length<=big then some (.nx (Y.set i (.io (.list (J++K)))))else none
  |_=>none
 |_=>none
@[simp] noncomputable def dW:List Sl->D
 |[]=>.none
 |.io d::_=>d
 |_::r=>dW r
noncomputable def lh(Y:List Sl):Bool:=Y.any λs=>match s with|.io _=>true|_=>false
@[simp] noncomputable def Jo(i:Nat)(Y:List Sl):D->Option Out
 |.int m=>match Y[i]? with
  |some (.dat (.int n))=>some (.nx (Y.set i (.dat (.int (n+m)))))
  |_=>none
 |_=>none
@[simp] noncomputable def Gc(i:Nat)(Y:List Sl):Option Out:=match Y[i]? with
 |some (.own (.list J))=>some (.nx (Y.set i (.own (.list J.reverse))))
 |_=>none
@[simp] def yd(i:Nat)(Y:List Sl)(d:D):D->Option Out
 |.int n=>match Y[i]? with
  |some (.own (.list J))=>(ixN J.length n).map λj=>.nx (Y.set i (.own (.list (J.set j d))))
  |_=>none
 |_=>none
@[simp] noncomputable def rowsOf:List D->Option (List (List D))
 |[]=>some []
 |.list a::r=>(rowsOf r).map (a::·)
 |_=>none
@[simp] noncomputable def rR:D->Bool
 |.list _=>true
 |.vlt ..=>true
 |_=>false
namespace S
@[simp] def ext(i:Nat)(e:E):S|Φ,Γ,Y=>(ev Φ Γ .read Y e).bind λx=>Gb i Y x
@[simp] def expr(e:E):S|Φ,Γ,Y=>(ev Φ Γ .val Y e).map λa=>.nx Y
@[simp] def set(i:Nat)(e:E):S|Φ,Γ,Y=>(ev Φ Γ .val Y e).map λd=>.nx (Y.set i (.dat d))
@[simp] def new(i:Nat)(e:E):S|Φ,Γ,Y=>(ev Φ Γ .val Y e).bind λd=>if cA d then some (.nx (Y.set i (.own d)))else none
@[simp] def app(i:Nat)(e:E):S|Φ,Γ,Y=>(ev Φ Γ .val Y e).bind λd=>Jn i Y d
@[simp] def pop(i j:Nat):S|Φ,Γ,Y=>Ga i j Y
@[simp] def seti(i:Nat)(k e:E):S|Φ,Γ,Y=>(ev Φ Γ .val Y e).bind λd=>(ev Φ Γ .val Y k).bind λx=>yd i Y d x
@[simp] def ifs(c:E)(a b:Ss):S|Φ,Γ,Y=>(ev Φ Γ .test Y c).bind λd=>(asB d).bind λt=>if t then exs Φ Γ Y a else exs Φ Γ Y b
@[simp] def fors(tg:Tg)(J:I)(body:Ss):S|Φ,Γ,Y=>(evI Φ Γ .walk Y J).bind λds=>forL (ax tg) (λK=>exs Φ Γ K body) ds Y
@[simp] def ret(e:E):S|Φ,Γ,Y=>(ev Φ Γ .val (Y.map freeze) e).map λd=>.rt d (dW Y)
@[simp] def whl(c:E)(body:Ss):S|Φ,Γ,Y=>ik (λJ=>ev Φ Γ .test J c) (λJ=>exs Φ Γ J body) fuel Y
@[simp] def aug(i:Nat)(e:E):S|Φ,Γ,Y=>(ev Φ Γ .val Y e).bind λx=>Jo i Y x
@[simp] def rev(i:Nat):S|Φ,Γ,Y=>Gc i Y
@[simp] def newt(i:Nat)(e:E):S|Φ,Γ,Y=>match Y[i]? with
 |some .fr=>if lh Y then none else (ev Φ Γ .val Y e).bind λd=>(BY d).bind λJ=>(rowsOf J).map λK=>.nx (Y.set i (.io (.tbl K)))
 |_=>none
@[simp] def sett(i:Nat)(a b e:E):S|Φ,Γ,Y=>(ev Φ Γ .val Y e).bind λd=>(ij Y[i]?).bind λK=>(ev Φ Γ .val Y a).bind λx=>(ev Φ Γ .val Y b).bind λy=>(asI x).bind λk=>(asI y).bind λl=>(ixN K.length k).bind λk=>(K[k]?).bind λJ=>(ixN J.length l).map λl=>.nx (Y.set i (.io (.tbl (K.set k (J.set l d)))))
@[simp] def rett(i:Nat):S|Φ,Γ,Y=>(ij Y[i]?).map λJ=>.rt (.list (J.map .list)) .none
@[simp] noncomputable def stuck:S|Φ,Γ,Y=>none
end S
abbrev M:=Fs->List (Str×D)->List Sl->Option (D×List Sl)
inductive Ar where
 |v (j:Nat)
 |x (m:M)
noncomputable def evM(Φ:Fs)(Γ:List (Str×D))(Y:List Sl)(m:M):Option (D×List Sl):=m Φ Γ Y
@[simp low] def evM_e{Φ:Fs}{Γ:List (Str×D)}{Y:List Sl}{m}:evM Φ Γ Y m=m Φ Γ Y:=(rfl)
@[simp] def iP(b:Bool):Sl->Option D
 |.dat d=>some d
 |.lent d=>if b||!cA d then some d else none
 |.own d=>if b then some d else none
 |_=>none
def dX(Φ:Fs)(Γ:List (Str×D)):List Ar->List Sl->Option (List (Sum Nat D)×List Sl)
 |[],Y=>some ([],Y)
 |.v j::r,Y=>if ((Y[j]?).bind (aF .read)).isSome then (dX Φ Γ r Y).map λz=>(.inl j::z.1,z.2)else none
 |.x m::r,Y=>(evM Φ Γ Y m).bind λy=>(dX Φ Γ r y.2).map λz=>(.inr y.1::z.1,z.2)
def iX(Y:List Sl)(i:Nat):List Bool->List (Sum Nat D)->Option (List D)
 |_,[]=>some []
 |fl,.inl j::r=>if j=i then none else ((Y[j]?).bind (iP (fl.headD false))).bind λd=>(iX Y i fl.tail r).map (d::·)
 |fl,.inr d::r=>(iX Y i fl.tail r).map (d::·)
def iY(Y:List Sl)(i:Nat):Nat->List Bool->List (Sum Nat D)->Option (List D)
 |0,fl,.inl j::r=>if j=i then ((Y[j]?).bind (aF .read)).bind λd=>(iX Y i fl.tail r).map (d::·)else none
 |n+1,fl,.inl j::r=>if j=i then none else ((Y[j]?).bind (iP (fl.headD false))).bind λd=>(iY Y i n fl.tail r).map (d::·)
 |n+1,fl,.inr d::r=>(iY Y i n fl.tail r).map (d::·)
 |_,_,_=>none
noncomputable def wg:List (Sum Nat D)->Option (List D)
 |[]=>some []
 |.inr d::r=>(wg r).map (d::·)
 |_=>none
@[simp] noncomputable def setIo(Y:List Sl)(i:Nat)(w:D):Option (List Sl):=match Y[i]? with
 |some (.io _)=>some (Y.set i (.io w))
 |some (.own (.list _))=>match w with
  |.list J=>some (Y.set i (.own (.list J)))
  |_=>none
 |_=>none
@[simp] noncomputable def pairD:D->Option (D×D)
 |.tuple [e,w]=>some (e,w)
 |_=>none
@[simp] noncomputable def Gd(Y:List Sl)(i:Nat):Option D:=match Y[i]? with
 |some (.io d)=>some d
 |_=>none
noncomputable def lj(f:D->D->Option (D×D)):List D->D->Option (List D×D)
 |[],w=>some ([],w)
 |d::r,w=>(f d w).bind λz=>(lj f r z.2).map λq=>(z.1::q.1,q.2)
open Classical in
def lq(Φ:Fs)(Γ:List (Str×D))(nt:Nat)(js:List Nat)(n:Nat)(tg:Tg)(J:M)(Y:List Sl)(d w:D):Option (D×D):=
 (ax tg d ((blk nt js Y).set n (.io w))).bind λK=>(evM Φ Γ K J).bind λz=>(Gd z.2 n).bind λL=>if z.2=K.set n (.io L)then some (z.1,L)else none
noncomputable def okK:Nat->D->Bool
 |_,.int _=>true
 |_,.str _=>true
 |n+1,.tuple J=>J.all (okK n)
 |_,_=>false
noncomputable def jF:D->Bool
 |.tuple _=>true
 |_=>false
def nI(C:Nat):List D->Option D
 |[.vlt c 0 objs,d]=>if c=C then if okK 8 d&&jF d&&decide (objs.length<1000000)then (match objs.idxOf? d with
  |some j=>some (.tuple [.int (j:Nat),.vlt c 0 objs])
  |none=>some (.tuple [.int (objs.length:Nat),.vlt c 0 (objs++[d])]))else none else none
 |_=>none
@[simp] noncomputable def Jp(c:Nat):Option Sl->Option (List D)
 |some (.io (.vlt J 0 K))=>if J=c then some K else none
 |_=>none
namespace M
@[simp] def put(c i:Nat)(e:E):M|Φ,Γ,Y=>(ev Φ Γ .val Y e).bind λd=>(Jp c Y[i]?).bind λJ=>((nI c [.vlt c 0 J,d]).bind pairD).map λq=>(q.1,Y.set i (.io q.2))
@[simp] def p(e:E):M|Φ,Γ,Y=>(ev Φ Γ .val Y e).map λd=>(d,Y)
@[simp] def call(f:Str)(n i:Nat)(L:List Ar):M|Φ,Γ,Y=>(Φ f).bind λJ=>(dX Φ Γ L Y).bind λz=>(iY z.2 i n J.lent z.1).bind λds=>(J.run ds).bind λr=>(pairD r).bind λq=>(setIo z.2 i q.2).map λK=>(q.1,K)
@[simp] def tup(J:List Ar):M|Φ,Γ,Y=>(dX Φ Γ J Y).bind λz=>(wg z.1).bind λds=>if ds.length<=1000 then some (.tuple ds,z.2)else none
@[simp] def comp(nt:Nat)(js:List Nat)(n i:Nat)(tg:Tg)(K:I)(J:M):M|Φ,Γ,Y=>(evI Φ Γ .walk Y K).bind λds=>if ds.length<big then (Gd Y i).bind λw=>(lj (lq Φ Γ nt js n tg J Y) ds w).bind λz=>some (.list z.1,Y.set i (.io z.2))else none
@[simp] def cat(a:E)(m:M):M|Φ,Γ,Y=>(ev Φ Γ .val Y a).bind λx=>(BY x).bind λxs=>(evM Φ Γ Y m).bind λz=>(BY z.1).bind λJ=>if xs.length+J.length<=big then some (.list (xs++J),z.2)else none
end M
@[simp] noncomputable def KF:Option Sl->Option (List D)
 |some (.own (.list J))=>some J
 |_=>none
namespace S
@[simp] def appm(i:Nat)(m:M):S|Φ,Γ,Y=>(KF Y[i]?).bind λa=>(evM Φ Γ Y m).bind λz=>(KF z.2[i]?).bind λds=>if ds.length<big then some (.nx (z.2.set i (.own (.list (ds++[z.1])))))else none
@[simp] def setmf(i:Nat)(m:M):S|Φ,Γ,Y=>(evM Φ Γ (Y.map freeze) m).map λz=>.nx (z.2.set i (.dat z.1))
@[simp] def setm(i:Nat)(m:M):S|Φ,Γ,Y=>(evM Φ Γ Y m).map λz=>.nx (z.2.set i (.dat z.1))
@[simp] def retm(m:M):S|Φ,Γ,Y=>(evM Φ Γ (Y.map freeze) m).map λz=>.rt z.1 (dW z.2)
@[simp] def newv(i c:Nat):S|Φ,Γ,Y=>match Y[i]? with
 |some .fr=>if lh Y then none else some (.nx (Y.set i (.io (.vlt c 0 []))))
 |_=>none
end S
inductive Dk where
 |pure
 |io (i:Nat)
 |mk (i:Nat)
 |tb (i:Nat)
structure Def where
 lent:List Bool
 slots:Nat
 body:Ss
 k:Dk
def aN(fl:List Bool)(n:Nat)(ds:List D):List Sl:=(fl.zip ds).map (λp=>if p.1 then Sl.lent p.2 else .dat p.2)++List.replicate (n-ds.length) .no
def br(d:Def)(ds:List D):List Sl:=match d.k with
 |.pure=>aN d.lent d.slots ds
 |.io i=>(aN d.lent d.slots (ds.set i .none)).set i (.io (ds.getD i .none))
 |.mk i=>(aN d.lent d.slots ds).set i .fr
 |.tb i=>(aN d.lent d.slots ds).set i .fr
def Out.fin:Out->D×D
 |.nx Y=>(.none,dW Y)
 |.rt d w=>(d,w)
def Out.val(k:Dk)(o:Out):Option D:=match k with
 |.io _=>if rR o.fin.2 then some (.tuple [o.fin.1,o.fin.2])else none
 |_=>some o.fin.1
def den(prog:List (Str×Def))(Γ:List (Str×D)):Nat->Fs
 |0,_=>none
 |k+1,f=>(prog.lookup f).map λd=>(d.lent,λJ=>if J.length=d.lent.length then (exs (den prog Γ k) Γ (br d J) d.body).bind (Out.val d.k)else none)
section
variable {d:D}{i j:Int}{x y:Str}{ds es:List D}{kvs:List (Sum Int Str×D)}{ns:List Int}{b t:Bool}{Y:List Sl}
@[simp] def DS:asB (.bool b)=some b:=rfl
@[simp] def KS:asI (.int i)=some i:=rfl
@[simp] def KU{o:Option D}:fin .val o=o:=rfl
@[simp] def yf{o:Option D}:fin .read o=o:=rfl
@[simp] def KW:bm .test=.test:=rfl
@[simp] def Mm:bm .val=.val:=rfl
@[simp] def KY:bm .read=.val:=rfl
@[simp] def KZ:bm .walk=.val:=rfl
@[simp] def Jq{o:Option D}:fin .walk o=o:=rfl
@[simp] def Jr{o:Option D}:noT .walk o=o:=rfl
@[simp] def Ge:aF .walk (.lent d)=some d:=rfl
@[simp] def IB:aF .walk (.own d)=none:=rfl
@[simp] def Js{o:Option D}:fin .test o=o.bind λd=>(pF d).map .bool:=rfl
@[simp] def La{o:Option D}:noT .val o=o:=rfl
@[simp] def Jt{o:Option D}:noT .read o=o:=rfl
@[simp] def IC:pF (.bool b)=some b:=rfl
@[simp] def ID:pF (.list ds)=some (!ds.isEmpty):=rfl
@[simp] def Ju:pF (.scr ns)=some (!ns.isEmpty):=rfl
@[simp] def Lb:opD .add (.int i) (.int j)=some (.int (i+j)):=rfl
@[simp] def Cd:opD .add (.str x) (.str y)=if x.length+y.length<=big then some (.str (x++y))else none:=rfl
@[simp] def Cf:opD .add (.list ds) (.list es)=if ds.length+es.length<=big then some (.list (ds++es))else none:=rfl
@[simp] def Lc:opD .sub (.int i) (.int j)=some (.int (i-j)):=rfl
@[simp] def ue:opD .mul (.int i) (.int j)=if rQ i j then some (.int (i*j))else none:=rfl
@[simp] def nJ:opD .mul (.list ds) (.int j)=if pG ds.length j then some (.list (List.replicate j.toNat ds).flatten)else none:=rfl
@[simp] def Cg:opD .mul (.str x) (.int j)=if -1000<=j/\j<=1000/\x.length<=1000 then some (.str ⟨((List.replicate j.toNat x.cps.toList).flatten).toArray⟩)else none:=rfl
@[simp] def Cj:opD .mod (.int i) (.int j)=if 0<j then some (.int (i % j))else none:=rfl
@[simp] def Ck:opD .fdiv (.int i) (.int j)=if 0<j/\j<1073741824 then some (.int (i / j))else none:=rfl
@[simp] def Ld:dA .lt (.int i) (.int j)=some (decide (i<j)):=rfl
@[simp] def Le:dA .le (.int i) (.int j)=some (decide (i<=j)):=rfl
@[simp] def Lf:dA .ge (.int i) (.int j)=some (decide (j<=i)):=rfl
@[simp] def Lg:dA .gt (.int i) (.int j)=some (decide (j<i)):=rfl
@[simp] def Lh:dA .lt (.str x) (.str y)=some (decide (x.cps.toList<y.cps.toList)):=rfl
@[simp] def Li:dA .le (.str x) (.str y)=some (!decide (y.cps.toList<x.cps.toList)):=rfl
@[simp] def Gf{a b:D}:dA .eq a b=eqD a b:=rfl
@[simp] def Gg{a b:D}:dA .ne a b=(eqD a b).map (!·):=rfl
@[simp] def Gh{a b:D}:dA .isin a b=inD a b:=rfl
@[simp] def wj{a b:D}:dA .notin a b=(inD a b).map (!·):=rfl
@[simp] def Lj{a}:dA .isN a .none=some (decide (a=.none)):=by cases a<;>exact if_pos rfl
@[simp] def Jv{a}:dA .notN a .none=some (!decide (a=.none)):=by cases a<;>exact if_pos rfl
@[simp] def eq_int:eqD (.int i) (.int j)=some (decide (i=j)):=by
 show (if true then some _ else _)=_;simp
@[simp] def eq_str:eqD (.str x) (.str y)=some (decide (x=y)):=by
 show (if true then some _ else _)=_;simp
def da{a b:D}(J:okS 20 a=true)(K:okS 20 b=true):eqD a b=some (decide (a=b)):=by
 unfold eqD;rw[J,K];rfl
@[simp] def Jw:jC (.list ds) (.int i)=atI ds i:=rfl
@[simp] def IE:jC (.tuple ds) (.int i)=atI ds i:=rfl
@[simp] def Lk:jC (.scr ns) (.int i)=(atI ns i).map .int:=rfl
@[simp] def Ll{kvs}{d:D}:jC (.fdc kvs) d=(pI d).bind (look kvs):=rfl
@[simp] def Cn:jC (.str x) (.int i)=if x.length<=big then (atI x.cps.toList i).map λc=>.str ⟨#[c]⟩ else none:=rfl
@[simp] def Lm:pI (.int i)=some (.inl i):=rfl
@[simp] def Ln:pI (.str x)=some (.inr x):=rfl
@[simp] def uc{l h}:slD (.list ds) l h=some (.list (cut ds l h)):=rfl
@[simp] def Mn{l h}:slD (.str x) l h=if x.length<=big then some (.str (Txt.slice x l h))else none:=rfl
@[simp] def len_list:biD .len [.list ds]=some (.int ds.length):=rfl
@[simp] def len_tuple:biD .len [.tuple ds]=some (.int ds.length):=rfl
@[simp] def Lo:biD .len [.scr ns]=some (.int ns.length):=rfl
@[simp] def len_str:biD .len [.str x]=if x.length<=big then some (.int x.length)else none:=rfl
@[simp] def int_bool:biD .int [.bool b]=some (.int (if b then 1 else 0)):=rfl
@[simp] def Lp:biD .max [.int i,.int j]=some (.int (if i<j then j else i)):=rfl
@[simp] def tuple_list:biD .tuple [.list ds]=if ds.length<=big then some (.tuple ds)else none:=rfl
@[simp] def Jx:biD .all [.list ds]=(boolsOf ds).map λJ=>.bool (J.all id):=rfl
@[simp] def IF{l}:boolsOf (l.map .bool)=some l:=by
 induction l with
 |nil=>rfl
 |cons a r ih=>show (boolsOf _).map _=_;simp_all
@[simp] def HM:meD .rstr (.str x) [.str y]=if x.length<=big then some (.str (Txt.rstripChars x y))else none:=rfl
@[simp] def Lq:meD .ends (.str x) [.str y]=some (.bool (Txt.endswith x y)):=rfl
@[simp] def yg:meD .split (.str x) [.str y]=if (y.length==0)=false/\x.length+2<=big then some (.list ((Txt.split x y).map .str))else none:=rfl
@[simp] def Lr:meD .join (.str x) [.list ds]=(strsOf ds).bind λJ=>if (J.map (·.length)).sum+J.length*x.length<=big then some (.str (Txt.join x J))else none:=rfl
@[simp] def jG:ig (.list ds)=some ds:=rfl
@[simp] def items_str:ig (.str x)=if x.length<=big then some (x.cps.toList.map λc=>.str ⟨#[c]⟩)else none:=rfl
@[simp] def Cp{a b}:yc [.list a,.list b]=if b.length<=a.length then some (gd b.length [a,b])else none:=rfl
@[simp] def Cq{a b c}:yc [.list a,.list b,.list c]=if b.length=a.length/\c.length=a.length then some (gd a.length [a,b,c])else none:=rfl
@[simp] def dc:cA (.list ds)=true:=rfl
@[simp] def Ls:cA (.int i)=false:=rfl
@[simp] def Lu:cA (.str x)=false:=rfl
@[simp] def Jy:cA (.bool b)=false:=rfl
@[simp] def Jz:cA .none=false:=rfl
@[simp] def IG:cA (.tuple ds)=false:=rfl
@[simp] def Lv:cA (.scr ns)=false:=rfl
@[simp] def JA{m}:aF m (.dat d)=some d:=rfl
@[simp] def rS:aF .val (.lent d)=if cA d then none else some d:=rfl
@[simp] def Gi:aF .read (.lent d)=some d:=rfl
@[simp] def Gj:aF .test (.lent d)=some d:=rfl
@[simp] def IH:aF .val (.own d)=none:=rfl
@[simp] def II:aF .read (.own d)=some d:=rfl
@[simp] def IJ:aF .test (.own d)=some d:=rfl
@[simp] def JB{i}:ax (.one i) d Y=some (Y.set i (.dat d)):=rfl
@[simp] def ip{is}:ax (.tup is) (.list ds) Y=if is.length=ds.length then some ((is.zip ds).foldl (λY p=>Y.set p.1 (.dat p.2)) Y)else none:=rfl
@[simp] def iq{is}:ax (.tup is) (.tuple ds) Y=if is.length=ds.length then some ((is.zip ds).foldl (λY p=>Y.set p.1 (.dat p.2)) Y)else none:=rfl
@[simp] def lend_own:lend (.own d)=.lent d:=rfl
@[simp] def JC:lend (.dat d)=.dat d:=rfl
@[simp] def IK:lend (.lent d)=.lent d:=rfl
@[simp] def Lw:lend .no=.no:=rfl
@[simp] def Lx:lend (.io d)=.lent d:=rfl
@[simp] def JD:aF .val (.io d)=none:=rfl
@[simp] def JE:aF .read (.io d)=some d:=rfl
@[simp] def JF:aF .test (.io d)=some d:=rfl
@[simp] def IL:freeze (.io d)=.io d:=rfl
@[simp] def IM:freeze .fr=.fr:=rfl
@[simp] def Ly{f}:(Out.nx Y).andThen f=f Y:=rfl
@[simp] def Lz{w}{f}:(Out.rt d w).andThen f=some (.rt d w):=rfl
@[simp] def Gk:freeze (.own d)=.dat d:=rfl
@[simp] def Gm:freeze (.dat d)=.dat d:=rfl
@[simp] def Ey:freeze (.lent d)=.lent d:=rfl
@[simp] def IP:freeze .no=.no:=rfl
@[simp] def JG :we T (.list ds)=some (T=="list"):=rfl
@[simp] def IQ :we T (.tuple ds)=some (T=="tuple"):=rfl
@[simp] def LA :we T (.int i)=some (T=="int"):=rfl
@[simp] def JH :we T (.bool b)=some (T=="bool"||T=="int"):=rfl
end
abbrev Ss.A(x:S):Ss:=.cons x .nil
abbrev Ss.B(x y:S):Ss:=.cons x (.A y)
def cP{d:D}{i}(h:asI d=some i):d=.int i:=by
 cases d with
 |int=>simp_all
 |_=>cases h
def rV{d:D}{b}(h:asB d=some b):d=.bool b:=by
 cases d with
 |bool=>simp_all
 |_=>cases h
def pL{c}{d:D}(h:lg c d=true):∃n J,d=.vlt c n J:=by
 cases d with
 |vlt=>cases eq_of_beq h;exact(_,_,rfl)
 |_=>cases h
theorem aE:∀J:List Str,strsOf (J.map .str)=some J
 |[]=>rfl
 |y::r=>by show (strsOf (r.map .str)).map _=_;rw[aE r];rfl
end SI
end
section
variable {α:Type}{K:fg0}{G G' H H' H0:L2.Hp}{d d1 d2 d3:SI.D}{ds:List SI.D}{vs:List L2.V}{fp ps qs:List PySem.Addr}{σ:L2.St}{Y Y1:List SI.Sl}{i j n:Nat}{u:PySem.Value}{P prog:PySem.Program}{w:PySem.World}{h:PySem.Heap}{a b c e iter o tg:PySem.Expr}{kvs:List (L2.Key×L2.V)}{X:L2.Cx}{Zp:List (PySem.Addr×PySem.Obj)}{s:PySem.Shared}{A:PySem.Around}{Q:PySem.Value->PySem.Shared->Prop}{apos pos pos' spos:PySem.Pos}{fl:List Bool}{es:List PySem.Expr}{x:PySem.Str}{tn:List PySem.Str}{js:List Nat}{Γ:List (PySem.Str×SI.D)}{body:List PySem.Stmt}{env:PySem.Env}
namespace SI
set_option genInjectivity false
open PySem
structure IoC where
 ios:List (Str×Nat):=[]
 vn:Option Str:=none
 owns:List Str:=[]
structure Cs where
 N:List Str
 sc:Scope
 fns:List Str
 cst:List Str
 mts:List Nat
 dp:List Nat
 vc:Option Nat:=none
 vms:List Str:=[]
 io:IoC:={}
 tb:Option Nat:=none
def dZ(C:Cs)(x:Str)(k:NameKind):Bool:=C.sc.names.lookup x==some k
noncomputable def df(x:Str):Bool:=!(x==("__debug__":Str))&&!(x==("__classdict__":Str))&&!(x==("__name__":Str))
def dU(C:Cs)(x:Str):Option Nat:=
 match C.N.idxOf? x with
 |some i=>if (dZ C x .local||dZ C x .cell||dZ C x .free)&&df x then some i else none
 |none=>none
def iZ(C:Cs)(x:Str):Option Nat:=
 match C.N.idxOf? x with
 |some i=>if (dZ C x .local||dZ C x .cell)&&df x then some i else none
 |none=>none
def ah(C:Cs)(x:Str):Bool:=dZ C x .globalImplicit&&df x
noncomputable def cOp:Operator->Option Op2
 |.Add=>some .add
 |.Sub=>some .sub
 |.Mult=>some .mul
 |.Mod=>some .mod
 |.FloorDiv=>some .fdiv
 |_=>none
noncomputable def rW:CmpOp->Option Cop
 |.Lt=>some .lt
 |.LtE=>some .le
 |.Gt=>some .gt
 |.GtE=>some .ge
 |.Eq=>some .eq
 |.NotEq=>some .ne
 |.In=>some .isin
 |.NotIn=>some .notin
 |.Is=>some .isN
 |.IsNot=>some .notN
noncomputable def isSet:Expr->Bool
 |.Set ..=>true
 |_=>false
noncomputable def isSlice:Expr->Bool
 |.Slice ..=>true
 |_=>false
noncomputable def isStar:Expr->Bool
 |.Starred ..=>true
 |_=>false
noncomputable def pM(x:Str):Option Bf:=
 if x=("len":Str)then some .len else if x=("int":Str)then some .int else if x=("tuple":Str)then some .tuple else if x=("all":Str)then some .all else if x=("max":Str)then some .max else none
noncomputable def uf(x:Str):Option Mf:=
 if x=("split":Str)then some .split else if x=("join":Str)then some .join else if x=("endswith":Str)then some .ends else if x=("rstrip":Str)then some .rstr else none
noncomputable def yh(x:Str):Option String:=
 if x=("int":Str)then some "int" else if x=("list":Str)then some "list" else if x=("tuple":Str)then some "tuple" else if x=("bool":Str)then some "bool" else none
noncomputable def bu:Expr->Bool
 |.Call (.Name J _) [] [] _=>J==("super":Str)
 |_=>false
def slots(C:Cs):List Expr->Option (List Nat)
 |[]=>some []
 |.Name x _::r=>(iZ C x).bind λi=>(slots C r).map (i::·)
 |_::_=>none
def cTg(C:Cs):Expr->Option Tg
 |.Name x _=>(iZ C x).map .one
 |.Tuple es _ _=>(slots C es).map .tup
 |_=>none
noncomputable def bw:Expr->List Str
 |.Name x _=>[x]
 |.Tuple es _ _=>es.filterMap fun|.Name x _=>some x|_=>none
 |_=>[]
noncomputable def jH:Tg->Nat->Bool
 |.one i,n=>decide (i<n)
 |.tup J,n=>J.all λi=>decide (i<n)
def freeOf(sc:Scope):List Str:=sc.names.filterMap λ(x,k)=>if k==.free then some x else none
noncomputable def rX(N:A1):List Str->Option (List Nat)
 |[]=>some []
 |x::r=>(N.idxOf? x).bind λi=>(rX N r).map (i::·)
def Ez(C:Cs)(sc:Scope)(tn:A1):Bool:=
 sc.kind==.function&&
 sc.names.all (λy=>(y.2 != .free||dZ C y.1 .cell||dZ C y.1 .free)&&sc.names.lookup y.1==some y.2)&&
 decide ((tn++freeOf sc).Nodup)
def yi(C:Cs)(sc:Scope)(tg:Expr):Option (Cs×Nat×List Nat):=
 if Ez C sc (bw tg)then (rX C.N (freeOf sc)).map λjs=>({C with N:=bw tg++freeOf sc,sc:=sc,mts:=[],dp:=[],tb:=none},(bw tg).length,js)else none
def nn{p:Prop}{z:α}(h:none=some z):p:=nomatch h
noncomputable def jI:Expr->Bool
 |.ListComp ..=>true
 |.SetComp ..=>true
 |.DictComp ..=>true
 |_=>false
noncomputable def chk{α:Type}:(b:Bool)->(b=true->Option α)->Option α
 |true,f=>f rfl
 |false,_=>none
noncomputable def got{α J:Type}:(o:Option α)->((a:α)->o=some a->Option J)->Option J
 |some a,f=>f a rfl
 |none,_=>none
noncomputable def eqS{α:Type}(x y:Str)(f:x=y->Option α):Option α:=if h:x=y then f h else none
def EA(m:Str):Bool:=m=("append":Str)||m=("extend":Str)||m=("reverse":Str)||m=("pop":Str)
mutual
noncomputable def Mo:Nat->Stmt->List (Str×Bool)
 |0,_=>[]
 |n+1,s=>match s with
  |.Assign [.Name _ _] (.Call (.Attribute (.Name x _) m _) [] [] _) _=>if EA m then [(x,false)] else []
  |.Assign [.Subscript (.Name x _) _ _] _ _=>[(x,false)]
  |.Assign [.Subscript (.Subscript (.Name x _) _ _) _ _] _ _=>[(x,true)]
  |.Expr (.Call (.Attribute (.Name x _) m _) _ [] _) _=>if EA m then [(x,false)] else []
  |.If _ a b _=>lr n a++lr n b
  |.For _ _ b _ _=>lr n b
  |.While _ b _ _=>lr n b
  |_=>[]
noncomputable def lr:Nat->List Stmt->List (Str×Bool)
 |0,_=>[]
 |n+1,[]=>[]
 |n+1,s::r=>Mo n s++lr n r
end
def aC(sc:Scope)(ps:A1):List Str:=sc.names.filterMap λ(x,k)=>if (k==.local||k==.cell)&&!ps.contains x then some x else none
noncomputable def ef:Stmt->Option (List Str×List Stmt×Scope)
 |.FunctionDef _ args body _ _ _ J _ _ _=>some (args.args.map (·.arg),body,J)
 |_=>none
noncomputable def yj(x:Str):Stmt->Bool
 |.Assign [.Name y _] (.List _ _) _=>y=x
 |_=>false
def Gn(fns cst:A1)(ps:A1)(body:List Stmt)(sc:Scope)(vc:Option Nat:=none)(vms:List Str:=[])(io:IoC:={})(tb:Option Nat:=none):Cs:=
 let N:=ps++aC sc ps
 let ms:=lr 60 body++(io.owns.filter λx=>body.any (yj x)).map λx=>(x,false)
 {N,sc,fns,cst,vc,vms,io,tb,mts:=ms.filterMap λ(x,d)=>if d then none else N.idxOf? x,dp:=ms.filterMap λ(x,d)=>if d then N.idxOf? x else none}
end SI
namespace L2.Z
open PySem PySem.Spec PyProof.Rows L2 L2.C SI
noncomputable abbrev Fg:=fg0
noncomputable def vfs(l n:Addr)(h:Nat):List (Str×V):=[("objects",.ref l),("numbers",.ref n),("objects",.int h)]
mutual
inductive Dp (K:Fg)(H:Hp):D->V->Prop
 |none:Dp K H .none .non
 |bool (b:Bool):Dp K H (.bool b) (.bl b)
 |int (i:Int):Dp K H (.int i) (.int i)
 |str (x:Str):PyData.strOk x=true->Dp K H (.str x) (.str x)
 |tuple {a:Addr}{vs:List V}{ds:List D}:H a=some (.tup vs)->Dps K H ds vs->Dp K H (.tuple ds) (.ref a)
 |list {a:Addr}{vs:List V}{ds:List D}:H a=some (.lst vs)->Dps K H ds vs->Dp K H (.list ds) (.ref a)
 |scr {a:Addr}{ns:List Int}:SqL K H a (ns.map V.int)->Dp K H (.scr ns) (.ref a)
 |fdc {a:Addr}{ob:Obj}{kvs:List (Key×D)}{ws:List (Key×V)}:H a=some (.frz ob (.dK ws))->Dks K H kvs ws->Dp K H (.fdc kvs) (.ref a)
inductive Dps (K:Fg)(H:Hp):List D->List V->Prop
 |nil:Dps K H [] []
 |cons {d:D}{v:V}{ds:List D}{vs:List V}:Dp K H d v->Dps K H ds vs->Dps K H (d::ds) (v::vs)
inductive Dks (K:Fg)(H:Hp):List (Key×D)->List (Key×V)->Prop
 |nil:Dks K H [] []
 |cons {k:Key}{d:D}{v:V}{ds:List (Key×D)}{vs:List (Key×V)}:Dp K H d v->Dks K H ds vs->Dks K H ((k,d)::ds) ((k,v)::vs)
end
def Dp.mono(e:Same G G'){v:V}(x:Dp K G d v):Dp K G' d v:=Dp.rec (motive_1:=λd v a=>Dp K G' d v) (motive_2:=λJ L a=>Dps K G' J L) (motive_3:=λJ L a=>Dks K G' J L) .none .bool .int .str (λh a r=>.tuple (e _ _ h) r) (λh a r=>.list (e _ _ h) r) (λh=>.scr (e.seq h)) (λh a r=>.fdc (e _ _ h) r) .nil (λa a=>.cons) .nil (λa a=>.cons) x
def Dps.mono(e:Same G G')(x:Dps K G ds vs):Dps K G' ds vs:=Dps.rec (motive_1:=λd v a=>Dp K G' d v) (motive_2:=λds vs a=>Dps K G' ds vs) (motive_3:=λds vs a=>Dks K G' ds vs) .none .bool .int .str (λh a r=>.tuple (e _ _ h) r) (λh a r=>.list (e _ _ h) r) (λh=>.scr (e.seq h)) (λh a r=>.fdc (e _ _ h) r) .nil (λa a=>.cons) .nil (λa a=>.cons) x
def Dks.mono(e:Same G G'){ds}{vs}(x:Dks K G ds vs):Dks K G' ds vs:=Dks.rec (motive_1:=λd v a=>Dp K G' d v) (motive_2:=λds vs a=>Dps K G' ds vs) (motive_3:=λds vs a=>Dks K G' ds vs) .none .bool .int .str (λh a r=>.tuple (e _ _ h) r) (λh a r=>.list (e _ _ h) r) (λh=>.scr (e.seq h)) (λh a r=>.fdc (e _ _ h) r) .nil (λa a=>.cons) .nil (λa a=>.cons) x
theorem Dps.length(h:Dps K G ds vs):ds.length=vs.length:=by
 induction vs generalizing ds with
 |nil=>cases h;rfl
 |cons v vs ih=>cases h<;>simp_all
def Dps.get{k:Nat}(h:Dps K G ds vs)(e:ds[k]?=some d):∃v,vs[k]?=some v/\Dp K G d v:=by
 induction vs generalizing ds k with
 |nil=>cases h;simp at e
 |cons v vs ih=>
  cases h with
  |cons h r=>
   cases k with
   |zero=>simp_all
   |succ k=>simpa using ih r (by simpa using e)
def Dps.append{ds es}{vs us}(h:Dps K G ds vs)(q:Dps K G es us):Dps K G (ds++es) (vs++us):=by
 induction vs generalizing ds with
 |nil=>cases h;erw[q]
 |cons v vs ih=>cases h with|cons h r=>exact .cons h (ih r)
def Dps.one{v:V}(h:Dp K G d v):Dps K G [d] [v]:=.cons h .nil
theorem Dps.take(n:Nat)(h:Dps K G ds vs):Dps K G (ds.take n) (vs.take n):=by
 induction vs generalizing ds n with
 |nil=>cases h;simpa using Dps.nil
 |cons v vs ih=>
  cases h with
  |cons h r=>
   cases n with
   |zero=>simpa using Dps.nil
   |succ n=>simpa using Dps.cons h (ih n r)
theorem Dps.drop(n:Nat)(h:Dps K G ds vs):Dps K G (ds.drop n) (vs.drop n):=by
 induction vs generalizing ds n with
 |nil=>cases h;simpa using Dps.nil
 |cons v vs ih=>
  cases h with
  |cons h r=>
   cases n with
   |zero=>simpa using Dps.cons h r
   |succ n=>simpa using ih n r
theorem Dps.set{v:V}(J:Dp K G d v)(n:Nat)(h:Dps K G ds vs):Dps K G (ds.set n d) (vs.set n v):=by
 induction vs generalizing ds n with
 |nil=>cases h;simpa using Dps.nil
 |cons u vs ih=>
  cases h with
  |cons h r=>
   cases n with
   |zero=>simpa using Dps.cons J r
   |succ n=>simpa using Dps.cons h (ih n r)
theorem Dps.reverse(h:Dps K G ds vs):Dps K G ds.reverse vs.reverse:=by
 induction vs generalizing ds with
 |nil=>cases h;exact .nil
 |cons u vs ih=>
  cases h with
  |cons h r=>rw[List.reverse_cons,List.reverse_cons];exact (ih r).append (.one h)
theorem Dps.dropLast(h:Dps K G ds vs):Dps K G ds.dropLast vs.dropLast:=by
 rw[List.dropLast_eq_take,List.dropLast_eq_take,h.length];erw[h.take _]
theorem Dps.rep(h:Dps K G ds vs):∀k:Nat,Dps K G (List.replicate k ds).flatten (List.replicate k vs).flatten
 |0=>.nil
 |k+1=>by
  erw[h.append (Dps.rep h k)]
def rY{α}(xs:List α)(i:Int):SI.atI xs i=L2.atI xs i:=rfl
def Mp(n d:Nat)(o):SI.sIx n d o=HT.sIx n d o:=rfl
theorem Dps.atI{i}(h:Dps K G ds vs)(e:SI.atI ds i=some d):∃v,L2.atI vs i=some v/\Dp K G d v:=by
 rw[rY]at e;unfold L2.atI at e ⊢;rw[<-h.length];cases q:L2.ixN _ i with
 |none=>simp_all
 |some j=>
  rw[q]at e;erw[h.get (e)]
theorem Dps.cut(h:Dps K G ds vs)(lo hi):Dps K G (SI.cut ds lo hi) (L2.vY vs lo hi):=by
 unfold SI.cut L2.vY;rw[h.length];exact (h.drop _).take _
structure Ext(G H G' H':Hp):Prop where
 hh:Same H H'
 gg:Same G G'
 gh:Same G' H'
 nw:∀b o,G b=Option.none->H b=some o->G' b=Option.none
theorem Ext.refl(h:Same G H):Ext G H G H:=(Same.refl _,Same.refl _,h,λa a h a=>h)
theorem Ext.trans{G H G1 H1 G2 H2}(a:Ext G H G1 H1)(b:Ext G1 H1 G2 H2):Ext G H G2 H2:=
 (a.hh.trans b.hh,a.gg.trans b.gg,b.gh,λc o K J=>b.nw c o (a.nw c o K J) (a.hh c o J))
def aG{H}{p:Addr}{o:HO}(h:H p=.none):Same H (upd H p o):=λb u e=>by
 rwa [ab (ag e h)]
def Ext.laid{p:Addr}{o:HO}(h:Same G H)(J:H p=.none):Ext G H (upd G p o) (upd H p o):=
 (aG J,aG (h.free J),λb u e=>by
  by_cases q:b=p
  .subst q;rwa [aa]at e ⊢
  .rw[ab q]at e ⊢;erw[h b u e],λb u L K=>by
  rwa [ab (ag K J)])
def Ext.hid{p:Addr}{o:HO}(h:Same G H)(J:H p=.none):Ext G H G (upd H p o):=
 (aG J,Same.refl _,h.trans (aG J),λa a e a=>e)
def Ext.show{p:Addr}{o:HO}(e:Ext G H G' H')(M:H p=.none)(N:H' p=some o)(L:G' p=.none):Ext G H (upd G' p o) H':=
 (e.hh,e.gg.trans (aG L),λb u q=>by
  by_cases z:b=p
  .subst z;rw[aa]at q;grind
  .rw[ab z]at q;erw[e.gh b u q],λb u K J=>by
  rw[ab (ag J M)];erw[e.nw b u K J])
noncomputable def er(H:Hp)(ps:A4):Hp:=λb=>if b∈ps then .none else H b
def jJ{b}(h:b∈ps):er H ps b=.none:=if_pos h
def aH{b}(h:b∉ps):er H ps b=H b:=if_neg h
def dB{b}{o:HO}(h:er H ps b=some o):b∉ps/\H b=some o:=by
 by_cases q:b∈ps
 .rw[jJ q]at h;cases h
 .rw[aH q]at h;exact(q,h)
def dC :Same (er H ps) H:=λb o h=>(dB h).2
def RowsAt(K:Fg)(G H:Hp)(rows:List (List D))(qs:A4):Prop:=rows.length=qs.length/\∀(k:Nat) row q,rows[k]?=some row->qs[k]?=some q->∃J,H q=some (.lst J)/\Dps K G row J
def RowsAt.go{rows:List (List D)}(r:RowsAt K G H rows qs)(g:Same G G')(h:∀q∈qs,H' q=H q):RowsAt K G' H' rows qs:=
 (r.1,λk J q a b=>let ⟨L,c,d⟩:=r.2 k _ q a b;(L,(h q (mg0 b)).trans c,d.mono g))
theorem RowsAt.some{rows:List (List D)}(r:RowsAt K G H rows qs):∀q∈qs,∃o,H q=.some o:=λq M=>by
 obtain⟨k,J⟩:=List.getElem?_of_mem M;have L:k<rows.length:=by rw[r.1];exact (gi0 J).1
 obtain⟨N,a,_⟩:=r.2 k _ q (ge0 L) J;exact(_,a)
def RowsAt.mono{rows:List (List D)}(r:RowsAt K G H rows qs)(g:Same G G')(h:Same H H'):RowsAt K G' H' rows qs:=
 r.go g λq L=>let ⟨o,J⟩:=r.some q L;(h _ _ J).trans J.symm
inductive Dr (K:Fg)(G H:Hp):D->V->Prop
 |of {d:D}{v:V}:Dp K G d v->Dr K G H d v
 |list {a:Addr}{vs:List V}{ds:List D}:H a=some (.lst vs)->Dps K G ds vs->Dr K G H (.list ds) (.ref a)
 |vlt {C a dx l n:Addr}{h:Nat}{as:A4}{objs:List D}:H a=some (.ins C dx (vfs l n h))->H l=some (.lst (as.map .ref))->Dps K G objs (as.map .ref)->Dr K G H (.vlt C h objs) (.ref a)
 |tbl {a:Addr}{qs:A4}{rows:List (List D)}:H a=some (.lst (qs.map .ref))->RowsAt K G H rows qs->Dr K G H (.tbl rows) (.ref a)
section
variable {v:V}
def Dr.mono2(g:Same G G')(h:Same H H'):Dr K G H d v->Dr K G' H' d v
 |.of a=>.of (a.mono g)
 |.list a r=>.list (h _ _ a) (r.mono g)
 |.vlt a b r=>.vlt (h _ _ a) (h _ _ b) (r.mono g)
 |.tbl a r=>.tbl (h _ _ a) (r.mono g h)
def Dr.ext(e:Ext G H G' H')(h:Dr K G H d v):Dr K G' H' d v:=h.mono2 e.gg e.hh
theorem Dr.none(h:Dr K G H .none v):v=.non:=by cases h with|of h=>cases h;rfl
theorem Dr.bool{b}(h:Dr K G H (.bool b) v):v=.bl b:=by cases h with|of h=>cases h;rfl
theorem Dr.int{i}(h:Dr K G H (.int i) v):v=.int i:=by cases h with|of h=>cases h;rfl
theorem Dr.str{x}(h:Dr K G H (.str x) v):v=.str x/\PyData.strOk x=true:=by cases h with|of h=>cases h with|str _ o=>exact(rfl,o)
theorem Dr.lst(s:Same G H)(h:Dr K G H (.list ds) v):∃a vs,v=.ref a/\H a=some (.lst vs)/\Dps K G ds vs:=by
 cases h with
 |of h=>cases h with|list h r=>exact(_,_,rfl,s _ _ h,r)
 |list h r=>exact(_,_,rfl,h,r)
theorem Dr.fdc{ds:List (Key×D)}(s:Same G H)(h:Dr K G H (.fdc ds) v):∃a J vs,v=.ref a/\H a=some (.frz J (.dK vs))/\Dks K G ds vs:=by
 cases h with|of h=>cases h with|fdc h r=>exact(_,_,_,rfl,s _ _ h,r)
theorem Dr.tup(s:Same G H)(h:Dr K G H (.tuple ds) v):∃a vs,v=.ref a/\H a=some (.tup vs)/\Dps K G ds vs:=by
 cases h with|of h=>cases h with|tuple h r=>exact(_,_,rfl,s _ _ h,r)
theorem Dr.scr{ns}(s:Same G H)(h:Dr K G H (.scr ns) v):∃a,v=.ref a/\SqL K H a (ns.map V.int):=by
 cases h with|of h=>cases h with|scr h=>exact(_,rfl,s.seq h)
def Dr.dp(h:Dr K G H d v)(o:cA d=false):Dp K G d v:=by
 cases h with
 |of h=>exact h
 |_=>cases o
end
mutual
noncomputable def lu(w:World):D->Int
 |.int i=>hashInt i
 |.str x=>hashStr w x
 |.tuple J=>reduceHash (Builtin.Tuple.tupleHashOf (cU w J))
 |_=>0
noncomputable def cU(w:World):List D->List Int
 |[]=>[]
 |d::r=>lu w d::cU w r
end
inductive fw:Nat->List (D×Addr×Value)->List Addr->List D->Prop
 |nil {k:Nat}:fw k [] [] []
 |cons {k:Nat}{t:Tok}{d:D}{a:Addr}{xs:List (D×Addr×Value)}{as:A4}{ds:List D}:fw (k+1) xs as ds->fw k ((d,a,.int k t)::xs) (a::as) (d::ds)
abbrev NK:=Addr->List Addr->List D->Heap->Prop
def aM(w:World):NK:=λn L objs h=>
 (n==sysModules)=false/\∃J:List (D×Addr×Value),fw 0 J L objs/\objs.length<=1000000/\
  ∃o K M,h.get? n=some o/\o.ExactDict/\o.data=.dict K M/\K.toList=J.map (λx=>((lu w x.1,.ref x.2.1,x.2.2):DictEntry))/\(J.map (·.1)).Nodup
abbrev _root_.L2.Cx.nk(X:Cx):NK:=aM X.w
structure Bs where
 g:Hp
 pin:Option (Addr×List Addr):=Option.none
def IoAt(ν:NK)(K:Fg)(G H:Hp)(d:D)(p:Addr)(M:A4):Prop:=
 (∃N O,d=.list N/\M=[p]/\H p=some (.lst O)/\Dps K G N O)\/
 (∃C R l n L objs,d=.vlt C 0 objs/\M=[l,n]/\n≠l/\G p=some (.ins C R (vfs l n 0))/\H l=some (.lst (L.map .ref))/\H n=some (.ext (ν n L objs))/\Dps K G objs (L.map .ref)/\∀d∈objs,okK 8 d=true/\jF d=true)\/
 ∃rows J,d=.tbl rows/\M=p::J/\(p::J).Nodup/\H p=some (.lst (J.map .ref))/\RowsAt K G H rows J
section
variable {ν:NK}{p:Addr}
theorem IoAt.go(g:Same G G')(h:∀b∈fp,H' b=H b):IoAt ν K G H d p fp->IoAt ν K G' H' d p fp:=by
 rintro (⟨U,D,L,J,M,N⟩|⟨C,V,l,n,R,objs,L,J,M,N,O,W,Y,Z⟩|⟨F,T,L,J,M,N,O⟩)
 .exact .inl (U,D,L,J,(h p @6).trans M,N.mono g)
 .exact .inr (.inl (C,V,l,n,R,_,L,J,M,g _ _ N,(h l @6).trans O,(h n (by rw[J];simp)).trans W,Y.mono g,Z))
 .exact .inr (.inr (F,T,L,J,M,(h p (by rw[J];simp)).trans N,O.go g λq B=>h q @6))
theorem IoAt.some(h:IoAt ν K G H d p fp):∀b∈fp,∃o,H b=.some o:=by
 intro b hb;rcases h with⟨V,D,O,J,L,M⟩|⟨C,W,l,n,U,objs,O,J,L,M,N,R,Y,Z⟩|⟨F,T,O,J,L,M,N⟩
 .rw[J]at hb;obtain rfl:=List.mem_singleton.mp hb;exact(_,L)
 .rw[J]at hb
  simp only[List.mem_cons,List.not_mem_nil,or_false]at hb;rcases hb with rfl|rfl
  .exact(_,N)
  .exact(_,R)
 .rw[J]at hb
  rcases mq0 hb with rfl|hb
  .exact(_,M)
  .erw[N.some b hb]
def IoAt.ext(e:Ext G H G' H')(h:IoAt ν K G H d p fp):IoAt ν K G' H' d p fp:=
 h.go e.gg λb L=>let ⟨o,J⟩:=h.some b L;(e.hh _ _ J).trans J.symm
def IoAt.dr(s:Same G H):IoAt ν K G H d p fp->Dr K G H d (.ref p):=by
 rintro (⟨R,Y,rfl,_,M,J⟩|⟨C,U,l,n,O,objs,rfl,_,_,J,L,_,N,_⟩|⟨W,V,rfl,_,_,J,L⟩)
 .exact .list M J
 .exact .vlt (s _ _ J) L N
 .exact .tbl J L
def IoAt.same{e}{fq}(g:Same G G')(U:∀o,H p=.some o->H' p=.some o)(a:IoAt ν K G H d p fp)(b:IoAt ν K G' H' e p fq)(R:d=e):fp=fq:=by
 subst R;rcases a with⟨_,_,N,a2,_⟩|⟨_,_,_,_,_,_,N,a2,_,O,_⟩|⟨_,_,N,a2,_,O,_⟩<;>rcases b with⟨_,_,L,M,_⟩|⟨_,_,_,_,_,_,L,M,_,J,_⟩|⟨_,_,L,M,_,J,_⟩<;>rw[N]at L<;>try (cases L;done)
 .rw[a2,M]
 .rw[g _ _ O]at J
  cases J<;>simp_all
 .rw[U _ O]at J
  have z:=HO.lst.inj (Option.some.inj J);rw[a2,M,(List.map_inj_right (λc c z=>V.ref.inj z)).mp z]
end
def OwnAt(K:Fg)(G H:Hp)(d:D)(p:Addr):Prop:=∃J L,d=.list J/\H p=some (.lst L)/\Dps K G J L
structure Mq(ν:NK)(K:Fg)(G0:Bs)(H0 G H:Hp)(σ:St)(Y:List Sl):Prop where
 at':∀(i:Nat) d,Y[i]?=some (.io d)->∃p fp,σ[i]?=some (some (.ref p))/\IoAt ν K G H d p fp/\(∀b∈fp,G b=Option.none/\H0 b=Option.none)/\(∀z,G0.pin=some z->z=(p,fp))/\∀(j:Nat) e q,Y[j]?=some (.own e)->σ[j]?=some (some (.ref q))->q∉fp
 one:∀(i j:Nat) d e,Y[i]?=some (.io d)->Y[j]?=some (.io e)->i=j
 fr:∀(i:Nat),Y[i]?=some .fr->G0.pin=Option.none
structure EnvD(ν:NK)(K:Fg)(G0:Bs)(H0 G H:Hp)(σ:St)(Y:List Sl):Prop where
 ext:Ext G0.g H0 G H
 len:σ.length=Y.length
 dat:∀(i:Nat) d,Y[i]?=some (.dat d)->∃v,σ[i]?=some (some v)/\Dp K G d v
 lent:∀(i:Nat) d,Y[i]?=some (.lent d)->∃v,σ[i]?=some (some v)/\Dr K G0.g H0 d v
 own:∀(i:Nat) d,Y[i]?=some (.own d)->∃p,σ[i]?=some (some (.ref p))/\G p=Option.none/\H0 p=Option.none/\OwnAt K G H d p
 apart:∀(i j:Nat) d e p,Y[i]?=some (.own d)->Y[j]?=some (.own e)->σ[i]?=some (some (.ref p))->σ[j]?=some (some (.ref p))->i=j
 io:Mq ν K G0 H0 G H σ Y
section
variable {ν:NK}{G0:Bs}
def OwnAt.ext{p:Addr}(e:Ext G H G' H')(h:OwnAt K G H d p):OwnAt K G' H' d p:=let ⟨J,O,L,M,N⟩:=h;(J,O,L,e.hh _ _ M,N.mono e.gg)
def OwnAt.dr{p:Addr}(h:OwnAt K G H d p):Dr K G H d (.ref p):=by obtain⟨M,N,rfl,J,L⟩:=h;exact .list J L
theorem OwnAt.some{p:Addr}(h:OwnAt K G H d p):∃o,H p=.some o:=let ⟨_,_,_,h,_⟩:=h;(_,h)
def EnvD.sub(E:EnvD ν K G0 H0 G H σ Y):Same G H:=E.ext.gh
def EnvD.step(E:EnvD ν K G0 H0 G H σ Y)(e:Ext G H G' H'):EnvD ν K G0 H0 G' H' σ Y:=by
 refine(E.ext.trans e,E.len,λi d h=>(E.dat i d h).imp λv h=>(h.1,h.2.mono e.gg),E.lent,λi M h=>?_,E.apart,λi d h=>?_,E.io.one,E.io.fr)
 .obtain⟨p,a,c,f,g⟩:=E.own i M h
  obtain⟨o,J⟩:=g.some;exact(p,a,e.nw _ _ c J,f,g.ext e)
 .obtain⟨p,N,a,b,c,f⟩:=E.io.at' i d h
  exact(p,N,a,b.ext e,λx L=>((b.some x L).elim λo J=>e.nw _ _ (c x L).1 J,(c x L).2),f)
theorem EnvD.read(E:EnvD ν K G0 H0 G H σ Y){sl}(h:Y[i]?=some sl)(J:aF .read sl=some d):∃v,σ[i]?=some (some v)/\Dr K G H d v:=by
 cases sl with
 |dat L=>cases J;obtain⟨v,a,b⟩:=E.dat i d h;exact(v,a,.of b)
 |lent L=>cases J;obtain⟨v,a,b⟩:=E.lent i d h;exact(v,a,b.ext E.ext)
 |own L=>cases J;obtain⟨p,a,_,_,b⟩:=E.own i d h;exact(_,a,b.dr)
 |io L=>cases J;obtain⟨p,M,a,b,_⟩:=E.io.at' i d h;exact(_,a,b.dr E.sub)
 |_=>cases J
set_option tactic.hygienic true in
theorem EnvD.val(E:EnvD ν K G0 H0 G H σ Y){sl}(h:Y[i]?=some sl)(J:aF .val sl=some d):∃v,σ[i]?=some (some v)/\Dp K G d v:=by
 cases sl with
 |dat L=>cases J;erw[E.dat i d h]
 |lent L=>
  rw[rS]at J;split at J
  .cases J
  .rename_i c
   cases J;obtain⟨v,a,b⟩:=E.lent i d h;exact(v,a,(b.ext E.ext).dp (by simpa using c))
 |_=>cases J
def getE_set{l:List α}{i j}{x y}(h:(l.set i x)[j]?=some y):(j=i/\y=x)\/(j≠i/\l[j]?=some y):=by
 by_cases e:j=i
 .subst e
  by_cases q:j<l.length<;>simp_all
 .rw[gn0 (Ne.symm e)]at h;exact .inr (e,h)
def getE_io{i j}{s t}(h:(Y.set i s)[j]?=some t)(J:t≠s):j≠i/\Y[j]?=some t:=
 (getE_set h).elim (by rintro ⟨_,q⟩;erw[absurd q J]) id
theorem EnvD.set{v:V}(E:EnvD ν K G0 H0 G H σ Y)(F:i<σ.length)(h:Dp K G d v):EnvD ν K G0 H0 G H (σ.set i (some v)) (Y.set i (.dat d)):=by
 refine(E.ext,by simp[E.len],λj e J=>?_,λj e J=>?_,λj N J=>?_,λj k N U p J M O L=>?_,λj e J=>?_,λj k d e J M=>E.io.one j k d e (getE_io J @0).2 (getE_io M @0).2,λj J=>E.io.fr j (getE_io J @0).2)
 .rcases getE_set J with⟨rfl,q⟩|⟨ne,q⟩
  .simp_all
  .rw[gn0 (Ne.symm ne)];erw[E.dat j e q]
 .obtain⟨ne,q⟩:=getE_io J @0
  rw[gn0 (Ne.symm ne)];erw[E.lent j e q]
 .obtain⟨ne,q⟩:=getE_io J @0
  rw[gn0 (Ne.symm ne)];erw[E.own j N q]
 .obtain⟨Z,q⟩:=getE_io J @0
  obtain⟨nk,r⟩:=getE_io M @0;rw[gn0 (Ne.symm Z)]at O;rw[gn0 (Ne.symm nk)]at L;erw[E.apart j k N U p q r O L]
 .obtain⟨ne,q⟩:=getE_io J @0
  obtain⟨p,W,a,b,c,f,g⟩:=E.io.at' j e q;refine(p,W,by rwa [gn0 (Ne.symm ne)],b,c,f,λk R T M L=>?_);obtain⟨nk,r⟩:=getE_io M @0;rw[gn0 (Ne.symm nk)]at L;erw[g k R T r L]
def EnvD.setOwn{p:Addr}(E:EnvD ν K G0 H0 G H σ Y)(Z:i<σ.length)(S:OwnAt K G H d p)(Q:G p=.none)(C:H0 p=.none)
  (new:(∀(j:Nat) e,Y[j]?=some (.own e)->σ[j]?≠some (some (.ref p)))/\∀(j:Nat) e q U,Y[j]?=some (.io e)->σ[j]?=some (some (.ref q))->IoAt ν K G H e q U->p∉U):EnvD ν K G0 H0 G H (σ.set i (some (.ref p))) (Y.set i (.own d)):=by
 refine(E.ext,by simp[E.len],λj e J=>?_,λj e J=>?_,λj W J=>?_,λj k W F q J N O L=>?_,λj e J=>?_,λj k d e J N=>E.io.one j k d e (getE_io J @0).2 (getE_io N @0).2,λj J=>E.io.fr j (getE_io J @0).2)
 .obtain⟨ne,z⟩:=getE_io J @0
  rw[gn0 (Ne.symm ne)];erw[E.dat j e z]
 .obtain⟨ne,z⟩:=getE_io J @0
  rw[gn0 (Ne.symm ne)];erw[E.lent j e z]
 .rcases getE_set J with⟨rfl,z⟩|⟨ne,z⟩
  .cases z;exact(p,gs0 Z,Q,C,S)
  .rw[gn0 (Ne.symm ne)];erw[E.own j W z]
 .rcases getE_set J with⟨T,_⟩|⟨P,V⟩
  .rcases getE_set N with⟨R,_⟩|⟨nk,M⟩
   .rw[T,R]
   .rw[T,gs0 Z]at O
    rw[gn0 (Ne.symm nk)]at L;cases O;erw[absurd L (new.1 k F M)]
  .rw[gn0 (Ne.symm P)]at O
   rcases getE_set N with⟨R,_⟩|⟨nk,M⟩
   .rw[R,gs0 Z]at L
    cases L;erw[absurd O (new.1 j W V)]
   .rw[gn0 (Ne.symm nk)]at L
    erw[E.apart j k W F q V M O L]
 .obtain⟨ne,q⟩:=getE_io J @0
  obtain⟨D,U,a,b,c,f,g⟩:=E.io.at' j e q;refine(D,U,by rw[gn0 (Ne.symm ne)];erw[a],b,c,f,λk B I N L=>?_);rcases getE_set N with⟨R,_⟩|⟨nk,M⟩
  .rw[R,gs0 Z]at L
   cases L;erw[new.2 j e D U q a b]
  .rw[gn0 (Ne.symm nk)]at L
   erw[g k B I M L]
def EnvD.fresh{p:Addr}(E:EnvD ν K G0 H0 G H σ Y)(Z:H p=.none)(R:Same G G')(U:Same H H'):(∀(j:Nat) e,Y[j]?=some (.own e)->σ[j]?≠some (some (.ref p)))/\∀(j:Nat) e q L,Y[j]?=some (.io e)->σ[j]?=some (some (.ref q))->IoAt ν K G' H' e q L->p∉L:=by
 refine(λj O M J=>?_,λj e q L M J io N=>?_)
 .obtain⟨q,a,_,_,b⟩:=E.own j O M
  obtain⟨o,V⟩:=b.some<;>simp_all
 .obtain⟨T,W,a,b,_⟩:=E.io.at' j e M
  rw[J]at a;cases a;rw[<-b.same R (U q) io rfl]at N;obtain⟨o,V⟩:=b.some p N<;>grind
def EnvD.change{d e}{p:Addr}{o:HO}(E:EnvD ν K G0 H0 G H σ Y)(M:Y[i]?=some (.own d))(U:σ[i]?=some (some (.ref p)))(h:OwnAt K G (upd H p o) e p):
  EnvD ν K G0 H0 G (upd H p o) σ (Y.set i (.own e)):=by
 obtain⟨F,a,c,f,g⟩:=E.own i d M;rw[U]at a;cases a;refine((λx o e=>?_,E.ext.gg,λx o e=>?_,E.ext.nw),by simp[E.len],λj e J=>?_,λj e J=>?_,λj L J=>?_,λj k L t q J N B R=>?_,λj e J=>?_,λj k d e J N=>E.io.one j k d e (getE_io J @0).2 (getE_io N @0).2,λj J=>E.io.fr j (getE_io J @0).2)
 .rw[ab (ag e f)];erw[E.ext.hh x o e]
 .rw[ab (ag e c)];erw[E.ext.gh x o e]
 .erw[E.dat j e (getE_io J @0).2]
 .erw[E.lent j e (getE_io J @0).2]
 .rcases getE_set J with⟨rfl,z⟩|⟨ne,z⟩
  .cases z;exact(p,U,c,f,h)
  .obtain⟨q,T,C,P,X⟩:=E.own j L z
   have m:q≠p:=by
    rintro rfl
    erw[ne (E.apart j i L d q z M T U)]
   refine(q,T,C,P,?_);obtain⟨Q,l,A,y,u⟩:=X;exact(Q,l,A,by rw[ab m];erw[y],u)
 .have O:∀{j:Nat}{L:D},(Y.set i (.own e))[j]?=some (.own L)->∃V,Y[j]?=some (.own V):=λJ=>(getE_set J).elim (by rintro ⟨e,_⟩;exact(d,e▸M)) λ⟨_,z⟩=>(_,z)
  obtain⟨_,W⟩:=O J;obtain⟨_,Z⟩:=O N;erw[E.apart j k _ _ q W Z B R]
 .obtain⟨F,I,a,b,c,f,g⟩:=E.io.at' j e (getE_io J @0).2
  have w:=g i d p M U;refine(F,I,a,b.go (Same.refl _) λx v=>ab λz=>w (z▸v),c,f,λk S q N R=>?_);rcases getE_set N with⟨rfl,_⟩|⟨_,z⟩
  .erw[g k d q M R]
  .erw[g k S q z R]
def EnvD.frz{Y'}(E:EnvD ν K G0 H0 G H σ Y)(u:Y'.length=Y.length)(h:∀(i:Nat) s,Y'[i]?=some s->Y[i]?=some s\/∃d,Y[i]?=some (.own d)/\s=.dat d):∃M,EnvD ν K G0 H0 M H σ Y'/\Same G M:=by
 classical
 let P:Addr->Prop:=λb=>∃(i:Nat)(d:D),Y[i]?=some (.own d)/\Y'[i]?=some (.dat d)/\σ[i]?=some (some (.ref b))
 have S:∀b,P b->G b=.none/\H0 b=.none:=λb ⟨i,d,Z,_,R⟩=>by
  obtain⟨p,a,c,f,_⟩:=E.own i d Z;rw[R]at a;cases a;exact(c,f)
 let M:Hp:=λb=>if P b then H b else G b
 have O:∀b,P b->M b=H b:=λb h=>if_pos h
 have J:∀b,¬P b->M b=G b:=λb h=>if_neg h
 have N:Same G M:=λb o e=>by rw[J b λh=>by rw[(S b h).1]at e;cases e];erw[e]
 have nd:∀{i:Nat}{s:Sl},Y'[i]?=some s->(∀d,s≠.dat d)->Y[i]?=some s:=λL w=>(h _ _ L).elim id λ⟨d,_,e⟩=>absurd e (w d)
 refine(M,((E.ext.hh,E.ext.gg.trans N,λb o e=>?_,λb o A W=>?_),by rw[u];erw[E.len],λi d L=>?_,λi d L=>E.lent i d (nd L @0),λi d L=>?_,λi j d e p L U=>E.apart i j d e p (nd L @0) (nd U @0),λi d L=>?_,λi j d e L U=>E.io.one i j d e (nd L @0) (nd U @0),λi L=>E.io.fr i (nd L @0)),N)
 .by_cases c:P b
  .rw[O b c]at e;erw[e]
  .rw[J b c]at e;erw[E.ext.gh b o e]
 .rw[J b λh=>by rw[(S b h).2]at W;cases W];erw[E.ext.nw b o A W]
 .rcases h i _ L with z|⟨V,z,e⟩
  .obtain⟨v,a,b⟩:=E.dat i d z
   exact(v,a,b.mono N)
  .cases e
   obtain⟨p,a,c,f,g⟩:=E.own i d z;have q:=O p (i,d,z,L,a);obtain⟨Q,I,rfl,T,R⟩:=g;exact(_,a,.list (q.trans T) (R.mono N))
 .have z:=nd L @0
  obtain⟨p,a,c,f,g⟩:=E.own i d z;refine(p,a,?_,f,?_)
  .rw[J p λ⟨j,V,B,X,C⟩=>by cases E.apart i j d V p z B a C;rw[L]at X;cases X];erw[c]
  .obtain⟨Q,I,Z,T,R⟩:=g
   exact(Q,I,Z,T,R.mono N)
 .obtain⟨p,y,a,b,c,f,g⟩:=E.io.at' i d (nd L @0)
  exact(p,y,a,b.go N λk k=>rfl,λx F=>(by rw[J x λ⟨j,V,B,_,C⟩=>g j V x B C F];exact (c x F).1,(c x F).2),f,λj e q U=>g j e q (nd U @0))
def EnvD.freeze1(E:EnvD ν K G0 H0 G H σ Y)(L:Y[i]?=some (.own d)):∃J,EnvD ν K G0 H0 J H σ (Y.set i (.dat d))/\Same G J:=
 E.frz @0 λj s M=>(getE_set M).elim (λ⟨e,q⟩=>.inr (d,e▸L,q)) λ⟨_,q⟩=>.inl q
theorem EnvD.freeze(E:EnvD ν K G0 H0 G H σ Y):∃J,EnvD ν K G0 H0 J H σ (Y.map freeze)/\Same G J:=
 E.frz @0 λj s L=>by
  rw[gm0]at L;obtain⟨M,q,rfl⟩:=mx0 L;cases M with
  |own d=>exact .inr (d,q,rfl)
  |_=>exact .inl q
def EnvD.ioGo{d e}{p:Addr}{fp}(E:EnvD ν K G0 H0 G H σ Y)(Z:Y[i]?=some (.io d))(C:σ[i]?=some (some (.ref p)))(T:IoAt ν K G H d p fp)(x:Ext G (er H fp) G' (er H' fp))(I:∀b∈fp,G' b=.none)(new:IoAt ν K G' H' e p fp):EnvD ν K G0 H0 G' H' σ (Y.set i (.io e)):=by
 obtain⟨w,V,a,b,c,f,g⟩:=E.io.at' i d Z;rw[C]at a;cases a;obtain rfl:=b.same (Same.refl _) (λl h=>h) T rfl;have keep:∀{b o},b∉V->H b=some o->H' b=some o:=λnb M=>(dB (x.hh _ _ (by rw[aH nb];erw[M]))).2
 have B:∀{b o},H0 b=some o->b∉V:=λM A=>by rw[(c _ A).2]at M;cases M
 refine((λb o M=>keep (B M) (E.ext.hh b o M),E.ext.gg.trans x.gg,x.gh.trans dC,λb o W N=>x.nw b o (E.ext.nw b o W N) (by rw[aH (B N)];erw[E.ext.hh b o N])),by simp[E.len],λj L J=>?_,λj L J=>E.lent j L (getE_io J @0).2,λj L J=>?_,λj k L U q J O=>E.apart j k L U q (getE_io J @0).2 (getE_io O @0).2,λj L J=>?_,λj k L U J O=>?_,λj J=>E.io.fr j (getE_io J @0).2)
 .obtain⟨v,R,a2⟩:=E.dat j L (getE_io J @0).2
  exact(v,R,a2.mono x.gg)
 .have z:=(getE_io J @0).2
  obtain⟨q,R,a2,S,F⟩:=E.own j L z;have Q:=g j L q z R;obtain⟨o,y⟩:=F.some;refine(q,R,x.nw q o a2 (by rw[aH Q];erw[y]),S,?_);obtain⟨P,u,W,N,X⟩:=F;exact(P,u,W,keep Q N,X.mono x.gg)
 .rcases getE_set J with⟨rfl,z⟩|⟨ne,z⟩
  .cases z
   exact(p,V,C,new,λb M=>(I b M,(c b M).2),f,λk U q O=>g k U q (getE_io O @0).2)
  .erw[absurd (E.io.one j i _ _ z Z) ne]
 .have io:∀{j:Nat}{L:D},(Y.set i (.io e))[j]?=some (.io L)->j=i:=λJ=>(getE_set J).elim (·.1) λ⟨_,z⟩=>E.io.one _ _ _ _ z Z
  rw[io J,io O]
def EnvD.ownGo{d e}{p:Addr}(E:EnvD ν K G0 H0 G H σ Y)(U:Y[i]?=some (.own (.list d)))(F:σ[i]?=some (some (.ref p)))(x:Ext G (er H [p]) G' (er H' [p]))(gn:G' p=.none)(new:OwnAt K G' H' (.list e) p):EnvD ν K G0 H0 G' H' σ (Y.set i (.own (.list e))):=by
 obtain⟨t,a,c,f,g⟩:=E.own i _ U;rw[F]at a;cases a;have keep:∀{b o},b≠p->H b=some o->H' b=some o:=λnb M=>(dB (x.hh _ _ (by rw[aH (by simpa using nb)];erw[M]))).2
 have u:∀{b o},H0 b=some o->b≠p:=λM hm=>by rw[hm,f]at M;cases M
 have io:∀{j:Nat}{L:D},(Y.set i (.own (.list e)))[j]?=some (.io L)->Y[j]?=some (.io L):=λJ=>(getE_io J @0).2
 refine((λb o M=>keep (u M) (E.ext.hh b o M),E.ext.gg.trans x.gg,x.gh.trans dC,λb o S R=>x.nw b o (E.ext.nw b o S R) (by rw[aH (by simpa using u R)];erw[E.ext.hh b o R])),by simp[E.len],λj L J=>?_,λj L J=>E.lent j L (getE_io J @0).2,λj L J=>?_,λj k A gs q J V s T=>?_,λj L J=>?_,λj k L B J V=>E.io.one j k L B (io J) (io V),λj J=>E.io.fr j (getE_io J @0).2)
 .obtain⟨v,Z,a2⟩:=E.dat j L (getE_io J @0).2
  exact(v,Z,a2.mono x.gg)
 .rcases getE_set J with⟨rfl,z⟩|⟨ne,z⟩
  .cases z;exact(p,F,gn,f,new)
  .obtain⟨q,Z,a2,r,X⟩:=E.own j L z
   have l:q≠p:=by rintro rfl;erw[ne (E.apart j i _ _ q z U Z F)]
   obtain⟨o,O⟩:=X.some;refine(q,Z,x.nw q o a2 (by rw[aH (by simpa using l)];erw[O]),r,?_);obtain⟨n,vs,S,R,h3⟩:=X;exact(n,vs,S,keep l R,h3.mono x.gg)
 .have W:∀{j:Nat}{A:D},(Y.set i (.own (.list e)))[j]?=some (.own A)->∃C,Y[j]?=some (.own C):=λJ=>(getE_set J).elim (by rintro ⟨e,_⟩;exact(_,e▸U)) λ⟨_,z⟩=>(_,z)
  obtain⟨_,P⟩:=W J;obtain⟨_,I⟩:=W V;erw[E.apart j k _ _ q P I s T]
 .obtain⟨t,fp,a,b,c,h,Q⟩:=E.io.at' j L (io J)
  have w:=Q i _ p U F;refine(t,fp,a,b.go x.gg λy N=>?_,λy N=>?_,h,λk B q V T=>?_)
  .obtain⟨o,O⟩:=b.some y N
   rw[keep (λz=>w (z▸N)) O,O]
  .obtain⟨o,O⟩:=b.some y N
   exact(x.nw y o (c y N).1 (by rw[aH (λm=>w (by rw[<-List.mem_singleton.mp m];erw[N]))];erw[O]),(c y N).2)
  .rcases getE_set V with⟨rfl,_⟩|⟨_,z⟩
   .erw[Q k _ q U T]
   .erw[Q k B q z T]
end
end L2.Z
namespace L2
open PySem PySem.Spec PyProof.Rows
section
variable {Y:Type}[DecidableEq Y]
def eg(kvs:List (Y×V))(k:Y):Option V:=(kvs.find? λJ=>decide (J.1=k)).map (·.2)
def putK(kvs:List (Y×V))(k:Y)(v:V):List (Y×V):=
 if (kvs.any λJ=>decide (J.1=k))=true then kvs.map (λJ=>if J.1=k then (J.1,v)else J)else kvs++[(k,v)]
def jK{p}{r}{k:Y}(e:p.1=k):eg (p::r) k=some p.2:=by simp[eg,e]
def jL{p}{r}{k:Y}(e:¬ p.1=k):eg (p::r) k=eg r k:=by simp[eg,e]
def pN(kvs)(k:Y)(v:V):(putK kvs k v).length<=kvs.length+1:=by
 unfold putK
 grind
def RelO.isSome_eq{o:Option V}{u}(r:RelO o u):o.isSome=u.isSome:=by
 cases o with
 |none=>cases u with
  |none=>rfl
  |some _=>exact (r).elim
 |some _=>cases u with
  |none=>exact (r).elim
  |some _=>rfl
theorem RelO.getD{o:Option V}{u}{d}{d'}(r:RelO o u)(J:RelV d d'):RelV (o.getD d) (u.getD d'):=by
 cases o with
 |none=>cases u with
  |none=>exact J
  |some _=>exact (r).elim
 |some _=>cases u with
  |none=>exact (r).elim
  |some _=>exact r
def KV.val{kvs:List (Y×V)}{vs:List (Y×Value)}(r:KV kvs vs)(k:Y):RelO (eg kvs k) (valueAt vs k):=by
 induction r with
 |nil=>exact True.intro
 |@cons p q N K h t ih=>
  obtain⟨L,M⟩:=h
  by_cases e:p.1=k
  .have J:=L.symm.trans e
   have b:valueAt (q::K) k=some q.2:=by simp[valueAt,J]
   rwa [jK e,b]
  .have J:¬ q.1=k:=λz=>e (L.trans z)
   have b:valueAt (q::K) k=valueAt K k:=by simp[valueAt,J]
   rwa [jL e,b]
theorem KV.any{kvs:List (Y×V)}{vs:List (Y×Value)}(r:KV kvs vs)(k:Y):(kvs.any λJ=>decide (J.1=k))=vs.any λJ=>decide (J.1=k):=by
 induction r<;>simp_all
def KV.repl{kvs:List (Y×V)}{vs:List (Y×Value)}(r:KV kvs vs)(k:Y){y:V}(O:RelV y u):
  KV (kvs.map λJ=>if J.1=k then (J.1,y)else J) (vs.map λJ=>if J.1=k then (J.1,u)else J):=by
 unfold KV at r ⊢
 induction r with
 |nil=>exact .nil
 |@cons p q M N h t ih=>
  rw[mk0,mk0];refine .cons ?_ ih;obtain⟨K,L⟩:=h
  by_cases e:p.1=k<;>simp_all
def KV.put{kvs:List (Y×V)}{vs:List (Y×Value)}(r:KV kvs vs)(k:Y){y:V}(J:RelV y u):KV (putK kvs k y) (stored vs k u):=by
 unfold putK stored;rw[r.any k]
 by_cases e:(vs.any λK=>decide (K.1=k))=true
 .rw[if_pos e,if_pos e];erw[r.repl k J]
 .rw[if_neg e,if_neg e];erw[Paired.snoc r (rfl,J)]
def KV.keys{kvs:List (Y×V)}{vs:List (Y×Value)}(r:KV kvs vs):kvs.map (·.1)=vs.map (·.1):=by
 induction r<;>simp_all
theorem KV.length{kvs:List (Y×V)}{vs:List (Y×Value)}(r:KV kvs vs):kvs.length=vs.length:=Paired.length r
end
def lA{k:Key}(r:RelV (kV k) u):(aD P w).is k u=true:=by
 cases k with
 |inl i=>obtain⟨t,e⟩:=(r);subst e;erw[oZ P w i t]
 |inr x=>obtain⟨t,e⟩:=(r);subst e;erw[pd P w x t]
theorem lC :∀{J}{us:A2},Vals (J.map kV) us->ItemsAre (aD P w) J us
 |[],_,r=>by rw[List.map_nil]at r;cases r;exact .nil
 |k::J,_,r=>by
  rw[mk0]at r;cases r with
  |cons h t=>exact .cons (lA h) (lC t)
section
variable {a:Addr}
def EC{u}(ok:HOk P w H h)(e:Rd H a u):ObjOk P w H h a u:=e.ok ok
def lD(ok:HOk P w H h)(e:Rd H a (.dK kvs)):kvs.length<=sizeLine/\(a==sysModules)=false/\∃vs,KV kvs vs/\h.DictOf (aD P w) a vs:=
 EC ok e
def cW{ks}(ok:HOk P w H h)(e:H a=some (.tup (ks.map kV))):(tupleKind (aD P w)).is h ks a:=by
 obtain⟨_,J,r,o,K,L,n,M⟩:=(ok a _ e:ObjOk P w H h a (.tup (ks.map kV)));exact(o,J.toArray,n,K,L,M,by simpa using lC r)
end
def rZ(H:Hp)(a:Addr)(y:V)(r:Option V):Prop:=
 (∃J k,Rd H a (.dK J)/\y=kV k/\r=eg J k)
section
variable {a:Addr}{y v:V}{r:Value}{o:Option V}{E:A0}
def Inv.big(I:Inv X Zp σ H s):sysModules<s.heap.objs.size:=Nat.lt_trans @2 ((I.mod.glob.keeps I.bk).lt)
def wm(Y:A.units+1<cLine)(I:Inv X Zp σ H s)(g:rZ H a y (some v))(V:RelV y u)(h:∀J M,Inv X Zp σ H M->RelV v J->Q J M):
  wpAny @4 A (getItem (.ref a) u) Q E s:=by
 obtain⟨U,k,e,O,l⟩:=g
 .subst O
  obtain⟨z,W,Z,K,N⟩:=lD I.hok e;obtain⟨J,R,L⟩:=RelO.some_of (by rw[l];erw[K.val k]);erw[wpAny_getItem_of (lA V) N.mapOf R (h J _ (I.tok _) L)]
def Mr(U:A.units+1<cLine)(I:Inv X Zp σ H s)(g:rZ H a y o)(R:RelV y u)(h:∀K,Inv X Zp σ H K->Q (.bool o.isSome) K):
  wpAny @4 A (compareOp .In u (.ref a)) Q E s:=by
 obtain⟨O,k,e,M,l⟩:=g
 .subst M
  obtain⟨z,N,V,J,L⟩:=lD I.hok e;refine wpAny_in_of (lA R) N L.mapOf ?_;rw[<-(J.val k).isSome_eq,<-l];erw[h _ (I.tok _)]
def Cu(U:A.units+1<cLine)(I:Inv X Zp σ H s)(g:rZ H a y o)(R:RelV y u)(h:∀K,Inv X Zp σ H K->Q (.bool (!o.isSome)) K):
  wpAny @4 A (compareOp .NotIn u (.ref a)) Q E s:=by
 obtain⟨O,k,e,M,l⟩:=g
 .subst M
  obtain⟨z,N,V,J,L⟩:=lD I.hok e;refine wpAny_notIn_of (lA R) N L.mapOf ?_;rw[<-(J.val k).isSome_eq,<-l];erw[h _ (I.tok _)]
def Gp{H'}{h'}{vs}(z:kvs.length<=sizeLine)(L:(a==sysModules)=false)(J:KV kvs vs)(K:h'.DictOf (aD P w) a vs):
  ObjOk P w H' h' a (.dK kvs):=(z,L,vs,J,K)
end
section
variable {a:Addr}{k:Key}{E:A0}
end
section
variable {i value:Expr}{tpos:Pos}{td ty tv:TE}
end
def yk(h:Heap)(J:sysModules<h.objs.size):ObjOk P w H (h.push {cls:=.type "dict",data:=.dict #[]}) h.objs.size (.dK []):=
 (Nat.zero_le _,bn0 (Ne.symm (nn0 J)),[],.nil,Heap.DictOf.new h)
def Gq:TE:=λa H Q=>∀p,H p=none->Q (.ref p) (upd H p (.dK []))
def pP:PE X (.Dict [] [] pos) Gq:=λJ s K H Q I h=>
 wpAny_Dict_empty (.ref _,_,I.laid (λa a q=>ps0 _ q) (nr0 _) (yk _ I.big),rfl,h _ (I.hok.fresh (nr0 _)))
def eh(kvs more:List (Key×V)):List (Key×V):=more.foldl (λJ K=>putK J K.1 K.2) kvs
def KV.merge:∀{more:List (Key×V)}{J:List (Key×Value)}{kvs:List (Key×V)}{vs},KV more J->KV kvs vs->KV (eh kvs more) (merged vs J):=by
 intro more J kvs vs r
 induction r generalizing kvs vs with
 |nil=>intro q;erw[q]
 |@cons p q L M h t ih=>
  intro K;have e:KV (putK kvs p.1 p.2) (stored vs q.1 q.2):=by
   have:=K.put p.1 h.2
   rwa [<-h.1]
  erw[ih e]
theorem jj:∀(more kvs:List (Key×V)),(eh kvs more).length<=kvs.length+more.length
 |[],kvs=>by show kvs.length<=kvs.length+0;lia
 |p::r,kvs=>by
  have J:=jj r (putK kvs p.1 p.2);have K:=pN kvs p.1 p.2;show (eh _ r).length<=_
  grind
structure M1(X:Cx)(o:Expr)(m:Str)(apos:Pos)(e:Expr)(cpos:Pos):Prop where
 base:attributeBase o m X.env (eval o X.env)=eval o X.env
 few:((backTo cpos (starEach [e] X.env)).all (λx=>!x.1)&&(backToKw cpos (keywordEach [] X.env)).all (λx=>x.1.isSome)
  &&decide (([e]:A3).length+([]:List Keyword).length+(if ([]:List Keyword).isEmpty then 0 else 1)<30))=true
 line:@15=true
 trees:backTo cpos (starEach [e] X.env)=[(false,eval e X.env)]
def IsD(H:Hp)(a:Addr):Prop:=(∃J,Rd H a (.dK J))
def Gr{a:Addr}(I:Inv X Zp σ H s)(d:IsD H a):
  s.TypeIs (.ref a) "dict"/\(∀b,Value.ref a=.ref b->∃J,s.heap.get? b=some J/\J.dict=none)/\(a==sysModules)=false:=by
 obtain⟨O,e⟩:=d
 .obtain⟨_,N,R,_,K⟩:=lD I.hok e
  refine(K.typeIs,λb q=>?_,N);cases q;obtain⟨J,_,_,L,M,_⟩:=K;exact(J,L,M.2.1)
section
variable {a:Addr}{y d:V}{r:Value}{o:Option V}{E:A0}
def Gs(V:A.units+1<cLine)(I:Inv X Zp σ H s)(g:rZ H a y o)(U:RelV y u)(h:∀M L,Inv X Zp σ H L->RelV (o.getD .non) M->Q M L):
  wpAny @4 A (call (.builtin "dict.get") [.ref a,u]) Q E s:=by
 obtain⟨R,k,e,N,l⟩:=g
 .subst N
  obtain⟨z,O,W,J,K⟩:=lD I.hok e;refine call_meetsIn PySem.F.slot_dict_get K.typeIs PySem.F.entry_dict_get (PySem.F.args_dict_get_2 _ _) (meets_dict_get _ a (lA U) O) (_,K.mapOf,h _ _ (I.tok _) ?_);rw[l];exact (J.val k).getD rfl
end
def Gu(M N:TE):TE:=λL H Q=>M L H λx J=>∃a,x=.ref a/\IsD J a/\N L J λy K=>∃o,rZ K a y o/\Q (o.getD .non) K
section
variable {f:Expr}{cpos:Pos}{td ty tx:TE}
def ym(Y:X.A.units+1<cLine)(W:PE X o td)(V:PE X e ty)(m:M1 X o "get" apos e cpos):PE X (.Call (.Attribute o "get" apos) [e] [] cpos) (Gu td ty):=by
 intro J s M H Q I h;refine wpAny_Call_method m.base m.few m.line PySem.F.plainAttrs_dict PySem.F.slot_dict_get PySem.F.type_dict_get (thn (W J s M H _ I h) ?_);rintro u C ⟨x,N,L,D,a,ex,d,Z⟩;subst ex;obtain rfl:u=Value.ref a:=D;obtain⟨S,P,_⟩:=Gr L d;refine(S,P,?_);rw[m.trees];refine Calls.callWith_builtin rfl (Calls.evalArgs_plain (Calls.spliced_cons (thn (V J C M N _ L Z) λG j ⟨y,O,R,B,E,g,T⟩=>Calls.spliced_nil ?_)));erw[Gs Y R g B λq z U K=>(_,O,U,K,T)]
end
section
variable {a:Addr}{E:A0}
end
section
variable {a:Addr}{y:V}{E:A0}
end
section
variable {Y:Type}[DecidableEq Y]
end
end L2
namespace L2.Z
open PySem PySem.Spec PyProof.Rows L2 L2.C SI
inductive Das (K:Fg)(G H:Hp):List Bool->List D->List V->Prop
 |nil {fl:List Bool}:Das K G H fl [] []
 |cons {fl:List Bool}{d:D}{v:V}{ds:List D}{vs:List V}:(fl.headD false=false->Dp K G d v)->Dr K G H d v->Das K G H fl.tail ds vs->Das K G H fl (d::ds) (v::vs)
theorem Das.dps{G H}:∀{ds:List D}{vs},Das K G H [] ds vs->Dps K G ds vs
 |_,_,.nil=>.nil
 |_,_,.cons J _ r=>.cons (J rfl) (Das.dps r)
theorem Das.length{G H}{vs}(h:Das K G H fl ds vs):ds.length=vs.length:=by
 induction h<;>simp_all
def tEv(ν:NK)(K:Fg)(Y:List Sl)(d:D):TE:=λO H Q=>∃M N G,EnvD ν K M N G H O Y/\∀v J L,Ext G H J L->Dp K J d v->Q v L
def tEr(ν:NK)(K:Fg)(Y:List Sl)(d:D):TE:=λO H Q=>∃M N G,EnvD ν K M N G H O Y/\∀v L J,Ext G H L J->Dr K L J d v->Q v J
def tEt(ν:NK)(K:Fg)(Y:List Sl)(b:Bool):TT:=λO H Q=>∃M N G,EnvD ν K M N G H O Y/\∀L J,Ext G H L J->Q b J
def tEa(ν:NK)(K:Fg)(Y:List Sl)(fl:List Bool)(ds:List D):TA:=λR H Q=>∃N O G,EnvD ν K N O G H R Y/\∀M L J,Ext G H L J->Das K L J fl ds M->Q M J
def tEn(ν:NK)(K:Fg)(Y:List Sl)(d:D):TE:=λO H Q=>∃M N G,EnvD ν K M N G H O Y/\∀p J L,Ext G H J L->J p=.none->H p=.none->OwnAt K J L d p->Q (.ref p) L
def Ev(X:Cx)(Y:List Sl)(e:Expr)(d:D):Prop:=PE X e (tEv X.nk X.K Y d)
def Er(X:Cx)(Y:List Sl)(e:Expr)(d:D):Prop:=PE X e (tEr X.nk X.K Y d)
def Et(X:Cx)(Y:List Sl)(e:Expr)(b:Bool):Prop:=PT X e (tEt X.nk X.K Y b)
def Ew(X:Cx)(Y:List Sl)(e:Expr)(b:Bool):Prop:=PW X e (tEt X.nk X.K Y b)
def Ea(X:Cx)(Y:List Sl)(fl:List Bool)(es:A3)(ds:List D):Prop:=PA X es (tEa X.nk X.K Y fl ds)
def En(X:Cx)(Y:List Sl)(e:Expr)(d:D):Prop:=PE X e (tEn X.nk X.K Y d)
theorem OwnAt.show{G H G' H'}{p}(e:Ext G H G' H')(g:G' p=.none)(M:H p=.none)(o:OwnAt K G' H' d p):∃L,Ext G H L H'/\Dp K L d (.ref p):=by
 obtain⟨R,J⟩:=o.some;refine(upd G' p R,e.show M J g,?_);obtain⟨U,V,rfl,N,O⟩:=o;rw[N]at J;cases J;exact .list aa (O.mono (aG g))
def En.ev(h:En X Y e d):Ev X Y e d:=by rintro J s N H Q I ⟨K,M,G,E,k⟩;exact h _ s N H Q I (K,M,G,E,λp O L e g V o=>let ⟨R,U,r⟩:=o.show e g V;k _ R L U r)theorem Ev.er {e:Expr} (h:Ev X Y e d):Er X Y e d:=by rintro J s N H Q I ⟨K,M,G,E,k⟩;erw[h J s N H Q I (K,M,G,E,λv O L e r=>k v O L e (.of r))]
def Ew.et{b}(h:Ew X Y e b):Et X Y e b:=PW.pt h
def yn{i j pos}:Ev X Y (.Constant (.int i) j pos) (.int i):=by rintro J s K H Q I ⟨L,M,G,E,k⟩;erw[Fu J s K H Q I (k _ G H (.refl E.sub) (.int i))]
def JI{b j pos}:Ev X Y (.Constant (.bool b) j pos) (.bool b):=by rintro J s M H Q I ⟨K,L,G,E,k⟩;exact (have h:=(k _ G H (.refl E.sub) (.bool b));Constant_bool (.bl b,H,I,rfl,h))
def Gv{j pos}:Ev X Y (.Constant .none j pos) .none:=by rintro J s M H Q I ⟨K,L,G,E,k⟩;exact (have h:=(k _ G H (.refl E.sub) .none);Constant_none (.non,H,I,rfl,h))
def Gw{x j pos}(h:PyData.strOk x=true):Ev X Y (.Constant (.str x) j pos) (.str x):=by rintro J s K H Q I ⟨L,M,G,E,k⟩;erw[Fw J s K H Q I (k _ G H (.refl E.sub) (.str x h))]
def yq(i:Nat){x}{pos}(h:(Y[i]?).bind (aF .read)=some d)(O:X.N[i]?=some x)(U:Vis X.env.scope x)(R:(x==("__debug__":Str))=false)(J:(x==("__classdict__":Str))=false):Er X Y (.Name x pos) d:=by
 rintro K s V H Q I ⟨W,Z,G,E,k⟩
 obtain⟨sl,L,M⟩:=bx0 h;obtain⟨v,e,r⟩:=E.read L M;erw[fF O U R J _ s V H Q I (v,e,k v G H (.refl E.sub) r)]
def starEach_cons{es}{env}(h:isStar e=false):starEach (e::es) env=(false,eval e env)::starEach es env:=by cases e<;>first|rfl|cases h
def ir :Ea X Y fl [] []:=by rintro K J s L H Q I ⟨M,N,G,E,k⟩;erw[pa_nil K J s L H Q I (k [] G H (.refl E.sub) .nil)]
def cC{es}(Z:Ev X Y e d)(T:Ea X Y fl.tail es ds)(hs:isStar e=false):Ea X Y fl (e::es) (d::ds):=
 by rintro L J s D H Q I ⟨M,N,G,E,k⟩;exact pa_cons Z T (starEach_cons hs) L J s D H Q I (M,N,G,E,λv U B O R=>
  (M,N,U,E.step O,λC V W K F=>k _ V W (O.trans K) (.cons (λa=>R.mono K.gg) (.of (R.mono K.gg)) F)))
def pQ{es}(V:Er X Y e d)(C:fl.headD false=true)(W:Ea X Y fl.tail es ds)(hs:isStar e=false):Ea X Y fl (e::es) (d::ds):=
 by rintro Z N s D H Q I ⟨J,K,G,E,k⟩;erw[pa_cons V W (starEach_cons hs) _ _ s D H Q I (J,K,G,E,λv O B L T=>(J,K,O,E.step L,λS R U M F=>k _ R U (L.trans M) (.cons (λc=>by simp_all) (T.ext M) F)))]
abbrev R2r(K:Fg)(r:R2)(d1 d2 d:D):Prop:=∀(x y:V)(G H:Hp)(Q:VK),Same G H->Dr K G H d1 x->Dr K G H d2 y->(∀v J L,Ext G H J L->Dp K J d v->Q v L)->r x y H Q
abbrev R2n(K:Fg)(r:R2)(d1 d2 d:D):Prop:=∀(x y:V)(G H:Hp)(Q:VK),Same G H->Dr K G H d1 x->Dr K G H d2 y->(∀p J L,Ext G H J L->J p=.none->H p=.none->OwnAt K J L d p->Q (.ref p) L)->r x y H Q
def ev_op{op}{r}(B:OpR X (binaryOp op) r)(F:Er X Y a d1)(D:Er X Y b d2)(h:R2r X.K r d1 d2 d):Ev X Y (.BinOp a op b pos) d:=
 λO s A H Q I ⟨L,M,G,E,k⟩=>xJ B F D _ s A H Q I (L,M,G,E,λx U j N C=>(L,M,U,E.step N,λy V Z J S=>
  h x y V Z Q J.gh (C.ext J) S λv R W T P=>k v R W (N.trans (J.trans T)) P))
def en_op{op}{r}(S:OpR X (binaryOp op) r)(B:Er X Y a d1)(C:Er X Y b d2)(h:R2n X.K r d1 d2 d):En X Y (.BinOp a op b pos) d:=
 by rintro J s z H Q I ⟨N,O,G,E,k⟩;exact xJ S B C J s z H Q I (N,O,G,E,λx U q M P=>(N,O,U,E.step M,λy V Z L A=>
  h x y V Z Q L.gh (P.ext L) A λp R W T F D j=>k p R W (M.trans (L.trans T)) F (M.hh.free (L.hh.free D)) j))
def pR{r}(B:IxR X r)(F:Er X Y a d1)(D:Ev X Y b d2)(h:R2r X.K r d1 d2 d)(hs:isSlice b=false):Ev X Y (.Subscript a b pos) d:=
 by rintro O s A H Q I ⟨L,M,G,E,k⟩;exact pB B F D (by cases b<;>first|exact λc c=>rfl|cases hs) _ s A H Q I ⟨L,M,G,E,λx U j N C=>(L,M,U,E.step N,λy V Z J S=>h x y V Z Q J.gh (C.ext J) (.of S) λv R W T P=>k v R W (N.trans (J.trans T)) P)⟩
def lF{g}{i j}(J:∀G,Dp K G d (g i j)):R2r K (rI0 g) (.int i) (.int j) d:=λx y G H Q s L M k=>(i,j,L.int,M.int,k _ G H (.refl s) (J G))
def r2_I{C}{g}{i j}(J:C i j)(L:∀G,Dp K G d (g i j)):R2r K (rI C g) (.int i) (.int j) d:=λx y G H Q s M N k=>(i,j,M.int,N.int,J,k _ G H (.refl s) (L G))
def big_eq:SI.big=sizeLine:=rfl
def strOk_iff{x}:PyData.strOk x=true↔∀c∈x.cps.toList,c<0x110000:=by
 unfold PyData.strOk;rw[<-Array.all_toList,List.all_eq_true];simp
def KG{ds es}(h:ds.length+es.length<=sizeLine):R2n K Mj (.list ds) (.list es) (.list (ds++es)):=λx y G H Q s R U k=>by
 obtain⟨a,V,rfl,N,L⟩:=R.lst s;obtain⟨b,W,rfl,O,M⟩:=U.lst s;exact(a,b,V,W,rfl,rfl,N,O,by rw[<-L.length,<-M.length];erw[h],λp J=>k p G _ (.hid s J) (s.free J) J (_,_,rfl,aa,L.append M))
set_option tactic.hygienic true in
def mul_eq(x:Str)(j:Int):Txt.mul x j=⟨((List.replicate j.toNat x.cps.toList).flatten).toArray⟩:=by
 have K:∀(n:Nat)(J:List Nat),(List.replicate n x.cps).foldl (·++·) J.toArray=(J++(List.replicate n x.cps.toList).flatten).toArray:=by
  intro n
  induction n with
  |zero=>intro J;simp
  |succ n ih=>
   intro J;rw[List.replicate_succ,List.foldl_cons,List.replicate_succ,List.flatten_cons];have e:J.toArray++x.cps=(J++x.cps.toList).toArray:=by simp
   rw[e,ih,List.append_assoc]
 unfold Txt.mul;split
 .rename_i h
  have:j.toNat=0:=by lia
  rw[this];rfl
 .rename_i h
  split
  .rename_i h2
   rw[Bool.or_eq_true]at h2;rcases h2 with h2|h2
   .have:j.toNat=1:=by have:=eq_of_beq h2;lia
    rw[this];simp
   .have e:x.cps.toList=[]:=by
     have:x.cps.size=0:=eq_of_beq h2;erw[ez0 (by simpa using this)]
    have L:(List.replicate j.toNat x.cps.toList).flatten=[]:=by rw[e];simp
    rw[L];cases x with|mk c=>congr 1;erw[Array.toList_inj.mp (by rw[e])]
  .have:=K j.toNat []
   rw[List.nil_append]at this;rw[<-this]
mutual
noncomputable def toW:D->PySem.W.Dat
 |.none=>.none
 |.bool b=>.bool b
 |.int i=>.int i
 |.str x=>.str x
 |.tuple J=>.tuple (fK J)
 |.list J=>.list (fK J)
 |.scr _=>.none
 |.vlt ..=>.none
 |.tbl _=>.none
 |.fdc _=>.none
noncomputable def fK:List D->List PySem.W.Dat
 |[]=>[]
 |d::r=>toW d::fK r
end
theorem gf{p}{q}:∀{ds:List D},(∀d∈ds,q d=true->p (toW d)=true)->ds.all q=true->(fK ds).all p=true
 |[],_,_=>rfl
 |d::r,h,a=>by
  rw[List.all_cons,be0]at a;show (p _&&(fK r).all p)=true;rw[h d ms0 a.1,gf (λe J=>h e (mc0 _ J)) a.2];rfl
def nL:∀(n m:Nat)(a b:D),okS n a=true->okS m b=true->toW a=toW b->a=b:=by
 intro n
 induction n with
 |zero=>
  intro m a b N L e;cases a with
  |none=>cases b<;>first|rfl|(cases e;done)|(cases m<;>cases L)
  |int i=>cases b<;>first|(cases e;rfl)|(cases e;done)
  |str x=>cases b<;>first|(cases e;rfl)|(cases e;done)
  |_=>cases N
 |succ n ih=>
  intro m a b N L e;have M:∀(m:Nat)(K J:List D),K.all (okS n)=true->J.all (okS m)=true->fK K=fK J->K=J:=by
   intro m K
   induction K with
   |nil=>intro J _ _ e;cases J with
    |nil=>rfl
    |cons=>cases e
   |cons d r U=>
    intro J O R e;cases J with
    |nil=>cases e
    |cons f q=>
     rw[List.all_cons,be0]at O R;have V:=e;injection V with Y Z
     rw[ih m d f O.1 R.1 Y,U q O.2 R.2 Z]
  cases a with
  |none=>cases b<;>first|rfl|(cases e;done)|(cases m<;>cases L)
  |int i=>cases b<;>first|(cases e;rfl)|(cases e;done)
  |str x=>cases b<;>first|(cases e;rfl)|(cases e;done)
  |tuple K=>
   cases b with
   |tuple J=>
    cases m with
    |zero=>cases L
    |succ m=>rw[M m K J N L (PySem.W.Dat.tuple.inj e)]
   |_=>cases e
  |list K=>
   cases b with
   |list J=>
    cases m with
    |zero=>cases L
    |succ m=>rw[M m K J N L (PySem.W.Dat.list.inj e)]
   |_=>cases e
  |_=>cases N
def Dps.mem(h:Dps K G ds vs)(J:d∈ds):∃v,Dp K G d v:=by
 obtain⟨k,e⟩:=List.getElem?_of_mem J;obtain⟨v,_,r⟩:=h.get e;exact(v,r)
def ug:∀(n:Nat)(d:D)(v:V),Dp K G d v->okS n d=true->PySem.W.kqdOk n (toW d)=true:=by
 intro n
 induction n with
 |zero=>
  intro d v h o;cases h with
  |none=>rfl
  |int i=>rfl
  |str x M=>exact M
  |_=>cases o
 |succ n ih=>
  intro d v h o;have J:∀{L:List D}{N:List V},Dps K G L N->L.all _=true->(fK L).all _=true:=λ{L N} r z=>
   gf (λe O R=>let ⟨u,q⟩:=r.mem O;ih e u q R) z
  cases h with
  |none=>rfl
  |int i=>rfl
  |str x M=>exact M
  |tuple _ r=>exact J r o
  |list _ r=>exact J r o
  |_=>cases o
def nM{H}(s:Same G H){v:V}(h:Dr K G H d v)(o:okS 20 d=true):PySem.W.kqdOk 20 (toW d)=true:=by
 cases h with
 |of h=>exact ug 20 d v h o
 |list _ r=>exact gf (λe J L=>let ⟨u,q⟩:=r.mem J;ug 19 e u q L) o
 |_=>rfl
def iu(I:Inv X Zp σ H s)(Y:Same G H){n}(ih:∀(d:D)(v:V)(u:Value),Dp X.K G d v->RelV v u->okS n d=true->∃J,Reads s.heap u (PySem.W.kqdP (toW d)) J):
  ∀{vs:List V}{us:A2}{ds:List D},Vals vs us->Dps X.K G ds vs->ds.all (okS n)=true->∃J,ReadsAll s.heap us (PySem.W.kqdPs (fK ds)) J:=by
 intro vs us ds r
 induction r generalizing ds with
 |nil=>intro q _;cases q;exact(_,ReadsAll.nil)
 |cons R _ L=>
  intro q z;cases q with
  |cons N O=>
   rw[List.all_cons,be0]at z;obtain⟨J,M⟩:=ih _ _ _ N R z.1;obtain⟨U,p2⟩:=L O z.2;exact(_,ReadsAll.cons M p2)
def pS(I:Inv X Zp σ H s)(J:Same G H):∀(n:Nat)(d:D)(v:V)(u:Value),Dp X.K G d v->RelV v u->okS n d=true->∃L,Reads s.heap u (PySem.W.kqdP (toW d)) L:=by
 intro n
 induction n with
 |zero=>
  intro d v u h r o;cases h with
  |none=>cases r;exact(_,Reads.none)
  |int i=>obtain⟨t,rfl⟩:=r;exact(_,Reads.int i t)
  |str x Y=>obtain⟨t,rfl⟩:=r;exact(_,Reads.str x t)
  |_=>cases o
 |succ n ih=>
  intro d v u h r o;cases h with
  |none=>cases r;exact(_,Reads.none)
  |int i=>obtain⟨t,rfl⟩:=r;exact(_,Reads.int i t)
  |str x Y=>obtain⟨t,rfl⟩:=r;exact(_,Reads.str x t)
  |tuple q p=>
   cases r;obtain⟨R,U,⟨Z,M,N,m,O⟩,_⟩:=I.tuple (SqT.of (J _ _ q));obtain⟨L,w⟩:=iu I J ih U p o;exact(_,Reads.tuple M N O (by omega))
  |list q p=>
   cases r;obtain⟨R,U,⟨Z,m,M,N,_,O⟩,_⟩:=I.list (SqL.of (J _ _ q));obtain⟨L,w⟩:=iu I J ih U p o;exact(_,Reads.list M N O (by omega))
  |_=>cases o
def bP(I:Inv X Zp σ H s)(J:Same G H){v:V}{u}(h:Dr X.K G H d v)(r:RelV v u)(o:okS 20 d=true):∃L,Reads s.heap u (PySem.W.kqdP (toW d)) L:=by
 cases h with
 |of h=>exact pS I J 20 d v u h r o
 |list q p=>
  cases r;obtain⟨R,U,⟨Y,m,M,N,_,O⟩,_⟩:=I.list (SqL.of q);obtain⟨L,w⟩:=iu I J (pS I J 19) U p o;exact(_,Reads.list M N O (by omega))
 |_=>cases o
def cu{n}{d}(o:PySem.W.kqdOk n d=true)(J:n<=64):SeqAt.shaped (PySem.W.kqdP d)=true:=by
 have l:=PySem.W.kqd_lay n d o;unfold SeqAt.shaped;rw[l.1];erw[dt0 (nt0 l.2 J)]
def JJ(K:Fg)(neg:Bool):R2:=λx y H Q=>∃G J L,Same G H/\Dr K G H J x/\Dr K G H L y/\okS 20 J=true/\okS 20 L=true/\Q (.bl (if neg then !decide (J=L)else decide (J=L))) H
def yr{x y}(s:Same G H)(M:Dr K G H d1 x)(N:Dr K G H d2 y)(J:okS 20 d1=true)(L:okS 20 d2=true):PyData.eqv (PySem.W.kqdP (toW d1)) (PySem.W.kqdP (toW d2))=decide (d1=d2):=by
 have q:=PySem.W.kqd_eqv 20 _ _ 20 (nM s M J) (nM s N L)
 by_cases e:d1=d2
 .rw[dt0 e];erw[q.mpr (by rw[e])]
 .rw[df0 e]
  erw[bf0 λz=>e (nL 20 20 d1 d2 J L (q.mp z))]
def Gy(U:X.A.units+64<cLine):OpR X (compareOp .Eq) (JJ X.K false):=by
 intro R s C H x y v u Q I Y Z h;obtain⟨G,D,B,J,L,M,N,O,q⟩:=h;obtain⟨T,V⟩:=bP I J L Y N;obtain⟨F,W⟩:=bP I J M Z O;erw[eq_dataH V W (cu (nM J L N) @2) (cu (nM J M O) @2) U (cw I q (yr J L M N O).symm)]
def Gz(U:X.A.units+64<cLine):OpR X (compareOp .NotEq) (JJ X.K true):=by
 intro R s C H x y v u Q I Y Z h;obtain⟨G,D,B,J,L,M,N,O,q⟩:=h;obtain⟨T,V⟩:=bP I J L Y N;obtain⟨F,W⟩:=bP I J M Z O;erw[ne_dataH V W (cu (nM J L N) @2) (cu (nM J M O) @2) U (cw I q (by rw[yr J L M N O];rfl))]
def Dr.dpsT{v:V}(h:Dr K G H (.tuple ds) v):∃vs,Dps K G ds vs:=by
 cases h with
 |of h=>cases h with|tuple _ r=>exact(_,r)
def Dr.dpsL{v:V}(h:Dr K G H (.list ds) v):∃vs,Dps K G ds vs:=by
 cases h with
 |of h=>cases h with|list _ r=>exact(_,r)
 |list _ r=>exact(_,r)
def yt{x}(s:Same G H)(M:Dr K G H d1 x)(J:okS 20 d1=true):∀{ds:List D}{vs:List V},Dps K G ds vs->ds.all (okS 19)=true->((PySem.W.kqdPs (fK ds)).any λy=>PyData.eqv y (PySem.W.kqdP (toW d1)))=ds.any λd=>decide (d=d1):=by
 intro ds
 induction ds with
 |nil=>intros;rfl
 |cons d r ih=>
  intro vs q o;cases q with
  |cons q N=>
   rw[List.all_cons,be0]at o;have e:=PySem.W.kqd_eqv 19 _ _ 20 (ug 19 d _ q o.1) (nM s M J);have L:PyData.eqv (PySem.W.kqdP (toW d)) (PySem.W.kqdP (toW d1))=decide (d=d1):=by
    by_cases z:d=d1
    .rw[dt0 z];erw[e.mpr (by rw[z])]
    .rw[df0 z];erw[bf0 λy=>z (nL 19 20 d d1 o.1 J (e.mp y))]
   show (PyData.eqv _ _||_)=(decide _||_);rw[L,<-ih N o.2]
def gi{G}(r:Dps K G ds vs)(o:ds.all (okS 19)=true):PyData.canLayAll0 (PySem.W.kqdPs (fK ds))=true/\PyData.depthAll (PySem.W.kqdPs (fK ds))<=20:=by
 have l:=PySem.W.kqd_lay 20 (.list _) (gf (λe J L=>let ⟨u,q⟩:=r.mem J;ug 19 e u q L) o);rw[PySem.W.kqdP]at l;simp only[PyData.canLay0,PyData.depth]at l
 grind
def JK(K:Fg)(neg:Bool):R2:=λx y H Q=>∃G d J L,Same G H/\Dr K G H d x/\Dps K G J L/\((Dr K G H (.list J) y)\/Dr K G H (.tuple J) y)/\okS 20 d=true/\J.all (okS 19)=true/\Q (.bl (if neg then !J.any (λe=>decide (e=d))else J.any λe=>decide (e=d))) H
def GA(B:X.A.units+64<cLine):OpR X (compareOp .In) (JK X.K false):=by
 intro U s S H x y v u Q I T Y h;obtain⟨G,d,D,C,J,M,r,h2,N,L,q⟩:=h;obtain⟨F,V⟩:=bP I J M T N;have l:=gi r L;have R:=PySem.W.kqd_lay 20 _ (nM J M N);rcases h2 with h2|h2
 .obtain⟨Z,O⟩:=bP I J h2 Y L
  erw[SeqAt.in_list_reads O V l.1 R.1 @1 (cw I q (yt J M N r L).symm)]
 .obtain⟨Z,O⟩:=bP I J h2 Y L
  erw[SeqAt.in_tuple_reads O V l.1 R.1 @1 (cw I q (yt J M N r L).symm)]
def wo(B:X.A.units+64<cLine):OpR X (compareOp .NotIn) (JK X.K true):=by
 intro U s S H x y v u Q I T Y h;obtain⟨G,d,D,C,J,M,r,h2,N,L,q⟩:=h;obtain⟨F,V⟩:=bP I J M T N;have l:=gi r L;have R:=PySem.W.kqd_lay 20 _ (nM J M N);rcases h2 with h2|h2
 .obtain⟨Z,O⟩:=bP I J h2 Y L
  erw[SeqAt.notIn_list_reads O V l.1 R.1 @1 (cw I q (by rw[yt J M N r L];rfl))]
 .obtain⟨Z,O⟩:=bP I J h2 Y L
  erw[SeqAt.notIn_tuple_reads O V l.1 R.1 @1 (cw I q (by rw[yt J M N r L];rfl))]
def GB(M:X.A.units+1<cLine):OpR X (compareOp .In) (λx y H Q=>∃a kvs k,y=.ref a/\x=kV k/\Rd H a (.dK kvs)/\Q (.bl (eg kvs k).isSome) H):=by
 intro J s U H x y v u Q I N O h;obtain⟨a,kvs,k,rfl,rfl,L,q⟩:=h;cases O;erw[Mr M I (kvs,k,L,rfl,rfl) N λR K=>(.bl _,H,K,rfl,q)]
theorem Dks.look{G}{k:Key}:∀{ds:List (Key×D)}{vs:List (Key×V)},Dks K G ds vs->(SI.look ds k=.none/\eg vs k=.none)\/∃d v,SI.look ds k=some d/\eg vs k=some v/\Dp K G d v:=by
 intro ds
 induction ds with
 |nil=>intro vs h;cases h;exact .inl (rfl,rfl)
 |cons _ _ ih=>
  intro vs h;cases h with
  |@cons l _ _ _ _ h r=>
   by_cases c:l=k
   .right
    refine(_,_,?_,jK c,h);show (if l=k then _ else _)=_;rw[if_pos c]
   .rw[jL c]
    show ((if l=k then _ else _)=_/\_)\/∃d v,(if l=k then _ else _)=_/\_;rw[if_neg c];erw[ih r]
def cW{v:V}{k:Key}(h:Dr K G H d v)(e:pI d=some k):v=kV k:=by
 cases d with
 |int i=>cases e;erw[h.int]
 |str x=>cases e;erw[h.str.1]
 |_=>cases e
def wt:OpR X (compareOp .LtE) (λx y H Q=>∃i j,x=.str i/\y=.str j/\Q (.bl (!decide (j.cps.toList<i.cps.toList))) H):=by
 intro J s N H x y v u Q I K L h;obtain⟨i,j,rfl,rfl,q⟩:=h;obtain⟨t,rfl⟩:=K;obtain⟨M,rfl⟩:=L;erw[PySem.P.le_str (cw I q rfl)]
set_option tactic.hygienic true in
def wW{op}{o}{t}(T:X.A.units+64<cLine)(W:rW op=some o)(h:dA o d1 d2=some t):∃r,OpR X (compareOp op) r/\R2r X.K r d1 d2 (.bool t):=by
 have B:X.A.units+1<cLine:=by lia
 have M:∀t,eqD d1 d2=some t->(∃r,OpR X (compareOp .Eq) r/\R2r X.K r d1 d2 (.bool t))/\∃r,OpR X (compareOp .NotEq) r/\R2r X.K r d1 d2 (.bool (!t)):=by
  clear h;intro t h;unfold eqD at h;split at h
  .rename_i c
   rw[be0]at c;cases h;exact((_,Gy T,λx y G H Q s J L k=>(G,d1,d2,s,J,L,c.1,c.2,k _ G H (.refl s) (.bool _))),(_,Gz T,λx y G H Q s J L k=>(G,d1,d2,s,J,L,c.1,c.2,k _ G H (.refl s) (.bool _))))
  .cases h
 have N:∀t,inD d1 d2=some t->(∃r,OpR X (compareOp .In) r/\R2r X.K r d1 d2 (.bool t))/\∃r,OpR X (compareOp .NotIn) r/\R2r X.K r d1 d2 (.bool (!t)):=by
  clear h M;intro t h;unfold inD at h;cases d2 with
  |str y=>
   cases d1 with
   |str x=>
    cases h;refine((_,vR,λu v G H Q s J L k=>(x,y,J.str.1,L.str.1,k _ G H (.refl s) (.bool _))),(_,nA,λu v G H Q s J L k=>(x,y,J.str.1,L.str.1,k _ G H (.refl s) (.bool _))))
   |_=>cases h
  |tuple F=>
   dsimp only at h;split at h
   .rename_i c
    rw[be0]at c;cases h;exact((_,GA T,λu v G H Q s J L k=>let ⟨U,r⟩:=L.dpsT;(G,d1,F,U,s,J,r,.inr L,c.1,c.2,k _ G H (.refl s) (.bool _))),(_,wo T,λu v G H Q s J L k=>let ⟨U,r⟩:=L.dpsT;(G,d1,F,U,s,J,r,.inr L,c.1,c.2,k _ G H (.refl s) (.bool _))))
   .cases h
  |list F=>
   dsimp only at h;split at h
   .rename_i c
    rw[be0]at c;cases h;exact((_,GA T,λu v G H Q s J L k=>let ⟨U,r⟩:=L.dpsL;(G,d1,F,U,s,J,r,.inl L,c.1,c.2,k _ G H (.refl s) (.bool _))),(_,wo T,λu v G H Q s J L k=>let ⟨U,r⟩:=L.dpsL;(G,d1,F,U,s,J,r,.inl L,c.1,c.2,k _ G H (.refl s) (.bool _))))
   .cases h
  |fdc R=>
   obtain⟨O,g,m⟩:=mx0 h;subst m;refine((_,GB B,λu v G H Q s J L k=>?_),(_,(show OpR X (compareOp .NotIn) (λx y H Q=>∃a R k,y=.ref a/\x=kV k/\Rd H a (.dK R)/\Q (.bl (!(eg R k).isSome)) H) by
     intro f s σ H x y v u Q I n ry h;obtain⟨a,R,k,rfl,rfl,l,q⟩:=h;cases ry;erw[Cu B I (R,k,l,rfl,rfl) n λs' w=>(.bl _,H,w,rfl,q)]),λu v G H Q s J L k=>?_))
   .obtain⟨a,p,U,rfl,Z,P⟩:=L.fdc s
    refine(a,U,O,rfl,cW J g,.inr (_,Z),?_);have e:(eg U O).isSome=(look R O).isSome:=by
     rcases P.look (k:=O)with⟨C,S⟩|⟨d,v,C,S,_⟩<;>rw[C,S]<;>rfl
    rw[e];erw[k _ G H (.refl s) (.bool _)]
   .obtain⟨a,p,U,rfl,Z,P⟩:=L.fdc s
    refine(a,U,O,rfl,cW J g,.inr (_,Z),?_);have e:(eg U O).isSome=(look R O).isSome:=by
     rcases P.look (k:=O)with⟨C,S⟩|⟨d,v,C,S,_⟩<;>rw[C,S]<;>rfl
    rw[e];erw[k _ G H (.refl s) (.bool _)]
  |_=>cases h
 cases op with
 |Lt=>
  cases W;clear M N;cases d1 with
  |int i=>cases d2 with
   |int j=>cases h;exact(_,Jd,lF λb=>.bool _)
   |_=>cases h
  |str x=>cases d2 with
   |str y=>cases h;exact(_,vQ,λu v G H Q s J L k=>(x,y,J.str.1,L.str.1,k _ G H (.refl s) (.bool _)))
   |_=>cases h
  |_=>cases h
 |LtE=>
  cases W;clear M N;cases d1 with
  |int i=>cases d2 with
   |int j=>cases h;exact(_,Je,lF λb=>.bool _)
   |_=>cases h
  |str x=>cases d2 with
   |str y=>cases h;exact(_,wt,λu v G H Q s J L k=>(x,y,J.str.1,L.str.1,k _ G H (.refl s) (.bool _)))
   |_=>cases h
  |_=>cases h
 |Gt=>
  cases W;clear M N;cases d1 with
  |int i=>cases d2 with
   |int j=>cases h;exact(_,(BK λb b b b b b b q=>gt_int q),lF λb=>.bool _)
   |_=>cases h
  |_=>cases h
 |GtE=>
  cases W;clear M N;cases d1 with
  |int i=>cases d2 with
   |int j=>cases h;exact(_,(BK λb b b b b b b q=>ge_int q),lF λb=>.bool _)
   |_=>cases h
  |_=>cases h
 |Eq=>cases W;rw[Gf]at h;exact (M t h).1
 |NotEq=>
  cases W;rw[Gg]at h;obtain⟨E,Z,rfl⟩:=mx0 h;exact (M E Z).2
 |In=>cases W;rw[Gh]at h;exact (N t h).1
 |NotIn=>
  cases W;rw[wj]at h;obtain⟨E,Z,rfl⟩:=mx0 h;exact (N E Z).2
 |Is=>
  cases W;have Y:(if d2=.none then some (decide (d1=.none))else .none)=some t:=by clear M N;cases d1<;>exact h
  split at Y
  .rename_i c
   subst c;cases Y;refine(_,FM,λx y G H Q s J L k=>(L.none,?_));have e:decide (x=V.non)=decide (d1=D.none):=by
    by_cases c:d1=.none
    .subst c;rw[J.none];simp
    .rw[df0 c]
     refine df0 λz=>?_
     subst z;cases J with|of J=>cases J;erw[c rfl]
   rw[e];erw[k _ G H (.refl s) (.bool _)]
  .cases Y
 |IsNot=>
  cases W;have Y:(if d2=.none then some (!decide (d1=.none))else .none)=some t:=by clear M N;cases d1<;>exact h
  split at Y
  .rename_i c
   subst c;cases Y;refine(_,BL,λx y G H Q s J L k=>(L.none,?_));have e:decide (x=V.non)=decide (d1=D.none):=by
    by_cases c:d1=.none
    .subst c;rw[J.none];simp
    .rw[df0 c]
     refine df0 λz=>?_
     subst z;cases J with|of J=>cases J;erw[c rfl]
   rw[e];erw[k _ G H (.refl s) (.bool _)]
  .cases Y
def jM{op}{b}(h:isSet b=false):behindInMarks op b=false:=by cases b<;>first|rfl|cases h
section
def yu:OpR X (binaryOp .Mult) (λx y H Q=>∃z n,x=.str z/\y=.int n/\MulOk z n/\Q (.str (Txt.mul z n)) H):=by
 intro J s N H x y v u Q I K L h;obtain⟨z,n,rfl,rfl,ok,q⟩:=h;obtain⟨t,rfl⟩:=K;obtain⟨M,rfl⟩:=L;erw[SB.mul ok λM k=>(.str _,H,I.tok k,(_,rfl),q)]
set_option tactic.hygienic true
def yv{op}{o}(V:cOp op=some o)(h:opD o d1 d2=some d)(L:Er X Y a d1)(M:Er X Y b d2):Ev X Y (.BinOp a op b pos) d/\(cA d=true->En X Y (.BinOp a op b pos) d):=by
 have new:En X Y (.BinOp a op b pos) d->Ev X Y (.BinOp a op b pos) d/\(cA d=true->En X Y (.BinOp a op b pos) d):=λq=>(q.ev,λf=>q)
 have J:cA d=false->Ev X Y (.BinOp a op b pos) d->Ev X Y (.BinOp a op b pos) d/\(cA d=true->En X Y (.BinOp a op b pos) d):=λz q=>(q,λc=>by rw[z]at c;cases c)
 cases op with
 |Add=>
  cases V;cases d1 with
  |int i=>cases d2 with
   |int j=>cases h;erw[J rfl (ev_op FJ L M (lF λf=>.int _))]
   |_=>cases h
  |str x=>cases d2 with
   |str y=>
    rw[Cd]at h;split at h
    .rename_i c;cases h;rw[big_eq]at c;exact J rfl (ev_op op_add_str L M ((have h:=c;λu v G H Q s R U k=>by
      obtain⟨rfl,Z⟩:=R.str;obtain⟨rfl,B⟩:=U.str;exact(x,y,rfl,rfl,h,k _ G H (.refl s) (.str _ ((by
        have e:(x++y).cps=x.cps++y.cps:=rfl;unfold PyData.strOk at Z B ⊢;rw[e,Array.all_append,Z,B];rfl)))))))
    .cases h
   |_=>cases h
  |list D=>cases d2 with
   |list P=>
    rw[Cf]at h;split at h
    .rename_i c;cases h;rw[big_eq]at c;exact new (en_op op_cat L M ((have h:=c;λx y G H Q s R U k=>by
      obtain⟨a,F,rfl,N,W⟩:=R.lst s;obtain⟨b,S,rfl,K,C⟩:=U.lst s;exact(a,b,F,S,rfl,rfl,N,K,by rwa [<-W.length,<-C.length],λp O=>k p G _ (.hid s O) (s.free O) O (_,_,rfl,aa,W.append C)))))
    .cases h
   |_=>cases h
  |_=>cases h
 |Sub=>
  cases V;cases d1 with
  |int i=>cases d2 with
   |int j=>cases h;erw[J rfl (ev_op FK L M (lF λf=>.int _))]
   |_=>cases h
  |_=>cases h
 |Mult=>
  cases V;cases d1 with
  |int i=>cases d2 with
   |int j=>
    rw[ue]at h;split at h
    .rename_i c;cases h;exact J rfl (ev_op op_mul L M (r2_I ((by
      have h:=c;unfold SI.rQ at h;rw[Bool.or_eq_true,be0,be0]at h;rcases h with⟨N,K⟩|⟨N,K⟩
      .exact .inl (od0 N,od0 K)
      .exact .inr (od0 N,od0 K))) λf=>.int _))
    .cases h
   |_=>cases h
  |str x=>cases d2 with
   |int j=>
    rw[Cg]at h;split at h
    .rename_i c
     cases h;refine J rfl (ev_op yu L M λu v G H Q s R U k=>?_);obtain⟨rfl,Z⟩:=R.str;refine(x,j,rfl,U.int,(by
       have N:=c.2.1;have K:=c.2.2;have I:=c.1;refine(?_,λT f=>?_,λT f=>?_)
       .rw[df0 @5,df0 @5];rfl
       .intro E
        have:(1000:Int)<=(2 ^ 63-1) / j:=by
         rw[Int.le_ediv_iff_mul_le @5]
         grind
        grind
       .have A:x.length*j.toNat<=1000*1000:=Nat.mul_le_mul K @6
        erw[df0 (by rw[sizeLine_eq];grind)]),?_)
     rw[mul_eq];exact k _ G H (.refl s) (.str _ ((by
       have h:=Z;rw[strOk_iff]at h ⊢
       simp_all)))
    .cases h
   |_=>cases h
  |list D=>cases d2 with
   |int j=>
    rw[nJ]at h;split at h
    .rename_i c
     cases h;unfold pG at c;rw[be0,be0]at c;exact new (en_op FU L M ((have N:=(od0 c.1.1);have K:=(od0 c.1.2);have h:D.length*j.toNat<=sizeLine:=(by rw[<-big_eq];erw[od0 c.2]);λx y G H Q s R U k=>by
       obtain⟨a,F,rfl,T,W⟩:=R.lst s;exact(a,j,F,rfl,U.int,T,N,K,by rwa [<-W.length],λp O=>k p G _ (.hid s O) (s.free O) O (_,_,rfl,aa,W.rep _)))))
    .cases h
   |_=>cases h
  |_=>cases h
 |Mod=>
  cases V;cases d1 with
  |int i=>cases d2 with
   |int j=>
    rw[Cj]at h;split at h
    .rename_i c;cases h;erw[J rfl (ev_op op_mod L M (r2_I c λf=>.int _))]
    .cases h
   |_=>cases h
  |_=>cases h
 |FloorDiv=>
  cases V;cases d1 with
  |int i=>cases d2 with
   |int j=>
    rw[Ck]at h;split at h
    .rename_i c;cases h;erw[J rfl (ev_op op_fdiv L M (r2_I c λf=>.int _))]
    .cases h
   |_=>cases h
  |_=>cases h
 |_=>cases V
def yw{i}(R:Ev X Y a (.int i)):Ev X Y (.UnaryOp .USub a pos) (.int (-i)):=λJ s V H Q I ⟨K,M,G,E,k⟩=>
 Jb FL R _ s V H Q I (K,M,G,E,λv L N O U=>by
  cases U;exact(i,rfl,k _ L N O (.int _)))
def Cv(U:X.A.units+1<cLine):IxR X (λx y H Q=>∃p kvs k v,x=.ref p/\y=kV k/\Rd H p (.dK kvs)/\eg kvs k=some v/\Q v H):=by
 intro value slice K s D H x y v u Q I V W h R;obtain⟨p,kvs,k,z,rfl,rfl,O,N,q⟩:=h;cases V;have g:rZ H p (kV k) (some z):=by rw[<-N];exact(kvs,k,O,rfl,rfl)
 exact tail_any ((by
   obtain⟨kvs,k,e,_,_⟩:=g
   .obtain⟨_,_,Z,_,M⟩:=lD I.hok e
    erw[M.typeIs])) PySem.F.slot_dict_getitem.lookup (wm U I g W λT Y L J=>(z,H,L,J,q)) R
def lG{c}(h:c<0x110000):PyData.strOk ⟨#[c]⟩=true:=by
 unfold PyData.strOk;simp;erw[h]
def wu(S:X.A.units+1<cLine)(h:jC d1 d2=some d)(N:Er X Y a d1)(O:Ev X Y b d2)(hs:isSlice b=false):Ev X Y (.Subscript a b pos) d:=by
 cases d1 with
 |list D=>
  cases d2 with
  |int i=>
   refine pR fY N O (λu v G H Q s J K q=>?_) hs;obtain⟨p,W,rfl,L,r⟩:=J.lst s;obtain⟨w,e,M⟩:=r.atI h;exact(p,W,i,w,rfl,K.int,SqL.of L,e,q _ G H (.refl s) M)
  |_=>cases h
 |tuple D=>
  cases d2 with
  |int i=>
   refine pR FQ N O (λu v G H Q s J K q=>?_) hs;obtain⟨p,W,rfl,L,r⟩:=J.tup s;obtain⟨w,e,M⟩:=r.atI h;exact(p,W,i,w,rfl,K.int,SqT.of L,e,q _ G H (.refl s) M)
  |_=>cases h
 |scr T=>
  cases d2 with
  |int i=>
   refine pR fY N O (λu v G H Q s J K q=>?_) hs;obtain⟨p,rfl,L⟩:=J.scr s;obtain⟨n,e,rfl⟩:=mx0 h;have B:L2.atI (T.map V.int) i=some (.int n):=by
    rw[rY]at e;unfold L2.atI at e ⊢;rw[lm0];cases q:L2.ixN T.length i with
    |none=>rw[q]at e;cases e
    |some j=>
     rw[q]at e;show (T.map V.int)[j]?=_;rw[gm0,show T[j]?=some n from e];rfl
   exact(p,_,i,_,rfl,K.int,L,B,q _ G H (.refl s) (.int n))
  |_=>cases h
 |str x=>
  cases d2 with
  |int i=>
   rw[Cn]at h;split at h
   .rename_i F
    rw[big_eq]at F;obtain⟨k,e,rfl⟩:=mx0 h;refine pR FR N O (λu v G H Q s J K q=>?_) hs;obtain⟨rfl,o⟩:=J.str;refine(x,i,k,rfl,K.int,F,e,q _ G H (.refl s) (.str _ (lG ?_)));obtain⟨j,_,Z,_⟩:=je e;erw[strOk_iff.mp o k (mg0 Z)]
   .cases h
  |_=>cases h
 |fdc P=>
  obtain⟨R,C,Z⟩:=bx0 h;refine pR (Cv S) N O (λu v G H Q s J K q=>?_) hs;obtain⟨p,z,W,rfl,L,r⟩:=J.fdc s;rcases r.look (k:=R)with⟨U,_⟩|⟨E,w,U,I,M⟩
  .rw[Z]at U;cases U
  .rw[Z]at U;cases U
   exact(p,W,R,w,rfl,cW K C,.inr (_,L),I,q _ G H (.refl s) M)
 |_=>cases h
set_option tactic.hygienic false
def tPt(ν:NK)(K:Fg)(Y:List Sl)(o:Option Int):TO:=λO H Q=>∃M N G,EnvD ν K M N G H O Y/\∀L J,Ext G H L J->Q o J
def wx{lo hi}{l h}{ds}{p2}(F:Er X Y a (.list ds))(B:PO X lo (tPt X.nk X.K Y l))(D:PO X hi (tPt X.nk X.K Y h)):En X Y (.Subscript a (.Slice lo hi .none p2) pos) (.list (SI.cut ds l h)):=
 by rintro L s P H Q I ⟨M,N,G,E,k⟩;exact xV uc F B D L s P H Q I (M,N,G,E,λv V A O C=>(M,N,V,E.step O,λW j R=>(M,N,W,(E.step O).step R,λZ z J=>by
  obtain⟨p,S,rfl,T,r⟩:=((C.ext R).ext J).lst J.gh;have e:=O.trans (R.trans J);exact(p,S,rfl,SqL.of T,λq U=>k q Z _ (e.trans (.hid J.gh U)) (J.gh.free U) (e.hh.free U) (_,_,rfl,aa,r.cut l h)))))
def GC{K}{G H}{d}{v}{t}(s:Same G H)(h:Dr K G H d v)(J:pF d=some t):FN K v H t:=by
 cases d with
 |bool b=>rw[h.bool];cases J;rfl
 |list O=>obtain⟨a,N,rfl,L,r⟩:=h.lst s;cases J;exact .inl (N,SqL.of L,(by cases r<;>rfl))
 |scr M=>obtain⟨a,rfl,L⟩:=h.scr s;cases J;exact .inl (_,L,by cases M<;>rfl)
 |_=>cases J
def jN{t:Bool}(h:Er X Y a d)(V:pF d=some t)(U:∀J,isTrue a X.env J=(do let v ←J;standAt a.pos;holding [v] (truthy v))):Et X Y a t:=
 by rintro K s W H Q I ⟨M,O,G,E,k⟩;erw[xN h U K s W H Q I (M,O,G,E,λv N R L r=>(t,GC L.gh r V,k N R L))]
variable {t u:Bool}
def Cw{r}(h:Ev X Y a (.bool true))(q:Ev X Y (.BoolOp .And (b::r) pos) d):Ev X Y (.BoolOp .And (a::b::r) pos) d:=by
 intro M s T H Q I V;obtain⟨J,K,G,E,k⟩:=V;exact xE h q _ s T H Q I (J,K,G,E,λv N F L W=>by
  cases W;exact(_,rfl,iteT (J,K,N,E.step L,λv O R U Z=>k v O R (L.trans U) Z)))
def GD{r}(h:Ev X Y a (.bool false))(q:Ev X Y (.BoolOp .Or (b::r) pos) d):Ev X Y (.BoolOp .Or (a::b::r) pos) d:=by
 intro M s T H Q I V;obtain⟨J,K,G,E,k⟩:=V;exact Ei h q _ s T H Q I (J,K,G,E,λv N F L W=>by
  cases W;exact(_,rfl,nD (J,K,N,E.step L,λv O R U Z=>k v O R (L.trans U) Z)))
end
end L2.Z
namespace PySem
def wy:typeLookup (.type "list") ("keys":Str)=pure none:=by kernel_rfl
def onH:onTheHeap (.type "list")=false:=by kernel_rfl
def Cy:[Str.ofString "__module__",Str.ofString "__name__",Str.ofString "__qualname__",Str.ofString "__doc__",Str.ofString "__annotations__"].contains ("keys":Str)=false:=by decide +kernel
def lH:entryFor table "dict.update.loop"=some Builtin.«dict.update.loop»:=by kernel_rfl
def eQ:plainId "dict.update.loop"=true:=by decide +kernel
section
variable {E:A0}
def wz{a}{Q}{xs}{n}{sl}(R:A.handled=none)(L:s.heap.get? a=some {cls:=.type "list",data:=.seq xs n,slots:=sl})
  (h:∀h' tk,(∀b u,s.heap.get? b=some u->h'.get? b=some u)->Q none {s with heap:=h',toks:=tk}):
  wpAny @3 A (getAttr? (.ref a) ("keys":Str)) Q E s:=by
 have J:∀{N:Shared},N.heap=s.heap->N.TypeIs (.ref a) "list":=λe=>(_,by rw[e];erw[L],rfl)
 unfold getAttr? getAttrBy?;refine wb0 (m:=mkText _) (wb0 (wpAny_fresh' (wq0 ?_)));refine wb0 (wpAny_attempt ?_);unfold getAttrBy;refine wh0 ?_;refine wb0 (wpAny_typeOf (T:="list") (J rfl) ?_);refine wb0 (wpAny_of_eq F.slot_list_getattribute.lookup ?_);dsimp only;rw[onH,Bool.false_and,if_neg fx0];unfold getAttrByItsOwn;refine wb0 (wpAny_of_eq (a:=none) (by unfold hookBefore;rw[onH];rfl) ?_);refine wb0 (wpAny_attempt (wh0 ?_));unfold callGetattribute boundAndCalled;rw[Bool.false_and,if_neg fx0];refine wb0 (wpAny_of_eq (F.slot_list_getattribute.bind _) ?_)
 dsimp only;have M:=meets_getattribute_miss_list a xs n sl ("keys":Str) s.toks wy Cy @14;show wpAny _ _ (call (.builtin "list.__getattribute__") [.ref a,.str ("keys":Str) s.toks]) _ _ _;refine call_meets F.slot_list_getattribute (J rfl) am_entry_list_getattribute (F.args_list_getattribute_2 _ _) M ?_;refine And.intro L (And.intro R ?_);intro h' tk e ne;obtain⟨t,u,K⟩:=ne.there;show wpAny _ _ (getattributeRaised _ _ _ _ _ _ _) _ _ _;unfold getattributeRaised;refine wb0 (wpAny_isInstance (T:="AttributeError") (_,K,rfl) sub_AttributeError ?_);rw[if_pos rfl];refine wb0 (wpAny_of_eq (a:=none) (by unfold hookBehind;rw[onH];exact (by kernel_rfl)) ?_)
 show wpAny _ _ (do let O ←throw _;_) _ _ _;refine wb0 (wpAny_throw ?_);refine wb0 (wpAny_isInstance (T:="AttributeError") (_,K,rfl) sub_AttributeError ?_);rw[if_pos rfl];erw[wq0 (h h' tk ne.keeps)]
end
section
variable {E:A0}
def bz{a b}{o u}(J:h.get? a=some o)(K:h.get? b=some u)(hc:o.cls≠u.cls):a≠b:=λe=>by grind
abbrev se(h:Heap)(v J K:Value):Prop:=∃t o n,v=.ref t/\h.get? t=some o/\o.cls=.type "tuple"/\o.data=.seq #[J,K] n
def jO{K:Type}[DecidableEq K]{knd:KeyKind prog w K}{h}{d}{kvs}(J:Heap.DictOf knd h d kvs):∃o,h.get? d=some o/\o.cls=.type "dict":=by
 obtain⟨o,O,N,L,M,_⟩:=J;exact(o,L,M.1)
def iw{K:Type}[DecidableEq K]{knd:KeyKind prog w K}{h h'}{d}{kvs}(M:Heap.DictOf knd h d kvs)(k:∀o,h.get? d=some o->h'.get? d=some o):Heap.DictOf knd h' d kvs:=by
 obtain⟨o,L,J,N,r⟩:=M;exact(o,L,J,k o N,r)
def sf{K:Type}[DecidableEq K](kvs)(k:K)(v:Value):(stored kvs k v).length<=kvs.length+1:=by
 unfold stored;split<;>simp
def wA{K:Type}[DecidableEq K]{knd:KeyKind prog w K}{l it d}{items}{ps:List (K×Value)}{R}(hh:A.handled=none)(hz:items.size=ps.length):
  ∀(m i:Nat)(kvs:List (K×Value))(s:Shared),i+m=ps.length->s.heap.IsListIter it l i->s.heap.IsList l items->(∀(j:Nat)(k:K)(v:Value),ps[j]?=some (k,v)->∃u L,items[j]?=some u/\se s.heap u L v/\knd.is k L=true)->
   Heap.DictOf knd s.heap d kvs->kvs.length+m<=sizeLine->
   (∀h' tk,Heap.DictOf knd h' d ((ps.drop i).foldl (λa p=>stored a p.1 p.2) kvs)->(∀b o,b≠it->b≠d->s.heap.get? b=some o->h'.get? b=some o)->R (.ok (.ret .none)) {s with heap:=h',toks:=tk})->
   codeAny @3 A (.builtin "dict.update.loop" ([.ref d,.ref it,rawInt i,.none],[])) R s:=by
 intro m
 induction m with
 |zero=>
  intro i kvs s hm F D f Z Y h;obtain⟨oi,U,O,_⟩:=id F;obtain⟨od,W,V⟩:=jO Z;have M:d≠it:=bz W U (by rw[V,O];decide);refine codeAny_builtin lH ?_;rw[ui0 eQ];unfold Builtin.«dict.update.loop»;dsimp only;refine wb0 (wpAny_pyNext_list_end (hh:A.in1.handled=none) F D (by rw[Array.getElem?_eq_none];simp_all) λh' eb=>?_);dsimp only;refine wb0 (m:=Builtin.Dict.addKeywords d []) (wb0 (wpAny_of_eq (a:=PUnit.unit) rfl (wq0 ?_)));refine wq0 (h h' s.toks ?_ λb o z x e=>eb b o z e);rw[List.drop_eq_nil_of_le @6]
  erw[iw Z λo e=>eb d o M e]
 |succ m ih=>
  intro i kvs s hm F D f Z Y h;obtain⟨oi,U,O,_⟩:=id F;obtain⟨od,W,V⟩:=jO Z;obtain⟨ol,el,cl,_⟩:=id D;have M:d≠it:=bz W U (by rw[V,O];decide);have X:=bz el U (by rw[cl,O];decide);have j0:=bz el W (by rw[cl,V];decide);refine codeAny_builtin lH ?_;rw[ui0 eQ];unfold Builtin.«dict.update.loop»;dsimp only;have B:i<ps.length:=by grind
  have hg:=ge0 B;obtain⟨u,L,hu,⟨t,o,n,rfl,ht,Q,r⟩,hk⟩:=f i _ _ hg;have j1:=bz ht U (by rw[Q,O];decide);refine wb0 (wpAny_pyNext_list_item F D hu λh1 q sb=>?_);have P:∀{b:Addr},b≠it->∀o,s.heap.get? b=some o->h1.get? b=some o:=λY o e=>(sb.2 _ Y).trans e
  have C:=P j1 _ ht;dsimp only;refine wb0 (wh0 (wb0 (wpAny_tryCatch ?_)));unfold Builtin.Dict.pairItems;refine wb0 (wpAny_typeOf (T:="tuple") (_,C,Q) ?_);rw[if_pos (by rfl)];refine wb0 (wpAny_seqItems C r (wq0 ?_));show wpAny _ _ (holding [L,_] (dictSet d L _)) _ _ _;refine wh0 (wpAny_dictSet_pairs hk (iw Z (P M)) (λh2 y j2=>?_) @5);have H:∀{b:Addr},b≠d->∀o,h1.get? b=some o->h2.get? b=some o:=λY o e=>(j2.2 _ Y).trans e
  refine wq0 (plainId_quiet eQ _,?_);have I:=ih (i+1) (stored kvs ps[i].1 ps[i].2) {s with heap:=h2,toks:=s.toks+1} (by lia) (q.at (H M.symm)) ((D.at (P X)).at (H j0)) (λj k v hj=>?_) y ?_ λh' tk a1 a2=>?_
  .erw[I]
  .obtain⟨u',G,c,⟨t',o',n',rfl,N,J,S⟩,g⟩:=f j k v hj
   exact(_,G,c,(t',o',n',rfl,H (bz N W (by rw[J,V];decide)) _ (P (bz N U (by rw[J,O];decide)) _ N),J,S),g)
  .have:=sf kvs ps[i].1 ps[i].2
   lia
  .refine h h' tk ?_ λb o z x e=>a2 b o z x (H x _ (P z _ e))
   rw[List.drop_eq_getElem_cons B];erw[a1]
def yx{n l}{Q}(J:s.heap.get? n=some {cls:=.type "dict",data:=.dict #[]})(h:Q (n,[.ref l]) s):wpAny @3 A (Builtin.Dict.selfAndRest "__init__" ([.ref n,.ref l],[])) Q E s:=by
 wp_walk
 erw[h]
def ja{K:Type}[DecidableEq K]{knd:KeyKind prog w K}{l}{items}{ps:List (K×Value)}{Q}{n}{sl}(D:A.handled=none)(hz:items.size=ps.length)(C:ps.length<=sizeLine)
  (G:s.heap.get? l=some {cls:=.type "list",data:=.seq items n,slots:=sl}) (I:∀(j:Nat)(k:K)(v:Value),ps[j]?=some (k,v)->∃u J,items[j]?=some u/\se s.heap u J v/\knd.is k J=true)
  (h:∀h' tk,Heap.DictOf knd h' s.heap.objs.size (ps.foldl (λa p=>stored a p.1 p.2) [])->(∀b o,s.heap.get? b=some o->h'.get? b=some o)->Q @11 {s with heap:=h',toks:=tk}):
  wpAny @3 A (call (.type "dict") [.ref l]) Q E s:=by
 refine callType_codes (Q₁:=λN L=>N=.ref s.heap.objs.size/\L={s with heap:=s.heap.push {cls:=.type "dict",data:=.dict #[]}}) F.kt_called_dict (F.kt_typeCall_dict_1 _) F.entry_dict_init (kt_code_dict_new _ (rfl,rfl)) ?_
 rintro N L ⟨rfl,rfl⟩
 have Y:(s.heap.push {cls:=.type "dict",data:=.dict #[]}).get? s.heap.objs.size=some {cls:=.type "dict",data:=.dict #[]}:=pz0 _ rfl;refine((_,Y,rfl),F.args_dict_init_2 _ _,?_);have M:(s.heap.push {cls:=.type "dict",data:=.dict #[]}).get? l=some {cls:=.type "list",data:=.seq items n,slots:=sl}:=ps0 _ G;unfold Builtin.«dict.__init__»;refine wb0 (yx Y ?_);show wpAny _ _ (Builtin.Dict.updateFrom "dict.__init__" s.heap.objs.size (.ref l) [] .none) _ _ _;unfold Builtin.Dict.updateFrom;refine wb0 (wpAny_typeOf (T:="list") (_,M,rfl) ?_);rw[if_pos (by rfl)];refine wb0 (wz (D:A.in1.in1.handled=none) M λW tk O=>?_)
 rw[if_pos (show (none:Option Value).isNone=true from rfl)];refine wb0 (wpAny_rule ?_);have Z:W.IsList l items:=(_,O _ _ M,rfl,n,rfl);refine wb0 (wpAny_pyIter_list Z ?_);refine wq0 (plainId_quiet eQ _,?_);have kk:∀b o,s.heap.get? b=some o->(W.push {cls:=.type "list_iterator",data:=.fields #[.ref l,.int 0 0]}).get? b=some o:=λb o e=>ps0 _ (O _ _ (ps0 _ e))
 refine wA (knd:=knd) (l:=l) (items:=items) (ps:=ps) (show A.in1.handled=none from D) hz ps.length 0 [] _ @6 (_,pz0 _ rfl,rfl,rfl) (Z.push _) (λj k v S=>?_) (iw (Heap.DictOf.new s.heap) λo e=>ps0 _ (O _ _ e)) (by simpa using C) λh' V B a2=>?_
 .obtain⟨u,J,H,⟨t,o,m,rfl,X,R,U⟩,P⟩:=I j k v S
  exact(_,J,H,(t,o,m,rfl,kk _ _ X,R,U),P)
 .refine(rfl,h h' V B λb o e=>a2 b o (λz=>?_) (λz=>?_) (kk b o e))
  .have:=hs0 (O _ _ (ps0 (h:=s.heap) {cls:=.type "dict",data:=.dict #[]} e))
   rw[z]at this;erw[absurd this (li0 _)]
  .have:=hs0 e
   rw[z]at this;erw[absurd this (li0 _)]
end
end PySem
namespace L2.Z
open PySem PySem.Spec PyProof.Rows L2 L2.C SI
inductive PrV (H:Hp):List V->List (Key×V)->Prop
 |nil:PrV H [] []
 |cons {t:Addr}{k:Key}{v:V}{ws:List V}{ps:List (Key×V)}:H t=some (.tup [kV k,v])->PrV H ws ps->PrV H (.ref t::ws) ((k,v)::ps)
theorem PrV.length{H}{ws}{ps}(h:PrV H ws ps):ws.length=ps.length:=by
 induction h<;>simp_all
def wB{M}{ps}(h:PrV H M ps):∀{us:A2},Vals M us->HOk X.prog X.w H s.heap->∃qs:List (Key×Value),KV ps qs/\us.length=qs.length/\
  ∀(j:Nat)(k:Key)(v:Value),qs[j]?=some (k,v)->∃u J,us[j]?=some u/\se s.heap u J v/\(aD X.prog X.w).is k J=true:=by
 induction h with
 |nil=>intro us r _;cases r;exact([],.nil,rfl,λj k v e=>by simp at e)
 |@cons t k v M ps O _ ih=>
  intro us r ok;cases r with
  |@cons _ P _ B r F=>
   cases r;obtain⟨qs,V,W,Y⟩:=ih F ok;obtain⟨_,R,D,o,e,c,n,d⟩:=(ok t _ O);cases D with
   |@cons _ Q _ _ Z K=>cases K with
    |@cons _ S _ _ T L=>
     cases L;refine((k,S)::qs,.cons (rfl,T) V,by rw[lc0,lc0,W],λj U C N=>?_);cases j with
     |zero=>
      cases N;exact(_,Q,rfl,(t,o,n,rfl,e,c,d),lA Z)
     |succ j=>exact Y j U C N
def sg(J:X.calm=true):bb X (.type "dict") (λvs H Q=>∃a K ps,vs=[.ref a]/\H a=some (.lst K)/\PrV H K ps/\∀p,H p=none->Q (.ref p) (upd H p (.dK (eh [] ps)))):=by
 intro M s E H vs G Q I r h;obtain⟨a,K,ps,rfl,O,L,q⟩:=h;cases r with
 |cons r T=>
  cases T;cases r;obtain⟨U,V,n,F,S,R⟩:=I.lstM O;obtain⟨Z,W,Y,P⟩:=wB L F I.hok;refine ja (knd:=aD X.prog X.w) (ps:=Z) (I.ok.hd J) (by simpa using Y) @6 R (λj k v C=>?_) λB D N kk=>?_
  .simp_all
  .refine(.ref _,_,I.laid (t':=D) kk (nr0 _) (Gp ?_ (bn0 (Ne.symm (nn0 I.big))) (KV.merge W .nil) N),rfl,q _ I.fresh)
   have:=jj ps [];rw[<-L.length]at this;simp only[List.length_nil,Nat.zero_add]at this;erw[nt0 this U]
set_option tactic.hygienic true in
def xd{kvs}{k:Key}{v}(h:(kvs.map (·.1)).Nodup):((putK kvs k v).map (·.1)).Nodup:=by
 unfold putK;split
 .have e:(kvs.map λJ=>if J.1=k then (J.1,v)else J).map (·.1)=kvs.map (·.1):=by
   rw[List.map_map]
   apply List.map_congr_left
   intro J _;show (if J.1=k then (J.1,v)else J).1=J.1;split<;>rfl
  rw[e];erw[h]
 .rename_i c
  rw[List.map_append,mk0,List.map_nil,List.nodup_append];refine(h,by simp,λx M y L=>?_);rw[List.mem_singleton]at L;subst L;intro e;subst e;obtain⟨J,K,rfl⟩:=mm0 M;erw[c (List.any_eq_true.mpr (J,K,by simp))]
theorem Dks.put{d}{v}{J:Key}(N:Dp K G d v):∀{kvs:List (Key×D)}{vs:List (Key×V)},Dks K G kvs vs->(vs.map (·.1)).Nodup->Dks K G (SI.put kvs J d) (putK vs J v):=by
 intro kvs
 induction kvs with
 |nil=>intro vs h _;cases h;exact .cons N .nil
 |cons _ _ ih=>
  intro vs h nd;cases h with
  |@cons l _ w _ L h r=>
  obtain⟨R,U⟩:=List.nodup_cons.mp nd;show Dks K G (if l=J then _ else _) _
  by_cases c:l=J
  .subst c
   rw[if_pos rfl];have e:putK ((l,w)::L) l v=(l,v)::L:=by
    unfold putK;rw[if_pos @0,mk0,if_pos rfl]
    congr 1
    conv=>rhs;rw[<-List.map_id L]
    apply List.map_congr_left
    intro O M;rw[if_neg]
    .rfl
    .erw[λz=>R (z▸List.mem_map.mpr (O,M,rfl))]
   rw[e];exact .cons N r
  .rw[if_neg c]
   have e:putK ((l,w)::L) J v=(l,w)::putK L J v:=by
    unfold putK;rw[List.any_cons,df0 c,Bool.false_or];split
    .rw[mk0,if_neg c]
    .rfl
   rw[e];exact .cons h (ih r U)
def Dks.merge:∀{ps:List (Key×D)}{qs:List (Key×V)},Dks K G ps qs->∀{kvs:List (Key×D)}{vs:List (Key×V)},Dks K G kvs vs->(vs.map (·.1)).Nodup->Dks K G (putAll kvs ps) (eh vs qs):=by
 intro ps
 induction ps with
 |nil=>intro qs h _ _ r _;cases h;erw[r]
 |cons _ _ ih=>intro qs h _ _ r nd;cases h with|cons h q=>exact ih q (Dks.put h r nd) (xd nd)
def pT{H}(s:Same G H):∀{ds:List D}{vs:List V}{ps:List (Key×D)},Dps K G ds vs->pairsOf ds=some ps->∃qs,PrV H vs qs/\Dks K G ps qs:=by
 intro ds
 induction ds with
 |nil=>intro vs ps r h;cases r;cases h;exact([],.nil,.nil)
 |cons d r ih=>
  intro vs ps W h;cases W with
  |cons U N=>cases U with
   |tuple O J=>cases J with
    |nil=>cases h
    |cons M J=>cases J with
     |nil=>cases M<;>cases h
     |cons R J=>cases J with
      |cons=>cases M<;>cases h
      |nil=>cases M with
       |int i=>
        obtain⟨qs,e,rfl⟩:=mx0 h;obtain⟨Y,L,p2⟩:=ih N e;exact(_,.cons (k:=.inl i) (s _ _ O) L,.cons R p2)
       |str x=>
        obtain⟨qs,e,rfl⟩:=mx0 h;obtain⟨Y,L,p2⟩:=ih N e;exact(_,.cons (k:=.inr x) (s _ _ O) L,.cons R p2)
       |_=>cases h
   |_=>cases h
section
variable {te:TE}{lo hi:Option Expr}{tl th:TO}{p2:Pos}
def wC(P:PE X e te)(E:PO X lo tl)(g:PO X hi th):PE X (.Subscript e (.Slice lo hi none p2) pos) (λL H Q=>te L H λx R=>tl L R λl U=>th L U λu V=>∃t,x=.str t/\t.length<=sizeLine/\Q (.str (Txt.slice t l u)) V):=by
 intro J s L H Q I h;refine Subscript_ (thn (P J s L H _ I h) ?_);rintro v n ⟨x,R,D,c,m⟩;refine wpAny_Slice (thn (E J n L R _ D m) ?_);rintro vl a ⟨l,U,B,f,r⟩;refine thn (g J a L U _ B r) ?_;rintro vu K ⟨u,V,C,Z,d⟩;rw[evalPart_none];refine wq0 ?_;obtain⟨t,rfl,M,q⟩:=d;obtain⟨F,rfl⟩:=c;have O:KeptH (λh=>∀b o,K.heap.get? b=some o->h.get? b=some o):=λh ob p b o e=>ps0 _ (p b o e)
 have N:∀b o,K.heap.get? b=some o->K.heap.get? b=some o:=λb o e=>e
 have fin:∀(W:Heap)(Y:Tok)(k:Nat),(∀b o,K.heap.get? b=some o->W.get? b=some o)->EP X J L Q (.str (Txt.slice t l u) Y) {K with heap:=W,toks:=k}:=λW Y k p=>(.str _,V,C.kept p,(Y,rfl),q)
 have z:ItemOn @4 X.A X.xe (.str t F) (.ref K.heap.objs.size) (EP X J L Q) {K with heap:=K.heap.push {cls:=.type "slice",data:=.fields #[vl,vu,.none]}}:=by
  cases f with
  |none=>cases Z with
   |none=>exact SBH.sliceItem_nn O N fin M
   |int j tj=>exact SBH.sliceItem_ns O N fin M
  |int i ti=>cases Z with
   |none=>exact SBH.sliceItem_sn O N fin M
   |int j tj=>exact SBH.sliceItem_ss O N fin M
 obtain⟨T,id,S,y,G⟩:=z;erw[tail_any (ops:=[.ref K.heap.objs.size,.str t F]) y S G (by with_unfolding_all rfl)]
def ED{x}{l u}(h:PyData.strOk x=true):PyData.strOk (Txt.slice x l u)=true:=by
 unfold Txt.slice;split
 .erw[h]
 .rw[strOk_iff]at h ⊢
  intro c J;obtain⟨i,_,hi⟩:=List.mem_filterMap.mp J;refine h c ?_;rw[<-Array.getElem?_toList]at hi;erw[mg0 hi]
end
def yy{vs}{J}{us}(r:Vals vs us)(e:vs=J.map V.bl):LSm.BoolsAre us J:=by
 induction r generalizing J with
 |nil=>
  cases J with
  |nil=>exact .nil
  |cons b q=>cases e
 |cons M _ ih=>
  cases J with
  |nil=>cases e
  |cons b q=>
   injection e with K L
   subst K;cases M;exact .cons b (ih L)
def yz(hc:X.calm=true):bb X (.builtin "all") (λxs H Q=>∃(p:Addr)(J:List Bool),xs=[.ref p]/\SqL X.K H p (J.map V.bl)/\Q (.bl (J.all id)) H):=by
 intro U s z H xs j Q I r h;obtain⟨p,J,rfl,Z,q⟩:=h;obtain⟨u,rfl,D⟩:=vals1 r;cases D;obtain⟨N,F,T,P⟩:=I.list Z;have L:=T.isList;have R:=yy F rfl;have M:p<s.heap.objs.size:=by obtain⟨_,e,_⟩:=L;erw[hs0 e]
 refine call_all_walk (wpAny_pyIter_list L ?_);refine(_,_,_,_,_,_,λi=>(J[i]?).getD true,rfl,Walks.list (A:=X.A.in1) (I.ok.hd hc) _ p (nn0 M) _,
  ((_,pz0 _ rfl,rfl,rfl),L.push _),λi v G C B W O=>?_,λS E Y=>?_)
 .obtain⟨b,e,rfl⟩:=R.get i v (by simpa using W)
  simp only[e]at O;erw[wpAny_truthy_bool O]
 .have e:((List.range N.toArray.size).all λi=>(J[i]?).getD true)=J.all id:=by
   rw[ls0,R.length];erw[LSm.range_all J]
  rw[e];exact(.bl _,H,I.kept (LSm.kept_iter Y),rfl,q)
def fu:bb X (.type "tuple") (λxs H Q=>∃p J,xs=[.ref p]/\SqL X.K H p J/\J.length<=sizeLine/\∀l,H l=.none->Q (.ref l) (upd H l (.tup J))):=by
 intro M s F H xs T Q I r h;obtain⟨p,J,rfl,O,R,q⟩:=h;obtain⟨u,rfl,Y⟩:=vals1 r;cases Y;obtain⟨U,N,W,_⟩:=I.list O;refine PySem.call_tuple_list W.isList (λZ V=>?_) (by rwa [ls0,<-N.length]);have L:=I.kept (t':=s.toks) V;exact(.ref _,_,L.laid (λb o e=>ps0 _ e) (nr0 _) (show ObjOk _ _ _ _ _ (.tup J)from(R,_,N,IsTup.new _ _)),rfl,q _ (L.hok.fresh (nr0 _)))
def pU{K}{G}:∀{ds:List D}{vs}{J},boolsOf ds=some J->Dps K G ds vs->vs=J.map V.bl:=by
 intro ds
 induction ds with
 |nil=>intro vs J h q;cases q;cases h;rfl
 |cons d r ih=>
  intro vs J h q;cases d with
  |bool b=>
   obtain⟨J,e,rfl⟩:=mx0 (h);cases q with
   |cons d q=>cases d;rw[ih e q];rfl
  |_=>cases h
section
variable {p:Pos}
def aL(es:A3):Prop:=∀e∈es,isStar e=false
theorem aW{env}:∀{es:A3},aL es->(backTo pos (starEach es env)).any (·.1)=false
 |[],_=>rfl
 |e::r,h=>by
  rw[starEach_cons (h e ms0)];show (false||(backTo _ _).any _)=false;rw[aW λx J=>h x (mc0 _ J)];rfl
theorem lI{env}:∀{es:A3},aL es->(backTo pos (starEach es env)).all (λx=>!x.1)=true
 |[],_=>rfl
 |e::r,h=>by
  rw[starEach_cons (h e ms0)];show (true&&(backTo _ _).all _)=true;rw[lI λx J=>h x (mc0 _ J)];rfl
noncomputable abbrev fl3:List Bool:=[true,true,true]
abbrev CRr(K:Fg)(r:List V->Hp->VK->Prop)(fl:List Bool)(ds:List D)(d:D):Prop:=∀(M:List V)(G H:Hp)(Q:VK),Same G H->Das K G H fl ds M->(∀v J L,Ext G H J L->Dp K J d v->Q v L)->r M H Q
abbrev CRn(K:Fg)(r:List V->Hp->VK->Prop)(fl:List Bool)(ds:List D)(d:D):Prop:=∀(M:List V)(G H:Hp)(Q:VK),Same G H->Das K G H fl ds M->(∀p J L,Ext G H J L->J p=.none->H p=.none->OwnAt K J L d p->Q (.ref p) L)->r M H Q
structure Blt(X:Cx)(x:Str):Prop where
 g:Gl X x
 m:X.mg x=Option.none
 n:x≠"__name__"
 d:(x==("__debug__":Str))=false
def dg{id}{r}(B:Blt X x)(hc:bb X (.builtin id) r)(T:bootBuiltins x=some (.builtin id))(Z:Ea X Y fl (e::es) ds)(hs:aL (e::es))(h:CRr X.K r fl ds d):Ev X Y (.Call (.Name x p) (e::es) [] pos) d:=
 λL s P H Q I ⟨N,U,G,E,k⟩=>cZ hc B.g B.m T Z B.n B.d (starEach_cons (hs e ms0)) (aW λy F=>hs y (mc0 _ F)) _ s P H Q I
  (N,U,G,E,λS O V J D=>h S O V Q J.gh D λv M R W C=>k v M R (J.trans W) C)
def pV{T}{r}(B:Blt X x)(hc:bb X (.type T) r)(F:bootBuiltins x=some (.type T))(Z:Ea X Y fl (e::es) ds)(hs:aL (e::es))(h:CRr X.K r fl ds d):Ev X Y (.Call (.Name x p) (e::es) [] pos) d:=
 λL s A H Q I ⟨N,U,G,E,k⟩=>cq hc B.g B.m F Z B.n B.d (starEach_cons (hs e ms0)) (aW λy D=>hs y (mc0 _ D)) _ s A H Q I
  (N,U,G,E,λP O V J C=>h P O V Q J.gh C λv M R W S=>k v M R (J.trans W) S)
def jP{T}{r}(B:Blt X x)(hc:bb X (.type T) r)(C:bootBuiltins x=some (.type T))(D:Ea X Y fl (e::es) ds)(hs:aL (e::es))(h:CRn X.K r fl ds d):En X Y (.Call (.Name x p) (e::es) [] pos) d:=
 λL s z H Q I ⟨N,U,G,E,k⟩=>cq hc B.g B.m C D B.n B.d (starEach_cons (hs e ms0)) (aW λy S=>hs y (mc0 _ S)) _ s z H Q I
  (N,U,G,E,λj O V J P=>h j O V Q J.gh P λp M R W Z F A=>k p M R (J.trans W) Z (J.hh.free F) A)
def Das.one{K}{G H}{vs}(h:Das K G H fl [d] vs):∃v,vs=[v]/\Dr K G H d v:=by
 cases h with|cons _ h r=>cases r;exact(_,rfl,h)
def Das.two{K}{G H}{vs}(h:Das K G H fl [d1,d2] vs):∃v w,vs=[v,w]/\Dr K G H d1 v/\Dr K G H d2 w:=by
 cases h with|cons _ h r=>cases r with|cons _ J r=>cases r;exact(_,_,rfl,h,J)
def wD:bootBuiltins ("max":Str)=some (.builtin "max"):=rfl
def si:bootBuiltins ("dict":Str)=some (.type "dict"):=rfl
def wF:bootBuiltins ("all":Str)=some (.builtin "all"):=rfl
def uO:bootBuiltins ("tuple":Str)=some (.type "tuple"):=rfl
set_option tactic.hygienic true in
def yA{f}(L:X.calm=true)(B:Blt X x)(K:pM x=some f)(h:biD f ds=some d)(N:Ea X Y fl3 (e::es) ds)(hs:aL (e::es)):
  Ev X Y (.Call (.Name x p) (e::es) [] pos) d:=by
 unfold pM at K;split at K
 .rename_i c
  subst c;cases K
  match ds,h with
  |[.list W],h=>
   cases h;refine dg B fV PySem.boot_len N hs λU G H Q s r k=>?_
   obtain⟨v,rfl,J⟩:=r.one;obtain⟨q,R,rfl,M,O⟩:=J.lst s;exact(_,R.length,rfl,.inl (R,SqL.of M,rfl),by rw[<-O.length];erw[k _ G H (.refl s) (.int _)])
  |[.tuple W],h=>
   cases h;refine dg B fV PySem.boot_len N hs λU G H Q s r k=>?_
   obtain⟨v,rfl,J⟩:=r.one;obtain⟨q,R,rfl,M,O⟩:=J.tup s;exact(_,R.length,rfl,.inr (R,SqT.of M,rfl),by rw[<-O.length];erw[k _ G H (.refl s) (.int _)])
  |[.scr C],h=>
   cases h;refine dg B fV PySem.boot_len N hs λU G H Q s r k=>?_
   obtain⟨v,rfl,J⟩:=r.one;obtain⟨q,rfl,M⟩:=J.scr s;exact(_,(C.map V.int).length,rfl,.inl (_,M,rfl),by rw[lm0];erw[k _ G H (.refl s) (.int _)])
  |[.str y],h=>
   rw[SI.len_str]at h;split at h
   .rename_i c
    cases h;rw[big_eq]at c;refine dg B fV PySem.boot_len N hs λU G H Q s r k=>?_
    obtain⟨v,rfl,J⟩:=r.one;exact(_,y.length,rfl,by rw[J.str.1];exact(c,rfl),k _ G H (.refl s) (.int _))
   .cases h
 split at K
 .rename_i c
  subst c;cases K
  match ds,h with
  |[.bool t],h=>
   cases h;refine pV B vT PyProof.Rows.boot_int N hs λU G H Q s r k=>?_
   obtain⟨v,rfl,J⟩:=r.one;exact .inr (t,by rw[J.bool],k _ G H (.refl s) (.int _))
 split at K
 .rename_i c
  subst c;cases K
  match ds,h with
  |[.list W],h=>
   rw[tuple_list]at h;split at h
   .rename_i c
    cases h;rw[big_eq]at c;refine pV B fu uO N hs λU G H Q s r k=>?_
    obtain⟨v,rfl,J⟩:=r.one;obtain⟨q,R,rfl,M,O⟩:=J.lst s;exact(q,R,rfl,SqL.of M,by rw[<-O.length];erw[c],λl Z=>k _ _ _ (.laid s Z) (.tuple aa (O.mono (aG (s.free Z)))))
   .cases h
 split at K
 .rename_i c
  subst c;cases K
  match ds,h with
  |[.list W],h=>
   obtain⟨T,F,rfl⟩:=mx0 (h:(boolsOf W).map _=some d);refine dg B (yz L) wF N hs λU G H Q s r k=>?_
   obtain⟨v,rfl,J⟩:=r.one;obtain⟨q,R,rfl,M,O⟩:=J.lst s;exact(q,T,rfl,by rw[<-pU F O];erw[SqL.of M],k _ G H (.refl s) (.bool _))
 split at K
 .rename_i c
  subst c;cases K
  match ds,h with
  |[.int i,.int j],h=>
   cases h;refine dg B (vS L) wD N hs λU G H Q s r k=>?_
   obtain⟨v,u,rfl,J,D⟩:=r.two;exact(i,j,by rw[J.int,D.int],k _ G H (.refl s) (.int _))
 .cases K
end
section
variable {p:Pos}
def yB:bootBuiltins ("isinstance":Str)=some (.builtin "isinstance"):=rfl
def wG{x}{T}{t}{px}(B:Blt X "isinstance")(N:Blt X x)(V:yh x=some T)(z:Er X Y a d)(hs:isStar a=false)(h:we T d=some t):Ev X Y (.Call (.Name "isinstance" p) [a,.Name x px] [] pos) (.bool t):=by
 have M:bootBuiltins x=some (.type T)/\(T="int"\/T="list"\/T="tuple"\/T="bool"):=by
  unfold yh at V
  repeat' split at V
  all_goals cases V
  all_goals subst_vars;exact(by decide +kernel,by simp)
 have w:PE X (.Name x px) (tC (.ty T)):=BF N.g N.m M.1 rfl N.n N.d;intro J s C H Q I j;obtain⟨S,A,G,E,k⟩:=j;refine cZ ((show bb X (.builtin "isinstance") (λF H Q=>∃v t r,F=[v,.ty T]/\fW X.K H v t/\PySem.W.kitOne X.K t (.type T)=some r/\Q (.bl r) H) by
   intro J s C H xs e Q I r h;obtain⟨v,t,b,rfl,Z,y,q⟩:=h;obtain⟨u,w',rfl,L,c⟩:=vals2 r;cases c;erw[vW I L Z y λo=>(.bl b,H,I.tok o,rfl,q)])) B.g B.m yB (pa_cons z (pa_cons w pa_nil rfl) (starEach_cons hs)) (by decide) (by decide) (starEach_cons hs) rfl J s C H Q I (S,A,G,E,λv P D O L=>?_)
 have:∃U,fW X.K D v U/\PySem.W.kitOne X.K U (.type T)=some t:=by
  cases d with
  |bool b=>rw[L.bool];exact(_,.bl b,by cases h;rcases M.2 with rfl|rfl|rfl|rfl<;>rfl)
  |int i=>rw[L.int];exact(_,.int i,by cases h;rcases M.2 with rfl|rfl|rfl|rfl<;>rfl)
  |tuple l=>obtain⟨a,F,rfl,R,_⟩:=L.tup O.gh;exact(_,.tup R,by cases h;rcases M.2 with rfl|rfl|rfl|rfl<;>rfl)
  |list l=>obtain⟨a,F,rfl,R,_⟩:=L.lst O.gh;exact(_,.lst R,by cases h;rcases M.2 with rfl|rfl|rfl|rfl<;>rfl)
  |_=>cases h
 obtain⟨U,Z,f⟩:=this;exact(v,U,t,rfl,Z,f,k _ P D O (.bool _))
def pX{K}{G}:∀{ds:List D}{J:A1}{vs:List V},strsOf ds=some J->Dps K G ds vs->vs=J.map V.str/\∀y∈J,PyData.strOk y=true:=by
 intro ds
 induction ds with
 |nil=>intro J vs e h;cases e;cases h;simp
 |cons d r ih=>
  intro J vs e h;cases h with
  |cons h t=>cases h with
   |str x N=>
    obtain⟨q,L,rfl⟩:=mx0 e;obtain⟨M,o⟩:=ih L t;exact(by rw[M];rfl,λz O=>(mq0 O).elim (λq=>q▸N) (o z))
   |_=>cases e
theorem pY{K}{G}:∀{J:A1},(∀y∈J,PyData.strOk y=true)->Dps K G (J.map .str) (J.map V.str)
 |[],_=>.nil
 |y::J,h=>.cons (.str y (h y ms0)) (pY λz L=>h z (mc0 _ L))
def gj:∀{J:A1}{us:A2},Vals (J.map V.str) us->StrsAre us J:=by
 intro J
 induction J with
 |nil=>intro us h;cases h;exact .nil
 |cons y J ih=>intro us h;cases h with|cons r t=>obtain⟨K,rfl⟩:=r;exact .cons y K (ih t)
def gm:∀{us:A2}{J:A1},StrsAre us J->Vals (J.map V.str) us:=by
 intro us J h
 induction h with
 |nil=>exact .nil
 |cons x t r ih=>exact .cons (t,rfl) ih
theorem join_codes(J:Str):∀(K:A1)(c:Nat),c∈(Str.join J K).cps.toList->c∈J.cps.toList\/∃y∈K,c∈y.cps.toList
 |[],c,h=>by cases h
 |[y],c,h=>.inr (y,ms0,h)
 |y::z::r,c,h=>by
  have e:(Str.join J (y::z::r)).cps.toList=y.cps.toList++J.cps.toList++(Str.join J (z::r)).cps.toList:=by
   show (y.cps++J.cps++(Str.join _ _).cps).toList=_;simp
  rw[e,List.mem_append,List.mem_append]at h;rcases h with (h|h)|h
  .exact .inr (y,ms0,h)
  .exact .inl h
  .rcases join_codes _ _ c h with q|⟨x,L,q⟩
   .exact .inl q
   .exact .inr (x,mc0 _ L,q)
def xj{sep}{J:A1}(hs:PyData.strOk sep=true)(N:∀y∈J,PyData.strOk y=true):PyData.strOk (Txt.join sep J)=true:=by
 rw[strOk_iff]at hs ⊢;intro c K;have e:Txt.join _ J=Str.join _ J:=StrLaws.glued_eq_join sep J;rw[e]at K;rcases join_codes _ J c K with q|⟨y,L,M⟩
 .erw[hs c q]
 .erw[strOk_iff.mp (N y L) c M]
def rJoin(K:Fg):V->List V->Hp->VK->Prop:=λx M H Q=>∃J a L,x=.str J/\M=[.ref a]/\SqL K H a (L.map V.str)/\(L.map (·.length)).sum+L.length*J.length<=16777216/\Q (.str (Txt.join J L)) H
def Cz:MtR X "str.join" (rJoin X.K):=by
 intro J s B H x F v T Q I W R h;obtain⟨Y,p,D,rfl,rfl,L,M,q⟩:=h;obtain⟨t,rfl⟩:=W;obtain⟨u,rfl,U⟩:=Vals.one R;cases U;obtain⟨N,V,O,_⟩:=I.list L;erw[join_list O.isList (by simpa using gj V) M λZ k=>(.str _,H,I.tok k,(_,rfl),q)]
def GE:V->List V->Hp->VK->Prop:=λx K H Q=>∃t J,x=.str t/\K=[.str J]/\(J.length==0)=false/\t.length+2<=sizeLine/\∀p,H p=none->Q (.ref p) (upd H p (.lst ((Txt.split t J).map V.str)))
def sj{prog}{w}{A}{E}{s}{x y}{t u}{Q}(L:(y.length==0)=false)(hsz:x.length+2<=sizeLine)
  (h:∀l k,l.map (·.1)=Txt.split x y->Q @11 {s with heap:=s.heap.push {cls:=.type "list",data:=.seq (strValues l).toArray},toks:=k}):
  wpAny @3 A (call (.builtin "str.split") [.str x t,.str y u]) Q E s:=by
 have M:(Builtin.Str.partsBetween x (Builtin.Str.occurrences x y 0 x.length (x.length+1)) y.length).length<=sizeLine:=by
  have N:=StrLaws.occ_length_le x y 0 x.length (x.length+1);rw[length_partsBetween];lia
 cases J:(decide (x.length<y.length)||decide (Builtin.Str.strKind x<Builtin.Str.strKind y))with
 |true=>
  refine call_meets PySem.F.slot_str_split (typeIs_str _ _ _) PySem.F.entry_str_split (PySem.F.args_str_split_2 _ _) (meets_str_split_cannot_occur x y t u J) ?_;erw[h [(x,t)] s.toks (by unfold Txt.split;rw[if_pos J];rfl)]
 |false=>
  cases K:(Builtin.Str.occurrences x y 0 x.length (x.length+1)).isEmpty with
  |true=>
   refine call_meets PySem.F.slot_str_split (typeIs_str _ _ _) PySem.F.entry_str_split (PySem.F.args_str_split_2 _ _) (meets_str_split_not_found x y t u J L K) ?_;erw[h [(x,t)] s.toks (by unfold Txt.split;rw[if_neg (by rw[J];decide),if_pos K];rfl)]
  |false=>
   refine call_meets PySem.F.slot_str_split (typeIs_str _ _ _) PySem.F.entry_str_split (PySem.F.args_str_split_2 _ _) (meets_str_split_sep x y t u J L K @1 M) ?_;rw[strsFrom_eq];refine h _ _ ?_;rw[numbered_texts];unfold Txt.split;rw[if_neg (by rw[J];decide),if_neg (by rw[K];decide)]
def split_len(x y:Str):(Txt.split x y).length<=x.length+2:=by
 unfold Txt.split;split
 .simp
 .split
  .simp
  .have J:=StrLaws.occ_length_le x y 0 x.length (x.length+1)
   rw[length_partsBetween];simp_all
def pZ(x y:Str):∀p∈Txt.split x y,∀c∈p.cps.toList,c∈x.cps.toList:=by
 have L:∀i j c,c∈(Builtin.Str.strSub x i j).cps.toList->c∈x.cps.toList:=λi j c h=>by
  rw[StrLaws.strSub_toList]at h;erw[List.mem_of_mem_drop (List.mem_of_mem_take h)]
 have parts:∀(w:Nat)(J:List _)(a:Nat),∀p∈StrLaws.partsFrom x w a J,∀c∈p.cps.toList,c∈x.cps.toList:=by
  intro w J
  induction J with
  |nil=>intro a p hp c K;rw[List.mem_singleton.mp hp]at K;erw[L _ _ c K]
  |cons d r ih=>
   intro a p hp c K;rcases mq0 hp with e|hp
   .rw[e]at K;erw[L _ _ c K]
   .erw[ih _ p hp c K]
 intro p hp c K;unfold Txt.split at hp;split at hp
 .rwa [List.mem_singleton.mp hp]at K
 .split at hp
  .rwa [List.mem_singleton.mp hp]at K
  .rw[StrLaws.partsBetween_eq]at hp
   erw[parts _ _ _ p hp c K]
def uP{x y}(h:PyData.strOk x=true):∀p∈Txt.split x y,PyData.strOk p=true:=λp K=>by
 rw[strOk_iff]at h ⊢;erw[λc J=>h c (pZ x y p K c J)]
def yC:MtR X "str.split" GE:=by
 intro L s D H x F v T Q I W O h;obtain⟨t,J,rfl,rfl,N,K,q⟩:=h;obtain⟨Z,rfl⟩:=W;obtain⟨u,rfl,R⟩:=Vals.one O;obtain⟨Y,rfl⟩:=R;refine sj N K λl k e=>?_
 have U:Vals ((Txt.split t J).map V.str) (strValues l):=by rw[<-e];erw[gm (strsAre_of_values l)]
 have M:((Txt.split t J).map V.str).length<=sizeLine:=by
  rw[lm0];erw[nt0 (split_len t _) K]
 exact(.ref _,_,I.lnew U M,rfl,q _ I.fresh)
def JL:V->List V->Hp->VK->Prop:=λx J H Q=>∃t y,x=.str t/\J=[.str y]/\Q (.bl (Txt.endswith t y)) H
def CA:MtR X "str.endswith" JL:=by
 intro J s V H x U v R Q I M K h;obtain⟨t,y,rfl,rfl,q⟩:=h;obtain⟨N,rfl⟩:=M;obtain⟨u,rfl,L⟩:=Vals.one K;obtain⟨O,rfl⟩:=L;erw[call_gives PySem.F.slot_str_endswith (typeIs_str _ _ _) PySem.F.entry_str_endswith (PySem.F.args_str_endswith_2 _ _) (gives_str_endswith t y N _) (.bl _,H,I,rfl,q)]
def NU:V->List V->Hp->VK->Prop:=λx J H Q=>∃t y,x=.str t/\J=[.str y]/\t.length<=sizeLine/\Q (.str (Txt.rstripChars t y)) H
def HN:MtR X "str.rstrip" NU:=by
 intro J s Y H x W v V Q I N L h;obtain⟨t,y,rfl,rfl,K,q⟩:=h;obtain⟨O,rfl⟩:=N;obtain⟨u,rfl,M⟩:=Vals.one L;obtain⟨R,rfl⟩:=M;erw[call_gives PySem.F.slot_str_rstrip (typeIs_str _ _ _) PySem.F.entry_str_rstrip (PySem.F.args_str_rstrip_2 _ _) (gives_str_rstrip_chars t y O _) (post_val_or_made (λa=>fits_stripped _ _ _ K) λU k=>(.str _,H,I.tok k,(_,rfl),q))]
def xB{x y}(h:PyData.strOk x=true):PyData.strOk (Txt.rstripChars x y)=true:=by
 rw[strOk_iff]at h ⊢;intro c J;refine h c ?_;unfold Txt.rstripChars at J;rw[stripBy_eq,StrLaws.strSub_toList]at J;erw[List.mem_of_mem_drop (List.mem_of_mem_take J)]
def base_of{name}{env}(h:bu o=false):attributeBase o name env (eval o env)=eval o env:=by
 cases o with
 |Call f J M p=>cases f with
  |Name L q=>cases J with
   |nil=>cases M with
    |nil=>
     have K:(L=="super")=false:=h;unfold attributeBase
     simp_all
    |cons=>rfl
   |cons=>rfl
  |_=>rfl
 |_=>rfl
set_option tactic.hygienic true in
def yD{m:Str}{f:Mf}(R:uf m=some f)(h:meD f d1 [d2]=some d)(l:Er X Y o d1)(g:Er X Y a d2)(hs:isStar a=false)(L:bu o=false)(K:(apos.endLine==pos.line)=true):
  Ev X Y (.Call (.Attribute o m apos) [a] [] pos) d/\(f=.split->En X Y (.Call (.Attribute o m apos) [a] [] pos) d):=by
 have V:=starEach_cons (es:=[]) (env:=X.env) hs;have U:∀pos:Pos,((backTo pos (starEach [a] X.env)).all (λx=>!x.1)&&(backToKw pos (keywordEach [] X.env)).all (λx=>x.1.isSome)
   &&decide ([a].length+([]:List Keyword).length+(if ([]:List Keyword).isEmpty then 0 else 1)<30))=true:=λpos=>by rw[V];rfl
 unfold uf at R;split at R
 .rename_i c
  subst c;cases R;have j:En X Y (.Call (.Attribute o "split" apos) [a] [] pos) d:=by
   cases d1 with
   |str x=>cases d2 with
    |str S=>
     rw[yg]at h;split at h
     .rename_i c
      cases h;rw[big_eq]at c;intro J s P H Q I D;obtain⟨N,O,G,E,k⟩:=D;refine kY PySem.F.plainAttrs_str PySem.F.slot_str_split PySem.F.type_str_split yC l (pa_cons g pa_nil V) (base_of L) (U pos) K V rfl J s P H Q I (N,O,G,E,λv Z t M B=>?_);obtain⟨rfl,q⟩:=B.str;refine(rfl,N,O,Z,E.step M,λw T A W C=>?_);obtain⟨rfl,n⟩:=C.str;have u:=M.trans W;exact(x,S,rfl,rfl,c.1,c.2,λp i=>k p T _ (u.trans (.hid u.gh i)) (u.gh.free i) (u.hh.free i) (_,_,rfl,aa,pY (uP q)))
     .cases h
    |_=>cases h
   |_=>cases h
  exact(j.ev,λb=>j)
 split at R
 .rename_i c
  subst c;cases R;refine(?_,λz=>by cases z);cases d1 with
  |str S=>cases d2 with
   |list ls=>
    obtain⟨ys,M,h⟩:=bx0 (show (strsOf ls).bind _=some d from h);split at h
    .rename_i c
     cases h;intro J s P H Q I D;obtain⟨N,O,G,E,k⟩:=D;refine kY PySem.F.plainAttrs_str PySem.F.slot_str_join PySem.F.type_str_join Cz l (pa_cons g pa_nil V) (base_of L) (U pos) K V rfl J s P H Q I (N,O,G,E,λv Z t M B=>?_);obtain⟨rfl,q⟩:=B.str;refine(rfl,N,O,Z,E.step M,λw T A W C=>?_);obtain⟨p,vs,rfl,e,r⟩:=C.lst W.gh;obtain⟨rfl,n⟩:=pX (by assumption) r;exact(S,p,ys,rfl,rfl,SqL.of e,c,k _ T A (M.trans W) (.str _ (xj q n)))
    .cases h
   |_=>cases h
  |_=>cases h
 split at R
 .rename_i c
  subst c;cases R;refine(?_,λz=>by cases z);cases d1 with
  |str x=>cases d2 with
   |str y=>
    cases h;intro J s P H Q I D;obtain⟨N,O,G,E,k⟩:=D;refine kY PySem.F.plainAttrs_str PySem.F.slot_str_endswith PySem.F.type_str_endswith CA l (pa_cons g pa_nil V) (base_of L) (U pos) K V rfl J s P H Q I (N,O,G,E,λv Z t M B=>?_);obtain⟨rfl,_⟩:=B.str;refine(rfl,N,O,Z,E.step M,λw T A W C=>?_);obtain⟨rfl,_⟩:=C.str;exact(x,y,rfl,rfl,k _ T A (M.trans W) (.bool _))
   |_=>cases h
  |_=>cases h
 split at R
 .rename_i c
  subst c;cases R;refine(?_,λz=>by cases z);cases d1 with
  |str x=>cases d2 with
   |str y=>
    rw[HM]at h;split at h
    .rename_i c
     cases h;rw[big_eq]at c;intro J s P H Q I D;obtain⟨N,O,G,E,k⟩:=D;refine kY PySem.F.plainAttrs_str PySem.F.slot_str_rstrip PySem.F.type_str_rstrip HN l (pa_cons g pa_nil V) (base_of L) (U pos) K V rfl J s P H Q I (N,O,G,E,λv Z t M B=>?_);obtain⟨rfl,q⟩:=B.str;refine(rfl,N,O,Z,E.step M,λw T A W C=>?_);obtain⟨rfl,_⟩:=C.str;exact(x,y,rfl,rfl,c,k _ T A (M.trans W) (.str _ (xB q)))
    .cases h
   |_=>cases h
  |_=>cases h
 .cases R
def Pur(K:Fg)(N:Fn):Sp:=λO H Q a=>∃M d G,N.run M=some d/\Same G H/\Das K G H N.lent M O/\∀v J L,Ext G H J L->Dp K J d v->Q v L
structure FnZ(P:Program)(w:World)(K:Fg)(mg:A6)(base:Heap)(k:Nat)(x:Str)(φ:Fn):Prop where
 ex:∃f fd ps,mg x=some (.ref f)/\PySem.W.keepIn K (.ref f)=true/\Binds K fd ps []/\FnOk P w K mg base CX0 k f fd ps (Pur K φ)
def sk{x}{k}{φ}(F:FnZ X.prog X.w X.K X.mg X.base k x φ)(P:Room k X.A)(B:Gl X x)(D:(x==("__debug__":Str))=false)(Z:Ea X Y φ.lent (e::es) ds)(h:φ.run ds=some d)(hs:aL (e::es)):
  Ev X Y (.Call (.Name x p) (e::es) [] pos) d:=by
 obtain⟨f,g,m,S,C,T,F⟩:=F.ex;intro L s q H Q I W;obtain⟨N,U,G,E,k⟩:=W;exact tY F P B S C T .nil kZ Z D (starEach_cons (hs e ms0)) (aW λy j=>hs y (mc0 _ j)) _ s q H Q I
  (N,U,G,E,λt O u J l=>(ds,d,O,h,J.gh,by simp_all,λv M R V z=>k v M R (J.trans V) z))
end
def Its(x:Str):It:=(λi a=>i<x.cps.size,λi H v J=>J=H/\∃c,x.cps[i]?=some c/\v=.str ⟨#[c]⟩,λi a=>i=x.cps.size)
def yE{P}{w}{tg}{T}(J:Addr)(x:Str)(t:Tok)(n:["enumerate","zip","dict_itemiterator","dict_reverseitemiterator","odict_iterator","itertools.zip_longest","itertools.pairwise"].contains T=false)
  (W:∀A:Around,A.handled=none->Walks P w A J [J] [J] x.cps.size (SignAt x) (λi h=>h.IsStrIter J T x t i))
  (S:∀(A:Around)(i:Nat)(s:Shared)(Q:A0)(E:A0),s.heap.IsStrIter J T x t i->Q (.ref J) s->wpAny (model P w) A (pyIter (.ref J)) Q E s):Turn P w K tg (Its x) [J] J (λi h=>h.IsStrIter J T x t i) where
 mem:=by simp
 obj:=λi h N b M=>by
  have e:b=J:=by simpa using M
  subst e;obtain⟨o,e,c,d⟩:=N<;>simp_all
 keep:=λi h U N k=>by
  obtain⟨o,e,r⟩:=N;exact(o,k J @0 o e,r)
 item:=by
  intro X G y C j i L s g H E I V N O;subst G y C;obtain⟨Y,Z,p,F,D,B⟩:=V J @0;refine (W X.A (I.ok.hd j)).item i s _ _ O N λv U q a R kk=>?_
  obtain⟨c,u,z,rfl⟩:=a;have f:Inv X L g H {s with heap:=U,toks:=q}:=I.turned (λb o M e=>kk b o (by simpa using M) e) Y Z F D B;obtain⟨o,e,m,l⟩:=id R;exact(_,rfl,pj (s:={s with heap:=U,toks:=q}) e m l n (.str ⟨#[c]⟩,H,f,(u,rfl),(rfl,c,z,rfl),R,λb M=>(V b M).1))
 done:=by
  intro X G y C j i L s g H E I V N O;subst G y C;have O:=O;subst O;obtain⟨Y,Z,p,F,D,B⟩:=V J @0;exact (W X.A (I.ok.hd j)).done s _ _ N λU q kk=>(rfl,I.turned (λb o M e=>kk b o (by simpa using M) e) Y Z F D B)
 self:=S
def GF{l}{tl}(Z:PE X l tl):PI X tg l (λL H R=>tl L H λx M=>∃t,x=.str t/\R (Its t) M):=by
 intro K s L H R I h;refine thn (Z K s L H _ I h) ?_;rintro v J ⟨x,M,N,C,B⟩;obtain⟨a,e,q⟩:=B;subst e;obtain⟨t,rfl⟩:=C;have fin:∀(T:String)(o:Obj),["enumerate","zip","dict_itemiterator","dict_reverseitemiterator","odict_iterator","itertools.zip_longest","itertools.pairwise"].contains T=false->o={cls:=.type T,data:=.fields #[.str a t,.int 0 0]}->
   (∀A:Around,A.handled=none->Walks X.prog X.w A J.heap.objs.size [J.heap.objs.size] [J.heap.objs.size] a.cps.size (SignAt a) (λi h=>h.IsStrIter J.heap.objs.size T a t i))->
   (∀(A:Around)(i:Nat)(s:Shared)(Q:A0)(E:A0),s.heap.IsStrIter J.heap.objs.size T a t i->Q (.ref J.heap.objs.size) s->wpAny @4 A (pyIter (.ref J.heap.objs.size)) Q E s)->PIE X K L tg R (.ref J.heap.objs.size) {J with heap:=J.heap.push o}:=λT o F D W S=>by
  subst D;refine(J.heap.objs.size,[J.heap.objs.size],_,_,M,rfl,N.kept (t':=J.toks) λb o e=>ps0 _ e,yE _ a t F W S,(_,pz0 _ rfl,rfl,rfl),λb Y=>?_,q);have e:b=J.heap.objs.size:=by simpa using Y
  subst e;erw[N.fpOk (nr0 _) (N.hok.fresh (nr0 _))]
 cases V:a.cps.all (·<128)
 .erw[wpAny_pyIter_wide V (fin _ _ @2 rfl (λA O=>Walks.strWide O _ a t) λc c c c c U h=>wpAny_pyIter_striter_wide U h)]
 .erw[wpAny_pyIter_ascii V (fin _ _ @2 rfl (λA O=>Walks.strAscii O _ a t) λc c c c c U h=>wpAny_pyIter_striter_ascii U h)]
def KV.keys{Y}{ws}{vs:List (Y×Value)}(h:KV ws vs):ws.map (·.1)=vs.map (·.1):=by
 unfold KV at h
 induction h with
 |nil=>rfl
 |cons a _ ih=>rw[mk0,mk0,a.1,ih]
def Dks.keys{K}{G}:∀{ds:List (Key×D)}{vs:List (Key×V)},Dks K G ds vs->ds.map (·.1)=vs.map (·.1):=by
 intro ds
 induction ds with
 |nil=>intro vs h;cases h;rfl
 |cons _ _ ih=>intro vs h;cases h with|cons _ r=>rw[mk0,mk0,ih r]
def qc{x}(h:jD x=true):PyData.strOk x=true:=by
 rw[strOk_iff];erw[λc J=>od0 (List.all_eq_true.mp h c J)]
def lJ{x}{v}(h:iM (.inr x) v=true):∃t,v=.str x t:=by
 cases v<;>simp[iM,Value.isStrOf]at h<;>simp_all
def uh:∀{vs:A2}{ns:A1},vs.length=ns.length->(∀(j:Nat)(v:Value)(i:Str),vs[j]?=some v->ns[j]?=some i->∃t,v=.str i t)->StrsAre vs ns:=by
 intro vs
 induction vs with
 |nil=>intro ns J h;cases ns;exact .nil;cases J
 |cons v vs ih=>
  intro ns J h;cases ns with
  |nil=>cases J
  |cons i ns=>
   obtain⟨t,rfl⟩:=h 0 v i rfl rfl;exact .cons _ _ (ih (by simpa using J) λj v i a b=>h (j+1) v i (by simpa using a) (by simpa using b))
theorem cD:∀{kvs:List (Key×D)}{J:A1},cz kvs=some J->kvs.map (·.1)=J.map .inr/\∀x∈J,PyData.strOk x=true
 |[],_,h=>by cases h;exact(rfl,nofun)
 |(.inr x,_)::r,_,h=>by
  have h:(if jD x then (cz r).map (x::·)else .none)=some _:=h;split at h
  .obtain⟨M,K,rfl⟩:=mx0 h
   obtain⟨a,b⟩:=cD K;exact(by rw[mk0,mk0,a],λy L=>(mq0 L).elim (λe=>by subst e;erw[qc ‹_›]) (b y))
  .cases h
 |(.inl _,_)::_,_,h=>by cases h
def tEk(ν:NK)(K:Fg)(Y:List Sl)(d:D):TE:=λO H Q=>∃N M G,EnvD ν K N M G H O Y/\∀v J L,Ext G H J L->Dr K J M d v->Q v L
def Ek(X:Cx)(Y:List Sl)(e:Expr)(d:D):Prop:=PE X e (tEk X.nk X.K Y d)
section
variable {p:Pos}
def Ev.ek{e}(h:Ev X Y e d):Ek X Y e d:=by rintro J s O H Q I ⟨L,N,G,E,k⟩;erw[h J s O H Q I (L,N,G,E,λv K M e r=>k v K M e (.of r))]
def GG(i:Nat){x}{pos}(h:(Y[i]?).bind (aF .walk)=some d)(W:X.N[i]?=some x)(T:Vis X.env.scope x)(Z:(x==("__debug__":Str))=false)(M:(x==("__classdict__":Str))=false):Ek X Y (.Name x pos) d:=by
 rintro J s R H Q I ⟨F,U,G,E,k⟩
 obtain⟨sl,O,L⟩:=bx0 h;have:∃v,R[i]?=some (some v)/\Dr X.K G U d v:=by
  cases sl with
  |dat V=>cases L;obtain⟨v,a,b⟩:=E.dat i d O;exact(v,a,.of b)
  |lent V=>cases L;obtain⟨v,a,b⟩:=E.lent i d O;exact(v,a,b.mono2 E.ext.gg (Same.refl _))
  |_=>cases L
 obtain⟨v,e,r⟩:=this;erw[fF W T Z M J s R H Q I (v,e,k v G H (.refl E.sub) r)]
structure km(K:Fg)(G1 Hb:Hp)(J:It)(ds:List D):Prop where
 go:∀i H',i<ds.length->Same G1 H'->Same Hb H'->J.go i H'
 yld:∀i G' H' x H2 d,ds[i]?=some d->Same G1 G'->Same G' H'->Same Hb H'->J.yld i H' x H2->∃G2,Ext G' H' G2 H2/\Dp K G2 d x
 stop:∀H',Same G1 H'->Same Hb H'->J.stop ds.length H'
def src_list{G1 Hb}{a}{vs}(M:∀J,Same G1 J->Same Hb J->SqL K J a vs)(r:Dps K G1 ds vs):km K G1 Hb (Itl K a) ds where
 go:=λi J Z N L=>by
  have W:i<vs.length:=by rwa [<-r.length]
  exact(vs,_,M J N L,ge0 W)
 yld:=λi U J x Y b L O R V y=>by
  obtain⟨e,y⟩:=y;subst e;have:=y vs (M _ (O.trans R) V);obtain⟨v,e,d⟩:=r.get L;rw[this]at e;cases e;exact(U,.refl R,d.mono O)
 stop:=λJ N L=>(vs,M J N L,by rw[<-r.length];simp)
def src_range{K}{G1 Hb}(lo:Int)(n:Nat):km K G1 Hb (Itr lo n) ((List.range n).map λ(k:Nat)=>.int (lo+k)) where
 go:=λi M L a a=>by rwa [lm0,lr0]at L
 yld:=λi N M x R b J U O a y=>by
  obtain⟨e,y⟩:=y;subst e y;have L:i<n:=by have:=(gi0 J).1;simp_all
  rw[gm0,List.getElem?_range L]at J;cases J;exact(N,.refl O,.int _)
 stop:=λM a a=>by show n<=_;simp
def CB{K}{G1 Hb}{x}(ok:PyData.strOk x=true):km K G1 Hb (Its x) (x.cps.toList.map λc=>.str ⟨#[c]⟩) where
 go:=λi L R a a=>by rwa [lm0]at R
 yld:=λi N L v U b M V O a y=>by
  obtain⟨e,c,J,y⟩:=y;subst e y;rw[gm0,Array.getElem?_toList,J]at M;cases M;refine(N,.refl O,.str _ (lG ?_));rw[<-Array.getElem?_toList]at J;erw[strOk_iff.mp ok c (mg0 J)]
 stop:=λL a a=>by show _=x.cps.size;simp
def tSi(ν:NK)(K:Fg)(Y:List Sl)(U:Bool)(ds:List D):TI:=λV H R=>∃O N G,EnvD ν K O N G H V Y/\∀J M L,Ext G H M L->km K M (if U then N else L) J ds->R J L
def Si(X:Cx)(Y:List Sl)(L:Bool)(iter:Expr)(ds:List D):Prop:=∀J,PI X J iter (tSi X.nk X.K Y L ds)
def yF{T:Bool}{ds'}{d}(h:ig d=some ds')(C:PE X iter (λF H Q=>∃W L G,EnvD X.nk X.K W L G H F Y/\∀v B O,Ext G H B O->Dr X.K B (if T then L else O) d v->Q v O)):Si X Y T iter ds':=by
 intro A J s F H R I S;obtain⟨W,L,G,E,k⟩:=S;cases d with
 |list P=>
  cases h;refine BJ C J s F H R I (W,L,G,E,λv Z M N V=>?_);have D:Same (if T then L else M) M:=by
   cases T with
   |true=>exact (E.step N).ext.hh
   |false=>exact Same.refl _
  cases V with
  |of V=>cases V with
   |list U r=>exact(_,rfl,(_,SqL.of (N.gh _ _ U)),k _ Z M N (src_list (λO g a=>SqL.of (g _ _ U)) r))
  |list U r=>exact(_,rfl,(_,SqL.of (D _ _ U)),k _ Z M N (src_list (λO a g=>SqL.of (g _ _ U)) r))
 |str x=>
  rw[items_str]at h;split at h
  .cases h
   refine GF C J s F H R I (W,L,G,E,λv Z M N V=>?_);obtain⟨rfl,ok⟩:=V.str;exact(_,rfl,k _ Z M N (CB ok))
  .cases h
 |_=>cases h
def jQ{n}(h:rOk n=true):-(2 ^ 62)<=n/\n<2 ^ 62:=by
 unfold rOk at h
 simp_all
def wH{wk}{n}{p pos}(B:Blt X "range")(V:Ev X Y a (.int n))(h:rOk n=true)(hs:isStar a=false):Si X Y wk (.Call (.Name "range" p) [a] [] pos) ((List.range n.toNat).map λ(k:Nat)=>.int k):=by
 have e:((List.range n.toNat).map λ(k:Nat)=>D.int k)=(List.range n.toNat).map λk=>.int (0+k):=by simp
 rw[e];intro F J s T H R I U;obtain⟨K,M,G,E,k⟩:=U;refine vO B.g B.m (cC (fl:=[]) V ir hs) (by rw[starEach_cons hs];rfl) _ s T H R I (K,M,G,E,λC L N O Z=>?_);obtain⟨v,rfl,W⟩:=Z.one;exact(n,by rw[W.int],(jQ h).1,(jQ h).2,k _ L N O (src_range 0 _))
end
def Itd(lo:Int)(n:Nat):It:=(λi a=>i<n,λi H x J=>J=H/\x=.int (lo-i),λi a=>n<=i)
def lK{P}{w}{tg}(M:Addr)(lo:Int)(n:Nat):Turn P w K tg (Itd lo n) [M] M (λi h=>IsRangeIter h M (lo+(i:Nat)*(-1)) ((n:Int)-(i:Nat)) (-1)) where
 mem:=by simp
 obj:=λi h L b N=>by
  simp_all
 keep:=λi h R L k=>k M @0 _ L
 item:=by
  intro X B S D C i J s A H E I U L Q;subst B S D;obtain⟨V,Y,y,Z,T,F⟩:=U M @0;have W:=Walks.range (prog:=X.prog) (w:=X.w) (I.ok.hd C) M lo (-1) n;refine W.item i s _ _ Q L λv R G q O kk=>?_
  obtain⟨t,rfl⟩:=q;have j:Inv X J A H {s with heap:=R,toks:=G}:=I.turned (λb o N e=>kk b o (by simpa using N) e) V Y Z T F;refine(_,rfl,pj (s:={s with heap:=R,toks:=G}) (n:="range_iterator") O rfl rfl (by decide) (.int (lo-i),H,j,(t,?_),(rfl,rfl),O,λb N=>(U b N).1))
  grind
 done:=by
  intro X B S D C i J s A H E I U L Q;subst B S D;obtain⟨V,Y,y,Z,T,F⟩:=U M @0;erw[wpAny_pyNext_range_end (I.ok.hd C) L (by have:n<=i:=Q;lia) λR z=>(rfl,I.turned (t':=s.toks) (λb o N e=>z b o N e) V Y Z T F)]
 self:=λa a a a a L h=>wpAny_pyIter_rangeiter L h
section
variable {p:Pos}
def CC{Zp}{H}{s}{R}{E}{lo J}{t u v}{tk}(I:Inv X Zp σ H s)(N:-(2 ^ 62)<=lo)(O:lo<2 ^ 62)(U:-(2 ^ 62)<=J)(V:J<2 ^ 62)
  (q:R (Itd lo (lo-J).toNat) H):wpAny @4 X.A (pyIter @11) (PIE X Zp σ tg R) E {s with heap:=s.heap.push {cls:=.type "range",data:=.fields #[.int lo t,.int J u,.int (-1) v]},toks:=tk}:=by
 refine wpAny_pyIter_range (IsRange.new ..) (PySem.W.small_down N O U V) ?_;have K:Inv X Zp σ H {s with heap:=s.heap.push {cls:=.type "range",data:=.fields #[.int lo t,.int J u,.int (-1) v]},toks:=tk}:=I.kept λb o e=>ps0 _ e
 refine(_,_,_,_,H,rfl,
  K.kept λb o e=>ps0 _ e,lK _ lo _,?_,λb Y=>?_,q)
 .have L:lo+(0:Nat)*(-1)=lo:=by simp
  have M:(lo-J).toNat-(0:Nat)=Builtin.Range.rangeSize lo J (-1):=by rw[PySem.W.rangeSize_downNat];simp
  rw[L,M];erw[pz0 _ rfl]
 .have e:b=(s.heap.push {cls:=.type "range",data:=.fields #[.int lo t,.int J u,.int (-1) v]}).objs.size:=by simpa using Y
  subst e;erw[K.fpOk (nr0 _) (K.hok.fresh (nr0 _))]
def qd{G1 Hb}(lo:Int)(n:Nat):km K G1 Hb (Itd lo n) ((List.range n).map λ(k:Nat)=>.int (lo-k)) where
 go:=λi M L a a=>by rwa [lm0,lr0]at L
 yld:=λi N M x R b J U O a y=>by
  obtain⟨e,y⟩:=y;subst e y;have L:i<n:=by have:=(gi0 J).1;simp_all
  rw[gm0,List.getElem?_range L]at J;cases J;exact(N,.refl O,.int _)
 stop:=λM a a=>by show n<=_;simp
def wI{wk}{i j}{p pos p1 p2}{k1}(B:Blt X "range")(d:Ev X Y a (.int i))(c:Ev X Y b (.int j))(W:rOk i=true)(Z:rOk j=true)(hs:isStar a=false)(L:isStar b=false):
  Si X Y wk (.Call (.Name "range" p) [a,b,.UnaryOp .USub (.Constant (.int 1) k1 p1) p2] [] pos) ((List.range (i-j).toNat).map λ(k:Nat)=>.int (i-k)):=by
 intro tg N s h H R I v;obtain⟨P,A,G,E,k⟩:=v;have l:Ea X Y [] [a,b,.UnaryOp .USub (.Constant (.int 1) k1 p1) p2] [.int i,.int j,.int (-1)]:=cC d (cC c (cC (yw yn) ir rfl) L) hs;have o:∀J,starEach [a,b,.UnaryOp .USub (.Constant (.int 1) k1 p1) p2] J=[(false,eval a J),(false,eval b J),(false,eval (.UnaryOp .USub (.Constant (.int 1) k1 p1) p2) J)]:=λJ=>by rw[starEach_cons hs,starEach_cons L];rfl
 have T:=l;refine Call_ (ld_blt I B.g B.m boot_range (PyProof.Rows.callWith_type1 (thn (T pos N s h H _ I (P,A,G,E,λQ M U V C=>((M,V,C):∃M,Ext G H M U/\Das X.K M U [] [.int i,.int j,.int (-1)] Q))) ?_) (starEach_cons hs) (aW (es:=[b,_]) (by
  intro x S;simp only[List.mem_cons,List.not_mem_nil,or_false]at S;rcases S with rfl|rfl
  .erw[L]
  .rfl))) @2 @2);rintro us s1 ⟨Q,U,z,C,F⟩
 obtain⟨M,V,F⟩:=F;obtain rfl:Q=[.int i,.int j,.int (-1)]:=by
  cases F with
  |cons _ W r=>cases r with
   |cons _ Z r=>cases r with
    |cons _ w r=>cases r;rw[W.int,Z.int,w.int]
 obtain⟨y,q⟩:=jQ W;obtain⟨u,f⟩:=jQ Z;cases C with
 |cons r O=>cases O with
  |cons n O=>cases O with
   |cons D O=>
    cases O;obtain⟨t,rfl⟩:=r;obtain⟨t',rfl⟩:=n;obtain⟨e,rfl⟩:=D;erw[call_range_3 @2 (CC z y q u f (k _ M U V (qd i (i-j).toNat))) (.inl (PyProof.noPylong_small @6))]
def Itv(K:Fg)(a:Addr)(n:Nat):It:=
 (λi H=>i<n/\∃J,SqL K H a J/\J.length=n,λi H x L=>L=H/\∀J,SqL K H a J->J[n-1-i]?=some x,λi b=>i=n)
def yG{P}{w}{tg}(a J:Addr)(n:Nat):Turn P w K tg (Itv K a n) [J] J (λi h=>h.IsRevIter J a ((n:Int)-1-i)) where
 mem:=by simp
 obj:=λi h L b M=>by
  have e:b=J:=by simpa using M
  subst e;obtain⟨o,e,c,d⟩:=L;exact(o,e,λv z=>by rw[d]at z;cases z)
 keep:=λi h B L k=>L.at λo e=>k J @0 o e
 item:=by
  intro X Q S C G i U s σ H E I W L O;subst Q S C;obtain⟨hi,j,A,hx⟩:=O;obtain⟨t,rv,p,hz⟩:=I.list A;have R:n-1-i<j.length:=by grind
  obtain⟨u,m,r⟩:=rv.get (ge0 R);obtain⟨Y,Z,g,T,F,D⟩:=W J @0;have N:s.heap.IsRevIter J a (((n-1-i:Nat)):Int):=by rw[show (((n-1-i:Nat)):Int)=(n:Int)-1-i by grind];erw[L]
  refine PySem.wpAny_pyNext_rev_item N p.isList (x:=u) (by simpa using m) λB V sb=>?_
  have y:=I.turned (t':=s.toks) (λb o M e=>(sb.2 b M).trans e) Y Z T F D;obtain⟨o,e,c,d⟩:=id V;refine(u,rfl,pj (s:={s with heap:=B}) e c d (by decide) (j[n-1-i],H,y,r,(rfl,λys l=>by rw[I.list_inj l A];erw[ge0 R]),?_,λb M=>(W b M).1));rw[show (n:Int)-1-((i+1:Nat):Int)=(((n-1-i:Nat)):Int)-1 by grind];erw[V]
 done:=by
  intro X Q S C G i U s σ H E I W L O;subst Q S C;have O:=O;subst O;obtain⟨Y,Z,g,T,F,D⟩:=W J @0;have N:s.heap.IsRevIter J a (-1):=by rw[show (-1:Int)=(i:Int)-1-i by grind];erw[L]
  erw[PySem.wpAny_pyNext_rev_end (I.ok.hd G) N λB q=>(rfl,I.turned (t':=s.toks) (λb o M e=>q b o M e) Y Z T F D)]
 self:=λf f f f f L h=>PySem.wpAny_pyIter_revIter L h
def boot_rev:bootBuiltins ("reversed":Str)=some (.type "reversed"):=rfl
def rh{G1 Hb}{a}{vs}(R:∀J,Same G1 J->Same Hb J->SqL K J a vs)(r:Dps K G1 ds vs):km K G1 Hb (Itv K a ds.length) ds.reverse where
 go:=λi J O U L=>(by simp_all,vs,R J U L,r.length.symm)
 yld:=λi V J x Y b L M N W y=>by
  obtain⟨e,y⟩:=y;subst e;have:=y vs (R _ (M.trans N) W);have O:=by have:=(gi0 L).1;simpa using this
  rw[List.getElem?_reverse O]at L;obtain⟨v,e,d⟩:=r.get L;rw[this]at e;cases e;exact(V,.refl N,d.mono M)
 stop:=λJ U L=>by show ds.reverse.length=ds.length;simp
def yH{l}{tl}{pos}(B:Blt X "reversed")(T:PE X l tl)(hs:isStar l=false):PI X tg (.Call (.Name "reversed" p) [l] [] pos) (λU H R=>tl U H λx J=>∃a xs,[x]=[V.ref a]/\SqL X.K J a xs/\R (Itv X.K a xs.length) J):=by
 intro N s U H R I h;refine Call_ (ld_blt I B.g B.m boot_rev (PyProof.Rows.callWith_type1 (thn ((pa_cons T pa_nil (starEach_cons hs)) pos N s U H (λY J=>∃a xs,Y=[V.ref a]/\SqL X.K J a xs/\R (Itv X.K a xs.length) J) I h) ?_) (starEach_cons hs) rfl) @2 @2);rintro G L ⟨Y,J,O,C,D⟩;obtain⟨a,xs,e,F,q⟩:=D;subst e;cases C with
 |cons r Q=>
  cases Q;cases r;obtain⟨M,S,p,P⟩:=O.list F;refine PySem.call_reversed_list p.isList ?_;have W:(L.heap.push (PySem.revObj a ((M.toArray.size:Int)-1))).IsRevIter L.heap.objs.size a ((xs.length:Int)-1-((0:Nat):Int)):=by
   refine(_,pz0 _ rfl,rfl,?_);rw[show (xs.length:Int)-1-((0:Nat):Int)=(M.toArray.size:Int)-1 by rw[ls0,S.length];simp_all];rfl
  refine PySem.wpAny_pyIter_revIter W (L.heap.objs.size,[L.heap.objs.size],_,_,J,rfl,O.kept (t':=L.toks) λb o e=>ps0 _ e,yG a _ xs.length,W,λb Z=>?_,q);have e:b=L.heap.objs.size:=by simpa using Z
  subst e;erw[O.fpOk (nr0 _) (O.hok.fresh (nr0 _))]
end
end L2.Z
namespace PySem
namespace F
def sub_ri_reversed:isSubtype (.type "range_iterator") (.type "reversed")=pure false:=rfl
end F
def eu(r:Addr)(a b c:Int)(t u v:Tok)(J:¬(!(Builtin.Range.rangeFitsLong a&&Builtin.Range.rangeFitsLong b&&Builtin.Range.rangeFitsLong c&&Builtin.Range.rangeFitsLong (-c)&&Builtin.Range.rangeFitsLong (a-c)&&Builtin.Range.rangeFitsLong (Builtin.Range.rangeSize a b c)))=true):
  Meets (Builtin.«range.__reversed__» ([.ref r],[])) (λd R s=>s.heap.get? r=some {cls:=.type "range",dict:=none,data:=.fields #[.int a t,.int b u,.int c v],slots:=#[]}/\R (.ok (.ret (Value.ref s.heap.objs.size))) {s with heap:=s.heap.push {cls:=Value.type (if (Builtin.Range.rangeFitsLong a&&Builtin.Range.rangeFitsLong b&&Builtin.Range.rangeFitsLong c&&Builtin.Range.rangeFitsLong (-c)&&Builtin.Range.rangeFitsLong (a-c)&&Builtin.Range.rangeFitsLong (Builtin.Range.rangeSize a b c))=true then "range_iterator" else "longrange_iterator"),data:=Data.fields #[rawInt (a+(Builtin.Range.rangeSize a b c-1)*c),rawInt (Builtin.Range.rangeSize a b c),rawInt (-c)]},toks:=s.toks}):=
 .of_wp λprog w A R s h=>by obtain⟨K,h⟩:=h;wp_walk;exact(_,rfl,h)
section
variable {E:A0}
def gp(n:Int):Builtin.Range.rangeSize 0 n 1=(n.toNat:Int):=by
 unfold Builtin.Range.rangeSize
 grind
noncomputable abbrev yI(n:Int):Obj:={cls:=.type "range_iterator",data:=.fields #[rawInt ((n.toNat:Int)-1),rawInt (n.toNat:Int),rawInt (-1)]}
def fk{r}{n:Int}{t u v}{Q}(J:IsRange s.heap r 0 n 1 t u v)(M:-(2 ^ 62)<=n)(N:n<2 ^ 62)
  (h:Q @11 {s with heap:=s.heap.push (yI n)}):wpAny (model prog w) A (call (.builtin "range.__reversed__") [.ref r]) Q E s:=by
 have L:s.TypeIs (.ref r) "range":=(_,J,rfl);have K:(Builtin.Range.rangeFitsLong 0&&Builtin.Range.rangeFitsLong n&&Builtin.Range.rangeFitsLong 1&&Builtin.Range.rangeFitsLong (-1)&&Builtin.Range.rangeFitsLong (0-1)&&Builtin.Range.rangeFitsLong (Builtin.Range.rangeSize 0 n 1))=true:=by
  rw[gp];simp only[Builtin.Range.rangeFitsLong,be0,decide_eq_true_eq]
  grind
 refine call_meets F.slot_range_reversed L F.entry_range_reversed (F.args_range_reversed_1 _) (eu r 0 n 1 t u v (by rw[K];decide)) (J,?_);rw[K,gp];simp only[if_true];have e:(0:Int)+((n.toNat:Int)-1)*1=(n.toNat:Int)-1:=by simp_all
 rw[e];erw[h]
def kx{r}{n:Int}{t u v}{Q₁}(J:IsRange s.heap r 0 n 1 t u v)(K:-(2 ^ 62)<=n)(L:n<2 ^ 62)
  (h:Q₁ @11 {s with heap:=s.heap.push (yI n)}):
  codeAny @3 A (.call (.builtin "reversed.__new__") ([.type "reversed",.ref r],[])) (wants Q₁ E) s:=by
 have M:s.TypeIs (.ref r) "range":=(_,J,rfl);refine codeAny_of_tree ?_;show wpAny _ A.in1 (do checkBuiltinCall "reversed.__new__" ([.type "reversed",.ref r],[]);again (.builtin "reversed.__new__" ([.type "reversed",.ref r],[]))) _ _ s;refine wb0 (wpAny_of_eq (F.newCall_reversed_1 _) (wq0 (plainId_quiet F.plain_reversed_new _,codeAny_builtin F.entry_reversed_new ?_)));rw[ui0 F.plain_reversed_new _];unfold Builtin.«reversed.__new__»;refine wb0 (wpAny_of_eq (newClass_reversed _) ?_)
 try dsimp only
 refine wb0 (wpAny_of_eq (a:=()) (by first|rfl|kernel_rfl) ?_);refine wb0 (wpAny_of_eq (a:=()) (by first|rfl|kernel_rfl) ?_)
 try dsimp only
 refine wb0 (wpAny_specialOf M F.slot_range_reversed.lookup ?_)
 try dsimp only
 refine wb0 (wpAny_of_eq (F.slot_range_reversed.bind _) ?_)
 try dsimp only
 first
 |rw[if_neg (fx0:¬ ((Value.builtin "range.__reversed__"==Value.none)=true))]
 |(show wpAny _ _ (if (Value.builtin "range.__reversed__"==Value.none)=true then _ else _) _ _ _;rw[if_neg (show ¬ ((Value.builtin "range.__reversed__"==Value.none)=true)from fx0)])
 refine wb0 (wpAny_rule ?_);refine wb0 (m:=runValue (.call (.builtin "range.__reversed__") ([.ref r],[]))) (fk J K L ?_:wpAny _ _ (call (.builtin "range.__reversed__") [.ref r]) _ _ _)
 first
 |exact wq0 h
 |exact wb0 (wq0 (wq0 h))
def fm{r}{n:Int}{t u v}{Q}(N:IsRange s.heap r 0 n 1 t u v)(L:-(2 ^ 62)<=n)(M:n<2 ^ 62)
  (h:Q @11 {s with heap:=s.heap.push (yI n)}):wpAny (model prog w) A (call (.type "reversed") [.ref r]) Q E s:=by
 refine callType_other (Q₁:=λK J=>K=.ref _/\J={s with heap:=s.heap.push _}) (rfl) F.create_reversed (_,_,F.mro_reversed) F.made_reversed F.sub_ri_reversed (F.typeCall_reversed_1 _) (kx N L M (rfl,rfl)) ?_
 rintro K J ⟨rfl,rfl⟩
 exact((_,pz0 _ rfl,rfl),h)
end
end PySem
namespace L2.Z
open PySem PySem.Spec PyProof.Rows L2 L2.C SI
section
variable {p:Pos}
def CD{wk}{n:Int}{p p2 pos pos2}(B:Blt X "range")(C:Blt X "reversed")(w:Ev X Y a (.int n))(h:rOk n=true)(hs:isStar a=false):
  Si X Y wk (.Call (.Name "reversed" p2) [.Call (.Name "range" p) [a] [] pos] [] pos2) ((List.range n.toNat).reverse.map λ(k:Nat)=>.int k):=by
 intro c M s Q H R I y;obtain⟨S,P,G,E,k⟩:=y;obtain⟨j,z⟩:=jQ h;have f:Ea X Y [] [a] [.int n]:=cC w ir hs;refine Call_ (ld_blt I C.g C.m boot_rev (PyProof.Rows.callWith_type1 (Calls.spliced_cons ?_) rfl rfl) @2 @2);refine Call_ (ld_blt I B.g B.m boot_range (PyProof.Rows.callWith_type1 (thn (f pos M s Q H _ I (S,P,G,E,λF N O V Z=>((N,V,Z):∃N,Ext G H N O/\Das X.K N O [] [.int n] F))) ?_) (starEach_cons hs) rfl) @2 @2);rintro us J ⟨F,O,A,Z,W⟩;obtain⟨N,V,W⟩:=W;obtain rfl:F=[.int n]:=by
  cases W with
  |cons _ q r=>cases r;rw[q.int]
 cases Z with
 |cons r d=>
  cases d;obtain⟨t,rfl⟩:=r;refine call_range_1 (Calls.spliced_nil ?_);have U:Inv X M Q O {J with heap:=J.heap.push {cls:=.type "range",data:=.fields #[.int 0 J.toks,.int n t,.int 1 (J.toks+1)]},toks:=J.toks+1+1}:=A.kept λb o e=>ps0 _ e
  refine PySem.fm (r:=J.heap.objs.size) (t:=J.toks) (u:=t) (v:=J.toks+1) (pz0 _ rfl) j z ?_;refine wpAny_pyIter_rangeiter (x:=(n.toNat:Int)-1) (left:=(n.toNat:Int)) (step:=-1) (pz0 _ rfl) ?_;generalize L:({J with heap:=J.heap.push {cls:=.type "range",data:=.fields #[.int 0 J.toks,.int n t,.int 1 (J.toks+1)]},toks:=J.toks+1+1}:Shared)=T at U;refine(T.heap.objs.size,[T.heap.objs.size],_,_,O,by subst L;rfl,?_,lK _ ((n.toNat:Int)-1) n.toNat,?_,λb l=>?_,k _ N O V ((by
    have e:((List.range n.toNat).reverse.map λ(k:Nat)=>D.int k)=(List.range n.toNat).map λ(k:Nat)=>.int ((n.toNat:Int)-1-k):=by
     apply List.ext_getElem?
     intro i;rw[gm0,gm0]
     by_cases h:i<n.toNat
     .rw[List.getElem?_reverse (by simpa using h),lr0,List.getElem?_range (by omega),List.getElem?_range h]
      grind
     simp_all
    rw[e];erw[qd _ _])))
  .subst L
   erw[U.kept (t':=J.toks+1+1) λb o e=>ps0 _ e]
  .subst L
   show IsRangeIter _ _ ((n.toNat:Int)-1+((0:Nat):Int)*(-1)) ((n.toNat:Int)-((0:Nat):Int)) (-1);rw[show (n.toNat:Int)-1+((0:Nat):Int)*(-1)=(n.toNat:Int)-1 by simp_all,show (n.toNat:Int)-((0:Nat):Int)=(n.toNat:Int) by simp_all];erw[pz0 _ rfl]
  .have e:b=T.heap.objs.size:=by simpa using l
   subst e;subst L;erw[U.fpOk (nr0 _) (U.hok.fresh (nr0 _))]
end
end L2.Z
namespace PySem
abbrev cX(h:Heap)(T:Addr)(xs:A2):Prop:=h.get? T=some {cls:=.type "tuple",data:=.seq xs.toArray}
def Kp(F:A4)(h h':Heap):Prop:=∀(c:Addr)(o:Obj),c∉F->h.get? c=some o->h'.get? c=some o
def Zst(K:Value)(z TI TO:Addr)(L:List (Addr×Addr))(i:Nat)(h:Heap):Prop:=
 IsZip h z TI TO K/\cX h TI (L.map λq=>Value.ref q.1)/\(∃J:List Value,J.length=L.length/\cX h TO J)/\∀q∈L,h.IsListIter q.1 q.2 i
def aZ{a b}{h h'}{o}(K:Heap.SameBut a h h')(J:b≠a)(e:h.get? b=o):h'.get? b=o:=(K.2 b J).trans e
noncomputable abbrev nP(I:Addr->List Value)(n:Nat)(q:Addr×Addr):Value:=((I q.2)[n]?).getD .none
section
variable {E:A0}{z TI TO:Addr}{I:Addr->List Value}
abbrev JM(h:Heap)(z TI TO:Addr):Prop:=h.get? z=some {cls:=.type "zip",data:=.fields #[.ellipsis,.bool false,.bool false,.ref TI,.ref TO]}
def yJ{β}{b}{f}(nz:TO≠z)
  (step:∀(i l:Addr)(k:Nat)(ts:A2)(x:Value)(s:Shared)(P:ForInStep β->Shared->Prop),cX s.heap TO ts->ts.length<=1000->s.heap.IsListIter i l n->s.heap.IsList l (I l).toArray->(I l)[n]?=some x->TO≠i->
   (∀h',Kp [i,TO] s.heap h'->h'.objs.size=s.heap.objs.size->h'.IsListIter i l (n+1)->cX h' TO (ts.set k x)->P (.yield b) {s with heap:=h'})->wpAny (model prog w) A (f (.ref i,k) b) P E s)
  (stop:∀(i l:Addr)(k:Nat)(s:Shared)(P:ForInStep β->Shared->Prop),JM s.heap z TI TO->s.heap.IsListIter i l n->s.heap.IsList l (I l).toArray->(I l)[n]?=none->i≠z->
   (∀h' (e:Addr),Kp [z,i] s.heap h'->(∃o,h'.get? e=some o/\o.cls=.type "StopIteration")->E (.ref e) {s with heap:=h'})->wpAny (model prog w) A (f (.ref i,k) b) P E s):
  ∀(L:List (Addr×Addr))(ds M:A2)(s:Shared)(Q:β->Shared->Prop),JM s.heap z TI TO->cX s.heap TO (ds++M)->M.length=L.length->(ds++M).length<=1000->(z::TO::L.map (·.1)).Nodup->
   (∀q∈L,s.heap.IsListIter q.1 q.2 n/\s.heap.IsList q.2 (I q.2).toArray/\q.2∉z::TO::L.map (·.1))->
   ((∀q∈L,n<(I q.2).length)->∀h',Kp (TO::L.map (·.1)) s.heap h'->h'.objs.size=s.heap.objs.size->(∀q∈L,h'.IsListIter q.1 q.2 (n+1))->cX h' TO (ds++L.map (nP I n))->Q b {s with heap:=h'})->
   ((∃q∈L,(I q.2).length<=n)->∀h' (e:Addr),Kp (z::TO::L.map (·.1)) s.heap h'->(∃o,h'.get? e=some o/\o.cls=.type "StopIteration")->E (.ref e) {s with heap:=h'})->
   wpAny @3 A (forIn ((L.map λq=>Value.ref q.1).zipIdx ds.length) b f) Q E s:=by
 intro L
 induction L with
 |nil=>
  intro ds M s Q F T W _ _ _ item _;rw[List.map_nil,List.zipIdx_nil,List.forIn_nil];have:=ez0 W;subst this;erw[wq0 (item (λa h=>by cases h) s.heap (λa a a e=>e) rfl (λa h=>by cases h) T)]
 |cons q L ih=>
  intro ds M s Q F T W j nd y item K;obtain⟨i,l⟩:=q;obtain⟨X,H,t⟩:=y (i,l) @0;simp only[mk0,List.nodup_cons,List.mem_cons,not_or]at nd t;rw[mk0,List.zipIdx_cons,List.forIn_cons];refine wb0 ?_;cases V:(I l)[n]? with
  |none=>
   exact stop i l _ s _ F X H V (λe=>nd.1.2.1 e.symm) λh' e R Y=>K ((i,l),by simp,List.getElem?_eq_none_iff.mp V) h' e (λc o J=>R c o λm=>J (by simp at m ⊢;rcases m with m|m<;>simp[m])) Y
  |some x=>
   refine step i l _ _ x s _ T j X H V (λe=>nd.2.1.1 e) λh' R sz D ot=>?_
   cases M with
   |nil=>cases W
   |cons r M=>
    have d:∀q∈L,q.1≠i/\q.1≠TO:=λq hq=>(λe=>nd.2.2.1 (by rw[<-e];erw[List.mem_map_of_mem hq]),λe=>nd.2.1.2 (by rw[<-e];erw[List.mem_map_of_mem hq]))
    have G:(ds++r::M).set ds.length x=(ds++[x])++M:=by simp
    have ln:ds.length+1=(ds++[x]).length:=by simp
    have Z:=(gi0 V).1;dsimp only;rw[ln];refine ih (ds++[x]) M {s with heap:=h'} Q (R _ _ (by simp;exact(nd.1.2.1,λe=>nz e.symm)) F) (by rw[G]at ot;erw[ot]) (by simpa using W) (by rw[<-G];simpa using j) (by simp only[List.nodup_cons,List.mem_cons,not_or];exact((nd.1.1,nd.1.2.2),nd.2.1.2,nd.2.2.2)) (λq hq=>?_) (λu O N S B C=>?_) λ⟨q,hq,p⟩ O e N Y=>?_
    .obtain⟨g,v,U⟩:=y q (by simp[hq])
     simp only[mk0,List.mem_cons,not_or]at U ⊢;exact(g.at λo=>R _ o (by simp[d q hq]),v.at λo=>R _ o (by simp[U]),U.1,U.2.1,U.2.2.2)
    .refine item (λq hq=>?_) O (λc o J e=>?_) (S.trans sz) (λq hq=>?_) ?_
     .rcases mq0 hq with rfl|hq
      .erw[Z]
      .erw[u q hq]
     .simp only[mk0,List.mem_cons,not_or]at J
      erw[N c o (by simp only[List.mem_cons,not_or];exact(J.1,J.2.2)) (R c o (by simp[J]) e)]
     .rcases mq0 hq with rfl|hq
      .erw[D.at λo=>N _ o (by simp only[List.mem_cons,not_or];exact(λe=>nd.2.1.1 e.symm,nd.2.2.1))]
      .erw[B q hq]
     .rw[mk0,show nP I n (i,l)=x by simp[nP,V]]
      simpa using C
    .exact K (q,by simp[hq],p) O e (λc o J e=>by
      simp only[mk0,List.mem_cons,not_or]at J;erw[N c o (by simp only[List.mem_cons,not_or];exact(J.1,J.2.1,J.2.2.2)) (R c o (by simp[J]) e)]) Y
def kJ{T}{xs}{x}{k}{Q}(J:cX s.heap T xs)(L:xs.length<=1000)
  (h:∀h':Heap,cX h' T (xs.set k x)->Heap.SameBut T s.heap h'->Q () {s with heap:=h'}):
  wpAny @3 A (updateSeq T λx_1=>x_1.setIfInBounds k x) Q E s:=by
 have K:1000<=sizeLine:=by decide
 exact wpAny_updateSeq J rfl (h _ (hu0 _ J rfl|>.trans (by simp[Obj.mapSeq])) (Heap.SameBut.update ..)) @5 @5
def yK{L}(hh:A.handled=none)(st:Zst .none z TI TO L n s.heap)(m:L≠[])(R:L.length<=1000)(nd:(z::TO::L.map (·.1)).Nodup)(nT:TI∉z::TO::L.map (·.1))
  (f:∀q∈L,s.heap.IsList q.2 (I q.2).toArray/\q.2∉z::TO::L.map (·.1))
  (item:(∀q∈L,n<(I q.2).length)->∀h',Zst (rawInt ↑s.heap.objs.size) z TI TO L (n+1) h'->cX h' s.heap.objs.size (L.map (nP I n))->Kp (z::TO::L.map (·.1)) s.heap h'->Q @11 {s with heap:=h'})
  (stop:(∃q∈L,(I q.2).length<=n)->∀h' (e:Addr),Kp (z::TO::L.map (·.1)) s.heap h'->(∃o,h'.get? e=some o/\o.cls=.type "StopIteration")->E (.ref e) {s with heap:=h'}):
  wpAny @3 A (Builtin.«zip.__next__» ([.ref z],[])) (λfin s'=>∃v,fin=Fin.done (Flow.ret v)/\Q v s') E s:=by
 obtain⟨O,ht,⟨ts,Z,Y⟩,hi⟩:=st;have j0:=nd;simp only[List.nodup_cons,List.mem_cons,not_or]at nd nT;have nz:TO≠z:=λe=>nd.1.1 e.symm
 unfold Builtin.«zip.__next__»;refine wb0 (wpAny_of_eq (a:=(.ref z,[])) rfl ?_);dsimp only;refine wb0 (wpAny_field O rfl rfl ?_);refine wb0 (wpAny_field O rfl rfl ?_);refine wb0 (wpAny_seqItems ht rfl ?_);dsimp only;rw[if_neg (by cases L with|nil=>exact absurd rfl m|cons=>simp)];refine wb0 (wb0 (wpAny_field O rfl rfl (wq0 ?_)));rw[if_pos rfl];refine wb0 (wpAny_rule ?_);refine wb0 (wpAny_field O rfl rfl ?_);refine wb0 (wpAny_setField_rec O (by decide:0<5) λh1 T B=>?_);refine wb0 ?_;have V:∀{b:Addr},b≠z->∀o,s.heap.get? b=some o->h1.get? b=some o:=λR o e=>aZ B R e
 have zq:∀q∈L,q.1≠z:=λq M e=>nd.1.2 (by rw[<-e];erw[List.mem_map_of_mem M])
 refine yJ (z:=z) (TI:=TI) (TO:=TO) (n:=n) (I:=I) nz (λi l k ts x s P ot t D ls r H h=>?_) (λi l k s P O D ls r H h=>?_) L [] ts {s with heap:=h1} _ T (V nz _ Y) Z (by simpa [Z]using R) j0
  (λq M=>((hi q M).at (V (zq q M)),(f q M).1.at (V λe=>(f q M).2 (by simp[e])),(f q M).2)) (λal W X sz D ot=>?_) λex h' e X he=>stop ex h' e (λc o J q=>X c o J (V (λe=>J (by simp[e])) o q)) he
 .dsimp only
  refine wb0 (wpAny_onRaise ?_);show wpAny _ _ (do let v ←Builtin.SmallTypes.nextOf (.ref i);pure (some v)) _ _ _;refine wb0 (wpAny_nextOf_list_item D ls (by simpa using r) λW J1 sa=>wq0 ?_);have P1:=aZ sa H ot;dsimp only;refine wb0 (wpAny_seqItems P1 rfl ?_);dsimp only;refine wb0 (kJ P1 t λu O1 sc=>?_);refine wb0 (wpAny_letGo ?_);erw[wq0 (h u (λc o J e=>by simp at J;exact aZ sc J.2 (aZ sa J.1 e)) (sc.1.trans sa.1) (J1.at λo e=>aZ sc H.symm e) O1)]
 .dsimp only
  refine wb0 (wpAny_onRaise ?_);show wpAny _ _ (do let v ←Builtin.SmallTypes.nextOf (.ref i);pure (some v)) _ _ _;refine wb0 (wpAny_nextOf_list_end hh D ls (by simpa using r) λW e eb ⟨o,Y,J⟩=>?_);have K:=eb z _ H.symm O;refine wpAny_setField_rec K (by decide:0<5) λu j1 C=>h u e (λc o J e=>by simp at J;erw[aZ C J.1 (eb c o J.2 e)]) (o,aZ C (λq=>?_) Y,J)
  subst q;rw[K]at Y;cases Y;erw[absurd (show Value.type "zip"=Value.type "StopIteration" from J) @2]
 .dsimp only
  rw[List.nil_append]at ot;refine wb0 (wpAny_seqItems ot rfl ?_);dsimp only;have K:=X z _ (by simp only[List.mem_cons,not_or];erw[nd.1]) T;have N:=sz.trans B.1;have y:(1000:Nat)<=sizeLine:=by decide
  refine wb0 (wpAny_newTuple ?_ (by simp;lia));dsimp only;unfold Builtin.SmallTypes.ownedTupleHandOut;dsimp only;have d:=ps0 (h:=W) {cls:=.type "tuple",data:=.seq (L.map (nP I n)).toArray} K;refine wb0 (wb0 (wpAny_setField_rec d (by decide:0<5) λh8 p S=>?_));refine wpAny_setField_rec p (by decide:1<5) λg F G=>?_
  have j:∀{b:Addr},b≠z->∀o,W.get? b=some o->g.get? b=some o:=λR o e=>aZ G R (aZ S R (ps0 _ e))
  have n2:W.objs.size≠z:=λe=>by have:=hs0 K;rw[e]at this;erw[absurd this (li0 _)]
  have N:=N;rw[N]at F n2 ⊢;have U:Kp (z::TO::L.map (·.1)) s.heap g:=λc o J e=>j (λq=>J (by simp[q])) _ (X c o (λq=>J (by simp at q ⊢;rcases q with q|q<;>simp[q])) (V (λq=>J (by simp[q])) _ e))
  erw[wq0 (_,rfl,item al g (F,U _ _ (by simp only[List.mem_cons,not_or];exact nT) ht,(_,by simp,j nz _ ot),λq M=>(D q M).at λo e=>j (zq q M) o e) (aZ G n2 (aZ S n2 (by rw[<-N];exact pz0 _ rfl))) U)]
def jR{L}{Q}(U:A.handled=none)(M:Zst .none z TI TO L n s.heap)(J:L≠[])(O:L.length<=1000)(nd:(z::TO::L.map (·.1)).Nodup)(nT:TI∉z::TO::L.map (·.1))
  (V:∀q∈L,s.heap.IsList q.2 (I q.2).toArray/\q.2∉z::TO::L.map (·.1))
  (item:(∀q∈L,n<(I q.2).length)->∀h',Zst (rawInt ↑s.heap.objs.size) z TI TO L (n+1) h'->cX h' s.heap.objs.size (L.map (nP I n))->Kp (z::TO::L.map (·.1)) s.heap h'->Q (some @11) {s with heap:=h'})
  (stop:(∃q∈L,(I q.2).length<=n)->∀h',Kp (z::TO::L.map (·.1)) s.heap h'->Q none {s with heap:=h'}):wpAny (model prog w) A (pyNext (.ref z)) Q E s:=by
 have K:s.TypeIs (.ref z) _:=(_,M.1,rfl);refine wb0 (wpAny_attempt (wpAny_callSpecial?_slot K F.slot_zip_next ?_));erw[wpAny_call_entry F.slot_zip_next K F.entry_zip_next (yK U M J O nd nT V (λN h' a b c=>wq0 (item N h' a b c)) λex h' e W R=>wb0 (wpAny_isInstance R isSubtype_stop (wq0 (stop ex h' W)))) (F.args_zip_next_1 _)]
noncomputable def zL:Addr->List Addr->List (Addr×Addr)
 |_,[]=>[]
 |n,l::r=>(n,l)::zL (n+1) r
def wJ:∀(J:A4)(acc:A9)(s:Shared)(Q:Array Value->Shared->Prop),(∀l∈J,∃xs,s.heap.IsList l xs)->
  (∀h',Kp [] s.heap h'->h'.objs.size=s.heap.objs.size+J.length->(∀q∈zL s.heap.objs.size J,h'.IsListIter q.1 q.2 0)->Q (acc++((zL s.heap.objs.size J).map λq=>Value.ref q.1).toArray) {s with heap:=h'})->
  wpAny @3 A (forIn (J.map Value.ref) acc λx K=>do
   let y ←holding K.toList (pyIter x)
   pure (.yield (K.push y))) Q E s:=by
 intro J
 induction J with
 |nil=>
  intro acc s Q _ h;rw[List.map_nil,List.forIn_nil];erw[wq0 (by simpa [zL]using h s.heap (λa a a e=>e) rfl (λq m=>by cases m))]
 |cons l J ih=>
  intro acc s Q N h;obtain⟨xs,R⟩:=N l @0;rw[mk0,List.forIn_cons];refine wb0 (wb0 (wh0 (wpAny_pyIter_list R (wq0 ?_))));dsimp only;refine ih _ _ Q (λU m=>let ⟨xs,q⟩:=N U (by simp[m]);(xs,q.push _)) λh' O M L=>?_
  dsimp only at M L ⊢;rw[Heap.size_push]at M L ⊢;have:=h h' (λc o a e=>O c o @0 (ps0 _ e)) (by rw[M,lc0];lia) λq m=>by
   rcases mq0 m with rfl|m
   .exact(_,O _ _ @0 (pz0 _ rfl),rfl,rfl)
   .erw[L q m]
  rw[zL,mk0]at this
  simpa using this
theorem su:∀(n:Addr)(J:A4),(zL n J).length=J.length
 |_,[]=>rfl
 |n,_::r=>congrArg _ (su _ r)
theorem yL:∀{n:Addr}{ls},∀q∈zL n ls,n<=q.1/\q.1<n+ls.length/\q.2∈ls
 |_,[],_,m=>by cases m
 |n,l::r,q,m=>by
  rcases mq0 m with rfl|m
  .simp
  .obtain⟨a,b,c⟩:=yL q m
   exact(Nat.le_of_succ_le a,by rwa [Nat.add_assoc,Nat.add_comm 1]at b,.tail _ c)
theorem EE:∀(n:Addr)(K:A4),((zL n K).map (·.1)).Nodup
 |_,[]=>.nil
 |n,_::r=>List.nodup_cons.mpr (λm=>by
  obtain⟨q,J,e⟩:=mm0 m;erw[absurd (yL q J).1 @6],EE _ r)
def nQ{o}{n}(J:o.isFreed=false)(e:h.objs.size=n):(h.push o).get? n=some o:=by subst e;erw[pz0 _ J]
def yM{J:A4}{Q}(j:J.length<=1000)(C:∀l∈J,∃xs,s.heap.IsList l xs)
  (Z:checkTypeCall "zip" (J.map .ref,[])=pure ()) (T:checkBuiltinCall "zip.__new__" (.type "zip"::J.map .ref,[])=pure ()) (D:∀o,argsOk "object.__init__" (o::J.map .ref,[]))
  (h:∀h':Heap,Zst .none (s.heap.objs.size+J.length+2) (s.heap.objs.size+J.length) (s.heap.objs.size+J.length+1) (zL s.heap.objs.size J) 0 h'->Kp [] s.heap h'->Q (.ref (s.heap.objs.size+J.length+2)) {s with heap:=h'}):
  wpAny @3 A (call (.type "zip") (J.map .ref)) Q E s:=by
 refine callType_newIn (S:=λf R M=>M=s/\∀h':Heap,Zst .none (s.heap.objs.size+J.length+2) (s.heap.objs.size+J.length) (s.heap.objs.size+J.length+1) (zL s.heap.objs.size J) 0 h'->Kp [] s.heap h'->R (.ok (.ret (.ref (s.heap.objs.size+J.length+2)))) {s with heap:=h'}) F.called_zip (by decide) Z T D F.entry_zip_new (.of_wp λX R M N=>?_)
  (rfl,λh' U a2=>((_,U.1,rfl),h h' U a2))
 obtain⟨rfl,N⟩:=N;have O:(1000:Nat)<=sizeLine:=by decide
 unfold Builtin.«zip.__new__»;refine wb0 (wpAny_of_eq ((rfl)) ?_);dsimp only;rw[if_neg @2];unfold Builtin.SmallTypes.iterAll;refine wb0 (wb0 (wJ J #[] M _ C λV P K W=>?_));refine wq0 ?_;have G:=su M.heap.objs.size J;generalize H:zL M.heap.objs.size J=L at W N G ⊢;refine wb0 (wpAny_newTuple ?_ (by simp;lia));refine wb0 (wpAny_newTuple ?_ (by simp;lia));unfold Builtin.SmallTypes.newRecord;dsimp only;simp only[Heap.size_push]
 wp_walk
 refine(_,rfl,?_);simp only[Heap.size_push];have K:=K;have Y:∀{c o}(a b d:Obj),V.get? c=some o->(((V.push a).push b).push d).get? c=some o:=λa b d e=>ps0 _ (ps0 _ (ps0 _ e))
 rw[K];refine N _ (?_,?_,(L.map λf=>.none,by simp,?_),λq m=>(W q m).at λo e=>Y _ _ _ e) λc o B e=>Y _ _ _ (P c o B e)
 .exact (nQ rfl (by simp only[Heap.size_push];rw[K])).trans (by simp[Builtin.SmallTypes.ownedTupleFields])
 .erw[ps0 _ (ps0 _ ((nQ rfl K).trans @0))]
 .erw[ps0 _ ((nQ rfl (by simp only[Heap.size_push];rw[K])).trans @0)]
end
end PySem
namespace L2.Z
open PySem PySem.Spec PyProof.Rows L2 L2.C SI
section
variable {h':Heap}
def CF{t'}(I:Inv X Zp σ H s)(L:∀b∈fp,jz X Zp H b)(k:∀b o,b∉fp->s.heap.get? b=some o->h'.get? b=some o):Inv X Zp σ H {s with heap:=h',toks:=t'}:=by
 have K:∀b u,H b=some u->b∉fp:=λb u e z=>by rw[(L b z).1]at e;cases e
 refine I.step (λb W=>?_) (λb o a a J e a=>k b o J e) (λb o a a J e a=>(_,k b o J e)) (λa a a a n=>n)
  (λb o J e=>(o,k b o J e)) (λa a e=>e) (λa a a e=>e) (λb F e=>(#[],by simp_all)) (λm Y=>?_) (λb u e=>?_) I.bare
 .obtain⟨_,O,T,R,U,V⟩:=L b W
  exact(R,O,U,V)
 .obtain⟨o,N,M,Z,r⟩:=Y
  exact(o,N,M,k _ o (λz=>(L _ z).2.1 rfl) Z,r)
 .refine (I.hok b u e).stay (λc v J q=>k c v ?_ q) (λa q=>q) λa a q=>q
  rcases J with z|z
  .rw[z];erw[K b u e]
  .erw[K c _ z]
def yN{t'}{T:Addr}{o}(I:Inv X Zp σ H s)(N:∀b∈fp,jz X Zp H b)(k:∀b o,b∉fp->s.heap.get? b=some o->h'.get? b=some o)(O:s.heap.objs.size<=T)
  (new:ObjOk X.prog X.w (upd H T o) h' T o):Inv X Zp σ (upd H T o) {s with heap:=h',toks:=t'}:=by
 have L:∀b u,H b=some u->b∉fp:=λb u e z=>by rw[(N b z).1]at e;cases e
 have nT:∀b u,s.heap.get? b=some u->b≠T:=λb u e z=>by subst z;erw[absurd (nl0 (hs0 e) O) (li0 _)]
 have K:∀b u,H b=some u->b≠T:=λb u e z=>by subst z;erw[absurd (nl0 (I.hok b u e).lt O) (li0 _)]
 refine I.step (ch:=fp) (λb M=>?_) (λb o a a J e a=>k b o J e) (λb o a a J e a=>(o.slots,k b o J e)) (λb o a e n=>by rw[ab (nT b o e)];erw[n])
  (λb o J e=>(o,k b o J e)) (λb a e=>by rw[ab (K b _ e)];erw[e]) (λb a a e=>by rw[ab (K b _ e)];erw[e]) (λb C e=>(#[],by rw[ab (K b _ e),e];simp)) (λm F=>?_) (λb u e=>?_) I.bare
 .obtain⟨_,V,B,W,Y,Z⟩:=N b M
  exact(W,V,Y,Z)
 .obtain⟨o,U,R,D,r⟩:=F
  exact(o,U,R,k _ o (λz=>(N _ z).2.1 rfl) D,r)
 .by_cases M:b=T
  .subst M
   rw[aa]at e
   simp_all
  .rw[ab M]at e
   refine (I.hok b u e).stay (λc v J q=>k c v ?_ q) (λc q=>by rw[ab (K c _ q)];erw[q]) λc a q=>by rw[ab (K c _ q)];erw[q]
   rcases J with z|z
   .rw[z];erw[L b u e]
   .erw[L c _ z]
end
def Itz(K:Fg)(J:A4)(n:Nat):It:=
 (λi H=>i<n/\∃f:Addr->List V,∀l∈J,SqL K H l (f l)/\n<=(f l).length,
  λi H x L=>∃T,x=.ref T/\H T=none/\∀f:Addr->List V,(∀l∈J,SqL K H l (f l))->L=upd H T (.tup (J.map λl=>((f l)[i]?).getD .non)),
  λi H=>i=n/\∃f:Addr->List V,(∀l∈J,SqL K H l (f l))/\∃l∈J,(f l).length<=n)
def jS{a b}{o u}(J:h.get? a=some o)(K:h.get? b=some u)(hc:o.cls≠u.cls):a≠b:=λe=>by
 grind
def lM{h}{z TI TO}{L}{i}{I:Addr->List Value}(N:TI≠TO)(nd:(L.map (·.1)).Nodup)(T:Zst .none z TI TO L i h)(U:∀q∈L,h.IsList q.2 (I q.2).toArray):
  (z::TO::L.map (·.1)).Nodup/\TI∉z::TO::L.map (·.1)/\∀q∈L,h.IsList q.2 (I q.2).toArray/\q.2∉z::TO::L.map (·.1):=by
 obtain⟨K,V,⟨D,_,O⟩,Z⟩:=T;have R:Value.type "tuple"≠Value.type "zip":=by decide
 have M:∀{a:Addr}{o:Obj},h.get? a=some o->o.cls≠.type _->a∉L.map (·.1):=λe F m=>by
  obtain⟨q,J,rfl⟩:=mm0 m;obtain⟨u,Y,W,_⟩:=Z q J;erw[jS e Y (by rwa [W]) rfl]
 refine(?_,?_,λq J=>(U q J,?_))
 .simp only[List.nodup_cons,List.mem_cons,not_or]
  exact(((jS O K R).symm,M K (by decide:Value.type "zip"≠_)),M O (by decide:Value.type "tuple"≠_),nd)
 .simp only[List.mem_cons,not_or]
  exact(jS V K R,N,M V (by decide:Value.type "tuple"≠_))
 .obtain⟨o,e,c,_⟩:=U q J
  simp only[List.mem_cons,not_or];exact(jS e K (by rw[c];exact (by decide:Value.type "list"≠Value.type "zip")),jS e O (by rw[c];exact (by decide:Value.type "list"≠Value.type "tuple")),M e (by rw[c];decide))
def yO{P}{w}{elts}{tk}{tpos}{z TI TO}{L}(n:Nat)(T:TI≠TO)(nd:(L.map (·.1)).Nodup)(F:L≠[])(hb:L.length<=1000):
  Turn P w K (.Tuple elts tk tpos) (Itz K (L.map (·.2)) n) (z::TI::TO::L.map (·.1)) z (Zst .none z TI TO L):=by
 have C:∀{i h},Zst .none z TI TO L i h->∀b∈z::TI::TO::L.map (·.1),∃o,h.get? b=some o/\∀v,o.data≠.cell v:=λU b hb=>by
  obtain⟨hz,ht,⟨A,_,ho⟩,Y⟩:=U;simp only[List.mem_cons]at hb;rcases hb with rfl|rfl|rfl|hb
  .exact(_,hz,λv q=>by cases q)
  .exact(_,ht,λv q=>by cases q)
  .exact(_,ho,λv q=>by cases q)
  .obtain⟨q,J,rfl⟩:=mm0 hb
   obtain⟨o,e,_,d⟩:=Y q J;exact(_,e,λv z=>by rw[d]at z;cases z)
 have D:∀{X}{N s j H}{f:Addr->List V},Inv X N j H s->(∀l∈L.map (·.2),SqL X.K H l (f l))->∃g:Addr->List Value,∀l∈L.map (·.2),Vals (f l) (g l)/\s.heap.IsList l (g l).toArray:=λ{X N s j H f} I W=>by
  refine Classical.skolem (p:=λl (g:A2)=>l∈L.map (·.2)->Vals (f l) g/\s.heap.IsList l g.toArray).mp λl=>?_
  by_cases m:l∈L.map (·.2)
  .obtain⟨it,r,p,_⟩:=I.list (W l m)
   exact(it,λa=>(r,p.isList))
  .exact([],λz=>absurd z m)
 have S:∀{b:Addr},b∉z::TI::TO::L.map (·.1)->b∉z::TO::L.map (·.1):=λh m=>h (by simp only[List.mem_cons]at m ⊢;rcases m with m|m|m<;>simp[m])
 refine(by simp,λi h=>C,λi h h' U k=>?_,?_,?_,λa a a a a U h=>PySem.wpAny_pyIter_zip U.1 h)
 .obtain⟨hz,ht,⟨A,G,ho⟩,Y⟩:=U
  exact(k _ @0 _ hz,k _ @0 _ ht,(A,G,k _ @0 _ ho),λq J=>(Y q J).at (k _ (by simp only[List.mem_cons];exact .inr (.inr (.inr (List.mem_map_of_mem J))))))
 .intro X t hw y c i N s j H E I W U hg
  subst t hw y;obtain⟨Y,f,O⟩:=hg;obtain⟨g,R⟩:=D I λl m=>(O l m).1
  obtain⟨Z,B,n3⟩:=lM T nd U λq J=>(R _ (List.mem_map_of_mem J)).2
  refine jR (I:=g) (I.ok.hd c) U F hb Z B n3 (λal h1 a1 a2 kp=>(_,rfl,?_)) λ⟨q,J,hn⟩=>?_
  .refine wpAny_letOwnedTupleGo_zip a1.1 λh2 b1 Q=>?_
   have nz:s.heap.objs.size≠z:=λe=>by have:=hs0 U.1;rw[<-e]at this;erw[absurd this (li0 _)]
   have kk:∀b o,b∉z::TI::TO::L.map (·.1)->s.heap.get? b=some o->h2.get? b=some o:=λb o hb e=>aZ Q (λq=>hb (by simp[q])) (kp b o (S hb) e)
   have j0:Vals ((L.map (·.2)).map λl=>((f l)[i]?).getD .non) (L.map (nP g i)):=by
    have:∀M:List (Addr×Addr),(∀q∈M,q∈L)->Vals ((M.map (·.2)).map λl=>((f l)[i]?).getD .non) (M.map (nP g i)):=λM=>by
     induction M with
     |nil=>intro _;exact .nil
     |cons q M ih=>
      intro h;have m:=List.mem_map_of_mem (f:=(·.2)) (h q @0);have lt:=nl0 Y (O _ m).2;obtain⟨u,hu,ru⟩:=(R _ m).1.get (ge0 lt);refine .cons ?_ (ih λq J=>h q (by simp[J]));simp only[nP];rw[ge0 lt,hu];erw[ru]
    erw[this L λa h=>h]
   have I2:=yN (h':=h2) (t':=s.toks) (o:=.tup ((L.map (·.2)).map λl=>((f l)[i]?).getD .non)) I W kk (nr0 _) (by simp;erw[nt0 hb @2],_,j0,(_,aZ Q nz a2,rfl,_,rfl));refine(.ref s.heap.objs.size,_,I2,rfl,(_,rfl,I.fresh,λf' x=>?_),?_,λb hb=>?_)
   .congr 2
    exact List.map_congr_left λl m=>by rw[I.list_inj (x l m) (O l m).1]
   .obtain⟨c1,c2,⟨A,c3,c4⟩,c5⟩:=a1
    simp only[List.mem_cons,not_or,List.nodup_cons]at Z B;exact(b1,aZ Q B.1 c2,(A,c3,aZ Q (λe=>Z.1.1 e.symm) c4),λq J=>(c5 q J).at λo e=>aZ Q (λe=>Z.1.2 (by rw[<-e];erw[List.mem_map_of_mem J])) e)
   .rw[ab]
    .exact (W b hb).1
    .intro e
     obtain⟨o,eo,_⟩:=C U b hb;have:=hs0 eo;rw[e]at this;erw[absurd this (li0 _)]
  .have m:=List.mem_map_of_mem (f:=(·.2)) J
   erw[absurd Y (by have:=(R _ m).1.length;have:=(O _ m).2;lia)]
 .intro X t hw y c i N s j H E I W U hg
  subst t hw y;obtain⟨rfl,f,O,l,G,hn⟩:=hg;obtain⟨g,R⟩:=D I O;obtain⟨Z,B,n3⟩:=lM T nd U λq J=>(R _ (List.mem_map_of_mem J)).2
  refine jR (I:=g) (I.ok.hd c) U F hb Z B n3 (λal=>?_) λa h' kp=>(rfl,CF (t':=s.toks) I W λb o hb e=>kp b o (S hb) e)
  obtain⟨q,J,rfl⟩:=mm0 G;erw[absurd (al q J) (by have:=(R _ G).1.length;lia)]
section
variable {G1 Hb:Hp}{qs:List (Addr×List D)}
def CG(h:∀q∈qs,∃vs,Hb q.1=some (.lst vs)/\Dps K G1 q.2 vs/\n<=q.2.length)(e:∃q∈qs,q.2.length=n):km K G1 Hb (Itz K (qs.map (·.1)) n) (gd n (qs.map (·.2))):=by
 obtain⟨f,I⟩:=Classical.skolem (p:=λl (vs:List V)=>∀O,Hb l=some (.lst O)->vs=O).mp λl=>by
  by_cases m:∃O,Hb l=some (.lst O)
  .obtain⟨O,m⟩:=m
   exact(O,λvs z=>by rw[m]at z;cases z;rfl)
  .exact([],λvs z=>absurd (_,z) m)
 have h:∀q∈qs,Hb q.1=some (.lst (f q.1))/\Dps K G1 q.2 (f q.1)/\n<=q.2.length:=λq m=>by
  obtain⟨vs,a,b⟩:=h q m;rw[I _ _ a];exact(a,b)
 have Z:∀{L},Same Hb L->∀l∈qs.map (·.1),SqL K L l (f l):=λR l m=>by
  obtain⟨q,J,rfl⟩:=mm0 m;erw[SqL.of (R _ _ (h q J).1)]
 have N:(gd n (qs.map (·.2))).length=n:=by simp[gd]
 refine(λi L W E R=>(by rwa [N]at W,f,λl m=>(Z R l m,?_)),λi Y L x H d U Q S P y=>?_,λL E R=>(N,f,Z R,?_))
 .obtain⟨q,J,rfl⟩:=mm0 m
  rw[<-(h q J).2.1.length];exact (h q J).2.2
 .obtain⟨T,rfl,G,y⟩:=y
  rw[y f (Z P)];have W:i<n:=by rw[<-N];exact (gi0 U).1
  unfold gd at U;rw[gm0,List.getElem?_range W]at U;cases U;have ex:∀vs,Ext Y L (upd Y T (.tup vs)) (upd L T (.tup vs)):=λvs=>.laid S G
  refine(_,ex _,.tuple aa ?_);have:∀(vs:List V)(M:List (Addr×List D)),(∀q∈M,q∈qs)->Dps K (upd Y T (.tup vs)) ((M.map (·.2)).map λl=>(l[i]?).getD .none) ((M.map (·.1)).map λl=>((f l)[i]?).getD .non):=λvs M=>by
   induction M with
   |nil=>intro _;exact .nil
   |cons q M ih=>
    intro F;obtain⟨_,b,c⟩:=h q (F q @0);have B:=nl0 W c;obtain⟨v,X,C⟩:=b.get (ge0 B);refine .cons ?_ (ih λq J=>F q (by simp[J]));dsimp only;rw[ge0 B,X];exact (C.mono Q).mono (ex _).gg
  erw[this _ qs λg z=>z]
 .obtain⟨q,J,e⟩:=e
  exact(q.1,List.mem_map_of_mem J,by rw[<-(h q J).2.1.length,e];erw[nr0 _])
def lN(s:Same G H):∀{fl:List Bool}{dss}{vs:List V},Das K G H fl (dss.map .list) vs->∃qs:List (Addr×List D),qs.map (·.2)=dss/\vs=qs.map (λq=>V.ref q.1)/\∀q∈qs,∃J,H q.1=some (.lst J)/\Dps K G q.2 J:=by
 intro fl dss
 induction dss generalizing fl with
 |nil=>intro vs h;cases h;exact([],rfl,rfl,λc z=>by cases z)
 |cons L dss ih=>
  intro vs h;cases h with
  |cons _ d r=>
  obtain⟨qs,rfl,rfl,h⟩:=ih r;obtain⟨l,J,rfl,a,b⟩:=d.lst s;exact((l,L)::qs,rfl,rfl,λq m=>by
   rcases mq0 m with rfl|m
   .exact(J,a,b)
   .erw[h q m])
def lP:∀{J:A4}{us:A2},Vals (J.map V.ref) us->us=J.map Value.ref:=by
 intro J
 induction J with
 |nil=>intro us h;cases h;rfl
 |cons _ _ ih=>intro us h;cases h with|cons r t=>cases r;rw[ih t];rfl
def boot_zip:bootBuiltins ("zip":Str)=some (.type "zip"):=rfl
def yP{X}{Y}{e}{es}{p pos}{dss}{elts}{tk}{tpos}(B:Blt X "zip")(c:Ea X Y [true,true,true] (e::es) (dss.map .list))(M:aL (e::es))(hz:dss.length<=1000)(w:dss≠[])
  (f:∀us:List Value,us.length=dss.length->checkTypeCall "zip" (us,[])=pure ()/\checkBuiltinCall "zip.__new__" (.type "zip"::us,[])=pure ()/\∀o,argsOk "object.__init__" (o::us,[])) (t:∀ds∈dss,n<=ds.length) (d:∃ds∈dss,ds.length=n):
  PI X (.Tuple elts tk tpos) (.Call (.Name "zip" p) (e::es) [] pos) (tSi X.nk X.K Y false (gd n dss)):=by
 rintro N s σ H R I ⟨y,u,G,E,k⟩
 refine Call_ (ld_blt I B.g B.m boot_zip (PyProof.Rows.callWith_type1 (thn (c pos N s σ H _ I (y,u,G,E,λS G1 J v W=>((G1,v,W):∃G1,Ext G H G1 J/\Das X.K G1 J [true,true,true] (dss.map .list) S))) λus Z ⟨S,J,O,W,F⟩=>?_) (starEach_cons (M e @0)) (aW λx i=>M x (mc0 _ i))) @2 @2);obtain⟨G1,A,F⟩:=F;obtain⟨qs,rfl,rfl,D⟩:=lN A.gh F;rw[show (qs.map λq=>V.ref q.1)=(qs.map (·.1)).map V.ref by simp]at W;obtain rfl:=lP W;have ne:qs.map (·.1)≠[]:=λz=>w (by rw[List.map_eq_nil_iff]at z ⊢;erw[z])
 obtain⟨h,k2,k3⟩:=f ((qs.map (·.1)).map .ref) @0;refine PySem.yM (by simpa using hz) (λl m=>?_) h k2 k3 λh' Q kp=>?_
 .obtain⟨q,T,rfl⟩:=mm0 m
  obtain⟨P,a,_⟩:=D q T;obtain⟨it,_,p,_⟩:=O.list (SqL.of a);exact(_,p.isList)
 .have j:∀(n:Addr)(U:A4),(zL n U).map (·.2)=U:=λn U=>by
   induction U generalizing n with
   |nil=>rfl
   |cons l r ih=>rw[zL,mk0,ih]
  have C:=CG (qs:=qs) (n:=n) (K:=X.K) (G1:=G1) (Hb:=J) (λq m=>let ⟨P,a,b⟩:=D q m;(P,a,b,t _ (List.mem_map_of_mem m))) (by obtain⟨ds,m,e⟩:=d;obtain⟨q,m2,rfl⟩:=mm0 m;exact(q,m2,e));rw[<-j Z.heap.objs.size (qs.map (·.1))]at C;refine PySem.wpAny_pyIter_zip Q.1 (_,_,_,_,J,rfl,O.kept (t':=Z.toks) λb o e=>kp b o @0 e,yO n (nn0 (Nat.lt_succ_self _)) (EE _ _) (λz=>ne (by rw[<-j Z.heap.objs.size (qs.map (·.1)),z];rfl)) (by rw[su];simpa using hz),Q,λb hb=>?_,k _ G1 J A C);have L:Z.heap.objs.size<=b:=by
   simp only[List.mem_cons]at hb;rcases hb with rfl|rfl|rfl|hb
   .erw[nt0 (Nat.le_add_right _ _) (Nat.le_add_right _ _)]
   .erw[Nat.le_add_right _ _]
   .erw[Nat.le_succ_of_le (Nat.le_add_right _ _)]
   .obtain⟨q,m,rfl⟩:=mm0 hb
    exact (yL q m).1
  erw[O.fpOk L (O.hok.fresh L)]
end
section
variable {E:A0}
theorem lQ{U t}{items}(M:t≠U):∀(n i:Nat)(s:Shared)(Q:List Value->Shared->Prop),s.heap.IsListIter U t i->s.heap.IsList t items->i+n<=items.size->
  (∀h',h'.IsListIter U t (i+n)->Heap.SameBut U s.heap h'->Q ((items.toList.drop i).take n) {s with heap:=h'})->wpAny (model prog w) A (draw (.ref U) n) Q E s
 |0,i,s,Q,J,_,_,V=>by
  show wpAny _ _ (pure []) Q E s;erw[wq0 (by simpa using V s.heap J (Heap.SameBut.refl ..))]
 |n+1,i,s,Q,J,T,F,V=>by
  have L:i<items.size:=by lia
  refine wb0 (wpAny_pyNext_list_item J T (x:=items[i]) (by simp[L]) λO K N=>?_);have Y:O.IsList t items:=by
   obtain⟨o,D,r⟩:=T;exact(o,(N.2 t M).trans D,r)
  refine wb0 (wh0 (lQ M n (i+1) _ _ K Y @1 λR Z W=>wq0 ?_));have B:items.toList.drop i=items[i]::items.toList.drop (i+1):=by simp[List.drop_eq_getElem_cons,L]
  have:=V R @5 (N.trans W)
  simp_all
def iy{t}{items}{Q}(D:A.handled=none)(V:s.heap.IsList t items)
  (T:∀h',Heap.ExtBut s.heap.objs.size s.heap h'->Q items.toList {s with heap:=h'}):wpAny (model prog w) A (unpackItems (.ref t) items.size none) Q E s:=by
 have L:t≠s.heap.objs.size:=by obtain⟨o,M,_⟩:=V;erw[nn0 (hs0 M)]
 unfold unpackItems;refine wb0 ?_;unfold notIterableAtAll;refine wb0 (wpAny_specialOf V.typeIs PySem.F.slot_list_iter.lookup ?_);refine wq0 ?_;simp only[Bool.false_eq_true,if_false];refine wb0 (wh0 (wpAny_pyIter_list V ?_));have O:(s.heap.push {cls:=.type "list_iterator",data:=.fields #[.ref t,.int 0 0]}).IsList t items:=by
  obtain⟨o,M,r⟩:=V;exact(o,ps0 _ M,r)
 refine wb0 (wh0 (lQ L items.size 0 _ _ (_,pz0 _ rfl,rfl,rfl) O @1 λR K N=>?_));have J:List.take items.size (List.drop 0 items.toList)=items.toList:=by
  rw[List.drop_zero];erw[List.take_of_length_le @0]
 rw[J];rw[if_neg @0];have Y:R.IsList t items:=by
  obtain⟨o,M,r⟩:=O;exact(o,(N.2 t L).trans M,r)
 refine wb0 (wh0 (wpAny_pyNext_list_end D K Y @0 λU W=>?_));erw[wq0 (T U λb o Z e=>W b o Z (N.extBut b o Z (ps0 _ e)))]
def gq{env}{elts}{x1}{pos}{t}{items}{Q}(K:A.handled=none)(M:s.heap.IsList t items)
  (L:(assignEach elts env).length=items.size) (J:(assignEach elts env).findIdx? (·.1)=none)
  (h:∀h',Heap.ExtBut s.heap.objs.size s.heap h'->wpAny @3 A (assignInOrder ((assignEach elts env).map (·.2)) items.toList) Q E {s with heap:=h'}):
  wpAny @3 A (assign (.Tuple elts x1 pos) env (.ref t)) Q E s:=by
 refine wb0 (wpAny_standAt ?_);unfold unpack;rw[L,J];erw[wb0 (wh0 (iy K M h))]
end
def Ms(K:fg0)(n:Nat)(t:TGs):TG:=λv L H Q=>∃a J,v=.ref a/\SqL K H a J/\J.length=n/\t J L H Q
def GH{X}{pos}{es}{k}{t}{n}(hc:X.calm=true)(h:PGs X es t)(R:(assignEach es X.env).length=n)(J:(assignEach es X.env).findIdx? (·.1)=none):PG X (.Tuple es k pos) (Ms X.K n t):=by
 intro M s F H v u Q I r L;obtain⟨a,T,N,U,O,L⟩:=L;subst N;cases r;obtain⟨Y,Z,V,B⟩:=I.list U;erw[gq (I.ok.hd hc) V.isList (by simp[R,<-O,Z.length]) J λD W=>h _ _ F H T _ Q (I.kept λb o e=>W b o (nn0 (hs0 e)) e) @1 L]
def Tgj(X:Cx)(tg:Expr)(t:Tg):Prop:=∀d,PG X tg (λv O H Q=>∃L M G Y N,EnvD X.nk X.K L M G H O Y/\Dp X.K G d v/\ax t d Y=some N/\∀J,EnvD X.nk X.K L M G H J N->Q J H)
section
variable {elt:Expr}{ifs:A3}{p px:Pos}
def qe{x}(M:X.N.Nodup)(J:X.N[i]?=some x)(U:Loc X.env.scope x)(R:X.fn x=true\/X.env.scope.names.lookup x=some .local):Tgj X (.Name x px) (.one i):=by
 rintro d K s V H v u Q I r ⟨W,Z,G,Y,T,env,L,O,k⟩
 cases O;erw[BH M J U R _ s V H v u Q I r (k _ (env.set (by rw[I.len];exact (gi0 J).1) L))]
structure GI(X:Cx)(x:Str)(i:Nat):Prop where
 at':X.N[i]?=some x
 loc:Loc X.env.scope x
 fn:X.fn x=true\/X.env.scope.names.lookup x=some .local
inductive Nms (X:Cx):List Expr->List Nat->Prop
 |nil:Nms X [] []
 |cons {x:Str}{px:Pos}{i:Nat}{es:A3}{is:List Nat}:GI X x i->Nms X es is->Nms X (.Name x px::es) (i::is)
def Nms.each{env}:∀{es}{J:List Nat},Nms X es J->(assignEach es env).length=J.length/\(assignEach es env).findIdx? (·.1)=.none:=by
 intro es J h
 induction h with
 |nil=>exact(rfl,rfl)
 |@cons _ _ _ es _ _ r ih=>
  refine(?_,?_)
  .show (assignEach es _).length+1=_
   rw[ih.1];rfl
  .show List.findIdx? _ ((false,_)::assignEach es _)=_
   rw[List.findIdx?_cons,ih.2];rfl
def Mt(X:Cx)(ts:A3)(O:List Nat):Prop:=∀L,L.length=O.length->PGs X ts (λR U H Q=>∃M N G Y,EnvD X.nk X.K M N G H U Y/\Dps X.K G L R/\∀J,EnvD X.nk X.K M N G H J ((O.zip L).foldl (λY p=>Y.set p.1 (.dat p.2)) Y)->Q J H)
def JN{ts}{D:List Nat}(P:X.N.Nodup)(h:Nms X ts D):Mt X ts D:=by
 induction h with
 |nil=>
  intro O R M s U H E B Q I r T;obtain⟨V,W,G,Y,J,Z,k⟩:=T;have:=ez0 R;subst this;cases Z;erw[BI _ s U H [] B Q I r (rfl,k U J)]
 |@cons x px i z D F y ih=>
  intro O R M s U H E B Q I r T;obtain⟨V,W,G,Y,J,Z,k⟩:=T;cases O with
  |nil=>cases R
  |cons d O=>
   cases Z with
   |cons C S=>
    exact xG (qe P F.at' F.loc F.fn d) (ih O (by simpa using R)) rfl _ s U H _ B Q I r
     (_,_,rfl,V,W,G,Y,_,J,C,rfl,λA K=>(V,W,G,_,K,S,λj L=>k _ L))
set_option tactic.hygienic true in
def CH{ts}{D:List Nat}{n}(hc:X.calm=true)(F:X.N.Nodup)(h:Nms X ts D):Tgj X (.Tuple ts n pos) (.tup D):=by
 intro d K s B H v u Q I r C;obtain⟨W,Z,G,Y,S,env,T,J,k⟩:=C;cases d with
 |tuple O=>
  rw[iq]at J;split at J
  .rename_i M
   cases J;cases T with
   |tuple V L=>
    obtain⟨R,U⟩:=h.each (env:=X.env);erw[FD hc (JN F h O M.symm) R U K s B H _ u Q I r (_,_,rfl,SqT.of (env.sub _ _ V),by rw[<-L.length];exact M.symm,W,Z,G,Y,env,L,k)]
  .cases J
 |list O=>
  rw[ip]at J;split at J
  .rename_i M
   cases J;cases T with
   |list V L=>
    obtain⟨R,U⟩:=h.each (env:=X.env);erw[GH hc (JN F h O M.symm) R U K s B H _ u Q I r (_,_,rfl,SqL.of (env.sub _ _ V),by rw[<-L.length];exact M.symm,W,Z,G,Y,env,L,k)]
  .cases J
 |_=>cases J
section
variable {ν:NK}{G0:Bs}
def blk_at{sl}(h:(SI.blk tn.length js Y)[i]?=some sl):sl=.no\/∃j,js[i-tn.length]?=some j/\tn.length<=i/\sl=lend (Y[j]?.getD .no):=by
 unfold SI.blk at h
 by_cases J:i<tn.length
 .rw[gl0 @6,List.getElem?_replicate,if_pos J]at h
  simp_all
 .rw[List.getElem?_append_right (by simp;lia)]at h
  cases q:js[i-tn.length]?<;>simp_all
def cF{i j}(h:tn.length<=i)(e:js[i-tn.length]?=some j):(gc tn js σ)[i]?=some (σ[j]?).join:=by
 unfold gc;rw[List.getElem?_append_right (by simpa using h),gm0,lm0,e];rfl
def dh(Y:List Sl):Prop:=∀(i:Nat) d,Y[i]?≠some (.own d)/\Y[i]?≠some (.io d)
def lend_own{sl}{d}:lend sl≠.own d/\lend sl≠.io d:=by cases sl<;>exact(λh=>(by cases h),λh=>(by cases h))
def aX:dh (SI.blk tn.length js Y):=λi d=>by
 refine(λh=>?_,λh=>?_)<;>rcases blk_at h with h|⟨j,_,_,h⟩
 .cases h
 .erw[lend_own.1 h.symm]
 .cases h
 .erw[lend_own.2 h.symm]
theorem EnvD.blk(E:EnvD ν K G0 H0 G H σ Y):EnvD ν K (G,none) H G H (gc tn js σ) (SI.blk tn.length js Y):=by
 have slot:∀{j:Nat}{sl},lend (Y[j]?.getD .no)=sl->sl≠.no->∃s,Y[j]?=some s/\lend s=sl:=λ{j sl} h U=>by
  cases r:Y[j]? with
  |none=>rw[r]at h;erw[absurd h.symm U]
  |some s=>rw[r]at h;exact(s,rfl,h)
 refine(.refl E.sub,by simp[gc,SI.blk],λi d h=>?_,λi d h=>?_,λi R h=>((aX i R).1 h).elim,λi a R a a h=>((aX i R).1 h).elim,λi d h=>((aX i d).2 h).elim,λi a d a h=>((aX i d).2 h).elim,λa a=>rfl)
 .rcases blk_at h with h|⟨j,L,N,h⟩
  .cases h
  obtain⟨s,M,h⟩:=slot h.symm @0;cases s with
  |dat O=>
   cases h;obtain⟨v,J,r⟩:=E.dat j d M;exact(v,by rw[cF N L,J];rfl,r)
  |_=>cases h
 .rcases blk_at h with h|⟨j,L,N,h⟩
  .cases h
  obtain⟨s,M,h⟩:=slot h.symm @0;cases s with
  |lent O=>
   cases h;obtain⟨v,J,r⟩:=E.lent j d M;exact(v,by rw[cF N L,J];rfl,r.ext E.ext)
  |own O=>
   cases h;obtain⟨q,J,_,_,r⟩:=E.own j d M;exact(_,by rw[cF N L,J];rfl,r.dr)
  |io O=>
   cases h;obtain⟨q,_,J,r,_⟩:=E.io.at' j d M;exact(_,by rw[cF N L,J];rfl,r.dr E.sub)
  |_=>cases h
def EnvD.touch{p}{o}(E:EnvD ν K G0 H0 G H σ Y)(L:dh Y)(N:G p=none)(M:H0 p=none):EnvD ν K G0 H0 G (upd H p o) σ Y:=
 ((λb u e=>by rw[ab (ag e M)];erw[E.ext.hh b u e],E.ext.gg,λb u e=>by rw[ab (ag e N)];erw[E.ext.gh b u e],E.ext.nw),E.len,E.dat,E.lent,λi J h=>((L i J).1 h).elim,λi a J a a h=>((L i J).1 h).elim,λi d h=>((L i d).2 h).elim,E.io.one,E.io.fr)
def EnvD.forget{Y'}(E:EnvD ν K G0 H0 G H σ Y)(R:Y'.length=Y.length)(h:∀(i:Nat) sl,Y'[i]?=some sl->sl=.no\/Y[i]?=some sl):EnvD ν K G0 H0 G H σ Y':=by
 have h:=λ{i:Nat}{sl} (n:sl≠.no) e=>(h i sl e).resolve_left n
 refine(E.ext,by rw[R];erw[E.len],λi d e=>E.dat i d (h nofun e),λi d e=>E.lent i d (h nofun e),λi d e=>E.own i d (h nofun e),λi j d e p J L=>E.apart i j d e p (h nofun J) (h nofun L),λi d e=>?_,λi j d e J L=>E.io.one i j d e (h nofun J) (h nofun L),λi e=>E.io.fr i (h nofun e));obtain⟨p,N,a,b,c,f,g⟩:=E.io.at' i d (h nofun e);exact(p,N,a,b,c,f,λj M q O=>g j M q (h nofun O))
end
def iz{t}{n}{Y Y'}(R:jH t n=true)(J:ax t d Y=some Y'):Y'.length=Y.length/\(∀i,n<=i->Y'[i]?=Y[i]?)/\(dh Y->dh Y'):=by
 have one:∀{i:Nat}{Y:List Sl}{d:D},i<n->(Y.set i (.dat d)).length=Y.length/\(∀j,n<=j->(Y.set i (.dat d))[j]?=Y[j]?)/\(dh Y->dh (Y.set i (.dat d))):=λ{i Y d} C=>
  (by simp,λj K=>gn0 @5,λh j e=>(λK=>(h j e).1 (getE_io K @0).2,λK=>(h j e).2 (getE_io K @0).2))
 have fold:∀(L:List (Nat×D))(Y:List Sl),(∀p∈L,p.1<n)->(L.foldl (λY p=>Y.set p.1 (.dat p.2)) Y).length=Y.length/\(∀j,n<=j->(L.foldl (λY p=>Y.set p.1 (Sl.dat p.2)) Y)[j]?=Y[j]?)/\(dh Y->dh (L.foldl (λY p=>Y.set p.1 (Sl.dat p.2)) Y)):=by
  intro L
  induction L with
  |nil=>intro Y _;exact(rfl,λc c=>rfl,λh=>h)
  |cons q r ih=>
   intro Y N;obtain⟨V,a2,W⟩:=one (Y:=Y) (d:=q.2) (N q ms0);obtain⟨Z,T,F⟩:=ih (Y.set q.1 (.dat q.2)) λx B=>N x (mc0 _ B)
   exact(Z.trans V,λj K=>(T j K).trans (a2 j K),λh=>F (W h))
 have M:∀{U:List Nat}{O:List D},(U.all λi=>decide (i<n))=true->∀p∈U.zip O,p.1<n:=λh p N=>od0 (List.all_eq_true.mp h p.1 (List.of_mem_zip (a:=p.1) (b:=p.2) N).1)
 cases t with
 |one i=>cases J;erw[one (od0 R)]
 |tup U=>
  cases d with
  |tuple O=>
   rw[iq]at J;split at J
   .cases J;erw[fold _ _ (M R)]
   .cases J
  |list O=>
   rw[ip]at J;split at J
   .cases J;erw[fold _ _ (M R)]
   .cases J
  |_=>cases J
def Ecs(X:Cx)(Y:List Sl)(ifs:A3)(t:Bool):Prop:=PCs X ifs (tEt X.nk X.K Y t)
def ecs_nil:Ecs X Y [] true:=by rintro J s M H Q I ⟨K,L,G,E,k⟩;exact (have h:=(k G H (.refl E.sub));wpAny_tests_nil (H,I,h))
def CI{t}(h:Et X Y c t):Ecs X Y [c] t:=(λJ s K H Q I q=>wpAny_tests_one (h _ s K H Q I q))
theorem jT(f:D->Option (Option D)):∀(xs:List D)(d:D),ay f (xs++[d])=(ay f xs).bind λa=>(f d).map λo=>a++o.toList
 |[],d=>by
  show (f d).bind _=_;cases f d with
  |none=>rfl
  |some o=>cases o<;>rfl
 |x::r,d=>by
  show (f x).bind _=((f x).bind _).bind _;cases f x with
  |none=>rfl
  |some o=>
   show (ay f (r++[d])).map _=((ay f r).map _).bind _;rw[jT f r d];cases ay f r with
   |none=>rfl
   |some q=>cases f d with
    |none=>rfl
    |some u=>cases o<;>rfl
def sv{f}{ds out}(h:ay f ds=some out):∀i≤ds.length,∃q,ay f (ds.take i)=some q:=by
 have L:∀(J K:List D)(out:List D),ay f (J++K)=some out->∃q,ay f J=some q:=by
  intro J
  induction J with
  |nil=>intro K out _;exact(_,rfl)
  |cons x r ih=>
   intro K out h;obtain⟨o,M,N⟩:=bx0 (h);obtain⟨q,O,U⟩:=mx0 N;obtain⟨W,R⟩:=ih K q O;exact(_,by show (f x).bind _=_;rw[M,R];rfl)
 erw[λi V=>L _ (ds.drop i) out @6]
theorem lR{f}:∀{ds out},ay f ds=some out->out.length<=ds.length
 |[],out,h=>by cases h;erw[nr0 _]
 |x::r,out,h=>by
  obtain⟨o,M,J⟩:=bx0 (h);obtain⟨q,K,L⟩:=mx0 J;have:=lR K;subst L;cases o<;>simp<;>lia
def teC(X:Cx)(scope:Scope)(N:A1)(e:Expr):TE:=λO H Q=>∀C M K L J s,Inv (L2.C.blk X scope N C M K L) J O H s->wpAny @4 X.A (eval e (L2.C.blk X scope N C M K L).env) (EP (L2.C.blk X scope N C M K L) J O Q) (λa a=>False) s
def tcC(X:Cx)(scope:Scope)(N:A1)(ifs:A3):TT:=λO H Q=>∀C M K L J s,Inv (L2.C.blk X scope N C M K L) J O H s->wpAny @4 X.A (nE ifs (L2.C.blk X scope N C M K L).env) (TP (L2.C.blk X scope N C M K L) J O Q) (λa a=>False) s
def tgC(X:Cx)(scope:Scope)(N:A1)(tg:Expr):TG:=λv V H Q=>∀C O L M J s u,Inv (L2.C.blk X scope N C O L M) J V H s->RelV v u->wpAny @4 X.A (assign tg (L2.C.blk X scope N C O L M).env u) (λa U=>∃K R,Inv (L2.C.blk X scope N C O L M) J K R U/\Q K R) (λa a=>False) s
structure ui(X:Cx)(Φ:Fs)(Γ:List (Str×D))(scope:Scope)(N:A1)(tg:Expr)(t:Tg)(ifs:A3)(ifs':Es)(elt:Expr)(elt':E):Prop where
 tgt:∀(C:Addr)(s:Shared)(H:Hp)(fp:A4),Tgj (L2.C.blk X scope N C s H fp) tg t
 test:∀(C:Addr)(s:Shared)(H:Hp)(fp:A4) Y b,evC Φ Γ Y ifs'=some b->Ecs (L2.C.blk X scope N C s H fp) Y ifs b
 elt:∀(C:Addr)(s:Shared)(H:Hp)(fp:A4) Y d,ev Φ Γ .val Y elt'=some d->Ev (L2.C.blk X scope N C s H fp) Y elt d
variable {Φ:Fs}{scope:Scope}{t:Tg}{ifs':Es}{elt':E}{out:List D}
abbrev gr(Φ:Fs)(Γ:List (Str×D))(n:Nat)(js:List Nat)(t:Tg)(ifs':Es)(elt':E)(Y:List Sl):D->Option (Option D):=
 λd=>(ax t d (SI.blk n js Y)).bind λJ=>(evC Φ Γ J ifs').bind λb=>if b then (ev Φ Γ .val J elt').map some else some none
def lS{σ}{G0}{H0 G1 H1}{J}{Q:VK}(hi:km X.K G1 H1 J ds)(T:ui X Φ Γ scope @7 tg t ifs ifs' elt elt')(ht:jH t tn.length=true)(hz:ds.length<=sizeLine)(E:EnvD X.nk X.K G0 H0 G1 H1 σ Y)
  (G:ay (gr Φ Γ tn.length js t ifs' elt' Y) ds=some out)
  (k:∀q vs F L,Ext G1 H1 F L->F q=none->H1 q=none->L q=some (.lst vs)->Dps X.K F out vs->Q (.ref q) L):
  ∀q,H1 q=none->∃W:Nat->Nat->St->Hp->Prop,(∃m,W 0 m (gc tn js σ) (upd H1 q (.lst [])))/\∀i m N L,W i m N L->
   (J.stop i L/\Q (.ref q) L)\/(J.go i L/\∀v c,J.yld i L v c->tgC X scope @7 tg v N c λZ n=>tcC X scope @7 ifs Z n λb H4=>
    if b=true then teC X scope @7 elt Z H4 λy H5=>∃O,H5 q=some (.lst O)/\O.length<sizeLine/\∃m',m'<m/\W (i+1) m' Z (upd H5 q (.lst (O++[y])))else ∃m',m'<m/\W (i+1) m' Z H4):=by
 intro q V;have r:dh (SI.blk tn.length js Y):=aX;refine(λi m N L=>m=ds.length-i/\i<=ds.length/\∃F O outs,EnvD X.nk X.K (G1,none) H1 F L N (SI.blk tn.length js Y)/\L q=some (.lst O)/\F q=none/\Dps X.K F outs O/\ay (gr Φ Γ tn.length js t ifs' elt' Y) (ds.take i)=some outs,
  (ds.length,by simp,Nat.zero_le _,G1,[],[],?_,aa,E.sub.free V,.nil,rfl),?_)
 .exact (E.blk (tn:=tn) (js:=js)).touch r (E.sub.free V) V
 .rintro i m N L ⟨rfl,j7,F,O,outs,D,l,j1,r',B⟩
  have sm:=D.ext.gg.trans D.sub
  by_cases U:i<ds.length
  .refine .inr (hi.go i L U sm D.ext.hh,λv c y=>?_)
   have hb:=ge0 U;have tk:ds.take (i+1)=ds.take i++[ds[i]]:=by rw[List.take_add_one,hb];rfl
   generalize ds[i]=dd at hb tk;obtain⟨d,g⟩:=sv G (i+1) U;have j0:=g;rw[tk,jT,B]at j0;obtain⟨o,P,e1⟩:=mx0 (j0:(gr Φ Γ tn.length js t ifs' elt' Y dd).map _=some d);obtain⟨Y1,h,P⟩:=bx0 P;obtain⟨tb,j4,P⟩:=bx0 P;obtain⟨l1,l2,l3⟩:=iz ht h;obtain⟨G2,e2,d2⟩:=hi.yld i F L v c dd hb D.ext.gg D.sub D.ext.hh y;have j2:=e2.hh _ _ l;have j5:=e2.nw _ _ j1 l;have r2:=r'.mono e2.gg;have j6:O.length<=i:=by
    rw[<-r'.length];erw[nt0 (lR B) (by rw[List.length_take];simp_all)]
   have j9:=l3 r;have back:∀{x n:Hp}{j3:St},EnvD X.nk X.K (G1,none) H1 x n j3 Y1->EnvD X.nk X.K (G1,none) H1 x n j3 (SI.blk tn.length js Y):=λE3=>E3.forget l1.symm λj sl hj=>by
    by_cases j8:j<tn.length
    .left
     rcases blk_at hj with z|⟨_,_,z,_⟩
     .erw[z]
     .grind
    .right;rw[l2 j @6];erw[hj]
   intro C s0 R a M s u I rv;refine T.tgt C s0 R a dd M s N c v u _ I rv ((G1,none),H1,G2,_,Y1,D.step e2,d2,h,λZ E2=>?_);intro C s0 R a M s I;refine T.test C s0 R a Y1 tb j4 M s _ c _ I ((G1,none),H1,G2,E2,λx n H=>?_);have S:=H.hh _ _ j2;have f:=H.nw _ _ j5 j2;cases tb with
   |false=>
    rw[if_neg fx0]at P;cases P;subst e1;refine nD (ds.length-(i+1),by lia,rfl,U,x,O,_,back (E2.step H),S,f,?_,g);rw[Option.toList_none,List.append_nil];erw[r2.mono H.gg]
   |true=>
    rw[if_pos rfl]at P;obtain⟨w0,hw,A⟩:=mx0 P;subst A e1;refine iteT ?_;intro C s0 R a M s I;refine T.elt C s0 R a Y1 w0 hw M s _ n _ I ((G1,none),H1,x,E2.step H,λw G4 H4 A r4=>?_);refine(O,A.hh _ _ S,by grind,ds.length-(i+1),by lia,rfl,U,G4,O++[w],_,(back ((E2.step H).step A)).touch r (A.nw _ _ f S) V,aa,A.nw _ _ f S,?_,g);exact ((r2.mono H.gg).mono A.gg).append (.one r4)
  .have e:i=ds.length:=by lia
   subst e;rw[List.take_length,G]at B;cases B;exact .inl (hi.stop L sm D.ext.hh,k q O F L D.ext j1 V l r')
def uj(B:BlkOk X scope js)(M:X.calm=true)(w:PI X tg iter (tSi X.nk X.K Y false ds))(T:ui X Φ Γ scope @7 tg t ifs ifs' elt elt')(m:jH t tn.length=true)(hz:ds.length<=sizeLine)
  (R:ay (gr Φ Γ tn.length js t ifs' elt' Y) ds=some out) (hs:∀x,foldedSetIterable iter X.env x=pure x):En X Y (.ListComp elt [(tg,iter,ifs,0)] scope pos) (.list out):=by
 intro L s l H Q I h;obtain⟨S,P,G,E,k⟩:=h;refine nF (tn:=tn) (js:=js) (g:=tgC X scope @7 tg) (tc:=tcC X scope @7 ifs) (te:=teC X scope @7 elt) B M w
  (λC s H O L U V W v u F N r h=>h C s H O L U u N r) (λC s H O L U V W F N h=>h C s H O L U N) (λC s H O L U V W F N h=>h C s H O L U N) hs L s l H Q I ?_
 refine(S,P,G,E,λJ d c Z f=>lS f T m hz (E.step Z) R λq b D W A j z y r=>k q D W (Z.trans A) j (Z.hh.free z) (_,_,rfl,y,r))
end
def EF(ν:NK)(K:Fg)(M:Bs)(L N:Hp)(w:D):Prop:=∀p J,M.pin=some (p,J)->rR w=true->IoAt ν K L N w p J/\∀b∈J,L b=none
def Goes(ν:NK)(K:Fg)(N:Bs)(O G:Hp)(o:Out)(F:Ends):Prop:=match o with
 |.nx R=>∀J L M,EnvD ν K N O J L M R->Same G J->F.nx M L
 |.rt d w=>∀v J L,Dp K J d v->Ext N.g O J L->EF ν K N J L w->F.rt v L
def EnvD.ioEnd{ν}{K}{G0}{H0 G H}{σ}{Y}(E:EnvD ν K G0 H0 G H σ Y):EF ν K G0 G H (dW Y):=λp R M N=>by
 have L:∀Y,rR (dW Y)=true->∃i:Nat,Y[i]?=some (.io (dW Y)):=λY=>by
  induction Y with
  |nil=>intro h;cases h
  |cons s r ih=>
   cases s with
   |io d=>exact λe=>(0,rfl)
   |_=>exact λh=>let ⟨i,J⟩:=ih h;(i+1,J)
 obtain⟨i,J⟩:=L Y N;obtain⟨q,U,a,b,c,f,_⟩:=E.io.at' i _ J;cases f _ M;exact(b,λx O=>(c x O).1)
def Goes.go{ν}{K}{G0}{H0 G G1}{o}{F}(h:Goes ν K G0 H0 G o F)(s:Same G G1):Goes ν K G0 H0 G1 o F:=by
 cases o with
 |nx N=>exact λJ L M e g=>h J L _ e (s.trans g)
 |rt d w=>exact h
def tEp(ν:NK)(K:Fg)(Y:List Sl)(o:Out):TS:=λF M H=>∃J L G,EnvD ν K J L G H M Y/\Goes ν K J L G o F
def E1(X:Cx)(Y:List Sl)(J:Stmt)(o:Out):Prop:=PS X J (tEp X.nk X.K Y o)
def Ep(X:Cx)(Y:List Sl)(J:List Stmt)(o:Out):Prop:=PSs X J (tEp X.nk X.K Y o)
section
variable {st:Stmt}{rest:List Stmt}{o:Out}{p:Pos}{es:List D}{y:Str}
def GJ:Ep X Y [] (.nx Y):=by rintro J s L H F I ⟨M,N,G,K,R⟩;erw[kK J s L H F I (R G H L K (Same.refl _))]
def yQ(O:E1 X Y st (.nx Y1))(W:Ep X Y1 rest o):Ep X Y (st::rest) o:=by rintro L s U H F I ⟨M,N,G,J,R⟩;exact bV O W _ s U H F I (M,N,G,J,λV T Z K g=>(M,N,V,K,R.go g))theorem ep_consR {w} (O:E1 X Y st (.rt d w)):Ep X Y (st::rest) (.rt d w):=by rintro L s U H F I ⟨M,N,G,J,R⟩;exact bV (u:=λa a a=>False) O (λa a a a a a z=>z.elim) _ s U H F I (M,N,G,J,R)theorem ioOf_fz:∀Y:List Sl,dW (Y.map freeze)=dW Y
 |[]=>rfl
 |s::r=>by cases s<;>first|rfl|exact ioOf_fz r
def yS(h:Ev X (Y.map freeze) e d):E1 X Y (.Return (some e) pos) (.rt d (dW Y)):=by
 rintro M s Z H F I ⟨O,W,G,K,R⟩
 obtain⟨U,J,T⟩:=K.freeze;erw[ng h _ s Z H F I (O,W,U,J,λv N V L r=>R v N V r (J.ext.trans L) (by have:=(J.step L).ioEnd;rwa [ioOf_fz]at this))]
structure Sto(X:Cx)(x:Str)(i:Nat):Prop where
 nd:X.N.Nodup
 nm:GI X x i
def Sto.lt(S:Sto X x i){Zp}{H}{s}(I:Inv X Zp σ H s):i<σ.length:=by rw[I.len];exact (gi0 S.nm.at').1
def yT(S:Sto X x i)(h:En X Y e d)(hs:swapsWith e (some (.Name x pos')) pos.line X.env=pure false):E1 X Y (.Assign [.Name x pos'] e pos) (.nx (Y.set i (.own d))):=
 by rintro J s W H F I ⟨N,U,G,env,R⟩;exact hV S.nd S.nm.at' S.nm.loc h hs S.nm.fn J s W H F I (N,U,G,env,λp M O K V L r=>
  R M O _ ((env.step K).setOwn (S.lt I) r V (env.ext.hh.free L) (env.fresh L K.gg K.hh)) K.gg)
def CJ{Φ}{Γ}{elt}{ifs}{scope}{tn}{js}{t}{ifs'}{elt'}{out}(S:Sto X x i)(B:BlkOk X scope js)(M:X.calm=true)(b:PI X tg iter (tSi X.nk X.K Y false ds))
  (T:ui X Φ Γ scope @7 tg t ifs ifs' elt elt') (n:jH t tn.length=true) (hz:ds.length<=sizeLine) (W:ay (gr Φ Γ tn.length js t ifs' elt' Y) ds=some out) (hs:∀x,foldedSetIterable iter X.env x=pure x)
  (e:X.env.scope.names.lookup x=some .local) (E:swapsWith (.ListComp elt [(tg,iter,ifs,0)] scope p) (some (.Name x pos')) pos.line X.env=pure true):
  E1 X Y (.Assign [.Name x pos'] (.ListComp elt [(tg,iter,ifs,0)] scope p) pos) (.nx (Y.set i (.own (.list out)))):=by
 intro L s z H F I h;obtain⟨w,m,G,env,R⟩:=h;refine ud (tn:=tn) (js:=js) (g:=tgC X scope @7 tg) (tc:=tcC X scope @7 ifs) (te:=teC X scope @7 elt) B M b
  (λC s H V L Z D N v u A O r h=>h C s H V L Z u O r) (λC s H V L Z D N A O h=>h C s H V L Z O) (λC s H V L Z D N A O h=>h C s H V L Z O) S.nd S.nm.at' e E hs L s z H F I ?_
 refine(w,m,G,env,λJ a H1 U c=>lS (Q:=λv N=>F.nx (z.set i (some v)) N) c T n hz (env.step U) W λq vs f N P k j d r=>?_);have l:=(env.step U).step P;erw[R f N _ (l.setOwn (S.lt I) (_,_,rfl,d,r) k (env.ext.hh.free (U.hh.free j)) ((env.step U).fresh j P.gg P.hh)) (U.gg.trans P.gg)]
def GK{n m}(S:Sto X x i)(W:Y[i]?=some (.dat (.int n)))(h:Ev X Y e (.int m)):E1 X Y (.AugAssign (.Name x pos') .Add e pos) (.nx (Y.set i (.dat (.int (n+m))))):=by
 intro L s T H F I V;obtain⟨M,O,G,J,R⟩:=V;obtain⟨v,ev,U⟩:=J.dat i _ W;cases U;refine FE S.nd S.nm.at' S.nm.loc h FG S.nm.fn _ s T H F I (_,ev,M,O,G,J,λw N D K Z=>?_);cases Z;exact(n,m,rfl,rfl,R N _ _ ((J.step K).set (S.lt I) (.int _)) K.gg)
def JO{a b}{t}(h:Et X Y c t)(Z:t=true->Ep X Y a o)(T:t=false->Ep X Y b o):E1 X Y (.If c a b pos) o:=by
 cases t with
 |true=>
  intro N s V H F I U;obtain⟨K,L,G,J,R⟩:=U;erw[xF (u:=λd d d=>False) h (Z rfl) (λd d d d d d z=>z.elim) _ s V H F I (K,L,G,J,λO W M=>iteT (K,L,O,J.step M,R.go M.gg))]
 |false=>
  intro N s V H F I U;obtain⟨K,L,G,J,R⟩:=U;erw[xF (t:=λd d d=>False) h (λd d d d d d z=>z.elim) (T rfl) _ s V H F I (K,L,G,J,λO W M=>nD (K,L,O,J.step M,R.go M.gg))]
def tXs(X:Cx)(body:List Stmt):TS:=λF K H=>∀J s,Inv X J K H s->wpAny @4 X.A (execs body X.env) (SP X J F) X.xe s
def EG:PSs X body (tXs X body):=λJ s K H F I h=>h _ s I
def tXt(X:Cx)(c:Expr):TT:=λK H Q=>∀J s,Inv X J K H s->wpAny @4 X.A (isTrue c X.env (eval c X.env)) (TP X J K Q) X.xe s
def Mu:PT X c (tXt X c):=λJ s K H Q I h=>h _ s I
def tXg(X:Cx)(tg:Expr):TG:=λv N H Q=>∀J s u,Inv X J N H s->RelV v u->wpAny @4 X.A (assign tg X.env u) (λa M=>∃K L,Inv X J K L M/\Q K L) X.xe s
def Mv:PG X tg (tXg X tg):=λJ s K H v u Q I r h=>h _ s u I r
def GL{t}{run}(hi:Si X Y true iter ds)(ht:Tgj X tg t)(hb:∀V i,run V=some i->Ep X V body i)(h:forL (ax t) run ds Y=some o)
  (hc:X.calm=true) (hp:PassesOwn @4 X.A X.env X.xe) (hf:∀x,foldedSetIterable iter X.env x=pure x):E1 X Y (.For tg iter body [] pos) o:=by
 intro j s σ H F I h0;obtain⟨S,P,G,env,R⟩:=h0;refine FI hp hc (hi _) (Mv (tg:=tg)) (EG (body:=body)) hf j s σ H F I ?_;refine(S,P,G,env,λJ q H1 d f=>(λk m O B=>m=ds.length-k/\k<=ds.length/\∃V Q,forL (ax t) run (ds.drop k) V=some o/\EnvD X.nk X.K S P Q B O V/\Same q Q,(ds.length,by simp,Nat.zero_le _,Y,q,h,env.step d,Same.refl _),?_))
 rintro k m O B ⟨rfl,hk,V,Q,M,L,E⟩
 have g0:=d.gg.trans E
 by_cases N:k<ds.length
 .refine .inr (f.go k B N (E.trans L.sub) L.ext.hh,λU C=>k+1<=ds.length/\∃z W,forL (ax t) run (ds.drop (k+1)) z=some o/\EnvD X.nk X.K S P W C U z/\Same q W,by rintro U C ⟨h1,z,W,p2,Z,l⟩;exact(ds.length-(k+1),by grind,rfl,h1,z,W,p2,Z,l),λv C y=>?_)
  have b:=ge0 N;rw[List.drop_eq_getElem_cons N]at M;generalize ds[k]=u at b M;obtain⟨r,b1,M⟩:=bx0 (M:(ax t u V).bind _=some o);obtain⟨n,b2,M⟩:=bx0 M;obtain⟨W,c,d2⟩:=f.yld k Q B v C u b E L.sub L.ext.hh y;intro T s' u' I' r';refine ht u T s' O C v u' _ I' r' (S,P,W,V,r,L.step c,d2,b1,λU Z=>?_);intro D l I2;refine hb r n b2 D l U C _ I2 (S,P,W,Z,?_);cases n with
  |nx Y3=>exact λa H3 j0 g g3=>(N,Y3,a,M,g,E.trans (c.gg.trans g3))
  |rt dr w=>
   cases M;erw[R]
 .have e:k=ds.length:=by grind
  subst e;rw[List.drop_length]at M;cases M;exact .inl (f.stop B (E.trans L.sub) L.ext.hh,R Q B O L g0)
def yU{cond}{run}(hc:∀J P,cond J=some P->∃b,P=.bool b/\Et X J c b)(i:∀J j,run J=some j->Ep X J body j)(n:Nat)(h:ik cond run n Y=some o)
  (e:PassesOwn @4 X.A X.env X.xe):E1 X Y (.While c body [] pos) o:=by
 intro V s σ H F I d;obtain⟨T,B,G,env,R⟩:=d;refine xH e (Mu (c:=c)) (EG (body:=body)) V s σ H F I ?_;refine(λm M D=>∃J W,ik cond run m J=some o/\EnvD X.nk X.K T B W D M J/\Same G W,(n,Y,G,h,env,Same.refl _),?_)
 rintro m M D ⟨J,W,N,L,E⟩
 cases m with
 |zero=>cases N
 |succ m=>
  obtain⟨k,l,N⟩:=bx0 (N:(cond J).bind _=some o);obtain⟨t,rfl,x⟩:=hc J k l;rw[DS,bs0]at N;intro O a u;refine x O a M D _ u (T,B,W,L,λQ S Z=>?_);cases t with
  |true=>
   rw[if_pos rfl]at N;obtain⟨z,v,N⟩:=bx0 N;refine iteT (_,λj0 H2 w2=>(m,Nat.lt_succ_self _,w2),?_);intro U s2 g;refine i J z v U s2 M S _ g (T,B,Q,L.step Z,?_);cases z with
   |nx f=>exact λq H3 j1 C r=>(f,q,N,C,E.trans (Z.gg.trans r))
   |rt dr w=>cases N;erw[R]
  |false=>
   cases N;erw[nD (R Q S M (L.step Z) (E.trans Z.gg))]
end
structure VarOk(X:Cx)(x:Str)(i:Nat):Prop where
 at':X.N[i]?=some x
 vis:Vis X.env.scope x
 d:(x==("__debug__":Str))=false
 cd:(x==("__classdict__":Str))=false
section
variable {st:Stmt}{rest:List Stmt}{o:Out}{k:Expr}{p p1 cpos:Pos}{es:List D}{y:Str}
def VarOk.pe(V:VarOk X x i):PE X (.Name x p) (xC i):=fF V.at' V.vis V.d V.cd
def eT{name}:attributeBase (.Name x p1) name env (eval (.Name x p1) env)=eval (.Name x p1) env:=rfl
def dc{ν}{K}{G0}{H0 G H}{σ}(env:EnvD ν K G0 H0 G H σ Y)(h:Y[i]?=some (.own (.list ds))):∃q vs,σ[i]?=some (some (.ref q))/\H q=some (.lst vs)/\Dps K G ds vs:=by
 obtain⟨q,a,_,_,g⟩:=env.own i _ h;obtain⟨J,vs,L,M,N⟩:=g;cases L;exact(q,vs,a,M,N)
def sy{H}{ps}{q}{o}(h:q∈ps):er (upd H q o) ps=er H ps:=by
 funext b
 by_cases z:b∈ps
 .rw[jJ z,jJ z]
 .rw[aH z,aH z,ab λe=>z (by rwa [e])]
def jf{G H}{ps}(s:Same G H)(h:∀b∈ps,G b=.none):Same G (er H ps):=λb o e=>by
 rw[aH λz=>by simp_all];erw[s b o e]
def mu(k:Bool)(d:D):Sl:=if k then .io d else .own d
def um{ν}{K}{G0}{H0 G H}{σ}{k}(env:EnvD ν K G0 H0 G H σ Y)(h:Y[i]?=some (mu k (.list ds))):∃q vs,σ[i]?=some (some (.ref q))/\H q=some (.lst vs)/\Dps K G ds vs/\
  ∀{G1 N:Hp}{es:List D}{U:List V},Ext G H G1 N->Dps K G1 es U->EnvD ν K G0 H0 G1 (upd N q (.lst U)) σ (Y.set i (mu k (.list es))):=by
 cases k with
 |false=>
  obtain⟨q,vs,a,b,g⟩:=dc env h;exact(q,vs,a,b,g,λJ r=>(env.step J).change h a (_,_,rfl,aa,r))
 |true=>
  obtain⟨q,B,a,io,_⟩:=env.io.at' i _ h;rcases id io with⟨Z,vs,L,rfl,T,F⟩|⟨_,_,_,_,_,_,L,_⟩|⟨_,_,L,_⟩
  .cases L
   refine(q,vs,a,T,F,λ{G1 N es U} J r=>?_);have O:=env.step J;obtain⟨Q,C,W,M,c,_⟩:=O.io.at' i _ h;rw[a]at W;cases W;obtain rfl:=io.same J.gg (J.hh q) M rfl;erw[O.ioGo h a M (by rw[sy @0];exact .refl (jf O.sub λb R=>(c b R).1)) (λb R=>(c b R).1) (.inl (_,_,rfl,rfl,aa,r))]
  .cases L
  .cases L
def yV{m}(V:VarOk X x i)(h:Ev X Y e d)(hs:isStar e=false)(D:Y[i]?=some (mu m (.list ds)))(hz:ds.length<sizeLine)(J:@15=true):
  E1 X Y (.Expr (.Call (.Attribute (.Name x p1) "append" apos) [e] [] cpos) pos) (.nx (Y.set i (mu m (.list (ds++[d]))))):=by
 have M:=starEach_cons (es:=[]) (env:=X.env) hs;intro K s B H F I T;obtain⟨O,W,G,env,R⟩:=T;obtain⟨q,N,a,b,g,Z⟩:=um env D;refine fU (kY PySem.F.plainAttrs_list PySem.F.slot_list_append PySem.F.type_list_append hX V.pe (pa_cons h pa_nil M) eT (by rw[M];rfl) J M rfl) rfl K s B H F I ?_;refine(.ref q,a,(rfl,N,SqL.of b),O,W,G,env,λw U C L r=>?_);exact(q,N,w,rfl,rfl,L.hh _ _ b,by rw[<-g.length];erw[hz],R U _ _ (Z L ((g.mono L.gg).append (.one r))) L.gg)
def yW{m}(V:VarOk X x i)(h:Er X Y e (.list es))(hs:isStar e=false)(C:Y[i]?=some (mu m (.list ds)))(hz:ds.length+es.length<=sizeLine)(J:@15=true):
  E1 X Y (.Expr (.Call (.Attribute (.Name x p1) "extend" apos) [e] [] cpos) pos) (.nx (Y.set i (mu m (.list (ds++es))))):=by
 have M:=starEach_cons (es:=[]) (env:=X.env) hs;intro L s P H F I D;obtain⟨U,Z,G,env,R⟩:=D;obtain⟨q,O,a,b,g,T⟩:=um env C;refine fU (kY PySem.F.plainAttrs_list PySem.F.slot_list_extend PySem.F.type_list_extend vZ V.pe (pa_cons h pa_nil M) eT (by rw[M];rfl) J M rfl) rfl L s P H F I ?_;refine(.ref q,a,(rfl,O,SqL.of b),U,Z,G,env,λw W E K r=>?_);obtain⟨Q,S,rfl,B,N⟩:=r.lst K.gh;exact(q,Q,O,S,rfl,rfl,K.hh _ _ b,B,by rw[<-g.length,<-N.length];erw[hz],R W _ _ (T K ((g.mono K.gg).append N)) K.gg)
def GM(V:VarOk X x i)(M:Y[i]?=some (.own (.list ds)))(J:@15=true):
  E1 X Y (.Expr (.Call (.Attribute (.Name x p1) "reverse" apos) [] [] cpos) pos) (.nx (Y.set i (.own (.list ds.reverse)))):=by
 intro L s U H F I O;obtain⟨W,Z,G,K,R⟩:=O;obtain⟨q,N,a,b,g⟩:=dc K M;refine fU (xX PySem.F.plainAttrs_list PySem.F.slot_list_reverse PySem.F.type_list_reverse rP V.pe eT J) rfl L s U H F I ?_;exact(.ref q,a,(rfl,N,SqL.of b),q,N,rfl,rfl,b,R G _ _ (K.change M a (_,_,rfl,aa,g.reverse)) (Same.refl _))
def GN(V:VarOk X x i)(S:Sto X y j)(M:Y[i]?=some (.own (.list ds)))(W:ds[ds.length-1]?=some d)(J:@15=true):
  E1 X Y (.Assign [.Name y pos'] (.Call (.Attribute (.Name x p1) "pop" apos) [] [] cpos) pos) (.nx ((Y.set i (.own (.list ds.dropLast))).set j (.dat d))):=by
 intro L s Z H F I U;obtain⟨T,D,G,K,R⟩:=U;obtain⟨q,N,a,b,g⟩:=dc K M;refine hV S.nd S.nm.at' S.nm.loc (xX PySem.F.plainAttrs_list PySem.F.slot_list_pop PySem.F.type_list_pop FS V.pe eT J) rfl S.nm.fn L s Z H F I ?_;obtain⟨v,ev,O⟩:=g.get W;rw[g.length]at ev;exact(.ref q,a,(rfl,N,SqL.of b),q,N,v,rfl,rfl,b,ev,R G _ _ ((K.change M a (_,_,rfl,aa,g.dropLast)).set (S.lt I) O) (Same.refl _))
def swaps_sub :swapsWithSole [.Subscript (.Name x p1) k spos] e pos.line env=pure false:=by
 cases e<;>rfl
def swapped_sub :swappedStores [.Subscript (.Name x p1) k spos] e env=pure .none:=rfl
def CK{n}{m}(V:VarOk X x i)(h:Ev X Y e d)(C:Ev X Y k (.int n))(M:isSlice k=false)(Z:Y[i]?=some (.own (.list ds)))(Q:SI.ixN ds.length n=some m):
  E1 X Y (.Assign [.Subscript (.Name x p1) k spos] e pos) (.nx (Y.set i (.own (.list (ds.set m d))))):=by
 intro K s A H F I B;obtain⟨N,O,G,J,R⟩:=B;obtain⟨q,E,a,b,g⟩:=dc J Z;refine jy h (nh V.pe C set_list ((by
   intro v;cases k<;>first|rfl|cases M))) swaps_sub swapped_sub rfl K s A H F I ?_
 refine(N,O,G,J,λv T j U S=>(.ref q,a,N,O,T,J.step U,λw D z W P=>?_));cases P;have L:=U.trans W;exact(q,E,n,m,rfl,rfl,L.hh _ _ b,by rw[<-g.length];erw[Q],R D _ _ ((J.step L).change Z a (_,_,rfl,aa,(g.mono L.gg).set (S.mono W.gg) m)) L.gg)
def jV(h:isSlice k=false):ub k:=by cases k<;>first|exact λa a=>rfl|cases h
end
inductive Ars (K:Fg)(G:Hp)(σ:St):List (Sum Nat D)->List V->Prop
 |nil:Ars K G σ [] []
 |v {j:Nat}{v:V}{zs:List (Sum Nat D)}{vs:List V}:σ[j]?=some (some v)->Ars K G σ zs vs->Ars K G σ (.inl j::zs) (v::vs)
 |x {d:D}{v:V}{zs:List (Sum Nat D)}{vs:List V}:Dp K G d v->Ars K G σ zs vs->Ars K G σ (.inr d::zs) (v::vs)
inductive Dai (K:Fg)(G H:Hp)(p:Addr)(d0:D):Nat->List Bool->List D->List V->Prop
 |io {fl:List Bool}{ds:List D}{vs:List V}:Das K G H fl.tail ds vs->Dai K G H p d0 0 fl (d0::ds) (.ref p::vs)
 |cons {n:Nat}{fl:List Bool}{d:D}{v:V}{ds:List D}{vs:List V}:(fl.headD false=false->Dp K G d v)->Dr K G H d v->Dai K G H p d0 n fl.tail ds vs->Dai K G H p d0 (n+1) fl (d::ds) (v::vs)
def Pio(ν:NK)(K:Fg)(R:Fn)(n:Nat):Sp:=λU H Q a=>∃O N e w G p J,R.run O=some (.tuple [e,w])/\Same G (er H J)/\IoAt ν K G H N p J/\Dai K G (er H J) p N n R.lent O U/\
 ∀v L M,Ext G (er H J) L (er M J)->IoAt ν K L M w p J->Dp K L e v->Q v M
structure GO(P:Program)(w:World)(K:Fg)(mg:A6)(base:Heap)(k:Nat)(x:Str)(n:Nat)(φ:Fn):Prop where
 ex:∃f fd ps,mg x=some (.ref f)/\PySem.W.keepIn K (.ref f)=true/\Binds K fd ps []/\FnOk P w K mg base CX0 k f fd ps (Pio (aM w) K φ n)
structure GP(P:Program)(w:World)(K:Fg)(mg:A6)(base:Heap)(k:Nat)(c:Addr)(m:Str)(φ:Fn):Prop where
 nm:m≠"objects"/\m≠"numbers"
 ex:∃f fd ps,Cls K c/\nr K c m f/\Binds K fd ps []/\FnOk P w K mg base CX0 k f fd ps (Pio (aM w) K φ 0)
noncomputable def CL(C J l n:Addr):HO:=.ins C J [("objects",.ref l),("numbers",.ref n)]
def jW(C x J l n:Addr)(H:Hp):Hp:=upd (upd (upd (upd H l (.lst [])) x (.ins C J [("objects",.ref l)])) n (.dK [])) x (CL C J l n)
def yX(C:Addr):Sp:=λK H Q a=>∃x J,K=[.ref x]/\H x=some (.ins C J [])/\∀l n,H l=none->H n=none->l≠n->Q .non (jW C x J l n H)
structure jX(P:Program)(w:World)(K:Fg)(mg:A6)(base:Heap)(C:Addr)(vn:Str):Prop where
 ex:∃f fd,Mk K C f/\mg vn=some (.ref C)/\(vn==("__debug__":Str))=false/\Binds K fd ["self"] []/\FnOk P w K mg base CX0 1 f fd ["self"] (yX C)
structure IoZ(P:Program)(w:World)(K:Fg)(mg:A6)(base:Heap)(Φ:Fs)(vc:Option Nat)(io:IoC)(k:Nat):Prop where
 fn:∀f n,io.ios.lookup f=some n->∀φ,Φ f=some φ->GO P w K mg base k f n φ
 put:∀c,vc=some c->io.vn.isSome=true->GP P w K mg base 2 c "put" ⟨[true,false],nI c⟩
 nv:∀c v,vc=some c->io.vn=some v->jX P w K mg base c v
def iA{N:A1}(h:N.idxOf? x=some i):N[i]?=some x:=by
 obtain⟨J,K,_⟩:=List.findIdx?_eq_some_iff_getElem.mp h
 simp_all
structure CxC(X:Cx)(C:Cs):Prop where
 N:X.N=C.N
 nd:C.N.Nodup
 vis:∀x k,C.sc.names.lookup x=some k->(k=.local\/k=.cell\/k=.free)->Vis X.env.scope x
 loc:∀x k,C.sc.names.lookup x=some k->(k=.local\/k=.cell)->Loc X.env.scope x/\(X.fn x=true\/X.env.scope.names.lookup x=some .local)
 cell:∀x,C.sc.names.lookup x=some .cell\/C.sc.names.lookup x=some .free->X.env.kindOf x=some .cell
 glob:∀x,C.sc.names.lookup x=some .globalImplicit->Gl X x
 calm:X.calm=true
 kind:X.env.scope.kind=.function
def bltNames:List Str:=["len","max","min","int","list","str","isinstance","range","tuple","bool","reversed","dict","zip","all","ord","sorted","set"]
structure CM(P:Program)(w:World)(K:Fg)(mg:A6)(base:Heap)(k:Nat)(c:Addr)(m:Str)(φ:Fn):Prop where
 nm:m≠"objects"/\m≠"numbers"
 ex:∃f fd ps,nr K c m f/\Binds K fd ps []/\FnOk P w K mg base CX0 k f fd ps (Pur K φ)
structure Wz(X:Cx)(Φ:Fs)(Γ:List (Str×D))(C:Cs)(k:Nat):Prop where
 blt:∀x∈bltNames,X.mg x=Option.none
 fns:∀x,C.fns.contains x=true->∀φ,Φ x=some φ->FnZ X.prog X.w X.K X.mg X.base k x φ
 gl:∀x d,Γ.lookup x=some d->∃u v,X.mg x=some u/\RelV v u/\∀G,Dp X.K G d v
 room:Room k X.A
 two:2<=k
 vc:∀c,C.vc=some c->Cls X.K c/\NoAttr X.K c "objects"
 vf:∀c m,C.vc=some c->C.vms.contains m=true->∀φ,Φ (bL m)=some φ->CM X.prog X.w X.K X.mg X.base k c m φ
 io:IoZ X.prog X.w X.K X.mg X.base Φ C.vc C.io k
structure SdE(X:Cx)(Φ:Fs)(Γ:List (Str×D))(e:Expr)(E':E)(n:Bool):Prop where
 v:∀{Y d},ev Φ Γ .val Y E'=some d->Ev X Y e d
 r:∀{Y d},ev Φ Γ .read Y E'=some d->Er X Y e d
 w:∀{Y d},ev Φ Γ .walk Y E'=some d->Ek X Y e d
 t:∀{Y d},ev Φ Γ .test Y E'=some d->∃b,d=.bool b/\Et X Y e b
 n:n=true->∀{Y d},ev Φ Γ .val Y E'=some d->cA d=true->En X Y e d
def lV{o}{m}{apos pos}{es}{env}(M:bu o=false)(hs:aL es)(N:es.length<=20)(K:(apos.endLine==pos.line)=true):
  eval (.Call (.Attribute o m apos) es [] pos) env=(do
   let ov ←eval o env
   standAt apos.atName
   let (f,first) ←holding [ov] (getMethod ov m (do return (<-importBound o env).getD true))
   callWith pos f first (backTo pos (starEach es env)) (backToKw pos (keywordEach [] env))):=by
 have J:methodCallForm (es.length+([]:List Keyword).length) (backTo pos (starEach es env)) (backToKw pos (keywordEach [] env))=true:=by
  unfold methodCallForm;rw[lI hs];show (true&&true&&decide (es.length+0+0<30))=true
  grind
 rw[arm_eval_Call,base_of M];unfold methodCall;rw[J];have L:methodCallPos true o env apos pos=pure pos:=by unfold methodCallPos;simp[K]
 rw[L];rfl
section
variable {c h k:Nat}{os:List D}{m:Str}{p px:Pos}
def sA{K}{G H}{v}(L:m≠"objects"/\m≠"numbers")(r:Dr K G H (.vlt c h os) v):∃a M J,v=.ref a/\H a=some (.ins c M J)/\J.lookup m=.none:=by
 cases r with
 |of O=>cases O
 |vlt N R r=>
  refine(_,_,_,rfl,N,?_);simp[vfs,lk0,(bn0 L.1),(bn0 L.2)]
def yY{φ}(F:CM X.prog X.w X.K X.mg X.base k c m φ)(hc:Cls X.K c)(t:Room k X.A)(l:Er X Y o (.vlt c h os))(ha:Ea X Y φ.lent.tail es ds)(hl:φ.lent.headD false=true)(J:φ.run (.vlt c h os::ds)=some d)(hs:aL es)(O:es=[]->ds=[])
  {pl} (r:eval (.Call (.Attribute o m apos) es [] pos) X.env=(do
   let ov ←eval o X.env
   standAt apos.atName
   let (f,first) ←holding [ov] (getMethod ov m pl)
   callWith pos f first (backTo pos (starEach es X.env)) (backToKw pos (keywordEach [] X.env)))):Ev X Y (.Call (.Attribute o m apos) es [] pos) d:=by
 obtain⟨f,fd,ps,g,u,q⟩:=F.ex;intro L s i H Q I h0;obtain⟨V,T,G,E,b⟩:=h0;cases es with
 |nil=>
  refine xT (pl:=pl) l hc g q t u .nil kZ r L s i H Q I (V,T,G,E,λv W x M R=>?_);obtain⟨a,D,B,rfl,C,S⟩:=sA F.nm R;refine(a,D,B,rfl,C,S,?_);have P:=O rfl;subst P;exact([.vlt c h os],d,W,J,M.gh,.cons (λz=>by rw[hl]at z;cases z) R .nil,λv U Z N j=>b v U Z (M.trans N) j)
 |cons e es=>
  refine tZ (pl:=pl) l hc g q t u .nil kZ ha (starEach_cons (hs e ms0)) (aW λy hy=>hs y (mc0 _ hy)) r L s i H Q I (V,T,G,E,λv W x M R=>?_);obtain⟨a,D,B,rfl,C,S⟩:=sA F.nm R;exact(a,D,B,rfl,C,S,V,T,W,E.step M,λvs n H2 N j=>(_,d,n,J,N.gh,by rw[List.append_nil];exact .cons (λz=>by simp_all) (R.ext N) j,λv U Z e3 r3=>b v U Z (M.trans (N.trans e3)) r3))
end
section
variable {Φ:Fs}{C:Cs}{k:Nat}{E':E}
def yZ{n}{core:List Sl->Option D}(h:∀m Y,ev Φ Γ m Y E'=fin m (core Y))(J:∀Y d,core Y=some d->Ev X Y e d/\(n=true->cA d=true->En X Y e d))(L:∀Y d t,core Y=some d->pF d=some t->Et X Y e t):SdE X Φ Γ e E' n:=by
 refine(λq=>?_,λq=>?_,λq=>?_,λq=>?_,λf a a q=>?_)
 .rw[h]at q;exact (J _ _ q).1
 .rw[h]at q;exact (J _ _ q).1.er
 .rw[h]at q;exact (J _ _ q).1.ek
 .rw[h]at q
  obtain⟨K,M,N⟩:=bx0 q;obtain⟨t,O,R⟩:=mx0 N;exact(t,R.symm,L _ K t M O)
 .rw[h]at q;exact (J _ _ q).2 f
def eA{n}{core:List Sl->Option D}(h:∀m Y,ev Φ Γ m Y E'=fin m (core Y))(K:∀Y d,core Y=some d->Ev X Y e d/\(n=true->cA d=true->En X Y e d))(L:∀J,isTrue e X.env J=(do let v ←J;standAt e.pos;holding [v] (truthy v)):=by intro;rfl):SdE X Φ Γ e E' n:=
 yZ h K λY d t M N=>jN (K Y d M).1.er N L
def ba{core:List Sl->Option D}(h:∀m Y,ev Φ Γ m Y E'=fin m (core Y))(L:∀Y d,core Y=some d->Ev X Y e d)(K:∀J,isTrue e X.env J=(do let v ←J;standAt e.pos;holding [v] (truthy v)):=by intro;rfl):SdE X Φ Γ e E' false:=
 eA h (λY d q=>(L Y d q,λz=>by cases z)) K
def sC{core:List Sl->Option D}(h:∀m Y,ev Φ Γ m Y E'=fin m (core Y))(K:∀Y d,core Y=some d->En X Y e d)(L:∀J,isTrue e X.env J=(do let v ←J;standAt e.pos;holding [v] (truthy v)):=by intro;rfl):SdE X Φ Γ e E' true:=
 eA h (λY d q=>((K Y d q).ev,λa a=>K Y d q)) L
set_option tactic.hygienic true
def bc(c:CxC X C)(h:dU C x=some i):VarOk X x i:=by
 unfold dU at h;split at h
 .rename_i j K
  split at h
  .rename_i q
   cases h;rw[be0,Bool.or_eq_true,Bool.or_eq_true]at q;obtain⟨q1,J⟩:=q;unfold df at J;rw[be0,be0]at J;refine(by rw[c.N];erw[iA K],?_,by simpa using J.1.1,by simpa using J.1.2);rcases q1 with (q1|q1)|q1
   .erw[c.vis x _ (eq_of_beq q1) (.inl rfl)]
   .erw[c.vis x _ (eq_of_beq q1) (.inr (.inl rfl))]
   .erw[c.vis x _ (eq_of_beq q1) (.inr (.inr rfl))]
  .cases h
 .cases h
def yp(c:CxC X C)(h:iZ C x=some i):GI X x i:=by
 unfold iZ at h;split at h
 .rename_i j J
  split at h
  .rename_i q
   cases h;rw[be0,Bool.or_eq_true]at q;obtain⟨q1,K⟩:=q;have l:Loc X.env.scope x/\(X.fn x=true\/X.env.scope.names.lookup x=some .local):=by
    rcases q1 with q1|q1
    .erw[c.loc x _ (eq_of_beq q1) (.inl rfl)]
    .erw[c.loc x _ (eq_of_beq q1) (.inr rfl)]
   exact(by rw[c.N];erw[iA J],l.1,l.2)
  .cases h
 .cases h
set_option tactic.hygienic false
def dE(c:CxC X C)(h:iZ C x=some i):Sto X x i:=(by rw[c.N];erw[c.nd],yp c h)
def bQ(c:CxC X C)(h:ah C x=true):Gl X x/\x≠"__name__"/\(x==("__debug__":Str))=false:=by
 unfold ah at h;rw[be0]at h;unfold df dZ at h;rw[be0,be0]at h;exact(c.glob x (eq_of_beq h.1),by simpa using h.2.2,by simpa using h.2.1.1)
def aO(c:CxC X C)(w:Wz X Φ Γ C k)(h:ah C x=true)(J:x∈bltNames):Blt X x:=((bQ c h).1,w.blt x J,(bQ c h).2.1,(bQ c h).2.2)
def qf(c:CxC X C){t:Tg}(h:cTg C tg=some t):Tgj X tg t:=by
 have M:∀{J:A3}{K:List Nat},slots C J=some K->Nms X J K:=by
  intro J
  induction J with
  |nil=>intro K h;cases h;exact .nil
  |cons e r ih=>
   intro K h;cases e with
   |Name x W=>
    obtain⟨i,L,O⟩:=bx0 (show (iZ C x).bind _=some K from h);obtain⟨U,R,rfl⟩:=mx0 O;exact .cons (yp c L) (ih R)
   |_=>cases h
 cases tg with
 |Name x W=>
  obtain⟨i,L,rfl⟩:=mx0 (show (iZ C x).map _=some t from h);have n:=yp c L;erw[qe (by rw[c.N];exact c.nd) n.at' n.loc n.fn]
 |Tuple J n V=>
  obtain⟨K,L,rfl⟩:=mx0 (show (slots C J).map _=some t from h);erw[CH c.calm (by rw[c.N];exact c.nd) (M L)]
 |_=>cases h
theorem qG{N}:∀{xs:A1}{js},rX N xs=some js->(js.map λj=>N.getD j Str.empty)=xs/\∀j∈js,∃x∈xs,N[j]?=some x
 |[],js,h=>by cases h;simp
 |x::r,js,h=>by
  obtain⟨i,J,K⟩:=bx0 (h);obtain⟨M,L,rfl⟩:=mx0 K;obtain⟨O,R⟩:=qG L;have e:=iA J
  simp_all
theorem bW{env:Env}{nk}(J:nk≠.free):∀{names:List (Str×NameKind)}{x:Str},names.lookup x=some nk->
  (names.map λ(n,k)=>if (k==NameKind.free&&env.scope.kind==.function&&env.kindOf n==some .cell)then (n,NameKind.cell)else (n,k)).lookup x=some nk
 |[],_,h=>by simp at h
 |(n,k)::r,x,h=>by
  have ih:=@bW env nk J r x;show List.lookup x ((if (k==NameKind.free&&env.scope.kind==.function&&env.kindOf n==some _)=true then (n,NameKind.cell)else (n,k))::_)=_;cases K:x==n with
  |true=>
   simp_all
  |false=>
   simp only[lk0,K]at h
   by_cases L:(k==NameKind.free&&env.scope.kind==.function&&env.kindOf n==some .cell)=true
   .rw[if_pos L];simp only[lk0,K];erw[ih h]
   .rw[if_neg L];simp only[lk0,K];erw[ih h]
structure Mw(X:Cx)(C B:Cs)(sc:Scope)(tg:Expr)(nt:Nat)(js:List Nat):Prop where
 ok:BlkOk X sc js
 nt:nt=(bw tg).length
 n:B.N=aA X (bw tg) js
 cx:∀(A:Addr)(s:Shared)(H:Hp)(fp:A4),CxC (L2.C.blk X sc (aA X (bw tg) js) A s H fp) B
 same:B.fns=C.fns/\B.cst=C.cst/\B.vc=C.vc/\B.vms=C.vms/\B.io=C.io
def a2'{a b:Bool}(h:(a&&b)=true):a=true/\b=true:=by simpa using h
set_option tactic.hygienic true in
def nR(c:CxC X C){sc:Scope}{B:Cs}{nt:Nat}(h:yi C sc tg=some (B,nt,js)):Mw X C B sc tg nt js:=by
 unfold yi at h;split at h
 .rename_i q
  obtain⟨V,T,R⟩:=mx0 h;injection R with R U
  injection U with U F
  subst R U F;unfold Ez at q;simp only[be0]at q;obtain⟨⟨Z,I⟩,E⟩:=q;have L:=λy K=>List.all_eq_true.mp I y K
  have nd:∀y∈sc.names,sc.names.lookup y.1=some y.2:=λy K=>eq_of_beq (a2' (L y K)).2
  obtain⟨P,G⟩:=qG T;have Y:bw tg++freeOf sc=aA X (bw tg) V:=by
   unfold aA;rw[c.N,P]
  have J:∀y∈sc.names,y.2=.free->X.env.kindOf y.1=some .cell:=λy K D=>by
   have z:=L y K;simp only[be0,Bool.or_eq_true]at z;rcases z.1 with (z|z)|z
   .rw[D]at z;simp at z
   .erw[c.cell y.1 (.inl (eq_of_beq z))]
   .erw[c.cell y.1 (.inr (eq_of_beq z))]
  refine((eq_of_beq Z,J,nd,λj Q=>?_),rfl,Y,λA s H u=>(Y.symm,od0 E,λx W e O=>?_,λx W e O=>?_,λx e=>?_,λx e=>?_,c.calm,eq_of_beq Z),rfl,rfl,rfl,rfl,rfl)
  .obtain⟨x,S,e⟩:=G j Q
   obtain⟨⟨y,k⟩,K,M⟩:=List.mem_filterMap.mp S;dsimp only at M;split at M
   .rename_i z
    cases M;exact(_,by rw[c.N];erw[e],(nd _ K).trans (by rw[beq_iff_eq.mp z]))
   .cases M
  .have e:sc.names.lookup x=some W:=e
   rcases O with rfl|rfl|rfl
   .exact .inl (lookup_relabel_local e)
   .exact .inr (.inl (bW (env:=X.env) @2 e))
   .exact .inr (.inl (aY c.kind e (J _ (ml0 e) rfl)))
  .have e:sc.names.lookup x=some W:=e
   rcases O with rfl|rfl
   .exact(.inl (lookup_relabel_local e),.inr (lookup_relabel_local e))
   .exact(.inr (bW (env:=X.env) @2 e),.inl (by show (sc.names.lookup x==some .cell)=true;rw[e];rfl))
  .rcases e with e|e
   .erw[bW (env:=X.env) @2 e]
   .erw[aY c.kind e (J _ (ml0 e) rfl)]
  .have e:sc.names.lookup x=some .globalImplicit:=e
   erw[bW (env:=X.env) @2 e]
 .cases h
end
def bS{J:Type}{o:Option α}{f:α->Option J}{c:J}(h:o.bind f=some c):∃x,o=some x/\f x=some c:=bx0 h
def mS{J:Type}{o:Option α}{f:α->J}{c:J}(h:o.map f=some c):∃x,o=some x/\f x=c:=mx0 h
def iS{p:Prop}[Decidable p]{x:α}{c:α}(h:(if p then some x else .none)=some c):p/\x=c:=by
 simp_all
def iB{p:Prop}[Decidable p]{x:Option α}{c:α}(h:(if p then x else .none)=some c):p/\x=some c:=by
 simp_all
def nt{b:Bool}(h:(!b)=true):b=false:=by simpa using h
def a2{a b:Bool}(h:(a&&b)=true):a=true/\b=true:=by simpa using h
def Apt(ν:NK)(K:Fg)(G H:Hp)(J:St)(Y:List Sl)(p:Addr):Prop:=(∀(j:Nat) e,Y[j]?=some (.own e)->J[j]?≠some (some (.ref p)))/\∀(j:Nat) e q fp,Y[j]?=some (.io e)->J[j]?=some (some (.ref q))->IoAt ν K G H e q fp->p∉fp
structure Gx(ν:NK)(K:Fg)(G H:Hp)(σ:St)(Y:List Sl)(G' H':Hp)(Y':List Sl):Prop where
 gg:Same G G'
 kp:∀q o,H q=some o->G q=none->Apt ν K G H σ Y q->H' q=some o/\G' q=none/\Apt ν K G' H' σ Y' q
theorem Gx.refl{ν:NK}{G H}{Y}:Gx ν K G H σ Y G H Y:=(Same.refl _,λb b h g a=>(h,g,a))
theorem Gx.trans{ν:NK}{G H G1 H1 G2 H2}{Y Y1 Y2}(a:Gx ν K G H σ Y G1 H1 Y1)(b:Gx ν K G1 H1 σ Y1 G2 H2 Y2):Gx ν K G H σ Y G2 H2 Y2:=
 (a.gg.trans b.gg,λq o h g c=>let ⟨M,L,J⟩:=a.kp q o h g c;b.kp q o M L J)
def EnvD.gx{ν:NK}{G0}{H0 G H G' H'}{Y}(E:EnvD ν K G0 H0 G H σ Y)(e:Ext G H G' H'):Gx ν K G H σ Y G' H' Y:=
 (e.gg,λq o h g a=>(e.hh _ _ h,e.nw _ _ g h,a.1,λj d p R N J io=>by
  obtain⟨U,O,L,M,_⟩:=E.io.at' j d N;rw[J]at L;cases L;rw[<-M.same e.gg (e.hh p) io rfl];erw[a.2 j d p O N J M]))
def tO(ν:NK)(K:Fg)(Y:List Sl)(d:D)(R:List Sl):TE:=λM H Q=>∃N O G,EnvD ν K N O G H M Y/\∀v J L,EnvD ν K N O J L M R->Gx ν K G H M Y J L R->Dp K J d v->Q v L
def tOa(ν:NK)(K:Fg)(Y:List Sl)(zs:List (Sum Nat D))(R:List Sl):TA:=λJ H Q=>∃N O G,EnvD ν K N O G H J Y/\∀U L M,EnvD ν K N O L M J R->Gx ν K G H J Y L M R->Ars K L J zs U->Q U M
def EvO(X:Cx)(Y:List Sl)(e:Expr)(d:D)(J:List Sl):Prop:=PE X e (tO X.nk X.K Y d J)
def EaO(X:Cx)(Y:List Sl)(es:A3)(zs:List (Sum Nat D))(J:List Sl):Prop:=PA X es (tOa X.nk X.K Y zs J)
section
variable {ν:NK}{G0:Bs}{p:Addr}{zs:List (Sum Nat D)}
def Ars.dps{G}:∀{zs:List (Sum Nat D)}{vs:List V}{ds:List D},Ars K G σ zs vs->wg zs=some ds->Dps K G ds vs:=by
 intro zs vs ds r
 induction r generalizing ds with
 |nil=>intro h;cases h;exact .nil
 |v=>intro h;cases h
 |x a r ih=>
  intro h;obtain⟨q,J,rfl⟩:=mx0 h;exact .cons a (ih J)
def uo{k}(env:EnvD ν K G0 H0 G H σ Y)(h:Y[i]?=some (mu k d))(hl:k=false->∃ds,d=.list ds):∃p J,σ[i]?=some (some (.ref p))/\IoAt ν K G H d p J/\(∀b∈J,G b=none/\H0 b=none)/\(∀(j:Nat) e q,j≠i->Y[j]?=some (.own e)->σ[j]?=some (some (.ref q))->q∉J)/\
  ∀{L M:Hp}{w:D},(k=false->∃es,w=.list es)->Ext G (er H J) L (er M J)->IoAt ν K L M w p J->EnvD ν K G0 H0 L M σ (Y.set i (mu k w))/\Gx ν K G H σ Y L M (Y.set i (mu k w)):=by
 have v:∀{J:A4}{L M:Hp}{w:D}{p},σ[i]?=some (some (.ref p))->IoAt ν K G H d p J->Ext G (er H J) L (er M J)->IoAt ν K L M w p J->(∀q,Apt ν K G H σ Y q->q∉J)->(∀(j:Nat) e q,j≠i->Y[j]?=some (.io e)->σ[j]?=some (some (.ref q))->q∉J)->Gx ν K G H σ Y L M (Y.set i (mu k w)):=λ{J L M w p} hp j0 x io Q B=>by
  refine(x.gg,λq o Z T a=>?_);have S:=Q q a;refine((dB (x.hh q o (by rw[aH S];erw[Z]))).2,x.nw q o T (by rw[aH S];erw[Z]),λj e O N=>?_,λj e P n O N V=>?_)
  .rcases getE_set O with⟨rfl,z⟩|⟨_,z⟩
   .cases k with
    |true=>cases z
    |false=>exact a.1 j d h N
   .erw[a.1 j e z N]
  .rcases getE_set O with⟨rfl,z⟩|⟨ne,z⟩
   .cases k with
    |true=>
     cases z;rw[hp]at N;cases N;rw[V.same (Same.refl _) (λl h=>h) io rfl];erw[S]
    |false=>cases z
   .obtain⟨p2,y,R,W,_⟩:=env.io.at' j e z
    rw[N]at R;cases R;refine W.same x.gg (λo C=>(dB (x.hh P o ?_)).2) V rfl▸a.2 j e P y z N W;rw[aH (B j e P ne z N)];erw[C]
 have u:∀{J:A4}{L M:Hp},Ext G (er H J) L (er M J)->∀b∈J,L b=none:=λ{J L M} x b F=>by
  cases q:L b with
  |none=>rfl
  |some o=>have:=x.gh b o q;rw[jJ F]at this;cases this
 cases k with
 |true=>
  obtain⟨p,J,a,b,c,f,g⟩:=env.io.at' i _ h;exact(p,J,a,b,c,λj e q l=>g j e q,λ{L M w} l x io=>(env.ioGo h a b x (u x) io,v a b x io (λq z=>z.2 i d p J h a b) λj e q ne O=>absurd (env.io.one j i e d O h) ne))
 |false=>
  obtain⟨ds,rfl⟩:=hl rfl;obtain⟨p,a,c,f,g⟩:=env.own i _ h;obtain⟨r,vs,Z,T,m⟩:=g
  .cases Z
   refine(p,[p],a,.inl (_,_,rfl,rfl,T,m),λb F=>by obtain rfl:=List.mem_singleton.mp F;exact(c,f),λj e q O C Q U=>?_,λ{L M w} hw x io=>?_)
   .obtain rfl:=List.mem_singleton.mp U
    erw[O (env.apart j i _ _ q C h Q a)]
   .obtain⟨s,rfl⟩:=hw rfl
    rcases io with⟨es,ws,z,_,X,A⟩|⟨_,_,_,_,_,_,z,_⟩|⟨_,_,z,_⟩<;>cases z
    .refine(env.ownGo h a x (u x p @0) (_,_,rfl,X,A),v a (.inl (_,_,rfl,rfl,T,m)) x (.inl (_,_,rfl,rfl,X,A)) (λq z U=>z.1 i _ h (by rw[List.mem_singleton.mp U];erw[a])) λj e q ne O N U=>?_)
     obtain rfl:=List.mem_singleton.mp U;obtain⟨q2,y,R,W,b3,_,E⟩:=env.io.at' j e O;rw[N]at R;cases R;rcases id W with⟨_,_,_,I,_⟩|⟨_,_,_,_,_,_,_,_,_,t,_⟩|⟨_,_,_,I,_⟩
     .erw[E i _ q h a (by rw[I];simp)]
     .rw[c]at t;cases t
     .erw[E i _ q h a (by rw[I];simp)]
section
variable (eD:EnvD ν K G0 H0 G H σ Y)(hfD:∀b∈fp,H0 b=none)(hpD:∀(j:Nat) e q,j≠i->Y[j]?=some (.own e)->σ[j]?=some (some (.ref q))->q∉fp)
include eD hfD hpD
set_option tactic.hygienic true in
theorem sE{b}{v}(R:j≠i)(h:(Y[j]?).bind (iP b)=some d)(U:σ[j]?=some (some v)):(b=false->Dp K G d v)/\Dr K G (er H fp) d v:=by
 obtain⟨sl,L,J⟩:=bx0 h;have dat:∀{M},σ[j]?=some (some M)->M=v:=λa=>by rw[U]at a;cases a;rfl
 cases sl with
 |dat e=>
  cases J;obtain⟨M,a,r⟩:=eD.dat j _ L;cases dat a;exact(λf=>r,.of r)
 |lent e=>
  have J:(if (b||!cA e)=true then some e else none)=some d:=J;split at J
  .rename_i c
   cases J;obtain⟨M,a,r⟩:=eD.lent j _ L;cases dat a;have N:Dr K G (er H fp) d v:=r.mono2 eD.ext.gg λx o e=>by rw[aH λm=>by rw[hfD x m]at e;cases e];erw[eD.ext.hh x o e]
   exact(λz=>N.dp (by subst z;simpa using c),N)
  .cases J
 |own e=>
  cases b with
  |false=>cases J
  |true=>
   cases J;obtain⟨q,a,_,_,g⟩:=eD.own j _ L;cases dat a;have V:=hpD j _ q R L a;refine(λz=>(by cases z),?_);obtain⟨W,Z,rfl,J,O⟩:=g;exact .list (by rw[aH V];erw[J]) O
 |_=>cases J
theorem nU:∀{zs:List (Sum Nat D)}{fl:List Bool}{ds:List D}{vs:List V},Ars K G σ zs vs->iX Y i fl zs=some ds->Das K G (er H fp) fl ds vs:=by
 intro zs fl ds vs r
 induction r generalizing fl ds with
 |nil=>intro h;cases h;exact .nil
 |@v j _ zs _ a r ih=>
  intro h;have h:(if j=i then none else ((Y[j]?).bind (iP (fl.headD false))).bind λd=>(iX Y i fl.tail zs).map (d::·))=some _:=h;split at h
  .cases h
  .obtain⟨d,J,h⟩:=bx0 h
   obtain⟨q,L,rfl⟩:=mx0 h;obtain⟨M,N⟩:=sE eD hfD hpD ‹_› J a;exact .cons M N (ih L)
 |x a r ih=>
  intro h;obtain⟨q,J,rfl⟩:=mx0 h;exact .cons (λb=>a) (.of a) (ih J)
theorem nV{p}(M:σ[i]?=some (some (.ref p))):∀{n:Nat}{zs:List (Sum Nat D)}{fl:List Bool}{ds:List D}{vs:List V},Ars K G σ zs vs->iY Y i n fl zs=some ds->∃d0,(Y[i]?).bind (aF .read)=some d0/\Dai K G (er H fp) p d0 n fl ds vs
 |0,_,fl,_,_,.v (j:=j) (zs:=zs) a r,h=>by
  have h:(if j=i then ((Y[j]?).bind (aF .read)).bind λd=>(iX Y i fl.tail zs).map (d::·)else none)=some _:=h;split at h
  .subst j
   obtain⟨d,J,h⟩:=bx0 h;obtain⟨q,L,rfl⟩:=mx0 h;rw[M]at a;cases a;exact(d,J,.io (nU eD hfD hpD r L))
  .cases h
 |n+1,_,fl,_,_,.v (j:=j) (zs:=zs) a r,h=>by
  have h:(if j=i then none else ((Y[j]?).bind (iP (fl.headD false))).bind λd=>(iY Y i n fl.tail zs).map (d::·))=some _:=h;split at h
  .cases h
  .obtain⟨d,J,h⟩:=bx0 h
   obtain⟨q,L,rfl⟩:=mx0 h;obtain⟨R,U⟩:=sE eD hfD hpD ‹_› J a;obtain⟨d0,N,O⟩:=nV M r L;exact(d0,N,.cons R U O)
 |n+1,_,fl,_,_,.x a r,h=>by
  obtain⟨q,J,rfl⟩:=mx0 h;obtain⟨d0,N,O⟩:=nV M r J;exact(d0,N,.cons (λb=>a) (.of a) O)
 |0,_,_,_,_,.x a r,h=>by cases h
 |0,_,_,_,_,.nil,h=>by cases h
 |n+1,_,_,_,_,.nil,h=>by cases h
end
end
section
variable {Y2 Y':List Sl}{w:D}{zs:List (Sum Nat D)}{k:Nat}{y m:Str}{p p1:Pos}
def JP(V:VarOk X x j)(Z:((Y[j]?).bind (aF .read)).isSome=true)(F:EaO X Y es zs Y'):EaO X Y (.Name x p::es) (.inl j::zs) Y':=by
 rintro D J s B H Q I ⟨M,O,G,E,k⟩
 obtain⟨d,T⟩:=is0 Z;obtain⟨sl,U,W⟩:=bx0 T;obtain⟨v,a,_⟩:=E.read U W;erw[pa_cons V.pe F rfl _ _ s B H Q I (v,a,M,O,G,E,λC L N K g R=>k _ L N K g (.v a R))]
def za{G0}{H0 G H}{φ}{Q}{E}(R:EnvD X.nk X.K G0 H0 G H σ Y1)(F:Ars X.K G σ zs vs)(q:iY Y1 i n φ.lent zs=some ds)(N:φ.run ds=some (.tuple [d,w]))(J:setIo Y1 i w=some Y2)
  (k:∀v L M,EnvD X.nk X.K G0 H0 L M σ Y2->Gx X.nk X.K G H σ Y1 L M Y2->Dp X.K L d v->Q v M):Pio (aM X.w) X.K φ n vs H Q E:=by
 obtain⟨kk,P,V,a2,W,rfl⟩:=(show ∃k d,Y1[i]?=some (mu k d)/\(k=false->∃ds,d=.list ds)/\(k=false->∃A,w=.list A)/\Y2=Y1.set i (mu k w) by
   revert J;unfold setIo;generalize Y1[i]?=z;intro J;cases z with
   |none=>exact zn0 J
   |some z=>cases z with
    |own a=>cases a with
     |list=>cases w with
      |list=>cases J;exact(false,_,rfl,λa=>(_,rfl),λa=>(_,rfl),rfl)
      |_=>exact zn0 J
     |_=>exact zn0 J
    |io=>cases J;exact(true,_,rfl,λz=>(by cases z),λz=>(by cases z),rfl)
    |_=>exact zn0 J)
 obtain⟨p,j,D,B,Y,C,Z⟩:=uo R V a2;obtain⟨O,T,S⟩:=nV R (λb U=>(Y b U).2) C D F q;have:O=P:=by
  rw[V]at T;cases kk<;>(cases T;rfl)
 subst this;exact(ds,_,d,w,G,p,j,N,jf R.sub λb U=>(Y b U).1,B,S,λv L M x io I=>k v L M (Z W x io).1 (Z W x io).2 I)
def DT{φ}(F:GO X.prog X.w X.K X.mg X.base k x n φ)(z:Room k X.A)(S:Gl X x)(C:(x==("__debug__":Str))=false)(D:EaO X Y (e::es) zs Y1)(T:iY Y1 i n φ.lent zs=some ds)(J:φ.run ds=some (.tuple [d,w]))(L:setIo Y1 i w=some Y2)(hs:aL (e::es)):
  EvO X Y (.Call (.Name x p) (e::es) [] pos) d Y2:=by
 obtain⟨f,b,o,j,P,B,F⟩:=F.ex
 rintro M s l H Q I ⟨R,V,G,E,u⟩;exact tY F z S j P B .nil kZ D C (starEach_cons (hs e ms0)) (aW λy q=>hs y (mc0 _ q)) M s l H Q I
  (R,V,G,E,λa t c E1 Z W=>by dsimp only;rw[List.append_nil];erw[za (E:=E0) E1 W T J L λv O U N g r=>u v O U N (Z.trans g) r])
def CN{φ}{c:Nat}{objs}{de}(F:GP X.prog X.w X.K X.mg X.base k c m φ)(h:Room k X.A)(V:VarOk X y i)(o:Ev X Y e de)(hs:isStar e=false)(L:Y[i]?=some (.io (.vlt c 0 objs)))(M:φ.run [.vlt c 0 objs,de]=some (.tuple [d,w]))(J:(apos.endLine==pos.line)=true):
  EvO X Y (.Call (.Attribute (.Name y p1) m apos) [e] [] pos) d (Y.set i (.io w)):=by
 obtain⟨f,fd,ps,b,n,t,T⟩:=F.ex;intro N s σ H Q I l;obtain⟨B,S,G,E,kq⟩:=l;obtain⟨v,a,P⟩:=E.read L rfl;obtain⟨U,j,q,rfl,O,lk⟩:=sA F.nm P;have R:aL [e]:=λz hz=>by simp_all
 refine tZ V.pe b n T h t .nil kZ (pa_cons o pa_nil (starEach_cons hs)) (starEach_cons hs) rfl (lV rfl R (by decide:1<=20) J) N s σ H Q I (.ref U,a,U,j,q,rfl,O,lk,B,S,G,E,λu G1 H1 W r1=>?_);refine za (E:=E0) (i:=i) (E.step W) (.v a (.x r1 .nil)) ?_ M @6 λv D C Z g r=>kq v D C Z ((E.gx W).trans g) r
 show (if i=i then _ else none)=_;rw[if_pos rfl,L];rfl
def HQ{a}{xs ys}(C:Ev X Y a (.list xs))(S:EvO X Y e (.list ys) Y1)(hz:xs.length+ys.length<=sizeLine):EvO X Y (.BinOp a .Add e pos) (.list (xs++ys)) Y1:=by rintro R s j H Q I ⟨K,L,G,E,k⟩;erw[xJ op_cat C S _ s j H Q I (K,L,G,E,λx U q M P=>(K,L,U,E.step M,λy V T J O A=>KG hz x y V T Q J.sub (.of (P.mono O.gg)) (.of A) λp z Z F D B o=>let ⟨W,N,r⟩:=o.show F D B;k _ W Z (J.step N) ((E.gx M).trans (O.trans (J.gx N))) r))]
def zF{z}(h:KF z=some ds):z=some (.own (.list ds)):=by
 cases z with
 |none=>cases h
 |some z=>cases z with
  |own d=>cases d<;>simp_all
  |_=>cases h
def Ia{ds0}{cpos}(V:VarOk X x i)(h:EvO X Y e d Y1)(hs:isStar e=false)(C:Y[i]?=some (.own (.list ds0)))(Q:Y1[i]?=some (.own (.list ds)))(hz:ds.length<sizeLine)(J:@15=true):
  E1 X Y (.Expr (.Call (.Attribute (.Name x p1) "append" apos) [e] [] cpos) pos) (.nx (Y1.set i (.own (.list (ds++[d]))))):=by
 have L:=starEach_cons (es:=[]) (env:=X.env) hs;intro O s E H F I K;obtain⟨U,Z,G,env,R⟩:=K;obtain⟨q,S,a,b,g⟩:=dc env C;refine fU (kY PySem.F.plainAttrs_list PySem.F.slot_list_append PySem.F.type_list_append hX V.pe (pa_cons h pa_nil L) eT (by rw[L];rfl) J L rfl) rfl _ s E H F I ?_;refine(_,a,(rfl,S,SqL.of b),U,Z,G,env,λw W A E1 D r=>?_);obtain⟨j,P,M,T,N,B⟩:=um (k:=false) E1 Q;rw[a]at M;cases M;exact(q,P,w,rfl,rfl,T,by rwa [<-N.length],R W _ _ (B (.refl E1.sub) (N.append (.one r))) D.gg)
def DU(S:Sto X x i)(h:EvO X (Y.map freeze) e d Y1)(hs:swapsWith e (some (.Name x pos')) pos.line X.env=pure false):E1 X Y (.Assign [.Name x pos'] e pos) (.nx (Y1.set i (.dat d))):=
 λK s Z H F I ⟨N,V,G,env,R⟩=>by
  obtain⟨O,J,W⟩:=env.freeze;erw[hV S.nd S.nm.at' S.nm.loc h hs S.nm.fn _ s Z H F I (N,V,O,J,λv M U L g r=>R M U _ (L.set (S.lt I) r) (W.trans g.gg))]
def CO(S:Sto X x i)(h:EvO X Y e d Y1)(hs:swapsWith e (some (.Name x pos')) pos.line X.env=pure false):E1 X Y (.Assign [.Name x pos'] e pos) (.nx (Y1.set i (.dat d))):=
 by rintro J s U H F I ⟨M,O,G,env,R⟩;erw[hV S.nd S.nm.at' S.nm.loc h hs S.nm.fn J s U H F I (M,O,G,env,λv L N K g r=>R L N _ (K.set (S.lt I) r) g.gg)]
def CP(h:EvO X (Y.map freeze) e d Y1):E1 X Y (.Return (some e) pos) (.rt d (dW Y1)):=by
 rintro M s Z H F I ⟨O,W,G,K,R⟩
 obtain⟨U,J,T⟩:=K.freeze;erw[ng h _ s Z H F I (O,W,U,J,λv N V L a r=>R v N V r L.ext L.ioEnd)]
end
section
variable {ν:NK}{G0:Bs}{m:Nat}{w:D}{p:Addr}
def EnvD.blkO(E:EnvD ν K G0 H0 G H σ Y)(W:Y[i]?=some (.io w))(F:σ[i]?=some (some (.ref p)))(io:IoAt ν K G H w p fp)(T:js[m]?=some i)(y:∀k,js[k]?=some i->k=m):
  EnvD ν K (G,some (p,fp)) (er H fp) G H (gc tn js σ) ((SI.blk tn.length js Y).set (tn.length+m) (.io w)):=by
 obtain⟨p',S,a,b,c,f,g⟩:=E.io.at' i w W;rw[F]at a;cases a;obtain rfl:=b.same (Same.refl _) (λn h=>h) io rfl;have B:=E.blk (tn:=tn) (js:=js);have R:=λ{k:Nat}{d:D} (h:(SI.blk tn.length js Y)[k]?=some (.io d))=>(aX k d).2 h
 have U:=λ{k:Nat}{d:D} (h:(SI.blk tn.length js Y)[k]?=some (.own d))=>(aX k d).1 h
 have o:tn.length+m<(SI.blk tn.length js Y).length:=by
  have:=(gi0 T).1;unfold SI.blk;simp;erw[this]
 refine((dC,Same.refl _,E.sub,λn n h n=>h),by rw[List.length_set];erw[B.len],λk d h=>B.dat k d (getE_io h @0).2,λk d h=>?_,λk d h=>(U (getE_io h @0).2).elim,λk n d n n h=>(U (getE_io h @0).2).elim,λk d h=>?_,λk l d e P I=>?_,λk h=>?_)
 .obtain⟨ne,z⟩:=getE_io h @0
  rcases blk_at z with J|⟨j,N,Z,J⟩
  .cases J
  have Q:j≠i:=λq=>ne (by have:=y (k-tn.length) (q▸N);grind)
  have A:(Y[j]?).bind (iP true)=some d:=by
   cases q:Y[j]? with
   |none=>rw[q]at J;cases J
   |some s=>
    rw[q]at J;have J:=J;cases s with
    |lent M=>cases J;rfl
    |own M=>cases J;rfl
    |io M=>exact absurd (E.io.one j i M w q W) Q
    |_=>cases J
  obtain⟨v,L,_⟩:=B.lent k d z;rw[cF Z N]at L;have V:σ[j]?=some (some v):=by
   cases q:σ[j]? with
   |none=>rw[q]at L;cases L
   |some u=>rw[q]at L;cases u<;>cases L;rfl
  exact(v,by rw[cF Z N,V];rfl,(sE E (λb X=>(c b X).2) (λj e q n=>g j e q) Q A V).2)
 .rcases getE_set h with⟨rfl,q⟩|⟨_,q⟩
  .cases q
   exact(p,S,by rw[cF (Nat.le_add_right _ _) (by rw[Nat.add_sub_cancel_left];erw[T]),F];rfl,b,λx C=>((c x C).1,jJ C),λz t=>by cases t;rfl,λr e q O=>(U (getE_io O @0).2).elim)
  .exact (R q).elim
 .rcases getE_set P with⟨rfl,_⟩|⟨_,q⟩
  .rcases getE_set I with⟨rfl,_⟩|⟨_,q⟩
   .rfl
   .exact (R q).elim
  .exact (R q).elim
 .rcases blk_at (getE_io h @0).2 with z|⟨j,_,_,z⟩
  .cases z
  .cases q:Y[j]?.getD .no<;>(rw[q]at z;cases z)
def EnvD.touchO{q}{o}(E:EnvD ν K (G,some (p,fp)) H0 G' H σ Y)(L:∀(i:Nat) d,Y[i]?≠some (.own d))(O:G' q=none)(N:H0 q=none)(R:q∉fp):EnvD ν K (G,some (p,fp)) H0 G' (upd H q o) σ Y:=
 ((λb u e=>by rw[ab (ag e N)];erw[E.ext.hh b u e],E.ext.gg,λb u e=>by rw[ab (ag e O)];erw[E.ext.gh b u e],E.ext.nw),E.len,E.dat,E.lent,λi J h=>(L i J h).elim,λi j J j j h=>(L i J h).elim,
  λi d h=>by
  obtain⟨V,M,a,b,c,f,g⟩:=E.io.at' i d h;cases f _ rfl;exact(p,fp,a,b.go (Same.refl _) λx U=>ab λz=>R (z▸U),c,f,g),E.io.one,E.io.fr)
end
section
variable {elt:Expr}{out:List D}{scope:Scope}{t:Tg}{m:Nat}{w w':D}{Φ:Fs}{elt':M}
def zd{Y Y1}{d}(J:ax t d Y=some Y1)(h:∀(j:Nat) e,Y[j]?≠some (.own e)):∀(j:Nat) e,Y1[j]?≠some (.own e):=by
 have fold:∀(K:List (Nat×D))(Y:List Sl),(∀(j:Nat) e,Y[j]?≠some (.own e))->∀(j:Nat) e,(K.foldl (λY p=>Y.set p.1 (Sl.dat p.2)) Y)[j]?≠some (.own e):=by
  intro K
  induction K with
  |nil=>exact λa h=>h
  |cons q r ih=>exact λY h=>ih _ λj e M=>h j e (getE_io M @0).2
 cases t with
 |one i=>cases J;erw[fold [(i,d)] Y h]
 |tup N=>
  cases d with
  |tuple L=>
   rw[iq]at J;split at J
   .cases J;erw[fold _ _ h]
   .cases J
  |list L=>
   rw[ip]at J;split at J
   .cases J;erw[fold _ _ h]
   .cases J
  |_=>cases J
set_option tactic.hygienic true in
def NV  (ht:∀(A:Addr)(s:Shared)(H:Hp)(N:A4),Tgj (L2.C.blk X scope @7 A s H N) tg t)(z7:jH t tn.length=true)
  (he:∀(A:Addr)(s:Shared)(H:Hp)(N:A4) Y' e Y'',evM Φ Γ Y' elt'=some (Prod.mk e Y'')->EvO (L2.C.blk X scope @7 A s H N) Y' elt e Y'') (hz:ds.length<sizeLine) (j8:Y[i]?=some (.io w)) (hm:js[m]?=some i) (hu:∀k,js[k]?=some i->k=m)
  (j9:lj (lq Φ Γ tn.length js (tn.length+m) t elt' Y) ds w=some (Prod.mk out w')) {σ}{H}{Q} (h0:tO X.nk X.K Y (.list out) (Y.set i (.io w')) σ H Q):Eu tn js (tSi X.nk X.K Y true ds) (tgC X scope @7 tg) (tcC X scope @7 []) (teC X scope @7 elt) σ H Q:=by
 obtain⟨G0,H0,G,E,k⟩:=h0;refine(G0,H0,G,E,λJ G1 H1 e1 j3 q j0=>?_);have E1:=E.step e1;obtain⟨p,N,hp,io,c,_,go⟩:=uo (k:=true) E1 j8 (λz=>by cases z);have EB:=E1.blkO (tn:=tn) j8 hp io hm hu;have j6:=E1.sub.free j0;have nq:q∉N:=λS=>by obtain⟨o,ho⟩:=io.some q S;rw[j0]at ho;cases ho
 have g:er H1 N q=none:=by rw[aH nq];erw[j0]
 have j1:∀{w:D}(k:Nat) d,((SI.blk tn.length js Y).set (tn.length+m) (.io w))[k]?≠some (.own d):=λk d h=>(aX k d).1 (getE_io h @0).2
 have z0:∀{w d:D}{P:List Sl},ax t d ((SI.blk tn.length js Y).set (tn.length+m) (.io w))=some P->∀(j:Nat) d,P[j]?≠some (.own d):=λU=>zd U j1
 have z4:Same H0 (er H1 N):=λb o e=>by rw[aH λS=>by rw[(c b S).2]at e;cases e];erw[E1.ext.hh b o e]
 refine(λk n j4 B=>n=ds.length-k/\k<=ds.length/\∃G' wc ys outs rest,EnvD X.nk X.K (G1,some (Prod.mk p N)) (er H1 N) G' B j4 ((SI.blk tn.length js Y).set (tn.length+m) (.io wc))/\B q=some (.lst ys)/\G' q=none/\Dps X.K G' outs ys/\outs.length=k/\
   lj (lq Φ Γ tn.length js (tn.length+m) t elt' Y) (ds.drop k) wc=some (Prod.mk rest w')/\outs++rest=out,
  (ds.length,by simp,Nat.zero_le _,G1,w,[],[],out,EB.touchO j1 j6 g nq,aa,j6,.nil,rfl,j9,rfl),?_)
 rintro kk n j4 B ⟨rfl,y6,G',wc,ys,outs,rest,W,r,F,r',ol,V,oe⟩
 have gg:=W.ext.gg;have sm:=gg.trans W.sub;have hs0:=z4.trans W.ext.hh
 by_cases O:kk<ds.length
 .refine .inr (j3.go kk B O sm hs0,λv H2 y=>?_)
  have S:=ge0 O;rw[List.drop_eq_getElem_cons O]at V;generalize ds[kk]=dd at S V;obtain⟨⟨f,w2⟩,L,y0⟩:=bx0 (V:(lq Φ Γ tn.length js (tn.length+m) t elt' Y dd wc).bind _=some (Prod.mk rest w'));obtain⟨⟨j2,w3⟩,z5,hr⟩:=mx0 y0;cases hr;obtain⟨P,U,L⟩:=bx0 (L:(ax t dd _).bind _=some (Prod.mk f w2));obtain⟨⟨y5,Y2⟩,hf,L⟩:=bx0 L;obtain⟨w4,hw,L⟩:=bx0 L;dsimp only at L;split at L
  case isFalse=>cases L
  rename_i y1;cases L;subst y1;obtain⟨l1,l2,l3⟩:=iz z7 U;obtain⟨G2,e2,d2⟩:=j3.yld kk G' B v H2 dd S gg W.sub hs0 y;have E2:=W.step e2;have z8:=e2.hh _ _ r;have z6:=e2.nw _ _ F r;have back:∀{G3 H3:Hp}{z3:St},EnvD X.nk X.K (G1,some (Prod.mk p N)) (er H1 N) G3 H3 z3 (P.set (tn.length+m) (.io w2))->EnvD X.nk X.K (G1,some (Prod.mk p N)) (er H1 N) G3 H3 z3 ((SI.blk tn.length js Y).set (tn.length+m) (.io w2)):=λE3=>E3.forget (by simp[l1]) λj sl Z=>by
   by_cases l:j=tn.length+m
   .subst l
    right
    have hl:tn.length+m<(SI.blk tn.length js Y).length:=by have:=(gi0 Z).1;rwa [List.length_set]at this
    rw[gs0 (by rw[l1,List.length_set];erw[hl])];rw[gs0 hl]at Z;erw[Z]
   .rw[gn0 (Ne.symm l)]at Z ⊢
    by_cases y7:j<tn.length
    .left
     rcases blk_at Z with z|⟨_,_,z,_⟩
     .erw[z]
     .grind
    .right
     rw[l2 j @5,gn0 (Ne.symm l)];erw[Z]
  have y3:=z0 U;intro A s0 T R M s u I rv;refine ht A s0 T R dd M s j4 H2 v u _ I rv (_,_,G2,_,P,E2,d2,U,λy4 j5=>?_);intro A s0 T R M s I;refine pcs_nil M s _ H2 _ I (iteT ?_);intro A s0 T R M s I;refine he A s0 T R P f _ hf M s _ H2 _ I (_,_,G2,j5,λx G4 H4 E4 g4 r4=>?_);have ap:Apt X.nk X.K G2 H2 y4 P q:=(λj e Z=>absurd Z (y3 j e),λj e p' R Z hs y2 hm=>by
   obtain⟨p2,fq,b1,b2,_,b4,_⟩:=j5.io.at' j e Z;cases b4 _ rfl;rw[hs]at b1;cases b1;rw[y2.same (Same.refl _) (λa h=>h) b2 rfl]at hm;erw[nq hm])
  obtain⟨z9,j7,_⟩:=g4.kp q _ z8 z6 ap;exact(ys,z9,by rw[<-r'.length,ol];erw[Nat.lt_of_le_of_lt ‹_› ‹_›],ds.length-(kk+1),by lia,rfl,O,G4,w2,ys++[x],outs++[f],j2,(back E4).touchO j1 j7 g nq,aa,j7,((r'.mono (e2.gg.trans g4.gg)).append (.one r4)),by rw[la0,ol];rfl,z5,by rw[<-oe,List.append_assoc];rfl)
 .have e:kk=ds.length:=by lia
  subst e;rw[List.drop_length]at V;cases V;rw[List.append_nil]at oe;subst oe;obtain⟨p2,fq,b1,b2,b3,b4,_⟩:=W.io.at' (tn.length+m) w' (gs0 (by
   have:=(gi0 hm).1;unfold SI.blk;simp;erw[this]))
  cases b4 _ rfl;have x:Ext G1 (er H1 N) G' (er B N):=(λb o e=>by
   obtain⟨z1,z2⟩:=dB e;rw[aH z1];erw[W.ext.hh b o e],W.ext.gg,jf W.sub λb S=>(b3 b S).1,W.ext.nw)
  have x2:=x.show g (by rw[aH nq];erw[r]) F;obtain⟨en,gx⟩:=go (λz=>(by cases z)) x2 (b2.go (aG F) λa a=>rfl);exact .inl (j3.stop B sm hs0,k _ _ B en ((E.gx e1).trans gx) (.list aa (r'.mono (aG F))))
def zf(B:BlkOk X scope js)(M:X.calm=true)(S:PI X tg iter (tSi X.nk X.K Y true ds))(G:∀(A:Addr)(s:Shared)(H:Hp)(L:A4),Tgj (L2.C.blk X scope @7 A s H L) tg t)(W:jH t tn.length=true)
  (D:∀(A:Addr)(s:Shared)(H:Hp)(L:A4) Y' e Y'',evM Φ Γ Y' elt'=some (Prod.mk e Y'')->EvO (L2.C.blk X scope @7 A s H L) Y' elt e Y'') (hz:ds.length<sizeLine) (V:Y[i]?=some (.io w)) (P:js[m]?=some i) (E:∀k,js[k]?=some i->k=m)
  (O:lj (lq Φ Γ tn.length js (tn.length+m) t elt' Y) ds w=some (Prod.mk out w')) (hs:∀x,foldedSetIterable iter X.env x=pure x):EvO X Y (.ListComp elt [(tg,iter,[],0)] scope pos) (.list out) (Y.set i (.io w')):=λJ s j H Q I F=>
 nF B M S
  (λC s H L J R U Z v u T N r h=>h C s H L _ R u N r) (λC s H L J R U Z T N h=>h C s H L _ R N) (λC s H L J R U Z T N h=>h C s H L _ R N) hs _ s j H Q I (NV G W D hz V P E O F)
def Ib{x}{j}{p pos'}(S:Sto X x j)(B:BlkOk X scope js)(L:X.calm=true)(f:PI X tg iter (tSi X.nk X.K Y true ds))(d:∀(A:Addr)(s:Shared)(H:Hp)(N:A4),Tgj (L2.C.blk X scope @7 A s H N) tg t)(T:jH t tn.length=true)
  (q:∀(A:Addr)(s:Shared)(H:Hp)(N:A4) Y' e Y'',evM Φ Γ Y' elt'=some (e,Y'')->EvO (L2.C.blk X scope @7 A s H N) Y' elt e Y'') (hz:ds.length<sizeLine) (Z:Y[i]?=some (.io w)) (l:js[m]?=some i) (c:∀k,js[k]?=some i->k=m)
  (U:lj (lq Φ Γ tn.length js (tn.length+m) t elt' Y) ds w=some (out,w')) (hs:∀x,foldedSetIterable iter X.env x=pure x) (M:swapsWith (.ListComp elt [(tg,iter,[],0)] scope p) (some (.Name x pos')) pos.line X.env=pure false\/X.env.scope.names.lookup x=some .local/\swapsWith (.ListComp elt [(tg,iter,[],0)] scope p) (some (.Name x pos')) pos.line X.env=pure true):
  E1 X Y (.Assign [.Name x pos'] (.ListComp elt [(tg,iter,[],0)] scope p) pos) (.nx ((Y.set i (.io w')).set j (.dat (.list out)))):=by
 intro J s Q H F I h;obtain⟨E,z,G,env,R⟩:=h;have k:∀v V O,EnvD X.nk X.K E z V O Q (Y.set i (.io w'))->Gx X.nk X.K G H Q Y V O (Y.set i (.io w'))->Dp X.K V (.list out) v->F.nx (Q.set j (some v)) O:=λv V O b g r=>R V O _ (b.set (S.lt I) r) g.gg
 rcases M with M|⟨o,M⟩
 .erw[hV S.nd S.nm.at' S.nm.loc (zf B L f d T q hz Z l c U hs) M S.nm.fn J s Q H F I (E,z,G,env,k)]
 .exact ud (tn:=tn) (js:=js) B L f
   (λC s H N J D P O v u y W r h=>h C s H N J D u W r) (λC s H N J D P O y W h=>h C s H N J D W) (λC s H N J D P O y W h=>h C s H N J D W) S.nd S.nm.at' o M hs J s Q H F I (NV d T q hz Z l c U (E,z,G,env,k))
end
mutual
inductive IsK (h:Heap):Nat->D->Value->Prop
 |int {n:Nat} (i:Int) (t:Tok):IsK h n (.int i) (.int i t)
 |str {n:Nat} (x:Str) (t:Tok):PyData.strOk x=true->IsK h n (.str x) (.str x t)
 |tup {n:Nat}{a:Addr}{o:Obj}{items:A2}{m:Nat}{ds:List D}:h.get? a=some o->o.cls=.type "tuple"->o.data=.seq items.toArray m->IsKs h n ds items->IsK h (n+1) (.tuple ds) (.ref a)
inductive IsKs (h:Heap):Nat->List D->List Value->Prop
 |nil {n:Nat}:IsKs h n [] []
 |cons {n:Nat}{d:D}{v:Value}{ds:List D}{vs:A2}:IsK h n d v->IsKs h n ds vs->IsKs h n (d::ds) (v::vs)
end
def isk{P:Nat->D->Value->Prop}{R:Nat->List D->List Value->Prop}(K:∀n i t,P n (.int i) (.int i t))(hs:∀n x t,PyData.strOk x=true->P n (.str x) (.str x t))
  (L:∀{n a o items m ds},h.get? a=some o->o.cls=.type "tuple"->o.data=.seq (List.toArray items) m->R n ds items->P (n+1) (.tuple ds) (.ref a)) (J:∀n,R n [] []) (hc:∀{n d v ds vs},P n d v->R n ds vs->R n (d::ds) (v::vs)):
  (∀{n d v},IsK h n d v->P n d v)/\∀{n ds vs},IsKs h n ds vs->R n ds vs:=
 (λx=>IsK.rec (λi t=>K _ i t) (λx t o=>hs _ x t o) (λa b c e r=>L a b c r) (J _) (λe e a b=>hc a b) x,
  λx=>IsKs.rec (λi t=>K _ i t) (λx t o=>hs _ x t o) (λa b c e r=>L a b c r) (J _) (λe e a b=>hc a b) x)
def IsK.inj{n m}{d e}{v:Value}(a:IsK h n d v)(b:IsK h m e v):d=e:=(isk (P:=λf d v=>∀{m e},IsK h m e v->d=e) (R:=λf M V=>∀{m J},IsKs h m J V->M=J) (λn i t m e b=>by cases b;rfl) (λn x t f m e b=>by cases b;rfl) (λN f O r m e b=>by
   cases b with
   |tup K _ L U=>
    rw[N]at K;cases K;rw[O]at L;have e:=L;simp only[Data.seq.injEq]at e;have e:=congrArg Array.toList e.1;simp only[List.toList_toArray]at e;subst e;rw[r U]) (λn m J b=>by cases b;rfl) λa r m J b=>by
   cases b with
   |cons c d=>rw[a c,r d]).1 a b
def IsK.keeps{h h'}(k:∀a o items m,h.get? a=some o->o.data=.seq items m->h'.get? a=some o){v:Value}(x:IsK h n d v):IsK h' n d v:=((isk (λb i t=>.int i t) (λb x t o=>.str x t o) (λK L J r=>.tup (k _ _ _ _ K J) L J r) (λb=>.nil) λa r=>.cons a r)).1 x
def IsK.reads{v:Value}(x:IsK h n d v):∃J,Reads h v (PySem.W.kqdP (toW d)) J:=
 (isk (P:=λa d v=>∃J,Reads h v (PySem.W.kqdP _) J) (R:=λa K O=>∃J,ReadsAll h O (PySem.W.kqdPs (fK K)) J) (λa i t=>(_,Reads.int i t)) (λa x t a=>(_,Reads.str x t)) (λL M N ⟨J,w⟩=>(_,Reads.tuple L M N (by omega))) (λa=>(_,.nil)) λ⟨_,w⟩ ⟨_,u⟩=>(_,.cons w u)).1 x
def IsK.ok{v:Value}(x:IsK h n d v):okS n d=true:=
 (isk (P:=λn d b=>okS n d=true) (R:=λn J b=>J.all _=true) (λn i t=>by cases n<;>rfl) (λn x t b=>by cases n<;>rfl) (λb b b r=>r) (λb=>rfl) λa r=>by rw[List.all_cons,a,r];rfl).1 x
mutual
noncomputable def qg:D->Nat
 |.tuple J=>nW J+1
 |_=>1
noncomputable def nW:List D->Nat
 |[]=>0
 |d::r=>qg d+nW r
end
def IsK.kok{v:Value}(x:IsK h n d v):PySem.W.kqdOk n (toW d)=true:=
 (isk (P:=λn d b=>PySem.W.kqdOk n (toW d)=true) (R:=λn J b=>(fK J).all _=true) (λn i t=>by cases n<;>rfl) (λn x t o=>by cases n<;>exact o) (λb b b r=>r) (λb=>rfl) λ{n d _ J _} a r=>by
  show (PySem.W.kqdOk _ _&&(fK _).all _)=true;rw[a,r];rfl).1 x
section
variable {E:A0}
def wK(J:∀{d:D}{v:Value}{s:Shared}{Q:Int->Shared->Prop},s.heap=h->IsK h n d v->Q (lu w d) {s with toks:=s.toks+qg d}->wpAny (model prog w) A (pyHash v) Q E s):
  ∀(vs:A2)(ds:List D)(acc:Array Int)(s:Shared)(Q:Array Int->Shared->Prop),s.heap=h->IsKs h n ds vs->Q (acc++(cU w ds).toArray) {s with toks:=s.toks+nW ds}->
   wpAny @3 A (forIn vs acc λx acc=>do let i ←pyHash x;pure (ForInStep.yield (acc.push i))) Q E s:=by
 intro vs
 induction vs with
 |nil=>
  intro ds acc s Q e r q;cases r;rw[List.forIn_nil];refine wq0 ?_;have:acc++(cU w []).toArray=acc:=by simp[cU]
  rw[this]at q;erw[q]
 |cons v vs ih=>
  intro ds acc s Q e r q;cases r with
  |@cons _ d _ ds _ a b=>
   rw[List.forIn_cons];refine wb0 (wb0 (J e a (wq0 ?_)));refine ih ds _ _ Q e b ?_;have K:acc.push (lu w d)++(cU w ds).toArray=acc++(cU w (d::ds)).toArray:=by simp[cU]
   rw[K];show Q _ {s with toks:=s.toks+qg d+nW ds};rw[Nat.add_assoc];erw[q]
def zg:∀{n:Nat}{A:Around}{d:D}{v:Value}{s:Shared}{Q:Int->Shared->Prop},A.units+n<cLine+1->IsK s.heap n d v->Q (lu w d) {s with toks:=s.toks+qg d}->wpAny (model prog w) A (pyHash v) Q E s:=by
 intro n
 induction n with
 |zero=>
  intro A d v s Q U K q;cases K with
  |int i t=>exact wpAny_pyHash_int q
  |str x t _=>exact wpAny_pyHash_str q
 |succ n ih=>
  intro A d v s Q U K q;cases K with
  |int i t=>exact wpAny_pyHash_int q
  |str x t _=>exact wpAny_pyHash_str q
  |@tup _ a o items m J L M N O=>
   have R:s.TypeIs (.ref a) "tuple":=(o,L,M);show wpAny @3 A (pyHashByItsType (.ref a)) Q E s;refine PySem.W.pyHash_slot R F.slot_tuple_hash F.entry_tuple_hash (F.args_tuple_hash_1 _) @2 (.inr @5) ?_;unfold Builtin.«tuple.__hash__»;refine wb0 (wpAny_of_eq (a:=(.ref a,[])) rfl ?_);dsimp only;unfold Builtin.Tuple.tupleItemsOf;refine wb0 (wb0 (wpAny_seqItems L N (wq0 ?_)));refine wb0 ?_;rw[<-Array.forIn_toList];refine wK (A:=A.in1) (n:=n) (h:=s.heap) (λe a q=>ih (by show A.units+1+n<cLine+1;grind) (by rw[e];erw[a]) q) items J #[] s _ rfl O ?_
   unfold retInt
   wp_walk
   refine(_,_,rfl,?_);have e:(#[]++(cU w J).toArray:Array Int).toList=cU w J:=by simp
   rw[e];erw[q]
def zh{d e}{a b}{Q}(M:A.units+64<cLine)(J:IsK s.heap 8 d (.ref a))(K:IsK s.heap 8 e (.ref b))(q:Q (decide (d=e)) s):wpAny @3 A (eqBool (.ref a) (.ref b)) Q E s:=by
 refine wh0 ?_
 by_cases c:a=b
 .subst c
  rw[if_pos @0];refine wb0 (wpAny_rule (wq0 ?_));rw[IsK.inj J K]at q
  simpa using q
 .rw[if_neg (by simpa using c)]
  obtain⟨R,N⟩:=J.reads;obtain⟨U,O⟩:=K.reads;have ev:PyData.eqv (PySem.W.kqdP (toW d)) (PySem.W.kqdP (toW e))=decide (d=e):=by
   have z:=PySem.W.kqd_eqv 8 (toW d) (toW e) 8 J.kok K.kok
   by_cases L:d=e
   .rw[dt0 L];erw[z.mpr (by rw[L])]
   .rw[df0 L]
    erw[bf0 λy=>L (nL 8 8 d e J.ok K.ok (z.mp y))]
  exact wb0 (eq_dataH (prog:=prog) (w:=w) (A:=A) (E:=E) N O (cu J.kok @2) (cu K.kok @2) M (by
   rw[ev];erw[wpAny_truthy_bool q]))
def CQ:∀{n m:Nat}{A:Around}{d:D}{v:Value}{s:Shared}{Q:Bool->Shared->Prop},n<=m->IsK s.heap n d v->Q true s->wpAny @3 A (eqIsQuiet m v) Q E s:=by
 intro n
 induction n with
 |zero=>
  intro m A d v s Q _ K q;cases K with
  |int i t=>cases m<;>exact wq0 q
  |str x t _=>cases m<;>exact wq0 q
 |succ n ih=>
  intro m A d v s Q S K q;cases K with
  |int i t=>cases m<;>exact wq0 q
  |str x t _=>cases m<;>exact wq0 q
  |@tup _ a o items k Y U Z T B=>
   obtain⟨m,rfl⟩:∃C,m=C+1:=(m-1,by lia);have V:s.TypeIs (.ref a) "tuple":=(o,U,Z);unfold eqIsQuiet;refine wb0 (wpAny_specialOf V F.slot_tuple_eq.lookup ?_);refine wb0 (wpAny_isInstance V PySem.isSubtype_tuple_tuple ?_);rw[if_neg @2];refine wb0 (wpAny_seqItems U T ?_);rw[<-Array.forIn_toList];have M:∀(L:A2)(N:List D)(J:Option Bool×Unit->Shared->Prop),IsKs s.heap n N L->J (none,()) s->
     wpAny @3 A (forIn L ((none:Option Bool),()) λy W=>do
      let __do_lift ←eqIsQuiet m y
      if (!__do_lift)=true then pure (ForInStep.done (some false,()))else pure (ForInStep.yield (none,()))) J E s:=by
    intro L
    induction L with
    |nil=>intro N J _ R;rw[List.forIn_nil];erw[wq0 R]
    |cons v L O=>
     intro N J K R;cases K with
     |cons a b=>
      rw[List.forIn_cons];refine wb0 (wb0 (ih @1 a ?_));rw[if_neg @2];erw[wq0 (O _ J b R)]
   erw[wb0 (M items Y _ B (wq0 q))]
def zi(prog:Program)(w:World):HeapKind prog w D where
 is:=λh d a=>IsK h 8 d (.ref a)
 hash:=lu w
 draws:=qg
 room:=λA=>A.units+64<cLine
 inj:=λK L=>IsK.inj K L
 keeps:=λ{h W k a d o V U} J O N R=>J.keeps λb u items m e c=>(R.2 b (λz=>by
  subst z;rw[O]at e;cases e;rw[N]at c;cases c)).trans e
 pyHash:=λ{A E s k a Q} M J q=>zg @1 J q
 eqBool:=λ{A E s x y a b Q} M K L q=>zh M K L q
 quiet:=λ{A E s k a Q} J q=>CQ (nr0 _) J q
end
def CS(I:Inv X Zp σ H s){n}(ih:∀(d:D)(v:V)(u:Value),Dp X.K G d v->RelV v u->okK n d=true->IsK s.heap n d u):
  ∀{vs:List V}{us:A2}{ds:List D},Vals vs us->Dps X.K G ds vs->ds.all (okK n)=true->IsKs s.heap n ds us:=by
 intro vs us ds r
 induction r generalizing ds with
 |nil=>intro q _;cases q;exact .nil
 |cons N _ J=>
  intro q z;cases q with
  |cons L M=>
   rw[List.all_cons,be0]at z;exact .cons (ih _ _ _ L N z.1) (J M z.2)
def nX(I:Inv X Zp σ H s)(U:Same G H):∀(n:Nat)(d:D)(v:V)(u:Value),Dp X.K G d v->RelV v u->okK n d=true->IsK s.heap n d u:=by
 intro n
 induction n with
 |zero=>
  intro d v u h r o;cases h with
  |int i=>obtain⟨t,rfl⟩:=r;exact .int i t
  |str x J=>obtain⟨t,rfl⟩:=r;exact .str x t J
  |_=>cases o
 |succ n ih=>
  intro d v u h r o;cases h with
  |int i=>obtain⟨t,rfl⟩:=r;exact .int i t
  |str x J=>obtain⟨t,rfl⟩:=r;exact .str x t J
  |tuple q p=>
   cases r;obtain⟨O,R,⟨W,L,M,m,N⟩,_⟩:=I.tuple (SqT.of (U _ _ q));exact .tup L M N (CS I ih R p o)
  |_=>cases o
def iC:∀{k:Nat}{xs:List (D×Addr×Value)}{J:A4}{ds:List D},fw k xs J ds->xs.length=ds.length/\J.length=ds.length:=by
 intro k xs J ds h
 induction h<;>simp_all
def zm{h}{G}{K}(L:∀(d:D)(a:Addr),Dp K G d (.ref a)->okK 8 d=true->IsK h 8 d (.ref a)):∀{k:Nat}{xs:List (D×Addr×Value)}{J:A4}{ds:List D},fw k xs J ds->Dps K G ds (J.map .ref)->(∀d∈ds,okK 8 d=true/\jF d=true)->∀x∈xs,IsK h 8 x.1 (.ref x.2.1):=by
 intro k xs J ds n
 induction n with
 |nil=>exact λb b b z=>by cases z
 |cons r ih=>
  intro q M x hx;cases q with
  |cons N O=>
   rcases mq0 hx with rfl|hx
   .erw[L _ _ N (M _ ms0).1]
   .erw[ih O (λd R=>M d (mc0 _ R)) x hx]
def numXs_at{d}:∀{k:Nat}{xs:List (D×Addr×Value)}{K:A4}{ds:List D},fw k xs K ds->(ds.idxOf? d=.none/\atKey xs d=.none)\/∃j a t,ds.idxOf? d=some j/\atKey xs d=some (a,.int ((k+j:Nat):Int) t):=by
 intro k xs K ds h
 induction h with
 |nil=>exact .inl (rfl,rfl)
 |@cons k _ e _ _ _ _ r ih=>
  unfold atKey at ih ⊢;rw[List.find?_cons,List.idxOf?_cons]
  by_cases c:e=d
  .simp_all
  .rw[df0 c,bn0 c]
   rcases ih with⟨J,L⟩|⟨j,M,N,J,L⟩
   .exact .inl (by rw[J];rfl,L)
   .refine .inr (j+1,M,N,by rw[J];rfl,?_)
    rwa [show k+(j+1)=k+1+j by lia]
def lX{d}{a}{t}:∀{k:Nat}{xs:List (D×Addr×Value)}{J:A4}{ds:List D},fw k xs J ds->fw k (xs++[(d,a,.int ((k+ds.length:Nat):Int) t)]) (J++[a]) (ds++[d]):=by
 intro k xs J ds h
 induction h with
 |nil=>exact .cons .nil
 |@cons k _ _ _ _ _ ds r ih=>
  rw[show k+1+ds.length=k+(ds.length+1) by grind]at ih;exact .cons ih
def jY{n}{J:A4}{objs}(I:Inv X Zp σ H s)(F:Same G H)(Y:H n=some (.ext (aM X.w n J objs)))(dp:Dps X.K G objs (J.map .ref))(V:∀d∈objs,okK 8 d=true/\jF d=true):
  (n==sysModules)=false/\objs.length<=1000000/\∃xs,fw 0 xs J objs/\s.heap.DictOfH (zi X.prog X.w) n xs:=by
 obtain⟨⟨O,xs,L,W,o,N,M,Z,T,R,U,nd⟩,_⟩:=(I.hok n _ Y:ObjOk X.prog X.w H s.heap n (.ext (aM X.w n J objs)));exact(O,W,xs,L,o,N,M,Z,T,R,U,zm (λd a q o=>nX I F 8 d _ _ q rfl o) L dp V,nd)
def Vat(X:Cx)(G H:Hp)(x y:V)(d:D)(n:Addr)(J:A4)(objs:List D):Prop:=
 y=.ref n/\Same G H/\Dp X.K G d x/\okK 8 d=true/\jF d=true/\H n=some (.ext (aM X.w n J objs))/\Dps X.K G objs (J.map .ref)/\∀d∈objs,okK 8 d=true/\jF d=true
def jZ{K}{d}{x}(h:Dp K G d x)(t:jF d=true):∃a,x=.ref a:=by
 cases h<;>first|exact⟨_,rfl⟩|cases t
def wL(C:X.A.units+100<cLine):OpR X (compareOp .NotIn) (λx y H Q=>∃G d n L objs,Vat X G H x y d n L objs/\Q (.bl (objs.idxOf? d).isNone) H):=by
 intro N s P H x y v u Q I T F h;obtain⟨G,d,n,L,objs,⟨rfl,O,M,ok,tp,Y,U,W⟩,q⟩:=h;obtain⟨a,rfl⟩:=jZ M tp;cases F;cases T;obtain⟨V,B,S,Z,R⟩:=jY I O Y U W;refine wpAny_notIn_heap (by lia:X.A.units+1+64<cLine) (nX I O 8 d _ _ M rfl ok) V R (.bl _,H,I.tok _,rfl,?_);rcases numXs_at Z with⟨J,K⟩|⟨j,D,t,J,K⟩
 .rw[J]at q;rwa [K]
 .rw[J]at q;rwa [K]
def Mx(E:X.A.units+100<cLine):IxR X (λx y H Q=>∃G d n K objs j,Vat X G H y x d n K objs/\objs.idxOf? d=some j/\Q (.int (j:Nat)) H):=by
 intro value slice N s f H x y v u Q I D B h Z;obtain⟨G,d,n,K,objs,j,⟨rfl,R,M,ok,tp,Y,U,W⟩,V,q⟩:=h;obtain⟨a,rfl⟩:=jZ M tp;cases B;cases D;obtain⟨S,P,g,T,L⟩:=jY I R Y U W;rcases numXs_at (d:=d) T with⟨J,O⟩|⟨z,C,t,J,O⟩
 .simp_all
 .rw[V]at J
  cases J;refine tail_any L.typeIs PySem.F.slot_dict_getitem.lookup (wpAny_getItem_heap (by lia:X.A.units+1+64<cLine) (nX I R 8 d _ _ M rfl ok) L O (.int _,H,I.tok _,(t,?_),q)) Z;rw[Nat.zero_add]
def JQ(hu:X.A.units+100<cLine):FC X (λo i v H Q=>∃G d n K objs a,Vat X G H i o d n K objs/\i=.ref a/\objs.idxOf? d=.none/\objs.length<1000000/\v=.int (objs.length:Nat)/\Q (upd H n (.ext (aM X.w n (K++[a]) (objs++[d]))))):=by
 intro T s σ H o i v ov iv u Q I ro ri rv h;obtain⟨G,d,n,K,objs,a,⟨rfl,D,P,ok,tp,Z,S,p⟩,rfl,r,c,rfl,q⟩:=h;cases ro;cases ri;obtain⟨t,rfl⟩:=rv;obtain⟨z,hl,xs,N,C⟩:=jY I D Z S p;have hz:xs.length<=sizeLine:=by rw[(iC N).1,sizeLine_eq];grind
 rcases numXs_at (d:=d) N with⟨R,F⟩|⟨j',a',t',R,F⟩
 .refine wpAny_setItem_heap (hsz:=hz) (by grind:X.A.units+1+64<cLine) (nX I D 8 d _ _ P rfl ok) C λh' L x=>(_,?_,q)
  obtain⟨O,j,E,M,g,m,W,_,Y⟩:=L;rw[storedH_new F]at W Y;have J:=lX (d:=d) (a:=a) (t:=t) N;rw[Nat.zero_add]at J;erw[I.write (t':=_) (by rw[Z];exact True.intro) (.inl rfl) (λb w l e=>(x.2 b l).trans e) (O,M) ((z,_,J,by simp;grind,O,j,E,M,g,m,W,Y),(O,M),by rintro y f ⟨y1,ys,y2,y3,B,V,U,y4,y5⟩ k;exact(y1,ys,y2,y3,B,V,U,k B y4,y5))]
 .rw[r]at R;cases R
def EH(C:Nat):Fn:=([true,false],nI C)
set_option tactic.hygienic true
theorem lY{d}:∀{J:List D},J.idxOf? d=.none->(J++[d]).idxOf? d=some J.length
 |[],_=>by simp
 |o::r,h=>by
  rw[List.idxOf?_cons]at h;rw[List.cons_append,List.idxOf?_cons];split at h
  .cases h
  .rename_i c
   rw[if_neg c];cases q:r.idxOf? d with
   |some j=>simp_all
   |none=>rw[lY q];rfl
structure zo(st:Stmt):Prop where
 ex:∃p1 p2 p3 p4 p5 p6 p7 p8 p9 p10 p11 p12 p13 p14 p15 p16 p17 p18 p19 p20 p21 p22 p23 p24 p25:Pos,(p16.endLine==p18.line)=true/\defBody st =
  [.If (.Compare (.Name "made" p1) [.NotIn] [.Attribute (.Name "self" p2) "numbers" p3] p4)
   [.Assign [.Subscript (.Attribute (.Name "self" p5) "numbers" p6) (.Name "made" p7) p8] (.Call (.Name "len" p9) [.Attribute (.Name "self" p10) "objects" p11] [] p12) p13,
    .Expr (.Call (.Attribute (.Attribute (.Name "self" p14) "objects" p15) "append" p16) [.Name "made" p17] [] p18) p19] [] p20,
   .Return (some (.Subscript (.Attribute (.Name "self" p21) "numbers" p22) (.Name "made" p23) p24)) p25]
 gl:(defScope st).names.lookup ("len":Str)=some NameKind.globalImplicit
def GQ{P}{w}{mg}{base}{C}{x qual}{st}{f}{fd}(F:Fun K x qual st f fd)(S:cf ["self","made"] ["self","made"] @9)(T:zo st)(j2:mg "len"=none)(hc:Cls K C)(h1:NoAttr K C "objects")(h2:NoAttr K C "numbers"):
  FnOk P w K mg base CX0 2 f fd ["self","made"] (Pio (aM w) K (EH C) 0):=by
 obtain⟨p1,p2,p3,p4,p5,p6,p7,p8,p9,z2,z3,z4,z5,z6,z7,z8,z9,y0,y1,y2,y3,y4,y5,y6,y7,X,I⟩:=T.ex;have j4:∀{vs:List V}{H:Hp}{Q:VK}{E:XK},Pio (aM w) K (EH C) 0 vs H Q E->∃objs d e u G a W va,vs=[.ref a,va]/\Dp K G d va/\(if (okK 8 d&&jF d&&decide (objs.length<1000000))=true then (match objs.idxOf? d with
   |some j=>some (D.tuple [.int (j:Nat),.vlt C 0 objs])
   |none=>some (.tuple [.int (objs.length:Nat),.vlt C 0 (objs++[d])]))else none)=some (.tuple [e,u])/\Same G (er H W)/\IoAt (aM w) K G H (.vlt C 0 objs) a W/\
   ∀v G' H',Ext G (er H W) G' (er H' W)->IoAt (aM w) K G' H' u a W->Dp K G' e v->Q v H':=by
  rintro vs H Q E ⟨ds,d0,e,u,G,a,W,Y,o,io,j8,k⟩
  match ds,Y with
  |[.vlt c 0 objs,d],Y=>
   have Y:(if c=C then _ else none)=some (D.tuple [e,u]):=Y;split at Y
   .subst c
    cases j8 with
    |io j9=>cases j9 with
     |cons g1 g2 r=>cases r;exact(objs,d,e,u,G,a,W,_,rfl,g1 rfl,Y,o,io,k)
   .cases Y
 refine F.ok S (λvs H Q E h=>?_) (λB A outer s H vs Q E Y h=>?_)
 .obtain⟨objs,d,e,u,G,a,W,va,rfl,_⟩:=j4 h;rfl
 .obtain⟨objs,d,e,u,G,a,W,vb,rfl,t,M,o,io,kq⟩:=j4 h
  have hu:(iV CX0 P w K mg base ["self","made"] qual @9 f B A outer s H E).nox.A.units+100<cLine:=by have:=Y.un;show (A.deeper _).units+100<_;lia
  have U:∀p:Pos,PE (iV CX0 P w K mg base ["self","made"] qual @9 f B A outer s H E).nox (.Name "self" p) (xC 0):=λp=>fF rfl ((S.par "self" @0).elim .inl λz=>.inr (.inl z)) @2 @2
  have N:∀p:Pos,PE (iV CX0 P w K mg base ["self","made"] qual @9 f B A outer s H E).nox (.Name "made" p) (xC 1):=λp=>fF rfl ((S.par "made" @0).elim .inl λz=>.inr (.inl z)) @2 @2
  have m:=λ(p q:Pos)=>rH (pos:=q) (f:="numbers") (U p) rfl
  have j5:=λ(p q:Pos)=>rH (pos:=q) (f:="objects") (U p) rfl
  rw[I];refine(_,bV (xF (pos:=y2) (tX (pos:=p4) (wL hu) (N p1) (m p2 p3) rfl)
   (bV (jy (pos:=z5) (cZ (p:=p9) (pos:=z4) nC T.gl j2 PySem.boot_len (pa_cons (j5 z2 z3) pa_nil) @2 @2 rfl rfl) (nh (pos:=p8) (m p5 p6) (N p7) (JQ hu) λ_=>rfl) rfl rfl rfl)
    (bV (fU (pos:=y1) (kY (apos:=z8) (cpos:=y0) PySem.F.plainAttrs_list PySem.F.slot_list_append PySem.F.type_list_append hX (j5 z6 z7) (pa_cons (N z9) pa_nil) rfl rfl X rfl rfl) rfl) kK)) kK)
   (bV (ng (pos:=y7) (pB (pos:=y6) (Mx hu) (m y3 y4) (N y5) λg g=>rfl)) kK),?_)
  split at M
  case isFalse=>cases M
  rename_i hq;simp only[be0,decide_eq_true_eq]at hq;obtain⟨⟨ok,tp⟩,z0⟩:=hq;obtain⟨b,rfl⟩:=jZ t tp;rcases id io with⟨_,_,z,_⟩|⟨C',dx,l,n,J,z1,z,rfl,Z,R,hl,hn,i,hk⟩|⟨_,_,z,_⟩
  .cases z
  case inr.inr=>cases z
  cases z;have L:=o.trans dC;have fM:∀{H:Hp}{Q:VK},Q (.ref b) H->xC 1 (start ["self","made"] [V.ref a,V.ref b]) H Q:=λq=>(_,rfl,q)
  have fN:∀{H:Hp}{Q:VK},H a=some (.ins C dx (vfs l n 0))->Q (.ref n) H->LX K (xC 0) "numbers" (start ["self","made"] [V.ref a,V.ref b]) H Q:=λe q=>(.ref a,rfl,a,C,dx,_,_,rfl,e,hc,h2,rfl,q)
  have fO:∀{H:Hp}{Q:VK},H a=some (.ins C dx (vfs l n 0))->Q (.ref l) H->LX K (xC 0) "objects" (start ["self","made"] [V.ref a,V.ref b]) H Q:=λe q=>(.ref a,rfl,a,C,dx,_,_,rfl,e,hc,h1,rfl,q)
  have O:J.length=objs.length:=by have:=i.length;simpa using this.symm
  dsimp only[LL,LN,El,tOp,IV,LM,IY,tCB,Jh,FP,LQ,IW,tBM];refine fM (fN (L _ _ R) ?_);refine(G,d,n,J,objs,(rfl,L,t,ok,tp,hn,i,hk),?_);cases hj:objs.idxOf? d with
  |some j=>
   rw[hj]at M;cases M;refine(false,rfl,nD (fN (L _ _ R) (fM (G,d,n,J,objs,j,(rfl,L,t,ok,tp,hn,i,hk),hj,?_))));erw[kq _ G H (.refl o) io (.int _)]
  |none=>
   rw[hj]at M;cases M;have y8:a≠l:=λz=>by rw[z]at R;rw[L _ _ R]at hl;cases hl
   have j7:a≠n:=λz=>by rw[z]at R;rw[L _ _ R]at hn;cases hn
   refine(true,rfl,iteT ?_);refine fO (L _ _ R) (l,J.map .ref,rfl,.inl (SqL.of hl),fN (L _ _ R) (fM (G,d,n,J,objs,b,(rfl,L,t,ok,tp,hn,i,hk),rfl,hj,z0,by rw[lm0,O],?_)));refine fO (by rw[ab j7];erw[L _ _ R]) ((rfl,J.map .ref,SqL.of (by rw[ab (Ne.symm Z)];erw[hl])),fM (l,J.map .ref,.ref b,rfl,rfl,by rw[ab (Ne.symm Z)];erw[hl],by rw[lm0,O,sizeLine_eq];lia,?_));rw[show (J.map V.ref++[V.ref b])=(J++[b]).map V.ref by simp];have ee:er (upd (upd H n (.ext (aM w n (J++[b]) (objs++[d])))) l (.lst ((J++[b]).map .ref))) [l,n]=er H [l,n]:=by rw[sy @0,sy @0]
   have j0:Dps K G (objs++[d]) ((J++[b]).map .ref):=by rw[List.map_append];erw[i.append (.one t)]
   have j1:∀y∈objs++[d],okK 8 y=true/\jF y=true:=λy hy=>by
    rcases ma0 hy with hy|hy
    .erw[hk y hy]
    .obtain rfl:y=d:=by simpa using hy
     exact(ok,tp)
   have j3:upd (upd H n (.ext (aM w n (J++[b]) (objs++[d])))) l (.lst ((J++[b]).map .ref)) n=some (.ext (aM w n (J++[b]) (objs++[d]))):=by rw[ab Z];erw[aa]
   have j6:Same G (upd (upd H n (.ext (aM w n (J++[b]) (objs++[d])))) l (.lst ((J++[b]).map .ref))):=by
    have:Same G (er (upd (upd H n (.ext (aM w n (J++[b]) (objs++[d])))) l (.lst ((J++[b]).map .ref))) [l,n]):=by rw[ee];erw[o]
    erw[this.trans dC]
   erw[fN (j6 _ _ R) (fM (G,d,n,J++[b],objs++[d],objs.length,(rfl,j6,t,ok,tp,j3,j0,j1),lY hj,kq _ G (upd (upd H n (.ext (aM w n (J++[b]) (objs++[d])))) l (.lst ((J++[b]).map .ref))) (by rw[ee];exact .refl o) (.inr (.inl (C,dx,l,n,J++[b],objs++[d],rfl,rfl,Z,R,aa,j3,j0,j1))) (.int _)))]
set_option tactic.hygienic false
structure uq(st:Stmt):Prop where
 ex:∃p1 p2 p3 p4 p5 p6 p7 p8:Pos,defBody st=[.Assign [.Attribute (.Name "self" p1) "objects" p2] (.List [] p3) p4,.Assign [.Attribute (.Name "self" p5) "numbers" p6] (.Dict [] [] p7) p8]
def CT{P}{w}{mg}{base}{C}{x qual}{st}{f}{fd}(F:Fun K x qual st f fd)(S:cf ["self"] ["self"] @9)(T:uq st)(hc:Cls K C)(W:NoAttr K C "objects")(Y:NoAttr K C "numbers"):
  FnOk P w K mg base CX0 1 f fd ["self"] (yX C):=by
 obtain⟨Z,p2,p3,p4,p5,p6,p7,p8,M⟩:=T.ex;refine F.ok S (λD H Q E h=>?_) (λN A outer s H D Q E B h=>?_)
 .obtain⟨x,O,rfl,_⟩:=h;rfl
 .obtain⟨x,O,rfl,V,q⟩:=h
  have J:∀p:Pos,PE (iV CX0 P w K mg base ["self"] qual @9 f N A outer s H E).nox (.Name "self" p) (xC 0):=λp=>fF rfl ((S.par "self" @0).elim .inl λz=>.inr (.inl z)) @2 @2
  rw[M];refine(_,bV (xQ (pos:=p4) (pos':=p2) (f:="objects") (J Z) (xS (pos:=p3) pa_nil) rfl) (bV (xQ (pos:=p8) (pos':=p6) (f:="numbers") (J p5) (pP (pos:=p7)) rfl) kK),?_);refine(Nat.zero_le _,λl U=>(.ref x,rfl,x,C,O,[],rfl,?_,hc,W,by decide,λn L=>(.ref x,rfl,x,C,O,[("objects",.ref l)],rfl,?_,hc,Y,(by decide:1<1000),?_)))
  .rw[ab (ag V U)];erw[V]
  .have R:n≠x:=λz=>by subst z;rw[aa]at L;cases L
   rw[ab (Ne.symm R)];erw[aa]
  .have R:n≠x:=λz=>by subst z;rw[aa]at L;cases L
   rw[ab R]at L;have nl:n≠l:=λz=>by subst z;rw[aa]at L;cases L
   rw[ab nl]at L;erw[q l n U L (Ne.symm nl)]
def zt(l n:Addr)(h:Nat)(f:Str):(vfs l n h).lookup f=([("objects",.ref l),("numbers",.ref n)]:List (Str×V)).lookup f:=by
 unfold vfs;simp only[lk0];cases c:f=="objects"<;>rfl
def CU{X}{C}{vn y}{Y}{i}{p pos px spos}(Z:jX X.prog X.w X.K X.mg X.base C vn)(hr:Room 2 X.A)(hg:Gl X vn)(S:Sto X y i)(hf:Y[i]?=some .fr)(j8:∀(j:Nat) d,Y[j]?≠some (.io d)):
  E1 X Y (.Assign [.Name y px] (.Call (.Name vn p) [] [] pos) spos) (.nx (Y.set i (.io (.vlt C 0 [])))):=by
 obtain⟨f,fd,hM,hm,y8,hb,F⟩:=Z.ex;intro L s σ H F' I h0;obtain⟨G0,H0,G,E,R⟩:=h0;refine hV S.nd S.nm.at' S.nm.loc (te:=λz8 H' Q=>σ=z8/\H=H'/\∀G2 M x,EnvD X.nk X.K G0 H0 G2 M (σ.set i (some (.ref x))) (Y.set i (.io (.vlt C 0 [])))->Same G G2->Q (.ref x) M) ?_ rfl S.nm.fn L s σ H F' I (rfl,rfl,λG2 M x en g=>R G2 M _ en g);intro L s z8 H' Q I h;obtain⟨rfl,rfl,kq⟩:=h;refine thn (xU (p:=p) (pos:=pos) hM F hr hg hm hb .nil kZ y8 L s σ H (λv W=>∃x J l n,v=.ref x/\H x=none/\H J=none/\J≠x/\l≠x/\n≠x/\l≠J/\n≠J/\l≠n/\H l=none/\H n=none/\W=jW C x J l n (upd (upd H J (.own x)) x (.ins C J []))) I ?_) λu s2 hq=>?_
 .intro x J hx j4 O
  refine(x,J,rfl,aa,λl n U V t=>(rfl,x,J,l,n,rfl,hx,j4,O,?_));have l1:l≠x:=λz=>by subst z;rw[aa]at U;cases U
  rw[ab l1]at U;have l2:l≠J:=λz=>by subst z;rw[aa]at U;cases U
  rw[ab l2]at U;have n1:n≠x:=λz=>by subst z;rw[aa]at V;cases V
  rw[ab n1]at V;have n2:n≠J:=λz=>by subst z;rw[aa]at V;cases V
  rw[ab n2]at V;exact(l1,n1,l2,n2,t,U,V,rfl)
 .obtain⟨v,W,I2,rv,x,J,l,n,rfl,hx,j4,O,l1,n1,l2,n2,t,U,V,rfl⟩:=hq
  generalize T:jW C x J l n (upd (upd H J (.own x)) x (.ins C J []))=W at I2;have j6:W x=some (CL C J l n):=by rw[<-T];erw[aa]
  have j1:W n=some (.dK []):=by rw[<-T];unfold jW;rw[ab n1];erw[aa]
  have j5:W l=some (.lst []):=by rw[<-T];unfold jW;rw[ab l1,ab t,ab l1];erw[aa]
  have j3:W J=some (.own x):=by rw[<-T];unfold jW;rw[ab O,ab (Ne.symm n2),ab O,ab (Ne.symm l2),ab O];erw[aa]
  have other:∀b,b≠x->b≠J->b≠l->b≠n->W b=H b:=λb b1 b2 b3 b4=>by rw[<-T];unfold jW;rw[ab b1,ab b4,ab b1,ab b3,ab b1,ab b2]
  obtain⟨_,q2,vs,kv,⟨o,es,ep,ho,q1,y9,_,j9,_⟩⟩:=(I2.hok n _ j1:ObjOk X.prog X.w W s2.heap n (.dK []));have q3:vs=[]:=by cases kv;rfl
  subst q3;have q0:es.toList=[]:=by cases q:es.toList with|nil=>rfl|cons a r=>rw[q]at j9;cases j9
  have q4:aM X.w n [] [] s2.heap:=(q2,[],.nil,by decide,o,es,ep,ho,q1,y9,q0,List.nodup_nil);have I3:Inv X L σ (upd W n (.ext (aM X.w n [] []))) {s2 with heap:=s2.heap,toks:=s2.toks}:=I2.write (x:=n) (e:=n) (by rw[j1];erw[True.intro]) (.inl rfl) (λb w m e=>e) (o,ho)
   (q4,(o,ho),by rintro q8 q9 ⟨y1,ys,y2,y3,yo,q6,q5,y4,y5⟩ k;exact(y1,ys,y2,y3,yo,q6,q5,k yo y4,y5))
  generalize B:upd W n (.ext (aM X.w n [] []))=H3 at I3;have j7:H3 x=some (CL C J l n):=by rw[<-B,ab (Ne.symm n1)];erw[j6]
  have j2:H3 J=some (.own x):=by rw[<-B,ab (Ne.symm n2)];erw[j3]
  obtain⟨z1,z2,z3,z4,mA,z5,z6,z7⟩:=(I3.hok x _ j7:ObjOk X.prog X.w H3 s2.heap x (CL C J l n));have I4:Inv X L σ (upd H3 x (.ins C J (vfs l n 0))) {s2 with heap:=s2.heap,toks:=s2.toks}:=I3.write (x:=x) (e:=x) (by rw[j7];erw[True.intro]) (.inl rfl) (λb w m e=>e) (_,z4)
   (by rw[ab O];erw[j2],(by decide:3<=1000),z3,z4,mA,z5,λf=>by rw[zt];erw[z6 f],λf hf=>by
    have:=z7 f hf;simp only[mk0,List.map_nil,List.mem_cons,List.not_mem_nil,or_false]at this;unfold vfs;rcases this with z|z
    .erw[List.mem_cons.mpr (.inl z)]
    .erw[mc0 _ (List.mem_cons.mpr (.inl z))])
  generalize P:upd H3 x (.ins C J (vfs l n 0))=M at I4;have y7:M x=some (.ins C J (vfs l n 0)):=by rw[<-P];erw[aa]
  have q7:M J=some (.own x):=by rw[<-P,ab O];erw[j2]
  have y0:M n=some (.ext (aM X.w n [] [])):=by rw[<-P,ab n1,<-B];erw[aa]
  have z9:M l=some (.lst []):=by rw[<-P,ab l1,<-B,ab t];erw[j5]
  have y6:∀b,b≠x->b≠J->b≠l->b≠n->M b=H b:=λb b1 b2 b3 b4=>by rw[<-P,ab b1,<-B,ab b4];erw[other b b1 b2 b3 b4]
  have keep:∀b o,H b=some o->M b=some o:=λb o e=>by
   rw[y6 b (ag e hx) (ag e j4) (ag e U) (ag e V)];erw[e]
  let G':Hp:=upd G x (.ins C J (vfs l n 0))
  have gx:∀b,H b=none->G b=none:=λb hb=>E.sub.free hb
  have gg:Same G G':=aG (gx x hx);have e4:Ext G H G' M:=(keep,gg,λb o e=>by
   by_cases c:b=x
   .subst c
    have e:upd G b (.ins C J (vfs l n 0)) b=some o:=e;rw[aa]at e;cases e;erw[y7]
   .have e:upd G x (.ins C J (vfs l n 0)) b=some o:=e
    rw[ab c]at e;erw[keep b o (E.sub b o e)],λb o e1 e2=>by
    show upd G x (.ins C J (vfs l n 0)) b=none;rw[ab (ag e2 hx)];erw[e1])
  have E4:=E.step e4;have gl:G' l=none:=by show upd G x _ l=none;rw[ab l1];erw[gx l U]
  have gn:G' n=none:=by show upd G x _ n=none;rw[ab n1];erw[gx n V]
  have io:IoAt X.nk X.K G' M (.vlt C 0 []) x [l,n]:=.inr (.inl (C,J,l,n,[],[],rfl,rfl,Ne.symm t,aa,z9,y0,.nil,λm z=>by cases z));have il:=S.lt I;refine(.ref x,M,I4,rv,kq G' M x (E4.ext,by simp[E4.len],λj d N=>?_,λj d N=>?_,λj d N=>?_,λj k d e q N hk aj ak=>?_,λj d N=>?_,λj k d e N hk=>?_,λj N=>E4.io.fr j (getE_io N @0).2) gg)
  .obtain⟨ne,z⟩:=getE_io N @0
   rw[gn0 (Ne.symm ne)];erw[E4.dat j d z]
  .obtain⟨ne,z⟩:=getE_io N @0
   rw[gn0 (Ne.symm ne)];erw[E4.lent j d z]
  .obtain⟨ne,z⟩:=getE_io N @0
   rw[gn0 (Ne.symm ne)];erw[E4.own j d z]
  .obtain⟨nj,zj⟩:=getE_io N @0
   obtain⟨nk,zk⟩:=getE_io hk @0;rw[gn0 (Ne.symm nj)]at aj;rw[gn0 (Ne.symm nk)]at ak;erw[E4.apart j k d e q zj zk aj ak]
  .rcases getE_set N with⟨rfl,z⟩|⟨_,z⟩
   .cases z
    refine(x,[l,n],gs0 il,io,λb hb=>?_,λz hz=>(by rw[E.io.fr j hf]at hz;cases hz),λk e q hk ak hm=>?_)
    .simp only[List.mem_cons,List.not_mem_nil,or_false]at hb
     rcases hb with rfl|rfl
     .exact(gl,E.ext.hh.free U)
     .exact(gn,E.ext.hh.free V)
    .obtain⟨nk,zk⟩:=getE_io hk @0
     rw[gn0 (Ne.symm nk)]at ak;obtain⟨q',a1,_,_,a4⟩:=E.own k e zk;rw[ak]at a1;cases a1;obtain⟨o',j0⟩:=a4.some;simp only[List.mem_cons,List.not_mem_nil,or_false]at hm;rcases hm with rfl|rfl
     .rw[U]at j0;cases j0
     .rw[V]at j0;cases j0
   .erw[absurd z (j8 j d)]
  .have z0:∀{j:Nat}{d:D},(Y.set i (.io (.vlt C 0 [])))[j]?=some (.io d)->j=i:=λN=>(getE_set N).elim (·.1) λ⟨_,z⟩=>absurd z (j8 _ _)
   rw[z0 N,z0 hk]
end L2.Z
set_option maxRecDepth 10000
end
section
variable {c ep i m n:Nat}{ds:List SI.D}{Y:List SI.Sl}{Φ:SI.Fs}{Γ:List (PySem.Str×SI.D)}{α β:Type}{a b:PySem.Expr}{A:PySem.Around}{s:PySem.Shared}{h:PySem.Heap}{x y:PySem.Str}{ls ps:List PySem.Str}{X:L2.Cx}{apos cpos pos px:PySem.Pos}{r:PySem.Addr}{G H:L2.Hp}{mg:PySem.Str->Option PySem.Value}{st:PySem.Stmt}
namespace TX
open PySem SI
noncomputable abbrev bx:Str:=⟨#[98,108,111,98]⟩
noncomputable abbrev ao:Str:=⟨#[116,114,101,101]⟩
def bA:Def:=([true],1,(.B (.ifs (.or (.chain .le .le (.k (.str ⟨#[97]⟩)) (.v 0) (.k (.str ⟨#[122]⟩))) (.or (.chain .le .le (.k (.str ⟨#[65]⟩)) (.v 0) (.k (.str ⟨#[90]⟩))) (.chain .le .le (.k (.str ⟨#[48]⟩)) (.v 0) (.k (.str ⟨#[57]⟩))))) (.A (.ret (.k (.bool true)))) .nil) (.ret (.cmp .isin (.v 0) (.k (.str ⟨#[46,95,45]⟩))))),.pure)
def eU:Def:=([true],1,(.cons (.ifs (.not (.chain .le .le ↑1 (.bi .len (.A (.v 0))) (.g "LONGEST_NAME"))) (.A (.ret (.k (.bool false)))) .nil) (.B (.ifs (.or (.cmp .eq (.v 0) (.k (.str ⟨#[46]⟩))) (.cmp .eq (.v 0) (.k (.str ⟨#[46,46]⟩)))) (.A (.ret (.k (.bool false)))) .nil) (.ret (.bi .all (.A (.comp 1 [] (.one 0) (.seq (.v 0)) .nil (.call "is_name_sign" (.A (.v 0))))))))),.pure)
def cg:Def:=([true],1,(.A (.ret (.bi .all (.A (.comp 2 [] (.tup [0,1]) (.zip (.B (.v 0) (.sl (.v 0) (.A ↑1) .nil))) .nil (.cmp .lt (.v 0) (.v 1))))))),.pure)
def gu:Def:=([true,true],2,(.A (.ret (.ite (.cmp .eq (.v 0) @10) (.v 1) (.op .add (.op .add (.v 0) (.k (.str ⟨#[47]⟩))) (.v 1))))),.pure)
def eV(cV:Nat):Def:=([true,true],2,(.A (.ret (.vcall cV "content" (.v 0) (.B (.v 1) (.k (.str bx)))))),.pure)
def cj(cV:Nat):Def:=([true,true],2,(.A (.ret (.lsk (.vcall cV "content" (.v 0) (.B (.v 1) (.k (.str ao))))))),.pure)
def aQ(cV:Nat):Def:=([true,true],2,(.B (.ifs (.or (.cmp .isN (.v 1) (.k .none)) (.cmp .eq (.vcall cV "kind" (.v 0) (.A (.v 1))) (.k (.str bx)))) (.A (.ret .fd0)) .nil) (.ret (.fdc (.call "entries_of" (.B (.v 0) (.v 1)))))),.pure)
def aI:Def:=([true],2,(.B (.fors (.one 1) (.seq (.v 0)) (.A (.ifs (.not (.call "is_name" (.A (.v 1)))) (.A .stuck) .nil))) (.ifs (.not (.call "names_rise" (.A (.v 0)))) (.A .stuck) .nil)),.pure)
def aB(cV:Nat):Def:=([true,true],2,(.A (.expr (.vcall cV "content" (.v 0) (.B (.v 1) (.k (.str ao)))))),.pure)
def dF:Def:=([true],4,(.cons (.new 1 (.me .split (.v 0) (.A (.k (.str ⟨#[10]⟩))))) (.cons (.pop 1 2) (.cons (.new 3 (.comp 1 [] (.one 0) (.seq (.v 1)) .nil (.op .add (.v 0) (.k (.str ⟨#[10]⟩))))) (.B (.ifs (.cmp .ne (.v 2) @10) (.A (.app 3 (.v 2))) .nil) (.ret (.v 3)))))),.pure)
def gy:Def:=([true,true],6,(.cons (.set 2 (.call "common_counts" (.B (.v 0) (.v 1)))) (.cons (.new 3 (.lst .nil)) (.cons (.set 4 ↑0) (.cons (.set 5 ↑0) (.B (.whl (.and (.cmp .lt (.v 4) (.bi .len (.A (.v 0)))) (.cmp .lt (.v 5) (.bi .len (.A (.v 1))))) (.A (.ifs (.cmp .eq (.idx (.v 0) (.v 4)) (.idx (.v 1) (.v 5))) (.cons (.app 3 (.tup (.B (.v 4) (.v 5)))) (.B (.aug 4 ↑1) (.aug 5 ↑1))) (.A (.ifs (.cmp .ge (.idx (.idx (.v 2) (.op .add (.v 4) ↑1)) (.v 5)) (.idx (.idx (.v 2) (.v 4)) (.op .add (.v 5) ↑1))) (.A (.aug 4 ↑1)) (.A (.aug 5 ↑1))))))) (.ret (.v 3))))))),.pure)
def bf:Def:=([true,true],4,(.cons (.new 2 (.lst (.A (.op .mul (.lst (.A ↑0)) (.op .add (.bi .len (.A (.v 1))) ↑1))))) (.cons (.fors (.one 3) (.rev (.v 0)) (.A (.app 2 (.call "count_row" (.cons (.v 3) (.B (.v 1) (.idx (.v 2) (.neg ↑1)))))))) (.B (.rev 2) (.ret (.v 2))))),.pure)
def cK:Def:=([true,true,true],5,(.cons (.new 3 (.op .mul (.lst (.A ↑0)) (.op .add (.bi .len (.A (.v 1))) ↑1))) (.B (.fors (.one 4) (.rngd (.op .sub (.bi .len (.A (.v 1))) ↑1) (.neg ↑1)) (.A (.ifs (.cmp .eq (.v 0) (.idx (.v 1) (.v 4))) (.A (.seti 3 (.v 4) (.op .add (.idx (.v 2) (.op .add (.v 4) ↑1)) ↑1))) (.A (.seti 3 (.v 4) (.bi .max (.B (.idx (.v 2) (.v 4)) (.idx (.v 3) (.op .add (.v 4) ↑1))))))))) (.ret (.v 3)))),.pure)
def bR:Def:=([true,true,true],8,(.cons (.new 3 (.lst .nil)) (.cons (.set 4 ↑0) (.B (.fors (.tup [5,6,7]) (.seq (.call "parts_of" (.A (.lst (.cons (.call "lines_of" (.A (.v 0))) (.B (.call "lines_of" (.A (.v 1))) (.call "lines_of" (.A (.v 2))))))))) (.B (.ifs (.call "both_changed" (.cons (.v 5) (.B (.v 6) (.v 7)))) (.A (.aug 4 ↑1)) .nil) (.ext 3 (.call "settled" (.cons (.v 5) (.B (.v 6) (.v 7))))))) (.ret (.tup (.B (.me .join @10 (.A (.v 3))) (.v 4))))))),.pure)
def dG:Def:=([true],5,(.cons (.new 1 (.lst .nil)) (.cons (.set 2 (.lst (.cons ↑0 (.B ↑0 ↑0)))) (.cons (.set 3 (.comp 1 [] (.one 0) (.seq (.v 0)) .nil (.bi .len (.A (.v 0))))) (.cons (.fors (.one 4) (.seq (.call "fixed_places" (.cons (.idx (.v 0) ↑0) (.B (.idx (.v 0) ↑1) (.idx (.v 0) ↑2))))) (.cons (.app 1 (.call "cut" (.cons (.v 0) (.B (.v 2) (.v 4))))) (.B (.set 2 (.comp 1 [] (.one 0) (.seq (.v 4)) .nil (.op .add (.v 0) ↑1))) (.app 1 (.call "cut" (.cons (.v 0) (.B (.v 4) (.v 2)))))))) (.B (.app 1 (.call "cut" (.cons (.v 0) (.B (.v 2) (.v 3))))) (.ret (.v 1))))))),.pure)
def bB:Def:=([true,true,true],4,(.B (.set 3 (.fdc (.call "paired" (.B (.v 0) (.v 2))))) (.ret (.comp 2 [3] (.tup [0,1]) (.seq (.call "paired" (.B (.v 0) (.v 1)))) (.A (.cmp .isin (.v 0) (.v 2))) (.lst (.cons (.v 0) (.B (.v 1) (.idx (.v 2) (.v 0)))))))),.pure)
def ur:Def:=([true,true,true],3,(.A (.ret (.comp 3 [] (.tup [0,1,2]) (.zip (.cons (.v 0) (.B (.v 1) (.v 2)))) .nil (.sl (.v 0) (.A (.v 1)) (.A (.v 2)))))),.pure)
def bC:Def:=([true,true,true],3,(.A (.ret (.and (.cmp .ne (.v 1) (.v 0)) (.and (.cmp .ne (.v 2) (.v 0)) (.cmp .ne (.v 2) (.v 1)))))),.pure)
def bD:Def:=([false,false,false],3,(.A (.ret (.ite (.cmp .eq (.v 1) (.v 0)) (.v 2) (.v 1)))),.pure)
def eW:Def:=([false,false,false],3,(.B (.ifs (.call "both_changed" (.cons (.v 0) (.B (.v 1) (.v 2)))) (.A (.ret (.op .add (.op .add (.op .add (.op .add (.lst (.A (.g "OURS_MARK"))) (.call "closed" (.A (.v 1)))) (.lst (.A (.g "MIDDLE_MARK")))) (.call "closed" (.A (.v 2)))) (.lst (.A (.g "THEIRS_MARK")))))) .nil) (.ret (.call "changed_side" (.cons (.v 0) (.B (.v 1) (.v 2)))))),.pure)
def gz:Def:=([true],1,(.A (.ret (.comp 1 [] (.one 0) (.seq (.v 0)) .nil (.ite (.me .ends (.v 0) (.A (.k (.str ⟨#[10]⟩)))) (.v 0) (.op .add (.v 0) (.k (.str ⟨#[10]⟩))))))),.pure)
def eX(cV:Nat):Def:=([true,true],2,(.A (.ret (.ite (.cmp .isN (.v 1) (.k .none)) (.k (.str ⟨#[110,111,110,101]⟩)) (.vcall cV "kind" (.v 0) (.A (.v 1)))))),.pure)
def nB:Def:=([true,true,true],3,(.B (.expr (.call "names_of" (.A (.v 2)))) (.ret (.call "blobs_below" (.cons (.v 0) (.B (.v 1) (.v 2)))))),.pure)
def cS:Def:=([true],2,(.cons (.ifs (.cmp .eq (.v 0) @10) (.A (.ret (.lst .nil))) .nil) (.cons (.set 1 (.me .split (.v 0) (.A (.k (.str ⟨#[47]⟩))))) (.B (.ifs (.or (.cmp .gt (.bi .len (.A (.v 1))) (.g "MOST_NAMES")) (.not (.bi .all (.A (.comp 1 [] (.one 0) (.seq (.v 1)) .nil (.call "is_name" (.A (.v 0)))))))) (.A .stuck) .nil) (.ret (.v 1))))),.pure)
def bo(cV:Nat):Def:=([true,true,true],7,(.cons (.new 3 (.lst .nil)) (.B (.fors (.tup [4,5]) (.seq (.call "entries_of" (.B (.v 0) (.v 1)))) (.B (.set 6 (.call "joined" (.B (.v 2) (.v 4)))) (.ifs (.cmp .eq (.vcall cV "kind" (.v 0) (.A (.v 5))) (.k (.str bx))) (.A (.app 3 (.tup (.B (.v 6) (.v 5))))) (.A (.ext 3 (.call "blobs_below" (.cons (.v 0) (.B (.v 5) (.v 6))))))))) (.ret (.v 3)))),.pure)
def eB:Def:=([true,true],2,(.B (.ifs (.v 0) (.A (.ret (.idx (.v 0) (.op .mod (.v 1) (.bi .len (.A (.v 0))))))) .nil) (.ret ↑0)),.pure)
def jg:Def:=([true,true],3,(.cons (.set 2 (.op .mod (.op .add (.call "_law_cell" (.B (.v 0) (.v 1))) (.op .mul ↑104729 (.op .add (.v 1) ↑1))) ↑4294967291)) (.B (.set 2 (.op .mod (.op .mul (.v 2) ↑48271) ↑4294967279)) (.ret (.op .mod (.op .add (.op .mul (.op .fdiv (.v 2) ↑64) ↑69621) (.v 2)) ↑4294967231)))),.pure)
def iD:Def:=([true],1,(.A (.ret (.and (.isi (.v 0) "int") (.not (.isi (.v 0) "bool"))))),.pure)
def gA:Def:=([true],3,(.cons (.set 1 (.k (.str ⟨#[32,33,34,35,36,38,39,40,41,42,43,44,45,46,47,48,49,50,51,52,53,54,55,56,57,58,59,60,61,62,63,64,65,66,67,68,69,70,71,72,73,74,75,76,77,78,79]⟩))) (.B (.set 2 (.k (.str ⟨#[80,81,82,83,84,85,86,87,88,89,90,91,92,93,94,95,96,97,98,99,100,101,102,103,104,105,106,107,108,109,110,111,112,113,114,115,116,117,118,119,120,121,122,123,124,125,126]⟩))) (.ret (.idx (.op .add (.v 1) (.v 2)) (.op .mod (.v 0) ↑94))))),.pure)
def gB:Def:=([true,true],3,(.cons (.set 2 (.call "_law_mix" (.B (.v 0) (.v 1)))) (.B (.ifs (.cmp .eq (.op .mod (.v 2) ↑4) ↑3) (.A (.ret (.op .add (.call "_law_sign" (.A (.op .fdiv (.v 2) ↑4))) (.call "_law_sign" (.A (.op .fdiv (.v 2) ↑376)))))) .nil) (.ret (.idx (.lst (.cons (.k (.str ⟨#[97]⟩)) (.cons (.k (.str ⟨#[98]⟩)) (.cons @10 (.cons (.k (.str ⟨#[97,32,98]⟩)) (.B (.k (.str ⟨#[124]⟩)) (.k (.str ⟨#[99]⟩)))))))) (.op .mod (.op .fdiv (.v 2) ↑4) ↑6))))),.pure)
def gC:Def:=([true,true],3,(.cons (.new 2 (.comp 1 [] (.one 0) (.seq (.v 0)) .nil (.op .add (.v 0) (.k (.str ⟨#[10]⟩))))) (.B (.ifs (.and (.v 1) (.and (.v 0) (.cmp .ne (.idx (.v 0) (.neg ↑1)) @10))) (.A (.seti 2 (.neg ↑1) (.idx (.v 0) (.neg ↑1)))) .nil) (.ret (.v 2)))),.pure)
def jh:Def:=([true,true,true],3,(.A (.ret (.comp 1 [1,0] (.one 0) (.rng (.v 2)) .nil (.call "_law_line" (.B (.v 2) (.op .add (.v 1) (.v 0))))))),.pure)
def dH:Def:=([true,true,true],9,(.cons (.set 3 (.lsk (.v 2))) (.B (.fors (.one 4) (.rng (.op .mod (.call "_law_mix" (.B (.v 0) (.v 1))) ↑4)) (.cons (.set 5 (.call "_law_mix" (.B (.v 0) (.op .add (.op .add (.v 1) ↑1) (.op .mul ↑2 (.v 4)))))) (.cons (.set 6 (.op .mod (.op .fdiv (.v 5) ↑3) (.op .add (.bi .len (.A (.v 3))) ↑1))) (.cons (.set 7 (.call "_law_line" (.B (.v 0) (.op .add (.op .add (.v 1) ↑2) (.op .mul ↑2 (.v 4)))))) (.B (.set 8 (.idx (.lst (.cons (.lst (.A (.v 7))) (.B (.lst .nil) (.lst (.A (.v 7)))))) (.op .mod (.v 5) ↑3))) (.set 3 (.op .add (.op .add (.sl (.v 3) .nil (.A (.v 6))) (.v 8)) (.sl (.v 3) (.A (.op .add (.v 6) (.idx (.lst (.cons ↑0 (.B ↑1 ↑1))) (.op .mod (.v 5) ↑3)))) .nil)))))))) (.ret (.v 3)))),.pure)
def bN:Def:=([true],2,(.cons (.set 1 (.comp 1 [] (.one 0) (.seq (.me .split (.v 0) (.A (.k (.str ⟨#[10]⟩))))) .nil (.op .add (.v 0) (.k (.str ⟨#[10]⟩))))) (.B (.ifs (.cmp .eq (.idx (.v 1) (.neg ↑1)) (.k (.str ⟨#[10]⟩))) (.A (.ret (.sl (.v 1) .nil (.A (.neg ↑1))))) .nil) (.ret (.op .add (.sl (.v 1) .nil (.A (.neg ↑1))) (.lst (.A (.sl (.idx (.v 1) (.neg ↑1)) .nil (.A (.neg ↑1))))))))),.pure)
def gE:Def:=([true,true],6,(.cons (.newt 3 (.comp 1 [1] (.one 0) (.rng (.op .add (.bi .len (.cons (.v 0) .nil)) ↑1)) .nil (.op .mul (.lst (.cons ↑0 .nil)) (.op .add (.bi .len @12) ↑1)))) (.cons (.fors (.one 4) (.revr (.bi .len (.cons (.v 0) .nil))) (.cons (.fors (.one 2) (.revr (.bi .len @12)) (.cons (.set 5 (.bi .max (.cons (.idx2 3 (.op .add (.v 4) ↑1) (.v 2)) (.cons (.idx2 3 (.v 4) (.op .add (.v 2) ↑1)) .nil)))) (.cons (.sett 3 (.v 4) (.v 2) (.bi .max (.cons (.v 5) (.cons (.op .mul (.bi .int (.cons (.cmp .eq (.idx (.v 0) (.v 4)) (.idx (.v 1) (.v 2))) .nil)) (.op .add ↑1 (.idx2 3 (.op .add (.v 4) ↑1) (.op .add (.v 2) ↑1)))) .nil)))) .nil))) .nil)) (.cons (.rett 3) .nil))),(.tb 3))
def ll:Def:=([true,true],6,(.cons (.set 2 (.call "_law_most" (.B (.v 0) (.v 1)))) (.cons (.new 3 (.lst .nil)) (.cons (.set 4 ↑0) (.cons (.set 5 ↑0) (.B (.whl (.and (.cmp .lt (.v 4) (.bi .len (.A (.v 0)))) (.cmp .lt (.v 5) (.bi .len (.A (.v 1))))) (.A (.ifs (.cmp .eq (.idx (.v 0) (.v 4)) (.idx (.v 1) (.v 5))) (.cons (.app 3 (.tup (.B (.v 4) (.v 5)))) (.B (.set 4 (.op .add (.v 4) ↑1)) (.set 5 (.op .add (.v 5) ↑1)))) (.A (.ifs (.cmp .lt (.idx (.idx (.v 2) (.op .add (.v 4) ↑1)) (.v 5)) (.idx (.idx (.v 2) (.v 4)) (.op .add (.v 5) ↑1))) (.A (.set 5 (.op .add (.v 5) ↑1))) (.A (.set 4 (.op .add (.v 4) ↑1)))))))) (.ret (.v 3))))))),.pure)
def gG:Def:=([false,false,false],7,(.cons (.ifs (.cmp .eq (.v 1) (.v 0)) (.A (.ret (.tup (.B (.me .join @10 (.A (.v 2))) ↑0)))) .nil) (.cons (.ifs (.or (.cmp .eq (.v 2) (.v 0)) (.cmp .eq (.v 2) (.v 1))) (.A (.ret (.tup (.B (.me .join @10 (.A (.v 1))) ↑0)))) .nil) (.cons (.set 3 (.k (.str ⟨#[60,60,60,60,60,60,60,10]⟩))) (.B (.fors (.tup [4,5]) (.seq (.lst (.B (.tup (.B (.v 1) (.k (.str ⟨#[61,61,61,61,61,61,61,10]⟩)))) (.tup (.B (.v 2) (.k (.str ⟨#[62,62,62,62,62,62,62,10]⟩))))))) (.B (.set 6 (.me .join @10 (.A (.v 4)))) (.set 3 (.op .add (.op .add (.op .add (.v 3) (.v 6)) (.idx (.lst (.B @10 (.k (.str ⟨#[10]⟩)))) (.bi .int (.A (.and (.cmp .ne (.v 6) @10) (.cmp .ne (.sl (.v 6) (.A (.neg ↑1)) .nil) (.k (.str ⟨#[10]⟩)))))))) (.v 5))))) (.ret (.tup (.B (.v 3) ↑1))))))),.pure)
def gH:Def:=([true,true,true],10,(.cons (.set 3 (.fdc (.call "_law_walk" (.B (.v 0) (.v 1))))) (.cons (.set 4 (.comp 2 [3] (.tup [0,1]) (.seq (.call "_law_walk" (.B (.v 0) (.v 2)))) (.A (.cmp .isin (.v 0) (.v 2))) (.tup (.cons (.v 0) (.B (.idx (.v 2) (.v 0)) (.v 1)))))) (.cons (.set 5 @10) (.cons (.set 6 ↑0) (.cons (.set 7 (.tup (.cons ↑0 (.B ↑0 ↑0)))) (.B (.fors (.one 8) (.seq (.op .add (.v 4) (.lst (.A (.tup (.cons (.bi .len (.A (.v 0))) (.B (.bi .len (.A (.v 1))) (.bi .len (.A (.v 2)))))))))) (.cons (.set 9 (.call "_law_part" (.cons (.sl (.v 0) (.A (.idx (.v 7) ↑0)) (.A (.idx (.v 8) ↑0))) (.B (.sl (.v 1) (.A (.idx (.v 7) ↑1)) (.A (.idx (.v 8) ↑1))) (.sl (.v 2) (.A (.idx (.v 7) ↑2)) (.A (.idx (.v 8) ↑2))))))) (.cons (.set 5 (.op .add (.op .add (.v 5) (.idx (.v 9) ↑0)) (.me .join @10 (.A (.sl (.v 0) (.A (.idx (.v 8) ↑0)) (.A (.op .add (.idx (.v 8) ↑0) ↑1))))))) (.B (.set 6 (.op .add (.v 6) (.idx (.v 9) ↑1))) (.set 7 (.tup (.cons (.op .add (.idx (.v 8) ↑0) ↑1) (.B (.op .add (.idx (.v 8) ↑1) ↑1) (.op .add (.idx (.v 8) ↑2) ↑1))))))))) (.ret (.tup (.B (.v 5) (.v 6)))))))))),.pure)
def lB:Def:=([true,true],3,(.B (.set 2 (.call "_law_row" (.cons (.v 0) (.B (.v 1) (.op .mod (.call "_law_mix" (.B (.v 0) (.v 1))) ↑5))))) (.ret (.me .join @10 (.A (.call "_law_ends" (.B (.v 2) (.cmp .eq (.op .mod (.call "_law_mix" (.B (.v 0) (.op .add (.v 1) ↑1))) ↑3) ↑0))))))),.pure)
def eN:Def:=([true,true,true],9,(.cons (.set 3 (.call "_law_mix" (.B (.v 0) (.v 1)))) (.cons (.set 4 (.call "_law_text" (.B (.v 0) (.op .add (.v 1) ↑1)))) (.cons (.new 5 (.lst (.cons (.v 4) (.B (.v 4) (.v 4))))) (.cons (.fors (.one 6) (.rng ↑3) (.B (.set 7 (.op .mod (.op .fdiv (.v 3) (.idx (.lst (.cons ↑1 (.B ↑6 ↑36))) (.v 6))) ↑6)) (.ifs (.and (.cmp .eq (.v 7) ↑0) (.not (.v 2))) (.A (.seti 5 (.v 6) (.k .none))) (.A (.ifs (.and (.cmp .gt (.v 6) ↑0) (.cmp .lt (.v 7) ↑4)) (.B (.set 8 (.call "_law_edited" (.cons (.v 0) (.B (.op .add (.op .add (.v 1) ↑2) (.v 6)) (.comp 1 [] (.one 0) (.seq (.call "_law_lines" (.A (.v 4)))) .nil (.me .rstr (.v 0) (.A (.k (.str ⟨#[10]⟩))))))))) (.seti 5 (.v 6) (.me .join @10 (.A (.call "_law_ends" (.B (.v 8) (.cmp .eq (.v 7) ↑1))))))) .nil))))) (.B (.ifs (.cmp .eq (.op .mod (.op .fdiv (.v 3) ↑216) ↑5) ↑0) (.A (.seti 5 ↑2 (.idx (.v 5) ↑1))) .nil) (.ret (.v 5))))))),.pure)
def lZ(cV:Nat):Def:=([true],11,(.cons (.set 1 (.lst (.cons (.k (.str ⟨#[48]⟩)) (.cons (.k (.str ⟨#[97]⟩)) (.cons (.k (.str ⟨#[100,47,97]⟩)) (.cons (.k (.str ⟨#[100,47,101,47,97]⟩)) (.cons (.k (.str ⟨#[100,47,101,47,107]⟩)) (.cons (.k (.str ⟨#[100,47,101,47,122]⟩)) (.cons (.k (.str ⟨#[100,47,107]⟩)) (.cons (.k (.str ⟨#[102,47,98]⟩)) (.cons (.k (.str ⟨#[102,47,107]⟩)) (.cons (.k (.str ⟨#[107]⟩)) (.cons (.k (.str ⟨#[122]⟩)) .nil))))))))))))) (.cons (.set 3 (.comp 1 [1,0] (.one 0) (.rng (.bi .len @12)) .nil (.call "_law_three" (.cons (.v 2) (.cons (.op .mul ↑5 (.v 0)) (.cons (.cmp .eq (.idx (.idx (.v 1) (.v 0)) (.neg ↑1)) (.k (.str ⟨#[107]⟩))) .nil)))))) (.cons (.newv 4 cV) (.cons (.set 5 (.comp 1 [1,3] (.one 0) (.rng ↑3) .nil (.comp 1 [0,1,2] (.one 0) (.rng (.bi .len @12)) .nil (.tup (.cons (.idx (.v 2) (.v 0)) (.cons (.idx (.idx (.v 3) (.v 0)) (.v 1)) .nil)))))) (.cons (.setm 6 (.comp 1 [4] 1 4 (.one 0) (.seq (.v 5)) (.call "_law_folder_of" 0 1 [.v 1,.v 0,.x (.p @10)]))) (.cons (.new 7 (.lst .nil)) (.cons (.new 8 (.lst .nil)) (.cons (.fors (.one 2) (.rng (.bi .len @12)) (.cons (.setm 9 (.call "_law_one" 2 7 [.x (.p (.idx (.v 1) (.v 2))),.x (.p (.idx (.v 3) (.v 2))),.v 7])) (.cons (.ifs (.cmp .notN (.v 9) (.k .none)) (.cons (.app 8 (.tup (.cons (.idx (.v 1) (.v 2)) (.cons (.v 9) .nil)))) .nil) .nil) .nil))) (.cons (.setm 10 (.call "merged_trees" 0 4 [.v 4,.x (.p (.idx (.v 6) ↑0)),.x (.p (.idx (.v 6) ↑1)),.x (.p (.idx (.v 6) ↑2))])) (.cons (.ifs (.or (.not (.isi (.v 10) "tuple")) (.or (.cmp .ne (.bi .len (.cons (.v 10) .nil)) ↑2) (.or (.not (.call "_law_whole" (.cons (.idx (.v 10) ↑0) .nil))) (.cmp .ne (.idx (.v 10) ↑1) (.v 7))))) (.cons (.ret (.k (.bool false))) .nil) .nil) (.cons (.ret (.cmp .eq (.comp 2 [4] (.tup [0,1]) (.seq (.call "files" (.cons (.v 4) (.cons (.idx (.v 10) ↑0) (.cons @10 .nil))))) .nil (.tup (.cons (.v 0) (.cons (.call "text_of" (.cons (.v 2) @12)) .nil)))) (.v 8))) .nil))))))))))),(.mk 4))
def nY(cV:Nat):Def:=([true,true],2,(.cons (.retm (.put cV 0 (.tup (.cons (.k (.str bx)) @12)))) .nil),(.io 0))
def nZ(cV:Nat):Def:=([true,true],4,(.cons (.expr (.call "refuse_wrong_names" (.cons (.comp 2 [] (.tup [0,1]) (.seq (.v 1)) .nil (.v 0)) .nil))) (.cons (.fors (.tup [2,3]) (.seq (.v 1)) (.cons (.ifs (.cmp .eq (.vcall cV "kind" (.v 0) (.cons (.v 3) .nil)) (.k (.str ⟨#[99,111,109,109,105,116]⟩))) (.cons .stuck .nil) .nil) .nil)) (.cons (.retm (.put cV 0 (.tup (.cons (.k (.str ao)) (.cons (.bi .tuple (.cons (.comp 2 [] (.tup [0,1]) (.seq (.v 1)) .nil (.tup (.cons (.v 0) @12))) .nil)) .nil))))) .nil))),(.io 0))
def bH:Def:=([true,true,true,true],4,(.cons (.ifs (.cmp .notN (.v 1) (.k .none)) (.cons (.expr (.call "refuse_what_is_no_tree" (.cons (.v 0) @12))) .nil) .nil) (.cons (.expr (.call "refuse_what_is_no_tree" (.cons (.v 0) (.cons (.v 2) .nil)))) (.cons (.expr (.call "refuse_what_is_no_tree" (.cons (.v 0) (.cons (.v 3) .nil)))) (.cons (.retm (.call "merged_by_names" 0 0 [.v 0,.v 1,.v 2,.v 3,.x (.p @10)])) .nil)))),(.io 0))
def aJ:Def:=([true,true,true,true,true],13,(.cons (.set 5 (.call "entries_by_name" (.cons (.v 0) @12))) (.cons (.set 6 (.call "entries_by_name" (.cons (.v 0) (.cons (.v 2) .nil)))) (.cons (.set 7 (.call "entries_by_name" (.cons (.v 0) (.cons (.v 3) .nil)))) (.cons (.new 8 (.lst .nil)) (.cons (.new 9 (.lst .nil)) (.cons (.fors (.one 10) (.seq (.sor (.v 6) (.v 7))) (.cons (.set 11 (.lst (.cons (.get (.v 5) (.v 10)) (.cons (.get (.v 6) (.v 10)) (.cons (.get (.v 7) (.v 10)) .nil))))) (.cons (.setm 12 (.call "merged_entry" 0 0 [.v 0,.x (.p (.idx (.v 11) ↑0)),.x (.p (.idx (.v 11) ↑1)),.x (.p (.idx (.v 11) ↑2)),.x (.p (.call "joined" (.cons (.v 4) (.cons (.v 10) .nil))))])) (.cons (.ifs (.cmp .notN (.idx (.v 12) ↑0) (.k .none)) (.cons (.app 8 (.tup (.cons (.v 10) (.cons (.idx (.v 12) ↑0) .nil)))) .nil) .nil) (.cons (.ext 9 (.idx (.v 12) ↑1)) .nil))))) (.cons (.retm (.tup [.x (.call "tree" 0 0 [.v 0,.v 8]),.x (.p (.v 9))])) .nil))))))),(.io 0))
def aS:Def:=([true,true,true,true,true],6,(.cons (.ifs (.not (.call "both_changed" (.cons (.v 1) (.cons (.v 2) (.cons (.v 3) .nil))))) (.cons (.ret (.tup (.cons (.call "changed_side" (.cons (.v 1) (.cons (.v 2) (.cons (.v 3) .nil)))) (.cons (.lst .nil) .nil)))) .nil) .nil) (.cons (.set 5 (.lst (.cons (.call "kind_of" (.cons (.v 0) (.cons (.v 2) .nil))) (.cons (.call "kind_of" (.cons (.v 0) (.cons (.v 3) .nil))) .nil)))) (.cons (.ifs (.cmp .eq (.v 5) (.lst (.cons (.k (.str ao)) (.cons (.k (.str ao)) .nil)))) (.cons (.retm (.call "none_if_empty" 0 0 [.v 0,.x (.call "merged_by_names" 0 0 [.v 0,.v 1,.v 2,.v 3,.v 4])])) .nil) .nil) (.cons (.ifs (.cmp .eq (.v 5) (.lst (.cons (.k (.str bx)) (.cons (.k (.str bx)) .nil)))) (.cons (.retm (.call "merged_blobs" 0 0 [.v 0,.v 1,.v 2,.v 3,.v 4])) .nil) .nil) (.cons (.ret (.tup (.cons (.ite (.cmp .isN (.v 2) (.k .none)) (.v 3) (.v 2)) (.cons (.lst (.cons (.v 4) .nil)) .nil)))) .nil))))),(.io 0))
def bg:Def:=([true,true],2,(.cons (.ret (.ite (.call "entries_of" (.cons (.v 0) (.cons (.idx (.v 1) ↑0) .nil))) (.v 1) (.tup (.cons (.k .none) (.cons (.idx (.v 1) ↑1) .nil))))) .nil),(.io 0))
def bI:Def:=([true,true,true,true,true],7,(.cons (.set 5 (.ite (.cmp .eq (.call "kind_of" (.cons (.v 0) @12)) (.k (.str bx))) (.call "text_of" (.cons (.v 0) @12)) @10)) (.cons (.set 6 (.call "merged_text" (.cons (.v 5) (.cons (.call "text_of" (.cons (.v 0) (.cons (.v 2) .nil))) (.cons (.call "text_of" (.cons (.v 0) (.cons (.v 3) .nil))) .nil))))) (.cons (.retm (.tup [.x (.call "blob" 0 0 [.v 0,.x (.p (.idx (.v 6) ↑0))]),.x (.p (.op .mul (.lst (.cons (.v 4) .nil)) (.idx (.v 6) ↑1)))])) .nil))),(.io 0))
def bq:Def:=([true,true,true],7,(.cons (.new 3 (.lst .nil)) (.cons (.new 4 (.lst .nil)) (.cons (.fors (.one 5) (.seq (.v 1)) (.cons (.set 6 (.me .split (.sl (.idx (.v 5) ↑0) (.cons (.bi .len (.cons (.v 2) .nil)) .nil) .nil) (.cons (.k (.str ⟨#[47]⟩)) .nil))) (.cons (.ifs (.and (.cmp .eq (.sl (.idx (.v 5) ↑0) .nil (.cons (.bi .len (.cons (.v 2) .nil)) .nil)) (.v 2)) (.and (.cmp .notN (.idx (.v 5) ↑1) (.k .none)) (.cmp .eq (.bi .len (.cons (.v 6) .nil)) ↑1))) (.cons (.appm 3 (.tup [.x (.p (.idx (.v 6) ↑0)),.x (.call "blob" 0 0 [.v 0,.x (.p (.idx (.v 5) ↑1))])])) .nil) (.cons (.ifs (.and (.cmp .eq (.sl (.idx (.v 5) ↑0) .nil (.cons (.bi .len (.cons (.v 2) .nil)) .nil)) (.v 2)) (.and (.cmp .notN (.idx (.v 5) ↑1) (.k .none)) (.cmp .notin (.idx (.v 6) ↑0) (.v 4)))) (.cons (.app 4 (.idx (.v 6) ↑0)) .nil) .nil) .nil)) .nil))) (.cons (.setmf 3 (.cat (.v 3) (.comp 1 [2,1,0] 3 0 (.one 0) (.seq (.v 4)) (.tup [.x (.p (.v 0)),.x (.call "_law_folder_of" 0 3 [.v 3,.v 2,.x (.p (.op .add (.op .add (.v 1) (.v 0)) (.k (.str ⟨#[47]⟩))))])])))) (.cons (.retm (.call "tree" 0 0 [.v 0,.x (.p (.srtn (.v 3)))])) .nil))))),(.io 0))
def nK:Def:=([true,true,true],7,(.cons (.set 3 (.idx (.v 1) ↑0)) (.cons (.set 4 (.idx (.v 1) ↑1)) (.cons (.set 5 (.idx (.v 1) ↑2)) (.cons (.ifs (.or (.cmp .eq (.v 4) (.v 5)) (.cmp .eq (.v 5) (.v 3))) (.cons (.ret (.v 4)) .nil) .nil) (.cons (.ifs (.cmp .eq (.v 4) (.v 3)) (.cons (.ret (.v 5)) .nil) .nil) (.cons (.ifs (.or (.cmp .isN (.v 4) (.k .none)) (.cmp .isN (.v 5) (.k .none))) (.cons (.app 2 (.v 0)) (.cons (.ret (.ite (.cmp .isN (.v 4) (.k .none)) (.v 5) (.v 4))) .nil)) .nil) (.cons (.set 6 (.call "_law_both" (.cons (.call "_law_lines" (.cons (.ite (.cmp .isN (.v 3) (.k .none)) @10 (.v 3)) .nil)) (.cons (.call "_law_lines" (.cons (.v 4) .nil)) (.cons (.call "_law_lines" (.cons (.v 5) .nil)) .nil))))) (.cons (.ext 2 (.op .mul (.lst (.cons (.v 0) .nil)) (.idx (.v 6) ↑1))) (.cons (.ret (.idx (.v 6) ↑0)) .nil))))))))),(.io 2))
def dy(cV:Nat):Def:=([true,true],2,(.A (.ret (.idx (.vcall cV "held" (.v 0) (.A (.v 1))) ↑0))),.pure)
def eE(cV:Nat):Def:=([true,true],2,(.B (.ifs (.not (.chain .le .lt ↑0 (.v 1) (.bi .len (.A (.vob cV (.v 0)))))) (.A .stuck) .nil) (.ret (.idx (.vob cV (.v 0)) (.v 1)))),.pure)
def bX(cV:Nat):Def:=([true,true,true],4,(.cons (.set 3 (.vcall cV "held" (.v 0) (.A (.v 1)))) (.B (.ifs (.cmp .ne (.idx (.v 3) ↑0) (.v 2)) (.A .stuck) .nil) (.ret (.idx (.v 3) ↑1)))),.pure)
end TX
namespace SI
open PySem
section
variable {l:List Bool}{b:Ss}{d w:D}{o:Out}
@[simp] def Nw:br (l,n,b,.pure) ds=aN l n ds:=rfl
@[simp] def Nx:br (l,n,b,.io i) ds=(aN l n (ds.set i .none)).set i (.io (ds.getD i .none)):=rfl
@[simp] def Ny:br (l,n,b,.mk i) ds=(aN l n ds).set i .fr:=rfl
@[simp] def My:br (l,n,b,.tb i) ds=(aN l n ds).set i .fr:=rfl
@[simp] def OU{fl}{n}{ds}:aN fl n ds=(fl.zip ds).map (λp=>if p.1 then Sl.lent p.2 else .dat p.2)++List.replicate (n-ds.length) .no:=rfl
@[simp] def Nh:Out.val .pure o=some o.fin.1:=rfl
@[simp] def Ni:Out.val (.mk i) o=some o.fin.1:=rfl
@[simp] def Nj:Out.val (.tb i) o=some o.fin.1:=rfl
@[simp] def Nk:Out.val (.io i) (.rt d w)=if rR w then some (.tuple [d,w])else none:=rfl
@[simp] def Nl:Out.fin (.nx Y)=(.none,dW Y):=rfl
@[simp] def Nm:Out.fin (.rt d w)=(d,w):=rfl
end
end SI
namespace TX
open PySem SI
def ans(Φ:Fs)(Γ:List (Str×D))(d:Def)(ds:List D):Option D:=(exs Φ Γ (br d ds) d.body).bind (Out.val d.k)
def Has(Φ:Fs)(f:Str)(fl:List Bool)(P:(List D->Option D)->Prop):Prop:=∃J,Φ f=some (fl,J)/\P J
def ma(ns:List Int)(k:Int):Int:=if ns=[] then 0 else (ns[(k % ns.length).toNat]?).getD 0
def aR{α}{xs:List α}{i:Int}(J:0<=i)(K:i<xs.length):atI xs i=xs[i.toNat]?:=by
 unfold atI ixN;rw[if_pos J,if_pos K];rfl
def md{xs:List α}{i}(d:α)(h:i<xs.length):xs[i]?=some (xs[i]?.getD d):=by
 rw[ge0 h];rfl
def zu(ns)(k:Int):ans Φ Γ eB [.scr ns,.int k]=some (.int (ma ns k)):=by
 by_cases h:ns=[]
 .subst h;simp[ans,eB,ma]
 .have K:=lp0 h
  have J:=(show 0<=k % (ns.length:Int)/\k % (ns.length:Int)<ns.length by
    have:0<ns.length:=lp0 h;exact(en0 _ @1,el0 _ @1))
  have e:atI ns (k % (ns.length:Int))=some (ma ns k):=by
   rw[aR J.1 J.2,md 0 @1];simp[ma,h]
  simp[ans,eB,h,K,e]
end TX
namespace M1
open PySem PySem.Builtin PySem.Builtin.Str
def ext{a b:Str}(h:a.cps.toList=b.cps.toList):a=b:=by
 cases a;cases b
 congr 1
 erw[Array.toList_inj.mp h]
def aT(a b:Str):(a++b).cps.toList=a.cps.toList++b.cps.toList:=by
 show (a.cps++b.cps).toList=_;simp
def zw(x:Str)(c:Nat):Txt.split x ⟨#[c]⟩≠[]:=by
 unfold Txt.split;split
 .simp
 .split
  .simp
  .rw[StrLaws.partsBetween_eq]
   obtain⟨p,r,e⟩:=StrLaws.partsFrom_ne x (⟨#[c]⟩:Str).length 0 (occurrences x ⟨#[c]⟩ 0 x.length (x.length+1));rw[e];simp
noncomputable def nl:Str:=⟨#[10]⟩
def dI:∀ls:List Str,(Txt.join Str.empty ls).cps.toList=(ls.map λp=>p.cps.toList).flatten:=by
 intro ls;show (glued Str.empty ls).cps.toList=_;rw[StrLaws.glued_eq_join]
 induction ls with
 |nil=>rfl
 |cons x r ih=>
  cases r with
  |nil=>show x.cps.toList=_;simp
  |cons y r=>
   show (x++Str.empty++Str.join Str.empty (y::r)).cps.toList=_;rw[aT,aT,ih];show x.cps.toList++[]++_=_;simp
end M1
namespace TX
open PySem SI M1
def mixF(ns:List Int)(k:Int):Int:=
 let a:=(ma ns k+104729*(k+1)) % 4294967291
 let b:=a*48271 % 4294967279
 (b / 64*69621+b) % 4294967231
abbrev EI(Φ:Fs):Prop:=Has Φ "_law_cell" [true,true] λJ=>∀K k,J [.scr K,.int k]=some (.int (ma K k))
abbrev DV(Φ:Fs):Prop:=Has Φ "_law_mix" [true,true] λJ=>∀K k,J [.scr K,.int k]=some (.int (mixF K k))
def zx(i:Int)(j:Int)(J:-(2 ^ 64)<j)(K:j<2 ^ 64):rQ i j=true:=by
 unfold rQ;rw[dt0 J,dt0 K];simp
def zy(i:Int)(j:Int)(J:-(2 ^ 64)<i)(K:i<2 ^ 64):rQ i j=true:=by
 unfold rQ;rw[dt0 J,dt0 K];simp
def CV(hc:EI Φ)(ns)(k:Int):ans Φ Γ jg [.scr ns,.int k]=some (.int (mixF ns k)):=by
 obtain⟨K,h,J⟩:=hc;simp[ans,jg,h,J,zy 104729,zx _ 48271,zx _ 69621,mixF]
def oa(ns)(k:Int)(m:Int)(h:0<m):0<=mixF ns k % m/\mixF ns k % m<m:=(en0 _ @1,el0 _ h)
theorem az{f}{inj g}:∀{xs:List β},(∀x∈xs,f (inj x)=some (some (g x)))->ay f (xs.map inj)=some (xs.map g)
 |[],_=>rfl
 |x::r,h=>by
  show (f (inj x)).bind _=_;rw[h x ms0];show (ay f (r.map inj)).map _=_;rw[az λy J=>h y (mc0 _ J)];rfl
def fX{α}{xs}(h:xs≠[])(d:α):atI xs (-1)=some (xs.getLastD d):=by
 have J:=lp0 h;have e:ixN xs.length (-1)=some (xs.length-1):=by
  unfold ixN;rw[if_neg @2,if_pos @1]
  congr 1;lia
 unfold atI;rw[e];show xs[xs.length-1]?=_;rw[<-List.getLast?_eq_getElem?,List.getLastD_eq_getLast?];cases q:xs.getLast? with
 |none=>rw[List.getLast?_eq_none_iff]at q;erw[absurd q h]
 |some v=>rfl
theorem iR{c}:∀{J:A1}{p:Str},p∈J->p.length<=(Str.join ⟨#[c]⟩ J).length
 |[],_,h=>by cases h
 |[y],p,h=>by rw[List.mem_singleton.mp h];erw[nr0 _]
 |y::z::r,p,h=>by
  have e:(Str.join ⟨#[c]⟩ (y::z::r)).length=y.length+1+(Str.join ⟨#[c]⟩ (z::r)).length:=by
   show (y++⟨#[c]⟩++Str.join ⟨#[c]⟩ (z::r)).length=_;rw[Str.length_append,Str.length_append];rfl
  rcases mq0 h with rfl|h
  .lia
  .have:=iR (c:=c) h
   lia
def split_le(x:Str):∀p∈Txt.split x nl,p.length<=x.length:=by
 intro p J;have:=iR (c:=10) J;rw[show Str.join ⟨#[10]⟩ (Txt.split x nl)=x from StrLaws.join_split x nl]at this;erw[this]
def du(x:Str):Txt.split x nl≠[]:=zw x 10
def cL(x:Str):(Txt.split x nl).length<=x.length+1:=by
 have K:∀J:List Str,J≠[]->J.length<=(Str.join nl J).length+1:=by
  intro J
  induction J with
  |nil=>intro h;erw[absurd rfl h]
  |cons y r ih=>
   intro _;cases r with
   |nil=>simp
   |cons z q=>
    have e:(Str.join nl (y::z::q)).length=y.length+1+(Str.join nl (z::q)).length:=by
     show (y++nl++Str.join nl (z::q)).length=_;rw[Str.length_append,Str.length_append];rfl
    have:=ih @0;rw[e];simp only[lc0]at this ⊢
    lia
 have:=K _ (du x)
 rwa [show Str.join nl (Txt.split x nl)=x from StrLaws.join_split x nl]at this
theorem sF{f}{n}:∀{xs:List α},(∀x∈xs,f x<=n)->(xs.map f).sum<=xs.length*n
 |[],_=>by simp
 |x::r,h=>by
  have K:=h x ms0;have L:=sF (f:=f) (xs:=r) λy J=>h y (mc0 _ J)
  simp only[mk0,List.sum_cons,lc0,Nat.succ_mul]
  lia
def ka(ys):(Txt.join Str.empty ys).length<=(ys.map (·.length)).sum:=by
 have h:=StrLaws.join_length_le Str.empty ys;have e:Txt.join Str.empty ys=Str.join Str.empty ys:=StrLaws.glued_eq_join _ _;rw[e];have z:Str.empty.length=0:=rfl;rw[z,Nat.mul_zero,Nat.add_zero]at h;erw[h]
end TX
namespace TX
open PySem SI M1 L2.Z
noncomputable def signs65:List Nat:=[97,98,99,100,101,102,103,104,105,106,107,108,109,110,111,112,113,114,115,116,117,118,119,120,121,122,65,66,67,68,69,70,71,72,73,74,75,76,77,78,79,80,81,82,83,84,85,86,87,88,89,90,48,49,50,51,52,53,54,55,56,57,46,95,45]
def cc(c:Nat):Bool:=decide (c∈signs65)
def CW(c:Nat)(y:Str):hasSub ⟨#[c]⟩ y=decide (c∈y.cps.toList):=PySem.StrLaws.found_one y c
def GR(a b:Nat):decide ([a]<[b])=decide (a<b):=by
 by_cases h:a<b
 .rw[dt0 h,dt0]
  erw[List.Lex.rel h]
 .rw[df0 h,df0]
  intro z;cases z with
  |rel J=>exact h J
  |cons J=>cases J
def wM(c:Nat):cc c=((!decide (c<97)&&!decide (122<c))||((!decide (c<65)&&!decide (90<c))||(!decide (c<48)&&!decide (57<c)))||decide (c∈[46,95,45])):=by
 by_cases h:c<128
 .have J:∀c<128,cc c=((!decide (c<97)&&!decide (122<c))||((!decide (c<65)&&!decide (90<c))||(!decide (c<48)&&!decide (57<c)))||decide (c∈[46,95,45])):=by decide
  erw[J c h]
 .have K:cc c=false:=by
   unfold cc;refine df0 λz=>h ?_
   have:∀c∈signs65,c<128:=by decide
   erw[this c z]
  have L:decide (c∈[46,95,45])=false:=df0 (by simp;lia);rw[K,L,dt0 (by lia:122<c),dt0 (by lia:90<c),dt0 (by lia:57<c)];simp
abbrev uu(Φ:Fs):Prop:=Has Φ "is_name_sign" [true] λJ=>∀c,J [.str ⟨#[c]⟩]=some (.bool (cc c))
noncomputable def dot:Str:=⟨#[46]⟩
noncomputable def GS:Str:=⟨#[46,46]⟩
def aK(x:Str):Bool:=decide (1<=x.length)&&decide (x.length<=12)&&!decide (x=dot)&&!decide (x=GS)&&x.cps.toList.all cc
abbrev uv(Φ:Fs):Prop:=Has Φ "is_name" [true] λJ=>∀x:Str,x.length<=1000->J [.str x]=some (.bool (aK x))
noncomputable def wN:List Str->Bool
 |a::b::r=>decide (a.cps.toList<b.cps.toList)&&wN (b::r)
 |_=>true
@[simp] def GT{h}{os}:lg c (.vlt c h os)=true:=by simp[lg]
@[simp] def JR{h}{os}:FZ (.vlt c h os)=os:=rfl
@[simp] def JS{o}:roM .read o=o:=rfl
@[simp] def JT{o}:roM .test o=o:=rfl
noncomputable abbrev CY:Str:=⟨#[99,111,109,109,105,116]⟩
abbrev zz(Φ:Fs)(c:Nat):Prop:=Has Φ (bL "held") [true,true] λJ=>∀(h:Nat)(K:List D)(n:Nat)(d:D),K[n]?=some d->J [.vlt c h K,.int n]=some d
abbrev qi(Φ:Fs)(c:Nat):Prop:=Has Φ (bL "kind") [true,true] λJ=>∀(h:Nat)(K:List D)(n:Nat)(k:Str)(ds:List D),K[n]?=some (.tuple (.str k::ds))->J [.vlt c h K,.int n]=some (.str k)
abbrev gJ(Φ:Fs)(c:Nat):Prop:=Has Φ (bL "content") [true,true,true] λJ=>∀(h:Nat)(K:List D)(n:Nat)(k:Str)(d:D),K[n]?=some (.tuple [.str k,d])->J [.vlt c h K,.int n,.str k]=some d
abbrev gK(Φ:Fs)(c:Nat):Prop:=Has Φ "entries_of" [true,true] λJ=>∀(h:Nat)(L:List D)(n:Nat)(K:List D),L[n]?=some (.tuple [.str ao,.tuple K])->J [.vlt c h L,.int n]=some (.list K)
def zA(h:Nat)(J:List D)(n:Nat)(d:D)(K:J[n]?=some d):ans Φ Γ (eE c) [.vlt c h J,.int n]=some d:=by
 have L:=(gi0 K).1;have e:atI J (n:Int)=some d:=by rw[aR @1 @1];simpa using K
 have M:(0:Int)<=(n:Int):=by lia
 have N:(n:Int)<(J.length:Int):=by lia
 simp[ans,eE,e,M,L]
def zB(N:zz Φ c)(h:Nat)(J:List D)(n:Nat)(k:Str)(ds)(M:J[n]?=some (.tuple (.str k::ds))):ans Φ Γ (dy c) [.vlt c h J,.int n]=some (.str k):=by
 obtain⟨O,K,L⟩:=N;have q:=L h J n _ M;have e:atI (D.str k::ds) 0=some (.str k):=by rw[aR @1 @0];rfl
 simp[ans,dy,K,q,e]
def qj(O:zz Φ c)(h:Nat)(J:List D)(n:Nat)(k:Str)(d:D)(N:J[n]?=some (.tuple [.str k,d])):ans Φ Γ (bX c) [.vlt c h J,.int n,.str k]=some d:=by
 obtain⟨R,L,M⟩:=O;have q:=M h J n _ N;have e:atI [D.str k,d] 0=some (.str k):=rfl;have K:atI [D.str k,d] 1=some d:=rfl;simp[ans,bX,L,q,e,K]
def qk(hc:gJ Φ c)(h:Nat)(J:List D)(n:Nat)(es)(M:J[n]?=some (.tuple [.str ao,.tuple es])):ans Φ Γ (cj c) [.vlt c h J,.int n]=some (.list es):=by
 obtain⟨N,K,L⟩:=hc;have q:=L h J n ao _ M;simp[ans,cj,K,q]
end TX
namespace PySem
def sG{p:Array Nat}(h:p.size<=1):SetTable.below p 0=0:=by
 unfold SetTable.below;rcases p with⟨l⟩
 match l,h with
 |[],_=>rfl
 |[x],_=>simp[SetTable.below.go]
def sH{p}{i j}(h:p.size<=1)(e:p[i]?=some j):SetTable.below p (j+1)=i+1:=by
 unfold SetTable.below;rcases p with⟨l⟩
 match l,h with
 |[],_=>simp at e
 |[x],_=>
  have:i=0:=by
   have:=(Array.getElem?_eq_some_iff.mp e).1;simp at this;omega
  subst this;simp at e;simp[SetTable.below.go,e]
def ql{mask finger moves}{led plain}{hs}{q}(h:SetTable.laid mask finger moves led plain hs=some q):q.1.dummies=#[]:=by
 unfold SetTable.laid at h;obtain⟨J,_,h⟩:=bx0 h;cases h;rfl
end PySem
namespace PySem
open PyProof.Rows
def bh{f}:∀{l m:List β},l.Perm m->∀xs:List α,m=xs.map f->∃J:List α,J.Perm xs/\l=J.map f:=by
 intro l m h
 induction h with
 |nil=>simp
 |cons a _ ih=>
  intro xs e;cases xs with
  |nil=>cases e
  |cons x r=>
   injection e with N K
   obtain⟨J,p,rfl⟩:=ih r K;exact(_,p.cons x,by simp_all)
 |swap a b l=>
  intro xs e
  match xs,e with
  |[],e=>cases e
  |[_],e=>injection e with _ e;cases e
  |x::y::r,e=>
   injection e with N e
   exact(_,.swap ..,by simp_all)
 |trans _ _ L M=>
  intro xs e;obtain⟨J,p,K⟩:=M xs e;obtain⟨R,p2,O⟩:=L J K;exact(R,p2.trans p,O)
def CZ(t)(es)(h:Int)(x):(layNew t es h x).2.1.led=t.led:=by
 unfold layNew;split
 .simp only[SetTable.orStandIn];split<;>rfl
 .rfl
set_option tactic.hygienic true in
def zC(t:SetTable)(es:Array (Int×Value))(n:Nat):(relayAll t es n).2.1.led=t.led/\((relayAll t es n).2.1.plain=true->t.plain=true):=by
 unfold relayAll;split
 .rename_i L J e
  dsimp only;split
  .unfold SetTable.relaid SetTable.laid at e
   obtain⟨K,_,e⟩:=bx0 e;cases e;exact(rfl,id)
  .exact(rfl,λz=>by cases z)
 .exact(rfl,λz=>by cases z)
abbrev byTx(w:World):Bool:=w.params.followText "set-order"
structure KD(prog:Program)(w:World)(Y:Type)[DecidableEq Y] where
 knd:KeyKind prog w Y
 vl:Y->Tok->Value
 is:∀k t,knd.is k (vl k t)=true
 sc:∀k t,(vl k t).scannable=true
 pk:∀k t,plainKind (vl k t)=false
abbrev KD.e{prog:Program}{w:World}{Y:Type}[DecidableEq Y](kd:KD prog w Y)(p:Y×Tok):Int×Value:=(kd.knd.hash p.1,kd.vl p.1 p.2)
def JU(t:SetTable)(n:Nat):Prop:=t.plain=true->n=0
def StrSet{prog:Program}{w:World}{Y:Type}[DecidableEq Y](kd:KD prog w Y)(h:Heap)(a:Addr)(xs:List (Y×Tok))(ep:Nat):Prop:=
 ∃o J t,h.get? a=some o/\o.ExactSet/\o.data=.set J ep t/\t.fits J.size=true/\J.toList=xs.map kd.e/\t.led=!byTx w/\JU t xs.length
section
variable {prog:Program}{w:World}{E:A0}{Y:Type}[DecidableEq Y][Inhabited Y]{kd:KD prog w Y}
def StrSet.keep{h h'}{a:Addr}{xs:List (Y×Tok)}(x:StrSet kd h a xs ep)(k:∀o,h.get? a=some o->h'.get? a=some o):StrSet kd h' a xs ep:=
 let ⟨o,J,t,K,r⟩:=x;(o,J,t,k o K,r)
def StrSet.isA{a:Addr}{xs:List (Y×Tok)}(x:StrSet kd s.heap a xs ep):s.TypeIs (.ref a) "set":=
 let ⟨o,_,_,J,K,_⟩:=x;(o,J,K.1)
def wO(kd:KD prog w Y)(xs:List (Y×Tok)):ElemsOf kd.knd (xs.map kd.e):=λe J=>by
 obtain⟨p,_,rfl⟩:=mm0 J;exact((_,kd.is _ _,rfl),kd.sc _ _)
def zD(kd:KD prog w Y)(xs:List (Y×Tok))(x:Y):((xs.map kd.e).findIdx? λe=>kd.knd.is x e.2).isSome=decide (x∈xs.map (·.1)):=by
 induction xs with
 |nil=>rfl
 |cons p r ih=>
  have e:=KeyKind.is_eq_decide (kd.is p.1 p.2) x
  grind
def dJ{a:Addr}{o}{es es'}{t t'}(K:h.get? a=some o)(J:o.data=.set es ep t):
  (h.update a (Obj.putSet es' t')).get? a=some {o with data:=.set es' (ep+1) t'}:=by
 have:=hu0 (Obj.putSet _ t') K (by rw[putSet_of es' t' J];rfl)
 rwa [putSet_of _ t' J]at this
set_option tactic.hygienic true in
def GU{a:Addr}{xs:List (Y×Tok)}{x:Y}{tk:Tok}{Q:Bool->Shared->Prop}(hS:StrSet kd s.heap a xs ep)(hr:xs.length+1<4096)
  (h:∀h' I g b,Heap.SameBut a s.heap h'->StrSet kd h' a I g->I.Perm (if x∈xs.map (·.1)then xs else xs++[(Prod.mk x tk)])->Q b {s with heap:=h'}):
  wpAny @3 A (setAddHashed a (kd.vl x tk) (kd.knd.hash x)) Q E s:=by
 obtain⟨o,O,t,F,R,V,k,W,p,hp⟩:=hS;have d:O.size=xs.length:=by rw[<-al0,W,lm0]
 have hb:O.size<scanBound:=by rw[d];unfold scanBound;lia
 have Z:ElemsOf kd.knd O.toList:=by rw[W];erw[wO kd xs]
 have hk:kd.knd.is x (kd.vl x tk)=true:=kd.is x tk;have M:=zD kd xs x;unfold setAddHashed setAddHashedIn;refine wh0 (wb0 (wpAny_setState_of F V k ?_));dsimp only;rw[byScan_of (knd:=kd.knd) (x:=kd.vl x tk) (kd.sc x tk) hb Z];simp only[if_true];unfold setAddByScan;refine wb0 (wb0 (wpAny_rule (wb0 (wpAny_setScan_of (knd:=kd.knd) hk F V k Z ?_))));rw[<-W]at M;cases q:List.findIdx? (λe=>kd.knd.is x e.2) O.toList with
 |some j=>
  rw[q]at M;dsimp only;refine wq0 (wq0 (h s.heap xs ep false (Heap.SameBut.refl a _) (o,O,t,F,R,V,k,W,p,hp) ?_));rw[if_pos (od0 M.symm)]
 |none=>
  rw[q]at M;dsimp only;have j1:x∉xs.map (·.1):=of_decide_eq_false M.symm;rw[if_neg j1]at h;have gw:∀(b:Bool)(N:Shared)(u:A7),u () N->wpAny @3 A (match b with|true=>rule "set.scan.the-table-gave-way"|false=>pure ()) u E N:=
   λb N u z=>by cases b<;>first|exact wq0 z|exact wpAny_rule z
  have p1:=layNew_perm t O (kd.knd.hash x) (kd.vl x tk);have B:=layNew_fits t O (kd.knd.hash x) (kd.vl x tk);have S:=CZ t O (kd.knd.hash x) (kd.vl x tk);generalize layNew t O (kd.knd.hash x) (kd.vl x tk)=L at p1 B S ⊢;obtain⟨J,t1,wd,gv⟩:=L;dsimp only at p1 B S ⊢;have e0:(O.push (Prod.mk (kd.knd.hash x) (kd.vl x tk))).toList=(xs++[(Prod.mk x tk)]).map kd.e:=by
   rw[Array.toList_push,W,List.map_append];rfl
  obtain⟨I,P,v⟩:=bh p1 _ e0;have j0:J.size=xs.length+1:=by rw[<-al0,v,lm0,P.length_eq,la0];rfl
  have T:J.size<=sizeLine:=by rw[j0,sizeLine_eq];lia
  refine wb0 (gw _ _ _ ?_);have fin:∀K:SetTable,K.fits J.size=true->K.led=t.led->K.plain≠true->wpAny @3 A (do
    storeSet a J K
    if (!wd&&K.tooFull)=true then do
     (match (relayAll K J (SetTable.grown J.size)).2.2 with|true=>rule "set.scan.the-table-gave-way"|false=>pure ())
     storeSet a (relayAll K J (SetTable.grown J.size)).1 (relayAll K J (SetTable.grown J.size)).2.1
     pure (some true)
    else pure (some true)) (λr s'=>r=some true/\Q true s') E s:=by
   intro K g1 g2 g3;refine wb0 (wpAny_storeSet_of (prog:=prog) (w:=w) F V ?_ T);have U:=dJ (es':=J) (t':=K) F V;have D:=Heap.SameBut.update s.heap a (Obj.putSet J K);split
   .rename_i full
    have p2:=relayAll_perm K J (SetTable.grown J.size);have l:=relayAll_fits K J (SetTable.grown J.size);have C:=zC K J (SetTable.grown J.size);generalize relayAll K J (SetTable.grown J.size)=L2 at p2 l C ⊢;obtain⟨f,t3,j2⟩:=L2;dsimp only at p2 l C ⊢;obtain⟨zs,pz,ez⟩:=bh p2 _ v;refine wb0 (gw _ _ _ (wb0 (wpAny_storeSet_of (prog:=prog) (w:=w) U rfl ?_ ?_)))
    .refine wq0 (rfl,h _ zs _ true (D.trans (Heap.SameBut.update _ a _)) (_,f,t3,dJ U rfl,R,rfl,l,ez,C.1.trans (g2.trans p),λtp=>absurd (C.2 tp) g3) (pz.trans P))
    .rw[<-al0,ez,lm0,pz.length_eq,P.length_eq,la0,sizeLine_eq];simp only[List.length_singleton];lia
   .erw[wq0 (rfl,h _ I _ true D (_,J,K,U,R,rfl,g1,v,g2.trans p,λz=>absurd z g3) P)]
  split
  .refine wb0 ?_
   rw[hashByValue_scannable 8 (x:=kd.vl x tk) (kd.sc x tk),kd.pk];refine wq0 ?_;refine wpAny_mono (fin {t1 with plain:=false} (SetTable.fits_plain_off B) S (λz=>by cases z)) (λr s' z=>?_) λc c z=>z
   obtain⟨rfl,z⟩:=z;erw[wq0 z]
  .rename_i np
   refine wb0 (wq0 ?_);refine wpAny_mono (fin t1 B S np) (λr s' z=>?_) λc c z=>z
   obtain⟨rfl,z⟩:=z;erw[wq0 z]
def add_str{a:Addr}{xs:List (Y×Tok)}{x}{tk}{Q}(L:StrSet kd s.heap a xs ep)(M:xs.length+1<4096)
  (h:∀h' K J b,Heap.SameBut a s.heap h'->StrSet kd h' a K J->K.Perm (if x∈xs.map (·.1)then xs else xs++[(x,tk)])->Q b {s with heap:=h',toks:=s.toks+1}):
  wpAny @3 A (setAdd a (kd.vl x tk)) Q E s:=wh0 (wb0 (kd.knd.pyHash (kd.is x tk) (GU L M h)))
end
def gL(h:Heap):h.get? h.objs.size=none:=by
 cases q:h.get? _ with
 |none=>rfl
 |some o=>exact absurd (hs0 q) (li0 _)
abbrev aq(w:World):Obj:={cls:=.type "set",dict:=none,data:=.set #[] 0 (.fresh 0 0 (!byTx w))}
section
variable {prog:Program}{w:World}{E:A0}{Y:Type}[DecidableEq Y][Inhabited Y]{kd:KD prog w Y}
theorem StrSet.cls{h}{a}{xs}{ep}(x:StrSet kd h a xs ep):∃o,h.get? a=some o/\o.cls=.type "set":=by
 obtain⟨o,_,_,J,K,_⟩:=x;exact(o,J,K.1)
omit [Inhabited Y] in
def iE{xs K:List (Y×Tok)}{x}{tk}(n:(xs.map (·.1)).Nodup)(p:K.Perm (if x∈xs.map (·.1)then xs else xs++[(x,tk)])):
  (K.map (·.1)).Nodup/\(∀y,y∈K.map (·.1)↔y∈xs.map (·.1)\/y=x)/\K.length<=xs.length+1:=by
 have J:=p.map (·.1);have L:=p.length_eq
 by_cases q:x∈xs.map (·.1)
 .rw[if_pos q]at J L
  exact(J.nodup_iff.mpr n,λy=>J.mem_iff.trans (.inl,λz=>z.elim id λe=>e▸q),by lia)
 .rw[if_neg q]at J L
  rw[List.map_append]at J;refine(J.nodup_iff.mpr (List.nodup_append.mpr (n,by simp,λa M b N=>?_)),λy=>J.mem_iff.trans ?_,by simp_all)
  .grind
  .rw[List.mem_append]
   erw[or_congr Iff.rfl @0]
def qo(v){Q₁}(h:Q₁ @11 {s with heap:=s.heap.push (aq w)}):
  codeAny @3 A (.call (.builtin "set.__new__") ([.type "set",v],[])) (wants Q₁ E) s:=by
 refine codeAny_of_tree ?_;refine wb0 (wpAny_of_eq (F.newCall_set_1 v) (wq0 (plainId_quiet F.plain_set_new _,codeAny_builtin F.entry_set_new ?_)));rw[ui0 F.plain_set_new _];unfold Builtin.«set.__new__» Builtin.Frozenset.newClass;have K:=sub_set_self;obtain⟨J,g,d,M,L⟩:=s;dsimp only
 wp_walk
 refine wpAny_askSetting (wq0 ?_);dsimp only;simp only[newObj];refine wb0 (wpAny_alloc (wq0 (wq0 ?_)));erw[h]
set_option maxHeartbeats 3200000 in
def dN(v){Q}(h:∀O:Around,O.handled=A.handled->codeAny @3 O (.call (.builtin "set.__init__") ([.ref s.heap.objs.size,v],[])) (wants (λr K=>r=.none/\Q @11 K) E) {s with heap:=s.heap.push (aq w)}):
  wpAny @3 A (call (.type "set") [v]) Q E s:=by
 obtain⟨c,I,P⟩:=F.called_set.mro;have M:=F.called_set.made;have R:=F.called_set.sub;refine wpAny_call (codeAny_of_tree ?_);show wpAny _ _ (callAny (.type "set") ([v],[])) _ _ _;refine wq0 (Code.quiet_builtin _ @14,codeAny_builtin F.entry_type_call ?_);rw[Around.under_plain (weight_type_call_type "set" [v] []) rfl];have D:=F.called_set.notType;have B:=F.called_set.canCreate;have C:=F.typeCall_set_1 v
 repeat (any_goals (first|assumption|wp_step))
 refine codeAny_mono (qo (w:=w) v (E:=E) (Q₁:=λv J=>v=.ref s.heap.objs.size/\J={s with heap:=s.heap.push (aq w)}) (rfl,rfl)) λr J N=>?_
 cases r with
 |error e=>exact N
 |ok fl=>
  cases fl with
  |ret v=>
   obtain⟨rfl,rfl⟩:=N;have V:(s.heap.push (aq w)).get? s.heap.objs.size=some (aq w):=pz0 _ rfl;have S:Shared.TypeIs {s with heap:=s.heap.push (aq w)} (.ref s.heap.objs.size) "set":=(_,V,rfl);have Z:=F.called_set.init.lookup;have W:=F.called_set.init.bind @11
   repeat (any_goals (first|assumption|wp_step))
   refine codeAny_mono (h _ rfl) λT K L=>?_
   cases T with
   |error e=>exact L
   |ok U=>
    cases U with
    |ret r=>
     obtain⟨rfl,q⟩:=L
     repeat (any_goals (first|assumption|wp_step))
    |_=>exact L.elim
  |_=>exact N.elim
end
def slot_sit_next:Slot "set_iterator" "__next__" "set_iterator.__next__":=
 .of (owner:="set_iterator") (n:="__next__") (rfl) @14 @14 @14 (by first|exact .inl (by decide +kernel)|rfl) (rfl)
def fD:Slot "set_iterator" "__iter__" "set_iterator.__iter__":=
 .of (owner:="set_iterator") (n:="__iter__") (rfl) @14 @14 @14 (by first|exact .inl (by decide +kernel)|rfl) (rfl)
def bJ:entryFor table "set_iterator.__next__"=some Builtin.«set_iterator.__next__»:=entryFor_of_fast (rfl)
def oW:entryFor table "set.__iter__"=some Builtin.«frozenset.__iter__»:=by refine entryFor_alias (id':="frozenset.__iter__") ?_ rfl ?_ ?_<;>first|kernel_rfl|rfl
def bT(a):argsOk "set_iterator.__next__" ([a],[]):=by rfl
def uw{l:List α}{i}(h:i<l.length):(l[i]::l.eraseIdx i).Perm l:=by
 rw[List.eraseIdx_eq_take_drop_succ];refine (List.perm_middle.symm).trans (List.Perm.of_eq ?_);simp
theorem ux(f:Nat->Nat):∀(n k:Nat)(l:List α)(o:Array α),n=l.length->(pickOrder.go f n k l o).toList.Perm (o.toList++l)
 |0,k,l,o,e=>by
  have:=ez0 e.symm;subst this;show o.toList.Perm _;simp
 |n+1,k,l,o,e=>by
  have K:0<l.length:=by omega
  have J:=Nat.mod_lt (f k) K;show (match l[f k % l.length]? with|some x=>pickOrder.go f n _ _ _|none=>o).toList.Perm _;rw[ge0 J];refine (ux f n _ _ _ @5).trans ?_;rw[Array.toList_push,List.append_assoc];exact (List.Perm.refl _).append (uw J)
def mf(f:Nat->Nat)(xs:Array α):(pickOrder f xs).toList.Perm xs.toList:=by
 have:=ux f xs.size 0 xs.toList #[] (rfl)
 simpa [pickOrder]using this
section
variable {prog:Program}{w:World}{E:A0}
def zG{n}{Q}(J:n≠0)(h:∀i d,i<n->Q i {s with drawn:=d}):wpAny (model prog w) A (choose .order n) Q E s:=λΓ p a=>by
 exact(J,h _ _ (Nat.mod_lt _ (Nat.pos_of_ne_zero J)))
def mh(n:Nat):∀(xs:List α)(s:Shared)(Q:List α->Shared->Prop),n=xs.length->(∀K d,K.Perm xs->Q K {s with drawn:=d})->wpAny (model prog w) A (drawOrder n xs) Q E s:=by
 induction n with
 |zero=>
  intro xs s Q e h;cases xs with
  |nil=>exact wq0 (h [] s.drawn (.refl _))
  |cons x r=>cases e
 |succ n ih=>
  intro xs s Q e h;cases xs with
  |nil=>cases e
  |cons x r=>
   refine wb0 (m:=choose .order _) (zG @0 λi d J=>?_);rw[ge0 J];dsimp only;refine wb0 (ih _ _ _ (by rw[List.length_eraseIdx_of_lt J];simp at e ⊢;omega) λK L p=>wq0 (h _ L ?_));exact (p.cons _).trans (uw J)
def asks{Q}(h:Q (byTx w) s):wpAny @3 A setsByText Q E s:=wb0 (wpAny_askSetting (wq0 h))
def wQ{S}{o}{es}{t}{ep sl i}{Q}(M:s.heap.get? S=some o)(K:o.data=.set es ep t)(L:t.fits es.size=true)(J:byTx w=true)
  (h:Q (((pickOrder (w.params.setOrder S ep) es)[i]?).map λe=>(e.2,sl)) s):wpAny @3 A (setNext S sl i ep) Q E s:=by
 refine wb0 (wpAny_setState_of M K L (wb0 (asks ?_)));rw[J];simp only[bne_self_eq_false];refine wb0 ?_;refine wb0 (wpAny_setState_of M K L (wb0 (asks ?_)));rw[J];erw[wb0 (wpAny_askSetting (wq0 (wq0 h)))]
def qq{S}{o}{es}{t}{ep sl i}{Q}(U:s.heap.get? S=some o)(N:o.data=.set es ep t)(O:t.fits es.size=true)(M:byTx w=false)(R:t.led=true)(L:t.plain=false->es.size<=1)
  (h:Q (match es[SetTable.below t.place sl]?,t.place[SetTable.below t.place sl]? with|some (_,x),some j=>some (x,j+1)|_,_=>none) s):wpAny @3 A (setNext S sl i ep) Q E s:=by
 refine wb0 (wpAny_setState_of U N O (wb0 (asks ?_)));rw[M];have J:(!t.plain&&decide (es.size>1))=false:=by
  cases c:t.plain with
  |true=>rfl
  |false=>rw[df0 (by have:=L c;omega),Bool.and_false]
 have K:(!t.led&&!es.isEmpty)=false:=by rw[R];rfl
 show wpAny @3 A (if (!t.plain&&decide (es.size>1))=true then _ else _) Q E s;rw[if_neg (by rw[J];erw[fx0])];show wpAny _ A ((if (!t.led&&!es.isEmpty)=true then _ else _) >>= _) Q E s;rw[if_neg (by rw[K];erw[fx0])];erw[wb0 (wq0 (wq0 h))]
end
def SetIt(h:Heap)(I S:Addr)(J:Value)(i n ep:Nat):Prop:=∃o,h.get? I=some o/\o.cls=.type "set_iterator"/\o.data=.fields #[J,.int i 0,.ref S,.int n 0,.int ep 0]
def SetIt.is{I S}{f0}{i n ep}(x:SetIt s.heap I S f0 i n ep):s.TypeIs (.ref I) "set_iterator":=let ⟨o,a,b,_⟩:=x;(o,a,b)
def SetIt.keep{h h'}{I S}{f0}{i n ep}(x:SetIt h I S f0 i n ep)(k:∀o,h.get? I=some o->h'.get? I=some o):SetIt h' I S f0 i n ep:=let ⟨o,a,b⟩:=x;(o,k o a,b)
def SetIt.upd{h}{I S}{f0}{i n ep}(x:SetIt h I S f0 i n ep)(k:Nat)(v):
  ∃o,(h.update I (Obj.mapFields (·.setIfInBounds k v))).get? I=some o/\o.cls=.type "set_iterator"/\o.data=.fields ((#[f0,.int i 0,.ref S,.int n 0,.int ep 0]:A9).setIfInBounds k v):=by
 obtain⟨o,L,K,J⟩:=x;exact(_,hu0 _ L (Obj.isFreed_of_fields (Obj.data_mapFields J _)),(Obj.cls_mapFields ..).trans K,Obj.data_mapFields J _)
section
variable {prog:Program}{w:World}{E:A0}{Y:Type}[DecidableEq Y][Inhabited Y]{kd:KD prog w Y}{I S T:Addr}{xs:List (Y×Tok)}{sl:Nat}{x f0:Value}{nx:Nat}{Q:Option Value->Shared->Prop}
def gM{P}(J:SetIt s.heap I S f0 i n ep)(N:StrSet kd s.heap S xs ep)(R:n=xs.length)
  (h:wpAny @3 A (if let .int slot _:=f0 then do
    match ←setNext S slot.toNat (i:Int).toNat (ep:Int).toNat with
    |some (x,next)=>
     setField (.ref I) 0 (rawInt next)
     setField (.ref I) 1 (rawInt ((i:Int)+1))
     ret x
    |none=>setField (.ref I) 2 .none;raiseNew (<-newExc (.type "StopIteration") [])
   else do
    let some places ←seqItems? f0|unsupported "internal:set_iterator"
    match places[(i:Int).toNat]? with
    |some (.int place _)=>
     let x ←setNextDrawn S place.toNat (ep:Int).toNat
     setField (.ref I) 1 (rawInt ((i:Int)+1))
     ret x
    |some _=>unsupported "internal:set_iterator"
    |none=>setField (.ref I) 0 (rawInt 0);setField (.ref I) 2 .none;raiseNew (<-newExc (.type "StopIteration") [])) P E s):
  wpAny @3 A (Builtin.«set_iterator.__next__» ([.ref I],[])) P E s:=by
 obtain⟨o,U,Z,O⟩:=J;obtain⟨oS,L,t,eS,_,K,M,W,_⟩:=N;have V:L.size=n:=by rw[R,<-al0,W,lm0]
 refine wb0 (wq0 ?_);refine wb0 (wpAny_fieldsOf U O ?_);unfold setEntries;refine wb0 (wb0 (wpAny_setState_of eS K M (wq0 ?_)));dsimp only;rw[if_neg (by rw[V];simp)];erw[h]
def qr(J:SetIt s.heap I S (.int sl 0) i n ep)(O:StrSet kd s.heap S xs ep)(U:n=xs.length)(W:∀(A:Around)(E:A0)(Q:Option (Value×Nat)->Shared->Prop),Q (some (x,nx)) s->wpAny @3 A (setNext S sl i ep) Q E s)
  (N:∀h',SetIt h' I S (.int nx 0) (i+1) n ep->Heap.SameBut I s.heap h'->Q (some x) {s with heap:=h'}):wpAny (model prog w) A (pyNext (.ref I)) Q E s:=by
 refine wb0 (wpAny_attempt (wpAny_callSpecial?_slot J.is slot_sit_next (wpAny_call_entry slot_sit_next J.is bJ (gM J O U ?_) (bT _))));refine wb0 (W _ _ _ ?_);obtain⟨o,V,Z,R⟩:=id J;obtain⟨F,L,M,K⟩:=J.upd 0 _;refine wb0 (wpAny_setField V R @0 (wb0 (wpAny_setField L K @0 (wq0 (x,rfl,wq0 (N _ (_,hu0 _ L (Obj.isFreed_of_fields (Obj.data_mapFields K _)),(Obj.cls_mapFields ..).trans M,?_) ((Heap.SameBut.update ..).trans (Heap.SameBut.update ..))))))));rw[Obj.data_mapFields K]
 rfl
def qt{P:Fin->Shared->Prop}{J}{o}{vs}(M:A.handled=none)(N:s.heap.get? I=some o)(L:o.data=.fields vs)(hz:2<vs.size)(K:∀e h',Shared.TypeIs {s with heap:=h'} e "StopIteration"->Heap.ExtBut I s.heap h'->J e {s with heap:=h'}):
  wpAny @3 A (do setField (.ref I) 2 .none;raiseNew (<-newExc (.type "StopIteration") [])) P J s:=by
 refine wb0 (wpAny_setField N L hz (wb0 ?_));simp only[newExc,newTuple];refine wb0 (m:=firstArgMember _ _) (wpAny_of_eq (a:=Value.none) (by first|rfl|(simp only[firstArgMember];rfl)) (wpAny_newObj_type ?_ (by size_fits)));unfold raiseNew;refine wb0 (wpAny_handled ?_);rw[M];refine wb0 (wq0 (wpAny_throw ?_));refine K _ _ ?_ (((Heap.SameBut.update ..).extBut.push _).push _);exact⟨_,pz0 _ rfl,rfl⟩
def uy(O:A.handled=none)(J:SetIt s.heap I S (.int sl 0) i n ep)(M:StrSet kd s.heap S xs ep)(R:n=xs.length)(W:∀(A:Around)(E:A0)(Q:Option (Value×Nat)->Shared->Prop),Q none s->wpAny @3 A (setNext S sl i ep) Q E s)
  (L:∀h',Heap.ExtBut I s.heap h'->Q none {s with heap:=h'}):wpAny (model prog w) A (pyNext (.ref I)) Q E s:=by
 refine wb0 (wpAny_attempt (wpAny_callSpecial?_slot J.is slot_sit_next (wpAny_call_entry slot_sit_next J.is bJ (gM J M R ?_) (bT _))));refine wb0 (W _ _ _ ?_);obtain⟨o,U,Z,N⟩:=id J;erw[qt (O) U N @0 λe h' V K=>wb0 (wpAny_isInstance V isSubtype_stop (wq0 (L _ K)))]
def wR{ps:List Nat}{p}{oT}{m}{y}(J:SetIt s.heap I S (.ref T) i n ep)(K:StrSet kd s.heap S xs ep)(B:n=xs.length)(F:s.heap.get? T=some oT)(O:oT.data=.seq (ps.map λ(k:Nat)=>rawInt (k:Int)).toArray m)(P:ps[i]?=some p)(j:xs[p]?=some y)
  (Z:∀h',SetIt h' I S (.ref T) (i+1) n ep->Heap.SameBut I s.heap h'->Q (some (kd.vl y.1 y.2)) {s with heap:=h'}):wpAny (model prog w) A (pyNext (.ref I)) Q E s:=by
 unfold pyNext;refine wb0 (wpAny_attempt (wpAny_callSpecial?_slot (name:=Str.ofString "__next__") J.is slot_sit_next (wpAny_call_entry slot_sit_next J.is bJ (gM J K B ?_) (bT _))));dsimp only;simp only[Int.toNat_natCast];unfold seqItems?;refine wb0 (wb0 (wpAny_load F ?_));rw[O];refine wq0 ?_;dsimp only;have e:(ps.map λ(k:Nat)=>rawInt (k:Int)).toArray[i]?=some (rawInt (p:Int)):=by simp[P]
 rw[e];obtain⟨oS,V,t,eS,_,N,W,z,_⟩:=id K;show wpAny _ _ (setNextDrawn S (p:Int).toNat ep >>= _) _ _ _;unfold setNextDrawn;refine wb0 (wb0 (wpAny_setState_of eS N W ?_));dsimp only;simp only[bne_self_eq_false,Bool.false_eq_true,if_false,Int.toNat_natCast];have U:V[p]?=some (kd.e y):=by rw[<-Array.getElem?_toList,z,gm0,j];rfl
 rw[U];refine wq0 ?_;obtain⟨o,C,u,D⟩:=id J;obtain⟨q,R,L,M⟩:=J.upd 1 (rawInt ((i:Int)+1));refine wb0 (wpAny_setField C D @0 (wq0 (_,rfl,wq0 (Z _ (q,R,L,?_) (Heap.SameBut.update ..)))));rw[M];simp[rawInt]
def zH{ps:List Nat}{oT}{m}(W:A.handled=none)(J:SetIt s.heap I S (.ref T) i n ep)(R:StrSet kd s.heap S xs ep)(Z:n=xs.length)(U:s.heap.get? T=some oT)(L:oT.data=.seq (ps.map λ(k:Nat)=>rawInt (k:Int)).toArray m)(D:ps[i]?=none)
  (O:∀h',Heap.ExtBut I s.heap h'->Q none {s with heap:=h'}):wpAny (model prog w) A (pyNext (.ref I)) Q E s:=by
 unfold pyNext;refine wb0 (wpAny_attempt (wpAny_callSpecial?_slot (name:=Str.ofString "__next__") J.is slot_sit_next (wpAny_call_entry slot_sit_next J.is bJ (gM J R Z ?_) (bT _))));dsimp only;simp only[Int.toNat_natCast];unfold seqItems?;refine wb0 (wb0 (wpAny_load U ?_));rw[L];refine wq0 ?_;dsimp only;have e:(ps.map λ(k:Nat)=>rawInt (k:Int)).toArray[i]?=none:=by simpa using D
 rw[e];obtain⟨o,F,P,V⟩:=id J;obtain⟨j,M,C,K⟩:=J.upd 0 (rawInt 0);refine wb0 (wpAny_setField F V @0 ?_);refine qt (W:A.in1.handled=none) M K @0 λe h' B N=>?_
 erw[wb0 (wpAny_isInstance (T:="StopIteration") (b:=true) B isSubtype_stop (wq0 (O _ ((Heap.SameBut.update ..).extBut.trans N))))]
end
def ke:entryFor table "set_iterator.__iter__"=some Builtin.«dict_keyiterator.__iter__»:=by
 refine entryFor_alias (id':="dict_keyiterator.__iter__") ?_ rfl ?_ ?_<;>first|kernel_rfl|rfl
section
variable {prog:Program}{w:World}{E:A0}{Y:Type}[DecidableEq Y][Inhabited Y]{kd:KD prog w Y}{I S T:Addr}{xs:List (Y×Tok)}
abbrev eqG:Array GenState->Array GenState->Prop:=λa b=>b=a
abbrev Da{prog:Program}{w:World}{Y:Type}[DecidableEq Y](kd:KD prog w Y)(J:List (Y×Tok))(i:Nat)(v:Value):Prop:=∃p,J[i]?=some p/\v=kd.vl p.1 p.2
def kg{f0}{i}(J:SetIt s.heap I S f0 i n ep){Q}(K:Q (.ref I) s):wpAny @3 A (pyIter (.ref I)) Q E s:=wpAny_pyIter_slot J.is fD (wpAny_call_entry fD J.is ke (wq0 (_,rfl,_,_,J.is,slot_sit_next.lookup,K)) ((by rfl)))
def wU(K:byTx w=true)(U:S≠I)(f:A.handled=none):∃J:List (Y×Tok),J.Perm xs/\
  WalksS prog w A I [I,S] [I] eqG xs.length (Da kd J) (λi s=>SetIt s.heap I S (.int 0 0) i xs.length ep/\StrSet kd s.heap S xs ep):=by
 obtain⟨J,W,C⟩:=bh (mf (w.params.setOrder S ep) (xs.map kd.e).toArray) xs rfl;have N:∀(s:Shared)(i:Nat),StrSet kd s.heap S xs ep->∀(A:Around)(E:A0)(Q:Option (Value×Nat)->Shared->Prop),Q ((J[i]?).map λp=>(kd.vl p.1 p.2,0)) s->wpAny @3 A (setNext S 0 i ep) Q E s:=λs i g A E Q q=>by
  obtain⟨o,P,t,O,_,R,j,u,_⟩:=g;refine wQ O R j K ?_;rw[(show P=(List.map kd.e xs).toArray by
    rw[<-u]),<-Array.getElem?_toList,C,gm0]
  cases z:J[i]?<;>simp_all
 refine(J,W,(λb K=>by simp at K;simp[K],λa=>rfl,λa a a O R=>R.trans O,λi s Z l st a F=>(st.1.keep λo e=>F I @0 o e,st.2.keep λo e=>F S @0 o e),λi s Q E v st L=>?_,λs Q E st L=>?_,λi s Q E st L=>kg st.1 L))
 .have V:i<J.length:=by rw[W.length_eq];erw[v]
  have e:=ge0 V;refine qr st.1 st.2 rfl (x:=kd.vl J[i].1 J[i].2) (nx:=0) (λA E Q q=>N s i st.2 A E Q (by rw[e];erw[q])) λZ M D=>?_
  erw[L _ _ (_,e,rfl) (M,st.2.keep λo e=>(D.2 _ U).trans e) (λb o K e=>(D.2 b (λz=>K (by simp[z]))).trans e,rfl,rfl,rfl,nr0 _)]
 .have e:=List.getElem?_eq_none (by rw[W.length_eq];erw[nr0 _])
  refine uy f st.1 st.2 rfl (λA E Q q=>N s _ st.2 A E Q (by rw[e];erw[q])) λZ B=>?_
  erw[L _ (λb o K e=>B b o (λz=>K (by simp[z])) e,rfl,rfl,rfl,nr0 _)]
def zI(K:byTx w=false)(N:S≠I)(hh:A.handled=none):
  WalksS prog w A I [I,S] [I] eqG xs.length (Da kd xs) (λi s=>∃sl,SetIt s.heap I S (.int (sl:Nat) 0) i xs.length ep/\StrSet kd s.heap S xs ep/\∀o es t,s.heap.get? S=some o->o.data=.set es ep t->xs.length<=1/\SetTable.below t.place sl=i):=by
 refine(λb K=>by simp at K;simp[K],λc=>rfl,λc c c J L=>L.trans J,λi s g tk st c P=>?_,λi s Q E f st O=>?_,λs Q E st O=>?_,λi s Q E st O=>?_)
 .obtain⟨sl,a,b,d⟩:=st
  obtain⟨o0,p,t0,u,r0⟩:=id b;refine(sl,a.keep λo e=>P I @0 o e,b.keep λo e=>P S @0 o e,λo es t J L=>d o es t ?_ L);have:=P S @0 _ u;have J:=J;rw[this]at J;cases J;erw[u]
 .obtain⟨sl,a,b,d⟩:=st
  obtain⟨o,es,t,J,B,L,V,W,C,h6⟩:=id b;have M:es.size=xs.length:=by rw[<-al0,W,lm0]
  obtain⟨U,D⟩:=d o es t J L;have hf:=V;simp only[SetTable.fits,be0,beq_iff_eq]at hf;have v:t.place[i]?=some t.place[i]:=Array.getElem?_eq_getElem (by omega);have hy:es[i]?=some (kd.e xs[i]):=by rw[<-Array.getElem?_toList,W,gm0,ge0 f];rfl
  refine qr (nx:=t.place[i]+1) a b rfl (x:=kd.vl xs[i].1 xs[i].2) (λA E Q q=>qq J L V K (by rw[C,K];rfl) (λc=>by rw[M];erw[U]) ?_) λg R j=>?_
  .rw[D,v,hy]
   erw[q]
  .refine O _ _ (xs[i],ge0 f,rfl) (t.place[i]+1,R,b.keep λo e=>(j.2 _ N).trans e,λo' k t' Z F=>?_) (λb o K e=>(j.2 b (λz=>K (by simp[z]))).trans e,rfl,rfl,rfl,nr0 _)
   have Z:=Z;rw[(j.2 _ N).trans J]at Z;cases Z;rw[L]at F;injection F with _ _ F
   subst F;exact(U,sH @5 v)
 .obtain⟨sl,a,b,d⟩:=st
  obtain⟨o,es,t,J,B,L,V,W,C,h6⟩:=id b;have M:es.size=xs.length:=by rw[<-al0,W,lm0]
  obtain⟨U,D⟩:=d o es t J L;refine uy hh a b rfl (λA E Q q=>qq J L V K (by rw[C,K];rfl) (λc=>by rw[M];erw[U]) ?_) λg l=>O _ (λb o K e=>l b o (λz=>K (by simp[z])) e,rfl,rfl,rfl,nr0 _)
  rw[D,show es[xs.length]?=none from Array.getElem?_eq_none @6];erw[q]
 .obtain⟨sl,a,_⟩:=st
  erw[kg a O]
def sI{ps:List Nat}(Z:ps.Perm (List.range xs.length))(N:S≠I)(O:T≠I)(C:A.handled=none):
  WalksS prog w A I [I,S,T] [I] eqG xs.length (Da kd (ps.map λk=>xs.getD k default)) (λi s=>SetIt s.heap I S (.ref T) i xs.length ep/\StrSet kd s.heap S xs ep/\∃o,s.heap.get? T=some o/\o.data=.seq (ps.map λ(k:Nat)=>rawInt (k:Int)).toArray):=by
 have j:ps.length=xs.length:=by rw[Z.length_eq,lr0]
 refine(λb J=>by simp at J;simp[J],λf=>rfl,λf f f D B=>B.trans D,λi s V q st f R=>?_,λi s Q E P st K=>?_,λs Q E st K=>?_,λi s Q E st K=>kg st.1 K)
 .obtain⟨a,b,o,c,d⟩:=st
  exact(a.keep λo e=>R I @0 o e,b.keep λo e=>R S @0 o e,o,R T @0 o c,d)
 .obtain⟨a,b,o,c,d⟩:=st
  have L:i<ps.length:=by simp_all
  have e:=ge0 L;have W:=List.mem_range.mp (Z.mem_iff.mp (List.getElem_mem L));refine wR a b rfl c d e (ge0 W) λV M U=>?_
  erw[K _ _ (xs[ps[i]],by simp[e,List.getD,ge0 W],rfl) (M,b.keep λo e=>(U.2 _ N).trans e,o,(U.2 _ O).trans c,d) (λb o J e=>(U.2 b (λz=>J (by simp[z]))).trans e,rfl,rfl,rfl,nr0 _)]
 .obtain⟨a,b,o,c,d⟩:=st
  erw[zH C a b rfl c d (List.getElem?_eq_none @6) λV F=>K _ (λb o J e=>F b o (λz=>J (by simp[z])) e,rfl,rfl,rfl,nr0 _)]
end
section
variable {prog:Program}{w:World}{E:A0}{S:Addr}{Y:Type}[DecidableEq Y][Inhabited Y]{kd:KD prog w Y}{xs:List (Y×Tok)}
structure mi{prog:Program}{w:World}{Y:Type}[DecidableEq Y](kd:KD prog w Y)(A:Around)(S:Addr)(xs:List (Y×Tok))(s s':Shared)(I:Addr):Prop where
 ex:∃(fp:A4)(order:List (Y×Tok))(St:Nat->Shared->Prop),order.Perm xs/\WalksS prog w A I fp [I] eqG xs.length (Da kd order) St/\St 0 s'/\(∀b∈fp,b=S\/s.heap.get? b=none)/\s.heap.get? I=none
def zJ{Q}(u:A.handled=none)(O:StrSet kd s.heap S xs ep)(hz:xs.length<4000)
  (h:∀h' d I,(∀b o,s.heap.get? b=some o->h'.get? b=some o)->mi kd A S xs s {s with heap:=h',drawn:=d} I->Q (.ref I) {s with heap:=h',drawn:=d}):
  wpAny @3 A (pyIter (.ref S)) Q E s:=by
 obtain⟨o,M,t,K,j1,N,Z,h4,h5,h6⟩:=id O;have ltS:=hs0 K;have U:M.size=xs.length:=by rw[<-al0,h4,lm0]
 refine wpAny_pyIter_slot O.isA F.slot_set_iter (wpAny_call_entry F.slot_set_iter O.isA oW ?_ (F.args_set_iter_1 _));unfold Builtin.«frozenset.__iter__» Builtin.Frozenset.slot0;refine wb0 (wb0 (m:=slotArgs "__iter__" 0 _) (wq0 (wq0 ?_)));unfold Builtin.Frozenset.sizeOf setEntries;refine wb0 (wb0 (wb0 (wpAny_setState_of K N Z (wq0 (wq0 ?_)))));unfold setDrawn;refine wb0 (wb0 (wpAny_setState_of K N Z (wb0 (asks (wq0 ?_)))));show wpAny @3 A.in1 (do
  let first ←if (!byTx w&&(!t.plain&&decide (M.size>1)))=true then do newTuple ((<-drawOrder M.size (List.range M.size)).map λ(i:Nat)=>rawInt i)else pure (rawInt 0)
  ret (<-newFields "set_iterator" [first,rawInt 0,.ref S,rawInt M.size,rawInt (<-setEpoch S)])) _ _ s
 have fin:∀(j:Value)(R:Shared),R.heap.get? S=some o->(∀P:Value->Shared->Prop,P (.ref R.heap.objs.size) {R with heap:=R.heap.push {cls:=.type "set_iterator",data:=.fields #[j,.int 0 0,.ref S,.int xs.length 0,.int ep 0]}}->
   wpAny @3 A.in1 (do ret (<-newFields "set_iterator" [j,rawInt 0,.ref S,rawInt M.size,rawInt (<-setEpoch S)])) (λf s'=>∃v,f=.done (.ret v)/\P v s') E R):=λj R g P q=>by
  refine wb0 (wpAny_setEpoch_of g N Z ?_);unfold newFields;refine wb0 (wpAny_newObj_type (wq0 (_,rfl,?_)));rw[U];erw[q]
 cases hb:byTx w with
 |true=>
  rw[if_neg @0];refine wb0 (wq0 (fin _ s K _ ?_));have J:S≠s.heap.objs.size:=nn0 ltS;obtain⟨L,po,W⟩:=wU (kd:=kd) (prog:=prog) (A:=A) (I:=s.heap.objs.size) (S:=S) (xs:=xs) (ep:=ep) hb J u;refine(_,_,(_,pz0 _ rfl,rfl),slot_sit_next.lookup,?_);refine h _ s.drawn _ (λb o e=>ps0 _ e) (_,L,_,po,W,((_,pz0 _ rfl,rfl,rfl),O.keep λo e=>ps0 _ e),λb hb=>?_,gL _);rcases mq0 hb with e|hb
  .rw[e];exact .inr (gL _)
  .exact .inl (by simpa using hb)
 |false=>
  by_cases l:xs.length<=1
  .rw[if_neg (by rw[df0 @6];simp)]
   refine wb0 (wq0 (fin _ s K _ ?_));have J:S≠s.heap.objs.size:=nn0 ltS;have W:=zI (kd:=kd) (A:=A) (I:=s.heap.objs.size) (S:=S) (xs:=xs) (ep:=ep) hb J u;refine(_,_,(_,pz0 _ rfl,rfl),slot_sit_next.lookup,?_);refine h _ s.drawn _ (λb o e=>ps0 _ e) (_,xs,_,.refl _,W,(0,(_,pz0 _ rfl,rfl,rfl),O.keep λo e=>ps0 _ e,λo' j0 t' B C=>?_),λb hb=>?_,gL _)
   .have B:=B
    rw[ps0 _ K]at B;cases B;rw[N]at C;injection C with _ _ C
    subst C;simp only[SetTable.fits,be0,beq_iff_eq]at Z;exact(l,sG @6)
   rcases mq0 hb with e|hb
   .rw[e];exact .inr (gL _)
   .exact .inl (by simpa using hb)
  .have np:=bf0 λz=>l (by rw[h6 z];erw[Nat.zero_le _])
   rw[if_pos (by rw[np,dt0 @6];rfl)];refine wb0 (mh _ _ _ _ List.length_range.symm λps d D=>wb0 ?_);rw[U]at D;have hl:ps.length=xs.length:=by rw[D.length_eq,lr0]
   refine wpAny_newTuple ?_ (by rw[lm0,hl,sizeLine_eq];grind);refine fin _ {s with heap:=s.heap.push _,drawn:=d} (ps0 _ K) _ ?_;have J:S≠(s.heap.push {cls:=.type "tuple",data:=.seq (ps.map λ(k:Nat)=>rawInt (k:Int)).toArray}).objs.size:=by rw[Heap.size_push];erw[nn0 (Nat.lt_succ_of_lt ltS)]
   have V:s.heap.objs.size≠(s.heap.push {cls:=.type "tuple",data:=.seq (ps.map λ(k:Nat)=>rawInt (k:Int)).toArray}).objs.size:=by rw[Heap.size_push];simp_all
   have W:=sI (kd:=kd) (prog:=prog) (w:=w) (A:=A) (I:=(s.heap.push {cls:=.type "tuple",data:=.seq (ps.map λ(k:Nat)=>rawInt (k:Int)).toArray}).objs.size) (S:=S) (T:=s.heap.objs.size) (xs:=xs) (ep:=ep) D J V u;have kk:∀b o,s.heap.get? b=some o->((s.heap.push {cls:=.type "tuple",data:=.seq (ps.map λ(k:Nat)=>rawInt (k:Int)).toArray}).push {cls:=.type "set_iterator",data:=.fields #[.ref s.heap.objs.size,.int 0 0,.ref S,.int xs.length 0,.int ep 0]}).get? b=some o:=λb o e=>ps0 _ (ps0 _ e)
   have p:∀b,s.heap.objs.size<=b->s.heap.get? b=none:=λb hb=>by
    cases q:s.heap.get? b with
    |none=>rfl
    |some o=>exact absurd (hs0 q) (Nat.not_lt.mpr hb)
   refine(_,_,(_,pz0 _ rfl,rfl),slot_sit_next.lookup,?_);refine h _ d _ kk (_,_,_,(D.map _).trans (.of_eq ((by
     apply List.ext_getElem
     .simp
     .intro i K N
      simp[N]))),W,((_,pz0 _ rfl,rfl,rfl),O.keep λo e=>kk _ _ e,_,ps0 _ (pz0 _ rfl),rfl),λb hb=>?_,p _ (by rw[Heap.size_push];simp))
   rcases mq0 hb with e|hb
   .rw[e];exact .inr (p _ (by rw[Heap.size_push];simp_all))
   .rcases mq0 hb with e|hb
    .exact .inl e
    .have:b=s.heap.objs.size:=by simpa using hb
     rw[this];exact .inr (gL _)
def zK{Q}(K:s.TypeIs (.ref S) "set")(h:Q false s):wpAny @3 A (Builtin.List.listLengthHint (.ref S)) Q E s:=by
 unfold Builtin.List.listLengthHint;refine wb0 (wpAny_specialOf K F.slot_set_len.lookup ?_);generalize J:("set.__len__":String)=L
 wp_delta
 rw[show splitId L=some ("set","__len__")from by subst J;decide +kernel];subst J;refine wb0 (wpAny_isInstance (T:="set") (b:=true) K (by rw[isSubtype_type];kernel_rfl) ?_);refine wpAny_ite_split (λz=>absurd z @2) λa=>wpAny_ite_split (λa=>wb0 (wpAny_typeOf K (wq0 h))) λz=>absurd @14 z
def sJ{R}{L}(C:A.handled=none)(t:StrSet kd s.heap S xs ep)(hz:xs.length<4000)(N)(u:s.heap.get? L=some {cls:=.type "list",data:=.seq #[]})(B:L≠S)
  (h:∀h' tk d (J:List (Y×Tok)) (acc:A9) c,J.Perm xs->(∀b o,b≠L->s.heap.get? b=some o->h'.get? b=some o)->h'.get? L=some {cls:=.type "list",dict:=none,data:=.seq acc c,slots:=#[]}->acc.toList=J.map (λp=>kd.vl p.1 p.2)->R (.ok (.ret N)) {s with heap:=h',toks:=tk,drawn:=d}):
  wpAny @3 A.in1 (Builtin.List.listExtendWith (.ref L) (.ref S) N)
   (λfin K=>match fin with|.done f=>R (.ok f) K|.again P=>P.quiet=true/\codeAny @3 A P R K) (λe K=>R (.error e) K) s:=by
 unfold Builtin.List.listExtendWith;refine wb0 (wpAny_typeOf (T:="set") t.isA ?_);have q1:Builtin.List.listSameRef (.ref L) (.ref S)=false:=by simp[Builtin.List.listSameRef,B]
 have q2:(Value.type "set"==Value.type "list")=false:=by decide
 have q3:(Value.type "set"==Value.type "tuple")=false:=by decide
 simp only[q1,q2,q3,Bool.or_false,Bool.false_eq_true,if_false];refine wb0 (zJ (A:=A.in1) C t hz λh' d I kk W=>?_);obtain⟨fp,J,St,po,W,st,j0,j⟩:=W.ex;have j2:I≠L:=λe=>by rw[e,u]at j;cases j
 have nf:L∉fp:=λV=>(j0 L V).elim B λz=>by rw[u]at z;cases z
 refine wb0 (wh0 (zK (s:={s with heap:=h',drawn:=d}) (t.keep λo e=>kk _ _ e).isA ?_));have Q:∀(Z:Heap)(tk c:Nat),St 0 {s with heap:=Z,drawn:=d,toks:=tk}->(∀b o,b≠L->s.heap.get? b=some o->Z.get? b=some o)->Z.get? L=some {cls:=.type "list",data:=.seq #[] c}->codeAny (model prog w) A (.builtin "list.extend.loop" ([.ref L,.ref I,N],[])) R {s with heap:=Z,drawn:=d,toks:=tk}:=λZ tk c j1 k2 l2=>by
  refine codeAny_extend_loopS W (by rw[sizeLine_eq];grind) L nf N xs.length 0 _ #[] c rfl (Nat.zero_le _) j1 l2 (ItemsOf.nil _) λK acc P hm l O=>?_
  have es:K={s with heap:=K.heap,toks:=K.toks,drawn:=d}:=by
   obtain⟨_,a1,a2,a3,_⟩:=hm;obtain⟨hp,g,dd,tk,os⟩:=K;simp only at a1 a2 a3;subst a1 a2 a3;rfl
  rw[es];refine h K.heap K.toks d J acc P po (λb o V e=>hm.heap b o (λz=>?_) (k2 b o V e)) l ?_
  .rcases mq0 z with z|z
   .erw[V z]
   .have:b=I:=by simpa using z
    rw[this,j]at e;cases e
  .apply List.ext_getElem?
   intro i;rw[Array.getElem?_toList,gm0];cases q:acc[i]? with
   |none=>
    have hi:acc.size<=i:=by simpa using q
    rw[List.getElem?_eq_none (by rw[po.length_eq];rw[O.1]at hi;erw[hi])];rfl
   |some v=>
    obtain⟨p,e1,rfl⟩:=O.2 i v q;rw[e1];rfl
 have M:∀(f:Array Value->Array Value)(C:Heap)(b:Addr)(o:Obj),b≠L->C.get? b=some o->(C.update L (Obj.mapSeq f)).get? b=some o:=λf C b o nb e=>(Heap.get?_update_other _ _ (Ne.symm nb)).trans e
 have U:=kk _ _ u;refine wpAny_ite_split (λa=>?_) (λa=>wq0 (plainId_quiet F.plain_extend_loop _,Q h' s.toks 0 st (λb o a e=>kk b o e) U));refine wb0 (wpAny_rule (wb0 ?_));show wpAny @3 _ (updateSeq L (·.push .none) >>= λa=>updateSeq L (·.pop)) _ _ _;refine wb0 (wpAny_updateSeq U rfl ?_);have D:=hu0 (Obj.mapSeq (·.push Value.none)) U rfl;refine wpAny_updateSeq (hz:=by seq_fits) D rfl ?_;have k:=hu0 (Obj.mapSeq (·.pop)) D rfl;refine wq0 (plainId_quiet F.plain_extend_loop _,Q _ s.toks _ (W.frame 0 _ _ _ st (nr0 _) λb V o e=>?_) (λb o nb e=>M _ _ _ _ nb (M _ _ _ _ nb (kk b o e))) k)
 erw[M _ _ _ _ (λz=>nf (z▸V)) (M _ _ _ _ (λz=>nf (z▸V)) e)]
def qu{R}(W:A.handled=none)(U:StrSet kd s.heap S xs ep)(hz:xs.length<4000)
  (h:∀h' tk d (J:List (Y×Tok)),J.Perm xs->s.heap.objs.size<=h'.objs.size->(∀b o,s.heap.get? b=some o->h'.get? b=some o)->R (J.map λp=>kd.vl p.1 p.2) {s with heap:=h',toks:=tk,drawn:=d}):
  wpAny @3 A (collect (.ref S)) R E s:=by
 have ltS:=let ⟨_,_,_,e,_⟩:=U;hs0 e
 unfold collect;refine wb0 (wpAny_runValue (codeAny_builtin entry_proto_collect' ?_));rw[ui0 PySem.F.plain_proto_collect];show wpAny _ A.in1 (newList [] >>= λl=>again (.builtin "list.__iadd__" ([l,.ref S],[]))) _ _ s;refine wb0 (wpAny_newObj_type (wq0 (plainId_quiet PySem.F.plain_list_iadd _,codeAny_builtin entry_list_iadd' ?_)));rw[ui0 PySem.F.plain_list_iadd];have V:(s.heap.push {cls:=.type "list",data:=.seq ([]:A2).toArray}).get? s.heap.objs.size=some {cls:=.type "list",data:=.seq #[]}:=pz0 _ rfl;show wpAny _ A.in1 (Builtin.List.listExtendWith @11 (.ref S) @11) _ _ _
 refine wpAny_mono (sJ (kd:=kd) (A:=A) (s:={s with heap:=s.heap.push {cls:=.type "list",data:=.seq ([]:A2).toArray}})
  (R:=λq O=>∃h' tk d,∃J:List (Y×Tok),∃(K:A9)(c:Nat),q=.ok (.ret @11)/\O={s with heap:=h',toks:=tk,drawn:=d}/\J.Perm xs/\(∀b o,s.heap.get? b=some o->h'.get? b=some o)/\h'.get? s.heap.objs.size=some {cls:=.type "list",dict:=none,data:=.seq K c,slots:=#[]}/\K.toList=J.map (λp=>kd.vl p.1 p.2))
  W (U.keep λo e=>ps0 _ e) hz @11 V (Nat.ne_of_gt ltS) λh' tk d J K c M a2 L N=>(h',tk,d,J,K,c,rfl,rfl,M,λb o e=>a2 b o (nn0 (hs0 e)) (ps0 _ e),L,N)) (λfin O x=>?_) λe O x=>?_
 .cases fin with
  |done f=>
   obtain⟨h',tk,d,J,K,c,e,rfl,M,a2,L,N⟩:=x;cases e;show wpAny @3 A (load s.heap.objs.size >>= _) _ _ _;refine wb0 (wpAny_load L (wq0 ?_));rw[N];erw[h h' tk d J M (Nat.le_of_lt (hs0 L)) a2]
  |again Z=>
   refine(x.1,codeAny_mono x.2 λq T y=>?_);obtain⟨h',tk,d,J,K,c,rfl,rfl,M,a2,L,N⟩:=y;show wpAny @3 A (load s.heap.objs.size >>= _) _ _ _;refine wb0 (wpAny_load L (wq0 ?_));rw[N];erw[h h' tk d J M (Nat.le_of_lt (hs0 L)) a2]
 .obtain⟨_,_,_,_,_,_,z,_⟩:=x
  cases z
noncomputable def kdS(prog:Program)(w:World):KD prog w Str:=(strKind prog w,.str,λk t=>by simp[strKind,Value.isStrOf],λa a=>rfl,λa a=>rfl)
def kA(J:List (Str×Tok)):StrsAre (J.map λp=>Value.str p.1 p.2) (J.map (·.1)):=by
 induction J with
 |nil=>exact .nil
 |cons p r ih=>exact .cons _ _ ih
def sL{Q}{P:List Value->Array Value->Prop}(B:A.handled=none)(F:StrSet kd s.heap S xs ep)(hz:xs.length<64)
  (N:∀(W:Around)(Z:A0)(K:Shared)(a:Addr)(J:List (Y×Tok))(O:Fin->Shared->Prop),J.length<64->K.heap.get? a=some (seqObj "list" (J.map λp=>kd.vl p.1 p.2).toArray 0)->(∀out,P (J.map λp=>kd.vl p.1 p.2) out->O (.done (.ret .none)) {K with heap:=sortedHeap K.heap a (J.map λp=>kd.vl p.1 p.2) out})->wpAny @3 W (Builtin.«list.sort» ([.ref a],[])) O Z K)
  (h:∀h' tk d D (out:A9) n (J:List (Y×Tok)),(∀b o,s.heap.get? b=some o->h'.get? b=some o)->h'.get? D=some (seqObj "list" out n)->s.heap.objs.size<=D->J.Perm xs->P (J.map λp=>kd.vl p.1 p.2) out->Q (.ref D) {s with heap:=h',toks:=tk,drawn:=d}):
  wpAny @3 A (call (.builtin "sorted") [.ref S]) Q E s:=by
 refine Calls.call_function_entry kind_sorted plain_sorted entry_sorted (args_sorted1 _) ?_;refine wb0 (wq0 (wb0 (qu (A:=A.in1) B F @1 λM tk d J V j R=>?_)));have C:=V.length_eq;refine wb0 (wpAny_newList ?_ (by rw[lm0,C,sizeLine_eq];lia));have L:(M.push _).get? M.objs.size=some (seqObj "list" (J.map λp=>kd.vl p.1 p.2).toArray 0):=pz0 _ rfl;have I:=λb o e=>hs0 (R b o e)
 refine wb0 (wh0 (wpAny_call_entry slot_list_sort (_,L,rfl) entry_list_sort (N _ _ _ _ J _ @1 L λout T=>(_,rfl,?_)) (args_list_sort _)));refine wq0 (_,rfl,?_);obtain⟨n,fin⟩:=sortedHeap_at (out:=out) L;refine h _ tk d M.objs.size _ n J (λb o e=>?_) fin j V T;have U:=I b o e;exact (sortedHeap_old (nn0 U) (by rw[size_push'];erw[Nat.lt_succ_of_lt U])).trans (ps0 _ (R b o e))
def jb{xs}{Q}(W:A.handled=none)(V:StrSet (kdS prog w) s.heap S xs ep)(hz:xs.length<64)
  (h:∀h' tk d D (out:A9) n (J:A1),(∀b o,s.heap.get? b=some o->h'.get? b=some o)->h'.get? D=some (seqObj "list" out n)->s.heap.objs.size<=D->StrsAre out.toList J->J.Perm (xs.map (·.1))->sortedS J=true->Q (.ref D) {s with heap:=h',toks:=tk,drawn:=d}):
  wpAny @3 A (call (.builtin "sorted") [.ref S]) Q E s:=by
 refine sL (P:=λC out=>∀J,StrsAre C J->∃L,StrsAre out.toList L/\L.Perm J/\sortedS L=true) W V hz (λI j q a K z l N k=>?_) λh' tk d D out n K kk N B T M=>?_
 .erw[list_sort_treeK strKind_oneLt N (kA _).keysOf (λu g rest e=>keyKind_strs (by rw[<-e];exact kA _)) @6 λF M a2=>k _ λJ Z=>sorted_out_str Z M a2]
 .obtain⟨J,O,R,U⟩:=M _ (kA _)
  erw[h h' tk d D _ n J kk N B O (R.trans (T.map _)) U]
end
end PySem
namespace SI
open PySem
def aU(x:Str):ltS x x=false:=df0 (List.lt_irrefl _)
def eY{x y z}(J:ltS x y=true)(K:ltS y z=true):ltS x z=true:=dt0 (List.lt_trans (od0 J) (od0 K))
def iF{x y}(h:x≠y)(J:ltS x y=false):ltS y x=true:=by
 exact dt0 (Classical.byContradiction λK=>h ((by
   have h:=(List.le_antisymm (List.not_lt.mp K) (List.not_lt.mp (of_decide_eq_false J)));cases x;simp_all)))
abbrev bY(l:A1):Prop:=l.Pairwise λa b=>ltS a b=true
set_option tactic.hygienic true
theorem mem_insS(x:Str):∀(l:A1)(y:Str),y∈kI x l↔y=x\/y∈l
 |[],y=>by simp[kI]
 |z::r,y=>by
  unfold kI;split
  .rename_i e;subst e;simp
  .split
   .simp
   .rw[List.mem_cons,mem_insS x r y,List.mem_cons]
    exact(λh=>h.elim (λa=>.inr (.inl a)) λh=>h.elim .inl λa=>.inr (.inr a),λh=>h.elim (λa=>.inr (.inl a)) λh=>h.elim .inl λa=>.inr (.inr a))
theorem mj(x:Str):∀l:List Str,bY l->bY (kI x l)
 |[],_=>by simp[kI]
 |z::r,h=>by
  obtain⟨K,L⟩:=List.pairwise_cons.mp h;unfold kI;split
  .erw[h]
  .rename_i ne
   split
   .rename_i M
    refine List.pairwise_cons.mpr (λb hb=>?_,h);rcases mq0 hb with e|hb
    .rwa [e]
    .erw[eY M (K b hb)]
   .rename_i J
    refine List.pairwise_cons.mpr (λb hb=>?_,mj x r L);rcases (mem_insS x r b).mp hb with e|hb
    .rw[e];erw[iF ne (bf0 J)]
    .erw[K b hb]
set_option tactic.hygienic false
theorem mem_srtS:∀(l:A1)(y:Str),y∈oV l↔y∈l
 |[],y=>by simp[oV]
 |x::r,y=>by rw[oV,mem_insS,mem_srtS r,List.mem_cons]
theorem bj:∀l:List Str,bY (oV l)
 |[]=>List.Pairwise.nil
 |x::r=>mj x _ (bj r)
def dM:∀{l m:A1},bY l->bY m->(∀y,y∈l↔y∈m)->l=m:=by
 intro l m a b h;have nd:∀{l:A1},bY l->l.Nodup:=λh=>h.imp λ{a b} z e=>by rw[e,aU]at z;cases z
 erw[List.Perm.eq_of_pairwise (λx y c c p q=>absurd (eY p q) (by rw[aU];exact fx0)) a b ((List.perm_ext_iff_of_nodup (nd a) (nd b)).2 h)]
def kh(l:A1):(oV l).length<=l.length:=by
 induction l with
 |nil=>exact nr0 _
 |cons x r ih=>
  have:∀q,(kI x q).length<=q.length+1:=by
   intro q
   induction q with
   |nil=>exact nr0 _
   |cons y q J=>
    unfold kI;split
    .simp
    .split<;>simp_all
  have:=this (oV r);rw[oV,lc0]
  lia
end SI
namespace L2.Z
open PySem PySem.Spec PyProof.Rows L2 L2.C SI
def uz{ss}(h:sortedS ss=true)(n:ss.Nodup):bY ss:=by
 have K:∀(l:List _)(p:Str),risingS p l=true->(p::l).Nodup->bY (p::l):=by
  intro l
  induction l with
  |nil=>intro p _ _;simp
  |cons x r ih=>
   intro p h n;have h:(!ltCps _ _&&risingS x r)=true:=h;rw[be0,Bool.not_eq_true',ltCps_eq]at h;obtain⟨M,N⟩:=List.nodup_cons.mp n;have J:=ih x h.2 N;have L:=iF (λe=>M (by rw[e];erw[ms0])) h.1;refine List.pairwise_cons.mpr (λb hb=>?_,J);rcases mq0 hb with e|hb
   .rwa [e]
   .erw[eY L ((List.pairwise_cons.mp J).1 b hb)]
 cases ss with
 |nil=>simp
 |cons p l=>exact K l p h n
section
variable {e:Expr}{p p2 q:Pos}{d:D}
def jc{prog:Program}{w:World}{Y:Type}[DecidableEq Y](kd:KD prog w Y)(l:Addr)(K:List Y):Heap->Prop:=λh=>∃J ep,J.map (·.1)=K/\StrSet kd h l J ep
def gS{prog}{w}{Y}[DecidableEq Y][Inhabited Y]{kd:KD prog w Y}{H}{h}{l}{ys}{ep}(J:StrSet kd h l ys ep):ObjOk prog w H h l (.ext (jc kd l (ys.map (·.1)))):=by
 refine((ys,ep,rfl,J),?_,λL M z K=>?_)
 .obtain⟨o,_,_,e,_⟩:=J
  exact(o,e)
 .obtain⟨a,b,c,d⟩:=z
  exact(a,b,c,d.keep K)
def qv{Y:Type}{f}{g:Y->Tok->Value}(L:∀y u,RelV (f y) u->∃tk,u=g y tk):∀{J:List Y}{us},Vals (J.map f) us->us.length=J.length/\∀(j:Nat)(x:Y),J[j]?=some x->∃tk,us[j]?=some (g x tk):=by
 intro J
 induction J with
 |nil=>intro us h;cases h;exact(rfl,λj x h=>by simp at h)
 |cons y r ih=>
  intro us h;cases h with
  |cons M K=>
   obtain⟨a,b⟩:=ih K;refine(by simp[a],λj x h=>?_);cases j<;>simp_all
def hZ{J:List Int}{us}(h:Vals (J.map V.int) us):us.length=J.length/\∀(j:Nat)(x:Int),J[j]?=some x->∃tk,us[j]?=some (.int x tk):=qv (f:=V.int) (λa a h=>h) h
def mq{Zp}{J:St}{H}{s}(I:Inv X Zp J H s)(d):Inv X Zp J H {s with drawn:=d}:=
 (I.ok,I.os,I.bare,I.base,I.loc,I.cell,I.free,I.freeC,I.pin,I.hok,I.len)
def gO(hc:X.calm=true):bb X (.builtin "sorted") (λxs H Q=>∃(l:Addr)(L:A1),xs=[.ref l]/\H l=some (.ext (jc (kdS X.prog X.w) l L))/\L.length<64/\∀r (J:A1),H r=none->J.Perm L->sortedS J=true->Q (.ref r) (upd H r (.lst (J.map V.str)))):=by
 intro U s j H xs E Q I r h;obtain⟨l,L,rfl,T,M,k⟩:=h;obtain⟨u,rfl,F⟩:=vals1 r;cases F;obtain⟨⟨xs,ep,rfl,Z⟩,_⟩:=(I.hok l _ T:ObjOk X.prog X.w H s.heap l (.ext _));refine jb (I.ok.hd hc) Z (by rw[lm0]at M;erw[M]) λP S d D N n J kk W O B R C=>?_
 have K:(J.map V.str).length<=sizeLine:=by
  rw[lm0,R.length_eq,lm0,sizeLine_eq];rw[lm0]at M;lia
 refine(.ref D,_,((mq I d).laid (s:={s with drawn:=d}) (t':=S) kk O (show ObjOk X.prog X.w _ _ _ (.lst _)from(K,N.toList,n,gm B,by simpa using W))),rfl,k D J (I.hok.fresh O) R C)
def dP:bootBuiltins ("sorted":Str)=some (.builtin "sorted"):=rfl
def iG:bootBuiltins ("set":Str)=some (.type "set"):=rfl
end
section
variable {o e:Expr}{p p1:Pos}{d dk:D}{key:Key}{kvs:List (Key×D)}
def JV{m}(K:attributeBase o m X.env (eval o X.env)=eval o X.env)(hs:isStar a=false)(L:(apos.endLine==pos.line)=true):M1 X o m apos a pos:=by
 have J:=starEach_cons (es:=[]) (env:=X.env) hs;exact(K,by rw[J];rfl,L,by rw[J];rfl)
end
section
variable {o:Expr}{ipos p p1:Pos}{d:D}{kvs es:List (Key×D)}{ls:List D}
def sM(J:X.calm=true):bb X (.type "dict") (λvs H Q=>∃a N ps,vs=[.ref a]/\H a=some (.lst N)/\PrV H N ps/\∀p M,H p=.none->Q (.ref p) (upd H p (.frz M (.dK (eh [] ps))))):=by
 intro L s C H vs B Q I r h;obtain⟨a,N,ps,rfl,W,K,q⟩:=h;refine thn (sg J L s C H _ B (λv R=>∃p,v=.ref p/\H p=.none/\R=upd H p (.dK (eh [] ps))) I r (a,N,ps,rfl,W,K,λp K=>(p,rfl,K,rfl))) λu O h=>?_
 obtain⟨v,R,U,D,p,rfl,K,rfl⟩:=h;obtain⟨Z,T,vs,F,V⟩:=(U.hok p _ aa:ObjOk X.prog X.w _ O.heap p (.dK _));obtain⟨M,es,ep,g,rest⟩:=id V;have:=U.write (x:=p) (e:=p) (o:=.frz M (.dK (eh [] ps))) (h':=O.heap) (t':=O.toks) (by rw[aa];trivial) (.inl rfl) (λb b b e=>e) (_,g) (g,Z,T,vs,F,V);rw[tW]at this;exact(.ref p,_,this,D,q p M K)
end
end L2.Z
namespace L2.Z
open PySem PySem.W PyProof.Rows
def Wt{α:Type}(J:A8)(n:Nat):KasT α->(α->Prop)->Prop
 |.ret a,Q=>Q a
 |.ask i j k,Q=>i<n/\j<n/\Wt J n (k (J i j)) Q
theorem Wt.mono{α}{lt}{n}{P Q}(J:∀a,P a->Q a):∀{t:KasT α},Wt lt n t P->Wt lt n t Q
 |.ret _,h=>J _ h
 |.ask _ _ _,⟨K,L,h⟩=>(K,L,Wt.mono J h)
structure LtO(lt:A8):Prop where
 as:∀a b,lt a b=true->lt b a=false
 tr:∀a b c,lt b a=false->lt c b=false->lt c a=false
abbrev gk(p:Array Nat)(i:Nat):Nat:=p.getD i 0
def Up(J:A8)(p:Array Nat)(m:Nat):Prop:=∀i j,i<=j->j<m->J (gk p j) (gk p i)=false
def LtO.irr{lt}(J:LtO lt)(a:Nat):lt a a=false:=by
 cases h:lt a a with
 |false=>rfl
 |true=>have:=J.as a a h;grind
def zM(J:A8)(n:Nat):KasT (Array Nat)->Bool
 |.ret p=>p.size==n&&p.toList.isPerm (List.range n)&&(List.range n).all λj=>(List.range (j+1)).all λi=>!J (gk p j) (gk p i)
 |.ask i j k=>decide (i<n)&&decide (j<n)&&zM J n (k (J i j))
theorem zN{K lt':A8}(h:∀i j,i<n->j<n->K i j=lt' i j):∀t:KasT (Array Nat),zM lt' n t=true->Wt K n t λp=>p.size=n/\p.toList.Perm (List.range n)/\Up K p n
 |.ret p,q=>by
  simp only[zM,be0,beq_iff_eq,List.isPerm_iff,List.all_eq_true,List.mem_range,Bool.not_eq_true']at q;obtain⟨⟨a,b⟩,c⟩:=q;have m:∀k,k<n->gk p k<n:=λk M=>List.mem_range.mp (b.mem_iff.mp (by simp[gk,a,M]))
  exact(a,b,λi j L J=>by rw[h _ _ (m j J) (m i (Nat.lt_of_le_of_lt L J))];erw[c j J i (Nat.lt_succ_of_le L)])
 |.ask i j k,q=>by
  simp only[zM,be0,decide_eq_true_eq]at q;exact(q.1.1,q.1.2,by rw[h _ _ q.1.1 q.1.2];erw[zN h _ q.2])
theorem zO{p q}{i}(J:p i=false)(K:q i=true)(h:∀x,p x=true->q x=true):∀l:List Nat,l.countP p<=l.countP q/\(i∈l->l.countP p<l.countP q)
 |[]=>(nr0 _,λz=>by cases z)
 |x::r=>by
  obtain⟨a,b⟩:=zO J K h r;refine(?_,λm=>?_)
  .cases c:p x<;>cases d:q x<;>simp_all<;>lia
  .rcases mq0 m with rfl|m
   .simp[J,K];lia
   .have:=b m
    cases c:p x<;>cases d:q x<;>simp_all<;>lia
noncomputable def ltA(l:List Nat)(i j:Nat):Bool:=decide (l.getD i 0<l.getD j 0)
def KH(n:Nat):Nat->List Nat->Bool
 |0,l=>zM (ltA l) n (kas_sort n)
 |k+1,l=>(List.range 6).all λa=>l.contains a||KH n k (l++[a])
def Ic:(List.range 7).all (λn=>KH n n [])=true:=by decide +kernel
theorem Ah{n}:∀(k:Nat)(m l:List Nat),m.length=k->KH n k l=true->(∀x∈m,x<6)->(l++m).Nodup->zM (ltA (l++m)) n (kas_sort n)=true
 |0,[],l,_,h,_,_=>by rwa [List.append_nil]
 |k+1,a::m,l,e,h,b,d=>by
  rcases Bool.or_eq_true_iff.mp (List.all_eq_true.mp h a (List.mem_range.mpr (b a ms0)))with z|z
  .erw[absurd rfl ((List.nodup_append.mp d).2.2 a (List.contains_iff_mem.mp z) a ms0)]
  .have:=Ah k m _ (by simpa using e) z (λx J=>b x (mc0 _ J)) @6
   simpa using this
def Dc{lt}{n}(O:LtO lt)(T:∀i j,i<n->j<n->lt i j=false->lt j i=false->i=j)(V:n<7):Wt lt n (kas_sort n) λp=>p.size=n/\p.toList.Perm (List.range n)/\Up lt p n:=by
 let r:Nat->Nat:=λi=>(List.range n).countP λk=>lt k i
 have L:∀i j,i<n->j<n->lt i j=decide (r i<r j):=λi j J K=>by
  cases h:lt i j with
  |true=>
   refine (dt0 ((zO (i:=i) (p:=λk=>lt k i) (q:=λk=>lt k j) (O.irr i) h (λx N=>?_) _).2 (List.mem_range.mpr J))).symm;cases c:lt x j with
   |true=>rfl
   |false=>rw[O.tr j x i c (O.as x i N)]at h;cases h
  |false=>
   refine (df0 (Nat.not_lt.mpr (List.countP_mono_left λx a N=>?_))).symm;cases c:lt x i with
   |true=>rfl
   |false=>rw[O.tr j i x h c]at N;cases N
 have Z:∀i,i<n->r i<n:=λi J=>by
  have:=(zO (i:=i) (p:=λk=>lt k i) (q:=λa=>true) (O.irr i) rfl (λa a=>rfl) (List.range n)).2 (List.mem_range.mpr J)
  simpa using this
 refine zN (lt':=ltA ((List.range n).map r)) (λi j J K=>?_) _ (Ah n ((List.range n).map r) [] @0 (List.all_eq_true.mp Ic n (List.mem_range.mpr V)) (λx N=>?_) (List.pairwise_map.mpr ?_))
 .have M:∀k,k<n->((List.range n).map r).getD k 0=r k:=λk W=>by
   simp_all
  rw[ltA,M i J,M j K];erw[L i j J K]
 .grind
 .refine (List.pairwise_lt_range (n:=n)).imp_of_mem λ{i j} J K h e=>?_
  have J:=List.mem_range.mp J;have K:=List.mem_range.mp K;have R:=L i j J K;have U:=L j i K J;rw[e,df0 (li0 _)]at R;rw[e,df0 (li0 _)]at U;have:=T i j J K R U
  lia
end L2.Z
namespace L2.Z
open PySem PySem.W PySem.Calls PyProof.Rows
theorem Wt.kas{α}{lt}{n}{cmp}{s}(hc:∀i j,i<n->j<n->∀C:Bool->Shared->Prop,C (lt i j) s->cmp i j C s){Q}:∀{t:KasT α},Wt lt n t (λa=>Q a s)->t.kasWp cmp Q s
 |.ret _,h=>h
 |.ask i j _,⟨J,K,h⟩=>hc i j J K _ (Wt.kas hc h)
section
variable {prog:Program}{w:World}{E:A0}
abbrev byP(vs:A2)(p:List Nat):List Value:=p.map λi=>vs.getD i .none
def wX(vs):byP vs (List.range vs.length)=vs:=by
 apply List.ext_getElem @0
 intro i K J;simp[J]
def eZ(J:A8)(n:Nat)(p:List Nat):Prop:=p.Perm (List.range n)/\∀i j,i<=j->j<n->J (p.getD j 0) (p.getD i 0)=false
def kL{lt}(O:LtO lt){Y}{a}{vs}{n}{P}(W:s.heap.get? a=some (seqObj "list" vs.toArray n))(T:∀i j,i<vs.length->j<vs.length->lt i j=false->lt j i=false->i=j)(u:vs.length<7)
  (k:2<=vs.length->∀h',(∀b o,b≠a->s.heap.get? b=some o->h'.get? b=some o)->∀R:SortKind->Shared->Prop,R Y {s with heap:=h'}->wpAny (model prog w) A (keyKind' vs.toArray) R E {s with heap:=h'})
  (hc:∀h',(∀b o,b≠a->s.heap.get? b=some o->h'.get? b=some o)->∀i j,i<vs.length->j<vs.length->∀R:Bool->Shared->Prop,R (lt i j) {s with heap:=h'}->wpAny (model prog w) A (keyLt' Y (vs.getD i .none) (vs.getD j .none)) R (λc c=>False) {s with heap:=h'})
  (h:∀p,eZ lt vs.length p->P (.done (.ret .none)) {s with heap:=sortedHeap s.heap a vs (byP vs p).toArray}):
  wpAny @3 A (Builtin.«list.sort» ([.ref a],[])) P E s:=by
 rw[list_sort_plain];have B:=hs0 W;refine wb0 (listItems_at W rfl ?_);refine wb0 (listUpdate_at W rfl ?_ (by rw[ls0,sizeLine_eq];lia) (Nat.zero_le _));obtain⟨Z,M⟩:∃Z,(s.heap.update a (Obj.mapSeq λc=>#[])).get? a=some (seqObj "list" #[] Z):=(_,get?_update_seq W (λc=>#[]));refine wb0 (seqEpoch_at M rfl ?_);refine wb0 (wpAny_newTuple ?_ (by show vs.length<=_;rw[sizeLine_eq];lia));refine wb0 (wpAny_newList ?_ (Nat.zero_le _));refine wh0 ?_;have J:(((s.heap.update a (Obj.mapSeq λc=>#[])).push (seqObj "tuple" vs.toArray 0)).push (seqObj "list" #[] 0)).get? a=some (seqObj "list" #[] Z):=by
  rw[Heap.get?_push_ne _ _ _ (by rw[size_push',Heap.size_update];erw[nn0 (Nat.lt_succ_of_lt B)]),Heap.get?_push_ne _ _ _ (by rw[Heap.size_update];erw[nn0 B])];erw[M]
 have S:∀b o,b≠a->s.heap.get? b=some o->(((s.heap.update a (Obj.mapSeq λc=>#[])).push (seqObj "tuple" vs.toArray 0)).push (seqObj "list" #[] 0)).get? b=some o:=λb o g e=>by
  refine ps0 _ (ps0 _ ?_);rw[Heap.get?_update_ne _ _ _ _ g];erw[e]
 show wpAny @3 A _ P E {s with heap:=((s.heap.update a (Obj.mapSeq λc=>#[])).push (seqObj "tuple" vs.toArray 0)).push (seqObj "list" #[] 0)};dsimp only;have d:vs.toArray.size=vs.length:=by simp
 by_cases V:vs.toArray.size<2
 .rw[if_pos V,if_pos V]
  refine wb0 (wq0 ?_);rw[StateT.run_pure];refine wb0 (wq0 ?_);dsimp only;refine wb0 (seqEpoch_at J rfl ?_);refine wb0 (listUpdate_at J rfl ?_ (hsz2:=by rw[Array.size_map];show (pairsOf vs).size<=_;rw[pairsOf_size,sizeLine_eq];grind));simp only[bne_self_eq_false,Bool.false_eq_true,if_false];have q:=h (List.range vs.length) (.refl _,λi j a b=>by
   have:i=0:=by lia
   have:j=0:=by lia
   subst i j;erw[O.irr _])
  rw[wX]at q;refine wq0 ?_;have e:(arrOf (SortSt.mk' general' (vs.toArray.zip vs.toArray) #[] 7 none)).map (·.2)=vs.toArray:=by
   show (vs.toArray.zip vs.toArray).map (·.2)=_
   apply Array.toList_inj.mp;simp;erw[List.map_snd_zip (nr0 _)]
  show P _ {s with heap:=sortedHeap s.heap a vs ((arrOf (SortSt.mk' general' (vs.toArray.zip vs.toArray) #[] 7 none)).map (·.2))};rw[e];erw[q]
 .rw[if_neg V,if_neg V]
  have L:2<=vs.length:=by lia
  refine wb0 (k L _ S _ ?_);have ok:=(Dc O T (n:=vs.length) @1);refine wb0 (wpAny_mono (kat_run (Q:=λK U=>U={s with heap:=((s.heap.update a (Obj.mapSeq λc=>#[])).push (seqObj "tuple" vs.toArray 0)).push (seqObj "list" #[] 0)}/\∃p:Array Nat,arrOf K=p.map (kas_item (vs.toArray.zip vs.toArray))/\failedOf K=none/\eZ lt vs.length p.toList/\p.size=vs.length)
   (G:=λp U=>U={s with heap:=((s.heap.update a (Obj.mapSeq λc=>#[])).push (seqObj "tuple" vs.toArray 0)).push (seqObj "list" #[] 0)}/\eZ lt vs.length p.toList) rfl L @1 (λp' K U I a2 z D=>(D.1,p',a2,z,D.2,I))
   (Wt.kas (λi j v l C q=>hc _ S i j v l C q) (ok.mono λp q=>(rfl,q.2.1,λi j x y=>by have:=q.2.2 i j x y;simpa [gk]using this)))) ?_ λc c e=>e)
  rintro ⟨⟨⟩,K⟩ U ⟨rfl,p,F,f,t,hz⟩
  dsimp only;have N:=kat_snds (vs:=vs) rfl F;refine wb0 (seqEpoch_at J rfl ?_);rw[N];refine wb0 (listUpdate_at J rfl ?_ (hsz2:=by rw[ls0,lm0,al0,hz,sizeLine_eq];lia));rw[f];simp only[bne_self_eq_false,Bool.false_eq_true,if_false];erw[wq0 (h p.toList t)]
def sN{K}(O:LtO K){Y}{l}{vs}{Q}(F:s.heap.IsList l vs.toArray)(T:∀i j,i<vs.length->j<vs.length->K i j=false->K j i=false->i=j)(N:vs.length<7)
  (Z:2<=vs.length->∀h',(∀b o,s.heap.get? b=some o->h'.get? b=some o)->∀R:SortKind->Shared->Prop,R Y {s with heap:=h'}->wpAny (model prog w) A.in1.in1 (keyKind' vs.toArray) R (λa a=>False) {s with heap:=h'})
  (hc:∀h',(∀b o,s.heap.get? b=some o->h'.get? b=some o)->∀i j,i<vs.length->j<vs.length->∀R:Bool->Shared->Prop,R (K i j) {s with heap:=h'}->wpAny (model prog w) A.in1.in1 (keyLt' Y (vs.getD i .none) (vs.getD j .none)) R (λa a=>False) {s with heap:=h'})
  (h:∀h' D n p,(∀b o,s.heap.get? b=some o->h'.get? b=some o)->h'.get? D=some (seqObj "list" (byP vs p).toArray n)->s.heap.objs.size<=D->eZ K vs.length p->Q (.ref D) {s with heap:=h'}):
  wpAny @3 A (call (.builtin "sorted") [.ref l]) Q E s:=by
 refine Calls.call_function_entry kind_sorted plain_sorted entry_sorted (args_sorted1 _) ?_;unfold Builtin.«sorted»;refine wb0 (m:=checkCount "sorted" 1 1 _) (wq0 ?_);refine wb0 (collect_list F ?_ (by rw[sizeLine_eq];lia));refine wb0 (wpAny_newList ?_ (by rw[sizeLine_eq];lia));have J:((s.heap.push (seqObj "list" #[] 0)).update s.heap.objs.size (Obj.mapSeq (·++vs.toArray))).objs.size=s.heap.objs.size+1:=by
  rw[Heap.size_update,size_push']
 have M:(((s.heap.push (seqObj "list" #[] 0)).update s.heap.objs.size (Obj.mapSeq (·++vs.toArray))).push (seqObj "list" vs.toArray 0)).get? (s.heap.objs.size+1)=some (seqObj "list" vs.toArray 0):=by
  rw[<-J];erw[pz0 _ rfl]
 have keep:∀b o,s.heap.get? b=some o->(((s.heap.push (seqObj "list" #[] 0)).update s.heap.objs.size (Obj.mapSeq (·++vs.toArray))).push (seqObj "list" vs.toArray 0)).get? b=some o:=λb o q=>by
  have L:=hs0 q;rw[Heap.get?_push_ne _ _ _ (by rw[J];erw[nn0 (Nat.lt_succ_of_lt L)]),Heap.get?_update_ne _ _ _ _ (nn0 L),Heap.get?_push_ne _ _ _ (nn0 L)];erw[q]
 show wpAny _ _ _ _ _ {s with heap:=((s.heap.push (seqObj "list" #[] 0)).update s.heap.objs.size (Obj.mapSeq (·++vs.toArray))).push (seqObj "list" vs.toArray 0)};rw[J];have U:∀{h':Heap},(∀b o,b≠s.heap.objs.size+1->(((s.heap.push (seqObj "list" #[] 0)).update s.heap.objs.size (Obj.mapSeq (·++vs.toArray))).push (seqObj "list" vs.toArray 0)).get? b=some o->h'.get? b=some o)->∀b o,s.heap.get? b=some o->h'.get? b=some o:=λkk b o q=>kk b o (nn0 (Nat.lt_succ_of_lt (hs0 q))) (keep b o q)
 refine wb0 (wh0 (wpAny_call_entry slot_list_sort (_,M,rfl) entry_list_sort (kL (Y:=Y) O (s:={s with heap:=((s.heap.push (seqObj "list" #[] 0)).update s.heap.objs.size (Obj.mapSeq (·++vs.toArray))).push (seqObj "list" vs.toArray 0)}) (A:=A.in1.in1) M T N (λa2 h' kk R r=>wpAny_mono (Z a2 h' (U kk) R r) (λa a x=>x) λa a x=>x.elim) (λh' kk i j V W R r=>hc h' (U kk) i j V W R r) λp B=>(_,rfl,?_)) (args_list_sort _)));refine wq0 (_,rfl,?_);obtain⟨n,fin⟩:=sortedHeap_at (out:=(byP vs p).toArray) M;refine h _ (s.heap.objs.size+1) n p (λb o e=>?_) fin (Nat.le_succ _) B
 have K:=hs0 e;exact (sortedHeap_old (nn0 (Nat.lt_succ_of_lt K)) (by rw[size_push',J];erw[Nat.lt_succ_of_lt (Nat.lt_succ_of_lt K)])).trans (keep b o e)
end
end L2.Z
namespace L2.Z
open PySem PySem.W PySem.Calls PyProof.Rows SI PySem.MeetsSeq3
open AutoSeq1 (wpAny_loadPart')
def str_inj(h:x.cps.toList=y.cps.toList):x=y:=by cases x;cases y;congr 1;erw[Array.toList_inj.mp h]
def zP{x y}{p q}:ltL (x::p) (y::q)=if x=y then ltL p q else decide (x.cps.toList<y.cps.toList):=by
 unfold ltL
 by_cases e:x=y
 .subst e;rw[if_pos rfl];simp[List.cons_lt_cons_iff]
 .rw[if_neg e]
  have:x.cps.toList≠y.cps.toList:=λz=>e (str_inj z)
  simp[List.cons_lt_cons_iff,this]
section
variable {prog:Program}{w:World}{E:A0}
def oj(f:Nat->List Str):LtO λi j=>ltL (f i) (f j):=by
 constructor
 .intro a b h
  simp only[ltL,decide_eq_true_eq,decide_eq_false_iff_not]at h ⊢;erw[Std.Asymm.asymm _ _ h]
 .intro a b c J K
  simp only[ltL,decide_eq_false_iff_not]at J K ⊢;erw[List.le_trans (J:_<=_) K]
def zQ{p q}(J:ltL p q=false)(K:ltL q p=false):p=q:=by
 unfold ltL at J K;have:=List.le_antisymm (of_decide_eq_false J:q.map (·.cps.toList)<=p.map _) (of_decide_eq_false K);exact ((List.map_inj_right λa a z=>str_inj z).mp this).symm
end
end L2.Z
namespace L2.Z
open PySem PySem.W PySem.Spec PySem.Calls PyProof.Rows L2 L2.C SI
theorem insB_perm{z}:∀l,(pJ z l).Perm (z::l)
 |[]=>.refl _
 |q::r=>by
  show (if ltL _ _ then z::q::r else q::pJ z r).Perm _;split
  .rfl
  .exact ((insB_perm r).cons q).trans (.swap z q r)
theorem iH:∀l:List (List Str×D),(pK l).Perm l
 |[]=>.refl _
 |p::r=>(insB_perm _).trans ((iH r).cons p)
theorem mv{z}:∀{l:List (List Str×D)},l.Pairwise (λa b=>ltL b.1 a.1=false)->(pJ z l).Pairwise (λa b=>ltL b.1 a.1=false)
 |[],_=>List.pairwise_singleton _ _
 |q::r,h=>by
  obtain⟨K,L⟩:=List.pairwise_cons.mp h;show (if ltL _ _ then z::q::r else q::pJ z r).Pairwise _;split
  .refine List.pairwise_cons.mpr (λy hy=>?_,h)
   have J:=(oj λi=>match i with|0=>z.1|_=>q.1).as 0 1 ‹_›;rcases mq0 hy with rfl|hy
   .erw[J]
   .exact (oj λi=>match i with|0=>z.1|1=>q.1|_=>y.1).tr 0 1 2 J (K y hy)
  .refine List.pairwise_cons.mpr (λy hy=>?_,mv L)
   rcases mq0 ((insB_perm r).mem_iff.mp hy)with rfl|hy
   .erw[bf0 ‹_›]
   .erw[K y hy]
theorem iI:∀l:List (List Str×D),(pK l).Pairwise (λa b=>ltL b.1 a.1=false)
 |[]=>.nil
 |p::r=>mv (iI r)
def map_getD(d:α)(l):(List.range l.length).map (λi=>l.getD i d)=l:=List.ext_getElem @0 λi K J=>by simp[List.getD,J]
def Dd{zs:List (List Str×D)}(nd:(zs.map (·.1)).Nodup){a b}(K:a∈zs)(M:b∈zs)(h:a.1=b.1):a=b:=by
 induction zs with
 |nil=>cases K
 |cons z r ih=>
  obtain⟨L,N⟩:=List.nodup_cons.mp nd;rcases mq0 K with e|ha'<;>rcases mq0 M with J|hb'
  .rw[e,J]
  .exact (L (List.mem_map.mpr (b,hb',by rw[<-h,e]))).elim
  .exact (L (List.mem_map.mpr (a,ha',by rw[h,J]))).elim
  .erw[ih N ha' hb']
noncomputable abbrev atZ(zs:List (List Str×D))(i:Nat):List Str×D:=zs.getD i ([],.none)
def qw{zs l}(nd:(zs.map (·.1)).Nodup)(J:l.Perm zs)(O:l.Pairwise (λa b=>ltL b.1 a.1=false)):l=pK zs:=
 (J.trans (iH zs).symm).eq_of_pairwise (λa b M N K L=>Dd nd (J.mem_iff.mp M) ((iH zs).mem_iff.mp N) (zQ L K)) O (iI zs)
theorem zR{K}{G}:∀{ds:List D}{vs:List V},Dps K G ds vs->∀J:List Nat,(∀i∈J,i<ds.length)->Dps K G (J.map λi=>ds.getD i .none) (J.map λi=>vs.getD i .non)
 |_,_,_,[],_=>.nil
 |ds,vs,r,i::J,h=>by
  have L:=h i ms0;refine .cons ?_ (zR r J λj M=>h j (mc0 _ M));obtain⟨v,e,d⟩:=r.get (ge0 L)
  simpa [List.getD,L,e]using d
theorem uA:∀{xs:List V}{us:A2},Vals xs us->∀J:List Nat,(∀i∈J,i<xs.length)->Vals (J.map λi=>xs.getD i .non) (byP us J)
 |_,_,_,[],_=>.nil
 |xs,us,r,i::J,h=>by
  have K:=h i ms0;refine .cons ?_ (uA r J λj L=>h j (mc0 _ L));obtain⟨u,e,d⟩:=r.get (ge0 K)
  simpa [List.getD,K,e]using d
section
variable {prog:Program}{w:World}{E:A0}
def IsPn(h:Heap)(q:Str)(v:Value):Prop:=∃a o J n t u,v=.ref a/\h.get? a=some o/\o.cls=.type "tuple"/\o.data=.seq J n/\J=#[.str q t,u]
def zS{v}{Q}(h:Q true s):wpAny @3 A (eqBool v v) Q E s:=wh0 (wpAny_ite_split (λa=>wb0 (wpAny_rule (wq0 h))) λJ=>absurd (beq_self_eq_true v) J)
def uB{x y}:ltL [x] [y]=decide (x.cps.toList<y.cps.toList):=by
 rw[zP];split
 .subst_vars;exact (df0 (List.lt_irrefl _)).symm
 .rfl
def IsPn.keep{h h'}{q}{v}(k:∀b o,h.get? b=some o->h'.get? b=some o):IsPn h q v->IsPn h' q v:=by
 rintro ⟨a,o,M,n,t,u,J,K,L⟩
 exact(a,o,M,n,t,u,J,k a o K,L)
def JW{p q}{x y}{Q}(R:IsPn s.heap p x)(U:IsPn s.heap q y)(O:p=q->x=y)(h:Q (ltL [p] [q]) s):wpAny @3 A (keyLt' (tuples' true) x y) Q E s:=by
 rw[uB]at h;obtain⟨a,o,D,n,t,u,rfl,L,a2,M,rfl⟩:=R;obtain⟨b,F,B,T,V,W,rfl,J,Z,K,rfl⟩:=U;refine kat_lt L M J K ?_;show KatLex prog w A true _ Q [(.str p t,.str q V),(u,W)] 0 s;refine kat_cons (wpAny_eqBool_str ?_)
 by_cases e:p=q
 .rw[dt0 e]
  have N:=O e;subst e;cases N;rw[L]at J;cases J;rw[M]at K;cases K;refine kat_yes (kat_cons (zS (kat_yes (kat_nil ?_))));rw[df0 (List.lt_irrefl _)]at h;erw[h]
 .rw[df0 e]
  erw[kat_no (oneLt_str h)]
end
def De{prog}{w}{A}{E}{s}{R}:∀{vs:A2},0<vs.length->(∀v∈vs,∃q,IsPn s.heap q v)->R (tuples' true) s->wpAny @3 A (keyKind' vs.toArray) R E s:=by
 intro vs W L h;have:∀vs:List Value,(∀v∈vs,∃q,IsPn s.heap q v)->∃J,KatTups s.heap vs J/\J.length=vs.length/\∀v∈J,∃x t,v=.str x t:=by
  intro vs
  induction vs with
  |nil=>exact λb=>([],trivial,rfl,nofun)
  |cons v r ih=>
   intro L;obtain⟨J,M,O,N⟩:=ih λv K=>L v (mc0 _ K)
   obtain⟨q,a,o,Z,n,t,u,rfl,U,a2,V,rfl⟩:=L v ms0;exact(_::J,.cons U a2 V rfl M,by simp[O],λv K=>(mq0 K).elim (λe=>(q,t,e)) (N v))
 obtain⟨J,M,O,N⟩:=this vs L;refine kat_kind (T:=.type "str") M @6 (λv K=>?_) rfl h;obtain⟨x,t,rfl⟩:=N v K;exact .now
inductive PnV (H:Hp):List V->List Str->Prop
 |nil:PnV H [] []
 |cons {a:Addr}{x:Str}{y:V}{vs:List V}{ss:A1}:H a=some (.tup [.str x,y])->PnV H vs ss->PnV H (.ref a::vs) (x::ss)
def zT{H}{h}(ok:HOk X.prog X.w H h):∀{L:List V}{K:A1}{us:A2},PnV H L K->Vals L us->us.length=K.length/\∀(i:Nat) u,us[i]?=some u->IsPn h (K.getD i Str.empty) u:=by
 intro L K us r
 induction r generalizing us with
 |nil=>intro z;cases z;exact(rfl,λi u e=>by simp at e)
 |@cons a _ _ _ _ e r ih=>
  intro z;cases z with
  |cons z J=>
  obtain⟨l,k⟩:=ih J;refine(by simp[l],λi u q=>?_);cases i with
  |succ i=>simpa using k i u (by simpa using q)
  |zero=>
   cases q;cases z;obtain⟨z,O,J,R,e,M,n,N⟩:=ok a _ e;cases J with
   |cons U J=>cases J with
    |cons W J=>
     cases J;obtain⟨t,rfl⟩:=U;exact(a,R,_,n,t,_,rfl,e,M,N,rfl)
section
variable {p:Pos}{d:D}{ls:List D}
def oq:bb X (.builtin "sorted") (λxs H Q=>∃(l:Addr)(O:List V)(K:A1),xs=[.ref l]/\H l=some (.lst O)/\PnV H O K/\K.Nodup/\K.length<7/\∀r N,H r=.none->eZ (λi j=>ltL [K.getD i Str.empty] [K.getD j Str.empty]) K.length N->Q (.ref r) (upd H r (.lst (N.map λi=>O.getD i .non)))):=by
 intro S s σ H xs T Q I r h;obtain⟨l,O,K,rfl,z,q,nd,o,k⟩:=h;obtain⟨u,rfl,f⟩:=vals1 r;cases f;obtain⟨T,F,W,_⟩:=I.list (SqL.of z);obtain⟨Z,L⟩:=zT I.hok q F;have get:∀i,i<T.length->T[i]?=some (T.getD i .none):=λi J=>by simp[List.getD,J]
 refine sN (oj λi=>[K.getD i Str.empty]) (Y:=tuples' true) W.isList (λi j J M E C=>?_) @6 (λC U kk R r=>De (s:={s with heap:=U}) (Nat.le_of_lt ‹_›) (λv g=>?_) r) (λU kk i j J M R r=>JW (s:={s with heap:=U}) ((L i _ (get i J)).keep kk) ((L j _ (get j M)).keep kk) (λe=>?_) r) λU D n N kk P B io=>?_
 .rw[Z]at J M
  have e:=List.cons.inj (zQ E C);exact (List.getElem_inj nd).mp (by simpa [List.getD,J,M]using e.1)
 .obtain⟨i,J⟩:=List.getElem?_of_mem g
  exact(_,(L i v J).keep kk)
 .rw[Z]at J M
  have:i=j:=(List.getElem_inj nd).mp (by simpa [List.getD,J,M]using e);rw[this]
 .rw[Z]at io
  have W:=io.1.length_eq;rw[lr0]at W;have t:O.length=K.length:=by rw[F.length,Z]
  exact(.ref D,_,I.laid (t':=s.toks) kk B (show ObjOk X.prog X.w _ _ _ (.lst _)from(by rw[lm0,W,sizeLine_eq];grind,_,n,uA F N (λi J=>by rw[t];erw[List.mem_range.mp (io.1.mem_iff.mp J)]),P)),rfl,k D N (I.hok.fresh B) io)
def uC{K}{G H}(s:Same G H):∀{ls:List D}{L:List V}{zs},jE ls=some zs->Dps K G ls L->∃M:List Str,PnV H L M/\zs.map (·.1)=M.map (λx=>[x])/\zs.map (·.2)=ls:=by
 intro ls
 induction ls with
 |nil=>intro L zs h a;cases a;cases h;exact([],.nil,rfl,rfl)
 |cons d r ih=>
  intro L zs h a;cases a with
  |cons a b=>cases a with
   |tuple R J=>cases J with
    |nil=>cases h
    |cons N J=>cases N with
     |str=>cases J with
      |nil=>cases h
      |cons T J=>cases J with
       |cons=>cases h
       |nil=>
        obtain⟨zs,O,rfl⟩:=mS h;obtain⟨M,U,W,Z⟩:=ih O b;exact(_,.cons (s _ _ R) U,by simp[W],by simp[Z])
     |_=>cases h
   |_=>cases h
def sO(F:Blt X "sorted")(t:Er X Y a (.list ls))(o:BX (.list ls)=some d)(hs:isStar a=false):Ev X Y (.Call (.Name "sorted" p) [a] [] pos) d:=by
 obtain⟨J,w,h⟩:=bS (o:(jE ls).bind _=some d);obtain⟨hz,nd,rfl⟩:=(show J.length<7/\(J.map (·.1)).Nodup/\d=.list ((pK J).map (·.2)) by
   unfold BW at h;split at h
   .cases h;exact(‹_/\_›.1,‹_/\_›.2,rfl)
   .cases h)
 intro T s σ H Q I f;obtain⟨S,z,G,E,k⟩:=f;refine cZ oq F.g F.m dP (pa_cons t pa_nil (starEach_cons hs)) F.n F.d (starEach_cons hs) rfl T s σ H Q I (S,z,G,E,λv P H1 V r1=>?_);obtain⟨q,ws,rfl,l,C⟩:=r1.lst V.gh;obtain⟨R,p1,p2,p3⟩:=uC V.gh w C;have sl:J.length=R.length:=by simpa using congrArg List.length p2
 have U:∀i,i<R.length->(atZ J i).1=[R.getD i Str.empty]:=λi L=>by
  have:=congrArg (·[i]?) p2;simp[L,show i<J.length by lia]at this
  simpa [atZ,List.getD,L,show i<J.length by lia]using this
 refine(q,ws,R,rfl,l,p1,?_,by simp_all,λr2 M Z io=>?_)
 .rw[p2]at nd
  exact (List.pairwise_map.mp nd).imp λh e=>h (by rw[e])
 .have D:∀i∈M,i<R.length:=λi L=>List.mem_range.mp (io.1.mem_iff.mp L)
  have O:eZ (λi j=>ltL (atZ J i).1 (atZ J j).1) J.length M:=by
   rw[sl];refine(io.1,λi j N W=>?_);have B:=io.1.length_eq;rw[lr0]at B;have m:∀i,i<R.length->M.getD i 0<R.length:=λi L=>D _ (by simp[List.getD,show i<M.length by simp_all])
   dsimp only;rw[U _ (m j W),U _ (m i (Nat.lt_of_le_of_lt ‹_› ‹_›))];erw[io.2 i j N W]
  have e:=(by
    have B:=O.1.length_eq;rw[lr0]at B;have pe:(M.map (atZ J)).Perm J:=by
     have:=O.1.map (atZ J)
     rwa [map_getD]at this
    refine qw nd pe (List.pairwise_iff_getElem.mpr λi j L W N=>?_);rw[lm0]at L W;have:=O.2 i j (Nat.le_of_lt N) @6
    simpa [List.getD,L,W]using this)
  rw[<-e,List.map_map]at k;refine k _ _ _ (V.trans (.laid V.gh Z)) (.list aa ((?_:Dps X.K P _ _).mono (aG (V.gh.free Z))));have:=zR C M λi L=>by rw[<-p3,lm0,sl];erw[D i L]
  rw[<-p3]at this;have u:M.map ((λx=>x.2) ∘ atZ J)=M.map λi=>(J.map (·.2)).getD i .none:=List.map_congr_left λi L=>by
   have:=D i L;simp[atZ,List.getD,show i<J.length by lia]
  rw[u];erw[this]
end
end L2.Z
namespace PySem
open PyProof.Rows
section
variable {prog:Program}{w:World}{E:A0}{Y:Type}[DecidableEq Y][Inhabited Y]{kd:KD prog w Y}
def uD:isSubtype (.type "set") (.type "set")=pure true:=rfl
def ou{a}{Q}(J:s.TypeIs (.ref a) "set")(h:Q true s):wpAny @3 A (Builtin.Frozenset.isAnySet (.ref a)) Q E s:=wb0 (wpAny_isInstance J uD (wq0 h))
def EJ{S}{xs}{ep}{Q}(M:StrSet kd s.heap S xs ep)(h:Q ep s):wpAny @3 A (setEpoch S) Q E s:=by
 obtain⟨o,O,t,J,N,K,L,_⟩:=M;erw[wpAny_setEpoch_of J K L h]
def zU{S}{xs}{ep}{Q}(T:StrSet kd s.heap S xs ep)(h:∀(J:List (Y×Tok)) d,J.Perm xs->Q (J.map kd.e).toArray {s with drawn:=d}):
  wpAny @3 A (setWalk S) Q E s:=by
 obtain⟨o,K,t,U,D,V,W,M,Z,C⟩:=T;unfold setWalk;refine wb0 (wpAny_setState_of U V W (wb0 (asks ?_)));have O:∀J:List (Y×Tok),∀a:Array (Int×Value),a.toList=J.map kd.e->a=(J.map kd.e).toArray:=λJ a e=>by rw[<-e]
 cases F:byTx w with
 |true=>
  obtain⟨J,N,L⟩:=bh (mf (w.params.setOrder S ep) K) xs M;refine wb0 (wpAny_askSetting (wq0 ?_));have:=h J s.drawn N;rw[<-O _ _ L]at this;erw[this]
 |false=>
  by_cases R:(!t.plain&&decide (K.size>1))=true
  .show wpAny _ _ (if (!t.plain&&decide (K.size>1))=true then _ else _) Q E s
   rw[if_pos R];refine wb0 (mh _ _ _ _ (rfl) λP d B=>wq0 ?_);obtain⟨J,N,L⟩:=bh B xs M;rw[L];erw[h J d N]
  .show wpAny _ _ (if (!t.plain&&decide (K.size>1))=true then _ else _) Q E s
   rw[if_neg R];refine wb0 (m:=if (!t.led&&decide (K.size>1))=true then unsupported "set:maker-not-led" else pure ()) ?_;rw[Z,F];refine wq0 (wq0 ?_);rw[O _ _ M];erw[h xs s.drawn (.refl _)]
def ki{b}{f}{Q}:∀l:List α,(∀a∈l,∀P:ForInStep β->Shared->Prop,P (.yield b) s->wpAny @3 A (f a b) P E s)->Q b s->wpAny @3 A (forIn l b f) Q E s:=by
 intro l J h
 induction l with
 |nil=>exact wq0 h
 |cons a l ih=>
  rw[List.forIn_cons];erw[wb0 (J a ms0 _ (ih λa m=>J a (mc0 _ m)))]
set_option tactic.hygienic true in
def zV(R:∀k t a,kd.vl k t≠.ref a){Q}{l}(O:∀q∈l,∃xs ep,StrSet kd s.heap q xs ep)(h:Q true s):wpAny @3 A (setsQuiet l) Q E s:=by
 refine wb0 (ki l (λa m P q=>?_) (wq0 h));obtain⟨xs,ep,o,U,t,J,N,K,L,M,_⟩:=O a m;refine wb0 (wpAny_setEntries_of J K L (wb0 ?_));rw[<-Array.forIn_toList,M];refine ki _ (λp m P q=>?_) (wq0 q);obtain⟨⟨x,V⟩,_,rfl⟩:=mm0 m;have z:=R x V;dsimp only;revert z;generalize kd.vl x V=v;intro z;cases v with
 |ref=>exact absurd rfl (z _)
 |_=>exact wq0 q
def Df{S r}{xs ys}{ep er}{os}{Q}(I:∀k t a,kd.vl k t≠.ref a)(M:StrSet kd s.heap S xs ep)(L:StrSet kd s.heap r ys er)(hz:ys.length<4000)(P:∀q∈os,∃xs ep,StrSet kd s.heap q xs ep)
  (h:∀(J:List (Y×Tok)) h' er' d,J.Perm xs->Heap.SameBut r s.heap h'->StrSet kd h' r ys er'->Q (J.map kd.e).toArray {s with heap:=h',drawn:=d}):
  wpAny @3 A (setWalkUnseen S os (some r)) Q E s:=by
 have v:wpAny @3 A (setWalk S) Q E s:=zU M λJ d j=>h J s.heap er d j (Heap.SameBut.refl _ _) L
 obtain⟨o,W,t,Z,C,T,F,D,B,l⟩:=id M;unfold setWalkUnseen;refine wb0 (wpAny_setState_of Z T F (wb0 (asks ?_)));dsimp only;split
 .erw[v]
 refine wb0 (zV I (λq m=>(mq0 m).elim (λe=>e▸(_,_,M)) (P q)) ?_);rw[if_neg @0];refine wb0 (wpAny_rule ?_);obtain⟨p,eR,tR,O,f,R,U,V,u,g⟩:=id L;refine wb0 (wpAny_setState_of O R U ?_);have K:W=(xs.map kd.e).toArray:=by rw[<-D]
 dsimp only;split
 .have N:eR.size=ys.length:=by rw[<-al0,V,lm0]
  refine wb0 (wpAny_storeSet_of (prog:=prog) (w:=w) O R (wq0 ?_) (by rw[N,sizeLine_eq];grind));rw[K];refine h xs _ (er+1) s.drawn (.refl _) (Heap.SameBut.update s.heap r _) (_,eR,_,dJ O R,f,rfl,?_,V,?_,λz=>?_)
  .erw[U]
  .show (tR.led&&t.led)=_
   rw[u,B,Bool.and_self]
  .have z:=z
   rw[be0]at z;erw[g z.1]
 .refine wq0 ?_
  rw[K];erw[h xs s.heap er s.drawn (.refl _) (Heap.SameBut.refl _ _) L]
def Dg{Q}(h:StrSet kd (s.heap.push (aq w)) s.heap.objs.size [] 0->Q @11 {s with heap:=s.heap.push (aq w)}):wpAny (model prog w) A (newSet (.type "set")) Q E s:=by
 unfold newSet;refine wb0 (asks ?_);simp only[newObj];erw[wb0 (wpAny_alloc (wq0 (h (aq w,#[],.fresh 0 0 (!byTx w),pz0 _ rfl,(rfl,rfl,rfl),rfl,rfl,rfl,rfl,λa=>rfl))))]
end
end PySem
namespace L2.Z
open PySem PySem.Spec PyProof.Rows L2 L2.C SI
end L2.Z
namespace PySem
open SetTable
noncomputable def itL(m:Nat):Nat->Nat->Nat
 |0,i=>i
 |t+1,i=>itL m t ((i*5+1) % (m+1))
def Mk(m:Nat):Prop:=m=7\/m=15\/m=31
def Mk.all{m}(h:Mk m):∀i,i<m+1->∀j,j<m+1->∃t,t<m+1/\itL m t i=j:=by
 rcases h with rfl|rfl|rfl<;>decide +kernel
set_option tactic.hygienic true
theorem uE{K:Array (Option Nat)}:∀(n i p:Nat),p<32->(∃t,t<n/\K.getD (itL m t i) (some 0)=none)->∃j,layClean.free m K n i p=some j/\K.getD j (some 0)=none
 |0,_,_,_,⟨_,z,_⟩=>absurd z (Nat.not_lt_zero _)
 |n+1,i,p,M,⟨t,N,e⟩=>by
  unfold layClean.free;split
  .rename_i k q
   exact(_,rfl,by simpa using List.find?_some q)
  .rename_i q
   have L:=List.find?_eq_none.mp q 0 (List.mem_range.mpr (by unfold runEnd;split<;>lia));have J:p / 32=0:=by lia
   simp only[leap,J,Nat.add_zero];cases t with
   |zero=>exact absurd (by simpa [itL]using e) (by simpa using L)
   |succ t=>exact uE n _ 0 @2 (t,by lia,e)
theorem qx{L:Array (Option Nat)}(N:Mk m)(ex:∃j,j<m+1/\L.getD j (some 0)=none):∀(b n i p:Nat),i<m+1->p<32 ^ b->b+m<n->∃j,layClean.free m L n i p=some j/\L.getD j (some 0)=none
 |0,n,i,p,M,K,J=>by
  obtain⟨V,U,O⟩:=ex;obtain⟨t,W,R⟩:=N.all i M V U;erw[uE n i p (by rw[Nat.pow_zero]at K;lia) (t,by lia,by rw[R];exact O)]
 |b+1,0,_,_,_,_,J=>absurd J (Nat.not_lt_zero _)
 |b+1,n+1,i,p,M,K,J=>by
  unfold layClean.free;split
  .rename_i k q
   exact(_,rfl,by simpa using List.find?_some q)
  .erw[qx N ex b n _ (p / 32) (Nat.mod_lt _ (Nat.succ_pos _)) (Nat.div_lt_of_lt_mul (by rw[Nat.mul_comm,<-Nat.pow_succ];exact K)) @1]
set_option tactic.hygienic false
def Dh(x:Int):bits x<32 ^ 13:=by
 unfold bits
 lia
noncomputable abbrev EK(m:Nat)(J:Array (Option Nat)):List (Nat×Nat):=(List.range (m+1)).filterMap λj=>(J.getD j none).map (Prod.mk j ·)
structure LayOk(m:Nat)(ow:Array (Option Nat))(k:Nat):Prop where
 sz:ow.size=m+1
 pm:((EK m ow).map (·.2)).Perm (List.range k)
def LayOk.step{k:Nat}{J:Array (Option Nat)}(T:Mk m)(h:LayOk m J k)(F:k<=m)(x:Int):∃j,layClean.free m J (turns m) (bits x % (m+1)) (bits x)=some j/\LayOk m (J.setIfInBounds j (some k)) (k+1):=by
 obtain⟨M,L⟩:=h;have ex:∃j,j<m+1/\J.getD j (some 0)=none:=by
  refine Classical.byContradiction λz=>?_
  have N:∀j∈List.range (m+1),((J.getD j none).map (Prod.mk j ·)).isSome=true:=λj K=>by
   have K:=List.mem_range.mp K;cases q:J.getD j none with
   |some v=>rfl
   |none=>exact (z (j,K,by simpa [Array.getD,M,K]using q)).elim
  have:(EK m J).length=m+1:=by
   have:∀l:List Nat,(∀j∈l,((J.getD j none).map (Prod.mk j ·)).isSome=true)->(l.filterMap λj=>(J.getD j none).map (Prod.mk j ·)).length=l.length:=by
    intro l
    induction l with
    |nil=>intro _;rfl
    |cons a r ih=>
     intro h;obtain⟨v,e⟩:=is0 (h a ms0);rw[List.filterMap_cons,e];simp only[lc0];rw[ih λj K=>h j (mc0 _ K)]
   rw[this _ N,lr0]
  have:=L.length_eq;rw[lm0,lr0]at this
  grind
 obtain⟨j,U,O⟩:=qx T ex 13 (turns m) (bits x % (m+1)) (bits x) (Nat.mod_lt _ (Nat.succ_pos _)) (Dh x) (by unfold turns;grind);refine(j,U,by simp[M],?_);have K:j<m+1:=by
  rcases Nat.lt_or_ge j (m+1)with z|z
  .erw[z]
  .simp[Array.getD,M,Nat.not_lt.mpr z]at O
 have V:J.getD j none=none:=by simpa [Array.getD,M,K]using O
 obtain⟨A,B,e⟩:=List.append_of_mem (List.mem_range.mpr K);have nd:=List.nodup_range (n:=m+1);rw[e]at nd;have nd:=List.nodup_append.mp nd;have same:∀l:List Nat,j∉l->(l.filterMap λi=>((J.setIfInBounds j (some k)).getD i none).map (Prod.mk i ·))=l.filterMap λi=>(J.getD i none).map (Prod.mk i ·):=λl R=>by
  induction l with
  |nil=>rfl
  |cons i r ih=>
   have ne:j≠i:=λz=>R (z▸ms0)
   rw[List.filterMap_cons,List.filterMap_cons,ih λz=>R (mc0 _ z)];simp[Array.getD_eq_getD_getElem?,Array.getElem?_setIfInBounds,ne]
 have W:j∉A:=λz=>nd.2.2 j z j ms0 rfl
 have Z:j∉B:=(List.nodup_cons.mp nd.2.1).1;have new:(J.setIfInBounds j (some k)).getD j none=some k:=by simp[Array.getD_eq_getD_getElem?,Array.getElem?_setIfInBounds,M,K]
 show (((List.range (m+1)).filterMap _).map _).Perm _;have L:(((List.range (m+1)).filterMap λi=>(J.getD i none).map (Prod.mk i ·)).map (·.2)).Perm (List.range k):=L;rw[e,List.filterMap_append,List.filterMap_cons,V]at L;rw[e,List.filterMap_append,List.filterMap_cons,new,same A W,same B Z,List.range_succ];simp only[Option.map_none,mo0,List.map_append,mk0]at L ⊢;erw[List.perm_middle.trans ((List.Perm.cons _ L).trans (List.perm_append_singleton _ _).symm)]
theorem gi(M:Mk m):∀(hs:List Int)(K:Array (Option Nat))(k:Nat),LayOk m K k->k+hs.length<=m+1->
  ∃J,hs.foldl (λacc h=>do
   let (owner,k) ←acc
   let j ←layClean.free m owner (turns m) (bits h % (m+1)) (bits h)
   pure (Prod.mk (owner.setIfInBounds j (some k)) (k+1))) (some (Prod.mk K k))=some (Prod.mk J (k+hs.length))/\LayOk m J (k+hs.length)
 |[],K,k,h,_=>(K,rfl,h)
 |x::r,K,k,h,L=>by
  have L:k+(r.length+1)<=m+1:=L;obtain⟨j,O,N⟩:=h.step M @1 x;obtain⟨J,a,b⟩:=gi M r _ _ N @1<;>grind
def qy{f v:Nat}{l p:Bool}{hs:Array Int}(K:Mk m)(hz:hs.size<=m+1):
  ∃t J,laid m f v l p hs=some (Prod.mk t J)/\J.toList.Perm (List.range hs.size)/\t.mask=m/\t.place.size=hs.size/\t.led=l/\t.plain=p:=by
 obtain⟨L,a,b⟩:=gi K hs.toList (Array.replicate (m+1) none) 0 (by simp,by
  simp_all) (by simp_all)
 rw[Nat.zero_add,al0]at a b;have e:layClean m hs=some L:=by
  unfold layClean;rw[<-Array.foldl_toList,a];rfl
 refine(_,_,by unfold laid;rw[e];rfl,b.pm,rfl,?_,rfl,rfl);have:=b.pm.length_eq;rw[lm0,lr0]at this;rw[<-this,ls0,lm0]
end PySem
namespace PySem
open PyProof.Rows
def kj{es:Array (Int×Value)}{J:Array Nat}(h:J.toList.Perm (List.range es.size)):(J.filterMap (es[·]?)).toList.Perm es.toList:=by
 rw[Array.toList_filterMap];refine (h.filterMap _).trans ?_;have:=by
  have:∀l:List (Int×Value),(List.range l.length).filterMap (l[·]?)=l:=by
   intro l
   induction l with
   |nil=>rfl
   |cons a r ih=>
    rw[lc0,List.range_succ_eq_map,List.filterMap_cons,List.filterMap_map];simp only[List.getElem?_cons_zero,List.cons.injEq,true_and];erw[ih]
  simpa using (this es.toList)
 rw[this]
def qz:∀n,n<32->SetTable.sizeAbove n<=64/\Mk (SetTable.sizeAbove n-1)/\n<SetTable.sizeAbove n:=by
 unfold Mk;decide +kernel
section
variable {prog:Program}{w:World}{E:A0}{Y:Type}[DecidableEq Y][Inhabited Y]{kd:KD prog w Y}
def qA{xs}{es:Array (Int×Value)}{t:SetTable}{m f v}{l p}(D:Mk m)(hz:xs.length<=m)(U:es.toList=xs.map kd.e)(B:p=true->xs.length=0):
  ∃(t':SetTable)(J:Array Nat)(K:List (Y×Tok)),SetTable.laid m f v l p (es.map (·.1))=some (t',J)/\(J.filterMap (es[·]?)).size=es.size/\K.Perm xs/\(J.filterMap (es[·]?)).toList=K.map kd.e/\t'.fits (J.filterMap (es[·]?)).size=true/\t'.led=l/\JU t' K.length/\t'.mask=m/\t'.fill=xs.length:=by
 have L:es.size=xs.length:=by rw[<-al0,U,lm0]
 obtain⟨t',J,N,O,W,R,Z,T⟩:=qy (f:=f) (v:=v) (l:=l) (p:=p) (hs:=es.map (·.1)) D @5;rw[Array.size_map]at O R;have op:=kj (es:=es) O;have M:(J.filterMap (es[·]?)).size=es.size:=by rw[<-al0,op.length_eq,al0]
 obtain⟨K,V,F⟩:=bh op _ U;have fl:t'.fill=xs.length:=by unfold SetTable.fill;rw[R,(ql N),L];rfl
 refine(t',J,K,N,M,V,F,?_,Z,λz=>by rw[V.length_eq];erw[B (T▸z)],W,fl);unfold SetTable.fits
 simp_all
def wY{r}{ys}{er n}{Q:A7}(S:StrSet kd s.heap r ys er)(P:n<32)(hz:ys.length<=n)
  (h:∀h' zs O,Heap.SameBut r s.heap h'->zs.Perm ys->StrSet kd h' r zs O->Q () {s with heap:=h'}):wpAny (model prog w) A (setRelay r n) Q E s:=by
 obtain⟨o,J,t,L,a2,M,Z,V,T,F⟩:=S;have R:J.size=ys.length:=by rw[<-al0,V,lm0]
 obtain⟨q,D,u⟩:=qz n P;obtain⟨W,U,zs,N,K,z,B,C,I,j,_⟩:=qA (kd:=kd) (t:=t) (f:=t.finger) (v:=t.movedTo (SetTable.sizeAbove n-1)) (l:=t.led) (p:=t.plain) D @5 V F;unfold setRelay;refine wb0 (wpAny_setState_of L M Z ?_);dsimp only;rw[if_neg (by rw[sizeLine_eq];grind)];have N:SetTable.relaid t (J.map (·.1)) n=some (Prod.mk W U):=N;rw[N];refine wb0 (?_:wpAny _ _ (if ((U.filterMap (J[·]?)).size != J.size)=true then _ else pure (Prod.mk (U.filterMap (J[·]?)) W)) _ _ _);rw[if_neg (by rw[K];simp)];erw[wq0 (wpAny_storeSet_of (prog:=prog) (w:=w) L M (h _ zs (er+1) (Heap.SameBut.update s.heap r _) z (_,_,_,dJ L M,a2,rfl,C,B,I.trans T,j)) (by rw[K,R,sizeLine_eq];grind))]
def qB{r}{ys}{er n}{Q:A7}(L:StrSet kd s.heap r ys er)(hz:ys.length+n<16)
  (h:∀h' zs K,Heap.SameBut r s.heap h'->zs.Perm ys->StrSet kd h' r zs K->Q () {s with heap:=h'}):wpAny (model prog w) A (setRoomFor r n) Q E s:=by
 obtain⟨o,M,t,N,a2,O,J,R,V,W⟩:=id L;have U:M.size=ys.length:=by rw[<-al0,R,lm0]
 have Z:t.place.size=M.size:=by
  unfold SetTable.fits at J;rw[be0,beq_iff_eq]at J;erw[J.1]
 unfold setRoomFor;refine wb0 (wpAny_setState_of N O J ?_);dsimp only;unfold SetTable.roomFor
 by_cases c:(t.fill+n)*5≥t.mask*3
 .rw[if_pos c]
  erw[wY L @5 @5 h]
 .rw[if_neg c]
  erw[wq0 (h s.heap ys er (Heap.SameBut.refl _ _) (.refl _) L)]
def iJ{S:Addr}{ep}{each}{Q:A7}(N:StrSet kd s.heap S [] ep)(h:Q () s):wpAny @3 A (setMerge r S each) Q E s:=by
 obtain⟨o,U,t,J,a2,K,L,M,O,R⟩:=N;unfold setMerge;split
 .erw[wq0 h]
 refine wb0 (wpAny_setState_of J K L ?_);dsimp only;rw[if_pos (by rw[Array.isEmpty_iff];erw[Array.toList_eq_nil_iff.mp M])];erw[wq0 h]
def mw{S:Addr}{xs}{ep}{each}{Q:A7}(T:s.heap.get? r=some (aq w))(ne:r≠S)(hS:StrSet kd s.heap S xs ep)(h1:xs≠[])(hz:xs.length<16)
  (h:∀h' ys er,Heap.SameBut r s.heap h'->ys.Perm xs->StrSet kd h' r ys er->Q () {s with heap:=h'}):wpAny (model prog w) A (setMerge r S each) Q E s:=by
 obtain⟨o,es,t,a1,a2,a3,u,P,a6,g⟩:=hS;have N:es.size=xs.length:=by rw[<-al0,P,lm0]
 unfold setMerge;rw[if_neg (by simpa using ne)];refine wb0 (wpAny_setState_of a1 a3 u ?_);dsimp only;have e0:es.isEmpty=false:=by
  rw[Array.isEmpty_eq_false_iff];intro z;rw[z]at N;erw[h1 (ez0 N.symm)]
 rw[if_neg (by rw[e0];erw[fx0])];have go:∀(J:SetTable)(M:Array (Int×Value))(er:Nat)(R:Heap)(B:Obj),Heap.SameBut r s.heap R->Mk J.mask->xs.length<=J.mask->J.fits M.size=true->J.fill=0->J.led=(!byTx w)->J.plain=true->R.get? r=some B->B.ExactSet->B.data=.set M er J->wpAny @3 A (do
   let (_,_,L) ←setState r
   match L.road t with
   |.slotForSlot=>storeSet r es {t with finger:=L.finger,led:=L.led&&t.led,moves:=L.moves,plain:=L.plain&&t.plain}
   |.clean=>
    let (es,t) ←(do
     let some (Prod.mk t O):=SetTable.laid L.mask L.finger L.moves (led:=L.led&&t.led) (plain:=L.plain&&t.plain) (es.map (·.1))|unsupported "internal:set-table-without-room"
     let V:=O.filterMap (es[·]?)
     if V.size != es.size then unsupported "internal:set-table-lost-an-element"
     pure (Prod.mk V t))
    storeSet r es t
   |.oneByOne=>
    for (h,x) in ←setWalkUnseen S [r] (some r) do
     let _ ←holding [x] (setAddHashed r x h)
     each
     if (<-setState S).2.1 != ep then unsupported "set.changed-during-merge") Q E {s with heap:=R}:=by
  intro J M er R B k1 hm j ft fl ld pn W e Z;refine wb0 (wpAny_setState_of W Z ft ?_);dsimp only;have line:es.size<=sizeLine:=by rw[N,sizeLine_eq];lia
  have led:(J.led&&t.led)=!byTx w:=by rw[ld,a6,Bool.and_self]
  unfold SetTable.road;rw[if_neg (by rw[fl];simp)]
  by_cases c:(J.mask==t.mask&&t.dummies.isEmpty)=true
  .rw[if_pos c]
   dsimp only;refine wpAny_storeSet_of (prog:=prog) (w:=w) W Z (h _ xs (er+1) (k1.trans (Heap.SameBut.update R r _)) (.refl _) (_,es,_,dJ W Z,e,rfl,u,P,led,λz=>g (by simpa [pn]using z))) line
  .rw[if_neg c]
   dsimp only;obtain⟨C,F,zs,U,K,py,ey,I,q,pl,_⟩:=qA (kd:=kd) (t:=t) (f:=J.finger) (v:=J.moves) (l:=J.led&&t.led) (p:=J.plain&&t.plain) hm j P (λz=>g (by rw[be0]at z;erw[z.2]));rw[U];dsimp only;rw[if_neg (by rw[K];simp)];erw[wb0 (wq0 (wpAny_storeSet_of (prog:=prog) (w:=w) W Z (h _ zs (er+1) (k1.trans (Heap.SameBut.update R r _)) py (_,_,_,dJ W Z,e,rfl,I,ey,q.trans led,pl)) (by rw[K];exact line)))]
 unfold setRoomFor;refine wb0 (wb0 (wpAny_setState_of (es:=#[]) (ep:=0) (t:=.fresh 0 0 (!byTx w)) T rfl rfl ?_));dsimp only[SetTable.roomFor,SetTable.fresh,SetTable.fill];simp only[ls0,List.length_nil,Nat.zero_add]
 by_cases c:es.size*5≥7*3
 .rw[if_pos c]
  dsimp only;obtain⟨b1,k,b4⟩:=qz (es.size*2) @1;unfold setRelay;refine wb0 (wpAny_setState_of (es:=#[]) (ep:=0) (t:=.fresh 0 0 (!byTx w)) T rfl rfl ?_);dsimp only;rw[if_neg (by rw[sizeLine_eq];lia)];obtain⟨C,F,U,e2,d,D,e5,e6⟩:=qy (f:=0) (v:=SetTable.movedTo (.fresh 0 0 (!byTx w)) (SetTable.sizeAbove (es.size*2)-1)) (l:=!byTx w) (p:=true) (hs:=#[]) k (Nat.zero_le _);have ri:=ql U;have U:SetTable.relaid (.fresh 0 0 (!byTx w)) (Array.map (λx:Int×Value=>x.fst) #[]) (es.size*2)=some (Prod.mk C F):=by rw[Array.map_empty];erw[U]
  rw[U];have K:(F.filterMap ((#[]:Array (Int×Value))[·]?)).size=0:=by
   have:=(kj (es:=#[]) e2).length_eq
   rwa [al0]at this
  refine wb0 (?_:wpAny _ _ (if ((F.filterMap ((#[]:Array (Int×Value))[·]?)).size != (#[]:Array (Int×Value)).size)=true then _ else pure (Prod.mk (F.filterMap ((#[]:Array (Int×Value))[·]?)) C)) _ _ _);rw[if_neg (by rw[K];simp)];refine wq0 (wpAny_storeSet_of (prog:=prog) (w:=w) T rfl ?_ (by rw[K];erw[Nat.zero_le _]));have D:=D;refine go C _ 1 _ _ (Heap.SameBut.update _ r _) (d▸k) (by rw[d];lia) ?_ ?_ e5 e6 (dJ T rfl) (rfl,rfl,rfl) rfl
  .unfold SetTable.fits SetTable.fill
   rw[K,D,ri];simp
  .unfold SetTable.fill
   rw[D,ri];rfl
 .rw[if_neg c]
  dsimp only;erw[wq0 (go (.fresh 0 0 (!byTx w)) #[] 0 _ _ (Heap.SameBut.refl _ _) (.inl rfl) (by lia:xs.length<=7) rfl rfl rfl rfl T (rfl,rfl,rfl) rfl)]
theorem uF{S:Addr}{xs}{ep}{nm}{Q}(F:S≠r):∀(l J:List (Y×Tok))(er:Nat)(s:Shared),J.length+l.length<4000->(J.map (·.1)).Nodup->StrSet kd s.heap S xs ep->StrSet kd s.heap r J er->
  (∀h' zs K,Heap.SameBut r s.heap h'->StrSet kd h' r zs K->(zs.map (·.1)).Nodup->(∀y,y∈zs.map (·.1)↔y∈J.map (·.1)\/y∈l.map (·.1))->zs.length<=J.length+l.length->Q ⟨⟩ {s with heap:=h'})->
  wpAny @3 A (forIn (l.map kd.e) PUnit.unit λx a=>match x with
   |(h,x)=>do
    let _ ←holding [x] (setAddHashed r x h)
    Builtin.Frozenset.unchanged nm S ep
    if (<-setState S).2.1 != ep then do
     (unsupported "set.changed-during-merge":Sem PUnit)
     pure (.yield PUnit.unit)
    else pure (.yield PUnit.unit)) Q E s
 |[],J,er,s,U,nd,T,R,h=>wq0 (h s.heap J er (Heap.SameBut.refl _ _) R nd (λy=>by simp) (nr0 _))
 |p::l,J,er,s,U,nd,T,R,h=>by
  have U:=U;rw[mk0,List.forIn_cons];refine wb0 (wb0 (wh0 (GU (x:=p.1) (tk:=p.2) R @5 λZ j B b M D I=>?_)));have L:=T.keep λo e=>(M.2 _ F).trans e
  unfold Builtin.Frozenset.unchanged;refine wb0 (wb0 (EJ L ?_));rw[if_neg @0];refine wq0 ?_;obtain⟨o,g,t,N,a2,O,W,z,q,u⟩:=id L;refine wb0 (wpAny_setState_of (s:={s with heap:=Z}) N O W ?_);rw[if_neg @0];refine wq0 ?_;obtain⟨P,m1,f⟩:=iE nd I;refine uF F l j B {s with heap:=Z} (by grind) P L D λC zs K V N a2 O W=>h C zs K (M.trans V) N a2 (λy=>(O y).trans ?_) (by rw[lc0];grind)
  rw[m1 y,mk0,List.mem_cons,or_assoc]
def sP{S:Addr}{xs ys}{ep er}{nm}{Q:A7}(hr:∀k t a,kd.vl k t≠.ref a)(ne:r≠S)(I:StrSet kd s.heap S xs ep)(hR:StrSet kd s.heap r ys er)(h1:xs≠[])(h2:ys≠[])(nd:(ys.map (·.1)).Nodup)(hz:ys.length+xs.length<16)
  (h:∀h' d zs N,Heap.SameBut r s.heap h'->StrSet kd h' r zs N->(zs.map (·.1)).Nodup->(∀y,y∈zs.map (·.1)↔y∈ys.map (·.1)\/y∈xs.map (·.1))->zs.length<=ys.length+xs.length->Q () {s with heap:=h',drawn:=d}):wpAny (model prog w) A (setMerge r S (Builtin.Frozenset.unchanged nm S ep)) Q E s:=by
 obtain⟨o,P,t,g,a2,f,v,l,a6,a7⟩:=id I;have K:P.size=xs.length:=by rw[<-al0,l,lm0]
 unfold setMerge;rw[if_neg (by simpa using ne)];refine wb0 (wpAny_setState_of g f v ?_);dsimp only;have e0:P.isEmpty=false:=by
  rw[Array.isEmpty_eq_false_iff];intro z;rw[z]at K;erw[h1 (ez0 K.symm)]
 rw[if_neg (by rw[e0];erw[fx0]),K];refine wb0 (qB hR hz λh' zs N j M J=>?_);obtain⟨o',O,u,p,b2,b3,W,b5,b6,b7⟩:=id J;have U:O.size=zs.length:=by rw[<-al0,b5,lm0]
 refine wb0 (wpAny_setState_of (s:={s with heap:=h'}) p b3 W ?_);dsimp only;have fi:u.place.size=O.size:=by
  unfold SetTable.fits at W;rw[be0,beq_iff_eq]at W;erw[W.1]
 have fl:(u.fill != 0)=true:=by
  rw[bne_iff_ne];unfold SetTable.fill;rw[fi,U,M.length_eq];intro z;erw[h2 (ez0 @6)]
 unfold SetTable.road;rw[if_pos fl];dsimp only;have R:=I.keep λo e=>(j.2 _ ne.symm).trans e
 refine wb0 (Df (s:={s with heap:=h'}) hr R J (by rw[M.length_eq];grind) (λq m=>by rw[List.mem_singleton]at m;rw[m];exact(_,_,J)) λL h3 Z d D V F=>?_);rw[<-Array.forIn_toList];refine wb0 (uF (kd:=kd) (nm:=nm) ne.symm L zs Z {s with heap:=h3,drawn:=d} (by rw[D.length_eq,M.length_eq];grind) ((M.map _).nodup_iff.mpr nd) (R.keep λo e=>(V.2 _ ne.symm).trans e) F λh4 us T B c1 c2 c3 C=>wq0 (h h4 d us T (j.trans (V.trans B)) c1 c2 (λy=>(c3 y).trans ?_) (by rw[D.length_eq,M.length_eq]at C;erw[C])));rw[(D.map _).mem_iff,(M.map _).mem_iff]
def rk:entryFor table "set.__or__"=some Builtin.«frozenset.__or__»:=by refine entryFor_alias (id':="frozenset.__or__") ?_ rfl ?_ ?_<;>first|kernel_rfl|rfl
def Di{S T}{xs ys}{ep eq}{Q}(hr:∀k t a,kd.vl k t≠.ref a)(j:S≠T)(U:StrSet kd s.heap S xs ep)(M:StrSet kd s.heap T ys eq)(nx:(xs.map (·.1)).Nodup)(ny:(ys.map (·.1)).Nodup)(hz:xs.length+ys.length<16)
  (h:∀h' d r zs er,(∀b o,s.heap.get? b=some o->h'.get? b=some o)->s.heap.objs.size<=r->StrSet kd h' r zs er->(zs.map (·.1)).Nodup->(∀y,y∈zs.map (·.1)↔y∈xs.map (·.1)\/y∈ys.map (·.1))->zs.length<=xs.length+ys.length->Q (.ref r) {s with heap:=h',drawn:=d}):
  wpAny @3 A (binaryOp .BitOr (.ref S) (.ref T)) Q E s:=by
 refine wpAny_binaryOp_same (T:="set") U.isA M.isA F.fills_set_or F.slot_set_or (wpAny_call_entry F.slot_set_or U.isA rk ?_ (F.args_set_or_2 _ _));unfold Builtin.«frozenset.__or__»;refine wb0 (wb0 (m:=slotArgs "__or__" 1 _) (wq0 (wq0 ?_)));dsimp only;rw[if_neg fx0];refine wb0 (m:=andM (Builtin.Frozenset.isAnySet (.ref S)) (Builtin.Frozenset.isAnySet (.ref T))) ?_;refine wb0 (ou U.isA (ou M.isA ?_));refine wb0 (m:=Builtin.Frozenset.addrOf (.ref S)) (wq0 ?_);refine wb0 (?_:wpAny _ _ (Builtin.Frozenset.copyOf S >>= _) _ _ _)
 unfold Builtin.Frozenset.copyOf Builtin.Frozenset.baseOf;refine wb0 (wb0 (wb0 (wpAny_isInstance U.isA uD (wq0 ?_))));rw[if_pos rfl];refine wb0 (Dg (kd:=kd) λhR=>?_);have u:∀b o,s.heap.get? b=some o->(s.heap.push (aq w)).get? b=some o:=λb o e=>ps0 _ e
 have nb:∀b o,s.heap.get? b=some o->b≠s.heap.objs.size:=λb o e=>nn0 (hs0 e)
 have ltS:S≠s.heap.objs.size:=by obtain⟨o,e,_⟩:=U.cls;erw[nb _ _ e]
 have O:T≠s.heap.objs.size:=by obtain⟨o,e,_⟩:=M.cls;erw[nb _ _ e]
 have Z:=U.keep λo e=>u S o e
 have L:=M.keep λo e=>u T o e
 have l:(s.heap.push (aq w)).get? s.heap.objs.size=some (aq w):=pz0 _ rfl;refine wb0 (m:=Builtin.Frozenset.addrOf @11) (wq0 (wb0 ?_));have fin:∀(h':Heap)(d:Drawn)(zs:List (Y×Tok))(er:Nat),Heap.SameBut s.heap.objs.size (s.heap.push (aq w)) h'->StrSet kd h' s.heap.objs.size zs er->(zs.map (·.1)).Nodup->(∀y,y∈zs.map (·.1)↔y∈xs.map (·.1)\/y∈ys.map (·.1))->zs.length<=xs.length+ys.length->wpAny @3 A.in1 (pure @11) (λa D=>wpAny @3 A.in1 (ret a) (λfin D=>∃v,fin=Fin.done (Flow.ret v)/\v≠Value.notImplemented/\Q v D) E D) E {s with heap:=h',drawn:=d}:=λh' d zs er R p a2 a3 a4=>
  wq0 (wq0 (_,rfl,λz=>(nomatch z),h h' d _ zs er (λb o e=>(R.2 _ (nb b o e)).trans (u b o e)) (nr0 _) p a2 a3 a4))
 have upd:∀(V:Heap),StrSet kd V T ys eq->∀(P:A0),wpAny @3 A.in1 (setMerge s.heap.objs.size T (Builtin.Frozenset.unchanged (toString "frozenset."++toString "__or__") T eq)) (λc D=>wpAny @3 A.in1 (pure @11) P E D) E {s with heap:=V}->wpAny (model prog w) A.in1 (if (Value.ref T != .ref S)=true then (do
   let a ←Builtin.Frozenset.addrOf @11
   let __r ←holding [.ref s.heap.objs.size] (Builtin.Frozenset.updateFrom (toString "frozenset."++toString "__or__") a (.ref T))
   (λ(_:PUnit)=>(pure @11:Sem Value)) __r)else pure (.ref s.heap.objs.size)) P E {s with heap:=V}:=λV M P q=>by
  rw[if_pos (by simpa using j.symm)];refine wb0 (m:=Builtin.Frozenset.addrOf @11) (wq0 (wb0 (wh0 ?_)));unfold Builtin.Frozenset.updateFrom;refine wb0 (ou (s:={s with heap:=V}) M.isA ?_);rw[if_pos rfl];refine wb0 (m:=Builtin.Frozenset.addrOf (.ref T)) (wq0 ?_);unfold Builtin.Frozenset.merge;erw[wb0 (EJ M q)]
 by_cases C:xs=[]
 .subst C
  refine iJ Z (wq0 (upd _ L _ ?_))
  by_cases W:ys=[]
  .subst W
   erw[iJ L (fin _ s.drawn [] 0 (Heap.SameBut.refl _ _) hR .nil (λy=>by simp) (Nat.zero_le _))]
  .erw[mw (s:={s with heap:=s.heap.push (aq w)}) l O.symm L W (by lia) λB zs er R J K=>fin B s.drawn zs er R K ((J.map _).nodup_iff.mpr ny) (λy=>by rw[(J.map _).mem_iff];simp) (by rw[J.length_eq];lia)]
 .refine mw (s:={s with heap:=s.heap.push (aq w)}) l ltS.symm Z C (by lia) λB zs er R J K=>wq0 ?_
  have N:=L.keep λo e=>(R.2 _ O).trans e
  refine upd _ N _ ?_
  by_cases W:ys=[]
  .subst W
   erw[iJ N (fin B s.drawn zs er R K ((J.map _).nodup_iff.mpr nx) (λy=>by rw[(J.map _).mem_iff];simp) (by rw[J.length_eq];lia))]
  .erw[sP (s:={s with heap:=B}) hr O.symm N K W (λz=>C (by rw[z]at J;exact J.symm.eq_nil)) ((J.map _).nodup_iff.mpr nx) (by rw[J.length_eq];lia) λh2 d us I g b1 b2 b3 f=>fin h2 d us I (R.trans g) b1 b2 (λy=>(b3 y).trans (by rw[(J.map _).mem_iff])) (by rw[J.length_eq]at f;exact f)]
end
end PySem
namespace L2.Z
set_option genInjectivity false
open PySem PySem.Spec PyProof.Rows L2 L2.C SI
section
variable {prog:Program}{w:World}{E:A0}
def zW(x:Str):(aD prog w).hash (.inr x)=(kdS prog w).knd.hash x:=rfl
def kN{d S}{kvs}{ep}{M:A1}{R}(l:s.heap.get? S=some (aq w))(hd:s.heap.DictAt (aD prog w) d kvs ep)(lo:(d==sysModules)=false)(hk:kvs.map (·.1)=M.map .inr)(hz:M.length<16)
  (h:∀h' L ep,StrSet (kdS prog w) h' S L ep->(L.map (·.1)).Nodup->(∀y,y∈L.map (·.1)↔y∈M)->L.length<=M.length->Heap.SameBut S s.heap h'->R (.ok (.ret .none)) {s with heap:=h'}):
  codeAny @3 A (.call (.builtin "set.__init__") ([.ref S,.ref d],[])) R s:=by
 have hT:s.TypeIs (.ref S) "set":=(_,l,rfl);have j7:=hd.dictOf.typeIs;refine codeAny_call_builtin F.called_set.init.plain F.entry_set_init (check_set_init_1 hT ?_);have q1:=F.sub_dict_set;have q2:=F.sub_dict_frozenset;unfold Builtin.«set.__init__» noKeywords Builtin.Frozenset.updateFrom
 wp_walk
 obtain⟨o,J,j,j1,K,j3,q,j8⟩:=id hd;have V:J.size=M.length:=by
  have e1:=q.length;have p:=congrArg List.length hk;rw[lm0,lm0]at p;rw[al0]at e1
  lia
 have P:d≠S:=λe=>by
  subst e;rw[j]at l;cases l;erw[absurd (show Value.type "set"=Value.type "dict" from j1.1) @2]
 have S0:StrSet (kdS prog w) s.heap S [] 0:=(aq w,#[],.fresh 0 0 (!byTx w),l,(rfl,rfl,rfl),rfl,rfl,rfl,rfl,λa=>rfl);refine wpAny_loadPart j ?_;rw[K];refine wq0 (wb0 (wpAny_dictEntries j K (wb0 (qB (kd:=kdS prog w) (s:=s) S0 (by rw[V,List.length_nil];lia) λg zs er sb pz j0=>?_))));have zn:=pz.eq_nil;subst zn;have j4:=(sb.2 _ P).trans j;refine wb0 (wpAny_dictEntries (s:={s with heap:=g}) j4 K (wb0 ?_));rw[Std.Legacy.Range.forIn_eq_forIn_range'];simp only[Std.Legacy.Range.size,Nat.sub_zero,Nat.add_sub_cancel,Nat.div_one];refine wpAny_forIn_list _
  (λrest a s'=>∃h' i L er,s'={s with heap:=h'}/\rest=List.range' i (J.size-i)/\i<=J.size/\Heap.SameBut S s.heap h'/\StrSet (kdS prog w) h' S L er/\(L.map (·.1)).Nodup/\(∀y,y∈L.map (·.1)↔y∈M.take i)/\L.length<=i)
  _ ?_ ?_ _ _ (g,0,[],er,rfl,by simp,Nat.zero_le _,sb,j0,.nil,λy=>by simp,nr0 _)
 .rintro x rest b s' ⟨h',i,L,er,rfl,B,hi,O,W,nd,Q,j6⟩
  have N:i<J.size:=by
   rcases Nat.lt_or_ge i J.size with h|h
   .erw[h]
   .rw[Nat.sub_eq_zero_of_le h]at B;simp at B
  obtain⟨rfl,C⟩:x=i/\rest=List.range' (i+1) (J.size-(i+1)):=by
   have e:J.size-i=(J.size-(i+1))+1:=by lia
   rw[e,List.range'_succ]at B;injection B with g f
   exact(g,f)
  have z:=(O.2 _ P).trans j;refine wb0 (wpAny_dictEntries (s:={s with heap:=h'}) z K ?_);rw[Array.getElem?_eq_getElem N];have D:x<M.length:=by lia
  obtain⟨kv,I⟩:∃kv,kvs[x]?=some kv:=(kvs[x]'(by rw[show kvs.length=M.length by simpa using congrArg List.length hk];erw[D]),ge0 _);obtain⟨k,v⟩:=kv;have ek:k=.inr M[x]:=by
   have:=congrArg (·[x]?) hk
   simpa [I,D]using this
  subst ek;obtain⟨U,_⟩:=q.get? (e:=J[x]) (by simp[N]) I;obtain⟨k',T,Z⟩:=j3 J[x] (Array.getElem_mem N);obtain rfl:k'=.inr M[x]:=(aD prog w).inj _ _ _ T U;obtain⟨t,et⟩:=lJ U;show wpAny _ _ (holding [J[x].key] (setAddHashed S J[x].key J[x].hash) >>= _) _ _ _;rw[Z,et,zW];refine wb0 (wh0 (GU (kd:=kdS prog w) (s:={s with heap:=h'}) (x:=M[x]) (tk:=t) W (by lia) λf y2 p b u S2 p2=>?_));obtain⟨n2,m2,z2⟩:=iE nd p2;have j5:=(u.2 _ P).trans z;refine wb0 (wpAny_dictEpoch (s:={s with heap:=f}) j5 K ?_)
  rw[if_neg @0];refine wq0 (f,x+1,y2,p,rfl,C,N,O.trans u,S2,n2,λy=>?_,by lia);rw[m2 y,Q y,List.take_succ,ge0 D,Option.toList_some,List.mem_append,List.mem_singleton]
 .rintro b s' ⟨h',i,L,er,rfl,B,hi,O,W,nd,Q,j6⟩
  have j2:i=J.size:=by
   rcases Nat.lt_or_ge i J.size with h|h
   .have e:J.size-i=(J.size-(i+1))+1:=by lia
    rw[e,List.range'_succ]at B;erw[nomatch B]
   .erw[Nat.le_antisymm hi h]
  refine wq0 (wq0 (h h' L er W nd (λy=>(Q y).trans ?_) @1 O));rw[j2,V,List.take_length]
def kP{d}{kvs}{ep}{K:A1}{Q}(R:s.heap.DictAt (aD prog w) d kvs ep)(lo:(d==sysModules)=false)(U:kvs.map (·.1)=K.map .inr)(hz:K.length<16)
  (h:∀h' S J ep,s.heap.objs.size<=S->StrSet (kdS prog w) h' S J ep->(J.map (·.1)).Nodup->(∀y,y∈J.map (·.1)↔y∈K)->J.length<=K.length->(∀b o,s.heap.get? b=some o->h'.get? b=some o)->Q (.ref S) {s with heap:=h'}):
  wpAny @3 A (call (.type "set") [.ref d]) Q E s:=
 dN _ λV a=>kN (s:={s with heap:=s.heap.push (aq w)}) (pz0 _ rfl) (R.push _) lo U hz λh' J ep L a2 M N O=>(rfl,h h' _ J ep (nr0 _) L a2 M N λb o e=>(O.2 _ (nn0 (hs0 e))).trans (ps0 _ e))
end
section
variable {p p2 p3 q q2 q3:Pos}{d:D}
def mx:bb X (.type "set") (λxs H Q=>∃(r:Addr)(U:Obj)(O:List (Key×V))(J:A1),xs=[.ref r]/\H r=some (.frz U (.dK O))/\O.map (·.1)=J.map .inr/\J.length<16/\∀l (K:A1),H l=none->K.Nodup->(∀y,y∈K↔y∈J)->K.length<=J.length->Q (.ref l) (upd H l (.ext (jc (kdS X.prog X.w) l K)))):=by
 intro W s t H xs f Q I r h;obtain⟨P,U,O,J,rfl,D,F,B,k⟩:=h;obtain⟨u,rfl,E⟩:=vals1 r;cases E;obtain⟨g,_,lo,v,C,Z⟩:=I.hok P _ D;obtain⟨ep,L⟩:=Z.dictAt;refine kP L lo (C.keys.symm.trans F) B λz S j ep R T nd N M kk=>?_
 exact(.ref S,_,I.laid (t':=s.toks) kk R (gS T),rfl,k S (j.map (·.1)) (I.hok.fresh R) nd N (by rw[lm0];erw[M]))
def GX:OpR X (binaryOp .BitOr) (λx y H Q=>∃(l m:Addr)(J js:A1),x=.ref l/\y=.ref m/\l≠m/\H l=some (.ext (jc (kdS X.prog X.w) l J))/\H m=some (.ext (jc (kdS X.prog X.w) m js))/\J.Nodup/\js.Nodup/\J.length+js.length<16/\∀r zs,H r=none->zs.Nodup->(∀y,y∈zs↔y∈J\/y∈js)->zs.length<16->Q (.ref r) (upd H r (.ext (jc (kdS X.prog X.w) r zs)))):=by
 intro M s E H x y v u Q I F D h;obtain⟨l,m,J,js,rfl,rfl,ne,V,W,nk,T,N,k⟩:=h;cases F;cases D;obtain⟨⟨S,ep,rfl,R⟩,_⟩:=(I.hok l _ V:ObjOk X.prog X.w H s.heap l (.ext _));obtain⟨⟨P,B,rfl,U⟩,_⟩:=(I.hok m _ W:ObjOk X.prog X.w H s.heap m (.ext _));rw[lm0,lm0]at N;refine Di (λa a a z=>by cases z) ne R U nk T N λC d r zs er kk L O nd K Z=>?_
 exact(.ref r,_,(mq I d).laid (s:={s with drawn:=d}) (t':=s.toks) kk L (gS O),rfl,k r (zs.map (·.1)) (I.hok.fresh L) nd K (by rw[lm0];lia))
def wZ{x y}(L:X.calm=true)(Z:Blt X "sorted")(J:Blt X "set")(h:BZ x y=some d)(ha:Er X Y a x)(hb:Er X Y b y)(hs:isStar a=false)(R:isStar b=false):Ev X Y (.Call (.Name "sorted" p) [.BinOp (.Call (.Name "set" p2) [a] [] q) .BitOr (.Call (.Name "set" p3) [b] [] q2) q3] [] pos) d:=by
 cases x with
 |fdc kv=>
  cases y with
  |fdc jv=>
   obtain⟨ss,h1,h⟩:=bS (h:(cz kv).bind _=some d);obtain⟨ts,h2,h⟩:=bS (h:(cz jv).bind _=some d);obtain⟨hz,rfl⟩:=iS (h:(if ss.length+ts.length<16 then some (D.list ((oV (ss++ts)).map .str))else .none)=some d)
   rintro W s σ H Q I ⟨G0,H0,G,E,k⟩
   have N:=λ{e:Expr} (h:isStar e=false)=>starEach_cons (env:=X.env) (es:=[]) h
   refine cZ (gO L) Z.g Z.m dP (pa_cons (xJ GX (cq mx J.g J.m iG (pa_cons ha pa_nil (N hs)) J.n J.d (N hs) rfl) (cq mx J.g J.m iG (pa_cons hb pa_nil (N R)) J.n J.d (N R) rfl)) pa_nil (N rfl)) Z.n Z.d (N rfl) rfl W s σ H Q I (G0,H0,G,E,λv P H1 B r1=>?_);obtain⟨r,ob,ws,rfl,a1,a2⟩:=r1.fdc B.gh;refine(r,ob,ws,ss,rfl,a1,a2.keys.symm.trans (cD h1).1,by lia,λl ks hl nd f j2=>?_);have e2:Ext P H1 P (upd H1 l (.ext (jc (kdS X.prog X.w) l ks))):=.hid B.gh hl;refine(G0,H0,P,E.step (B.trans e2),λv T F C r2=>?_)
   obtain⟨r',j0,j1,rfl,b1,b2⟩:=r2.fdc C.gh;refine(r',j0,j1,ts,rfl,b1,b2.keys.symm.trans (cD h2).1,by lia,λK S O t U len2=>?_);have e4:Ext T F T (upd F K (.ext (jc (kdS X.prog X.w) K S))):=.hid C.gh O;have M:=C.hh _ _ aa;have ne:l≠K:=λz=>by rw[z,O]at M;cases M
   refine(l,K,ks,S,rfl,rfl,ne,by rw[ab ne];erw[M],aa,nd,t,by lia,λr3 zs j o V len3=>?_);refine(r3,zs,rfl,aa,by lia,λr4 us u pe so=>?_);have e5:Ext T (upd F K (.ext (jc (kdS X.prog X.w) K S))) T (upd (upd F K (.ext (jc (kdS X.prog X.w) K S))) r3 (.ext (jc (kdS X.prog X.w) r3 zs))):=.hid e4.gh j;have e:=dM (uz so (pe.nodup_iff.mpr o)) (bj _) λy=>pe.mem_iff.trans ((V y).trans (((or_congr (f y) (U y)).trans List.mem_append.symm).trans (mem_srtS _ y).symm))
   subst e;refine k _ _ _ (B.trans (e2.trans (C.trans (e4.trans (e5.trans (.laid e5.gh u)))))) (.list aa ((pY λx hx=>?_).mono (Same.refl _)));rcases ma0 ((mem_srtS _ x).mp hx)with z|z
   .exact (cD h1).2 x z
   .exact (cD h2).2 x z
  |_=>cases h
 |_=>cases h
def sQ(hc:X.calm=true):bb X (.type "list") (λxs H Q=>∃(r:Addr)(F:Obj)(R:List (Key×V))(K:A1),xs=[.ref r]/\H r=some (.frz F (.dK R))/\R.map (·.1)=K.map .inr/\∀l,H l=none->Q (.ref l) (upd H l (.lst (K.map V.str)))):=by
 intro D s σ H xs us Q I r h;obtain⟨o,F,R,K,rfl,f,E,k⟩:=h;obtain⟨u,rfl,e⟩:=vals1 r;cases e;obtain⟨g,z,lo,O,U,S⟩:=I.hok o _ f;obtain⟨ep,N⟩:=S.dictAt;have J:=U.keys.symm.trans E;have Z:O.length=K.length:=by simpa using congrArg List.length J
 have T:O.length<=sizeLine:=by rw[<-KV.length U];erw[z]
 refine PySem.W.kdl_call (PySem.W.kdl_dict (kvs:=O) (ep:=ep) lo) (I.ok.hd hc) N T λh' tk L c kk M items=>?_
 have sa:=uh (by rw[al0,items.1,Z]) λj v i B C=>by
  obtain⟨k',x,t,P⟩:=items.2 j v (by rw[<-Array.getElem?_toList];erw[B]);have:=congrArg (·[j]?) J;simp only[gm0,t,C,mo0]at this;cases this;erw[lJ P]
 exact(.ref s.heap.objs.size,_,I.laid (t':=tk) kk (nr0 _) (show ObjOk X.prog X.w _ _ _ (.lst _)from(by rw[lm0,<-Z];erw[T],L.toList,c,gm sa,by simpa using M)),rfl,k _ I.fresh)
end
def jk{e}{env}(h:isSet e=false):∀x,foldedSetIterable e env x=pure x:=by
 intro x;cases e<;>first|rfl|cases h
section
variable {k:Nat}{C:Cs}{c e:Expr}{a' b' c':E}{as:A3}{as':Es}{p:Pos}{f:Str}{na nb nc:Bool}
theorem Wz.blk(w:Wz X Φ Γ C k){B}{sc}{N}(h:B.fns=C.fns/\B.cst=C.cst/\B.vc=C.vc/\B.vms=C.vms/\B.io=C.io)(A:Addr)(s)(H:Hp)(fp):Wz (L2.C.blk X sc N A s H fp) Φ Γ B k:=
 (w.blt,λx O K J=>w.fns x (by rwa [<-h.1]) K J,w.gl,w.room,w.two,λc L=>w.vc c (by rwa [<-h.2.2.1]),λc m L M K J=>w.vf c m (by rwa [<-h.2.2.1]) (by rwa [<-h.2.2.2.1]) K J,by rw[h.2.2.1,h.2.2.2.2];erw[w.io])
def Wz.u1(w:Wz X Φ Γ C k):X.A.units+1<cLine:=by have:=w.room.units;grind
def Dj{d}(h:∀Y,Ev X Y e d)(K:∀J,isTrue e X.env J=(do let v ←J;standAt e.pos;holding [v] (truthy v))):SdE X Φ Γ e (.k d) false:=ba (λa a=>rfl) (λY L q=>by simp_all) K
def GY(V:VarOk X x i):SdE X Φ Γ (.Name x p) (.v i) false:=by
 refine(λq=>(λJ s Z H Q I ⟨T,F,G,E,k⟩=>by
   obtain⟨sl,K,L⟩:=bx0 q;obtain⟨v,e,r⟩:=E.val K L;erw[fF V.at' V.vis V.d V.cd _ s Z H Q I (v,e,k v G H (.refl E.sub) r)]),λq=>yq i q V.at' V.vis V.d V.cd,λq=>GG i q V.at' V.vis V.d V.cd,λq=>?_,λz=>by cases z)
 obtain⟨D,M,N⟩:=bS q;obtain⟨t,O,R⟩:=mS N;refine(t,R.symm,jN (yq i ?_ V.at' V.vis V.d V.cd) O λa=>rfl);obtain⟨sl,U,W⟩:=bS M;rw[U];cases sl<;>exact W
def Mz(c:CxC X C)(w:Wz X Φ Γ C k)(h:ah C x=true):SdE X Φ Γ (.Name x p) (.g x) false:=ba (λa a=>rfl) λY d N=>by
 obtain⟨u,v,K,L,M⟩:=w.gl x d N
 rintro J s O H Q I ⟨R,U,G,E,k⟩;erw[BE (bQ c h).1 K L (bQ c h).2.2 J s O H Q I (k _ G H (.refl E.sub) (M G))]
def JX{op}{o}(h:cOp op=some o)(A:SdE X Φ Γ a a' na)(B:SdE X Φ Γ b b' nb):SdE X Φ Γ (.BinOp a op b pos) (.op o a' b') true:=eA (λc c=>rfl) λY d q=>by
 obtain⟨x,J,q⟩:=bS q;obtain⟨y,K,q⟩:=bS q;have:=yv (pos:=pos) h q (A.r J) (B.r K);exact(this.1,λc=>this.2)
def GZ(A:SdE X Φ Γ a a' na):SdE X Φ Γ (.UnaryOp .USub a pos) (.neg a') false:=ba (λb b=>rfl) λY d q=>by
 obtain⟨x,J,q⟩:=bS q;obtain⟨i,K,rfl⟩:=mS q;obtain rfl:=cP K;erw[yw (A.v J)]
def Ha(A:SdE X Φ Γ a a' na):SdE X Φ Γ (.UnaryOp .Not a pos) (.not a') false:=by
 have J:∀{Y d},ev Φ Γ .val Y (.not a')=some d->Ev X Y (.UnaryOp _ a pos) d:=λq=>by
  obtain⟨x,N,q⟩:=bS q;obtain⟨t,O,rfl⟩:=mS q;obtain rfl:=rV O;exact (have h:=(A.v N);λK s R H Q I ⟨L,M,G,E,k⟩=>
    FA h _ s R H Q I (L,M,G,E,λv U V W F=>by
     cases F;exact(t,rfl,k _ U V W (.bool _))))
 refine(J,λq=>(J q).er,λq=>(J q).ek,λq=>?_,λz=>by cases z);obtain⟨x,N,q⟩:=bS q;obtain⟨t,O,rfl⟩:=mS q;obtain⟨b,rfl,T⟩:=A.t N;cases O;exact(_,rfl,(λK s R H Q I Z=>Fy T _ s R H Q I (let ⟨L,M,G,E,k⟩:=Z;(L,M,G,E,k))))
def Hc{op}{o}(w:Wz X Φ Γ C k)(h:rW op=some o)(hs:(!isSet b)=true)(A:SdE X Φ Γ a a' na)(B:SdE X Φ Γ b b' nb):SdE X Φ Γ (.Compare a [op] [b] pos) (.cmp o a' b') false:=by
 have both:∀{Y d},((ev Φ Γ .read Y a').bind λx=>(ev Φ Γ .read Y b').bind λy=>(dA o x y).map D.bool)=some d->∃t,d=.bool t/\Ev X Y (.Compare a _ _ pos) (.bool t)/\Et X Y (.Compare a _ _ pos) t:=λq=>by
  obtain⟨x,q1,q⟩:=bS q;obtain⟨y,q2,q⟩:=bS q;obtain⟨t,q3,rfl⟩:=mS q;obtain⟨r,hr,l⟩:=wW w.room.units h q3;exact(t,rfl,(have T:=(A.r q1);have F:=(B.r q2);have S:=(jM (nt hs));(by rintro N s g H Q I ⟨K,L,G,E,k⟩;erw[BM hr T F S _ s g H Q I (K,L,G,E,λx R H1 M P=>(K,L,R,E.step M,λy U W J j=>l x y U W Q J.gh (P.ext J) j λv O V Z u=>k v O V (M.trans (J.trans Z)) u))])),(have T:=(A.r q1);have F:=(B.r q2);have S:=(jM (nt hs));λN s g H Q I ⟨K,L,G,E,k⟩=>tX hr T F S _ s g H Q I (K,L,G,E,λx R H1 M P=>(K,L,R,E.step M,λy U W J j=>
     l x y U W _ J.gh (P.ext J) j λv O V Z u=>by
      cases u;exact(t,rfl,k O V (M.trans (J.trans Z)))))))
 refine yZ (λc c=>rfl) (λY d q=>?_) λY d t q ht=>?_
 .obtain⟨t,rfl,z,_⟩:=both q;simp_all
 .obtain⟨t,rfl,_,z⟩:=both q;simp_all
def qC{op op'}{Y}{r r'}{d1 d2 d3}{t u}(w:OpR X (compareOp op) r)(V:OpR X (compareOp op') r')(j:Er X Y a d1)(q:Er X Y b d2)(hc:t=true->Er X Y c d3)
  (h1:R2r X.K r d1 d2 (.bool t)) (h2:t=true->R2r X.K r' d2 d3 (.bool u)) (g:lastMarks [op,op'] [b,c]=false) (hu:t=false->u=false):
  Ev X Y (.Compare a [op,op'] [b,c] pos) (.bool u)/\Et X Y (.Compare a [op,op'] [b,c] pos) u:=by
 have W:∀(O:TE),(t=true->O=tEr X.nk X.K Y d3)->∀(L:St)(H:Hp)(Q:VK),(∃M N G,EnvD X.nk X.K M N G H L Y/\∀v Z T,Ext G H Z T->Dp X.K Z (.bool u) v->Q v T)->rD r r' (tEr X.nk X.K Y d1) (tEr X.nk X.K Y d2) O L H Q:=by
  intro O S L H Q U;obtain⟨M,N,G,E,kk⟩:=U;refine(M,N,G,E,λx G1 H1 F r1=>(M,N,G1,E.step F,λy G2 H2 R r2=>h1 x y G2 H2 _ R.gh (r1.ext R) r2 λv P H3 D r3=>?_));cases r3;refine(t,rfl,?_);cases t with
  |true=>
   rw[S rfl];refine(M,N,P,((E.step F).step R).step D,λz G4 H4 B r4=>h2 rfl y z G4 H4 Q B.gh ((r2.ext D).ext B) r4 λv G5 H5 e5 r5=>kk v G5 H5 (F.trans (R.trans (D.trans (B.trans e5)))) r5)
  |false=>
   erw[kk _ P H3 (F.trans (R.trans D)) (by rw[hu rfl];exact .bool _)]
 have fin:∀O,PE X c O->(t=true->O=tEr X.nk X.K Y d3)->Ev X Y (.Compare a [op,op'] [b,c] pos) _/\Et X Y (.Compare a _ [b,c] pos) u:=λO l o=>
  (λJ s L H Q I U=>xK w V j q l g J s L H Q I (W _ o L H Q U),λJ s L H Q I U=>xM w V j q l g J s L H Q I (W _ o L H _ (by
   obtain⟨M,N,G,E,kk⟩:=U;exact(M,N,G,E,λv Z T e r=>by cases r;exact(u,rfl,kk Z T e)))))
 cases t with
 |true=>exact fin _ (hc rfl) λd=>rfl
 |false=>exact fin (λd d d=>False) (λd d d d d d z=>z.elim) λz=>by cases z
def zX{op op'}{o o'}(w:Wz X Φ Γ C k)(h:rW op=some o)(h':rW op'=some o')(hs:(!isSet c)=true)(A:SdE X Φ Γ a a' na)(B:SdE X Φ Γ b b' nb)(Cc:SdE X Φ Γ c c' nc):SdE X Φ Γ (.Compare a [op,op'] [b,c] pos) (.chain o o' a' b' c') false:=by
 have both:∀{Y d},((ev Φ Γ .read Y a').bind λx=>(ev Φ Γ .read Y b').bind λy=>(dA o x y).bind λt=>if t then (ev Φ Γ .read Y c').bind λz=>(dA o' y z).map D.bool else some (.bool false))=some d->
   ∃u,d=.bool u/\Ev X Y (.Compare a [op,op'] [b,c] pos) (.bool u)/\Et X Y _ u:=λq=>by
  obtain⟨x,R,q⟩:=bS q;obtain⟨y,U,q⟩:=bS q;obtain⟨t,V,q⟩:=bS q;obtain⟨r,N,L⟩:=wW w.room.units h V;have M:lastMarks [op,op'] [b,c]=false:=jM (nt hs);cases t with
  |true=>
   obtain⟨z,W,q⟩:=bS q;obtain⟨u,Z,rfl⟩:=mS q;obtain⟨r',K,J⟩:=wW w.room.units h' Z;exact(u,rfl,qC N K (A.r R) (B.r U) (λe=>Cc.r W) L (λe=>J) M (λz=>by cases z))
  |false=>
   cases q;exact(false,rfl,qC (d3:=.none) (r':=λe e e e=>False) N (λO s P H x y v u Q I F S h=>h.elim) (A.r R) (B.r U) (λz=>by cases z) L (λz=>by cases z) M (λe=>rfl))
 refine yZ (λe e=>rfl) (λY d q=>?_) λY d t q T=>?_
 .obtain⟨t,rfl,z,_⟩:=both q;exact(z,λz=>by cases z)
 .obtain⟨t,rfl,_,z⟩:=both q;simp_all
structure SdB(X:Cx)(Φ:Fs)(Γ:List (Str×D))(op:BoolOp)(es:A3)(f:E):Prop where
 v:∀{pos Y d},ev Φ Γ .val Y f=some d->Ev X Y (.BoolOp op es pos) d
 t:∀{pos Y d},ev Φ Γ .test Y f=some d->∃b,d=.bool b/\Ew X Y (.BoolOp op es pos) b
def uG{op}(B:SdB X Φ Γ op as a')(h:(∀Y,ev Φ Γ .read Y a'=ev Φ Γ .val Y a')/\∀Y,ev Φ Γ .walk Y a'=ev Φ Γ .val Y a'):SdE X Φ Γ (.BoolOp op as pos) a' false:=
 (B.v,λq=>(B.v (by rwa [<-h.1])).er,λq=>(B.v (by rwa [<-h.2])).ek,λq=>let ⟨b,e,z⟩:=B.t q;(b,e,z.et),λz=>by cases z)
def Hd{op}(A:SdE X Φ Γ a a' na):SdB X Φ Γ op [a] a':=(λq=>(have h:=(A.v q);Fz h),λq=>by
 obtain⟨b,rfl,t⟩:=A.t q;cases op with
 |And=>exact(b,rfl,(BG t))
 |Or=>exact(b,rfl,(Fx t)))
def zY(A:SdE X Φ Γ a a' na)(B:SdB X Φ Γ .And (b::as) b'):SdB X Φ Γ .And (a::b::as) (.and a' b'):=(λq=>by
 obtain⟨x,W,q⟩:=bS q;obtain⟨t,P,q⟩:=bS q;obtain rfl:=rV P;cases t with
 |true=>exact Cw (A.v W) (B.v q)
 |false=>cases q;exact (by
   have h:=(A.v W);intro J s U H Q I R;obtain⟨L,M,G,E,k⟩:=R;exact xE (tb:=λc c c=>False) h (λc c c c c c z=>z.elim) _ s U H Q I (L,M,G,E,λv O V N j=>by
    cases j;exact(_,rfl,nD (k _ O V N (.bool _))))),λq=>by
 obtain⟨x,W,q⟩:=bS q;obtain⟨t,rfl,Z⟩:=A.t W;cases t with
 |true=>
  obtain⟨b,rfl,S⟩:=B.t q;exact(b,rfl,(by
    intro K J s U H Q I R;obtain⟨L,M,G,E,k⟩:=R;erw[xD Z S _ _ s U H Q I (L,M,G,E,λO V N=>iteT (L,M,O,E.step N,λT F D=>k T F (N.trans D)))]))
 |false=>cases q;exact(_,rfl,(by
   intro K J s U H Q I R;obtain⟨L,M,G,E,k⟩:=R;erw[xD (tB':=λc c c=>False) Z (λc c c c c c c z=>z.elim) _ _ s U H Q I (L,M,G,E,λO V N=>nD (k O V N))])))
def EL(A:SdE X Φ Γ a a' na)(B:SdB X Φ Γ .Or (b::as) b'):SdB X Φ Γ .Or (a::b::as) (.or a' b'):=(λq=>by
 obtain⟨x,W,q⟩:=bS q;obtain⟨t,P,q⟩:=bS q;obtain rfl:=rV P;cases t with
 |true=>cases q;exact (by
   have h:=(A.v W);intro J s U H Q I R;obtain⟨L,M,G,E,k⟩:=R;exact Ei (tb:=λc c c=>False) h (λc c c c c c z=>z.elim) _ s U H Q I (L,M,G,E,λv O V N j=>by
    cases j;exact(_,rfl,iteT (k _ O V N (.bool _)))))
 |false=>exact GD (A.v W) (B.v q),λq=>by
 obtain⟨x,W,q⟩:=bS q;obtain⟨t,rfl,Z⟩:=A.t W;cases t with
 |true=>cases q;exact(_,rfl,(by
   intro K J s U H Q I R;obtain⟨L,M,G,E,k⟩:=R;erw[Eh (tB':=λc c c=>False) Z (λc c c c c c c z=>z.elim) _ _ s U H Q I (L,M,G,E,λO V N=>iteT (k O V N))]))
 |false=>
  obtain⟨b,rfl,S⟩:=B.t q;exact(b,rfl,(by
    intro K J s U H Q I R;obtain⟨L,M,G,E,k⟩:=R;erw[Eh Z S _ _ s U H Q I (L,M,G,E,λO V N=>nD (L,M,O,E.step N,λT F D=>k T F (N.trans D)))])))
def He(Cc:SdE X Φ Γ c c' nc)(A:SdE X Φ Γ a a' na)(B:SdE X Φ Γ b b' nb):SdE X Φ Γ (.IfExp c a b pos) (.ite c' a' b') false:=by
 have J:∀{Y d},ev Φ Γ .val Y (.ite c' a' b')=some d->Ev X Y (.IfExp c a b pos) d:=λq=>by
  obtain⟨x,P,q⟩:=bS q;obtain⟨t,rfl,T⟩:=Cc.t P;cases t with
  |true=>exact (by
    have D:=(A.v q);intro N s Z H Q I W;obtain⟨K,L,G,E,k⟩:=W;erw[ph (tb:=λe e e=>False) T D (λe e e e e e z=>z.elim) _ s Z H Q I (K,L,G,E,λO F M=>iteT (K,L,O,E.step M,λv R U V r=>k v R U (M.trans V) r))])
  |false=>exact (by
    have S:=(B.v q);intro N s Z H Q I W;obtain⟨K,L,G,E,k⟩:=W;erw[ph (ta:=λe e e=>False) T (λe e e e e e z=>z.elim) S _ s Z H Q I (K,L,G,E,λO F M=>nD (K,L,O,E.step M,λv R U V r=>k v R U (M.trans V) r))])
 exact(J,λq=>(J q).er,λq=>(J q).ek,λq=>(by cases (q)),λz=>by cases z)
def Hf{vc}(w:Wz X Φ Γ C k)(h:C.vc=some vc)(hs:(!bu a)=true)(j:x="objects")(A:SdE X Φ Γ a a' na):SdE X Φ Γ (.Attribute a x pos) (.vob vc a') false:=by
 subst j;have K:∀{Y d},((ev Φ Γ .read Y a').bind λx=>if lg vc x then some (D.list (FZ x))else .none)=some d->Er X Y (.Attribute a _ pos) d:=λq=>by
  obtain⟨x,L,q⟩:=bS q;obtain⟨P,rfl⟩:=iS q;obtain⟨hh,os,rfl⟩:=pL P;exact (have F:=(w.vc vc h).1;have B:=(w.vc vc h).2;have S:=(A.r L);have J:=(nt hs);λN s o H Q I ⟨O,U,G,E,k⟩=>rH S (base_of J) _ s o H Q I (O,U,G,E,λv R V W M=>by
     cases M with
     |of M=>cases M
     |vlt Z T r=>exact(_,_,_,_,_,rfl,Z,F,B,rfl,k _ R V W (.list T r))))
 refine(λq=>nn q,λq=>K q,λq=>nn q,λq=>?_,λz=>by cases z);obtain⟨d',L,u⟩:=bS q;obtain⟨t,g,l⟩:=mS u;exact(t,l.symm,jN (K L) g λb=>rfl)
def Hg(w:Wz X Φ Γ C k)(hs:(!isSlice b)=true)(A:SdE X Φ Γ a a' na)(B:SdE X Φ Γ b b' nb):SdE X Φ Γ (.Subscript a b pos) (.idx a' b') false:=ba (λc c=>rfl) λY d q=>by
 obtain⟨x,J,q⟩:=bS q;obtain⟨y,K,q⟩:=bS q;erw[wu w.u1 q (A.r J) (B.v K) (nt hs)]
def mD{z}{r}(h:ij z=some r):z=some (.io (.tbl r)):=by
 cases z with
 |none=>exact zn0 h
 |some z=>cases z with
  |io d=>cases d with
   |tbl=>cases h;rfl
   |_=>exact zn0 h
  |_=>exact zn0 h
def Dl{p1 p2}(V:VarOk X x i)(hs:(!isSlice a&&!isSlice b)=true)(A:SdE X Φ Γ a a' na)(B:SdE X Φ Γ b b' nb):SdE X Φ Γ (.Subscript (.Subscript (.Name x p1) a p2) b pos) (.idx2 i a' b') false:=ba (λc c=>rfl) λY d q=>by
 obtain⟨R,O,q⟩:=bS q;obtain⟨y1,q2,q⟩:=bS q;obtain⟨y2,q3,q⟩:=bS q;obtain⟨F,q4,z1⟩:=bS q;obtain⟨k2,q5,z2⟩:=bS z1;obtain⟨N,J,q7⟩:=bS z2;obtain rfl:=cP q4;obtain rfl:=cP q5;have Z:=mD O
 rintro L s σ H Q I ⟨S,P,G,E,k⟩
 obtain⟨v,ev,dr⟩:=E.read Z rfl;cases dr with
 |of z=>cases z
 |@tbl l D _ h1 r=>
  have U:∃j,R[j]?=some N/\L2.ixN R.length F=some j:=by
   rw[rY]at J;unfold L2.atI at J;cases z:L2.ixN R.length F with
   |none=>rw[z]at J;cases J
   |some j=>rw[z]at J;exact(j,J,rfl)
  obtain⟨j,g,hx⟩:=U;have T:=(gi0 g).1;obtain⟨M,w⟩:∃M,D[j]?=some M:=(_,ge0 (by rw[<-r.1];erw[T]));obtain⟨vs,h2,r2⟩:=r.2 j N M g w;refine pB fY (pB fY V.pe (A.v q2) (jV (nt (a2 hs).1))) (B.v q3) (jV (nt (a2 hs).2)) L s σ H Q I (.ref l,ev,S,P,G,E,λu t H1 K r1=>?_);cases r1;refine(l,D.map .ref,F,.ref M,rfl,rfl,SqL.of (K.hh _ _ h1),?_,S,P,t,E.step K,λu o H2 W r3=>?_)
  .unfold L2.atI
   rw[lm0,<-r.1,hx];show (D.map L2.V.ref)[j]?=_;rw[gm0,w];rfl
  .cases r3
   obtain⟨vv,a1,a3⟩:=(r2.mono (K.gg.trans W.gg)).atI q7;exact(M,vs,k2,vv,rfl,rfl,SqL.of (W.hh _ _ (K.hh _ _ h2)),a1,k _ o H2 (K.trans W) a3)
structure SdO(X:Cx)(Φ:Fs)(Γ:List (Str×D))(eo:Option Expr)(as:Es):Prop where
 o:∀{Y o},evP Φ Γ Y as=some o->PO X eo (tPt X.nk X.K Y o)
def Dm:SdO X Φ Γ .none .nil:=⟨λq=>by cases q;exact (by rintro J s K H Q I ⟨L,M,G,E,k⟩;erw[Hm _ s K H Q I (k G H (.refl E.sub))])⟩
def Dn(A:SdE X Φ Γ a a' na):SdO X Φ Γ (some a) (.cons a' .nil):=⟨λq=>by
 obtain⟨d,R,U⟩:=bS q;obtain⟨i,V,rfl⟩:=mS U;obtain rfl:=cP V;exact (have h:=(A.v R);λJ s Z H Q I ⟨K,M,G,E,k⟩=>
   BQ h _ s Z H Q I (K,M,G,E,λv L N O W=>by
    cases W;exact(i,rfl,k L N O)))⟩
def JY{lo J}{lo' hi'}(A:SdE X Φ Γ a a' na)(L:SdO X Φ Γ lo lo')(H:SdO X Φ Γ J hi'):SdE X Φ Γ (.Subscript a (.Slice lo J .none p) pos) (.sl a' lo' hi') true:=eA (λb b=>rfl) λY d q=>by
 obtain⟨x,V,q⟩:=bS q;obtain⟨y,W,q⟩:=bS q;obtain⟨z,Z,q⟩:=bS q;cases x with
 |list ds=>cases q;have:=wx (pos:=pos) (p2:=p) (A.r V) (L.o W) (H.o Z);exact(this.ev,λb b=>this)
 |str x=>
  obtain⟨U,rfl⟩:=iS q;exact((have P:=(A.r V);have g:=(L.o W);have u:=(H.o Z);λK s l H Q I ⟨M,N,G,E,k⟩=>wC P g u K s l H Q I (M,N,G,E,λv T t O w=>(M,N,T,E.step O,λF H2 R=>(M,N,F,(E.step O).step R,λD B S=>by
     obtain⟨rfl,ok⟩:=w.str;exact(x,rfl,by rw[big_eq]at U;erw[U],k _ D B (O.trans (R.trans S)) (.str _ ((by
       unfold Txt.slice;split
       .erw[ok]
       .rw[strOk_iff]at ok ⊢
        intro c j;obtain⟨i,_,J⟩:=List.mem_filterMap.mp j;refine ok c ?_;rw[<-Array.getElem?_toList]at J;erw[mg0 J])))))))),λb z=>by cases z)
 |_=>cases q
structure SdA(X:Cx)(Φ:Fs)(Γ:List (Str×D))(es:A3)(as:Es):Prop where
 s:aL es
 r:∀{fl Y ds},evs Φ Γ .read fl Y as=some ds->Ea X Y fl es ds
 v:∀{Y ds},evs Φ Γ .val [] Y as=some ds->Ea X Y [] es ds
 l:∀{m fl Y ds},evs Φ Γ m fl Y as=some ds->ds.length=es.length
def Hh:SdA X Φ Γ [] .nil:=(λa z=>(by cases z),λq=>(by cases q;erw[ir]),λq=>(by cases q;erw[ir]),λq=>by simp_all)
def Do(hs:(!isStar a)=true)(A:SdE X Φ Γ a a' na)(R:SdA X Φ Γ as as'):SdA X Φ Γ (a::as) (.cons a' as'):=by
 refine(λx N=>(mq0 N).elim (λz=>z▸nt hs) (R.s x),λ{fl _ _} q=>?_,λq=>?_,λq=>?_)
 .obtain⟨x,J,q⟩:=bS q
  obtain⟨M,K,rfl⟩:=mS q;cases L:fl.headD _ with
  |true=>rw[L]at J;erw[pQ (A.r J) L (R.r K) (nt hs)]
  |false=>rw[L]at J;erw[cC (A.v J) (R.r K) (nt hs)]
 .obtain⟨x,J,q⟩:=bS q
  obtain⟨M,K,rfl⟩:=mS q;erw[cC (A.v J) (R.v K) (nt hs)]
 .obtain⟨x,J,q⟩:=bS q
  obtain⟨M,K,rfl⟩:=mS q;rw[lc0,lc0,R.l K]
def Hi(A:SdA X Φ Γ as as'):SdE X Φ Γ (.List as pos) (.lst as') true:=sC (λa a=>rfl) λY d q=>by
 obtain⟨ds,U,q⟩:=bS q;obtain⟨R,rfl⟩:=iS q;exact (have h:=(A.v U);(by rintro J s V H Q I ⟨M,O,G,E,k⟩;erw[xS h J s V H Q I (M,O,G,E,λZ N W K r=>(by rw[<-r.length];exact Nat.le_of_lt (ia R),λp L=>k p N _ (K.trans (.hid K.gh L)) (K.gh.free L) (K.hh.free L) (_,_,rfl,aa,r.dps)))]))
def Hj{j}(A:SdA X Φ Γ as as'):SdE X Φ Γ (.Tuple as j pos) (.tup as') false:=ba (λa a=>rfl) λY d q=>by
 obtain⟨ds,R,q⟩:=bS q;obtain⟨O,rfl⟩:=iS q;exact (have h:=(A.v R);(by rintro L s U H Q I ⟨M,N,G,E,k⟩;erw[xR h _ s U H Q I (M,N,G,E,λZ V W J r=>(by rw[<-r.length];exact Nat.le_of_lt (ia O),λp K=>k _ _ _ (J.trans (.laid J.gh K)) (.tuple aa (r.dps.mono (aG (J.gh.free K))))))]))
def Hk:SdE X Φ Γ (.Dict [] [] pos) .fd0 false:=ba (λa a=>rfl) λY d q=>by
 cases q
 rintro N s D H Q I ⟨B,S,G,E,k⟩
 refine thn (pP _ s D H (λv K=>∃p,v=.ref p/\H p=.none/\K=upd H p _) I λp J=>(p,rfl,J,rfl)) λu T ⟨v,K,L,Z,p,ev,J,O⟩=>?_
 subst ev O;obtain⟨R,U,F,V,M⟩:=(L.hok p _ aa);obtain⟨W,P,ep,g,rest⟩:=id M;have:=L.write (o:=.frz W (.dK [])) (t':=T.toks) (by rw[aa];trivial) (.inl rfl) (λa a a e=>e) (_,g) (g,R,U,F,V,M);rw[tW]at this;exact(_,_,this,Z,k _ _ _ (.laid E.sub J) (.fdc aa .nil))
def Dq(c:CxC X C)(w:Wz X Φ Γ C k)(K:C.fns.contains f=true)(J:ah C f=true)(A:SdA X Φ Γ (a::as) as'):SdE X Φ Γ (.Call (.Name f p) (a::as) [] pos) (.call f as') false:=ba (λb b=>rfl) λY d q=>by
 obtain⟨N,L,q⟩:=bS q;obtain⟨ds,M,q⟩:=bS q;erw[sk (w.fns f K N L) w.room (bQ c J).1 (bQ c J).2.2 (A.r M) q A.s]
def Hl{tn}{T}(c:CxC X C)(w:Wz X Φ Γ C k)(K:f="isinstance")(L:ah C f=true)(h:yh tn=some T)(J:(ah C tn&&!isStar a)=true)(A:SdE X Φ Γ a a' na):SdE X Φ Γ (.Call (.Name f p) [a,.Name tn px] [] pos) (.isi a' T) false:=ba (λb b=>rfl) λY d q=>by
 subst K;obtain⟨x,M,q⟩:=bS q;obtain⟨t,N,rfl⟩:=mS q;exact wG (aO c w L (by simp[bltNames])) (aO c w (a2 J).1 ((by
   unfold yh at h
   repeat' split at h
   all_goals first|grind|(subst_vars;simp[bltNames])))) h (A.r M) (nt (a2 J).2) N
def Ds(c:CxC X C)(w:Wz X Φ Γ C k)(J:f="sorted")(K:ah C f=true)(hs:(!isStar a)=true)(A:SdE X Φ Γ a a' na):SdE X Φ Γ (.Call (.Name f p) [a] [] pos) (.srtn a') false:=ba (λb b=>rfl) λY d q=>by
 subst J;obtain⟨x,L,q⟩:=bS q;cases x with
 |list ls=>exact sO (aO c w K (by simp[bltNames])) (A.r L) q (nt hs)
 |_=>cases q
def Hn{g K:Str}{sp qp sp2 qp2 q3}(c:CxC X C)(w:Wz X Φ Γ C k)(L:f="sorted")(M:ah C f=true)(h:g="set"/\K="set")(J:ah C g=true)(hs:(!isStar a&&!isStar b)=true)(A:SdE X Φ Γ a a' na)(B:SdE X Φ Γ b b' nb):SdE X Φ Γ (.Call (.Name f p) [.BinOp (.Call (.Name g sp) [a] [] qp) .BitOr (.Call (.Name K sp2) [b] [] qp2) q3] [] pos) (.sor a' b') false:=ba (λe e=>rfl) λY d q=>by
 obtain⟨rfl,rfl⟩:=h;subst L;obtain⟨x,N,q⟩:=bS q;obtain⟨y,O,q⟩:=bS q;erw[wZ c.calm (aO c w M (by simp[bltNames])) (aO c w J (by simp[bltNames])) q (A.r N) (B.r O) (nt (a2 hs).1) (nt (a2 hs).2)]
def Ho(c:CxC X C)(w:Wz X Φ Γ C k)(Z:f="list")(T:ah C f=true)(hs:(!isStar a)=true)(A:SdE X Φ Γ a a' na):SdE X Φ Γ (.Call (.Name f p) [a] [] pos) (.lsk a') true:=sC (λb b=>rfl) λY d q=>by
 subst Z;obtain⟨x,P,q⟩:=bS q;exact (by
   have B:=(aO c w T (by simp[bltNames]));have W:=(A.r P);have hs:=(nt hs);have R:aL [a]:=λx F=>by cases F with|head=>exact hs|tail _ z=>cases z
   have O:Ea X Y [true,true,true] [a] [x]:=pQ W rfl ir hs;cases x with
   |fdc D=>
    obtain⟨I,K,rfl⟩:=mS (q:(cz D).map _=some d);refine jP B (sQ c.calm) PyProof.Rows.boot_list O R λU G H Q s r k=>?_
    obtain⟨v,rfl,L⟩:=r.one;obtain⟨q,S,N,rfl,V,M⟩:=L.fdc s;exact(q,S,N,I,rfl,V,M.keys.symm.trans (cD K).1,λl J=>k l G _ (.hid s J) (s.free J) J (_,_,rfl,aa,(pY (cD K).2)))
   |list ls=>
    cases q;refine jP B fZ PyProof.Rows.boot_list O R λU G H Q s r k=>?_
    obtain⟨v,rfl,L⟩:=r.one;obtain⟨q,N,rfl,K,M⟩:=L.lst s;exact(q,N,rfl,.inl (SqL.of K),λl J=>k l G _ (.hid s J) (s.free J) J (_,_,rfl,aa,M))
   |tuple ls=>
    cases q;refine jP B fZ PyProof.Rows.boot_list O R λU G H Q s r k=>?_
    obtain⟨v,rfl,L⟩:=r.one;obtain⟨q,N,rfl,K,M⟩:=L.tup s;exact(q,N,rfl,.inr (SqT.of K),λl J=>k l G _ (.hid s J) (s.free J) J (_,_,rfl,aa,M))
   |_=>cases q)
def Hq(c:CxC X C)(w:Wz X Φ Γ C k)(W:f="dict")(Z:ah C f=true)(hs:(!isStar a)=true)(A:SdE X Φ Γ a a' na):SdE X Φ Γ (.Call (.Name f p) [a] [] pos) (.fdc a') false:=ba (λb b=>rfl) λY d q=>by
 subst W;obtain⟨x,F,q⟩:=bS q;cases x with
 |list ls=>
  obtain⟨ps,h,rfl⟩:=mS (q:(pairsOf ls).map _=some d);exact (by
    have B:=(aO c w Z (by simp[bltNames]));have V:=(A.r F);have hs:=(nt hs);intro K s P H Q I R;obtain⟨N,O,G,E,k⟩:=R;refine cq (sM c.calm) B.g B.m si (pa_cons V pa_nil (starEach_cons hs)) B.n B.d (starEach_cons hs) rfl K s P H Q I (N,O,G,E,λv j z J L=>?_);obtain⟨q,S,rfl,U,L⟩:=L.lst J.gh;obtain⟨D,T,p2⟩:=pT J.gh L h;exact(q,S,D,rfl,U,T,λl u M=>k _ _ _ (J.trans (.laid J.gh M)) (.fdc aa ((Dks.merge p2 .nil List.nodup_nil).mono (aG (J.gh.free M))))))
 |_=>cases q
def JZ{b}(c:CxC X C)(w:Wz X Φ Γ C k)(J:ah C f=true)(h:pM f=some b)(A:SdA X Φ Γ (a::as) as'):SdE X Φ Γ (.Call (.Name f p) (a::as) [] pos) (.bi b as') false:=ba (λe e=>rfl) λY d q=>by
 obtain⟨ds,K,q⟩:=bS q;exact yA c.calm (aO c w J ((by
   unfold pM at h
   repeat' split at h
   all_goals first|grind|(subst_vars;simp[bltNames])))) h q (A.r K) A.s
def zZ{m}{vc}(w:Wz X Φ Γ C k)(h:C.vc=some vc)(M:C.vms.contains m=true)(J:(!bu a&&decide (as.length<=20)&&(apos.endLine==pos.line))=true)(O:SdE X Φ Γ a a' na)(A:SdA X Φ Γ as as'):SdE X Φ Γ (.Call (.Attribute a m apos) as [] pos) (.vcall vc m a' as') false:=ba (λb b=>rfl) λY d q=>by
 obtain⟨x,R,q⟩:=bS q;obtain⟨N,q⟩:=iB q;obtain⟨V,U,q⟩:=bS q;obtain⟨ds,K,q⟩:=bS q;obtain⟨L,q⟩:=iB q;obtain⟨W,Z,rfl⟩:=pL N;erw[yY (w.vf vc m h M V U) (w.vc vc h).1 w.room (O.r R) (A.r K) L q A.s (λe=>ez0 (by rw[A.l K,e];rfl)) (lV (nt (a2 (a2 J).1).1) A.s (od0 (a2 (a2 J).1).2) (a2 J).2)]
def Ka{m}{g}(h:uf m=some g)(J:(!bu a&&!isStar b&&(apos.endLine==pos.line))=true)(O:SdE X Φ Γ a a' na)(A:SdE X Φ Γ b b' nb):SdE X Φ Γ (.Call (.Attribute a m apos) [b] [] pos) (.me g a' (.cons b' .nil)) (frM g):=eA (λc c=>rfl) λY d q=>by
 obtain⟨x,K,q⟩:=bS q;obtain⟨ds,L,q⟩:=bS q;obtain⟨y,M,N⟩:=bS (L);cases N;have:=yD h q (O.r K) (A.r M) (nt (a2 (a2 J).1).2) (nt (a2 (a2 J).1).1) (a2 J).2;exact(this.1,λz c=>this.2 (by cases g<;>first|rfl|cases z))
def Hr{m:Str}(w:Wz X Φ Γ C k)(g:m="get")(R:(!bu a&&!isStar b&&(apos.endLine==pos.line))=true)(O:SdE X Φ Γ a a' na)(A:SdE X Φ Γ b b' nb):SdE X Φ Γ (.Call (.Attribute a m apos) [b] [] pos) (.get a' b') false:=ba (λc c=>rfl) λY d q=>by
 subst g;obtain⟨x,q1,q⟩:=bS q;obtain⟨y,q2,q⟩:=bS q;cases x with
 |fdc o=>
  obtain⟨K,q3,rfl⟩:=mS (q:(pI y).map _=some d);exact (by
    have l:=(O.r q1);have z:=(A.v q2);have t:=(nt (a2 (a2 R).1).2);have J:=(nt (a2 (a2 R).1).1);have u:=(a2 R).2;intro L s σ H Q I j;obtain⟨W,Z,G,E,k⟩:=j;refine ym w.u1 l z (JV (base_of J) t u) L s σ H Q I (W,Z,G,E,λv B H1 M r1=>?_);obtain⟨q,ob,D,rfl,F,P⟩:=r1.fdc M.gh;refine(q,rfl,(D,.inr (_,F)),W,Z,B,E.step M,λw S T N r2=>(eg D K,by rw[cW (.of (H:=T) r2) q3];exact(_,_,.inr (_,N.hh _ _ F),rfl,rfl),k _ S T (M.trans N) ?_));rcases (P.mono N.gg).look (k:=K)with⟨U,V⟩|⟨d,v,U,V,z3⟩
    .rw[U,V];exact .none
    .rw[U,V];erw[z3])
 |_=>cases q
structure SdI(X:Cx)(Φ:Fs)(Γ:List (Str×D))(e:Expr)(src:I):Prop where
 w:∀{Y ds},evI Φ Γ .walk Y src=some ds->Si X Y true e ds
 r:∀{Y ds},evI Φ Γ .read Y src=some ds->Si X Y false e ds
 s:isSet e=false
def Hs(hs:(!isSet e)=true)(A:SdE X Φ Γ e a' na):SdI X Φ Γ e (.seq a'):=(λq=>by
 obtain⟨d,K,q⟩:=bS q;exact (have J:=(A.w K);yF q J),λq=>by
 obtain⟨d,K,q⟩:=bS q;exact (have J:=(A.r K);yF q J),nt hs)
def Ht(c:CxC X C)(w:Wz X Φ Γ C k)(L:f="range")(M:ah C f=true)(hs:(!isStar a)=true)(A:SdE X Φ Γ a a' na):SdI X Φ Γ (.Call (.Name f p) [a] [] pos) (.rng a'):=by
 subst L;have J:∀K {Y ds},((ev Φ Γ .val Y a').bind λd=>(asI d).bind λn=>if rOk n then some ((List.range n.toNat).map λ(k:Nat)=>D.int k)else .none)=some ds->Si X Y K (.Call (.Name _ p) _ [] pos) ds:=λK b b q=>by
  obtain⟨d,O,q⟩:=bS q;obtain⟨i,R,q⟩:=bS q;obtain⟨N,rfl⟩:=iS q;obtain rfl:=cP R;erw[wH (aO c w M (by simp[bltNames])) (A.v O) N (nt hs)]
 exact(J _,J _,rfl)
def Dt{g:Str}{sp qp}(c:CxC X C)(w:Wz X Φ Γ C k)(M:f="reversed")(N:ah C f=true)(h:g="range")(K:ah C g=true)(hs:(!isStar a)=true)(A:SdE X Φ Γ a a' na):SdI X Φ Γ (.Call (.Name f p) [.Call (.Name g sp) [a] [] qp] [] pos) (.revr a'):=by
 subst M h;have J:∀L {Y ds},((ev Φ Γ .val Y a').bind λd=>(asI d).bind λn=>if rOk n then some ((List.range n.toNat).reverse.map λ(k:Nat)=>D.int k)else .none)=some ds->Si X Y L (.Call (.Name _ p) [.Call (.Name _ sp) _ [] qp] [] pos) ds:=λL b b q=>by
  obtain⟨d,R,q⟩:=bS q;obtain⟨i,U,q⟩:=bS q;obtain⟨O,rfl⟩:=iS q;obtain rfl:=cP U;erw[CD (aO c w K (by simp[bltNames])) (aO c w N (by simp[bltNames])) (A.v R) O (nt hs)]
 exact(J _,J _,rfl)
def Du{p1 p2}{k1}(c:CxC X C)(w:Wz X Φ Γ C k)(M:f="range")(N:ah C f=true)(hs:(!isStar a&&!isStar b)=true)(A:SdE X Φ Γ a a' na)(B:SdE X Φ Γ b b' nb):SdI X Φ Γ (.Call (.Name f p) [a,b,.UnaryOp .USub (.Constant (.int 1) k1 p1) p2] [] pos) (.rngd a' b'):=by
 subst M;have J:∀L {Y ds},((ev Φ Γ .val Y a').bind λx=>(ev Φ Γ .val Y b').bind λy=>(asI x).bind λi=>(asI y).bind λj=>if rOk i&&rOk j then some ((List.range (i-j).toNat).map λ(k:Nat)=>D.int (i-k))else .none)=some ds->Si X Y L (.Call (.Name "range" p) [a,b,.UnaryOp .USub (.Constant (.int 1) k1 p1) p2] [] pos) ds:=λL d d q=>by
  obtain⟨x,O,q⟩:=bS q;obtain⟨y,R,q⟩:=bS q;obtain⟨i,U,q⟩:=bS q;obtain⟨j,V,q⟩:=bS q;obtain⟨K,rfl⟩:=iS q;obtain rfl:=cP U;obtain rfl:=cP V;erw[wI (aO c w N (by simp[bltNames])) (A.v O) (B.v R) (a2 K).1 (a2 K).2 (nt (a2 hs).1) (nt (a2 hs).2)]
 exact(J true,J false,rfl)
def Av{d}{ds}(h:BY d=some ds):d=.list ds:=by
 cases d with
 |list=>cases h;rfl
 |_=>cases h
def Hu(c:CxC X C)(w:Wz X Φ Γ C k)(P:f="reversed")(D:ah C f=true)(hs:(!isStar a)=true)(A:SdE X Φ Γ a a' na):SdI X Φ Γ (.Call (.Name f p) [a] [] pos) (.rev a'):=by
 subst P;refine(λq=>?_,λq=>?_,rfl)<;>(obtain⟨d,Q,q⟩:=bS q;obtain⟨ds,S,rfl⟩:=mS q;obtain rfl:=(show d=.list ds by
   cases d with
   |list=>cases S;rfl
   |_=>cases S))
 .exact (by
   have B:=(aO c w D (by simp[bltNames]));have Z:=(A.w Q);have hs:=(nt hs);intro j L s T H R I W;obtain⟨U,V,G,E,k⟩:=W;refine yH B Z hs _ s T H R I (U,V,G,E,λv N O K M=>?_);cases M with
   |of M=>cases M with
    |list J r=>exact(_,_,rfl,SqL.of (K.gh _ _ J),by rw[<-r.length];erw[k _ N O K (rh (λF g b=>SqL.of (g _ _ J)) r)])
   |list J r=>exact(_,_,rfl,SqL.of (((E.step K).ext.hh) _ _ J),by rw[<-r.length];erw[k _ N O K (rh (λF b g=>SqL.of (g _ _ J)) r)]))
 .exact (by
   have B:=(aO c w D (by simp[bltNames]));have Z:=(A.r Q);have hs:=(nt hs);intro j L s T H R I W;obtain⟨U,V,G,E,k⟩:=W;refine yH B Z hs _ s T H R I (U,V,G,E,λv N O K M=>?_);obtain⟨q,z,rfl,J,r⟩:=M.lst K.gh;exact(_,_,rfl,SqL.of J,by rw[<-r.length];erw[k _ N O K (rh (λF b g=>SqL.of (g _ _ J)) r)]))
structure SdR(X:Cx)(Φ:Fs)(Γ:List (Str×D))(tg e:Expr)(src:I):Prop where
 r:∀{Y ds},evI Φ Γ .read Y src=some ds->PI X tg e (tSi X.nk X.K Y false ds)
 s:isSet e=false
def SdI.sr{tg}{src}(h:SdI X Φ Γ e src):SdR X Φ Γ tg e src:=(λq=>h.r q tg,h.s)
def Dv{e3}{elts}{tk}{tpos}(c:CxC X C)(w:Wz X Φ Γ C k)(K:f="zip")(L:ah C f=true)(A:SdA X Φ Γ [a,b,e3] as'):SdR X Φ Γ (.Tuple elts tk tpos) (.Call (.Name f p) [a,b,e3] [] pos) (.zip as'):=(λq=>by
 subst K;obtain⟨ls,J,q⟩:=bS q;have l:=A.l J;rcases ls with _|⟨u,_|⟨v,_|⟨y,_|_⟩⟩⟩<;>first|(cases l;done)|skip
 cases u with
 |list x=>cases v with
  |list v=>cases y with
   |list z=>
    rw[Cq]at q;obtain⟨M,rfl⟩:=iS q;exact yP (dss:=[x,v,z]) (aO c w L (by simp[bltNames])) (A.r J) A.s @0 @0 (λN h=>by rcases N with _|⟨_,_|⟨_,_|⟨_,_|_⟩⟩⟩<;>first|(cases h;done)|exact⟨rfl,by kernel_rfl,λd=>rfl⟩) (by simp[M]) (x,by simp,rfl)
   |_=>cases q
  |_=>cases q
 |_=>(cases q),rfl)
def Hv{elts}{tk}{tpos}(c:CxC X C)(w:Wz X Φ Γ C k)(K:f="zip")(L:ah C f=true)(A:SdA X Φ Γ [a,b] as'):SdR X Φ Γ (.Tuple elts tk tpos) (.Call (.Name f p) [a,b] [] pos) (.zip as'):=(λq=>by
 subst K;obtain⟨ls,J,q⟩:=bS q;have l:=A.l J;rcases ls with _|⟨u,_|⟨v,_|_⟩⟩<;>first|(cases l;done)|skip
 cases u with
 |list x=>cases v with
  |list v=>
   rw[Cp]at q;obtain⟨M,rfl⟩:=iS q;exact yP (dss:=[x,v]) (aO c w L (by simp[bltNames])) (A.r J) A.s @0 @0 (λN h=>by rcases N with _|⟨_,_|⟨_,_|_⟩⟩<;>first|(cases h;done)|exact⟨rfl,by kernel_rfl,λd=>rfl⟩) (by simp[M]) (v,by simp,rfl)
  |_=>cases q
 |_=>(cases q),rfl)
end
section
structure Ce(C:Cs)(e:Expr) where
 f:E
 n:Bool
 ok:∀{Φ Γ k X},CxC X C->Wz X Φ Γ C k->SdE X Φ Γ e f n
structure Ca(C:Cs)(es:A3) where
 f:Es
 ok:∀{Φ Γ k X},CxC X C->Wz X Φ Γ C k->SdA X Φ Γ es f
structure Ci(C:Cs)(e:Expr) where
 f:I
 ok:∀{Φ Γ k X},CxC X C->Wz X Φ Γ C k->SdI X Φ Γ e f
structure Cr(C:Cs)(tg e:Expr) where
 f:I
 ok:∀{Φ Γ k X},CxC X C->Wz X Φ Γ C k->SdR X Φ Γ tg e f
structure Cb(C:Cs)(op:BoolOp)(es:A3) where
 f:E
 ok:∀{Φ Γ k X},CxC X C->Wz X Φ Γ C k->SdB X Φ Γ op es f
structure Co(C:Cs)(e:Option Expr) where
 f:Es
 ok:∀{Φ Γ k X},CxC X C->Wz X Φ Γ C k->SdO X Φ Γ e f
structure Ct(C:Cs)(ifs:A3) where
 f:Es
 ok:∀{Φ Γ k X},CxC X C->Wz X Φ Γ C k->∀{Y b},evC Φ Γ Y f=some b->Ecs X Y ifs b
structure Cc(C:Cs)(elt tg iter:Expr)(ifs:A3)(sc:Scope) where
 f:E
 ok:∀{Φ Γ k X},CxC X C->Wz X Φ Γ C k->∀{Y d},ev Φ Γ .val Y f=some d->∃ds out js,∃(t:Tg)(ifs':Es)(elt':E),d=.list out/\BlkOk X sc js/\PI X tg iter (tSi X.nk X.K Y false ds)/\ui X Φ Γ sc (aA X (bw tg) js) tg t ifs ifs' elt elt'/\jH t (bw tg).length=true/\ds.length<=sizeLine/\ay (gr Φ Γ (bw tg).length js t ifs' elt' Y) ds=some out/\∀x,foldedSetIterable iter X.env x=pure x
 fin:∀Φ Γ m Y,ev Φ Γ m Y f=SI.fin m (ev Φ Γ .val Y f)
variable (r:∀C e,Option (Ce C e))(C:Cs)
def cEs:(es:A3)->Option (Ca C es)
 |[]=>some (.nil,λa a=>Hh)
 |e::es=>chk (!isStar e) λh=>(r C e).bind λA=>(cEs es).map λR=>(.cons A.f R.f,λc w=>Do h @8 (R.ok c w))
def cB(op:BoolOp):(es:A3)->Option (Cb C op es)
 |[]=>none
 |[a]=>(r C a).map λA=>(A.f,λc w=>Hd @8)
 |a::b::es=>(r C a).bind λA=>(cB op (b::es)).map λB=>match op,B with
  |.And,B=>(.and A.f B.f,λc w=>zY @8 (B.ok c w))
  |.Or,B=>(.or A.f B.f,λc w=>EL @8 (B.ok c w))
def cBo(op:BoolOp)(a b:Expr)(es:A3)(pos:Pos):Option (Ce C (.BoolOp op (a::b::es) pos)):=(r C a).bind λA=>(cB r C op (b::es)).map λB=>match op,B with
 |.And,B=>(.and A.f B.f,false,λc w=>uG (zY @8 (B.ok c w)) (λd=>rfl,λd=>rfl))
 |.Or,B=>(.or A.f B.f,false,λc w=>uG (EL @8 (B.ok c w)) (λd=>rfl,λd=>rfl))
def cO:(e:Option Expr)->Option (Co C e)
 |none=>some (.nil,λa a=>Dm)
 |some e=>(r C e).map λA=>(.cons A.f .nil,λc w=>Dn @8)
def cT:(es:A3)->Option (Ct C es)
 |[]=>some (.nil,λa a a a q=>by cases q;erw[ecs_nil])
 |[e]=>(r C e).map λA=>(.cons A.f .nil,λc w a a q=>by
  obtain⟨x,K,L⟩:=bS q;obtain⟨t,rfl,J⟩:=(A.ok c w).t K;cases L;erw[CI J])
 |_=>none
def cQ(e:Expr):Option (Ci C e):=chk (!isSet e) λh=>(r C e).map λA=>(.seq A.f,λc w=>Hs h @8)
def cI:(e:Expr)->Option (Ci C e)
 |.Call (.Name f p) [a] [] pos=>if L:f="range" then chk (ah C f) λJ=>chk (!isStar a) λK=>(r C a).map λA=>(.rng A.f,λc w=>Ht c w L J K @8)
  else if L:f="reversed" then (match a with
   |.Call (.Name g _) [b] [] _=>chk (ah C f) λJ=>eqS g "range" λh=>chk (ah C g) λM=>chk (!isStar b) λK=>(r C b).map λA=>(.revr A.f,λc w=>Dt c w L J h M K @8)
   |a=>chk (ah C f) λJ=>chk (!isStar a) λK=>(r C a).map λA=>(.rev A.f,λc w=>Hu c w L J K @8))else cQ r C (.Call (.Name f p) [a] [] pos)
 |.Call (.Name f p) [a,b,.UnaryOp .USub (.Constant (.int 1) _ _) _] [] _=>if L:f="range" then chk (ah C f) λJ=>chk (!isStar a&&!isStar b) λK=>(r C a).bind λA=>(r C b).map λB=>(.rngd A.f B.f,λc w=>Du c w L J K @8 (B.ok c w)) else none
 |e=>cQ r C e
def cRI(tg e:Expr):Option (Cr C tg e):=(cI r C e).map λA=>(A.f,λc w=>(A.ok c w).sr)
def cR:(tg e:Expr)->Option (Cr C tg e)
 |.Tuple L j q,.Call (.Name f p) [a,b] [] pos=>if J:f="zip" then chk (ah C f) λK=>(cEs r C [a,b]).map λA=>(.zip A.f,λc w=>Hv c w J K @8) else cRI r C (.Tuple L j q) (.Call (.Name f p) [a,b] [] pos)
 |.Tuple L j q,.Call (.Name f p) [a,b,d] [] pos=>if J:f="zip" then chk (ah C f) λK=>(cEs r C [a,b,d]).map λA=>(.zip A.f,λc w=>Dv c w J K @8) else cRI r C (.Tuple L j q) (.Call (.Name f p) [a,b,d] [] pos)
 |tg,e=>cRI r C tg e
def cCo(L tg iter:Expr)(ifs:A3)(sc:Scope):Option (Cc C L tg iter ifs sc):=(cR r C tg iter).bind λS=>got (yi C sc tg) λq h=>got (cTg q.1 tg) λt O=>chk (jH t q.2.1) λN=>(cT r q.1 ifs).bind λT=>(r q.1 L).map λA=>(.comp q.2.1 q.2.2 t S.f T.f A.f,λc w Y d z=>by
 obtain⟨B,nt,V⟩:=q;obtain⟨ds,W,z⟩:=bS z;obtain⟨U,z⟩:=iB z;obtain⟨M,Z,rfl⟩:=mS z;have R:=nR c h;have e:=R.nt;subst e;exact(ds,M,V,t,T.f,A.f,rfl,R.ok,(S.ok c w).r W,(λA s H J=>qf (R.cx A s H J) O,λK s H J Y b z=>T.ok (R.cx K s H J) (w.blk R.same K s H J) z,λK s H J Y d z=>(A.ok (R.cx K s H J) (w.blk R.same K s H J)).v z),N,by rw[<-big_eq];erw[U],Z,jk (S.ok c w).s),λa a m Y=>by cases m<;>rfl)
def Hw{elt tg iter}{ifs}{sc}{pos}(A:Cc C elt tg iter ifs sc){Φ}{Γ}{k}{X}(c:CxC X C)(w:Wz X Φ Γ C k):SdE X Φ Γ (.ListComp elt [(tg,iter,ifs,0)] sc pos) A.f true:=sC (A.fin _ _) λY d q=>by
 obtain⟨ds,W,Z,t,K,J,rfl,L,M,N,O,R,U,V⟩:=A.ok c w q;erw[uj L c.calm M N O R U V]
def cBi(f:Str)(p:Pos)(a:Expr)(J:A3)(pos:Pos)(K:ah C f=true):Option (Ce C (.Call (.Name f p) (a::J) [] pos)):=got (pM f) λb h=>(cEs r C (a::J)).map λA=>(.bi b A.f,false,λc w=>JZ c w K h @8)
def cSd(f:Str)(p:Pos)(a:Expr)(pos:Pos)(K:ah C f=true)(J:f="sorted"):Option (Ce C (.Call (.Name f p) [a] [] pos)):=chk (!isStar a) λL=>(r C a).map λA=>(.srtn A.f,false,λc w=>Ds c w J K L @8)
def Kb(f:Str)(p:Pos)(J:A3)(pos:Pos):Option (Ce C (.Call (.Name f p) J [] pos)):=chk (ah C f) λL=>
 if K:C.fns.contains f=true then (match J with
  |[]=>none
  |a::J=>(cEs r C (a::J)).map λA=>(.call f A.f,false,λc w=>Dq c w K L @8))
 else if K:f="isinstance" then (match J with
  |[a,.Name t _]=>chk (ah C t&&!isStar a) λR=>(r C a).bind λA=>got (yh t) λT h=>some (.isi A.f T,false,λc w=>Hl c w K L h R @8)
  |_=>none)
 else match J with
  |[]=>none
  |a::J=>if K:f="sorted" then (match a,J with
    |.BinOp (.Call (.Name g F) [b] [] Z) .BitOr (.Call (.Name O V) [d] [] U) W,[]=>if h:g="set"/\O="set" then chk (ah C g) λN=>chk (!isStar b&&!isStar d) λM=>(r C b).bind λA=>(r C d).map λB=>(.sor A.f B.f,false,λc w=>Hn c w K L h N M @8 (B.ok c w)) else none
    |a,[]=>cSd r C f p a pos L K
    |_,_=>none)
   else if K:f="dict" then (match J with
    |[]=>chk (!isStar a) λM=>(r C a).map λA=>(.fdc A.f,false,λc w=>Hq c w K L M @8)
    |_=>none)
   else if K:f="list" then (match J with
    |[]=>chk (!isStar a) λM=>(r C a).map λA=>(.lsk A.f,true,λc w=>Ho c w K L M @8)
    |_=>none)
   else cBi r C f p a J pos L
def cMe(o:Expr)(m:Str)(apos:Pos)(K:A3)(pos:Pos):Option (Ce C (.Call (.Attribute o m apos) K [] pos)):=(r C o).bind λO=>
 if L:C.vms.contains m=true then got C.vc λM h=>chk (!bu o&&decide (K.length<=20)&&(apos.endLine==pos.line)) λJ=>(cEs r C K).map λA=>(.vcall M m O.f A.f,false,λc w=>zZ w h L J (O.ok c w) @8)
 else match K with
  |[a]=>if L:m="get" then chk (!bu o&&!isStar a&&(apos.endLine==pos.line)) λJ=>(r C a).map λA=>(.get O.f A.f,false,λc w=>Hr w L J (O.ok c w) @8) else got (uf m) λg h=>chk (!bu o&&!isStar a&&(apos.endLine==pos.line)) λJ=>(r C a).map λA=>(.me g O.f (.cons A.f .nil),frM g,λc w=>Ka h J (O.ok c w) @8)
  |_=>none
def cTb(e:Expr)(pos:Pos)(b:Expr):Option (Ce C (.Subscript e b pos)):=match e with
 |.Subscript (.Name x K) a p2=>got (dU C x) λi h=>if C.tb=some i then chk (!isSlice a&&!isSlice b) λJ=>(r C a).bind λA=>(r C b).map λB=>(.idx2 i A.f B.f,false,λc w=>Dl (bc c h) J @8 (B.ok c w)) else none
 |_=>none
def MA(a:Expr)(pos:Pos):(i:Expr)->Option (Ce C (.Subscript a i pos))
 |.Slice lo J none _=>(r C a).bind λA=>(cO r C lo).bind λL=>(cO r C J).map λH=>(.sl A.f L.f H.f,true,λc w=>JY @8 (L.ok c w) (H.ok c w))
 |i=>if let some z:=cTb r C a pos i then some z else chk (!isSlice i) λh=>(r C a).bind λA=>(r C i).map λI=>(.idx A.f I.f,false,λc w=>Hg w h @8 (I.ok c w))
def Kc:(e:Expr)->Option (Ce C e)
 |.Constant (.int i) _ _=>some (.k (.int i),false,λd d=>Dj (λd=>yn) λd=>rfl)
 |.Constant (.str x) _ _=>chk (jD x) λh=>some (.k (.str x),false,λd d=>Dj (λd=>Gw (qc h)) λd=>rfl)
 |.Constant (.bool b) _ _=>some (.k (.bool b),false,λd d=>Dj (λd=>JI) λd=>rfl)
 |.Constant .none _ _=>some (.k .none,false,λd d=>Dj (λd=>Gv) λd=>rfl)
 |.Name x _=>match h:dU C x with
  |some i=>some (.v i,false,λc d=>GY (bc c h))
  |none=>chk (ah C x) λh=>chk (C.cst.contains x) λd=>some (.g x,false,λc w=>Mz c w h)
 |.BinOp a op b _=>got (cOp op) λo h=>(r C a).bind λA=>(r C b).map λB=>(.op o A.f B.f,true,λc w=>JX h @8 (B.ok c w))
 |.UnaryOp .USub a _=>(r C a).map λA=>(.neg A.f,false,λc w=>GZ @8)
 |.UnaryOp .Not a _=>(r C a).map λA=>(.not A.f,false,λc w=>Ha @8)
 |.Compare a [op] [b] _=>got (rW op) λo h=>chk (!isSet b) λK=>(r C a).bind λA=>(r C b).map λB=>(.cmp o A.f B.f,false,λc w=>Hc w h K @8 (B.ok c w))
 |.Compare a [op,M] [b,e] _=>got (rW op) λo h=>got (rW M) λV R=>chk (!isSet e) λK=>(r C a).bind λA=>(r C b).bind λB=>(r C e).map λE=>(.chain o V A.f B.f E.f,false,λc w=>zX w h R K @8 (B.ok c w) (E.ok c w))
 |.BoolOp op (a::b::J) pos=>cBo r C op a b J pos
 |.IfExp t a b _=>(r C t).bind λT=>(r C a).bind λA=>(r C b).map λB=>(.ite T.f A.f B.f,false,λc w=>He (T.ok c w) @8 (B.ok c w))
 |.Call g N [] pos=>match g with
  |.Name f p=>Kb r C f p N pos
  |.Attribute o m apos=>cMe r C o m apos N pos
  |_=>none
 |.Attribute o x _=>eqS x "objects" λU=>got C.vc λF h=>chk (!bu o) λK=>(r C o).map λO=>(.vob F O.f,false,λc w=>Hf w h K U (O.ok c w))
 |.Subscript a i pos=>MA r C a pos i
 |.List J _=>(cEs r C J).map λA=>(.lst A.f,true,λc w=>Hi @8)
 |.Dict [] [] _=>some (.fd0,false,λd d=>Hk)
 |.Tuple J _ _=>(cEs r C J).map λA=>(.tup A.f,false,λc w=>Hj @8)
 |.ListComp L [⟨Z,iter,ifs,0⟩] W _=>(cCo r C L Z iter ifs W).map λA=>(A.f,true,λc w=>Hw C A c w)
 |_=>none
end
def cE:Nat->(C:Cs)->(e:Expr)->Option (Ce C e)
 |0=>λa a=>none
 |n+1=>Kc (cE n)
theorem qD{f}(K:∀d o,f d=some o->o≠none):∀{ds out:List D},ay f ds=some out->ds.length=out.length/\∀(i:Nat) d,ds[i]?=some d->∃x,f d=some (some x)/\out[i]?=some x
 |[],out,h=>by cases h;exact(rfl,λi d e=>by simp at e)
 |d::r,out,h=>by
  obtain⟨o,J,h⟩:=bx0 (h);obtain⟨q,M,N⟩:=mx0 h;cases o with
  |none=>exact absurd rfl (K d _ J)
  |some x=>
   subst N;obtain⟨a,b⟩:=qD K M;refine(by simp[a],λi L e=>?_);cases i with
   |zero=>simp at e;subst e;exact(x,J,rfl)
   |succ i=>simpa using b i L (by simpa using e)
section
variable {ν:NK}{K:Fg}{G0:Bs}{H0 G' H':Hp}{σ:St}
def EnvD.setIo{i}{d}{x}{fp}(E:EnvD ν K G0 H0 G H σ Y)(F:i<σ.length)(T:Y[i]?=some .fr)(O:∀(j:Nat) d,Y[j]?≠some (.io d))(io:IoAt ν K G H d x fp)(Z:∀b∈fp,G b=none/\H0 b=none)(C:∀(j:Nat) e q,Y[j]?=some (.own e)->σ[j]?=some (some (.ref q))->q∉fp):
  EnvD ν K G0 H0 G H (σ.set i (some (.ref x))) (Y.set i (.io d)):=by
 refine(E.ext,by simp[E.len],λj d J=>?_,λj d J=>?_,λj d J=>?_,λj k d e q J M U L=>?_,λj W J=>?_,λj k W e J M=>?_,λj J=>E.io.fr j (getE_io J @0).2)
 .obtain⟨ne,z⟩:=getE_io J @0
  rw[gn0 (Ne.symm ne)];erw[E.dat j d z]
 .obtain⟨ne,z⟩:=getE_io J @0
  rw[gn0 (Ne.symm ne)];erw[E.lent j d z]
 .obtain⟨ne,z⟩:=getE_io J @0
  rw[gn0 (Ne.symm ne)];erw[E.own j d z]
 .obtain⟨B,Q⟩:=getE_io J @0
  obtain⟨nk,R⟩:=getE_io M @0;rw[gn0 (Ne.symm B)]at U;rw[gn0 (Ne.symm nk)]at L;erw[E.apart j k d e q Q R U L]
 .rcases getE_set J with⟨rfl,z⟩|⟨_,z⟩
  .cases z
   refine(x,fp,gs0 F,io,Z,λz V=>(by rw[E.io.fr j T]at V;cases V),λk e q M L=>?_);obtain⟨nk,R⟩:=getE_io M @0;rw[gn0 (Ne.symm nk)]at L;erw[C k e q R L]
  simp_all
 .have N:∀{j:Nat}{e:D},(Y.set i (.io d))[j]?=some (.io e)->j=i:=λJ=>(getE_set J).elim (·.1) λ⟨_,z⟩=>absurd z (O _ _)
  rw[N J,N M]
def RowsAt.ext{rows}{qs}(e:Ext G H G' H')(r:RowsAt K G H rows qs):RowsAt K G' H' rows qs:=r.mono e.gg e.hh
end
section
variable {c e elt iter tg:Expr}{p pos':Pos}{d:D}
variable {scope:Scope}{tn:A1}{js:List Nat}{t:Tg}{elt':E}{rows:List (List D)}
structure Aa(X:Cx)(Φ:Fs)(Γ:List (Str×D))(scope:Scope)(N:A1)(tg:Expr)(t:Tg)(elt:Expr)(elt':E):Prop where
 tgt:∀(C:Addr)(s:Shared)(H:Hp)(fp:A4),Tgj (L2.C.blk X scope N C s H fp) tg t
 elt:∀(C:Addr)(s:Shared)(H:Hp)(fp:A4) Y d,ev Φ Γ .val Y elt'=some d->cA d=true->En (L2.C.blk X scope N C s H fp) Y elt d
def xa{σ}{G0}{H0 G1 H1}{J}{Q:VK}(hi:km X.K G1 H1 J ds)(T:Aa X Φ Γ scope @7 tg t elt elt')(ht:jH t tn.length=true)(hz:ds.length<=sizeLine)(E:EnvD X.nk X.K G0 H0 G1 H1 σ Y)
  (j9:ay (gr Φ Γ tn.length js t .nil elt' Y) ds=some (rows.map .list))
  (k:∀q qs U L,Ext G1 H1 U L->(q::qs).Nodup->(∀b∈q::qs,U b=none/\H1 b=none)->L q=some (.lst (qs.map .ref))->RowsAt X.K U L rows qs->Q (.ref q) L):
  ∀q,H1 q=none->∃W:Nat->Nat->St->Hp->Prop,(∃m,W 0 m (gc tn js σ) (upd H1 q (.lst [])))/\∀i m N L,W i m N L->
   (J.stop i L/\Q (.ref q) L)\/(J.go i L/\∀v H2,J.yld i L v H2->tgC X scope @7 tg v N H2 λR H3=>tcC X scope @7 [] R H3 λb H4=>
    if b=true then teC X scope @7 elt R H4 λy H5=>∃ys,H5 q=some (.lst ys)/\ys.length<sizeLine/\∃m',m'<m/\W (i+1) m' R (upd H5 q (.lst (ys++[y])))else ∃m',m'<m/\W (i+1) m' R H4):=by
 intro q O;have z5:dh (SI.blk tn.length js Y):=aX;have j1:∀d o,gr Φ Γ tn.length js t .nil elt' Y d=some o->o≠none:=λd o h=>by
  obtain⟨f,_,h⟩:=bx0 h;obtain⟨x,_,rfl⟩:=mx0 (h:(ev Φ Γ .val f elt').map some=some o);intro z;cases z
 obtain⟨j4,y2⟩:=qD j1 j9;rw[lm0]at j4;refine(λi m N L=>m=ds.length-i/\i<=ds.length/\∃U qs,EnvD X.nk X.K (G1,none) H1 U L N (SI.blk tn.length js Y)/\L q=some (.lst (qs.map .ref))/\(q::qs).Nodup/\(∀b∈q::qs,U b=none/\H1 b=none)/\RowsAt X.K U L (rows.take i) qs,
  (ds.length,by simp,Nat.zero_le _,G1,[],?_,aa,by simp,λb hb=>by obtain rfl:=List.mem_singleton.mp hb;exact(E.sub.free O,O),by simp,λk g x h a=>by simp at h),?_)
 .exact (E.blk (tn:=tn) (js:=js)).touch z5 (E.sub.free O) O
 .rintro i m N L ⟨rfl,y9,U,qs,Z,S,z0,B,r'⟩
  have z8:=(B q ms0).1;have sm:=Z.ext.gg.trans Z.sub
  by_cases l:i<ds.length
  .refine .inr (hi.go i L l sm Z.ext.hh,λv H2 y=>?_)
   have hb:=ge0 l;generalize ds[i]=dd at hb;obtain⟨x,V,hx⟩:=y2 i dd hb;rw[gm0,Option.map_eq_some_iff]at hx;obtain⟨g,j8,rfl⟩:=hx;obtain⟨f,j3,V⟩:=bx0 V;obtain⟨w0,hw,V⟩:=mx0 (V:(ev Φ Γ .val f elt').map some=some (some (D.list g)));cases V;obtain⟨l1,l2,l3⟩:=iz ht j3;obtain⟨G2,e2,d2⟩:=hi.yld i U L v H2 dd hb Z.ext.gg Z.sub Z.ext.hh y;have j7:=e2.hh _ _ S;have z9:=e2.nw _ _ z8 S;have P:qs.length=i:=by rw[<-r'.1,List.length_take];simp_all
   have back:∀{G3 H3:Hp}{z7:St},EnvD X.nk X.K (G1,none) H1 G3 H3 z7 f->EnvD X.nk X.K (G1,none) H1 G3 H3 z7 (SI.blk tn.length js Y):=λE3=>E3.forget l1.symm λj sl hj=>by
    by_cases q0:j<tn.length
    .left
     rcases blk_at hj with z|⟨_,_,z,_⟩
     .erw[z]
     .grind
    .right;rw[l2 j @6];erw[hj]
   intro C s0 F fp M s u I rv;refine T.tgt C s0 F fp dd M s N H2 v u _ I rv ((G1,none),H1,G2,_,f,Z.step e2,d2,j3,λR E2=>?_);intro C s0 F fp M s I;refine ecs_nil (Y:=f) M s _ H2 _ I ((G1,none),H1,G2,E2,λG3 H3 w=>?_);have j0:=w.hh _ _ j7;have y0:=w.nw _ _ z9 j7;refine iteT ?_;intro C s0 F fp M s I;refine T.elt C s0 F fp f _ hw rfl M s _ H3 _ I ((G1,none),H1,G3,E2.step w,λp' G4 H4 e4 g4 h4 o4=>?_);have j2:=e2.trans (w.trans e4);have y3:=e4.hh _ _ j0;have E4:=back ((E2.step w).step e4);have r4:=r'.ext j2;have r3:=r'.ext (e2.trans w);have y1:=(E2.step w).ext.hh.free h4
   have j5:p'≠q:=λz=>by rw[z,j0]at h4;cases h4
   have j6:p'∉qs:=λz=>by
    obtain⟨o,V⟩:=r3.some p' z;rw[h4]at V;cases V
   obtain⟨n1,n2⟩:=List.nodup_cons.mp z0;obtain⟨vs,ov,od⟩:∃vs,H4 p'=some (.lst vs)/\Dps X.K G4 g vs:=by
    obtain⟨y8,vs,z1,z2,z3⟩:=o4;cases z1;exact(vs,z2,z3)
   refine(qs.map .ref,y3,by rw[lm0,P];erw[nt0 ‹_› ‹_›],ds.length-(i+1),by grind,rfl,l,G4,qs++[p'],E4.touch z5 (e4.nw _ _ y0 j0) O,by rw[List.map_append];erw[aa],?_,λb hb=>?_,?_)
   .refine List.nodup_cons.mpr (λz=>?_,?_)
    .rcases ma0 z with z|z
     .erw[n1 z]
     .erw[j5 (List.mem_singleton.mp z).symm]
    .refine List.nodup_append.mpr (n2,by simp,λu hu w' y5=>?_)
     rw[List.mem_singleton.mp y5]
     rintro rfl
     erw[j6 hu]
   .have z6:b∈q::qs->G4 b=none/\H1 b=none:=λhb=>by
     refine(?_,(B b hb).2);obtain⟨o,V⟩:∃o,L b=some o:=by
      rcases mq0 hb with rfl|hb
      .exact(_,S)
      .erw[r'.some b hb]
     erw[j2.nw _ _ (B b hb).1 V]
    rcases mq0 hb with rfl|hb
    .erw[z6 ms0]
    .rcases ma0 hb with hb|hb
     .erw[z6 (mc0 _ hb)]
     .obtain rfl:=List.mem_singleton.mp hb
      exact(g4,y1)
   .have tk:rows.take (i+1)=rows.take i++[g]:=by rw[List.take_add_one,j8];rfl
    rw[tk];have y4:(rows.take i).length=i:=by rw[r'.1];erw[P]
    refine(by rw[la0,la0,r4.1];rfl,λn y6 x h1 h2=>?_)
    by_cases hn:n<i
    .rw[gl0 @6]at h1 h2
     obtain⟨y7,z3,z4⟩:=r4.2 n y6 x h1 h2;refine(y7,?_,z4);rw[ab (λz=>n1 (z▸mg0 h2):x≠q)];erw[z3]
    .have:n=i:=by
      have:=(gi0 h2).1;rw[la0,P]at this;simp at this
      lia
     subst this;rw[List.getElem?_append_right @1,y4,Nat.sub_self]at h1;rw[List.getElem?_append_right @1,P,Nat.sub_self]at h2;cases h1;cases h2;exact(vs,by rw[ab j5];erw[ov],od)
  .have e:i=ds.length:=by lia
   subst e;rw[List.take_of_length_le @1]at r';exact .inl (hi.stop L sm Z.ext.hh,k q qs U L Z.ext z0 B S r')
def Dw(S:Sto X x i)(B:BlkOk X scope js)(O:X.calm=true)(hi:PI X tg iter (tSi X.nk X.K Y false ds))
  (T:Aa X Φ Γ scope @7 tg t elt elt') (ht:jH t tn.length=true) (hz:ds.length<=sizeLine) (w:ay (gr Φ Γ tn.length js t .nil elt' Y) ds=some (rows.map .list)) (hs:∀x,foldedSetIterable iter X.env x=pure x)
  (hf:Y[i]?=some .fr) (j0:∀(j:Nat) d,Y[j]?≠some (.io d)) (U:swapsWith (.ListComp elt [(tg,iter,[],0)] scope p) (some (.Name x pos')) pos.line X.env=pure false\/X.env.scope.names.lookup x=some .local/\swapsWith (.ListComp elt [(tg,iter,[],0)] scope p) (some (.Name x pos')) pos.line X.env=pure true):
  E1 X Y (.Assign [.Name x pos'] (.ListComp elt [(tg,iter,[],0)] scope p) pos) (.nx (Y.set i (.io (.tbl rows)))):=by
 intro L s σ H F I h;obtain⟨G0,H0,G,env,R⟩:=h;have l:∀{J}{P E:Hp},Ext G H P E->km X.K P E J ds->_:=λ{J P E} D f=>xa (Q:=λv Z=>F.nx (σ.set i (some v)) Z) f T ht hz (env.step D) w λq qs G' Z e2 nd k h2 r=>by
  refine R G' Z _ (((env.step D).step e2).setIo (S.lt I) hf j0 (.inr (.inr (rows,qs,rfl,rfl,nd,h2,r))) (λb hb=>((k b hb).1,(env.step D).ext.hh.free (k b hb).2)) λj e q' hj hq hm=>?_) (D.gg.trans e2.gg);obtain⟨q2,a1,_,_,a4⟩:=(env.step D).own j e hj;rw[hq]at a1;cases a1;obtain⟨o,ho⟩:=a4.some;rw[(k _ hm).2]at ho;cases ho
 rcases U with U|⟨hy,U⟩
 .refine hV S.nd S.nm.at' S.nm.loc (nF (tn:=tn) (js:=js) (g:=tgC X scope @7 tg) (tc:=tcC X scope @7 []) (te:=teC X scope @7 elt) B O hi
   (λC s H N L V W Z v u z M r h=>h C s H N L V u M r) (λC s H N L V W Z z M h=>h C s H N L V M) (λC s H N L V W Z z M h=>h C s H N L V M) hs) U S.nm.fn L s σ H F I ?_
  exact(G0,H0,G,env,λJ P E D f=>l D f)
 .refine ud (tn:=tn) (js:=js) (g:=tgC X scope @7 tg) (tc:=tcC X scope @7 []) (te:=teC X scope @7 elt) B O hi
   (λC s H N L V W Z v u z M r h=>h C s H N L V u M r) (λC s H N L V W Z z M h=>h C s H N L V M) (λC s H N L V W Z z M h=>h C s H N L V M) S.nd S.nm.at' hy U hs L s σ H F I ?_
  exact(G0,H0,G,env,λJ P E D f=>l D f)
def swaps_sub2{o k}{env}{spos}:swapsWithSole [.Subscript o k spos] e pos.line env=pure false:=by
 cases e<;>rfl
def swapped_sub2{o k}{env}{spos}:swappedStores [.Subscript o k spos] e env=pure .none:=rfl
def Ab{K}{G H}{rs}{qs}{row}{vs}{k l}{q}{d}{v}(r:RowsAt K G H rs qs)(nd:qs.Nodup)(U:rs[k]?=some row)(M:qs[k]?=some q)(h:Dps K G row vs)(V:Dp K G d v):RowsAt K G (upd H q (.lst (vs.set l v))) (rs.set k (row.set l d)) qs:=by
 refine(by rw[List.length_set];erw[r.1],λn N W J L=>?_);rw[List.getElem?_set]at J
 by_cases c:k=n
 .subst c
  rw[M]at L;cases L;rw[if_pos rfl,if_pos (gi0 U).1]at J;cases J;exact(_,aa,h.set V l)
 .rw[if_neg c]at J
  obtain⟨Z,a,b⟩:=r.2 n _ W J L;refine(Z,?_,b);rw[ab]
  .erw[a]
  .rintro rfl
   obtain⟨T,O⟩:=gi0 M;obtain⟨F,R⟩:=gi0 L;erw[c ((List.getElem_inj nd).mp (O.trans R.symm))]
set_option tactic.hygienic true in
def Dx{n1 n2}{k l}{row}{p1 p2 spos}(V:VarOk X x i)(h:Ev X Y e d)(ha:Ev X Y a (.int n1))(O:Ev X Y b (.int n2))(S:isSlice a=false)(P:isSlice b=false)(ho:Y[i]?=some (.io (.tbl rows)))(hk:SI.ixN rows.length n1=some k)(j:rows[k]?=some row)(hl:SI.ixN row.length n2=some l):
  E1 X Y (.Assign [.Subscript (.Subscript (.Name x p1) a p2) b spos] e pos) (.nx (Y.set i (.io (.tbl (rows.set k (row.set l d)))))):=by
 intro D s σ H F I h0;obtain⟨B,C,G,Z,R⟩:=h0;refine jy h (nh (pB fY V.pe ha (jV S)) O set_list ((by
   intro v;cases b<;>first|rfl|cases P))) swaps_sub2 swapped_sub2 rfl D s σ H F I ?_
 refine(B,C,G,Z,λv G1 f e1 r1=>?_);have E1:=Z.step e1;obtain⟨t,fp,ht,io,fr,j0,ow⟩:=E1.io.at' i _ ho;refine(.ref t,ht,B,C,G1,E1,λu G2 H2 Q r2=>?_);cases r2;rcases io with⟨_,_,z,_⟩|⟨_,_,_,_,_,_,z,_⟩|⟨rs,N,z,rfl,nd,K,L⟩
 .cases z
 .cases z
 .cases z
  have E:=(gi0 j).1;obtain⟨M,T⟩:∃M,N[k]?=some M:=(_,ge0 (by rw[<-L.1];erw[E]));refine(t,N.map .ref,n1,.ref M,rfl,rfl,SqL.of (Q.hh _ _ K),?_,B,C,G2,E1.step Q,λu g w e3 r3=>?_)
  .unfold L2.atI
   rw[lm0,<-L.1];show (L2.ixN rows.length n1).bind _=_;rw[show L2.ixN rows.length n1=some k from hk];show (N.map L2.V.ref)[k]?=_;rw[gm0,T];rfl
  .cases r3
   have J:=Q.trans e3;have W:=L.ext J;obtain⟨vs,h2,g2⟩:=W.2 k row M j T;have hm:M∈t::N:=mc0 _ (mg0 T);obtain⟨nt,nq⟩:=List.nodup_cons.mp nd;have q:=E1.step J;refine(M,vs,n2,l,rfl,rfl,h2,by rw[<-g2.length];erw[hl],R g _ _ (q.ioGo ho ht (.inr (.inr (rows,N,rfl,rfl,nd,J.hh _ _ K,W))) ?_ (λb O=>?_) (.inr (.inr (_,N,rfl,rfl,nd,?_,Ab W nq j T g2 (r1.mono J.gg))))) (e1.gg.trans J.gg))
   .have:er (upd w M (.lst (vs.set l v))) (t::N)=er w (t::N):=by
     funext b;unfold er;split
     .rfl
     .rename_i c
      rw[ab (λz=>c (z▸hm):b≠M)]
    rw[this];refine .refl λb o O=>?_
    have nb:b∉t::N:=λz=>by
     have:g b=none:=by
      obtain⟨o',U⟩:∃o,f b=some o:=by
       rcases mq0 z with rfl|z
       .exact(_,K)
       .erw[L.some b z]
      erw[J.nw _ _ (fr b z).1 U]
     rw[this]at O;cases O
    rw[aH nb];erw[q.sub b o O]
   .obtain⟨o',U⟩:∃o,f b=some o:=by
     rcases mq0 O with rfl|z
     .exact(_,K)
     .erw[L.some b z]
    erw[J.nw _ _ (fr b O).1 U]
   .rw[ab (λz=>nt (z▸mg0 T):t≠M)];erw[J.hh _ _ K]
theorem my{K}{G0 H0 H}:∀(rows:List (List D))(qs:A4)(G:Hp),Ext G0 H0 G H->RowsAt K G H rows qs->qs.Nodup->(∀b∈qs,G b=none/\H0 b=none)->∃J,Ext G0 H0 J H/\Same G J/\(∀b,b∉qs->J b=G b)/\Dps K J (rows.map .list) (qs.map .ref)
 |[],[],G,e,_,_,_=>(G,e,Same.refl _,λf f=>rfl,.nil)
 |[],_::_,_,_,r,_,_=>by cases r.1
 |_::_,[],_,_,r,_,_=>by cases r.1
 |row::rows,q::qs,G,e,r,nd,N=>by
  obtain⟨C,T,F⟩:=r.2 0 _ q rfl rfl;obtain⟨R,B⟩:=List.nodup_cons.mp nd;have M:=N q ms0;have O:Same G (upd G q (.lst C)):=aG M.1;obtain⟨J,Z,V,U,W⟩:=my _ qs _ (e.show M.2 T M.1) (by simpa using r.1,λk row x a b=>let ⟨Q,c,d⟩:=r.2 (k+1) _ x (by simpa using a) (by simpa using b);(Q,c,d.mono O)) B λb L=>(by rw[ab (λz=>R (z▸L):b≠q)];exact (N b (mc0 _ L)).1,(N b (mc0 _ L)).2)
  refine(J,Z,O.trans V,λb L=>?_,.cons (.list (by rw[U q R];erw[aa]) (F.mono (O.trans V))) W);rw[U b λz=>L (mc0 _ z),ab (λz=>L (z▸ms0):b≠q)]
def Dy{p1}(V:VarOk X x i)(B:Y[i]?=some (.io (.tbl rows))):E1 X Y (.Return (some (.Name x p1)) pos) (.rt (.list (rows.map .list)) .none):=by
 rintro U s j H F I ⟨q,u,G,J,R⟩
 obtain⟨t,g,C,io,M,P,f⟩:=J.io.at' i _ B;rcases io with⟨_,_,z,_⟩|⟨_,_,_,_,_,_,z,_⟩|⟨v,E,z,rfl,nd,K,L⟩
 .cases z
 .cases z
 .cases z
  obtain⟨nt,Q⟩:=List.nodup_cons.mp nd;obtain⟨W,T,w,S,Z⟩:=my rows E G J.ext L Q λb D=>M b (mc0 _ D)
  have N:=M t ms0;have O:W t=none:=by rw[S t nt];erw[N.1]
  erw[ng V.pe _ s j H F I (_,C,R _ _ _ (.list aa (Z.mono (aG O))) (T.show N.2 K O) λa a a z=>by cases z)]
end
section
variable {k:Nat}{C:Cs}{e t:Expr}{a' b' t':E}{p spos:Pos}{j:Nat}{na nb nt':Bool}{o:Out}
def lE{v}{t}{line}{env}(h:jI v=false):swapsWith v t line env=pure false:=by cases v<;>first|rfl|cases h
def mz{elt tg iter}{ifs}{sc}{d}(A:Cc C elt tg iter ifs sc)(S:Sto X x i)(c:CxC X C)(w:Wz X Φ Γ C k)(Z:ev Φ Γ .val Y A.f=some d):
  E1 X Y (.Assign [.Name x px] (.ListComp elt [(tg,iter,ifs,0)] sc p) pos) (.nx (Y.set i (.own d))):=by
 obtain⟨ds,T,F,t,W,K,rfl,L,M,N,O,R,U,V⟩:=A.ok c w Z;cases J:(X.env.blockKind==.function&&X.env.kindOf x==some _&&px.line==p.line&&!(sc.names.any _))with
 |false=>exact yT S (uj L c.calm M N O R U V) (congrArg _ J)
 |true=>
  refine CJ S L c.calm M N O R U V ?_ (congrArg _ J);simp only[be0]at J;erw[eq_of_beq J.1.1.2]
def Hx(S:Sto X x i)(hc:(!jI a)=true)(A:SdE X Φ Γ a a' true)(q:ex Φ Γ Y (.new i a')=some o):E1 X Y (.Assign [.Name x px] a pos) o:=by
 obtain⟨d,K,q⟩:=bS q;obtain⟨J,rfl⟩:=iS q;erw[yT S (A.n rfl K J) (lE (nt hc))]
def Hy(S:Sto X x i)(hc:(!jI a)=true)(A:SdE X Φ Γ a a' na)(q:ex Φ Γ Y (.set i a')=some o):E1 X Y (.Assign [.Name x px] a pos) o:=by
 obtain⟨d,W,rfl⟩:=mS q;exact (have h:=(A.v W);have V:=(lE (nt hc));(by rintro L s Z H F I ⟨N,U,G,J,R⟩;erw[hV S.nd S.nm.at' S.nm.loc h V S.nm.fn _ s Z H F I (N,U,G,J,λv M O K r=>R M O _ ((J.step K).set (S.lt I) r) K.gg)]))
def Dz{elt tg iter}{ifs}{sc}(c:CxC X C)(w:Wz X Φ Γ C k)(S:Sto X x i)(A:Cc C elt tg iter ifs sc)(q:ex Φ Γ Y (.new i A.f)=some o):E1 X Y (.Assign [.Name x px] (.ListComp elt [(tg,iter,ifs,0)] sc p) pos) o:=by
 obtain⟨d,J,q⟩:=bS q;obtain⟨K,rfl⟩:=iS q;erw[mz A S c w J]
def DA{elt tg iter}{ifs}{sc}(c:CxC X C)(w:Wz X Φ Γ C k)(S:Sto X x i)(A:Cc C elt tg iter ifs sc)(q:ex Φ Γ Y (.set i A.f)=some o):E1 X Y (.Assign [.Name x px] (.ListComp elt [(tg,iter,ifs,0)] sc p) pos) o:=by
 obtain⟨d,Z,rfl⟩:=mS q;exact (have h:=(mz A S c w Z);λM s D H F I ⟨N,V,G,K,R⟩=>
   h _ s D H F I (N,V,G,K,λQ U B L g=>by
    have W:i<Y.length:=by rw[<-K.len];erw[S.lt I]
    obtain⟨O,J,T⟩:=L.freeze1 (gs0 W);rw[List.set_set]at J;erw[R O U _ J (g.trans T)]))
def oIv{J:Type}{o:J}{z:Option Sl}{f:List D->Option J}(q:(match z with|some (.own (.list U))=>f U|_=>none)=some o):∃J,z=some (.own (.list J))/\f J=some o:=by
 cases z with
 |none=>exact zn0 q
 |some z=>cases z with
  |own d=>cases d with
   |list J=>exact(J,rfl,q)
   |_=>exact zn0 q
  |_=>exact zn0 q
def lIv{J:Type}{o:J}{z:Option Sl}{f g:List D->Option J}(q:(match z with|some (.own (.list U))=>f U|some (.io (.list U))=>g U|_=>none)=some o):(∃J,z=some (.own (.list J))/\f J=some o)\/∃J,z=some (.io (.list J))/\g J=some o:=by
 cases z with
 |none=>exact zn0 q
 |some z=>cases z with
  |own d=>cases d with
   |list J=>exact .inl (J,rfl,q)
   |_=>exact zn0 q
  |io d=>cases d with
   |list J=>exact .inr (J,rfl,q)
   |_=>exact zn0 q
  |_=>exact zn0 q
def Hz{m:Str}(V:VarOk X y i)(S:Sto X x j)(K:m="pop")(J:@15=true)(q:ex Φ Γ Y (.pop i j)=some o):E1 X Y (.Assign [.Name x px] (.Call (.Attribute (.Name y p) m apos) [] [] cpos) pos) o:=by
 subst K;obtain⟨U,h,q⟩:=oIv (q:Ga i j Y=some o);obtain⟨d,L,rfl⟩:=mS q;erw[GN V S h L J]
def DB(V:VarOk X x i)(hs:(!isSlice b)=true)(A:SdE X Φ Γ a a' na)(B:SdE X Φ Γ b b' nb)(q:ex Φ Γ Y (.seti i b' a')=some o):E1 X Y (.Assign [.Subscript (.Name x p) b spos] a pos) o:=by
 obtain⟨d,J,q⟩:=bS q;obtain⟨y,K,q⟩:=bS q;cases y with
 |int=>obtain⟨U,h,q⟩:=oIv q;obtain⟨j,L,rfl⟩:=mS q;erw[CK V (A.v J) (B.v K) (nt hs) h L]
 |_=>exact zn0 q
def HA{m:Str}(V:VarOk X x i)(M:m="append")(J:(@15&&!isStar a)=true)(A:SdE X Φ Γ a a' na)(q:ex Φ Γ Y (.app i a')=some o):E1 X Y (.Expr (.Call (.Attribute (.Name x p) m apos) [a] [] cpos) pos) o:=by
 subst M;obtain⟨d,L,q⟩:=bS q;obtain⟨U,h,q⟩|⟨U,h,q⟩:=lIv q<;>obtain⟨K,rfl⟩:=iS q
 .erw[yV (m:=false) V (A.v L) (nt (a2 J).2) h K (a2 J).1]
 .erw[yV (m:=true) V (A.v L) (nt (a2 J).2) h K (a2 J).1]
def HB{m:Str}(V:VarOk X x i)(M:m="extend")(J:(@15&&!isStar a)=true)(A:SdE X Φ Γ a a' na)(q:ex Φ Γ Y (.ext i a')=some o):E1 X Y (.Expr (.Call (.Attribute (.Name x p) m apos) [a] [] cpos) pos) o:=by
 subst M;obtain⟨d,L,q⟩:=bS q;cases d with
 |list=>
  obtain⟨U,h,q⟩|⟨U,h,q⟩:=lIv q<;>obtain⟨K,rfl⟩:=iS q
  .erw[yW (m:=false) V (A.r L) (nt (a2 J).2) h K (a2 J).1]
  .erw[yW (m:=true) V (A.r L) (nt (a2 J).2) h K (a2 J).1]
 |_=>exact zn0 q
def uH{as}{p'}{g}(A:SdE X Φ Γ (.Call g as [] p') a' na)(q:ex Φ Γ Y (.expr a')=some o):E1 X Y (.Expr (.Call g as [] p') pos) o:=by
 obtain⟨d,V,rfl⟩:=mS q
 rintro K s W H F I ⟨N,U,G,J,R⟩;erw[fU (A.v V) rfl K s W H F I (N,U,G,J,λv M O L r=>R M O _ (J.step L) L.gg)]
def HC(S:Sto X x i)(A:SdE X Φ Γ a a' na)(q:ex Φ Γ Y (.aug i a')=some o):E1 X Y (.AugAssign (.Name x px) .Add a pos) o:=by
 obtain⟨d,J,q⟩:=bS q;cases d with
 |int m=>
  unfold Jo at q;generalize h:Y[i]?=z at q;cases z with
  |none=>exact zn0 q
  |some z=>cases z with
   |dat y=>cases y with
    |int=>cases q;erw[GK S h (A.v J)]
    |_=>exact zn0 q
   |_=>exact zn0 q
 |_=>exact zn0 q
def HD{m:Str}(V:VarOk X x i)(K:m="reverse")(J:@15=true)(q:ex Φ Γ Y (.rev i)=some o):E1 X Y (.Expr (.Call (.Attribute (.Name x p) m apos) [] [] cpos) pos) o:=by
 subst K;obtain⟨U,h,q⟩:=oIv (q:Gc i Y=some o);cases q;erw[GM V h J]
end
structure Cm(C:Cs)(e:Expr) where
 f:M
 ok:∀{Φ Γ k X},CxC X C->Wz X Φ Γ C k->∀{Y d Y'},evM Φ Γ Y f=some (d,Y')->EvO X Y e d Y'
structure Cma(C:Cs)(es:A3) where
 f:List Ar
 ok:∀{Φ Γ k X},CxC X C->Wz X Φ Γ C k->∀{Y zs Y'},dX Φ Γ f Y=some (zs,Y')->EaO X Y es zs Y'
 s:aL es
section
variable {k:Nat}{C:Cs}{Y':List Sl}{e:Expr}{es:A3}{a':E}{as:List Ar}{d:D}{p:Pos}{f:Str}{j:Nat}{na:Bool}{zs:List (Sum Nat D)}
def Ac(A:SdE X Φ Γ e a' na)(q:evM Φ Γ Y (.p a')=some (d,Y')):EvO X Y e d Y':=by
 obtain⟨V,R,q⟩:=mS q;cases q;exact (have h:=(A.v R);(by rintro K s U H Q I ⟨M,O,G,E,k⟩;erw[h _ s U H Q I (M,O,G,E,λv L N J r=>k v L N (E.step J) (E.gx J) r)]))
def qE{d}{q}(h:SI.pairD d=some q):d=.tuple [q.1,q.2]:=by
 cases d with
 |tuple l=>cases l with
  |nil=>exact zn0 h
  |cons a l=>cases l with
   |nil=>exact zn0 h
   |cons b l=>cases l with
    |nil=>cases h;rfl
    |cons=>exact zn0 h
 |_=>exact zn0 h
def gIv{z:Option Sl}{w:D}(h:(match z with|some (.io d)=>some d|_=>none)=some w):z=some (.io w):=by
 cases z with
 |none=>exact zn0 h
 |some z=>cases z with
  |io=>cases h;rfl
  |_=>exact zn0 h
def vIv{z}{c}{R}(h:Jp c z=some R):z=some (.io (.vlt c 0 R)):=by
 cases z with
 |none=>exact zn0 h
 |some z=>cases z with
  |io d=>cases d with
   |vlt a b=>cases b with
    |zero=>obtain⟨rfl,rfl⟩:=iS h;rfl
    |succ=>exact zn0 h
   |_=>exact zn0 h
  |_=>exact zn0 h
def DC(J:CxC X C)(w:Wz X Φ Γ C k)(h:C.io.ios.lookup f=some n)(K:ah C f=true)(A:∀{Y zs Y'},dX Φ Γ as Y=some (zs,Y')->EaO X Y (e::es) zs Y')(hs:aL (e::es))(q:evM Φ Γ Y (.call f n i as)=some (d,Y')):EvO X Y (.Call (.Name f p) (e::es) [] pos) d Y':=by
 obtain⟨V,M,q⟩:=bS q;obtain⟨⟨zs,W⟩,N,q⟩:=bS q;obtain⟨ds,O,q⟩:=bS q;obtain⟨r,L,q⟩:=bS q;obtain⟨z,R,q⟩:=bS q;obtain⟨Z,U,q⟩:=mS q;cases q;rw[qE R]at L;erw[DT (w.io.fn f n h V M) w.room (bQ J K).1 (bQ J K).2.2 (A N) O L U hs]
def HF{m:Str}(w:Wz X Φ Γ C k)(h:C.vc=some c)(O:C.io.vn.isSome=true)(N:m="put")(V:VarOk X y i)(K:((apos.endLine==pos.line)&&!isStar e)=true)(A:SdE X Φ Γ e a' na)(q:evM Φ Γ Y (.put c i a')=some (d,Y')):EvO X Y (.Call (.Attribute (.Name y p) m apos) [e] [] pos) d Y':=by
 subst N;obtain⟨T,U,q⟩:=bS q;obtain⟨R,L,q⟩:=bS q;obtain⟨z,W,q⟩:=mS q;obtain⟨r,M,Z⟩:=bS W;cases q;rw[qE Z]at M;have J:=vIv L
 erw[CN (w.io.put c h O) (w.room.mono w.two) V (A.v U) (nt (a2 K).2) J M (a2 K).1]
def HG{x1}(A:∀{Y zs Y'},dX Φ Γ as Y=some (zs,Y')->EaO X Y es zs Y')(q:evM Φ Γ Y (.tup as)=some (d,Y')):EvO X Y (.Tuple es x1 pos) d Y':=by
 obtain⟨⟨zs,D⟩,W,q⟩:=bS q;obtain⟨ds,Z,q⟩:=bS q;obtain⟨V,q⟩:=iS q;cases q;exact (have h:=(A W);λK s F H Q I ⟨L,N,G,E,k⟩=>
   xR h _ s F H Q I (L,N,G,E,λT M J E1 R O=>by
    have r:=O.dps Z;refine(by rw[<-r.length];erw[Nat.le_of_lt (ia V)],λq U=>?_);have e:Ext M J _ (upd J q (.tup T)):=.laid E1.sub U;erw[k _ _ _ (E1.step e) (R.trans (E1.gx e)) (.tuple aa (r.mono e.gg))]))
def Ad(q:dX Φ Γ [] Y=some (zs,Y')):EaO X Y [] zs Y':=by cases q;exact (by rintro pos J s K H Q I ⟨L,M,G,E,k⟩;erw[pa_nil _ _ s K H Q I (k [] G H E .refl .nil)])
def MB(V:VarOk X x j)(A:∀{Y zs Y'},dX Φ Γ as Y=some (zs,Y')->EaO X Y es zs Y')(q:dX Φ Γ (.v j::as) Y=some (zs,Y')):EaO X Y (.Name x p::es) zs Y':=by
 have q:(if ((Y[j]?).bind _).isSome=true then (dX Φ Γ as Y).map _ else none)=some _:=q;split at q
 .obtain⟨z,J,q⟩:=mS q
  cases q;erw[JP V ‹_› (A J)]
 .cases q
def HH{m}(E:∀{Y d Y'},evM Φ Γ Y m=some (d,Y')->EvO X Y e d Y')(hs:isStar e=false)(A:∀{Y zs Y'},dX Φ Γ as Y=some (zs,Y')->EaO X Y es zs Y')(q:dX Φ Γ (.x m::as) Y=some (zs,Y')):EaO X Y (e::es) zs Y':=by
 obtain⟨⟨d,P⟩,T,q⟩:=bS (q);obtain⟨z,F,q⟩:=mS q;cases q;exact (have W:=(E T);have Z:=(A F);(by rintro pos L s B H Q I ⟨J,K,G,E,k⟩;erw[pa_cons W Z (starEach_cons hs) _ _ s B H Q I (J,K,G,E,λv O S E1 V D=>(J,K,O,E1,λu N R M g U=>k _ N R M (V.trans g) (.x (D.mono g.gg) U)))]))
end
section
variable (r:∀C e,Option (Ce C e))(rm:∀C e,Option (Cm C e))(C:Cs)
noncomputable def isName:Expr->Bool
 |.Name ..=>true
 |_=>false
def cAr:(es:A3)->Option (Cma C es)
 |[]=>some ([],λa a=>Ad,λa h=>by cases h)
 |.Name x p::es=>(cAr es).bind λR=>match h:dU C x with
  |some j=>some (.v j::R.f,λc w=>MB (bc c h) (R.ok c w),λz hz=>by
   rcases mq0 hz with rfl|hz
   .rfl
   .erw[R.s z hz])
  |none=>(r C (.Name x p)).map λA=>(.x (.p A.f)::R.f,λc w=>HH (Ac @8) rfl (R.ok c w),λz hz=>by
   rcases mq0 hz with rfl|hz
   .rfl
   .erw[R.s z hz])
 |e::es=>chk (!isStar e) λJ=>(rm C e).bind λE=>(cAr es).map λR=>(.x E.f::R.f,λc w=>HH (E.ok c w) (nt J) (R.ok c w),λz hz=>by
   rcases mq0 hz with rfl|hz
   .erw[nt J]
   .erw[R.s z hz])
def cTs:(es:A3)->Option (Cma C es)
 |[]=>some ([],λa a=>Ad,λa h=>by cases h)
 |e::es=>chk (!isStar e) λJ=>(rm C e).bind λE=>(cTs es).map λR=>(.x E.f::R.f,λc w=>HH (E.ok c w) (nt J) (R.ok c w),λz hz=>by
   rcases mq0 hz with rfl|hz
   .erw[nt J]
   .erw[R.s z hz])
noncomputable def Ae:List Ar->Nat->Option Nat
 |.v j::_,0=>some j
 |_::r,n+1=>Ae r n
 |_,_=>none
noncomputable def oneAt(js:List Nat)(i:Nat):Option Nat:=(js.idxOf? i).bind λm=>if (js.drop (m+1)).contains i then none else some m
set_option tactic.hygienic true in
def Af{js}{i m}(h:oneAt js i=some m):js[m]?=some i/\∀k,js[k]?=some i->k=m:=by
 obtain⟨V,J,h⟩:=bx0 h;split at h
 .cases h
 .rename_i L
  cases h;obtain⟨M,N,O⟩:=List.findIdx?_eq_some_iff_getElem.mp J;refine(by simp_all,λk K=>?_);obtain⟨R,U⟩:=gi0 K;rcases Nat.lt_trichotomy k m with z|z|z
  .simp_all
  .erw[z]
  .refine absurd (List.contains_iff_mem.mpr (mg0 (i:=k-(m+1)) ?_)) L
   rwa [List.getElem?_drop,show m+1+(k-(m+1))=k by omega]
def Ax{i}{w}(h:Gd Y i=some w):Y[i]?=some (.io w):=gIv h
def Kd(io:Nat):(e:Expr)->Option (Cm C e)
 |.Call (.Name f p) (a::F) [] pos=>match h:C.io.ios.lookup f with
  |some n=>chk (ah C f) λj=>(cAr r rm C (a::F)).bind λA=>(Ae A.f n).map λi=>(.call f n i A.f,λc w=>DC c w h j @8 A.s)
  |none=>(r C (.Call (.Name f p) (a::F) [] pos)).map λA=>(.p A.f,λc w=>Ac @8)
 |.Call (.Attribute (.Name y p) m apos) [a] [] pos=>if N:m="put" then chk (C.io.vn.isSome) λhv=>chk ((apos.endLine==pos.line)&&!isStar a) λo=>got C.vc λc E=>got (dU C y) λi g=>(r C a).map λA=>(.put c i A.f,λD w=>HF w E hv N (bc D g) o (A.ok D w)) else (r C (.Call (.Attribute (.Name y p) m apos) [a] [] pos)).map λA=>(.p A.f,λc w=>Ac @8)
 |.Tuple I x1 pos=>(cTs rm C I).map λA=>(.tup A.f,λc w=>HG @8)
 |.BinOp a .Add b pos=>((r C (.BinOp a .Add b pos)).map λA=>(.p A.f,λc w=>Ac @8)).or<|(r C a).bind λA=>(rm C b).map λB=>(.cat A.f B.f,λc w Y d T q=>by
  obtain⟨x,L,q⟩:=bS q;obtain⟨xs,U,q⟩:=bS q;obtain⟨⟨y,Y1⟩,V,q⟩:=bS q;obtain⟨ys,q4,q⟩:=bS q;obtain⟨O,q⟩:=iS q;cases q;rw[Av U]at L;have P:y=.list ys:=Av q4;subst P;erw[HQ ((A.ok c w).v L) (B.ok c w V) (by rw[<-big_eq];exact O)])
 |.ListComp J [⟨W,iter,[],0⟩] Q pos=>((r C (.ListComp J [(W,iter,[],0)] Q pos)).map λA=>(.p A.f,λc w=>Ac @8)).or<|(cI r C iter).bind λS=>got (yi C Q W) λq h=>got (cTg q.1 W) λt ht=>chk (jH t q.2.1) λl=>(rm q.1 J).bind λA=>got (oneAt q.2.2 io) λm N=>some (.comp q.2.1 q.2.2 (q.2.1+m) io t S.f A.f,λ{Φ Γ k X} c w {Y d T} z=>by
  obtain⟨B,nt,js⟩:=q;obtain⟨ds,L,z⟩:=bS z;obtain⟨O,z⟩:=iB z;obtain⟨w0,U,z⟩:=bS z;obtain⟨u,V,z⟩:=bS z;cases z;have R:=nR c h;have e:=R.nt;subst e;have M:=Ax U;obtain⟨m1,m2⟩:=Af N;erw[zf R.ok c.calm ((S.ok c w).w L _) (λA s H K=>qf (R.cx A s H K) ht) l (λZ s H K Y e T z=>A.ok (R.cx Z s H K) (w.blk R.same Z s H K) z) (by rw[<-big_eq];exact O) M m1 m2 V (jk (S.ok c w).s)])
 |e=>(r C e).map λA=>(.p A.f,λc w=>Ac @8)
end
def cMm(io:Nat):Nat->(C:Cs)->(e:Expr)->Option (Cm C e)
 |0=>λa a=>none
 |n+1=>λC=>Kd (cE 60) (cMm io n) C io
def eS{c}{x y:α}(h:(if c=true then none else some x)=some y):¬ c=true/\y=x:=by
 grind
def Ag(K:¬ lh Y=true):∀(j:Nat) d,Y[j]?≠some (.io d):=λj d J=>K (List.any_eq_true.mpr (_,mg0 J,rfl))
def Ie{Φ}{Γ}{k:Nat}{C}{X}{vn y}{p pos px spos}{o}(Z:jX X.prog X.w X.K X.mg X.base c vn)(w:Wz X Φ Γ C k)(L:Gl X vn)(S:Sto X y i)(q:ex Φ Γ Y (.newv i c)=some o):E1 X Y (.Assign [.Name y px] (.Call (.Name vn p) [] [] pos) spos) o:=by
 have q:SI.S.newv i c Φ Γ Y=some o:=q;dsimp only[SI.S.newv]at q;cases J:Y[i]? with
 |none=>simp_all
 |some sl=>
  rw[J]at q;cases sl with
  |fr=>
   obtain⟨M,rfl⟩:=eS q;erw[CU Z (w.room.mono w.two) L S J (Ag M)]
  |_=>cases q
section
structure Cst(C:Cs)(st:Stmt) where
 f:S
 ok:∀{Φ Γ k X},CxC X C->Wz X Φ Γ C k->PassesOwn @4 X.A X.env X.xe->∀{Y o},ex Φ Γ Y f=some o->E1 X Y st o
structure Css(C:Cs)(sts:List Stmt) where
 f:Ss
 ok:∀{Φ Γ k X},CxC X C->Wz X Φ Γ C k->PassesOwn @4 X.A X.env X.xe->∀{Y o},exs Φ Γ Y f=some o->Ep X Y sts o
variable (r:∀C e,Option (Ce C e))(rm:∀C e,Option (Cm C e))(C:Cs)
def cAs(y:Str)(O:Pos)(pos:Pos):(v:Expr)->Option (Cst C (.Assign [.Name y O] v pos)):=λv=>got (iZ C y) λj h=>match v with
 |.Call (.Attribute (.Name x _) m apos) [] [] cpos=>eqS m "pop" λN=>chk @15 λM=>got (dU C x) λi L=>chk (!C.mts.contains j) λa=>some (.pop i j,λc a a a a q=>Hz (bc c L) (dE c h) N M q)
 |.ListComp J [⟨U,iter,ifs,0⟩] R _=>(cCo r C J U iter ifs R).map λA=>if C.mts.contains j then(.new j A.f,λc w a a a q=>Dz c w (dE c h) A q) else(.set j A.f,λc w a a a q=>DA c w (dE c h) A q)
 |v=>chk (!jI v) λK=>(r C v).bind λA=>if C.mts.contains j then (match A with
   |⟨f,true,ok⟩=>some (.new j f,λc w a a a q=>Hx (dE c h) K (ok c w) q)
   |_=>none)else some (.set j A.f,λc w a a a q=>Hy (dE c h) K (A.ok c w) q)
def mC:∀{ds:List D}{rs},rowsOf ds=some rs->ds=rs.map .list:=by
 intro ds
 induction ds with
 |nil=>intro _ h;cases h;rfl
 |cons d r ih=>
  intro _ h;cases d with
  |list a=>
   obtain⟨q,J,rfl⟩:=mS (h:(rowsOf r).map _=some _);rw[mk0,ih J]
  |_=>cases h
set_option tactic.hygienic true in
def cNt(y:Str)(O pos:Pos)(K tg iter:Expr)(sc:Scope)(p:Pos):Option (Cst C (.Assign [.Name y O] (.ListComp K [(tg,iter,[],0)] sc p) pos)):=got (iZ C y) λj T=>if C.tb=some j then (cR r C tg iter).bind λS=>got (yi C sc tg) λq h=>got (cTg q.1 tg) λt D=>chk (jH t q.2.1) λF=>(r q.1 K).bind λA=>match A with
 |⟨f,true,ok⟩=>some (.newt j (.comp q.2.1 q.2.2 t S.f .nil f),λ{Φ Γ k X} c w a Y o z=>by
  have z:(match Y[j]? with
   |some .fr=>if lh Y then .none else (ev Φ Γ .val Y (.comp q.2.1 q.2.2 t S.f .nil f)).bind λd=>(BY d).bind λds=>(rowsOf ds).map λU=>Out.nx (Y.set j (.io (.tbl U)))
   |_=>.none)=some o:=z
  split at z
  .rename_i Z
   split at z
   .cases z
   .rename_i M
    obtain⟨d,I,z⟩:=bS z;obtain⟨v,E,z⟩:=bS z;obtain⟨U,u,rfl⟩:=mS z;obtain⟨B,nt,l⟩:=q;obtain⟨ds,g,z⟩:=bS I;obtain⟨Q,z⟩:=iB z;obtain⟨P,V,rfl⟩:=mS z;cases E;have R:=nR c h;have e:=R.nt;subst e;rw[mC u]at V;refine Dw (dE c T) R.ok c.calm ((S.ok c w).r g) (λA s H L=>qf (R.cx A s H L) D,λN s H L Y d z W=>(ok (R.cx N s H L) (w.blk R.same N s H L)).n rfl z W) F (by rw[<-big_eq];erw[Q]) V (jk (S.ok c w).s) Z (Ag M) ?_;cases J:(X.env.blockKind==.function&&X.env.kindOf y==some .local&&O.line==p.line&&!(sc.names.any λ(n,k)=>n==y&&(k==.local||k==.cell)))with
    |false=>exact .inl (congrArg (pure (f:=Sem)) J)
    |true=>
     refine .inr (?_,congrArg (pure (f:=Sem)) J);simp only[be0]at J;erw[eq_of_beq J.1.1.2]
  .cases z)
 |_=>none else none
def cAm(io:Nat)(y:Str)(Z:Pos)(pos:Pos):(v:Expr)->Option (Cst C (.Assign [.Name y Z] v pos))
 |.Call (.Name O p) [] [] _=>if l:C.io.vn=some O then got (iZ C y) λj h=>got C.vc λc N=>chk (ah C O) λD=>some (.newv j c,λW w g Y o q=>Ie (w.io.nv c O N l) w (bQ W D).1 (dE W h) q) else none
 |.ListComp M [⟨F,iter,[],0⟩] T p=>got (iZ C y) λj Q=>(cI r C iter).bind λS=>got (yi C T F) λq h=>got (cTg q.1 F) λt E=>chk (jH t q.2.1) λP=>(rm q.1 M).bind λA=>got (oneAt q.2.2 io) λm I=>some (.setm j (.comp q.2.1 q.2.2 (q.2.1+m) io t S.f A.f),λ{Φ Γ k X} c w g Y o z=>by
  obtain⟨⟨d,V⟩,z1,rfl⟩:=mS z;obtain⟨B,nt,js⟩:=q;obtain⟨ds,K,z2⟩:=bS z1;obtain⟨hz,z3⟩:=iB z2;obtain⟨w0,q2,z4⟩:=bS z3;obtain⟨u,q3,z5⟩:=bS z4;cases z5;have R:=nR c h;have e:=R.nt;subst e;obtain⟨m1,m2⟩:=Af I;refine Ib (dE c Q) R.ok c.calm ((S.ok c w).w K _) (λA s H L=>qf (R.cx A s H L) E) P (λU s H L Y e Y' z=>A.ok (R.cx U s H L) (w.blk R.same U s H L) z) (by rw[<-big_eq];erw[hz]) (Ax q2) m1 m2 q3 (jk (S.ok c w).s) ?_;cases J:(X.env.blockKind==.function&&X.env.kindOf y==some .local&&Z.line==p.line&&!(T.names.any λ(n,k)=>n==y&&(k==.local||k==.cell)))with
  |false=>exact .inl (congrArg (pure (f:=Sem)) J)
  |true=>
   refine .inr (?_,congrArg (pure (f:=Sem)) J);simp only[be0]at J;erw[eq_of_beq J.1.1.2])
 |.BinOp a op b p=>got (iZ C y) λj h=>(rm C (.BinOp a op b p)).map λA=>(.setmf j A.f,λc w g Y o q=>by
  obtain⟨⟨d,V⟩,K,rfl⟩:=mS q;erw[DU (dE c h) (A.ok c w K) (lE rfl)])
 |v=>got (iZ C y) λj h=>chk (!jI v) λN=>(rm C v).map λA=>(.setm j A.f,λc w g Y o q=>by
  obtain⟨⟨d,V⟩,K,rfl⟩:=mS q;erw[CO (dE c h) (A.ok c w K) (lE (nt N))])
def cRt(x:Str)(p pos:Pos):Option (Cst C (.Return (some (.Name x p)) pos)):=got (dU C x) λi h=>if C.tb=some i then some (.rett i,λc a a Y o q=>by
  obtain⟨K,J,rfl⟩:=mS q;erw[Dy (bc c h) (mD J)]) else none
def Ke(io:Nat)(R:∀C I,Option (Css C I)):(st:Stmt)->Option (Cst C st)
 |.Assign [.Name y N] v pos=>(match v with
  |.ListComp F [⟨u,iter,[],0⟩] sc p=>(cNt r C y N pos F u iter sc p).or ((cAs r C y N pos _).or (cAm r rm C io y N pos _))
  |v=>(cAs r C y N pos v).or (cAm r rm C io y N pos v))
 |.Assign [.Subscript (.Subscript (.Name x _) a _) b _] e _=>chk (!isSlice a&&!isSlice b) λV=>got (dU C x) λi h=>(r C a).bind λA=>(r C b).bind λB=>(r C e).map λE=>(.sett i A.f B.f E.f,λc w j Y o q=>by
  obtain⟨d,J,z1⟩:=bS q;obtain⟨R,Q,z2⟩:=bS z1;obtain⟨y1,P,z3⟩:=bS z2;obtain⟨y2,q4,z4⟩:=bS z3;obtain⟨n1,q5,z5⟩:=bS z4;obtain⟨n2,q6,z6⟩:=bS z5;obtain⟨k1,q7,z7⟩:=bS z6;obtain⟨j1,q8,z8⟩:=bS z7;obtain⟨l,q9,rfl⟩:=mS z8;obtain rfl:=cP q5;obtain rfl:=cP q6;erw[Dx (bc c h) ((E.ok c w).v J) ((A.ok c w).v P) ((B.ok c w).v q4) (nt (a2 V).1) (nt (a2 V).2) (mD Q) q7 q8 q9])
 |.Assign [.Subscript (.Name x _) b _] a _=>chk (!isSlice b) λV=>got (dU C x) λi h=>(r C b).bind λB=>((r C a).map λA=>(.seti i B.f A.f,λc w j j j q=>DB (bc c h) V @8 (B.ok c w) q))
 |.Expr (.Call (.Attribute (.Name x _) m apos) [a] [] cpos) _=>chk (@15&&!isStar a) λU=>got (dU C x) λi h=>((r C a).bind λA=>if L:m="extend" then some (.ext i A.f,λc w j j j q=>HB (bc c h) L U @8 q) else if L:m="append" then some (.app i A.f,λc w j j j q=>HA (bc c h) L U @8 q) else none).or<|if L:m="append" then (rm C a).map λA=>(.appm i A.f,λc w j Y o q=>by
  obtain⟨j0,J,q⟩:=bS q;obtain⟨⟨d,k⟩,Q,q⟩:=bS q;obtain⟨ds,P,q⟩:=bS q;obtain⟨hz,rfl⟩:=iS q;subst L;erw[Ia (bc c h) (A.ok c w Q) (nt (a2 U).2) (zF J) (zF P) (by rw[<-big_eq];exact hz) (a2 U).1]) else none
 |.Expr (.Call (.Name f p) Z [] D) _=>(r C (.Call (.Name f p) Z [] D)).map λA=>(.expr A.f,λc w j j j q=>uH @8 q)
 |.Expr (.Call (.Attribute (.Name x W) m apos) [] [] cpos) pos=>eqS m "reverse" λL=>chk @15 λhl=>got (dU C x) λi h=>some (.rev i,λc j j j j q=>HD (bc c h) L hl q)
 |.Expr (.Call (.Attribute g m p) (a::b::Z) [] D) _=>(r C (.Call (.Attribute g m p) (a::b::Z) [] D)).map λA=>(.expr A.f,λc w j j j q=>uH @8 q)
 |.AugAssign (.Name x W) .Add e pos=>got (iZ C x) λi h=>(r C e).map λA=>(.aug i A.f,λc w j j j q=>HC (dE c h) @8 q)
 |.While t body [] _=>(r C t).bind λT=>(R C body).map λB=>(.whl T.f B.f,λc w K Y o q=>by
  have q:ik (λM=>ev _ _ .test M T.f) (λM=>exs _ _ M B.f) fuel Y=some o:=q;erw[yU (λM d' O=>(T.ok c w).t O) (λM o' O=>B.ok c w K O) fuel q K])
 |.If t a b _=>(r C t).bind λT=>(R C a).bind λA=>(R C b).map λB=>(.ifs T.f A.f B.f,λc w K Y o q=>by
  obtain⟨d,J,q⟩:=bS q;obtain⟨t,rfl,ht⟩:=(T.ok c w).t J;exact JO ht (λz=>by subst z;erw[A.ok c w K q]) λz=>by subst z;erw[B.ok c w K q])
 |.For u iter body [] _=>got (cTg C u) λt h=>(cI r C iter).bind λS=>(R C body).map λB=>(.fors t S.f B.f,λc w K Y o q=>by
  obtain⟨ds,J,q⟩:=bS q;erw[GL ((S.ok c w).w J) (qf c h) (λM o' O=>B.ok c w K O) q c.calm K (jk (S.ok c w).s)])
 |.Return (some (.Name x W)) pos=>if let some z:=cRt C x W pos then some z else (r C (.Name x W)).map λA=>(.ret A.f,λc w j j j q=>by
  obtain⟨d,J,rfl⟩:=mS q;erw[yS ((A.ok c w).v J)])
 |.Return (some e) _=>((r C e).map λA=>(.ret A.f,λc w j j j q=>by
  obtain⟨d,J,rfl⟩:=mS q;erw[yS ((A.ok c w).v J)])).or ((rm C e).map λA=>(.retm A.f,λc w j Y o q=>by
  obtain⟨⟨d,k⟩,J,rfl⟩:=mS q;erw[CP (A.ok c w J)]))
 |.Raise ..=>some (.stuck,λj j j j j q=>nn q)
 |_=>none
def Kf(s:∀C st,Option (Cst C st)):(J:List Stmt)->Option (Css C J)
 |[]=>some (.nil,λa a a a a q=>by cases q;erw[GJ])
 |st::J=>(s C st).bind λA=>(Kf s J).map λB=>(.cons A.f B.f,λc w K Y o q=>by
  obtain⟨M,L,q⟩:=bS q;cases M with
  |nx N=>exact yQ (A.ok c w K L) (B.ok c w K q)
  |rt d u=>cases q;erw[ep_consR (A.ok c w K L)])
end
def cSs(io:Nat):Nat->(C:Cs)->(J:List Stmt)->Option (Css C J)
 |0=>λa a=>none
 |n+1=>λC=>Kf C (λC=>Ke (cE 60) (cMm io 20) C io (cSs io n))
section
variable {ν:NK}{P:Program}{w:World}{K:Fg}{base:Heap}{k:Nat}
def mF{N}{fl}:∀{ds:List D}{vs:List V},Same G H->Das K G H fl ds vs->ds.length=fl.length->n=N.length->vs.length<=N.length->EnvD ν K (G,.none) H G H (start N vs) (aN fl n ds)/\dh (aN fl n ds):=by
 intro ds vs s r J B C;have L:=r.length;have U:∀(i n:Nat) sl,(List.replicate n Sl.no)[i]?=some sl->sl=.no:=λi n sl h=>by
  rw[List.getElem?_replicate]at h;split at h
  .cases h;rfl
  .cases h
 have O:∀(fl:List Bool)(ds:List D)(vs:List V),Das K G H fl ds vs->ds.length=fl.length->∀(i:Nat) sl,((fl.zip ds).map (λp=>if p.1 then Sl.lent p.2 else .dat p.2))[i]?=some sl->
   ∃d v,vs[i]?=some v/\((sl=.lent d/\Dr K G H d v)\/(sl=.dat d/\Dp K G d v)):=by
  intro fl ds vs r
  induction r with
  |nil=>intro J i sl h;simp at h
  |@cons fl d v ds vs T F _ ih=>
   intro J i sl h;cases fl with
   |nil=>simp at J
   |cons b fl=>
    cases i with
    |zero=>
     simp at h;refine(d,v,rfl,?_);cases b with
     |true=>exact .inl (by simpa using h.symm,F)
     |false=>exact .inr (by simpa using h.symm,T rfl)
    |succ i=>simpa using ih (by simpa using J) i sl (by simpa using h)
 have Z:((fl.zip ds).map (λp=>if p.1 then Sl.lent p.2 else Sl.dat p.2)).length=vs.length:=by simp[L,<-J]
 have slot:∀(i:Nat) sl,(aN fl n ds)[i]?=some sl->sl=.no\/∃d v,(start N vs)[i]?=some (some v)/\((sl=.lent d/\Dr K G H d v)\/(sl=.dat d/\Dp K G d v)):=λi sl h=>by
  unfold aN at h
  by_cases W:i<vs.length
  .rw[gl0 (by rw[Z];erw[W])]at h
   obtain⟨d,v,e,q⟩:=O fl ds vs r J i sl h;refine .inr (d,v,?_,q);unfold start;rw[gl0 (by simpa using W),gm0,e];rfl
  .rw[List.getElem?_append_right (by rw[Z];simp_all)]at h
   exact .inl (U _ _ _ h)
 have M:dh (aN fl n ds):=λi d=>(λh=>(by rcases slot i _ h with z|⟨R,v,e,⟨z,_⟩|⟨z,_⟩⟩<;>cases z),λh=>(by rcases slot i _ h with z|⟨R,v,e,⟨z,_⟩|⟨z,_⟩⟩<;>cases z))
 refine((.refl s,?_,λi d h=>?_,λi d h=>?_,λi d h=>((M i d).1 h).elim,λi j d e p h=>((M i d).1 h).elim,λi d h=>((M i d).2 h).elim,λi j d e h=>((M i d).2 h).elim,λa a=>rfl),M)
 .unfold start aN
  simp[B,L,<-J]
 .rcases slot i _ h with z|⟨R,v,e,z|z⟩
  .cases z
  .cases z.1
  .cases z.1;exact(v,e,z.2)
 .rcases slot i _ h with z|⟨R,v,e,z|z⟩
  .cases z
  .cases z.1;exact(v,e,z.2)
  .cases z.1
def EnvD.setFr{G0}{H0 G H}{σ}{Y}{i}(E:EnvD ν K G0 H0 G H σ Y)(O:G0.pin=.none):EnvD ν K G0 H0 G H σ (Y.set i .fr):=by
 refine(E.ext,by simp[E.len],λj d h=>E.dat j d (getE_io h @0).2,λj d h=>E.lent j d (getE_io h @0).2,λj d h=>E.own j d (getE_io h @0).2,λj k d e p J L=>E.apart j k d e p (getE_io J @0).2 (getE_io L @0).2,λj d h=>?_,λj k d e J L=>E.io.one j k d e (getE_io J @0).2 (getE_io L @0).2,λl l=>O);obtain⟨p,M,a,b,c,f,g⟩:=E.io.at' j d (getE_io h @0).2;exact(p,M,a,b,c,f,λk e q N=>g k e q (getE_io N @0).2)
def EnvD.openIo{σ}{Y}{i}{d0}{p}{fp}(E:EnvD ν K (G,.none) (er H fp) G (er H fp) σ Y)(J:dh Y)(N:Same G (er H fp))(io:IoAt ν K G H d0 p fp)(W:i<σ.length)(nf:∀(j:Nat),Y[j]?≠some .fr):
  EnvD ν K (G,some (p,fp)) (er H fp) G H (σ.set i (some (.ref p))) (Y.set i (.io d0)):=by
 have O:∀b∈fp,G b=.none:=λb M=>by
  cases q:G b with
  |none=>rfl
  |some o=>have:=N b o q;rw[jJ M]at this;cases this
 refine((dC,Same.refl _,N.trans dC,λa a h a=>h),by simp[E.len],λj d h=>?_,λj d h=>?_,λj d h=>((J j d).1 (getE_io h @0).2).elim,λj a d a a h=>((J j d).1 (getE_io h @0).2).elim,λj d h=>?_,λj k d e R U=>?_,λj h=>(nf j (getE_io h @0).2).elim)
 .obtain⟨ne,z⟩:=getE_io h @0
  rw[gn0 (Ne.symm ne)];erw[E.dat j d z]
 .obtain⟨ne,z⟩:=getE_io h @0
  rw[gn0 (Ne.symm ne)];erw[E.lent j d z]
 .rcases getE_set h with⟨rfl,z⟩|⟨_,z⟩
  .cases z
   exact(p,fp,gs0 W,io,λb M=>(O b M,jJ M),λz Z=>by simp_all,λk e q V=>((J k e).1 (getE_io V @0).2).elim)
  .exact ((J j d).2 z).elim
 .have L:∀{j:Nat}{d:D},(Y.set i (.io d0))[j]?=some (.io d)->j=i:=λh=>(getE_set h).elim (·.1) λ⟨_,z⟩=>((J _ _).2 z).elim
  rw[L R,L U]
def oz{p}{d0}:∀{n:Nat}{fl}{ds:List D}{vs:List V},Dai K G H p d0 n fl ds vs->Das K G H fl (ds.set n .none) (vs.set n .non)/\vs[n]?=some (.ref p)/\ds[n]?=some d0:=by
 intro n fl ds vs h
 induction h with
 |io r=>exact(.cons (λa=>.none) (.of .none) r,rfl,rfl)
 |cons J L r ih=>exact(.cons J L ih.1,ih.2)
def xc{N}{vs:List V}{v}(h:vs[n]?=some v):(start N (vs.set n .non)).set n (some v)=start N vs:=by
 have J:=(gi0 h).1;have e:start N (vs.set n .non)=(start N vs).set n (some .non):=by
  unfold start
  simp_all
 rw[e,List.set_set];have:(start N vs)[n]?=some (some v):=by
  unfold start;rw[gl0 @6,gm0,h];rfl
 exact List.ext_getElem? λj=>by
  by_cases q:n=j
  .subst q;rw[gs0 (gi0 this).1,this]
  .rw[gn0 q]
noncomputable def dkS:Dk->Nat
 |.io i=>i
 |.mk i=>i
 |.tb i=>i
 |.pure=>0
noncomputable def dkT:Dk->Option Nat
 |.tb i=>some i
 |_=>none
def sR(fns cst:A1)(lent:List Bool)(dk:Dk)(st:Stmt)(vc:Option Nat:=none)(vms:List Str:=[])(io:IoC:={}):Option Def:=
 (ef st).bind λ(ps,body,sc)=>(cSs (dkS dk) 60 (Gn fns cst ps body sc vc vms io (dkT dk)) body).map λb=>{lent,slots:=(ps++aC sc ps).length,body:=b.f,k:=dk}
structure HI(P:Program)(w:World)(K:Fg)(mg:A6)(base:Heap)(Φ:Fs)(Γ:List (Str×D))(fns:A1)(vc:Option Nat)(vms:A1)(io:IoC)(k:Nat):Prop where
 two:2<=k
 blt:∀x∈bltNames,mg x=Option.none
 fns:∀x,fns.contains x=true->∀φ,Φ x=some φ->FnZ P w K mg base k x φ
 gl:∀x d,Γ.lookup x=some d->∃u v,mg x=some u/\RelV v u/\∀G,Dp K G d v
 vcl:∀c,vc=some c->Cls K c/\NoAttr K c "objects"
 vf:∀c m,vc=some c->vms.contains m=true->∀φ,Φ (bL m)=some φ->CM P w K mg base k c m φ
 io:IoZ P w K mg base Φ vc io k
def DE(Φ:Fs)(Γ:List (Str×D))(d:Def):Fn:=(d.lent,λds=>if ds.length=d.lent.length then (exs Φ Γ (br d ds) d.body).bind (Out.val d.k)else .none)
def NW{fl}(j:Nat):(aN fl n ds)[j]?≠some .fr:=λh=>by
 have:=mg0 h;unfold aN at this
 simp_all
def Kg(w:World)(K:Fg)(J:Fn):Dk->Sp
 |.io i=>Pio (aM w) K J i
 |_=>Pur K J
theorem Dai.length{p}{d0}{fl}{vs:List V}(h:Dai K G H p d0 n fl ds vs):ds.length=vs.length:=by
 have:=(oz h).1.length
 simpa using this
set_option tactic.hygienic true in
def uI{qual:Str}{f:Addr}{fd:FuncData}{fns cst:A1}{lent:List Bool}{dk:Dk}{dfn:Def}{vc:Option Nat}{vms:A1}{io:IoC}(F:Fun K x qual st f fd)(S:cf (ps++aC @9 ps) ps @9)(hp:ef st=some (ps,defBody st,defScope st))(hd:sR fns cst lent dk st vc vms io=some dfn)(hlen:lent.length=ps.length)
  (M:HI P w K mg base Φ Γ fns vc vms io k):FnOk P w K mg base CX0 (k+1) f fd ps (Kg w K (DE Φ Γ dfn) dk):=by
 unfold sR at hd;rw[hp,bs0]at hd;obtain⟨b,hb,rfl⟩:=mx0 (show (cSs (dkS dk) 60 (Gn fns cst ps (defBody st) @9 vc vms io (dkT dk)) (defBody st)).map _=some dfn from hd);have runs:∀{ds:List D}{r:D},(DE Φ Γ (lent,(ps++aC @9 ps).length,b.f,dk)).run ds=some r->ds.length=lent.length/\∃o,exs Φ Γ (br (lent,(ps++aC @9 ps).length,b.f,dk) ds) b.f=some o/\Out.val dk o=some r:=λ{ds r} h1=>by
  have h1:(if ds.length=lent.length then _ else .none)=some r:=h1;split at h1
  .exact(‹_›,bx0 h1)
  .cases h1
 have hpre:=congrArg List.length S.pre;rw[List.length_take]at hpre;have body:∀{cdv:Value}{A:Around}{outer:List Env}{s:Shared}{H:Hp}{E:XK},Room k (A.deeper (envOfC qual @9 s.heap.objs.size f cdv))->∀{Y o},exs Φ Γ Y b.f=some o->Ep (iV CX0 P w K mg base (ps++aC @9 ps) qual @9 f cdv A outer s H E).nox Y (defBody st) o:=by
  intro cdv A outer s H E hr Y o h2;have C:CxC (iV CX0 P w K mg base (ps++aC @9 ps) qual @9 f cdv A outer s H E).nox (Gn fns cst ps (defBody st) @9 vc vms io (dkT dk)):=by
   refine(rfl,S.nd,λy kd e ek=>?_,λy kd e ek=>(?_,.inl rfl),λy e=>e.resolve_right λz=>S.nofree _ (ml0 z) rfl,λy e=>e,rfl,S.kind)
   .rcases ek with rfl|rfl|rfl
    .exact .inl e
    .exact .inr (.inl e)
    .exact .inr (.inr e)
   .rcases ek with rfl|rfl
    .exact .inl e
    .exact .inr e
  erw[b.ok C (M.blt,M.fns,M.gl,hr,M.two,M.vcl,M.vf,M.io) PassesOwn.never h2]
 cases dk with
 |io i=>
  refine F.ok S (λvs H Q E h=>?_) (λcdv A outer s H vs Q E hr h=>?_)
  .obtain⟨ds,d0,e,u,G,p,fp,h1,_,_,r,_⟩:=h
   rw[<-Dai.length r,(runs h1).1,hlen]
  .obtain⟨ds,d0,e,u,G,p,fp,h1,sm,io,r,kq⟩:=h
   obtain⟨hl,o,h2,h3⟩:=runs h1;have h3:(if rR o.fin.2=true then some (D.tuple [o.fin.1,o.fin.2])else .none)=some (.tuple [e,u]):=h3;split at h3
   case isFalse=>cases h3
   rename_i hio;obtain⟨g1,g2,g3⟩:=oz (show Dai K G (er H fp) p d0 i lent ds vs from r);have vl:vs.length<=(ps++aC @9 ps).length:=by rw[<-Dai.length r,hl,hlen];simp
   obtain⟨E0,no⟩:=mF (ν:=aM w) (N:=ps++aC @9 ps) sm g1 (by simpa using hl) rfl (by simpa using vl);have E1:=E0.openIo (i:=i) no sm io (by unfold start;have:=(gi0 g2).1;simp;lia) NW;rw[xc g2]at E1;have e0:br (lent,(ps++aC @9 ps).length,b.f,.io i) ds=(aN lent (ps++aC @9 ps).length (ds.set i .none)).set i (.io d0):=by
    show (aN lent _ (ds.set i .none)).set i (.io (ds.getD i .none))=_;rw[List.getD_eq_getElem?_getD,g3];rfl
   rw[e0]at h2;have key:∀{G' H':Hp},Ext G (er H fp) G' H'->IoAt (aM w) K G' H' o.fin.2 p fp/\(∀b∈fp,G' b=.none)->Ext G (er H fp) G' (er H' fp):=λx ⟨_,gn⟩=>
    (λb o e=>by
     obtain⟨z1,z2⟩:=dB e;rw[aH z1];erw[x.hh b o e],x.gg,jf x.gh gn,x.nw)
   have body:=body hr h2 (cdv:=cdv) (outer:=outer) (s:=s) (H:=H) (E:=E);refine(_,body,(G,some (p,fp)),er H fp,G,E1,?_);cases o with
   |nx Y'=>
    cases h3;erw[λG' H' σ' env a=>kq .non G' H' (key env.ext (env.ioEnd p fp rfl hio)) (env.ioEnd p fp rfl hio).1 .none]
   |rt d' u'=>
    cases h3;erw[λv G' H' dv x ie=>kq v G' H' (key x (ie p fp rfl hio)) (ie p fp rfl hio).1 dv]
 |_=>
  refine F.ok S (λvs H Q E h=>?_) (λcdv A outer s H vs Q E hr h=>?_)
  .obtain⟨ds,d,G,h1,_,r,_⟩:=h
   rw[<-r.length,(runs h1).1,hlen]
  .obtain⟨ds,d,G,h1,sm,r,kq⟩:=h
   obtain⟨hl,o,h2,h3⟩:=runs h1;obtain⟨E0,no⟩:=mF (ν:=aM w) (N:=ps++aC @9 ps) sm r hl rfl (by rw[<-r.length,hl,hlen];simp);have body:=body hr h2 (cdv:=cdv) (outer:=outer) (s:=s) (H:=H) (E:=E);refine(_,body,(G,.none),H,G,by first|exact E0|exact E0.setFr rfl,?_);cases o with
   |nx Y'=>
    cases h3;erw[λG' H' σ' env a=>kq .non G' H' env.ext .none]
   |rt d' u'=>
    cases h3;erw[λv G' H' dv e a=>kq v G' H' e dv]
structure Ai(K:Fg)(mg:A6)(fns cst:A1)(vc:Option Nat)(vms:A1)(io:IoC)(x:Str)(d:Def):Prop where
 ex:∃st f fd ps,Fun K x x st f fd/\mg x=some (.ref f)/\Binds K fd ps []/\cf (ps++aC @9 ps) ps @9/\ef st=some (ps,defBody st,defScope st)/\sR fns cst d.lent d.k st vc vms io=some d/\d.lent.length=ps.length
structure DF(K:Fg)(fns cst:A1)(c:Nat)(vms:A1)(io:IoC)(m:Str)(d:Def):Prop where
 nm:m≠"objects"/\m≠"numbers"
 ex:∃st f fd ps,Fun K m (bL m) st f fd/\nr K c m f/\Binds K fd ps []/\cf (ps++aC @9 ps) ps @9/\ef st=some (ps,defBody st,defScope st)/\sR fns cst d.lent .pure st (some c) vms io=some d/\d.lent.length=ps.length
noncomputable def qF:Dk->Bool
 |.io _=>true
 |_=>false
structure Base(P:Program)(w:World)(K:Fg)(mg:A6)(base:Heap)(Γ:List (Str×D))(vc:Option Nat)(io:IoC):Prop where
 blt:∀x∈bltNames,mg x=Option.none
 gl:∀x d,Γ.lookup x=some d->∃u v,mg x=some u/\RelV v u/\∀G,Dp K G d v
 vcl:∀c,vc=some c->Cls K c/\NoAttr K c "objects"
 put:∀c,vc=some c->io.vn.isSome=true->GP P w K mg base 2 c "put" ⟨[true,false],nI c⟩
 nv:∀c v,vc=some c->io.vn=some v->jX P w K mg base c v
def MC{φ}{k}(h:qF k=false):Kg w K φ k=Pur K φ:=by cases k<;>first|rfl|cases h
theorem fb{prog}{fns cst vms}{vc}{io}(B:Base P w K mg base Γ vc io)(defs:∀x d,(fns.contains x=true\/(io.ios.lookup x).isSome=true)->prog.lookup x=some d->Ai K mg fns cst vc vms io x d)
  (kinds:∀x d,prog.lookup x=some d->(fns.contains x=true->qF d.k=false)/\∀n,io.ios.lookup x=some n->d.k=.io n)
  (J:∀c m d,vc=some c->vms.contains m=true->prog.lookup (bL m)=some d->DF K fns cst c vms io m d):
  ∀k x O,den prog Γ k x=some O->(fns.contains x=true->FnZ P w K mg base (k+2) x O)/\(∀c m,x=bL m->vc=some c->vms.contains m=true->CM P w K mg base (k+2) c m O)/\∀n,io.ios.lookup x=some n->GO P w K mg base (k+2) x n O
 |0,x,O,h=>by cases h
 |k+1,x,O,h=>by
  obtain⟨d,U,rfl⟩:=mx0 (h);have M:HI P w K mg base _ Γ fns vc vms io (k+2):=(by lia,B.blt,λy j L q=>(fb B defs kinds J k y L q).1 j,B.gl,B.vcl,λc m C N L q=>(fb B defs kinds J k _ L q).2.1 c m rfl C N,(λf n E L q=>(fb B defs kinds J k f L q).2.2 n E,B.put,B.nv));refine(λI=>?_,λc m e C N=>?_,λn Q=>?_)
  .obtain⟨st,f,R,ps,F,N,V,S,D,W,T⟩:=(defs x d (.inl I) U).ex
   have:=uI F S D W T M;rw[MC ((kinds x d U).1 I)]at this;exact⟨(f,R,ps,N,F.kp,V,this)⟩
  .subst e
   have Z:=J c m d C N U;obtain⟨st,f,R,ps,F,N,V,S,D,W,T⟩:=Z.ex;exact(Z.nm,(f,R,ps,N,V,uI (dk:=.pure) F S D (by rw[C];erw[W]) T M))
  .obtain⟨st,f,R,ps,F,N,V,S,D,W,T⟩:=(defs x d (.inr (by rw[Q];rfl)) U).ex
   have:=uI F S D W T M;rw[(kinds x d U).2 n Q]at this;exact⟨(f,R,ps,N,F.kp,V,this)⟩
end
def Aj(K:Fg):Sp:=λM H Q b=>∃(a:Addr)(J:List Int),M=[.ref a]/\SqL K H a (J.map V.int)/\J.length<=63/\∀L,Q (.bl true) L
def HJ{P}{w}{K:Fg}{mg}{base}{k}{f}{fd}{ps}{φ}(F:FnOk P w K mg base CX0 k f fd ps (Pur K φ))(J:φ.lent=[true])(h:∀ns:List Int,ns.length<=63->φ.run [.scr ns]=some (.bool true)):
  FnOk P w K mg base CX0 k f fd ps (Aj K):=F.imp λR H Q E q=>by
 obtain⟨a,ns,rfl,M,N,q⟩:=q;exact(_,_,H,h ns N,Same.refl _,by rw[J];exact .cons (λz=>by cases z) (.of (.scr M)) .nil,λv O L b r=>by cases r;erw[q L])
def run_eq{Φ}{Γ}{d}{ds}(h:ds.length=d.lent.length):(DE Φ Γ d).run ds=TX.ans Φ Γ d ds:=if_pos h
def ae{prog}{Γ}{k}{x}{d}{P}(h:prog.lookup x=some d)(J:P (DE (den prog Γ k) Γ d).run):TX.Has (den prog Γ (k+1)) x d.lent P:=
 (_,by show (prog.lookup x).map _=_;rw[h];rfl,J)
def walk{l:PySem.W.OpenLaw}{q}{loose}{XP}{YP}{d}{K:Params->fg0}(U:l.most=some 63)(J:d.params.defaults=[])
  (O:∀(w:World)(h:Heap),YP w h->(K w.params).In h)
  (F:∀(w:World)(mg:A6)(L:Addr)(h:Heap),(K w.params).In h->h.Ns mainGlobals mg->mg d.name=some (.ref L)->
   ∃M:FuncData,(∀(s:Shared)(u:Value),BindsTo s M ([u],[]) [("_law_script",u)])/\∀base:Heap,(K w.params).In base->base.Ns mainGlobals mg->FnOk l.prog w (K w.params) mg base CX0 40 L M ["_law_script"] (Aj (K w.params))):
  PySem.W.WalkO q loose XP YP l.row.toRowW d [] (λf vs=>PySem.call f vs):=
 L2.BU U @2 J (rfl,by decide,by decide) O F (λb b a V R b N=>(a,V,rfl,N,R,λb=>rfl)) λb b b b b z=>z
noncomputable def Kh(Q:Str->Prop):List Str->Prop
 |[]=>True
 |x::r=>Q x/\Kh Q r
theorem uJ{Q}:∀{xs:A1},Kh Q xs->∀x∈xs,Q x
 |[],_,x,h=>by cases h
 |y::r,J,x,h=>(mq0 h).elim (λe=>e▸J.1) (uJ J.2 x)
def Ki(Q:Str->D->Prop):List (Str×D)->Prop
 |[]=>True
 |p::r=>Q p.1 p.2/\Ki Q r
theorem uK{Q}:∀{prog:List (Str×D)},Ki Q prog->∀x d,prog.lookup x=some d->Q x d
 |[],_,x,d,h=>by cases h
 |(y,e)::r,K,x,d,h=>by
  rw[lk0]at h;cases J:x==y with
  |true=>
   rw[J]at h;have:=eq_of_beq J;subst this;cases h;erw[K.1]
  |false=>rw[J]at h;erw[uK K.2 x d h]
noncomputable def aVv:Nat->(List Value->Prop)->Prop
 |0,P=>P []
 |n+1,P=>∀a,aVv n λl=>P (a::l)
def lenN{n}:∀{P}(h:aVv n P)(us)(e:us.length=n),P us:=by
 induction n with
 |zero=>intro P h us e;cases us with|nil=>exact h|cons=>cases e
 |succ n ih=>intro P h us e;cases us with|nil=>cases e|cons a r=>exact ih (h a) r (Nat.succ.inj e)
def walkX{q}{loose}{XP}{K}{ads}{n t}{r}{d}{kwd}{run}
  (e:∀P:Params,ads=(K P).map (·.1)) (h:PySem.W.WalkO q loose XP (λw h=>(K w.params).In h) r d kwd run):PySem.W.WalkX q loose XP (PySem.W.X.obsZ ads) (PySem.W.X.valZ K n t) r d kwd run:=
 λw Z T mg z G y a o u D C B kV j I N S R E args vals F L M J U V O=>
  h w _ _ mg z G (λb o Q=>L.keeps b o ((PySem.W.X.z_facts e y).2.1 b o Q)) a o u D _ B kV j I N S R E _ _ F M J U V O
def Kk{α:Type}(Q:Str->α->Prop):List (Str×α)->Prop
 |[]=>True
 |p::r=>Q p.1 p.2/\Kk Q r
theorem uL{α}{Q}:∀{prog:List (Str×α)},Kk Q prog->∀x d,prog.lookup x=some d->Q x d
 |[],_,x,d,h=>by cases h
 |(y,e)::r,K,x,d,h=>by
  rw[lk0]at h;cases J:x==y with
  |true=>
   rw[J]at h;have:=eq_of_beq J;subst this;cases h;erw[K.1]
  |false=>rw[J]at h;erw[uL K.2 x d h]
def HK{P}{w}{K}{mg}{base}{Γ}{prog}{fns cst vms}{vc}{io}(B:Base P w K mg base Γ vc io)(defs:∀x d,(fns.contains x=true\/(io.ios.lookup x).isSome=true)->prog.lookup x=some d->Ai K mg fns cst vc vms io x d)
  (kinds:∀x d,prog.lookup x=some d->(fns.contains x=true->qF d.k=false)/\∀n,io.ios.lookup x=some n->d.k=.io n)
  (J:∀c m d,vc=some c->vms.contains m=true->prog.lookup (bL m)=some d->DF K fns cst c vms io m d) (k:Nat):HI P w K mg base (den prog Γ k) Γ fns vc vms io (k+2):=
 (by lia,B.blt,λy R L q=>(fb B defs kinds J k y L q).1 R,B.gl,B.vcl,λc m M O L q=>(fb B defs kinds J k _ L q).2.1 c m rfl M O,(λf n N L q=>(fb B defs kinds J k f L q).2.2 n N,B.put,B.nv))
def kindB(fns:A1)(io:IoC)(p:Str×Def):Bool:=(!(fns.contains p.1)||!qF p.2.k)&&(match io.ios.lookup p.1,p.2.k with|some n,.io m=>n==m|some _,_=>false|_,_=>true)
def kinds_of{prog:List (Str×Def)}{fns}{io}(h:prog.all (kindB fns io)=true):∀x d,prog.lookup x=some d->(fns.contains x=true->qF d.k=false)/\∀n,io.ios.lookup x=some n->d.k=.io n:=λx d K=>by
 have:(x,d)∈prog:=by
  clear h
  induction prog with
  |nil=>cases K
  |cons p r ih=>
   rw[lk0]at K;cases q:x==p.1 with
   |true=>
    rw[q]at K;cases K;rw[eq_of_beq q];erw[ms0]
   |false=>rw[q]at K;erw[mc0 _ (ih K)]
 have:=List.all_eq_true.mp h _ this;unfold kindB at this;rw[be0]at this;obtain⟨L,J⟩:=this;refine(λN=>?_,λn M=>?_)
 .rw[N]at L
  simpa using L
 .simp only at J
  rw[M]at J;cases e:d.k with
  |io m=>
   rw[e]at J;simp only at J;rw[eq_of_beq J]
  |_=>rw[e]at J;cases J
end L2.Z
namespace TX
open PySem SI M1
def iK{t}(h:aK t=true):1<=t.length/\t.length<=12:=by
 unfold aK at h;simp only[be0,decide_eq_true_eq]at h;exact(h.1.1.1.1,h.1.1.1.2)
end TX
namespace TX
open PySem SI M1 L2.Z
variable {cNO cBT cNP:Nat}
def oX(x y:Str):(x++y).length=x.length+y.length:=by show (x.cps++y.cps).size=_;rw[Array.size_append];rfl
end TX
namespace SI
open PySem
section
variable {x0 y:α}{l:List α}
@[simp ↓ high] def gt0:(x0::l)[0]?=some x0:=rfl
@[simp ↓ high] def gtS :(x0::l)[n+1]?=l[n]?:=rfl
@[simp ↓ high] def st0:(x0::l).set 0 y=y::l:=rfl
@[simp ↓ high] def stS :(x0::l).set (n+1) y=x0::l.set n y:=rfl
end
def fzM(Y:List Sl):List Sl:=Y.map freeze
@[simp] def Nn{x y}:(fzM (x::Y)).set 0 y=y::fzM Y:=rfl
@[simp] def Np{x y}:(fzM (x::Y)).set (n+1) y=freeze x::(fzM Y).set n y:=rfl
@[simp] theorem Kl:∀{Y:List Sl},dW (fzM Y)=dW Y
 |[]=>rfl
 |s::r=>by cases s<;>first|rfl|exact Kl (Y:=r)
@[simp ↓ high] def fz_g{Y} :(fzM Y)[i]?=Y[i]?.map freeze:=gm0
section
variable {s:S}{r a b:Ss}{d:D}{m:Md}{t:Bool}{e:E}
def nxS(Φ:Fs)(Γ:List (Str×D))(o:Option Out)(r:Ss):Option Out:=o.bind λo=>o.andThen λJ=>exs Φ Γ J r
def ifS(Φ:Fs)(Γ:List (Str×D))(o:Option D)(Y:List Sl)(a b:Ss):Option Out:=o.bind λd=>(asB d).bind λt=>if t then exs Φ Γ Y a else exs Φ Γ Y b
def xf(Φ:Fs)(Γ:List (Str×D))(tg:Tg)(body:Ss)(ds:List D)(Y:List Sl):Option Out:=forL (ax tg) (λJ=>exs Φ Γ J body) ds Y
def cpF(Φ:Fs)(Γ:List (Str×D))(Y:List Sl)(nt:Nat)(js:List Nat)(tg:Tg)(ifs:Es)(J:E)(d:D):Option (Option D):=(ax tg d (blk nt js Y)).bind λK=>(evC Φ Γ K ifs).bind λt=>if t then (ev Φ Γ .val K J).map some else some none
@[simp ↓ high] def exs_c:exs Φ Γ Y (.cons s r)=nxS Φ Γ (ex Φ Γ Y s) r:=(rfl)
@[simp] def iT:nxS Φ Γ (some (.nx Y)) r=exs Φ Γ Y r:=(rfl)
@[simp] def Nz{w:D}:nxS Φ Γ (some (.rt d w)) r=some (.rt d w):=(rfl)
@[simp ↓ high] def ex_if{c}:ex Φ Γ Y (.ifs c a b)=ifS Φ Γ (ev Φ Γ .test Y c) Y a b:=(rfl)
@[simp] def Ak:ifS Φ Γ (some (.bool t)) Y a b=if t then exs Φ Γ Y a else exs Φ Γ Y b:=(rfl)
@[simp ↓ high] def ex_ret:ex Φ Γ Y (.ret e)=(ev Φ Γ .val (fzM Y) e).map λd=>.rt d (dW Y):=(rfl)
@[simp ↓ high] def ex_for{tg:Tg}{src}:ex Φ Γ Y (.fors tg src r)=(evI Φ Γ .walk Y src).bind λds=>xf Φ Γ tg r ds Y:=(rfl)
@[simp ↓ high] def ev_cp{nt}{js}{tg:Tg}{src}{ifs}:ev Φ Γ m Y (.comp nt js tg src ifs e)=fin m ((evI Φ Γ .read Y src).bind λds=>if ds.length<=big then (ay (cpF Φ Γ Y nt js tg ifs e) ds).map .list else none):=(rfl)
def sS(o:Option D):Option (List D):=o.bind λd=>(asI d).bind λn=>if rOk n then some ((List.range n.toNat).map λ(k:Nat)=>.int k)else none
@[simp ↓ high] def evI_r:evI Φ Γ m Y (.rng e)=sS (ev Φ Γ .val Y e):=(rfl)
def xg{n}(J:-1000000<=n)(K:n<=1000000):sS (some (.int n))=some ((List.range n.toNat).map λ(k:Nat)=>.int k):=by
 show (if rOk n then _ else _)=_;rw[if_pos (nG J K)]
def Km(h:n<=1000000):sS (some (.int n))=some ((List.range n).map λ(k:Nat)=>.int k):=xg @1 @1
def HL(o:Option D):Option (List D):=o.bind λd=>sS (biD .len [d])
@[simp ↓ 20000] def evI_rl:evI Φ Γ m Y (.rng (.bi .len (.cons e .nil)))=HL (ev Φ Γ .read Y e):=by
 show sS (((ev Φ Γ .read Y e).bind λx=>some _).bind _)=_;cases h:ev Φ Γ _ Y e<;>rfl
def EM{ds}(h:ds.length<=1000000):HL (some (.list ds))=some ((List.range ds.length).map λ(k:Nat)=>.int k):=by rw[HL,bs0,len_list,(show sS (some (.int ds.length))=some ((List.range ds.length).map λ(k:Nat)=>.int k)from xg @1 @1)]
theorem Al{inj}{tg:Tg}{F:α->List Sl}(J:Nat->α->Prop){P:Option Out->Prop}(k:∀s,J 0 s->P (some (.nx (F s)))):∀{xs:List β}{s} (h:∀x∈xs,∀n s,J (n+1) s->∃K,J n K/\(ax tg (inj x) (F s)).bind (λY=>exs Φ Γ Y r)=some (.nx (F K))),J xs.length s->P (xf Φ Γ tg r (xs.map inj) (F s))
 |[],s,_,j=>k s j
 |x::xs,s,h,j=>by
  obtain⟨K,R,e⟩:=h x ms0 _ s j;obtain⟨L,M,N⟩:=bx0 e;show P ((ax tg (inj x) (F s)).bind λL=>(exs Φ Γ L r).bind _);rw[M,bs0,N];erw[Al J k (λy O=>h y (mc0 _ O)) R]
@[simp] theorem DH{p:α->Bool}:∀{xs:List α},boolsOf (xs.map λx=>.bool (p x))=some (xs.map p)
 |[]=>rfl
 |x::xs=>by rw[mk0,boolsOf,DH];rfl
def bE{nt}{js}{tg:Tg}{ifs}:cpF Φ Γ Y nt js tg ifs e d=(ax tg d (blk nt js Y)).bind λJ=>(evC Φ Γ J ifs).bind λt=>if t then (ev Φ Γ .val J e).map some else some none:=(rfl)
def pA(o p:Option D):Option D:=o.bind λx=>p.bind λy=>opD .mul x y
@[simp ↓ high] def ev_m{a b}:ev Φ Γ m Y (.op .mul a b)=fin m (pA (ev Φ Γ .read Y a) (ev Φ Γ .read Y b)):=(rfl)
def mulL{i j}(J:-(2 ^ 64)<i)(K:i<2 ^ 64):pA (some (.int i)) (some (.int j))=some (.int (i*j)):=by
 rw[pA,bs0,bs0,ue,TX.zy _ _ J K,if_pos rfl]
@[simp] def orP{P}[Decidable P]:(if P then some (D.bool true)else some (D.bool t))=some (.bool (decide P||t)):=by by_cases h:P<;>simp[h]
@[simp] def OW{P}[Decidable P]:(if P then some (D.bool t)else some (D.bool false))=some (.bool (decide P&&t)):=by by_cases h:P<;>simp[h]
def cJ(k:Dk)(o:Option Out):Option D:=o.bind (Out.val k)
@[simp] def MH{w:D}:cJ .pure (some (.rt d w))=some d:=rfl
@[simp] def MI:cJ .pure (some (.nx Y))=some .none:=rfl
@[simp] def LB{w:D}:cJ (.mk i) (some (.rt d w))=some d:=rfl
@[simp] def LC{w:D}:cJ (.tb i) (some (.rt d w))=some d:=rfl
@[simp] def LD{w:D}:cJ (.io i) (some (.rt d w))=if rR w then some (.tuple [d,w])else none:=rfl
@[simp] def LF :cJ (.io i) (some (.nx Y))=if rR (dW Y)then some (.tuple [.none,dW Y])else none:=rfl
section
variable {j:Nat}{as:List Ar}{fl:List Bool}{z:List (Sum Nat D)}{mm:M}
@[simp] def MJ:dX Φ Γ [] Y=some ([],Y):=(rfl)
@[simp] def MK:dX Φ Γ (.v j::as) Y=if ((Y[j]?).bind (aF .read)).isSome then (dX Φ Γ as Y).map λz=>(.inl j::z.1,z.2)else none:=(rfl)
@[simp] def ML:dX Φ Γ (.x mm::as) Y=(evM Φ Γ Y mm).bind λy=>(dX Φ Γ as y.2).map λz=>(.inr y.1::z.1,z.2):=(rfl)
@[simp] def MM:iX Y i fl []=some []:=by cases fl<;>rfl
@[simp] def MN:iX Y i fl (.inl j::z)=if j=i then none else ((Y[j]?).bind (iP (fl.headD false))).bind λd=>(iX Y i fl.tail z).map (d::·):=by cases fl<;>rfl
@[simp] def MO:iX Y i fl (.inr d::z)=(iX Y i fl.tail z).map (d::·):=by cases fl<;>rfl
@[simp] def MP:iY Y i 0 fl (.inl j::z)=if j=i then ((Y[j]?).bind (aF .read)).bind λd=>(iX Y i fl.tail z).map (d::·)else none:=(rfl)
@[simp] def MQ:iY Y i (n+1) fl (.inl j::z)=if j=i then none else ((Y[j]?).bind (iP (fl.headD false))).bind λd=>(iY Y i n fl.tail z).map (d::·):=(rfl)
@[simp] def MR:iY Y i (n+1) fl (.inr d::z)=(iY Y i n fl.tail z).map (d::·):=(rfl)
@[simp] def MS:wg []=some []:=(rfl)
@[simp] def MT:wg (.inr d::z)=(wg z).map (d::·):=(rfl)
@[simp ↓ high] def ex_retm:ex Φ Γ Y (.retm mm)=(evM Φ Γ (fzM Y) mm).map λz=>.rt z.1 (dW z.2):=(rfl)
end
def mG{xs}{x:α}(h:xs[n]?=some x):atI xs (n:Int)=some x:=by
 have:=(gi0 h).1
 rwa [TX.aR @1 @1]
section
variable {x y z u v:α}{l:List α}
@[simp] def Nq:atI (x::l) 0=some x:=mG rfl
@[simp] def Nr:atI (x::y::l) 1=some y:=mG rfl
@[simp] def Nt:atI (x::y::z::l) 2=some z:=mG rfl
@[simp] def Nu:atI (x::y::z::u::l) 3=some u:=mG rfl
@[simp] def Nv:atI (x::y::z::u::v::l) 4=some v:=mG rfl
end
end
end SI
namespace TX
open SI L2.Z PySem
def ans_e{Φ}{Γ}{fl}{b}{k}{ds}:ans Φ Γ (fl,n,b,k) ds=cJ k (exs Φ Γ (br (fl,n,b,k) ds) b):=(rfl)
end TX
namespace TX
open PySem SI M1 L2.Z
inductive Th where
 |blob (t:Str)
 |tree (es:List (Str×Int))
deriving DecidableEq
def bZ(p:Str×Int):D:=.tuple [.str p.1,.int p.2]
def Th.o:Th->D
 |.blob t=>.tuple [.str bx,.str t]
 |.tree J=>.tuple [.str ao,.tuple (J.map bZ)]
@[simp] def OX{a b:List (Str×Int)}:a.map bZ=b.map bZ↔a=b:=List.map_inj_right λx y q=>by simp[bZ]at q;erw[Prod.ext q.1 q.2]
def Th.o_inj{a b:Th}(h:a.o=b.o):a=b:=by cases a<;>cases b<;>simp_all [Th.o]
def Th.o_ok(t:Th):okK 8 t.o=true/\jF t.o=true:=by cases t<;>simp[okK,bZ,Th.o,jF]
abbrev vt(c:Nat)(L:List Th):D:=.vlt c 0 (L.map Th.o)
noncomputable def putL(L:List Th)(t:Th):List Th:=if t∈L then L else L++[t]
def Ex(L J:List Th):Prop:=(∀(i:Nat) t,L[i]?=some t->J[i]?=some t)/\(L.Nodup->J.Nodup)
def Ex.refl(L:List Th):Ex L L:=(λa a h=>h,id)
def Ex.trans{a b d}(h:Ex a b)(k:Ex b d):Ex a d:=(λi x e=>k.1 i x (h.1 i x e),λn=>k.2 (h.2 n))
set_option tactic.hygienic true in
def rp(L:List Th)(t:Th):Ex L (putL L t)/\(putL L t).length<=L.length+1:=by
 unfold putL;split
 .exact(.refl _,by lia)
 .rename_i h
  exact((λi x e=>by rwa [gl0 (gi0 e).1],λn=>List.nodup_append.mpr (n,by simp,λa J b K e=>h @6)),by simp)
def sU{l:List D}{d}{j}(h:l.idxOf? d=some j):l[j]?=some d:=by
 obtain⟨J,K,_⟩:=List.findIdx?_eq_some_iff_getElem.mp h
 simp_all
def uM(L:List Th)(t:Th)(hz:L.length<1000000):∃j:Nat,(putL L t)[j]?=some t/\nI c [vt c L,t.o]=some (.tuple [.int (j:Nat),vt c (putL L t)]):=by
 have m:t.o∈L.map _↔t∈L:=(λz=>by obtain⟨s,J,N⟩:=mm0 z;erw[Th.o_inj N▸J],List.mem_map_of_mem);have o:=t.o_ok.1;cases h:(L.map _).idxOf? t.o with
 |some j=>
  have J:=m.mp (Classical.byContradiction λz=>by rw[List.idxOf?_eq_none_iff.mpr z]at h;cases h);refine(j,?_,by simp[nI,putL,o,h,hz,J];erw[t.o_ok.2]);have e:=sU h;rw[gm0]at e;obtain⟨s,K,M⟩:=mx0 e;simp[putL,J,K,Th.o_inj M]
 |none=>
  have J:t∉L:=λz=>List.idxOf?_eq_none_iff.mp h (m.mpr z)
  exact(L.length,by simp[putL,J],by simp[nI,putL,o,h,hz,J];erw[t.o_ok.2])
abbrev Am(J:List D->Option D):Prop:=∀K:List Str,K.length<=12->J [.list (K.map .str)]=some (.bool (wN K))
abbrev An(Φ:Fs):Prop:=Has Φ "names_rise" [true] Am
def Kn{α}(l:List α):cut l (some 1) none=l.tail:=by
 cases l with
 |nil=>rfl
 |cons x r=>simp[cut,sIx]
theorem uN:∀(xs:A1)(y:Str),((y::xs).zip xs).all (λp=>decide (p.1.cps.toList<p.2.cps.toList))=wN (y::xs)
 |[],_=>rfl
 |x::r,y=>by
  rw[wN,<-uN r x,List.zip_cons_cons,List.all_cons]
def Ko:Am (ans Φ Γ cg):=by
 intro M J;simp only[ans_e,cg];simp[Kn];cases M with
 |nil=>rfl
 |cons y r=>
  have:=(show gd r.length [(y::r).map D.str,r.map D.str]=((y::r).zip r).map λp=>.tuple [.str p.1,.str p.2] by
    refine List.ext_getElem (by simp[gd]) λi K N=>?_
    have h:=by simpa [gd]using K
    simp only[gd,List.getElem_map,List.getElem_range,List.getElem_zip];show D.tuple [(((y::r).map _)[i]?).getD _,((r.map _)[i]?).getD _]=_;rw[gm0,gm0,ge0 h,ge0 _];rfl)
  simp only[mk0]at this;simp at J;have L:r.length<=big:=nt0 J @2;simp[this,L];rw[az (g:=λp=>D.bool (decide (p.1.cps.toList<p.2.cps.toList))) λp a=>rfl];simp[<-uN]
theorem Ao:∀{xs:A1},bY xs->wN xs=true
 |[],_=>rfl
 |[_],_=>rfl
 |a::b::r,h=>by
  obtain⟨J,K⟩:=List.pairwise_cons.mp h;have:=J b ms0;unfold ltS at this;show (decide _&&wN _)=true;rw[this,Ao K];rfl
def Good(xs:A1):Prop:=bY xs/\(∀x∈xs,aK x=true)/\xs.length<=12
abbrev Kq(Φ:Fs):Prop:=Has Φ "refuse_wrong_names" [true] λJ=>∀K,Good K->J [.list (K.map .str)]=some .none
def DI(N:uv Φ)(O:An Φ)(xs)(h:Good xs):ans Φ Γ aI [.list (xs.map .str)]=some .none:=by
 obtain⟨U,L,M⟩:=N;obtain⟨V,R,K⟩:=O;have K:=K xs h.2.2;rw[Ao h.1]at K;simp only[ans_e,aI];simp;refine Al (F:=λs=>[_,s]) (J:=λa a=>True) (P:=λo=>cJ _ (nxS Φ Γ o _)=_) (λs a=>?_) (λx m n s a=>(.dat (.str x),trivial,?_)) trivial
 .simp_all
 .have:=h.2.1 x m
  simp[L,M x (nt0 (iK this).2 _),this]
abbrev Ap(Φ:Fs)(c:Nat):Prop:=Has Φ "tree" [true,true] λK=>∀(L:List Th)(J:List (Str×Int)),Good (J.map (·.1))->(∀p∈J,∃n:Nat,p.2=n/\n<L.length)->L.length<5000->∃j:Nat,(putL L (.tree J))[j]?=some (.tree J)/\K [vt c L,.list (J.map bZ)]=some (.tuple [.int j,vt c (putL L (.tree J))])
def Aq(B:Kq Φ)(M:qi Φ c)(L:List Th)(es:List (Str×Int))(R:Good (es.map (·.1)))(T:∀p∈es,∃n:Nat,p.2=n/\n<L.length)(hz:L.length<5000):∃j:Nat,(putL L (.tree es))[j]?=some (.tree es)/\ans Φ Γ (nZ c) [vt c L,.list (es.map bZ)]=some (.tuple [.int j,vt c (putL L (.tree es))]):=by
 obtain⟨I,U,W⟩:=B;obtain⟨E,V,Z⟩:=M;obtain⟨j,Q,q⟩:=uM (c:=c) L (.tree es) @1;refine(j,Q,?_);have O:=W _ R;rw[List.map_map]at O;have N:es.length<=12:=by simpa using R.2.2
 have K:es.length<=big:=nt0 N @2;simp only[ans_e,nZ];simp[K,U];rw[az (g:=D.str ∘ Prod.fst) (λa a=>rfl)];simp[show (λx:Str×Int=>x.1)=Prod.fst from rfl]at O ⊢;rw[O];simp;refine Al (inj:=bZ) (F:=λs:Sl×Sl=>[.io (vt c L),.lent (.list (es.map bZ)),s.1,s.2]) (s:=(.no,.no)) (J:=λa a=>True) (P:=λo=>cJ (.io 0) (nxS Φ Γ o _)=_) (λs a=>?_) (λx m n s a=>((.dat (.str x.1),.dat (.int x.2)),trivial,?_)) trivial
 .simp[K]
  rw[az (g:=bZ) (λa a=>rfl)];simp[K,show nI c [.vlt c 0 (L.map Th.o),.tuple [.str ao,.tuple (es.map bZ)]]=_ from q]
 .obtain⟨n,C,N⟩:=T x m
  obtain⟨k,ds,M,S⟩:∃k ds,(L.map Th.o)[n]?=some (.tuple (.str k::ds))/\k≠CY:=by
   rw[gm0,ge0 N];cases L[n]with
   |blob t=>exact(_,_,rfl,by decide)
   |tree es=>exact(_,_,rfl,by decide)
  simp[V,bZ,C,Z 0 _ n k ds M,S]
abbrev As(Φ:Fs)(c:Nat):Prop:=Has Φ "blob" [true,true] λJ=>∀(L:List Th)(x:Str),L.length<5000->∃j:Nat,(putL L (.blob x))[j]?=some (.blob x)/\J [vt c L,.str x]=some (.tuple [.int j,vt c (putL L (.blob x))])
def Au(L:List Th)(x:Str)(hz:L.length<5000):∃j:Nat,(putL L (.blob x))[j]?=some (.blob x)/\ans Φ Γ (nY c) [vt c L,.str x]=some (.tuple [.int j,vt c (putL L (.blob x))]):=by
 obtain⟨j,J,q⟩:=uM (c:=c) L _ @1;exact(j,J,by simp only[ans_e,nY];simp[show nI c [_,.tuple _]=_ from q])
def MU(c:Nat):ans Φ Γ bA [.str ⟨#[c]⟩]=some (.bool (cc c)):=by
 rw[wM];simp only[ans_e,bA]
 by_cases h:97<=c/\c<=122\/65<=c/\c<=90\/48<=c/\c<=57<;>simp[GR,h,inD,CW]
def MV(hs:uu Φ)(L:Γ.lookup ("LONGEST_NAME":Str)=some (D.int 12))(x:Str)(R:x.length<=1000):ans Φ Γ eU [.str x]=some (.bool (aK x)):=by
 obtain⟨V,N,O⟩:=hs;have K:x.length<=big:=nt0 R @2;have U:x.cps.size<=big:=K;simp only[ans_e,eU,aK,dot,GS]
 by_cases M:1<=x.length/\x.length<=12
 .by_cases J:x=⟨#[46]⟩\/x=⟨#[46,46]⟩
  .simp[K,L,M,J,show ¬ ((x.length:Int)<1\/12<(x.length:Int)) by lia]
   rcases J with rfl|rfl<;>simp
  .simp[K,U,L,M,J,show ¬ ((x.length:Int)<1\/12<(x.length:Int)) by lia]
   rw[az (g:=λc=>D.bool (cc c)) λc a=>by simp[bE,N,O]];simp[not_or.mp J]
 .simp[K,L,show (x.length:Int)<1\/12<(x.length:Int) by grind]
  lia
mutual
inductive Nd where
 |blob (t:Str)
 |tree (es:Nds)
inductive Nds where
 |nil
 |cons (x:Str) (n:Nd) (r:Nds)
end
noncomputable def Nds.names:Nds->List Str
 |.nil=>[]
 |.cons x _ r=>x::r.names
mutual
noncomputable def Nd.ok:Nat->Nd->Prop
 |_,.blob t=>t.length<=1300
 |0,.tree _=>False
 |k+1,.tree J=>bY J.names/\(∀x∈J.names,aK x=true)/\J.names.length<=6/\J.ok k
noncomputable def Nds.ok:Nat->Nds->Prop
 |_,.nil=>True
 |k,.cons _ n r=>n.ok k/\r.ok k
end
theorem eF{f:D->Option (Option D)}{P:Str->Prop}:∀xs:List D,(∀x∈xs,∃t:Str,P t/\f x=some (some (.str t)))->∃ts:List Str,ts.length=xs.length/\(∀t∈ts,P t)/\ay f xs=some (ts.map .str)
 |[],_=>([],rfl,(λa h=>by cases h),rfl)
 |x::r,h=>by
  obtain⟨t,p,e⟩:=h x ms0;obtain⟨ts,l,q,J⟩:=eF r λy L=>h y (mc0 _ L)
  refine(t::ts,by rw[lc0,l,lc0],λu K=>?_,?_)
  .rcases mq0 K with z|z
   .rw[z];erw[p]
   .erw[q u z]
  .rw[ay,e,bs0,J];rfl
def HP{ts:A1}{i:Int}(K:0<=i)(L:i<ts.length):∃t∈ts,atI (ts.map D.str) i=some (.str t):=by
 have J:i.toNat<ts.length:=by simp_all
 refine(ts[i.toNat],List.getElem_mem J,?_);rw[aR K (by rw[lm0];erw[L]),gm0,ge0 J];rfl
abbrev Aw(Φ:Fs):Prop:=Has Φ "_law_sign" [true] λJ=>∀n,∃x:Str,x.length=1/\J [.int n]=some (.str x)
def Ks(n:Int):∃x:Str,x.length=1/\ans Φ Γ gA [.int n]=some (.str x):=by
 have K:=en0 n (b:=94) @2;have M:=el0 n (b:=94) @2;simp only[ans_e,gA];simp;rw[if_pos @2];simp;rw[if_pos @2];generalize L:(_++_:Str)=s;have N:s.cps.toList.length=94:=by rw[<-L];decide
 have J:(n % 94).toNat<s.cps.toList.length:=by simp_all
 rw[aR K @6,ge0 J];exact(_,rfl,by simp;rfl)
abbrev sV(Φ:Fs):Prop:=Has Φ "_law_line" [true,true] λJ=>∀K k,∃x:Str,x.length<=3/\J [.scr K,.int k]=some (.str x)
def Kt(R:DV Φ)(hs:Aw Φ)(ns)(k:Int):∃x:Str,x.length<=3/\ans Φ Γ gB [.scr ns,.int k]=some (.str x):=by
 obtain⟨T,K,O⟩:=R;obtain⟨F,M,L⟩:=hs;simp only[ans_e,gB];have J:=O ns k;generalize mixF ns k=N at J
 by_cases c:N % 4=3
 .obtain⟨x,V,Y⟩:=L (N / 4)
  obtain⟨y,W,Z⟩:=L (N / 376);refine(x++y,by rw[oX];simp_all,?_);simp[K,J,M,Y,Z,c,V,W,show 2<=big by decide]
 .obtain⟨t,U,e⟩:=HP (ts:=[⟨#[97]⟩,⟨#[98]⟩,⟨#[]⟩,⟨#[97,32,98]⟩,⟨#[124]⟩,⟨#[99]⟩]) (i:=N / 4 % 6) (en0 _ @2) (el0 _ @2)
  refine(t,(by decide:∀x∈[(⟨#[97]⟩:Str),⟨#[98]⟩,⟨#[]⟩,⟨#[97,32,98]⟩,⟨#[124]⟩,⟨#[99]⟩],x.length<=3) t U,?_);simp only[mk0,List.map_nil]at e;simp[K,J,c,e]
abbrev EN(Φ:Fs):Prop:=Has Φ "_law_row" [true,true,true] λJ=>∀L b (n:Nat),n<=4->∃K:List Str,K.length=n/\(∀x∈K,x.length<=3)/\J [.scr L,.int b,.int n]=some (.list (K.map .str))
def MW(M:sV Φ)(ns)(b:Int)(n:Nat)(N:n<=4):∃xs:List Str,xs.length=n/\(∀x∈xs,x.length<=3)/\ans Φ Γ jh [.scr ns,.int b,.int n]=some (.list (xs.map .str)):=by
 obtain⟨U,J,K⟩:=M;simp only[ans_e,jh];simp[Km (n:=n) @1,show n<=big from nt0 N @2];generalize L:cpF Φ Γ _ _ _ _ _ _=f;obtain⟨R,a,p,q⟩:=eF (f:=f) ((List.range n).map λk:Nat=>D.int k) λx O=>by
  obtain⟨k,_,rfl⟩:=mm0 O;obtain⟨t,l,e⟩:=K ns (b+k);exact(t,l,by rw[<-L];simp[bE,J,e])
 exact(R,by simpa using a,p,by simp_all)
abbrev sW(Φ:Fs):Prop:=Has Φ "_law_ends" [true,true] λK=>∀(J:A1)(b:Bool)(k m:Nat),k<=40->m<=40->J.length<=k->(∀x∈J,x.length<=m)->∃L:List Str,L.length<=k/\(∀x∈L,x.length<=m+1)/\K [.list (J.map .str),.bool b]=some (.list (L.map .str))
def Ku(J:A1)(b:Bool)(k m:Nat)(Z:k<=40)(F:m<=40)(M:J.length<=k)(N:∀x∈J,x.length<=m):∃xs:List Str,xs.length<=k/\(∀x∈xs,x.length<=m+1)/\ans Φ Γ gC [.list (J.map .str),.bool b]=some (.list (xs.map .str)):=by
 have R:(⟨#[10]⟩:Str).length=1:=rfl;have O:∀x∈J,x.length+(⟨#[10]⟩:Str).length<=big:=λx h=>nt0 (by have:=N x h;grind:x.length+1<=41) @2
 have K:∀x∈J.map (·++(⟨#[10]⟩:Str)),x.length<=m+1:=λx h=>by
  obtain⟨y,T,rfl⟩:=mm0 h;rw[oX,R];have:=N y T;simp_all
 simp only[ans_e,gC];simp[show J.length<=big from nt0 (nt0 M Z) @2];rw[az (g:=λx:Str=>D.str (x++⟨#[10]⟩)) λx h=>by have:=O x h;simp[bE,this]];have L:∃xs:List Str,xs.length<=k/\(∀x∈xs,x.length<=m+1)/\(J.map λx=>D.str (x++⟨#[10]⟩))=xs.map .str:=(_,by simpa using M,K,by simp);cases b with
 |false=>simpa using L
 |true=>
  by_cases V:J=[]
  .simpa [V]using L
  .obtain⟨r,t,rfl⟩:=List.eq_nil_or_concat J|>.resolve_left V
   rw[List.concat_eq_append]at *;have Y:ixN (r.length+1) (-1)=some r.length:=by
    unfold ixN;rw[if_neg @2,if_pos @5]
    congr 1;grind
   have U:atI (r.map D.str++[.str t]) (-1)=some (.str t):=by unfold atI;simp[Y]
   by_cases W:t=⟨#[]⟩
   .subst W;simpa [U]using L
   .refine(r.map (·++⟨#[10]⟩)++[t],by simpa using M,λx h=>?_,?_)
    .rcases ma0 h with h|h
     .erw[K x (by rw[List.map_append];exact List.mem_append_left _ h)]
     .rw[List.mem_singleton.mp h];erw[Nat.le_succ_of_le (N t @0)]
    .simp[U,W,Y]
mutual
noncomputable def Nd.rep(L:List Th):Nat->Nd->Prop
 |i,.blob t=>L[i]?=some (.blob t)
 |i,.tree K=>∃J:List (Str×Int),J.map (·.1)=K.names/\L[i]?=some (.tree J)/\K.rep L (J.map (·.2))
noncomputable def Nds.rep(L:List Th):List Int->Nds->Prop
 |[],.nil=>True
 |i::J,.cons _ n r=>(∃k:Nat,i=k/\n.rep L k)/\r.rep L J
 |_,_=>False
end
mutual
theorem Nd.rep_ex{L J:List Th}(h:Ex L J):∀(n:Nd)(i:Nat),n.rep L i->n.rep J i
 |.blob t,i,e=>by rw[Nd.rep]at e ⊢;erw[h.1 i _ e]
 |.tree K,i,e=>by
  rw[Nd.rep]at e ⊢;obtain⟨M,a,b,c⟩:=e;exact(M,a,h.1 i _ b,Nds.rep_ex h K _ c)
theorem Nds.rep_ex{L K:List Th}(h:Ex L K):∀(es:Nds)(J:List Int),es.rep L J->es.rep K J
 |.nil,[],e=>by rw[Nds.rep];trivial
 |.nil,_::_,e=>by rw[Nds.rep]at e;erw[e.elim];all_goals simp
 |.cons x n r,[],e=>by rw[Nds.rep]at e;erw[e.elim];all_goals simp
 |.cons x n r,i::J,e=>by
  rw[Nds.rep]at e ⊢;obtain⟨⟨k,rfl,a⟩,b⟩:=e;exact((k,rfl,Nd.rep_ex h n k a),Nds.rep_ex h r J b)
end
def Nd.hd{L}{n:Nd}{i}(h:n.rep L i):i<L.length:=by
 cases n with
 |blob t=>exact (gi0 h).1
 |tree J=>obtain⟨K,_,b,_⟩:=h;exact (gi0 b).1
variable {w:Nat}
theorem gP{inj}{tg}{r}{F:α->List Sl}(J:List β->α->Prop){P:Option Out->Prop}(k:∀s,J [] s->P (some (.nx (F s))))(h:∀x q s,J (x::q) s->∃K,J q K/\(ax tg (inj x) (F s)).bind (λY=>exs Φ Γ Y r)=some (.nx (F K))):∀{xs:List β}{s},J xs s->P (xf Φ Γ tg r (xs.map inj) (F s))
 |[],s,j=>k s j
 |x::xs,s,j=>by
  obtain⟨K,O,e⟩:=h x xs s j;obtain⟨L,M,N⟩:=bx0 e;show P ((ax tg (inj x) (F s)).bind λL=>(exs Φ Γ L r).bind _);rw[M,bs0,N];erw[gP J k h O]
noncomputable def Nds.l:Nds->List (Str×Nd)
 |.nil=>[]
 |.cons x n r=>(x,n)::r.l
def Nds.of:List (Str×Nd)->Nds
 |[]=>.nil
 |p::l=>.cons p.1 p.2 (Nds.of l)
theorem Nds.of_l:∀l:List (Str×Nd),(Nds.of l).l=l
 |[]=>rfl
 |p::l=>by rw[Nds.of,Nds.l,Nds.of_l l]
theorem Nds.names_l:∀es:Nds,es.names=es.l.map (·.1)
 |.nil=>rfl
 |.cons x n r=>by rw[Nds.names,Nds.l,mk0,Nds.names_l r]
theorem Nds.ok_l :∀{es:Nds},es.ok m↔∀p∈es.l,p.2.ok m
 |.nil=>(λa a h=>(by cases h),λa=>trivial)
 |.cons x n r=>by rw[Nds.ok,Nds.l,Nds.ok_l (es:=r)];simp
def kQ{n}(h:n<=2000):n<=big:=nt0 h @2
def xh{l:List α}{z}:cut (l++[z]) none (some (-1))=l:=by
 unfold cut sIx;simp;rw[show (-1+((l.length:Int)+1)).toNat=l.length by grind];simp
abbrev cY(k m:Nat)(xs:A1):Prop:=xs.length<=k/\∀x∈xs,x.length<=m
abbrev Ay(Φ:Fs):Prop:=Has Φ "_law_lines" [true] λJ=>∀x:Str,x.length<=30->∃K,cY 31 31 K/\J [.str x]=some (.list (K.map .str))
def xi(x:Str)(h:x.length<=30):∃xs,cY 31 31 xs/\ans Φ Γ bN [.str x]=some (.list (xs.map .str)):=by
 have W:=cL x;have N:=split_le x;have Y:=du x;have U:x.length+2<=big:=kQ @5;simp only[ans_e,bN];simp[U,show (⟨#[10]⟩:Str).length=1 from rfl,show (⟨#[10]⟩:Str)=nl from rfl];generalize Txt.split x nl=V at *;obtain⟨r,t,rfl⟩:=List.eq_nil_or_concat V|>.resolve_left Y
 rw[List.concat_eq_append]at *;have K:nl.length=1:=rfl;simp at W;have O:(r++[t]).length<=big:=kQ (by simp;grind);simp[K,show r.length+1<=big by simpa using O];have R:∀p∈r++[t],p.length+nl.length<=big:=λp J=>kQ (by have:=N p J;rw[K];grind)
 rw[show List.map D.str r++[D.str t]=(r++[t]).map .str by simp,az (g:=λp=>D.str (p++nl)) λp J=>by have:=R p J;simp[bE,this]];have L:cY 30 31 (r.map (·++nl)):=(by simpa using (nt0 ‹_› ‹_›),λy hy=>by
  obtain⟨p,J,rfl⟩:=mm0 hy;have:=N p (by simp[J]);rw[oX,K];grind)
 have Z:=N t @0;have M:atI (r.map (λp=>D.str (p++nl))++[D.str (t++nl)]) (-1)=some (.str (t++nl)):=by rw[fX @0 .none];simp
 simp[M,xh]
 by_cases e:t++nl=nl
 .exact(r.map (·++nl),(by have:=L.1;erw[Nat.le_succ_of_le ‹_›],L.2),by simp[e,M,xh,Function.comp_def])
 .have F:=Txt.slice_le (t++nl) none (some (-1))
  have T:(t++nl).length<=31:=by rw[oX,K];grind
  refine(r.map (·++nl)++[Txt.slice (t++nl) none (some (-1))],(by have:=L.1;rw[la0];show _+1<=_;simp_all,λy hy=>?_),?_)
  .rcases ma0 hy with hy|hy
   .erw[L.2 y hy]
   .rw[List.mem_singleton.mp hy];lia
  .simp[e,M,xh,show (t++nl).length<=big from kQ @1,show r.length+1<=big by simpa using O,Function.comp_def]
abbrev EO(Φ:Fs):Prop:=Has Φ "_law_edited" [true,true,true] λJ=>∀M k K,cY 31 31 K->∃L,cY 40 31 L/\J [.scr M,.int k,.list (K.map .str)]=some (.list (L.map .str))
def ER{tg}{r}{F:α->List Sl}{n}(J:Nat->α->Prop){P:Option Out->Prop}(k:∀s,J n s->P (some (.nx (F s))))(h:∀j s,j<n->J j s->∃M,J (j+1) M/\(ax tg (.int (j:Nat)) (F s)).bind (λY=>exs Φ Γ Y r)=some (.nx (F M))){s}(R:J 0 s):P (xf Φ Γ tg r ((List.range n).map λk:Nat=>.int k) (F s)):=by
 refine gP (inj:=λk:Nat=>D.int k) (J:=λq s=>∃j,j<=n/\q=List.range' j (n-j)/\J j s) (λs z=>?_) (λx q s z=>?_) (0,Nat.zero_le _,by rw[List.range_eq_range'];rfl,R)
 .obtain⟨j,N,K,L⟩:=z
  have:n-j=0:=by have:=congrArg List.length K;simpa using this.symm
  have:j=n:=by lia
  subst this;erw[k s L]
 .obtain⟨j,N,K,L⟩:=z
  have O:n-j=q.length+1:=by have:=congrArg List.length K;simpa using this.symm
  rw[O,List.range'_succ]at K
  grind
def oE{α β}{f:α->β}{l:List α}{a b}:cut (l.map f) a b=(cut l a b).map f:=by unfold cut;simp
def uQ{l:List α}{a b}:∀x∈cut l a b,x∈l:=λx h=>List.mem_of_mem_drop (List.mem_of_mem_take h)
def DJ{l:List α}{i j}(J:0<=i)(K:i<=j):(cut l none (some i)).length+(cut l (some j) none).length<=l.length:=by
 unfold cut sIx;simp only[Nat.sub_zero,List.drop_zero,List.length_take,List.length_drop];rw[if_neg @6,if_neg @5]
 grind
def sX(E:DV Φ)(I:sV Φ)(ns)(k:Int)(xs)(hx:cY 31 31 xs):∃R,cY 40 31 R/\ans Φ Γ dH [.scr ns,.int k,.list (xs.map .str)]=some (.list (R.map .str)):=by
 obtain⟨u,U,B⟩:=E;obtain⟨f,W,S⟩:=I;have g:=oa ns k 4 @2;have G:=B ns k;generalize X:mixF ns k % 4=M at g;simp only[ans_e,dH];simp[U,G,X,xg (n:=M) @5 @5];refine ER (F:=λs:List Str×Sl×Sl×Sl×Sl×Sl=>[.lent (.scr ns),.lent (.int k),.lent (.list (xs.map .str)),.dat (.list (s.1.map .str)),s.2.1,s.2.2.1,s.2.2.2.1,s.2.2.2.2.1,s.2.2.2.2.2]) (s:=(xs,.no,.no,.no,.no,.no)) (J:=λj s=>cY (31+j) 31 s.1) (P:=λo=>∃R,cY 40 31 R/\cJ .pure (nxS Φ Γ o (.cons (.ret (.v 3)) .nil))=some (.list (R.map .str))) (λs j=>?_) (λj s y z=>?_) hx
 .exact(s.1,(by have:=j.1;grind,j.2),by simp)
 .have V:=B ns (k+1+2*j)
  generalize mixF ns (k+1+2*j)=N at V;obtain⟨t,m,T⟩:=S ns (k+2+2*j);have m2:pA (some (.int 2)) (some (.int (j:Nat)))=some (.int (2*(j:Int))):=mulL @2 @2;have D:=en0 (N / 3) (b:=(s.1.length:Int)+1) @5;have C:=el0 (N / 3) (b:=(s.1.length:Int)+1) @6;have Z:(0:Int)<(s.1.length:Int)+1:=by simp_all
  generalize Y:N / 3 % ((s.1.length:Int)+1)=a at D C;have fin:∀(d:Int)(pt:A1),0<=d->pt.length<=1->(∀x∈pt,x.length<=31)->cY (31+(j+1)) 31 (cut s.1 none (some a)++pt++cut s.1 (some (a+d)) none)/\(cut s.1 none (some a)).length+pt.length<=big/\(cut s.1 none (some a)).length+pt.length+(cut s.1 (some (a+d)) none).length<=big:=λd pt A q H=>by
   have:=DJ (l:=s.1) (i:=a) (j:=a+d) D @1;have:=z.1;refine((by simp;lia,λx hx=>?_),kQ @1,kQ @1);rcases ma0 hx with hx|hx
   .rcases ma0 hx with hx|hx
    .erw[z.2 x (uQ x hx)]
    .erw[H x hx]
   .erw[z.2 x (uQ x hx)]
  obtain Q|c1|c2:N % 3=0\/N % 3=1\/N % 3=2:=by lia
  .obtain⟨O,K,L⟩:=fin 0 [t] @1 @0 (by simp;lia)
   refine((_,.dat (.int (j:Nat)),.dat (.int N),.dat (.int a),.dat (.str t),.dat (.list [.str t])),O,?_);simp at K L;simp[U,V,m2,Z,Y,W,T,Q,oE,K,L]
  .obtain⟨O,K,L⟩:=fin 1 [] @1 @0 @0
   refine((_,.dat (.int (j:Nat)),.dat (.int N),.dat (.int a),.dat (.str t),.dat (.list [])),O,?_);simp at K L;simp[U,V,m2,Z,Y,W,T,c1,oE,K,L]
  .obtain⟨O,K,L⟩:=fin 1 [t] @1 @0 (by simp;lia)
   refine((_,.dat (.int (j:Nat)),.dat (.int N),.dat (.int a),.dat (.str t),.dat (.list [.str t])),O,?_);simp at K L;simp[U,V,m2,Z,Y,W,T,c2,oE,K,L]
end TX
namespace M2
variable [DecidableEq α]
def lcs(K:List α):List α->Nat:=
 K.rec (motive:=λc=>List α->Nat) (λc=>0) λa c f J=>J.rec 0 λb J g=>if a=b then f J+1 else max (f (b::J)) g
def lcs_nil_left(J:List α):lcs [] J=0:=rfl
def lcs_nil_right(J:List α):lcs J []=0:=by cases J<;>rfl
def lcs_cons(a b:α)(J K:List α):lcs (a::J) (b::K)=if a=b then lcs J K+1 else max (lcs J (b::K)) (lcs (a::J) K):=rfl
def qL(n:Nat):∀J K:List α,J.length+K.length<=n->
  (∀b,lcs J K<=lcs J (b::K)/\lcs J (b::K)<=lcs J K+1)/\(∀a,lcs J K<=lcs (a::J) K/\lcs (a::J) K<=lcs J K+1):=by
 induction n with
 |zero=>
  intro J K h;have M:J=[]:=ez0 @6;have N:K=[]:=ez0 @6;subst M N;refine(λb=>?_,λa=>?_)
  .rw[lcs_nil_left,lcs_nil_left];simp
  .rw[lcs_nil_right,lcs_nil_right];simp_all
 |succ n ih=>
  intro J K h;constructor
  .intro b
   cases J with
   |nil=>rw[lcs_nil_left,lcs_nil_left];simp_all
   |cons a J=>
    rw[lc0]at h;have L:=ih J K @5;rw[lcs_cons];split
    .have:=L.2 a
     simp_all
    .have O:=L.1 b
     have R:=L.2 a
     grind
  .intro a
   cases K with
   |nil=>rw[lcs_nil_right,lcs_nil_right];simp_all
   |cons b K=>
    rw[lc0]at h;have L:=ih J K @5;rw[lcs_cons];split
    .have:=L.1 b
     simp_all
    .have O:=L.1 b
     have R:=L.2 a
     grind
def lcs_left_le(J K:List α)(a:α):lcs (a::J) K<=lcs J K+1:=((qL _ J K (nr0 _)).2 a).2
def lcs_max(a b:α)(J K:List α):lcs (a::J) (b::K)=max (max (lcs J (b::K)) (lcs (a::J) K)) (if a=b then 1+lcs J K else 0):=by
 rw[lcs_cons];split
 .have L:=(((qL _ J K (nr0 _)).1 b).2)
  have M:=lcs_left_le J K a
  grind
 .simp_all
def walk(i k:Nat)(K J:List α):List (Nat×Nat):=
 K.rec (motive:=λc=>Nat->Nat->List α->List (Nat×Nat)) (λc c c=>[]) (λa K f i k J=>J.rec (motive:=λc=>Nat->List (Nat×Nat)) (λc=>[]) (λb J g k=>if a=b then (i,k)::f (i+1) (k+1) J else if lcs (a::K) J<=lcs K (b::J)then f (i+1) k (b::J)else g (k+1)) k) i k J
def walk_nil_left(i k:Nat)(J:List α):walk i k [] J=[]:=rfl
def walk_nil_right(i k:Nat)(J:List α):walk i k J []=[]:=by cases J<;>rfl
def walk_cons(i k:Nat)(a b:α)(J K:List α):walk i k (a::J) (b::K)=if a=b then (i,k)::walk (i+1) (k+1) J K else if lcs (a::J) K<=lcs J (b::K)then walk (i+1) k J (b::K)else walk i (k+1) (a::J) K:=rfl
def walk_length(n:Nat):∀(J K:List α)(i k:Nat),J.length+K.length<=n->(walk i k J K).length=lcs J K:=by
 induction n with
 |zero=>
  intro J K i k h;have L:J=[]:=ez0 @1;subst L;rw[walk_nil_left,lcs_nil_left];rfl
 |succ n ih=>
  intro J K i k h;cases J with
  |nil=>rw[walk_nil_left,lcs_nil_left];rfl
  |cons a J=>
   cases K with
   |nil=>rw[walk_nil_right,lcs_nil_right];rfl
   |cons b K=>
    rw[walk_cons,lcs_cons]
    grind
inductive Rising (as bs:List α):Nat->Nat->List (Nat×Nat)->Prop
 |nil {i k:Nat}:Rising as bs i k []
 |cons {i k i' k':Nat}{r:List (Nat×Nat)}{x:α}:i<=i'->k<=k'->as[i']?=some x->bs[k']?=some x->Rising as bs (i'+1) (k'+1) r->Rising as bs i k ((i',k')::r)
def Rising.weak{J K:List α}{i k i' k'}{r}(h:Rising J K i k r)(L:i'<=i)(M:k'<=k):Rising J K i' k' r:=by
 cases h with
 |nil=>exact .nil
 |cons a b c d e=>exact .cons (nt0 L a) (nt0 M b) c d e
set_option tactic.hygienic true in
def qM(J K:List α)(n:Nat):∀(i k:Nat),(J.drop i).length+(K.drop k).length<=n->Rising J K i k (walk i k (J.drop i) (K.drop k)):=by
 induction n with
 |zero=>
  intro i k h;have W:J.drop i=[]:=ez0 @6;rw[W,walk_nil_left];exact .nil
 |succ n ih=>
  intro i k h;cases L:J.drop i with
  |nil=>rw[walk_nil_left];exact .nil
  |cons a r=>
   cases M:K.drop k with
   |nil=>rw[walk_nil_right];exact .nil
   |cons b q=>
    have N:J.drop (i+1)=r:=by rw[<-List.drop_drop,L];rfl
    have O:K.drop (k+1)=q:=by rw[<-List.drop_drop,M];rfl
    have U:J[i]?=some a:=by rw[<-List.head?_drop,L];rfl
    have V:K[k]?=some b:=by rw[<-List.head?_drop,M];rfl
    rw[L,M]at h;simp only[lc0]at h;rw[walk_cons];split
    .rename_i R
     subst R;refine .cons (nr0 _) (nr0 _) U V ?_;have:=ih (i+1) (k+1) (by rw[N,O];lia)
     rwa [N,O]at this
    .split
     .have:=ih (i+1) k (by rw[N,M];simp;lia)
      rw[N,M]at this;erw[this.weak @1 @1]
     .have:=ih i (k+1) (by rw[L,O];simp;lia)
      rw[L,O]at this;erw[this.weak @0 @0]
def runsFrom:Nat->Nat->List (Nat×Nat)->List (Nat×Nat×Nat×Nat)
 |_,_,[]=>[]
 |i,k,(J,K)::r=>(if i<J\/k<K then [(i,J - i,k,K - k)] else [])++runsFrom (J+1) (K+1) r
def runs(J K:List α):List (Nat×Nat×Nat×Nat):=runsFrom 0 0 (walk 0 0 J K++[(J.length,K.length)])
def qN(J K:List α):Nat->List (Nat×Nat×Nat×Nat)->List α
 |done,[]=>J.drop done
 |done,(i,m,k,n)::r=>(J.drop done).take (i-done)++((K.drop k).take n++qN J K (i+m) r)
def turned(J K:List α)(told:List (Nat×Nat×Nat×Nat)):List α:=qN J K 0 told
end M2
namespace TX
open PySem SI M1 L2.Z
def uS{inj}{tg}{r}{F:α->List Sl}{n}(J:Nat->α->Prop){P:Option Out->Prop}(k:∀s,J n s->P (some (.nx (F s))))(h:∀j s,j<n->J j s->∃M,J (j+1) M/\(ax tg (inj j) (F s)).bind (λY=>exs Φ Γ Y r)=some (.nx (F M))){s}(R:J 0 s):P (xf Φ Γ tg r ((List.range n).map inj) (F s)):=by
 refine gP (inj:=inj) (J:=λq s=>∃j,j<=n/\q=List.range' j (n-j)/\J j s) (λs z=>?_) (λx q s z=>?_) (0,Nat.zero_le _,by rw[List.range_eq_range'];rfl,R)
 .obtain⟨j,N,K,L⟩:=z
  have:n-j=0:=by have:=congrArg List.length K;simpa using this.symm
  have:j=n:=by lia
  subst this;erw[k s L]
 .obtain⟨j,N,K,L⟩:=z
  have O:n-j=q.length+1:=by have:=congrArg List.length K;simpa using this.symm
  rw[O,List.range'_succ]at K
  grind
def mulR{n}(h:n<=2000):pA (some (.list [.int 0])) (some (.int ((n:Nat):Int)))=some (.list (List.replicate n (.int 0))):=by
 rw[pA,bs0,bs0,nJ,if_pos (pH @1 @1 (by simp;erw[kQ h]))];simp
def dY(K J:A1):List D:=(List.range (J.length+1)).map λk=>.int (M2.lcs K (J.drop k):Nat)
def Az(K J:A1):(dY K J).length=J.length+1:=by unfold dY;simp
def fc(K J:A1){k}(h:k<=J.length):atI (dY K J) (k:Int)=some (.int (M2.lcs K (J.drop k):Nat)):=by
 rw[aR @6 (by rw[Az];lia),Int.toNat_natCast];unfold dY;rw[gm0,List.getElem?_range (Nat.succ_le_succ ‹_›)];rfl
def bK{xs:A1}{k}(h:k<xs.length):atI (xs.map D.str) (k:Int)=some (.str xs[k]):=by
 rw[aR @1 @6,Int.toNat_natCast,gm0,ge0 h];rfl
def partD(a:Str)(K J:A1)(j:Nat):List D:=(List.range (J.length+1)).map λk=>if j<=k then .int (M2.lcs (a::K) (J.drop k):Nat)else .int 0
def mJ(a:Str)(K J:A1)(j:Nat):(partD a K J j).length=J.length+1:=by unfold partD;simp
def AA(a:Str)(K J:A1){j}(h:j<=J.length):atI (partD a K J j) (j:Int)=some (.int (M2.lcs (a::K) (J.drop j):Nat)):=by
 rw[aR @1 (by rw[mJ];lia),Int.toNat_natCast];unfold partD;rw[gm0,List.getElem?_range @1];simp
def sY(a:Str)(J K:A1):partD a J K 0=dY (a::J) K:=rfl
def xk(a:Str)(K J:A1){j}(h:j<J.length):(partD a K J (j+1)).set j (.int (M2.lcs (a::K) (J.drop j):Nat))=partD a K J j:=by
 apply List.ext_getElem?
 intro i;rw[List.getElem?_set];unfold partD;rw[gm0,gm0]
 by_cases L:i<J.length+1
 .rw[List.getElem?_range L]
  grind
 grind
def sZ{n j}(h:j<n):ixN n (j:Int)=some j:=by
 unfold ixN
 simp_all
abbrev mK(Φ:Fs):Prop:=Has Φ "count_row" [true,true,true] λK=>∀(a:Str)(L J:A1),J.length<=1400->K [.str a,.list (J.map .str),.list (dY L J)]=some (.list (dY (a::L) J))
def kR(a:Str)(L K:A1)(E:K.length<=1400):ans Φ Γ cK [.str a,.list (K.map .str),.list (dY L K)]=some (.list (dY (a::L) K)):=by
 have G:=nG (n:=(K.length:Int)-1) @5 @5;have I:=nG (n:=-1) @6 @6;have C:((K.length:Int)-1+1).toNat=K.length:=by simp_all
 have Z:=mulR (n:=K.length+1) @5;rw[Int.natCast_succ]at Z;simp only[ans_e,cK];simp[Z,G,I,C];rw[(show (List.replicate (K.length+1) (D.int 0))=partD a L K K.length by
   apply List.ext_getElem?
   intro i;unfold partD;rw[gm0,List.getElem?_replicate]
   by_cases Y:i<K.length+1
   .rw[List.getElem?_range Y,if_pos Y]
    by_cases e:K.length<=i
    .simp[e,List.drop_eq_nil_of_le e,M2.lcs_nil_right]
    .simp[e]
   simp_all)]
 refine uS (F:=λs:Nat×Sl=>[.lent (.str a),.lent (.list (K.map .str)),.lent (.list (dY L K)),.own (.list (partD a L K s.1)),s.2]) (s:=(K.length,.no)) (J:=λk s=>s.1+k=K.length) (P:=λo=>cJ .pure (nxS Φ Γ o _)=_) (λs h=>?_) (λk s X h=>?_) rfl
 .have:s.1=0:=by simp_all
  simp[this,sY]
 .obtain⟨j,S⟩:∃j,s.1=j+1:=(s.1-1,by lia)
  have T:((K.length:Int)-1-k)=(j:Int):=by lia
  refine((j,.dat (.int j)),by show j+(k+1)=_;lia,?_);rw[T,S];have R:=bK (xs:=K) (k:=j) @1;have U:=fc L K (k:=j) @1;have M:=fc L K (k:=j+1) @1;have N:=AA a L K (j:=j+1) @1;have V:=sZ (n:=(partD a L K (j+1)).length) (j:=j) (by rw[mJ];lia);have Q:=xk a L K (j:=j) @1;have W:K.drop j=K[j]::K.drop (j+1):=List.drop_eq_getElem_cons @1;rw[show ((j+1:Nat):Int)=(j:Int)+1 from Int.natCast_succ j]at M N;rw[<-Q]
  by_cases c:a=K[j]
  .have e:M2.lcs (a::L) (K.drop j)=M2.lcs L (K.drop (j+1))+1:=by rw[W,M2.lcs_cons,if_pos c]
   rw[e];generalize M2.lcs L (K.drop (j+1))=m at M;simp[R,<-c,M,V]
  .have e:M2.lcs (a::L) (K.drop j)=max (M2.lcs L (K.drop j)) (M2.lcs (a::L) (K.drop (j+1))):=by rw[W,M2.lcs_cons,if_neg c]
   rw[e];generalize M2.lcs L (K.drop j)=m at U;generalize M2.lcs (a::L) (K.drop (j+1))=O at N;have B:(if m<O then (O:Int)else m)=((max m O:Nat):Int):=by split<;>lia
   simp[R,U,N,V,c,B]
end TX
namespace SI
open PySem
def HR(Φ:Fs)(Γ:List (Str×D))(c:E)(r:Ss)(n:Nat)(Y:List Sl):Option Out:=ik (λJ=>ev Φ Γ .test J c) (λJ=>exs Φ Γ J r) n Y
@[simp ↓ high] def ex_w{Φ}{Γ}{Y}{c}{r}:ex Φ Γ Y (.whl c r)=HR Φ Γ c r fuel Y:=(rfl)
def Kv{Φ}{Γ}{c}{r}{F:α->List Sl}(J:Nat->α->Prop)(Q:α->Prop){P:Option Out->Prop}(k:∀s,Q s->P (some (.nx (F s))))(h:∀m s,J m s->(ev Φ Γ .test (F s) c=some (.bool false)/\Q s)\/(ev Φ Γ .test (F s) c=some (.bool true)/\∃K L,K<m/\exs Φ Γ (F s) r=some (.nx (F L))/\J K L))(m:Nat):∀n s,J m s->m<n->P (HR Φ Γ c r n (F s)):=by
 induction m using Nat.strongRecOn with
 |_ m ih=>
  intro n s j U;cases n with
  |zero=>lia
  |succ n=>
   show P ((ev Φ Γ _ _ c).bind _);rcases h m s j with⟨M,N⟩|⟨M,K,L,N,O,R⟩
   .rw[M];erw[k s N]
   .rw[M]
    show P ((exs Φ Γ _ r).bind _);rw[O];erw[ih K N n L R @1]
end SI
namespace TX
open PySem SI M1 L2.Z
def cG(J K:A1)(k:Nat):List D:=(List.range (k+1)).map λt=>.list (dY (J.drop (J.length-t)) K)
def gQ(J K:A1):List D:=(List.range (J.length+1)).map λi=>.list (dY (J.drop i) K)
def gN(J K:A1)(k:Nat):(cG J K k).length=k+1:=by unfold cG;simp
def xm(J K:A1):(cG J K J.length).reverse=gQ J K:=by
 apply List.ext_getElem?
 intro i
 by_cases h:i<J.length+1
 .rw[List.getElem?_reverse (by rwa [gN]),gN]
  unfold cG gQ;rw[gm0,gm0,List.getElem?_range h]
  grind
 .rw[List.getElem?_eq_none (by rw[List.length_reverse,gN];lia),List.getElem?_eq_none (by unfold gQ;simp;lia)]
def jm(J K:A1){i}(h:i<=J.length):atI (gQ J K) (i:Int)=some (.list (dY (J.drop i) K)):=by
 rw[aR @6 (by unfold gQ;simp;lia),Int.toNat_natCast];unfold gQ;rw[gm0,List.getElem?_range (Nat.succ_le_succ ‹_›)];rfl
abbrev uT(Φ:Fs):Prop:=Has Φ "common_counts" [true,true] λL=>∀(J K:A1),J.length<=1400->K.length<=1400->L [.list (J.map .str),.list (K.map .str)]=some (.list (gQ J K))
def tf(hc:mK Φ)(K L:A1)(G:K.length<=1400)(Q:L.length<=1400):ans Φ Γ bf [.list (K.map .str),.list (L.map .str)]=some (.list (gQ K L)):=by
 obtain⟨I,W,C⟩:=hc;have U:=mulR (n:=L.length+1) @5;rw[Int.natCast_succ]at U;have V:[D.list (List.replicate (L.length+1) (.int 0))]=cG K L 0:=by
  have z:cG K L 0=[D.list (dY [] L)]:=by unfold cG;simp
  have S:List.replicate (L.length+1) (D.int 0)=dY [] L:=by
   unfold dY
   apply List.ext_getElem?
   intro i;rw[List.getElem?_replicate,gm0]
   by_cases N:i<L.length+1
   .rw[if_pos N,List.getElem?_range N]
    show _=some (D.int _);rw[M2.lcs_nil_left];rfl
   .rw[if_neg N,List.getElem?_eq_none (by simp;simp_all)];rfl
  rw[z,S]
 simp only[ans_e,bf];simp[U];rw[V,show (K.map D.str).reverse=(List.range K.length).map λk=>D.str (K[K.length-1-k]?.getD Str.empty)from by
  apply List.ext_getElem?
  intro k;rw[gm0]
  by_cases O:k<K.length
  .rw[List.getElem?_reverse (by simpa using O),lm0,gm0,List.getElem?_range O,ge0 @1,mo0,mo0,ge0 (by lia:K.length-1-k<K.length)];rfl
  .rw[List.getElem?_eq_none (by simp;lia),List.getElem?_eq_none (by simp;lia)];rfl]
 refine uS (F:=λs:Nat×Sl=>[.lent (.list (K.map .str)),.lent (.list (L.map .str)),.own (.list (cG K L s.1)),s.2]) (s:=(0,.no)) (J:=λk s=>s.1=k) (P:=λo=>cJ .pure (nxS Φ Γ o _)=_) (λs h=>?_) (λk s O h=>?_) rfl
 .simp[h,xm]
 .obtain⟨M,E⟩:=s
  obtain rfl:M=k:=h;have Y:=(show atI (cG K L M) (-1)=some (.list (dY (K.drop (K.length-M)) L)) by
    rw[fX (d:=.none) (by unfold cG;simp)];unfold cG;rw[List.range_succ];simp)
  have R:=(show cG K L (M+1)=cG K L M++[.list (dY (K.drop (K.length-(M+1))) L)] by
    unfold cG;rw[List.range_succ,List.map_append];rfl)
  have Z:=C K[K.length-1-M] (K.drop (K.length-M)) L Q;have T:K.drop (K.length-(M+1))=K[K.length-1-M]::K.drop (K.length-M):=by
   rw[show K.length-(M+1)=K.length-1-M by lia,List.drop_eq_getElem_cons @1,show K.length-1-M+1=K.length-M by lia]
  rw[T]at R;have B:(cG K L M).length<big:=by rw[gN];erw[Nat.lt_of_le_of_lt (by lia:_<=1400) @2]
  refine((M+1,.dat (.str K[K.length-1-M])),rfl,?_);rw[R,ge0 @1];simp[W,Y,Z,B]
def prD(p:Nat×Nat):D:=.tuple [.int p.1,.int p.2]
abbrev mi(L:List D->Option D):Prop:=∀(J K:A1),J.length<=1400->K.length<=1400->L [.list (J.map .str),.list (K.map .str)]=some (.list ((M2.walk 0 0 J K).map prD))
abbrev uU(Φ:Fs):Prop:=Has Φ "paired" [true,true] mi
structure Wk(as bs:A1)(m:Nat)(s:Nat×Nat×List (Nat×Nat)):Prop where
 i:s.1<=as.length
 k:s.2.1<=bs.length
 l:s.2.2.length<=s.1
 w:s.2.2++M2.walk s.1 s.2.1 (as.drop s.1) (bs.drop s.2.1)=M2.walk 0 0 as bs
 m:m=as.length-s.1+(bs.length-s.2.1)
def mL{c}{r}{F:Nat×Nat×List (Nat×Nat)->List Sl}{P:Option Out->Prop}(K L:A1)(B:K.length<=1400)(C:L.length<=1400)(hc:∀s,ev Φ Γ .test (F s) c=some (.bool (decide (s.1<K.length)&&decide (s.2.1<L.length))))
  (Z:∀i k Q,(R:i<K.length)->(U:k<L.length)->K[i]=L[k]->Q.length<big->exs Φ Γ (F (i,k,Q)) r=some (.nx (F (i+1,k+1,Q++[(i,k)]))))
  (T:∀i k Q,(R:i<K.length)->(U:k<L.length)->K[i]≠L[k]->exs Φ Γ (F (i,k,Q)) r=some (.nx (F (if M2.lcs (K.drop i) (L.drop (k+1))<=M2.lcs (K.drop (i+1)) (L.drop k)then (i+1,k,Q)else (i,k+1,Q)))))
  (k:∀i k,P (some (.nx (F (i,k,M2.walk 0 0 K L))))):P (HR Φ Γ c r fuel (F (0,0,[]))):=by
 refine Kv (F:=F) (J:=Wk K L) (Q:=λs=>s.2.2=M2.walk 0 0 K L) (λs h=>?_) (λm s w=>?_) (K.length+L.length) fuel (0,0,[]) (by simp,by simp,by simp,by simp,by simp) (by unfold fuel;grind)
 .obtain⟨i,D,Q⟩:=s
  obtain rfl:Q=_:=h;erw[k i D]
 .obtain⟨i,k,Q⟩:=s
  obtain⟨R,U,Y,M,rfl⟩:=w;dsimp only at R U Y M ⊢;rw[hc]
  by_cases N:i<K.length
  .by_cases O:k<L.length
   .right
    have V:=List.drop_eq_getElem_cons N;have W:=List.drop_eq_getElem_cons O;refine(by simp[N,O],?_);rw[V,W,M2.walk_cons]at M;rw[<-V,<-W]at M
    by_cases c:K[i]=L[k]
    .rw[if_pos c]at M
     exact(_,(i+1,k+1,Q++[(i,k)]),by dsimp only;grind,Z i k Q N O c (Nat.lt_of_le_of_lt (by grind:_<=1400) @2),N,O,by simp;lia,by rw[<-M];simp,rfl)
    .rw[if_neg c]at M
     have:=T i k Q N O c
     by_cases q:M2.lcs (K.drop i) (L.drop (k+1))<=M2.lcs (K.drop (i+1)) (L.drop k)
     .rw[if_pos q]at M this
      exact(_,(i+1,k,Q),by dsimp only;grind,this,N,U,by show Q.length<=i+1;erw[Nat.le_succ_of_le ‹_›],M,rfl)
     .rw[if_neg q]at M this
      exact(_,(i,k+1,Q),by dsimp only;lia,this,R,O,Y,M,rfl)
   .left
    have:k=L.length:=by lia
    subst this;rw[List.drop_length,M2.walk_nil_right,List.append_nil]at M;exact(by simp,M)
  .left
   have:i=K.length:=by lia
   subst this;rw[List.drop_length,M2.walk_nil_left,List.append_nil]at M;exact(by simp,M)
def tq(hc:uT Φ):mi (ans Φ Γ gy):=by
 intro J K V W;obtain⟨C,T,D⟩:=hc;simp only[ans_e,gy];simp[T,D J K V W];refine mL (F:=λs=>[.lent (.list (J.map .str)),.lent (.list (K.map .str)),.dat (.list (gQ J K)),.own (.list (s.2.2.map prD)),.dat (.int s.1),.dat (.int s.2.1)]) (P:=λo=>cJ .pure (nxS Φ Γ o _)=_) J K V W (λs=>?_) (λi k Q L M c B=>?_) (λi k Q L M c=>?_) λi k=>?_
 .simp
 .have N:=bK L
  have O:=bK M;simp[N,O,c,B,prD]
 .have N:=bK L
  have O:=bK M;have Y:=jm J K (i:=i) (Nat.le_of_lt ‹_›);have R:=jm J K (i:=i+1) L;have U:=fc (J.drop i) K (k:=k+1) M;have Z:=fc (J.drop (i+1)) K (k:=k) (Nat.le_of_lt ‹_›);rw[show ((i+1:Nat):Int)=(i:Int)+1 from Int.natCast_succ i]at R;rw[show ((k+1:Nat):Int)=(k:Int)+1 from Int.natCast_succ k]at U
  by_cases q:M2.lcs (J.drop i) (K.drop (k+1))<=M2.lcs (J.drop (i+1)) (K.drop k)
  .simp[N,O,c,Y,R,U,Z,q]
  .simp[N,O,c,Y,R,U,Z,q]
 .simp
noncomputable def bM(J K:A1)(P:A8)(r c:Nat):D:=if P r c then .int (M2.lcs (J.drop r) (K.drop c):Nat)else .int 0
def gridRow(K J:A1)(P:A8)(r:Nat):List D:=(List.range (J.length+1)).map (bM K J P r)
def grid(J K:A1)(P:A8):List (List D):=(List.range (J.length+1)).map (gridRow J K P)
def bp(K J:A1)(P:A8)(r:Nat):(gridRow K J P r).length=J.length+1:=by unfold gridRow;simp
def eG(J K:A1)(P:A8):(grid J K P).length=J.length+1:=by unfold grid;simp
def cb(K J:A1)(P:A8)(r:Nat){c}(h:c<=J.length):(gridRow K J P r)[c]?=some (bM K J P r c):=by
 unfold gridRow;rw[gm0,List.getElem?_range (Nat.succ_le_succ ‹_›)];rfl
def eI(J K:A1)(P:A8){r}(h:r<=J.length):(grid J K P)[r]?=some (gridRow J K P r):=by
 unfold grid;rw[gm0,List.getElem?_range @1];rfl
def kB(K J:A1)(P:A8)(r:Nat){c}(h:c<=J.length):atI (gridRow K J P r) (c:Int)=some (bM K J P r c):=by
 rw[aR @6 (by rw[bp];lia),Int.toNat_natCast,cb K J P r h]
def uV(J K:A1)(P:A8){r}(h:r<=J.length):atI (grid J K P) (r:Int)=some (gridRow J K P r):=by
 rw[aR @0 (by rw[eG];lia),Int.toNat_natCast,eI J K P h]
def AB(J K:A1)(P M:A8){r c}(O:r<=J.length)(hc:c<=K.length)(h:∀r' L,M r' L=(P r' L||(r'==r&&L==c))):
  (grid J K P).set r ((gridRow J K P r).set c (.int (M2.lcs (J.drop r) (K.drop c):Nat)))=grid J K M:=by
 have cell:∀r' L,(r'≠r\/L≠c)->bM J K M r' L=bM J K P r' L:=λr' L hn=>by
  unfold bM;rw[h r' L];have:(r'==r&&L==c)=false:=by
   rcases hn with hn|hn<;>simp_all
  rw[this,Bool.or_false]
 apply List.ext_getElem?
 intro r'
 by_cases e:r'=r
 .subst e
  rw[gs0 (by rw[eG];lia),eI J K M O]
  congr 1
  apply List.ext_getElem?
  intro L
  by_cases e:L=c
  .subst e
   rw[gs0 (by rw[bp];lia),cb J K M _ hc];unfold bM;rw[h];simp
  .rw[gn0 (Ne.symm e)]
   by_cases N:L<=K.length
   .rw[cb J K P _ N,cb J K M _ N,cell _ _ (.inr e)]
   .rw[List.getElem?_eq_none (by rw[bp];lia),List.getElem?_eq_none (by rw[bp];lia)]
 .rw[gn0 (Ne.symm e)]
  by_cases N:r'<=J.length
  .rw[eI J K P N,eI J K M N]
   congr 1
   apply List.map_congr_left
   intro L _;exact (cell _ _ (.inl e)).symm
  .rw[List.getElem?_eq_none (by rw[eG];lia),List.getElem?_eq_none (by rw[eG];lia)]
noncomputable def Qr(i:Nat):Nat->Nat->Bool:=λr a=>decide (i<=r)
def Pr(i k:Nat):Nat->Nat->Bool:=λr c=>decide (i<r)||(decide (r=i)&&decide (k<=c))
def kr(J K:A1){P P'}(h:∀r c,r<=J.length->c<=K.length->bM J K P r c=bM J K P' r c):grid J K P=grid J K P':=by
 apply List.map_congr_left
 intro r L
 apply List.map_congr_left
 grind
def Bn(J K:A1)(i:Nat):grid J K (Pr i 0)=grid J K (Qr i):=kr J K λr c a a=>by
 have:Pr i 0 r c=Qr i r c:=by
  unfold Pr Qr
  grind
 unfold bM;rw[this]
def xo(K J:A1)(i:Nat):grid K J (Qr (i+1))=grid K J (Pr i J.length):=kr K J λr c a O=>by
 unfold bM Pr Qr
 by_cases h:i<r
 .simp[h];grind
 .by_cases e:r=i/\J.length<=c
  .obtain⟨rfl,e⟩:=e
   simp[e,List.drop_eq_nil_of_le e,M2.lcs_nil_right]
  .have N:¬ i+1<=r:=by assumption
   simp only[df0 N,df0 h]
   by_cases L:r=i
   .have M:¬ J.length<=c:=λz=>e (L,z)
    simp[M]
   .simp[L]
def tu(J K:A1):((List.range (J.length+1)).map λa=>List.replicate (K.length+1) (D.int 0))=grid J K (Qr J.length):=by
 apply List.map_congr_left
 intro r M
 apply List.ext_getElem?
 intro c;rw[List.getElem?_replicate]
 by_cases L:c<K.length+1
 .rw[if_pos L,cb J K _ r @1]
  unfold bM Qr
  by_cases e:J.length<=r
  .simp[List.drop_eq_nil_of_le e,M2.lcs_nil_left]
  .simp[e]
 .rw[if_neg L,List.getElem?_eq_none (by rw[bp];lia)]
def AC(J K:A1):(grid J K (Qr 0)).map D.list=gQ J K:=by
 unfold grid gQ;rw[List.map_map];rfl
def DK(f:Nat->α)(n:Nat):(List.range n).reverse.map f=(List.range n).map λt=>f (n-1-t):=by
 apply List.ext_getElem?
 intro k;rw[gm0,gm0]
 by_cases J:k<n<;>simp_all
theorem qO:∀l:List (List D),rowsOf (l.map .list)=some l
 |[]=>rfl
 |a::l=>by rw[mk0,rowsOf,qO l];rfl
abbrev tw:Ss:=(.cons (.set 5 (.bi .max (.cons (.idx2 3 (.op .add (.v 4) ↑1) (.v 2)) (.cons (.idx2 3 (.v 4) (.op .add (.v 2) ↑1)) .nil)))) (.cons (.sett 3 (.v 4) (.v 2) (.bi .max (.cons (.v 5) (.cons (.op .mul (.bi .int (.cons (.cmp .eq (.idx (.v 0) (.v 4)) (.idx (.v 1) (.v 2))) .nil)) (.op .add ↑1 (.idx2 3 (.op .add (.v 4) ↑1) (.op .add (.v 2) ↑1)))) .nil)))) .nil))
def xq(J K:A1){i k}(G:i<J.length)(I:k<K.length)(s5:Sl):∃T,exs Φ Γ [.lent (.list (J.map .str)),.lent (.list (K.map .str)),.dat (.int k),.io (.tbl (grid J K (Pr i (k+1)))),.dat (.int i),s5] tw =
  some (.nx [.lent (.list (J.map .str)),.lent (.list (K.map .str)),.dat (.int k),.io (.tbl (grid J K (Pr i k))),.dat (.int i),T]):=by
 have C:=bK G;have a2:=bK I;have V:=uV J K (Pr i (k+1)) (r:=i) @1;have R:=uV J K (Pr i (k+1)) (r:=i+1) (by assumption);have O:=kB J K (Pr i (k+1)) (i+1) (c:=k) @1;have M:=kB J K (Pr i (k+1)) i (c:=k+1) (by assumption);have N:=kB J K (Pr i (k+1)) (i+1) (c:=k+1) (by assumption);have y:bM J K (Pr i (k+1)) (i+1) k=.int (M2.lcs (J.drop (i+1)) (K.drop k):Nat):=by unfold bM Pr;simp
 have q:bM J K (Pr i (k+1)) i (k+1)=.int (M2.lcs (J.drop i) (K.drop (k+1)):Nat):=by unfold bM Pr;simp
 have u:bM J K (Pr i (k+1)) (i+1) (k+1)=.int (M2.lcs (J.drop (i+1)) (K.drop (k+1)):Nat):=by unfold bM Pr;simp
 rw[y]at O;rw[q]at M;rw[u]at N;rw[show ((i+1:Nat):Int)=(i:Int)+1 from Int.natCast_succ i]at R;rw[show ((k+1:Nat):Int)=(k:Int)+1 from Int.natCast_succ k]at M N;have F:=sZ (n:=(grid J K (Pr i (k+1))).length) (j:=i) (by rw[eG];erw[Nat.lt_succ_of_lt ‹_›]);have W:=eI J K (Pr i (k+1)) (r:=i) @1;have D:=sZ (n:=(gridRow J K (Pr i (k+1)) i).length) (j:=k) (by rw[bp];lia);have L:=AB J K (Pr i (k+1)) (Pr i k) (r:=i) (c:=k) @1 @1 (λr c=>by
  unfold Pr
  by_cases Q:i<r
  .simp[Q]
  .by_cases S:r=i
   .subst S
    by_cases P:k<=c
    .by_cases Y:k+1<=c
     .simp[P,Y]
     .have:c=k:=by lia
      simp[this]
    .have Y:¬ k+1<=c:=by lia
     have E:c≠k:=by lia
     simp[P,Y,E]
   .simp[Q,S])
 have X:=List.drop_eq_getElem_cons G;have H:=List.drop_eq_getElem_cons I;have U:M2.lcs (J.drop i) (K.drop k)=max (max (M2.lcs (J.drop (i+1)) (K.drop k)) (M2.lcs (J.drop i) (K.drop (k+1)))) (if J[i]=K[k] then 1+M2.lcs (J.drop (i+1)) (K.drop (k+1))else 0):=by
  have:=M2.lcs_max J[i] K[k] (J.drop (i+1)) (K.drop (k+1));rw[<-X,<-H]at this;erw[this]
 rw[U]at L;generalize grid J K (Pr i (k+1))=g at V R F W L;generalize gridRow J K (Pr i (k+1)) i=f at V M W D L;generalize gridRow J K (Pr i (k+1)) (i+1)=z at R O N;generalize M2.lcs (J.drop (i+1)) (K.drop k)=A at O L;generalize M2.lcs (J.drop i) (K.drop (k+1))=B at M L;generalize M2.lcs (J.drop (i+1)) (K.drop (k+1))=Z at N L;refine(.dat (.int (if A<B then (B:Int)else A)),?_);rw[<-L]
 by_cases c:J[i]=K[k]
 .have e:(if (if A<B then (B:Int)else A)<1+(Z:Int)then 1+(Z:Int)else if A<B then (B:Int)else A)=((max (max A B) (1+Z):Nat):Int):=by
   split<;>split<;>lia
  have m1:pA (some (.int 1)) (some (.int (1+(Z:Int))))=some (.int (1+(Z:Int))):=by rw[mulL @2 @2,Int.one_mul]
  simp[C,a2,V,R,O,M,N,c,m1,F,W,D,e]
 .have e:(if (if A<B then (B:Int)else A)<0 then 0 else if A<B then (B:Int)else A)=((max (max A B) 0:Nat):Int):=by
   split<;>split<;>lia
  have m0:pA (some (.int 0)) (some (.int (1+(Z:Int))))=some (.int 0):=by rw[mulL @2 @2,Int.zero_mul]
  simp[C,a2,V,R,O,M,N,c,m0,F,W,D,e]
def rvL(o:Option D):Option (List D):=o.bind λd=>(asI d).bind λn=>if rOk n then some ((List.range n.toNat).reverse.map λ(k:Nat)=>.int k)else none
@[simp ↓ 20000] def evI_rv{m}{Y}{e}:evI Φ Γ m Y (.revr e)=rvL (ev Φ Γ .val Y e):=(rfl)
def rvN(h:n<=1400):rvL (some (.int (n:Int)))=some ((List.range n).map λt=>D.int ((n-1-t:Nat):Int)):=by
 rw[rvL,bs0,show asI (D.int (n:Int))=some (n:Int)from rfl,bs0,if_pos (nG @6 @5),Int.toNat_natCast,DK]
abbrev EU(Φ:Fs):Prop:=Has Φ "_law_most" [true,true] λL=>∀(J K:A1),J.length<=1400->K.length<=1400->L [.list (J.map .str),.list (K.map .str)]=some (.list (gQ J K))
def AD(M K:A1)(R:K.length<=1400){i}(U:i<M.length)(s2 s5:Sl):∃N L,exs Φ Γ [.lent (.list (M.map .str)),.lent (.list (K.map .str)),s2,.io (.tbl (grid M K (Qr (i+1)))),.dat (.int i),s5] (.cons (.fors (.one 2) (.revr (.bi .len @12)) tw) .nil) =
  some (.nx [.lent (.list (M.map .str)),.lent (.list (K.map .str)),N,.io (.tbl (grid M K (Qr i))),.dat (.int i),L]):=by
 rw[exs_c,ex_for,evI_rv,show ev Φ Γ .val _ _=some (.int K.length) by simp,rvN R,bs0,xo];refine uS (F:=λs:Nat×Sl×Sl=>[_,_,s.2.1,.io (.tbl (grid M K (Pr i s.1))),.dat (.int i),s.2.2]) (s:=(K.length,s2,s5)) (J:=λt s=>s.1+t=K.length) (P:=λo=>∃N L,nxS Φ Γ o _=some (.nx [_,_,N,_,.dat (.int i),L])) (λs h=>?_) (λt s W h=>?_) rfl
 .have:s.1=0:=by lia
  exact(s.2.1,s.2.2,by rw[this,Bn];rfl)
 .obtain⟨k,V⟩:∃k,s.1=k+1:=(s.1-1,by lia)
  have O:K.length-1-t=k:=by lia
  obtain⟨L,q⟩:=xq (Φ:=Φ) (Γ:=Γ) M K U (k:=k) @1 s.2.2;refine((k,.dat (.int k),L),by grind,?_);rw[O,V];erw[q]
abbrev uW:E:=(.comp 1 [1] (.one 0) (.rng (.op .add (.bi .len (.cons (.v 0) .nil)) ↑1)) .nil (.op .mul (.lst (.cons ↑0 .nil)) (.op .add (.bi .len @12) ↑1)))
def MX(h:n<=1400):sS (some (.int ((n:Int)+1)))=some ((List.range (n+1)).map λ(k:Nat)=>.int k):=Km (n:=n+1) @5
def Kw(h:n<=1400):pA (some (.list [.int 0])) (some (.int ((n:Int)+1)))=some (.list (List.replicate (n+1) (.int 0))):=mulR (n:=n+1) @5
abbrev EV(Φ:Fs):Prop:=Has Φ "_law_walk" [true,true] mi
def AE(hc:EU Φ):mi (ans Φ Γ ll):=by
 intro J K V W;obtain⟨C,T,D⟩:=hc;simp only[ans_e,ll];simp[T,D J K V W];refine mL (F:=λs=>[.lent (.list (J.map .str)),.lent (.list (K.map .str)),.dat (.list (gQ J K)),.own (.list (s.2.2.map prD)),.dat (.int s.1),.dat (.int s.2.1)]) (P:=λo=>cJ .pure (nxS Φ Γ o _)=_) J K V W (λs=>?_) (λi k Q L M c B=>?_) (λi k Q L M c=>?_) λi k=>?_
 .simp
 .have N:=bK L
  have O:=bK M;simp[N,O,c,B,prD]
 .have N:=bK L
  have O:=bK M;have Y:=jm J K (i:=i) @1;have R:=jm J K (i:=i+1) L;have U:=fc (J.drop i) K (k:=k+1) M;have Z:=fc (J.drop (i+1)) K (k:=k) @1;rw[show ((i+1:Nat):Int)=(i:Int)+1 from Int.natCast_succ i]at R;rw[Int.natCast_succ k]at U
  by_cases q:M2.lcs (J.drop i) (K.drop (k+1))<=M2.lcs (J.drop (i+1)) (K.drop k)
  .simp[N,O,c,Y,R,U,Z,q,Nat.not_lt.mpr q]
  .simp[N,O,c,Y,R,U,Z,q,Nat.lt_of_not_le q]
 .simp
def AF(as J)(K:as.length<=1400)(L:J.length<=1400):ev Φ Γ .val [.lent (.list (as.map .str)),.lent (.list (J.map .str)),.no,.fr,.no,.no] uW=some (.list ((grid as J (Qr as.length)).map .list)):=by
 have M:as.length+1<=big:=kQ @1;rw[ev_cp,evI_r,show ev Φ Γ .val _ _=some (.int (as.length+1)) by simp,MX K,bs0,if_pos @6,az λk a=>(by
   rw[bE,show ax (.one 0) (D.int k) _=some [_,.lent _] from rfl,bs0,show evC Φ Γ _ .nil=some true from rfl,bs0,if_pos rfl,ev_m,show ev Φ Γ .read _ _=some (.list [.int 0]) by simp,show ev Φ Γ .read _ _=some (.int ((J.length:Int)+1)) by simp,Kw L];rfl)]
 rw[<-tu,List.map_map];rfl
def AG(as bs)(R:as.length<=1400)(U:bs.length<=1400):ans Φ Γ gE [.list (as.map .str),.list (bs.map .str)]=some (.list (gQ as bs)):=by
 obtain⟨K,L,M,Y⟩:=(show ∃K L M,ex Φ Γ [.lent (.list (as.map .str)),.lent (.list (bs.map .str)),.no,.io (.tbl (grid as bs (Qr as.length))),.no,.no] (.fors (.one 4) (.revr (.bi .len (.cons (.v 0) .nil))) (.cons (.fors (.one 2) (.revr (.bi .len @12)) tw) .nil))=some (.nx [.lent (.list (as.map .str)),.lent (.list (bs.map .str)),K,.io (.tbl (grid as bs (Qr 0))),L,M]) by
   rw[ex_for,evI_rv,show ev Φ Γ .val [.lent (.list (as.map .str)),.lent (.list (bs.map .str)),.no,.io (.tbl (grid as bs (Qr as.length))),.no,.no] (.bi .len (.cons (.v 0) .nil))=some (.int as.length) by simp,rvN R,bs0];refine uS (F:=λs:Nat×Sl×Sl×Sl=>[.lent (.list (as.map .str)),.lent (.list (bs.map .str)),s.2.1,.io (.tbl (grid as bs (Qr s.1))),s.2.2.1,s.2.2.2]) (s:=(as.length,.no,.no,.no)) (J:=λt s=>s.1+t=as.length) (P:=λo=>∃K L M,o=some (.nx [.lent (.list (as.map .str)),.lent (.list (bs.map .str)),K,.io (.tbl (grid as bs (Qr 0))),L,M])) (λs h=>?_) (λt s T h=>?_) rfl
   .have:s.1=0:=by simp_all
    exact(s.2.1,s.2.2.1,s.2.2.2,by rw[this])
   .obtain⟨i,Z⟩:∃i,s.1=i+1:=(s.1-1,by grind)
    have V:as.length-1-t=i:=by grind
    obtain⟨N,O,q⟩:=AD (Φ:=Φ) (Γ:=Γ) as bs U (i:=i) @5 s.2.1 s.2.2.2;refine((i,N,.dat (.int i),O),by show i+(t+1)=_;grind,?_);rw[V,Z,show ax (.one 4) (D.int (i:Int)) [.lent (.list (as.map .str)),.lent (.list (bs.map .str)),s.2.1,.io (.tbl (grid as bs (Qr (i+1)))),s.2.2.1,s.2.2.2]=some [.lent (.list (as.map .str)),.lent (.list (bs.map .str)),s.2.1,.io (.tbl (grid as bs (Qr (i+1)))),.dat (.int i),s.2.2.2] from rfl,bs0];erw[q])
 have W:ex Φ Γ [.lent (.list (as.map .str)),.lent (.list (bs.map .str)),.no,.fr,.no,.no] (.newt 3 uW)=some (.nx [.lent (.list (as.map .str)),.lent (.list (bs.map .str)),.no,.io (.tbl (grid as bs (Qr as.length))),.no,.no]):=by
  rw[ex_s];simp only[S.newt,gtS,gt0];rw[if_neg (by simp[lh]),AF as bs R U,bs0,BY,bs0,qO];rfl
 simp only[ans_e,gE,My,exs_c];rw[show (aN [true,true] 6 [D.list (as.map .str),.list (bs.map .str)]).set 3 Sl.fr=[.lent (.list (as.map .str)),.lent (.list (bs.map .str)),.no,.fr,.no,.no] from rfl,W,iT,exs_c,Y,iT];simp[<-AC]
theorem uR{k:Sum Int Str}{v:α}:∀{l:List (Sum Int Str×α)},k∉l.map (·.1)->put l k v=l++[(k,v)]
 |[],_=>rfl
 |(j,w)::r,h=>by
  have J:j≠k:=λe=>h (by simp[e])
  rw[put,if_neg J,uR λz=>h (by simp[z])];rfl
theorem dQ :∀{xs acc:List (Sum Int Str×α)},((acc++xs).map (·.1)).Nodup->putAll acc xs=acc++xs
 |[],acc,_=>by rw[putAll,List.append_nil]
 |(k,v)::r,acc,h=>by
  have e:acc++(k,v)::r=(acc++[(k,v)])++r:=by simp
  have J:k∉acc.map (·.1):=λz=>by
   rw[List.map_append,mk0]at h;exact (List.nodup_append.mp h).2.2 k z k ms0 rfl
  rw[putAll,uR J,dQ (by rw[<-e];erw[h]),e]
def eJ{L:List Th}{t}(h:L[n]?=some t):(L.map Th.o)[n]?=some t.o:=by simp_all
abbrev uX(Φ:Fs)(c:Nat):Prop:=Has Φ "text_of" [true,true] λJ=>∀(L:List Th)(n:Nat) t,L[n]?=some (.blob t)->J [vt c L,.int n]=some (.str t)
def AH(hc:gJ Φ c)(L:List Th)(n:Nat)(t:Str)(h:L[n]?=some (.blob t)):ans Φ Γ (eV c) [vt c L,.int n]=some (.str t):=by
 obtain⟨M,J,K⟩:=hc;simp only[ans_e,eV];simp[J,(K 0 _ n _ _ (eJ h))]
def kOf:Option Th->Str
 |none=>⟨#[110,111,110,101]⟩
 |some (.blob _)=>bx
 |some (.tree _)=>ao
noncomputable def qP(L:List Th)(d:D):Option Th->Prop
 |none=>d=.none
 |some t=>∃n:Nat,d=.int n/\L[n]?=some t
abbrev jo(Φ:Fs)(c:Nat):Prop:=Has Φ "kind_of" [true,true] λJ=>∀(L:List Th) d o,qP L d o->J [vt c L,d]=some (.str (kOf o))
def tB(N:qi Φ c)(L:List Th)(d:D)(o)(h:qP L d o):ans Φ Γ (eX c) [vt c L,d]=some (.str (kOf o)):=by
 obtain⟨R,J,K⟩:=N;simp only[ans_e,eX];cases o with
 |none=>cases h;simp[kOf]
 |some t=>
  obtain⟨n,rfl,M⟩:=h;cases t with
  |blob t=>have q:=K 0 _ n _ _ (eJ M);simp[J,q,kOf]
  |tree O=>have q:=K 0 _ n _ _ (eJ M);simp[J,q,kOf]
noncomputable def byN:Option Th->List (Str×Int)
 |some (.tree J)=>J
 |_=>[]
def fdE(es:List (Str×Int)):D:=.fdc (es.map λp=>(.inr p.1,.int p.2))
def tD(es:List (Str×Int)):pairsOf (es.map bZ)=some (es.map λp=>((.inr p.1:Sum Int Str),D.int p.2)):=by
 induction es with
 |nil=>rfl
 |cons p l ih=>show (pairsOf _).map _=_;rw[ih];rfl
abbrev uY(Φ:Fs)(c:Nat):Prop:=Has Φ "entries_by_name" [true,true] λJ=>∀(L:List Th) d o,qP L d o->((byN o).map (·.1)).Nodup->J [vt c L,d]=some (fdE (byN o))
def tE(V:qi Φ c)(U:gK Φ c)(L:List Th)(d:D)(o)(h:qP L d o)(nd:((byN o).map (·.1)).Nodup):ans Φ Γ (aQ c) [vt c L,d]=some (fdE (byN o)):=by
 obtain⟨Z,K,N⟩:=V;obtain⟨T,O,R⟩:=U;simp only[ans_e,aQ];cases o with
 |none=>cases h;simp[byN,fdE]
 |some t=>
  obtain⟨n,rfl,J⟩:=h;cases t with
  |blob t=>have q:=N 0 _ n bx _ (eJ J);simp[K,q,byN,fdE]
  |tree M=>
   have q:=N 0 _ n ao _ (eJ J);have Y:=R 0 _ n (M.map bZ) (eJ J);have W:putAll [] _=M.map λp=>(.inr p.1,D.int p.2):=dQ (acc:=[]) (by
    simp only[List.nil_append,List.map_map];erw[List.pairwise_map.mpr ((List.pairwise_map.mp nd).imp λz e=>z (Sum.inr.inj e))])
   simp[K,q,show ¬ (ao=bx) by decide,O,Y,byN,fdE,NT,tD,W]
def aP{n}(h:n<=9000):n<=big:=nt0 h @2
def lnF(x:Str):List Str:=(Txt.split x nl).dropLast.map (·++nl)++(if (Txt.split x nl).getLastD Str.empty=Str.empty then [] else [(Txt.split x nl).getLastD Str.empty])
def tF{x}{r}{t}(h:Txt.split x nl=r++[t]):lnF x=r.map (·++nl)++(if t=Str.empty then [] else [t]):=by
 unfold lnF;rw[h,List.dropLast_concat,List.getLastD_concat]
abbrev qQ(Φ:Fs):Prop:=Has Φ "lines_of" [true] λJ=>∀x:Str,x.length<=3000->J [.str x]=some (.list ((lnF x).map .str))
def oG(x:Str)(h:x.length<=3000):ans Φ Γ dF [.str x]=some (.list ((lnF x).map .str)):=by
 have W:=cL x;have Z:=split_le x;have Y:=du x;have N:x.length+2<=big:=aP @1;have O:=@tF x;simp only[ans_e,dF];simp[N,show (⟨#[10]⟩:Str)=nl from rfl];generalize Txt.split x nl=U at *;obtain⟨r,t,rfl⟩:=List.eq_nil_or_concat U|>.resolve_left Y
 rw[List.concat_eq_append]at *;rw[O rfl];have R:nl.length=1:=rfl;simp at W;have M:∀p∈r,p.length+nl.length<=big:=λp L=>aP @5
 have V:r.length<=big:=aP @1;have J:r.length<big:=Nat.lt_of_le_of_lt (by lia:_<=9000) @2;simp[R,V];rw[az (g:=λp=>D.str (p++nl)) λp L=>by have:=M p L;simp[bE,this]];have K:(⟨#[]⟩:Str)=Str.empty:=rfl
 by_cases e:t=Str.empty
 .simp[e,K,Function.comp_def]
 .simp[e,K,J,Function.comp_def]
def AI(t:Str):Txt.slice (t++nl) none (some (-1))=t:=by
 have L:(t++nl).length=t.length+1:=by rw[oX];rfl
 have J:(t++nl).cps.toList=t.cps.toList++[10]:=by rw[aT];rfl
 have K:t.cps.toList.length=t.length:=by rw[al0];rfl
 rw[PyProof.Rows.slice_to_neg @2,L,show max (0:Int) (((t.length+1:Nat):Int) + -1)=(t.length:Int) by grind];have:=eq_of_beq (PyProof.Rows.slice_closes_to (x:=t++nl) (j:=t.length) (by simp_all,by rw[J];simp[K];grind));rw[this,J]
 apply M1.ext
 simp[<-K]
def AJ(t:Str):t++nl=nl↔t=Str.empty:=by
 constructor
 .intro h
  have:=congrArg (λs:Str=>s.length) h;simp only[oX]at this;have J:t.length=0:=by simp_all
  apply M1.ext
  erw[ez0 (by rw[al0];exact J)]
 .rintro rfl;rfl
abbrev oH(Φ:Fs):Prop:=Has Φ "_law_lines" [true] λJ=>∀x:Str,x.length<=3000->J [.str x]=some (.list ((lnF x).map .str))
def tG(x:Str)(h:x.length<=3000):ans Φ Γ bN [.str x]=some (.list ((lnF x).map .str)):=by
 have Y:=cL x;have O:=split_le x;have Z:=du x;have U:x.length+2<=big:=aP @5;have V:=@tF x;simp only[ans_e,bN];simp[U,show (⟨#[10]⟩:Str).length=1 from rfl,show (⟨#[10]⟩:Str)=nl from rfl];generalize Txt.split x nl=W at *;obtain⟨r,t,rfl⟩:=List.eq_nil_or_concat W|>.resolve_left Z
 rw[List.concat_eq_append]at *;rw[V rfl];have M:nl.length=1:=rfl;simp at Y;have N:(r++[t]).length<=big:=aP (by simp;grind);simp[M,show r.length+1<=big by simpa using N];have R:∀p∈r++[t],p.length+nl.length<=big:=λp L=>aP (by have:=O p L;rw[M];grind)
 rw[show List.map D.str r++[D.str t]=(r++[t]).map .str by simp,az (g:=λp=>D.str (p++nl)) λp L=>by have:=R p L;simp[bE,this]];have F:=O t @0;have K:atI (r.map (λp=>D.str (p++nl))++[D.str (t++nl)]) (-1)=some (.str (t++nl)):=by rw[fX @0 .none];simp
 simp[K,xh]
 by_cases e:t=Str.empty
 .have J:=(AJ t).mpr e
  rw[if_pos e];simp[J,K,xh,Function.comp_def]
 .have J:¬ t++nl=nl:=λz=>e ((AJ t).mp z)
  have T:(t++nl).length<=big:=aP (by rw[oX,M];grind);simp[J,e,K,xh,T,AI,show r.length+1<=big by simpa using N,Function.comp_def]
end TX
namespace M3
open M2
variable [DecidableEq α]
noncomputable abbrev Tr:=Nat×Nat×Nat
noncomputable abbrev Pt(J:Type):=List J×List J×List J
noncomputable def cutN(xs:List α)(i j:Nat):List α:=(xs.drop i).take (j-i)
def fixed(P Q:List (Nat×Nat)):List Tr:=P.filterMap λp=>(Q.lookup p.1).map λv=>(p.1,p.2,v)
def cut3(B O T:List α)(s e:Tr):Pt α:=(cutN B s.1 e.1,cutN O s.2.1 e.2.1,cutN T s.2.2 e.2.2)
def next(s:Tr):Tr:=(s.1+1,s.2.1+1,s.2.2+1)
def parts(B O T:List α):Tr->List Tr->List (Pt α)
 |s,[]=>[cut3 B O T s (B.length,O.length,T.length)]
 |s,f::r=>cut3 B O T s f::cut3 B O T f (next f)::parts B O T (next f) r
def cut_one(xs){i}{x:α}(h:xs[i]?=some x):cutN xs i (i+1)=[x]:=by
 obtain⟨J,rfl⟩:=gi0 h;unfold cutN;rw[List.drop_eq_getElem_cons J,show i+1-i=1 by simp_all];rfl
inductive Up (B O T:List α):Tr->List Tr->Prop
 |nil {s:Tr}:s.1<=B.length->s.2.1<=O.length->s.2.2<=T.length->Up B O T s []
 |cons {s f:Tr}{r:List Tr}{x:α}:s.1<=f.1->s.2.1<=f.2.1->s.2.2<=f.2.2->B[f.1]?=some x->O[f.2.1]?=some x->T[f.2.2]?=some x->Up B O T (next f) r->Up B O T s (f::r)
def R2(x y:Nat×Nat):Prop:=x.1<y.1/\x.2<y.2
def R3(x y:Tr):Prop:=x.1<y.1/\x.2.1<y.2.1/\x.2.2<y.2.2
def Rising.pw{J K:List α}{i k}{P}(h:Rising J K i k P):P.Pairwise R2/\(∀p∈P,i<=p.1/\k<=p.2)/\∀p∈P,∃x,J[p.1]?=some x/\K[p.2]?=some x:=by
 induction h with
 |nil=>simp
 |@cons i k U V r x O R L M _ ih=>
  obtain⟨a,b,c⟩:=ih;refine(List.Pairwise.cons (λq N=>?_) a,λp hp=>?_,λp hp=>?_)
  .have:=b q N;exact(by grind,by grind)
  .grind
  .rcases mq0 hp with rfl|hp
   .exact(x,L,M)
   .erw[c p hp]
def pw_cmp{P:List (Nat×Nat)}(h:P.Pairwise R2):∀x∈P,∀y∈P,x=y\/R2 x y\/R2 y x:=by
 induction h with
 |nil=>simp
 |@cons a l J _ ih=>
  intro x L y K;rcases mq0 L with e|hx'
  .subst e
   rcases mq0 K with e|hy'
   .exact .inl e.symm
   .exact .inr (.inl (J y hy'))
  .rcases mq0 K with e|hy'
   .subst e;exact .inr (.inr (J x hx'))
   .erw[ih x hx' y hy']
def mem_of_lookup{Q:List (Nat×Nat)}{k v}(h:Q.lookup k=some v):(k,v)∈Q:=by
 induction Q with
 |nil=>cases h
 |cons q r ih=>
  obtain⟨a,b⟩:=q;rw[lk0]at h
  by_cases c:k=a
  .simp_all
  .have:(k==a)=false:=by simpa using c
   rw[this]at h;erw[mc0 _ (ih h)]
def kS{Q:List (Nat×Nat)}(h:Q.Pairwise R2){k v}(hm:(k,v)∈Q):Q.lookup k=some v:=by
 induction h with
 |nil=>cases hm
 |@cons a l K _ ih=>
  obtain⟨J,a2⟩:=a;rw[lk0];rcases mq0 hm with e|hm
  .simp_all
  .have:=(K _ hm).1
   have c:(k==J)=false:=by grind
   rw[c];erw[ih hm]
def iL{P Q}{f}(h:f∈fixed P Q):(f.1,f.2.1)∈P/\(f.1,f.2.2)∈Q:=by
 obtain⟨p,J,e⟩:=List.mem_filterMap.mp h;obtain⟨v,K,rfl⟩:=mx0 e;exact(J,mem_of_lookup K)
def ku{P Q}(L:P.Pairwise R2)(M:Q.Pairwise R2):(fixed P Q).Pairwise R3:=by
 unfold fixed;rw[List.pairwise_filterMap];refine L.imp λ{a R} h b N U J=>?_
 obtain⟨v,O,rfl⟩:=mx0 N;obtain⟨V,K,rfl⟩:=mx0 J;refine(h.1,h.2,?_);rcases pw_cmp M _ (mem_of_lookup O) _ (mem_of_lookup K)with e|e|e
 .have:=h.1;grind
 .erw[e.2]
 .have:=h.1;have:=e.1;grind
theorem EW{B O T:List α}:∀{F:List Tr}{s:Tr},F.Pairwise R3->s.1<=B.length->s.2.1<=O.length->s.2.2<=T.length->(∀f∈F,s.1<=f.1/\s.2.1<=f.2.1/\s.2.2<=f.2.2)->(∀f∈F,∃x,B[f.1]?=some x/\O[f.2.1]?=some x/\T[f.2.2]?=some x)->Up B O T s F
 |[],s,_,M,N,R,_,_=>.nil M N R
 |f::r,s,V,M,N,R,W,U=>by
  obtain⟨Y,p2⟩:=List.pairwise_cons.mp V;obtain⟨x,K,a2,L⟩:=U f ms0;obtain⟨Z,D,C⟩:=W f ms0;exact .cons Z D C K a2 L (EW p2 ((gi0 K).1) ((gi0 a2).1) ((gi0 L).1) (λg J=>by have:=Y g J;exact(this.1,this.2.1,this.2.2)) λg J=>U g (mc0 _ J))
def places(B O T:List α):List Tr:=fixed (walk 0 0 B O) (walk 0 0 B T)
def walk0(J K:List α):Rising J K 0 0 (walk 0 0 J K):=by
 have:=qM J K _ 0 0 (nr0 _)
 rwa [List.drop_zero,List.drop_zero]at this
def places_up(B O T:List α):Up B O T (0,0,0) (places B O T):=EW ((ku (Rising.pw (walk0 B O)).1 (Rising.pw (walk0 B T)).1)) (Nat.zero_le _) (Nat.zero_le _) (Nat.zero_le _) (λa a=>(Nat.zero_le _,Nat.zero_le _,Nat.zero_le _)) ((λf U=>by
  obtain⟨N,R⟩:=iL U;obtain⟨x,J,L⟩:=(Rising.pw (walk0 B O)).2.2 _ N;obtain⟨y,K,M⟩:=(Rising.pw (walk0 B T)).2.2 _ R;simp only at J L K M;rw[J]at K;cases K;exact(x,J,L,M)))
def partsOf(B O T:List α):List (Pt α):=parts B O T (0,0,0) (places B O T)
theorem parts_all{B O T:List α}{C:Tr->Prop}{D:Pt α->Prop}(J:∀s e,C s->C e->D (cut3 B O T s e))(L:∀f,C f->C (next f))(R:C (B.length,O.length,T.length)):∀{F:List Tr}{s:Tr},C s->(∀f∈F,C f)->∀p∈parts B O T s F,D p
 |[],s,M,_,p,hp=>by
  rw[show p=cut3 B O T s (B.length,O.length,T.length) by simpa [parts]using hp];erw[J _ _ M R]
 |f::r,s,M,N,p,hp=>by
  have K:=N f ms0;rcases mq0 (show p∈cut3 B O T s f::cut3 B O T f (next f)::parts B O T (next f) r from hp)with rfl|hp
  .erw[J _ _ M K]
  .rcases mq0 hp with rfl|hp
   .erw[J _ _ K (L f K)]
   .erw[parts_all J L R (L f K) (λg U=>N g (mc0 _ U)) p hp]
def both(p:Pt α):Bool:=decide (p.2.1≠p.1)&&(decide (p.2.2≠p.1)&&decide (p.2.2≠p.2.1))
variable [DecidableEq α]
def sw(f:Tr):Tr:=(f.1,f.2.2,f.2.1)
theorem qR:∀{K L:List Tr},K.Pairwise R3->L.Pairwise R3->(∀x,x∈K↔x∈L)->K=L
 |[],[],_,_,_=>rfl
 |[],b::r,_,_,h=>absurd ((h b).mpr ms0) @0
 |a::r,[],_,_,h=>absurd ((h a).mp ms0) @0
 |a::K,b::L,R,U,h=>by
  obtain⟨M,a2⟩:=List.pairwise_cons.mp R;obtain⟨N,O⟩:=List.pairwise_cons.mp U;have e:a=b:=by
   rcases mq0 ((h a).mp ms0)with e|e
   .erw[e]
   .rcases mq0 ((h b).mpr ms0)with e'|e'
    .erw[e'.symm]
    .have x:=(N a e).1
     have y:=(M b e').1
     lia
  subst e
  congr 1
  refine qR a2 O λx=>(λJ=>?_,λJ=>?_)
  .rcases mq0 ((h x).mp (mc0 _ J))with e|e
   .subst e;erw[absurd (M x J).1 (li0 _)]
   .erw[e]
  .rcases mq0 ((h x).mpr (mc0 _ J))with e|e
   .subst e;erw[absurd (N x J).1 (li0 _)]
   .erw[e]
def mM{P Q}(L:Q.Pairwise R2){f}(J:(f.1,f.2.1)∈P)(K:(f.1,f.2.2)∈Q):f∈fixed P Q:=
 List.mem_filterMap.mpr (_,J,by rw[kS L K];rfl)
def fixed_swap{P Q}(J:P.Pairwise R2)(K:Q.Pairwise R2):(fixed Q P).map sw=fixed P Q:=by
 refine qR ?_ (ku J K) λx=>(λL=>?_,λL=>?_)
 .rw[List.pairwise_map]
  exact (ku K J).imp λh=>(h.1,h.2.2,h.2.1)
 .obtain⟨y,M,rfl⟩:=mm0 L
  obtain⟨a,b⟩:=iL M;erw[mM K b a]
 .obtain⟨a,b⟩:=iL L
  erw[List.mem_map.mpr (sw x,mM J b a,rfl)]
end M3
namespace TX
open PySem SI M1 L2.Z
noncomputable def trD(f:M3.Tr):D:=.list [.int f.1,.int f.2.1,.int f.2.2]
def cH(p:M3.Pt Str):D:=.list [.list (p.1.map .str),.list (p.2.1.map .str),.list (p.2.2.map .str)]
def oI{α}(xs:List α)(i j:Nat):SI.cut xs (some (i:Int)) (some (j:Int))=M3.cutN xs i j:=by
 unfold SI.cut M3.cutN;have e:∀k d:Nat,sIx _ d (some k)=min k xs.length:=λk d=>rfl
 rw[e,e]
 by_cases J:i<=xs.length
 .rw[Nat.min_eq_left J]
  by_cases K:j<=xs.length
  .rw[Nat.min_eq_left K]
  .rw[Nat.min_eq_right @1,List.take_of_length_le @0,List.take_of_length_le (by simp;lia)]
 .rw[List.drop_eq_nil_of_le @1,List.drop_eq_nil_of_le @1];simp
def gR{α β}(f:α->β)(xs)(i j:Nat):M3.cutN (xs.map f) i j=(M3.cutN xs i j).map f:=by
 unfold M3.cutN;simp
abbrev Kx(Φ:Fs):Prop:=Has Φ "cut" [true,true,true] λJ=>∀(B O T:A1)(s e:M3.Tr),J [cH (B,O,T),trD s,trD e]=some (cH (M3.cut3 B O T s e))
def Ky{a b c d e f g h i}:gd 3 [[a,b,c],[d,e,f],[g,h,i]]=[.tuple [a,d,g],.tuple [b,e,h],.tuple [c,f,i]]:=rfl
def DL(B O T:A1)(s e):ans Φ Γ ur [cH (B,O,T),trD s,trD e]=some (cH (M3.cut3 B O T s e)):=by
 have J:3<=big:=by decide
 simp only[ans_e,ur];simp[cH,trD,ay,bE,oI,gR,M3.cut3,J,Ky]
theorem ky{f}{inj}{g}:∀{xs:List β},(∀x∈xs,f (inj x)=some (g x))->ay f (xs.map inj)=some (xs.filterMap g)
 |[],_=>rfl
 |x::r,h=>by
  rw[mk0,ay,h x ms0,List.filterMap_cons,ky λy J=>h y (mc0 _ J)];cases g x<;>rfl
def kvD(p:Nat×Nat):Sum Int Str×D:=(.inl p.1,.int p.2)
theorem eK:∀P:List (Nat×Nat),pairsOf (P.map prD)=some (P.map kvD)
 |[]=>rfl
 |p::r=>by
  show (pairsOf _).map _=_;rw[eK r];rfl
def AK{α}(acc)(k k')(v:α):look (put acc k v) k'=if k=k' then some v else look acc k':=by
 induction acc with
 |nil=>rfl
 |cons q r ih=>
  obtain⟨l,d⟩:=q;show look (if l=k then (l,v)::r else (l,d)::put r k v) k'=if k=k' then some v else (if l=k' then some d else look r k')
  by_cases c:l=k
  .subst c
   rw[if_pos rfl];show (if l=k' then some v else look r k')=_
   simp_all
  .rw[if_neg c]
   show (if l=k' then some d else look _ k')=_
   by_cases J:l=k'
   .subst J
    rw[if_pos rfl,if_pos rfl,if_neg (λe=>c e.symm)]
   simp_all
def iU{Q:List (Nat×Nat)}(h:Q.Pairwise M3.R2):∀(acc:List (Sum Int Str×D))(k:Nat),look (putAll acc (Q.map kvD)) (.inl (k:Int))=match Q.lookup k with
  |some v=>some (.int (v:Nat))
  |none=>look acc (.inl (k:Int)):=by
 induction h with
 |nil=>intro acc k;rfl
 |@cons q r L _ ih=>
  intro acc k;obtain⟨a,b⟩:=q;show look (putAll (put acc (.inl a) (.int b)) _) _=_;rw[ih,AK,lk0]
  by_cases c:k=a
  .subst c
   have:r.lookup k=none:=by
    cases e:r.lookup k with
    |none=>rfl
    |some v=>exact absurd (L _ (M3.mem_of_lookup e)).1 (li0 _)
   rw[this];simp
  .have J:(k==a)=false:=by simpa using c
   have K:¬ ((.inl a:Sum Int Str)=.inl k):=λz=>by
    grind
   rw[J,if_neg K]
abbrev uZ(Φ:Fs):Prop:=Has Φ "fixed_places" [true,true,true] λJ=>∀(B O T:A1),B.length<=1400->O.length<=1400->T.length<=1400->J [.list (B.map .str),.list (O.map .str),.list (T.map .str)]=some (.list ((M3.places B O T).map trD))
def oJ(J K:A1):(M2.walk 0 0 J K).length<=J.length:=by
 rw[M2.walk_length _ J K 0 0 (nr0 _)];exact (by
   induction J generalizing K with
   |nil=>rw[M2.lcs_nil_left];simp
   |cons a r ih=>have:=M2.lcs_left_le r K a;grind)
def tH(L:uU Φ)(B O T:A1)(K:B.length<=1400)(R:O.length<=1400)(U:T.length<=1400):ans Φ Γ bB [.list (B.map .str),.list (O.map .str),.list (T.map .str)]=some (.list ((M3.places B O T).map trD)):=by
 obtain⟨Y,N,M⟩:=L;have V:(M2.walk 0 0 B O).length<=big:=aP (by have:=oJ B O;lia);have W:=(M3.Rising.pw (M3.walk0 B T)).1;have e:(M3.places B O T).map trD=(M2.walk 0 0 B O).filterMap λp=>((M2.walk 0 0 B T).lookup p.1).map λv=>trD (p.1,p.2,v):=by
  unfold M3.places M3.fixed;rw[List.map_filterMap]
  congr 1
  funext p;rw[Option.map_map];rfl
 rw[e];have J:=iU W [];simp only[ans_e,bB];simp[N,M B T K U,M B O K R,eK,V];rw[ky (g:=λp=>((M2.walk 0 0 B T).lookup p.1).map λv=>trD (p.1,p.2,v))]
 .rfl
 intro p L;have J:=J p.1;cases q:(M2.walk 0 0 B T).lookup p.1 with
 |none=>
  rw[q]at J;simp[bE,prD,inD,J,q,look]
 |some v=>
  rw[q]at J;simp[bE,prD,inD,J,q,trD]
abbrev AL(Φ:Fs):Prop:=Has Φ "parts_of" [true] λJ=>∀(B O T:A1),B.length<=1400->O.length<=1400->T.length<=1400->J [cH (B,O,T)]=some (.list ((M3.partsOf B O T).map cH))
def places_len(B O T:A1):(M3.places B O T).length<=B.length:=by
 have J:(M3.places B O T).length<=(M2.walk 0 0 B O).length:=List.length_filterMap_le _ _;have:=oJ B O;erw[nt0 ‹_› ‹_›]
def Bo(A:uZ Φ)(hc:Kx Φ)(B O T:A1)(I:B.length<=1400)(E:O.length<=1400)(X:T.length<=1400):ans Φ Γ dG [cH (B,O,T)]=some (.list ((M3.partsOf B O T).map cH)):=by
 obtain⟨m,S,y⟩:=A;obtain⟨l,W,p2⟩:=hc;have H:=places_len B O T;have u:=y B O T I E X;have three:(3:Nat)<=big:=by decide
 have L:=p2 B O T;generalize K:cH (B,O,T)=R at L;have Y:jC R (.int 0)=some (.list (B.map .str)):=by rw[<-K];rfl
 have Z:jC R (.int 1)=some (.list (O.map .str)):=by rw[<-K];rfl
 have a2:jC R (.int 2)=some (.list (T.map .str)):=by rw[<-K];rfl
 have C:ig R=some [.list (B.map .str),.list (O.map .str),.list (T.map .str)]:=by rw[<-K];rfl
 have G:D.list [.int B.length,.int O.length,.int T.length]=trD (B.length,O.length,T.length):=rfl;have v:D.list [.int 0,.int 0,.int 0]=trD (0,0,0):=rfl;simp only[ans_e,dG];simp[S,u,Y,Z,a2,C,three,ay,bE];unfold M3.partsOf;generalize M3.places B O T=F at H;rw[G,v];refine gP (inj:=trD) (F:=λs:Sl×List (M3.Pt Str)×M3.Tr=>[.lent R,.own (.list (s.2.1.map cH)),.dat (trD s.2.2),.dat (trD (B.length,O.length,T.length)),s.1]) (s:=(.no,[],(0,0,0))) (J:=λq s=>s.2.1++M3.parts B O T s.2.2 q=M3.parts B O T (0,0,0) F/\s.2.1.length+2*q.length=2*F.length) (P:=λo=>cJ .pure (nxS Φ Γ o _)=_) (λs U=>?_) (λf q s U=>?_) (rfl,by simp)
 .obtain⟨g,done,s⟩:=s
  obtain⟨M,V⟩:=U;simp at V M;have N:done.length<big:=Nat.lt_of_le_of_lt (show _<=9000 by lia) @2;rw[<-M];simp[W,L,N,M3.parts]
 .obtain⟨g,done,s⟩:=s
  obtain⟨M,V⟩:=U;simp at V M;have N:done.length<big:=Nat.lt_of_le_of_lt (show _<=9000 by lia) @2;have Q:done.length+1<big:=Nat.lt_of_le_of_lt (show _<=9000 by lia) @2;have j:ig (trD f)=some [.int f.1,.int f.2.1,.int f.2.2]:=rfl;have z:D.list [.int (f.1+1),.int (f.2.1+1),.int (f.2.2+1)]=trD (M3.next f):=rfl;refine((.dat (trD f),done++[M3.cut3 B O T s f,M3.cut3 B O T f (M3.next f)],M3.next f),(by rw[<-M];simp[M3.parts],by simp;lia),?_);simp[W,L,N,Q,j,ay,bE,three,z]
noncomputable def om:Str:=⟨#[60,60,60,60,60,60,60,10]⟩
noncomputable def mm:Str:=⟨#[61,61,61,61,61,61,61,10]⟩
noncomputable def tm:Str:=⟨#[62,62,62,62,62,62,62,10]⟩
structure Kz(Γ:List (Str×D)):Prop where
 o:Γ.lookup ("OURS_MARK":Str)=some (D.str om)
 m:Γ.lookup ("MIDDLE_MARK":Str)=some (D.str mm)
 t:Γ.lookup ("THEIRS_MARK":Str)=some (D.str tm)
def clo(l:Str):Str:=if Txt.endswith l nl then l else l++nl
def closedF(J:A1):List Str:=J.map clo
def au(p:M3.Pt Str):List Str:=if M3.both p then [om]++closedF p.2.1++[mm]++closedF p.2.2++[tm] else if p.2.1=p.1 then p.2.2 else p.2.1
noncomputable def gT(b o t:D):Bool:=decide (o≠b)&&(decide (t≠b)&&decide (t≠o))
abbrev vd(Φ:Fs):Prop:=Has Φ "both_changed" [true,true,true] λJ=>∀b o t:D,okS 20 b=true->okS 20 o=true->okS 20 t=true->J [b,o,t]=some (.bool (gT b o t))
def AM(b o t:D)(L:okS 20 b=true)(J:okS 20 o=true)(K:okS 20 t=true):ans Φ Γ bC [b,o,t]=some (.bool (gT b o t)):=by
 simp only[ans_e,bC]
 by_cases M:o=b
 .subst M;simp[da J J,gT]
 .by_cases N:t=b
  .subst N;simp[da J K,da K K,gT]
  .simp[da J L,da K L,da K J,gT]
abbrev AN(Φ:Fs):Prop:=Has Φ "changed_side" [false,false,false] λJ=>∀b o t:D,okS 20 b=true->okS 20 o=true->J [b,o,t]=some (if o=b then t else o)
def AO(b o t:D)(J:okS 20 b=true)(L:okS 20 o=true):ans Φ Γ bD [b,o,t]=some (if o=b then t else o):=by
 simp only[ans_e,bD]
 by_cases K:o=b
 .simp[da J J,K]
 .simp[da L J,K]
def bU(l:A1):okS 20 (.list (l.map .str))=true:=by simp[okS]
def strs_eq{a b:A1}:D.list (a.map .str)=.list (b.map .str)↔a=b:=(λh=>(List.map_inj_right λc c q=>D.str.inj q).mp (D.list.inj h),λh=>by rw[h])
def mN(b o t):gT (.list (b.map .str)) (.list (o.map .str)) (.list (t.map .str))=M3.both (b,o,t):=by
 unfold gT M3.both;simp[strs_eq,-D.list.injEq]
abbrev ve(Φ:Fs):Prop:=Has Φ "closed" [true] λK=>∀(J:A1),J.length<=1400->(∀x∈J,x.length<=1400)->K [.list (J.map .str)]=some (.list ((closedF J).map .str))
def tI(J:A1)(O:J.length<=1400)(L:∀x∈J,x.length<=1400):ans Φ Γ gz [.list (J.map .str)]=some (.list ((closedF J).map .str)):=by
 have N:J.length<=big:=aP @5;simp only[ans_e,gz];simp[N];rw[az (g:=λx=>D.str (clo x))]
 .simp[closedF]
 .intro x M
  have K:x.length+nl.length<=big:=aP (by have:=L x M;show x.length+1<=_;grind)
  by_cases c:Txt.endswith x nl=true
  .simp[bE,show (⟨#[10]⟩:Str)=nl from rfl,K,c,clo]
  .simp[bE,show (⟨#[10]⟩:Str)=nl from rfl,K,c,clo]
structure Fit(ls:A1):Prop where
 many:ls.length<=1310
 sum:(ls.map (·.length)).sum<=1310
def HS :∀x∈ls,x.length<=(ls.map (·.length)).sum:=by
 induction ls<;>grind
def Fit.short(h:Fit ls):∀x∈ls,x.length<=1400:=λx J=>by have:=HS x J;have:=h.sum;grind
abbrev qS(Φ:Fs):Prop:=Has Φ "settled" [false,false,false] λJ=>∀(p:M3.Pt Str),Fit p.2.1->Fit p.2.2->J [.list (p.1.map .str),.list (p.2.1.map .str),.list (p.2.2.map .str)]=some (.list ((au p).map .str))
def qT(g:Kz Γ)(Y:vd Φ)(hc:ve Φ)(hs:AN Φ)(p:M3.Pt Str)(N:Fit p.2.1)(O:Fit p.2.2):
  ans Φ Γ eW [.list (p.1.map .str),.list (p.2.1.map .str),.list (p.2.2.map .str)]=some (.list ((au p).map .str)):=by
 obtain⟨b,o,t⟩:=p;obtain⟨q,K,F⟩:=Y;obtain⟨u,W,p2⟩:=hc;obtain⟨f,M,p3⟩:=hs;have j:o.length<=1310:=N.many;have y:t.length<=1310:=O.many;have R:=p2 o @1 N.short;have U:=p2 t @1 O.short;have Z:(closedF o).length=o.length:=by unfold closedF;simp
 have T:(closedF t).length=t.length:=by unfold closedF;simp
 have J:=F _ _ _ (bU b) (bU o) (bU t);rw[mN]at J;have L:=p3 _ _ (.list (t.map .str)) (bU b) (bU o);simp only[ans_e,eW];unfold au;cases h:M3.both (b,o,t)with
 |false=>
  by_cases e:o=b
  .subst e
   simp[K,J,h,M,L]
  .have V:¬ (D.list (o.map .str)=.list (b.map .str)):=λz=>e (strs_eq.mp z)
   rw[if_neg V]at L;simp[K,J,h,M,L,e]
 |true=>
  have E:1+o.length<=big:=aP @1;have X:1+o.length+1<=big:=aP @1;have H:1+o.length+1+t.length<=big:=aP @1;have A:1+o.length+1+t.length+1<=big:=aP @1;have Q:o.length+1<=big:=aP @1;have S:o.length+1+1<=big:=aP @1;have I:o.length+1+1+t.length<=big:=aP @1;have P:o.length+(t.length+1)+1+1<=big:=aP @1;have G:o.length+(t.length+1+1)+1<=big:=aP @1;have B:o.length+(t.length+1+1+1)<=big:=aP @1;have C:o.length+(t.length+1+1)<=big:=aP @1;simp[K,J,h,W,R,U,g.o,g.m,g.t,Z,T,E,X,H,A,Q,S,I,P,G,B,C]
def mergedF(B O T:A1):List Str:=(M3.partsOf B O T).flatMap au
noncomputable def confF(B O T:A1):Nat:=(M3.partsOf B O T).countP M3.both
def AQ(xs:List Nat)(i:Nat):(xs.drop i).sum<=xs.sum:=by
 have:=congrArg List.sum (List.take_append_drop i xs)
 grind
def AR(xs:List Nat)(i:Nat):(xs.take i).sum<=xs.sum:=by
 have:=congrArg List.sum (List.take_append_drop i xs)
 grind
def aV(h:Fit ls)(i j:Nat):Fit (M3.cutN ls i j):=(nt0 ((by
  unfold M3.cutN
  grind)) h.many,by
 rw[<-gR];erw[nt0 (nt0 (AR _ _) (AQ _ _)) h.sum])
theorem eM(B O T:A1):∀(F:List M3.Tr)(s:M3.Tr),(M3.parts B O T s F).length=2*F.length+1
 |[],s=>rfl
 |f::r,s=>by
  show (M3.parts B O T (M3.next f) r).length+1+1=2*(r.length+1)+1;rw[eM B O T r];grind
def DM(l:Str):(clo l).length<=l.length+1:=by
 unfold clo;split
 .simp_all
 .rw[Str.length_append];erw[nr0 _]
def kz(J:A1):((closedF J).map (·.length)).sum<=(J.map (·.length)).sum+J.length:=by
 induction J with
 |nil=>exact nr0 _
 |cons a r ih=>
  show (clo a).length+((closedF r).map (·.length)).sum<=a.length+(r.map (·.length)).sum+(r.length+1);have:=DM a
  grind
def qU{p}(J:Fit p.2.1)(K:Fit p.2.2):(au p).length<=2623/\((au p).map (·.length)).sum<=5264:=by
 have L:(closedF p.2.1).length=p.2.1.length:=by unfold closedF;simp
 have M:(closedF p.2.2).length=p.2.2.length:=by unfold closedF;simp
 have m1:=J.many;have m2:=K.many;have W:=J.sum;have Y:=K.sum;have U:=kz p.2.1;have V:=kz p.2.2;have N:om.length=8:=rfl;have O:mm.length=8:=rfl;have R:tm.length=8:=rfl;unfold au;split
 .simp only[la0,lc0,List.length_nil,L,M,List.map_append,List.sum_append,mk0,List.map_nil,List.sum_cons,List.sum_nil]
  grind
 .split<;>grind
def vg :ls.length*Str.empty.length=0:=rfl
noncomputable abbrev J(K:A1):Str:=Txt.join Str.empty K
theorem qV:∀J:List Str,J≠[]->(Str.join nl J).length+1=(J.map (·.length)).sum+J.length
 |[],h=>absurd rfl h
 |[y],_=>rfl
 |y::z::q,_=>by
  have e:(Str.join nl (y::z::q)).length=y.length+1+(Str.join nl (z::q)).length:=by
   show (y++nl++Str.join nl _).length=_;rw[Str.length_append,Str.length_append];rfl
  have:=qV (z::q) @0
  grind
def HU(x:Str):((lnF x).map (·.length)).sum<=x.length/\(lnF x).length<=x.length+1:=by
 have M:=cL x;have J:=qV _ (du x);rw[show Str.join nl (Txt.split x nl)=x from StrLaws.join_split x nl]at J;have N:=du x;have K:=@tF x;generalize Txt.split x nl=L at *;obtain⟨r,t,rfl⟩:=List.eq_nil_or_concat L|>.resolve_left N
 rw[List.concat_eq_append]at *;rw[K rfl];have k:∀r:List Str,((r.map (·++nl)).map (·.length)).sum=(r.map (·.length)).sum+r.length:=λr=>by
  induction r with
  |nil=>rfl
  |cons a r ih=>
   rw[mk0,mk0,List.sum_cons,ih,Str.length_append,mk0,List.sum_cons,lc0];show a.length+1+_=_
   grind
 have O:Str.empty.length=0:=rfl;simp at M J;split
 .rw[List.append_nil,k,lm0];grind
 .rw[List.map_append,List.sum_append,k,la0,lm0]
  simp;grind
def fP{x}(h:x.length<=1300):Fit (lnF x):=by
 have:=HU x;exact(by grind,by grind)
abbrev vh(Φ:Fs):Prop:=Has Φ "merged_text" [true,true,true] λK=>∀(x y z:Str),x.length<=1300->y.length<=1300->z.length<=1300->
 K [.str x,.str y,.str z]=some (.tuple [.str (J (mergedF (lnF x) (lnF y) (lnF z))),.int (confF (lnF x) (lnF y) (lnF z):Nat)])
def tJ(m:qQ Φ)(l:AL Φ)(v:vd Φ)(hs:qS Φ)(x y z:Str)(k:x.length<=1300)(t:y.length<=1300)(r:z.length<=1300):
  ans Φ Γ bR [.str x,.str y,.str z]=some (.tuple [.str (J (mergedF (lnF x) (lnF y) (lnF z))),.int (confF (lnF x) (lnF y) (lnF z):Nat)]):=by
 obtain⟨r1,j,D⟩:=m;obtain⟨r2,u,p2⟩:=l;obtain⟨r3,C,p3⟩:=v;obtain⟨r4,Q,p4⟩:=hs;have c:=D x @5;have b:=D y @5;have i:=D z @1;have f:=fP k;have I:=fP t;have E:=fP r;unfold mergedF confF;generalize lnF x=B at *;generalize lnF y=O at *;generalize lnF z=T at *;have mB:=f.many;have mO:=I.many;have mT:=E.many;have U:=p2 B O T @1 @1 @1;unfold cH at U;simp only[]at U;have L:=(show ∀p∈M3.partsOf B O T,Fit p.2.1/\Fit p.2.2 from M3.parts_all (λs e a a=>(aV I _ _,aV E _ _)) (λa a=>trivial) trivial trivial λa a=>trivial)
 have V:(M3.partsOf B O T).length<=2621:=by
  unfold M3.partsOf;rw[eM];have:=places_len B O T
  lia
 generalize M3.partsOf B O T=H at U L V;simp only[ans_e,bR];simp[j,c,b,i,u,U];refine gP (inj:=cH) (F:=λs:List Str×Nat×Sl×Sl×Sl=>[.lent (.str x),.lent (.str y),.lent (.str z),.own (.list (s.1.map .str)),.dat (.int (s.2.1:Nat)),s.2.2.1,s.2.2.2.1,s.2.2.2.2]) (s:=([],0,.no,.no,.no)) (J:=λq s=>(∀p∈q,Fit p.2.1/\Fit p.2.2)/\s.1++q.flatMap au=H.flatMap au/\s.2.1+q.countP M3.both=H.countP M3.both/\s.1.length+2623*q.length<=2623*2621/\(s.1.map (·.length)).sum+5264*q.length<=5264*2621) (P:=λo=>cJ .pure (nxS Φ Γ o _)=_) (λs Z=>?_) (λp q s Z=>?_) (L,rfl,by simp,by simp;lia,by simp;lia)
 .obtain⟨K,n,s5,s6,s7⟩:=s
  obtain⟨_,M,R,W,Y⟩:=Z;simp at M R W Y;rw[<-M,<-R];have sb:(K.map (·.length)).sum+K.length*Str.empty.length<=big:=by rw[vg];unfold big;lia
  have g:(⟨#[]⟩:Str)=Str.empty:=rfl;simp[aE,g,sb]
 .obtain⟨K,n,s5,s6,s7⟩:=s
  obtain⟨X,M,R,W,Y⟩:=Z;obtain⟨S,G⟩:=X p ms0;have A:=p4 p S G;obtain⟨g1,g2⟩:=qU S G;have N:=p3 _ _ _ (bU p.1) (bU p.2.1) (bU p.2.2);rw[mN]at N;simp only[lc0,List.flatMap_cons,List.countP_cons]at M R W Y;have nb:K.length+(au p).length<=big:=by unfold big;lia
  refine((K++au p,n+(if M3.both p then 1 else 0),.dat (.list (p.1.map .str)),.dat (.list (p.2.1.map .str)),.dat (.list (p.2.2.map .str))),(λd h=>X d (mc0 _ h),by rw[<-M,List.append_assoc],by dsimp only;lia,by dsimp only;rw[la0];lia,by dsimp only;rw[List.map_append,List.sum_append];lia),?_);cases h:M3.both p with
  |true=>
   rw[h]at N;simp[cH,C,N,Q,A,nb]
  |false=>
   rw[h]at N;simp[cH,C,N,Q,A,nb]
def vi{x}{L}{c}(h:x.cps.toList=L++[c]):Txt.endswith x nl=decide (c=10):=by
 have K:x.length=L.length+1:=by show x.cps.size=_;rw[<-al0,h];simp
 have M:x.cps.extract L.length (L.length+1)=#[c]:=by
  apply Array.toList_inj.mp
  rw[Array.toList_extract,h];simp
 show (decide (0+1<=x.length)&&(x.cps.extract (x.length-1) (x.length-1+1)==#[10]))=_;rw[K,show L.length+1-1=L.length by simp_all,M]
 by_cases J:c=10<;>simp[J]
def tK{x}{L}{c}(h:x.cps.toList=L++[c]):Txt.slice x (some (-1)) none=⟨#[c]⟩:=by
 have J:x.length=L.length+1:=by show x.cps.size=_;rw[<-al0,h];simp
 rw[PyProof.Rows.slice_from_neg @2,J,show max (0:Int) (((L.length+1:Nat):Int) + -1)=(L.length:Int) by grind];have:=eq_of_beq (PyProof.Rows.slice_closes_from (x:=x) (i:=L.length) (by simp_all,by rw[h];simp;grind));rw[this,h];simp
def qW(a b):J (a++b)=J a++J b:=by
 apply M1.ext
 rw[aT,dI,dI,dI,List.map_append,List.flatten_append]
def qX(x:Str):J [x]=x:=rfl
def KA:J []=Str.empty:=rfl
def fQ(x:Str):Str:=if x≠Str.empty/\Txt.slice x (some (-1)) none≠nl then nl else Str.empty
inductive Lns:List Str->Prop
 |nil:Lns []
 |one {l:Str}:l≠Str.empty->Lns [l]
 |cons {l:Str}{r:A1}:Txt.endswith l nl=true->Lns r->Lns (l::r)
def vj{l}(h:l≠Str.empty)(p:Str):clo l=l++fQ (p++l):=by
 obtain⟨L,c,e⟩:=(show ∃L c,l.cps.toList=L++[c] by
   have N:l.cps.toList≠[]:=λe=>h (M1.ext (by rw[e];rfl))
   exact(_,_,(List.dropLast_concat_getLast N).symm))
 have J:(p++l).cps.toList=(p.cps.toList++L)++[c]:=by rw[aT,e,List.append_assoc]
 have ne:p++l≠Str.empty:=λz=>by
  have:(p++l).cps.toList=[]:=by rw[z];rfl
  rw[J]at this;simp at this
 have M:l++Str.empty=l:=M1.ext (rfl);unfold clo fQ;rw[vi e,tK J]
 by_cases K:c=10
 .subst K
  rw[if_pos @0,if_neg (λz=>z.2 rfl),M]
 .have nz:⟨#[c]⟩≠nl:=λz=>K (by
   have:(⟨#[c]⟩:Str).cps=nl.cps:=by rw[z]
   have:#[c]=#[10]:=this
   simpa using this)
  simp_all
def ff(a b c:Str):a++b++c=a++(b++c):=M1.ext (by simp[aT])
def xt(a:Str):a++Str.empty=a:=M1.ext (rfl)
def empty_app(a:Str):Str.empty++a=a:=M1.ext (by rw[aT];rfl)
def yR(h:Lns ls):∀p:Str,J (closedF ls)=J ls++(if ls=[] then Str.empty else fQ (p++J ls)):=by
 induction h with
 |nil=>intro p;rfl
 |@one l K=>
  intro p;rw[if_neg @0];show J [clo l]=_;rw[qX,qX,vj K p]
 |@cons l r K O ih=>
  intro p;rw[if_neg @0];show J ([clo l]++closedF r)=_;have L:clo l=l:=by unfold clo;rw[if_pos K]
  rw[qW,qX,L,ih (p++l)];have N:J (l::r)=l++J r:=by rw[show l::r=[l]++r from rfl,qW,qX]
  rw[N]
  by_cases M:r=[]
  .subst M
   have:=vj ((λe=>by subst e;exact absurd K @2:l≠Str.empty)) p
   rwa [L]at this
  .rw[if_neg M,ff,ff]
def IR:fQ Str.empty=Str.empty:=if_neg λz=>z.1 rfl
def qY(h:Lns ls):J (closedF ls)=J ls++fQ (J ls):=by
 rw[yR h _,empty_app]
 by_cases K:ls=[]
 .subst K;rfl
 .rw[if_neg K]
def cN(p:M3.Pt Str):Str:=if M3.both p then om++J p.2.1++fQ (J p.2.1)++mm++J p.2.2++fQ (J p.2.2)++tm else if p.2.1=p.1 then J p.2.2 else J p.2.1
def mP{p}(K:Lns p.2.1)(L:Lns p.2.2):J (au p)=cN p:=by
 unfold au cN;split
 .simp only[qW,qX,qY K,qY L,ff]
 .split<;>rfl
def fh(h:Fit ls):(J ls).length<=1310:=nt0 (ka ls) h.sum
def gU(h:Fit ls):(ls.map (·.length)).sum+ls.length*Str.empty.length<=big:=by
 rw[vg];erw[aP (by have:=h.sum;grind)]
def jq(x:Str):(fQ x).length<=1:=by
 unfold fQ;split
 .erw[nr0 _]
 .erw[Nat.zero_le _]
abbrev fixE:E:=.idx (.lst (.cons @10 (.cons (.k (.str ⟨#[10]⟩)) .nil))) (.bi .int (.cons (.and (.cmp .ne (.v 6) @10) (.cmp .ne (.sl (.v 6) (.cons (.neg ↑1) .nil) .nil) (.k (.str ⟨#[10]⟩)))) .nil))
abbrev gW:Ss:=.cons (.set 6 (.me .join @10 (.cons (.v 4) .nil))) (.cons (.set 3 (.op .add (.op .add (.op .add (.v 3) (.v 6)) fixE) (.v 5))) .nil)
def mQ{d0 d1 d2 s6}{f mk}{row}(V:Fit row)(D:f.length<=7000)(B:mk.length<=10):
  exs Φ Γ [d0,d1,d2,.dat (.str f),.dat (.list (row.map .str)),.dat (.str mk),s6] gW=some (.nx [d0,d1,d2,.dat (.str (f++J row++fQ (J row)++mk)),.dat (.list (row.map .str)),.dat (.str mk),.dat (.str (J row))]):=by
 have Z:=gU V;have T:=fh V;have F:=jq (J row);have M:(J row).length<=big:=aP @5;have a2:f.length+(J row).length<=big:=aP @5;have W:(f++J row).length+(fQ (J row)).length<=big:=aP (by rw[Str.length_append];grind);have Y:(f++J row++fQ (J row)).length+mk.length<=big:=aP (by rw[Str.length_append,Str.length_append];grind);have L:(⟨#[]⟩:Str)=Str.empty:=rfl;have U:(⟨#[10]⟩:Str)=nl:=rfl;have K:ev Φ Γ .read [d0,d1,d2,.dat (.str f),.dat (.list (row.map .str)),.dat (.str mk),.dat (.str (J row))] fixE=some (.str (fQ (J row))):=by
  generalize J row=x at M;unfold fQ fixE
  by_cases N:x=Str.empty
  .simp[L,N]
  .by_cases R:Txt.slice x (some (-1)) none=nl
   .simp[L,U,N,R,M]
   .simp[L,U,N,R,M]
 unfold gW;generalize fixE=fE at K ⊢;have O:=aE row;simp[O,L,Z,K,a2,W,Y]
abbrev AS(Φ:Fs):Prop:=Has Φ "_law_part" [false,false,false] λJ=>∀(p:M3.Pt Str),Fit p.2.1->Fit p.2.2->J [.list (p.1.map .str),.list (p.2.1.map .str),.list (p.2.2.map .str)]=some (.tuple [.str (cN p),.int (if M3.both p then 1 else 0)])
def gX(a b:A1):eqD (.list (a.map .str)) (.list (b.map .str))=some (decide (a=b)):=by
 rw[da (bU a) (bU b)]
 congr 1
 erw[decide_eq_decide.mpr strs_eq]
def AU(p:M3.Pt Str)(L:Fit p.2.1)(O:Fit p.2.2):ans Φ Γ gG [.list (p.1.map .str),.list (p.2.1.map .str),.list (p.2.2.map .str)]=some (.tuple [.str (cN p),.int (if M3.both p then 1 else 0)]):=by
 obtain⟨b,o,t⟩:=p;have L:Fit o:=L;have O:Fit t:=O;have V:=gU L;have T:=gU O;have U:(⟨#[]⟩:Str)=Str.empty:=rfl;simp only[ans_e,gG];unfold cN
 by_cases K:o=b
 .have nb:M3.both (b,o,t)=false:=by unfold M3.both;simp[K]
  rw[nb];simp[gX,K,aE,U,T]
 .by_cases M:t=b
  .have nb:M3.both (b,o,t)=false:=by unfold M3.both;simp[M]
   rw[nb];simp[gX,K,M,aE,U,V]
  .by_cases R:t=o
   .have nb:M3.both (b,o,t)=false:=by unfold M3.both;simp[R]
    rw[nb];simp[gX,K,M,R,aE,U,V]
   .have nb:M3.both (b,o,t)=true:=by unfold M3.both;simp[K,M,R]
    rw[nb];have F:=fh L;have D:=jq (J o);have W:=mQ (Φ:=Φ) (Γ:=Γ) (d0:=.dat (.list (b.map .str))) (d1:=.dat (.list (o.map .str))) (d2:=.dat (.list (t.map .str))) (s6:=.no) (f:=om) (mk:=mm) L @2 @2;have Y:=mQ (Φ:=Φ) (Γ:=Γ) (d0:=.dat (.list (b.map .str))) (d1:=.dat (.list (o.map .str))) (d2:=.dat (.list (t.map .str))) (s6:=.dat (.str (J o))) (f:=om++J o++fQ (J o)++mm) (mk:=tm) O (by rw[Str.length_append,Str.length_append,Str.length_append];show 8+_+_+8<=_;lia) @2;generalize Z:gW=B at W Y;have N:=Z;unfold gW fixE at N
    simp only[N,show (⟨#[60,60,60,60,60,60,60,10]⟩:Str)=om from rfl,show (⟨#[61,61,61,61,61,61,61,10]⟩:Str)=mm from rfl,show (⟨#[62,62,62,62,62,62,62,10]⟩:Str)=tm from rfl];simp[gX,K,M,R,xf,forL,W,Y]
theorem Lns.drop{ls}(h:Lns ls):∀n,Lns (ls.drop n):=by
 induction h with
 |nil=>intro n;rw[List.drop_nil];exact .nil
 |one J=>intro n;cases n with
  |zero=>exact .one J
  |succ n=>rw[List.drop_succ_cons,List.drop_nil];exact .nil
 |cons J K ih=>intro n;cases n with
  |zero=>exact .cons J K
  |succ n=>simp_all
theorem Lns.take{ls}(h:Lns ls):∀n,Lns (ls.take n):=by
 induction h with
 |nil=>intro n;rw[List.take_nil];exact .nil
 |one J=>intro n;cases n with
  |zero=>exact .nil
  |succ n=>rw[List.take_succ_cons,List.take_nil];exact .one J
 |cons J K ih=>intro n;cases n with
  |zero=>exact .nil
  |succ n=>exact .cons J (ih n)
theorem Lns.cutN{ls}(h:Lns ls)(i j:Nat):Lns (M3.cutN ls i j):=(h.drop i).take _
def DN(J:A1){r}(h:Lns r):Lns (J.map (·++nl)++r):=by
 induction J with
 |nil=>exact h
 |cons x q ih=>exact .cons ((by rw[vi (by rw[aT];rfl)];rfl)) ih
set_option tactic.hygienic true in
def AV(x:Str):Lns (lnF x):=by
 refine DN _ ?_;split
 .exact .nil
 .rename_i h;exact .one h
def mR{p}(K:Fit p.2.1)(L:Fit p.2.2):(cN p).length<=2646:=by
 have a:=fh K;have b:=fh L;have c:=jq (J p.2.1);have d:=jq (J p.2.2);have M:om.length=8:=rfl;have N:mm.length=8:=rfl;have O:tm.length=8:=rfl;unfold cN;split
 .simp only[Str.length_append];grind
 .split<;>grind
noncomputable def tupD(f:M3.Tr):D:=.tuple [.int f.1,.int f.2.1,.int f.2.2]
abbrev AW:Ss:=(.cons (.set 9 (.call "_law_part" (.cons (.sl (.v 0) (.cons (.idx (.v 7) ↑0) .nil) (.cons (.idx (.v 8) ↑0) .nil)) (.cons (.sl (.v 1) (.cons (.idx (.v 7) ↑1) .nil) (.cons (.idx (.v 8) ↑1) .nil)) (.cons (.sl (.v 2) (.cons (.idx (.v 7) ↑2) .nil) (.cons (.idx (.v 8) ↑2) .nil)) .nil))))) (.cons (.set 5 (.op .add (.op .add (.v 5) (.idx (.v 9) ↑0)) (.me .join @10 (.cons (.sl (.v 0) (.cons (.idx (.v 8) ↑0) .nil) (.cons (.op .add (.idx (.v 8) ↑0) ↑1) .nil)) .nil)))) (.cons (.set 6 (.op .add (.v 6) (.idx (.v 9) ↑1))) (.cons (.set 7 (.tup (.cons (.op .add (.idx (.v 8) ↑0) ↑1) (.cons (.op .add (.idx (.v 8) ↑1) ↑1) (.cons (.op .add (.idx (.v 8) ↑2) ↑1) .nil))))) .nil))))
def xu(Q:AS Φ){B O T}(R:Fit B)(U:Fit O)(V:Fit T){s3 s4 s9}{x}{n}{s f}(E:x.length<=10000000):
  exs Φ Γ [.lent (.list (B.map .str)),.lent (.list (O.map .str)),.lent (.list (T.map .str)),s3,s4,.dat (.str x),.dat (.int n),.dat (tupD s),.dat (tupD f),s9] AW =
   some (.nx [.lent (.list (B.map .str)),.lent (.list (O.map .str)),.lent (.list (T.map .str)),s3,s4,.dat (.str (x++cN (M3.cut3 B O T s f)++J (M3.cutN B f.1 (f.1+1)))),.dat (.int (n+if M3.both (M3.cut3 B O T s f)then 1 else 0)),.dat (tupD (M3.next f)),.dat (tupD f),.dat (.tuple [.str (cN (M3.cut3 B O T s f)),.int (if M3.both (M3.cut3 B O T s f)then 1 else 0)])]):=by
 obtain⟨I,Y,S⟩:=Q;have q:=S (M3.cut3 B O T s f) (aV U _ _) (aV V _ _);have X:=mR (p:=M3.cut3 B O T s f) (aV U _ _) (aV V _ _);have H:=fh (aV R f.1 (f.1+1));have l3:=gU (aV R f.1 (f.1+1));have L:x.length+(cN (M3.cut3 B O T s f)).length<=big:=by unfold big;grind
 have M:(x++cN (M3.cut3 B O T s f)).length+(J (M3.cutN B f.1 (f.1+1))).length<=big:=by rw[Str.length_append];unfold big;grind
 have Z:(⟨#[]⟩:Str)=Str.empty:=rfl;have W:∀(K:A1)(i:Nat),SI.cut (K.map D.str) (some (i:Int)) (some ((i:Int)+1))=(M3.cutN K i (i+1)).map D.str:=λK i=>by
  have:=oI (K.map D.str) i (i+1);rw[Int.natCast_succ]at this;rw[this,gR]
 unfold M3.cut3 at q;simp only[]at q;generalize C:cN (M3.cut3 B O T s f)=P at L M ⊢;generalize F:(if M3.both (M3.cut3 B O T s f)then (1:Int)else 0)=N;have G:I [.list ((M3.cutN B s.1 f.1).map .str),.list ((M3.cutN O s.2.1 f.2.1).map .str),.list ((M3.cutN T s.2.2 f.2.2).map .str)]=some (.tuple [.str P,.int N]):=by rw[<-C,<-F];erw[q]
 simp[tupD,Y,oI,gR,G,L,M,W,aE,Z,l3,M3.next]
abbrev tM(Φ:Fs):Prop:=Has Φ "_law_both" [true,true,true] λK=>∀(B O T:A1),Fit B->Fit O->Fit T->Lns O->Lns T->K [.list (B.map .str),.list (O.map .str),.list (T.map .str)]=some (.tuple [.str (J (mergedF B O T)),.int (confF B O T:Nat)])
def xw{B O T}{f}{x}(J:B[f.1]?=some x)(K:O[f.2.1]?=some x)(L:T[f.2.2]?=some x):au (M3.cut3 B O T f (M3.next f))=[x]/\M3.both (M3.cut3 B O T f (M3.next f))=false/\M3.cutN B f.1 (f.1+1)=[x]:=by
 have e:M3.cut3 B O T f (M3.next f)=(Prod.mk ([x]) (Prod.mk ([x]) ([x]))):=by
  show (Prod.mk (M3.cutN B _ (f.1+1)) (Prod.mk (M3.cutN O _ (f.2.1+1)) (M3.cutN T _ (f.2.2+1))))=_;rw[M3.cut_one B J,M3.cut_one O K,M3.cut_one T L]
 have nb:M3.both (Prod.mk ([x]) (Prod.mk ([x]) ([x])))=false:=by unfold M3.both;simp
 rw[e];refine(?_,nb,M3.cut_one B J);unfold au
 simp_all
structure BothJ(B O T:A1)(X:Str)(N:Nat)(q:List M3.Tr)(x:Str)(n:Nat)(s:M3.Tr):Prop where
 len:x.length+3956*q.length<=3956*1311
 go:(∃F,q=F++[(B.length,O.length,T.length)]/\M3.Up B O T s F/\x++J ((M3.parts B O T s F).flatMap au)=X/\n+(M3.parts B O T s F).countP M3.both=N)\/(q=[]/\x=X/\n=N)
def BothJ.step{B O T}(W:Fit B)(Y:Fit O)(Z:Fit T)(U:Lns O)(V:Lns T){X x}{N n}{q}{s f}(h:BothJ B O T X N (f::q) x n s):BothJ B O T X N q (x++cN (M3.cut3 B O T s f)++J (M3.cutN B f.1 (f.1+1))) (n+if M3.both (M3.cut3 B O T s f)then 1 else 0) (M3.next f):=by
 have v:=mR (p:=M3.cut3 B O T s f) (aV Y _ _) (aV Z _ _);have z:=fh (aV W f.1 (f.1+1));have S:=h.len;refine(?_,?_)
 .simp only[lc0,Str.length_append]at S ⊢;grind
 .rcases h.go with⟨F,e,u,R,M⟩|⟨e,_⟩
  .cases F with
   |nil=>
    simp at e;obtain⟨K,L⟩:=e;subst K L;refine .inr (rfl,?_,?_)
    .have cB:M3.cutN B B.length (B.length+1)=[]:=by unfold M3.cutN;rw[List.drop_length];simp
     show _++J (M3.cutN B B.length (B.length+1))=_;rw[cB,KA,xt,<-R];show _=_++J ([M3.cut3 B O T s (B.length,O.length,T.length)].flatMap au);rw[List.flatMap_cons,List.flatMap_nil,List.append_nil,mP (U.cutN _ _) (V.cutN _ _)]
    .rw[<-M]
     show _=n+List.countP M3.both [M3.cut3 B O T s (B.length,O.length,T.length)];rw[List.countP_cons,List.countP_nil,Nat.zero_add]
   |cons g F=>
    simp only[List.cons_append,List.cons.injEq]at e;obtain⟨K,L⟩:=e;subst K;cases u with
    |@cons _ _ _ y H A j D C Q P=>
     obtain⟨G,I,E⟩:=xw D C Q;refine .inl (F,L,P,?_,?_)
     .rw[<-R]
      show _=x++J ((M3.cut3 B O T s f::M3.cut3 B O T f (M3.next f)::M3.parts B O T (M3.next f) F).flatMap au);rw[List.flatMap_cons,List.flatMap_cons,qW,qW,G,E,mP (U.cutN _ _) (V.cutN _ _)];simp only[ff]
     .rw[<-M]
      show _=n+(M3.cut3 B O T s f::M3.cut3 B O T f (M3.next f)::M3.parts B O T (M3.next f) F).countP M3.both;rw[List.countP_cons,List.countP_cons,I];simp only[Bool.false_eq_true,if_false]
      grind
  .cases e
def xx(hw:EV Φ)(C:AS Φ)(B O T)(R:Fit B)(U:Fit O)(V:Fit T)(z:Lns O)(y:Lns T):ans Φ Γ gH [.list (B.map .str),.list (O.map .str),.list (T.map .str)]=some (.tuple [.str (J (mergedF B O T)),.int (confF B O T:Nat)]):=by
 have turn:=λ{s3 s4 s9 x n s f} W=>xu (Φ:=Φ) (Γ:=Γ) C R U V (s3:=s3) (s4:=s4) (s9:=s9) (x:=x) (n:=n) (s:=s) (f:=f) W
 obtain⟨t,N,Q⟩:=hw;have k:=R.many;have mO:=U.many;have mT:=V.many;have j:(M2.walk 0 0 B T).length<=big:=aP (by have:=oJ B T;grind);have L:=(M3.Rising.pw (M3.walk0 B O)).1;have Y:=(M3.Rising.pw (M3.walk0 B T)).1;have K:=iU L [];have E:(M2.walk 0 0 B T).filterMap (λp=>((M2.walk 0 0 B O).lookup p.1).map λv=>tupD (Prod.mk p.1 (Prod.mk v p.2)))=(M3.places B O T).map tupD:=by
  unfold M3.places;rw[<-M3.fixed_swap L Y];unfold M3.fixed;rw[List.map_filterMap,List.map_filterMap]
  congr 1
  funext p;rw[Option.map_map,Option.map_map];rfl
 have A:=places_len B O T;have G:=M3.places_up B O T;have Z:(M3.places B O T).length+1<=big:=aP @5;have H:D.tuple [.int B.length,.int O.length,.int T.length]=tupD (Prod.mk B.length (Prod.mk O.length T.length)):=rfl;have m:D.tuple [.int 0,.int 0,.int 0]=tupD (Prod.mk 0 (Prod.mk 0 0)):=rfl;have X:(⟨#[]⟩:Str)=Str.empty:=rfl;have S:mergedF B O T=(M3.parts B O T (Prod.mk 0 (Prod.mk 0 0)) (M3.places B O T)).flatMap au/\confF B O T=(M3.parts B O T (Prod.mk 0 (Prod.mk 0 0)) (M3.places B O T)).countP M3.both:=(rfl,rfl);rw[S.1,S.2];simp only[ans_e,gH];simp[N,Q B O @1 @5,Q B T @1 @1,eK,j];rw[ky (g:=λp=>((M2.walk 0 0 B O).lookup p.1).map λv=>tupD (Prod.mk p.1 (Prod.mk v p.2)))]
 .rw[E]
  generalize M3.places B O T=F at A G Z;simp[Z];rw[H,m,X,show F.map tupD++[tupD (Prod.mk B.length (Prod.mk O.length T.length))]=(F++[(Prod.mk B.length (Prod.mk O.length T.length))]).map tupD by simp];generalize Sl.dat (D.fdc (putAll [] (List.map kvD (M2.walk 0 0 B O))))=s3;generalize Sl.dat (D.list (List.map tupD F))=s4;refine gP (inj:=tupD) (F:=λs:Str×Nat×M3.Tr×Sl×Sl=>[.lent (.list (B.map .str)),.lent (.list (O.map .str)),.lent (.list (T.map .str)),s3,s4,.dat (.str s.1),.dat (.int (s.2.1:Nat)),.dat (tupD s.2.2.1),s.2.2.2.1,s.2.2.2.2]) (s:=(Prod.mk Str.empty (Prod.mk 0 (Prod.mk ((Prod.mk 0 (Prod.mk 0 0))) (Prod.mk .no .no))))) (J:=λq s=>BothJ B O T (J ((M3.parts B O T (Prod.mk 0 (Prod.mk 0 0)) F).flatMap au)) ((M3.parts B O T (Prod.mk 0 (Prod.mk 0 0)) F).countP M3.both) q s.1 s.2.1 s.2.2.1) (P:=λo=>cJ .pure (nxS Φ Γ o _)=_) (λs M=>?_) (λf q s M=>?_) (by show 0+_<=_;simp;lia,.inl (F,rfl,G,empty_app _,Nat.zero_add _))
  .rcases M.go with⟨l,e,_⟩|⟨_,N,I⟩
   .simp at e
   .rw[<-N,<-I];simp
  .obtain⟨x,n,s,u,s9⟩:=s
   have W:x.length<=10000000:=by have:=M.len;dsimp only at this;lia
   refine((Prod.mk _ (Prod.mk _ (Prod.mk (M3.next f) (Prod.mk (.dat (tupD f)) (.dat (.tuple [.str (cN (M3.cut3 B O T s f)),.int (if M3.both (M3.cut3 B O T s f)then 1 else 0)])))))),M.step R U V z y,?_);rw[show ax (.one 8) (tupD f) [.lent (.list (B.map .str)),.lent (.list (O.map .str)),.lent (.list (T.map .str)),s3,s4,.dat (.str x),.dat (.int (n:Nat)),.dat (tupD s),u,s9]=some [.lent (.list (B.map .str)),.lent (.list (O.map .str)),.lent (.list (T.map .str)),s3,s4,.dat (.str x),.dat (.int (n:Nat)),.dat (tupD s),.dat (tupD f),s9] from rfl,bs0];have:=turn (s3:=s3) (s4:=s4) (s9:=s9) (n:=(n:Nat)) (s:=s) (f:=f) W;rw[show ((n:Nat):Int)+(if M3.both (M3.cut3 B O T s f)then (1:Int)else 0)=((n+(if M3.both (M3.cut3 B O T s f)then 1 else 0):Nat):Int) by split<;>simp]at this
   erw[this]
 .intro p C
  have K:=K p.1;cases q:(M2.walk 0 0 B O).lookup p.1 with
  |none=>
   rw[q]at K;simp[bE,prD,inD,K,q,look]
  |some v=>
   rw[q]at K;simp[bE,prD,inD,K,q,tupD]
noncomputable instance:DecidableEq Nd:=λa a=>Classical.propDecidable _
noncomputable def ol:Option Nd->List (Str×Nd)
 |some (.tree J)=>J.l
 |_=>[]
noncomputable def ot:Option Nd->Str
 |some (.blob t)=>t
 |_=>Str.empty
def jn(p x:Str):Str:=if p=Str.empty then x else p++⟨#[47]⟩++x
abbrev MF:=Str->Option Nd->Option Nd->Option Nd->Option Nd×List Str
def mS(f:MF)(ns:A1)(p:Str)(b o t:List (Str×Nd)):List (Str×Nd)×List Str:=
 (ns.filterMap λx=>(f (jn p x) (b.lookup x) (o.lookup x) (t.lookup x)).1.map λn=>(x,n),ns.flatMap λx=>(f (jn p x) (b.lookup x) (o.lookup x) (t.lookup x)).2)
def nm2(o t:List (Str×Nd)):List Str:=oV (o.map (·.1)++t.map (·.1))
def mT(f:MF)(p:Str)(b:Option Nd)(o t:Nds):List (Str×Nd)×List Str:=mS f (nm2 o.l t.l) p (ol b) o.l t.l
def mO(F:Option Nd->Nds->Nds->Option Nd×List Str)(p:Str)(b o t:Option Nd):Option Nd×List Str:=
 if o=t\/t=b then (o,[])else if o=b then (t,[])else o.rec (t,[p]) λx=>t.rec (o,[p]) λy=>
  x.casesOn (λx=>y.casesOn (λy=>(some (.blob (J (mergedF (lnF (ot b)) (lnF x) (lnF y)))),List.replicate (confF (lnF (ot b)) (lnF x) (lnF y)) p)) λa=>(o,[p])) λK=>y.casesOn (λa=>(o,[p])) λL=>F b K L
def mE(k:Nat):MF:=k.rec (λp=>mO (λa a a=>(none,[])) p) λa f p=>mO (λb J K=>(if (mT f p b J K).1=[] then none else some (.tree (Nds.of (mT f p b J K).1)),(mT f p b J K).2)) p
def bF(k p):∃F,mE k p=mO F p:=by cases k<;>exact(_,rfl)
section
variable {k:Nat}{p:Str}{b o t:Option Nd}
def di(h:o=t\/t=b):mE k p b o t=(o,[]):=by obtain⟨F,e⟩:=bF k p;rw[e];erw[if_pos h]
def gY(h:¬ (o=t\/t=b))(J:o=b):mE k p b o t=(t,[]):=by obtain⟨F,e⟩:=bF k p;rw[e];exact (if_neg h).trans (if_pos J)
def jr{J K:Nds}(h:¬ (some (Nd.tree J)=some (Nd.tree K)\/some (Nd.tree K)=b))(L:¬ some (Nd.tree J)=b):mE (k+1) p b (some (.tree J)) (some (.tree K))=(if (mT (mE k) p b J K).1=[] then none else some (.tree (Nds.of (mT (mE k) p b J K).1)),(mT (mE k) p b J K).2):=
 (if_neg h).trans (if_neg L)
def ju(h:¬ (some (Nd.blob x)=some (Nd.blob y)\/some (Nd.blob y)=b))(K:¬ some (Nd.blob x)=b):mE k p b (some (.blob x)) (some (.blob y))=(some (.blob (J (mergedF (lnF (ot b)) (lnF x) (lnF y)))),List.replicate (confF (lnF (ot b)) (lnF x) (lnF y)) p):=by obtain⟨F,e⟩:=bF k p;rw[e];exact (if_neg h).trans (if_neg K)
def okd:Option Nd->Str
 |none=>⟨#[110,111,110,101]⟩
 |some (.blob _)=>bx
 |some (.tree _)=>ao
def jw(h:¬ (o=t\/t=b))(J:¬ o=b)(K:¬ (okd o=ao/\okd t=ao))(L:¬ (okd o=bx/\okd t=bx)):mE k p b o t=(if o=none then t else o,[p]):=by
 obtain⟨F,e⟩:=bF k p;rw[e];refine ((if_neg h).trans (if_neg J)).trans ?_;rcases o with _|(_|_)<;>rcases t with _|(_|_)<;>first|rfl|exact absurd ⟨rfl,rfl⟩ K|exact absurd ⟨rfl,rfl⟩ L
end
def bO{l}(h:bY l):l.Nodup:=h.imp λ{a b} z e=>by rw[e,aU]at z;cases z
theorem fj{x}:∀{l:List (Str×Nd)},x∉l.map (·.1)->l.lookup x=none
 |[],_=>rfl
 |p::l,h=>by
  have J:(x==p.1)=false:=by simpa using λe=>h (by simp[e])
  rw[lk0,J];erw[fj λz=>h (by simp[z])]
def Ig(k:Nat)(p:Str)(b):mE k p b none none=(none,[]):=di (.inl rfl)
mutual
theorem Nd.rep_inj{L:List Th}(nd:L.Nodup):∀(n:Nd)(i j:Nat),n.rep L i->n.rep L j->i=j
 |.blob t,i,j,a,b=>by
  rw[Nd.rep]at a b;exact (List.getElem?_inj (gi0 a).1 nd).mp (a.trans b.symm)
 |.tree R,i,j,a,b=>by
  rw[Nd.rep]at a b;obtain⟨U,J,a2,K⟩:=a;obtain⟨V,M,N,O⟩:=b;have:=Nds.rep_inj nd R _ _ K O;have e:U=V:=(List.zip_of_prod J this).trans (List.zip_of_prod M rfl).symm;subst e;exact (List.getElem?_inj (gi0 a2).1 nd).mp (a2.trans N.symm)
theorem Nds.rep_inj{L:List Th}(nd:L.Nodup):∀(es:Nds)(J js:List Int),es.rep L J->es.rep L js->J=js
 |.nil,[],[],_,_=>rfl
 |.nil,_::_,_,h,_=>by rw[Nds.rep]at h;erw[h.elim];all_goals simp
 |.nil,[],_::_,_,h=>by rw[Nds.rep]at h;erw[h.elim];all_goals simp
 |.cons x n r,[],_,h,_=>by rw[Nds.rep]at h;erw[h.elim];all_goals simp
 |.cons x n r,_::_,[],_,h=>by rw[Nds.rep]at h;erw[h.elim];all_goals simp
 |.cons x n r,i::J,j::js,a,b=>by
  rw[Nds.rep]at a b;obtain⟨⟨k,rfl,K⟩,a2⟩:=a;obtain⟨⟨l,rfl,M⟩,N⟩:=b;rw[Nd.rep_inj nd n k l K M,Nds.rep_inj nd r J js a2 N]
end
mutual
theorem Nd.rep_fun{L:List Th}:∀(n M:Nd)(i:Nat),n.rep L i->M.rep L i->n=M
 |.blob t,.blob u,i,a,b=>by
  rw[Nd.rep]at a;rw[Nd.rep]at b;rw[a]at b;cases b;rfl
 |.blob t,.tree K,i,a,b=>by
  rw[Nd.rep]at a;rw[Nd.rep]at b;obtain⟨N,_,J,_⟩:=b;rw[a]at J;cases J
 |.tree K,.blob t,i,a,b=>by
  rw[Nd.rep]at a;rw[Nd.rep]at b;obtain⟨N,_,a2,_⟩:=a;rw[b]at a2;cases a2
 |.tree K,.tree W,i,a,b=>by
  rw[Nd.rep]at a;rw[Nd.rep]at b;obtain⟨N,O,a2,R⟩:=a;obtain⟨Y,U,J,V⟩:=b;rw[a2]at J;cases J;rw[Nds.rep_fun K W _ R V (O.symm.trans U)]
theorem Nds.rep_fun{L:List Th}:∀(es K:Nds)(J:List Int),es.rep L J->K.rep L J->es.names=K.names->es=K
 |.nil,.nil,_,_,_,_=>rfl
 |.nil,.cons x n r,_,_,_,h=>by simp[Nds.names]at h
 |.cons x n r,.nil,_,_,_,h=>by simp[Nds.names]at h
 |.cons x n r,.cons y m s,[],a,_,_=>by rw[Nds.rep]at a;erw[a.elim];all_goals simp
 |.cons x n r,.cons y m s,i::J,a,b,h=>by
  rw[Nds.rep]at a b;obtain⟨⟨k,rfl,M⟩,a2⟩:=a;obtain⟨⟨l,e,N⟩,O⟩:=b;have e:l=k:=by lia
  subst e;rw[Nds.names,Nds.names]at h;injection h with R U
  rw[R,Nd.rep_fun n m l M N,Nds.rep_fun r s J a2 O U]
end
def RepL(L:List Th):List (Str×Int)->List (Str×Nd)->Prop
 |[],[]=>True
 |p::J,q::K=>(p.1=q.1/\∃k:Nat,p.2=k/\q.2.rep L k)/\RepL L J K
 |_,_=>False
variable {L L':List Th}
theorem RepL.of:∀{es:Nds}{ps:List (Str×Int)},ps.map (·.1)=es.names->es.rep L (ps.map (·.2))->RepL L ps es.l
 |.nil,[],_,_=>trivial
 |.nil,_::_,h,_=>by simp[Nds.names]at h
 |.cons x n r,[],h,_=>by simp[Nds.names]at h
 |.cons x n r,p::ps,h,a=>by
  injection h with J K
  exact((J,a.1),RepL.of K a.2)
theorem RepL.to:∀{l:List (Str×Nd)}{ps:List (Str×Int)},RepL L ps l->ps.map (·.1)=(Nds.of l).names/\(Nds.of l).rep L (ps.map (·.2))
 |[],[],_=>(rfl,by trivial)
 |[],_::_,h=>h.elim
 |_::_,[],h=>h.elim
 |q::l,p::ps,h=>by
  obtain⟨J,K⟩:=RepL.to h.2;rw[mk0,mk0,J,h.1.1];exact(rfl,h.1.2,K)
theorem Nds.of_of:∀es:Nds,Nds.of es.l=es
 |.nil=>rfl
 |.cons x n r=>by rw[Nds.l,Nds.of,Nds.of_of r]
def rep_tree{es}{i}:(Nd.tree es).rep L i↔∃ps,L[i]?=some (.tree ps)/\RepL L ps es.l:=by
 constructor
 .rintro ⟨ps,a,b,c⟩;exact(ps,b,RepL.of a c)
 .rintro ⟨ps,b,c⟩
  have:=RepL.to c;rw[Nds.of_of]at this;exact(ps,this.1,b,this.2)
theorem RepL.names:∀{l:List (Str×Nd)}{ps:List (Str×Int)},RepL L ps l->ps.map (·.1)=l.map (·.1)
 |[],[],_=>rfl
 |[],_::_,h=>h.elim
 |_::_,[],h=>h.elim
 |q::l,p::ps,h=>by rw[mk0,mk0,h.1.1,RepL.names h.2]
theorem RepL.ex(e:Ex L L'):∀{l:List (Str×Nd)}{ps:List (Str×Int)},RepL L ps l->RepL L' ps l
 |[],[],_=>trivial
 |[],_::_,h=>h.elim
 |_::_,[],h=>h.elim
 |q::l,p::ps,h=>by
  obtain⟨⟨J,k,K,M⟩,N⟩:=h;exact((J,k,K,Nd.rep_ex e _ _ M),RepL.ex e N)
theorem RepL.snoc{x}{n}{k:Nat}(J:n.rep L k):∀{l:List (Str×Nd)}{ps:List (Str×Int)},RepL L ps l->RepL L (ps++[(x,(k:Int))]) (l++[(x,n)])
 |[],[],_=>((rfl,k,rfl,J),trivial)
 |[],_::_,h=>h.elim
 |_::_,[],h=>h.elim
 |q::l,p::ps,h=>(h.1,RepL.snoc J h.2)
theorem RepL.lt:∀{l:List (Str×Nd)}{ps:List (Str×Int)},RepL L ps l->∀p∈ps,∃n:Nat,p.2=n/\n<L.length
 |[],[],_,_,h=>by cases h
 |[],_::_,h,_,_=>h.elim
 |_::_,[],h,_,_=>h.elim
 |q::l,p::ps,h,z,hz=>by
  rcases mq0 hz with rfl|hz
  .obtain⟨k,a,b⟩:=h.1.2;exact(k,a,Nd.hd b)
  .erw[RepL.lt h.2 z hz]
def OR(L:List Th)(d:D):Option Nd->Prop
 |none=>d=.none
 |some n=>∃k:Nat,d=.int k/\n.rep L k
def OR.ok{d}:∀{o},OR L d o->okS 20 d=true/\cA d=false
 |none,h=>by cases h;exact(rfl,rfl)
 |some n,⟨k,a,b⟩=>by subst a;exact(rfl,rfl)
def OR.eq(nd:L.Nodup){d d'}:∀{o K:Option Nd},OR L d o->OR L d' K->(d=d'↔o=K)
 |none,none,h,N=>by cases h;cases N;simp
 |none,some n,h,⟨k,a,b⟩=>by cases h;simp_all
 |some n,none,⟨k,a,b⟩,h=>by cases h;subst a;simp
 |some n,some m,⟨k,a,b⟩,⟨l,M,J⟩=>by
  subst a M;constructor
  .intro e
   have e:k=l:=by grind
   subst e;rw[Nd.rep_fun _ _ _ b J]
  .intro e
   injection e with e
   subst e;rw[Nd.rep_inj nd _ _ _ b J]
theorem OR.none{d}{o}(h:OR L d o):d=.none↔o=none:=by
 cases o with
 |none=>exact(λb=>rfl,λb=>h)
 |some n=>obtain⟨k,a,_⟩:=h;simp_all
def OR.at{d}{o}(h:OR L d o):∃J,qP L d J/\kOf J=okd o/\RepL L (byN J) (ol o):=by
 cases o with
 |none=>exact(.none,h,rfl,trivial)
 |some n=>
  obtain⟨k,a,b⟩:=h;cases n with
  |blob t=>exact(some _,(k,a,b),rfl,trivial)
  |tree N=>obtain⟨O,K,M⟩:=rep_tree.mp b;exact(some _,(k,a,K),rfl,M)
theorem RepL.get{x}:∀{l:List (Str×Nd)}{ps:List (Str×Int)},RepL L ps l->OR L ((look (ps.map λp=>((.inr p.1:Sum Int Str),D.int p.2)) (.inr x)).getD .none) (l.lookup x)
 |[],[],_=>rfl
 |[],_::_,h=>h.elim
 |_::_,[],h=>h.elim
 |q::l,p::ps,h=>by
  obtain⟨⟨K,k,M,N⟩,O⟩:=h;rw[lk0,mk0,look]
  by_cases e:p.1=x
  .have J:(x==q.1)=true:=by rw[<-K,e];simp
   rw[if_pos (by rw[e]),J,M];exact(k,rfl,N)
  .have J:(x==q.1)=false:=by rw[<-K];simpa using λz=>e z.symm
   rw[if_neg λz=>e (Sum.inr.inj z),J];erw[RepL.get O]
def OkO(k:Nat)(o:Option Nd):Prop:=∀n,o=some n->n.ok k
theorem lookup_mem{x}{n}:∀{l:List (Str×Nd)},l.lookup x=some n->(x,n)∈l
 |[],h=>by cases h
 |p::l,h=>by
  rw[lk0]at h
  by_cases e:x=p.1
  .subst e
   simp at h;subst h;erw[ms0]
  .rw[show (x==p.1)=false by simpa using e]at h
   erw[mc0 _ (lookup_mem h)]
def OkO.at{k:Nat}{l:List (Str×Nd)}(h:∀p∈l,p.2.ok k)(x:Str):OkO k (l.lookup x):=λn e=>h _ (lookup_mem e)
theorem OkO.ol{k:Nat}{b:Option Nd}(h:OkO (k+1) b):∀p∈ol b,p.2.ok k:=by
 rcases b with _|(_|es)
 .erw[nofun]
 .erw[nofun]
 .have:=h _ rfl
  rw[Nd.ok]at this;erw[Nds.ok_l.mp this.2.2.2]
theorem OkO.ot{k:Nat}{b}(h:OkO k b):(ot b).length<=1300:=by
 rcases b with _|(t|es)
 .erw[Nat.zero_le _]
 .have:=h _ rfl
  cases k<;>exact this
 .erw[Nat.zero_le _]
structure OkT(k:Nat)(es:Nds):Prop where
 rise:bY (es.l.map (·.1))
 name:∀x∈es.l.map (·.1),aK x=true
 len:(es.l.map (·.1)).length<=6
 ok:∀p∈es.l,p.2.ok k
theorem OkO.tree{k:Nat}{es}(h:OkO (k+1) (some (.tree es))):OkT k es:=by
 have:=h _ rfl;rw[Nd.ok,Nds.names_l]at this;exact(this.1,this.2.1,this.2.2.1,Nds.ok_l.mp this.2.2.2)
def oK{x}(y z:Str)(h:x.length<=1300):confF (lnF x) (lnF y) (lnF z)<=2621:=by
 unfold confF;refine nt0 List.countP_le_length ?_;unfold M3.partsOf;rw[eM];have:=places_len (lnF x) (lnF y) (lnF z);have:=(fP h).many
 grind
def oM{k:Nat}{o t}(J:OkT k o)(K:OkT k t):(nm2 o.l t.l).length<=12:=by
 have:=kh (o.l.map (·.1)++t.l.map (·.1));rw[la0]at this;have:=J.len;have:=K.len;unfold nm2
 lia
def qZ{k:Nat}{o t}(J:OkT k o)(K:OkT k t):∀x∈nm2 o.l t.l,aK x=true:=λx M=>by
 rcases ma0 ((mem_srtS _ x).mp M)with h|h
 .erw[J.name x h]
 .erw[K.name x h]
theorem vk{f:α->List Str}{n}:∀{xs:List α},(∀x∈xs,(f x).length<=n)->(xs.flatMap f).length<=xs.length*n
 |[],_=>Nat.zero_le _
 |x::r,h=>by
  rw[List.flatMap_cons,la0,lc0,Nat.succ_mul];have:=h x ms0;have:=vk λy J=>h y (mc0 _ J)
  grind
def cM(k:Nat):Nat:=2621*12 ^ k
def HV(k:Nat):cM (k+1)=12*cM k:=by unfold cM;rw[Nat.pow_succ];grind
def HW(k:Nat):2621<=cM k:=by
 unfold cM
 grind
inductive xy (b o t:Option Nd):Prop
 |same:o=t\/t=b->xy b o t
 |base:¬ (o=t\/t=b)->o=b->xy b o t
 |tree (eo et:Nds):¬ (o=t\/t=b)->¬ o=b->o=some (.tree eo)->t=some (.tree et)->xy b o t
 |blob (x y:Str):¬ (o=t\/t=b)->¬ o=b->o=some (.blob x)->t=some (.blob y)->xy b o t
 |els:¬ (o=t\/t=b)->¬ o=b->¬ (okd o=ao/\okd t=ao)->¬ (okd o=bx/\okd t=bx)->xy b o t
def kd1:¬ (⟨#[110,111,110,101]⟩:Str)=ao:=by decide
def kd2:¬ (⟨#[110,111,110,101]⟩:Str)=bx:=by decide
def kd3:¬ bx=ao:=by decide
def kd4:¬ ao=bx:=by decide
def DO(b o t):xy b o t:=by
 by_cases J:o=t\/t=b
 .exact .same J
 .by_cases K:o=b
  .exact .base J K
  .rcases o with _|(x|eo)
   .exact .els J K (λz=>kd1 z.1) λz=>kd2 z.1
   .rcases t with _|(y|et)
    .exact .els J K (λz=>kd1 z.2) λz=>kd2 z.2
    .exact .blob x y J K rfl rfl
    .exact .els J K (λz=>kd3 z.1) λz=>kd4 z.2
   .rcases t with _|(y|et)
    .exact .els J K (λz=>kd1 z.2) λz=>kd2 z.2
    .exact .els J K (λz=>kd3 z.2) λz=>kd4 z.1
    .exact .tree eo et J K rfl rfl
theorem oN:∀(k:Nat)(p:Str)(b o t),OkO k b->OkO k o->OkO k t->(mE k p b o t).2.length<=cM k
 |k,p,b,o,t,R,O,U=>by
  cases DO b o t with
  |same J=>rw[di J];simp
  |base J K=>rw[gY J K];simp
  |blob x y J K M N=>
   subst M N;rw[ju J K,List.length_replicate];erw[nt0 (oK _ _ R.ot) (HW _)]
  |els J K V W=>rw[jw J K V W];erw[nt0 (by decide:1<=2621) (HW _)]
  |tree Y Z J K M N=>
   subst M N;cases k with
   |zero=>exact (O _ rfl).elim
   |succ k=>
    rw[jr J K,HV];erw[nt0 (vk λx a=>oN k _ _ _ _ (OkO.at R.ol x) (OkO.at O.tree.ok x) (OkO.at U.tree.ok x)) (Nat.mul_le_mul_right _ (nt0 (oM O.tree U.tree) @2))]
def AY(f:MF)(p:Str)(b)(o t:Nds):(mT f p b o t).1.map (·.1)=(nm2 o.l t.l).filter λx=>(f (jn p x) ((ol b).lookup x) (o.l.lookup x) (t.l.lookup x)).1.isSome:=by
 show (List.filterMap _ _).map _=_;generalize nm2 _ _=J
 induction J with
 |nil=>rfl
 |cons x r ih=>
  cases e:(f (jn p x) ((ol b).lookup x) (o.l.lookup x) (t.l.lookup x)).1<;>simp_all
def oO{k:Nat}(f:MF)(p:Str)(b){o t}(J:OkT k o)(K:OkT k t):Good ((mT f p b o t).1.map (·.1)):=by
 rw[AY];have s:((nm2 o.l t.l).filter λx=>(f (jn p x) ((ol b).lookup x) (o.l.lookup x) (t.l.lookup x)).1.isSome).Sublist _:=List.filter_sublist;exact((bj _).sublist s,λx M=>qZ J K x (s.subset M),nt0 s.length_le (nt0 (oM J K) @2))
abbrev oP(Φ:Fs):Prop:=Has Φ "joined" [true,true] λJ=>∀p x:Str,p.length<=100->x.length<=100->J [.str p,.str x]=some (.str (jn p x))
def tN(p x:Str)(N:p.length<=100)(O:x.length<=100):ans Φ Γ gu [.str p,.str x]=some (.str (jn p x)):=by
 have J:(⟨#[]⟩:Str)=Str.empty:=rfl;have M:(⟨#[47]⟩:Str).length=1:=rfl;have K:p.length+1<=big:=aP @5;have a2:p.length+1+x.length<=big:=aP @5;simp only[ans_e,gu]
 by_cases h:p=Str.empty
 .simp[h,J,jn]
 .simp[h,J,jn,K,a2,M,oX]
def Bb{p x}:(jn p x).length<=p.length+1+x.length:=by
 unfold jn;split
 .simp_all
 .rw[Str.length_append,Str.length_append];erw[nr0 _]
abbrev vm(Φ:Fs)(c:Nat):Prop:=Has Φ "refuse_what_is_no_tree" [true,true] λJ=>∀(L:List Th)(n:Nat) es,L[n]?=some (.tree es)->J [vt c L,.int n]=some .none
def tP(hc:gJ Φ c)(L:List Th)(n:Nat)(es)(h:L[n]?=some (.tree es)):ans Φ Γ (aB c) [vt c L,.int n]=some .none:=by
 obtain⟨M,J,K⟩:=hc;simp only[ans_e,aB];simp[J,(K 0 _ n _ _ (eJ h))]
def EX{n}{d}(h:n<=9000):pA (some (.list [d])) (some (.int ((n:Nat):Int)))=some (.list (List.replicate n d)):=by
 rw[pA,bs0,bs0,nJ,if_pos (pH @1 @1 (by simp;erw[aP h]))];simp
def KB{Y Y1}{m}{e}{a b}(K:evM Φ Γ Y m=some (a,Y1))(J:ev Φ Γ .val Y1 e=some b):evM Φ Γ Y (.tup [.x m,.x (.p e)])=some (.tuple [a,b],Y1):=by rw[ev_e]at J;simp[K,J]
noncomputable def DP:E:=.op .mul (.lst (.cons (.v 4) .nil)) (.idx (.v 6) ↑1)
abbrev EY:E:=.ite (.cmp .eq (.call "kind_of" (.cons (.v 0) @12)) (.k (.str bx))) (.call "text_of" (.cons (.v 0) @12)) @10
def HX(V:jo Φ c)(W:uX Φ c){L}{db}{b}{Y}(N:OR L db b):ev Φ Γ .val (.io (vt c L)::.lent db::Y) EY=some (.str (ot b)):=by
 obtain⟨D,K,R⟩:=V;obtain⟨B,O,U⟩:=W;obtain⟨F,Z,T,_⟩:=N.at;have J:=R L db F Z;rw[T]at J;rcases b with _|(t|es)
 .simp[K,J,okd,kd2,ot,Str.empty]
 .obtain⟨k,rfl,M⟩:=N
  rw[Nd.rep]at M;simp[K,J,okd,O,U L k t M,ot]
 .simp[K,J,okd,kd4,ot,Str.empty]
abbrev vo(Φ:Fs)(c:Nat):Prop:=Has Φ "merged_blobs" [true,true,true,true,true] λK=>∀(L:List Th)(M:D)(b:Option Nd)(x y:Str)(i j:Nat)(p:Str),OR L M b->(ot b).length<=1300->x.length<=1300->y.length<=1300->L[i]?=some (.blob x)->L[j]?=some (.blob y)->L.length<5000->
 ∃n:Nat,(putL L (.blob (J (mergedF (lnF (ot b)) (lnF x) (lnF y)))))[n]?=some (.blob (J (mergedF (lnF (ot b)) (lnF x) (lnF y))))/\K [vt c L,M,.int i,.int j,.str p]=some (.tuple [.tuple [.int n,.list ((List.replicate (confF (lnF (ot b)) (lnF x) (lnF y)) p).map .str)],vt c (putL L (.blob (J (mergedF (lnF (ot b)) (lnF x) (lnF y)))))])
def tQ(H:jo Φ c)(z:uX Φ c)(A:vh Φ)(I:As Φ c)(L:List Th)(K:D)(b)(x y:Str)(i j:Nat)(p:Str)(U:OR L K b)(Z:(ot b).length<=1300)(q:x.length<=1300)(u:y.length<=1300)(E:L[i]?=some (.blob x))(X:L[j]?=some (.blob y))(hz:L.length<5000):
  ∃n:Nat,(putL L (.blob (J (mergedF (lnF (ot b)) (lnF x) (lnF y)))))[n]?=some (.blob (J (mergedF (lnF (ot b)) (lnF x) (lnF y))))/\ans Φ Γ bI [vt c L,K,.int i,.int j,.str p]=some (.tuple [.tuple [.int n,.list ((List.replicate (confF (lnF (ot b)) (lnF x) (lnF y)) p).map .str)],vt c (putL L (.blob (J (mergedF (lnF (ot b)) (lnF x) (lnF y)))))]):=by
 obtain⟨e,F,W⟩:=H;obtain⟨a,V,R⟩:=z;obtain⟨r3,B,P⟩:=A;obtain⟨r4,Q,G⟩:=I;obtain⟨th,l,t,_⟩:=U.at;have o:=W L K th l;rw[t]at o;have s:=P (ot b) x y Z q u;have g:=EX (d:=.str p) (nt0 (oK (x:=ot b) x y Z) @2);obtain⟨n,f,m⟩:=G L (J (mergedF (lnF (ot b)) (lnF x) (lnF y))) hz;refine(n,f,?_);have r:=U.ok.2;generalize J (mergedF (lnF (ot b)) (lnF x) (lnF y))=M at *;generalize confF (lnF (ot b)) (lnF x) (lnF y)=C at *;simp only[ans_e,bI];have O:=HX (Γ:=Γ) (Y:=[.lent (.int i),.lent (.int j),.lent (.str p),.no,.no]) (e,F,W) (a,V,R) U
 have h:ex Φ Γ [.io (vt c L),.lent K,.lent (.int i),.lent (.int j),.lent (.str p),.no,.no] (.set 5 EY)=some (.nx [.io (vt c L),.lent K,.lent (.int i),.lent (.int j),.lent (.str p),.dat (.str (ot b)),.no]):=by
  rw[ex_s,S.set,O];rfl
 rw[show br ([true,true,true,true,true],7,_,.io 0) [vt c L,K,.int i,.int j,.str p]=[.io (vt c L),.lent K,.lent (.int i),.lent (.int j),.lent (.str p),.no,.no] from rfl,exs_c,h,iT];have s2:ex Φ Γ [.io (vt c L),.lent K,.lent (.int i),.lent (.int j),.lent (.str p),.dat (.str (ot b)),.no] (.set 6 (.call "merged_text" (.cons (.v 5) (.cons (.call "text_of" (.cons (.v 0) (.cons (.v 2) .nil))) (.cons (.call "text_of" (.cons (.v 0) (.cons (.v 3) .nil))) .nil)))))=some (.nx [.io (vt c L),.lent K,.lent (.int i),.lent (.int j),.lent (.str p),.dat (.str (ot b)),.dat (.tuple [.str M,.int (C:Nat)])]):=by
  simp[V,R L i x E,R L j y X,B,s]
 rw[exs_c,s2,iT];have s3:∀N:Sl,ev Φ Γ .val (N::fzM [.lent K,.lent (.int i),.lent (.int j),.lent (.str p),.dat (.str (ot b)),.dat (.tuple [.str M,.int (C:Nat)])]) DP=some (.list (List.replicate C (.str p))):=λN=>by
  show ev Φ Γ .val [N,.lent K,.lent (.int i),.lent (.int j),.lent (.str p),.dat (.str (ot b)),.dat (.tuple [.str M,.int (C:Nat)])] DP=_;rw[DP,ev_m,show ev Φ Γ .read [N,.lent K,.lent (.int i),.lent (.int j),.lent (.str p),.dat (.str (ot b)),.dat (.tuple [.str M,.int (C:Nat)])] (.lst (.cons (.v 4) .nil))=some (.list [.str p]) by simp,show ev Φ Γ .read [N,.lent K,.lent (.int i),.lent (.int j),.lent (.str p),.dat (.str (ot b)),.dat (.tuple [.str M,.int (C:Nat)])] (.idx (.v 6) ↑1)=some (.int (C:Nat)) by simp,g];rfl
 have s4:evM Φ Γ (fzM [.io (vt c L),.lent K,.lent (.int i),.lent (.int j),.lent (.str p),.dat (.str (ot b)),.dat (.tuple [.str M,.int (C:Nat)])]) (.call "blob" 0 0 [.v 0,.x (.p (.idx (.v 6) ↑0))])=some (.int n,.io (vt c (putL L (.blob M)))::fzM [.lent K,.lent (.int i),.lent (.int j),.lent (.str p),.dat (.str (ot b)),.dat (.tuple [.str M,.int (C:Nat)])]):=by
  simp[Q,m]
 have T:=KB s4 (s3 _);unfold DP at T;rw[exs_c,ex_retm,T,List.map_replicate];rfl
def kM:Nat->Nat
 |0=>1
 |k+1=>12*kM k+1
abbrev EZ(c k:Nat)(J:List D->Option D):Prop:=∀(L:List Th)(K dO N:D)(b o t:Option Nd)(p:Str),L.Nodup->OR L K b->OR L dO o->OR L N t->OkO k b->OkO k o->OkO k t->p.length+13*k<=80->L.length+kM k<5000->
 ∃M L',J [vt c L,K,dO,N,.str p]=some (.tuple [.tuple [M,.list ((mE k p b o t).2.map .str)],vt c L'])/\OR L' M (mE k p b o t).1/\Ex L L'/\L'.length<=L.length+kM k
abbrev vq(Φ:Fs)(c k:Nat):Prop:=Has Φ "merged_entry" [true,true,true,true,true] (EZ c k)
abbrev Fb(c k:Nat)(J:List D->Option D):Prop:=∀(L:List Th)(K:D)(b:Option Nd)(i j:Nat)(o t:Nds)(p:Str),L.Nodup->OR L K b->(Nd.tree o).rep L i->(Nd.tree t).rep L j->OkO (k+1) b->OkT k o->OkT k t->p.length+13*(k+1)<=80->L.length+(12*kM k+1)<5000->
 ∃(n:Nat)(L':List Th),J [vt c L,K,.int i,.int j,.str p]=some (.tuple [.tuple [.int n,.list ((mT (mE k) p b o t).2.map .str)],vt c L'])/\(Nd.tree (Nds.of (mT (mE k) p b o t).1)).rep L' n/\Ex L L'/\L'.length<=L.length+(12*kM k+1)
abbrev vx(Φ:Fs)(c k:Nat):Prop:=Has Φ "merged_by_names" [true,true,true,true,true] (Fb c k)
def oQ{ps}{x}:getD (fdE ps) (.str x)=some ((look (ps.map λp=>((.inr p.1:Sum Int Str),D.int p.2)) (.inr x)).getD .none):=rfl
def oU{x}(h:aK x=true):jD x=true:=by
 unfold aK at h;simp only[be0]at h;refine List.all_eq_true.mpr λc J=>dt0 ?_
 have:=od0 (List.all_eq_true.mp h.2 c J);have q:∀c∈signs65,c<0x110000:=by decide
 erw[q c this]
theorem gZ:∀{l:List (Sum Int Str×D)}{J:A1},l.map (·.1)=J.map .inr->(∀x∈J,jD x=true)->cz l=some J
 |[],[],_,_=>rfl
 |[],_::_,h,_=>by cases h
 |_::_,[],h,_=>by cases h
 |(j,d)::r,x::J,h,o=>by
  injection h with K M
  subst K;show (if jD x then (cz r).map _ else none)=_;rw[if_pos (o x ms0),gZ M λy N=>o y (mc0 _ N)];rfl
def Ih{L}{k}{po pt}{o t}(K:OkT k o)(M:OkT k t)(R:RepL L po o.l)(U:RepL L pt t.l):BZ (fdE po) (fdE pt)=some (.list ((nm2 o.l t.l).map .str)):=by
 have N:cz (po.map λp=>(.inr p.1,D.int p.2))=some _:=gZ (by rw[<-R.names];simp) λx J=>oU (K.name x J)
 have O:cz (pt.map λp=>(.inr p.1,D.int p.2))=some _:=gZ (by rw[<-U.names];simp) λx J=>oU (M.name x J)
 have V:=K.len;have W:=M.len;show (cz _).bind _=_;rw[N,bs0,O,bs0,if_pos @1];rfl
abbrev DQ:Ss:=(.cons (.set 11 (.lst (.cons (.get (.v 5) (.v 10)) (.cons (.get (.v 6) (.v 10)) (.cons (.get (.v 7) (.v 10)) .nil))))) (.cons (.setm 12 (.call "merged_entry" 0 0 [.v 0,.x (.p (.idx (.v 11) ↑0)),.x (.p (.idx (.v 11) ↑1)),.x (.p (.idx (.v 11) ↑2)),.x (.p (.call "joined" (.cons (.v 4) (.cons (.v 10) .nil))))])) (.cons (.ifs (.cmp .notN (.idx (.v 12) ↑0) (.k .none)) (.cons (.app 8 (.tup (.cons (.v 10) (.cons (.idx (.v 12) ↑0) .nil)))) .nil) .nil) (.cons (.ext 9 (.idx (.v 12) ↑1)) .nil))))
def Bc{k}(t:vq Φ c k)(l:oP Φ){L}{pb po pt}{B O T}{p x}{s1 s2 s3 s11 s12}{ps}{cs}(nd:L.Nodup)(o:RepL L pb B)(G:RepL L po O)(rt:RepL L pt T)(u:∀q∈B,q.2.ok k)(g:∀q∈O,q.2.ok k)(y:∀q∈T,q.2.ok k)(r:aK x=true)(hp:p.length+13*(k+1)<=80)(hz:L.length+kM k<5000)(d:ps.length<100)(lc:cs.length+cM k<=big):
  ∃(L':List Th)(K M:Sl)(J:List (Str×Int)),Ex L L'/\L'.length<=L.length+kM k/\(∀es,RepL L ps es->RepL L' J (es++((mE k (jn p x) (B.lookup x) (O.lookup x) (T.lookup x)).1.map λn=>(x,n)).toList))/\J.length<=ps.length+1/\
   exs Φ Γ [.io (vt c L),s1,s2,s3,.lent (.str p),.dat (fdE pb),.dat (fdE po),.dat (fdE pt),.own (.list (ps.map bZ)),.own (.list (cs.map .str)),.dat (.str x),s11,s12] DQ=some (.nx [.io (vt c L'),s1,s2,s3,.lent (.str p),.dat (fdE pb),.dat (fdE po),.dat (fdE pt),.own (.list (J.map bZ)),.own (.list ((cs++(mE k (jn p x) (B.lookup x) (O.lookup x) (T.lookup x)).2).map .str)),.dat (.str x),K,M]):=by
 obtain⟨r1,E,v⟩:=t;obtain⟨r2,X,m⟩:=l;have xl:=(iK r).2;have H:=o.get (x:=x);have A:=G.get (x:=x);have j:=rt.get (x:=x);have U:=oQ (ps:=pb) (x:=x);have V:=oQ (ps:=po) (x:=x);have W:=oQ (ps:=pt) (x:=x);generalize (look (pb.map λp=>((.inr p.1:Sum Int Str),D.int p.2)) (.inr x)).getD .none=F at H U;generalize (look (po.map λp=>((.inr p.1:Sum Int Str),D.int p.2)) (.inr x)).getD .none=C at A V;generalize (look (pt.map λp=>((.inr p.1:Sum Int Str),D.int p.2)) (.inr x)).getD .none=Q at j W;have jl:=Bb (p:=p) (x:=x);have f:=m p x @1 @1
 have Z:=oN k (jn p x) _ _ _ (OkO.at u x) (OkO.at g x) (OkO.at y x);obtain⟨h,L',Y,a2,N,I⟩:=v L F C Q _ _ _ (jn p x) nd H A j (OkO.at u x) (OkO.at g x) (OkO.at y x) @1 hz;generalize mE k (jn p x) (B.lookup x) (O.lookup x) (T.lookup x)=R at *;obtain⟨G,P⟩:=R;simp only[]at Y a2 Z;have z:cs.length+P.length<=big:=by lia
 have b:ps.length<big:=Nat.lt_trans d @2;generalize fdE pb=s at U;generalize fdE po=e at V;generalize fdE pt=a at W;cases G with
 |none=>
  cases a2;refine(L',.dat (.list [F,C,Q]),.dat (.tuple [.none,.list (P.map .str)]),ps,N,I,λes S=>?_,Nat.le_succ _,?_)
  .rw[show (Option.map (λn=>(x,n)) none:Option (Str×Nd)).toList=[] from rfl,List.append_nil];erw[S.ex N]
  .simp[-SI.getD,U,V,W,X,f,E,Y,z]
 |some n=>
  obtain⟨i,rfl,a2⟩:=a2;refine(L',.dat (.list [F,C,Q]),.dat (.tuple [.int i,.list (P.map .str)]),ps++[(x,(i:Int))],N,I,λes S=>(S.ex N).snoc a2,by simp,?_);simp[-SI.getD,U,V,W,X,f,E,Y,z,b,bZ]
def rf{k}{b}(h:OkO (k+1) b):((ol b).map (·.1)).Nodup:=by
 rcases b with _|(_|es)
 .exact .nil
 .exact .nil
 .erw[bO h.tree.rise]
def vy(f:MF)(x:Str)(q)(p:Str)(b o t):(mS f (x::q) p b o t).1=((f (jn p x) (b.lookup x) (o.lookup x) (t.lookup x)).1.map λn=>(x,n)).toList++(mS f q p b o t).1/\(mS f (x::q) p b o t).2=(f (jn p x) (b.lookup x) (o.lookup x) (t.lookup x)).2++(mS f q p b o t).2:=by
 refine(?_,rfl);unfold mS;simp only[List.filterMap_cons];cases (f _ _ _ _).1<;>rfl
structure MY(L0:List Th)(k:Nat)(p:Str)(B O T:List (Str×Nd))(R:List (Str×Nd)×List Str)(q:A1)(L:List Th)(ps:List (Str×Int))(es:List (Str×Nd))(cs:A1):Prop where
 nd:L.Nodup
 ex:Ex L0 L
 nam:∀x∈q,aK x=true
 rep:RepL L ps es
 e1:es++(mS (mE k) q p B O T).1=R.1
 e2:cs++(mS (mE k) q p B O T).2=R.2
 lL:L.length+q.length*kM k<=L0.length+12*kM k
 lp:ps.length+q.length<=12
 lc:cs.length+q.length*cM k<=12*cM k
abbrev HY:Ss:=(.cons (.retm (.tup [.x (.call "tree" 0 0 [.v 0,.v 8]),.x (.p (.v 9))])) .nil)
def mU(k:Nat)(hk:cM k<=400000)(hm:vq Φ c k)(hb:uY Φ c)(hj:oP Φ)(ht:Ap Φ c):Fb c k (ans Φ Γ aJ):=by
 intro L C b i j o t p nd ob ri rj V K M hp hz;have step:=λ{L pb po pt p x s1 s2 s3 s11 s12 ps cs}=>Bc (Φ:=Φ) (Γ:=Γ) (c:=c) hm hj (L:=L) (pb:=pb) (po:=po) (pt:=pt) (B:=ol b) (O:=o.l) (T:=t.l) (p:=p) (x:=x) (s1:=s1) (s2:=s2) (s3:=s3) (s11:=s11) (s12:=s12) (ps:=ps) (cs:=cs)
 obtain⟨r1,e1,X⟩:=hb;obtain⟨r2,e2,h2⟩:=ht;obtain⟨tb,b1,b2,m⟩:=ob.at;obtain⟨po,o1,u⟩:=rep_tree.mp ri;obtain⟨pt,t1,f⟩:=rep_tree.mp rj;have q1:=X L C tb b1 (by rw[m.names];erw[rf V]);have h:=X L (.int i) (some (.tree po)) (i,rfl,o1) (by show (po.map (·.1)).Nodup;rw[u.names];erw[bO K.rise]);have q3:=X L (.int j) (some (.tree pt)) (j,rfl,t1) (by show (pt.map (·.1)).Nodup;rw[f.names];erw[bO M.rise]);have q4:=Ih K M u f;have nl:=oM K M;have nn:=qZ K M;have good:=oO (mE k) p b K M;have H:mT (mE k) p b o t=mS (mE k) (nm2 o.l t.l) p (ol b) o.l t.l:=rfl
 generalize mT (mE k) p b o t=R at H good;generalize nm2 o.l t.l=d at *;generalize byN tb=pb at *;simp only[byN]at h q3;have lk:d.length*kM k<=12*kM k:=Nat.mul_le_mul_right _ nl;have z:d.length*cM k<=12*cM k:=Nat.mul_le_mul_right _ nl;simp only[ans_e,aJ];have f0:fdE pb≠.none:=nofun;simp[-BZ,e1,q1,h,q3,q4];refine gP (inj:=D.str) (F:=λs:List Th×List (Str×Int)×List (Str×Nd)×List Str×Sl×Sl×Sl=>[.io (vt c s.1),.lent C,.lent (.int i),.lent (.int j),.lent (.str p),.dat (fdE pb),.dat (fdE po),.dat (fdE pt),.own (.list (s.2.1.map bZ)),.own (.list (s.2.2.2.1.map .str)),s.2.2.2.2.1,s.2.2.2.2.2.1,s.2.2.2.2.2.2]) (s:=(L,[],[],[],.no,.no,.no)) (J:=λq s=>MY L k p (ol b) o.l t.l R q s.1 s.2.1 s.2.2.1 s.2.2.2.1) (P:=λo'=>∃(n:Nat)(L':List Th),cJ (.io 0) (nxS Φ Γ o' HY)=some (.tuple [.tuple [.int n,.list (R.2.map .str)],vt c L'])/\(Nd.tree (Nds.of R.1)).rep L' n/\Ex L L'/\L'.length<=L.length+(12*kM k+1)) (λs A=>?_) (λx q s A=>?_) (nd,.refl _,nn,trivial,by rw[H];rfl,by rw[H];rfl,Nat.add_le_add_left lk _,by simpa using nl,by simpa using z)
 .obtain⟨Y,ps,I,cs,W,s11,s12⟩:=s
  obtain⟨U,N,_,rep1,Z,a2,E,lp,_⟩:=A;simp only[]at *;have Z:I=R.1:=by rw[<-Z];exact (List.append_nil I).symm
  have a2:cs=R.2:=by rw[<-a2];exact (List.append_nil cs).symm
  subst Z a2;have nm:=rep1.names;obtain⟨n,n1,n2⟩:=h2 Y ps (by rw[nm];erw[good]) rep1.lt (by simp at E;lia);obtain⟨a,p2⟩:=rp Y (.tree ps);refine(n,putL Y (.tree ps),?_,rep_tree.mpr (ps,n1,by rw[Nds.of_l];erw[rep1.ex a]),N.trans a,by simp at E;lia);have s4:evM Φ Γ (fzM [.io (vt c Y),.lent C,.lent (.int i),.lent (.int j),.lent (.str p),.dat (fdE pb),.dat (fdE po),.dat (fdE pt),.own (.list (ps.map bZ)),.own (.list (R.2.map .str)),W,s11,s12]) (.call "tree" 0 0 [.v 0,.v 8])=some (.int n,.io (vt c (putL Y (.tree ps)))::fzM [.lent C,.lent (.int i),.lent (.int j),.lent (.str p),.dat (fdE pb),.dat (fdE po),.dat (fdE pt),.own (.list (ps.map bZ)),.own (.list (R.2.map .str)),W,s11,s12]):=by
   simp[e2,n2]
  have s5:=KB (e:=.v 9) (b:=.list (R.2.map .str)) s4 @0;rw[iT,exs_c,ex_retm,s5];rfl
 .obtain⟨Y,ps,I,cs,W,s11,s12⟩:=s
  obtain⟨U,N,Q,rep1,Z,a2,E,lp,lc⟩:=A;simp only[lc0]at *;rw[Nat.succ_mul]at E lc;obtain⟨L',S,G,g,r,c2,c3,c4,c5⟩:=step (s1:=.lent C) (s2:=.lent (.int i)) (s3:=.lent (.int j)) (s11:=s11) (s12:=s12) (ps:=ps) (cs:=cs) U (m.ex N) (u.ex N) (f.ex N) V.ol K.ok M.ok (Q x ms0) hp @1 @1 (by unfold big;lia);obtain⟨m1,m2⟩:=vy (mE k) x q p (ol b) o.l t.l;have j0:=oN k (jn p x) _ _ _ (OkO.at V.ol x) (OkO.at K.ok x) (OkO.at M.ok x);refine((L',g,_,_,.dat (.str x),S,G),(r.2 U,N.trans r,λy hy=>Q y (mc0 _ hy),c3 I rep1,by rw[<-Z,m1,List.append_assoc],by rw[<-a2,m2,List.append_assoc],by dsimp only;lia,by dsimp only;lia,by dsimp only;rw[la0];lia),?_)
  erw[c5]
abbrev Fc(Φ:Fs)(c:Nat):Prop:=Has Φ "none_if_empty" [true,true] λJ=>∀(L:List Th)(n:Nat)(M:List (Str×Int))(K:D),L[n]?=some (.tree M)->J [vt c L,.tuple [.int n,K]]=some (.tuple [.tuple [if M=[] then .none else .int n,K],vt c L])
def Bd(K:gK Φ c)(L)(n:Nat)(ps)(cs:D)(h:L[n]?=some (.tree ps)):ans Φ Γ bg [vt c L,.tuple [.int n,cs]]=some (.tuple [.tuple [if ps=[] then .none else .int n,cs],vt c L]):=by
 obtain⟨N,M,J⟩:=K;have q:=J 0 _ n _ (eJ h);simp only[ans_e,bg]
 by_cases z:ps=[]<;>simp_all
def eq2(a b x y:Str):eqD (.list [.str a,.str b]) (.list [.str x,.str y])=some (decide (a=x/\b=y)):=by
 rw[da rfl rfl];simp
def HZ{L}(nd:L.Nodup){db dO dt}{b o t}(J:OR L db b)(K:OR L dO o)(M:OR L dt t):gT db dO dt=!decide ((o=t\/t=b)\/o=b):=by
 have N:=K.eq nd J;have O:=M.eq nd J;have R:=M.eq nd K;unfold gT
 grind
set_option tactic.hygienic true in
def rg(k:Nat)(hk:cM k<=400000)(hB:vd Φ)(hS:AN Φ)(hK:jo Φ c)(hN:Fc Φ c)(hM:vo Φ c)(hR:∀r,k=r+1->vx Φ c r):EZ c k (ans Φ Γ aS):=by
 intro L C dO D b o t p nd Y K N G T I hp hz;obtain⟨r1,Z,h1⟩:=hB;obtain⟨r2,m,h2⟩:=hS;obtain⟨r3,Q,l⟩:=hK;obtain⟨r4,e,h4⟩:=hN;obtain⟨r5,a,h5⟩:=hM;have M:=h1 C dO D Y.ok.1 K.ok.1 N.ok.1;rw[HZ nd Y K N]at M;have v:=h2 C dO D Y.ok.1 K.ok.1;obtain⟨to,o1,o2,_⟩:=K.at;obtain⟨tt,t1,t2,_⟩:=N.at;have F:=l L dO to o1;have B:=l L D tt t1;rw[o2]at F;rw[t2]at B;have g:=Y.ok.2;have E:=K.ok.2;have X:=N.ok.2;simp only[ans_e,aS];have k1:1<=kM k:=by cases k<;>simp[kM]
 cases DO b o t with
 |same h=>
  rw[di h];refine(if dO=C then D else dO,L,?_,?_,.refl _,by lia)
  .simp[Z,M,h,m,g,E,X,v]
  .simp only
   split
   .rename_i z
    have z:=(K.eq nd Y).mp z;rcases h with h|h
    .rw[h];erw[N]
    .rw[z,<-h];erw[N]
   .erw[K]
 |base h f=>
  rw[gY h f];refine(D,L,?_,N,.refl _,by lia);rw[if_pos ((K.eq nd Y).mpr f)]at v;simp[Z,M,f,m,g,E,X,v]
 |els R U V W=>
  rw[jw R U V W];have s:=K.none;have O:¬ ((o=t\/t=b)\/o=b):=λz=>z.elim R U
  rw[df0 O]at M;refine(if dO=.none then D else dO,L,?_,?_,.refl _,by lia)
  .by_cases z:dO=.none
   .simp[Z,M,Q,F,B,eq2,V,W,z,E,X]
    simp[z]at F M;simp[Z,M,Q,F,B,eq2,V,W,z,E,X]
   .simp[Z,M,Q,F,B,eq2,V,W,z,E,X]
  .by_cases z:o=none
   .rw[if_pos (s.mpr z),if_pos z];erw[N]
   .rw[if_neg (λy=>z (s.mp y)),if_neg z];erw[K]
 |blob x y R U V W=>
  subst V W;rw[ju R U];have O:¬ ((some (Nd.blob x)=some (Nd.blob y)\/some (Nd.blob y)=b)\/some (Nd.blob x)=b):=λz=>z.elim R U
  rw[df0 O]at M;obtain⟨i,rfl,H⟩:=K;obtain⟨j,rfl,A⟩:=N;rw[Nd.rep]at H;rw[Nd.rep]at A;obtain⟨n,O,q⟩:=h5 L C b x y i j p Y G.ot (OkO.ot T) (OkO.ot I) H A @1;obtain⟨p1,p2⟩:=rp L (.blob (J (mergedF (lnF (ot b)) (lnF x) (lnF y))));refine(.int n,_,?_,(n,rfl,by rw[Nd.rep];erw[O]),p1,by lia);simp[Z,M,Q,F,B,eq2,okd,kd3,a,q,g]
 |tree S P R U V W=>
  subst V W;have O:¬ ((some (Nd.tree S)=some (Nd.tree P)\/some (Nd.tree P)=b)\/some (Nd.tree S)=b):=λz=>z.elim R U
  rw[df0 O]at M;obtain⟨i,rfl,H⟩:=K;obtain⟨j,rfl,A⟩:=N;cases k with
  |zero=>exact (T _ rfl).elim
  |succ k=>
   rw[jr R U];obtain⟨r6,e6,h6⟩:=hR k rfl;obtain⟨n,L',O,q,n3,n4⟩:=h6 L C b i j S P p nd Y H A G T.tree I.tree hp hz;obtain⟨u,m1,m2⟩:=rep_tree.mp q;rw[Nds.of_l]at m2;have q6:=h4 L' n u (.list ((mT (mE k) p b S P).2.map .str)) m1;have d:u=[]↔(mT (mE k) p b S P).1=[]:=by
    have:=m2.names;constructor
    .intro z;rw[z]at this;erw[List.map_eq_nil_iff.mp this.symm]
    .intro z;rw[z]at this;erw[List.map_eq_nil_iff.mp this]
   refine(if u=[] then .none else .int n,L',?_,?_,n3,n4)
   .simp[Z,M,Q,F,B,eq2,okd,e6,O,e,q6,g]
   .simp only
    by_cases z:u=[]
    .rw[if_pos z,if_pos (d.mp z)];rfl
    .rw[if_neg z,if_neg λy=>z (d.mpr y)];exact(n,rfl,q)
abbrev Fd(c:Nat)(J:List D->Option D):Prop:=∀(L:List Th)(K:D)(b:Option Nds)(i j:Nat)(o t:Nds),L.Nodup->OR L K (b.map .tree)->(Nd.tree o).rep L i->(Nd.tree t).rep L j->OkO 3 (b.map .tree)->OkT 2 o->OkT 2 t->L.length<=800->
 ∃(n:Nat)(L':List Th),J [vt c L,K,.int i,.int j]=some (.tuple [.tuple [.int n,.list ((mT (mE 2) Str.empty (b.map .tree) o t).2.map .str)],vt c L'])/\(Nd.tree (Nds.of (mT (mE 2) Str.empty (b.map .tree) o t).1)).rep L' n/\Ex L L'
abbrev Be(Φ:Fs)(c:Nat):Prop:=Has Φ "merged_trees" [true,true,true,true] (Fd c)
def tS(P:vm Φ c)(S:vx Φ c 2):Fd c (ans Φ Γ bH):=by
 intro L C b i j o t nd K T F M N O H;obtain⟨z,R,J⟩:=P;obtain⟨y,U,Q⟩:=S;obtain⟨Z,Y,_⟩:=rep_tree.mp T;obtain⟨pt,D,_⟩:=rep_tree.mp F;obtain⟨n,L',W,G,I,A⟩:=Q L C (b.map .tree) i j o t Str.empty nd K T F M N O @2 (by simp[kM];lia);refine(n,L',?_,G,I);have V:(⟨#[]⟩:Str)=Str.empty:=rfl;simp only[ans_e,bH];cases b with
 |none=>
  cases K;simp[R,J L i Z Y,J L j pt D,U,V,W]
 |some b=>
  obtain⟨k,rfl,X⟩:=K;obtain⟨E,B,_⟩:=rep_tree.mp X;simp[R,J L k E B,J L i Z Y,J L j pt D,U,V,W]
abbrev HTx(Φ:Fs):Prop:=Has Φ "_law_text" [true,true] λJ=>∀K k,∃x:Str,x.length<=16/\J [.scr K,.int k]=some (.str x)
def KR(C:DV Φ)(Q:EN Φ)(D:sW Φ)(ns)(k:Int):∃x:Str,x.length<=16/\ans Φ Γ lB [.scr ns,.int k]=some (.str x):=by
 obtain⟨I,N,K⟩:=C;obtain⟨X,O,Y⟩:=Q;obtain⟨H,R,Z⟩:=D;have F:=K ns k;have T:=K ns (k+1);obtain⟨j,V⟩:∃j:Nat,mixF ns k % 5=j:=((mixF ns k % 5).toNat,by grind);obtain⟨J,A,G,S⟩:=Y ns k j @5;obtain⟨E,W,U,P⟩:=Z J (decide (mixF ns (k+1) % 3=0)) 4 3 @6 @6 @5 G;have M:=nt0 (sF U) (Nat.mul_le_mul_right 4 W);refine(Txt.join Str.empty E,nt0 (ka _) M,?_);have B:(E.map λx=>x.length).sum<=big:=nt0 M @2;simp only[ans_e,lB];simp[N,F,T,V,O,S,R,P,aE,B,show (⟨#[]⟩:Str).length=0 from rfl];rfl
noncomputable def oS:Option Str->D
 |none=>.none
 |some x=>.str x
structure Thr(st:Bool)(l:List (Option Str)):Prop where
 len:l.length=3
 le:∀o∈l,∀x,o=some x->x.length<=1300
 st:st=true->∀o∈l,o≠none
theorem Thr.set{st}{l}(h:Thr st l){j}{o}(K:∀x,o=some x->x.length<=1300)(hs:st=true->o≠none):Thr st (l.set j o):=
 (by rw[List.length_set,h.len],λz J=>(List.mem_or_eq_of_mem_set J).elim (h.le z) λe=>e▸K,λe z J=>(List.mem_or_eq_of_mem_set J).elim (h.st e z) λq=>q▸hs e)
def NX{n j}(h:j<n):ixN n (j:Int)=some j:=by
 unfold ixN
 simp_all
abbrev zc(Φ:Fs):Prop:=Has Φ "_law_three" [true,true,true] λJ=>∀M k K,∃l,Thr K l/\J [.scr M,.int k,.bool K]=some (.list (l.map oS))
def DW(x y:Str):(Txt.rstripChars x y).length<=x.length:=by
 show (Txt.rstripChars x y).cps.size<=x.cps.size;unfold Txt.rstripChars;rw[PyProof.Rows.stripBy_eq,<-al0,StrLaws.strSub_toList,<-al0]
 grind
def l3{l:List α}(h:l.length=3):∃a b c,l=[a,b,c]:=by
 rcases l with _|⟨a,_|⟨b,_|⟨c,_|_⟩⟩⟩<;>first|exact⟨a,b,c,rfl⟩|cases h
def Bq(U:DV Φ)(ht:HTx Φ)(V:Ay Φ)(hd:EO Φ)(he:sW Φ)(ns:List Int)(k:Int)(K:Bool):∃l,Thr K l/\ans Φ Γ eN [.scr ns,.int k,.bool K]=some (.list (l.map oS)):=by
 obtain⟨r1,q,h1⟩:=U;obtain⟨r2,u,h2⟩:=ht;obtain⟨r3,v,h3⟩:=V;obtain⟨r4,t,h4⟩:=hd;obtain⟨r5,r,h5⟩:=he;have G:=h1 ns k;generalize mixF ns k=N at G;obtain⟨x,xl,q2⟩:=h2 ns (k+1);obtain⟨R,Y,q3⟩:=h3 x @1;have zb:cY 31 31 (R.map λy=>Txt.rstripChars y ⟨#[10]⟩):=(by simpa using Y.1,λy hy=>by
  obtain⟨z,hz,rfl⟩:=mm0 hy;erw[nt0 (DW _ _) (Y.2 z hz)])
 have t0:Thr K [some x,some x,some x]:=(rfl,λo M y e=>by
  have:o=some x:=by simpa using M
  rw[this]at e;cases e;lia,λc o M=>by
  have:o=some x:=by simpa using M
  rw[this];nofun)
 have ed:∀(j:Nat)(w:Int),∃y:Str,y.length<=1300/\∃O:List Str,r4 [.scr ns,.int (k+2+j),.list ((R.map λy=>Txt.rstripChars y ⟨#[10]⟩).map .str)]=some (.list (O.map .str))/\∃E:List Str,r5 [.list (O.map .str),.bool (decide (w=1))]=some (.list (E.map .str))/\(E.map λx=>x.length).sum<=big/\y=Txt.join Str.empty E:=λj w=>by
  obtain⟨H,X,W⟩:=h4 ns (k+2+j) _ zb;obtain⟨E,el,ec,C⟩:=h5 H (decide (w=1)) 40 31 @1 @1 X.1 X.2;have I:=nt0 (sF ec) (Nat.mul_le_mul_right 32 el);exact(_,nt0 (ka _) (nt0 I @2),H,W,E,C,nt0 I @2,rfl)
 have hb:R.length<=big:=nt0 Y.1 @2;simp only[ans_e,eN];simp[q,G,u,q2,xg (n:=3) @2 @2];refine ER (F:=λs:List (Option Str)×Sl×Sl×Sl=>[.lent (.scr ns),.lent (.int k),.lent (.bool K),.dat (.int N),.dat (.str x),.own (.list (s.1.map oS)),s.2.1,s.2.2.1,s.2.2.2]) (s:=([some x,some x,some x],.no,.no,.no)) (J:=λc s=>Thr K s.1) (P:=λo=>∃l,Thr K l/\cJ .pure (nxS Φ Γ o _)=some (.list (l.map oS))) (λs j=>?_) (λj s hj z=>?_) t0
 .obtain⟨l,s6,s7,Q⟩:=s
  have z:Thr K l:=j;have V:=z.len;obtain⟨a,b,d,rfl⟩:=l3 V
  by_cases g:N / 216 % 5=0
  .refine([a,b,b],(rfl,λo M=>z.le o (by simp at M ⊢;rcases M with h|h<;>simp[h]),λe o M=>z.st e o (by simp at M ⊢;rcases M with h|h<;>simp[h])),?_)
   simp[g,show ixN 3 2=some 2 from rfl]
  .exact([a,b,d],z,by simp[g])
 .obtain⟨l,s6,s7,Q⟩:=s
  have z:Thr K l:=z;have V:=z.len;obtain⟨m,U⟩:∃m:Int,0<m/\m<100/\atI [D.int 1,.int 6,.int 36] (j:Int)=some (.int m):=by
   match j,hj with
   |0,_=>exact(1,by decide,by decide,rfl)
   |1,_=>exact(6,by decide,by decide,rfl)
   |2,_=>exact(36,by decide,by decide,rfl)
  obtain⟨w,T⟩:∃w,N / m % 6=w:=(_,rfl);have B:ixN l.length (j:Int)=some j:=NX @1;have m2:m<1073741824:=by lia
  by_cases g:w=0/\K=false
  .refine((l.set j none,.dat (.int j),.dat (.int w),Q),z.set (λc e=>by cases e) (λe=>by rw[g.2]at e;cases e),?_)
   simp[U,T,g.1,g.2,B,m2,oS]
  .by_cases S:0<j/\w<4
   .obtain⟨y,yl,O,W,E,C,i,ye⟩:=ed j w
    refine((l.set j (some y),.dat (.int j),.dat (.int w),.dat (.list (O.map .str))),z.set (λc e=>by cases e;erw[yl]) (λc=>nofun),?_);have A:∀{f:D->Option (Option D)},(∀p∈R,f (.str p)=some (some (.str (Txt.rstripChars p ⟨#[10]⟩))))->ay f (R.map .str)=some ((R.map λy=>Txt.rstripChars y ⟨#[10]⟩).map .str):=λh=>by
     rw[az (g:=λp=>D.str (Txt.rstripChars p ⟨#[10]⟩)) h,List.map_map];rfl
    have Z:¬ (w=0/\K=false):=g;simp[U,T,Z,S,B,m2,v,q3,hb,t];rw[A λp hp=>by simp[bE,show p.length<=big from nt0 (Y.2 p hp) @2]];generalize (R.map λy=>Txt.rstripChars y ⟨#[10]⟩)=zs at W ⊢;simp[W,r,C,aE,i,B,oS,show (⟨#[]⟩:Str).length=0 from rfl,ye];rfl
   .refine((l,.dat (.int j),.dat (.int w),Q),z,?_)
    have Z:¬ (w=0/\K=false):=g;simp[U,T,Z,S,m2]
noncomputable abbrev bl(o:Option Str):Option Nd:=o.map .blob
def bl_inj{a b}:bl a=bl b↔a=b:=by cases a<;>cases b<;>simp
def NY(b):ot (bl b)=b.getD Str.empty:=by cases b<;>rfl
def mI(p:Str)(b o t:Option Str):Option Str×List Str:=
 if o=t\/t=b then (o,[])else if o=b then (t,[])else match o,t with
 |some x,some y=>(some (J (mergedF (lnF (b.getD Str.empty)) (lnF x) (lnF y))),List.replicate (confF (lnF (b.getD Str.empty)) (lnF x) (lnF y)) p)
 |o,t=>(if o=none then t else o,[p])
def NZ(k:Nat)(p:Str)(b o t:Option Str):mE k p (bl b) (bl o) (bl t)=(bl (mI p b o t).1,(mI p b o t).2):=by
 unfold mI
 by_cases h:o=t\/t=b
 .rw[if_pos h,di (h.imp bl_inj.mpr bl_inj.mpr)]
 .have J:¬ (bl o=bl t\/bl t=bl b):=λz=>h (z.imp bl_inj.mp bl_inj.mp)
  by_cases g:o=b
  .rw[if_neg h,if_pos g,gY J (bl_inj.mpr g)]
  .have K:=λz=>g (bl_inj.mp z)
   rw[if_neg h,if_neg g];cases o with
   |none=>rw[jw J K (λz=>kd1 z.1) λz=>kd2 z.1];rfl
   |some x=>cases t with
    |none=>rw[jw J K (λz=>kd1 z.2) λz=>kd2 z.2];rfl
    |some y=>exact (ju J K).trans (by rw[NY];rfl)
abbrev Sh3(o:Option Str):Prop:=∀x,o=some x->x.length<=1300
def Sh3.d{b}(h:Sh3 b):(b.getD Str.empty).length<=1300:=by
 cases b with
 |none=>exact Nat.zero_le _
 |some x=>exact h x rfl
@[simp] def OV(a b):eqD (oS a) (oS b)=some (decide (a=b)):=by
 rw[da (by cases a<;>rfl) (by cases b<;>rfl)];cases a<;>cases b<;>simp[oS]
@[simp] def OG(a):oS a=.none↔a=none:=by cases a<;>simp[oS]
@[simp] def OH(a):cA (oS a)=false:=by cases a<;>rfl
abbrev Ii(Φ:Fs):Prop:=Has Φ "_law_one" [true,true,true] λJ=>∀(p:Str)(b o t:Option Str)(told:A1),Sh3 b->Sh3 o->Sh3 t->told.length<=1000000->J [.str p,.list [oS b,oS o,oS t],.list (told.map .str)]=some (.tuple [oS (mI p b o t).1,.list ((told++(mI p b o t).2).map .str)])
def Ij(Q:oH Φ)(C:tM Φ)(p:Str)(b o t:Option Str)(told)(K:Sh3 b)(Y:Sh3 o)(Z:Sh3 t)(hz:told.length<=1000000):ans Φ Γ nK [.str p,.list [oS b,oS o,oS t],.list (told.map .str)]=some (.tuple [oS (mI p b o t).1,.list ((told++(mI p b o t).2).map .str)]):=by
 obtain⟨I,N,J⟩:=Q;obtain⟨E,F,B⟩:=C;have T:told.length<big:=Nat.lt_of_le_of_lt hz @2;simp only[ans_e,nK];unfold mI
 by_cases h:o=t\/t=b
 .rw[if_pos h];simp[h]
 .rw[if_neg h]
  by_cases g:o=b
  .rw[if_pos g];subst g;simp[h,not_or.mp h]
  .rw[if_neg g]
   cases o with
   |none=>simp[h,g,T,not_or.mp h]
   |some x=>cases t with
    |none=>simp[h,g,T,not_or.mp h]
    |some y=>
     have G:(if b=none then some (D.str ⟨#[]⟩)else some (oS b))=some (.str (b.getD Str.empty)):=by cases b<;>rfl
     have S:oS (some x)=.str x:=rfl;have P:oS (some y)=.str y:=rfl;have R:=J (b.getD Str.empty) (nt0 K.d @2);have U:=J x (nt0 (Y x rfl) @2);have V:=J y (nt0 (Z y rfl) @2);have W:=B (lnF (b.getD Str.empty)) (lnF x) (lnF y) (fP K.d) (fP (Y x rfl)) (fP (Z y rfl)) (AV x) (AV y);have cl:=oK (x:=b.getD Str.empty) x y K.d;have O:=EX (n:=confF (lnF (b.getD Str.empty)) (lnF x) (lnF y)) (d:=.str p) @5;simp[h,g,not_or.mp h,N,R,U,V];generalize confF (lnF (b.getD Str.empty)) (lnF x) (lnF y)=n at W cl O ⊢;have M:told.length+n<=big:=nt0 (m:=1100000) @5 @2
     simp[N,F,G,S,P,R,U,V,W,O,M];rfl
structure Rw where
 x:Str
 b:Option Nd
 o:Option Nd
 t:Option Nd
 r:Option Nd
 c:List Str
noncomputable def nN(f:Rw->Option Nd)(J:List Rw):List (Str×Nd):=J.filterMap λw=>(f w).map λn=>(w.x,n)
section
variable {f g:Rw->Option Nd}{ws:List Rw}{k:Nat}{p:Str}
theorem mV:∀ws:List Rw,((nN f ws).map (·.1)).Sublist (ws.map (·.x))
 |[]=>.slnil
 |w::ws=>by
  have:=mV ws;unfold nN at this ⊢;rw[List.filterMap_cons,mk0];cases f w with
  |none=>exact this.cons _
  |some n=>exact this.cons₂ _
theorem dj:∀{ws:List Rw},(ws.map (·.x)).Nodup->∀w∈ws,(nN f ws).lookup w.x=f w
 |v::ws,nd,w,h=>by
  obtain⟨J,K⟩:=List.nodup_cons.mp nd;have e:nN f (v::ws)=((f v).map λn=>(v.x,n)).toList++nN f ws:=by
   unfold nN;rw[List.filterMap_cons];cases f v<;>rfl
  rw[e];rcases mq0 h with rfl|h
  .cases q:f w with
   |none=>exact fj λz=>J ((mV ws).subset z)
   |some n=>simp
  .have ne:w.x≠v.x:=λz=>J @6
   have ih:=dj K w h;cases f v with
   |none=>exact ih
   |some n=>simp[lk0,bn0 ne];erw[ih]
theorem rz{f g:α->Option β}:∀{ws:List α},(∀w∈ws,f w=g w)->ws.filterMap f=ws.filterMap g
 |[],_=>rfl
 |w::ws,h=>by rw[List.filterMap_cons,List.filterMap_cons,h w ms0,rz λv J=>h v (mc0 _ J)]
theorem vp{f g:α->List β}:∀{ws:List α},(∀w∈ws,f w=g w)->ws.flatMap f=ws.flatMap g
 |[],_=>rfl
 |w::ws,h=>by rw[List.flatMap_cons,List.flatMap_cons,h w ms0,vp λv J=>h v (mc0 _ J)]
def MG(f:MF)(M:∀p b,f p b none none=(none,[]))(p:Str)(b o t){ns}(K:bY ns)(hs:∀x∈o.map (·.1)++t.map (·.1),x∈ns):mS f ns p b o t=mS f (nm2 o t) p b o t:=by
 have e:nm2 o t=ns.filter λx=>decide (x∈o.map (·.1)++t.map (·.1)):=by
  refine dM (bj _) (K.sublist List.filter_sublist) λx=>?_
  rw[nm2,mem_srtS,List.mem_filter];simp only[decide_eq_true_eq];exact(λh=>(hs x h,h),λh=>h.2)
 rw[e];have J:∀x,¬ (x∈o.map (·.1)++t.map (·.1))->f (jn p x) (b.lookup x) (o.lookup x) (t.lookup x)=(none,[]):=λx h=>by
  rw[fj λz=>h (List.mem_append_left _ z),fj λz=>h (mr0 _ z),M]
 clear e K hs;unfold mS
 induction ns with
 |nil=>rfl
 |cons x r ih=>
  rw[Prod.mk.injEq]at ih ⊢
  by_cases h:x∈o.map (·.1)++t.map (·.1)
  .rw[List.filter_cons_of_pos (by simpa using h),List.filterMap_cons,List.flatMap_cons,ih.1,ih.2]
   exact(rfl,rfl)
  .rw[List.filter_cons_of_neg (by simpa using h),List.filterMap_cons,List.flatMap_cons,J x h,<-ih.1,<-ih.2]
   exact(rfl,rfl)
def AX(J:∀w∈ws,mE k (jn p w.x) w.b w.o w.t=(w.r,w.c))(rise:bY (ws.map (·.x))):mT (mE k) p (some (.tree (Nds.of (nN (·.b) ws)))) (Nds.of (nN (·.o) ws)) (Nds.of (nN (·.t) ws))=(nN (·.r) ws,ws.flatMap (·.c)):=by
 have nd:=bO rise;unfold mT;rw[Nds.of_l,Nds.of_l,show ol _=(Nds.of _).l from rfl,Nds.of_l,
  ←MG _ (Ig k) p _ _ _ rise λx K=>(ma0 K).elim (λz=>(mV ws).subset z) λz=>(mV ws).subset z]
 have M:∀w∈ws,mE k _ ((nN (·.b) ws).lookup _) ((nN (·.o) ws).lookup _) ((nN (·.t) ws).lookup _)=(w.r,w.c):=λw h=>by
  rw[dj nd w h,dj nd w h,dj nd w h];erw[J w h]
 unfold mS;rw[List.filterMap_map,List.flatMap_map];refine Prod.ext (rz λw h=>?_) (vp λw h=>?_)
 .simp_all
 simp_all
def ze(nd:(ws.map (·.x)).Nodup)(h:some (Nd.tree (Nds.of (nN f ws)))=some (Nd.tree (Nds.of (nN g ws)))):∀w∈ws,f w=g w:=λw J=>by
 injection h with h
 injection h with h
 have:=congrArg Nds.l h;rw[Nds.of_l,Nds.of_l]at this;rw[<-dj (f:=f) nd w J,this,dj nd w J]
def DX(h:∀w∈ws,f w=g w):nN f ws=nN g ws:=rz λw J=>by rw[h w J]
def mW(K:∀w∈ws,mE k (jn p w.x) w.b w.o w.t=(Prod.mk w.r w.c))(rise:bY (ws.map (·.x)))(ne:nN (·.r) ws≠[]):mE (k+1) p (some (.tree (Nds.of (nN (·.b) ws)))) (some (.tree (Nds.of (nN (·.o) ws)))) (some (.tree (Nds.of (nN (·.t) ws))))=(Prod.mk (some (.tree (Nds.of (nN (·.r) ws)))) (ws.flatMap (·.c))):=by
 have nd:=bO rise;have fin:∀{f:Rw->Option Nd},(∀w∈ws,(Prod.mk w.r w.c)=(Prod.mk (f w) ([])))->(Prod.mk (some (Nd.tree _)) ([]))=(Prod.mk (some (.tree (Nds.of (nN _ ws)))) (ws.flatMap _)):=λ{f} h=>by
  rw[DX λw J=>(Prod.mk.inj (h w J)).1,List.flatMap_eq_nil_iff.mpr λw J=>(Prod.mk.inj (h w J)).2]
 by_cases h:some (Nd.tree (Nds.of (nN (·.o) ws)))=some (Nd.tree (Nds.of (nN (·.t) ws)))\/some (Nd.tree (Nds.of (nN (·.t) ws)))=some (Nd.tree (Nds.of (nN (·.b) ws)))
 .rw[di h]
  exact fin λw J=>by rw[<-K w J];erw[di (h.imp (λz=>ze nd z w J) λz=>ze nd z w J)]
 .by_cases g:some (Nd.tree (Nds.of (nN (·.o) ws)))=some (Nd.tree (Nds.of (nN (·.b) ws)))
  .rw[gY h g]
   refine fin λw J=>?_
   have e:=ze nd g w J;rw[<-K w J]
   by_cases q:w.o=w.t\/w.t=w.b
   .rw[di q]
    rcases q with q|q
    .rw[q]
    .rw[q,e]
   .erw[gY q e]
  .rw[jr h g,AX K rise,if_neg ne]
end
end TX
namespace SI
@[simp ↓ high] def ex_setmf{Φ}{Γ}{Y}{i}{mm}:ex Φ Γ Y (.setmf i mm)=(evM Φ Γ (fzM Y) mm).map λz=>.nx (z.2.set i (.dat z.1)):=(rfl)
end SI
namespace TX
open PySem SI M1 L2.Z
theorem Jf:∀l:List (Str×Int),jE (l.map bZ)=some (l.map λp=>([p.1],bZ p))
 |[]=>rfl
 |p::l=>by
  show (jE _).map _=_;rw[Jf l];rfl
theorem qJ(g:α->List Str×D):∀l:List α,∃J:List α,J.Perm l/\pK (l.map g)=J.map g
 |[]=>([],.refl _,rfl)
 |a::l=>by
  obtain⟨J,p,e⟩:=qJ g l;have K:∀l:List α,∃J:List α,J.Perm (a::l)/\pJ (g a) (l.map g)=J.map g:=by
   intro l
   induction l with
   |nil=>exact([a],.refl _,rfl)
   |cons b r ih=>
    obtain⟨O,p,e⟩:=ih;rw[mk0,pJ];split
    .exact(a::b::r,.refl _,rfl)
    .exact(b::O,(p.cons b).trans (.swap a b r),by rw[e];rfl)
  obtain⟨N,p2,M⟩:=K J;exact(N,p2.trans (p.cons a),by rw[mk0,pK,e,M])
def MZ{l}(h:l.length<7)(n:(l.map (·.1)).Nodup):∃J:List (Str×Int),BX (.list (l.map bZ))=some (.list (J.map bZ))/\J.Perm l/\bY (J.map (·.1)):=by
 obtain⟨J,p,e⟩:=qJ _ l;have nd:((l.map λp=>(([p.1],bZ p):List Str×D)).map (·.1)).Nodup:=by
  rw[List.map_map];erw[List.pairwise_map.mpr ((List.pairwise_map.mp n).imp λz e=>z (by injection e))]
 refine(J,?_,p,?_)
 .show (jE (l.map bZ)).bind BW=_
  rw[Jf,bs0,BW,if_pos (by simpa using h,nd),e,List.map_map];rfl
 .have K:=iI (l.map λp=>([p.1],bZ p))
  rw[e]at K;have K:=List.pairwise_map.mp K;have N:=(p.map _).nodup_iff.mpr n;refine List.pairwise_map.mpr ((List.Pairwise.and K (List.pairwise_map.mp N)).imp λ{a b} z=>?_);have M:=z.1;rw[uB]at M;erw[iF (Ne.symm z.2) M]
def RepL.perm{L}{ps ps'}(h:ps'.Perm ps):∀{es:List (Str×Nd)},RepL L ps es->∃es',es'.Perm es/\RepL L ps' es':=by
 induction h with
 |nil=>intro es r;exact(es,.refl _,r)
 |cons a _ ih=>
  intro es r;cases es with
  |nil=>exact r.elim
  |cons e es=>
   obtain⟨es',p,q⟩:=ih r.2;exact(_,p.cons e,r.1,q)
 |swap a b l=>
  intro es r
  match es,r with
  |e::d::es,r=>exact(_,.swap _ _ _,r.2.1,r.1,r.2.2)
 |trans _ _ J K=>
  intro es r;obtain⟨U,N,O⟩:=K r;obtain⟨M,p2,R⟩:=J O;exact(M,p2.trans N,R)
theorem RepL.app{L}:∀{ps qs:List (Str×Int)}{es J:List (Str×Nd)},RepL L ps es->RepL L qs J->RepL L (ps++qs) (es++J)
 |[],_,[],_,_,h=>h
 |_::_,_,_::_,_,h,g=>(h.1,h.2.app g)
def Br{l J:List (Str×Nd)}(h:l.Perm J)(r:bY (l.map (·.1)))(r':bY (J.map (·.1))):l=J:=
 h.eq_of_pairwise (λa b c c K M=>by have:=eY K M;rw[aU]at this;cases this) (List.pairwise_map.mp r) (List.pairwise_map.mp r')
abbrev rB:=List (Str×Option Str)
def sD(q:Str×Option Str):D:=.tuple [.str q.1,oS q.2]
def pcs(J p:Str):List Str:=Txt.split (Txt.slice p (some (J.length:Int)) none) ⟨#[47]⟩
def cl(J p:Str):Option (Str×Bool):=if Txt.slice p none (some (J.length:Int))=J then some ((pcs J p).headD Str.empty,decide ((pcs J p).length=1))else none
def dm(J:Str)(q:Str×Option Str):Option (Str×Nd):=match cl J q.1,q.2 with
 |some (x,true),some t=>some (x,.blob t)
 |_,_=>none
def pD(J:Str)(acc:A1)(q:Str×Option Str):List Str:=match cl J q.1,q.2 with
 |some (x,false),some _=>if x∈acc then acc else acc++[x]
 |_,_=>acc
abbrev inns(J:Str)(K:rB):List Str:=K.foldl (pD J) []
noncomputable def rM{J K:Type}(P:J->K->Prop):List J->List K->Prop
 |[],[]=>True
 |a::M,b::N=>P a b/\rM P M N
 |_,_=>False
def Fol:Nat->rB->Str->Nd->Prop
 |0,_,_,_=>False
 |k+1,K,J,N=>∃M l,rM (λx n=>Fol k K (J++x++⟨#[47]⟩) n) (inns J K) M/\(inns J K).length<=2/\N=.tree (Nds.of l)/\l.Perm (K.filterMap (dm J)++(inns J K).zip M)/\Good (l.map (·.1))/\l.length<=6
def fM:Nat->Nat
 |0=>0
 |k+1=>12+2*fM k
structure Bv(sd:rB):Prop where
 len:sd.length<=11
 path:∀q∈sd,q.1.length<=20
def AZ{x}{l:A1}:inD (.str x) (.list (l.map .str))=some (decide (x∈l)):=by
 have o:(l.map D.str).all (okS 19)=true:=List.all_eq_true.mpr λd J=>by obtain⟨y,_,rfl⟩:=mm0 J;rfl
 show (if (okS 20 _&&(l.map _).all _)=true then _ else _)=_;rw[o,if_pos (rfl:(okS 20 _&&true)=true)]
 congr 1
 rw[Bool.eq_iff_iff];simp
abbrev Oa(c k:Nat)(K:List D->Option D):Prop:=∀(L:List Th)(M:rB)(J:Str)(N:Nd),Bv M->J.length+13*k<=60->Fol k M J N->L.length+fM k<=900->∃L' i,K [vt c L,.list (M.map sD),.str J]=some (.tuple [.int (i:Nat),vt c L'])/\N.rep L' i/\Ex L L'/\L'.length<=L.length+fM k
abbrev zp(Φ:Fs)(c k:Nat):Prop:=Has Φ "_law_folder_of" [true,true,true] (Oa c k)
theorem vz{k:Nat}{P:Str->Nd->Prop}{f:D->D->Option (D×D)}(hs:∀(L:List Th)(x:Str)(n:Nd),P x n->L.length+fM k<=900->∃(L':List Th)(i:Nat),f (.str x) (vt c L)=some (bZ (x,(i:Int)),vt c L')/\n.rep L' i/\Ex L L'/\L'.length<=L.length+fM k):∀(xs:A1)(ns:List Nd)(L:List Th),rM P xs ns->L.length+xs.length*fM k<=900->
  ∃(L':List Th)(ps:List (Str×Int)),lj f (xs.map .str) (vt c L)=some (ps.map bZ,vt c L')/\RepL L' ps (xs.zip ns)/\Ex L L'/\L'.length<=L.length+xs.length*fM k
 |[],[],L,_,_=>(L,[],rfl,trivial,Ex.refl _,by simp)
 |x::xs,n::ns,L,h,U=>by
  rw[lc0,Nat.succ_mul]at U;obtain⟨K,i,M,a2,N,V⟩:=hs L x n h.1 @1;obtain⟨L2,ps,O,R,J,W⟩:=vz hs xs ns K h.2 @1;refine(L2,(x,(i:Int))::ps,?_,((rfl,i,rfl,Nd.rep_ex J n i a2),R),N.trans J,by rw[lc0,Nat.succ_mul];lia);rw[mk0,lj,M,bs0,O];rfl
def Na{pre p}:dm pre (p,none)=none:=by
 unfold dm;rcases cl _ p with _|⟨x,_|_⟩<;>rfl
def Nb{pre p}{acc}:pD pre acc (p,none)=acc:=by
 unfold pD;rcases cl _ p with _|⟨x,_|_⟩<;>rfl
def Ng(J p:Str):∃x r,pcs J p=x::r:=by
 have:=zw (Txt.slice p (some J.length) none) 47;cases h:pcs _ p with
 |nil=>exact absurd h this
 |cons x r=>exact(x,r,rfl)
structure OI(L0:List Th)(pre:Str)(fs:List (Str×Nd))(is:A1)(q:rB)(L:List Th)(ps:List (Str×Int))(es:List (Str×Nd))(acc:A1):Prop where
 ex:Ex L0 L
 rep:RepL L ps es
 e1:es++q.filterMap (dm pre)=fs
 e2:q.foldl (pD pre) acc=is
 lL:L.length+q.length<=L0.length+11
 lp:ps.length+q.length<=11
 la:acc.length+q.length<=11
 path:∀z∈q,z.1.length<=20
theorem vA{α β}{P}:∀{xs:List α}{J:List β},rM P xs J->xs.length=J.length
 |[],[],_=>rfl
 |_::_,_::_,h=>congrArg _ (vA h.2)
theorem vB{α β}{P}{Q:α->Prop}:∀{xs:List α}{J:List β},(∀x∈xs,Q x)->rM P xs J->rM (λx n=>Q x/\P x n) xs J
 |[],[],_,_=>trivial
 |x::_,_::_,q,h=>((q x ms0,h.1),vB (λy K=>q y (mc0 _ K)) h.2)
def Ik{pre x}{k}(J:aK x=true)(M:pre.length+13*(k+1+1)<=60):(pre++x++⟨#[47]⟩).length+13*(k+1)<=60/\pre.length+x.length<=big/\pre.length+x.length+1<=big:=by
 have N:=(iK J).2;have K:(⟨#[47]⟩:Str).length=1:=rfl;refine(?_,nt0 (m:=72) @5 @2,nt0 (m:=73) @5 @2);rw[oX,oX,K]
 grind
abbrev ND:Ss:=(.cons (.setmf 3 (.cat (.v 3) (.comp 1 [2,1,0] 3 0 (.one 0) (.seq (.v 4)) (.tup [.x (.p (.v 0)),.x (.call "_law_folder_of" 0 3 [.v 3,.v 2,.x (.p (.op .add (.op .add (.v 1) (.v 0)) (.k (.str ⟨#[47]⟩))))])])))) (.cons (.retm (.call "tree" 0 0 [.v 0,.x (.p (.srtn (.v 3)))])) .nil))
def Ir{k:Nat}{M:List Th}{K:rB}{J:Str}{U:List Nd}{l:List (Str×Nd)}{ps:List (Str×Int)}{s5 s6:Sl}(s:Ap Φ c)(hs:0<k->zp Φ c k)(so:Bv K)(o:J.length+13*(k+1)<=60)(B:rM (λx n=>Fol k K (J++x++⟨#[47]⟩) n) (inns J K) U)(C:(inns J K).length<=2)(Z:l.Perm (K.filterMap (dm J)++(inns J K).zip U))(O:Good (l.map (·.1)))(f5:l.length<=6)(rep1:RepL M ps (K.filterMap (dm J)))(hz:M.length+2*fM k<=899):
  ∃(L':List Th)(i:Nat),exs Φ Γ [.io (vt c M),.lent (.list (K.map sD)),.lent (.str J),.own (.list (ps.map bZ)),.own (.list ((inns J K).map .str)),s5,s6] ND=some (.rt (.int (i:Nat)) (vt c L'))/\(Nd.tree (Nds.of l)).rep L' i/\Ex M L'/\L'.length<=M.length+2*fM k+1:=by
 obtain⟨r2,A,r⟩:=s;have a:(inns J K).length<big:=Nat.lt_of_le_of_lt C @2;have m2:(inns J K).length*fM k<=2*fM k:=Nat.mul_le_mul_right _ C;generalize inns J K=W at *;simp[a];generalize b:lq Φ Γ _ _ _ _ _ _=f;have n1:(⟨#[47]⟩:Str).length=1:=rfl;have kl:=vA B;have zn:(W.zip U).map (·.1)=W:=List.map_fst_zip @6;have xn:∀x∈W,aK x=true:=λx e=>O.2.1 x ((Z.map _).mem_iff.mpr (by
  rw[List.map_append];erw[mr0 _ (by rw[zn];exact e)]))
 obtain⟨L2,V,G,I,F,b4⟩:=vz (c:=c) (k:=k) (f:=f) (P:=λx n=>aK x=true/\Fol k K (J++x++⟨#[47]⟩) n) (λL x n T hz=>by
  cases k with
  |zero=>exact T.2.elim
  |succ k=>
   obtain⟨r3,z,d⟩:=hs (Nat.succ_pos k);obtain⟨g,v,t⟩:=Ik T.1 o;obtain⟨L',i,p,q⟩:=d L K _ n so g T.2 hz;exact(L',i,by rw[<-b];simp[lq,z,p,bZ,v,oX,t,n1],q)) W U M (vB xn B) (by grind)
 have R:=(rep1.ex F).app I;have rn:=R.names;have S:((ps++V).map (·.1)).Perm (l.map (·.1)):=by rw[rn];exact (Z.map _).symm
 have nd:=S.nodup_iff.mpr (bO O.1);have pl:(ps++V).length=l.length:=by simpa using S.length_eq
 obtain⟨Y,D,E,X⟩:=MZ (l:=ps++V) @5 nd;obtain⟨u,H,N⟩:=RepL.perm E R;have y:u=l:=Br (H.trans Z.symm) (by rw[<-N.names];erw[X]) O.1;subst y;obtain⟨j,h,j2⟩:=r L2 Y (by rw[N.names];erw[O]) N.lt @1;obtain⟨Q,p2⟩:=rp L2 (.tree Y);refine(putL L2 (.tree Y),j,?_,rep_tree.mpr (Y,h,by rw[Nds.of_l];erw[N.ex Q]),F.trans Q,by lia);have pb:ps.length+V.length<=big:=nt0 (m:=6) (by rw[la0]at pl;lia) @2;rw[List.map_append]at D;simp[-SI.BX,G,pb,A,D,j2]
def rO(hb:As Φ c)(ht:Ap Φ c)(k:Nat)(hs:0<k->zp Φ c k):Oa c (k+1) (ans Φ Γ bq):=by
 intro L I K N E hp hF A;obtain⟨r1,e1,h1⟩:=hb;obtain⟨r2,e2,h2⟩:=ht;obtain⟨ks,l,f1,f2,rfl,f3,f4,f5⟩:=hF;have A:L.length+(12+2*fM k)<=900:=A;have Q:K.length<=big:=nt0 (m:=60) @5 @2;simp only[ans_e,bq];simp;refine gP (inj:=sD) (F:=λs:List Th×List (Str×Int)×List (Str×Nd)×List Str×Sl×Sl=>[.io (vt c s.1),.lent (.list (I.map sD)),.lent (.str K),.own (.list (s.2.1.map bZ)),.own (.list (s.2.2.2.1.map .str)),s.2.2.2.2.1,s.2.2.2.2.2]) (s:=(L,[],[],[],.no,.no)) (J:=λq s=>OI L K (I.filterMap (dm K)) (inns K I) q s.1 s.2.1 s.2.2.1 s.2.2.2.1) (P:=λo=>∃(L':List Th)(i:Nat),cJ (.io 0) (nxS Φ Γ o _)=some (.tuple [.int (i:Nat),vt c L'])/\(Nd.tree (Nds.of l)).rep L' i/\Ex L L'/\L'.length<=L.length+(12+2*fM k)) (λs Z=>?_) (λq r s Z=>?_) (.refl _,trivial,rfl,rfl,by simpa using E.len,by simpa using E.len,by simpa using E.len,E.path)
 .obtain⟨W,T,Y,M,s5,s6⟩:=s
  obtain⟨R,rep1,U,a2,u,lp,h,_⟩:=Z;simp only[]at *;have U:Y=I.filterMap (dm K):=by rw[<-U];simp
  have a2:M=inns K I:=a2;subst U a2;have u:W.length<=L.length+11:=u;rw[iT];obtain⟨L',n,b,q2,q3,q4⟩:=Ir (Γ:=Γ) (s5:=s5) (s6:=s6) (r2,e2,h2) hs E hp f1 f2 f3 f4 f5 rep1 @1;exact(L',n,by rw[b];rfl,q2,R.trans q3,by lia)
 .obtain⟨W,T,Y,M,s5,s6⟩:=s
  obtain⟨R,rep1,U,a2,u,lp,h,S⟩:=Z;simp only[]at *;obtain⟨path,X⟩:=q;have pq:path.length<=20:=S (path,X) ms0;obtain⟨x,H,a⟩:=Ng K path;rw[List.filterMap_cons]at U;rw[List.foldl_cons]at a2;rw[lc0]at u lp h;have O:∀z∈r,z.1.length<=20:=λz A=>S z (mc0 _ A)
  have C:path.length<=big:=nt0 pq @2;have G:(Txt.slice path (some (K.length:Int)) none).length+2<=big:=nt0 (m:=22) (by have:=Txt.slice_le path (some (K.length:Int)) none;lia) @2;have V:Txt.split (Txt.slice path (some (K.length:Int)) none) ⟨#[47]⟩=x::H:=a;have d:T.length<big:=Nat.lt_of_le_of_lt (m:=11) @1 @2;have f:M.length<big:=Nat.lt_of_le_of_lt (m:=11) @1 @2;have B:(⟨#[47]⟩:Str).length=1:=rfl
  by_cases g:Txt.slice path none (some (K.length:Int))=K
  .cases X with
   |none=>
    refine((W,T,Y,M,.dat (sD (path,none)),.dat (.list ((x::H).map .str))),(R,rep1,?_,?_,by dsimp only;lia,by dsimp only;lia,by dsimp only;lia,O),?_)
    .rw[Na]at U;erw[U]
    .rw[Nb]at a2;erw[a2]
    .simp[sD,C,Q,G,V,B,g,oS]
   |some t=>
    have D:cl K path=some (x,decide (H=[])):=by
     unfold cl;rw[if_pos g,a];simp
    cases H with
    |nil=>
     rw[dt0 rfl]at D;obtain⟨j,jt,b⟩:=h1 W t @1;obtain⟨p1,p2⟩:=rp W (.blob t);have v:dm K (path,some t)=some (x,.blob t):=by unfold dm;rw[D]
     have p:pD K M (path,some t)=M:=by unfold pD;rw[D]
     rw[v]at U;rw[p]at a2;refine((putL W (.blob t),T++[(x,(j:Int))],Y++[(x,.blob t)],M,.dat (sD (path,some t)),.dat (.list [.str x])),(R.trans p1,(rep1.ex p1).snoc (by rw[Nd.rep];erw[jt]),by rw[<-U,List.append_assoc];rfl,a2,by dsimp only;lia,by dsimp only;rw[la0];show _+1+_<=_;lia,by dsimp only;lia,O),?_);simp[sD,C,Q,G,V,B,g,oS,e1,b,d,bZ]
    |cons y e=>
     rw[df0 @0]at D;have nz:¬ ((e.length:Int)+1+1=1):=by lia
     have v:dm K (path,some t)=none:=by unfold dm;rw[D]
     have p:pD K M (path,some t)=if x∈M then M else M++[x]:=by unfold pD;rw[D]
     rw[v]at U;rw[p]at a2
     by_cases m:x∈M
     .rw[if_pos m]at a2
      refine((W,T,Y,M,.dat (sD (path,some t)),.dat (.list ((x::y::e).map .str))),(R,rep1,U,a2,by dsimp only;lia,by dsimp only;lia,by dsimp only;lia,O),?_);simp[sD,C,Q,G,V,B,g,oS,AZ,m,nz]
     .rw[if_neg m]at a2
      refine((W,T,Y,M++[x],.dat (sD (path,some t)),.dat (.list ((x::y::e).map .str))),(R,rep1,U,a2,by dsimp only;lia,by dsimp only;lia,by dsimp only;rw[la0];show _+1+_<=_;lia,O),?_);simp[sD,C,Q,G,V,B,g,oS,AZ,m,f,nz]
  .refine((W,T,Y,M,.dat (sD (path,X)),.dat (.list ((x::H).map .str))),(R,rep1,?_,?_,by dsimp only;lia,by dsimp only;lia,by dsimp only;lia,O),?_)
   .rw[show dm K (path,X)=none by unfold dm cl;rw[if_neg g]]at U;erw[U]
   .rw[show pD K M (path,X)=M by unfold pD cl;rw[if_neg g]]at a2;erw[a2]
   .simp[sD,C,Q,G,V,B,g]
mutual
noncomputable def Nd.flat(p:Str):Nd->List (Str×Str)
 |.blob t=>[(p,t)]
 |.tree J=>J.flat p
noncomputable def Nds.flat(p:Str):Nds->List (Str×Str)
 |.nil=>[]
 |.cons x n r=>n.flat (jn p x)++r.flat p
end
theorem zr{p:Str}:∀es:Nds,es.flat p=es.l.flatMap λq=>q.2.flat (jn p q.1)
 |.nil=>by rw[Nds.flat];rfl
 |.cons x n r=>by rw[Nds.flat,Nds.l,List.flatMap_cons,zr r]
def Flt:Nat->Nd->Prop
 |_,.blob _=>True
 |0,.tree _=>False
 |k+1,.tree J=>J.l.length<=6/\∀q∈J.l,aK q.1=true/\Flt k q.2
noncomputable abbrev fE(q:(Str×Str)×Nat):D:=.tuple [.str q.1.1,.int q.2]
abbrev vC(Φ:Fs):Prop:=Has Φ "names_of" [true] λJ=>J [.str Str.empty]=some (.list [])
def rT:ans Φ Γ cS [.str Str.empty]=some (.list []):=by
 simp only[ans_e,cS];simp[show⟨_⟩=Str.empty from rfl]
def AtB(L:List Th)(qs:List ((Str×Str)×Nat)):Prop:=∀q∈qs,L[q.2]?=some (.blob q.1.2)
abbrev Ob(c k:Nat)(M:List D->Option D):Prop:=∀(L:List Th)(K:Nds)(i:Nat)(p:Str),(Nd.tree K).rep L i->Flt k (.tree K)->p.length+13*k<=80->∃J:List ((Str×Str)×Nat),M [vt c L,.int i,.str p]=some (.list (J.map fE))/\J.map (·.1)=K.flat p/\AtB L J/\J.length<=6 ^ k
abbrev ES(Φ:Fs)(c k:Nat):Prop:=Has Φ "blobs_below" [true,true,true] (Ob c k)
structure OJ(L:List Th)(p:Str)(k:Nat)(all:List (Str×Str))(q:List (Str×Int))(qs:List ((Str×Str)×Nat)):Prop where
 rep:∃es,RepL L q es/\(∀z∈es,aK z.1=true/\Flt k z.2)/\qs.map (·.1)++es.flatMap (λz=>z.2.flat (jn p z.1))=all
 at':AtB L qs
 len:qs.length+q.length*6 ^ k<=6*6 ^ k
def sx(k:Nat)(hk:k<=3)(he:gK Φ c)(hj:oP Φ)(hK:qi Φ c)(hB:0<k->ES Φ c k):Ob c (k+1) (ans Φ Γ (bo c)):=by
 intro L B i p hr f hp;obtain⟨r1,e1,h1⟩:=he;obtain⟨r2,A,h2⟩:=hj;obtain⟨d,u,g⟩:=hK;obtain⟨W,p1,p2⟩:=rep_tree.mp hr;have q1:=h1 0 _ i (W.map bZ) (eJ p1);have pl:W.length<=6:=by have:=congrArg List.length p2.names;simp at this;rw[this];erw[f.1]
 have w6:6 ^ k<=216:=Nat.pow_le_pow_right (n:=6) @2 hk;have w1:1<=6 ^ k:=Nat.one_le_pow _ _ @2;have pm:W.length*6 ^ k<=6*6 ^ k:=Nat.mul_le_mul_right _ pl;simp only[ans_e,bo];simp[e1,show r1 [D.vlt c 0 (L.map Th.o),.int i]=some (.list (W.map bZ))from q1];refine gP (inj:=bZ) (F:=λs:List ((Str×Str)×Nat)×Sl×Sl×Sl=>[.lent (vt c L),.lent (.int i),.lent (.str p),.own (.list (s.1.map fE)),s.2.1,s.2.2.1,s.2.2.2]) (s:=([],.no,.no,.no)) (J:=λq s=>OJ L p k (B.flat p) q s.1) (P:=λo=>∃M:List ((Str×Str)×Nat),cJ .pure (nxS Φ Γ o _)=some (.list (M.map fE))/\M.map (·.1)=B.flat p/\AtB L M/\M.length<=6 ^ (k+1)) (λs Q=>?_) (λq r s Q=>?_) ((B.l,p2,f.2,by rw[zr];rfl),(λa h=>by cases h),by simpa using pm)
 .obtain⟨M,s4,s5,s6⟩:=s
  obtain⟨⟨K,R,_,a2⟩,U,Y⟩:=Q;simp only[]at *;refine(M,by simp,?_,U,by rw[Nat.pow_succ];simp at Y;lia);cases K with
  |nil=>rw[<-a2];simp
  |cons e K=>exact R.elim
 .obtain⟨M,s4,s5,s6⟩:=s
  obtain⟨⟨K,R,X,a2⟩,U,Y⟩:=Q;simp only[]at *;cases K with
  |nil=>exact R.elim
  |cons e K=>
   obtain⟨x,n⟩:=e;obtain⟨y,m⟩:=q;obtain⟨⟨Z,j,T,N⟩,H⟩:=R;have Z:y=x:=Z;have T:m=j:=T;subst Z T;obtain⟨nx,V⟩:=X _ ms0;have O:∀z∈K,aK z.1=true/\Flt k z.2:=λz hz=>X z (mc0 _ hz)
   have b:=(iK nx).2;have v:=h2 p y @1 (by dsimp only at b;lia);rw[lc0,Nat.succ_mul]at Y;rw[List.flatMap_cons]at a2;cases n with
   |blob t=>
    rw[Nd.rep]at N;have G:=g 0 _ j bx _ (eJ N);refine((M++[((jn p y,t),j)],.dat (.str y),.dat (.int j),.dat (.str (jn p y))),((K,H,O,by rw[<-a2,Nd.flat];simp),λz hz=>?_,by dsimp only;rw[la0];show _+1+_<=_;lia),?_)
    .rcases ma0 hz with hz|hz
     .erw[U z hz]
     .rw[List.mem_singleton.mp hz];erw[N]
    .have S:M.length<big:=Nat.lt_of_le_of_lt (m:=1296) @1 @2
     simp[A,v,u,bZ,show d [D.vlt c 0 (L.map Th.o),.int j]=some (.str bx)from G,S]
   |tree C=>
    have V:Flt k (.tree C):=V;have N:(Nd.tree C).rep L j:=N;obtain⟨j0,I,_⟩:=rep_tree.mp N;have G:=g 0 _ j ao _ (eJ I);cases k with
    |zero=>exact V.elim
    |succ k=>
     obtain⟨r4,e4,h4⟩:=hB (Nat.succ_pos k);have jl:=Bb (p:=p) (x:=y);obtain⟨E,z1,z2,z3,z4⟩:=h4 L C j (jn p y) N V (by dsimp only at b;lia);refine((M++E,.dat (.str y),.dat (.int j),.dat (.str (jn p y))),((K,H,O,by rw[<-a2,Nd.flat,List.map_append,z2,List.append_assoc]),λz hz=>?_,by dsimp only;rw[la0];lia),?_)
     .rcases ma0 hz with hz|hz
      .erw[U z hz]
      .erw[z3 z hz]
     .have S:M.length+E.length<=big:=nt0 (m:=1296) @1 @2
      simp[A,v,u,e4,bZ,show d [D.vlt c 0 (L.map Th.o),.int j]=some (.str ao)from G,show ¬ ao=bx by decide,show r4 [D.vlt c 0 (L.map Th.o),.int j,.str (jn p y)]=some (.list (E.map fE))from z1,S]
abbrev zE(Φ:Fs)(c:Nat):Prop:=Has Φ "files" [true,true,true] λM=>∀(L:List Th)(K:Nds)(i:Nat),(Nd.tree K).rep L i->Flt 3 (.tree K)->∃J:List ((Str×Str)×Nat),M [vt c L,.int i,.str Str.empty]=some (.list (J.map fE))/\J.map (·.1)=K.flat Str.empty/\AtB L J/\J.length<=216
def BB(N:vC Φ)(K:ES Φ c 3)(L:List Th)(es:Nds)(i:Nat)(O:(Nd.tree es).rep L i)(M:Flt 3 (.tree es)):∃qs:List ((Str×Str)×Nat),ans Φ Γ nB [vt c L,.int i,.str Str.empty]=some (.list (qs.map fE))/\qs.map (·.1)=es.flat Str.empty/\AtB L qs/\qs.length<=216:=by
 obtain⟨W,R,V⟩:=N;obtain⟨Y,U,J⟩:=K;obtain⟨qs,a,b⟩:=J L es i Str.empty O M @2;refine(qs,?_,b);simp only[ans_e,nB]
 simp_all
noncomputable abbrev n0:Str:=⟨#[48]⟩
noncomputable abbrev na:Str:=⟨#[97]⟩
noncomputable abbrev nb:Str:=⟨#[98]⟩
noncomputable abbrev nd:Str:=⟨#[100]⟩
noncomputable abbrev ne:Str:=⟨#[101]⟩
noncomputable abbrev nf:Str:=⟨#[102]⟩
noncomputable abbrev nk:Str:=⟨#[107]⟩
noncomputable abbrev nz:Str:=⟨#[122]⟩
def P11:List Str:=[n0,na,⟨#[100,47,97]⟩,⟨#[100,47,101,47,97]⟩,⟨#[100,47,101,47,107]⟩,⟨#[100,47,101,47,122]⟩,⟨#[100,47,107]⟩,⟨#[102,47,98]⟩,⟨#[102,47,107]⟩,nk,nz]
def OK:P11.map (cl ⟨#[]⟩)=[some (n0,true),some (na,true),some (nd,false),some (nd,false),some (nd,false),some (nd,false),some (nd,false),some (nf,false),some (nf,false),some (nk,true),some (nz,true)]:=by decide +kernel
def OL:P11.map (cl ⟨#[100,47]⟩)=[none,none,some (na,true),some (ne,false),some (ne,false),some (ne,false),some (nk,true),none,none,none,none]:=by decide +kernel
def OM:P11.map (cl ⟨#[100,47,101,47]⟩)=[none,none,none,some (na,true),some (nk,true),some (nz,true),none,none,none,none,none]:=by decide +kernel
def ON:P11.map (cl ⟨#[102,47]⟩)=[none,none,none,none,none,none,none,some (nb,true),some (nk,true),none,none]:=by decide +kernel
noncomputable def gF(q:Option (Str×Bool)×Option Str):Option (Str×Nd):=match q.1,q.2 with
 |some (x,true),some t=>some (x,.blob t)
 |_,_=>none
noncomputable def gI(acc:A1)(q:Option (Str×Bool)×Option Str):List Str:=match q.1,q.2 with
 |some (x,false),some _=>if x∈acc then acc else acc++[x]
 |_,_=>acc
def Iu{o:Option Str}:gF (some (x,true),o)=o.map λt=>(x,.blob t):=by cases o<;>rfl
def NF{o:Option Str}:gF (none,o)=none:=rfl
def Iv{a}{o:Option Str}:gI a (some (x,true),o)=a:=rfl
def NG{a}{o:Option Str}:gI a (none,o)=a:=rfl
def nO{ss}{pre}:(ps.zip ss).filterMap (dm pre)=((ps.map (cl pre)).zip ss).filterMap gF:=by
 rw[List.zip_map_left,List.filterMap_map];rfl
def oh{ss}{pre}{a}:(ps.zip ss).foldl (pD pre) a=((ps.map (cl pre)).zip ss).foldl gI a:=by
 rw[List.zip_map_left,List.foldl_map];rfl
section
variable (s0 s1 s2 s3 s5 s7 s10:Option Str)(t4 t6 t8 t9:Str)
noncomputable abbrev s11:rB:=P11.zip [s0,s1,s2,s3,some t4,s5,some t6,s7,some t8,some t9,s10]
noncomputable abbrev fl(x:Str)(s:Option Str):List (Str×Nd):=(s.map λt=>(x,Nd.blob t)).toList
def pO{f:α->Option β}{a}{l}:(a::l).filterMap f=(f a).toList++l.filterMap f:=by
 rw[List.filterMap_cons];cases f a<;>rfl
def Od:(s11 s0 s1 s2 s3 s5 s7 s10 t4 t6 t8 t9).filterMap (dm ⟨#[]⟩)=fl n0 s0++fl na s1++(fl nk (some t9)++fl nz s10)/\inns ⟨#[]⟩ (s11 s0 s1 s2 s3 s5 s7 s10 t4 t6 t8 t9)=[nd,nf]:=by
 unfold inns;rw[nO,oh,OK];refine(by simp[List.zip,pO,Iu,(rfl)];rfl,?_);cases s2<;>cases s3<;>cases s5<;>cases s7<;>rfl
def Oe:(s11 s0 s1 s2 s3 s5 s7 s10 t4 t6 t8 t9).filterMap (dm ⟨#[100,47]⟩)=fl na s2++fl nk (some t6)/\inns ⟨#[100,47]⟩ (s11 s0 s1 s2 s3 s5 s7 s10 t4 t6 t8 t9)=[ne]:=by
 unfold inns;rw[nO,oh,OL];refine(by simp[pO,Iu];rfl,?_);cases s3<;>cases s5<;>rfl
def Of:(s11 s0 s1 s2 s3 s5 s7 s10 t4 t6 t8 t9).filterMap (dm ⟨#[100,47,101,47]⟩)=fl na s3++fl nk (some t4)++fl nz s5/\inns ⟨#[100,47,101,47]⟩ (s11 s0 s1 s2 s3 s5 s7 s10 t4 t6 t8 t9)=[]:=by
 unfold inns;rw[nO,oh,OM];exact(by simp[pO,Iu,NF];rfl,rfl)
def Og:(s11 s0 s1 s2 s3 s5 s7 s10 t4 t6 t8 t9).filterMap (dm ⟨#[102,47]⟩)=fl nb s7++fl nk (some t8)/\inns ⟨#[102,47]⟩ (s11 s0 s1 s2 s3 s5 s7 s10 t4 t6 t8 t9)=[]:=by
 unfold inns;rw[nO,oh,ON];exact(by simp[pO,Iu];rfl,rfl)
def cn{s}:((fl x s).map (·.1)).Sublist [x]:=by
 cases s with
 |none=>exact List.nil_sublist _
 |some t=>exact List.Sublist.refl _
def hU{l:List (Str×Nd)}{ns}(h:(l.map (·.1)).Sublist ns)(g:Good ns)(K:ns.length<=6):Good (l.map (·.1))/\l.length<=6:=
 ((g.1.sublist h,λx J=>g.2.1 x (h.subset J),nt0 h.length_le g.2.2),by grind)
def oF{ns}(h:(ns.length<=6/\ns.all aK=true)/\ns.Pairwise (λa b=>ltS a b=true)):Good ns/\ns.length<=6:=
 ((h.2,λx J=>List.all_eq_true.mp h.1.2 x J,nt0 h.1.1 @2),h.1.1)
abbrev eL:List (Str×Nd):=fl na s3++fl nk (some t4)++fl nz s5
abbrev dL:List (Str×Nd):=fl na s2++([(ne,Nd.tree (Nds.of (eL s3 s5 t4)))]++fl nk (some t6))
abbrev fL:List (Str×Nd):=fl nb s7++fl nk (some t8)
abbrev tL:List (Str×Nd):=fl n0 s0++fl na s1++([(nd,Nd.tree (Nds.of (dL s2 s3 s5 t4 t6))),(nf,Nd.tree (Nds.of (fL s7 t8)))]++(fl nk (some t9)++fl nz s10))
def g_e:Good [na,nk,nz]/\[na,nk,nz].length<=6:=oF @14
def g_d:Good [na,ne,nk]/\[na,ne,nk].length<=6:=oF @14
def g_f:Good [nb,nk]/\[nb,nk].length<=6:=oF @14
def g_t:Good [n0,na,nd,nf,nk,nz]/\[n0,na,nd,nf,nk,nz].length<=6:=oF @14
def bG{a b:List (Str×Nd)}{ns ms}(h:(a.map (·.1)).Sublist ns)(g:(b.map (·.1)).Sublist ms):((a++b).map (·.1)).Sublist (ns++ms):=by
 rw[List.map_append];erw[h.append g]
def Oh:Fol 1 (s11 s0 s1 s2 s3 s5 s7 s10 t4 t6 t8 t9) ⟨#[100,47,101,47]⟩ (.tree (Nds.of (eL s3 s5 t4))):=by
 obtain⟨K,J⟩:=Of s0 s1 s2 s3 s5 s7 s10 t4 t6 t8 t9;refine([],eL s3 s5 t4,by rw[J];trivial,by rw[J];decide,rfl,by rw[K,J];simp,hU (bG (bG cn cn) cn) g_e.1 g_e.2)
def Oi:Fol 1 (s11 s0 s1 s2 s3 s5 s7 s10 t4 t6 t8 t9) ⟨#[102,47]⟩ (.tree (Nds.of (fL s7 t8))):=by
 obtain⟨K,J⟩:=Og s0 s1 s2 s3 s5 s7 s10 t4 t6 t8 t9;refine([],fL s7 t8,by rw[J];trivial,by rw[J];decide,rfl,by rw[K,J];simp,hU (bG cn cn) g_f.1 g_f.2)
theorem ET:∀{k:Nat}{M:rB}{J}{N:Nd},Fol k M J N->Fol (k+1) M J N
 |0,_,_,_,h=>h.elim
 |k+1,M,J,N,h=>by
  obtain⟨U,l,R,r⟩:=h;have V:∀{O:List _}{K:List Nd},rM (λx n=>Fol k M (J++x++⟨#[47]⟩) n) O K->rM (λx n=>Fol (k+1) M (J++x++⟨#[47]⟩) n) O K:=by
   intro O
   induction O with
   |nil=>intro K h;cases K with
    |nil=>trivial
    |cons=>exact h.elim
   |cons x O ih=>intro K h;cases K with
    |nil=>exact h.elim
    |cons n K=>exact(ET h.1,ih h.2)
  exact(U,l,V R,r)
def Oj:Fol 2 (s11 s0 s1 s2 s3 s5 s7 s10 t4 t6 t8 t9) ⟨#[100,47]⟩ (.tree (Nds.of (dL s2 s3 s5 t4 t6))):=by
 obtain⟨K,J⟩:=Oe s0 s1 s2 s3 s5 s7 _ t4 t6 t8 t9;have:=Oh s0 s1 s2 s3 s5 s7 s10 t4 t6 t8 t9;refine([_],_,by rw[J];exact(this,trivial),by rw[J];decide,rfl,?_,hU (bG cn (bG (.refl _) cn)) g_d.1 g_d.2);rw[K,J,List.append_assoc];erw[List.Perm.append_left _ List.perm_append_comm]
def Ol:Fol 3 (s11 s0 s1 s2 s3 s5 s7 s10 t4 t6 t8 t9) ⟨#[]⟩ (.tree (Nds.of (tL s0 s1 s2 s3 s5 s7 s10 t4 t6 t8 t9))):=by
 obtain⟨K,J⟩:=Od s0 s1 s2 s3 s5 s7 s10 t4 t6 t8 t9;have a:=Oj s0 s1 s2 s3 s5 s7 s10 t4 t6 t8 t9;have b:=ET (Oi s0 s1 s2 s3 s5 s7 s10 t4 t6 t8 t9);refine([_,.tree (Nds.of (fL s7 t8))],_,by rw[J];exact(a,b,trivial),by rw[J];decide,rfl,?_,hU (bG (bG cn cn) (bG (ns:=[nd,nf]) (.refl _) (bG cn cn))) g_t.1 g_t.2);rw[K,J,List.append_assoc (fl n0 s0++fl na s1)];erw[List.Perm.append_left _ List.perm_append_comm]
end
structure Tr where
 b:Option Str
 o:Option Str
 t:Option Str
structure Tk where
 b:Str
 o:Str
 t:Str
abbrev Tk.w(v:Tk):Tr:=(some v.b,some v.o,some v.t)
abbrev mX(p:Str)(w:Tr):Option Str×List Str:=mI p w.b w.o w.t
abbrev cv(x p:Str)(w:Tr):Rw:=(x,bl w.b,bl w.o,bl w.t,bl (mX p w).1,(mX p w).2)
abbrev nT(f:Rw->Option Nd)(J:List Rw):Nd:=.tree (Nds.of (nN f J))
abbrev BP(x:Str)(J:List Rw):Rw:=(x,some (nT (·.b) J),some (nT (·.o) J),some (nT (·.t) J),some (nT (·.r) J),J.flatMap (·.c))
def qh(p:Str)(v:Tk):(mX p v.w).1≠none:=by
 unfold mX mI
 grind
def Fe{f}{ws}{w}(h:w∈ws)(J:f w≠none)(nd:(ws.map (·.x)).Nodup):nN f ws≠[]:=λz=>by
 have:=dj (f:=f) nd w h;rw[z]at this;erw[J this.symm]
def blm{x}{s}:((bl s).map λn=>(x,n)).toList=fl x s:=by cases s<;>rfl
def kC{f}{w}{ws}:nN f (w::ws)=((f w).map λn=>(w.x,n)).toList++nN f ws:=pO
def Ba{f}{p}:∀J:List Rw,(Nds.of (nN f J)).flat p=J.flatMap λw=>((f w).map λn=>n.flat (jn p w.x)).getD []:=λJ=>by
 rw[zr,Nds.of_l]
 induction J with
 |nil=>rfl
 |cons w J ih=>
  rw[kC,List.flatMap_append,ih,List.flatMap_cons];cases f w<;>simp
def OO{p}{s}:((bl s).map λn=>n.flat p).getD []=(s.map λt=>(p,t)).toList:=by
 cases s<;>rfl
def m_w{k:Nat}{p x}{w}:mE k p (cv x p w).b (cv x p w).o (cv x p w).t=((cv x p w).r,(cv x p w).c):=NZ k p _ _ _
noncomputable abbrev p2:Str:=⟨#[100,47,97]⟩
noncomputable abbrev p3:Str:=⟨#[100,47,101,47,97]⟩
noncomputable abbrev p4:Str:=⟨#[100,47,101,47,107]⟩
noncomputable abbrev p5:Str:=⟨#[100,47,101,47,122]⟩
noncomputable abbrev p6:Str:=⟨#[100,47,107]⟩
noncomputable abbrev p7:Str:=⟨#[102,47,98]⟩
noncomputable abbrev p8:Str:=⟨#[102,47,107]⟩
noncomputable abbrev pde:Str:=⟨#[100,47,101]⟩
def jns:(jn Str.empty n0=n0/\jn Str.empty na=na/\jn Str.empty nd=nd/\jn Str.empty nf=nf/\jn Str.empty nk=nk/\jn Str.empty nz=nz)/\(jn nd na=p2/\jn nd ne=pde/\jn nd nk=p6)/\(jn nf nb=p7/\jn nf nk=p8)/\jn pde na=p3/\jn pde nk=p4/\jn pde nz=p5:=by decide +kernel
section
variable (w0 w1 w2 w3 w5 w7 w10:Tr)(v4 v6 v8 v9:Tk)
abbrev eR:List Rw:=[cv na p3 w3,cv nk p4 v4.w,cv nz p5 w5]
abbrev dR:List Rw:=[cv na p2 w2,BP ne (eR w3 w5 v4),cv nk p6 v6.w]
abbrev fR:List Rw:=[cv nb p7 w7,cv nk p8 v8.w]
abbrev tR:List Rw:=[cv n0 n0 w0,cv na na w1,BP nd (dR w2 w3 w5 v4 v6),BP nf (fR w7 v8),cv nk nk v9.w,cv nz nz w10]
def r_e{k:Nat}:∀w∈eR w3 w5 v4,mE k (jn pde w.x) w.b w.o w.t=(w.r,w.c):=λw h=>by
 obtain⟨_,_,_,J,K,M⟩:=jns;rcases mq0 h with rfl|h
 .erw[m_w]
 rcases mq0 h with rfl|h
 .erw[m_w]
 .rw[List.mem_singleton.mp h];erw[m_w]
def m_e{k:Nat}:mE (k+1) pde (some (nT (·.b) (eR w3 w5 v4))) (some (nT (·.o) (eR w3 w5 v4))) (some (nT (·.t) (eR w3 w5 v4)))=(some (nT (·.r) (eR w3 w5 v4)),(eR w3 w5 v4).flatMap (·.c)):=
 mW (r_e w3 w5 v4) g_e.1.1 (Fe (w:=cv nk p4 _) @0 (λz=>qh p4 v4 (bl_inj.mp z)) (bO g_e.1.1))
def r_d{k:Nat}:∀w∈dR w2 w3 w5 v4 v6,mE (k+1) (jn nd w.x) w.b w.o w.t=(w.r,w.c):=λw h=>by
 obtain⟨_,⟨J,K,M⟩,_⟩:=jns;rcases mq0 h with rfl|h
 .show mE (k+1) (jn nd na) _ _ _=_;rw[J];erw[m_w]
 rcases mq0 h with rfl|h
 .show mE (k+1) (jn nd ne) _ _ _=_;rw[K];erw[m_e w3 w5 v4]
 .rw[List.mem_singleton.mp h];show mE (k+1) (jn nd nk) _ _ _=_;rw[M];erw[m_w]
def m_d{k:Nat}:mE (k+2) nd (some (nT (·.b) (dR w2 w3 w5 v4 v6))) (some (nT (·.o) (dR w2 w3 w5 v4 v6))) (some (nT (·.t) (dR w2 w3 w5 v4 v6)))=(some (nT (·.r) (dR w2 w3 w5 v4 v6)),(dR w2 w3 w5 v4 v6).flatMap (·.c)):=
 mW (r_d w2 w3 w5 v4 v6) g_d.1.1 (Fe (w:=cv nk p6 _) @0 (λz=>qh p6 v6 (bl_inj.mp z)) (bO g_d.1.1))
def r_f{k:Nat}:∀w∈fR w7 v8,mE k (jn nf w.x) w.b w.o w.t=(w.r,w.c):=λw h=>by
 obtain⟨_,_,⟨J,K⟩,_⟩:=jns;rcases mq0 h with rfl|h
 .erw[m_w]
 .rw[List.mem_singleton.mp h];erw[m_w]
def m_f{k:Nat}:mE (k+1) nf (some (nT (·.b) (fR w7 v8))) (some (nT (·.o) (fR w7 v8))) (some (nT (·.t) (fR w7 v8)))=(some (nT (·.r) (fR w7 v8)),(fR w7 v8).flatMap (·.c)):=
 mW (r_f w7 v8) g_f.1.1 (Fe (w:=cv nk p8 _) @0 (λz=>qh p8 v8 (bl_inj.mp z)) (bO g_f.1.1))
def r_t:∀w∈tR w0 w1 w2 w3 w5 w7 w10 v4 v6 v8 v9,mE 2 (jn Str.empty w.x) w.b w.o w.t=(w.r,w.c):=λw h=>by
 obtain⟨⟨J,K,M,N,O,R⟩,_⟩:=jns;rcases mq0 h with rfl|h
 .show mE 2 (jn Str.empty n0) _ _ _=_;rw[J];erw[m_w]
 rcases mq0 h with rfl|h
 .show mE 2 (jn Str.empty na) _ _ _=_;rw[K];erw[m_w]
 rcases mq0 h with rfl|h
 .show mE 2 (jn Str.empty nd) _ _ _=_;rw[M];erw[m_d w2 w3 w5 v4 v6]
 rcases mq0 h with rfl|h
 .show mE 2 (jn Str.empty nf) _ _ _=_;rw[N];erw[m_f w7 v8]
 rcases mq0 h with rfl|h
 .show mE 2 (jn Str.empty nk) _ _ _=_;rw[O];erw[m_w]
 .rw[List.mem_singleton.mp h];show mE 2 (jn Str.empty nz) _ _ _=_;rw[R];erw[m_w]
def m_t:mT (mE 2) Str.empty (some (nT (·.b) (tR w0 w1 w2 w3 w5 w7 w10 v4 v6 v8 v9))) (Nds.of (nN (·.o) (tR w0 w1 w2 w3 w5 w7 w10 v4 v6 v8 v9))) (Nds.of (nN (·.t) (tR w0 w1 w2 w3 w5 w7 w10 v4 v6 v8 v9)))=(nN (·.r) (tR w0 w1 w2 w3 w5 w7 w10 v4 v6 v8 v9),(tR w0 w1 w2 w3 w5 w7 w10 v4 v6 v8 v9).flatMap (·.c)):=AX (r_t w0 w1 w2 w3 w5 w7 _ v4 v6 v8 v9) g_t.1.1
abbrev W11:List (Str×Tr):=P11.zip [w0,w1,w2,w3,v4.w,w5,v6.w,w7,v8.w,v9.w,w10]
def Bg:W11 w0 w1 w2 w3 w5 w7 w10 v4 v6 v8 v9=[(n0,w0),(na,w1),(p2,w2),(p3,w3),(p4,v4.w),(p5,w5),(p6,v6.w),(p7,w7),(p8,v8.w),(nk,v9.w),(nz,w10)]:=rfl
def vK(W:List (Str×Tr)):List (Str×Str):=W.flatMap λq=>((mX q.1 q.2).1.map λt=>(q.1,t)).toList
def vL(W:List (Str×Tr)):List Str:=W.flatMap λq=>(mX q.1 q.2).2
def Om:(tR w0 w1 w2 w3 w5 w7 w10 v4 v6 v8 v9).flatMap (·.c)=vL (W11 w0 w1 w2 w3 w5 w7 w10 v4 v6 v8 v9):=by
 rw[vL,Bg];simp
def On:(Nds.of (nN (·.r) (tR w0 w1 w2 w3 w5 w7 w10 v4 v6 v8 v9))).flat Str.empty=vK (W11 w0 w1 w2 w3 w5 w7 w10 v4 v6 v8 v9):=by
 obtain⟨⟨O,R,U,V,W,Y⟩,⟨Z,T,F⟩,⟨D,B⟩,K,M,N⟩:=jns;have C:∀{p}{J:Nds},Nd.flat p (.tree J)=J.flat p:=by intro p J;rw[Nd.flat]
 rw[Ba];simp only[List.flatMap_cons,List.flatMap_nil,mo0,Option.getD_some,C,Ba,O,R,U,V,W,Y,Z,T,F,D,B,K,M,N,OO];rw[vK,Bg];simp
end
structure Sel(f:Rw->Option Nd)(g:Tr->Option Str)(u:Tk->Str):Prop where
 fr:∀x p w,f (cv x p w)=bl (g w)
 dr:∀x ws,f (BP x ws)=some (nT f ws)
 tk:∀v:Tk,g v.w=some (u v)
def Oo:Sel (·.b) (·.b) (·.b):=(λa a a=>rfl,λa a=>rfl,λa=>rfl)
def Oq:Sel (·.o) (·.o) (·.o):=(λa a a=>rfl,λa a=>rfl,λa=>rfl)
def Os:Sel (·.t) (·.t) (·.t):=(λa a a=>rfl,λa a=>rfl,λa=>rfl)
def Iw{f:Rw->Option Nd}:nN f []=[]:=rfl
def Bh{f:Rw->Option Nd}{J:List Rw}{k:Nat}(g:Good (J.map (·.x)))(N:(J.map (·.x)).length<=6)(h:∀w∈J,∀n,f w=some n->n.ok k):(nT f J).ok (k+1):=by
 obtain⟨a,b⟩:=hU (mV J) g N;rw[Nd.ok,Nds.names_l,Nds.of_l];refine(a.1,a.2.1,by simpa using b,Nds.ok_l.mpr λp K=>?_);rw[Nds.of_l]at K;obtain⟨w,O,e⟩:=List.mem_filterMap.mp K;obtain⟨n,M,rfl⟩:=mx0 e;erw[h w O n M]
def sT{f:Rw->Option Nd}{J:List Rw}{k:Nat}(g:Good (J.map (·.x)))(N:(J.map (·.x)).length<=6)(h:∀w∈J,∀n,f w=some n->Flt k n):Flt (k+1) (nT f J):=by
 obtain⟨a,b⟩:=hU (mV J) g N;refine(by rwa [Nds.of_l],λp K=>?_);rw[Nds.of_l]at K;refine(a.2.1 _ (List.mem_map_of_mem K),?_);obtain⟨w,O,e⟩:=List.mem_filterMap.mp K;obtain⟨n,M,rfl⟩:=mx0 e;erw[h w O n M]
def Ot{s}(h:Sh3 s){k:Nat}{n}(e:bl s=some n):n.ok k:=by
 cases s with
 |none=>cases e
 |some t=>cases e;cases k<;>exact h t rfl
def NH{s}{k:Nat}{n}(e:bl s=some n):Flt k n:=by
 cases s with
 |none=>cases e
 |some t=>cases e;cases k<;>trivial
section
variable (w0 w1 w2 w3 w5 w7 w10:Tr)(v4 v6 v8 v9:Tk)
def Ou{f:Rw->Option Nd}{g}{u}(S:Sel f g u):nN f (tR w0 w1 w2 w3 w5 w7 w10 v4 v6 v8 v9)=tL (g w0) (g w1) (g w2) (g w3) (g w5) (g w7) (g w10) (u v4) (u v6) (u v8) (u v9):=by
 have e:nN f (eR w3 w5 v4)=eL (g w3) (g w5) (u v4):=by
  rw[kC,kC,kC,Iw,S.fr,S.fr,S.fr,S.tk,blm,blm,blm,List.append_nil];exact (List.append_assoc ..).symm
 have d:nN f (dR w2 w3 w5 v4 v6)=dL (g w2) (g w3) (g w5) (u v4) (u v6):=by
  rw[kC,kC,kC,Iw,S.fr,S.dr,S.fr,S.tk,blm,blm,List.append_nil,nT,e];rfl
 have h:nN f (fR w7 v8)=fL (g w7) (u v8):=by
  rw[kC,kC,Iw,S.fr,S.fr,S.tk,blm,blm,List.append_nil]
 rw[kC,kC,kC,kC,kC,kC,Iw,S.fr,S.fr,S.dr,S.dr,S.fr,S.fr,S.tk,blm,blm,blm,blm,List.append_nil,nT,nT,d,h,tL,List.append_assoc];rfl
abbrev Fh(P:Tr->Prop):Prop:=P w0/\P w1/\P w2/\P w3/\P v4.w/\P w5/\P v6.w/\P w7/\P v8.w/\P v9.w/\P w10
def NI{f:Rw->Option Nd}{g}{u}(S:Sel f g u)(h:Fh w0 w1 w2 w3 w5 w7 w10 v4 v6 v8 v9 λw=>Sh3 (g w)):(nT f (tR w0 w1 w2 w3 w5 w7 w10 v4 v6 v8 v9)).ok 3:=by
 obtain⟨N,O,R,U,V,W,Y,Z,T,F,J⟩:=h;have fo:∀{x p:Str}{w:Tr}{k:Nat},Sh3 (g w)->∀n,f (cv x p w)=some n->n.ok k:=λK n e=>by rw[S.fr]at e;erw[Ot K e]
 have dO:∀{x:Str}{M:List Rw}{k:Nat},(nT f M).ok k->∀n,f (BP x M)=some n->n.ok k:=λK n e=>by rw[S.dr]at e;cases e;erw[K]
 have e:∀{k:Nat},(nT f (eR w3 w5 v4)).ok (k+1):=Bh g_e.1 g_e.2 λw hw=>by
  rcases mq0 hw with rfl|hw
  .erw[fo U]
  rcases mq0 hw with rfl|hw
  .erw[fo V]
  .rw[List.mem_singleton.mp hw];erw[fo W]
 have d:(nT f (dR w2 w3 w5 v4 v6)).ok 2:=Bh g_d.1 g_d.2 λw hw=>by
  rcases mq0 hw with rfl|hw
  .erw[fo R]
  rcases mq0 hw with rfl|hw
  .erw[dO e]
  .rw[List.mem_singleton.mp hw];erw[fo Y]
 have i:(nT f (fR w7 v8)).ok 2:=Bh g_f.1 g_f.2 λw hw=>by
  rcases mq0 hw with rfl|hw
  .erw[fo Z]
  .rw[List.mem_singleton.mp hw];erw[fo T]
 refine Bh g_t.1 g_t.2 λw hw=>?_
 rcases mq0 hw with rfl|hw
 .erw[fo N]
 rcases mq0 hw with rfl|hw
 .erw[fo O]
 rcases mq0 hw with rfl|hw
 .erw[dO d]
 rcases mq0 hw with rfl|hw
 .erw[dO i]
 rcases mq0 hw with rfl|hw
 .erw[fo F]
 .rw[List.mem_singleton.mp hw];erw[fo J]
def Ov:Flt 3 (nT (·.r) (tR w0 w1 w2 w3 w5 w7 w10 v4 v6 v8 v9)):=by
 have fo:∀{x p:Str}{w:Tr}{k:Nat},∀n,(cv x p w).r=some n->Flt k n:=λn e=>NH e
 have dO:∀{x:Str}{J:List Rw}{k:Nat},Flt k (nT (·.r) J)->∀n,(BP x J).r=some n->Flt k n:=λK n e=>by cases e;erw[K]
 have e:∀{k:Nat},Flt (k+1) (nT (·.r) (eR w3 w5 v4)):=sT g_e.1 g_e.2 λw hw=>by
  rcases mq0 hw with rfl|hw
  .erw[fo]
  rcases mq0 hw with rfl|hw
  .erw[fo]
  .rw[List.mem_singleton.mp hw];erw[fo]
 have d:Flt 2 (nT (·.r) (dR w2 w3 w5 v4 v6)):=sT g_d.1 g_d.2 λw hw=>by
  rcases mq0 hw with rfl|hw
  .erw[fo]
  rcases mq0 hw with rfl|hw
  .erw[dO e]
  .rw[List.mem_singleton.mp hw];erw[fo]
 have i:Flt 2 (nT (·.r) (fR w7 v8)):=sT g_f.1 g_f.2 λw hw=>by
  rcases mq0 hw with rfl|hw
  .erw[fo]
  .rw[List.mem_singleton.mp hw];erw[fo]
 refine sT g_t.1 g_t.2 λw hw=>?_
 rcases mq0 hw with rfl|hw
 .erw[fo]
 rcases mq0 hw with rfl|hw
 .erw[fo]
 rcases mq0 hw with rfl|hw
 .erw[dO d]
 rcases mq0 hw with rfl|hw
 .erw[dO i]
 rcases mq0 hw with rfl|hw
 .erw[fo]
 .rw[List.mem_singleton.mp hw];erw[fo]
def Fi{f:Rw->Option Nd}{g}{u}(S:Sel f g u):Fol 3 ((W11 w0 w1 w2 w3 w5 w7 w10 v4 v6 v8 v9).map λq=>(q.1,g q.2)) ⟨#[]⟩ (nT f (tR w0 w1 w2 w3 w5 w7 w10 v4 v6 v8 v9)):=by
 rw[nT,Ou w0 w1 w2 w3 w5 w7 w10 v4 v6 v8 v9 S,Bg];have:=Ol (g w0) (g w1) (g w2) (g w3) (g w5) (g w7) (g w10) (u v4) (u v6) (u v8) (u v9)
 rwa [s11,<-S.tk v4,<-S.tk v6,<-S.tk v8,<-S.tk v9]at this
end
def Fj{f}{g}{xs:List α}(h:∀(k:Nat) x,xs[k]?=some x->f (.int k)=some (some (g x))):ay f ((List.range xs.length).map λk:Nat=>D.int k)=some (xs.map g):=by
 have:∀(J:List α)(i:Nat),(∀(k:Nat) x,J[k]?=some x->f (.int (i+k:Nat))=some (some (g x)))->ay f ((List.range' i J.length).map λk:Nat=>D.int k)=some (J.map g):=by
  intro J
  induction J with
  |nil=>intro i _;rfl
  |cons y J ih=>
   intro i h;rw[lc0,List.range'_succ,mk0,ay,show f (D.int i)=_ from (h 0 y rfl),ih _ λk x K=>by rw[<-h (k+1) x (by simpa using K)];grind];rfl
 rw[List.range_eq_range'];exact this xs 0 λk x K=>by rw[Nat.zero_add];erw[h k x K]
theorem vM{P:Nat->β->Prop}{f}{g}:∀(n i:Nat),(∀k,k<n->∃b,P (i+k) b/\f (.int ((i+k:Nat):Int))=some (some (g b)))->∃J:List β,J.length=n/\(∀(k:Nat) b,J[k]?=some b->P (i+k) b)/\ay f ((List.range' i n).map λk:Nat=>D.int k)=some (J.map g)
 |0,i,_=>([],rfl,(λa a h=>by cases h),rfl)
 |n+1,i,h=>by
  obtain⟨b,p,e⟩:=h 0 @1;obtain⟨J,l,q,M⟩:=vM (P:=P) (f:=f) (g:=g) n (i+1) λk K=>by
   grind
  refine(b::J,by rw[lc0,l],λk x K=>?_,?_)
  .cases k with
   |zero=>simp_all
   |succ k=>rw[show i+(k+1)=i+1+k by lia];erw[q k x (by simpa using K)]
  .rw[List.range'_succ,mk0,ay,show f (D.int i)=_ from e,M];rfl
def OY(k:Nat):Nat:=(P11.getD k n0).cps.toList.getLastD 0
def stB(k:Nat):Bool:=decide (OY k=107)
def pt:∀k<11,P11[k]?=some (P11.getD k n0)/\(P11.getD k n0).length<=20/\atI (P11.getD k n0).cps.toList (-1)=some (OY k):=by decide +kernel
abbrev thE:E:=.comp 1 [1,0] (.one 0) (.rng (.bi .len @12)) .nil (.call "_law_three" (.cons (.v 2) (.cons (.op .mul ↑5 (.v 0)) (.cons (.cmp .eq (.idx (.idx (.v 1) (.v 0)) (.neg ↑1)) (.k (.str ⟨#[107]⟩))) .nil))))
def OP(Y:zc Φ){ns}{s2 s3}{r}:∃T:List (List (Option Str)),T.length=11/\(∀(k:Nat) l,T[k]?=some l->Thr (stB k) l)/\ev Φ Γ .val (.lent (.scr ns)::.dat (.list (P11.map .str))::s2::s3::r) thE=some (.list (T.map λl=>.list (l.map oS))):=by
 obtain⟨S,U,W⟩:=Y;have M:P11.length=11:=rfl;rw[ev_cp];simp[EM (ds:=P11.map .str) (by simp[M]),M,show 11<=big by decide];generalize Z:cpF Φ Γ _ _ _ _ _ _=f;obtain⟨T,a,b,e⟩:=vM (f:=f) 11 0 λk F=>by
  obtain⟨N,O,R⟩:=pt k F;obtain⟨l,B,C⟩:=W ns (5*k) (stB k);refine(l,by rw[Nat.zero_add];erw[B],?_);have J:atI (P11.map D.str) (k:Int)=some (.str (P11.getD k n0)):=mG (by rw[gm0,N];rfl);have K:(P11.getD k n0).length<=big:=nt0 O @2;have V:decide (OY k=107)=stB k:=rfl;generalize P11.getD k n0=Q at N O R J K;rw[<-Z,Nat.zero_add];simp[bE,U,J,K,R,mulL (i:=5) (j:=k) @2 @2];rw[V];erw[C]
 exact(T,a,λk l h=>by have:=b k l h;rwa [Nat.zero_add]at this,by rw[List.range_eq_range'];simp[e])
abbrev Sh9(w:Tr):Prop:=Sh3 w.b/\Sh3 w.o/\Sh3 w.t
abbrev thD(q:Str×Tr):D:=.list [oS q.2.b,oS q.2.o,oS q.2.t]
def drw{f:Nat->Bool}{T:List (List (Option Str))}(e:T.length=n+1)(h:∀(k:Nat) l,T[k]?=some l->Thr (f k) l):∃(w:Tr) (R:List (List (Option Str))),T=[w.b,w.o,w.t]::R/\Sh9 w/\(f 0=true->∃v:Tk,w=v.w)/\R.length=n/\∀(k:Nat) l,R[k]?=some l->Thr (f (k+1)) l:=by
 cases T with
 |nil=>cases e
 |cons l R=>
  have z:=h 0 l rfl;obtain⟨a,b,d,rfl⟩:=l3 z.len;refine((a,b,d),R,rfl,(z.le a @0,z.le b @0,z.le d @0),λy=>?_,Nat.succ.inj e,λk l q=>h (k+1) l q);have J:=z.st y a @0;have K:=z.st y b @0;have M:=z.st y d @0;cases a with
  |none=>exact absurd rfl J
  |some a=>cases b with
   |none=>exact absurd rfl K
   |some b=>cases d with
    |none=>exact absurd rfl M
    |some d=>exact((a,b,d),rfl)
def drawn{T:List (List (Option Str))}(e:T.length=11)(h:∀(k:Nat) l,T[k]?=some l->Thr (stB k) l):∃R U V W Y Z J K M N O,Fh R U V W Y Z J K M N O Sh9/\(T.map λl=>D.list (l.map oS))=(W11 R U V W Y Z J K M N O).map thD:=by
 obtain⟨R,n,m,I,_,e,h⟩:=drw e h;obtain⟨U,x,t,E,_,e,h⟩:=drw e h;obtain⟨V,R2,r,a2,_,e,h⟩:=drw e h;obtain⟨W,R3,p,X,_,e,h⟩:=drw e h;obtain⟨w4,a,d,H,u,e,h⟩:=drw e h;obtain⟨Y,R5,c,A,_,e,h⟩:=drw e h;obtain⟨w6,R6,b,j,g,e,h⟩:=drw e h;obtain⟨Z,R7,o,z,_,e,h⟩:=drw e h;obtain⟨w8,R8,s,y,f,e,h⟩:=drw e h;obtain⟨w9,R9,i,q,v,e,h⟩:=drw e h;obtain⟨J,G,B,F,_,e,h⟩:=drw e h;obtain⟨K,C⟩:=u @14;obtain⟨M,Q⟩:=g @14;obtain⟨N,S⟩:=f @14;obtain⟨O,P⟩:=v @14;refine(R,U,V,W,Y,Z,J,K,M,N,O,(I,E,a2,X,C▸H,A,Q▸j,z,S▸y,P▸q,F),?_)
 rw[m,t,r,p,d,c,b,o,s,i,B,ez0 e,C,Q,S,P];rfl
abbrev sdE:E:=.comp 1 [1,3] (.one 0) (.rng ↑3) .nil (.comp 1 [0,1,2] (.one 0) (.rng (.bi .len @12)) .nil (.tup (.cons (.idx (.v 2) (.v 0)) (.cons (.idx (.idx (.v 3) (.v 0)) (.v 1)) .nil))))
abbrev sdD(g:Tr->Option Str)(W:List (Str×Tr)):D:=.list ((W.map λq=>(q.1,g q.2)).map sD)
def Iz{W}(Y:W.length<=11){s0 s2}{r}:ev Φ Γ .val (s0::.dat (.list (W.map λq=>.str q.1))::s2::.dat @13::r) sdE=some (.list [sdD (·.b) W,sdD (·.o) W,sdD (·.t) W]):=by
 have Z:W.length<=big:=nt0 Y @2;have inner:∀(j:Nat)(g:Tr->Option Str),(∀q:Str×Tr,atI [oS q.2.b,oS q.2.o,oS q.2.t] (j:Int)=some (oS (g q.2)))->ev Φ Γ .val [.dat (.int (j:Nat)),.dat (.list (W.map λq=>.str q.1)),.dat @13] (.comp 1 [0,1,2] (.one 0) (.rng (.bi .len @12)) .nil (.tup (.cons (.idx (.v 2) (.v 0)) (.cons (.idx (.idx (.v 3) (.v 0)) (.v 1)) .nil))))=some (sdD g W):=λj g F=>by
  rw[ev_cp];simp[EM (ds:=W.map λq=>D.str q.1) (by simp;grind),Z];generalize T:cpF Φ Γ _ _ _ _ _ _=f;rw[Fj (g:=λq:Str×Tr=>sD (q.1,g q.2)) λk q M=>by
   have U:atI (W.map λq=>D.str q.1) (k:Int)=some (.str q.1):=mG (by rw[gm0,M];rfl);have V:atI (W.map thD) (k:Int)=some (thD q):=mG (by rw[gm0,M];rfl);rw[<-T];simp[bE,U,V,F q,sD]]
  simp[Function.comp_def]
 have N:=inner 0 (·.b) λq=>rfl
 have O:=inner 1 (·.o) λq=>rfl
 have R:=inner 2 (·.t) λq=>rfl
 rw[ev_cp,evI_r,show ev Φ Γ .val _ ↑3=some (.int 3)from rfl,xg @2 @2,bs0,if_pos @2];generalize E.comp 1 [0,1,2] _ _ _ _=K at N O R ⊢;have J:∀(j:Nat)(d:D),ev Φ Γ .val [.dat (.int (j:Nat)),.dat (.list (W.map λq=>.str q.1)),.dat @13] K=some d->cpF Φ Γ (s0::.dat (.list (W.map λq=>.str q.1))::s2::.dat @13::r) 1 [1,3] (.one 0) .nil K (.int (j:Nat))=some (some d):=λj d h=>by
  rw[bE,show ax (.one 0) (D.int (j:Nat)) (blk 1 [1,3] (s0::.dat (.list (W.map λq=>.str q.1))::s2::.dat @13::r))=some [.dat (.int (j:Nat)),.dat (.list (W.map λq=>.str q.1)),.dat @13] from rfl,bs0,show evC Φ Γ _ .nil=some true from rfl,bs0,if_pos rfl,h];rfl
 show Option.map D.list (ay _ [D.int (0:Nat),D.int (1:Nat),D.int (2:Nat)])=_;rw[ay,J 0 _ N,bs0,ay,J 1 _ O,bs0,ay,J 2 _ R,bs0];rfl
abbrev OQ:S:=.setm 6 (.comp 1 [4] 1 4 (.one 0) (.seq (.v 5)) (.call "_law_folder_of" 0 1 [.v 1,.v 0,.x (.p @10)]))
def NJ(H:zp Φ c 3){A B C}{NA NB NC}(y:Bv A)(q:Bv B)(u:Bv C)(I:Fol 3 A ⟨#[]⟩ NA)(E:Fol 3 B ⟨#[]⟩ NB)(X:Fol 3 C ⟨#[]⟩ NC){s0 s1 s2 s3 s6}{r}:
  ∃(L:List Th)(i j k:Nat),ex Φ Γ (s0::s1::s2::s3::.io (vt c [])::.dat (.list [.list (A.map sD),.list (B.map sD),.list (C.map sD)])::s6::r) OQ=some (.nx (s0::s1::s2::s3::.io (vt c L)::.dat (.list [.list (A.map sD),.list (B.map sD),.list (C.map sD)])::.dat (.list [.int (i:Nat),.int (j:Nat),.int (k:Nat)])::r))/\NA.rep L i/\NB.rep L j/\NC.rep L k/\L.Nodup/\L.length<=252:=by
 obtain⟨g,G,K⟩:=H;have m3:fM 3=84:=rfl;obtain⟨O,i,U,a2,V,W⟩:=K [] A ⟨#[]⟩ NA y @2 I @2;rw[List.length_nil,m3]at W;obtain⟨L2,j,Y,Z,N,T⟩:=K O B ⟨#[]⟩ NB q @2 E (by rw[m3];grind);rw[m3]at T;obtain⟨R,k,F,Q,J,P⟩:=K L2 C ⟨#[]⟩ NC u @2 X (by rw[m3];grind);rw[m3]at P;refine(R,i,j,k,?_,Nd.rep_ex J _ _ (Nd.rep_ex N _ _ a2),Nd.rep_ex J _ _ Z,Q,J.2 (N.2 (V.2 .nil)),by grind);simp[show 3<big by decide];generalize z:lq Φ Γ _ _ _ _ _ _=f;have M:∀{L L':List Th}{S:D}{n:Nat},g [vt c L,S,.str ⟨#[]⟩]=some (.tuple [.int (n:Nat),vt c L'])->f S (vt c L)=some (.int (n:Nat),vt c L'):=λ{L L' S n} h=>by
  rw[<-z];simp[lq,G,h]
 rw[lj,M U,bs0,lj,M Y,bs0,lj,M F,bs0];rfl
noncomputable abbrev dD(q:Str×Str):D:=.tuple [.str q.1,.str q.2]
abbrev lpB:Ss:=(.cons (.setm 9 (.call "_law_one" 2 7 [.x (.p (.idx (.v 1) (.v 2))),.x (.p (.idx (.v 3) (.v 2))),.v 7])) (.cons (.ifs (.cmp .notN (.v 9) (.k .none)) (.cons (.app 8 (.tup (.cons (.idx (.v 1) (.v 2)) (.cons (.v 9) .nil)))) .nil) .nil) .nil))
def Fv{l:List α}{j}{q}(h:l[j]?=some q):l.take (j+1)=l.take j++[q]:=by
 rw[List.take_add_one,h];rfl
def IA{p}{b o t}(h:Sh3 b):(mI p b o t).2.length<=2621:=by
 unfold mI;split
 .simp
 .split
  .simp
  .cases o with
   |none=>show 1<=_;decide
   |some x=>cases t with
    |none=>show 1<=_;decide
    |some y=>rw[List.length_replicate];erw[oK x y h.d]
def IS(C:Ii Φ){W:List (Str×Tr)}(E:W.length<=11)(P:∀q∈W,Sh9 q.2){j}{q}(M:W[j]?=some q){told}{due}(A:told.length<=j*2621)(H:due.length<=j){s0 s4 s5 s6 s9 s10}:
  ∃N,exs Φ Γ [s0,.dat (.list (W.map λq=>.str q.1)),.dat (.int (j:Nat)),.dat @13,s4,s5,s6,.own (.list (told.map .str)),.own (.list (due.map dD)),s9,s10] lpB=some (.nx [s0,.dat (.list (W.map λq=>.str q.1)),.dat (.int (j:Nat)),.dat @13,s4,s5,s6,.own (.list ((told++(mX q.1 q.2).2).map .str)),.own (.list ((due++((mX q.1 q.2).1.map λt=>(Prod.mk q.1 t)).toList).map dD)),N,s10]):=by
 obtain⟨Y,O,B⟩:=C;have X:=(gi0 M).1;obtain⟨S,G,I⟩:=P q (mg0 M);have U:atI (W.map λq=>D.str q.1) (j:Int)=some (.str q.1):=mG (by rw[gm0,M];rfl);have K:atI (W.map thD) (j:Int)=some (thD q):=mG (by rw[gm0,M];rfl);have J:=B q.1 q.2.b q.2.o q.2.t told S G I @5;have T:due.length<big:=Nat.lt_of_le_of_lt (m:=11) @5 @2;obtain⟨R,V⟩:∃R,mX q.1 q.2=R:=(_,rfl);rw[V];rw[show mI q.1 q.2.b q.2.o q.2.t=R from V]at J;obtain⟨Q,Z⟩:=R;cases Q with
 |none=>
  refine(.dat .none,?_);have J:Y [.str q.1,thD q,.list (told.map .str)]=some (.tuple [.none,.list ((told++Z).map .str)]):=J;generalize thD q=F at K J;simp[O,U,K,J]
 |some t=>
  refine(.dat (.str t),?_);have J:Y [.str q.1,thD q,.list (told.map .str)]=some (.tuple [.str t,.list ((told++Z).map .str)]):=J;generalize thD q=F at K J;simp[O,U,K,J,T]
def NL(Y:Ii Φ){W}(Z:W.length<=11)(V:∀q∈W,Sh9 q.2){s0 s2 s4 s5 s6 s9 s10}{P:Option Out->Prop}(k:∀s2 s9,P (some (.nx [s0,.dat (.list (W.map λq=>.str q.1)),s2,.dat @13,s4,s5,s6,.own (.list ((vL W).map .str)),.own (.list ((vK W).map dD)),s9,s10]))):
  P (xf Φ Γ (.one 2) lpB ((List.range W.length).map λk:Nat=>D.int k) [s0,.dat (.list (W.map λq=>.str q.1)),s2,.dat @13,s4,s5,s6,.own (.list []),.own (.list []),s9,s10]):=by
 refine ER (F:=λs:List Str×List (Str×Str)×Sl×Sl=>[s0,.dat (.list (W.map λq=>.str q.1)),s.2.2.1,.dat @13,s4,s5,s6,.own (.list (s.1.map .str)),.own (.list (s.2.1.map dD)),s.2.2.2,s10]) (s:=(Prod.mk ([]) (Prod.mk ([]) (Prod.mk s2 s9)))) (J:=λj s=>s.1=vL (W.take j)/\s.2.1=vK (W.take j)/\s.1.length<=j*2621/\s.2.1.length<=j) (P:=P) (λs h=>?_) (λj s T h=>?_) (rfl,rfl,Nat.zero_le _,Nat.zero_le _)
 .obtain⟨a,b,s2,s9⟩:=s
  obtain⟨K,M,_⟩:=h;rw[List.take_length]at K M;have K:=K;have M:=M;rw[K,M];erw[k s2 s9]
 .obtain⟨a,b,s2,s9⟩:=s
  obtain⟨K,M,O,R⟩:=h;have N:=ge0 T;generalize W[j]=q at N;obtain⟨B,_⟩:=V q (mg0 N);obtain⟨U,e⟩:=IS (Γ:=Γ) Y Z V N O R (s0:=s0) (s4:=s4) (s5:=s5) (s6:=s6) (s9:=s9) (s10:=s10);have K:a=vL (W.take j):=K;have M:b=vK (W.take j):=M;have O:=O;have R:=R;refine((Prod.mk (a++(mX q.1 q.2).2) (Prod.mk (b++((mX q.1 q.2).1.map λt=>(Prod.mk q.1 t)).toList) (Prod.mk (.dat (.int j)) U))),(?_,?_,?_,?_),e)
  .rw[Fv N,vL,List.flatMap_append,K];simp[vL]
  .rw[Fv N,vK,List.flatMap_append,M];simp[vK]
  .have:=IA (p:=q.1) (o:=q.2.o) (t:=q.2.t) B
   show (a++_).length<=_;rw[la0,Nat.succ_mul];have:(mX q.1 q.2).2.length<=2621:=this
   grind
  .show (b++_).length<=_
   rw[la0];have:∀z:Option (Str×Str),z.toList.length<=1:=λz=>by cases z<;>simp
   have:=this ((mX q.1 q.2).1.map λt=>(Prod.mk q.1 t))
   grind
abbrev Bk(Φ:Fs):Prop:=Has Φ "_law_whole" [true] λJ=>∀n:Int,J [.int n]=some (.bool true)
def whole_run(n:Int):ans Φ Γ iD [.int n]=some (.bool true):=rfl
def GV{l:List (Str×Str)}:okS 20 (.list (l.map dD))=true:=by
 exact List.all_eq_true.mpr λd J=>by obtain⟨y,_,rfl⟩:=mm0 J;rfl
abbrev Ow:S:=.setm 10 (.call "merged_trees" 0 4 [.v 4,.x (.p (.idx (.v 6) ↑0)),.x (.p (.idx (.v 6) ↑1)),.x (.p (.idx (.v 6) ↑2))])
abbrev Ox:S:=.ifs (.or (.not (.isi (.v 10) "tuple")) (.or (.cmp .ne (.bi .len (.cons (.v 10) .nil)) ↑2) (.or (.not (.call "_law_whole" (.cons (.idx (.v 10) ↑0) .nil))) (.cmp .ne (.idx (.v 10) ↑1) (.v 7))))) (.cons (.ret (.k (.bool false))) .nil) .nil
abbrev retS:S:=.ret (.cmp .eq (.comp 2 [4] (.tup [0,1]) (.seq (.call "files" (.cons (.v 4) (.cons (.idx (.v 10) ↑0) (.cons @10 .nil))))) .nil (.tup (.cons (.v 0) (.cons (.call "text_of" (.cons (.v 2) @12)) .nil)))) (.v 8))
def Oy(A:Be Φ c)(hw:Bk Φ)(u:zE Φ c)(m:uX Φ c){L}{i j k}{b o t}{tld}{due}(nd:L.Nodup)(hz:L.length<=252)(x:(Nd.tree b).rep L i)(h:(Nd.tree o).rep L j)(rt:(Nd.tree t).rep L k)(l:(Nd.tree b).ok 3)(r:(Nd.tree o).ok 3)(p:(Nd.tree t).ok 3){ms}(f:mT (mE 2) Str.empty (some (.tree b)) o t=(ms,tld))(M:Flt 3 (.tree (Nds.of ms)))(y:(Nds.of ms).flat Str.empty=due){s0 s1 s2 s3 s5 s9 s10}:
  ∃w,exs Φ Γ [s0,s1,s2,s3,.io (vt c L),s5,.dat (.list [.int (i:Nat),.int (j:Nat),.int (k:Nat)]),.own (.list (tld.map .str)),.own (.list (due.map dD)),s9,s10] (.cons Ow (.cons Ox (.cons retS .nil)))=some (.rt (.bool true) w):=by
 obtain⟨r1,W,G⟩:=A;obtain⟨r2,Y,I⟩:=hw;obtain⟨s,Z,X⟩:=u;obtain⟨r4,F,H⟩:=m;have N:OkO 3 (some (.tree b)):=λn e=>by cases e;erw[l]
 have O:OkO 3 (some (.tree o)):=λn e=>by cases e;erw[r]
 have R:OkO 3 (some (.tree t)):=λn e=>by cases e;erw[p]
 obtain⟨n,L',V,a2,a3⟩:=G L (.int i) (some b) j k o t nd (i,rfl,x) h rt N O.tree R.tree @5;simp only[mo0,f]at V a2;obtain⟨U,K,Q,S,P⟩:=X L' (Nds.of ms) n a2 M;have m1:ex Φ Γ [s0,s1,s2,s3,.io (vt c L),s5,.dat (.list [.int (i:Nat),.int (j:Nat),.int (k:Nat)]),.own (.list (tld.map .str)),.own (.list (due.map dD)),s9,s10] Ow=some (.nx [s0,s1,s2,s3,.io (vt c L'),s5,.dat (.list [.int (i:Nat),.int (j:Nat),.int (k:Nat)]),.own (.list (tld.map .str)),.own (.list (due.map dD)),s9,.dat (.tuple [.int (n:Nat),.list (tld.map .str)])]):=by
  simp[W,V]
 have m2:ex Φ Γ [s0,s1,s2,s3,.io (vt c L'),s5,.dat (.list [.int (i:Nat),.int (j:Nat),.int (k:Nat)]),.own (.list (tld.map .str)),.own (.list (due.map dD)),s9,.dat (.tuple [.int (n:Nat),.list (tld.map .str)])] Ox=some (.nx [s0,s1,s2,s3,.io (vt c L'),s5,.dat (.list [.int (i:Nat),.int (j:Nat),.int (k:Nat)]),.own (.list (tld.map .str)),.own (.list (due.map dD)),s9,.dat (.tuple [.int (n:Nat),.list (tld.map .str)])]):=by
  have q:=da (a:=.list (tld.map .str)) (b:=.list (tld.map .str)) (bU _) (bU _);generalize D.list (tld.map .str)=T at q;simp[Y,I,q]
 rw[exs_c,m1,iT,exs_c,m2,iT,exs_c];have d:U.length<=big:=nt0 P @2;have q:=da (a:=.list (due.map dD)) (b:=.list (due.map dD)) GV GV;have K:s [vt c L',.int n,.str ⟨#[]⟩]=some (.list (U.map fE)):=K;have C:due.map dD=U.map λz=>D.tuple [.str z.1.1,.str z.1.2]:=by rw[<-y,<-Q,List.map_map];rfl
 have J:ev Φ Γ .read (fzM [s0,s1,s2,s3,.io (vt c L'),s5,.dat (.list [.int (i:Nat),.int (j:Nat),.int (k:Nat)]),.own (.list (tld.map .str)),.own (.list (due.map dD)),s9,.dat (.tuple [.int (n:Nat),.list (tld.map .str)])]) (.comp 2 [4] (.tup [0,1]) (.seq (.call "files" (.cons (.v 4) (.cons (.idx (.v 10) ↑0) (.cons @10 .nil))))) .nil (.tup (.cons (.v 0) (.cons (.call "text_of" (.cons (.v 2) @12)) .nil))))=some (.list (due.map dD)):=by
  rw[ev_cp];simp[Z,K,d];rw[az (g:=λz:(Str×Str)×Nat=>D.tuple [.str z.1.1,.str z.1.2]) λz hz=>by
   have:=H L' z.2 z.1.2 (S z hz);simp[bE,F,this]]
  simp[C]
 rw[ex_ret];generalize E.comp 2 [4] _ _ _ _=B at J ⊢;rw[ev_e]at J;have v2:ev Φ Γ .val (fzM [s0,s1,s2,s3,.io (vt c L'),s5,.dat (.list [.int (i:Nat),.int (j:Nat),.int (k:Nat)]),.own (.list (tld.map .str)),.own (.list (due.map dD)),s9,.dat (.tuple [.int (n:Nat),.list (tld.map .str)])]) (.cmp .eq B (.v 8))=some (.bool true):=by
  generalize D.list (due.map dD)=DD at J q ⊢;simp[J,q]
 rw[v2];exact(_,rfl)
abbrev OS:S:=.set 1 (.lst (.cons (.k (.str ⟨#[48]⟩)) (.cons (.k (.str ⟨#[97]⟩)) (.cons (.k (.str ⟨#[100,47,97]⟩)) (.cons (.k (.str ⟨#[100,47,101,47,97]⟩)) (.cons (.k (.str ⟨#[100,47,101,47,107]⟩)) (.cons (.k (.str ⟨#[100,47,101,47,122]⟩)) (.cons (.k (.str ⟨#[100,47,107]⟩)) (.cons (.k (.str ⟨#[102,47,98]⟩)) (.cons (.k (.str ⟨#[102,47,107]⟩)) (.cons (.k (.str ⟨#[107]⟩)) (.cons (.k (.str ⟨#[122]⟩)) .nil))))))))))))
def Oz(C:zc Φ)(x:zp Φ c 3)(hO:Ii Φ)(hM:Be Φ c)(hw:Bk Φ)(hf:zE Φ c)(ht:uX Φ c)(ns):ans Φ Γ (lZ c) [.scr ns]=some (.bool true):=by
 obtain⟨T,t1,t2,t3⟩:=OP (Γ:=Γ) C (ns:=ns) (s2:=.no) (s3:=.no) (r:=[.fr,.no,.no,.no,.no,.no,.no]);obtain⟨R,U,V,Y,Z,F,J,K,M,N,O,sh,te⟩:=drawn t1 t2;rw[te]at t3;have s1:ex Φ Γ [.lent (.scr ns),.no,.no,.no,.fr,.no,.no,.no,.no,.no,.no] OS=some (.nx [.lent (.scr ns),.dat (.list (P11.map .str)),.no,.no,.fr,.no,.no,.no,.no,.no,.no]):=rfl;have pW:P11.map D.str=(W11 R U V Y Z F J K M N O).map λq=>D.str q.1:=rfl
 have I:(W11 R U V Y Z F J K M N O).length=11:=rfl;have n:∀q∈W11 R U V Y Z F J K M N O,Sh9 q.2:=by
  obtain⟨H,A,y,C,u,f,m,l,d,s,B⟩:=sh;rw[Bg];simp only[List.forall_mem_cons];exact(H,A,y,C,u,f,m,l,d,s,B,λa h=>by cases h)
 have X:∀g:Tr->Option Str,Bv ((W11 R U V Y Z F J K M N O).map λq=>(q.1,g q.2)):=λg=>(by rw[lm0,I];decide,λq hq=>by
  obtain⟨z,hz,rfl⟩:=mm0 hq;have:∀p∈P11,p.length<=20:=by decide +kernel
  erw[this z.1 (List.of_mem_zip hz).1])
 obtain⟨L,i,j,k,n1,n2,n3,n4,n5,n6⟩:=NJ (Γ:=Γ) x (X (·.b)) (X (·.o)) (X (·.t)) (Fi R U V Y Z F J K M N O Oo) (Fi R U V Y Z F J K M N O Oq) (Fi R U V Y Z F J K M N O Os) (s0:=.lent (.scr ns)) (s1:=.dat (.list (P11.map .str))) (s2:=.no) (s3:=.dat (.list ((W11 R U V Y Z F J K M N O).map thD))) (s6:=.no) (r:=[.no,.no,.no,.no]);have E:∀{P:Tr->Prop},(∀w,Sh9 w->P w)->Fh R U V Y Z F J K M N O P:=λh=>by
  obtain⟨H,A,y,C,u,f,m,l,d,s,B⟩:=sh;exact(h _ H,h _ A,h _ y,h _ C,h _ u,h _ f,h _ m,h _ l,h _ d,h _ s,h _ B)
 have fin:=λ{s2 s9:Sl}=>Oy (Γ:=Γ) hM hw hf ht n5 n6 n2 n3 n4 (NI R U V Y Z F J K M N O Oo (E λw h=>h.1)) (NI R U V Y Z F J K M N O Oq (E λw h=>h.2.1)) (NI R U V Y Z F J K M N O Os (E λw h=>h.2.2)) ((m_t R U V Y Z F J K M N O).trans (by rw[Om])) (Ov R U V Y Z F J K M N O) (On R U V Y Z F J K M N O) (s0:=.lent (.scr ns)) (s1:=.dat (.list (P11.map .str))) (s2:=s2) (s3:=.dat (.list ((W11 R U V Y Z F J K M N O).map thD))) (s5:=.dat (.list [sdD (·.b) (W11 R U V Y Z F J K M N O),sdD (·.o) (W11 R U V Y Z F J K M N O),sdD (·.t) (W11 R U V Y Z F J K M N O)])) (s9:=s9) (s10:=.no)
 clear n2 n3 n4 n5 n6 E X hM hw hf ht x te t1 t2;have G:=λ{s0 s2:Sl}{r:List Sl}=>Iz (Φ:=Φ) (Γ:=Γ) (W:=W11 R U V Y Z F J K M N O) (Nat.le_of_eq I) (s0:=s0) (s2:=s2) (r:=r)
 have Q:=λ{s0 s2 s4 s5 s6 s9 s10:Sl}{P:Option Out->Prop}=>NL (Φ:=Φ) (Γ:=Γ) hO (W:=W11 R U V Y Z F J K M N O) (Nat.le_of_eq I) n (s0:=s0) (s2:=s2) (s4:=s4) (s5:=s5) (s6:=s6) (s9:=s9) (s10:=s10) (P:=P)
 rw[<-pW]at G Q;generalize W11 R U V Y Z F J K M N O=W at *;have s2:ex Φ Γ [.lent (.scr ns),.dat (.list (P11.map .str)),.no,.no,.fr,.no,.no,.no,.no,.no,.no] (.set 3 thE)=some (.nx [.lent (.scr ns),.dat (.list (P11.map .str)),.no,.dat @13,.fr,.no,.no,.no,.no,.no,.no]):=by
  rw[ex_s,S.set,t3];rfl
 have s3:ex Φ Γ [.lent (.scr ns),.dat (.list (P11.map .str)),.no,.dat @13,.fr,.no,.no,.no,.no,.no,.no] (.newv 4 c)=some (.nx [.lent (.scr ns),.dat (.list (P11.map .str)),.no,.dat @13,.io (vt c []),.no,.no,.no,.no,.no,.no]):=by
  simp[lh]
 have s4:ex Φ Γ [.lent (.scr ns),.dat (.list (P11.map .str)),.no,.dat @13,.io (vt c []),.no,.no,.no,.no,.no,.no] (.set 5 sdE)=some (.nx [.lent (.scr ns),.dat (.list (P11.map .str)),.no,.dat @13,.io (vt c []),.dat (.list [sdD (·.b) W,sdD (·.o) W,sdD (·.t) W]),.no,.no,.no,.no,.no]):=by
  rw[ex_s,S.set,G];rfl
 have pl:(List.range 11).map (λk:Nat=>D.int k)=(List.range W.length).map λk:Nat=>D.int k:=by rw[I]
 have s8:∀s2 s6:Sl,∀L:List Th,evI Φ Γ .walk [.lent (.scr ns),.dat (.list (P11.map .str)),s2,.dat @13,.io (vt c L),.dat (.list [sdD (·.b) W,sdD (·.o) W,sdD (·.t) W]),s6,.own (.list []),.own (.list []),.no,.no] (.rng (.bi .len @12))=some ((List.range W.length).map λk:Nat=>D.int k):=λs2 s6 L=>by
  rw[evI_rl,show ev Φ Γ .read _ (.v 1)=some (.list (P11.map .str))from rfl,EM @2,<-pl];rfl
 have s6:ex Φ Γ [.lent (.scr ns),.dat (.list (P11.map .str)),.no,.dat @13,.io (vt c L),.dat (.list [sdD (·.b) W,sdD (·.o) W,sdD (·.t) W]),.dat (.list [.int (i:Nat),.int (j:Nat),.int (k:Nat)]),.no,.no,.no,.no] (.new 7 (.lst .nil))=some (.nx [.lent (.scr ns),.dat (.list (P11.map .str)),.no,.dat @13,.io (vt c L),.dat (.list [sdD (·.b) W,sdD (·.o) W,sdD (·.t) W]),.dat (.list [.int (i:Nat),.int (j:Nat),.int (k:Nat)]),.own (.list []),.no,.no,.no]):=rfl;have s7:ex Φ Γ [.lent (.scr ns),.dat (.list (P11.map .str)),.no,.dat @13,.io (vt c L),.dat (.list [sdD (·.b) W,sdD (·.o) W,sdD (·.t) W]),.dat (.list [.int (i:Nat),.int (j:Nat),.int (k:Nat)]),.own (.list []),.no,.no,.no] (.new 8 (.lst .nil))=some (.nx [.lent (.scr ns),.dat (.list (P11.map .str)),.no,.dat @13,.io (vt c L),.dat (.list [sdD (·.b) W,sdD (·.o) W,sdD (·.t) W]),.dat (.list [.int (i:Nat),.int (j:Nat),.int (k:Nat)]),.own (.list []),.own (.list []),.no,.no]):=rfl
 simp only[ans_e,lZ];rw[show br ([true],11,_,.mk 4) [.scr ns]=[.lent (.scr ns),.no,.no,.no,.fr,.no,.no,.no,.no,.no,.no] from rfl,exs_c,s1,iT,exs_c,s2,iT,exs_c,s3,iT,exs_c,s4,iT,exs_c,n1,iT,exs_c,s6,iT,exs_c,s7,iT,exs_c,ex_for,s8,bs0];refine Q (P:=λo=>cJ (.mk 4) (nxS Φ Γ o _)=_) λs2 s9=>?_
 obtain⟨w,e⟩:=fin (s2:=s2) (s9:=s9);rw[iT,e];rfl
end TX
noncomputable section
namespace K41
open PySem L2 L2.Z SI TX
noncomputable def gam:List (Str×D):=[("LONGEST_NAME",.int 12),("OURS_MARK",.str ⟨#[60,60,60,60,60,60,60,10]⟩),("MIDDLE_MARK",.str ⟨#[61,61,61,61,61,61,61,10]⟩),("THEIRS_MARK",.str ⟨#[62,62,62,62,62,62,62,10]⟩),("MOST_NAMES",.int 20)]
noncomputable def cst:List Str:=["LONGEST_NAME","OURS_MARK","MIDDLE_MARK","THEIRS_MARK","MOST_NAMES"]
noncomputable def vms:List Str:=["kind","held","content"]
noncomputable def io:IoC:={ios:=[("blob",0),("tree",0),("merged_trees",0),("merged_by_names",0),("merged_entry",0),("none_if_empty",0),("merged_blobs",0),("_law_folder_of",0),("_law_one",2)],vn:=some "Vault",owns:=["_law_told"]}
def prog:List (Str×Def):=("is_name_sign",bA)::("is_name",eU)::("names_rise",cg)::("joined",gu)::("text_of",(eV cV))::("entries_of",(cj cV))::("entries_by_name",(aQ cV))::("refuse_wrong_names",aI)::("refuse_what_is_no_tree",(aB cV))::("lines_of",dF)::("paired",gy)::("common_counts",bf)::("count_row",cK)::("merged_text",bR)::("parts_of",dG)::("fixed_places",bB)::("cut",ur)::("both_changed",bC)::("changed_side",bD)::("settled",eW)::("closed",gz)::("kind_of",(eX cV))::("files",nB)::("names_of",cS)::("blobs_below",(bo cV))::("_law_cell",eB)::("_law_mix",jg)::("_law_whole",iD)::("_law_sign",gA)::("_law_line",gB)::("_law_ends",gC)::("_law_row",jh)::("_law_edited",dH)::("_law_lines",bN)::("_law_most",gE)::("_law_walk",ll)::("_law_part",gG)::("_law_both",gH)::("_law_text",lB)::("_law_three",eN)::("law",(lZ cV))::("blob",(nY cV))::("tree",(nZ cV))::("merged_trees",bH)::("merged_by_names",aJ)::("merged_entry",aS)::("none_if_empty",bg)::("merged_blobs",bI)::("_law_folder_of",bq)::("_law_one",nK)::(bL "kind",(dy cV))::(bL "held",(eE cV))::(bL "content",(bX cV))::[]
noncomputable def fns:List Str:=(prog.take 41).map (·.1)
theorem ti:uq (met 0):=⟨(_,_,_,_,_,_,_,_,rfl)⟩
theorem tp:zo (met 5):=((_,_,_,_,_,_,_,_,_,_,_,_,_,_,_,_,_,_,_,_,_,_,_,_,_,rfl,rfl),by decide +kernel)
def scB(ps:A1)(J:Stmt):Bool:=decide ((defScope J).kind=.function/\(defScope J).isCoroutine=false/\(defScope J).isGenerator=false/\(ps++aC (defScope J) ps).Nodup/\(ps++aC (defScope J) ps).take ps.length=ps/\(∀x∈ps,(defScope J).names.lookup x=some .local\/(defScope J).names.lookup x=some .cell)/\∀y∈(defScope J).names,y.2≠.free)
theorem Bp(h:scB ps st=true):cf (ps++aC @9 ps) ps @9:=
 have⟨a,b,c,d,e,f,g⟩:=od0 h
 (a,b,c,d,e,f,g)
structure FF(x q:Str)(st:Stmt)(f cd:Addr)(pm:Value)(ps:A1):Prop where
 l:∀P,(kk P).lookup f=some (fo x q st pm cd):=by intro;kernel_rfl
 c:∀P,(PySem.W.codeIn (kk P) (.ref cd) q&&PySem.W.keepIn (kk P) (.ref f))=true:=by intro;kernel_rfl
 s:scB ps st=true:=by kernel_rfl
 d:ef st=some (ps,defBody st,defScope st):=by rfl
 b:∀(kV doc pm:Value)(an:Option Addr)(cdv ct:Value),aVv ps.length λus=>bindArgs (PySem.W.fnOf x q (defArgs st) (defBody st) @9 .none kV doc pm an cdv ct) ⟨us,[]⟩=pure (ps.zip us):=by (repeat intro _);exact rfl
section
variable {q:Str}{f cd:Addr}{pm:Value}{P:Params}
abbrev FT(x:Str)(i:Nat)(cd:Addr)(pm:Value)(ps:A1):Prop:=FF x x (top i) (cd+1) cd pm ps
theorem FF.fn(F:FF x q st f cd pm ps)(P:Params):Fun (kk P) x q st f (PySem.W.fnOf x q (defArgs st) (defBody st) @9 .none .none .none pm none (.ref cd) .none):=FW (F.l P) (ax0 (F.c P)).1 (ax0 (F.c P)).2
def FF.v(F:FF x q st f cd pm ps):=λa b c d e f=>lenN (F.b a b c d e f)
theorem mkD{d:Def}(F:FF x x st f cd pm ps)(X:(kk P).In h)(G:h.Ns mainGlobals mg)(a:PySem.W.nsIn (kk P) mainGlobals x=some (some (.ref f)):=by kernel_rfl)(c:sR fns cst d.lent d.k st (some cV) vms io=some d:=by kernel_rfl)(e:d.lent.length=ps.length:=by rfl):Ai (kk P) mg fns cst (some cV) vms io x d:=
 ⟨(st,f,_,ps,F.fn P,PySem.W.mg_of X G a,(F.fn P).binds F.v,Bp F.s,F.d,c,e)⟩
theorem noV{J:Prop}(z:fns.contains x=true\/(io.ios.lookup x).isSome=true)(a:fns.contains x=false)(b:(io.ios.lookup x).isSome=false):J:=by
 rcases z with z|z
 .rw[a]at z;cases z
 .rw[b]at z;cases z
theorem mn{n:Str}(X:(kk P).In h)(G:h.Ns mainGlobals mg)(e:PySem.W.nsIn (kk P) mainGlobals n=some none:=by kernel_rfl):mg n=none:=PySem.W.mg_none_of X G e
theorem mo{n:Str}{v:Value}(X:(kk P).In h)(G:h.Ns mainGlobals mg)(e:PySem.W.nsIn (kk P) mainGlobals n=some (some v):=by kernel_rfl):mg n=some v:=PySem.W.mg_of X G e
theorem mkT(F:FF x q st f cd pm ps)(a:PySem.W.findIn (kk P) (.ref cV) x=some (some (.ref f)):=by kernel_rfl)(n:PySem.W.isFn (kk P) (.ref f)=true:=by kernel_rfl):nr (kk P) cV x f:=(a,n,(ax0 (F.c P)).2)
theorem mkV{d:Def}(F:FF x (bL x) st f cd pm ps)(T:nr (kk P) cV x f)(n:x≠"objects"/\x≠"numbers")(c:sR fns cst d.lent .pure st (some cV) vms io=some d:=by kernel_rfl)(e:d.lent.length=ps.length:=by rfl):DF (kk P) fns cst cV vms io x d:=
 (n,(st,f,_,ps,F.fn P,T,(F.fn P).binds F.v,Bp F.s,F.d,c,e))
end
theorem F3:FT "is_name_sign" 3 27 m0 ["sign"]:={}
theorem F4:FT "is_name" 4 32 m0 ["text"]:={}
theorem F5:FT "names_rise" 5 37 m0 ["names"]:={}
theorem F6:FT "joined" 6 44 m0 ["path","name"]:={}
theorem F16:FT "text_of" 16 175 m1 ["vault","number"]:={}
theorem F17:FT "entries_of" 17 182 m1 ["vault","number"]:={}
theorem F18:FT "entries_by_name" 18 189 m1 ["vault","number"]:={}
theorem F19:FT "refuse_wrong_names" 19 196 m1 ["names"]:={}
theorem F20:FT "refuse_what_is_no_tree" 20 203 m1 ["vault","number"]:={}
theorem F22:FT "lines_of" 22 208 m2 ["text"]:={}
theorem F23:FT "paired" 23 215 m2 ["one","other"]:={}
theorem F24:FT "common_counts" 24 222 m2 ["one","other"]:={}
theorem F25:FT "count_row" 25 229 m2 ["line","other","behind"]:={}
theorem F30:FT "merged_text" 30 236 m3 ["base","ours","theirs"]:={}
theorem F31:FT "parts_of" 31 241 m3 ["rows"]:={}
theorem F32:FT "fixed_places" 32 246 m3 ["base","ours","theirs"]:={}
theorem F33:FT "cut" 33 251 m3 ["rows","starts","stops"]:={}
theorem F34:FT "both_changed" 34 258 m3 ["base","ours","theirs"]:={}
theorem F35:FT "changed_side" 35 265 m3 ["base","ours","theirs"]:={}
theorem F36:FT "settled" 36 272 m3 ["base","ours","theirs"]:={}
theorem F37:FT "closed" 37 277 m3 ["lines"]:={}
theorem F44:FT "kind_of" 44 319 m4 ["vault","number"]:={}
theorem F47:FT "files" 47 326 m5 ["vault","top","path"]:={}
theorem F48:FT "names_of" 48 331 m5 ["path"]:={}
theorem F49:FT "blobs_below" 49 338 m5 ["vault","top","path"]:={}
theorem F51:FT "_law_cell" 51 345 m6 ["_law_script","_law_k"]:={}
theorem F52:FT "_law_mix" 52 352 m6 ["_law_script","_law_k"]:={}
theorem F53:FT "_law_whole" 53 359 m6 ["_law_found"]:={}
theorem F54:FT "_law_sign" 54 366 m6 ["_law_number"]:={}
theorem F55:FT "_law_line" 55 373 m6 ["_law_script","_law_k"]:={}
theorem F56:FT "_law_ends" 56 378 m6 ["_law_row_here","_law_cut"]:={}
theorem F57:FT "_law_row" 57 383 m6 ["_law_script","_law_base","_law_many"]:={}
theorem F58:FT "_law_edited" 58 390 m6 ["_law_script","_law_base","_law_row_here"]:={}
theorem F59:FT "_law_lines" 59 395 m6 ["_law_text_here"]:={}
theorem F60:FT "_law_most" 60 400 m6 ["_law_one_here","_law_other"]:={}
theorem F61:FT "_law_walk" 61 407 m6 ["_law_one_here","_law_other"]:={}
theorem F62:FT "_law_part" 62 414 m6 ["_law_base","_law_ours","_law_theirs"]:={}
theorem F63:FT "_law_both" 63 419 m6 ["_law_base","_law_ours","_law_theirs"]:={}
theorem F64:FT "_law_text" 64 426 m6 ["_law_script","_law_k"]:={}
theorem F65:FT "_law_three" 65 431 m6 ["_law_script","_law_k","_law_stays"]:={}
theorem F68:FT "law" 68 448 m6 ["_law_script"]:={}
theorem F14:FT "blob" 14 163 m1 ["vault","text"]:={}
theorem F15:FT "tree" 15 168 m1 ["vault","entries"]:={}
theorem F39:FT "merged_trees" 39 284 m4 ["vault","base","ours","theirs"]:={}
theorem F40:FT "merged_by_names" 40 291 m4 ["vault","base","ours","theirs","path"]:={}
theorem F41:FT "merged_entry" 41 298 m4 ["vault","base","ours","theirs","path"]:={}
theorem F42:FT "none_if_empty" 42 305 m4 ["vault","made"]:={}
theorem F43:FT "merged_blobs" 43 312 m4 ["vault","base","ours","theirs","path"]:={}
theorem F66:FT "_law_folder_of" 66 436 m6 ["_law_vault","_law_side","_law_path"]:={}
theorem F67:FT "_law_one" 67 443 m6 ["_law_path","_law_three_here","_law_told"]:={}
theorem Fm0:FF "__init__" "Vault.__init__" (met 0) 108 107 m1 ["self"]:={}
theorem Fm5:FF "put" "Vault.put" (met 5) 143 142 m1 ["self","made"]:={}
theorem Fm2:FF "kind" "Vault.kind" (met 2) 122 121 m1 ["self","number"]:={}
theorem Fm3:FF "held" "Vault.held" (met 3) 129 128 m1 ["self","number"]:={}
theorem Fm4:FF "content" "Vault.content" (met 4) 136 135 m1 ["self","number","wanted"]:={}
abbrev dn(k:Nat):Fs:=den prog gam k
theorem KI(k:Nat):EI (dn (k+1)):=ae (d:=eB) rfl λJ j=>by rw[run_eq rfl];erw[zu J j]
theorem kF(k:Nat):DV (dn (k+2)):=ae (d:=jg) rfl λJ j=>by rw[run_eq rfl];erw[CV (KI k) J j]
theorem KJ(k:Nat):Aw (dn (k+1)):=ae (d:=gA) rfl λn=>by rw[run_eq rfl];erw[Ks n]
theorem Fk(k:Nat):sV (dn (k+3)):=ae (d:=gB) rfl λJ j=>by rw[run_eq rfl];erw[Kt (kF k) (KJ (k+1)) J j]
theorem KL(k:Nat):EN (dn (k+4)):=ae (d:=jh) rfl λK b n J=>by rw[run_eq rfl];erw[MW (Fk k) K b n J]
theorem rA(k:Nat):sW (dn (k+1)):=ae (d:=gC) rfl λJ b j m K M N O=>by rw[run_eq rfl];erw[Ku J b j m K M N O]
theorem DY(k:Nat):uu (dn (k+1)):=ae (d:=bA) rfl λc=>by rw[run_eq rfl];erw[MU c]
theorem DZ(k:Nat):uv (dn (k+2)):=ae (d:=eU) rfl λx h=>by rw[run_eq rfl];erw[MV (DY k) rfl x h]
theorem KM(k:Nat):An (dn (k+1)):=ae (d:=cg) rfl λK J=>by rw[run_eq rfl];erw[Ko K J]
theorem Nc(k:Nat):Kq (dn (k+3)):=ae (d:=aI) rfl λK J=>by rw[run_eq rfl];erw[DI (DZ k) (KM (k+1)) K J]
theorem Fl(k:Nat):zz (dn (k+1)) cV:=ae (d:=(eE cV)) rfl λh K n d J=>by rw[run_eq rfl];erw[zA h K n d J]
theorem mY(k:Nat):qi (dn (k+2)) cV:=ae (d:=(dy cV)) rfl λh M n kk J K=>by rw[run_eq rfl];erw[zB (Fl k) h M n kk J K]
theorem kG(k:Nat):gJ (dn (k+2)) cV:=ae (d:=(bX cV)) rfl λh K n kk d J=>by rw[run_eq rfl];erw[qj (Fl k) h K n kk d J]
theorem eO(k:Nat):gK (dn (k+3)) cV:=ae (d:=(cj cV)) rfl λh M n J K=>by rw[run_eq rfl];erw[qk (kG k) h M n J K]
theorem vD(k:Nat):uX (dn (k+3)) cV:=ae (d:=(eV cV)) rfl λL n t h=>by rw[run_eq rfl];erw[AH (kG k) L n t h]
theorem vE(k:Nat):oP (dn (k+1)):=ae (d:=gu) rfl λp x J K=>by rw[run_eq rfl];erw[tN p x J K]
theorem tV(k:Nat):Ay (dn (k+1)):=ae (d:=bN) rfl λx J=>by rw[run_eq rfl];erw[xi x J]
theorem Bt(k:Nat):EO (dn (k+4)):=ae (d:=dH) rfl λK j M J=>by rw[run_eq rfl];erw[sX (kF (k+1)) (Fk k) K j M J]
theorem Bu(k:Nat):As (dn (k+1)) cV:=ae (d:=(nY cV)) rfl λL x J=>by rw[run_eq rfl];erw[Au L x J]
theorem vF(k:Nat):Ap (dn (k+4)) cV:=ae (d:=(nZ cV)) rfl λL J K M N=>by rw[run_eq rfl];erw[Aq (Nc k) (mY (k+1)) L J K M N]
theorem Eb(k:Nat):vm (dn (k+3)) cV:=ae (d:=(aB cV)) rfl λL n J h=>by rw[run_eq rfl];erw[tP (kG k) L n J h]
theorem oY(k:Nat):jo (dn (k+3)) cV:=ae (d:=(eX cV)) rfl λL d o h=>by rw[run_eq rfl];erw[tB (mY k) L d o h]
theorem vG(k:Nat):uY (dn (k+4)) cV:=ae (d:=(aQ cV)) rfl λL d o J K=>by rw[run_eq rfl];erw[tE (mY (k+1)) (eO k) L d o J K]
theorem Bw(k:Nat):qQ (dn (k+1)):=ae (d:=dF) rfl λx h=>by rw[run_eq rfl];erw[oG x h]
theorem xA(k:Nat):mK (dn (k+1)):=ae (d:=cK) rfl λa J K h=>by rw[run_eq rfl];erw[kR a J K h]
theorem Ec(k:Nat):uT (dn (k+2)):=ae (d:=bf) rfl λJ K M N=>by rw[run_eq rfl];erw[tf (xA k) J K M N]
theorem Ed(k:Nat):uU (dn (k+3)):=ae (d:=gy) rfl λJ K M N=>by rw[run_eq rfl];erw[tq (Ec k) J K M N]
theorem Ee(k:Nat):uZ (dn (k+4)):=ae (d:=bB) rfl λB O T J K M=>by rw[run_eq rfl];erw[tH (Ed k) B O T J K M]
theorem Nf(k:Nat):Kx (dn (k+1)):=ae (d:=ur) rfl λB O T s e=>by rw[run_eq rfl];erw[DL B O T s e]
theorem Il(k:Nat):AL (dn (k+5)):=ae (d:=dG) rfl λB O T J K M=>by rw[run_eq rfl];erw[Bo (Ee k) (Nf (k+3)) B O T J K M]
theorem vH(k:Nat):vd (dn (k+1)):=ae (d:=bC) rfl λb o t J K M=>by rw[run_eq rfl];erw[AM b o t J K M]
theorem By(k:Nat):AN (dn (k+1)):=ae (d:=bD) rfl λb o t J K=>by rw[run_eq rfl];erw[AO b o t J K]
theorem Ef(k:Nat):ve (dn (k+1)):=ae (d:=gz) rfl λM J K=>by rw[run_eq rfl];erw[tI M J K]
theorem Bz(k:Nat):qS (dn (k+2)):=ae (d:=eW) rfl λp J K=>by rw[run_eq rfl];erw[qT (rfl,rfl,rfl) (vH k) (Ef k) (By k) p J K]
theorem Eg(k:Nat):vh (dn (k+6)):=ae (d:=bR) rfl λx y z J K M=>by rw[run_eq rfl];erw[tJ (Bw (k+4)) (Il k) (vH (k+4)) (Bz (k+3)) x y z J K M]
theorem vI(k:Nat):vo (dn (k+7)) cV:=ae (d:=bI) rfl λL J b x y i j p K M N O R U V=>by rw[run_eq rfl];erw[tQ (oY (k+3)) (vD (k+3)) (Eg k) (Bu (k+5)) L J b x y i j p K M N O R U V]
theorem Fm(k:Nat):Fc (dn (k+4)) cV:=ae (d:=bg) rfl λL n K J h=>by rw[run_eq rfl];erw[Bd (eO k) L n K J h]
theorem Im(k:Nat):vq (dn (k+8)) cV 0:=ae (d:=aS) rfl λL J dO K b o t p M N O R U V W Y Z=>by rw[run_eq rfl];erw[rg 0 @2 (vH (k+6)) (By (k+6)) (oY (k+4)) (Fm (k+3)) (vI k) nofun L J dO K b o t p M N O R U V W Y Z]
theorem Io(k:Nat):vx (dn (k+9)) cV 0:=ae (d:=aJ) rfl λL J b i j o t p K M N O R U V W Y=>by rw[run_eq rfl];erw[mU 0 @2 (Im k) (vG (k+4)) (vE (k+7)) (vF (k+4)) L J b i j o t p K M N O R U V W Y]
theorem Ip(k:Nat):vq (dn (k+10)) cV 1:=ae (d:=aS) rfl λL J dO K b o t p M N O R U V W Y Z=>by rw[run_eq rfl];erw[rg 1 @2 (vH (k+8)) (By (k+8)) (oY (k+6)) (Fm (k+5)) (vI (k+2)) (λa e=>by cases e;exact Io k) L J dO K b o t p M N O R U V W Y Z]
theorem Iq(k:Nat):vx (dn (k+11)) cV 1:=ae (d:=aJ) rfl λL J b i j o t p K M N O R U V W Y=>by rw[run_eq rfl];erw[mU 1 @2 (Ip k) (vG (k+6)) (vE (k+9)) (vF (k+6)) L J b i j o t p K M N O R U V W Y]
theorem NM(k:Nat):vq (dn (k+12)) cV 2:=ae (d:=aS) rfl λL J dO K b o t p M N O R U V W Y Z=>by rw[run_eq rfl];erw[rg 2 @2 (vH (k+10)) (By (k+10)) (oY (k+8)) (Fm (k+7)) (vI (k+4)) (λa e=>by cases e;exact Iq k) L J dO K b o t p M N O R U V W Y Z]
theorem NN(k:Nat):vx (dn (k+13)) cV 2:=ae (d:=aJ) rfl λL J b i j o t p K M N O R U V W Y=>by rw[run_eq rfl];erw[mU 2 @2 (NM k) (vG (k+8)) (vE (k+11)) (vF (k+8)) L J b i j o t p K M N O R U V W Y]
theorem KN(k:Nat):Be (dn (k+14)) cV:=ae (d:=bH) rfl λL J b i j o t K M N O R U V W=>by rw[run_eq rfl];erw[tS (Eb (k+10)) (NN k) L J b i j o t K M N O R U V W]
theorem KO(k:Nat):EU (dn (k+1)):=ae (d:=gE) rfl λJ K M N=>by rw[run_eq rfl];erw[AG J K M N]
theorem KP(k:Nat):EV (dn (k+2)):=ae (d:=ll) rfl λJ K M N=>by rw[run_eq rfl];erw[AE (KO k) J K M N]
theorem KQ(k:Nat):AS (dn (k+1)):=ae (d:=gG) rfl λp J K=>by rw[run_eq rfl];erw[AU p J K]
theorem BA(k:Nat):tM (dn (k+3)):=ae (d:=gH) rfl λB O T J K M N R=>by rw[run_eq rfl];erw[xx (KP k) (KQ (k+1)) B O T J K M N R]
theorem vJ(k:Nat):oH (dn (k+1)):=ae (d:=bN) rfl λx h=>by rw[run_eq rfl];erw[tG x h]
theorem Iy(k:Nat):Bk (dn (k+1)):=ae (d:=iD) rfl λn=>by rw[run_eq rfl];erw[whole_run n]
theorem hTx(k:Nat):HTx (dn (k+5)):=ae (d:=lB) rfl λJ j=>by rw[run_eq rfl];erw[KR (kF (k+2)) (KL k) (rA (k+3)) J j]
theorem NO(k:Nat):zc (dn (k+6)):=ae (d:=eN) rfl λJ j K=>by rw[run_eq rfl];erw[Bq (kF (k+3)) (hTx k) (tV (k+4)) (Bt (k+1)) (rA (k+4)) J j K]
theorem OA(k:Nat):zp (dn (k+5)) cV 1:=ae (d:=bq) rfl λL U J N K M O R=>by rw[run_eq rfl];erw[rO (Bu (k+3)) (vF k) 0 (λz=>absurd z @2) L U J N K M O R]
theorem OB(k:Nat):zp (dn (k+6)) cV 2:=ae (d:=bq) rfl λL U J N K M O R=>by rw[run_eq rfl];erw[rO (Bu (k+4)) (vF (k+1)) 1 (λa=>OA k) L U J N K M O R]
theorem OC(k:Nat):zp (dn (k+7)) cV 3:=ae (d:=bq) rfl λL U J N K M O R=>by rw[run_eq rfl];erw[rO (Bu (k+5)) (vF (k+2)) 2 (λa=>OB k) L U J N K M O R]
theorem OT(k:Nat):Ii (dn (k+4)):=ae (d:=nK) rfl λp b o t told J K M N=>by rw[run_eq rfl];erw[Ij (vJ (k+2)) (BA k) p b o t told J K M N]
theorem GW(k:Nat):vC (dn (k+1)):=ae (d:=cS) rfl (by rw[run_eq rfl];erw[rT])
theorem OD(k:Nat):ES (dn (k+4)) cV 1:=ae (d:=(bo cV)) rfl λL J i p K M N=>by rw[run_eq rfl];erw[sx 0 @2 (eO k) (vE (k+2)) (mY (k+1)) (λz=>absurd z @2) L J i p K M N]
theorem OE(k:Nat):ES (dn (k+5)) cV 2:=ae (d:=(bo cV)) rfl λL J i p K M N=>by rw[run_eq rfl];erw[sx 1 @2 (eO (k+1)) (vE (k+3)) (mY (k+2)) (λa=>OD k) L J i p K M N]
theorem OF(k:Nat):ES (dn (k+6)) cV 3:=ae (d:=(bo cV)) rfl λL J i p K M N=>by rw[run_eq rfl];erw[sx 2 @2 (eO (k+2)) (vE (k+4)) (mY (k+3)) (λa=>OE k) L J i p K M N]
theorem NP(k:Nat):zE (dn (k+7)) cV:=ae (d:=nB) rfl λL J i K M=>by rw[run_eq rfl];erw[BB (GW (k+5)) (OF k) L J i K M]
theorem holds(ns:List Int)(J:ns.length<=63):ans (dn 37) gam (lZ cV) [.scr ns]=some (.bool true):=Oz (NO 31) (OC 30) (OT 33) (KN 23) (Iy 36) (NP 30) (vD 34) ns
set_option maxHeartbeats 0 in
theorem all_mk{w:World}{Z:Addr}(P:Params)(X:(kk P).In h)(G:h.Ns mainGlobals mg)(U:mg "law"=some (.ref Z)):
  ∃T:FuncData,(∀(s:Shared)(v:Value),BindsTo s T ([v],[]) [("_law_script",v)])/\∀base:Heap,(kk P).In base->base.Ns mainGlobals mg->FnOk PySem.Challenge.pw_strata_k41_whole_files_apart w (kk P) mg base CX0 40 Z T ["_law_script"] (Aj (kk P)):=by
 have e:=U.symm.trans (PySem.W.mg_of X G (by kernel_rfl:PySem.W.nsIn (kk P) mainGlobals "law"=some (some (.ref 449))));cases e;have K:Cls (kk P) cV:=((by kernel_rfl),(by kernel_rfl),(by kernel_rfl),(by kernel_rfl));have Y:PySem.W.findIn (kk P) (.ref cV) "objects"=some none:=by kernel_rfl
 have F:PySem.W.findIn (kk P) (.ref cV) "numbers"=some none:=by kernel_rfl
 have T0:=mkT (P:=P) Fm0;have I:=mkT (P:=P) Fm5;have D:=mkT (P:=P) Fm2;have C:=mkT (P:=P) Fm3;have S:=mkT (P:=P) Fm4;have defs:∀x d,(fns.contains x=true\/(io.ios.lookup x).isSome=true)->prog.lookup x=some d->Ai (kk P) mg fns cst (some cV) vms io x d:=λx d j J=>uL (Q:=λx d=>(fns.contains x=true\/(io.ios.lookup x).isSome=true)->Ai (kk P) mg fns cst (some cV) vms io x d) (prog:=prog) (λa=>mkD F3 X G,λa=>mkD F4 X G,λa=>mkD F5 X G,λa=>mkD F6 X G,λa=>mkD F16 X G,λa=>mkD F17 X G,λa=>mkD F18 X G,λa=>mkD F19 X G,λa=>mkD F20 X G,λa=>mkD F22 X G,λa=>mkD F23 X G,λa=>mkD F24 X G,λa=>mkD F25 X G,λa=>mkD F30 X G,λa=>mkD F31 X G,λa=>mkD F32 X G,λa=>mkD F33 X G,λa=>mkD F34 X G,λa=>mkD F35 X G,λa=>mkD F36 X G,λa=>mkD F37 X G,λa=>mkD F44 X G,λa=>mkD F47 X G,λa=>mkD F48 X G,λa=>mkD F49 X G,λa=>mkD F51 X G,λa=>mkD F52 X G,λa=>mkD F53 X G,λa=>mkD F54 X G,λa=>mkD F55 X G,λa=>mkD F56 X G,λa=>mkD F57 X G,λa=>mkD F58 X G,λa=>mkD F59 X G,λa=>mkD F60 X G,λa=>mkD F61 X G,λa=>mkD F62 X G,λa=>mkD F63 X G,λa=>mkD F64 X G,λa=>mkD F65 X G,λa=>mkD F68 X G,λa=>mkD F14 X G,λa=>mkD F15 X G,λa=>mkD F39 X G,λa=>mkD F40 X G,λa=>mkD F41 X G,λa=>mkD F42 X G,λa=>mkD F43 X G,λa=>mkD F66 X G,λa=>mkD F67 X G,λz=>noV z (by kernel_rfl) (by kernel_rfl),λz=>noV z (by kernel_rfl) (by kernel_rfl),λz=>noV z (by kernel_rfl) (by kernel_rfl),trivial) x d J j
 have O:∀c m d,some cV=some c->vms.contains m=true->prog.lookup (bL m)=some d->DF (kk P) fns cst c vms io m d:=λc m d N V J=>by
  cases N;have V:m=("kind":Str)\/m=("held":Str)\/m=("content":Str):=by simpa [vms]using V
  rcases V with rfl|rfl|rfl
  .rw[show prog.lookup (bL "kind")=some (dy cV) by kernel_rfl]at J;cases J;erw[mkV Fm2 D @2]
  .rw[show prog.lookup (bL "held")=some (eE cV) by kernel_rfl]at J;cases J;erw[mkV Fm3 C @2]
  .rw[show prog.lookup (bL "content")=some (bX cV) by kernel_rfl]at J;cases J;erw[mkV Fm4 S @2]
 have R:∀x∈bltNames,mg x=none:=uJ (xs:=bltNames) (mn X G,mn X G,mn X G,mn X G,mn X G,mn X G,mn X G,mn X G,mn X G,mn X G,mn X G,mn X G,mn X G,mn X G,mn X G,mn X G,mn X G,trivial);have H:∀x d,gam.lookup x=some d->∃u v,mg x=some u/\RelV v u/\∀G,Dp (kk P) G d v:=uK (prog:=gam) ((.int 12 196,.int 12,mo X G,(_,rfl),λa=>.int _),(.str "<<<<<<<\n" 469,.str "<<<<<<<\n",mo X G,(_,rfl),λa=>.str _ (by kernel_rfl)),(.str "=======\n" 471,.str "=======\n",mo X G,(_,rfl),λa=>.str _ (by kernel_rfl)),(.str ">>>>>>>\n" 473,.str ">>>>>>>\n",mo X G,(_,rfl),λa=>.str _ (by kernel_rfl)),(.int 20 614,.int 20,mo X G,(_,rfl),λa=>.int _),trivial)
 refine(PySem.W.fnOf "law" "law" (defArgs (top 68)) (defBody (top 68)) (defScope (top 68)) .none .none .none m6 none (.ref 448) .none,λs v=>.of_eq rfl,λbase y q=>?_);have E:jX PySem.Challenge.pw_strata_k41_whole_files_apart w (kk P) mg base cV "Vault":=⟨(_,_,((by kernel_rfl),T0.1,T0.2,(by kernel_rfl)),mo X G,by decide,(Fm0.fn P).binds Fm0.v,CT (Fm0.fn P) (Bp Fm0.s) ti K Y F)⟩;have B:Base PySem.Challenge.pw_strata_k41_whole_files_apart w (kk P) mg base gam (some cV) io:=(R,H,λc N=>by cases N;exact(K,Y),λc N a=>by cases N;exact(by decide,(_,_,_,K,I,(Fm5.fn P).binds Fm5.v,GQ (Fm5.fn P) (Bp Fm5.s) tp (mn X G) K Y F)),λc v N A=>by cases N;cases A;erw[E])
 have M:=HK (P:=PySem.Challenge.pw_strata_k41_whole_files_apart) (w:=w) (base:=base) (Γ:=gam) (prog:=prog) B defs (kinds_of (by kernel_rfl)) O 37;exact HJ (uI (F68.fn P) (Bp F68.s) F68.d (by kernel_rfl:sR fns cst [true] (lZ cV).k (top 68) (some cV) vms io=some (lZ cV)) rfl M) rfl λg J=>by rw[run_eq rfl];erw[holds g J]
end K41
open PySem PySem.W PySem.W.X PyProof.Rows K41
set_option maxRecDepth 100000 in
set_option maxHeartbeats 0 in
theorem PySem.Challenge.cw_strata_k41_whole_files_apart_holds : PySem.Challenge.rw_strata_k41_whole_files_apart.Holds := by
 w_on
 refine PySem.W.holds_law ws0 λsaid=>?_
 refine PySem.W.holds_openX (q:=vw) (loose:=lo) (Xt:=λs=>xlAt vw [] s&&recOk (RowW.records (OpenRow.toRowW PySem.Challenge.rw_strata_k41_whole_files_apart.row)) s) (XP:=XL vw []) (Yf:=obsZ ads) (Ya:=valZ kk 450 798) (d:=FX) (kwd:=[]) (N:=5898) hl (λs e=>xl_of s (ax0 e).1) XL.keeps (by kernel_rfl) (by kernel_rfl) (by kernel_rfl) (λs e=>recFacts_of (ax0 e).2) (by rfl) said @14 (rfl,rfl,rfl,rfl,rfl,by decide +kernel) ?hw ?hc
 case hw=>w_witness2
 case hc=>exact L2.Z.walkX (λP=>by kernel_rfl) (L2.Z.walk (l:=PySem.Challenge.rw_strata_k41_whole_files_apart) rfl rfl (λw h Y=>Y) (λw mg fa h KX G hmg=>K41.all_mk w.params KX G hmg))

end
end

import PyProof.Rows.All
import Wide.All
import OpenK.AllK
import Wide.FinOn
import PyProof.EqAt
import PyProof.EqKinds
import PyProof.TupleCall
import KE.BitLaws
import PyProof.ExcInit
import PyProof.InstStoreFacts
import PyProof.ExcArgsOwn
import PyProof.ExcAttrAll.Exception
import PySem.Challenge.RW_landrules_s01_answers
import PyProof.ZipIter
import PyProof.Draws
import PyProof.EnumMake
import PyProof.TupleIter
import PyProof.FactsAll.tuple_2
import PyProof.FactsAll.tuple_3
import KE.KDictLaws
import PoRuleRead
import WqatclSpec
import PyProof.ListNew
import PyWqatcl
import Open.SpecLaws
import KE.OsHead
import KE.OsGo
set_option Elab.async false
set_option linter.all false
set_option maxRecDepth 100000
set_option maxHeartbeats 4000000
noncomputable section
local macro_rules|`(⋯)=>`(by omega)
local macro_rules|`(tactic|apply$e)=>`(tactic|refine $e)
open Lean in
local macro_rules
| `(#synth $s:str)=>do
 let mut c:=#[]
 for x in s.getString.splitOn " "do
  let mut b:=#[]
  let mut d:=#[]
  let mut w:=#[]
  let mut v:=#[]
  let mut g:=#[]
  for a in x.toList++['R']do
   let y:=mkIdent (.mkSimple s!"{a}{v.size}")
   let z:=mkIdent (.mkSimple s!"x{v.size}")
   if a='E' then
    b:=b.push (<-`(bracketedBinder|{$y : Type}));d:=d.push (<-`(bracketedBinder|($z : $y)));w:=w.push (z,y)
   else
    b:=b.push (<-`(bracketedBinder|{$y : $(<-w.foldrM (fun p r=>`($(p.2)->$r)) (<-`(Prop)))}))
    d:=d.push (<-`(bracketedBinder|($z : $(Syntax.mkApp y (w.map (·.1))))))
   g:=g.push (a,z,Syntax.mkApp y (w.map (·.1)))
   v:=v.push z
  let t<-g.pop.foldrM (fun(a,z,p) r=>if a='E' then`(∃$z:ident,$r) else`($p/\$r)) g.back!.2.2
  let e:=b++d
  c:=c.push (<-`(theorem $(mkIdent (.mkSimple s!"Z{c.size+10}")) $e:bracketedBinder* : $t :=⟨$v,*⟩))
 return mkNullNode c
#synth"EA EAAEA EAA EEEAAAA EEAA EAEA EAEEEEEAAAAA EAE EAEEEEAAAAA EEEAA EEEAAA EAEEEAAA EEAAAA EAEEAA EAEAA AEA EEAAA EEEAAAAA EAAA EAEAEEEE EAEEEEEAAA EAEEEEE EEEEAAA EAEE EAEEEE EEEEAAAAA EEEEAAAAAAEA EEEEEAAAAAEA EAEEEAAAEEEE EEAAAEEAEEAA EEEEEAAAAA AEEA EEAAAAA EAAAAAEAEEAA EAEEEEAAAA AEEAA EAEEAAA EAAE EEEEEE EAAAEA EAEEEEEEEAAA EEAAAEEAEE EAEAEEAA EEA EEEEEEE EAEEEEEAAAA EAEAEA EAEEEEAAAAEE EEEEAA EAEEEA AAEAEEEAAAA EAEEEAAAEEE EAEAAA EAEEEAA EAEAE EAEEAAEEAAEA EAEAEEEEEEEE EEEEEAAAAAEE EEEEAAAA AAEAEEEEEEEE EAEEEEAA EAEAAE EEEEEEEEAAAA EEEEEEEEEEEE EAEEEAAAEA AAEAEEAAEA AEAEAA AEAEEEAAA EEEEAAAAAEAA EEAAAAAA EEEEEAA AEEEEEAAAAAA EEEEEEAAAAAA EAEAEEAAEA AAEEAAEEAAEA EAAAAA EEEAAAAAEAEE AEEEEAAAEA EAEEEAAAE AAAAEEAAEEAA EAEAEEEEEA AEAEAEAEEEEE EAEEEEAAAAE EEAAEA EAAEEAA AEEAAEEEAAAA EAAEAEAA EEEEAAAAEEEE EAEEE AAEEEEAAAA EEEEEAAAAAAA EAEAEAEAEE AAEEEEEEAAAA EAAAAAEEAAEA EEEAAEA EAEEAAEA AAEEEEEAAAAA EAEEEEEE EE AE"
set_option hygiene false in
local macro_rules
| `(tactic|exists$e)=>`(tactic|apply $e (fun vs H Q E h=>?_) (fun aU A aG s H vs Q E hr h=>?_))
section
variable{A B C D E F G H R:Prop}
theorem ZA2(k:A->B->R)(h:A/\B):R:=k h.1 h.2
theorem ZA3(k:A->B->C->R)(h:A/\B/\C):R:=k h.1 h.2.1 h.2.2
theorem ZA4(k:A->B->C->D->R)(h:A/\B/\C/\D):R:=k h.1 h.2.1 h.2.2.1 h.2.2.2
theorem ZA5(k:A->B->C->D->E->R)(h:A/\B/\C/\D/\E):R:=k h.1 h.2.1 h.2.2.1 h.2.2.2.1 h.2.2.2.2
theorem ZA6(k:A->B->C->D->E->F->R)(h:A/\B/\C/\D/\E/\F):R:=k h.1 h.2.1 h.2.2.1 h.2.2.2.1 h.2.2.2.2.1 h.2.2.2.2.2
end
section
variable{A B C D E F G H:Type}{R:Prop}
theorem ZE1{p:A->Prop}(k:∀a,p a->R):(∃a,p a)->R:=fun⟨a,h⟩=>k a h
theorem ZE2{p:A->B->Prop}(k:∀a b,p a b->R):(∃a b,p a b)->R:=fun⟨a,b,h⟩=>k a b h
theorem ZE3{p:A->B->C->Prop}(k:∀a b c,p a b c->R):(∃a b c,p a b c)->R:=fun⟨a,b,c,h⟩=>k a b c h
theorem ZE4{p:A->B->C->D->Prop}(k:∀a b c d,p a b c d->R):(∃a b c d,p a b c d)->R:=fun⟨a,b,c,d,h⟩=>k a b c d h
theorem ZE5{p:A->B->C->D->E->Prop}(k:∀a b c d e,p a b c d e->R):(∃a b c d e,p a b c d e)->R:=fun⟨a,b,c,d,e,h⟩=>k a b c d e h
theorem ZE6{p:A->B->C->D->E->F->Prop}(k:∀a b c d e f,p a b c d e f->R):(∃a b c d e f,p a b c d e f)->R:=fun⟨a,b,c,d,e,f,h⟩=>k a b c d e f h
theorem ZE7{p:A->B->C->D->E->F->G->Prop}(k:∀a b c d e f g,p a b c d e f g->R):(∃a b c d e f g,p a b c d e f g)->R:=fun⟨a,b,c,d,e,f,g,h⟩=>k a b c d e f g h
end
open Lean in
local macro_rules
| `(tactic|rintro⟨$ps,*⟩)=>do
 let p:=ps.getElems
 let n:=p.size
 if n<2 then Macro.throwUnsupported
 let q<-p.mapM fun x=>do let y<-`(rcasesPat|($x));`(rintroPat|$y:rcasesPat)
 let f(s:String)(i j:Nat):MacroM (TSyntax `Lean.Parser.Tactic.tacticSeq):=do
  let m:=mkIdent (.mkSimple s!"{s}{i}")
  let a:=q.extract 0 j
  if j=n then`(tacticSeq|refine $m ?_;rintro $a*)
  else if j+1=n then let b:=q.extract j n;`(tacticSeq|refine $m ?_;rintro $a*<;>rintro $b*)
  else let b:=p.extract j n;`(tacticSeq|refine $m ?_;rintro $a*<;>rintro⟨$b,*⟩)
 let mut t:=#[]
 if n<=6 then t:=t.push (<-f "ZA" n n)
 else t:=t.push (<-f "ZA" 6 (6-1))
 let k:=min (n-1) 7
 for i in[0:k]do t:=t.push (<-f "ZE" (k-i) (k-i))
 let k:=min n 6-2
 for i in[0:k]do t:=t.push (<-f "ZA" (k+1-i) (k-i))
 `(tactic|first$[|$t]*)
open Lean Parser.Tactic in
local macro_rules
| `(tactic|rintro $p:rintroPat $q*)=>do
 if q.size=0||!(#[p]++q).any (·.raw[0].isOfKind ``rcasesPat.tuple) then Macro.throwUnsupported
 `(tactic|rintro $p:rintroPat<;>rintro $q*)
| `(tactic|rcases $h:term with $p:rcasesPat|$q:rcasesPat)=>`(tactic|focus refine Or.elim $h ?_ ?_;rotate_left;rintro $q:rcasesPat;rotate_left;rintro $p:rcasesPat)
local macro_rules
| `(tactic|obtain⟨$ps,*⟩:=$h:ident)=>`(tactic|(refine (?_:_->_) $h;clear $h;rintro⟨$ps,*⟩))
| `(tactic|obtain⟨$ps,*⟩:=$h)=>`(tactic|(refine (?_:_->_) $h;rintro⟨$ps,*⟩))
section
open PySem PySem.Spec PyProof.Rows
def az:=@wpAny_bind
def aZ:=@wpAny_pure
def aL:=@List.length_map
def cB:=@List.getElem?_eq_getElem
def bR:=@List.getElem?_map
def cM:=@Heap.get?_push_of_some
def cq:=@List.length_append
def bZ:=@decide_eq_false
def bY:=@decide_eq_true
def bo:=@Nat.le_refl
def fD:=@List.getElem?_eq_some_iff
def bA:=@Nat.zero_le
def b3:=@Nat.le_trans
def bW:=@Heap.lt_size
def eF:=@List.mem_cons_of_mem
def eG:=@Heap.get?_push_size
def cV:=@List.map_append
def aB:=@if_neg
def aE:=@if_pos
def dw:=@Bool.and_eq_true
def fC:=@List.mem_of_getElem?
def dQ:=@List.length_cons
def eE:=@decide_eq_true_eq
def fi:=@Nat.lt_of_lt_of_le
def dv:=@List.mem_cons
def fE:=@Bool.false_ne_true
def d3:=@Option.some.inj
def cx:=@List.mem_map
def eQ:=@List.mem_append
def jd:=@Nat.lt_of_le_of_lt
def gH:=@List.length_take
def lM:=@List.getD_eq_getElem?_getD
def fj:=@List.map_cons
def gj:=@List.size_toArray
def d9:=@Nat.ne_of_lt
def nk:=@List.drop_eq_getElem_cons
def f6:=@List.map_map
def lL:=@List.getElem?_range
def jX:=@List.length_drop
def ajH:=@Array.getElem?_toList
def pE:=@List.mem_of_find?_eq_some
def ni:=@List.take_length
def x8:=@List.drop_length
def qB:=@List.length_range
def gU:=@PySem.F.plainAttrs_list
def iQ:=@PySem.F.slot_list_append
def iP:=@PySem.F.type_list_append
def e7:=@PySem.boot_len
def Y5:=@Nat.sub_zero
def nq:=@List.append_nil
def qD:=@Heap.get?_update_other
def mj:=@Int.toNat_natCast
def Bw:=@List.drop_drop
def kY:=@List.mem_filter
def mi:=@List.mem_range
def vK:=@List.range_succ
def x6:=@List.getElem?_drop
def tG:=@Nat.min_eq_left
def qC:=@List.find?_cons
def pF:=@Bool.true_and
def tH:=@List.length_filter_le
def Bv:=@List.drop_of_length_le
def Bt:=@List.take_of_length_le
def Bu:=@List.find?_eq_none
def x5:=@List.mem_of_mem_take
def FJ:=@List.mem_of_mem_drop
def ajF:=@Bool.eq_false_iff
def Oz:=@PySem.W.mg_of
abbrev aI:=PySem.W.Frag
abbrev aW:=Po.Rules
abbrev bI:=Po.Item
abbrev bP:=Po.Kept
abbrev ah:=Value
abbrev aw:=Shared
abbrev ae:=Addr
abbrev ajG:=Po.Bytes
end
namespace Pm
open Po
theorem CG:∀(o b:ajG),common o b<=o.length
 | [],b=>by unfold common;simp
 | x::l,[]=>by unfold common;simp
 | x::l,y::m=>by
  unfold common;split
  ·have:=CG l m;simp;omega
  ·simp
theorem qI:∀(o b:ajG),o.isPrefixOf b=true↔common o b=o.length
 | [],b=>by unfold common;simp
 | x::l,[]=>by unfold common;simp
 | x::l,y::m=>by
  unfold common;by_cases h:x=y
  ·subst h;rw[aE rfl];have:=qI l m;simp only[List.isPrefixOf,beq_self_eq_true,pF,dQ,Nat.add_right_cancel_iff];exact this
  ·rw[aB h];simp[List.isPrefixOf,h]
theorem CD:∀{o b:ajG}{d:Nat},d<=common o b->(d<common o b↔∃c,o[d]?=some c/\b[d]?=some c)
 | [],b,d,h=>by unfold common at h⊢;simp
 | x::l,[],d,h=>by unfold common at h⊢;simp
 | x::l,y::m,d,h=>by
  unfold common at h⊢;by_cases e:x=y
  ·subst e;rw[aE rfl]at h⊢
   match d with
   | 0=>simp
   | d+1 =>have:=CD (o:=l) (b:=m) (d:=d) ⋯;simp only[List.getElem?_cons_succ,Nat.add_lt_add_iff_right];exact this
  ·rw[aB e]at h⊢;obtain rfl:d=0:=by omega
   simp[Ne.symm e]
def vU {o u b:ajG}{d:Nat}(ho:common o b=o.length)(hl:o.length<=d)(hu:d<=common u b):o.isPrefixOf u=true:=by
 induction o generalizing u b d with
 | nil=>simp
 | cons x l ih =>
  match b with
  | []=>unfold common at ho;simp at ho
  | y::m =>
   match u with
   | []=>unfold common at hu;simp at hl;omega
   | z::v =>
    unfold common at ho hu;by_cases e1:x=y
    ·rw[aE e1]at ho;by_cases e2:z=y
     ·rw[aE e2]at hu;simp at ho hl;have:=ih (u:=v) (b:=m) (d:=d-1) ho ⋯ ⋯;simp[List.isPrefixOf,e1,e2,this]
     ·rw[aB e2]at hu;simp at hl;omega
    ·rw[aB e1]at ho;simp at ho
structure iK (aM:List ajG):Prop where
 ne:∀o∈aM,o≠[]
 pf:∀o∈aM,∀u∈aM,o.isPrefixOf u=true->o=u
noncomputable def keep (d:Nat)(b:ajG)(possible:List ajG):List ajG:=possible.filter fun o=>decide (b.head?.isSome=true/\o[d]?=b.head?)
noncomputable def qK:Nat->List ajG->Nat->ajG->Nat->Got ajG
 | 0,_,_,_,p=>.error p
 | n+1,possible,d,b,p=>match keep d b possible with
  | []=>.error p
  | o::r=>if o.length=d+1 then .ok (o,b.tail,p+1)else qK n (o::r) (d+1) b.tail (p+1)
def LN (aM:List ajG)(b:ajG)(p:Nat):Got ajG->Prop
 | .ok (o,r,q)=>o∈aM/\o.isPrefixOf b=true/\r=b.drop o.length/\q=p+o.length
 | .error k=>(∀o∈aM,o.isPrefixOf b=false)/\∃m,k=p+m/\(∀o∈aM,common o b<=m)/\(m=0\/∃o∈aM,common o b=m)
def afi {aM:List ajG}{b:ajG}{d:Nat}:keep d (b.drop d) (aM.filter fun o=>decide (d<=common o b))=aM.filter fun o=>decide (d+1<=common o b):=by
 unfold keep;rw[List.filter_filter];apply List.filter_congr;intro o _;rw[Bool.eq_iff_iff];simp only[dw,eE,List.head?_drop];constructor
 ·rintro⟨⟨h1,h2⟩,h3⟩;obtain⟨c,hc⟩:=Option.isSome_iff_exists.mp h1;exact(CD h3).mpr ⟨c,by rw[h2,hc],hc⟩
 ·intro h;have h':d<=common o b:=by omega
  obtain⟨c,h1,h2⟩:=(CD h').mp ⋯;exact⟨⟨by rw[h2];rfl,by rw[h1,h2]⟩,h'⟩
theorem SH {aM:List ajG}(F:iK aM){b:ajG}{p:Nat}:∀(n d:Nat),(∀o∈aM,o.length<n+d)->(d=0\/∃o∈aM,d<=common o b)->(∀o∈aM,o.isPrefixOf b=true->d<o.length)->LN aM b p (qK n (aM.filter fun o=>decide (d<=common o b)) d (b.drop d) (p+d))
 | 0,d,hn,hs,hp=>by
  show LN aM b p (.error (p+d));have hd:d=0:=by
   rcases hs with h|⟨o,ho,h⟩
   ·exact h
   ·have:=hn o ho;have:=CG o b;omega
  subst hd;have he:∀o,o∉aM:=fun o ho=>by have:=hn o ho;omega
  exact⟨fun o ho=>absurd ho (he o),0,rfl,fun o ho=>absurd ho (he o),.inl rfl⟩
 | n+1,d,hn,hs,hp=>by
  unfold qK;rw[afi];cases e:aM.filter (fun o=>decide (d+1<=common o b))with
  | nil =>
   have none_:∀o∈aM,common o b<=d:=fun o ho=>by have:=List.filter_eq_nil_iff.mp e o ho;simp at this;omega
   apply⟨fun o ho=>?_,d,rfl,none_,?_⟩
   ·cases q:o.isPrefixOf b with
    | false=>rfl
    | true =>have h1:=hp o ho q;have h2:=(qI o b).mp q;have h3:=none_ o ho;omega
   ·rcases hs with h|⟨o,ho,h⟩
    ·exact .inl h
    ·exact .inr ⟨o,ho,Nat.le_antisymm (none_ o ho) h⟩
  | cons o r =>
   have mem:o∈aM.filter fun o=>decide (d+1<=common o b):=by rw[e];simp
   obtain⟨m1,m2⟩:=kY.mp mem;have m2:=of_decide_eq_true m2;simp only;by_cases h:o.length=d+1
   ·rw[aE h];have hc:common o b=o.length:=by have:=CG o b;omega
    apply⟨m1,(qI o b).mpr hc,?_,by omega⟩;rw[List.tail_drop,h]
   ·rw[aB h,List.tail_drop,<-e];apply SH F n (d+1) (fun u hu=>by have:=hn u hu;omega) (.inr ⟨o,m1,m2⟩) fun u hu q=>?_;have h1:=hp u hu q;have h2:=(qI u b).mp q;have h3:u.length≠d+1:=fun z=>by have:=F.pf u hu o m1 (vU h2 (Nat.le_of_eq z) m2);subst this;exact h z
    omega
def aN (aM:List ajG):Nat:=(aM.map List.length).foldl max 0
def Im (l:List Nat):∀(a:Nat),a<=l.foldl max a/\∀x∈l,x<=l.foldl max a:=by
 induction l with
 | nil=>intro a;simp
 | cons y r ih =>
  intro a;obtain⟨h1,h2⟩:=ih (max a y);apply⟨by simp only[List.foldl_cons];omega,fun x hx=>?_⟩;simp only[List.foldl_cons];rcases dv.mp hx with rfl|hx
  ·omega
  ·exact h2 x hx
def ZZ (l:List Nat):∀(a:Nat),l.foldl max a=a\/l.foldl max a∈l:=by
 induction l with
 | nil=>intro a;simp
 | cons y r ih =>
  intro a;simp only[List.foldl_cons];rcases ih (max a y)with h|h
  ·rw[h];by_cases q:a<=y
   ·right;rw[Nat.max_eq_right q];simp
   ·left;omega
  ·exact .inr (eF _ h)
def fe (aM:List ajG)(b:ajG)(p:Nat):Got ajG:=qK (aN aM+1) aM 0 b p
def tJ {aM:List ajG}(F:iK aM)(b:ajG)(p:Nat):LN aM b p (fe aM b p):=by
 have h:=SH F (b:=b) (p:=p) (aN aM+1) 0 (fun o ho=>by
  have:=(Im (aM.map List.length) 0).2 o.length (cx.mpr ⟨o,ho,rfl⟩);unfold aN;omega) (.inl rfl) fun o ho _=>by
   have:=F.ne o ho;cases o with
   | nil=>exact absurd rfl this
   | cons _ _=>simp
 have e:aM.filter (fun o=>decide (0<=common o b))=aM:=List.filter_eq_self.mpr fun _ _=>by simp
 rw[e]at h;exact h
def Kx {aM:List ajG}{nums:List (Nat×ajG)}(F:iK aM)(same:∀o,o∈aM↔o∈nums.map (·.2))(b:ajG)(p:Nat):match fe aM b p with
  | .ok (o,r,q)=>∃k,(k,o)∈nums/\oneOf nums b p= .ok (k,r,q)
  | .error e=>oneOf nums b p= .error e:=by
 have h:=tJ F b p;cases q:fe aM b p with
 | ok x =>
  obtain⟨o,r,z⟩:=x;rw[q]at h;obtain⟨h1,h2,h3,h4⟩:=h;simp only;unfold oneOf;cases f:nums.find? (fun(o:Nat×ajG)=>o.2.isPrefixOf b)with
  | none =>exfalso;obtain⟨y,hy,he⟩:=cx.mp ((same o).mp h1);have:=Bu.mp f y hy;rw[he]at this;exact this h2
  | some y =>
   have hm:=pE f;have hp:=List.find?_some f;have hp:y.2.isPrefixOf b=true:=hp;have ho:y.2∈aM:=(same y.2).mpr (cx.mpr ⟨y,hm,rfl⟩);have e:y.2=o:=by
    have c1:=(qI _ _).mp hp;have c2:=(qI _ _).mp h2;by_cases le:y.2.length<=o.length
    ·exact F.pf _ ho _ h1 (vU c1 le ⋯)
    ·exact(F.pf _ h1 _ ho (vU c2 ⋯ (Nat.le_of_eq c1.symm))).symm
   apply⟨y.1,by rw[<-e];exact hm,?_⟩;simp only[e,h3,h4]
 | error e =>
  rw[q]at h;obtain⟨h1,m,rfl,h3,h4⟩:=h;simp only;unfold oneOf;have f:nums.find? (fun(o:Nat×ajG)=>o.2.isPrefixOf b)=none:=by rw[Bu];intro y hy;rw[h1 y.2 ((same y.2).mpr (cx.mpr ⟨y,hy,rfl⟩))];decide
  rw[f];simp only;congr 2;have q1:=Im (nums.map fun(o:Nat×ajG)=>common o.2 b) 0;have q2:=ZZ (nums.map fun(o:Nat×ajG)=>common o.2 b) 0;apply Nat.le_antisymm
  ·rcases q2 with z|z
   ·rw[z];exact bA _
   ·obtain⟨y,hy,e⟩:=cx.mp z;rw[<-e];exact h3 y.2 ((same y.2).mpr (cx.mpr ⟨y,hy,rfl⟩))
  ·rcases h4 with z|⟨o,ho,z⟩
   ·rw[z];exact bA _
   ·rw[<-z];obtain⟨y,hy,he⟩:=cx.mp ((same o).mp ho);exact q1.2 _ (cx.mpr ⟨y,hy,by rw[he]⟩)
def gb {α β:Type}(x:Got α)(f:α->ajG->Nat->Got β):Got β:=match x with
 | .error k=>.error k
 | .ok (a,r,q)=>f a r q
def bj {α β:Type}{a:α}{r:ajG}{q:Nat}{f:α->ajG->Nat->Got β}:gb (.ok (a,r,q)) f=f a r q:=rfl
def iX {α β:Type}{k:Nat}{f:α->ajG->Nat->Got β}:gb (.error k:Got α) f= .error k:=rfl
def eJ {α β γ:Type}(x:Got α)(f:α->ajG->Nat->Got β)(g:β->ajG->Nat->Got γ):gb (gb x f) g=gb x fun a r q=>gb (f a r q) g:=by cases x<;>rfl
def ib {α β:Type}{x:Got α}{f g:α->ajG->Nat->Got β}(h:∀a r q,f a r q=g a r q):gb x f=gb x g:=by
 cases x with
 | error=>rfl
 | ok y=>exact h _ _ _
def b6 (l:List UInt8)(b:ajG):Bool:=match b with
 | []=>false
 | c::_=>l.contains c
def cW (c:UInt8)(b:ajG)(p:Nat):Got Unit:=match b with
 | x::r=>if x=c then .ok ((),r,p+1)else .error p
 | []=>.error p
def pN {c:UInt8}{r:ajG}{p:Nat}:cW c (c::r) p= .ok ((),r,p+1):=by simp[cW]
def pP {c x:UInt8}{r:ajG}{p:Nat}(h:x≠c):cW c (x::r) p= .error p:=by simp[cW,h]
def gr {α:Type}(x:Got α):Got α:=gb x fun a r q=>gb (cW 10 r q) fun _ s z=>.ok (a,s,z)
def pS {α β:Type}(x:Got α)(f:α->ajG->Nat->Got β):gr (gb x f)=gb x fun a r q=>gr (f a r q):=eJ _ _ _
noncomputable def kq (aN:Nat):Nat->Nat->Nat->ajG->Nat->Got (List Word)
 | 0,_,_,b,p=>.ok ([],b,p)
 | n+1,bM,fh,b,p=>if fh<bM\/(fh<aN/\b6 [10] b=false)then
   gb (cW 32 b p) fun _ r q=>gb (wordIn r q) fun w s z=>gb (kq aN n bM (fh+1) s z) fun l d y=>.ok (w::l,d,y)
  else .ok ([],b,p)
def gI (aN bM:Nat)(b:ajG)(p:Nat):Got (List Word):=gb (wordIn b p) fun w r q=>gb (kq aN aN bM 1 r q) fun l d y=>.ok (w::l,d,y)
noncomputable def qM (left bM:Nat)(w:Word)(b:ajG)(p:Nat):Got (List Word):=match b with
 | []=>.error p
 | c::r=>if c=10 then(if bM<=1 then .ok ([w],r,p+1)else .error p)else if c=32 then(if left=0 then .error p else gb (wordsIn_ left (bM-1) r (p+1)) fun l s k=>.ok (w::l,s,k))else .error p
def R6 (left bM:Nat)(b:ajG)(p:Nat):wordsIn_ (left+1) bM b p=gb (wordIn b p) fun w r q=>qM left bM w r q:=by
 rw[wordsIn_];cases wordIn b p with
 | error k=>rfl
 | ok x =>
  obtain⟨w,r,q⟩:=x;show _=qM left bM w r q;cases r with
  | nil=>rfl
  | cons c r =>
   unfold qM;by_cases h:c=10
   ·subst h;rfl
   ·by_cases h2:c=32
    ·subst h2;simp only[h,if_false,if_true];split
     ·rfl
     ·cases wordsIn_ left (bM-1) r (q+1)<;>rfl
    ·simp only[h,h2,if_false];split
     ·rename_i e;cases e
     ·rename_i e;simp at e;exact absurd e.2.1.1 h
     ·rename_i e;simp at e;exact absurd e.2.1.1 h2
     ·rename_i e;simp at e;rw[e.2.2]
def ac3 (aN bM:Nat)(hl:bM<=aN):∀(n fh:Nat)(b:ajG)(p:Nat)(w:Word),n+fh=aN->1<=fh->∀(m:Nat),n<=m->gr (gb (kq aN m bM fh b p) fun l d y=>.ok (w::l,d,y))=qM n (bM-(fh-1)) w b p:=by
 intro n
 induction n with
 | zero =>
  intro fh b p w hn h1 m _;have e:kq aN m bM fh b p= .ok ([],b,p):=by
   cases m with
   | zero=>rfl
   | succ m=>unfold kq;rw[aB ⋯]
  rw[e,bj];unfold gr;rw[bj]
  match b with
  | []=>rfl
  | c::r =>
   by_cases h:c=10
   ·subst h;rw[pN];simp only[qM,if_true];rw[aE ⋯];rfl
   ·rw[pP h];simp only[qM,h,if_false,if_true];split<;>rfl
 | succ n ih =>
  intro fh b p w hn h1 m hm;obtain⟨m,rfl⟩:∃k,m=k+1:=⟨m-1,by omega⟩;unfold kq
  match b with
  | [] =>rw[aE (.inr ⟨by omega,rfl⟩)];rfl
  | c::r =>
   by_cases hc:c=10
   ·subst hc;simp only[qM,if_true];by_cases h:fh<bM
    ·rw[aE (.inl h),pP (by decide),aB ⋯];rfl
    ·rw[aB (by rintro(q|q);exact h q;exact absurd q.2 (by simp[b6])),aE ⋯];rfl
   ·have hs:b6 [10] (c::r)=false:=by simp[b6,hc]
    rw[aE (.inr ⟨by omega,hs⟩)];simp only[qM,hc,if_false];by_cases h2:c=32
    ·subst h2;rw[pN,bj,aE rfl,aB ⋯,R6,eJ,eJ,pS];apply ib fun v s z=>?_;have Nc:=ih (fh+1) s z v ⋯ ⋯ m ⋯;rw[show bM-(fh-1)-1=bM-(fh+1-1) by omega,<-Nc];unfold gr;rw[eJ,eJ,eJ,eJ];apply ib fun l d y=>?_;rw[bj,bj,bj,eJ];exact ib fun _ _ _=>rfl
    ·rw[pP h2,aB h2];rfl
def Ko {aN bM:Nat}(h1:1<=aN)(hl:bM<=aN)(b:ajG)(p:Nat):gr (gI aN bM b p)=wordsIn_ aN bM b p:=by obtain⟨n,rfl⟩:∃n,aN=n+1:=⟨aN-1,by omega⟩;unfold gI;rw[R6,pS];apply ib fun w r q=>?_;have:=ac3 (n+1) bM hl n 1 r q w rfl (bo _) (n+1) ⋯;rw[this];rfl
def gK (acc:List Item)(k:Nat):Bool:=acc.any fun i=>i.kind==k
def jE (acc:List Item):Bool:=acc.any fun i=> !i.may
def eR (k:Nat):ajG:=KINDS.getD k []
noncomputable def names (acc:List Item)(shape:Bool):List ajG:=[61]::((List.range 9).filter fun k=>(k !=CODE||shape)&& !gK acc k).map eR
def kindOf (o:ajG):Nat:=if o=[61]then OWN else KINDS.idxOf o
def lU (o r:ajG)(q:Nat):Got Word:=if o=[61]then wordIn r q else .ok ([],r,q)
def nD (acc:List Item):Bool:=decide (acc.length=15)&& !jE acc
def wq (aiI:Bool)(o:ajG)(w:Word)(s:ajG)(z:Nat):Got Item :=
 if aiI=false/\b6 [63] s=true then .ok (⟨kindOf o,w,true⟩,s.tail,z+1)else .ok (⟨kindOf o,w,false⟩,s,z)
def iF (acc:List Item)(shape:Bool)(b:ajG)(p:Nat):Got Item :=
 gb (fe (names acc shape) b p) fun o r q=>gb (lU o r q) fun w s z=>wq (nD acc) o w s z
def aee:List ajG:=[61]::(List.range 9).map eR
def Z3:iK aee:=⟨by decide,by decide⟩
def iK.de {l m:List ajG}(F:iK m)(h:∀o∈l,o∈m):iK l:=⟨fun o ho=>F.ne o (h o ho),fun o ho u hu=>F.pf o (h o ho) u (h u hu)⟩
def wd (acc:List Item)(shape:Bool):iK (names acc shape):=Z3.de fun o ho=>by
 rcases dv.mp ho with rfl|ho
 ·exact List.mem_cons_self
 ·obtain⟨k,hk,rfl⟩:=cx.mp ho;exact eF _ (cx.mpr ⟨k,(kY.mp hk).1,rfl⟩)
noncomputable def wt (bH:List Nat)(shape:Bool):List (Nat×ajG):=(((List.range OWN).filter fun(k:Nat)=> !bH.contains k&&(k !=CODE||shape)).map fun(k:Nat)=>(k,KINDS.getD k []))++[(OWN,[61])]
def Av (bH:List Nat)(acc:List Item):Prop:=∀k,k<9->bH.contains k=gK acc k
def JT {bH:List Nat}{acc:List Item}{shape:Bool}(h:Av bH acc)(o:ajG):o∈names acc shape↔o∈(wt bH shape).map (·.2):=by
 unfold names wt;simp only[dv,cx,kY,mi,cV,fj,List.map_nil,eQ,List.not_mem_nil,or_false,OWN];constructor
 ·rintro(h1|⟨k,⟨h1,h2⟩,h3⟩)
  ·exact .inr h1
  ·apply .inl ⟨(k,o),⟨k,⟨h1,?_⟩,by rw[<-h3];rfl⟩,rfl⟩;rw[h k h1,Bool.and_comm];exact h2
 ·rintro(⟨x,⟨k,⟨h1,h2⟩,h3⟩,h4⟩|h1)
  ·apply .inr ⟨k,⟨h1,?_⟩,by rw[<-h4,<-h3];rfl⟩;rw[<-h k h1,Bool.and_comm];exact h2
  ·exact .inl h1
def vY:∀k,k<9->kindOf (eR k)=k/\eR k≠[61]:=by decide
def JU {bH:List Nat}{shape:Bool}{k:Nat}{o:ajG}(h:(k,o)∈wt bH shape):kindOf o=k/\(o=[61]↔k=OWN):=by
 unfold wt at h;rcases eQ.mp h with h|h
 ·obtain⟨j,hj,e⟩:=cx.mp h;injection e with e1 e2;subst e1;have lt:j<9:=mi.mp (kY.mp hj).1;obtain⟨q1,q2⟩:=vY j lt;have e2:eR j=o:=e2;rw[<-e2];exact⟨q1,⟨fun z=>absurd z q2,fun z=>by unfold OWN at z;omega⟩⟩
 ·simp at h;obtain⟨rfl,rfl⟩:=h;exact⟨rfl,⟨fun _=>rfl,fun _=>rfl⟩⟩
def C2 (may:Bool)(o:ajG)(w:Word)(s:ajG)(z:Nat):Got Item :=
 if b6 [63] s=true then(if may=true then .ok (⟨kindOf o,w,true⟩,s.tail,z+1)else .error z)else .ok (⟨kindOf o,w,false⟩,s,z)
def TF {bH:List Nat}{acc:List Item}{shape:Bool}(h:Av bH acc)(may:Bool)(b:ajG)(p:Nat):itemIn bH shape may b p=gb (fe (names acc shape) b p) fun o r q=>gb (lU o r q) fun w s z=>C2 may o w s z:=by
 unfold itemIn;have q:=Kx (wd acc shape) (JT (shape:=shape) h) b p;cases e:fe (names acc shape) b p with
 | error k =>rw[e]at q;simp only at q;unfold wt at q;rw[q];rfl
 | ok x =>
  obtain⟨o,r,z⟩:=x;rw[e]at q;obtain⟨k,hk,q⟩:=q;unfold wt at q;rw[q,bj];obtain⟨k1,k2⟩:=JU hk;simp only;have ew:(if k=OWN then wordIn r z else .ok ([],r,z):Got Word)=lU o r z:=by
   unfold lU;by_cases ho:o=[61]
   ·rw[aE ho,aE (k2.mp ho)]
   ·rw[aB ho,aB fun y=>ho (k2.mpr y)]
  rw[ew];cases lU o r z with
  | error k=>rfl
  | ok x =>
   obtain⟨w,s,y⟩:=x;rw[bj];unfold C2;rw[k1]
   match s with
   | []=>rfl
   | c::t =>
    by_cases hc:c=63
    ·subst hc;simp[b6]
    ·simp only[b6,List.contains_cons,List.contains_nil,Bool.or_false,beq_iff_eq,hc,if_false];split
     ·rename_i e;cases e
     ·rename_i e;simp at e;exact absurd e.2.1.1 hc
     ·rename_i e;simp at e;rw[e.1,<-e.2.1,e.2.2]
noncomputable def f7 (b:ajG)(p:Nat):Got Nat :=
 if b6 [44] b=true then gb (cW 32 b.tail (p+1)) fun _ r q=>.ok (1,r,q)
 else gb (cW 32 b p) fun _ r q=>if b6 [47] r=true then gb (cW 32 r.tail (q+1)) fun _ s z=>.ok (2,s,z)else .ok (0,r,q)
noncomputable def jD (shape:Bool):Nat->List Item->ajG->Nat->Got (List (Nat×Item))
 | 0,_,b,p=>.ok ([],b,p)
 | n+1,acc,b,p=>if b6 [10] b=true/\jE acc=true then .ok ([],b,p)
  else gb (f7 b p) fun j r q=>gb (iF acc shape r q) fun i s z=>gb (jD shape n (acc++[i]) s z) fun l d y=>.ok ((j,i)::l,d,y)
noncomputable def pQ (n:Nat)(bH:List Nat)(shape fh:Bool)(cw:Nat)(i:Item)(r:ajG)(q:Nat):Got (List (Nat×Item)):=match r with
 | []=>.error q
 | c::t=>if c=10 then(if fh=true then .ok ([(cw,i)],t,q+1)else .error q)else if n=0 then .error q
  else gb (f7 (c::t) q) fun j s z=>gb (itemsIn n bH shape fh j s z) fun l d y=>.ok ((cw,i)::l,d,y)
def Sq (n:Nat)(bH:List Nat)(shape Aj:Bool)(cw:Nat)(b:ajG)(p:Nat):itemsIn (n+1) bH shape Aj cw b p=gb (itemIn bH shape (Aj||n !=0) b p) fun i r q=>pQ n (if i.kind=OWN then bH else i.kind::bH) shape (Aj|| !i.may) cw i r q:=by
 rw[itemsIn];cases itemIn bH shape (Aj||n !=0) b p with
 | error k=>rfl
 | ok x =>
  obtain⟨i,r,q⟩:=x;rw[bj];simp only;generalize (if i.kind=OWN then bH else i.kind::bH)=now;generalize (Aj|| !i.may)=fh
  match r with
  | []=>rfl
  | c::t =>
   unfold pQ;by_cases h1:c=10
   ·subst h1;rfl
   simp only[h1,if_false];by_cases h2:c=44
   ·subst h2
    match t with
    | []=>by_cases hn:n=0<;>simp[hn,f7,b6,cW,gb]
    | d::t =>
     by_cases h3:d=32
     ·subst h3;by_cases hn:n=0
      ·simp[hn]
      ·simp only[hn,if_false,f7,b6,List.contains_cons,beq_self_eq_true,Bool.true_or,if_true,List.tail_cons,pN,bj];cases itemsIn n now shape fh 1 t (q+1+1)<;>rfl
     ·by_cases hn:n=0
      ·simp only[hn,if_true];split<;>simp_all
      ·simp only[hn,if_false,f7,b6,List.contains_cons,beq_self_eq_true,Bool.true_or,if_true,List.tail_cons,pP h3,iX];split<;>simp_all
   by_cases h3:c=32
   ·subst h3;have xF:∀t:ajG,b6 [44] (32::t)=false:=fun t=>by simp[b6]
    match t with
    | [] =>
     by_cases hn:n=0
     ·simp[hn]
     ·simp only[hn,if_false,f7,xF,Bool.false_eq_true,pN,bj];simp only[b6,Bool.false_eq_true,if_false,bj];cases itemsIn n now shape fh 0 [] (q+1)<;>rfl
    | d::t =>
     by_cases h4:d=47
     ·subst h4;have XX:∀t:ajG,b6 [47] (47::t)=true:=fun t=>by simp[b6]
      match t with
      | []=>by_cases hn:n=0<;>simp[hn,f7,b6,cW,gb]
      | e::t =>
       by_cases h5:e=32
       ·subst h5;by_cases hn:n=0
        ·simp[hn]
        ·simp only[hn,if_false,f7,xF,Bool.false_eq_true,pN,bj,XX,if_true,List.tail_cons];cases itemsIn n now shape fh 2 t (q+1+1+1)<;>rfl
       ·by_cases hn:n=0
        ·simp only[hn,if_true];split<;>simp_all
        ·simp only[hn,if_false,f7,xF,Bool.false_eq_true,pN,bj,XX,if_true,List.tail_cons,pP h5,iX];split<;>simp_all
         rename_i x e
         subst e;exact absurd rfl (x _)
     ·have hs:b6 [47] (d::t)=false:=by simp[b6,h4]
      by_cases hn:n=0
      ·simp only[hn,if_true];split<;>simp_all
      ·simp only[hn,if_false,f7,xF,Bool.false_eq_true,pN,bj,hs];split
       ·simp_all
       ·simp_all
       ·simp_all
       ·simp_all
       ·simp_all
       ·rename_i x y z w e
        injection e with e1 e2;rw[<-e2];cases itemsIn n now shape fh 0 (d::t) (q+1)<;>rfl
       ·simp_all
   ·have e1:b6 [44] (c::t)=false:=by simp[b6,h2]
    have e2:f7 (c::t) q= .error q:=by unfold f7;rw[e1];simp only[Bool.false_eq_true,if_false,pP h3,iX]
    rw[e2,iX];split<;>simp_all
def Tq (acc:List Item)(i:Item):jE (acc++[i])=(jE acc|| !i.may):=by simp[jE]
def abW {bH:List Nat}{acc:List Item}(h:Av bH acc)(i:Item):Av (if i.kind=OWN then bH else i.kind::bH) (acc++[i]):=fun k hk=>by
 unfold gK;rw[List.any_append];have:=h k hk;unfold gK at this;by_cases e:i.kind=OWN
 ·rw[aE e,this];have:(i.kind==k)=false:=by rw[e];simp[OWN];omega
  simp[this]
 ·rw[aB e,List.contains_cons,this];simp only[List.any_cons,List.any_nil,Bool.or_false];rw[Bool.or_comm,BEq.comm (a:=k)]
def acK (t:ajG)(q:Nat):f7 (10::t) q= .error q:=by simp[f7,b6,cW,gb]
def adW (shape:Bool):∀(n:Nat)(acc:List Item)(bH:List Nat)(cw:Nat)(b:ajG)(p:Nat),n+acc.length=15->Av bH acc->gr (gb (iF acc shape b p) fun i r q=>gb (jD shape n (acc++[i]) r q) fun l d y=>.ok ((cw,i)::l,d,y))=itemsIn (n+1) bH shape (jE acc) cw b p:=by
 intro n
 induction n with
 | zero =>
  intro acc bH cw b p hn hu;rw[Sq,TF hu];unfold iF;rw[eJ,eJ,pS];apply ib fun o r q=>?_;rw[eJ,eJ,pS];apply ib fun w s z=>?_;have fin:∀(i:Item)(s:ajG)(z:Nat),(jE acc|| !i.may)=true->gr (gb (jD shape 0 (acc++[i]) s z) fun l d y=>(.ok ((cw,i)::l,d,y):Got (List (Nat×Item))))=pQ 0 (if i.kind=OWN then bH else i.kind::bH) shape (jE acc|| !i.may) cw i s z:=fun i s z hh=>by
   rw[hh];show gr (.ok ([(cw,i)],s,z))=_;unfold gr;rw[bj]
   match s with
   | []=>rfl
   | c::t =>
    by_cases hc:c=10
    ·subst hc;rw[pN];simp[pQ,bj]
    ·rw[pP hc];simp[pQ,hc,iX]
  have hl:nD acc= !jE acc:=by unfold nD;rw[bY (show acc.length=15 by omega)];rfl
  unfold wq C2;rw[hl];cases hm:jE acc with
  | true =>
   rw[hm]at fin;by_cases h:b6 [63] s=true
   ·rw[aE ⟨rfl,h⟩,aE h,aE (by rfl),bj,bj];exact fin _ _ _ rfl
   ·rw[aB (fun x=>h x.2),aB h,bj,bj];exact fin _ _ _ rfl
  | false =>
   rw[hm]at fin;rw[aB (by simp),bj];by_cases h:b6 [63] s=true
   ·rw[aE h,aB (by decide),iX]
    match s with
    | []=>simp[b6]at h
    | c::t =>
     have hc:c=63:=by simpa[b6]using h
     subst hc;rfl
   ·rw[aB h,bj];exact fin _ _ _ rfl
 | succ n ih =>
  intro acc bH cw b p hn hu;rw[Sq,TF hu];unfold iF;rw[eJ,eJ,pS];apply ib fun o r q=>?_;rw[eJ,eJ,pS];apply ib fun w s z=>?_;have fin:∀(i:Item)(s:ajG)(z:Nat),gr (gb (jD shape (n+1) (acc++[i]) s z) fun l d y=>(.ok ((cw,i)::l,d,y):Got (List (Nat×Item))))=pQ (n+1) (if i.kind=OWN then bH else i.kind::bH) shape (jE acc|| !i.may) cw i s z:=fun i s z=>by
   rw[jD,Tq]
   match s with
   | [] =>rw[aB (by simp[b6])];rfl
   | c::t =>
    by_cases hc:c=10
    ·subst hc;by_cases hh:(jE acc|| !i.may)=true
     ·rw[aE ⟨by simp[b6],hh⟩,hh];simp[gr,gb,cW,pQ]
     ·rw[aB (fun x=>hh x.2),acK];simp[gr,gb,pQ,hh]
    ·rw[aB (fun x=>hc (by simpa[b6]using x.1))];simp only[pQ,hc,if_false,Nat.add_eq_zero_iff,Nat.one_ne_zero,and_false];rw[eJ,pS];apply ib fun j r q=>?_;have Nc:=ih (acc++[i]) (if i.kind=OWN then bH else i.kind::bH) j r q (by rw[cq];simp;omega) (abW hu i);rw[<-Tq,<-Nc];rw[eJ,pS,pS,eJ];apply ib fun i' s z=>?_;unfold gr;rw[eJ,eJ,eJ,eJ];apply ib fun l d y=>?_;rw[bj,bj,bj,eJ];exact ib fun _ _ _=>rfl
  have hl:nD acc=false:=by unfold nD;rw[bZ (show¬acc.length=15 by omega)];rfl
  unfold wq C2;rw[hl];have hm:(jE acc||n+1 !=0)=true:=by simp
  rw[hm];by_cases h:b6 [63] s=true
  ·rw[aE ⟨rfl,h⟩,aE h,aE rfl,bj,bj];exact fin _ _ _
  ·rw[aB (fun x=>h x.2),aB h,bj,bj];exact fin _ _ _
def je (shape:Bool)(b:ajG)(p:Nat):Got (List (Nat×Item)):=gb (iF [] shape b p) fun i r q=>gb (jD shape 15 [i] r q) fun l d y=>.ok ((0,i)::l,d,y)
def afu (shape:Bool)(b:ajG)(p:Nat):gr (je shape b p)=itemsIn 16 [] shape false 0 b p :=
 adW shape 15 [] [] 0 b p rfl fun _ _=>rfl
def lN:ajG:=[115,104,97,112,101,32]
def kZ:ajG:=[115,104,111,114,116,32]
def k4:ajG:=[100,114,111,112,32]
def nE:ajG:=[102,111,114,109,32]
noncomputable def jl (s f:Nat):List ajG:=[kZ,k4]++((if s<8 then[lN]else[])++if f<64 then[nE]else[])
def Cp (s f:Nat):iK (jl s f):=by have F:iK [kZ,k4,lN,nE]:=⟨by decide,by decide⟩;apply F.de fun o ho=>?_;unfold jl at ho;split at ho<;>split at ho<;>simp only[eQ,dv,List.not_mem_nil,or_false,false_or]at ho⊢<;>grind
noncomputable def wu (s f:Nat):List (Nat×ajG):=(if s<8 then[(0,ascii "shape ")]else[])++([(1,ascii "short "),(2,ascii "drop ")]++if f<64 then[(3,ascii "form ")]else[])
def qJ:ascii "shape "=lN/\ascii "short "=kZ/\ascii "drop "=k4/\ascii "form "=nE:=by decide
def abL (s f:Nat)(o:ajG):o∈jl s f↔o∈(wu s f).map (·.2):=by unfold jl wu;rw[qJ.1,qJ.2.1,qJ.2.2.1,qJ.2.2.2];by_cases h1:s<8<;>by_cases h2:f<64<;>simp only[h1,h2,if_true,if_false,cV,fj,List.map_nil,eQ,dv,List.not_mem_nil,or_false,false_or]<;>grind
def pL (c:UInt8):Bool:=c==57||c==97
noncomputable def jY (s f:Nat)(b:ajG)(p:Nat):Got RLine:=gb (fe (jl s f) b p) fun o r q =>
 if o=lN then gb (gr (some_ pL 12 r q)) fun x c z=>.ok (.shape x,c,z)
 else if o=kZ then gb (gr (gI 32 2 r q)) fun l c z=>.ok (.short (l.headD []) (l.drop 1),c,z)
 else if o=k4 then gb (gr (gI 32 1 r q)) fun l c z=>.ok (.drop l,c,z)
 else gb (gr (je (decide (0<s)) r q)) fun l c z=>.ok (.form ⟨(l.headD (0,⟨OWN,[],false⟩)).2,l.drop 1⟩,c,z)
def adZ {s f k:Nat}{o:ajG}(h:(k,o)∈wu s f):(k=0/\o=lN)\/(k=1/\o=kZ)\/(k=2/\o=k4)\/(k=3/\o=nE):=by unfold wu at h;rw[qJ.1,qJ.2.1,qJ.2.2.1,qJ.2.2.2]at h;split at h<;>split at h<;>simp only[eQ,dv,List.not_mem_nil,or_false,false_or,Prod.mk.injEq]at h<;>grind
def Vp (s f:Nat)(b:ajG)(p:Nat):jY s f b p=ruleIn s f b p:=by
 have q:=Kx (Cp s f) (abL s f) b p;unfold jY ruleIn;cases e:fe (jl s f) b p with
 | error k =>rw[e]at q;simp only at q;unfold wu at q;rw[q];rfl
 | ok x =>
  obtain⟨o,r,z⟩:=x;rw[e]at q;obtain⟨k,hk,q⟩:=q;unfold wu at q;rw[q,bj];rcases adZ hk with⟨rfl,rfl⟩|⟨rfl,rfl⟩|⟨rfl,rfl⟩|⟨rfl,rfl⟩
  ·rw[aE rfl];simp only;unfold pL;cases some_ (fun(c:UInt8)=>c==57||c==97) 12 r z with
   | error k=>rfl
   | ok x =>
    obtain⟨w,t,y⟩:=x;unfold gr;rw[bj]
    match t with
    | []=>rfl
    | c::t =>
     by_cases hc:c=10
     ·subst hc;rfl
     ·rw[pP hc,iX,iX];split
      ·rename_i h;cases h
      ·rename_i h;simp at h;exact absurd h.2.1.1 hc
      ·rename_i h;simp at h;rw[h.2.2]
  ·rw[aB (by decide),aE rfl,Ko (by decide) (by decide)];simp only;cases wordsIn_ 32 2 r z<;>rfl
  ·rw[aB (by decide),aB (by decide),aE rfl,Ko (by decide) (by decide)];simp only;cases wordsIn_ 32 1 r z<;>rfl
  ·rw[aB (by decide),aB (by decide),aB (by decide),afu];simp only;cases itemsIn 16 [] (decide (0<s)) false 0 r z<;>rfl
end Pm
namespace Rm
open Po Pm
noncomputable def bV:List UInt8:=[48,49,50,51,52,53,54,55,56,57,97,98,99,100,101,102,103,104,105,106,107,108,109,110,111,112,113,114,115,116,117,118,119,120,121,122,10,32,44,47,61,63]
noncomputable def jK:List UInt8:=[48,49,50,51,52,53,54,55,56,57,97,98,99,100,101,102,103,104,105,106,107,108,109,110,111,112,113,114,115,116,117,118,119,120,121,122]
def b8 (c:UInt8):Nat:=if c∈bV then c.toNat else 33
def agd:∀c∈bV,c.toNat≠33:=by decide
def Vb {x c:UInt8}(h:c∈bV):b8 x=b8 c↔x=c:=by
 apply⟨fun e=>?_,fun e=>by rw[e]⟩;unfold b8 at e;rw[aE h]at e;split at e
 ·exact UInt8.toNat.inj e
 ·exact absurd e.symm (agd c h)
def Va {l:List UInt8}(hl:∀c∈l,c∈bV)(x:UInt8):b8 x∈l.map b8↔x∈l:=by rw[cx];apply⟨fun⟨c,hc,e⟩=>?_,fun h=>⟨x,h,rfl⟩⟩;rw[(Vb (hl c hc)).mp e.symm];exact hc
theorem RJ:∀{v w:List UInt8},(∀c∈w,c∈bV)->v.map b8=w.map b8->v=w
 | [],[],_,_=>rfl
 | [],_::_,_,h=>by simp at h
 | _::_,[],_,h=>by simp at h
 | x::v,c::w,hw,h=>by rw[fj,fj]at h;injection h with h1 h2;rw[(Vb (hw c (by simp))).mp h1,RJ (fun c hc=>hw c (eF _ hc)) h2]
def Lc:∀c∈jK,c∈bV:=by decide
def B2 (c:UInt8):isLetter c=true↔c∈jK:=by
 have key:∀n:Fin 256,isLetter (UInt8.ofNat n.val)=true↔UInt8.ofNat n.val∈jK:=by decide+kernel
 have:=key ⟨c.toNat,c.toNat_lt⟩;simpa using this
def CN {w:Word}(h:wordOk w=true):∀c∈w,c∈jK:=fun c hc=>by unfold wordOk at h;rw[dw]at h;exact(B2 c).mp (List.all_eq_true.mp h.2 c hc)
def zu {w:Word}(h:wordOk w=true):∀c∈w,c∈bV:=fun c hc=>Lc c (CN h c hc)
def k6 {w:Word}(h:fullWord w=true):wordOk w=true/\w≠[]:=by unfold fullWord at h;rw[dw]at h;exact⟨h.1,fun e=>by rw[e]at h;simp at h⟩
theorem Up {α:Type}:∀{l:List α}{j:Nat}{c:α},l[j]?=some c->l.take (j+1)=l.take j++[c]
 | [],_,_,h=>by simp at h
 | a::l,0,c,h=>by simp at h;simp[h]
 | a::l,j+1,c,h=>by have:=Up (l:=l) (j:=j) (c:=c) (by simpa using h);rw[List.take_succ_cons,this];rfl
theorem Ve {sort:UInt8->Bool}:∀{b:ajG}{aN j:Nat},(∀c∈b.take j,sort c=true)->j<=b.length->j<=aN->(j=aN\/∀c,b[j]?=some c->sort c=false)->(b.takeWhile sort).take aN=b.take j
 | b,aN,0,_,_,_,he=>by
  rcases he with he|he
  ·subst he;simp
  ·match b with
   | []=>simp
   | c::b=>simp[List.takeWhile,he c (by simp)]
 | [],aN,j+1,_,hl,_,_=>by simp at hl
 | c::b,aN,j+1,ha,hl,hm,he=>by
  match aN,hm with
  | aN+1,hm =>
   have hc:sort c=true:=ha c (by simp);have ih:=Ve (sort:=sort) (b:=b) (aN:=aN) (j:=j) (fun x hx=>ha x (by simp[hx])) (by simpa using hl) ⋯ (by
    rcases he with he|he
    ·left;omega
    ·right;intro x hx;exact he x (by simpa using hx))
   simp only[List.takeWhile,hc,List.take_succ_cons];rw[ih]
def adx {sort:UInt8->Bool}{b:ajG}{aN j p:Nat}(ha:∀c∈b.take j,sort c=true)(hl:j<=b.length)(hm:j<=aN)(he:j=aN\/∀c,b[j]?=some c->sort c=false):some_ sort aN b p=if j=0 then .error p else .ok (b.take j,b.drop j,p+j):=by
 unfold some_;simp only[Ve ha hl hm he];by_cases h0:j=0
 ·subst h0;simp
 ·rw[aB h0,aB]
  ·rw[gH,tG hl]
  ·intro e;have:=congrArg List.length e;rw[gH,tG hl]at this;exact h0 this
def fX (x:Rules):Nat:=(shapes x).length
def iI (x:Rules):Nat:=(forms x).length
def yW (x:Rules)(l:RLine):shapes (x++[l])=shapes x++(match l with| .shape s=>[s]|_=>[]):=by unfold shapes;rw[List.filterMap_append];cases l<;>rfl
def zc (x:Rules)(l:RLine):forms (x++[l])=forms x++(match l with| .form f=>[f]|_=>[]):=by unfold forms;rw[List.filterMap_append];cases l<;>rfl
def vW (x:Rules)(l:RLine):shorts (x++[l])=shorts x++(match l with| .short w r=>r.map fun v=>(v,w)|_=>[]):=by unfold shorts;rw[List.flatMap_append];cases l<;>simp
def wg (x:Rules)(l:RLine):drops (x++[l])=drops x++(match l with| .drop r=>r|_=>[]):=by unfold drops;rw[List.flatMap_append];cases l<;>simp
def T5 (x:Rules)(l:RLine):fX (x++[l])=if isShape l=true then fX x+1 else fX x:=by unfold fX;rw[yW];cases l<;>simp[isShape]
def T6 (x:Rules)(l:RLine):iI (x++[l])=if isForm l=true then iI x+1 else iI x:=by unfold iI;rw[zc];cases l<;>simp[isForm]
structure fc (b:ajG)(x:Rules)(p:Nat):Prop where
 le:x.length<=512
 bu:p<=b.length
 zero:x=[]->p=0
 on:readRules b=if b=[]then .error 0 else(rulesFrom (512-x.length) (fX x) (iI x) (b.drop p) p).map fun l=>x++l
def fc.start (b:ajG):fc b [] 0:=⟨by simp,by simp,fun _=>rfl,by unfold readRules;congr 1;show rulesFrom 512 0 0 b 0=Except.map (fun l=>l) (rulesFrom 512 0 0 b 0);cases rulesFrom 512 0 0 b 0<;>rfl⟩
def fc.ek {b:ajG}{x:Rules}{p:Nat}(w:fc b x p)(hp:p=b.length)(bJ:b≠[]):readRules b= .ok x:=by rw[w.on,aB bJ,hp,x8];cases 512-x.length<;>simp[rulesFrom,Except.map]
def Jp (s f p:Nat):ruleIn s f [] p= .error p:=by unfold ruleIn oneOf;by_cases hs:s<8<;>by_cases hf:f<64<;>simp only[hs,hf,if_true,if_false]<;>simp[ascii,List.find?,List.isPrefixOf,common]
def fc.ajk {b:ajG}{x:Rules}{p:Nat}(w:fc b x p)(hx:x.length=512)(hp:p<b.length):readRules b= .error p:=by
 have bJ:b≠[]:=fun e=>by rw[e]at hp;simp at hp
 rw[w.on,aB bJ,hx,Nat.sub_self]
 match h:b.drop p with
 | [] =>have:=congrArg List.length h;rw[jX]at this;simp at this;omega
 | c::r=>simp[rulesFrom,Except.map]
def fc.tD {b:ajG}{x:Rules}{p k:Nat}(w:fc b x p)(hx:x.length<512)(hp:x=[]\/p<b.length)(h:ruleIn (fX x) (iI x) (b.drop p) p= .error k):readRules b= .error k:=by
 by_cases bJ:b=[]
 ·have Nz:p=0:=by have:=w.bu;rw[bJ]at this;simpa using this
  have EM:x=[]:=by
   rcases hp with e|e
   ·exact e
   ·rw[bJ]at e;simp at e
  subst bJ Nz EM;rw[List.drop_nil,Jp]at h;cases h;rfl
 ·rw[w.on,aB bJ]
  match hd:b.drop p with
  | [] =>
   have gz:=congrArg List.length hd;rw[jX,List.length_nil]at gz;rcases hp with e|e
   ·rw[w.zero e,List.drop_zero]at hd;exact absurd hd bJ
   ·omega
  | c::r =>obtain⟨n,hn⟩:∃n,512-x.length=n+1:=⟨511-x.length,by omega⟩;rw[hn];rw[hd]at h;simp[rulesFrom,h,Except.map]
def fc.step {b:ajG}{x:Rules}{p q:Nat}{l:RLine}(w:fc b x p)(hx:x.length<512)(hp:x=[]\/p<b.length)(h:ruleIn (fX x) (iI x) (b.drop p) p= .ok (l,b.drop q,q))(hq:q<=b.length):fc b (x++[l]) q:=by
 apply⟨by rw[cq];simp;omega,hq,fun e=>by simp at e,?_⟩;rw[w.on];by_cases bJ:b=[]
 ·rw[aE bJ,aE bJ]
 ·rw[aB bJ,aB bJ]
  match hd:b.drop p with
  | []=>rw[hd,Jp]at h;cases h
  | c::r =>
   obtain⟨n,hn⟩:∃n,512-x.length=n+1:=⟨511-x.length,by omega⟩;have o4:512-(x++[l]).length=n:=by rw[cq];simp;omega
   rw[hn,o4,T5,T6];rw[hd]at h;simp only[rulesFrom,h];cases rulesFrom n _ _ (b.drop q) q<;>simp[Except.map]
end Rm
namespace Cm
open Po Pm
structure nQ (aM:List ajG)(b:ajG)(p:Nat)(L:List ajG)(d:Nat):Prop where
 de:∀o∈L,o∈aM
 L5:∀o∈L,d<=common o b
 uE:∀o∈L,d<o.length
 on:∃n,(∀o∈L,o.length<n+d)/\n≠0/\fe aM b p=qK n L d (b.drop d) (p+d)
def nQ.start {aM:List ajG}(F:iK aM)(b:ajG)(p:Nat):nQ aM b p aM 0:=by
 apply⟨fun o h=>h,fun o _=>bA _,fun o h=>?_,aN aM+1,fun o ho=>?_,by omega,rfl⟩
 ·exact Nat.pos_of_ne_zero fun e=>F.ne o h (List.length_eq_zero_iff.mp e)
 ·have:=(Im (aM.map List.length) 0).2 o.length (List.mem_map_of_mem ho);unfold aN;omega
def pR {d:Nat}{b:ajG}{L:List ajG}{o:ajG}(h:o∈keep d b L):o∈L/\∃c,b.head?=some c/\o[d]?=some c:=by
 unfold keep at h;rw[kY,eE]at h;obtain⟨h1,h2,h3⟩:=h;cases hb:b.head? with
 | none=>rw[hb]at h2;simp at h2
 | some c=>exact⟨h1,c,rfl,by rw[h3,hb]⟩
def nQ.none {aM:List ajG}{b:ajG}{p:Nat}{L:List ajG}{d:Nat}(l:nQ aM b p L d)(h:keep d (b.drop d) L=[]):fe aM b p= .error (p+d):=by obtain⟨n,_,hn,e⟩:=l.on;obtain⟨m,rfl⟩:=Nat.exists_eq_succ_of_ne_zero hn;rw[e];simp[qK,h]
def nQ.done {aM:List ajG}{b:ajG}{p:Nat}{L:List ajG}{d:Nat}{o:ajG}{r:List ajG}(l:nQ aM b p L d)(h:keep d (b.drop d) L=o::r)(ho:o.length=d+1):fe aM b p= .ok (o,b.drop (d+1),p+(d+1)):=by obtain⟨n,_,hn,e⟩:=l.on;obtain⟨m,rfl⟩:=Nat.exists_eq_succ_of_ne_zero hn;rw[e];simp only[qK,h,ho,if_true];rw[List.tail_drop];rfl
def aao {o u b:ajG}{d:Nat}(ho:o.length<=d)(h1:o.length<=common o b)(h2:d<=common u b):o.isPrefixOf u=true :=
 vU (Nat.le_antisymm (CG o b) h1) ho h2
def nQ.next {aM:List ajG}(F:iK aM){b:ajG}{p:Nat}{L:List ajG}{d:Nat}{o:ajG}{r:List ajG}(l:nQ aM b p L d)(h:keep d (b.drop d) L=o::r)(ho:¬o.length=d+1):nQ aM b p (o::r) (d+1):=by
 have hm:∀u∈o::r,u∈keep d (b.drop d) L:=fun u hu=>by rw[h];exact hu
 have ag:∀u∈o::r,d+1<=common u b:=fun u hu=>by obtain⟨h1,c,hc,AN⟩:=pR (hm u hu);refine(CD (l.L5 u h1)).mpr ⟨c,AN,?_⟩;rw[List.head?_drop]at hc;exact hc
 have ol:d+1<o.length:=by have:=l.uE o (pR (hm o (by simp))).1;omega
 apply⟨fun u hu=>l.de u (pR (hm u hu)).1,ag,fun u hu=>?_,?_⟩
 ·have h1:=l.uE u (pR (hm u hu)).1;by_cases he:u.length=d+1
  ·exfalso;have hp:=aao (o:=u) (u:=o) (b:=b) (d:=d+1) ⋯ (by rw[he];exact ag u hu) (ag o (by simp));have:=F.pf u (l.de u (pR (hm u hu)).1) o (l.de o (pR (hm o (by simp))).1) hp;rw[this]at he;exact ho he
  ·omega
 ·obtain⟨n,E1,hn,e⟩:=l.on;obtain⟨m,rfl⟩:=Nat.exists_eq_succ_of_ne_zero hn;apply⟨m,fun u hu=>?_,?_,?_⟩
  ·have:=E1 u (pR (hm u hu)).1;omega
  ·intro h0;subst h0;have:=E1 o (pR (hm o (by simp))).1;omega
  ·rw[e];simp only[qK,h,aB ho];rw[List.tail_drop];rfl
def acJ {b:ajG}{d:Nat}{L:List ajG}(uE:∀o∈L,d<o.length):keep d (b.drop d) L=L.filter fun o=>b6 [o.getD d 0] (b.drop d):=by
 unfold keep;apply List.filter_congr;intro o ho;have br:=uE o ho;have e:o[d]?=some (o.getD d 0):=by rw[lM,cB br];rfl
 rw[e];cases hb:b.drop d with
 | nil=>simp[b6]
 | cons c t =>
  simp[b6,List.head?];constructor
  ·intro q;exact q.symm
  ·intro q;exact q.symm
end Cm
namespace Lm
open Po Pm
structure kD (aN bM:Nat)(b0:ajG)(p:Nat)(ws:List Word)(b:ajG)(q:Nat):Prop where
 vc:1<=ws.length
 i9:ws.length<=aN
 on:gI aN bM b0 p=gb (kq aN (aN+1-ws.length) bM ws.length b q) fun l d y=>.ok (ws++l,d,y)
section
variable {aN bM:Nat}{b0 b r s:ajG}{p q z y k:Nat}{w:Word}{ws:List Word}
def kD.start (hm:1<=aN)(h:wordIn b0 p= .ok (w,b,q)):kD aN bM b0 p [w] b q:=by apply⟨by simp,by simpa using hm,?_⟩;unfold gI;rw[h,bj,List.length_singleton,Nat.add_sub_cancel];rfl
def abS (h:wordIn b0 p= .error k):gI aN bM b0 p= .error k:=by unfold gI;rw[h];rfl
def oU (aN bM:Nat)(ws:List Word)(b:ajG):Prop:=ws.length<bM\/(ws.length<aN/\b6 [10] b=false)
def kD.ek (l:kD aN bM b0 p ws b q)(h:¬oU aN bM ws b):gI aN bM b0 p= .ok (ws,b,q):=by rw[l.on];obtain⟨n,hn⟩:∃n,aN+1-ws.length=n+1:=⟨aN-ws.length,by have:=l.i9;omega⟩;unfold oU at h;rw[hn,kq,aB h];simp[gb]
def kD.step (l:kD aN bM b0 p ws b q)(h:oU aN bM ws b):gI aN bM b0 p=gb (cW 32 b q) fun _ r z=>gb (wordIn r z) fun w s y=>gb (kq aN (aN+1-(ws++[w]).length) bM (ws++[w]).length s y) fun l d x=>.ok ((ws++[w])++l,d,x):=by
 rw[l.on];obtain⟨n,hn⟩:∃n,aN+1-ws.length=n+1:=⟨aN-ws.length,by have:=l.i9;omega⟩;unfold oU at h;rw[hn,kq,aE h];simp only[eJ];apply ib fun _ r z=>ib fun w s y=>?_;have e:aN+1-(ws++[w]).length=n:=by rw[cq];simp;omega
 rw[e,show(ws++[w]).length=ws.length+1 by simp];apply ib fun l d x=>?_;simp[gb]
def kD.ML (l:kD aN bM b0 p ws b q)(h:oU aN bM ws b)(e:cW 32 b q= .error k):gI aN bM b0 p= .error k:=by rw[l.step h,e];rfl
def kD.MK (l:kD aN bM b0 p ws b q)(h:oU aN bM ws b)(e:cW 32 b q= .ok ((),r,z))(e2:wordIn r z= .error k):gI aN bM b0 p= .error k:=by rw[l.step h,e,bj,e2];rfl
def kD.next (hl:bM<=aN)(l:kD aN bM b0 p ws b q)(h:oU aN bM ws b)(e:cW 32 b q= .ok ((),r,z))(e2:wordIn r z= .ok (w,s,y)):kD aN bM b0 p (ws++[w]) s y:=by
 apply⟨by simp,?_,?_⟩
 ·rw[cq];rcases h with h|h<;>simp<;>omega
 ·rw[l.step h,e,bj,e2,bj]
end
structure kE (shape:Bool)(b0:ajG)(p:Nat)(js:List (Nat×Item))(b:ajG)(q:Nat):Prop where
 vc:1<=js.length
 aN:js.length<=16
 on:je shape b0 p=gb (jD shape (16-js.length) (js.map (·.2)) b q) fun l d y=>.ok (js++l,d,y)
def kE.start {shape:Bool}{b0:ajG}{p:Nat}{i:Item}{b:ajG}{q:Nat}(h:iF [] shape b0 p= .ok (i,b,q)):kE shape b0 p [(0,i)] b q:=by apply⟨by simp,by simp,?_⟩;unfold je;rw[h];rfl
def ad2 {shape:Bool}{b0:ajG}{p k:Nat}(h:iF [] shape b0 p= .error k):je shape b0 p= .error k:=by unfold je;rw[h];rfl
def gc (js:List (Nat×Item))(b:ajG):Prop:=js.length=16\/(b6 [10] b=true/\jE (js.map (·.2))=true)
def kE.ek {shape:Bool}{b0:ajG}{p:Nat}{js:List (Nat×Item)}{b:ajG}{q:Nat}(l:kE shape b0 p js b q)(h:gc js b):je shape b0 p= .ok (js,b,q):=by
 rw[l.on];cases hn:16-js.length with
 | zero=>simp[jD,gb]
 | succ n =>
  rcases h with h|h
  ·omega
  ·simp[jD,h,gb]
def kE.step {shape:Bool}{b0:ajG}{p:Nat}{js:List (Nat×Item)}{b:ajG}{q:Nat}(l:kE shape b0 p js b q)(h:¬gc js b):je shape b0 p=gb (f7 b q) fun j r z=>gb (iF (js.map (·.2)) shape r z) fun i s y=>gb (jD shape (16-(js++[(j,i)]).length) ((js++[(j,i)]).map (·.2)) s y) fun l d x=>.ok ((js++[(j,i)])++l,d,x):=by
 rw[l.on];have br:js.length<16:=Nat.lt_of_le_of_ne l.aN fun e=>h (.inl e);obtain⟨n,hn⟩:∃n,16-js.length=n+1:=⟨15-js.length,by omega⟩;rw[hn,jD,aB fun q=>h (.inr q)];simp only[eJ];apply ib fun j r z=>ib fun i s y=>?_;have e:16-(js++[(j,i)]).length=n:=by rw[cq];simp;omega
 rw[e,cV];apply ib fun l d x=>?_;simp[gb]
def kE.ML {shape:Bool}{b0:ajG}{p k:Nat}{js:List (Nat×Item)}{b:ajG}{q:Nat}(l:kE shape b0 p js b q)(h:¬gc js b)(e:f7 b q= .error k):je shape b0 p= .error k:=by rw[l.step h,e];rfl
def kE.MK {shape:Bool}{b0:ajG}{p k:Nat}{js:List (Nat×Item)}{b r:ajG}{q z:Nat}{j:Nat}(l:kE shape b0 p js b q)(h:¬gc js b)(e:f7 b q= .ok (j,r,z))(e2:iF (js.map (·.2)) shape r z= .error k):je shape b0 p= .error k:=by rw[l.step h,e,bj,e2];rfl
def kE.next {shape:Bool}{b0:ajG}{p:Nat}{js:List (Nat×Item)}{b r s:ajG}{q z y:Nat}{j:Nat}{i:Item}(l:kE shape b0 p js b q)(h:¬gc js b)(e:f7 b q= .ok (j,r,z))(e2:iF (js.map (·.2)) shape r z= .ok (i,s,y)):kE shape b0 p (js++[(j,i)]) s y:=by
 apply⟨by simp,?_,?_⟩
 ·have br:js.length<16:=Nat.lt_of_le_of_ne l.aN fun e=>h (.inl e);rw[cq];simp;omega
 ·rw[l.step h,e,bj,e2,bj]
end Lm
namespace Fm
open Po
noncomputable def pM:List (Nat×ajG):=[(97,[97,98,99,100,101,102,103,104,105,106,107,108,109,110,111,112,113,114,115,116,117,118,119,120,121,122]),(65,[97,98,99,100,101,102,103,104,105,106,107,108,109,110,111,112,113,114,115,116,117,118,119,120,121,122]),(48,[48,49,50,51,52,53,54,55,56,57]),(178,[50,51]),(8308,[52,53,54,55,56,57]),(8320,[48,49,50,51,52,53,54,55,56,57]),(536,[115,115,116,116]),(65296,[48,49,50,51,52,53,54,55,56,57]),(65313,[97,98,99,100,101,102,103,104,105,106,107,108,109,110,111,112,113,114,115,116,117,118,119,120,121,122]),(65345,[97,98,99,100,101,102,103,104,105,106,107,108,109,110,111,112,113,114,115,116,117,118,119,120,121,122])]
noncomputable def oo:List (Nat×Nat×ajG):=[(170,170,[97]),(185,185,[49]),(186,186,[111]),(8304,8304,[48]),(192,197,[97]),(198,198,[97,101]),(199,199,[99]),(200,203,[101]),(204,207,[105]),(208,208,[100]),(209,209,[110]),(210,214,[111]),(216,216,[111]),(217,220,[117]),(221,221,[121]),(222,222,[116,104]),(223,223,[115,115]),(255,255,[121]),(256,261,[97]),(262,269,[99]),(270,273,[100]),(274,283,[101]),(284,291,[103]),(292,295,[104]),(296,305,[105]),(306,307,[105,106]),(308,309,[106]),(310,312,[107]),(313,322,[108]),(323,329,[110]),(330,331,[110,103]),(332,337,[111]),(338,339,[111,101]),(340,345,[114]),(346,353,[115]),(354,359,[116]),(360,371,[117]),(372,373,[119]),(374,376,[121]),(377,382,[122]),(383,383,[115]),(7838,7838,[115,115]),(8470,8470,[110,111]),(64256,64256,[102,102]),(64257,64257,[102,105]),(64258,64258,[102,108]),(64259,64259,[102,102,105]),(64260,64260,[102,102,108]),(64261,64262,[115,116])]
def rV (c:Nat):Nat:=if 224<=c/\c<=254 then c-32 else c
def wO (c:Nat)(x:Nat×ajG):Bool:=decide (x.1<=c)&&decide (c<x.1+x.2.length)
def ui (c:Nat)(x:Nat×Nat×ajG):Bool:=decide (x.1<=c)&&decide (c<=x.2.1)
def Cv (c:Nat)(x:Nat×ajG):ajG:=match x.2[c-x.1]? with
 | some b=>[b]
 | none=>[]
noncomputable def qP (c:Nat):ajG:=match pM.find? (wO c)with
 | some x=>Cv c x
 | none=>match oo.find? (ui c)with
  | some x=>x.2.2
  | none=>[]
def fT (c:Nat):ajG:=qP (rV c)
def qN (c:Nat):Bool:=GONE.any fun(x:Nat×Nat)=>decide (x.1<=c)&&decide (c<=x.2)
def wL (c:Nat):Sort_:=if fT c≠[]then .stands (fT c)else if qN c=true then .vanishes else if c=10 then .ends else .parts
def L5 (c:Nat):Bool:=decide (sortOf c=wL c)
def jZ (lo n:Nat):Bool:=(List.range n).all fun i=>L5 (lo+i)
def afM:jZ 0 384=true:=by decide+kernel
def afL:jZ 536 4=true:=by decide+kernel
def afK:jZ 700 1=true:=by decide+kernel
def afJ:jZ 768 112=true:=by decide+kernel
def afI:jZ 7838 1=true:=by decide+kernel
def afH:jZ 8203 3=true:=by decide+kernel
def afG:jZ 8216 2=true:=by decide+kernel
def afF:jZ 8288 1=true:=by decide+kernel
def afE:jZ 8304 26=true:=by decide+kernel
def afD:jZ 8470 1=true:=by decide+kernel
def aej:jZ 64256 7=true:=by decide+kernel
def aei:jZ 65279 1=true:=by decide+kernel
def aeh:jZ 65296 10=true:=by decide+kernel
def aeg:jZ 65313 26=true:=by decide+kernel
def aef:jZ 65345 26=true:=by decide+kernel
noncomputable def DR (lo hi:Nat):Bool:=ROWS.all (fun x=>decide (x.2.1<lo)||decide (hi<=x.1))&&(GONE.all (fun x=>decide (x.2<lo)||decide (hi<=x.1))&&(SPANS.all (fun x=>decide (x.2.1<lo)||decide (hi<=x.1))&&(pM.all (fun x=>decide (x.1+x.2.length<=lo)||decide (hi<=x.1))&&oo.all (fun x=>decide (x.2.1<lo)||decide (hi<=x.1)))))
def CC {α:Type}{l:List α}{p q:α->Bool}(h:l.all q=true)(hq:∀x,q x=true->p x=false):l.find? p=none:=by rw[Bu];intro x hx;have:=hq x (List.all_eq_true.mp h x hx);rw[this];decide
def kr {lo hi c:Nat}(g:DR lo hi=true)(h1:lo<=c)(h2:c<hi)(h3:255<lo):sortOf c=wL c:=by
 unfold DR at g;rw[dw,dw,dw,dw]at g;obtain⟨g1,g2,g3,g4,g5⟩:=g;have e1:rV c=c:=by unfold rV;rw[aB ⋯]
 have f1:ROWS.find? (fun(x:Nat×Nat×Nat)=>decide (x.1<=c)&&decide (c<=x.2.1))=none:=CC g1 (fun x hx=>by simp only[Bool.or_eq_true,eE]at hx;simp only[Bool.and_eq_false_imp,eE,decide_eq_false_iff_not];omega)
 have f2:GONE.any (fun(x:Nat×Nat)=>decide (x.1<=c)&&decide (c<=x.2))=false:=by rw[List.any_eq_false];intro x hx;have:=List.all_eq_true.mp g2 x hx;simp only[Bool.or_eq_true,eE]at this;simp only[dw,eE];omega
 have f3:SPANS.find? (fun(x:Nat×Nat×String)=>decide (x.1<=c)&&decide (c<=x.2.1))=none:=CC g3 (fun x hx=>by simp only[Bool.or_eq_true,eE]at hx;simp only[Bool.and_eq_false_imp,eE,decide_eq_false_iff_not];omega)
 have f4:pM.find? (wO c)=none:=CC g4 (fun x hx=>by simp only[Bool.or_eq_true,eE]at hx;simp only[wO,Bool.and_eq_false_imp,eE,decide_eq_false_iff_not];omega)
 have f5:oo.find? (ui c)=none:=CC g5 (fun x hx=>by simp only[Bool.or_eq_true,eE]at hx;simp only[ui,Bool.and_eq_false_imp,eE,decide_eq_false_iff_not];omega)
 have e2:fT c=[]:=by unfold fT qP;rw[e1,f4,f5]
 have e3:¬(0xE0<=c/\c<=0xFE/\c≠0xF7):=by omega
 have e4:c≠10:=by omega
 unfold sortOf wL spanAt;rw[aB e4,f1,aB e3,f3,e2];simp only[qN,f2,ne_eq,not_true_eq_false,if_false,Option.map_none,e4,Bool.false_eq_true]
def ku {c n k:Nat}(h:jZ k n=true)(h1:k<=c)(h2:c<k+n):sortOf c=wL c:=by
 have:=List.all_eq_true.mp h (c-k) (mi.mpr ⋯);have e:k+(c-k)=c:=by omega
 rw[e]at this;exact of_decide_eq_true this
def afp (c:Nat):DR 65371 (c+1)=true:=by
 unfold DR;have k:∀{α:Type}(l:List α)(p q:α->Bool),l.all p=true->(l.all fun x=>p x||q x)=true:=fun l p q h=>by rw[List.all_eq_true]at h⊢;intro x hx;rw[h x hx];rfl
 rw[k _ _ _ (by decide+kernel),k _ _ _ (by decide+kernel),k _ _ _ (by decide+kernel),k _ _ _ (by decide+kernel),k _ _ _ (by decide+kernel)];rfl
def aeJ (c:Nat):sortOf c=wL c:=by
 by_cases c0:c<384
 ·exact ku afM ⋯ ⋯
 by_cases g1:c<536
 ·exact kr (lo:=384) (hi:=536) (by decide+kernel) ⋯ g1 ⋯
 by_cases c1:c<540
 ·exact ku afL ⋯ ⋯
 by_cases g2:c<700
 ·exact kr (lo:=540) (hi:=700) (by decide+kernel) ⋯ g2 ⋯
 by_cases c2:c<701
 ·exact ku afK ⋯ ⋯
 by_cases g3:c<768
 ·exact kr (lo:=701) (hi:=768) (by decide+kernel) ⋯ g3 ⋯
 by_cases c3:c<880
 ·exact ku afJ ⋯ ⋯
 by_cases g4:c<7838
 ·exact kr (lo:=880) (hi:=7838) (by decide+kernel) ⋯ g4 ⋯
 by_cases c4:c<7839
 ·exact ku afI ⋯ ⋯
 by_cases g5:c<8203
 ·exact kr (lo:=7839) (hi:=8203) (by decide+kernel) ⋯ g5 ⋯
 by_cases c5:c<8206
 ·exact ku afH ⋯ ⋯
 by_cases g6:c<8216
 ·exact kr (lo:=8206) (hi:=8216) (by decide+kernel) ⋯ g6 ⋯
 by_cases c6:c<8218
 ·exact ku afG ⋯ ⋯
 by_cases g7:c<8288
 ·exact kr (lo:=8218) (hi:=8288) (by decide+kernel) ⋯ g7 ⋯
 by_cases c7:c<8289
 ·exact ku afF ⋯ ⋯
 by_cases g8:c<8304
 ·exact kr (lo:=8289) (hi:=8304) (by decide+kernel) ⋯ g8 ⋯
 by_cases c8:c<8330
 ·exact ku afE ⋯ ⋯
 by_cases g9:c<8470
 ·exact kr (lo:=8330) (hi:=8470) (by decide+kernel) ⋯ g9 ⋯
 by_cases c9:c<8471
 ·exact ku afD ⋯ ⋯
 by_cases g10:c<64256
 ·exact kr (lo:=8471) (hi:=64256) (by decide+kernel) ⋯ g10 ⋯
 by_cases c10:c<64263
 ·exact ku aej ⋯ ⋯
 by_cases g11:c<65279
 ·exact kr (lo:=64263) (hi:=65279) (by decide+kernel) ⋯ g11 ⋯
 by_cases c11:c<65280
 ·exact ku aei ⋯ ⋯
 by_cases g12:c<65296
 ·exact kr (lo:=65280) (hi:=65296) (by decide+kernel) ⋯ g12 ⋯
 by_cases c12:c<65306
 ·exact ku aeh ⋯ ⋯
 by_cases g13:c<65313
 ·exact kr (lo:=65306) (hi:=65313) (by decide+kernel) ⋯ g13 ⋯
 by_cases c13:c<65339
 ·exact ku aeg ⋯ ⋯
 by_cases g14:c<65345
 ·exact kr (lo:=65339) (hi:=65345) (by decide+kernel) ⋯ g14 ⋯
 by_cases c14:c<65371
 ·exact ku aef ⋯ ⋯
 exact kr (afp c) ⋯ ⋯ ⋯
structure G where
 cO:List (Word×Nat)
 word:Word
 line:Nat
def G.eW (g:G):G:=if g.word=[]then g else⟨g.cO++[(g.word,g.line)],[],g.line⟩
def lO (l:List (Word×Nat)):Option Nat:=l.getLast?.map (·.2)
noncomputable def G.step (g:G)(c:Nat):G :=
 let g1:G:=⟨g.cO,g.word++fT c,g.line⟩
 if fT c≠[]\/qN c=true then g1
 else
  let g2:=g1.eW
  if c=10/\lO g2.cO=some g2.line then⟨g2.cO,g2.word,g2.line+1⟩else g2
def mq (t:Wide):List (Word×Nat):=(t.foldl G.step ⟨[],[],0⟩).eW.cO
def sh (l:List Told):List (Word×Nat):=l.map fun t=>(t.word,t.line)
structure FI (b:Bool)(o:Option Open)(g:G):Prop where
 op:(o=none/\g.word=[])\/∃x,o=some x/\x.word=g.word/\g.word≠[]
 bl:b=true↔lO g.cO=some g.line
 le:∀p∈g.cO,p.2<=g.line
def vZ {b:Bool}{o:Option Open}{g:G}(f:FI b o g):g.eW.cO=g.cO++sh (closed g.line o):=by
 unfold G.eW;rcases f.op with⟨rfl,h⟩|⟨x,rfl,h,hn⟩
 ·rw[aE h];simp[closed,sh]
 ·rw[aB hn];simp[closed,sh,h]
def JA (g:G):g.eW.word=[]:=by
 unfold G.eW;split
 ·assumption
 ·rfl
def JB (g:G):g.eW.line=g.line:=by unfold G.eW;split<;>rfl
def zd {b:Bool}{o:Option Open}{g:G}(f:FI b o g):lO g.eW.cO=some g.line↔(b=true\/o.isSome=true):=by
 rw[vZ f];rcases f.op with⟨rfl,h⟩|⟨x,rfl,h,hn⟩
 ·simp[closed,sh,f.bl]
 ·simp[closed,sh,lO]
def KL {b:Bool}{o:Option Open}{g:G}(f:FI b o g):∀p∈g.eW.cO,p.2<=g.line:=by
 rw[vZ f];intro p hp;rcases eQ.mp hp with h|h
 ·exact f.le p h
 ·rcases f.op with⟨rfl,_⟩|⟨x,rfl,_,_⟩
  ·simp[closed,sh]at h
  ·simp[closed,sh]at h;rw[h];exact bo _
theorem nR:∀(t:Wide)(i:Nat)(b:Bool)(o:Option Open)(g:G),FI b o g->(t.foldl G.step g).eW.cO=g.cO++sh (wordsFrom i g.line b o t)
 | [],i,b,o,g,f=>by show g.eW.cO=_;rw[vZ f];unfold wordsFrom;rfl
 | c::r,i,b,o,g,f=>by
  rw[List.foldl_cons];unfold wordsFrom;rw[aeJ c];unfold wL;by_cases h1:fT c≠[]
  ·rw[aE h1];have e:g.step c=⟨g.cO,g.word++fT c,g.line⟩:=by unfold G.step;simp only;rw[aE (.inl h1)]
   rw[e];apply nR r (i+1) b _ ⟨g.cO,g.word++fT c,g.line⟩ ⟨.inr ⟨_,rfl,?_,fun q=>h1 (List.append_eq_nil_iff.mp q).2⟩,f.bl,f.le⟩;rcases f.op with⟨rfl,h⟩|⟨x,rfl,h,hn⟩
   ·simp[h]
   ·simp[h]
  ·rw[aB h1];have e0:fT c=[]:=Classical.not_not.mp h1;by_cases h2:qN c=true
   ·rw[aE h2];have e:g.step c=g:=by unfold G.step;simp only;rw[aE (.inr h2),e0,nq]
    rw[e];exact nR r (i+1) b o g f
   ·rw[aB h2];have nn:¬(fT c≠[]\/qN c=true):=fun q=>q.elim h1 h2;have e:g.step c=if c=10/\lO g.eW.cO=some g.line then⟨g.eW.cO,g.eW.word,g.line+1⟩else g.eW:=by unfold G.step;simp only;rw[aB nn,e0,nq];have:(⟨g.cO,g.word,g.line⟩:G)=g:=rfl;rw[this,JB]
    by_cases h3:c=10
    ·rw[aE h3];simp only;by_cases h4:b=true\/o.isSome=true
     ·rw[aE h4,e,aE ⟨h3,(zd f).mpr h4⟩];rw[nR r (i+1) false none ⟨g.eW.cO,g.eW.word,g.line+1⟩ ⟨.inl ⟨rfl,JA g⟩,⟨fun q=>(nomatch q),fun q=>?_⟩,fun p hp=>Nat.le_succ_of_le (KL f p hp)⟩]
      ·show g.eW.cO++_=_;rw[vZ f,List.append_assoc];simp only[sh,cV]
      ·exfalso;have:=(zd f).mpr h4;have q':lO g.eW.cO=some (g.line+1):=q;rw[this]at q';simp at q'
     ·rw[aB h4,e,aB fun q=>h4 ((zd f).mp q.2)];have q1:=JB g;rw[show wordsFrom (i+1) g.line false none r=wordsFrom (i+1) g.eW.line false none r by rw[q1]];rw[nR r (i+1) false none g.eW ⟨.inl ⟨rfl,JA g⟩,⟨fun q=>(nomatch q),fun q=>?_⟩,by rw[q1];exact KL f⟩]
      ·rw[vZ f,List.append_assoc];simp only[sh,cV]
      ·rw[q1]at q;exact absurd ((zd f).mp q) h4
    ·rw[aB h3];simp only;rw[e,aB fun q=>h3 q.1];have q1:=JB g;rw[show wordsFrom (i+1) g.line (b||o.isSome) none r=wordsFrom (i+1) g.eW.line (b||o.isSome) none r by rw[q1]];rw[nR r (i+1) (b||o.isSome) none g.eW ⟨.inl ⟨rfl,JA g⟩,?_,by rw[q1];exact KL f⟩]
     ·rw[vZ f,List.append_assoc];simp only[sh,cV]
     ·rw[q1,zd f,Bool.or_eq_true]
def aaN (t:Wide):mq t=sh (wordsOf t):=by unfold mq wordsOf;rw[nR t 0 false none ⟨[],[],0⟩ ⟨.inl ⟨rfl,rfl⟩,⟨fun q=>(nomatch q),fun q=>(by simp[lO]at q)⟩,fun p hp=>(nomatch hp)⟩];rfl
theorem Co:∀(t:Wide)(i line:Nat)(b:Bool)(o:Option Open),(∀x∈wordsFrom i line b o t,line<=x.line)/\(wordsFrom i line b o t).Pairwise fun x y=>x.line<=y.line
 | [],i,line,b,o=>by
  unfold wordsFrom;cases o with
  | none=>simp[closed]
  | some x=>simp[closed]
 | c::r,i,line,b,o=>by
  unfold wordsFrom;have cl:∀x∈closed line o,x.line=line:=fun x hx=>by
   cases o with
   | none=>simp[closed]at hx
   | some y=>simp[closed]at hx;rw[hx]
  have clp:(closed line o).Pairwise fun x y=>x.line<=y.line:=by cases o<;>simp[closed]
  have join:∀(l2:Nat)(bb:Bool),line<=l2->(∀x∈closed line o++wordsFrom (i+1) l2 bb none r,line<=x.line)/\(closed line o++wordsFrom (i+1) l2 bb none r).Pairwise fun x y=>x.line<=y.line:=fun l2 bb hl=>by
   obtain⟨m1,m2⟩:=Co r (i+1) l2 bb none;constructor
   ·intro x hx;rcases eQ.mp hx with h|h
    ·rw[cl x h];exact bo _
    ·exact b3 hl (m1 x h)
   ·exact List.pairwise_append.mpr ⟨clp,m2,fun x hx y hy=>by rw[cl x hx];exact b3 hl (m1 y hy)⟩
  cases sortOf c with
  | stands l=>exact Co r (i+1) line b _
  | vanishes=>exact Co r (i+1) line b o
  | parts=>exact join line _ (bo _)
  | ends=>exact join _ _ (by split<;>omega)
def CT (l:List (Word×Nat)):Bool:=decide (128<l.length)||l.any fun p=>decide (8<=p.2)||decide (32<p.1.length)
def aa3 (t:Wide):CT (sh (wordsOf t))=tooMuch (wordsOf t):=by
 have hm:=(Co t 0 0 false none).2;have e:wordsOf t=wordsFrom 0 0 false none t:=rfl;rw[<-e]at hm;generalize wordsOf t=l at hm;have key:(l.any fun x=>decide (8<=x.line))=decide (LINES<linesIn l):=by
  rcases List.eq_nil_or_concat l with rfl|⟨l',x,rfl⟩
  ·simp[linesIn]
  ·simp only[List.concat_eq_append]at hm⊢;have hl:linesIn (l'++[x])=x.line+1:=by simp[linesIn]
   rw[hl];rw[Bool.eq_iff_iff,List.any_eq_true,eE];constructor
   ·rintro⟨y,hy,h⟩;have xC:y.line<=x.line:=by
     rcases eQ.mp hy with q|q
     ·exact(List.pairwise_append.mp hm).2.2 y q x (by simp)
     ·simp at q;rw[q];exact bo _
    have:=of_decide_eq_true h;unfold LINES;omega
   ·intro h;exact⟨x,by simp,bY (by unfold LINES at h;omega)⟩
 unfold CT tooMuch sh;rw[<-key,aL,List.any_map];show _=((l.any fun x=>decide (8<=x.line))||(decide (WORDS<l.length)||l.any fun x=>decide (LONG<x.word.length)));have e2:(l.any ((fun(p:Word×Nat)=>decide (8<=p.2)||decide (32<p.1.length))∘fun(t:Told)=>(t.word,t.line)))=((l.any fun x=>decide (8<=x.line))||l.any fun x=>decide (LONG<x.word.length)):=by
  rw[Bool.eq_iff_iff,Bool.or_eq_true,List.any_eq_true,List.any_eq_true,List.any_eq_true];constructor
  ·rintro⟨x,hx,h⟩;simp only[Function.comp,Bool.or_eq_true]at h;rcases h with h|h
   ·exact .inl ⟨x,hx,h⟩
   ·exact .inr ⟨x,hx,h⟩
  ·rintro(⟨x,hx,h⟩|⟨x,hx,h⟩)
   ·exact⟨x,hx,by simp only[Function.comp,Bool.or_eq_true];exact .inl h⟩
   ·exact⟨x,hx,by simp only[Function.comp,Bool.or_eq_true];exact .inr h⟩
 rw[e2];show(decide (WORDS<l.length)||_)=_;cases decide (WORDS<l.length)<;>cases (l.any fun x=>decide (8<=x.line))<;>cases (l.any fun x=>decide (LONG<x.word.length))<;>rfl
end Fm
namespace Fi
open Po
noncomputable def gq:List Nat:=[8,8,8,2,8,8,4,1,8,1]
def rf (n:Nat)(w:Word):Bool:=isNumber w&&(decide (w.length<=n)&& !(w.head?==some 48))
def IS:List Word->Bool
 | [w,v]=>rf 5 w&&oneLetter v
 | w::_=>rf 5 (if oneLetter (w.drop (w.length-1))=true then w.dropLast else w)
 | []=>false
noncomputable def ot (l s:ajG):Bool:=decide (l.length=s.length)&&(l.zip s).all fun p=>isDigit p.1==(p.2==57)
noncomputable def kH (shapes:List ajG)(kind:Nat)(word:Word)(ws:List Word):Bool :=
 if 1<=ws.length/\ws.length<=gq.getD kind 0 then
  if kind=9 then ws.headD []==word
  else if kind=3 then IS ws
  else if kind=7 then rf 6 (ws.headD [])
  else if kind=6 then shapes.any (ot ws.flatten)
  else true
 else false
def Cr (n:Nat)(w:Word):rf n w=digitsOk n w:=by unfold rf digitsOk;rfl
theorem UC:∀(w:Word),oneLetter (w.drop (w.length-1))=(w.getLast?.map smallLetter).getD false
 | []=>rfl
 | [c]=>rfl
 | a::b::w=>by have:=UC (b::w);simp only[dQ,Nat.add_sub_cancel]at this⊢;rw[List.drop_succ_cons,List.getLast?_cons_cons];exact this
def TV (c:UInt8):¬(isDigit c=true/\smallLetter c=true):=by rintro ⟨h1,h2⟩;unfold isDigit at h1;unfold smallLetter at h2;simp only[dw,eE]at h1 h2;have a:=UInt8.le_iff_toNat_le.mp h1.2;have b:=UInt8.le_iff_toNat_le.mp h2.1;have e1:(57:UInt8).toNat=57:=rfl;have e2:(97:UInt8).toNat=97:=rfl;omega
def abw (w:Word):rf 5 (if oneLetter (w.drop (w.length-1))=true then w.dropLast else w)=(digitsOk 5 w||(digitsOk 5 w.dropLast&&(w.getLast?.map smallLetter).getD false)):=by
 rw[UC];cases h:(w.getLast?.map smallLetter).getD false with
 | false=>simp[Cr]
 | true =>
  simp only[if_true,Cr,Bool.and_true];have:digitsOk 5 w=false:=by
   cases hd:digitsOk 5 w with
   | false=>rfl
   | true =>
    exfalso;unfold digitsOk isNumber at hd;simp only[dw]at hd;cases hl:w.getLast? with
    | none=>rw[hl]at h;simp at h
    | some c =>rw[hl]at h;have hc:c∈w:=List.mem_of_getLast? hl;exact TV c ⟨List.all_eq_true.mp hd.1.2 c hc,by simpa using h⟩
  rw[this,Bool.false_or]
def ady {c:UInt8}(h:isLetter c=true):smallLetter c= !isDigit c:=by
 unfold isLetter at h;cases hd:isDigit c with
 | true =>
  cases hs:smallLetter c with
  | false=>rfl
  | true=>exact absurd ⟨hd,hs⟩ (TV c)
 | false =>rw[hd,Bool.false_or]at h;exact h
def adS:∀(s l:ajG),(∀c∈l,isLetter c=true)->ot l s=shaped s l:=by
 intro s l hl;unfold ot shaped;have e:decide (l.length=s.length)=(s.length==l.length):=by
  by_cases h:l.length=s.length
  ·simp[h]
  ·have h':¬s.length=l.length:=fun q=>h q.symm;simp[h,h']
 rw[e];congr 1;clear e
 induction l generalizing s with
 | nil=>cases s<;>rfl
 | cons c l ih =>
  cases s with
  | nil=>rfl
  | cons d s =>
   simp only[List.zip_cons_cons,List.all_cons];rw[ih s fun x hx=>hl x (eF _ hx)];congr 1;by_cases hd:d=57
   ·subst hd;simp
   ·have:(d==57)=false:=by simp[hd]
    rw[this,aB hd,ady (hl c (by simp))];cases isDigit c<;>rfl
def LG (x:Rules)(i:Item)(hk:i.kind<=9)(ws:List Word)(hw:∀w∈ws,wordOk w=true):kH (shapes x) i.kind i.word ws=fits x i ws:=by
 obtain⟨kind,word,may⟩:=i;simp only at hk⊢;have iM:∀c∈ws.flatten,isLetter c=true:=fun c hc=>by obtain⟨w,h1,h2⟩:=List.mem_flatten.mp hc;exact(Rm.B2 c).mpr (Rm.CN (hw w h1) c h2)
 have bO:kH (shapes x) 9 word ws=fits x ⟨9,word,may⟩ ws:=by
  unfold kH fits;simp only[OWN,if_true,gq]
  match ws with
  | []=>simp
  | [w]=>simp
  | w::v::r=>simp
 have number:kH (shapes x) 3 word ws=fits x ⟨3,word,may⟩ ws:=by
  unfold kH fits;simp only[OWN,NUMBER,gq]
  match ws with
  | []=>simp[numberFits]
  | [w] =>simp only[dQ,List.length_nil];rw[aE (by decide),aB (by decide),aE trivial,aB (by decide),aE trivial];exact abw w
  | [w,v] =>simp only[dQ,List.length_nil];rw[aE (by decide),aB (by decide),aE trivial,aB (by decide),aE trivial];simp[IS,numberFits,Cr]
  | w::v::u::r=>simp[numberFits]
 have box:kH (shapes x) 7 word ws=fits x ⟨7,word,may⟩ ws:=by
  unfold kH fits;simp only[OWN,NUMBER,BOX,gq]
  match ws with
  | []=>simp
  | [w]=>simp[Cr]
  | w::v::r=>simp
 have code:kH (shapes x) 6 word ws=fits x ⟨6,word,may⟩ ws:=by
  unfold kH fits;simp only[OWN,NUMBER,BOX,CODE,gq];have e:((shapes x).any (ot ws.flatten))=(shapes x).any fun s=>shaped s ws.flatten:=by congr 1;funext s;exact adS s _ iM
  by_cases h:1<=ws.length/\ws.length<=4
  ·have h':1<=ws.length/\ws.length<=[8,8,8,2,8,8,4,1,8,1].getD 6 0:=h;rw[aE h',e];simp[h.1,h.2]
  ·have h':¬(1<=ws.length/\ws.length<=[8,8,8,2,8,8,4,1,8,1].getD 6 0):=h;rw[aB h'];by_cases h1:1<=ws.length
   ·have h2:¬ws.length<=4:=fun q=>h ⟨h1,q⟩;simp[h2]
   ·simp[h1]
 have plain:∀k,k=0\/k=1\/k=2\/k=4\/k=5\/k=8->kH (shapes x) k word ws=fits x ⟨k,word,may⟩ ws:=by
  intro k hk;unfold kH fits;simp only[OWN,NUMBER,BOX,CODE];rcases hk with rfl|rfl|rfl|rfl|rfl|rfl <;>
  ·by_cases h1:1<=ws.length<;>by_cases h2:ws.length<=8<;>simp[gq,h1,h2]
 match kind,hk with
 | 0,_=>exact plain 0 (by simp)
 | 1,_=>exact plain 1 (by simp)
 | 2,_=>exact plain 2 (by simp)
 | 3,_=>exact number
 | 4,_=>exact plain 4 (by simp)
 | 5,_=>exact plain 5 (by simp)
 | 6,_=>exact code
 | 7,_=>exact box
 | 8,_=>exact plain 8 (by simp)
 | 9,_=>exact bO
 | k+10,h=>omega
end Fi
namespace Wm
open Po
variable (x:Rules)(l:List Kept)
def eD (i:Item)(k:Nat):List Nat:=(List.range 9).filter fun(c:Nat)=>decide (1<=c)&&(decide (k+c<=l.length)&&takes x l i k c)
noncomputable def Tf:List (Nat×Item)->Nat->Nat->Nat
 | [],k,_=>if k=l.length then 1 else 0
 | (cw,i)::r,k,s=>(if i.may=true then Tf r k (max s cw)else 0)+if begins l (max s cw) k=true then((eD x l i k).map fun(c:Nat)=>Tf r (k+c) 0).foldl (fun(a b:Nat)=>a+b) 0 else 0
def oB {i:Item}{k c:Nat}(h:c∈eD x l i k):1<=c/\c<=8/\k+c<=l.length:=by unfold eD at h;rw[kY]at h;obtain⟨h1,h2⟩:=h;rw[dw,dw,eE,eE]at h2;have:=mi.mp h1;exact⟨h2.1,by omega,h2.2.1⟩
theorem zB:∀(r:List (Nat×Item))(k s:Nat),k<=l.length->s<3->((∀p∈r,p.1<=2)->((waysTable x l r).getD k []).getD s 0=Tf x l r k s)
 | [],k,s,hk,hs,_=>by
  unfold waysTable Tf;rw[lM (i:=k),bR,lL ⋯];simp only[Option.map_some,Option.getD_some]
  match s,hs with
  | 0,_=>split<;>rfl
  | 1,_=>split<;>rfl
  | 2,_=>split<;>rfl
 | (cw,i)::r,k,s,hk,hs,hp=>by
  have D6:cw<=2:=hp (cw,i) (by simp);have hr:∀p∈r,p.1<=2:=fun p h=>hp p (eF _ h);unfold waysTable Tf;simp only;rw[lM (i:=k),bR,lL ⋯];simp only[Option.map_some,Option.getD_some];rw[lM (i:=s),bR,lL hs];simp only[Option.map_some,Option.getD_some];rw[zB r k (max s cw) hk ⋯ hr];congr 1;have e:((List.range 9).filter fun(c:Nat)=>decide (1<=c)&&(decide (k+c<=l.length)&&takes x l i k c))=eD x l i k:=rfl;rw[e];have m:(eD x l i k).map (fun(c:Nat)=>((waysTable x l r).getD (k+c) []).getD 0 0)=(eD x l i k).map fun(c:Nat)=>Tf x l r (k+c) 0:=by apply List.map_congr_left;intro c hc;exact zB r (k+c) 0 (oB x l hc).2.2 ⋯ hr
  rw[m]
noncomputable def Rf:List (Item×Nat)->Nat->Nat->Nat
 | [],_,k=>if k=l.length then 1 else 0
 | (i,j)::r,s,k=>(if begins l s k=true then((eD x l i k).map fun(c:Nat)=>Rf r j (k+c)).foldl (fun(a b:Nat)=>a+b) 0 else 0)+if i.may=true then Rf r (max s j) k else 0
def kC:List (Nat×Item)->List (Item×Nat)
 | []=>[]
 | [(_,i)]=>[(i,0)]
 | (_,i)::(cw,i')::r=>(i,cw)::kC ((cw,i')::r)
theorem LP:∀(r:List (Nat×Item))(cw:Nat)(i:Item)(k s:Nat),Tf x l ((cw,i)::r) k s=Rf x l (kC ((cw,i)::r)) (max s cw) k
 | [],cw,i,k,s=>by unfold kC Rf Tf;rw[Nat.add_comm];simp only[Tf,Rf]
 | (jI,i')::r,cw,i,k,s=>by
  have ih:=LP r jI i';rw[kC,Rf,Tf,Nat.add_comm];congr 1
  ·congr 1;have:(fun(c:Nat)=>Tf x l ((jI,i')::r) (k+c) 0)=fun c=>Rf x l (kC ((jI,i')::r)) jI (k+c):=by funext c;rw[ih,Nat.max_eq_right (bA _)]
   rw[this]
  ·rw[ih]
def aea (f:Form)(h:∀p∈f.more,p.1<=2):countBy x l f=Rf x l (kC f.row) 0 0:=by
 unfold countBy Form.row;rw[zB x l _ 0 0 (bA _) ⋯ (fun p hp=>by
  rcases dv.mp hp with rfl|hp
  ·exact bA _
  ·exact h p hp),LP]
 rfl
noncomputable def eI (i:Item)(j:Nat)(r:List (Item×Nat))(s k:Nat):List (Nat×Nat) :=
 (if i.may=true then[(0,Rf x l r (max s j) k)]else[])++if begins l s k=true then(eD x l i k).map fun c=>(c,Rf x l r j (k+c))else[]
def j4:List (Item×Nat)->Nat->Nat->Nat->List Nat
 | [],_,_,_=>[]
 | (i,j)::r,s,k,n=>let y:=pick (eI x l i j r s k) n
  y.1::j4 r (if y.1=0 then max s j else j) (k+y.1) y.2
def SG {r:List (Nat×Item)}{g:List (Item×Nat)}{j:Nat}(hT:∀k s,Tf x l r k s=Rf x l g (max s j) k)(hr:∀p∈r,p.1<=2)(i:Item){k z:Nat}(hk:k<=l.length)(hz:z<3):(if i.may=true then[(0,((waysTable x l r).getD k []).getD z 0)]else[])++((List.range 9).filter fun(c:Nat)=>decide (1<=c)&&(decide (k+c<=l.length)&&(begins l z k&&takes x l i k c))).map (fun(c:Nat)=>(c,((waysTable x l r).getD (k+c) []).getD 0 0))=eI x l i j g z k:=by
 unfold eI;congr 1
 ·rw[zB x l _ k z hk hz hr,hT]
 ·by_cases hb:begins l z k=true
  ·rw[aE hb];have e:((List.range 9).filter fun(c:Nat)=>decide (1<=c)&&(decide (k+c<=l.length)&&(begins l z k&&takes x l i k c)))=eD x l i k:=by unfold eD;rw[hb];rfl
   rw[e];apply List.map_congr_left;intro c hc;rw[zB x l _ (k+c) 0 (oB x l hc).2.2 ⋯ hr,hT,Nat.max_eq_right (bA _)]
  ·rw[aB hb];have e:((List.range 9).filter fun(c:Nat)=>decide (1<=c)&&(decide (k+c<=l.length)&&(begins l z k&&takes x l i k c)))=[]:=by rw[List.filter_eq_nil_iff];intro c _;simp[hb]
   rw[e];rfl
def K6 {i:Item}{j z k n:Nat}{g:List (Item×Nat)}(hk:k<=l.length):k+(pick (eI x l i j g z k) n).1<=l.length:=by
 have key:∀(cs:List (Nat×Nat))(m:Nat),(∀p∈cs,k+p.1<=l.length)->k+(pick cs m).1<=l.length:=by
  intro cs
  induction cs with
  | nil=>intro m _;exact hk
  | cons q t iht =>
   intro m h;obtain⟨c,w⟩:=q;unfold pick;split
   ·exact h (c,w) (by simp)
   ·exact iht _ fun p hp=>h p (eF _ hp)
 apply key;intro p hp;unfold eI at hp;rcases eQ.mp hp with h|h
 ·split at h
  ·simp at h;rw[h];exact hk
  ·cases h
 ·split at h
  ·obtain⟨c,hc,rfl⟩:=cx.mp h;exact(oB x l hc).2.2
  ·cases h
def agq:∀(r:List (Nat×Item))(cw:Nat)(i:Item)(k s n:Nat),k<=l.length->(∀p∈r,p.1<=2)->cw<=2->s<3->nthFrom x l ((cw,i)::r) k s n=j4 x l (kC ((cw,i)::r)) (max s cw) k n:=by
 intro r
 induction r with
 | nil =>intro cw i k s n hk hr D6 hs;rw[nthFrom,kC,j4];rw[SG x l (g:=[]) (j:=0) (fun k s=>rfl) hr i hk ⋯];rfl
 | cons p r ih =>
  intro cw i k s n hk hr D6 hs;obtain⟨jI,i'⟩:=p;have i7:jI<=2:=hr (jI,i') (by simp);have qo:∀p∈r,p.1<=2:=fun p h=>hr p (eF _ h);rw[nthFrom,kC,j4];rw[SG x l (g:=kC ((jI,i')::r)) (j:=jI) (fun k s=>LP x l r jI i' k s) hr i hk ⋯];have jQ:=K6 x l (i:=i) (j:=jI) (z:=max s cw) (n:=n) (g:=kC ((jI,i')::r)) hk;generalize pick (eI x l i jI (kC ((jI,i')::r)) (max s cw) k) n=y at jQ;congr 1;rw[ih jI i' (k+y.1) (if y.1=0 then max s cw else 0) y.2 jQ qo i7 (by split<;>omega)];congr 1;by_cases h0:y.1=0
  ·rw[aE h0,aE h0]
  ·rw[aB h0,aB h0,Nat.max_eq_right (bA _)]
end Wm
namespace Lm
open Po
variable (x:Rules)(l:List Kept)
def F (i:Item)(k c:Nat):Bool:=decide (1<=c)&&(decide (k+c<=l.length)&&takes x l i k c)
def nJ (i:Item)(k n:Nat):List Nat:=(List.range (n+1)).filter fun c=>F x l i k c
def SS (i:Item)(k n:Nat):nJ x l i k (n+1)=nJ x l i k n++if F x l i k (n+1)=true then[n+1]else[]:=by
 unfold nJ;rw[vK (n:=n+1),List.filter_append];congr 1;by_cases h:F x l i k (n+1)=true
 ·rw[aE h];simp[h]
 ·rw[aB h];simp[h]
theorem SU {i:Item}{k n:Nat}(h:∀c,n<c->F x l i k c=false):∀d,nJ x l i k (n+d)=nJ x l i k n
 | 0=>rfl
 | d+1=>by rw[<-Nat.add_assoc,SS,SU h d,h (n+d+1) ⋯];simp
def ac6 {i:Item}{k n:Nat}(hn:n<=8)(h:∀c,n<c->F x l i k c=false):nJ x l i k n=Wm.eD x l i k:=by have:=SU x l h (8-n);rw[show n+(8-n)=8 by omega]at this;rw[<-this];rfl
def aar (i:Item)(k n:Nat):(nJ x l i k n).length<=n+1:=by unfold nJ;exact b3 (tH _ _) (by simp)
def wV (k n:Nat):Prop:=∀j,j<n->(l[k+j]?).map (·.line)=(l[k]?).map (·.line)
def abD {k n:Nat}(h:wV l k n)(h1:(l[k+n]?).map (·.line)=(l[k]?).map (·.line)):wV l k (n+1):=fun j hj=>by
 by_cases e:j=n
 ·rw[e];exact h1
 ·exact h j ⋯
def KW {k n j:Nat}:((l.drop k).take n)[j]?=if j<n then l[k+j]? else none:=by
 rw[List.getElem?_take];split
 ·rw[x6]
 ·rfl
def Ue {k n:Nat}(hn:1<=n)(hk:k+n<=l.length):(((l.drop k).take n).all fun(y:Kept)=>some y.line==firstLine ((l.drop k).take n))=true↔wV l k n:=by
 have hf:firstLine ((l.drop k).take n)=(l[k]?).map (·.line):=by unfold firstLine;rw[List.head?_eq_getElem?,KW,aE ⋯];rfl
 rw[hf,List.all_eq_true];constructor
 ·intro h j hj;have e:=cB (l:=l) (i:=k+j) ⋯;have hm:l[k+j]∈(l.drop k).take n:=fC (i:=j) (by rw[KW,aE hj];exact e);have:=h _ hm;rw[e];simpa using this
 ·intro h y hy;obtain⟨j,hj⟩:=List.mem_iff_getElem?.mp hy;rw[KW]at hj;split at hj
  ·rename_i q
   have:=h j q;rw[hj]at this;simpa using this
  ·cases hj
def afP {i:Item}{k n:Nat}(hi:i.kind<=9)(hw:∀y∈l,wordOk y.word=true)(hn:1<=n)(hk:k+n<=l.length)(h:wV l k n):F x l i k n=Fi.kH (shapes x) i.kind i.word (((l.drop k).take n).map fun y=>y.word):=by unfold F takes;simp only;rw[(Ue l hn hk).mpr h,bY hn,bY hk,Bool.and_true,pF,pF];refine(Fi.LG x i hi _ fun w hm=>?_).symm;obtain⟨y,hy,rfl⟩:=cx.mp hm;exact hw y (FJ (x5 hy))
def ahL {i:Item}{k n:Nat}(h:l.length<=k+n):∀c,n<c->F x l i k c=false:=fun c hc=>by unfold F;rw[bZ (show¬k+c<=l.length by omega)];simp
def agS {i:Item}{k n:Nat}(hi:i.kind<=9)(hw:∀y∈l,wordOk y.word=true)(h:Fi.gq.getD i.kind 0<=n):∀c,n<c->F x l i k c=false:=fun c hc=>by
 unfold F;by_cases hk:k+c<=l.length
 ·have e:fits x i (((l.drop k).take c).map fun y=>y.word)=false:=by
   rw[<-Fi.LG x i hi _ (fun w hm=>by obtain⟨y,hy,rfl⟩:=cx.mp hm;exact hw y (FJ (x5 hy)))]
   unfold Fi.kH;rw[aB];rw[aL,gH,jX];omega
  unfold takes;simp only;rw[e];simp
 ·rw[bZ hk];simp
def agT {i:Item}{k n:Nat}(h:(l[k+n]?).map (·.line)≠(l[k]?).map (·.line)):∀c,n<c->F x l i k c=false:=fun c hc=>by
 unfold F;by_cases hk:k+c<=l.length
 ·unfold takes;simp only;have e:(((l.drop k).take c).all fun(y:Kept)=>some y.line==firstLine ((l.drop k).take c))=false:=by rw[ajF];intro q;exact h ((Ue l ⋯ hk).mp q n hc)
  rw[e];simp
 ·rw[bZ hk];simp
def ags:∀k,Fi.gq.getD k 0<=8:=fun k=>by
 by_cases h:k<10
 ·have key:∀k:Fin 10,Fi.gq.getD k.val 0<=8:=by decide
  exact key ⟨k,h⟩
 ·rw[lM,List.getElem?_eq_none (by show 10<=k;omega)];exact bA _
def acX {s k:Nat}(hs:s<=2)(hk:k+1<l.length)(a b:Nat)(ha:(l[k]?).map (·.line)=some a)(hb:(l[k+1]?).map (·.line)=some b):begins l s (k+1)= !((decide (s=0)&&decide (a≠b))||(decide (s=2)&&decide (a=b))):=by
 unfold begins;rw[show k+1-1=k by omega];have e1:((l[k]?).map fun(y:Kept)=>y.line)=some a:=ha;have e2:((l[k+1]?).map fun(y:Kept)=>y.line)=some b:=hb;rw[e1,e2];unfold sided
 match s,hs with
 | 0,_=>by_cases h:a=b<;>simp[h]
 | 1,_=>by_cases h:a=b<;>simp[h]
 | 2,_=>by_cases h:a=b<;>simp[h]
end Lm
namespace Ln
open Po Pm
def JL {b r:ajG}{p q:Nat}{w:Word}(h:wordIn b p= .ok (w,r,q)):fullWord w=true:=by
 unfold wordIn some_ at h;simp only at h;split at h
 ·cases h
 ·rename_i bJ
  injection h with h;injection h with h1 h2;rw[<-h1];unfold fullWord wordOk LONG;rw[dw,dw];apply⟨⟨?_,?_⟩,?_⟩
  ·rw[eE,gH];exact Nat.min_le_left _ _
  ·rw[List.all_eq_true];intro c hc;exact List.all_eq_true.mp (List.all_takeWhile (p:=isLetter) (l:=b)) c (x5 hc)
  ·cases hw:(b.takeWhile isLetter).take 32 with
   | nil=>exact absurd hw bJ
   | cons _ _=>rfl
theorem Vn {aN bM:Nat}:∀{n fh:Nat}{b r:ajG}{p q:Nat}{l:List Word},kq aN n bM fh b p= .ok (l,r,q)->(∀w∈l,fullWord w=true)/\(fh<=aN->bM<=aN->fh+l.length<=aN)
 | 0,fh,b,r,p,q,l,h=>by simp[kq]at h;rw[h.1];exact⟨fun w hw=>(by simp at hw),fun h _=>by simpa using h⟩
 | n+1,fh,b,r,p,q,l,h=>by
  rw[kq]at h;split at h
  ·rename_i hc
   cases hd:cW 32 b p with
   | error k=>rw[hd]at h;cases h
   | ok x =>
    obtain⟨_,r1,q1⟩:=x;rw[hd,bj]at h;cases hw:wordIn r1 q1 with
    | error k=>rw[hw]at h;cases h
    | ok x =>
     obtain⟨w,r2,q2⟩:=x;rw[hw,bj]at h;cases hm:kq aN n bM (fh+1) r2 q2 with
     | error k=>rw[hm]at h;cases h
     | ok x =>
      obtain⟨l2,r3,q3⟩:=x;rw[hm,bj]at h;injection h with h;injection h with h1 h2;subst h1;obtain⟨i1,i2⟩:=Vn hm;apply⟨fun v hv=>?_,fun h3 h4=>?_⟩
      ·rcases dv.mp hv with rfl|hv
       ·exact JL hw
       ·exact i1 v hv
      ·have:fh<aN:=by rcases hc with hc|hc<;>omega
       have:=i2 ⋯ h4;rw[dQ];omega
  ·simp at h;rw[h.1];exact⟨fun w hw=>(by simp at hw),fun h _=>by simpa using h⟩
def nA {aN bM:Nat}(hm:1<=aN)(hl:bM<=aN){b r:ajG}{p q:Nat}{l:List Word}(h:gI aN bM b p= .ok (l,r,q)):(∀w∈l,fullWord w=true)/\l.length<=aN/\l≠[]:=by
 unfold gI at h;cases hw:wordIn b p with
 | error k=>rw[hw]at h;cases h
 | ok x =>
  obtain⟨w,r1,q1⟩:=x;rw[hw,bj]at h;cases AW:kq aN aN bM 1 r1 q1 with
  | error k=>rw[AW]at h;cases h
  | ok x =>
   obtain⟨l2,r2,q2⟩:=x;rw[AW,bj]at h;injection h with h;injection h with h1 h2;subst h1;obtain⟨i1,i2⟩:=Vn AW;apply⟨fun v hv=>?_,by rw[dQ];have:=i2 hm hl;omega,by simp⟩;rcases dv.mp hv with rfl|hv
   ·exact JL hw
   ·exact i1 v hv
def aft {shape:Bool}{b r:ajG}{p q:Nat}{l:List (Nat×Item)}(h:je shape b p= .ok (l,r,q)):l≠[]:=by
 unfold je at h;cases hi:iF [] shape b p with
 | error k=>rw[hi]at h;cases h
 | ok x =>
  obtain⟨i,r1,q1⟩:=x;rw[hi,bj]at h;cases hm:jD shape 15 [i] r1 q1 with
  | error k=>rw[hm]at h;cases h
  | ok x =>obtain⟨l2,r2,q2⟩:=x;rw[hm,bj]at h;injection h with h;injection h with h1 h2;rw[<-h1];simp
def oC (n s f:Nat)(b:ajG)(p:Nat):Got RLine:=if n=512 then .error p else jY s f b p
def UK {n s f:Nat}{b:ajG}{p:Nat}(h:n<512):oC n s f b p=ruleIn s f b p:=by unfold oC;rw[aB ⋯,Vp]
def JI (b:ajG)(p:Nat):fe [] b p= .error p:=rfl
def pX (l:List (Nat×Item)):Form:=⟨(l.headD (0,⟨OWN,[],false⟩)).2,l.drop 1⟩
def aan {l:List (Nat×Item)}(h:l≠[]):(pX l).items=l.map (·.2):=by
 cases l with
 | nil=>exact absurd rfl h
 | cons a l=>rfl
section
variable {s f:Nat}{b r:ajG}{p q:Nat}{o:ajG}
def Jw (e:fe (jl s f) b p= .ok (lN,r,q)):jY s f b p=gb (some_ pL 12 r q) fun x c z=>gb (cW 10 c z) fun _ d y=>.ok (.shape x,d,y):=by unfold jY gr;rw[e,bj,aE rfl];simp only[eJ];rfl
def Jv (e:fe (jl s f) b p= .ok (kZ,r,q)):jY s f b p=gb (gI 32 2 r q) fun l c z=>gb (cW 10 c z) fun _ d y=>.ok (.short (l.headD []) (l.drop 1),d,y):=by unfold jY gr;rw[e,bj,aB (by decide),aE rfl];simp only[eJ];rfl
def JX (e:fe (jl s f) b p= .ok (k4,r,q)):jY s f b p=gb (gI 32 1 r q) fun l c z=>gb (cW 10 c z) fun _ d y=>.ok (.drop l,d,y):=by unfold jY gr;rw[e,bj,aB (by decide),aB (by decide),aE rfl];simp only[eJ];rfl
def JW (e:fe (jl s f) b p= .ok (nE,r,q)):jY s f b p=gb (je (decide (0<s)) r q) fun l c z=>gb (cW 10 c z) fun _ d y=>.ok (.form (pX l),d,y):=by unfold jY gr;rw[e,bj,aB (by decide),aB (by decide),aB (by decide)];simp only[eJ];rfl
def KA {k:Nat}(e:fe (jl s f) b p= .error k):jY s f b p= .error k:=by unfold jY;rw[e];rfl
end
def Cz {s f:Nat}{o:ajG}(h:o∈jl s f):o=lN\/o=kZ\/o=k4\/o=nE:=by
 unfold jl at h;simp at h;rcases h with h|h|h|h
 ·exact .inr (.inl h)
 ·exact .inr (.inr (.inl h))
 ·exact .inl h.2
 ·exact .inr (.inr (.inr h.2))
def aco:(fun c=>([57,97]:List UInt8).contains c)=pL:=by funext c;unfold pL;simp[List.contains,List.elem];cases (c==57)<;>cases (c==97)<;>rfl
end Ln
namespace Bn
open Po Pm
def Wl:RLine->Prop
 | .short _ r=>r.length<=32
 | .drop r=>r.length<=32
 | _=>True
def abE {s f:Nat}{b r:ajG}{p q:Nat}{l:RLine}(h:jY s f b p= .ok (l,r,q)):Wl l:=by
 cases hc:fe (jl s f) b p with
 | error k=>rw[Ln.KA hc]at h;cases h
 | ok x =>
  obtain⟨o,r1,q1⟩:=x;have ch:=tJ (Cp s f) b p;rw[hc]at ch;rcases Ln.Cz ch.1 with rfl|rfl|rfl|rfl
  ·rw[Ln.Jw hc]at h;cases h1:some_ pL 12 r1 q1 with
   | error k=>rw[h1]at h;cases h
   | ok x =>
    obtain⟨v,r2,q2⟩:=x;rw[h1,bj]at h;cases h2:cW 10 r2 q2 with
    | error k=>rw[h2]at h;cases h
    | ok x =>rw[h2,bj]at h;injection h with h;injection h with h _;rw[<-h];trivial
  ·rw[Ln.Jv hc]at h;cases h1:gI 32 2 r1 q1 with
   | error k=>rw[h1]at h;cases h
   | ok x =>
    obtain⟨v,r2,q2⟩:=x;rw[h1,bj]at h;have:=(Ln.nA (by decide) (by decide) h1).2.1;cases h2:cW 10 r2 q2 with
    | error k=>rw[h2]at h;cases h
    | ok x =>rw[h2,bj]at h;injection h with h;injection h with h _;rw[<-h];show(v.drop 1).length<=32;rw[jX];omega
  ·rw[Ln.JX hc]at h;cases h1:gI 32 1 r1 q1 with
   | error k=>rw[h1]at h;cases h
   | ok x =>
    obtain⟨v,r2,q2⟩:=x;rw[h1,bj]at h;have:=(Ln.nA (by decide) (by decide) h1).2.1;cases h2:cW 10 r2 q2 with
    | error k=>rw[h2]at h;cases h
    | ok x =>rw[h2,bj]at h;injection h with h;injection h with h _;rw[<-h];exact this
  ·rw[Ln.JW hc]at h;cases h1:je (decide (0<s)) r1 q1 with
   | error k=>rw[h1]at h;cases h
   | ok x =>
    obtain⟨v,r2,q2⟩:=x;rw[h1,bj]at h;cases h2:cW 10 r2 q2 with
    | error k=>rw[h2]at h;cases h
    | ok x =>rw[h2,bj]at h;injection h with h;injection h with h _;rw[<-h];trivial
structure tF (x:Rules):Prop where
 sh:(shorts x).length<=32*x.length
 dr:(drops x).length<=32*x.length
 sp:Rm.fX x<=x.length
 fo:Rm.iI x<=x.length
def tF.nil:tF []:=⟨bo _,bo _,bo _,bo _⟩
def tF.snoc {x:Rules}{l:RLine}(c:tF x)(s:Wl l):tF (x++[l]):=by
 have h1:=c.sh;have h2:=c.dr;have h3:=c.sp;have h4:=c.fo;apply⟨?_,?_,?_,?_⟩
 ·rw[Rm.vW,cq,cq];cases l with
  | short w r=>have:r.length<=32:=s;simp;omega
  | _=>simp;omega
 ·rw[Rm.wg,cq,cq];cases l with
  | drop r=>have:r.length<=32:=s;simp;omega
  | _=>simp;omega
 ·rw[Rm.T5,cq];split<;>simp<;>omega
 ·rw[Rm.T6,cq];split<;>simp<;>omega
end Bn
namespace Ok
open Po Pm
def uQ (l:List Item):Prop:=l.Pairwise fun i j=>i.kind=9\/i.kind≠j.kind
structure Oy (f:Form):Prop where
 i9:f.items.length<=16
 ok:∀i∈f.items,i.ok=true
 cw:∀p∈f.more,p.1<=2
 Ah:uQ f.items
def qA:RLine->Prop
 | .shape s=>(∀c∈s,c=57\/c=97)/\s.length<=12
 | .short w r=>∀v∈w::r,fullWord v=true
 | .drop r=>∀v∈r,fullWord v=true
 | .form f=>Oy f
def aby {acc:List Item}{shape:Bool}{o:ajG}(h:o∈names acc shape):(o=[61]/\kindOf o=9)\/(o≠[61]/\kindOf o<9/\gK acc (kindOf o)=false):=by
 unfold names at h;rcases dv.mp h with rfl|h
 ·exact .inl ⟨rfl,rfl⟩
 ·obtain⟨k,hk,rfl⟩:=cx.mp h;obtain⟨h1,h2⟩:=kY.mp hk;have kc:=mi.mp h1;obtain⟨e1,e2⟩:=vY k kc;rw[dw]at h2;apply .inr ⟨e2,by rw[e1];exact kc,?_⟩;rw[e1];simpa using h2.2
def Vv {acc:List Item}{shape:Bool}{b r:ajG}{p q:Nat}{i:Item}(h:iF acc shape b p= .ok (i,r,q)):i.ok=true/\∀j∈acc,j.kind=9\/j.kind≠i.kind:=by
 unfold iF at h;cases hc:fe (names acc shape) b p with
 | error k=>rw[hc]at h;cases h
 | ok x =>
  obtain⟨o,r1,q1⟩:=x;have ch:=tJ (wd acc shape) b p;rw[hc]at ch;rw[hc,bj]at h;cases hw:lU o r1 q1 with
  | error k=>rw[hw]at h;cases h
  | ok x =>
   obtain⟨w,r2,q2⟩:=x;rw[hw,bj]at h;have hi:i.kind=kindOf o/\i.word=w:=by unfold Pm.wq at h;split at h<;>(injection h with h;injection h with h _;rw[<-h];exact⟨rfl,rfl⟩)
   rcases aby ch.1 with⟨ho,hk⟩|⟨ho,hk,hn⟩
   ·unfold lU at hw;rw[aE ho]at hw;apply⟨?_,fun j _=>?_⟩
    ·unfold Item.ok;rw[hi.1,hi.2,hk];simp[OWN,Ln.JL hw]
    ·rw[hi.1,hk];by_cases e:j.kind=9
     ·exact .inl e
     ·exact .inr e
   ·unfold lU at hw;rw[aB ho]at hw;injection hw with hw;injection hw with hw _;apply⟨?_,fun j hj=>.inr fun e=>?_⟩
    ·unfold Item.ok;rw[hi.1,hi.2,<-hw];have h1:¬kindOf o=OWN:=by show¬kindOf o=9;omega
     have h2:kindOf o<=OWN:=by show kindOf o<=9;omega
     rw[aB h1,bY h2];rfl
    ·unfold gK at hn;have:=List.any_eq_false.mp hn j hj;rw[hi.1]at e;exact this (by simp[e])
def adV {b r:ajG}{p q j:Nat}(h:f7 b p= .ok (j,r,q)):j<=2:=by
 unfold f7 at h;split at h
 ·cases hd:cW 32 b.tail (p+1)with
  | error k=>rw[hd]at h;cases h
  | ok x=>rw[hd,bj]at h;injection h with h;injection h with h _;omega
 ·cases hd:cW 32 b p with
  | error k=>rw[hd]at h;cases h
  | ok x =>
   obtain⟨_,r1,q1⟩:=x;rw[hd,bj]at h;split at h
   ·cases hd2:cW 32 r1.tail (q1+1)with
    | error k=>rw[hd2]at h;cases h
    | ok x=>rw[hd2,bj]at h;injection h with h;injection h with h _;omega
   ·injection h with h;injection h with h _;omega
theorem UQ {shape:Bool}:∀{n:Nat}{acc:List Item}{b r:ajG}{p q:Nat}{l:List (Nat×Item)},jD shape n acc b p= .ok (l,r,q)->(∀x∈l,x.1<=2/\x.2.ok=true)/\(uQ acc->uQ (acc++l.map (·.2)))/\l.length<=n
 | 0,acc,b,r,p,q,l,h=>by simp[jD]at h;rw[h.1];exact⟨fun x hx=>(by simp at hx),fun u=>by simpa using u,bo _⟩
 | n+1,acc,b,r,p,q,l,h=>by
  rw[jD]at h;split at h
  ·simp at h;rw[h.1];exact⟨fun x hx=>(by simp at hx),fun u=>by simpa using u,bA _⟩
  ·cases hj:f7 b p with
   | error k=>rw[hj]at h;cases h
   | ok x =>
    obtain⟨j,r1,q1⟩:=x;rw[hj,bj]at h;cases hi:iF acc shape r1 q1 with
    | error k=>rw[hi]at h;cases h
    | ok x =>
     obtain⟨i,r2,q2⟩:=x;rw[hi,bj]at h;cases hm:jD shape n (acc++[i]) r2 q2 with
     | error k=>rw[hm]at h;cases h
     | ok x =>
      obtain⟨l2,r3,q3⟩:=x;rw[hm,bj]at h;injection h with h;injection h with h1 h2;subst h1;obtain⟨i1,i2,i3⟩:=UQ hm;obtain⟨o1,o2⟩:=Vv hi;apply⟨fun x hx=>?_,fun u=>?_,by rw[dQ];omega⟩
      ·rcases dv.mp hx with rfl|hx
       ·exact⟨adV hj,o1⟩
       ·exact i1 x hx
      ·have:=i2 (by unfold uQ;rw[List.pairwise_append];exact⟨u,by simp,fun a ha c hc=>by simp at hc;rw[hc];exact o2 a ha⟩)
       simpa using this
def afr {shape:Bool}{b r:ajG}{p q:Nat}{l:List (Nat×Item)}(h:je shape b p= .ok (l,r,q)):Oy (Ln.pX l):=by
 unfold je at h;cases hi:iF [] shape b p with
 | error k=>rw[hi]at h;cases h
 | ok x =>
  obtain⟨i,r1,q1⟩:=x;rw[hi,bj]at h;cases hm:jD shape 15 [i] r1 q1 with
  | error k=>rw[hm]at h;cases h
  | ok x =>
   obtain⟨l2,r2,q2⟩:=x;rw[hm,bj]at h;injection h with h;injection h with h1 h2;subst h1;obtain⟨i1,i2,i3⟩:=UQ hm;have ei:(Ln.pX ((0,i)::l2)).items=i::l2.map (·.2):=rfl;apply⟨by rw[ei,dQ,aL];omega,fun j hj=>?_,fun p hp=>(i1 p hp).1,by rw[ei];exact i2 (by simp[uQ])⟩;rw[ei]at hj;rcases dv.mp hj with rfl|hj
   ·exact(Vv hi).1
   ·obtain⟨y,hy,rfl⟩:=cx.mp hj;exact(i1 y hy).2
def adA {b r:ajG}{p q:Nat}{v:ajG}(h:some_ pL 12 b p= .ok (v,r,q)):(∀c∈v,c=57\/c=97)/\v.length<=12:=by
 unfold some_ at h;simp only at h;split at h
 ·cases h
 ·injection h with h;injection h with h1 h2;rw[<-h1];apply⟨fun c hc=>?_,by rw[gH];exact Nat.min_le_left _ _⟩;have:=List.all_eq_true.mp (List.all_takeWhile (p:=pL) (l:=b)) c (x5 hc);unfold pL at this;simpa using this
def afd {s f:Nat}{b r:ajG}{p q:Nat}{l:RLine}(h:jY s f b p= .ok (l,r,q)):qA l:=by
 cases hc:fe (jl s f) b p with
 | error k=>rw[Ln.KA hc]at h;cases h
 | ok x =>
  obtain⟨o,r1,q1⟩:=x;have ch:=tJ (Cp s f) b p;rw[hc]at ch;have fin:∀{α:Type}{y:Got α}{g:α->RLine}{l:RLine}{r:ajG}{q:Nat},(gb y fun v c z=>gb (cW 10 c z) fun _ d w=>.ok (g v,d,w))= .ok (l,r,q)->∃v c z,y= .ok (v,c,z)/\l=g v:=fun{α y g l r q}h=>by
   cases y with
   | error k=>cases h
   | ok x =>
    obtain⟨v,c,z⟩:=x;rw[bj]at h;cases hd:cW 10 c z with
    | error k=>rw[hd]at h;cases h
    | ok x =>rw[hd,bj]at h;injection h with h;injection h with h _;exact⟨v,c,z,rfl,h.symm⟩
  rcases Ln.Cz ch.1 with rfl|rfl|rfl|rfl
  ·rw[Ln.Jw hc]at h;obtain⟨v,c,z,h1,rfl⟩:=fin (g:=RLine.shape) h;exact adA h1
  ·rw[Ln.Jv hc]at h;obtain⟨v,c,z,h1,rfl⟩:=fin (g:=fun(l:List Word)=>RLine.short (l.headD []) (l.drop 1)) h;obtain⟨w1,w2,w3⟩:=Ln.nA (by decide) (by decide) h1;intro u hu;cases v with
   | nil=>exact absurd rfl w3
   | cons a t=>exact w1 u hu
  ·rw[Ln.JX hc]at h;obtain⟨v,c,z,h1,rfl⟩:=fin (g:=RLine.drop) h;exact(Ln.nA (by decide) (by decide) h1).1
  ·rw[Ln.JW hc]at h;obtain⟨v,c,z,h1,rfl⟩:=fin (g:=fun l=>RLine.form (Ln.pX l)) h;exact afr h1
theorem Uv:∀{n s f:Nat}{b:ajG}{p:Nat}{x:Rules},rulesFrom n s f b p= .ok x->∀l∈x,qA l
 | n,s,f,[],p,x,h=>by
  have:rulesFrom n s f [] p= .ok []:=by cases n<;>rfl
  rw[this]at h;injection h with h;intro l hl;rw[<-h]at hl;simp at hl
 | 0,s,f,c::b,p,x,h=>by simp[rulesFrom]at h
 | n+1,s,f,c::b,p,x,h=>by
  rw[rulesFrom]at h
  rotate_left
  ·intro q;cases q
  cases hr:ruleIn s f (c::b) p with
  | error k=>rw[hr]at h;cases h
  | ok y =>
   obtain⟨l,r,q⟩:=y;rw[hr]at h;simp only at h;cases hx:rulesFrom n (if isShape l=true then s+1 else s) (if isForm l=true then f+1 else f) r q with
   | error k=>rw[hx]at h;cases h
   | ok z =>
    rw[hx]at h;injection h with h;rw[<-Vp]at hr;intro v hv;rw[<-h]at hv;rcases dv.mp hv with rfl|hv
    ·exact afd hr
    ·exact Uv hx v hv
def aeQ {b:ajG}{x:Rules}(h:readRules b= .ok x):∀l∈x,qA l:=by
 unfold readRules at h;split at h
 ·cases h
 ·exact Uv h
def KJ {x:Rules}(h:∀l∈x,qA l):∀f∈forms x,Oy f:=fun f hf=>by
 unfold forms at hf;obtain⟨l,hl,e⟩:=List.mem_filterMap.mp hf;have:=h l hl;cases l with
 | form g=>injection e with e;subst e;exact this
 | _=>cases e
def S6 {x:Rules}(h:∀l∈x,qA l):∀s∈shapes x,(∀c∈s,c=57\/c=97)/\s.length<=12:=fun f hf=>by
 unfold shapes at hf;obtain⟨l,hl,e⟩:=List.mem_filterMap.mp hf;have:=h l hl;cases l with
 | shape g=>injection e with e;subst e;exact this
 | _=>cases e
def acn {x:Rules}(h:∀l∈x,qA l):∀p∈shorts x,fullWord p.1=true/\fullWord p.2=true:=fun p hp=>by
 unfold shorts at hp;obtain⟨l,hl,e⟩:=List.mem_flatMap.mp hp;have:=h l hl;cases l with
 | short w r =>obtain⟨v,hv,rfl⟩:=cx.mp e;exact⟨this v (eF _ hv),this w (by simp)⟩
 | _=>simp at e
def Ks {x:Rules}(h:∀l∈x,qA l){w v:Word}(hw:fullWord w=true)(e:plainOf x w=some v):fullWord v=true:=by
 unfold plainOf at e;split at e
 ·cases e
 ·injection e with e;rw[<-e];cases hf:(shorts x).find? fun p=>p.1==w with
  | none=>exact hw
  | some p=>exact(acn h p (pE hf)).2
end Ok
namespace Wy
open Po
variable (x:Rules)(l:List Kept)
def aM (i:Item)(k:Nat):List Nat:=(if i.may=true then[0]else[])++Wm.eD x l i k
def wide (r:List (Item×Nat))(s j k c:Nat):Nat:=Wm.Rf x l r (if c=0 then max s j else j) (k+c)
theorem J0:∀(ns:List Nat)(a:Nat),ns.foldl (fun(a b:Nat)=>a+b) a=a+ns.sum
 | [],a=>by simp
 | b::r,a=>by rw[List.foldl_cons,J0 r (a+b),List.sum_cons];omega
theorem Vj:∀(cs:List (Nat×Nat))(n:Nat),n<(cs.map (·.2)).sum->∃m,(((pick cs n).1,m)∈cs)/\(pick cs n).2<m
 | [],n,h=>by simp at h
 | (c,m)::r,n,h=>by
  unfold pick;by_cases hn:n<m
  ·rw[aE hn];exact⟨m,by simp,hn⟩
  ·rw[aB hn];obtain⟨m',h1,h2⟩:=Vj r (n-m) (by simp at h;omega);exact⟨m',eF _ h1,h2⟩
theorem Uz:∀(cs ds:List (Nat×Nat))(n:Nat),n<(cs.map (·.2)).sum->pick (cs++ds) n=pick cs n
 | [],ds,n,h=>by simp at h
 | (c,m)::r,ds,n,h=>by
  show pick ((c,m)::(r++ds)) n=_;unfold pick;by_cases hn:n<m
  ·rw[aE hn,aE hn]
  ·rw[aB hn,aB hn];exact Uz r ds (n-m) (by simp at h;omega)
def Ji (i:Item)(j:Nat)(r:List (Item×Nat))(s k:Nat):((Wm.eI x l i j r s k).map (·.2)).sum=Wm.Rf x l ((i,j)::r) s k:=by
 unfold Wm.eI;rw[Wm.Rf,cV,List.sum_append,Nat.add_comm];congr 1
 ·split
  ·rw[f6,J0];simp;rfl
  ·rfl
 ·split<;>simp
def acu (i:Item)(j:Nat)(r:List (Item×Nat))(s k n:Nat)(h:n<Wm.Rf x l ((i,j)::r) s k):pick (Wm.eI x l i j r s k) n=pick ((aM x l i k).map fun c=>(c,wide x l r s j k c)) n:=by
 have e:((aM x l i k).map fun c=>(c,wide x l r s j k c))=(if i.may=true then[(0,Wm.Rf x l r (max s j) k)]else[])++(Wm.eD x l i k).map fun c=>(c,Wm.Rf x l r j (k+c)):=by
  unfold aM;rw[cV];congr 1
  ·split<;>rfl
  ·apply List.map_congr_left;intro c hc;have:=(Wm.oB x l hc).1;unfold wide;rw[aB (show¬c=0 by omega)]
 rw[e];rw[<-Ji]at h;unfold Wm.eI at h⊢;by_cases hb:begins l s k=true
 ·rw[aE hb]
 ·rw[aB hb,nq]at h⊢;exact(Uz _ _ _ h).symm
def agp (i:Item)(j:Nat)(r:List (Item×Nat))(s k n:Nat)(h:n<Wm.Rf x l ((i,j)::r) s k):(pick (Wm.eI x l i j r s k) n).1∈aM x l i k/\(pick (Wm.eI x l i j r s k) n).2<wide x l r s j k (pick (Wm.eI x l i j r s k) n).1:=by
 rw[<-Ji]at h;obtain⟨m,h1,h2⟩:=Vj _ _ h;generalize pick (Wm.eI x l i j r s k) n=y at h1 h2;obtain⟨y1,y2⟩:=y;have h3:m=wide x l r s j k y1/\y1∈aM x l i k:=by
  unfold aM wide;unfold Wm.eI at h1;rcases eQ.mp h1 with h|h
  ·split at h
   ·simp at h
    rename_i hm
    simp[h.1,h.2,hm]
   ·cases h
  ·split at h
   ·obtain⟨c,hc,e⟩:=cx.mp h;have Ff:=(Wm.oB x l hc).1;injection e with e1 e2;subst e1;rw[aB (show¬c=0 by omega)];exact⟨e2.symm,List.mem_append_right _ hc⟩
   ·cases h
 exact⟨h3.2,h3.1▸h2⟩
noncomputable def way:List (Item×Nat)->Nat->Nat->Nat->List (Nat×Nat×Nat)
 | [],_,_,_=>[]
 | (i,j)::r,s,k,n=>(if(pick (Wm.eI x l i j r s k) n).1=0 then[]else[(i.kind,k,(pick (Wm.eI x l i j r s k) n).1)])++way r (if(pick (Wm.eI x l i j r s k) n).1=0 then max s j else j) (k+(pick (Wm.eI x l i j r s k) n).1) (pick (Wm.eI x l i j r s k) n).2
noncomputable def fR:List (Item×Nat)->List Nat->Nat->List (Nat×Nat×Nat)
 | (i,_)::r,c::cs,k=>(if c=0 then[]else[(i.kind,k,c)])++fR r cs (k+c)
 | _,_,_=>[]
theorem zU:∀(r:List (Item×Nat))(s k n:Nat),way x l r s k n=fR r (Wm.j4 x l r s k n) k
 | [],_,_,_=>rfl
 | (i,j)::r,s,k,n=>by rw[way,Wm.j4,fR,zU r]
theorem UD:∀(r:List (Item×Nat))(s k n:Nat),(Wm.j4 x l r s k n).length=r.length
 | [],_,_,_=>rfl
 | (i,j)::r,s,k,n=>by rw[Wm.j4];simp only[dQ];rw[UD r]
theorem Ky:∀(r:List (Item×Nat))(s k n:Nat),k<=l.length->k+(Wm.j4 x l r s k n).sum<=l.length
 | [],_,k,_,h=>by simpa[Wm.j4]using h
 | (i,j)::r,s,k,n,h=>by rw[Wm.j4];simp only[List.sum_cons];have:=Wm.K6 x l (i:=i) (j:=j) (z:=s) (n:=n) (g:=r) h;have:=Ky r (if(pick (Wm.eI x l i j r s k) n).1=0 then max s j else j) _ (pick (Wm.eI x l i j r s k) n).2 this;omega
theorem Ui:∀(r:List (Item×Nat))(cs:List Nat)(k:Nat),(fR r cs k).length<=r.length
 | [],_,_=>by simp[fR]
 | _::r,[],k=>by simp[fR]
 | (i,j)::r,c::cs,k=>by rw[fR,cq,dQ];have:=Ui r cs (k+c);split<;>simp<;>omega
def DB (t:Nat×Nat×Nat):Part:=⟨t.1,((l[t.2.1]?).map fun(y:Kept)=>y.i).getD 0,t.2.2⟩
def gB (t:Nat×Nat×Nat):List Word:=((l.drop t.2.1).take t.2.2).map fun(y:Kept)=>y.word
def S5 (pre cs:List Nat)(c:Nat):share (pre++c::cs) l pre.length=(l.drop pre.sum).take c:=by unfold share;rw[List.take_left,lM,List.getElem?_append_right (bo _)];simp
def ad1 (pre cs:List Nat)(c:Nat):(pre++c::cs).getD pre.length 0=c:=by rw[lM,List.getElem?_append_right (bo _)];simp
theorem Tj:∀(is:List Item)(js cs pre:List Nat),is.length<=js.length->cs.length=is.length->pre.sum+cs.sum<=l.length->((is.zip (List.range' pre.length is.length)).filterMap fun(p:Item×Nat)=>(share (pre++cs) l p.2).head?.map fun(y:Kept)=>(⟨p.1.kind,y.i,(pre++cs).getD p.2 0⟩:Part))=(fR (is.zip js) cs pre.sum).map (DB l)
 | [],_,_,_,_,_,_=>by simp[fR]
 | i::is,[],_,_,h,_,_=>by simp at h
 | i::is,j::js,[],_,_,h,_=>by simp at h
 | i::is,j::js,c::cs,pre,h1,h2,h3=>by
  have ih:=Tj is js cs (pre++[c]) (by simpa using h1) (by simpa using h2) (by simpa[Nat.add_assoc]using h3);rw[dQ,List.range'_succ,List.zip_cons_cons,List.filterMap_cons,List.zip_cons_cons,fR,cV];have e1:pre++[c]++cs=pre++c::cs:=by simp
  have e2:(pre++[c]).length=pre.length+1:=by simp
  have e3:(pre++[c]).sum=pre.sum+c:=by simp
  rw[e1,e2,e3]at ih;rw[ih,S5,ad1];have hl:pre.sum+c<=l.length:=by simp at h3;omega
  by_cases h0:c=0
  ·subst h0;simp
  ·have hy:((l.drop pre.sum).take c).head?=l[pre.sum]?:=by rw[List.head?_eq_getElem?,List.getElem?_take,aE ⋯,x6];rfl
   rw[hy,aB h0,cB ⋯];simp[DB,cB (show pre.sum<l.length by omega)]
theorem SM (kind:Nat):∀(is:List Item)(js cs pre:List Nat),is.length<=js.length->cs.length=is.length->((is.zip (List.range' pre.length is.length)).flatMap fun(p:Item×Nat)=>if p.1.kind=kind then(share (pre++cs) l p.2).map fun(k:Kept)=>k.word else[])=(fR (is.zip js) cs pre.sum).flatMap fun t=>if t.1=kind then gB l t else[]
 | [],_,_,_,_,_=>by simp[fR]
 | i::is,[],_,_,h,_=>by simp at h
 | i::is,j::js,[],_,_,h=>by simp at h
 | i::is,j::js,c::cs,pre,h1,h2=>by
  have ih:=SM kind is js cs (pre++[c]) (by simpa using h1) (by simpa using h2);rw[dQ,List.range'_succ,List.zip_cons_cons,List.flatMap_cons,List.zip_cons_cons,fR,List.flatMap_append];have e1:pre++[c]++cs=pre++c::cs:=by simp
  have e2:(pre++[c]).length=pre.length+1:=by simp
  have e3:(pre++[c]).sum=pre.sum+c:=by simp
  rw[e1,e2,e3]at ih;rw[ih,S5];congr 1;by_cases h0:c=0
  ·subst h0;simp
  ·rw[aB h0];simp[gB]
theorem U5:∀(r:List (Item×Nat))(cs:List Nat)(k:Nat),k+cs.sum<=l.length->∀t∈fR r cs k,1<=t.2.2/\t.2.1+t.2.2<=l.length
 | [],_,_,_,t,h=>by simp[fR]at h
 | _::r,[],k,_,t,h=>by simp[fR]at h
 | (i,j)::r,c::cs,k,hs,t,h=>by
  rw[fR]at h;simp only[List.sum_cons]at hs;rcases eQ.mp h with h|h
  ·split at h
   ·cases h
   ·simp at h;subst h;exact⟨by show 1<=c;omega,by show k+c<=_;omega⟩
  ·exact U5 r cs (k+c) ⋯ t h
theorem SQ:∀(r:List (Item×Nat))(cs:List Nat)(k:Nat),∀t∈fR r cs k,t.1∈r.map fun p=>p.1.kind
 | [],_,_,t,h=>by simp[fR]at h
 | _::r,[],k,t,h=>by simp[fR]at h
 | (i,j)::r,c::cs,k,t,h=>by
  rw[fR]at h;rcases eQ.mp h with h|h
  ·split at h
   ·cases h
   ·simp at h;subst h;simp
  ·exact eF _ (SQ r cs (k+c) t h)
theorem SK (kind:Nat):∀(r:List (Item×Nat))(cs:List Nat)(k:Nat),((r.map fun p=>p.1.kind).filter fun q=>q==kind).length<=1->((fR r cs k).flatMap fun t=>if t.1=kind then gB l t else[])=(((fR r cs k).find? fun t=>t.1==kind).map (gB l)).getD []
 | [],_,_,_=>by simp[fR]
 | _::r,[],k,_=>by simp[fR]
 | (i,j)::r,c::cs,k,h=>by
  have hr:((r.map fun p=>p.1.kind).filter fun q=>q==kind).length<=1:=by apply b3 ?_ h;rw[fj,List.filter_cons];split<;>simp
  have ih:=SK kind r cs (k+c) hr;rw[fR];by_cases h0:c=0
  ·rw[aE h0,List.nil_append];exact ih
  ·rw[aB h0];by_cases hk:i.kind=kind
   ·have hn:∀t∈fR r cs (k+c),t.1≠kind:=by intro t ht e;have h1:=SQ r cs (k+c) t ht;rw[fj,List.filter_cons,aE (by simpa using hk),dQ]at h;have h2:((r.map fun p=>p.1.kind).filter fun q=>q==kind)=[]:=List.eq_nil_of_length_eq_zero ⋯;rw[List.filter_eq_nil_iff]at h2;exact h2 _ h1 (by simpa using e)
    have e2:((fR r cs (k+c)).flatMap fun t=>if t.1=kind then gB l t else[])=[]:=by rw[List.flatMap_eq_nil_iff];intro t ht;rw[aB (hn t ht)]
    rw[List.flatMap_append,e2];simp[hk]
   ·rw[List.flatMap_append,ih];simp[hk]
def ac2 {t:Nat×Nat×Nat}(h1:1<=t.2.2)(h2:t.2.1+t.2.2<=l.length):gB l t≠[]:=by
 intro e;have:(gB l t).length=t.2.2:=by unfold gB;rw[aL,gH,jX];omega
 rw[e]at this;simp at this;omega
def gW:List Form->Nat->Option (Form×Nat)
 | [],_=>none
 | f::r,n=>if n<countBy x l f then some (f,n)else gW r (n-countBy x l f)
theorem JC:∀(fs:List Form)(n:Nat),gW x l fs n=none↔(fs.map (countBy x l)).sum<=n
 | [],n=>by simp[gW]
 | f::r,n=>by
  rw[gW,fj,List.sum_cons];by_cases h:n<countBy x l f
  ·rw[aE h];simp;omega
  ·rw[aB h,JC r];omega
theorem C5:∀(fs:List Form)(n:Nat)(f:Form)(m:Nat),gW x l fs n=some (f,m)->m<countBy x l f/\f∈fs
 | [],n,f,m,h=>by simp[gW]at h
 | g::r,n,f,m,h=>by
  rw[gW]at h;by_cases hn:n<countBy x l g
  ·rw[aE hn]at h;injection h with h;injection h with h1 h2;subst h1;subst h2;exact⟨hn,by simp⟩
  ·rw[aB hn]at h;have:=C5 r _ f m h;exact⟨this.1,eF _ this.2⟩
theorem Sw:∀(fs:List Form)(b n:Nat)(f:Form)(m:Nat),gW x l fs n=some (f,m)->∃q,pick ((fs.zipIdx b).map fun(f:Form×Nat)=>(f.2,countBy x l f.1)) n=(b+q,m)/\fs[q]?=some f
 | [],b,n,f,m,h=>by simp[gW]at h
 | g::r,b,n,f,m,h=>by
  rw[gW]at h;rw[List.zipIdx_cons,fj,pick];by_cases hn:n<countBy x l g
  ·rw[aE hn]at h;injection h with h;injection h with h1 h2;subst h1;subst h2;rw[aE hn];exact⟨0,rfl,rfl⟩
  ·rw[aB hn]at h;rw[aB hn];obtain⟨q,h1,h2⟩:=Sw r (b+1) _ f m h;exact⟨q+1,by rw[h1];congr 1;omega,h2⟩
theorem VE:∀(r:List (Nat×Item))(cw:Nat)(i:Item),Wm.kC ((cw,i)::r)=(i::r.map (·.2)).zip (r.map (·.1)++[0])
 | [],_,_=>rfl
 | (jI,i')::r,cw,i=>by rw[Wm.kC,VE r jI i'];rfl
def fH (f:Form):List (Item×Nat):=f.items.zip (f.more.map (·.1)++[0])
def Vf (f:Form):fH f=Wm.kC f.row:=by unfold fH Form.row;rw[VE];rfl
def t7 (f:Form):(fH f).length=f.items.length:=by unfold fH Form.items;rw[List.length_zip];simp
def acs (f:Form):(fH f).map (fun p=>p.1.kind)=f.items.map fun i=>i.kind:=by unfold fH;rw[show(fun p:Item×Nat=>p.1.kind)=(fun i:Item=>i.kind)∘Prod.fst from rfl,<-f6,List.map_fst_zip];unfold Form.items;simp
def jH (f:Form)(m:Nat):List (Nat×Nat×Nat):=way x l (fH f) 0 0 m
def KR (f:Form)(m:Nat):∀t∈jH x l f m,1<=t.2.2/\t.2.1+t.2.2<=l.length:=by unfold jH;rw[zU];apply U5;have:=Ky x l (fH f) 0 0 m (bA _);exact this
def Uh (f:Form)(m:Nat):(jH x l f m).length<=f.items.length:=by unfold jH;rw[zU,<-t7];exact Ui _ _ _
def U0:countWays x l=((forms x).map (countBy x l)).sum:=by unfold countWays;rw[J0];simp
def SY {n:Nat}(h:gW x l (forms x) n=none):nthWay x l n=none:=by rw[JC,<-U0 x l]at h;unfold nthWay;rw[aE h]
def SX {n:Nat}{f:Form}{m:Nat}(h:gW x l (forms x) n=some (f,m))(hs:∀p∈f.more,p.1<=2):∃w,nthWay x l n=some w/\partsOf x l w=(jH x l f m).map (DB l)/\∀kind,((f.items.map fun i=>i.kind).filter fun q=>q==kind).length<=1->wordsIn x l w kind=(((jH x l f m).find? fun t=>t.1==kind).map (gB l)).getD []:=by
 have hn:¬countWays x l<=n:=by rw[U0 x l,<-JC,h];simp
 obtain⟨q,h1,h2⟩:=Sw x l (forms x) 0 n f m h;rw[Nat.zero_add]at h1;have Mo:nthFrom x l f.row 0 0 m=Wm.j4 x l (fH f) 0 0 m:=by rw[Vf];unfold Form.row;rw[Wm.agq x l f.more 0 f.first 0 0 m (bA _) hs (bA _) ⋯];rfl
 have hi:f.items.length<=(f.more.map (fun p:Nat×Item=>p.1)++[0]).length:=by simp[Form.items]
 have hc:(Wm.j4 x l (fH f) 0 0 m).length=f.items.length:=by rw[UD,t7]
 apply Z12 ⟨q,nthFrom x l f.row 0 0 m⟩ ?_ ?_ ?_
 ·unfold nthWay;rw[aB hn];simp only;rw[h1,h2];rfl
 ·unfold partsOf;simp only;rw[h2];simp only;have:=Tj l f.items (f.more.map (fun p:Nat×Item=>p.1)++[0]) (Wm.j4 x l (fH f) 0 0 m) [] hi hc (by simpa using Ky x l (fH f) 0 0 m (bA _));simp only[List.length_nil,List.nil_append,List.sum_nil]at this;rw[Mo,List.range_eq_range',this];unfold jH;rw[zU];rfl
 ·intro kind hk;unfold wordsIn;simp only;rw[h2];simp only;have:=SM l kind f.items (f.more.map (fun p:Nat×Item=>p.1)++[0]) (Wm.j4 x l (fH f) 0 0 m) [] hi hc;simp only[List.length_nil,List.nil_append,List.sum_nil]at this;rw[Mo,List.range_eq_range',this];have h3:=SK l kind (fH f) (Wm.j4 x l (fH f) 0 0 m) 0 (by rw[acs];exact hk);unfold jH;rw[zU];exact h3
def abM {n kind:Nat}{f:Form}(t:Nat×Nat×Nat)(h:(jH x l f n).find? (fun t=>t.1==kind)=some t):gB l t≠[]:=by have hm:=pE h;have:=KR x l f n t hm;exact ac2 l this.1 this.2
end Wy
namespace Wd
open Po
def abh:∀x∈ROWS,∀d:Nat,d<=x.2.1-x.1->isLetter (UInt8.ofNat (x.2.2+d))=true:=by
 have key:∀x∈ROWS,(List.range (x.2.1-x.1+1)).all (fun d=>isLetter (UInt8.ofNat (x.2.2+d)))=true:=by decide+kernel
 intro x hx d hd;exact List.all_eq_true.mp (key x hx) d (mi.mpr ⋯)
def Z4:∀x∈SPANS,(ascii x.2.2).all isLetter=true/\ascii x.2.2≠[]:=by decide+kernel
def ab7 {c:Nat}{l:ajG}(h:sortOf c= .stands l):l.all isLetter=true/\l≠[]:=by
 unfold sortOf at h;split at h
 ·cases h
 ·split at h
  ·rename_i x hx
   injection h with h;subst h;have hm:=pE hx;have hp:=List.find?_some hx;simp at hp;apply⟨?_,by simp⟩;show(isLetter (UInt8.ofNat (x.2.2+(c-x.1)))&&true)=true;rw[abh x hm (c-x.1) ⋯];rfl
  ·split at h
   ·cases h
   ·split at h
    ·rename_i l' hl
     injection h with h;subst h;unfold spanAt at hl;cases e:SPANS.find? (fun(x:Nat×Nat×String)=>decide (x.1<=(if 0xE0<=c/\c<=0xFE/\c≠0xF7 then c-0x20 else c))&&decide ((if 0xE0<=c/\c<=0xFE/\c≠0xF7 then c-0x20 else c)<=x.2.1))with
     | none=>rw[e]at hl;cases hl
     | some x =>rw[e]at hl;cases hl;exact Z4 x (pE e)
    ·cases h
def L8 (o:Option Open):Prop:=∀y,o=some y->y.word.all isLetter=true/\y.word≠[]
def Kc {line:Nat}{o:Option Open}(h:L8 o):∀t∈closed line o,t.word.all isLetter=true/\t.word≠[]:=by
 intro t ht;cases o with
 | none=>simp[closed]at ht
 | some y =>simp[closed]at ht;subst ht;exact h y rfl
def JV:L8 none:=fun _ h=>by cases h
theorem zJ:∀(r:Wide)(i line:Nat)(b:Bool)(o:Option Open),L8 o->∀t∈wordsFrom i line b o r,t.word.all isLetter=true/\t.word≠[]
 | [],i,line,b,o,h,t,ht=>by rw[wordsFrom]at ht;exact Kc h t ht
 | c::r,i,line,b,o,h,t,ht=>by
  rw[wordsFrom]at ht;cases e:sortOf c with
  | stands l =>
   rw[e]at ht;simp only at ht;have hl:=ab7 e;apply zJ r _ _ _ _ ?_ t ht;intro y hy;injection hy with hy;subst hy;cases o with
   | none=>exact hl
   | some z =>have:=h z rfl;apply⟨?_,fun q=>hl.2 (List.append_eq_nil_iff.mp q).2⟩;show(z.word++l).all isLetter=true;rw[List.all_append,this.1,hl.1];rfl
  | vanishes =>rw[e]at ht;exact zJ r _ _ _ _ h t ht
  | parts =>
   rw[e]at ht;rcases eQ.mp ht with ht|ht
   ·exact Kc h t ht
   ·exact zJ r _ _ _ _ JV t ht
  | ends =>
   rw[e]at ht;rcases eQ.mp ht with ht|ht
   ·exact Kc h t ht
   ·exact zJ r _ _ _ _ JV t ht
def nA {t:Wide}(h:tooMuch (wordsOf t)=false):(wordsOf t).length<=128/\∀w∈wordsOf t,fullWord w.word=true:=by
 unfold tooMuch at h;rw[Bool.or_eq_false_iff,Bool.or_eq_false_iff]at h;apply⟨?_,fun w hw=>?_⟩
 ·have:=of_decide_eq_false h.2.1;unfold WORDS at this;omega
 ·have h1:=zJ t 0 0 false none JV w hw;have h2:=List.any_eq_false.mp h.2.2 w hw;simp at h2;unfold fullWord wordOk;rw[h1.1,bY h2];cases e:w.word with
  | nil=>exact absurd e h1.2
  | cons a b=>rfl
def afg {x:Rules}(hx:∀l∈x,Ok.qA l){ts:List Told}(h:∀w∈ts,fullWord w.word=true):∀k∈keptOf x ts,fullWord k.word=true:=by
 intro k hk;unfold keptOf at hk;obtain⟨p,hp,e⟩:=List.mem_filterMap.mp hk;cases e2:plainOf x p.1.word with
 | none=>rw[e2]at e;cases e
 | some v =>rw[e2]at e;cases e;exact Ok.Ks hx (h _ (List.of_mem_zip hp).1) e2
def UM (x:Rules)(ts:List Told):(keptOf x ts).length<=ts.length:=by unfold keptOf;apply b3 (List.length_filterMap_le _ _) ?_;rw[List.length_zip];omega
end Wd
namespace Wy
open Po
variable (x:Rules)(l:List Kept)
def adM (i:Item)(j:Nat)(r:List (Item×Nat))(s k:Nat):Wm.Rf x l ((i,j)::r) s k<=((aM x l i k).map (wide x l r s j k)).sum:=by
 rw[<-Ji];unfold Wm.eI aM;rw[cV,cV,List.sum_append,List.sum_append];apply Nat.add_le_add
 ·split<;>simp[wide]
 ·split
  ·rw[f6];apply Nat.le_of_eq;congr 1;apply List.map_congr_left;intro c hc;have:=(Wm.oB x l hc).1;unfold wide;rw[aB (show¬c=0 by omega)];rfl
  ·simp
def ae2 {i:Item}{k c:Nat}(hk:k<=l.length)(h:c∈aM x l i k):k+c<=l.length/\c<=8:=by
 unfold aM at h;rcases eQ.mp h with h|h
 ·split at h
  ·simp at h;omega
  ·cases h
 ·have:=Wm.oB x l h;omega
def adN (i:Item)(k:Nat):(aM x l i k).length<=10:=by
 unfold aM;rw[cq];have:(Wm.eD x l i k).length<=9:=by unfold Wm.eD;exact b3 (tH _ _) (by simp)
 split<;>simp<;>omega
end Wy
namespace Pt
open Po Pm
def left (bH:List Nat):List Nat:=(List.range 9).filter fun k=> !bH.contains k
def names (bH:List Nat):List ajG:=(left bH).map eR
def eX (o:ajG):ajG:=o++[32]
def KN:List ajG:=(List.range 9).map eR
def Vt:iK KN:=⟨by decide,by decide⟩
def UL:iK (KN.map eX):=⟨by decide,by decide⟩
def Vs:∀o∈KN,∀u∈KN,o.head?=u.head?->o=u:=by decide
def zj (bH:List Nat):∀o∈names bH,o∈KN:=fun o ho=>by obtain⟨k,hk,rfl⟩:=cx.mp ho;exact cx.mpr ⟨k,(kY.mp hk).1,rfl⟩
def wd (bH:List Nat):iK (names bH):=Vt.de (zj bH)
def aaH (bH:List Nat):iK ((names bH).map eX):=UL.de fun o ho=>by obtain⟨u,hu,rfl⟩:=cx.mp ho;exact cx.mpr ⟨u,zj bH u hu,rfl⟩
def wc {o b:ajG}:o.isPrefixOf b=true↔∃r,b=o++r:=by rw[List.isPrefixOf_iff_prefix];exact⟨fun⟨r,h⟩=>⟨r,h.symm⟩,fun⟨r,h⟩=>⟨r,h.symm⟩⟩
theorem ze:∀(o r:ajG),common (o++[32]) (o++r)=o.length+common [32] r
 | [],r=>by simp
 | c::o,r=>by show(if c=c then common (o++[32]) (o++r)+1 else 0)=_;rw[aE rfl,ze o r,dQ];omega
theorem JH:∀(o b e:ajG),o.isPrefixOf b=false->common (o++e) b=common o b
 | [],b,e,h=>by simp[List.isPrefixOf]at h
 | c::o,[],e,h=>by simp[common]
 | c::o,d::b,e,h=>by
  show(if c=d then common (o++e) b+1 else 0)=if c=d then common o b+1 else 0;by_cases hc:c=d
  ·rw[aE hc,aE hc,JH o b e];simpa[List.isPrefixOf,hc]using h
  ·rw[aB hc,aB hc]
def R0 {u b:ajG}(h:u.head?≠b.head?):common u b=0:=by
 match u,b with
 | [],_=>simp[common]
 | _::_,[]=>simp[common]
 | c::u,d::b =>simp at h;simp[common,h]
def mn (aM:List ajG)(b:ajG)(p:Nat):Got ajG:=gb (fe aM b p) fun o r q=>gb (cW 32 r q) fun _ s z=>.ok (o,s,z)
def abG {aM:List ajG}(hs:∀o∈aM,o∈KN)(b:ajG)(p:Nat):match fe (aM.map eX) b p with
  | .ok (u,r,q)=>∃o∈aM,u=eX o/\mn aM b p= .ok (o,r,q)
  | .error e=>mn aM b p= .error e:=by
 have F:iK aM:=Vt.de hs;have FB:iK (aM.map eX):=UL.de fun o ho=>by obtain⟨u,hu,rfl⟩:=cx.mp ho;exact cx.mpr ⟨u,hs u hu,rfl⟩
 have h1:=tJ F b p;have h2:=tJ FB b p;have same:∀o∈aM,∀u∈aM,o.isPrefixOf b=true->u.isPrefixOf b=true->o=u:=fun o ho u hu p1 p2=>by
  have c1:=(qI _ _).mp p1;have c2:=(qI _ _).mp p2;by_cases le:o.length<=u.length
  ·exact F.pf _ ho _ hu (vU c1 le ⋯)
  ·exact(F.pf _ hu _ ho (vU c2 ⋯ (Nat.le_of_eq c1.symm))).symm
 cases e1:fe aM b p with
 | ok y =>
  obtain⟨o,r,q⟩:=y;rw[e1]at h1;obtain⟨ho,hp,rfl,rfl⟩:=h1;obtain⟨t,rfl⟩:=wc.mp hp;have hd:(o++t).drop o.length=t:=by simp
  rw[hd]at e1;have wF:∀u∈aM,(eX u).isPrefixOf (o++t)=true->u=o/\∃s,t=32::s:=fun u hu pu=>by
   obtain⟨s,e⟩:=wc.mp pu;have pu2:u.isPrefixOf (o++t)=true:=wc.mpr ⟨32::s,by rw[e];simp[eX]⟩;have:=same u hu o ho pu2 hp;subst this;apply⟨rfl,s,?_⟩;have:u++t=u++(32::s):=by rw[e];simp[eX]
   exact List.append_cancel_left this
  match t with
  | [] =>
   have ks:mn aM (o++[]) p= .error (p+o.length):=by unfold mn;rw[e1,bj];rfl
   cases e2:fe (aM.map eX) (o++[]) p with
   | ok y =>obtain⟨u,r,q⟩:=y;rw[e2]at h2;obtain⟨hu,vk,_,_⟩:=h2;obtain⟨v,hv,rfl⟩:=cx.mp hu;obtain⟨_,s,hs⟩:=wF v hv vk;cases hs
   | error e =>
    rw[e2]at h2;obtain⟨_,m,rfl,h3,h4⟩:=h2;simp only;rw[ks];congr 2;have AU:=h3 (eX o) (cx.mpr ⟨o,ho,rfl⟩);unfold eX at AU;rw[ze]at AU;rcases h4 with rfl|⟨u,hu,h4⟩
    ·omega
    ·obtain⟨v,hv,rfl⟩:=cx.mp hu;by_cases AM:v=o
     ·subst AM;unfold eX at h4;rw[ze]at h4;simp[common]at h4;omega
     ·have:(eX v).head?≠(o++[]).head?:=fun q=>AM (Vs v (hs v hv) o (hs o ho) (by
       have n1:=F.ne v hv;have n2:=F.ne o ho;cases v with
       | nil=>exact absurd rfl n1
       | cons a v =>
        cases o with
        | nil=>exact absurd rfl n2
        | cons c o=>simpa[eX]using q))
      rw[R0 this]at h4;omega
  | c::t =>
   by_cases hc:c=32
   ·subst hc;have ks:mn aM (o++32::t) p= .ok (o,t,p+o.length+1):=by unfold mn;rw[e1,bj,pN];rfl
    cases e2:fe (aM.map eX) (o++32::t) p with
    | ok y =>obtain⟨u,r,q⟩:=y;rw[e2]at h2;obtain⟨hu,vk,rfl,rfl⟩:=h2;obtain⟨v,hv,rfl⟩:=cx.mp hu;obtain⟨rfl,_⟩:=wF v hv vk;simp only;apply⟨v,ho,rfl,?_⟩;rw[ks];simp[eX,Nat.add_assoc]
    | error e =>rw[e2]at h2;have:=h2.1 (eX o) (cx.mpr ⟨o,ho,rfl⟩);rw[show(eX o).isPrefixOf (o++32::t)=true from wc.mpr ⟨t,by simp[eX]⟩]at this;cases this
   ·have ks:mn aM (o++c::t) p= .error (p+o.length):=by unfold mn;rw[e1,bj,pP hc];rfl
    cases e2:fe (aM.map eX) (o++c::t) p with
    | ok y =>obtain⟨u,r,q⟩:=y;rw[e2]at h2;obtain⟨hu,vk,_,_⟩:=h2;obtain⟨v,hv,rfl⟩:=cx.mp hu;obtain⟨_,s,hs⟩:=wF v hv vk;injection hs with hs;exact absurd hs hc
    | error e =>
     rw[e2]at h2;obtain⟨_,m,rfl,h3,h4⟩:=h2;simp only;rw[ks];congr 2;have AU:=h3 (eX o) (cx.mpr ⟨o,ho,rfl⟩);unfold eX at AU;rw[ze]at AU;rcases h4 with rfl|⟨u,hu,h4⟩
     ·omega
     ·obtain⟨v,hv,rfl⟩:=cx.mp hu;by_cases AM:v=o
      ·subst AM;unfold eX at h4;rw[ze]at h4;have:common [32] (c::t)=0:=by simp[common,Ne.symm hc]
       omega
      ·have:(eX v).head?≠(o++c::t).head?:=fun q=>AM (Vs v (hs v hv) o (hs o ho) (by
        have n1:=F.ne v hv;have n2:=F.ne o ho;cases v with
        | nil=>exact absurd rfl n1
        | cons a v =>
         cases o with
         | nil=>exact absurd rfl n2
         | cons c o=>simpa[eX]using q))
       rw[R0 this]at h4;omega
 | error k =>
  rw[e1]at h1;obtain⟨hn,m,rfl,h3,h4⟩:=h1;have ks:mn aM b p= .error (p+m):=by unfold mn;rw[e1,iX]
  cases e2:fe (aM.map eX) b p with
  | ok y =>obtain⟨u,r,q⟩:=y;rw[e2]at h2;obtain⟨hu,vk,_,_⟩:=h2;obtain⟨v,hv,rfl⟩:=cx.mp hu;obtain⟨s,e⟩:=wc.mp vk;have:=hn v hv;rw[show v.isPrefixOf b=true from wc.mpr ⟨32::s,by rw[e];simp[eX]⟩]at this;cases this
  | error e =>
   rw[e2]at h2;obtain⟨_,m',rfl,h5,h6⟩:=h2;simp only;rw[ks];congr 2;apply Nat.le_antisymm
   ·rcases h4 with rfl|⟨o,ho,h4⟩
    ·exact bA _
    ·have:=h5 (eX o) (cx.mpr ⟨o,ho,rfl⟩);unfold eX at this;rw[JH o b [32] (hn o ho),h4]at this;exact this
   ·rcases h6 with rfl|⟨u,hu,h6⟩
    ·exact bA _
    ·obtain⟨v,hv,rfl⟩:=cx.mp hu;unfold eX at h6;rw[JH v b [32] (hn v hv)]at h6;have:=h3 v hv;omega
def nums (bH:List Nat):List (Nat×ajG):=((List.range OWN).filter fun(k:Nat)=> !bH.contains k).map fun(k:Nat)=>(k,KINDS.getD k []++[32])
def JT (bH:List Nat)(o:ajG):o∈(names bH).map eX↔o∈(nums bH).map (·.2):=by unfold names nums left;rw[f6,f6];rfl
def JU {bH:List Nat}{k:Nat}{o:ajG}(ho:o∈KN)(h:(k,eX o)∈nums bH):kindOf o=k/\k<9/\k∉bH:=by obtain⟨q,hq,e⟩:=cx.mp h;injection e with e1 e2;subst e1;have hq:=kY.mp hq;have h9:q<9:=mi.mp hq.1;have:eR q=o:=List.append_cancel_right e2;rw[<-this];exact⟨(vY q h9).1,h9,by simpa using hq.2⟩
noncomputable def step (bH:List Nat)(b:ajG)(p:Nat):Got (Nat×List Word):=gb (fe (names bH) b p) fun o r q=>gb (cW 32 r q) fun _ s z=>gb (gI 8 1 s z) fun l c y=>gb (cW 10 c y) fun _ d u=>.ok ((kindOf o,l),d,u)
def U8 (bH:List Nat)(b:ajG)(p:Nat):step bH b p=match oneOf (nums bH) b p with
  | .error k=>.error k
  | .ok (k,r,q)=>match wordsIn_ 8 1 r q with
   | .error e=>.error e
   | .ok (l,c,z)=>.ok ((k,l),c,z):=by
 have e0:step bH b p=gb (mn (names bH) b p) fun o s z=>gb (wordsIn_ 8 1 s z) fun l d u=>.ok ((kindOf o,l),d,u):=by unfold step mn;rw[eJ];apply ib;intro o r q;rw[eJ];apply ib;intro _ s z;rw[bj,<-Ko (by decide) (by decide)];unfold gr;rw[eJ];apply ib;intro l c y;rw[eJ];rfl
 rw[e0];have h1:=abG (zj bH) b p;have h2:=Kx (aaH bH) (JT bH) b p;cases e:fe ((names bH).map eX) b p with
 | error k =>rw[e]at h1 h2;simp only at h1 h2;rw[h1,h2];rfl
 | ok y =>
  obtain⟨u,r,q⟩:=y;rw[e]at h1 h2;simp only at h1 h2;obtain⟨o,ho,rfl,h1⟩:=h1;obtain⟨k,hk,h2⟩:=h2;rw[h1,h2,bj,(JU (zj bH o ho) hk).1];simp only;cases wordsIn_ 8 1 r q with
  | error e=>rfl
  | ok y=>rfl
def ab6 {bH:List Nat}{b r:ajG}{p q:Nat}{k:Nat}{l:List Word}(h:step bH b p= .ok ((k,l),r,q)):k<9/\k∉bH/\(∀w∈l,fullWord w=true)/\l.length<=8/\l≠[]:=by
 unfold step at h;cases e1:fe (names bH) b p with
 | error _=>rw[e1,iX]at h;cases h
 | ok y =>
  obtain⟨o,r1,q1⟩:=y;rw[e1,bj]at h;have hc:=tJ (wd bH) b p;rw[e1]at hc;obtain⟨k',jx,xN⟩:=cx.mp hc.1;have h9:k'<9:=mi.mp (kY.mp jx).1;have hnu:k'∉bH:=by simpa using (kY.mp jx).2
  cases e2:cW 32 r1 q1 with
  | error _=>rw[e2,iX]at h;cases h
  | ok y =>
   obtain⟨_,r2,q2⟩:=y;rw[e2,bj]at h;cases e3:gI 8 1 r2 q2 with
   | error _=>rw[e3,iX]at h;cases h
   | ok y =>
    obtain⟨l',r3,q3⟩:=y;rw[e3,bj]at h;cases e4:cW 10 r3 q3 with
    | error _=>rw[e4,iX]at h;cases h
    | ok y =>obtain⟨_,r4,q4⟩:=y;rw[e4,bj]at h;cases h;have hw:=Ln.nA (by decide) (by decide) e3;rw[<-xN,(vY k' h9).1];exact⟨h9,hnu,hw.1,hw.2.1,hw.2.2⟩
structure fc (b:ajG)(y:Parts)(p:Nat):Prop where
 bu:p<=b.length
 nd:(y.map (·.1)).Nodup
 lt:∀q∈y,q.1<9/\(∀w∈q.2,fullWord w=true)/\q.2.length<=8/\q.2≠[]
 on:readParts b=(partsFrom (9-y.length) (y.map (·.1)).reverse (b.drop p) p).map fun l=>y++l
def abX (y:Parts):left (y.map (·.1)).reverse=left (y.map (·.1)):=by unfold left;apply List.filter_congr;intro k _;simp
theorem Dz:∀(n:Nat)(l:List Nat),l.Nodup->(∀k∈l,k<n)->l.length<=n
 | 0,l,_,h=>by
  cases l with
  | nil=>simp
  | cons a l=>exact absurd (h a (by simp)) (Nat.not_lt_zero _)
 | n+1,l,nd,h=>by
  by_cases hn:n∈l
  ·have h1:=Dz n (l.erase n) (nd.erase n) fun k hk=>by have:=nd.mem_erase_iff.mp hk;have:=h k this.2;omega
   rw[List.length_erase_of_mem hn]at h1;omega
  ·have:=Dz n l nd fun k hk=>by have h1:=h k hk;have h2:k≠n:=fun e=>hn (e▸hk);omega
   omega
def fc.i9 {b:ajG}{y:Parts}{p:Nat}(w:fc b y p):y.length<=9:=by
 have:=Dz 9 _ w.nd fun k hk=>by obtain⟨q,hq,rfl⟩:=cx.mp hk;exact(w.lt q hq).1
 simpa using this
def fc.all {b:ajG}{y:Parts}{p:Nat}(w:fc b y p)(h:y.length=9):left (y.map (·.1))=[]:=by
 unfold left;rw[List.filter_eq_nil_iff];intro k hk;by_cases hm:k∈y.map (·.1)
 ·simpa using hm
 ·have:=Dz 9 (k::y.map (·.1)) (List.nodup_cons.mpr ⟨hm,w.nd⟩) fun j hj=>by
   rcases dv.mp hj with rfl|hj
   ·exact mi.mp hk
   ·obtain⟨q,hq,rfl⟩:=cx.mp hj;exact(w.lt q hq).1
  simp[h]at this
def fc.start (b:ajG):fc b [] 0:=⟨bA _,by simp,by simp,by show partsFrom 9 [] b 0=Except.map (fun l=>l) (partsFrom 9 [] b 0);cases partsFrom 9 [] b 0<;>rfl⟩
def fc.ek {b:ajG}{y:Parts}{p:Nat}(w:fc b y p)(hp:p=b.length):readParts b= .ok y:=by rw[w.on,hp,x8];cases 9-y.length<;>simp[partsFrom,Except.map]
def Sk (y:Parts):names (y.map (·.1)).reverse=names (y.map (·.1)):=by unfold names;rw[abX]
def TU {b:ajG}{p:Nat}(h:p<b.length):∃c r,b.drop p=c::r:=⟨_,_,nk h⟩
def fc.tD {b:ajG}{y:Parts}{p k:Nat}(w:fc b y p)(hp:p<b.length)(h:step (y.map (·.1)) (b.drop p) p= .error k):readParts b= .error k:=by
 rw[w.on];obtain⟨c,r,hc⟩:=TU hp;by_cases h9:y.length=9
 ·have hk:k=p:=by unfold step names at h;rw[w.all h9,List.map_nil,Ln.JI,iX]at h;injection h with h;exact h.symm
  rw[h9,Nat.sub_self,hc,hk];rfl
 ·have hf:=w.i9;obtain⟨n,hn⟩:∃n,9-y.length=n+1:=⟨8-y.length,by omega⟩;have h':step (y.map (·.1)).reverse (b.drop p) p= .error k:=by unfold step at h⊢;rw[Sk];exact h
  rw[U8]at h';rw[hn,hc]at *;simp only[partsFrom];unfold nums at h';cases e:oneOf (((List.range OWN).filter fun(k:Nat)=> !(y.map (·.1)).reverse.contains k).map fun(k:Nat)=>(k,KINDS.getD k []++[32])) (c::r) p with
  | error e2 =>rw[e]at h';simp only at h';simp only[Except.map];injection h' with h';rw[h']
  | ok z =>
   obtain⟨k2,r2,q2⟩:=z;rw[e]at h';simp only at h'⊢;cases e2:wordsIn_ 8 1 r2 q2 with
   | error e3 =>rw[e2]at h';simp only at h'⊢;simp only[Except.map];injection h' with h';rw[h']
   | ok z2=>rw[e2]at h';cases h'
def fc.step {b:ajG}{y:Parts}{p q k:Nat}{l:List Word}(w:fc b y p)(hp:p<b.length)(h:step (y.map (·.1)) (b.drop p) p= .ok ((k,l),b.drop q,q))(hq:q<=b.length):fc b (y++[(k,l)]) q:=by
 obtain⟨s1,s2,s3⟩:=ab6 h;have hf:=w.i9;have h9:y.length≠9:=fun h9=>by unfold Pt.step names at h;rw[w.all h9,List.map_nil,Ln.JI,iX]at h;cases h
 obtain⟨c,r,hc⟩:=TU hp;apply⟨hq,?_,?_,?_⟩
 ·rw[cV,List.nodup_append];exact⟨w.nd,by simp,fun a ha b hb e=>by simp at hb;subst hb;subst e;exact s2 ha⟩
 ·intro z hz;rcases eQ.mp hz with hz|hz
  ·exact w.lt z hz
  ·simp at hz;subst hz;exact⟨s1,s3⟩
 ·rw[w.on];obtain⟨n,hn⟩:∃n,9-y.length=n+1:=⟨8-y.length,by omega⟩;have o4:9-(y++[(k,l)]).length=n:=by rw[cq];simp;omega
  have h':Pt.step (y.map (·.1)).reverse (b.drop p) p= .ok ((k,l),b.drop q,q):=by unfold Pt.step at h⊢;rw[Sk];exact h
  rw[U8]at h';unfold nums at h';rw[hn,o4];rw[hc]at h'⊢;simp only[partsFrom];cases e:oneOf (((List.range OWN).filter fun(k:Nat)=> !(y.map (·.1)).reverse.contains k).map fun(k:Nat)=>(k,KINDS.getD k []++[32])) (c::r) p with
  | error e2=>rw[e]at h';cases h'
  | ok z =>
   obtain⟨k2,r2,q2⟩:=z;rw[e]at h';simp only at h'⊢;cases e2:wordsIn_ 8 1 r2 q2 with
   | error e3=>rw[e2]at h';cases h'
   | ok z2 =>
    obtain⟨l2,c2,z3⟩:=z2;rw[e2]at h';simp only at h'⊢;injection h' with h';injection h' with h1 h2;injection h1 with h1 h3;injection h2 with h2 h4;subst h1;subst h3;subst h2;subst h4;have er:(List.map (·.1) (y++[(k2,l2)])).reverse=k2::(y.map (·.1)).reverse:=by simp
    rw[er];cases partsFrom n (k2::(y.map (·.1)).reverse) (b.drop z3) z3<;>simp[Except.map]
def rn (x:Rules)(y:Parts)(i:Item):Bool:=match y.find? (fun q=>q.1==i.kind)with
 | some q=>fits x i q.2
 | none=>i.may||(i.kind==9)
def ad4 {y:Parts}(h:∀q∈y,q.1<9){i:Item}(hi:i.kind=9):y.find? (fun q=>q.1==i.kind)=none:=by rw[Bu];intro q hq e;have:=h q hq;simp at e;omega
def aab (x:Rules)(f:Form){y:Parts}(h:∀q∈y,q.1<9):printable x f y=((y.all fun q=>gK f.items q.1)&&f.items.all (rn x y)):=by
 unfold printable;rw[Bool.and_comm];congr 1;congr 1;funext i;unfold printedWith rn;by_cases hi:i.kind=OWN
 ·rw[aE hi,ad4 h hi];simp only;have h9:(i.kind==9)=true:=by simpa[OWN]using hi
  cases hm:i.may with
  | true=>simp[hm]
  | false=>simp[fits,hi];rfl
 ·rw[aB hi];have h9:(i.kind==9)=false:=by simpa[OWN]using hi
  cases y.find? (fun q=>q.1==i.kind)with
  | none=>simp[h9]
  | some q=>simp
noncomputable def go (y:Parts):List (Item×Nat)->ajG->Nat->ajG
 | [],t,_=>t
 | (i,j)::r,t,s=>match printedWith y i with
  | some ws=>go y r (t++((if t=[]then[]else BETWEEN.getD s [])++spaced ws)) j
  | none=>go y r t (max s j)
def Qi (f:Form)(a:Nat):strongest f a a=0:=by simp[strongest]
def HE {f:Form}{a b j:Nat}(Yu:a<=b)(hj:(f.more.map (fun p:Nat×Item=>p.1)++[0])[b]?=some j):strongest f a (b+1)=max (strongest f a b) j:=by
 unfold strongest;by_cases hb:b<f.more.length
 ·rw[List.getElem?_append_left (by simpa using hb),bR,cB hb]at hj;have hj:f.more[b].1=j:=by simpa using hj
  have e:(f.more.drop a).take (b+1-a)=(f.more.drop a).take (b-a)++[f.more[b]]:=by rw[show b+1-a=(b-a)+1 by omega,List.take_add_one,x6,show a+(b-a)=b by omega,cB hb];rfl
  rw[e,cV,List.foldl_append];simp[hj]
 ·have hj0:j=0:=by rw[List.getElem?_append_right (by simpa using hb)]at hj;have:=fC hj;simpa using this
  have e:(f.more.drop a).take (b+1-a)=(f.more.drop a).take (b-a):=by rw[Bt (by rw[jX];omega),Bt (by rw[jX];omega)]
  rw[e,hj0];simp
def ny (f:Form)(y:Parts)(b:Nat):List (Nat×List Word):=((f.items.drop b).zip (List.range' b (f.items.length-b))).filterMap fun(z:Item×Nat)=>(printedWith y z.1).map fun(l:List Word)=>(z.2,l)
def ZC (f:Form)(y:Parts):ny f y 0=printedItems f y:=by unfold ny printedItems;rw[List.drop_zero,Y5,<-List.range_eq_range']
def Qm {f:Form}{y:Parts}{b:Nat}{i:Item}(h:f.items[b]?=some i):ny f y b=(match printedWith y i with
  | some l=>(b,l)::ny f y (b+1)
  | none=>ny f y (b+1)):=by
 obtain⟨hb,e⟩:=fD.mp h;unfold ny;rw[nk hb,e,show f.items.length-b=(f.items.length-(b+1))+1 by omega,List.range'_succ,List.zip_cons_cons,List.filterMap_cons];cases printedWith y i<;>rfl
def QL {f:Form}{y:Parts}{b:Nat}(h:f.items.length<=b):ny f y b=[]:=by unfold ny;rw[Bv h];rfl
def ab9:∀{ws:List Word},(∀w∈ws,w≠[])->ws≠[]->spaced ws≠[]
 | [],_,h=>absurd rfl h
 | [w],h,_=>by simpa[spaced]using h w (by simp)
 | w::v::r,h,_=>by simp[spaced]
def Aw (f:Form)(y:Parts):Prop:=∀i∈f.items,∀ws,printedWith y i=some ws->ws≠[]/\∀w∈ws,w≠[]
def tail (f:Form)(a:Nat)(l:List (Nat×List Word)):ajG:=match l with
 | []=>[]
 | z::r=>BETWEEN.getD (strongest f a z.1) []++printedFrom f (z::r)
def Q6 (f:Form)(b:Nat)(ws:List Word)(l:List (Nat×List Word)):printedFrom f ((b,ws)::l)=spaced ws++tail f b l:=by
 cases l with
 | nil=>simp[printedFrom,tail]
 | cons z r=>simp[printedFrom,tail]
def K0 {f:Form}{b:Nat}{i:Item}{j:Nat}(h:(Wy.fH f)[b]?=some (i,j)):f.items[b]?=some i/\(f.more.map (fun p:Nat×Item=>p.1)++[0])[b]?=some j:=by unfold Wy.fH at h;rw[List.getElem?_zip_eq_some]at h;exact h
theorem KE (f:Form)(y:Parts)(F:Aw f y):∀(n b a:Nat)(t:ajG),n+b=f.items.length->a<=b->t≠[]->go y ((Wy.fH f).drop b) t (strongest f a b)=t++tail f a (ny f y b)
 | 0,b,a,t,hn,_,_=>by rw[Bv (by rw[Wy.t7];omega),QL ⋯];simp[go,tail]
 | n+1,b,a,t,hn,Yu,ht=>by
  have hb:b<(Wy.fH f).length:=by rw[Wy.t7];omega
  cases e:(Wy.fH f)[b]with
  | mk i j =>
   have hr:=K0 (f:=f) (b:=b) (i:=i) (j:=j) (by rw[cB hb,e]);rw[nk hb,e,go,Qm hr.1];cases hp:printedWith y i with
   | none =>simp only;rw[<-HE Yu hr.2];exact KE f y F n (b+1) a t ⋯ ⋯ ht
   | some ws =>
    simp only;rw[aB ht];have hs:j=strongest f b (b+1):=by rw[HE (bo _) hr.2,Qi];simp
    rw[hs];rw[KE f y F n (b+1) b _ ⋯ ⋯ (by intro q;rw[List.append_eq_nil_iff]at q;exact ht q.1)]
    show _=t++tail f a ((b,ws)::ny f y (b+1));unfold tail;simp only;rw[Q6];simp only[List.append_assoc];rfl
theorem TK (f:Form)(y:Parts)(F:Aw f y):∀(n b s:Nat),n+b=f.items.length->go y ((Wy.fH f).drop b) [] s=printedFrom f (ny f y b)
 | 0,b,s,hn=>by rw[Bv (by rw[Wy.t7];omega),QL ⋯];simp[go,printedFrom]
 | n+1,b,s,hn=>by
  have hb:b<(Wy.fH f).length:=by rw[Wy.t7];omega
  cases e:(Wy.fH f)[b]with
  | mk i j =>
   have hr:=K0 (f:=f) (b:=b) (i:=i) (j:=j) (by rw[cB hb,e]);rw[nk hb,e,go,Qm hr.1];cases hp:printedWith y i with
   | none =>simp only;exact TK f y F n (b+1) _ ⋯
   | some ws =>
    simp only;have hF:=F i (fC hr.1) ws hp;have hs:j=strongest f b (b+1):=by rw[HE (bo _) hr.2,Qi];simp
    rw[aE trivial,List.nil_append,List.nil_append,hs,KE f y F n (b+1) b _ ⋯ ⋯ (ab9 hF.2 hF.1),Q6]
def ahG (f:Form)(y:Parts)(F:Aw f y):go y (Wy.fH f) [] 0=printed f y:=by have:=TK f y F f.items.length 0 0 rfl;rw[List.drop_zero]at this;rw[this,ZC];rfl
def afq {f:Form}{y:Parts}(hy:∀q∈y,(∀w∈q.2,fullWord w=true)/\q.2≠[])(hf:∀i∈f.items,i.kind=9->i.word≠[]):Aw f y:=by
 intro i hi ws h;unfold printedWith at h;split at h
 ·rename_i h9
  split at h
  ·cases h
  ·cases h;exact⟨by simp,fun w hw=>by simp at hw;subst hw;exact hf i hi h9⟩
 ·cases e:y.find? (fun q=>q.1==i.kind)with
  | none=>rw[e]at h;cases h
  | some q =>rw[e]at h;cases h;have:=hy q (pE e);apply⟨this.2,fun w hw e=>?_⟩;have:=this.1 w hw;subst e;simp[fullWord]at this
end Pt
namespace Fl
open PyWqatcl
def ac4 (c:List (List Int)):whole c=c:=by rcases c with _|⟨_|⟨x|x,_|⟨y,_|⟨z,_|_⟩⟩⟩,_|⟨r,_|_⟩⟩<;>first|rfl|(rcases x with _|_|_|_|_|_|_|_<;>rfl)
def aec (l:List Int):calls l=PyFlat.calls shape l.length l:=by
 unfold calls;cases PyFlat.calls shape l.length l with
 | none=>rfl
 | some cs =>
  show some (cs.map whole)=some cs;rw[show(cs.map whole)=cs by rw[show whole=id from funext ac4,List.map_id]]
def T7 {f:Nat}{b7:List Int}{cs:List (List (List Int))}(h:PyFlat.calls shape f b7=some cs):(b7=[]/\cs=[])\/∃c t oh f',cs=c::oh/\PyFlat.call shape b7=some (c,t)/\PyFlat.calls shape f' t=some oh:=by
 match f,b7 with
 | f,[] =>
  left;have:PyFlat.calls shape f []=some []:=by cases f<;>rfl
  rw[this]at h;exact⟨rfl,(d3 h).symm⟩
 | 0,p::r=>exact absurd h (by simp[PyFlat.calls])
 | f+1,p::r =>
  right;unfold PyFlat.calls at h;cases e:PyFlat.call shape (p::r)with
  | none=>rw[e]at h;cases h
  | some x =>
   obtain⟨c,t⟩:=x;rw[e]at h;simp only at h;cases e2:PyFlat.calls shape f t with
   | none=>rw[e2]at h;cases h
   | some oh =>rw[e2]at h;exact Z58 c t oh f ((d3 h).symm) rfl e2
def ue:List Nat:=[0,1,0,0,1,2,1]
def abc {p:Int}{n k:Nat}(h:shape p=some (n,k)):∃q:Nat,p=(q:Int)/\q<7/\ue[q]?=some n/\k=(if q=1 then 0 else 1):=by
 unfold shape at h;by_cases h0:p=0
 ·subst h0;simp at h;obtain⟨rfl,rfl⟩:=h;exact⟨0,rfl,by omega,rfl,rfl⟩
 by_cases h1:p=1
 ·subst h1;simp at h;obtain⟨rfl,rfl⟩:=h;exact⟨1,rfl,by omega,rfl,rfl⟩
 by_cases h2:p=2
 ·subst h2;simp at h;obtain⟨rfl,rfl⟩:=h;exact⟨2,rfl,by omega,rfl,rfl⟩
 by_cases h3:p=3
 ·subst h3;simp at h;obtain⟨rfl,rfl⟩:=h;exact⟨3,rfl,by omega,rfl,rfl⟩
 by_cases h4:p=4
 ·subst h4;simp at h;obtain⟨rfl,rfl⟩:=h;exact⟨4,rfl,by omega,rfl,rfl⟩
 by_cases h5:p=5
 ·subst h5;simp at h;obtain⟨rfl,rfl⟩:=h;exact⟨5,rfl,by omega,rfl,rfl⟩
 by_cases h6:p=6
 ·subst h6;simp at h;obtain⟨rfl,rfl⟩:=h;exact⟨6,rfl,by omega,rfl,rfl⟩
 ·simp[h0,h1,h2,h3,h4,h5,h6]at h
def adC {r x t:List Int}(h:PyFlat.row r=some (x,t)):r=(x.length:Int)::(x++t):=by
 unfold PyFlat.row at h
 match r with
 | []=>cases h
 | n::r =>
  simp only at h;split at h
  ·rename_i c
   have h:=d3 h;injection h with h1 h2;subst h1;subst h2;rw[gH,tG c.2,List.take_append_drop];congr 1;omega
  ·cases h
def acW {b7:List Int}{c:List (List Int)}{t:List Int}(h:PyFlat.call shape b7=some (c,t)):(∃w,b7=1::w::t/\c=[[1,w]])\/∃(q n:Nat)(ws row:List Int),q<7/\q≠1/\ue[q]?=some n/\ws.length=n/\b7=(q:Int)::(ws++(row.length:Int)::(row++t))/\c=[(q:Int)::ws,row]:=by
 match b7 with
 | []=>cases h
 | p::r =>
  unfold PyFlat.call at h;simp only at h;cases e:shape p with
  | none=>rw[e]at h;cases h
  | some x =>
   obtain⟨n,k⟩:=x;rw[e]at h;simp only at h;obtain⟨q,rfl,hq,hw,hk⟩:=abc e;by_cases hl:r.length<n
   ·rw[aE hl]at h;cases h
   ·rw[aB hl]at h;by_cases q1:q=1
    ·subst q1;have n1:n=1:=by simpa[ue]using hw.symm
     subst n1;simp only[if_true]at hk;subst hk;unfold PyFlat.rows at h;simp only at h;have h:=d3 h;injection h with h1 h2;left
     match r,hl with
     | [],hl=>simp at hl
     | w::r,_ =>
      apply⟨w,?_,?_⟩
      ·rw[<-h2];rfl
      ·rw[<-h1];rfl
    ·rw[aB q1]at hk;subst hk;unfold PyFlat.rows at h;cases e2:PyFlat.row (r.drop n)with
     | none=>rw[e2]at h;cases h
     | some y =>obtain⟨row,s⟩:=y;rw[e2]at h;simp only[PyFlat.rows]at h;have h:=d3 h;injection h with h1 h2;subst h2;right;apply Z35 q n (r.take n) row hq q1 hw (by rw[gH];omega) ?_ h1.symm;rw[<-adC e2,List.take_append_drop]
def ab5 (s:WqatclNeutral.S)(c:List (List Int))(cs:List (List (List Int))):PyFlat.told (PyFlat.played WqatclNeutral.step s (c::cs))=(((WqatclNeutral.step s c).2.length:Int)::(WqatclNeutral.step s c).2)++PyFlat.told (PyFlat.played WqatclNeutral.step (WqatclNeutral.step s c).1 cs):=by simp[PyFlat.played,PyFlat.told]
def abP {l:List Int}(h:answers_asked l=true):∃cs,PyFlat.calls shape l.length l=some cs/\WqatclNeutral.asked cs=true/\answers l=PyFlat.told (PyFlat.played WqatclNeutral.step WqatclNeutral.start cs):=by
 unfold answers_asked at h;unfold answers;rw[aec]at h⊢;cases e:PyFlat.calls shape l.length l with
 | none=>rw[e]at h;cases h
 | some cs =>rw[e]at h;simp only[dw]at h;exact⟨cs,rfl,h.2,rfl⟩
def abQ {cs:List (List (List Int))}(h:WqatclNeutral.asked cs=true):∀c∈cs,WqatclNeutral.asked1 c=true:=by unfold WqatclNeutral.asked at h;rw[dw,dw,dw]at h;exact List.all_eq_true.mp h.1.1.1
end Fl
namespace L2
open PySem PySem.Spec PyProof.Rows
abbrev aP:=Sum Int Str
def nH:aP->ah->Bool
 | .inl k,v=>Value.isInt k v
 | .inr x,v=>Value.isStrOf x v
def ail (w:World):aP->Int
 | .inl k=>hashInt k
 | .inr x=>hashStr w x
def oq:∀{k:aP}{v:ah},nH k v=true->(∃i t,k=Sum.inl i/\v=Value.int i t)\/(∃x t,k=Sum.inr x/\v=Value.str x t)
 | .inl i,v,h=>by obtain⟨t,e⟩:=Value.isInt_shape (k:=i) (v:=v) h;exact .inl ⟨i,t,rfl,e⟩
 | .inr x,v,h=>by obtain⟨t,e⟩:=Value.isStrOf_shape (x:=x) (v:=v) h;exact .inr ⟨x,t,rfl,e⟩
def acI (i:Int)(t:Tok):nH (.inl i) (.int i t)=true:=by simp[nH,Value.isInt]
def acH (x:Str)(t:Tok):nH (.inr x) (.str x t)=true:=by simp[nH,Value.isStrOf]
def agz (a b:Int):decide ((Sum.inl a:aP)=Sum.inl b)=(a==b):=by
 by_cases e:a=b
 ·subst e;simp
 ·have h:¬(Sum.inl a:aP)=Sum.inl b:=fun q=>e (Sum.inl.inj q);rw[bZ h];exact(beq_eq_false_iff_ne.mpr e).symm
def agw (a b:Str):decide ((Sum.inr a:aP)=Sum.inr b)=decide (a=b):=by
 by_cases e:a=b
 ·subst e;simp
 ·have h:¬(Sum.inr a:aP)=Sum.inr b:=fun q=>e (Sum.inr.inj q);rw[bZ h,bZ e]
def agy (a:Int)(b:Str):decide ((Sum.inl a:aP)=Sum.inr b)=false:=bZ (fun q=>nomatch q)
def agx (a:Str)(b:Int):decide ((Sum.inr a:aP)=Sum.inl b)=false:=bZ (fun q=>nomatch q)
def gC (prog:Program)(w:World):PySem.KeyKind prog w aP where
 is:=nH
 hash:=ail w
 inj:=fun v a b ha hb=>by
  rcases oq ha with⟨i,t,rfl,rfl⟩|⟨x,t,rfl,rfl⟩
  ·rcases oq hb with⟨j,u,rfl,e⟩|⟨y,u,rfl,e⟩
   ·injection e with e1 _;rw[e1]
   ·exact nomatch e
  ·rcases oq hb with⟨j,u,rfl,e⟩|⟨y,u,rfl,e⟩
   ·exact nomatch e
   ·injection e with e1 _;rw[e1]
 byValue:=fun k v h=>by rcases oq h with⟨i,t,rfl,rfl⟩|⟨x,t,rfl,rfl⟩<;>rfl
 pyHash:=fun hv h=>by
  rcases oq hv with⟨i,t,rfl,rfl⟩|⟨x,t,rfl,rfl⟩
  ·exact wpAny_pyHash_int h
  ·exact wpAny_pyHash_str h
 eqBool:=fun hu hv h=>by
  rcases oq hu with⟨i,t,rfl,rfl⟩|⟨x,t,rfl,rfl⟩
  ·rcases oq hv with⟨j,u,rfl,rfl⟩|⟨y,u,rfl,rfl⟩
   ·rw[agz]at h;exact wpAny_eqBool_int h
   ·rw[agy]at h;exact SeqAt.EqAt.int_str i t y u _ _ _ _ h
  ·rcases oq hv with⟨j,u,rfl,rfl⟩|⟨y,u,rfl,rfl⟩
   ·rw[agx]at h;exact SeqAt.EqAt.str_int x t j u _ _ _ _ h
   ·rw[agw]at h;exact wpAny_eqBool_str h
 «strs»:=fun k x t v h=>by
  rcases oq h with⟨i,u,rfl,e⟩|⟨y,u,rfl,e⟩
  ·exact nomatch e
  ·injection e with e1 _;subst e1;cases v<;>rfl
def aaJ (prog:Program)(w:World)(i:Int)(t:Tok):(gC prog w).is (.inl i) (.int i t)=true:=acI i t
def aaI (prog:Program)(w:World)(x:Str)(t:Tok):(gC prog w).is (.inr x) (.str x t)=true:=acH x t
inductive V where
 | bx|bl (b:Bool)|int (i:Int)|str (x:Str)|hJ (b:Array UInt8)|Fy (b:UInt64)|ref (a:ae)|ty (n:String)
 deriving DecidableEq
def bF:V->ah->Prop
 | .bx,u=>u=Value.none
 | .bl b,u=>u=Value.bool b
 | .int i,u=>∃t,u=Value.int i t
 | .str x,u=>∃t,u=Value.str x t
 | .hJ b,u=>∃t,u=Value.bytes b t
 | .Fy b,u=>∃t,u=Value.float b t
 | .ref a,u=>u=Value.ref a
 | .ty n,u=>u=Value.type n
abbrev be:List V->List ah->Prop:=Paired bF
def be.length {xs:List V}{us:List ah}(r:be xs us):xs.length=us.length:=Paired.length r
theorem be.get:∀{xs:List V}{us:List ah}{i:Nat}{x:V},be xs us->xs[i]?=some x->∃u,us[i]?=some u/\bF x u
 | _,_,_,_,.nil,e=>by simp at e
 | _,_,0,_,.cons r _,e=>by simp at e;subst e;exact⟨_,rfl,r⟩
 | _,_,i+1,x,.cons _ t,e=>by obtain⟨u,h1,h2⟩:=be.get (i:=i) (x:=x) t (by simpa using e);exact⟨u,by simpa using h1,h2⟩
theorem be.append:∀{xs ys:List V}{us ws:List ah},be xs us->be ys ws->be (xs++ys) (us++ws)
 | _,_,_,_,.nil,s=>s
 | _,_,_,_,.cons r t,s=>.cons r (be.append t s)
theorem be.take:∀{xs:List V}{us:List ah}(n:Nat),be xs us->be (xs.take n) (us.take n)
 | _,_,0,_=>.nil
 | _,_,_+1,.nil=>.nil
 | _,_,n+1,.cons r t=>.cons r (be.take n t)
theorem be.drop:∀{xs:List V}{us:List ah}(n:Nat),be xs us->be (xs.drop n) (us.drop n)
 | _,_,0,r=>r
 | _,_,_+1,.nil=>.nil
 | _,_,n+1,.cons _ t=>be.drop n t
def iJ:Option V->Option ah->Prop
 | some v,some u=>bF v u
 | none,none=>True
 | _,_=>False
def KV {κ:Type}:List (κ×V)->List (κ×ah)->Prop:=Paired fun(p:κ×V)(q:κ×ah)=>p.1=q.1/\bF p.2 q.2
def kV:aP->V
 | .inl i=>.int i
 | .inr x=>.str x
inductive HO where
 | ak (xs:List V)
 | bp (xs:List V)
 | dK (ai:List (aP×V))|dT (ai:List (List aP×V))
 | set (S:Int->Bool) (n:Nat)
 | bc (C dx:ae) (fs:List (Str×V))
 | bO (x:ae)
 | xd (fs:List (Str×V))
 | EI (f x:ae)
 | Ez (lo hi:Int)
 | cK (o:Obj) (u:HO)
 | r9 (ps:Array ah)
 | ext (φ:Heap->Prop)
abbrev Hp:=ae->Option HO
def ay (H:Hp)(a:ae)(o:HO):Hp:=fun b=>if b=a then some o else H b
def aC {H:Hp}{a:ae}{o:HO}:ay H a o a=some o:=by unfold ay;rw[aE rfl]
def aq {H:Hp}{a b:ae}{o:HO}(h:b≠a):ay H a o b=H b:=by unfold ay;rw[aB h]
def aJ {H:Hp}{a b:ae}{o u:HO}(h:H a=some o)(h':H b=some u)(d:o≠u):a≠b:=by intro e;subst e;rw[h]at h';exact d (d3 h')
def aQ {H:Hp}{a b:ae}{o:HO}(h:H a=some o)(h':H b=none):a≠b:=by intro e;subst e;rw[h]at h';cases h'
section
variable (P:Program)(w:World)
def eK (H:Hp)(h:Heap)(a:ae):HO->Prop
 | .ak xs=>xs.length<=sizeLine/\∃(its:List ah)(n:Nat),be xs its/\h.get? a=some {cls:=.type "list",data:=.seq its.toArray n}
 | .bp xs=>xs.length<=sizeLine/\∃its:List ah,be xs its/\IsTup h a its.toArray
 | .dK ai=>ai.length<=sizeLine/\(a==sysModules)=false/\∃vs,KV ai vs/\h.DictOf (gC P w) a vs
 | .dT ai=>ai.length<=sizeLine/\(a==sysModules)=false/\∃xs:List (List aP×ae×ah),
   Paired (fun(p:List aP×V)(q:List aP×ae×ah)=>p.1=q.1/\H q.2.1=some (.bp (p.1.map kV))/\bF p.2 q.2.2) ai xs /\
   ∃o es ep,h.get? a=some o/\o.ExactDict/\o.data= .dict es ep/\es.toList=xs.map (entryOfKey (tupleKind (gC P w)))/\(xs.map (·.1)).Nodup
 | .set S n=>h.SetOf (intKind P w) a S n
 | .bc C dx fs=>H dx=some (.bO a)/\fs.length<=1000/\dx≠a/\h.get? a=some (W.instObj C dx) /\
   ∃mA,h.Ns1 dx mA/\(∀f,iJ (fs.lookup f) (mA f))/\PySem.Within mA (fs.map (·.1))
 | .bO _=>∃o,h.get? a=some o
 | .xd fs=>∃mA,h.Ns1 a mA/\∀f,iJ (fs.lookup f) (mA f)
 | .Ez lo hi=>∃t u v,h.get? a=some {cls:=.type "range",data:=.fields #[.int lo t,.int hi u,.int 1 v]}
 | .cK o u=>h.get? a=some o/\eK H h a u
 | .r9 ps=>h.get? a=some {cls:=.none,data:=.fields ps}
 | .EI f x=>h.get? a=some (W.methodObj (.ref f) (.ref x))
 | .ext φ=>φ h/\(∃o,h.get? a=some o)/\∀h1 h2:Heap,φ h1->(∀o,h1.get? a=some o->h2.get? a=some o)->φ h2
def dh (H:Hp)(h:Heap):Prop:=∀a o,H a=some o->eK P w H h a o
end
section
variable {P:Program}{w:World}{H H':Hp}{h h':Heap}{a:ae}{o:HO}
def eK.lt (x:eK P w H h a o):a<h.objs.size:=by
 cases o with
 | ak xs=>obtain⟨_,_,_,_,e⟩:=x;exact bW e
 | bp xs=>obtain⟨_,_,_,p⟩:=x;exact p.lt
 | dK ai=>obtain⟨_,_,_,_,o,_,_,e,_⟩:=x;exact bW e
 | dT ai=>obtain⟨_,_,_,_,o,_,_,e,_⟩:=x;exact bW e
 | set S n=>obtain⟨o,_,_,_,e,_⟩:=x;exact bW e
 | bc C dx fs=>obtain⟨_,_,_,e,_⟩:=x;exact bW e
 | bO y=>obtain⟨_,e⟩:=x;exact bW e
 | xd fs=>obtain⟨_,⟨_,_,_,e,_⟩,_⟩:=x;exact bW e
 | Ez lo hi=>obtain⟨_,_,_,e⟩:=x;exact bW e
 | cK ob u=>obtain⟨e,_⟩:=x;exact bW e
 | r9 ps=>exact bW (show h.get? a=some _ from x)
 | EI f y=>exact bW (show h.get? a=some _ from x)
 | ext φ=>obtain⟨_,⟨_,e⟩,_⟩:=x;exact bW e
theorem Paired.dc {α β:Type}{F G:α->β->Prop}:∀{uA:List α}{uz:List β},Paired F uA uz->(∀a b,F a b->G a b)->Paired G uA uz
 | _,_,.nil,_=>.nil
 | _,_,.cons r t,f=>.cons (f _ _ r) (Paired.dc t f)
def eK.fS (x:eK P w H h a o)(k:∀b u,(b=a\/H b=some (.bO a))->h.get? b=some u->h'.get? b=some u)(ho:∀b,H b=some (.bO a)->H' b=some (.bO a))(ht:∀b xs,H b=some (.bp xs)->H' b=some (.bp xs)):eK P w H' h' a o:=by
 induction o with
 | ak xs=>obtain⟨z,its,n,r,e⟩:=x;exact⟨z,its,n,r,k _ _ (.inl rfl) e⟩
 | bp xs=>obtain⟨z,its,r,ob,e,c⟩:=x;exact⟨z,its,r,ob,k _ _ (.inl rfl) e,c⟩
 | dK ai=>obtain⟨z,y,vs,r,ob,es,ep,e,c⟩:=x;exact⟨z,y,Z59 vs r ob es ep (k _ _ (.inl rfl) e) c⟩
 | dT ai =>obtain⟨z,y,xs,r,ob,es,ep,e,c⟩:=x;exact⟨z,y,Z59 xs (Paired.dc r fun p q z=>⟨z.1,ht _ _ z.2.1,z.2.2⟩) ob es ep (k _ _ (.inl rfl) e) c⟩
 | set S n=>obtain⟨ob,es,ep,t,e,c⟩:=x;exact Z108 ob es (Z53 ep t (k _ _ (.inl rfl) e) c)
 | bc C dx fs =>obtain⟨d,z,ne,e,mA,⟨od,es,ep,e2,c⟩,r⟩:=x;exact⟨ho _ d,z,ne,Z25 (k _ _ (.inl rfl) e) mA ⟨od,es,ep,k _ _ (.inr d) e2,c⟩ r⟩
 | bO y=>obtain⟨ob,e⟩:=x;exact⟨ob,k _ _ (.inl rfl) e⟩
 | xd fs=>obtain⟨mA,⟨od,es,ep,e,c⟩,r⟩:=x;exact⟨mA,⟨od,es,ep,k _ _ (.inl rfl) e,c⟩,r⟩
 | Ez lo hi=>obtain⟨t,u,v,e⟩:=x;exact⟨t,u,v,k _ _ (.inl rfl) e⟩
 | cK ob u ih=>obtain⟨e,q⟩:=x;exact⟨k _ _ (.inl rfl) e,ih q⟩
 | r9 ps =>have e:h.get? a=some {cls:=.none,data:=.fields ps}:=x;show h'.get? a=some {cls:=.none,data:=.fields ps};exact k a _ (.inl rfl) e
 | EI f y =>have e:h.get? a=some (W.methodObj (.ref f) (.ref y)):=x;show h'.get? a=some (W.methodObj (.ref f) (.ref y));exact k a _ (.inl rfl) e
 | ext φ=>obtain⟨p,⟨o,e⟩,st⟩:=x;exact⟨st _ _ p fun o q=>k _ _ (.inl rfl) q,⟨o,k _ _ (.inl rfl) e⟩,st⟩
def dh.lt (x:dh P w H h)(e:H a=some o):a<h.objs.size:=(x a o e).lt
def dh.fresh (x:dh P w H h)(e:h.objs.size<=a):H a=none:=by
 cases q:H a with
 | none=>rfl
 | some u=>exact absurd (fi (x.lt q) e) (Nat.lt_irrefl _)
def dh.fI (x:dh P w H h)(k:∀b u,h.get? b=some u->h'.get? b=some u):dh P w H h':=fun a o e =>(x a o e).fS (fun b u _ q=>k b u q) (fun _ q=>q) fun _ _ q=>q
def dh.lg (x:dh P w H h)(k:∀b u,h.get? b=some u->h'.get? b=some u)(hp:h.objs.size<=a)(new:eK P w (ay H a o) h' a o):dh P w (ay H a o) h':=fun b u e=>by
 have hn:=x.fresh hp;by_cases hb:b=a
 ·subst hb;rw[aC]at e;cases e;exact new
 ·rw[aq hb]at e;exact(x b u e).fS (fun c v _ q=>k c v q) (fun c q=>by rw[aq (aQ q hn)];exact q) fun c xs q=>by rw[aq (aQ q hn)];exact q
end
def Rd (H:Hp)(a:ae)(u:HO):Prop:=H a=some u\/∃o,H a=some (.cK o u)
def Rd.ok {P:Program}{w:World}{H:Hp}{h:Heap}{a:ae}{u:HO}(r:Rd H a u)(x:dh P w H h):eK P w H h a u:=by
 rcases r with r|⟨o,r⟩
 ·exact x a u r
 ·obtain⟨_,q⟩:=x a _ r;exact q
def qy:Option HO->Prop
 | some (.ak _)=>True
 | some (.dK _)=>True
 | some (.dT _)=>True
 | some (.set _ _)=>True
 | some (.bc _ _ _)=>True
 | some (.ext _)=>True
 | _=>False
section
variable {P:Program}{w:World}{H:Hp}{h h':Heap}{x e:ae}{o':HO}
def dh.pZ (ok:dh P w H h)(mu:qy (H x))(he:e=x\/H e=some (.bO x))(k:∀b u,b≠e->h.get? b=some u->h'.get? b=some u)(xQ:∃u,h'.get? e=some u)(new:eK P w (ay H x o') h' x o'):dh P w (ay H x o') h':=fun b u q=>by
 have qd:∀c y,H c=some (.bO y)->c≠x:=fun c y r z=>by subst z;rw[r]at mu;exact mu
 have aid:∀c xs,H c=some (.bp xs)->c≠x:=fun c xs r z=>by subst z;rw[r]at mu;exact mu
 by_cases hb:b=x
 ·subst hb;rw[aC]at q;cases q;exact new
 ·rw[aq hb]at q;by_cases qr:b=e
  ·have q':H b=some (.bO x):=by
    rcases he with z|z
    ·exact absurd (qr.trans z) hb
    ·rw[qr];exact z
   rw[q]at q';cases q';obtain⟨v,hv⟩:=xQ;exact⟨v,by rw[qr];exact hv⟩
  ·refine(ok b u q).fS (fun c v hc r=>k c v ?_ r) (fun c r=>by rw[aq (qd c b r)];exact r) fun c xs r=>by rw[aq (aid c xs r)];exact r
   rcases hc with rfl|hc
   ·exact qr
   ·rintro rfl;rcases he with z|z
    ·exact qd c b hc z
    ·rw[hc]at z;cases z;exact hb rfl
end
structure Un (fs ex:List ae)(H H':Hp)(h h':Heap):Prop where
 keep:∀b o,h.get? b=some o->H b=none->b∉fs->b∉ex->h'.get? b=some o
 slot:∀b o,h.get? b=some o->H b=none->b∈fs->b∉ex->∃sl,h'.get? b=some {o with slots:=sl}
 free:∀b o,h.get? b=some o->H b=none->b∉ex->H' b=none
 there:∀b o,h.get? b=some o->b∉ex->∃o',h'.get? b=some o'
 oK:∀b xs,H b=some (.bp xs)->H' b=some (.bp xs)
 mH:∀b o u,H b=some (.cK o u)->H' b=some (.cK o u)
 oM:∀b ps,H b=some (.r9 ps)->∃more,H' b=some (.r9 (ps++more))
section
variable {fs xY ex ex':List ae}{H H1 H2:Hp}{h h1 h2 h':Heap}{a x e:ae}{o:HO}
def Un.any (u:Un fs ex H H1 h h1){b:ae}{ob:Obj}(q:h.get? b=some ob)(n:H b=none)(hx:b∉ex):∃sl,h1.get? b=some {ob with slots:=sl}:=by
 by_cases hb:b∈fs
 ·exact u.slot b ob q n hb hx
 ·exact⟨ob.slots,u.keep b ob q n hb hx⟩
def Un.fI (k:∀b u,h.get? b=some u->h'.get? b=some u):Un fs ex H H h h' :=
 ⟨fun b ob q _ _ _=>k b ob q,fun b ob q _ _ _=>⟨ob.slots,k b ob q⟩,fun _ _ _ n _=>n,fun b ob q _=>⟨ob,k b ob q⟩,fun _ _ q=>q,fun _ _ _ q=>q,fun _ ps q=>⟨#[],by rw[q];simp⟩⟩
def Un.refl:Un fs ex H H h h:=Un.fI fun _ _ q=>q
def Un.lg (k:∀b u,h.get? b=some u->h'.get? b=some u)(hp:h.objs.size<=a)(hn:H a=none):Un fs ex H (ay H a o) h h' where
 keep:=fun b u q _ _ _=>k b u q
 slot:=fun b u q _ _ _=>⟨u.slots,k b u q⟩
 free:=fun b u q n _=>by rw[aq (d9 (fi (bW q) hp))];exact n
 there:=fun b u q _=>⟨u,k b u q⟩
 oK:=fun b xs q=>by rw[aq (aQ q hn)];exact q
 mH:=fun b u xs q=>by rw[aq (aQ q hn)];exact q
 oM:=fun b ps q=>⟨#[],by rw[aq (aQ q hn),q];simp⟩
def Un.pZ (mu:qy (H x))(he:e=x\/H e=some (.bO x))(k:∀b u,b≠e->h.get? b=some u->h'.get? b=some u)(xQ:∃u,h'.get? e=some u):Un fs ex H (ay H x o) h h':=by
 have hx:∀b,H b=none->b≠x:=fun b n z=>by subst z;rw[n]at mu;exact mu
 have hb:∀b,H b=none->b≠e:=fun b n z=>by
  subst z;rcases he with r|r
  ·exact hx b n r
  ·rw[n]at r;cases r
 have hm:∀b u,H b=some u->¬qy (some u)->b≠x:=fun b u q nm z=>by subst z;rw[q]at mu;exact nm mu
 apply⟨fun b u q n _ _=>k b u (hb b n) q,fun b u q n _ _=>⟨u.slots,k b u (hb b n) q⟩,fun b u q n _=>by rw[aq (hx b n)];exact n,fun b u q _=>?_,
  fun b xs q=>by rw[aq (hm b _ q fun z=>z)];exact q,fun b u xs q=>by rw[aq (hm b _ q fun z=>z)];exact q,fun b ps q=>⟨#[],by rw[aq (hm b _ q fun z=>z),q];simp⟩⟩
 by_cases qr:b=e
 ·subst qr;exact xQ
 ·exact⟨u,k b u qr q⟩
end
def Em (h:Heap)(H:Hp):List ae:=(List.range h.objs.size).filter fun a=>(H a).isSome
def qe (h:Heap)(H:Hp):Heap:=W.hideAll h (Em h H)
def acM (h:Heap)(H:Hp):(qe h H).objs.size=h.objs.size:=W.hideAll_size _ _
def adY {h:Heap}{H:Hp}{b:ae}{o:Obj}(e:h.get? b=some o)(n:H b=none):(qe h H).get? b=some o :=
 W.hideAll_get _ e fun hm=>by have q:(H b).isSome=true:=(kY.mp hm).2;rw[n]at q;simp at q
def ae6 {h:Heap}{H:Hp}{b:ae}{o:Obj}(e:(qe h H).get? b=some o):h.get? b=some o/\H b=none:=by
 have e':h.get? b=some o:=W.of_hideAll (Em h H) e;apply⟨e',?_⟩;cases q:H b with
 | none=>rfl
 | some x =>have hm:b∈Em h H:=kY.mpr ⟨mi.mpr (bW e'),by simp[q]⟩;have z:(qe h H).get? b=none:=W.hideAll_none (Em h H) hm;rw[z]at e;cases e
structure FG (K:aI)(mg:Str->Option ah)(base:Heap):Prop where
 xA:K.In base
 oQ:base.Ns mainGlobals mg
 vI:∃mb,base.Ns builtinsNs mb/\∀x:Str,x≠"__name__"->mb x=bootBuiltins x
 nolimit:base.NoLimit
structure Cx where
 prog:Program
 w:World
 K:aI
 mg:Str->Option ah
 base:Heap
 A:Around
 N:List Str
 iw:aw
 H_0:Hp
 env:Env
 aG:List Env
 stack:List Env
 ex:List ae
 fn:Str->Bool
 gM:Bool
 pn:List (ae×Obj)
 xe:ah->aw->Prop
def kW (l:List Env):List ae:=l.filterMap (·.frame)
abbrev Cx.fs (X:Cx):List ae:=kW X.aG
def x3 (sc:Scope)(x:Str):Prop:=sc.names.lookup x=some .local\/sc.names.lookup x=some .cell\/sc.names.lookup x=some .free
def Bo (sc:Scope)(x:Str):Prop:=sc.names.lookup x=some .local\/sc.names.lookup x=some .cell
def aju (env:Env)(h:Heap)(m:Str->Option ah)(x:Str)(u:ah):Prop :=
 (env.kindOf x=some .local/\m x=some u)\/((env.kindOf x=some .cell\/env.kindOf x=some .free)/\∃c,env.cells.lookup x=some c/\h.IsCell c (some u))
structure Cx.Ok (X:Cx):Prop where
 iz:FG X.K X.mg X.base
 kind:X.env.scope.kind= .function
 oQ:X.env.globals=mainGlobals
 vI:X.env.builtins=builtinsNs
 above:X.iw.heap.objs.size<=X.env.locals
 inj:∀x y c,X.env.cells.lookup x=some c->X.env.cells.lookup y=some c->x=y
 sV:∀x,(X.env.kindOf x=some .cell\/X.env.kindOf x=some .free)->∃c,X.env.cells.lookup x=some c
 xZ:∀x c,X.fn x=true->X.env.cells.lookup x=some c->X.iw.heap.objs.size<=c
 hd:X.gM=true->X.A.handled=none
 frames:X.A.frames=some X.stack
 Az:X.stack=X.aG\/(X.stack=X.env::X.aG/\X.env.frame=some X.env.locals)
 Bh:∀b∈X.ex,b≠X.env.locals/\∀x c,X.env.cells.lookup x=some c->c≠b
 bs:∀b o,X.base.get? b=some o->X.iw.heap.get? b=some o/\X.H_0 b=none
 pw:X.base.objs.size<=X.iw.heap.objs.size
 w6:∀b o,X.base.get? b=some o->b∉X.ex
 xk:∀b∈X.ex,b∉X.fs
 lY:X.iw.heap.FunFrames X.base X.aG
 sY:∀b∈X.fs,X.H_0 b=none
structure au (X:Cx)(af:List (ae×Obj))(σ:List (Option V))(H:Hp)(s:aw):Prop where
 ok:X.Ok
 os:s.os=X.iw.os
 fJ:AllBare s.gens
 base:Un X.fs X.ex X.H_0 H X.iw.heap s.heap
 iL:∃m,s.heap.Ns X.env.locals m/\∀(i:Nat)(x:Str)(v:V),X.N[i]?=some x->σ[i]?=some (some v)->x3 X.env.scope x->∃u,bF v u/\aju X.env s.heap m x u
 cell:∀x c,X.env.cells.lookup x=some c->∃v,s.heap.IsCell c v
 free:H X.env.locals=none
 j1:∀x c,X.env.cells.lookup x=some c->H c=none
 jM:∀p∈X.pn++af,s.heap.get? p.1=some p.2/\H p.1=none/\p.1≠X.env.locals/\p.1∉X.fs/\∀v,p.2.data≠ .cell v
 aH:dh X.prog X.w H s.heap
 eO:σ.length=X.N.length
section
variable {X:Cx}{af:List (ae×Obj)}{σ:List (Option V)}{H H':Hp}{s:aw}{h':Heap}
def Cx.Ok.aih (ok:X.Ok){b:ae}{o:Obj}(e:X.base.get? b=some o):b∉X.fs:=fun hb=>by have:=(ok.lY.mem hb).1;rw[e]at this;cases this
def au.bs (I:au X af σ H s):∀b o,X.base.get? b=some o->s.heap.get? b=some o/\H b=none:=fun b o e =>⟨I.base.keep b o (I.ok.bs b o e).1 (I.ok.bs b o e).2 (I.ok.aih e) (I.ok.w6 b o e),I.base.free b o (I.ok.bs b o e).1 (I.ok.bs b o e).2 (I.ok.w6 b o e)⟩
def au.bk (I:au X af σ H s):∀b o,X.base.get? b=some o->s.heap.get? b=some o:=fun b o e=>(I.bs b o e).1
def au.iz (I:au X af σ H s):FG X.K X.mg X.base:=I.ok.iz
def au.gw (I:au X af σ H s):X.K.In s.heap:=I.ok.iz.xA.keeps I.bk
def au.lt (I:au X af σ H s):X.env.locals<s.heap.objs.size:=let ⟨_,hn,_⟩:=I.iL;hn.lt
def au.sz (I:au X af σ H s):X.iw.heap.objs.size<=s.heap.objs.size:=b3 I.ok.above (Nat.le_of_lt I.lt)
def au.aif (I:au X af σ H s){a:ae}(h:s.heap.objs.size<=a):a∉X.fs:=fun hb=>by obtain⟨_,o,ho,_⟩:=I.ok.lY.mem hb;exact absurd (fi (bW ho) (b3 I.sz h)) (Nat.lt_irrefl _)
def au.tf (I:au X af σ H s):∀x c,X.env.cells.lookup x=some c->c≠X.env.locals:=fun x c e z=>by obtain⟨v,o,ho,hd⟩:=I.cell x c e;obtain⟨m,⟨o',es,ep,lF,gP,_⟩,_⟩:=I.iL;rw[z,lF]at ho;cases ho;rw[gP]at hd;cases hd
def au.lY (I:au X af σ H s):s.heap.FunFrames X.base X.aG:=by
 have all:∀(l:List Env),(∀b∈kW l,b∈X.fs)->X.iw.heap.FunFrames X.base l->s.heap.FunFrames X.base l:=by
  intro l
  induction l with
  | nil=>intro _ _;trivial
  | cons env r ih =>intro hs hl;obtain⟨hk,⟨L,o,hf,hn,ho,hd⟩,hr⟩:=hl;have hL:L∈X.fs:=hs L (by unfold kW;rw[List.filterMap_cons,hf];exact List.mem_cons_self);obtain⟨sl,e⟩:=I.base.slot L o ho (I.ok.sY L hL) hL fun z=>I.ok.xk L z hL;exact⟨hk,⟨L,_,hf,hn,e,hd⟩,ih (fun b hb=>hs b (by unfold kW;rw[List.filterMap_cons,hf];exact eF _ hb)) hr⟩
 exact all X.aG (fun _ hb=>hb) I.ok.lY
def au.stack (I:au X af σ H s):s.heap.FunFrames X.base X.stack:=by
 rcases I.ok.Az with e|⟨e,hf⟩
 ·rw[e];exact I.lY
 ·rw[e];obtain⟨m,hn,_⟩:=I.iL;apply .cons (by rw[I.ok.kind];decide) hf hn ?_ I.lY;exact Heap.get?_none_of_le (b3 I.ok.pw I.ok.above)
def au.Lq (I:au X af σ H s):∀b∈kW X.stack,b∈X.env.locals::X.fs:=fun b hb=>by
 rcases I.ok.Az with e|⟨e,hf⟩
 ·rw[e]at hb;exact eF _ hb
 ·rw[e]at hb;unfold kW at hb;rw[List.filterMap_cons,hf]at hb;exact hb
def au.Dg (I:au X af σ H s):∀b∈kW X.stack,H b=none:=fun b hb=>by
 rcases dv.mp (I.Lq b hb)with e|hb
 ·rw[e];exact I.free
 ·obtain⟨_,o,ho,_⟩:=I.ok.lY.mem hb;exact I.base.free b o ho (I.ok.sY b hb) fun z=>I.ok.xk b z hb
def au.step {g':Array GenState}{t':Nat}{d':Drawn}{ch:List ae}(I:au X af σ H s)(o8:∀b∈ch,(b∈X.ex\/X.iw.heap.objs.size<=b)/\b≠X.env.locals/\(∀x c,X.env.cells.lookup x=some c->c≠b)/\∀p∈X.pn++af,p.1≠b)(keep:∀b o,b≠X.env.locals->b∉X.fs->b∉ch->s.heap.get? b=some o->H b=none->h'.get? b=some o)(slot:∀b o,b≠X.env.locals->b∈X.fs->b∉ch->s.heap.get? b=some o->H b=none->∃sl,h'.get? b=some {o with slots:=sl})(free:∀b o,b∉ch->s.heap.get? b=some o->H b=none->H' b=none)(there:∀b o,b∉ch->s.heap.get? b=some o->∃o',h'.get? b=some o')(oK:∀b xs,H b=some (.bp xs)->H' b=some (.bp xs))(mH:∀b o u,H b=some (.cK o u)->H' b=some (.cK o u))(oM:∀b ps,H b=some (.r9 ps)->∃more,H' b=some (.r9 (ps++more)))(ns:∀m,s.heap.Ns X.env.locals m->h'.Ns X.env.locals m)(aH:dh X.prog X.w H' h')(hg:AllBare g'):au X af σ H' {s with heap:=h',gens:=g',drawn:=d',toks:=t'}:=by
 have xx:∀b o,X.iw.heap.get? b=some o->b≠X.env.locals:=fun b o e=>d9 (fi (bW e) I.ok.above);have EF:∀b o,X.iw.heap.get? b=some o->b∉X.ex->b∉ch:=fun b o e hx hb=>by
  rcases(o8 b hb).1 with z|z
  ·exact hx z
  ·exact absurd (fi (bW e) z) (Nat.lt_irrefl _)
 have cellK:∀x c,X.env.cells.lookup x=some c->∀v,s.heap.IsCell c v->h'.IsCell c v:=fun x c e v ⟨o,ho,hd⟩=>by
  have AF:c∉ch:=fun z=>(o8 c z).2.2.1 x c e rfl;by_cases hc:c∈X.fs
  ·obtain⟨sl,q⟩:=slot c o (I.tf x c e) hc AF ho (I.j1 x c e);exact⟨_,q,hd⟩
  ·exact⟨o,keep c o (I.tf x c e) hc AF ho (I.j1 x c e),hd⟩
 apply⟨I.ok,I.os,hg,⟨fun b o e n hb hx=>?_,fun b o e n hb hx=>?_,fun b o e n hx=>?_,fun b o e hx=>?_,fun b xs e=>oK b xs (I.base.oK b xs e),fun b o xs e=>mH b o xs (I.base.mH b o xs e),fun b ps e=>?_⟩,?_,fun x c e=>?_,?_,fun x c e=>?_,fun p hp=>?_,aH,I.eO⟩
 ·exact keep b o (xx b o e) hb (EF b o e hx) (I.base.keep b o e n hb hx) (I.base.free b o e n hx)
 ·obtain⟨sl,e1⟩:=I.base.slot b o e n hb hx;obtain⟨sl',e2⟩:=slot b _ (xx b o e) hb (EF b o e hx) e1 (I.base.free b o e n hx);exact⟨sl',e2⟩
 ·obtain⟨o',e1⟩:=I.base.there b o e hx;exact free b o' (EF b o e hx) e1 (I.base.free b o e n hx)
 ·obtain⟨o',e1⟩:=I.base.there b o e hx;exact there b o' (EF b o e hx) e1
 ·obtain⟨m1,e1⟩:=I.base.oM b ps e;obtain⟨m2,e2⟩:=oM b _ e1;exact⟨m1++m2,by rw[e2,Array.append_assoc]⟩
 ·obtain⟨m,hn,hl⟩:=I.iL;apply⟨m,ns m hn,fun i x v e1 e2 e3=>?_⟩;obtain⟨u,r,l⟩:=hl i x v e1 e2 e3;apply⟨u,r,?_⟩;rcases l with l|⟨k,c,e,z⟩
  ·exact .inl l
  ·exact .inr ⟨k,c,e,cellK x c e _ z⟩
 ·obtain⟨v,z⟩:=I.cell x c e;exact⟨v,cellK x c e v z⟩
 ·obtain⟨m,⟨o,_,_,ho,_⟩,_⟩:=I.iL;exact free _ o (fun z=>(o8 _ z).2.1 rfl) ho I.free
 ·obtain⟨v,o,ho,hd⟩:=I.cell x c e;exact free c o (fun z=>(o8 c z).2.2.1 x c e rfl) ho (I.j1 x c e)
 ·obtain⟨e,n,ne,nf,d⟩:=I.jM p hp;have AF:p.1∉ch:=fun z=>(o8 p.1 z).2.2.2 p hp rfl;exact⟨keep p.1 p.2 ne nf AF e n,free p.1 p.2 AF e n,ne,nf,d⟩
def au.un {t':Nat}(I:au X af σ H s)(u:Un X.fs [] H H' s.heap h')(aH:dh X.prog X.w H' h'):au X af σ H' {s with heap:=h',toks:=t'}:=by
 obtain⟨m,⟨o,es,ep,ho,r⟩,_⟩:=id I.iL;obtain⟨sl,hL⟩:=u.any ho I.free (by simp);exact I.step (g':=s.gens) (d':=s.drawn) (ch:=[]) (fun _ z=>nomatch z) (fun b o _ hb _ e n=>u.keep b o e n hb (by simp)) (fun b o _ hb _ e n=>u.slot b o e n hb (by simp)) (fun b o _ e n=>u.free b o e n (by simp)) (fun b o _ e=>u.there b o e (by simp)) u.oK u.mH u.oM (fun m' hm=>by obtain⟨o',ph,pk,lF,r'⟩:=hm;rw[ho]at lF;cases lF;exact⟨_,ph,pk,hL,r'⟩) aH I.fJ
def au.call {g':Array GenState}{t':Nat}{d':Drawn}{ch:List ae}(I:au X af σ H s)(u:Un (kW X.stack) ch H H' s.heap h')(aH:dh X.prog X.w H' h')(hg:AllBare g')(o8:∀b∈ch,(b∈X.ex\/X.iw.heap.objs.size<=b)/\b≠X.env.locals/\(∀x c,X.env.cells.lookup x=some c->c≠b)/\∀p∈X.pn++af,p.1≠b):au X af σ H' {s with heap:=h',gens:=g',drawn:=d',toks:=t'}:=by
 obtain⟨m,⟨o,es,ep,ho,r⟩,_⟩:=id I.iL;obtain⟨sl,hL⟩:=u.any ho I.free fun z=>(o8 _ z).2.1 rfl;exact I.step (ch:=ch) o8 (fun b o hL hb hc e n=>u.keep b o e n (fun z=>(dv.mp (I.Lq b z)).elim hL hb) hc) (fun b o _ _ hc e n=>u.any e n hc) (fun b o hc e n=>u.free b o e n hc) (fun b o hc e=>u.there b o e hc) u.oK u.mH u.oM (fun m' hm=>by obtain⟨o',ph,pk,lF,r'⟩:=hm;rw[ho]at lF;cases lF;exact⟨_,ph,pk,hL,r'⟩) aH hg
def au.iU {t':Nat}{it:ae}(I:au X af σ H s)(k:∀b o,b≠it->s.heap.get? b=some o->h'.get? b=some o)(hn:H it=none)(hL:it≠X.env.locals)(h1:it∈X.ex\/X.iw.heap.objs.size<=it)(h2:∀x c,X.env.cells.lookup x=some c->c≠it)(h3:∀p∈X.pn++af,p.1≠it):au X af σ H {s with heap:=h',toks:=t'}:=by
 have si:∀b u,H b=some u->b≠it:=fun b u e z=>by rw[z,hn]at e;cases e
 apply I.step (g':=s.gens) (d':=s.drawn) (ch:=[it]) (fun b hb=>?_) (fun b o _ _ hc e _=>k b o (fun z=>hc (by simp[z])) e) (fun b o _ _ hc e _=>⟨o.slots,k b o (fun z=>hc (by simp[z])) e⟩) (fun _ _ _ _ n=>n)
  (fun b o hc e=>⟨o,k b o (fun z=>hc (by simp[z])) e⟩) (fun _ _ e=>e) (fun _ _ _ e=>e) (fun b ps e=>⟨#[],by rw[e];simp⟩) (fun m hm=>?_) (fun b u e=>?_) I.fJ
 ·have e:b=it:=by simpa using hb
  subst e;exact⟨h1,hL,h2,h3⟩
 ·obtain⟨o,es,ep,ho,r⟩:=hm;exact⟨o,es,ep,k _ o (Ne.symm hL) ho,r⟩
 ·refine(I.aH b u e).fS (fun c v hc q=>k c v ?_ q) (fun _ q=>q) fun _ _ q=>q;rcases hc with z|z
  ·rw[z];exact si b u e
  ·exact si c _ z
def au.dY (I:au X af σ H s)(t:Nat):au X af σ H {s with toks:=t}:=I.un (h':=s.heap) (t':=t) Un.refl I.aH
def au.fI {t':Nat}(I:au X af σ H s)(k:∀b u,s.heap.get? b=some u->h'.get? b=some u):au X af σ H {s with heap:=h',toks:=t'}:=I.un (Un.fI k) (I.aH.fI k)
def au.lg {a:ae}{o:HO}{t':Nat}(I:au X af σ H s)(k:∀b u,s.heap.get? b=some u->h'.get? b=some u)(hp:s.heap.objs.size<=a)(new:eK X.prog X.w (ay H a o) h' a o):au X af σ (ay H a o) {s with heap:=h',toks:=t'}:=I.un (Un.lg k hp (I.aH.fresh hp)) (I.aH.lg k hp new)
def au.pZ {x e:ae}{o:HO}{t':Nat}(I:au X af σ H s)(mu:qy (H x))(he:e=x\/H e=some (.bO x))(k:∀b u,b≠e->s.heap.get? b=some u->h'.get? b=some u)(xQ:∃u,h'.get? e=some u)(new:eK X.prog X.w (ay H x o) h' x o):au X af σ (ay H x o) {s with heap:=h',toks:=t'}:=I.un (Un.pZ mu he k xQ) (I.aH.pZ mu he k xQ new)
def au.DX {aK:List (Option V)}(I:au X af σ H s)(hl:aK.length=σ.length)(w:∀(i:Nat)v,aK[i]?=some (some v)->σ[i]?=some (some v)):au X af aK H s :=
 ⟨I.ok,I.os,I.fJ,I.base,let ⟨m,hn,NG⟩:=I.iL;⟨m,hn,fun i x v e1 e2 e3=>NG i x v e1 (w i v e2) e3⟩,I.cell,I.free,I.j1,I.jM,I.aH,hl.trans I.eO⟩
def au.Vi {p6:List (ae×Obj)}(I:au X af σ H s)(h:∀p∈p6,s.heap.get? p.1=some p.2/\H p.1=none/\p.1≠X.env.locals/\p.1∉X.fs/\∀v,p.2.data≠ .cell v):au X p6 σ H s :=
 ⟨I.ok,I.os,I.fJ,I.base,I.iL,I.cell,I.free,I.j1,fun p hp=>(eQ.mp hp).elim (fun z=>I.jM p (List.mem_append_left _ z)) (h p),I.aH,I.eO⟩
def C1 {N:List Str}(hN:N.Nodup){i j:Nat}{x:Str}(a:N[i]?=some x)(b:N[j]?=some x):i=j:=by obtain⟨h1,e1⟩:=fD.mp a;obtain⟨h2,e2⟩:=fD.mp b;exact(List.getElem_inj hN).mp (e1.trans e2.symm)
def S3 {M:Model}{A:Around}{E:ah->aw->Prop}{i:Nat}{x:Str}{v:V}{u:ah}{Q:Unit->aw->Prop}(I:au X af σ H s)(hN:X.N.Nodup)(hi:X.N[i]?=some x)(hx:Bo X.env.scope x)(r:bF v u)(h:∀s',au X af (σ.set i (some v)) H s'->(∃a,Heap.SameBut a s.heap s'.heap/\(a=X.env.locals\/X.env.cells.lookup x=some a))->Q () s')(hf:X.fn x=true\/X.env.scope.names.lookup x=some .local:=by first|exact .inl rfl|exact .inr rfl|assumption):wpAny M A (storeName X.env x u) Q E s:=by
 obtain⟨m,hn,hl⟩:=id I.iL;have ai4:(X.env.scope.kind== .class||(X.env.scope.kind== .module&&X.env.locals !=X.env.globals))=false:=by rw[I.ok.kind];rfl
 have WV:i<σ.length:=by rw[I.eO];exact(fD.mp hi).1
 have tf:=I.tf;have tracked:∀{a:ae}{h':Heap},(∃o,s.heap.get? a=some o/\H a=none)->Heap.SameBut a s.heap h'->dh X.prog X.w H h':=fun{a h'}ha hs b ob e=>by
  obtain⟨_,_,rK⟩:=ha;refine(I.aH b ob e).fS (fun c w' hc q=>(hs.2 c ?_).trans q) (fun _ q=>q) fun _ _ q=>q;rintro rfl;rcases hc with rfl|hc
  ·rw[rK]at e;cases e
  ·rw[rK]at hc;cases hc
 rcases hx with hk|hk
 ·apply wpAny_storeName_local hk hn (fun h' xM hs=>?_) ai4;obtain⟨oL,_,_,AV,_⟩:=id hn;apply h _ ⟨I.ok,I.os,I.fJ,⟨fun b o e n hb hx=>?_,fun b o e n hb hx=>?_,I.base.free,fun b o e hx=>?_,I.base.oK,I.base.mH,I.base.oM⟩,⟨_,xM,fun j y v' e1 e2 e3=>?_⟩,fun y c e=>?_,I.free,I.j1,fun p hp=>?_,tracked ⟨oL,AV,I.free⟩ hs,by simpa using I.eO⟩ ⟨_,hs,.inl rfl⟩
  ·exact(hs.2 b (d9 (fi (bW e) I.ok.above))).trans (I.base.keep b o e n hb hx)
  ·obtain⟨sl,e1⟩:=I.base.slot b o e n hb hx;exact⟨sl,(hs.2 b (d9 (fi (bW e) I.ok.above))).trans e1⟩
  ·obtain⟨o',e1⟩:=I.base.there b o e hx;exact⟨o',(hs.2 b (d9 (fi (bW e) I.ok.above))).trans e1⟩
  ·by_cases hj:j=i
   ·subst hj;rw[hi]at e1;cases e1;rw[List.getElem?_set_self WV]at e2;cases e2;exact⟨u,r,.inl ⟨hk,by simp⟩⟩
   ·rw[List.getElem?_set_ne (Ne.symm hj)]at e2;obtain⟨u',r',q⟩:=hl j y v' e1 e2 e3;apply⟨u',r',?_⟩;rcases q with⟨k,e⟩|⟨k,c,e,z⟩
    ·apply .inl ⟨k,?_⟩;have:y≠x:=fun e=>hj (C1 hN e1 (e▸hi));simp[this,e]
    ·exact .inr ⟨k,c,e,z.sameBut hs (tf y c e)⟩
  ·obtain⟨w',z⟩:=I.cell y c e;exact⟨w',z.sameBut hs (tf y c e)⟩
  ·obtain⟨e,n,ne,nf,d⟩:=I.jM p hp;exact⟨(hs.2 p.1 ne).trans e,n,ne,nf,d⟩
 ·have NJ:X.fn x=true:=by
   rcases hf with z|z
   ·exact z
   ·rw[z]at hk;cases hk
  obtain⟨c,hc⟩:=I.ok.sV x (.inl hk);obtain⟨w',z⟩:=I.cell x c hc;apply wpAny_storeName_cell I.ok.kind hk hc z (fun h' l8 hs=>?_);obtain⟨oc,AS,aiJ⟩:=id z;apply h {s with heap:=h'} ⟨I.ok,I.os,I.fJ,⟨fun b o e n hb hx=>?_,fun b o e n hb hx=>?_,I.base.free,fun b o e hx=>?_,I.base.oK,I.base.mH,I.base.oM⟩,⟨m,hn.sameBut hs (Ne.symm (tf x c hc)),fun j y v' e1 e2 e3=>?_⟩,fun y c' e=>?_,I.free,I.j1,fun p hp=>?_,tracked ⟨oc,AS,I.j1 x c hc⟩ hs,by simpa using I.eO⟩ ⟨c,hs,.inr hc⟩
  ·exact(hs.2 b (d9 (fi (bW e) (I.ok.xZ x c NJ hc)))).trans (I.base.keep b o e n hb hx)
  ·obtain⟨sl,e1⟩:=I.base.slot b o e n hb hx;exact⟨sl,(hs.2 b (d9 (fi (bW e) (I.ok.xZ x c NJ hc)))).trans e1⟩
  ·obtain⟨o',e1⟩:=I.base.there b o e hx;exact⟨o',(hs.2 b (d9 (fi (bW e) (I.ok.xZ x c NJ hc)))).trans e1⟩
  ·by_cases hj:j=i
   ·subst hj;rw[hi]at e1;cases e1;rw[List.getElem?_set_self WV]at e2;cases e2;exact⟨u,r,.inr ⟨.inl hk,c,hc,l8⟩⟩
   ·rw[List.getElem?_set_ne (Ne.symm hj)]at e2;obtain⟨u',r',q⟩:=hl j y v' e1 e2 e3;apply⟨u',r',?_⟩;rcases q with q|⟨k,c',e,z'⟩
    ·exact .inl q
    ·apply .inr ⟨k,c',e,z'.sameBut hs ?_⟩;rintro rfl;exact hj (C1 hN e1 (I.ok.inj _ _ _ e hc▸hi))
  ·by_cases Fd:c'=c
   ·subst Fd;exact⟨_,l8⟩
   ·obtain⟨w2,z2⟩:=I.cell y c' e;exact⟨w2,z2.sameBut hs Fd⟩
  ·obtain⟨e,n,ne,nf,d⟩:=I.jM p hp;apply⟨(hs.2 p.1 ?_).trans e,n,ne,nf,d⟩;intro q;rw[q,AS]at e;have q':oc=p.2:=d3 e;exact d w' (by rw[<-q'];exact aiJ)
def CU {M:Model}{A:Around}{E:ah->aw->Prop}{i:Nat}{x:Str}{v:V}{u:ah}{Q:Unit->aw->Prop}(I:au X af σ H s)(hN:X.N.Nodup)(hi:X.N[i]?=some x)(hx:Bo X.env.scope x)(r:bF v u)(h:∀s',au X af (σ.set i (some v)) H s'->Q () s')(hf:X.fn x=true\/X.env.scope.names.lookup x=some .local:=by first|exact .inl rfl|exact .inr rfl|assumption):wpAny M A (storeName X.env x u) Q E s :=
 S3 I hN hi hx r (fun s' I' _=>h s' I') hf
def au.L4 {s':aw}{ch:List ae}(I:au X af σ H s)(ho:s'.os=s.os)(u:Un (kW X.stack) ch H H' s.heap s'.heap)(aH:dh X.prog X.w H' s'.heap)(hg:AllBare s'.gens)(o8:∀b∈ch,(b∈X.ex\/X.iw.heap.objs.size<=b)/\b≠X.env.locals/\(∀x c,X.env.cells.lookup x=some c->c≠b)/\∀p∈X.pn++af,p.1≠b):au X af σ H' s':=by obtain⟨h',g',d',t',o'⟩:=s';have e:o'=s.os:=ho;subst e;exact I.call (g':=g') (t':=t') (d':=d') u aH hg o8
end
abbrev XK:=ah->Option ae->Hp->Prop
abbrev St:=List (Option V)
abbrev VK:=V->Hp->Prop
abbrev TE:=St->Hp->VK->Prop
abbrev TT:=St->Hp->(Bool->Hp->Prop)->Prop
abbrev TA:=St->Hp->(List V->Hp->Prop)->Prop
structure gc where
 nx:St->Hp->Prop
 rt:VK
 bk:St->Hp->Prop:=fun _ _=>False
 ct:St->Hp->Prop:=fun _ _=>False
abbrev TS:=gc->St->Hp->Prop
def EP (X:Cx)(af:List (ae×Obj))(σ:St)(Q:VK)(u:ah)(s':aw):Prop:=∃v H',au X af σ H' s'/\bF v u/\Q v H'
def TP (X:Cx)(af:List (ae×Obj))(σ:St)(Q:Bool->Hp->Prop)(b:Bool)(s':aw):Prop:=∃H',au X af σ H' s'/\Q b H'
def AP (X:Cx)(af:List (ae×Obj))(σ:St)(Q:List V->Hp->Prop)(us:List ah)(s':aw):Prop:=∃vs H',au X af σ H' s'/\be vs us/\Q vs H'
def SP (X:Cx)(af:List (ae×Obj))(D:gc)(f:Flow)(s':aw):Prop :=
 match f with
 | .next=>∃aK H',au X af aK H' s'/\D.nx aK H'
 | .brk=>∃aK H',au X af aK H' s'/\D.bk aK H'
 | .cont=>∃aK H',au X af aK H' s'/\D.ct aK H'
 | .ret u=>∃v aK H',au X af aK H' s'/\bF v u/\D.rt v H'
def PE (X:Cx)(e:Expr)(t:TE):Prop :=
 ∀(af:List (ae×Obj))(s:aw)(σ:St)(H:Hp)(Q:VK),au X af σ H s->t σ H Q->wpAny (model X.prog X.w) X.A (eval e X.env) (EP X af σ Q) X.xe s
def PT (X:Cx)(e:Expr)(t:TT):Prop :=
 ∀(af:List (ae×Obj))(s:aw)(σ:St)(H:Hp)(Q:Bool->Hp->Prop),au X af σ H s->t σ H Q->wpAny (model X.prog X.w) X.A (isTrue e X.env (eval e X.env)) (TP X af σ Q) X.xe s
def PW (X:Cx)(e:Expr)(t:TT):Prop :=
 ∀(whole:Sem ah)(af:List (ae×Obj))(s:aw)(σ:St)(H:Hp)(Q:Bool->Hp->Prop),au X af σ H s->t σ H Q->wpAny (model X.prog X.w) X.A (isTrue e X.env whole) (TP X af σ Q) X.xe s
def PW.pt {X:Cx}{e:Expr}{t:TT}(h:PW X e t):PT X e t:=h _
def PA (X:Cx)(es:List Expr)(t:TA):Prop :=
 ∀(pos:Pos)(af:List (ae×Obj))(s:aw)(σ:St)(H:Hp)(Q:List V->Hp->Prop),au X af σ H s->t σ H Q->wpAny (model X.prog X.w) X.A (spliced (backTo pos (starEach es X.env))) (AP X af σ Q) X.xe s
def PS (X:Cx)(st:Stmt)(t:TS):Prop :=
 ∀(af:List (ae×Obj))(s:aw)(σ:St)(H:Hp)(D:gc),au X af σ H s->t D σ H->wpAny (model X.prog X.w) X.A (exec st X.env) (SP X af D) X.xe s
def jW (X:Cx)(st:List Stmt)(t:TS):Prop :=
 ∀(af:List (ae×Obj))(s:aw)(σ:St)(H:Hp)(D:gc),au X af σ H s->t D σ H->wpAny (model X.prog X.w) X.A (execs st X.env) (SP X af D) X.xe s
def aS {α:Type}{t:Sem α}{Q Q':α->aw->Prop}{M:Model}{A:Around}{E:ah->aw->Prop}{s:aw}(h:wpAny M A t Q E s)(hQ:∀a s,Q a s->Q' a s):wpAny M A t Q' E s:=wpAny_mono h hQ fun _ _ x=>x
section
variable {X:Cx}
def Wn (i:Nat):TE:=fun σ H Q=>∃v,σ[i]?=some (some v)/\Q v H
def tC (v:V):TE:=fun _ H Q=>Q v H
def agk {i:Nat}{x:Str}{pos:Pos}(hN:X.N[i]?=some x)(hv:x3 X.env.scope x)(hd:(x==("__debug__":Str))=false:=by decide)(jy:(x==("__classdict__":Str))=false:=by decide):PE X (.Name x pos) (Wn i):=by
 intro af s σ H Q I h;obtain⟨v,e,h⟩:=h;obtain⟨m,hn,hl⟩:=I.iL;obtain⟨u,r,l⟩:=hl i x v hN e hv;have fin:EP X af σ Q u s:=⟨v,H,I,r,h⟩;rcases l with⟨hk,hm⟩|⟨hk,c,hc,DQ⟩
 ·exact wpAny_Name (wpAny_loadName_local I.ok.kind hk hn hm fin) hd
 ·rcases hk with hk|hk
  ·exact wpAny_Name (wpAny_loadName_cell I.ok.kind hk hc DQ fin) hd
  ·exact wpAny_Name (wpAny_loadName_free I.ok.kind hk hc DQ fin jy) hd
def bQ {i j pos}:PE X (.Constant (.int i) j pos) (tC (.int i)):=fun _ _ _ H _ I h=>wpAny_Constant_int ⟨.int i,H,I.dY _,⟨_,rfl⟩,h⟩
def rq {b j pos}:PE X (.Constant (.bool b) j pos) (tC (.bl b)):=fun _ _ _ H _ I h=>Constant_bool ⟨.bl b,H,I,rfl,h⟩
def rk {j pos}:PE X (.Constant .none j pos) (tC .bx):=fun _ _ _ H _ I h=>Constant_none ⟨.bx,H,I,rfl,h⟩
def zQ {x j pos}:PE X (.Constant (.str x) j pos) (tC (.str x)):=fun _ _ _ H _ I h=>Calls.Constant_str ⟨.str x,H,I.dY _,⟨_,rfl⟩,h⟩
def Gl (X:Cx)(x:Str):Prop:=X.env.kindOf x=some .globalImplicit
def qX {E:ah->aw->Prop}{af:List (ae×Obj)}{s:aw}{σ:St}{H:Hp}{x:Str}{u:ah}{pos:Pos}{Q:ah->aw->Prop}(I:au X af σ H s)(hg:Gl X x)(hm:X.mg x=some u)(h:Q u s)(hd:(x==("__debug__":Str))=false:=by decide):wpAny (model X.prog X.w) X.A (eval (.Name x pos) X.env) Q E s :=
 Calls.Name_function_global I.ok.kind hg (Calls.loadGlobal_global (by rw[I.ok.oQ];exact I.iz.oQ.keeps I.bk) hm h) hd
def oA {E:ah->aw->Prop}{af:List (ae×Obj)}{s:aw}{σ:St}{H:Hp}{x:Str}{u:ah}{pos:Pos}{Q:ah->aw->Prop}(I:au X af σ H s)(hg:Gl X x)(hm:X.mg x=none)(hv:bootBuiltins x=some u)(h:Q u s)(hn:x≠"__name__":=by decide)(hd:(x==("__debug__":Str))=false:=by decide):wpAny (model X.prog X.w) X.A (eval (.Name x pos) X.env) Q E s:=by obtain⟨mb,h1,h2⟩:=I.iz.vI;exact Calls.Name_function_global I.ok.kind hg (Calls.loadGlobal_builtin (by rw[I.ok.oQ];exact I.iz.oQ.keeps I.bk) hm (by rw[I.ok.vI];exact h1.keeps I.bk) ((h2 x hn).trans hv) h) hd
def bh {x:Str}{v:V}{u:ah}{pos:Pos}(hg:Gl X x)(hm:X.mg x=some u)(r:bF v u)(hd:(x==("__debug__":Str))=false:=by decide):PE X (.Name x pos) (tC v) :=
 fun _ _ _ H _ I h=>qX I hg hm ⟨v,H,I,r,h⟩ hd
variable {a b:Expr}{ta tb:TE}{pos:Pos}
def PC (X:Cx)(op:CmpOp)(a b:Expr)(t:TE):Prop :=
 ∀(af:List (ae×Obj))(s:aw)(σ:St)(H:Hp)(Q:VK),au X af σ H s->t σ H Q ->
  wpAny (model X.prog X.w) X.A (eval a X.env) (fun v cf=>wpAny (model X.prog X.w) X.A (eval b X.env) (fun u gD=>wpAny (model X.prog X.w) X.A (compareOp op v u) (EP X af σ Q) X.xe gD) X.xe cf) X.xe s
def tB (t:TE):TT:=fun σ H Q=>t σ H fun x H1=>∃c,x= .bl c/\Q c H1
def Dy {op:CmpOp}{t:TE}(h:PC X op a b t)(h1:behindInMarks op b=false:=by first|exact ajv _ (by decide) (by decide)|rfl):PT X (.Compare a [op] [b] pos) (tB t):=by intro af s σ H Q I hw;apply wpAny_isTrue_Compare1 (aS (h af s σ H _ I hw) fun v s1 h1=>aS h1 fun u s2 h2=>aS h2 fun c s3=>?_) h1;rintro⟨x,H1,I1,r1,q1⟩;obtain⟨d,rfl,q⟩:=q1;cases r1;exact wpAny_truthy_bool ⟨H1,I1,q⟩
def gm {e:Expr}{t:TE}(h:PE X e t)(he:∀whole,isTrue e X.env whole=(do let v<-whole;standAt e.pos;holding [v] (truthy v)):=by intro _;rfl):PT X e (tB t):=by intro af s σ H Q I hw;apply isTrue_plain (aS (h af s σ H _ I hw) fun v s1=>?_) (he _);rintro⟨x,H1,I1,r1,q1⟩;obtain⟨d,rfl,q⟩:=q1;cases r1;exact wpAny_truthy_bool ⟨H1,I1,q⟩
variable {tA Er:TT}{b7:List Expr}
def ahV (t u:TT):TT:=fun σ H Q=>t σ H fun c H1=>if c=true then u σ H1 Q else Q false H1
def tOr (t u:TT):TT:=fun σ H Q=>t σ H fun c H1=>if c=true then Q true H1 else u σ H1 Q
def ahP (t:TT):TT:=fun σ H Q=>t σ H fun c H1=>Q (!c) H1
def zH (ha:PT X a tA):PW X (.BoolOp .And [a] pos) tA:=by
 intro wh af s σ H Q I h;apply isTrue_and (aS (ha af s σ H Q I h) fun c s1 e=>?_);cases c with
 | true=>exact isTrue_and_nil e
 | false=>exact e
def Lu (ha:PT X a tA):PW X (.BoolOp .Or [a] pos) tA:=by
 intro wh af s σ H Q I h;apply isTrue_or (aS (ha af s σ H Q I h) fun c s1 e=>?_);cases c with
 | false=>exact isTrue_or_nil e
 | true=>exact e
def wC (ha:PT X a tA)(hb:PW X (.BoolOp .And (b::b7) pos) Er):PW X (.BoolOp .And (a::b::b7) pos) (ahV tA Er):=by
 intro wh af s σ H Q I h;apply isTrue_and (aS (ha af s σ H _ I h) fun c s1=>?_);rintro⟨H1,I1,q1⟩;cases c with
 | true=>exact hb wh af s1 σ H1 Q I1 q1
 | false=>exact⟨H1,I1,q1⟩
def LQ (ha:PT X a tA)(hb:PW X (.BoolOp .Or (b::b7) pos) Er):PW X (.BoolOp .Or (a::b::b7) pos) (tOr tA Er):=by
 intro wh af s σ H Q I h;apply isTrue_or (aS (ha af s σ H _ I h) fun c s1=>?_);rintro⟨H1,I1,q1⟩;cases c with
 | true=>exact⟨H1,I1,q1⟩
 | false=>exact hb wh af s1 σ H1 Q I1 q1
def lV (ha:PT X a tA):PT X (.UnaryOp .Not a pos) (ahP tA):=by intro af s σ H Q I h;exact isTrue_not (ha af s σ H (fun c H1=>Q (!c) H1) I h)
def V8 (ta tb:TE):TE:=fun σ H Q=>ta σ H fun x H1=>∃c,x= .bl c/\if c=true then tb σ H1 Q else Q (.bl false) H1
def Wo (ta tb:TE):TE:=fun σ H Q=>ta σ H fun x H1=>∃c,x= .bl c/\if c=true then Q (.bl true) H1 else tb σ H1 Q
def V4 (ta:TE):TE:=fun σ H Q=>ta σ H fun x H1=>∃c,x= .bl c/\Q (.bl (!c)) H1
def kx {op}{t:TE}(h:PE X a t):PE X (.BoolOp op [a] pos) t:=fun af s σ H Q I hw=>BoolOp_one (h af s σ H Q I hw)
def lW (ha:PE X a ta)(hb:PE X (.BoolOp .And (b::b7) pos) tb):PE X (.BoolOp .And (a::b::b7) pos) (V8 ta tb):=by
 intro af s σ H Q I h;apply BoolOp_and (aS (ha af s σ H _ I h) fun v s1=>?_);rintro⟨x,H1,I1,r1,q1⟩;obtain⟨c,rfl,q1⟩:=q1;cases r1;apply wpAny_truthy_bool ?_;cases c with
 | true=>exact hb af s1 σ H1 Q I1 q1
 | false=>exact⟨.bl false,H1,I1,rfl,q1⟩
def LR (ha:PE X a ta)(hb:PE X (.BoolOp .Or (b::b7) pos) tb):PE X (.BoolOp .Or (a::b::b7) pos) (Wo ta tb):=by
 intro af s σ H Q I h;apply BoolOp_or (aS (ha af s σ H _ I h) fun v s1=>?_);rintro⟨x,H1,I1,r1,q1⟩;obtain⟨c,rfl,q1⟩:=q1;cases r1;apply wpAny_truthy_bool ?_;cases c with
 | false=>exact hb af s1 σ H1 Q I1 q1
 | true=>exact⟨.bl true,H1,I1,rfl,q1⟩
def DA (ha:PE X a ta):PE X (.UnaryOp .Not a pos) (V4 ta):=by intro af s σ H Q I h;apply UnaryOp_ (aS (ha af s σ H _ I h) fun v s1=>?_);rintro⟨x,H1,I1,r1,q1⟩;obtain⟨c,rfl,q1⟩:=q1;cases r1;exact not_of (wpAny_truthy_bool ⟨.bl (!c),H1,I1,rfl,q1⟩)
def tIf (t:TT)(ta tb:TE):TE:=fun σ H Q=>t σ H fun c H1=>if c=true then ta σ H1 Q else tb σ H1 Q
def zD {c:Expr}(hc:PT X c tA)(ha:PE X a ta)(hb:PE X b tb):PE X (.IfExp c a b pos) (tIf tA ta tb):=by
 intro af s σ H Q I h;apply wpAny_IfExp (aS (hc af s σ H _ I h) fun d s1=>?_);rintro⟨H1,I1,q1⟩;cases d with
 | true=>exact ha af s1 σ H1 Q I1 q1
 | false=>exact hb af s1 σ H1 Q I1 q1
end
def aA (K:aI)(H:Hp)(a:ae)(xs:List V):Prop :=
 Rd H a (.ak xs) \/
  ∃(o:Obj)(its:Array ah)(n:Nat),K.lookup a=some o/\o.cls= .type "list"/\o.dict=none/\o.data= .seq its n/\its.size<=sizeLine/\be xs its.toList
def cS (K:aI)(H:Hp)(a:ae)(xs:List V):Prop :=
 Rd H a (.bp xs) \/
  ∃(o:Obj)(its:Array ah)(n:Nat),K.lookup a=some o/\o.cls= .type "tuple"/\o.data= .seq its n/\its.size<=sizeLine/\be xs its.toList
noncomputable def ajq:ah->Option V
 | .none=>some .bx
 | .bool b=>some (.bl b)
 | .int i _=>some (.int i)
 | .str x _=>some (.str x)
 | .bytes b _=>some (.hJ b)
 | .float b _=>some (.Fy b)
 | .ref a=>some (.ref a)
 | .type n=>some (.ty n)
 | _=>none
def bF.abs {x:V}{u:ah}(r:bF x u):ajq u=some x:=by
 cases x with
 | bx=>cases r;rfl
 | bl _=>cases r;rfl
 | int _=>obtain⟨t,rfl⟩:=r;rfl
 | str _=>obtain⟨t,rfl⟩:=r;rfl
 | hJ _=>obtain⟨t,rfl⟩:=r;rfl
 | Fy _=>obtain⟨t,rfl⟩:=r;rfl
 | ref _=>cases r;rfl
 | ty _=>cases r;rfl
def bF.inj {x y:V}{u:ah}(r:bF x u)(q:bF y u):x=y:=d3 (r.abs.symm.trans q.abs)
theorem be.inj:∀{xs ys:List V}{us:List ah},be xs us->be ys us->xs=ys
 | _,_,_,.nil,.nil=>rfl
 | _,_,_,.cons r t,.cons r' t'=>by rw[r.inj r',be.inj t t']
section
variable {X:Cx}{af:List (ae×Obj)}{σ:St}{H:Hp}{s:aw}{a:ae}{xs ys:List V}
def aA.of {K:aI}(h:H a=some (.ak xs)):aA K H a xs:=.inl (.inl h)
def cS.of {K:aI}(h:H a=some (.bp xs)):cS K H a xs:=.inl (.inl h)
def au.list (I:au X af σ H s)(h:aA X.K H a xs):∃its:List ah,be xs its/\PlainL s.heap a its.toArray/\xs.length<=sizeLine:=by
 rcases h with h|⟨o,its,n,hk,hc,hd,hs,hz,r⟩
 ·obtain⟨z,its,n,r,e⟩:=h.ok I.aH;exact⟨its,r,⟨_,n,e,rfl,rfl,rfl⟩,z⟩
 ·apply⟨its.toList,r,⟨o,n,I.gw a o hk,hc,hd,by simpa using hs⟩,?_⟩;have e:=r.length;simp only[Array.length_toList]at e;omega
def au.tuple (I:au X af σ H s)(h:cS X.K H a xs):∃its:List ah,be xs its/\IsTup s.heap a its.toArray/\xs.length<=sizeLine:=by
 rcases h with h|⟨o,its,n,hk,hc,hs,hz,r⟩
 ·obtain⟨z,its,r,p⟩:=h.ok I.aH;exact⟨its,r,p,z⟩
 ·apply⟨its.toList,r,⟨o,I.gw a o hk,hc,n,by simpa using hs⟩,?_⟩;have e:=r.length;simp only[Array.length_toList]at e;omega
def au.zE (I:au X af σ H s)(h:aA X.K H a xs)(h':aA X.K H a ys):xs=ys:=by
 obtain⟨its,r,⟨o,n,e,_,_,d⟩,_⟩:=I.list h;obtain⟨its',r',⟨o',n',e',_,_,d'⟩,_⟩:=I.list h';rw[e]at e';cases e';rw[d]at d';injection d' with d1 _;have:its=its':=by simpa using congrArg Array.toList d1
 subst this;exact r.inj r'
def au.ab4 (I:au X af σ H s)(h:cS X.K H a xs)(h':cS X.K H a ys):xs=ys:=by
 obtain⟨its,r,⟨o,e,_,n,d⟩,_⟩:=I.tuple h;obtain⟨its',r',⟨o',e',_,n',d'⟩,_⟩:=I.tuple h';rw[e]at e';cases e';rw[d]at d';injection d' with d1 _;have:its=its':=by simpa using congrArg Array.toList d1
 subst this;exact r.inj r'
end
abbrev Cx.oH (X:Cx)(E:ah->aw->Prop):Cx:={X with xe:=E}
abbrev Cx.ED (X:Cx):Cx:=X.oH fun _ _=>False
def Cx.Ok.oH {X:Cx}(ok:X.Ok)(E:ah->aw->Prop):(X.oH E).Ok :=
 ⟨ok.iz,ok.kind,ok.oQ,ok.vI,ok.above,ok.inj,ok.sV,ok.xZ,ok.hd,ok.frames,ok.Az,ok.Bh,ok.bs,ok.pw,ok.w6,ok.xk,ok.lY,ok.sY⟩
def Cx.Ok.rg {X:Cx}{E:ah->aw->Prop}(ok:(X.oH E).Ok):X.Ok :=
 ⟨ok.iz,ok.kind,ok.oQ,ok.vI,ok.above,ok.inj,ok.sV,ok.xZ,ok.hd,ok.frames,ok.Az,ok.Bh,ok.bs,ok.pw,ok.w6,ok.xk,ok.lY,ok.sY⟩
section
variable {X:Cx}{af:List (ae×Obj)}{σ:St}{H:Hp}{s:aw}{E:ah->aw->Prop}
def au.oH (I:au X af σ H s)(E:ah->aw->Prop):au (X.oH E) af σ H s:=⟨I.ok.oH E,I.os,I.fJ,I.base,I.iL,I.cell,I.free,I.j1,I.jM,I.aH,I.eO⟩
def au.rg (I:au (X.oH E) af σ H s):au X af σ H s:=⟨I.ok.rg,I.os,I.fJ,I.base,I.iL,I.cell,I.free,I.j1,I.jM,I.aH,I.eO⟩
def SP.rg {D:gc}{f:Flow}{s':aw}(h:SP (X.oH E) af D f s'):SP X af D f s':=by
 cases f with
 | next=>obtain⟨aK,H',I,q⟩:=h;exact⟨aK,H',I.rg,q⟩
 | brk=>obtain⟨aK,H',I,q⟩:=h;exact⟨aK,H',I.rg,q⟩
 | cont=>obtain⟨aK,H',I,q⟩:=h;exact⟨aK,H',I.rg,q⟩
 | ret u=>obtain⟨v,aK,H',I,r,q⟩:=h;exact⟨v,aK,H',I.rg,r,q⟩
def jW.ED {st:List Stmt}{t:TS}(h:jW X.ED st t):jW X st t:=fun af s σ H D I hw =>wpAny_mono (h af s σ H D (I.oH _) hw) (fun _ _ q=>q.rg) fun _ _ z=>False.elim z
end
section
variable {X:Cx}{st:Stmt}{b7:List Stmt}{t u:TS}{e:Expr}{te:TE}{pos:Pos}
def V5:TS:=fun D σ H=>D.nx σ H
def nL (t u:TS):TS:=fun D σ H=>t {D with nx:=u D} σ H
def b5:jW X [] V5:=fun _ _ σ H _ I h=>wpAny_execs_nil ⟨σ,H,I,h⟩
def aD (h1:PS X st t)(h2:jW X b7 u):jW X (st::b7) (nL t u):=by
 intro af s σ H D I h;apply wpAny_execs_cons (aS (h1 af s σ H {D with nx:=u D} I h) fun f s1 q=>?_);cases f with
 | next =>obtain⟨aK,H',I',q⟩:=q;exact h2 af s1 aK H' D I' q
 | ret v=>exact q
 | brk=>exact q
 | cont=>exact q
def aF (h1:PS X st t):jW X [st] t:=by
 intro af s σ H D I h;apply wpAny_execs_cons (aS (h1 af s σ H D I h) fun f s1 q=>?_);cases f with
 | next=>exact wpAny_execs_nil q
 | ret v=>exact q
 | brk=>exact q
 | cont=>exact q
def ag1:TS:=fun D σ H=>D.ct σ H
def aax:PS X (.Continue pos) ag1:=fun _ _ σ H _ I h=>wpAny_Continue ⟨σ,H,I,h⟩
def au.quiet {af:List (ae×Obj)}{σ:St}{H:Hp}{s:aw}(I:au X af σ H s):interactive X.env=false:=by simp[interactive,I.ok.kind]
def agZ (te:TE):TS:=fun D σ H=>te σ H fun _ H1=>D.nx σ H1
def dR (he:PE X e te)(hs:swapsWith e none pos.line X.env=pure false:=by rfl):PS X (.Expr e pos) (agZ te):=by intro af s σ H D I h;exact wpAny_Expr_any (aS (he af s σ H _ I h) fun v s1 ⟨x,H1,I1,r1,q1⟩=>⟨σ,H1,I1,q1⟩) I.quiet hs
def ahO (te:TE):TS:=fun D σ H=>te σ H D.rt
def aY (he:PE X e te):PS X (.Return (some e) pos) (ahO te):=by intro af s σ H D I h;exact wpAny_Return_some (aS (he af s σ H _ I h) fun v s1 ⟨x,H1,I1,r1,q1⟩=>⟨x,σ,H1,I1,r1,q1⟩)
def agW:TS:=fun D _ H=>D.rt .bx H
def aeV:PS X (.Return none pos) agW:=fun _ _ σ H _ I h=>wpAny_Return_none ⟨.bx,σ,H,I,rfl,h⟩
def ahR (c:TT)(t u:TS):TS:=fun D σ H=>c σ H fun b H1=>if b=true then t D σ H1 else u D σ H1
def bU {c:Expr}{a b:List Stmt}{tc:TT}(hc:PT X c tc)(ha:jW X a t)(hb:jW X b u):PS X (.If c a b pos) (ahR tc t u):=by
 intro af s σ H D I h;apply wpAny_If (aS (hc af s σ H _ I h) fun d s1=>?_);rintro⟨H1,I1,q1⟩;cases d with
 | true=>exact ha af s1 σ H1 D I1 q1
 | false=>exact hb af s1 σ H1 D I1 q1
end
abbrev TG:=V->St->Hp->(St->Hp->Prop)->Prop
abbrev vJ:=List V->St->Hp->(St->Hp->Prop)->Prop
def PG (X:Cx)(target:Expr)(t:TG):Prop :=
 ∀(af:List (ae×Obj))(s:aw)(σ:St)(H:Hp)(v:V)(u:ah)(Q:St->Hp->Prop),au X af σ H s->bF v u->t v σ H Q ->
  wpAny (model X.prog X.w) X.A (assign target X.env u) (fun _ s'=>∃aK H',au X af aK H' s'/\Q aK H') X.xe s
def FF (X:Cx)(ts:List Expr)(t:vJ):Prop :=
 ∀(af:List (ae×Obj))(s:aw)(σ:St)(H:Hp)(vs:List V)(us:List ah)(Q:St->Hp->Prop),au X af σ H s->be vs us->t vs σ H Q ->
  wpAny (model X.prog X.w) X.A (assignInOrder ((assignEach ts X.env).map (·.2)) us) (fun _ s'=>∃aK H',au X af aK H' s'/\Q aK H') X.xe s
abbrev Bl:=V->V->Hp->VK->Prop
def Ot (X:Cx)(op:Operator)(t:Bl):Prop :=
 ∀(af:List (ae×Obj))(s:aw)(σ:St)(H:Hp)(x y:V)(v u:ah)(Q:VK),au X af σ H s->bF x v->bF y u->t x y H Q ->
  wpAny (model X.prog X.w) X.A (inplaceOp op v u) (EP X af σ Q) X.xe s
section
variable {X:Cx}{pos:Pos}
def wQ (i:Nat):TG:=fun v σ H Q=>Q (σ.set i (some v)) H
def b9 {i:Nat}{x:Str}(hN:X.N.Nodup)(hi:X.N[i]?=some x)(hx:Bo X.env.scope x)(hf:X.fn x=true\/X.env.scope.names.lookup x=some .local:=by first|exact .inl rfl|exact .inr rfl|assumption):PG X (.Name x pos) (wQ i):=by intro af s σ H v u Q I r h;exact wpAny_assign_Name (CU I hN hi hx r (fun s' I'=>⟨_,H,I',h⟩) hf)
def ajj:vJ:=fun vs σ H Q=>vs=[]/\Q σ H
def ahH (t:TG)(u:vJ):vJ:=fun vs σ H Q=>∃v r,vs=v::r/\t v σ H fun aK H'=>u r aK H' Q
def jf:FF X [] ajj:=by intro af s σ H vs us Q I r h;obtain⟨e,h⟩:=h;subst e;cases r;exact assignInOrder_nil ⟨σ,H,I,h⟩
def dF {e:Expr}{es:List Expr}{t:TG}{u:vJ}(h1:PG X e t)(h2:FF X es u)(hs:(assignEach (e::es) X.env).map (·.2)=assign e X.env::(assignEach es X.env).map (·.2):=by rfl):FF X (e::es) (ahH t u):=by
 intro af s σ H vs us Q I r h;obtain⟨v,vr,e1,h⟩:=h;subst e1;cases r with
 | cons r rr =>rw[hs];apply assignInOrder_cons (aS (h1 af s σ H _ _ _ I r h) fun _ s1=>?_);rintro⟨xm,H1,I1,q1⟩;exact h2 af s1 xm H1 _ _ Q I1 rr q1
def uP (K:aI)(n:Nat)(t:vJ):TG:=fun v σ H Q=>∃a xs,v= .ref a/\cS K H a xs/\xs.length=n/\t xs σ H Q
def jj {es:List Expr}{k:Nat}{t:vJ}{n:Nat}(hc:X.gM=true)(h:FF X es t)(hn:(assignEach es X.env).length=n:=by rfl)(fL:(assignEach es X.env).findIdx? (·.1)=none:=by rfl):PG X (.Tuple es k pos) (uP X.K n t):=by intro af s σ H v u Q I r hw;obtain⟨a,xs,e1,hq,hl,hw⟩:=hw;subst e1;cases r;obtain⟨its,rv,ht,hz⟩:=I.tuple hq;apply assign_Tuple_tuple (I.ok.hd hc) ht (by simp[hn,<-hl,rv.length]) fL fun h' hx=>?_;have I1:au X af σ H {s with heap:=h'}:=I.fI (t':=s.toks) fun b o e=>hx b o (d9 (bW e)) e;exact h af _ σ H xs _ Q I1 (by simpa using rv) hw
def D3 (te:TE)(g:TG):TS:=fun D σ H=>te σ H fun x H1=>g x σ H1 D.nx
def bB {i:Nat}{x:Str}{e:Expr}{te:TE}{pos':Pos}(hN:X.N.Nodup)(hi:X.N[i]?=some x)(hx:Bo X.env.scope x)(he:PE X e te)(hs:swapsWith e (some (.Name x pos')) pos.line X.env=pure false:=by rfl)(hf:X.fn x=true\/X.env.scope.names.lookup x=some .local:=by first|exact .inl rfl|exact .inr rfl|assumption):PS X (.Assign [.Name x pos'] e pos) (D3 te (wQ i)):=by intro af s σ H D I h;apply wpAny_Assign_Name (aS (he af s σ H _ I h) fun v s1=>?_) hs;rintro⟨y,H1,I1,r1,q1⟩;exact CU I1 hN hi hx r1 (fun s2 I2=>⟨_,H1,I2,q1⟩) hf
def Wq (i:Nat)(te:TE)(ti:Bl):TS:=fun D σ H=>∃x,σ[i]?=some (some x)/\te σ H fun y H1=>ti x y H1 fun z H2=>D.nx (σ.set i (some z)) H2
def uf {i:Nat}{x:Str}{e:Expr}{te:TE}{op:Operator}{ti:Bl}{pos':Pos}(hN:X.N.Nodup)(hi:X.N[i]?=some x)(hx:Bo X.env.scope x)(he:PE X e te)(ho:Ot X op ti)(hf:X.fn x=true\/X.env.scope.names.lookup x=some .local:=by first|exact .inl rfl|exact .inr rfl|assumption):PS X (.AugAssign (.Name x pos') op e pos) (Wq i te ti):=by
 intro af s σ H D I h;obtain⟨v,e1,h⟩:=h;obtain⟨m,hn,hl⟩:=I.iL;have vis:x3 X.env.scope x:=by rcases hx with k|k;exact .inl k;exact .inr (.inl k)
 obtain⟨u,r,l⟩:=hl i x v hi e1 vis;apply wpAny_AugAssign_Name ?_;have go:wpAny (model X.prog X.w) X.A (eval e X.env) (fun w gD=>wpAny (model X.prog X.w) X.A (inplaceOp op u w) (fun r oN=>wpAny (model X.prog X.w) X.A (storeName X.env x r) (fun _=>SP X af D .next) X.xe oN) X.xe gD) X.xe s:=by apply aS (he af s σ H _ I h) fun w s1 ⟨y,H1,I1,r1,q1⟩=>?_;apply aS (ho af s1 σ H1 v y u w _ I1 r r1 q1) fun z s2=>?_;rintro⟨zv,H2,I2,r2,q2⟩;exact CU I2 hN hi hx r2 (fun s3 I3=>⟨_,H2,I3,q2⟩) hf
 rcases l with⟨hk,hm⟩|⟨hk,c,hc,DQ⟩
 ·exact wpAny_loadName_local I.ok.kind hk hn hm go
 ·rcases hk with hk|hk
  ·exact wpAny_loadName_cell I.ok.kind hk hc DQ go
  ·rcases hx with k|k
   ·have:X.env.scope.names.lookup x=some .free:=hk;rw[k]at this;cases this
   ·have:X.env.scope.names.lookup x=some .free:=hk;rw[k]at this;cases this
def XI (f:Int->Int->Int):Bl:=fun x y H Q=>∃i j,x= .int i/\y= .int j/\Q (.int (f i j)) H
def DD:Ot X .Add (XI fun i j=>i+j):=by intro af s σ H x y v u Q I r1 r2 h;obtain⟨i,j,e1,e2,q⟩:=h;subst e1;subst e2;obtain⟨t,rfl⟩:=r1;obtain⟨t',rfl⟩:=r2;exact iadd_int ⟨.int _,H,I.dY _,⟨_,rfl⟩,q⟩
def agB:Ot X .Sub (XI fun i j=>i-j):=by intro af s σ H x y v u Q I r1 r2 h;obtain⟨i,j,e1,e2,q⟩:=h;subst e1;subst e2;obtain⟨t,rfl⟩:=r1;obtain⟨t',rfl⟩:=r2;exact isub_int ⟨.int _,H,I.dY _,⟨_,rfl⟩,q⟩
end
section
variable {X:Cx}{pos:Pos}
def Lo (c:TT)(tb:TS):TS:=fun D σ H=>∃W:Nat->St->Hp->Prop,(∃m,W m σ H)/\∀m σ H,W m σ H ->
 c σ H fun b H1=>if b=true then∃N:St->Hp->Prop,(∀aK H',N aK H'->∃m',m'<m/\W m' aK H')/\tb {D with nx:=N,ct:=N,bk:=D.nx} σ H1 else D.nx σ H1
def qR {c:Expr}{body:List Stmt}{tc:TT}{tb:TS}(hp:PassesOwn (model X.prog X.w) X.A X.env X.xe)(hc:PT X c tc)(hb:jW X body tb):PS X (.While c body [] pos) (Lo tc tb):=by
 intro af s σ H D I h;obtain⟨W,⟨m0,w0⟩,uw⟩:=h;apply wpAny_While (codeAny_whileLoop (fun n s'=>∃aK H',au X af aK H' s'/\W n aK H') ?_ m0 ⟨σ,H,I,w0⟩);rintro n s1 ⟨xm,H1,I1,w1⟩;apply wpAny_passesOwn hp (aS (hc af s1 xm H1 _ I1 (uw n xm H1 w1)) fun b s2=>?_);rintro⟨H2,I2,q2⟩;cases b with
 | true =>
  obtain⟨N,hN,q2⟩:=q2;rw[aE rfl];apply wpAny_passesOwn hp (aS (hb af s2 xm H2 _ I2 q2) fun f s3 q3=>?_);cases f with
  | next =>obtain⟨lu,H3,I3,n3⟩:=q3;obtain⟨m',hm,w3⟩:=hN lu H3 n3;exact⟨m',hm,lu,H3,I3,w3⟩
  | cont =>obtain⟨lu,H3,I3,n3⟩:=q3;obtain⟨m',hm,w3⟩:=hN lu H3 n3;exact⟨m',hm,lu,H3,I3,w3⟩
  | brk=>exact q3
  | ret v=>exact q3
 | false =>rw[aB fE];exact wpAny_execs_nil ⟨xm,H2,I2,q2⟩
end
structure It where
 go:Nat->Hp->Prop
 lx:Nat->Hp->V->Hp->Prop
 ek:Nat->Hp->Prop
def lr (X:Cx)(af:List (ae×Obj))(H:Hp)(b:ae):Prop :=
 H b=none/\b≠X.env.locals/\b∉X.fs/\(b∈X.ex\/X.iw.heap.objs.size<=b)/\(∀x c,X.env.cells.lookup x=some c->c≠b)/\∀p∈X.pn++af,p.1≠b
def au.oR {X:Cx}{af:List (ae×Obj)}{σ:St}{H H':Hp}{s:aw}{b:ae}(I:au X af σ H s)(hb:s.heap.objs.size<=b)(hn:H' b=none):lr X af H' b:=by
 apply⟨hn,Nat.ne_of_gt (fi I.lt hb),I.aif hb,.inr (b3 I.sz hb),fun x c e z=>?_,fun p hp z=>?_⟩
 ·obtain⟨v,q⟩:=I.cell x c e;exact absurd (fi q.lt (by rw[z];exact hb)) (Nat.lt_irrefl _)
 ·exact absurd (fi (bW (I.jM p hp).1) (by rw[z];exact hb)) (Nat.lt_irrefl _)
structure l0 (P:Program)(w:World)(K:aI)(tg:Expr)(J:It)(fp:List ae)(it:ae)(tn:Nat->Heap->Prop):Prop where
 mem:it∈fp
 obj:∀i h,tn i h->∀b∈fp,∃o,h.get? b=some o/\∀v,o.data≠ .cell v
 keep:∀i h h',tn i h->(∀b∈fp,∀o,h.get? b=some o->h'.get? b=some o)->tn i h'
 item:∀(X:Cx),X.prog=P->X.w=w->X.K=K->X.gM=true->∀(i:Nat)(af:List (ae×Obj))(s:aw)(σ:St)(H:Hp)(E:ah->aw->Prop),au X af σ H s->(∀b∈fp,lr X af H b)->tn i s.heap->J.go i H ->
  wpAny (model P w) X.A (pyNext (.ref it)) (fun r s1=>∃u,r=some u /\
   wpAny (model P w) X.A (letOwnedTupleGo tg (.ref it) u) (fun _ s2=>∃x H',au X af σ H' s2/\bF x u/\J.lx i H x H'/\tn (i+1) s2.heap/\∀b∈fp,H' b=none) E s1) E s
 done:∀(X:Cx),X.prog=P->X.w=w->X.K=K->X.gM=true->∀(i:Nat)(af:List (ae×Obj))(s:aw)(σ:St)(H:Hp)(E:ah->aw->Prop),au X af σ H s->(∀b∈fp,lr X af H b)->tn i s.heap->J.ek i H ->
  wpAny (model P w) X.A (pyNext (.ref it)) (fun r s1=>r=none/\au X af σ H s1) E s
 k9:∀(A:Around)(i:Nat)(s:aw)(Q:ah->aw->Prop)(E:ah->aw->Prop),tn i s.heap->Q (.ref it) s->wpAny (model P w) A (pyIter (.ref it)) Q E s
abbrev TI:=St->Hp->(It->Hp->Prop)->Prop
def Ou (X:Cx)(af:List (ae×Obj))(σ:St)(tg:Expr)(R:It->Hp->Prop)(Na:ah)(s2:aw):Prop :=
 ∃(it:ae)(fp:List ae)(tn:Nat->Heap->Prop)(J:It)(H':Hp),Na= .ref it/\au X af σ H' s2/\l0 X.prog X.w X.K tg J fp it tn/\tn 0 s2.heap/\(∀b∈fp,lr X af H' b)/\R J H'
def PI (X:Cx)(tg fW:Expr)(wi:TI):Prop :=
 ∀(af:List (ae×Obj))(s:aw)(σ:St)(H:Hp)(R:It->Hp->Prop),au X af σ H s->wi σ H R ->
  wpAny (model X.prog X.w) X.A (eval fW X.env) (fun v s1=>wpAny (model X.prog X.w) X.A (pyIter v) (Ou X af σ tg R) X.xe s1) X.xe s
def uo {M:Model}{A:Around}{E:ah->aw->Prop}{s:aw}{tg:Expr}{it:ae}{u:ah}{o:Obj}{n:String}{vs:Array ah}{Q:Unit->aw->Prop}(ho:s.heap.get? it=some o)(hc:o.cls= .type n)(hd:o.data= .fields vs)(hn:["enumerate","zip","dict_itemiterator","dict_reverseitemiterator","odict_iterator","itertools.zip_longest","itertools.pairwise"].contains n=false)(hQ:Q () s):wpAny M A (letOwnedTupleGo tg (.ref it) u) Q E s:=by
 unfold letOwnedTupleGo;cases tg<;>first
  | exact aZ hQ
  | (cases u<;>first
    | exact aZ hQ
    | (apply az (wpAny_load ho ?_);rw[hc,hd];show wpAny M A (if(["enumerate","zip","dict_itemiterator","dict_reverseitemiterator","odict_iterator","itertools.zip_longest","itertools.pairwise"].contains n&&vs[0]?==some (rawInt _))=true then _ else _) Q E s;rw[aB (by intro h;rw[hn,Bool.false_and]at h;cases h)];exact aZ hQ))
def Br (K:aI)(a:ae):It :=
 ⟨fun i H=>∃xs x,aA K H a xs/\xs[i]?=some x,fun i H x H'=>H'=H/\∀xs,aA K H a xs->xs[i]?=some x,fun i H=>∃xs,aA K H a xs/\xs.length<=i⟩
def tE (K:aI)(a:ae):It :=
 ⟨fun i H=>∃xs x,cS K H a xs/\xs[i]?=some x,fun i H x H'=>H'=H/\∀xs,cS K H a xs->xs[i]?=some x,fun i H=>∃xs,cS K H a xs/\xs.length<=i⟩
def Ow (lo:Int)(n:Nat):It:=⟨fun i _=>i<n,fun i H x H'=>H'=H/\x= .int (lo+i),fun i _=>n<=i⟩
def ab1 {P:Program}{w:World}{K:aI}{tg:Expr}(a it:ae):l0 P w K tg (Br K a) [it] it (fun i h=>h.IsListIter it a i) where
 mem:=by simp
 obj:=fun i h st b hb=>by
  have e:b=it:=by simpa using hb
  subst e;obtain⟨o,e,c,d⟩:=st;exact⟨o,e,fun v z=>by rw[d]at z;cases z⟩
 keep:=fun i h h' st k=>st.at fun o e=>k it (by simp) o e
 item:=by intro X hP hw hK hc i af s σ H E I hf st hg;subst hP hw hK;obtain⟨xs,x,hq,hx⟩:=hg;obtain⟨its,rv,p,hz⟩:=I.list hq;obtain⟨u,hu,ru⟩:=rv.get hx;obtain⟨f0,f1,f2,f3,f4,f5⟩:=hf it (by simp);apply wpAny_pyNext_list_item st p.isList (x:=u) (by simpa using hu) fun h' iu sb=>?_;have I1:au X af σ H {s with heap:=h'}:=I.iU (t':=s.toks) (fun b o hb e=>(sb.2 b hb).trans e) f0 f1 f3 f4 f5;obtain⟨o,e,c,d⟩:=id iu;exact⟨u,rfl,uo (s:={s with heap:=h'}) e c d (by decide) (Z22 x H I1 ru ⟨rfl,fun ys hy=>by rw[I.zE hy hq];exact hx⟩ iu (fun b hb=>(hf b hb).1))⟩
 done:=by intro X hP hw hK hc i af s σ H E I hf st hg;subst hP hw hK;obtain⟨xs,hq,hx⟩:=hg;obtain⟨its,rv,p,hz⟩:=I.list hq;obtain⟨f0,f1,f2,f3,f4,f5⟩:=hf it (by simp);have hl:=rv.length;exact wpAny_pyNext_list_end (I.ok.hd hc) st p.isList (by simp;omega) fun h' eb=>⟨rfl,I.iU (t':=s.toks) (fun b o hb e=>eb b o hb e) f0 f1 f3 f4 f5⟩
 k9:=fun _ _ _ _ _ st h=>wpAny_pyIter_listiter st h
def aaZ {P:Program}{w:World}{K:aI}{tg:Expr}(a it:ae):l0 P w K tg (tE K a) [it] it (fun i h=>h.IsTupleIter it a i) where
 mem:=by simp
 obj:=fun i h st b hb=>by
  have e:b=it:=by simpa using hb
  subst e;obtain⟨o,e,c,d⟩:=st;exact⟨o,e,fun v z=>by rw[d]at z;cases z⟩
 keep:=fun i h h' st k=>st.at fun o e=>k it (by simp) o e
 item:=by intro X hP hw hK hc i af s σ H E I hf st hg;subst hP hw hK;obtain⟨xs,x,hq,hx⟩:=hg;obtain⟨its,rv,p,hz⟩:=I.tuple hq;obtain⟨u,hu,ru⟩:=rv.get hx;obtain⟨f0,f1,f2,f3,f4,f5⟩:=hf it (by simp);apply wpAny_pyNext_tuple_item st (show s.heap.IsTuple a its.toArray from p) (x:=u) (by simpa using hu) fun h' iu sb=>?_;have I1:au X af σ H {s with heap:=h'}:=I.iU (t':=s.toks) (fun b o hb e=>(sb.2 b hb).trans e) f0 f1 f3 f4 f5;obtain⟨o,e,c,d⟩:=id iu;exact⟨u,rfl,uo (s:={s with heap:=h'}) e c d (by decide) (Z22 x H I1 ru ⟨rfl,fun ys hy=>by rw[I.ab4 hy hq];exact hx⟩ iu (fun b hb=>(hf b hb).1))⟩
 done:=by intro X hP hw hK hc i af s σ H E I hf st hg;subst hP hw hK;obtain⟨xs,hq,hx⟩:=hg;obtain⟨its,rv,p,hz⟩:=I.tuple hq;obtain⟨f0,f1,f2,f3,f4,f5⟩:=hf it (by simp);have hl:=rv.length;exact wpAny_pyNext_tuple_end (I.ok.hd hc) st (show s.heap.IsTuple a its.toArray from p) (by simp;omega) fun h' eb=>⟨rfl,I.iU (t':=s.toks) (fun b o hb e=>eb b o hb e) f0 f1 f3 f4 f5⟩
 k9:=fun _ _ _ _ _ st h=>wpAny_pyIter_tupleiter st h
def aa0 {P:Program}{w:World}{K:aI}{tg:Expr}(it:ae)(lo:Int)(n:Nat):l0 P w K tg (Ow lo n) [it] it (fun i h=>IsRangeIter h it (lo+(i:Nat)*1) ((n:Int)-(i:Nat)) 1) where
 mem:=by simp
 obj:=fun i h st b hb=>by
  have e:b=it:=by simpa using hb
  subst e;exact⟨_,st,fun v z=>by have z':Data.fields _=Data.cell v:=z;cases z'⟩
 keep:=fun i h h' st k=>k it (by simp) _ st
 item:=by intro X hP hw hK hc i af s σ H E I hf st hg;subst hP hw hK;obtain⟨f0,f1,f2,f3,f4,f5⟩:=hf it (by simp);have W:=Walks.range (prog:=X.prog) (w:=X.w) (I.ok.hd hc) it lo 1 n;apply W.item i s _ _ hg st fun v h' tk hv iu kk=>?_;obtain⟨t,rfl⟩:=hv;have I1:au X af σ H {s with heap:=h',toks:=tk}:=I.iU (fun b o hb e=>kk b o (by simpa using hb) e) f0 f1 f3 f4 f5;apply Z10 _ rfl (uo (s:={s with heap:=h',toks:=tk}) (n:="range_iterator") iu rfl rfl (by decide) (Z22 (.int (lo+i)) H I1 ⟨t,?_⟩ ⟨rfl,rfl⟩ iu (fun b hb=>(hf b hb).1)));rw[Int.mul_one]
 done:=by intro X hP hw hK hc i af s σ H E I hf st hg;subst hP hw hK;obtain⟨f0,f1,f2,f3,f4,f5⟩:=hf it (by simp);exact wpAny_pyNext_range_end (I.ok.hd hc) st (by have:n<=i:=hg;omega) fun h' eb=>⟨rfl,I.iU (t':=s.toks) (fun b o hb e=>eb b o hb e) f0 f1 f3 f4 f5⟩
 k9:=fun _ _ _ _ _ st h=>wpAny_pyIter_rangeiter st h
section
variable {X:Cx}{tg:Expr}
def ahq (K:aI)(tl:TE):TI:=fun σ H R=>tl σ H fun x H1=>∃a,x= .ref a/\(∃xs,aA K H1 a xs)/\R (Br K a) H1
def aio (K:aI)(tl:TE):TI:=fun σ H R=>tl σ H fun x H1=>∃a,x= .ref a/\(∃xs,cS K H1 a xs)/\R (tE K a) H1
def iS {l:Expr}{tl:TE}(hl:PE X l tl):PI X tg l (ahq X.K tl):=by
 intro af s σ H R I h;apply aS (hl af s σ H _ I h) fun v s1=>?_;rintro⟨x,H1,I1,r1,q1⟩;obtain⟨a,e,⟨xs,hq⟩,q⟩:=q1;subst e;cases r1;obtain⟨its,rv,p,hz⟩:=I1.list hq;apply wpAny_pyIter_list p.isList ?_;apply Z40 s1.heap.objs.size [s1.heap.objs.size] _ _ H1 rfl (I1.fI (t':=s1.toks) fun b o e=>cM _ e) (ab1 a _) ⟨_,eG _ rfl,rfl,rfl⟩ (fun b hb=>?_) q;have e:b=s1.heap.objs.size:=by simpa using hb
 subst e;exact I1.oR (bo _) (I1.aH.fresh (bo _))
def wD {l:Expr}{tl:TE}(hl:PE X l tl):PI X tg l (aio X.K tl):=by
 intro af s σ H R I h;apply aS (hl af s σ H _ I h) fun v s1=>?_;rintro⟨x,H1,I1,r1,q1⟩;obtain⟨a,e,⟨xs,hq⟩,q⟩:=q1;subst e;cases r1;obtain⟨its,rv,p,hz⟩:=I1.tuple hq;apply wpAny_pyIter_tuple (show s1.heap.IsTuple a its.toArray from p) ?_;apply Z40 s1.heap.objs.size [s1.heap.objs.size] _ _ H1 rfl (I1.fI (t':=s1.toks) fun b o e=>cM _ e) (aaZ a _) ⟨_,eG _ rfl,rfl,rfl⟩ (fun b hb=>?_) q;have e:b=s1.heap.objs.size:=by simpa using hb
 subst e;exact I1.oR (bo _) (I1.aH.fresh (bo _))
def adF {af:List (ae×Obj)}{σ:St}{H:Hp}{s:aw}{R:It->Hp->Prop}{E:ah->aw->Prop}{lo hi:Int}{t u v:Tok}{tk:Nat}(I:au X af σ H s)(h1: -(2^62)<=lo)(h2:lo<2^62)(h3: -(2^62)<=hi)(h4:hi<2^62)(q:R (Ow lo (hi-lo).toNat) H):wpAny (model X.prog X.w) X.A (pyIter (.ref s.heap.objs.size)) (Ou X af σ tg R) E {s with heap:=s.heap.push {cls:=.type "range",data:=.fields #[.int lo t,.int hi u,.int 1 v]},toks:=tk}:=by
 apply wpAny_pyIter_range (IsRange.new ..) (small_one h1 h2 h3 h4) ?_;have I1:au X af σ H {s with heap:=s.heap.push {cls:=.type "range",data:=.fields #[.int lo t,.int hi u,.int 1 v]},toks:=tk}:=I.fI fun b o e=>cM _ e;apply Z40 ((s.heap.push {cls:=.type "range",data:=.fields #[.int lo t,.int hi u,.int 1 v]}).objs.size) [(s.heap.push {cls:=.type "range",data:=.fields #[.int lo t,.int hi u,.int 1 v]}).objs.size] _ _ H rfl (
  I1.fI (t':=tk) fun b o e=>cM _ e) (aa0 _ lo (hi-lo).toNat) ?_ (fun b hb=>?_) q
 ·have e1:lo+((0:Nat):Int)*1=lo:=by simp
  have e2:(((hi-lo).toNat:Nat):Int)-((0:Nat):Int)=Builtin.Range.rangeSize lo hi 1:=by rw[rangeSize_one];split<;>omega
  show IsRangeIter _ _ (lo+((0:Nat):Int)*1) ((((hi-lo).toNat:Nat):Int)-((0:Nat):Int)) 1;rw[e1,e2];exact eG _ rfl
 ·have e:b=(s.heap.push {cls:=.type "range",data:=.fields #[.int lo t,.int hi u,.int 1 v]}).objs.size:=by simpa using hb
  subst e;exact I1.oR (bo _) (I1.aH.fresh (bo _))
def ahp (ta:TA):TI:=fun σ H R=>ta σ H fun vs H1=>∃j:Int,vs=[.int j]/\ -(2^62)<=j/\j<2^62/\R (Ow 0 j.toNat) H1
def acv {a:Expr}{ta:TA}{p pos:Pos}(hg:Gl X "range")(hm:X.mg "range"=none)(ha:PA X [a] ta)(hs:starEach [a] X.env=[(false,eval a X.env)]:=by rfl):PI X tg (.Call (.Name "range" p) [a] [] pos) (ahp ta):=by
 intro af s σ H R I h;apply Call_ (oA I hg hm boot_range (PyProof.Rows.callWith_type1 (aS (ha pos af s σ H _ I h) fun us s1=>?_) hs rfl));rintro⟨vs,H1,I1,r1,q1⟩;obtain⟨j,e,q1,q2,q⟩:=q1;subst e;cases r1 with
 | cons r rr =>cases rr;obtain⟨t,rfl⟩:=r;exact call_range_1 (adF I1 ⋯ ⋯ q1 q2 (by simpa using q))
def ahS (wi:TI)(g:TG)(tb:TS):TS:=fun D σ H=>wi σ H fun J H1=>∃W:Nat->Nat->St->Hp->Prop,(∃m,W 0 m σ H1)/\∀i m σ H,W i m σ H ->
 (J.ek i H/\D.nx σ H)\/(J.go i H/\∃N:St->Hp->Prop,(∀aK H',N aK H'->∃m',m'<m/\W (i+1) m' aK H')/\∀x H',J.lx i H x H'->g x σ H' fun b4 H2=>tb {D with nx:=N,ct:=N,bk:=D.nx} b4 H2)
def zN (fp:List ae)(h:Heap):List (ae×Obj):=fp.filterMap fun b=>(h.get? b).map fun o=>(b,o)
def Jt {fp:List ae}{h:Heap}{b:ae}{o:Obj}(hb:b∈fp)(e:h.get? b=some o):(b,o)∈zN fp h:=List.mem_filterMap.mpr ⟨b,hb,by rw[e];rfl⟩
def acB {fp:List ae}{h:Heap}{p:ae×Obj}(hp:p∈zN fp h):p.1∈fp/\h.get? p.1=some p.2:=by
 obtain⟨b,hb,e⟩:=List.mem_filterMap.mp hp;cases q:h.get? b with
 | none=>rw[q]at e;cases e
 | some o =>rw[q]at e;have e':(b,o)=p:=d3 e;subst e';exact⟨hb,q⟩
def au.VN {af:List (ae×Obj)}{σ:St}{H:Hp}{s:aw}{fp:List ae}(I:au X af σ H s)(hf:∀b∈fp,lr X af H b)(ho:∀b∈fp,∃o,s.heap.get? b=some o/\∀v,o.data≠ .cell v):au X (af++zN fp s.heap) σ H s :=
 I.Vi fun p hp=>(eQ.mp hp).elim (fun z=>I.jM p (List.mem_append_right _ z)) fun z=>by obtain⟨hb,e⟩:=acB z;obtain⟨f0,f1,f2,_⟩:=hf p.1 hb;obtain⟨o,e',d⟩:=ho p.1 hb;rw[e]at e';cases e';exact⟨e,f0,f1,f2,d⟩
def au.CQ {af pl:List (ae×Obj)}{σ:St}{H:Hp}{s:aw}(I:au X (af++pl) σ H s):au X af σ H s:=I.Vi fun p hp=>I.jM p (List.mem_append_right _ (List.mem_append_left _ hp))
def jh {fW:Expr}{body:List Stmt}{wi:TI}{g:TG}{tb:TS}{pos:Pos}(hp:PassesOwn (model X.prog X.w) X.A X.env X.xe)(hc:X.gM=true)(hi:PI X tg fW wi)(hg:PG X tg g)(hb:jW X body tb)(hs:∀x,foldedSetIterable fW X.env x=pure x:=by intro _;rfl):PS X (.For tg fW body [] pos) (ahS wi g tb):=by
 intro af s σ H D I h;apply wpAny_For (aS (hi af s σ H _ I h) fun v s1 h1=>aS h1 fun Na s2 h2=>?_) hs;obtain⟨it,fp,tn,J,H2,e,I2,T,Ew,f2,W,⟨m0,w0⟩,uw⟩:=h2;subst e;have ux:∀{H':Hp},(∀b∈fp,H' b=none)->∀b∈fp,lr X af H' b:=fun hn b hb=>⟨hn b hb,(f2 b hb).2⟩;apply codeAny_forLoop_any (fun n s'=>∃i aK H',au X af aK H' s'/\tn i s'.heap/\(∀b∈fp,H' b=none)/\W i n aK H') ?_ m0 (Z20 0 σ H2 I2 Ew (fun b hb=>(f2 b hb).1) w0);rintro n s3 ⟨i,lu,H3,I3,Eu,YU,w3⟩;rcases uw i n lu H3 w3 with⟨ek,qn⟩|⟨go,N,hN,step⟩
 ·apply wpAny_passesOwn hp (aS (T.done X rfl rfl rfl hc i af s3 lu H3 X.xe I3 (ux YU) Eu ek) fun r s4=>?_);rintro⟨hr,I4⟩;subst hr;exact wpAny_execs_nil ⟨lu,H3,I4,qn⟩
 ·apply wpAny_passesOwn hp (aS (T.item X rfl rfl rfl hc i af s3 lu H3 X.xe I3 (ux YU) Eu go) fun r s4=>?_);rintro⟨u,hr,h4⟩;subst hr;apply wpAny_passesOwn hp (aS h4 fun _ s5=>?_);rintro⟨x,H5,I5,r5,y5,xo,fr5⟩;have I5':=I5.VN (ux fr5) (T.obj _ _ xo);apply wpAny_passesOwn hp (aS (hg _ s5 lu H5 x u _ I5' r5 (step x H5 y5)) fun _ s6=>?_);rintro⟨El,H6,I6,q6⟩;apply wpAny_passesOwn hp (aS (hb _ s6 El H6 _ I6 q6) fun f s7 q7=>?_);have again:∀{ls:St}{H7:Hp},au X (af++zN fp s5.heap) ls H7 s7->N ls H7->∃m,m<n/\∃i aK H',au X af aK H' s7/\tn i s7.heap/\(∀b∈fp,H' b=none)/\W i m aK H':=fun{ls H7}I7 n7=>by obtain⟨m',hm,w7⟩:=hN ls H7 n7;apply Z21 m' hm (i+1) ls H7 I7.CQ (T.keep _ _ _ xo fun b hb o e=>(I7.jM (b,o) (List.mem_append_right _ (List.mem_append_right _ (Jt hb e)))).1) (fun b hb=>?_) w7;obtain⟨o,e,d⟩:=T.obj _ _ xo b hb;exact(I7.jM (b,o) (List.mem_append_right _ (List.mem_append_right _ (Jt hb e)))).2.1
  cases f with
  | next=>obtain⟨ls,H7,I7,n7⟩:=q7;exact again I7 n7
  | cont=>obtain⟨ls,H7,I7,n7⟩:=q7;exact again I7 n7
  | brk=>obtain⟨ls,H7,I7,q7⟩:=q7;exact⟨ls,H7,I7.CQ,q7⟩
  | ret v=>obtain⟨x7,ls,H7,I7,r7,q7⟩:=q7;exact⟨x7,ls,H7,I7.CQ,r7,q7⟩
end
def ou {K:aI}{a:ae}{xs:List V}{g:TG}{tb:TS}{D:gc}{σ:St}{H:Hp}(Pv:Nat->St->Hp->Prop)(h0:Pv 0 σ H)(hl:∀i σ H,i<=xs.length->Pv i σ H->aA K H a xs)(hs:∀i x σ H,xs[i]?=some x->Pv i σ H->g x σ H fun b4 H2=>tb {D with nx:=Pv (i+1),ct:=Pv (i+1),bk:=D.nx} b4 H2)(hd:∀σ H,Pv xs.length σ H->D.nx σ H):∃W:Nat->Nat->St->Hp->Prop,(∃m,W 0 m σ H)/\∀i m σ H,W i m σ H->((Br K a).ek i H/\D.nx σ H)\/((Br K a).go i H/\∃N:St->Hp->Prop,(∀aK H',N aK H'->∃m',m'<m/\W (i+1) m' aK H')/\∀x H',(Br K a).lx i H x H'->g x σ H' fun b4 H2=>tb {D with nx:=N,ct:=N,bk:=D.nx} b4 H2):=by
 apply⟨fun i m σ H=>m=xs.length-i/\i<=xs.length/\Pv i σ H,⟨xs.length,by simp,bA _,h0⟩,?_⟩;rintro i m σ H ⟨rfl,hi,p⟩;have q:=hl i σ H hi p;by_cases br:i<xs.length
 ·apply .inr (Z25 ⟨xs,xs[i],q,by simp[br]⟩ (Pv (i+1)) (fun aK H' p'=>⟨xs.length-(i+1),by omega,rfl,br,p'⟩) (fun x H' y=>?_));obtain⟨e,y⟩:=y;subst e;exact hs i x σ _ (y xs q) p
 ·have e:i=xs.length:=by omega
  subst e;exact .inl ⟨⟨xs,q,bo _⟩,hd σ H p⟩
def afv {K:aI}{a:ae}{xs:List V}{g:TG}{tb:TS}{D:gc}{σ:St}{H:Hp}(Pv:Nat->St->Hp->Prop)(h0:Pv 0 σ H)(hl:∀i σ H,i<=xs.length->Pv i σ H->cS K H a xs)(hs:∀i x σ H,xs[i]?=some x->Pv i σ H->g x σ H fun b4 H2=>tb {D with nx:=Pv (i+1),ct:=Pv (i+1),bk:=D.nx} b4 H2)(hd:∀σ H,Pv xs.length σ H->D.nx σ H):∃W:Nat->Nat->St->Hp->Prop,(∃m,W 0 m σ H)/\∀i m σ H,W i m σ H->((tE K a).ek i H/\D.nx σ H)\/((tE K a).go i H/\∃N:St->Hp->Prop,(∀aK H',N aK H'->∃m',m'<m/\W (i+1) m' aK H')/\∀x H',(tE K a).lx i H x H'->g x σ H' fun b4 H2=>tb {D with nx:=N,ct:=N,bk:=D.nx} b4 H2):=by
 apply⟨fun i m σ H=>m=xs.length-i/\i<=xs.length/\Pv i σ H,⟨xs.length,by simp,bA _,h0⟩,?_⟩;rintro i m σ H ⟨rfl,hi,p⟩;have q:=hl i σ H hi p;by_cases br:i<xs.length
 ·apply .inr (Z25 ⟨xs,xs[i],q,by simp[br]⟩ (Pv (i+1)) (fun aK H' p'=>⟨xs.length-(i+1),by omega,rfl,br,p'⟩) (fun x H' y=>?_));obtain⟨e,y⟩:=y;subst e;exact hs i x σ _ (y xs q) p
 ·have e:i=xs.length:=by omega
  subst e;exact .inl ⟨⟨xs,q,bo _⟩,hd σ H p⟩
abbrev R2:=V->V->Hp->VK->Prop
def gi (X:Cx)(f:ah->ah->Sem ah)(r:R2):Prop :=
 ∀(af:List (ae×Obj))(s:aw)(σ:St)(H:Hp)(x y:V)(v u:ah)(Q:VK),au X af σ H s->bF x v->bF y u->r x y H Q ->
  wpAny (model X.prog X.w) X.A (f v u) (EP X af σ Q) X.xe s
def Om (X:Cx)(f:ah->Sem ah)(r:V->Hp->VK->Prop):Prop :=
 ∀(af:List (ae×Obj))(s:aw)(σ:St)(H:Hp)(x:V)(v:ah)(Q:VK),au X af σ H s->bF x v->r x H Q ->
  wpAny (model X.prog X.w) X.A (f v) (EP X af σ Q) X.xe s
def nI (X:Cx)(f:ah)(r:List V->Hp->VK->Prop):Prop :=
 ∀(af:List (ae×Obj))(s:aw)(σ:St)(H:Hp)(xs:List V)(us:List ah)(Q:VK),au X af σ H s->be xs us->r xs H Q ->
  wpAny (model X.prog X.w) X.A (call f us) (EP X af σ Q) X.xe s
def ajr (X:Cx)(r:V->Hp->(Bool->Hp->Prop)->Prop):Prop :=
 ∀(af:List (ae×Obj))(s:aw)(σ:St)(H:Hp)(x:V)(v:ah)(Q:Bool->Hp->Prop),au X af σ H s->bF x v->r x H Q ->
  wpAny (model X.prog X.w) X.A (truthy v) (TP X af σ Q) X.xe s
def Eo (r:R2)(ta tb:TE):TE:=fun σ H Q=>ta σ H fun x H1=>tb σ H1 fun y H2=>r x y H2 Q
def tUn (r:V->Hp->VK->Prop)(ta:TE):TE:=fun σ H Q=>ta σ H fun x H1=>r x H1 Q
def rI (C:Int->Int->Prop)(g:Int->Int->V):R2:=fun x y H Q=>∃i j,x= .int i/\y= .int j/\C i j/\Q (g i j) H
def sd (g:Int->Int->V):R2:=fun x y H Q=>∃i j,x= .int i/\y= .int j/\Q (g i j) H
def rU (g:Int->V):V->Hp->VK->Prop:=fun x H Q=>∃i,x= .int i/\Q (g i) H
section
variable {X:Cx}{a b c:Expr}{ta tb tc:TE}{pos:Pos}
def MJ (ha:PE X a ta)(hb:PE X b tb){af:List (ae×Obj)}{s:aw}{σ:St}{H:Hp}{R:V->V->Hp->Prop}(I:au X af σ H s)(h:ta σ H fun x H1=>tb σ H1 fun y H2=>R x y H2){Q:ah->aw->Prop}{f:ah->ah->Sem ah}(hf:∀v u s2 x y H2,au X af σ H2 s2->bF x v->bF y u->R x y H2->wpAny (model X.prog X.w) X.A (f v u) Q X.xe s2):wpAny (model X.prog X.w) X.A (eval a X.env) (fun v cf=>wpAny (model X.prog X.w) X.A (eval b X.env) (fun u gD=>wpAny (model X.prog X.w) X.A (f v u) Q X.xe gD) X.xe cf) X.xe s:=by apply aS (ha af s σ H _ I h) fun v s1 ⟨x,H1,I1,r1,q1⟩=>?_;apply aS (hb af s1 σ H1 _ I1 q1) fun u s2=>?_;rintro⟨y,H2,I2,r2,q2⟩;exact hf v u s2 x y H2 I2 r1 r2 q2
def e9 {op:Operator}{r:R2}(ho:gi X (binaryOp op) r)(ha:PE X a ta)(hb:PE X b tb):PE X (.BinOp a op b pos) (Eo r ta tb):=by intro af s σ H Q I h;exact wpAny_BinOp (MJ ha hb I h fun v u s2 x y H2 I2 rx ry q=>ho af s2 σ H2 x y v u Q I2 rx ry q)
def DK {op:UnaryOp}{r:V->Hp->VK->Prop}(ho:Om X (unaryOp op) r)(ha:PE X a ta):PE X (.UnaryOp op a pos) (tUn r ta):=by intro af s σ H Q I h;exact UnaryOp_ (aS (ha af s σ H _ I h) fun v s1 ⟨x,H1,I1,r1,q1⟩=>ho af s1 σ H1 x v Q I1 r1 q1)
def opI {f:ah->ah->Sem ah}{C:Int->Int->Prop}{g:Int->Int->Int}(rule:∀(i j:Int)(t u:Tok)(s:aw)(Q:ah->aw->Prop)(E:ah->aw->Prop),C i j->Q (.int (g i j) s.toks) {s with toks:=s.toks+1}->wpAny (model X.prog X.w) X.A (f (.int i t) (.int j u)) Q E s):gi X f (rI C fun i j=>.int (g i j)):=by intro af s σ H x y v u Q I rx ry h;obtain⟨i,j,rfl,rfl,hc,q⟩:=h;obtain⟨t,rfl⟩:=rx;obtain⟨t',rfl⟩:=ry;exact rule i j t t' s _ _ hc ⟨.int (g i j),H,I.dY _,⟨_,rfl⟩,q⟩
def Wz {f:ah->ah->Sem ah}{g:Int->Int->Int}(rule:∀(i j:Int)(t u:Tok)(s:aw)(Q:ah->aw->Prop)(E:ah->aw->Prop),Q (.int (g i j) s.toks) {s with toks:=s.toks+1}->wpAny (model X.prog X.w) X.A (f (.int i t) (.int j u)) Q E s):gi X f (sd fun i j=>.int (g i j)):=by intro af s σ H x y v u Q I rx ry h;obtain⟨i,j,rfl,rfl,q⟩:=h;obtain⟨t,rfl⟩:=rx;obtain⟨t',rfl⟩:=ry;exact rule i j t t' s _ _ ⟨.int (g i j),H,I.dY _,⟨_,rfl⟩,q⟩
def D4 {f:ah->ah->Sem ah}{g:Int->Int->Bool}(rule:∀(i j:Int)(t u:Tok)(s:aw)(Q:ah->aw->Prop)(E:ah->aw->Prop),Q (.bool (g i j)) s->wpAny (model X.prog X.w) X.A (f (.int i t) (.int j u)) Q E s):gi X f (sd fun i j=>.bl (g i j)):=by intro af s σ H x y v u Q I rx ry h;obtain⟨i,j,rfl,rfl,q⟩:=h;obtain⟨t,rfl⟩:=rx;obtain⟨t',rfl⟩:=ry;exact rule i j t t' s _ _ ⟨.bl (g i j),H,I,rfl,q⟩
def MR (i j:Int):Prop:=(-(2^64)<i/\i<2^64)\/(-(2^64)<j/\j<2^64)
def MR.ok {i j:Int}(h:MR i j):IntMulOk i j:=by
 rcases h with⟨h1,h2⟩|⟨h1,h2⟩
 ·exact .of_left (intBits_le_64 h1 h2)
 ·exact .of_right (intBits_le_64 h1 h2)
def k7:gi X (binaryOp .Add) (sd fun i j=>.int (i+j)):=Wz fun _ _ _ _ _ _ _ q=>add_int q
def rl:gi X (binaryOp .Sub) (sd fun i j=>.int (i-j)):=Wz fun _ _ _ _ _ _ _ q=>sub_int q
def agn:gi X (binaryOp .Mult) (rI MR fun i j=>.int (i*j)):=opI fun _ _ _ _ _ _ _ hc q=>mul_int q hc.ok
def unI {f:ah->Sem ah}{g:Int->Int}(rule:∀(i:Int)(t:Tok)(s:aw)(Q:ah->aw->Prop)(E:ah->aw->Prop),Q (.int (g i) s.toks) {s with toks:=s.toks+1}->wpAny (model X.prog X.w) X.A (f (.int i t)) Q E s):Om X f (rU fun i=>.int (g i)):=by intro af s σ H x v Q I rx h;obtain⟨i,rfl,q⟩:=h;obtain⟨t,rfl⟩:=rx;exact rule i t s _ _ ⟨.int (g i),H,I.dY _,⟨_,rfl⟩,q⟩
def Dt:Om X (unaryOp .USub) (rU fun i=>.int (-i)):=unI fun _ _ _ _ _ q=>neg_int q
end
def Wu:V->V->Bool
 | .bx,.bx=>true| .bx,.int _=>true| .int _,.bx=>true| .bx,.bl _=>true| .bl _,.bx=>true| .bx,.str _=>true| .str _,.bx=>true
 | .int _,.int _=>true| .bl _,.bl _=>true| .str _,.str _=>true| .hJ _,.hJ _=>true
 | .int _,.str _=>true| .str _,.int _=>true| .bl _,.str _=>true| .str _,.bl _=>true
 | _,_=>false
def rEq:R2:=fun x y H Q=>Wu x y=true/\Q (.bl (decide (x=y))) H
def rNe:R2:=fun x y H Q=>Wu x y=true/\Q (.bl (!decide (x=y))) H
def VC {i j:Int}:decide (V.int i=V.int j)=(i==j):=by rw[Bool.eq_iff_iff];simp
def VV {i j:Bool}:decide (V.bl i=V.bl j)=(i==j):=by rw[Bool.eq_iff_iff];simp
def VB {i j:Str}:decide (V.str i=V.str j)=(i==j):=by rw[Bool.eq_iff_iff];simp
def VD {i j:Array UInt8}:decide (V.hJ i=V.hJ j)=(i.toList==j.toList):=by rw[Bool.eq_iff_iff];cases i;cases j;simp
section
variable {X:Cx}{a b c:Expr}{ta tb tc:TE}{pos:Pos}
def eV {af:List (ae×Obj)}{σ:St}{H:Hp}{s:aw}{Q:VK}{k k':Bool}(I:au X af σ H s)(q:Q (.bl k) H)(e:k=k'):EP X af σ Q (.bool k') s:=by subst e;exact⟨.bl k,H,I,rfl,q⟩
def dW:gi X (compareOp .Eq) rEq:=by
 intro af s σ H x y v u Q I rx ry h;obtain⟨hs,q⟩:=h;cases x with
 | bx =>
  cases rx;cases y with
  | bx=>cases ry;exact PySem.EqNone.eq_none_none (eV I q (by simp))
  | bl j=>cases ry;exact PySem.EqNone.eq_none_bool (eV I q (by simp))
  | int j=>obtain⟨t',rfl⟩:=ry;exact PySem.EqNone.eq_none_int (eV I q (by simp))
  | str j=>obtain⟨t',rfl⟩:=ry;exact PySem.EqNone.eq_none_str (eV I q (by simp))
  | _=>exact absurd (show false=true from hs) fE
 | bl i =>
  cases rx;cases y with
  | bx=>cases ry;exact PySem.EqNone.eq_bool_none (eV I q (by simp))
  | bl j=>cases ry;exact eq_bool (eV I q VV)
  | str j=>obtain⟨t',rfl⟩:=ry;exact PySem.EqMixed.eq_bool_str (eV I q (by simp))
  | _=>exact absurd (show false=true from hs) fE
 | int i =>
  obtain⟨t,rfl⟩:=rx;cases y with
  | bx=>cases ry;exact PySem.EqNone.eq_int_none (eV I q (by simp))
  | int j=>obtain⟨t',rfl⟩:=ry;exact eq_int (eV I q VC)
  | str j=>obtain⟨t',rfl⟩:=ry;exact PySem.EqMixed.eq_int_str (eV I q (by simp))
  | _=>exact absurd (show false=true from hs) fE
 | str i =>
  obtain⟨t,rfl⟩:=rx;cases y with
  | bx=>cases ry;exact PySem.EqNone.eq_str_none (eV I q (by simp))
  | bl j=>cases ry;exact PySem.EqMixed.eq_str_bool (eV I q (by simp))
  | int j=>obtain⟨t',rfl⟩:=ry;exact PySem.EqMixed.eq_str_int (eV I q (by simp))
  | str j=>obtain⟨t',rfl⟩:=ry;exact eq_str (eV I q VB)
  | _=>exact absurd (show false=true from hs) fE
 | hJ i =>
  obtain⟨t,rfl⟩:=rx;cases y with
  | hJ j=>obtain⟨t',rfl⟩:=ry;exact W.eq_bytes (eV I q VD)
  | _=>exact absurd (show false=true from hs) fE
 | _=>cases y<;>exact absurd (show false=true from hs) fE
def DM:gi X (compareOp .NotEq) rNe:=by
 intro af s σ H x y v u Q I rx ry h;obtain⟨hs,q⟩:=h;cases x with
 | bx =>
  cases rx;cases y with
  | bx=>cases ry;exact PySem.EqNone.ne_none_none (eV I q (by simp))
  | bl j=>cases ry;exact PySem.EqNone.ne_none_bool (eV I q (by simp))
  | int j=>obtain⟨t',rfl⟩:=ry;exact PySem.EqNone.ne_none_int (eV I q (by simp))
  | str j=>obtain⟨t',rfl⟩:=ry;exact PySem.EqNone.ne_none_str (eV I q (by simp))
  | _=>exact absurd (show false=true from hs) fE
 | bl i =>
  cases rx;cases y with
  | bx=>cases ry;exact PySem.EqNone.ne_bool_none (eV I q (by simp))
  | bl j=>cases ry;exact ne_bool (eV I q (congrArg not VV))
  | str j=>obtain⟨t',rfl⟩:=ry;exact PySem.EqMixed.ne_bool_str (eV I q (by simp))
  | _=>exact absurd (show false=true from hs) fE
 | int i =>
  obtain⟨t,rfl⟩:=rx;cases y with
  | bx=>cases ry;exact PySem.EqNone.ne_int_none (eV I q (by simp))
  | int j=>obtain⟨t',rfl⟩:=ry;exact ne_int (eV I q (congrArg not VC))
  | str j=>obtain⟨t',rfl⟩:=ry;exact PySem.EqMixed.ne_int_str (eV I q (by simp))
  | _=>exact absurd (show false=true from hs) fE
 | str i =>
  obtain⟨t,rfl⟩:=rx;cases y with
  | bx=>cases ry;exact PySem.EqNone.ne_str_none (eV I q (by simp))
  | bl j=>cases ry;exact PySem.EqMixed.ne_str_bool (eV I q (by simp))
  | int j=>obtain⟨t',rfl⟩:=ry;exact PySem.EqMixed.ne_str_int (eV I q (by simp))
  | str j=>obtain⟨t',rfl⟩:=ry;exact ne_str (eV I q (congrArg not VB))
  | _=>exact absurd (show false=true from hs) fE
 | hJ i =>
  obtain⟨t,rfl⟩:=rx;cases y with
  | hJ j=>obtain⟨t',rfl⟩:=ry;exact W.ne_bytes (eV I q (congrArg not VD))
  | _=>exact absurd (show false=true from hs) fE
 | _=>cases y<;>exact absurd (show false=true from hs) fE
def p7:gi X (compareOp .Lt) (sd fun i j=>.bl (decide (i<j))):=D4 fun _ _ _ _ _ _ _ q=>lt_int q
def jG:gi X (compareOp .LtE) (sd fun i j=>.bl (decide (i<=j))):=D4 fun _ _ _ _ _ _ _ q=>le_int q
def wM:gi X (compareOp .Gt) (sd fun i j=>.bl (decide (j<i))):=D4 fun _ _ _ _ _ _ _ q=>gt_int q
def zX:gi X (compareOp .GtE) (sd fun i j=>.bl (decide (j<=i))):=D4 fun _ _ _ _ _ _ _ q=>ge_int q
def DC:gi X (compareOp .Is) (fun x y H Q=>y= .bx/\Q (.bl (decide (x= .bx))) H):=by
 intro af s σ H x y v u Q I rx ry h;obtain⟨rfl,q⟩:=h;cases ry;apply is_none_gen (eV I q ?_);cases x<;>first
  | (cases rx;rfl)
  | (obtain⟨t,rfl⟩:=rx;rfl)
def ae3:gi X (compareOp .IsNot) (fun x y H Q=>y= .bx/\Q (.bl (!decide (x= .bx))) H):=by
 intro af s σ H x y v u Q I rx ry h;obtain⟨rfl,q⟩:=h;cases ry;apply isnot_none_gen (eV I q ?_);cases x<;>first
  | (cases rx;rfl)
  | (obtain⟨t,rfl⟩:=rx;rfl)
def bS (b:Expr){op:CmpOp}(h:op≠ .In:=by decide)(h2:op≠ .NotIn:=by decide):behindInMarks op b=false:=by
 have e1:(op==CmpOp.In)=false:=by cases op<;>first|rfl|exact absurd rfl h
 have e2:(op==CmpOp.NotIn)=false:=by cases op<;>first|rfl|exact absurd rfl h2
 cases b<;>simp[behindInMarks,e1,e2]
def iT {op:CmpOp}{r:R2}(ho:gi X (compareOp op) r)(ha:PE X a ta)(hb:PE X b tb)(hm:behindInMarks op b=false):PE X (.Compare a [op] [b] pos) (Eo r ta tb):=by intro af s σ H Q I h;exact wpAny_Compare1 (MJ ha hb I h fun v u s2 x y H2 I2 rx ry q=>ho af s2 σ H2 x y v u Q I2 rx ry q) hm
def V3 (t:TE):TT:=fun σ H Q=>t σ H fun x H'=>∃k,x= .bl k/\Q k H'
def cI {op:CmpOp}{r:R2}(ho:gi X (compareOp op) r)(ha:PE X a ta)(hb:PE X b tb)(hm:behindInMarks op b=false):PT X (.Compare a [op] [b] pos) (V3 (Eo r ta tb)):=by
 intro af s σ H Q I h;apply wpAny_isTrue_Compare1 (aS (ha af s σ H _ I h) fun v s1 ⟨x,H1,I1,r1,q1⟩=>aS (hb af s1 σ H1 _ I1 q1) fun u s2 ⟨y,H2,I2,r2,q2⟩ =>aS (ho af s2 σ H2 x y v u _ I2 r1 r2 q2) fun c s3=>?_) hm;rintro⟨z,H3,I3,r3,k,e,q3⟩
 subst e;cases r3;exact wpAny_truthy_bool ⟨H3,I3,q3⟩
def Lp (r r':R2)(ta tb tc:TE):TE:=fun σ H Q=>ta σ H fun x H1=>tb σ H1 fun y H2=>r x y H2 fun z H3=>∃k,z= .bl k /\
 (if k=true then tc σ H3 fun w' H4=>r' y w' H4 Q else Q (.bl false) H3)
def C0 {op vb:CmpOp}{r r':R2}(ho:gi X (compareOp op) r)(lF:gi X (compareOp vb) r')(ha:PE X a ta)(hb:PE X b tb)(hc:PE X c tc)(hm:lastMarks [op,vb] [b,c]=false:=by with_unfolding_all rfl):PE X (.Compare a [op,vb] [b,c] pos) (Lp r r' ta tb tc):=by
 intro af s σ H Q I h;apply Compare_chain (aS (ha af s σ H _ I h) fun v s1 ⟨x,H1,I1,r1,q1⟩=>chain_link (aS (hb af s1 σ H1 _ I1 q1) fun u s2 ⟨y,H2,I2,r2,q2⟩ =>aS (ho af s2 σ H2 x y v u _ I2 r1 r2 q2) fun d s3=>?_)) hm;rintro⟨z,H3,I3,r3,k,e,q3⟩
 subst e;cases r3;apply wpAny_truthy_bool ?_;cases k with
 | false=>exact ite_ff ⟨.bl false,H3,I3,rfl,q3⟩
 | true=>exact ite_tt (chain_last (aS (hc af s3 σ H3 _ I3 q3) fun w' s4 ⟨z',H4,I4,r4,q4⟩=>lF af s4 σ H4 y z' u w' Q I4 r2 r4 q4))
def CW {op vb:CmpOp}{r r':R2}(ho:gi X (compareOp op) r)(lF:gi X (compareOp vb) r')(ha:PE X a ta)(hb:PE X b tb)(hc:PE X c tc)(hm:lastMarks [op,vb] [b,c]=false:=by with_unfolding_all rfl):PT X (.Compare a [op,vb] [b,c] pos) (V3 (Lp r r' ta tb tc)):=by
 intro af s σ H Q I h;apply isTrue_chain (aS (ha af s σ H _ I h) fun v s1 ⟨x,H1,I1,r1,q1⟩=>test_link (aS (hb af s1 σ H1 _ I1 q1) fun u s2 ⟨y,H2,I2,r2,q2⟩ =>aS (ho af s2 σ H2 x y v u _ I2 r1 r2 q2) fun d s3=>?_)) hm;rintro⟨z,H3,I3,r3,k,e,q3⟩
 subst e;cases r3;apply wpAny_truthy_bool ?_;cases k with
 | false =>obtain⟨k',e',q'⟩:=q3;cases e';exact ite_ff ⟨H3,I3,q'⟩
 | true =>apply ite_tt (test_last (aS (hc af s3 σ H3 _ I3 q3) fun w' s4 ⟨z',H4,I4,r4,q4⟩=>aS (lF af s4 σ H4 y z' u w' _ I4 r2 r4 q4) fun d' s5=>?_));rintro⟨z2,H5,I5,r5,k2,e2,q5⟩;subst e2;cases r5;exact wpAny_truthy_bool ⟨H5,I5,q5⟩
def MO (K:aI)(x:V)(H:Hp)(k:Bool):Prop :=
 match x with
 | .bx=>k=false
 | .bl b=>k=b
 | .int i=>k=(i !=0)
 | .str y=>y.length<=sizeLine/\k=((y.length:Int)!=0)
 | .hJ y=>y.size<=sizeLine/\k=((y.size:Int)!=0)
 | .ref p=>(∃xs,aA K H p xs/\k= !xs.isEmpty)\/(∃xs,cS K H p xs/\k= !xs.isEmpty)\/∃ai,H p=some (.dK ai)/\k= !ai.isEmpty
 | _=>False
def abJ {κ:Type}{ai:List (κ×V)}{vs:List (κ×ah)}(r:KV ai vs):(!vs.isEmpty)= !ai.isEmpty:=by cases r<;>rfl
def Ss {xs:List V}{its:List ah}(r:be xs its):(!its.toArray.isEmpty)= !xs.isEmpty:=by cases r<;>simp
def wG:(sizeLine:Nat)<2^63:=by rw[sizeLine_eq];decide
def VJ:ajr X (fun x H Q=>∃k,MO X.K x H k/\Q k H):=by
 intro af s σ H x v Q I rx h;obtain⟨k,e,q⟩:=h;have hl:=wG;have hs:sizeLine=16777216:=sizeLine_eq;cases x with
 | bx =>cases rx;have e':k=false:=e;subst e';exact truthy_none ⟨H,I,q⟩
 | bl b =>cases rx;have e':k=b:=e;subst e';exact wpAny_truthy_bool ⟨H,I,q⟩
 | int i =>obtain⟨t,rfl⟩:=rx;have e':k=(i !=0):=e;subst e';exact PySem.P.truthy_int ⟨H,I,q⟩
 | str y =>obtain⟨t,rfl⟩:=rx;obtain⟨hy,e'⟩:y.length<=sizeLine/\k=((y.length:Int)!=0):=e;subst e';exact PySem.P.truthy_str ⋯ ⟨H,I.dY _,q⟩
 | hJ y =>obtain⟨t,rfl⟩:=rx;obtain⟨hy,e'⟩:y.size<=sizeLine/\k=((y.size:Int)!=0):=e;subst e';exact W.truthy_bytes ⋯ ⟨H,I.dY _,q⟩
 | ref p =>
  cases rx;have e':(∃xs,aA X.K H p xs/\k= !xs.isEmpty)\/(∃xs,cS X.K H p xs/\k= !xs.isEmpty)\/∃ai,H p=some (.dK ai)/\k= !ai.isEmpty:=e;rcases e' with⟨xs,hx,e'⟩|⟨xs,hx,e'⟩|⟨ai,hx,e'⟩
  ·subst e';obtain⟨its,r,pl,hz⟩:=I.list hx;have bN:=r.length;exact wpAny_truthy_list pl.isList (by simp only[gj];omega) ⟨H,I.dY _,by rw[Ss r];exact q⟩
  ·subst e';obtain⟨its,r,pl,hz⟩:=I.tuple hx;have bN:=r.length;exact truthy_tuple pl (by simp only[gj];omega) ⟨H,I.dY _,by rw[Ss r];exact q⟩
  ·subst e';obtain⟨hz,hS,vs,r,m⟩:ai.length<=sizeLine/\(p==sysModules)=false/\∃vs,KV ai vs/\s.heap.DictOf (gC X.prog X.w) p vs:=I.aH p _ hx;have bN:ai.length=vs.length:=Paired.length r;exact wpAny_truthy_dict hS m ⋯ ⟨H,I.dY _,by rw[abJ r];exact q⟩
 | _=>exact(show False from e).elim
def t8 (ha:PE X a ta)(he:∀whole,isTrue a X.env whole=(do let v<-whole;standAt a.pos;holding [v] (truthy v))) :
  PT X a (fun σ H Q=>ta σ H fun x H'=>∃k,MO X.K x H' k/\Q k H'):=by
 intro af s σ H Q I h;exact isTrue_plain (aS (ha af s σ H _ I h) fun v s1 ⟨x,H1,I1,r1,q1⟩=>VJ af s1 σ H1 x v Q I1 r1 q1) (he _)
def abo:gi X (binaryOp .Add) (fun x y H Q=>∃i j,x= .str i/\y= .str j/\i.length+j.length<=sizeLine/\Q (.str (i++j)) H):=by intro af s σ H x y v u Q I rx ry h;obtain⟨i,j,rfl,rfl,hz,q⟩:=h;obtain⟨t,rfl⟩:=rx;obtain⟨t',rfl⟩:=ry;exact add_str (fun t' tk=>⟨.str (i++j),H,I.dY _,⟨_,rfl⟩,q⟩) hz
def RO:gi X (inplaceOp .Add) (fun x y H Q=>∃i j,x= .str i/\y= .str j/\i.length+j.length<=sizeLine/\Q (.str (i++j)) H):=by intro af s σ H x y v u Q I rx ry h;obtain⟨i,j,rfl,rfl,hz,q⟩:=h;obtain⟨t,rfl⟩:=rx;obtain⟨t',rfl⟩:=ry;exact iadd_str (fun t' tk=>⟨.str (i++j),H,I.dY _,⟨_,rfl⟩,q⟩) hz
def DI {x:V}{us:List ah}(r:be [x] us):∃u,us=[u]/\bF x u:=by
 cases r with
 | cons r1 r2=>cases r2;exact⟨_,rfl,r1⟩
def LO {x y:V}{us:List ah}(r:be [x,y] us):∃u w',us=[u,w']/\bF x u/\bF y w':=by
 cases r with
 | cons r1 r2 =>
  cases r2 with
  | cons r3 r4=>cases r4;exact⟨_,_,rfl,r1,r3⟩
def Kf (hc:X.gM=true):nI X (.builtin "max") (fun xs H Q=>∃i j,xs=[.int i,.int j]/\Q (.int (if j>i then j else i)) H):=by
 intro af s σ H xs us Q I r h;obtain⟨i,j,rfl,q⟩:=h;obtain⟨u,w',rfl,⟨t,rfl⟩,⟨t',rfl⟩⟩:=LO r;apply max_two_ints (I.ok.hd hc) fun h' tk k=>⟨_,H,I.fI k,?_,q⟩;by_cases hj:j>i
 ·rw[aE hj,aE hj];exact⟨_,rfl⟩
 ·rw[aB hj,aB hj];exact⟨_,rfl⟩
def acV (hc:X.gM=true):nI X (.builtin "min") (fun xs H Q=>∃i j,xs=[.int i,.int j]/\Q (.int (if j<i then j else i)) H):=by
 intro af s σ H xs us Q I r h;obtain⟨i,j,rfl,q⟩:=h;obtain⟨u,w',rfl,⟨t,rfl⟩,⟨t',rfl⟩⟩:=LO r;apply min_two_ints (I.ok.hd hc) fun h' tk k=>⟨_,H,I.fI k,?_,q⟩;by_cases hj:j<i
 ·rw[aE hj,aE hj];exact⟨_,rfl⟩
 ·rw[aB hj,aB hj];exact⟨_,rfl⟩
def U3:nI X (.builtin "ord") (fun xs H Q=>∃x,xs=[.str x]/\x.length=1/\Q (.int (x.cps.getD 0 0:Nat)) H):=by intro af s σ H xs us Q I r h;obtain⟨x,rfl,hz,q⟩:=h;obtain⟨u,rfl,t,rfl⟩:=DI r;exact ord_of_one hz ⟨.int _,H,I.dY _,⟨_,rfl⟩,q⟩
end
structure uT (h:Heap)(x dx C:ae)(mA:Str->Option ah):Prop where
 obj:h.get? x=some (W.instObj C dx)
 ns:h.Ns1 dx mA
 ne:dx≠x
def Tv {h:Heap}{dx:ae}{mA:Str->Option ah}(n:h.Ns1 dx mA):∃od,h.get? dx=some od/\∀name,W.lookIn name od=some (mA name):=by
 obtain⟨o,es,ep,ho,hd,hk,_,hm⟩:=n;apply⟨o,ho,fun name=>?_⟩;have e:=hm name;unfold nsFind findBy at e;rw[<-Array.find?_toList]at e;unfold W.lookIn;rw[hd];dsimp only;split
 ·rename_i y q
  rw[q]at e;exact congrArg some e
 ·rename_i q
  rw[q]at e;have a:es.toList.any (·.refKey)=false:=by rw[List.any_eq_false];intro y hy;obtain⟨z,t,uK⟩:=hk y (Array.mem_toList_iff.mp hy);simp[DictEntry.refKey,uK]
  have a':¬es.toList.any (·.refKey)=true:=by rw[a];exact fE
  rw[aB a'];exact congrArg some e
def uT.w9 {h:Heap}{x dx C:ae}{mA:Str->Option ah}(I:uT h x dx C mA):∃od,W.InstAt h x (W.instObj C dx) C (some od)/\∀name,W.lookIn name od=some (mA name) :=
 let ⟨od,ho,hl⟩:=Tv I.ns
 ⟨od,⟨I.obj,rfl,rfl,ho⟩,hl⟩
section
variable {prog:Program}{w:World}{A:Around}{E:ah->aw->Prop}{s:aw}{K:aI}{x dx C f:ae}{mA:Str->Option ah}{name:Str}{v:ah}
def afn {expr:Bool}{Q:ah->aw->Prop}(X:K.In s.heap)(I:uT s.heap x dx C mA)(hg:W.plainGet K C name=true)(hh:W.hasDictIn K C=true)(ha:W.findIn K (.ref C) name=some none)(hv:mA name=some v)(xD:W.handedIn v=true)(h:Q v {s with toks:=s.toks+1}):wpAny (model prog w) A (getAttr (.ref x) name expr) Q E s:=by obtain⟨od,J,hl⟩:=I.w9;exact W.get_value X J (W.plainGet_of hg).1 (W.findObj_own hh ha rfl (by rw[hl,hv])) xD h
def ad0 {pl:Sem Bool}{Q:ah×List ah->aw->Prop}(X:K.In s.heap)(I:uT s.heap x dx C mA)(hg:W.plainGet K C name=true)(hf:W.findIn K (.ref C) name=some (some (.ref f)))(ht:W.isFn K (.ref f)=true)(hv:mA name=none)(h:Q (.ref f,[.ref x]) s):wpAny (model prog w) A (getMethod (.ref x) name pl) Q E s:=by obtain⟨od,J,hl⟩:=I.w9;exact W.method_fn X J (W.plainGet_of hg).1 (W.plainGet_of hg).2 hf (beq_iff_eq.mp ht) (by show(W.lookIn name od).map (·.isSome)=some false;rw[hl,hv];rfl) h
def aeK {ns:List Str}{Q:Unit->aw->Prop}(X:K.In s.heap)(I:uT s.heap x dx C mA)(hs:W.findIn K (.ref C) "__setattr__"=some (some (.builtin "object.__setattr__")))(hp:W.plainOver K C=true)(ht:W.takerIn K C name=some none)(hh:W.hasDictIn K C=true)(hw:PySem.Within mA ns)(hsz:ns.length<=sizeLine)(h:∀h',uT h' x dx C (fun y=>if y=name then some v else mA y)->Heap.SameBut dx s.heap h'->Q () {s with heap:=h',toks:=s.toks+2}):wpAny (model prog w) A (setAttr (.ref x) name v) Q E s:=by obtain⟨od,J,hl⟩:=I.w9;apply W.set_plain X J hs (W.osa_open (s:={s with toks:=s.toks+1}) (r:=none) X J hp ht fun b=>?_);obtain⟨cd,hc,gP⟩:=W.any_some hh;have hx:s.heap.get? x=some ⟨.ref C,some dx,.plain,#[]⟩:=I.obj;apply az (aZ (az (az (wpAny_loadPart hx (az (W.Looks.here (s:={s with toks:=s.toks+1}) (W.looks_clsIn X hc) ?_))))));rw[gP];apply aZ (a:=some dx) (az (aZ (az ?_)));apply wpAny_nsSet1 (s:={s with toks:=s.toks+1}) I.ns fun h' o4 gF=>?_;obtain⟨oD,esD,epD,NA,NS,NT⟩:=o4.count (PySem.Within.cons name v hw);apply az (wpAny_lookBehind NA (by rw[NS];exact pastItsLine_dict (b3 NT (by rw[dQ];omega))) ?_);exact aZ (h _ ⟨(gF.2 _ (Ne.symm I.ne)).trans I.obj,o4,I.ne⟩ gF)
def adR {R:Result->aw->Prop}{vs:List ah}{kw:List (Str×ah)}(X:K.In s.heap)(hm:W.makesIn K C=true)(hi:W.findIn K (.ref C) "__init__"=some (some (.ref f)))(hf:W.typeIn K (.ref f)=some (.type "function"))(h:codeAny (model prog w) (A.under (.builtin "type.__call__" ⟨.ref C::vs,kw⟩)) (.call (.ref f) ⟨.ref (s.heap.objs.size+1)::vs,kw⟩) (W.InitBack (s.heap.objs.size+1) R) {s with heap:=(s.heap.push W.emptyDict).push (W.instObj C s.heap.objs.size)}):codeAny (model prog w) A (.call (.ref C) ⟨vs,kw⟩) R s:=by obtain⟨hh,g,d,t,os⟩:=s;exact W.make_core (W.makes_of X hm) (W.looks_findIn X hi) (fun k9=>W.bind_fn X k9 hf) (.inl rfl) h
end
def gu (f:Str)(v:V):List (Str×V)->List (Str×V)
 | []=>[(f,v)]
 | (g,x)::r=>if g=f then(g,v)::r else(g,x)::gu f v r
theorem RK (f g:Str)(v:V):∀fs:List (Str×V),(gu f v fs).lookup g=if g=f then some v else fs.lookup g
 | []=>by
  show List.lookup g [(f,v)]=_;by_cases h:g=f
  ·have hb:(g==f)=true:=beq_iff_eq.mpr h;simp only[List.lookup,hb,aE h]
  ·have hb:(g==f)=false:=beq_eq_false_iff_ne.mpr h;simp only[List.lookup,hb,aB h]
 | (k,x)::r=>by
  have ih:=RK f g v r;rw[show gu f v ((k,x)::r)=(if k=f then(k,v)::r else(k,x)::gu f v r)from rfl];by_cases hk:k=f
  ·rw[aE hk];by_cases h:g=k
   ·have hb:(g==k)=true:=beq_iff_eq.mpr h;simp only[List.lookup,hb,aE (h.trans hk)]
   ·have hb:(g==k)=false:=beq_eq_false_iff_ne.mpr h;simp only[List.lookup,hb,aB (fun e:g=f=>h (e.trans hk.symm))]
  ·rw[aB hk];by_cases h:g=k
   ·have hb:(g==k)=true:=beq_iff_eq.mpr h;simp only[List.lookup,hb,aB (fun e:g=f=>hk (h.symm.trans e))]
   ·have hb:(g==k)=false:=beq_eq_false_iff_ne.mpr h;simp only[List.lookup,hb];exact ih
theorem JY (f:Str)(v:V):∀fs:List (Str×V),f∈(gu f v fs).map (·.1)/\∀g,g∈fs.map (·.1)->g∈(gu f v fs).map (·.1)
 | []=>⟨by simp[gu],fun g h=>by simp at h⟩
 | (k,x)::r=>by
  obtain⟨i1,i2⟩:=JY f v r;rw[show gu f v ((k,x)::r)=(if k=f then(k,v)::r else(k,x)::gu f v r)from rfl];by_cases hk:k=f
  ·rw[aE hk];subst hk;exact⟨by simp,fun g h=>by simpa using h⟩
  ·rw[aB hk];apply⟨?_,fun g h=>?_⟩
   ·rw[fj];exact eF _ i1
   ·rw[fj]at h⊢;rcases dv.mp h with e|e
    ·exact dv.mpr (.inl e)
    ·exact eF _ (i2 g e)
theorem RM (f:Str)(v:V):∀fs:List (Str×V),(gu f v fs).length<=fs.length+1
 | []=>by simp[gu]
 | (k,x)::r=>by
  have ih:=RM f v r;rw[show gu f v ((k,x)::r)=(if k=f then(k,v)::r else(k,x)::gu f v r)from rfl];by_cases hk:k=f
  ·rw[aE hk,dQ,dQ];omega
  ·rw[aB hk,dQ,dQ];omega
def iJ.Dh {v:V}{o:Option ah}(r:iJ (some v) o):∃u,o=some u/\bF v u:=by
 cases o with
 | none=>exact(show False from r).elim
 | some u=>exact⟨u,rfl,r⟩
def iJ.afa {o:Option ah}(r:iJ none o):o=none:=by
 cases o with
 | none=>rfl
 | some u=>exact(show False from r).elim
def TJ {v:V}{u:ah}(r:bF v u):W.handedIn u=true:=by
 cases v with
 | bx=>cases (show u=Value.none from r);rfl
 | bl b=>cases (show u=Value.bool b from r);rfl
 | int i=>obtain⟨t,e⟩:=(show∃t,u=Value.int i t from r);cases e;rfl
 | str x=>obtain⟨t,e⟩:=(show∃t,u=Value.str x t from r);cases e;rfl
 | hJ b=>obtain⟨t,e⟩:=(show∃t,u=Value.bytes b t from r);cases e;rfl
 | Fy b=>obtain⟨t,e⟩:=(show∃t,u=Value.float b t from r);cases e;rfl
 | ref a=>cases (show u=Value.ref a from r);rfl
 | ty n=>cases (show u=Value.type n from r);rfl
section
variable {P:Program}{w:World}{H H':Hp}{h h':Heap}{a C dx:ae}{fs xY:List (Str×V)}
def Le (aH:dh P w H h)(e:H a=some (.bc C dx fs)):∃mA,uT h a dx C mA/\(∀f,iJ (fs.lookup f) (mA f))/\PySem.Within mA (fs.map (·.1))/\fs.length<=1000/\H dx=some (.bO a):=by obtain⟨d,z,ne,ob,mA,n,r,q⟩:=(show eK P w H h a (.bc C dx fs)from aH a _ e);exact⟨mA,⟨ob,n,ne⟩,r,q,z,d⟩
end
structure jA (K:aI)(C:ae):Prop where
 pg:W.plainGet K C Str.empty=true
 hd:W.hasDictIn K C=true
 po:W.plainOver K C=true
 sa:W.findIn K (.ref C) "__setattr__"=some (some (.builtin "object.__setattr__"))
def jA.get {K:aI}{C:ae}(c:jA K C)(f:Str):W.plainGet K C f=true:=c.pg
def dU (K:aI)(C:ae)(f:Str):Prop:=W.findIn K (.ref C) f=some none
def dU.agV {K:aI}{C:ae}{f:Str}(n:dU K C f):W.takerIn K C f=some none:=by unfold W.takerIn;rw[show W.findIn K (.ref C) f=some none from n];rfl
structure fu (K:aI)(C:ae)(m:Str)(f:ae):Prop where
 bu:W.findIn K (.ref C) m=some (some (.ref f))
 fn:W.isFn K (.ref f)=true
 kp:W.keepIn K (.ref f)=true
section
variable {X:Cx}{af:List (ae×Obj)}{σ:St}{H:Hp}{s:aw}{a C dx:ae}{fs:List (Str×V)}{f:Str}{v:V}{A:Around}{E:ah->aw->Prop}
def Sv {b:Bool}{Q:ah->aw->Prop}(I:au X af σ H s)(e:H a=some (.bc C dx fs))(c:jA X.K C)(n:dU X.K C f)(l:fs.lookup f=some v)(h:∀u s',au X af σ H s'->bF v u->Q u s'):wpAny (model X.prog X.w) A (getAttr (.ref a) f b) Q E s:=by obtain⟨mA,O,r,_,_,_⟩:=Le I.aH e;obtain⟨u,hu,ru⟩:=iJ.Dh (v:=v) (o:=mA f) (by rw[<-l];exact r f);exact afn I.gw O (c.get f) c.hd n hu (TJ ru) (h u _ (I.dY _) ru)
def Su {m:Str}{g:ae}{pl:Sem Bool}{Q:ah×List ah->aw->Prop}(I:au X af σ H s)(e:H a=some (.bc C dx fs))(c:jA X.K C)(k:fu X.K C m g)(l:fs.lookup m=none)(h:Q (.ref g,[.ref a]) s):wpAny (model X.prog X.w) A (getMethod (.ref a) m pl) Q E s:=by obtain⟨mA,O,r,_,_,_⟩:=Le I.aH e;have hn:mA m=none:=iJ.afa (by rw[<-l];exact r m);exact ad0 I.gw O (c.get m) k.bu k.fn hn h
def R9 {y:V}{u:ah}{Q:Unit->aw->Prop}(I:au X af σ H s)(e:H a=some (.bc C dx fs))(c:jA X.K C)(n:dU X.K C f)(hl:fs.length<1000)(ry:bF y u)(h:∀s',au X af σ (ay H a (.bc C dx (gu f y fs))) s'->Q () s'):wpAny (model X.prog X.w) A (setAttr (.ref a) f u) Q E s:=by
 obtain⟨mA,O,r,wi,_,ho⟩:=Le I.aH e;have hz:(fs.map (·.1)).length<=sizeLine:=by rw[aL,sizeLine_eq];omega
 apply aeK I.gw O c.sa c.po n.agV c.hd wi hz fun h' O' sb=>h _ ?_;have hd:∃o,h'.get? dx=some o:=let ⟨o,_,_,e',_⟩:=O'.ns;⟨o,e'⟩;apply I.pZ (x:=a) (e:=dx) (by rw[e];exact True.intro) (.inr ho) (fun b q hb z=>(sb.2 b hb).trans z) hd ?_;apply⟨by rw[aq O.ne];exact ho,?_,O.ne,O'.obj,Z12 _ O'.ns (fun g=>?_) (fun g hg=>?_)⟩
 ·have:=RM f y fs;omega
 ·show iJ ((gu f y fs).lookup g) (if g=f then some u else mA g);rw[RK];by_cases q:g=f
  ·rw[aE q,aE q];exact ry
  ·rw[aB q,aB q];exact r g
 ·by_cases q:g=f
  ·rw[q];exact(JY f y fs).1
  ·refine(JY f y fs).2 g (wi g fun z=>hg ?_);show(if g=f then some u else mA g)=none;rw[aB q];exact z
def au.rT (I:au X af σ H s):au X af σ (ay (ay H s.heap.objs.size (.bO (s.heap.objs.size+1))) (s.heap.objs.size+1) (.bc C s.heap.objs.size [])) {s with heap:=(s.heap.push W.emptyDict).push (W.instObj C s.heap.objs.size)}:=by
 have e1:(s.heap.push W.emptyDict).get? s.heap.objs.size=some W.emptyDict:=eG s.heap rfl;have e2:((s.heap.push W.emptyDict).push (W.instObj C s.heap.objs.size)).get? (s.heap.objs.size+1)=some (W.instObj C s.heap.objs.size):=by
  have:=eG (s.heap.push W.emptyDict) (o:=W.instObj C s.heap.objs.size) rfl
  rwa [Heap.size_push]at this
 have e3:(s.heap.push W.emptyDict).Ns s.heap.objs.size (fun _=>none):=Z20 W.emptyDict (#[]) _ e1 rfl (fun e he=>absurd he (by simp)) (fun _=>rfl);have I1:=I.lg (a:=s.heap.objs.size) (o:=.bO (s.heap.objs.size+1)) (h':=s.heap.push W.emptyDict) (t':=s.toks) (fun b u q=>cM _ q) (bo _) ⟨_,e1⟩;apply I1.lg (a:=s.heap.objs.size+1) (o:=.bc C s.heap.objs.size []) (t':=s.toks) (fun b u q=>cM _ q) (Nat.le_of_eq (Heap.size_push _ _)) ?_;have ne:s.heap.objs.size≠s.heap.objs.size+1:=d9 (Nat.lt_succ_self _);apply⟨by rw[aq ne,aC],bA _,ne,e2,Z12 (fun _=>none) ((Heap.Ns1.of_empty e3).at fun o q=>cM _ q) (fun _=>True.intro) (fun y hy=>absurd rfl hy)⟩
def VG {prog:Program}{w:World}{env:Env}{e:Expr}{f:Str}{pos:Pos}{s:aw}{Q:ah->aw->Prop}(hb:attributeBase e f env (eval e env)=eval e env)(h:wpAny (model prog w) A (eval e env) (fun o cf=>wpAny (model prog w) A (getAttr o f true) Q E cf) E s):wpAny (model prog w) A (eval (.Attribute e f pos) env) Q E s :=
 Attribute_any_ h (by rw[arm_eval_Attribute,hb])
end
def Wp (K:aI)(ta:TE)(f:Str):TE:=fun σ H Q=>ta σ H fun x H1=>∃a C dx fs v,x= .ref a/\H1 a=some (.bc C dx fs)/\jA K C/\dU K C f/\fs.lookup f=some v/\Q v H1
def Wv (K:aI)(ta tv:TE)(f:Str):TS:=fun D σ H=>tv σ H fun y H1=>ta σ H1 fun x H2=>∃a C dx fs,x= .ref a/\H2 a=some (.bc C dx fs)/\jA K C/\dU K C f/\fs.length<1000 /\
 D.nx σ (ay H2 a (.bc C dx (gu f y fs)))
def MQ (X:Cx)(op:Operator)(rd:V->V->Hp->VK->Prop):Prop :=
 ∀(af:List (ae×Obj))(s:aw)(σ:St)(H:Hp)(x y:V)(u v:ah)(Q:VK),au X af σ H s->bF x u->bF y v->rd x y H Q->wpAny (model X.prog X.w) X.A (inplaceOp op u v) (EP X af σ Q) X.xe s
def aeO (K:aI)(ta tv:TE)(rd:V->V->Hp->VK->Prop)(f:Str):TS:=fun D σ H=>ta σ H fun x H1=>∃a C dx fs v,x= .ref a/\H1 a=some (.bc C dx fs)/\jA K C/\dU K C f/\fs.lookup f=some v /\
 tv σ H1 fun y H2=>rd v y H2 fun z H3=>∃dD xY,H3 a=some (.bc C dD xY)/\xY.length<1000/\D.nx σ (ay H3 a (.bc C dD (gu f z xY)))
section
variable {X:Cx}{o e value:Expr}{f:Str}{pos pos' jm:Pos}{ta tv:TE}
def aX (he:PE X e ta)(hb:attributeBase e f X.env (eval e X.env)=eval e X.env):PE X (.Attribute e f pos) (Wp X.K ta f):=by intro af s σ H Q I h;apply VG hb (aS (he af s σ H _ I h) fun u s1=>?_);rintro⟨x,H1,I1,rx,a,C,dx,fs,v,ex,ea,c,n,l,q⟩;subst ex;obtain rfl:u=Value.ref a:=rx;exact Sv I1 ea c n l fun u' s2 I2 ru=>⟨v,H1,I2,ru,q⟩
def fP (ha:PE X o ta)(hv:PE X value tv)(hs:swapsWith value (some (.Attribute o f pos')) pos.line X.env=pure false):PS X (.Assign [.Attribute o f pos'] value pos) (Wv X.K ta tv f):=by intro af s σ H D I h;apply plainObj_wpAny_Assign_Attribute (aS (hv af s σ H _ I h) fun u s1 ⟨y,H1,I1,ry,q⟩=>aS (ha af s1 σ H1 _ I1 q) fun ov s2=>?_) hs;rintro⟨x,H2,I2,rx,a,C,dx,fs,ex,ea,c,n,l,q2⟩;subst ex;obtain rfl:ov=Value.ref a:=rx;exact R9 I2 ea c n l ry fun s3 I3=>⟨σ,_,I3,q2⟩
def qO {op:Operator}{rd:V->V->Hp->VK->Prop}(ha:PE X o ta)(hv:PE X value tv)(hop:MQ X op rd):PS X (.AugAssign (.Attribute o f jm) op value pos) (aeO X.K ta tv rd f):=by intro af s σ H D I h;apply wpAny_AugAssign_AttributeAny (aS (ha af s σ H _ I h) fun ov s1=>?_);rintro⟨x,H1,I1,rx,a,C,dx,fs,v,ex,ea,c,n,l,q⟩;subst ex;obtain rfl:ov=Value.ref a:=rx;apply Sv I1 ea c n l fun u s2 I2 ru=>aS (hv af s2 σ H1 _ I2 q) fun w3 s3 ⟨y,H2,I3,ry,q3⟩=>aS (hop af s3 σ H2 v y u w3 _ I3 ru ry q3) fun w4 s4=>?_;rintro⟨z,H3,I4,rz,dD,xY,ea',l',q4⟩;exact R9 I4 ea' c n l' rz fun s5 I5=>⟨σ,_,I5,q4⟩
def aic:V->V->Hp->VK->Prop:=fun x y H Q=>∃i j,x= .int i/\y= .int j/\Q (.int (i+j)) H
def ah3:V->V->Hp->VK->Prop:=fun x y H Q=>∃i j,x= .int i/\y= .int j/\Q (.int (i-j)) H
def uh:MQ X .Add aic:=by rintro af s σ H x y u v Q I rx ry ⟨i,j,rfl,rfl,q⟩;obtain⟨t,rfl⟩:=(show∃t,u=Value.int i t from rx);obtain⟨t',rfl⟩:=(show∃t',v=Value.int j t' from ry);exact PyProof.Rows.iadd_int ⟨.int (i+j),H,I.dY _,⟨_,rfl⟩,q⟩
def agC:MQ X .Sub ah3:=by rintro af s σ H x y u v Q I rx ry ⟨i,j,rfl,rfl,q⟩;obtain⟨t,rfl⟩:=(show∃t,u=Value.int i t from rx);obtain⟨t',rfl⟩:=(show∃t',v=Value.int j t' from ry);exact PyProof.Rows.isub_int ⟨.int (i-j),H,I.dY _,⟨_,rfl⟩,q⟩
end
structure dB (k:Nat)(A:Around):Prop where
 hd:A.handled=none
 dp:A.depth+3*k+5<recursionLimit
 un:A.units+16*k+200<cLine
def dB.gv {j k:Nat}{A:Around}(r:dB k A)(h:j<=k):dB j A:=⟨r.hd,by have:=r.dp;omega,by have:=r.un;omega⟩
def dB.deeper {k:Nat}{A:Around}(r:dB (k+1) A)(env:Env):dB k (A.deeper env) :=
 ⟨r.hd,by have:=r.dp;show A.depth+1+3*k+5<_;omega,by have:=r.un;show A.units+3+16*k+200<_;omega⟩
def abC {A:Around}{C:ae}{us:List ah}{kw:List (Str×ah)}:(A.under (.builtin "type.__call__" ⟨.ref C::us,kw⟩)).depth=A.depth+1:=by first|rfl|simp[Around.under,Code.weight,Code.isCreation,Code.isGuard,Code.isCaller,Code.frames,Code.isFrame,guardIds]
def abB {A:Around}{C:ae}{us:List ah}{kw:List (Str×ah)}:(A.under (.builtin "type.__call__" ⟨.ref C::us,kw⟩)).units=A.units+1:=by first|rfl|simp[Around.under,Code.cUnits,Code.frames,Code.isFrame]
def dB.Ak {k:Nat}{A:Around}(r:dB (k+1) A)(C:ae)(us:List ah)(kw:List (Str×ah)):dB k (A.under (.builtin "type.__call__" ⟨.ref C::us,kw⟩)) :=
 ⟨r.hd,by have:=r.dp;rw[abC];omega,by have:=r.un;rw[abB];omega⟩
def dB.depth {k:Nat}{A:Around}(r:dB k A):A.depth<recursionLimit:=by have:=r.dp;omega
def dB.units {k:Nat}{A:Around}(r:dB k A):A.units+64<cLine:=by have:=r.un;omega
def Ma:TA:=fun _ H Q=>Q [] H
def ag2 (ta:TE)(tr:TA):TA:=fun σ H Q=>ta σ H fun x H1=>tr σ H1 fun xs H2=>Q (x::xs) H2
section
variable {X:Cx}{e:Expr}{es:List Expr}{te:TE}{t:TA}{pos:Pos}
def ax:PA X [] Ma:=fun _ _ _ _ H Q I h=>Calls.spliced_nil ⟨[],H,I,.nil,h⟩
def ao (ha:PE X e te)(hr:PA X es t)(hs:starEach (e::es) X.env=(false,eval e X.env)::starEach es X.env:=by rfl):PA X (e::es) (ag2 te t):=by intro pos af s σ H Q I h;rw[hs];show wpAny _ _ (spliced ((false,eval e X.env)::backTo pos (starEach es X.env))) _ _ s;apply Calls.spliced_cons (aS (ha af s σ H _ I h) fun u s1=>?_);rintro⟨x,H1,I1,r1,q1⟩;exact aS (hr pos af s1 σ H1 _ I1 q1) fun us s2 ⟨xs,H2,I2,r2,q2⟩=>⟨x::xs,H2,I2,.cons r1 r2,q2⟩
def ahM (t:TA):TE:=fun σ H Q=>t σ H fun xs H1=>xs.length<=sizeLine/\∀p,H1 p=none->Q (.ref p) (ay H1 p (.bp xs))
def ahQ (t:TA):TE:=fun σ H Q=>t σ H fun xs H1=>xs.length<=sizeLine/\∀p,H1 p=none->Q (.ref p) (ay H1 p (.ak xs))
def zP {x1}(h:PA X es t):PE X (.Tuple es x1 pos) (ahM t):=by intro af s σ H Q I hq;apply wpAny_Tuple_spliced (aS (h pos af s σ H _ I hq) fun us s1 ⟨xs,H1,I1,r,z,q⟩=>⟨by rw[<-r.length];exact z,?_⟩);have hf:H1 s1.heap.objs.size=none:=I1.aH.fresh (bo _);apply⟨.ref s1.heap.objs.size,ay H1 s1.heap.objs.size (.bp xs),I1.lg (t':=s1.toks) (fun b u e=>cM _ e) (bo _) ?_,rfl,q _ hf⟩;exact⟨z,us,r,⟨_,eG _ rfl,rfl,_,rfl⟩⟩
def cz (h:PA X es t):PE X (.List es pos) (ahQ t):=by intro af s σ H Q I hq;apply wpAny_List_spliced (aS (h pos af s σ H _ I hq) fun us s1 ⟨xs,H1,I1,r,z,q⟩=>⟨by rw[<-r.length];exact z,?_⟩);have hf:H1 s1.heap.objs.size=none:=I1.aH.fresh (bo _);apply⟨.ref s1.heap.objs.size,ay H1 s1.heap.objs.size (.ak xs),I1.lg (t':=s1.toks) (fun b u e=>cM _ e) (bo _) ?_,rfl,q _ hf⟩;exact Z41 z us 0 r (eG _ rfl)
end
abbrev Sp:=List V->Hp->VK->XK->Prop
abbrev ng:=List Env->Hp->aw->XK->ah->aw->Prop
structure uU (P:Program)(w:World)(K:aI)(mg:Str->Option ah)(base:Heap)(A:Around)(aG:List Env)(s:aw)(H:Hp):Prop where
 frames:A.frames=some aG
 iz:FG K mg base
 bs:∀b o,base.get? b=some o->s.heap.get? b=some o/\H b=none
 pw:base.objs.size<=s.heap.objs.size
 lY:s.heap.FunFrames base aG
 sY:∀b∈kW aG,H b=none
 aH:dh P w H s.heap
 fJ:AllBare s.gens
def CE (aG:List Env)(P:Program)(w:World)(H:Hp)(s:aw)(Q:VK)(u:ah)(s':aw):Prop :=
 ∃v H',s'.os=s.os/\AllBare s'.gens/\Un (kW aG) [] H H' s.heap s'.heap/\dh P w H' s'.heap/\bF v u/\Q v H'
def CR (CX:ng)(aG:List Env)(P:Program)(w:World)(H:Hp)(s:aw)(Q:VK)(E:XK)(r:Result)(s':aw):Prop :=
 match r with
 | .ok (.ret u)=>CE aG P w H s Q u s'
 | .ok _=>False
 | .error e=>CX aG H s E e s'
structure bg (P:Program)(w:World)(K:aI)(mg:Str->Option ah)(base:Heap)(CX:ng)(k:Nat)(f:ae)(fd:FuncData)(ps:List Str)(sp:Sp):Prop where
 eO:∀vs H Q E,sp vs H Q E->vs.length=ps.length
 nR:∀(A:Around)(aG:List Env)(s:aw)(H:Hp)(args:Args)(us:List ah)(vs:List V)(Q:VK)(E:XK),dB k A->uU P w K mg base A aG s H->BindsTo s fd args (ps.zip us)->be vs us->sp vs H Q E ->
  codeAny (model P w) A (.call (.ref f) args) (CR CX aG P w H s Q E) s
def uU.Ak {P:Program}{w:World}{K:aI}{mg:Str->Option ah}{base:Heap}{A:Around}{aG:List Env}{s:aw}{H:Hp}(e:uU P w K mg base A aG s H)(C:ae)(us:List ah)(kw:List (Str×ah)):uU P w K mg base (A.under (.builtin "type.__call__" ⟨.ref C::us,kw⟩)) aG s H:=⟨by first|exact e.frames|(simpa[Around.under,Code.envs,Code.isFrame,pushEnvs]using e.frames),e.iz,e.bs,e.pw,e.lY,e.sY,e.aH,e.fJ⟩
section
variable {X:Cx}{af:List (ae×Obj)}{σ:St}{H:Hp}{s s':aw}
def au.MH (I:au X af σ H s):uU X.prog X.w X.K X.mg X.base X.A X.stack s H :=
 ⟨I.ok.frames,I.ok.iz,I.bs,b3 I.ok.pw I.sz,I.stack,I.Dg,I.aH,I.fJ⟩
def au.L6 {Q:VK}{u:ah}(I:au X af σ H s)(h:CE X.stack X.prog X.w H s Q u s'):EP X af σ Q u s':=by obtain⟨v,H',os,fJ,un,aH,r,q⟩:=h;obtain⟨hh,g,d,t,os'⟩:=s';obtain rfl:os'=s.os:=os;exact⟨v,H',I.call (h':=hh) (g':=g) (d':=d) (t':=t) (ch:=[]) un aH fJ (fun b z=>absurd z (by simp)),r,q⟩
end
def ag3 (sp:Sp)(gS:List V)(E:XK)(t:TA):TE:=fun σ H Q=>t σ H fun vs H1=>sp (vs++gS) H1 Q E
def V6 (C:ae)(m:Str)(sp:Sp)(gS:List V)(E:XK)(ta:TE)(t:TA):TE:=fun σ H Q=>ta σ H fun x H1=>∃a dx fs,x= .ref a/\H1 a=some (.bc C dx fs)/\fs.lookup m=none /\
 t σ H1 fun vs H2=>sp (x::(vs++gS)) H2 Q E
def V7 (C:ae)(sp:Sp)(gS:List V)(E:XK)(t:TA):TE:=fun σ H Q=>t σ H fun vs H1=>∀x dx,H1 x=none->H1 dx=none->dx≠x ->
 sp (.ref x::(vs++gS)) (ay (ay H1 dx (.bO x)) x (.bc C dx [])) (fun v H2=>v= .bx/\Q (.ref x) H2) E
def j3 (K:aI)(fd:FuncData)(ps:List Str)(ds:List ah):Prop :=
 ∀(s:aw)(us:List ah),K.In s.heap->(us++ds).length=ps.length->BindsTo s fd ⟨us,[]⟩ (ps.zip (us++ds))
def j3.all {K:aI}{fd:FuncData}{ps:List Str}(h:∀us:List ah,us.length=ps.length->bindArgs fd ⟨us,[]⟩=pure (ps.zip us)):j3 K fd ps []:=fun s us _ hl=>by rw[nq]at hl⊢;exact .of_eq (h us hl)
def pY (CX:ng)(X:Cx)(E:XK):Prop:=∀(af:List (ae×Obj))(σ:St)(H:Hp)(s:aw)(e:ah)(s':aw),au X af σ H s->CX X.stack H s E e s'->X.xe e s'
section
variable {X:Cx}{CX:ng}{k:Nat}{f C:ae}{fd:FuncData}{ps:List Str}{sp:Sp}{gS:List V}{ds:List ah}{E:XK}{x m:Str}{p pos fK:Pos}{e o:Expr}{es:List Expr}{ta:TE}{t:TA}
def Lr {af:List (ae×Obj)}{σ:St}{H:Hp}{s:aw}{Q:VK}{us:List ah}{vs:List V}(F:bg X.prog X.w X.K X.mg X.base CX k f fd ps sp)(hr:dB k X.A)(hb:j3 X.K fd ps ds)(hd:be gS ds)(hx:pY CX X E)(I:au X af σ H s)(r:be vs us)(h:sp (vs++gS) H Q E):wpAny (model X.prog X.w) X.A (call (.ref f) us) (EP X af σ Q) X.xe s:=by
 have r2:be (vs++gS) (us++ds):=r.append hd;have hl:(us++ds).length=ps.length:=by rw[<-r2.length];exact F.eO _ _ _ _ h
 apply wpAny_call (codeAny_mono (F.nR X.A X.stack s H ⟨us,[]⟩ (us++ds) (vs++gS) Q E hr I.MH (hb s us I.gw hl) r2 h) fun r s' hq=>?_);cases r with
 | error e=>exact hx af σ H s e s' I hq
 | ok fl =>
  cases fl with
  | ret u=>exact I.L6 hq
  | next=>exact False.elim hq
  | brk=>exact False.elim hq
  | cont=>exact False.elim hq
def cy (F:bg X.prog X.w X.K X.mg X.base CX k f fd ps sp)(hr:dB k X.A)(hg:Gl X x)(hm:X.mg x=some (.ref f))(hk:W.keepIn X.K (.ref f)=true)(hb:j3 X.K fd ps ds)(hd:be gS ds)(hx:pY CX X E)(ha:PA X (e::es) t)(jT:(x==("__debug__":Str))=false:=by decide)(he:starEach (e::es) X.env=(false,eval e X.env)::starEach es X.env:=by rfl)(cR:(backTo pos (starEach es X.env)).any (·.1)=false:=by rfl):PE X (.Call (.Name x p) (e::es) [] pos) (ag3 sp gS E t):=by intro af s σ H Q I h;apply wpAny_Call_Name_kw (qX I hg hm ?_ jT);apply W.callWith_K (h₀:=X.base) I.ok.iz.xA hk (aS (ha pos af s σ H _ I h) fun us s1 ⟨vs,H1,I1,r,q⟩=>⟨I1.gw,?_⟩) he cR;exact Lr F hr hb hd hx I1 r q
def cT {pl:Sem Bool}(he:PE X o ta)(c:jA X.K C)(hm:fu X.K C m f)(F:bg X.prog X.w X.K X.mg X.base CX k f fd ps sp)(hr:dB k X.A)(hb:j3 X.K fd ps ds)(hd:be gS ds)(hx:pY CX X E)(ha:PA X (e::es) t)
  (fL:starEach (e::es) X.env=(false,eval e X.env)::starEach es X.env:=by rfl) (cR:(backTo pos (starEach es X.env)).any (·.1)=false:=by rfl)
  (ht:eval (.Call (.Attribute o m fK) (e::es) [] pos) X.env=(do
   let ov<-eval o X.env
   standAt fK.atName
   let (f,first)<-holding [ov] (getMethod ov m pl)
   callWith pos f first (backTo pos (starEach (e::es) X.env)) (backToKw pos (keywordEach [] X.env))):=by rfl) :
  PE X (.Call (.Attribute o m fK) (e::es) [] pos) (V6 C m sp gS E ta t):=by
 intro af s σ H Q I h;apply W.methodCall_KW (pl:=pl) (aS (he af s σ H _ I h) fun u s1=>?_) ht;rintro⟨x,H1,I1,rx,a,dx,fs,ex,ea,l,q⟩;subst ex;obtain rfl:u=Value.ref a:=rx;apply Su I1 ea c hm l ?_;apply W.callWith_K (first:=[.ref a]) (h₀:=X.base) I.ok.iz.xA hm.kp (aS (ha pos af s1 σ H1 _ I1 q) fun us s2 ⟨vs,H2,I2,r,q2⟩=>⟨I2.gw,?_⟩) fL cR;exact Lr (us:=.ref a::us) (vs:=.ref a::vs) F hr hb hd hx I2 (.cons rfl r) q2
def nB {pl:Sem Bool}(he:PE X o ta)(c:jA X.K C)(hm:fu X.K C m f)(F:bg X.prog X.w X.K X.mg X.base CX k f fd ps sp)(hr:dB k X.A)(hb:j3 X.K fd ps ds)(hd:be gS ds)(hx:pY CX X E)
  (ht:eval (.Call (.Attribute o m fK) [] [] pos) X.env=(do
   let ov<-eval o X.env
   standAt fK.atName
   let (f,first)<-holding [ov] (getMethod ov m pl)
   callWith pos f first (backTo pos (starEach [] X.env)) (backToKw pos (keywordEach [] X.env))):=by rfl) :
  PE X (.Call (.Attribute o m fK) [] [] pos) (V6 C m sp gS E ta Ma):=by
 intro af s σ H Q I h;apply W.methodCall_KW (pl:=pl) (aS (he af s σ H _ I h) fun u s1=>?_) ht;rintro⟨x,H1,I1,rx,a,dx,fs,ex,ea,l,q⟩;subst ex;obtain rfl:u=Value.ref a:=rx;apply Su I1 ea c hm l ?_;exact W.callWith_K0 (first:=[.ref a]) I1.gw hm.kp (Lr (us:=[.ref a]) (vs:=[.ref a]) F hr hb hd hx I1 (.cons rfl .nil) q)
structure Mk (K:aI)(C f:ae):Prop where
 ahk:W.makesIn K C=true
 aim:W.findIn K (.ref C) "__init__"=some (some (.ref f))
 fn:W.isFn K (.ref f)=true
 kp:W.keepIn K (.ref C)=true
def Uu {af:List (ae×Obj)}{σ:St}{H:Hp}{s:aw}{Q:VK}{us:List ah}{vs:List V}(M:Mk X.K C f)(F:bg X.prog X.w X.K X.mg X.base CX k f fd ps sp)(hr:dB (k+1) X.A)(hb:j3 X.K fd ps ds)(hd:be gS ds)(hx:pY CX X E)(I:au X af σ H s)(r:be vs us)(h:∀x dx,H x=none->H dx=none->dx≠x->sp (.ref x::(vs++gS)) (ay (ay H dx (.bO x)) x (.bc C dx [])) (fun v H2=>v= .bx/\Q (.ref x) H2) E):wpAny (model X.prog X.w) X.A (call (.ref C) us) (EP X af σ Q) X.xe s:=by
 have hq:=h (s.heap.objs.size+1) s.heap.objs.size (I.aH.fresh (Nat.le_succ _)) (I.aH.fresh (bo _)) (d9 (Nat.lt_succ_self _));have I2:=au.rT (C:=C) I;have r2:be (V.ref (s.heap.objs.size+1)::(vs++gS)) (Value.ref (s.heap.objs.size+1)::(us++ds)):=.cons rfl (r.append hd);have hl:(Value.ref (s.heap.objs.size+1)::us++ds).length=ps.length:=by have e:=r2.length;rw[F.eO _ _ _ _ hq]at e;exact e.symm
 apply wpAny_call (adR (f:=f) I.gw M.ahk M.aim (beq_iff_eq.mp M.fn) (codeAny_mono (F.nR _ X.stack _ _ ⟨Value.ref (s.heap.objs.size+1)::us,[]⟩ (Value.ref (s.heap.objs.size+1)::(us++ds)) _ _ E (hr.Ak C us [])
  (I2.MH.Ak C us []) (hb _ (Value.ref (s.heap.objs.size+1)::us) I2.gw hl) r2 hq) fun r s' lD=>?_))
 cases r with
 | error e=>exact hx af σ _ _ e s' I2 lD
 | ok fl =>
  cases fl with
  | ret u =>obtain⟨v,H',I3,rv,ev,q3⟩:=I2.L6 lD;subst ev;exact⟨rv,⟨V.ref (s.heap.objs.size+1),H',I3,rfl,q3⟩⟩
  | next=>exact False.elim lD
  | brk=>exact False.elim lD
  | cont=>exact False.elim lD
def zI (M:Mk X.K C f)(F:bg X.prog X.w X.K X.mg X.base CX k f fd ps sp)(hr:dB (k+1) X.A)(hg:Gl X x)(hm:X.mg x=some (.ref C))(hb:j3 X.K fd ps ds)(hd:be gS ds)(hx:pY CX X E)(ha:PA X (e::es) t)(jT:(x==("__debug__":Str))=false:=by decide)(he:starEach (e::es) X.env=(false,eval e X.env)::starEach es X.env:=by rfl)(cR:(backTo pos (starEach es X.env)).any (·.1)=false:=by rfl):PE X (.Call (.Name x p) (e::es) [] pos) (V7 C sp gS E t):=by intro af s σ H Q I h;apply wpAny_Call_Name_kw (qX I hg hm ?_ jT);apply W.callWith_K (h₀:=X.base) I.ok.iz.xA M.kp (aS (ha pos af s σ H _ I h) fun us s1 ⟨vs,H1,I1,r,q⟩=>⟨I1.gw,?_⟩) he cR;exact Uu M F hr hb hd hx I1 r q
def Ku (M:Mk X.K C f)(F:bg X.prog X.w X.K X.mg X.base CX k f fd ps sp)(hr:dB (k+1) X.A)(hg:Gl X x)(hm:X.mg x=some (.ref C))(hb:j3 X.K fd ps ds)(hd:be gS ds)(hx:pY CX X E)(jT:(x==("__debug__":Str))=false:=by decide):PE X (.Call (.Name x p) [] [] pos) (V7 C sp gS E Ma):=by intro af s σ H Q I h;apply wpAny_Call_Name_kw (qX I hg hm ?_ jT);exact W.callWith_K0 I.gw M.kp (Uu (us:=[]) M F hr hb hd hx I .nil h)
end
structure bD (N P:List Str)(sc:Scope):Prop where
 kind:sc.kind= .function
 co:sc.isCoroutine=false
 gen:sc.isGenerator=false
 nd:N.Nodup
 pre:N.take P.length=P
 EA:∀x∈P,sc.names.lookup x=some .local\/sc.names.lookup x=some .cell
 agr:∀y∈sc.names,y.2≠ .free
theorem T8 {kindOf:Str->Option NameKind}{x:Str}:∀{oG:List (Str×ah)}{m:Str->Option ah},(∀v,(x,v)∉oG)->bindL kindOf oG m x=m x
 | [],_,_=>rfl
 | (n,v)::r,m,h=>by
  unfold bindL;rw[T8 fun w hw=>h w (eF _ hw)];split
  ·have:x≠n:=by rintro rfl;exact h v List.mem_cons_self
   simp[this]
  ·rfl
theorem Ua {kindOf:Str->Option NameKind}{x:Str}:∀{oG:List (Str×ah)}{m:Str->Option ah},(∀v,(x,v)∉oG)->bindC kindOf oG m x=m x
 | [],_,_=>rfl
 | (n,v)::r,m,h=>by
  unfold bindC;rw[Ua fun w hw=>h w (eF _ hw)];split
  ·rfl
  ·have:x≠n:=by rintro rfl;exact h v List.mem_cons_self
   simp[this]
theorem T9 {kindOf:Str->Option NameKind}{x:Str}{v:ah}:∀{P:List Str}{vs:List ah}{i:Nat}{m:Str->Option ah},P.Nodup->P[i]?=some x->vs[i]?=some v->kindOf x=some .local->bindL kindOf (P.zip vs) m x=some v
 | [],_,_,_,_,h,_,_=>by simp at h
 | _::_,[],_,_,_,_,h,_=>by simp at h
 | p::P,w::vs,0,m,nd,h1,h2,hk=>by simp at h1 h2;subst h1;subst h2;show bindL kindOf ((p,w)::P.zip vs) m p=_;unfold bindL;rw[T8 fun v hv=>(List.nodup_cons.mp nd).1 (List.of_mem_zip hv).1,aE hk];simp
 | p::P,w::vs,i+1,m,nd,h1,h2,hk=>by show bindL kindOf ((p,w)::P.zip vs) m x=_;unfold bindL;exact T9 (i:=i) (List.nodup_cons.mp nd).2 (by simpa using h1) (by simpa using h2) hk
theorem Ub {kindOf:Str->Option NameKind}{x:Str}{v:ah}:∀{P:List Str}{vs:List ah}{i:Nat}{m:Str->Option ah},P.Nodup->P[i]?=some x->vs[i]?=some v->kindOf x≠some .local->bindC kindOf (P.zip vs) m x=some v
 | [],_,_,_,_,h,_,_=>by simp at h
 | _::_,[],_,_,_,_,h,_=>by simp at h
 | p::P,w::vs,0,m,nd,h1,h2,hk=>by simp at h1 h2;subst h1;subst h2;show bindC kindOf ((p,w)::P.zip vs) m p=_;unfold bindC;rw[Ua fun v hv=>(List.nodup_cons.mp nd).1 (List.of_mem_zip hv).1,aB hk];simp
 | p::P,w::vs,i+1,m,nd,h1,h2,hk=>by show bindC kindOf ((p,w)::P.zip vs) m x=_;unfold bindC;exact Ub (i:=i) (List.nodup_cons.mp nd).2 (by simpa using h1) (by simpa using h2) hk
def start (N:List Str)(vs:List V):St:=vs.map some++List.replicate (N.length-vs.length) none
noncomputable def nO (CX:ng)(P:Program)(w:World)(K:aI)(mg:Str->Option ah)(base:Heap)(N:List Str)(qual:Str)(scope:Scope)(f:ae)(cd:ah)(A:Around)(aG:List Env)(s:aw)(H:Hp)(E:XK):Cx where
 prog:=P
 w:=w
 K:=K
 mg:=mg
 base:=base
 A:=A.deeper (envOfC qual scope s.heap.objs.size f cd)
 N:=N
 iw:=s
 H_0:=H
 env:=envOfC qual scope s.heap.objs.size f cd
 aG:=aG
 stack:=envOfC qual scope s.heap.objs.size f cd::aG
 ex:=[]
 gM:=true
 fn:=fun _=>true
 pn:=[]
 xe:=fun e s'=>wpAny (model P w) (A.deeper (envOfC qual scope s.heap.objs.size f cd)) (leaving (envOfC qual scope s.heap.objs.size f cd) e) (fun _ AA=>CX aG H s E e AA) (fun e' AA=>CX aG H s E e' AA) s'
def U2 {sc:Scope}{n:Nat}{x:Str}(h:sc.names.lookup x=some .cell):∃c,(cellsFrom n sc.names []).lookup x=some c:=by have q:=W.cellsFrom_some sc.names n [] (.inl h);exact Option.isSome_iff_exists.mp q
def acL {CX:ng}{P:Program}{w:World}{K:aI}{mg:Str->Option ah}{base:Heap}{N ps:List Str}{qual:Str}{scope:Scope}{f:ae}{cd:ah}{A:Around}{aG:List Env}{s s1:aw}{H:Hp}{E:XK}{us:List ah}{vs:List V}(S:bD N ps scope)(hd:A.handled=none)(e0:uU P w K mg base A aG s H)(hl:vs.length=ps.length)(r:be vs us)(x:InCallC s s.heap.objs.size (bindL (envOfC qual scope s.heap.objs.size f cd).kindOf (ps.zip us) fun _=>none) (cellsFrom (s.heap.objs.size+1) scope.names []) (bindC (envOfC qual scope s.heap.objs.size f cd).kindOf (ps.zip us) fun _=>none) s1):au (nO CX P w K mg base N qual scope f cd A aG s H E) [] (start N vs) H s1:=by
 have cR:ps.length<=N.length:=by have:=congrArg List.length S.pre;rw[gH]at this;omega
 obtain⟨h1,tk,rfl,hk⟩:=x.done;have xw:∀b:ae,b∉(nO CX P w K mg base N qual scope f cd A aG s H E).ex:=fun b z=>absurd (show b∈([]:List ae)from z) (by simp);apply⟨⟨e0.iz,S.kind,rfl,rfl,bo _,fun y z c h1 h2=>?_,fun y hy=>?_,fun y c _ h=>?_,fun _=>hd,Around.frames_deeper e0.frames,.inr ⟨rfl,rfl⟩,fun b z=>absurd z (xw b),e0.bs,e0.pw,fun b _ _=>xw b,fun b z=>absurd z (xw b),e0.lY,e0.sY⟩,
  rfl,e0.fJ,Un.fI hk,⟨_,x.toInCall.ns,fun i y v h1 h2 h3=>?_⟩,fun y c h=>⟨_,x.cell y c h⟩,e0.aH.fresh (bo _),fun y c h=>?_,fun p hp=>absurd (show p∈([]:List (ae×Obj))from hp) (by simp),e0.aH.fI hk,?_⟩
 ·exact name_of_addr x.apart (PySem.mem_of_lookup h1) (PySem.mem_of_lookup h2)
 ·have hy:scope.names.lookup y=some .cell\/scope.names.lookup y=some .free:=hy;rcases hy with hy|hy
  ·exact U2 hy
  ·exact absurd rfl (S.agr _ (PySem.mem_of_lookup hy))
 ·exact Nat.le_of_lt (x.above y c (PySem.mem_of_lookup h))
 ·have hi:i<vs.length:=by
   unfold start at h2;by_cases hi:i<vs.length
   ·exact hi
   ·rw[List.getElem?_append_right (by simpa using hi)]at h2;rw[List.getElem?_replicate]at h2;split at h2<;>cases h2
  have ha:vs[i]?=some v:=by
   unfold start at h2;rw[List.getElem?_append_left (by simpa using hi),bR]at h2;cases e:vs[i]? with
   | none=>rw[e]at h2;cases h2
   | some a=>rw[e]at h2;cases h2;rfl
  obtain⟨u,hu,rv⟩:=r.get ha;have hp:ps[i]?=some y:=by rw[<-S.pre,List.getElem?_take_of_lt ⋯];exact h1
  have Xv:ps.Nodup:=by rw[<-S.pre];exact S.nd.sublist (List.take_sublist _ _)
  apply⟨u,rv,?_⟩;rcases S.EA y (fC hp)with k|k
  ·exact .inl ⟨k,T9 Xv hp hu k⟩
  ·obtain⟨c,e⟩:=U2 (n:=s.heap.objs.size+1) k;apply .inr ⟨.inl k,c,e,?_⟩;have q:=x.cell y c e;rw[Ub Xv hp hu (by show scope.names.lookup y≠_;rw[k];decide)]at q;exact q
 ·exact e0.aH.fresh (Nat.le_of_lt (x.above y c (PySem.mem_of_lookup h)))
 ·unfold start;show _=N.length;rw[cq,aL,List.length_replicate];omega
def ahI {CX:ng}{P:Program}{w:World}{K:aI}{mg:Str->Option ah}{base:Heap}{k:Nat}{f:ae}{name qual:Str}{params:Arguments}{body:List Stmt}{scope:Scope}{dV kV doc pm aU ct oc:ah}{an od:Option ae}{xr:Array (Option ah)}{N ps:List Str}{sp:Sp}(lk:K.lookup f=some ⟨oc,od,.func (W.fnOf name qual params body scope dV kV doc pm an aU ct),xr⟩)(jy:W.codeIn K aU qual=true)(S:bD N ps scope)(eO:∀vs H Q E,sp vs H Q E->vs.length=ps.length)(Aa:∀(A:Around)(aG:List Env)(s:aw)(H:Hp)(vs:List V)(Q:VK)(E:XK),dB k (A.deeper (envOfC qual scope s.heap.objs.size f aU))->sp vs H Q E->∃t,jW (nO CX P w K mg base N qual scope f aU A aG s H E) body t/\t {nx:=fun _ H'=>Q .bx H',rt:=Q} (start N vs) H):bg P w K mg base CX (k+1) f (W.fnOf name qual params body scope dV kV doc pm an aU ct) ps sp:=by
 apply⟨eO,fun A aG s H args us vs Q E hr e0 hb r mI=>?_⟩;have hl:=eO _ _ _ _ mI;have KX:K.In s.heap:=e0.iz.xA.keeps fun b o e=>(e0.bs b o e).1;have lim:s.heap.NoLimit:=e0.iz.nolimit.keeps fun b o e=>(e0.bs b o e).1;have ahC:∀y∈ps.zip us,scope.names.lookup y.1=some .local\/(scope.names.lookup y.1=some .cell/\((cellsFrom (s.heap.objs.size+1) scope.names []).lookup y.1).isSome=true):=fun⟨n,v⟩ hy=>by
  rcases S.EA n (List.of_mem_zip hy).1 with q|q
  ·exact .inl q
  ·exact .inr ⟨q,W.cellsFrom_some _ _ _ (.inl q)⟩
 apply codeAny_call_function hr.depth (KX _ _ lk) rfl S.co S.gen rfl (W.codeRec_of KX jy) (hb _ _ _ _ ?_);apply wpAny_newFunctionEnv_cells S.kind ahC fun env he s1 x=>?_;subst he;apply⟨lim.keeps x.toInCall.keep,codeAny_func ?_⟩;obtain⟨t,ht,hq⟩:=Aa A aG s H vs Q E (hr.deeper _) mI;have I:au (nO CX P w K mg base N qual scope f aU A aG s H E) [] (start N vs) H s1:=acL S hr.hd e0 hl r x;apply wpAny_mono (ht [] s1 (start N vs) H _ I hq) (fun fl s' hs=>?_) fun e s' hs=>hs;have fin:∀{aK:St}{H':Hp}{v:V}{u:ah},au (nO CX P w K mg base N qual scope f aU A aG s H E) [] aK H' s'->bF v u->Q v H'->CE aG P w H s Q u s' :=
  fun{aK H' v u}J rv q=>⟨v,H',J.os,J.fJ,J.base,J.aH,rv,q⟩
 cases fl with
 | ret u =>obtain⟨v,aK,H',J,rv,q⟩:=hs;exact fin J rv q
 | next =>obtain⟨aK,H',J,q⟩:=hs;exact fin (v:=V.bx) (u:=Value.none) J rfl q
 | brk =>obtain⟨_,_,_,q⟩:=hs;exact False.elim q
 | cont =>obtain⟨_,_,_,q⟩:=hs;exact False.elim q
section
variable {X:Cx}{x:Str}{p pos:Pos}{e:Expr}{es:List Expr}{t:TA}{id T:String}{r:List V->Hp->VK->Prop}
def Xg (r:List V->Hp->VK->Prop)(t:TA):TE:=fun σ H Q=>t σ H fun vs H1=>r vs H1 Q
def cD (hc:nI X (.builtin id) r)(hg:Gl X x)(hm:X.mg x=none)(hv:bootBuiltins x=some (.builtin id))(ha:PA X (e::es) t)(hn:x≠"__name__":=by decide)(jT:(x==("__debug__":Str))=false:=by decide)(he:starEach (e::es) X.env=(false,eval e X.env)::starEach es X.env:=by rfl)(cR:(backTo pos (starEach es X.env)).any (·.1)=false:=by rfl):PE X (.Call (.Name x p) (e::es) [] pos) (Xg r t):=by intro af s σ H Q I h;apply wpAny_Call_Name_kw (oA I hg hm hv ?_ hn jT);exact PyProof.Rows.callWith_builtin1 (aS (ha pos af s σ H _ I h) fun us s1 ⟨vs,H1,I1,r1,q1⟩=>hc af s1 σ H1 vs us Q I1 r1 q1) he cR
def acw (hc:nI X (.type T) r)(hg:Gl X x)(hm:X.mg x=none)(hv:bootBuiltins x=some (.type T))(ha:PA X (e::es) t)(hn:x≠"__name__":=by decide)(jT:(x==("__debug__":Str))=false:=by decide)(he:starEach (e::es) X.env=(false,eval e X.env)::starEach es X.env:=by rfl)(cR:(backTo pos (starEach es X.env)).any (·.1)=false:=by rfl):PE X (.Call (.Name x p) (e::es) [] pos) (Xg r t):=by intro af s σ H Q I h;apply wpAny_Call_Name_kw (oA I hg hm hv ?_ hn jT);exact PyProof.Rows.callWith_type1 (aS (ha pos af s σ H _ I h) fun us s1 ⟨vs,H1,I1,r1,q1⟩=>hc af s1 σ H1 vs us Q I1 r1 q1) he cR
end
end L2
namespace HT
open PySem PyProof.Rows
section
variable {prog:Program}{w:World}{A:Around}{E:ah->aw->Prop}{s:aw}
def cA (n d:Nat):Option Int->Nat
 | none=>d
 | some v=>if v<0 then(v+(n:Int)).toNat else min v.toNat n
def VM (n d:Nat)(hd:d<=n)(o:Option Int):cA n d o<=n:=by
 cases o with
 | none=>exact hd
 | some v =>
  show(if v<0 then(v+(n:Int)).toNat else min v.toNat n)<=n;by_cases hv:v<0
  ·rw[aE hv];omega
  ·rw[aB hv];exact Nat.min_le_right _ _
end
end HT
namespace L2
open PySem PySem.Spec PyProof.Rows
abbrev TO:=St->Hp->(Option Int->Hp->Prop)->Prop
def PO (X:Cx)(e:Option Expr)(t:TO):Prop :=
 ∀(af:List (ae×Obj))(s:aw)(σ:St)(H:Hp)(Q:Option Int->Hp->Prop),au X af σ H s->t σ H Q ->
  wpAny (model X.prog X.w) X.A (evalPart e X.env) (fun u s'=>∃o H',au X af σ H' s'/\IsPart u o/\Q o H') X.xe s
def aep:TO:=fun _ H Q=>Q none H
def agX (t:TE):TO:=fun σ H Q=>t σ H fun x H1=>∃i,x= .int i/\Q (some i) H1
section
variable {X:Cx}{e:Expr}{te:TE}{lo hi:Option Expr}{tl th:TO}{pos p2:Pos}
def K5:PO X none aep:=by intro af s σ H Q I h;rw[evalPart_none];exact aZ ⟨none,H,I,.none,h⟩
def lR (h:PE X e te):PO X (some e) (agX te):=by intro af s σ H Q I hw;rw[evalPart_some];apply aS (h af s σ H _ I hw) fun u s1=>?_;rintro⟨x,H1,I1,r1,q1⟩;obtain⟨i,rfl,q⟩:=q1;obtain⟨t,rfl⟩:=r1;exact⟨some i,H1,I1,.int i t,q⟩
def Oq (X:Cx)(r:V->Option Int->Option Int->Hp->VK->Prop):Prop :=
 ∀(af:List (ae×Obj))(s:aw)(σ:St)(H:Hp)(x:V)(v vl vu:ah)(lo hi:Option Int)(sl:ae)(Q:VK),au X af σ H s->bF x v->s.heap.IsSliceOf sl vl vu .none->IsPart vl lo->IsPart vu hi->r x lo hi H Q ->
  ∃T id,typeLookup (.type T) "__getitem__"=pure (some (.builtin id))/\s.TypeIs v T/\wpAny (model X.prog X.w) X.A (getItem v (.ref sl)) (EP X af σ Q) X.xe s
def tSl (r:V->Option Int->Option Int->Hp->VK->Prop)(te:TE)(tl th:TO):TE:=fun σ H Q=>te σ H fun x H1=>tl σ H1 fun l H2=>th σ H2 fun u H3=>r x l u H3 Q
def qS {r:V->Option Int->Option Int->Hp->VK->Prop}(hr:Oq X r)(he:PE X e te)(hl:PO X lo tl)(hu:PO X hi th):PE X (.Subscript e (.Slice lo hi none p2) pos) (tSl r te tl th):=by intro af s σ H Q I h;apply Subscript_ (aS (he af s σ H _ I h) fun v s1=>?_);rintro⟨x,H1,I1,r1,q1⟩;apply wpAny_Slice (aS (hl af s1 σ H1 _ I1 q1) fun vl s2 ⟨l,H2,I2,pl,q2⟩=>aS (hu af s2 σ H2 _ I2 q2) fun vu s3=>?_);rintro⟨u,H3,I3,pu,q3⟩;rw[evalPart_none];apply aZ ?_;have I4:au X af σ H3 {s3 with heap:=s3.heap.push {cls:=.type "slice",data:=.fields #[vl,vu,.none]}}:=I3.fI (t':=s3.toks) fun b ob q=>cM _ q;obtain⟨T,id,hT,ht,hg⟩:=hr af {s3 with heap:=s3.heap.push {cls:=.type "slice",data:=.fields #[vl,vu,.none]}} σ H3 x v vl vu l u s3.heap.objs.size Q I4 r1 (Heap.IsSliceOf.new ..) pl pu q3;show wpAny (model X.prog X.w) X.A (subscriptTail e (.Slice lo hi none p2) v (.ref s3.heap.objs.size)) (EP X af σ Q) X.xe {s3 with heap:=s3.heap.push {cls:=.type "slice",data:=.fields #[vl,vu,.none]}};exact tail_any (ops:=[.ref s3.heap.objs.size,v]) ht hT hg (by with_unfolding_all rfl)
def j5 (xs:List V)(lo hi:Option Int):List V:=(xs.drop (HT.cA xs.length 0 lo)).take (HT.cA xs.length xs.length hi-HT.cA xs.length 0 lo)
def aaR (xs:List V)(lo hi:Option Int):(j5 xs lo hi).length<=xs.length:=by unfold j5;rw[gH,jX];omega
end
def sk (n:Nat)(i:Int):Option Nat:=if 0<=i then(if i<n then some i.toNat else none)else if -(n:Int)<=i then some (i+n).toNat else none
def pC {α:Type}(xs:List α)(i:Int):Option α:=(sk xs.length i).bind fun j=>xs[j]?
def afj {n:Nat}{i:Int}{j:Nat}(h:sk n i=some j):seqIndex? i n=some j/\j<n/\ -(n:Int)<=i/\i<n:=by
 unfold sk at h;by_cases h0:0<=i
 ·rw[aE h0]at h;by_cases h1:i<n
  ·rw[aE h1]at h;have e:i.toNat=j:=d3 h;exact⟨by rw[seqIndex_of h0 h1,e],by omega,by omega,h1⟩
  ·rw[aB h1]at h;cases h
 ·rw[aB h0]at h;by_cases h1: -(n:Int)<=i
  ·rw[aE h1]at h;have e:(i+n).toNat=j:=d3 h;exact⟨by rw[seqIndex_neg ⋯ h1,e],by omega,h1,by omega⟩
  ·rw[aB h1]at h;cases h
def Lk {α:Type}{xs:List α}{i:Int}{v:α}(h:pC xs i=some v):∃j,seqIndex? i xs.length=some j/\xs[j]?=some v/\j<xs.length/\ -(xs.length:Int)<=i/\i<xs.length:=by
 unfold pC at h;cases e:sk xs.length i with
 | none=>rw[e]at h;cases h
 | some j =>rw[e]at h;obtain⟨h1,h2,h3,h4⟩:=afj e;exact⟨j,h1,h,h2,h3,h4⟩
def dH {α:Type}{xs:List α}{j:Nat}{v:α}(h:xs[j]?=some v):pC xs (j:Int)=some v:=by
 have hj:j<xs.length:=(fD.mp h).1;have e:sk xs.length (j:Int)=some j:=by unfold sk;rw[aE ⋯,aE ⋯];simp
 unfold pC;rw[e];exact h
def KP {α:Type}(xs:List α)(v:α):pC (xs++[v]) (-1)=some v:=by
 have hl:(xs++[v]).length=xs.length+1:=by simp
 have e:sk (xs++[v]).length (-1)=some xs.length:=by unfold sk;rw[hl,aB (by decide),aE ⋯];congr 1;omega
 unfold pC;rw[e];show(xs++[v])[xs.length]?=some v;simp
def afO (b:Expr):Prop:=∀o i,subscripted b false o i=operate [o,i] (getItem o i)
def FH (X:Cx)(r:R2):Prop :=
 ∀(value slice:Expr)(af:List (ae×Obj))(s:aw)(σ:St)(H:Hp)(x y:V)(v u:ah)(Q:VK),au X af σ H s->bF x v->bF y u->r x y H Q ->
  subscripted slice false v u=operate [v,u] (getItem v u)->wpAny (model X.prog X.w) X.A (subscriptTail value slice v u) (EP X af σ Q) X.xe s
def qz (X:Cx)(id:String)(r:V->List V->Hp->VK->Prop):Prop :=
 ∀(af:List (ae×Obj))(s:aw)(σ:St)(H:Hp)(x:V)(xs:List V)(v:ah)(us:List ah)(Q:VK),au X af σ H s->bF x v->be xs us->r x xs H Q ->
  wpAny (model X.prog X.w) X.A (call (.builtin id) (v::us)) (EP X af σ Q) X.xe s
section
variable {X:Cx}{a b:Expr}{ta tb:TE}{pos:Pos}
def cZ {r:R2}(hr:FH X r)(ha:PE X a ta)(hb:PE X b tb)(hs:afO b):PE X (.Subscript a b pos) (Eo r ta tb):=by intro af s σ H Q I h;exact Subscript_ (MJ ha hb I h fun v u s2 x y H2 I2 rx ry q=>hr a b af s2 σ H2 x y v u Q I2 rx ry q (hs _ _))
def Ww (K:aI):R2:=fun x y H Q=>∃p xs i v,x= .ref p/\y= .int i/\aA K H p xs/\pC xs i=some v/\Q v H
def ah7 (K:aI):R2:=fun x y H Q=>∃p xs i v,x= .ref p/\y= .int i/\cS K H p xs/\pC xs i=some v/\Q v H
def ah8:R2:=fun x y H Q=>∃z i c,x= .str z/\y= .int i/\z.length<=sizeLine/\pC z.cps.toList i=some c/\Q (.str ⟨#[c]⟩) H
def eU:FH X (Ww X.K):=by
 intro value slice af s σ H x y v u Q I rx ry h hs;obtain⟨p,xs,i,z,rfl,rfl,hq,he,q⟩:=h;cases rx;obtain⟨t,rfl⟩:=ry;obtain⟨its,r,pl,hz⟩:=I.list hq;obtain⟨j,h1,h2,h3,h4,h5⟩:=Lk he;obtain⟨w,ew,j8⟩:=r.get h2;have hl:=r.length;have hn:=wG;have fin:EP X af σ Q w s:=⟨z,H,I,j8,q⟩;by_cases h0:0<=i
 ·have hj:i.toNat=j:=by rw[seqIndex_of h0 h5]at h1;exact d3 h1
  exact item_listR pl.isList h0 ⋯ (by rw[hj];simpa using ew) fin hs
 ·have hj:(i+(its.toArray.size:Int)).toNat=j:=by rw[seqIndex_neg ⋯ h4]at h1;rw[gj,<-hl];exact d3 h1
  exact subscriptTail_builtinR (x:=w) pl.isList.typeIs slot_list_getitem.lookup
   (wpAny_getItem_list_neg (Q:=fun r s'=>r=w/\EP X af σ Q r s') pl.isList ⋯ (by rw[gj]<;>omega) ⋯ (by rw[hj];simpa using ew) ⟨rfl,fin⟩) hs
def zR:FH X (ah7 X.K):=by
 intro value slice af s σ H x y v u Q I rx ry h hs;obtain⟨p,xs,i,z,rfl,rfl,hq,he,q⟩:=h;cases rx;obtain⟨t,rfl⟩:=ry;obtain⟨its,r,pl,hz⟩:=I.tuple hq;obtain⟨j,h1,h2,h3,h4,h5⟩:=Lk he;obtain⟨w,ew,j8⟩:=r.get h2;have hl:=r.length;have hn:=wG;have fin:EP X af σ Q w s:=⟨z,H,I,j8,q⟩;exact subscriptTail_builtinR (x:=w) pl.typeIs slot_tuple_getitem.lookup
  (getItem_tuple (j:=j) (Q:=fun r s'=>r=w/\EP X af σ Q r s') pl ⋯ ⋯ (by rw[gj,<-hl];exact h1) (by simpa using ew) ⟨rfl,fin⟩) hs
def zS:FH X ah8:=by
 intro value slice af s σ H x y v u Q I rx ry h hs;obtain⟨z,i,c,rfl,rfl,hz,he,q⟩:=h;obtain⟨t,rfl⟩:=rx;obtain⟨t',rfl⟩:=ry;obtain⟨j,h1,h2,h3,h4,h5⟩:=Lk he;have hl:z.cps.toList.length=z.length:=by simp[Str.length]
 rw[hl]at h1 h4 h5;have hn:=wG;exact tail_any (typeIs_str s z t) slot_str_getitem.lookup (getItem_str (c:=c) (by have e1:decide (i< -(2^63:Int))=false:=bZ ⋯;have e2:decide (i≥2^63)=false:=bZ ⋯;rw[e1,e2,Bool.or_false]) (by rw[h1];simpa using h2) ⟨.str ⟨#[c]⟩,H,I.dY _,⟨_,rfl⟩,q⟩) hs
def Z5 (lo hi:Option Int)(n:Nat):(sliceBounds lo hi none n).1=((HT.cA n 0 lo:Nat):Int)/\(sliceBounds lo hi none n).2.1=((HT.cA n n hi:Nat):Int)/\(sliceBounds lo hi none n).2.2=1:=by
 apply⟨?_,?_,rfl⟩
 ·cases lo with
  | none=>simp[sliceBounds,HT.cA]
  | some i =>
   simp only[sliceBounds,HT.cA,Option.getD_none,show(1:Int)>0 by decide,if_true];by_cases h:i<0
   ·simp only[h,if_true]<;>omega
   ·simp only[h,if_false]<;>omega
 ·cases hi with
  | none=>simp[sliceBounds,HT.cA]
  | some i =>
   simp only[sliceBounds,HT.cA,Option.getD_none,show(1:Int)>0 by decide,if_true];by_cases h:i<0
   ·simp only[h,if_true]<;>omega
   ·simp only[h,if_false]<;>omega
def ZF (its:List ah)(lo hi:Option Int):slicePick its.toArray lo hi none=((its.drop (HT.cA its.length 0 lo)).take (HT.cA its.length its.length hi-HT.cA its.length 0 lo)).toArray:=by obtain⟨h1,h2,h3⟩:=Z5 lo hi its.toArray.size;unfold slicePick;rw[h1,h2,h3];simp only[sliceRange_one,pick_run,gj]<;>rfl
def ah5 (K:aI):V->Option Int->Option Int->Hp->VK->Prop:=fun x lo hi H Q=>∃a xs,x= .ref a/\aA K H a xs/\∀p,H p=none->Q (.ref p) (ay H p (.ak (j5 xs lo hi)))
def wx:Oq X (ah5 X.K):=by intro af s σ H x v vl vu lo hi sl Q I rx hs pl pu h;obtain⟨a,xs,rfl,hx,q⟩:=h;cases rx;obtain⟨its,r,ht,hz⟩:=I.list hx;have bN:=r.length;apply⟨"list",_,slot_list_getitem.lookup,ht.isList.typeIs,?_⟩;apply wpAny_getItem_list_slice ht.isList hs pl pu .none (by simp) ?_ (by rw[gj]<;>omega);rw[ZF,<-bN];apply⟨.ref s.heap.objs.size,_,I.lg (t':=s.toks) (o:=.ak (j5 xs lo hi)) (fun b ob q=>cM _ q) (bo _) ?_,rfl,q _ (I.aH.fresh (bo _))⟩;exact Z41 (b3 (aaR xs lo hi) hz) _ 0 ((r.drop (HT.cA xs.length 0 lo)).take (HT.cA xs.length xs.length hi-HT.cA xs.length 0 lo)) (eG _ rfl)
def qc:V->Bool
 | .bx=>true
 | .bl _=>true
 | .int _=>true
 | .str _=>true
 | _=>false
noncomputable def og:V->V->Bool
 | .bx,.bx=>true
 | .bl a,.bl b=>a==b
 | .bl a,.int b=>(if a then 1 else 0)==b
 | .int a,.bl b=>a==(if b then 1 else 0)
 | .int a,.int b=>a==b
 | .str a,.str b=>a==b
 | _,_=>false
def agI {A:Around}{s:aw}{y x:V}{u v:ah}(ry:bF y u)(rx:bF x v)(fy:qc y=true)(fx:qc x=true):SeqAt.EqAt A s u v (og y x):=by
 cases y with
 | bx =>
  cases ry;cases x with
  | bx=>cases rx;exact SeqAt.EqAt.same _
  | bl b=>cases rx;exact SeqAt.EqAt.none_bool b
  | int b=>obtain⟨t,rfl⟩:=rx;exact SeqAt.EqAt.none_int b t
  | str b=>obtain⟨t,rfl⟩:=rx;exact SeqAt.EqAt.none_str b t
  | _=>exact absurd (show false=true from fx) fE
 | bl a =>
  cases ry;cases x with
  | bx=>cases rx;exact SeqAt.EqAt.bool_none a
  | bl b=>cases rx;exact SeqAt.EqAt.bool_bool a b
  | int b=>obtain⟨t,rfl⟩:=rx;exact SeqAt.EqAt.bool_int a b t
  | str b=>obtain⟨t,rfl⟩:=rx;exact SeqAt.EqAt.bool_str a b t
  | _=>exact absurd (show false=true from fx) fE
 | int a =>
  obtain⟨t',rfl⟩:=ry;cases x with
  | bx=>cases rx;exact SeqAt.EqAt.int_none a t'
  | bl b=>cases rx;exact SeqAt.EqAt.int_bool a t' b
  | int b=>obtain⟨t,rfl⟩:=rx;exact SeqAt.EqAt.int_int a t' b t
  | str b=>obtain⟨t,rfl⟩:=rx;exact SeqAt.EqAt.int_str a t' b t
  | _=>exact absurd (show false=true from fx) fE
 | str a =>
  obtain⟨t',rfl⟩:=ry;cases x with
  | bx=>cases rx;exact SeqAt.EqAt.str_none a t'
  | bl b=>cases rx;exact SeqAt.EqAt.str_bool a t' b
  | int b=>obtain⟨t,rfl⟩:=rx;exact SeqAt.EqAt.str_int a t' b t
  | str b=>obtain⟨t,rfl⟩:=rx;exact SeqAt.EqAt.str_str a t' b t
  | _=>exact absurd (show false=true from fx) fE
 | _=>exact absurd (show false=true from fy) fE
def Oc (x:V)(u:ah):Bool:=match u with
 | .none=>og .bx x
 | .bool b=>og (.bl b) x
 | .int i _=>og (.int i) x
 | .str z _=>og (.str z) x
 | _=>false
def LH {x y:V}{u:ah}(r:bF y u)(f:qc y=true):Oc x u=og y x:=by
 cases y with
 | bx=>cases r;rfl
 | bl b=>cases r;rfl
 | int i=>obtain⟨t,rfl⟩:=r;rfl
 | str z=>obtain⟨t,rfl⟩:=r;rfl
 | _=>exact absurd (show false=true from f) fE
theorem UJ {A:Around}{s:aw}{x:V}{v:ah}(rx:bF x v)(fx:qc x=true):∀{xs:List V}{us:List ah},be xs us->xs.all qc=true->∀u∈us,SeqAt.EqAt A s u v (Oc x u)
 | _,_,.nil,_=>fun u hu=>by cases hu
 | y::xs,u::us,.cons r t,f=>fun u' hu=>by
  rw[List.all_cons,dw]at f;rcases dv.mp hu with rfl|hu
  ·rw[LH r f.1];exact agI r rx f.1 fx
  ·exact UJ rx fx t f.2 u' hu
def gA:nI X (.builtin "len") (fun xs H Q=>∃p ys,xs=[.ref p]/\(aA X.K H p ys\/cS X.K H p ys)/\Q (.int ys.length) H):=by
 intro af s σ H xs us Q I r h;obtain⟨p,ys,rfl,hq,q⟩:=h;obtain⟨u,rfl,rx⟩:=DI r;cases rx;have hn:=wG;rcases hq with hq|hq
 ·obtain⟨its,r',pl,hz⟩:=I.list hq;have bN:=r'.length;exact Calls.call_len_list pl.isList (by simp only[gj]<;>omega) ⟨.int ys.length,H,I.dY _,⟨s.toks+1,by rw[gj,bN]⟩,q⟩
 ·obtain⟨its,r',pl,hz⟩:=I.tuple hq;have bN:=r'.length;exact len_tuple pl (by simp only[gj]<;>omega) ⟨.int ys.length,H,I.dY _,⟨s.toks+1,by rw[gj,bN]⟩,q⟩
def om:nI X (.builtin "len") (fun xs H Q=>∃z,xs=[.str z]/\z.length<=sizeLine/\Q (.int z.length) H):=by intro af s σ H xs us Q I r h;obtain⟨z,rfl,hz,q⟩:=h;obtain⟨u,rfl,t,rfl⟩:=DI r;have hn:=wG;exact len_str ⋯ ⟨.int z.length,H,I.dY _,⟨_,rfl⟩,q⟩
def MU (K:aI)(T:String)(x:V)(H:Hp):Prop:=match x with
 | .str _=>T="str"
 | .int _=>T="int"
 | .ref p=>(T="list"/\∃xs,aA K H p xs)\/(T="tuple"/\∃o,K.lookup p=some o/\o.cls= .type "tuple"/\o.dict=none) \/
   (T="dict"/\((∃ai,H p=some (.dK ai))\/∃ai,H p=some (.dT ai)))\/(T="set"/\∃S n,H p=some (.set S n))
 | _=>False
def VH {af:List (ae×Obj)}{σ:St}{H:Hp}{s:aw}{T:String}{x:V}{v:ah}(I:au X af σ H s)(r:bF x v)(ty:MU X.K T x H):s.TypeIs v T/\∀a,v= .ref a->∃ob,s.heap.get? a=some ob/\ob.dict=none:=by
 cases x with
 | str z =>obtain⟨t,rfl⟩:=r;cases (show T="str" from ty);exact⟨typeIs_str s z t,fun _ e=>nomatch e⟩
 | int i =>obtain⟨t,rfl⟩:=r;cases (show T="int" from ty);exact⟨typeIs_int s i t,fun _ e=>nomatch e⟩
 | ref p =>
  cases r;rcases ty with⟨rfl,xs,hq⟩|⟨rfl,o,hk,hc,hd⟩|⟨rfl,hk⟩|⟨rfl,S,n,hk⟩
  ·obtain⟨its,_,pl,_⟩:=I.list hq;apply⟨pl.isList.typeIs,fun a e=>?_⟩;cases e;obtain⟨o,n,e,c,hd,_⟩:=pl;exact⟨o,e,hd⟩
  ·apply⟨⟨o,I.gw p o hk,hc⟩,fun a e=>?_⟩;cases e;exact⟨o,I.gw _ o hk,hd⟩
  ·have z:∃o,s.heap.get? p=some o/\o.ExactDict:=by
    rcases hk with⟨ai,hk⟩|⟨ai,hk⟩
    ·obtain⟨_,_,_,_,o,_,_,e,ex,_⟩:=I.aH p _ hk;exact⟨o,e,ex⟩
    ·obtain⟨_,_,_,_,o,_,_,e,ex,_⟩:=I.aH p _ hk;exact⟨o,e,ex⟩
   obtain⟨o,e,ex⟩:=z;apply⟨⟨o,e,ex.1⟩,fun a e2=>?_⟩;cases e2;exact⟨o,e,ex.2.1⟩
  ·obtain⟨o,_,_,_,e,ex,_⟩:=I.aH p _ hk;apply⟨⟨o,e,ex.1⟩,fun a e2=>?_⟩;cases e2;exact⟨o,e,ex.2.1⟩
 | _=>exact False.elim ty
def ahU (K:aI)(T:String)(r:V->List V->Hp->VK->Prop)(to:TE):TE:=fun σ H Q=>to σ H fun x H1=>MU K T x H1/\r x [] H1 Q
def tBM (K:aI)(T:String)(r:V->List V->Hp->VK->Prop)(to:TE)(t:TA):TE:=fun σ H Q=>to σ H fun x H1=>MU K T x H1/\t σ H1 fun xs H2=>r x xs H2 Q
variable {o e:Expr}{es:List Expr}{to:TE}{t:TA}{name:Str}{fK ir:Pos}{T id:String}{r:V->List V->Hp->VK->Prop}
def agl (pa:PlainAttrs T)(slot:Slot T name id)(sC:typeOf (.builtin id)=pure (.type "method_descriptor"))(hm:qz X id r)(ho:PE X o to)(p9:attributeBase o name X.env (eval o X.env)=eval o X.env:=by rfl)(fG:(fK.endLine==ir.line)=true:=by rfl):PE X (.Call (.Attribute o name fK) [] [] ir) (ahU X.K T r to):=by intro af s σ H Q I h;apply wpAny_Call_method0_late p9 fG (aS (ho af s σ H _ I h) fun v s1=>?_);rintro⟨x,H1,I1,r1,ty,q1⟩;obtain⟨h1,h2⟩:=VH I1 r1 ty;exact Z42 T id pa slot sC h1 h2 (Calls.callWith_builtin rfl (PySem.evalArgs_none (hm af s1 σ H1 x [] v [] Q I1 r1 .nil q1)))
def gp (pa:PlainAttrs T)(slot:Slot T name id)(sC:typeOf (.builtin id)=pure (.type "method_descriptor"))(hm:qz X id r)(ho:PE X o to)(ha:PA X (e::es) t)(p9:attributeBase o name X.env (eval o X.env)=eval o X.env:=by rfl)(Ee:((backTo ir (starEach (e::es) X.env)).all (fun x=> !x.1)&&(backToKw ir (keywordEach [] X.env)).all (fun x=>x.1.isSome)&&decide ((e::es).length+([]:List Keyword).length+(if([]:List Keyword).isEmpty then 0 else 1)<30))=true:=by rfl)(fG:(fK.endLine==ir.line)=true:=by rfl)(hs:starEach (e::es) X.env=(false,eval e X.env)::starEach es X.env:=by rfl)(agE:(backTo ir (starEach es X.env)).any (·.1)=false:=by rfl):PE X (.Call (.Attribute o name fK) (e::es) [] ir) (tBM X.K T r to t):=by intro af s σ H Q I h;apply wpAny_Call_method_late p9 Ee fG rfl (aS (ho af s σ H _ I h) fun v s1=>?_);rintro⟨x,H1,I1,r1,ty,q1⟩;obtain⟨h1,h2⟩:=VH I1 r1 ty;apply Z42 T id pa slot sC h1 h2 ?_;have hA:=ha ir af s1 σ H1 _ I1 q1;rw[hs]at hA⊢;apply Calls.callWith_builtin (by show(false||(backTo ir (starEach es X.env)).any (·.1))=false;rw[agE]<;>rfl) (Calls.evalArgs_plain ?_);exact aS hA fun us s2 ⟨vs,H2,I2,r2,q2⟩=>hm af s2 σ H2 x vs v us Q I2 r1 r2 q2
end
def Ov (X:Cx)(id:String)(r:V->List V->Hp->VK->Prop):Prop :=
 ∀(af:List (ae×Obj))(s:aw)(σ:St)(H:Hp)(x:V)(xs:List V)(v:ah)(us:List ah)(Q:VK),au X af σ H s->bF x v->be xs us->r x xs H Q ->
  wpAny (model X.prog X.w) X.A (call (.builtin id) (v::us)) (EP X af σ Q) X.xe s
def be.vc:∀{x:V}{us:List ah},be [x] us->∃u,us=[u]/\bF x u
 | _,_,.cons r .nil=>⟨_,rfl,r⟩
def be.zero:∀{us:List ah},be [] us->us=[]
 | _,.nil=>rfl
def be.reverse {xs:List V}{us:List ah}(h:be xs us):be xs.reverse us.reverse:=by
 induction h with
 | nil=>exact .nil
 | cons r t ih=>rw[List.reverse_cons,List.reverse_cons];exact be.append ih (.cons r .nil)
theorem be.Xl {xs:List V}{us:List ah}(h:be xs us):∀k:Nat,be (List.replicate k xs).flatten (List.replicate k us).flatten
 | 0=>.nil
 | k+1=>by rw[List.replicate_succ,List.replicate_succ,List.flatten_cons,List.flatten_cons];exact be.append h (be.Xl h k)
theorem TM (its:List ah):∀(k:Nat)(acc:List ah),List.foldl (fun x1 x2=>x1++x2) acc.toArray (List.replicate k its.toArray)=(acc++(List.replicate k its).flatten).toArray
 | 0,acc=>by simp
 | k+1,acc=>by
  have e:acc.toArray++its.toArray=(acc++its).toArray:=by simp
  have e2:(acc++its)++(List.replicate k its).flatten=acc++(List.replicate (k+1) its).flatten:=by rw[List.replicate_succ,List.flatten_cons,List.append_assoc]
  rw[<-e2,<-TM its k (acc++its),<-e,List.replicate_succ,List.foldl_cons]
section
variable {X:Cx}{af:List (ae×Obj)}{σ:St}{H:Hp}{s:aw}{l b:ae}{xs ys zs:List V}
def au.uD {its its':List ah}{n:Nat}{f:Array ah->Array ah}{t':Nat}(I:au X af σ H s)(hH:H l=some (.ak xs))(e:s.heap.get? l=some {cls:=.type "list",data:=.seq its.toArray n})(hf:f its.toArray=its'.toArray)(hv:be ys its')(hz:ys.length<=sizeLine):au X af σ (ay H l (.ak ys)) {s with heap:=s.heap.update l (Obj.mapSeq f),toks:=t'}:=by have q:=PySem.IsL.update e f;rw[hf]at q;apply I.pZ (x:=l) (e:=l) (by rw[hH];exact trivial) (.inl rfl) (fun b' u hb hu=>(qD s.heap (Obj.mapSeq f) (Ne.symm hb)).trans hu) ⟨_,q⟩ ?_;exact Z41 hz its' _ hv q
def au.Mg {its:List ah}{t':Nat}(I:au X af σ H s)(hv:be ys its)(hz:ys.length<=sizeLine):au X af σ (ay H s.heap.objs.size (.ak ys)) {s with heap:=s.heap.push {cls:=.type "list",data:=.seq its.toArray},toks:=t'} :=
 I.lg (fun _ _ q=>cM _ q) (bo _) (Z41 hz its 0 hv (eG _ rfl))
def au.fresh (I:au X af σ H s):H s.heap.objs.size=none:=I.aH.fresh (bo _)
def au.nM (I:au X af σ H s)(hH:H l=some (.ak xs)):xs.length<=sizeLine/\∃(its:List ah)(n:Nat),be xs its/\xs.length=its.length/\s.heap.get? l=some {cls:=.type "list",data:=.seq its.toArray n}:=by obtain⟨z,its,n,r,e⟩:=I.aH l _ hH;exact Z45 z its n r r.length e
def UG {n:Nat}(h:n<=sizeLine):Builtin.List.listTooLong n=false:=by unfold Builtin.List.listTooLong;exact bZ ⋯
end
section
variable {X:Cx}
def aeT:V->List V->Hp->VK->Prop:=fun x vs H Q=>∃l xs y,x= .ref l/\vs=[y]/\H l=some (.ak xs)/\xs.length<sizeLine/\Q .bx (ay H l (.ak (xs++[y])))
def hU:Ov X "list.append" aeT:=by intro af s σ H x vs v us Q I rx rv h;obtain⟨l,xs,y,rfl,rfl,hH,hz,q⟩:=h;cases rx;obtain⟨u,rfl,ru⟩:=rv.vc;obtain⟨z,its,n,r,hl,e⟩:=I.nM hH;apply call_meets F.slot_list_append ⟨_,e,rfl⟩ F.entry_list_append (F.args_list_append_2 _ _) (PySem.list_append l its.toArray n u (by rw[gj];omega)) ⟨e,?_⟩;apply⟨.bx,_,I.uD (its':=its++[u]) hH e (by simp) (r.append (.cons ru .nil)) ?_,rfl,q⟩;rw[cq,List.length_singleton];omega
def aeS:V->List V->Hp->VK->Prop:=fun x vs H Q=>∃l b xs zs,x= .ref l/\vs=[.ref b]/\H l=some (.ak xs)/\H b=some (.ak zs)/\xs.length+zs.length<=sizeLine/\Q .bx (ay H l (.ak (xs++zs)))
def Ts:Ov X "list.extend" aeS:=by
 intro af s σ H x vs v us Q I rx rv h;obtain⟨l,b,xs,zs,rfl,rfl,hH,hB,hz,q⟩:=h;cases rx;obtain⟨u,rfl,ru⟩:=rv.vc;cases ru;obtain⟨z,its,n,r,hl,e⟩:=I.nM hH;obtain⟨z2,ip,n2,r2,l7,e2⟩:=I.nM hB;have hsz:its.toArray.size+ip.toArray.size<=sizeLine:=by rw[gj,gj];omega
 have LW:¬(!its.toArray.isEmpty&&Builtin.List.listTooLong (its.toArray.size+ip.toArray.size))=true:=by rw[UG hsz,Bool.and_false];exact fE
 apply call_meets F.slot_list_extend ⟨_,e,rfl⟩ F.entry_list_extend (F.args_list_extend_2 _ _)
  (AutoSeq1.list_extend_list_list_0 l its.toArray n b ip.toArray n2 LW (by rw[gj];omega) ⋯) ⟨e,e2,?_⟩
 apply⟨.bx,_,I.uD (its':=its++ip) hH e (by simp) (r.append r2) ?_,rfl,q⟩;rw[cq];omega
def adG:V->List V->Hp->VK->Prop:=fun x vs H Q=>∃l xs,x= .ref l/\vs=[]/\H l=some (.ak xs)/\Q .bx (ay H l (.ak xs.reverse))
def abz:Ov X "list.reverse" adG:=by intro af s σ H x vs v us Q I rx rv h;obtain⟨l,xs,rfl,rfl,hH,q⟩:=h;cases rx;have hus:=rv.zero;subst hus;obtain⟨z,its,n,r,hl,e⟩:=I.nM hH;apply call_meets F.slot_list_reverse ⟨_,e,rfl⟩ F.entry_list_reverse (F.args_list_reverse_1 _) (AutoSeq1.list_reverse_list_0 l its.toArray n (by rw[gj];omega)) ⟨e,?_⟩;apply⟨.bx,_,I.uD (its':=its.reverse) hH e (by simp) r.reverse ?_,rfl,q⟩;rw[List.length_reverse];omega
def ah9:R2:=fun x y H Q=>∃l b xs zs,x= .ref l/\y= .ref b/\H l=some (.ak xs)/\H b=some (.ak zs)/\xs.length+zs.length<=sizeLine/\∀p,H p=none->Q (.ref p) (ay H p (.ak (xs++zs)))
def ug:gi X (binaryOp .Add) ah9:=by
 intro af s σ H x y v u Q I rx ry h;obtain⟨l,b,xs,zs,rfl,rfl,hH,hB,hz,q⟩:=h;cases rx;cases ry;obtain⟨z,its,n,r,hl,e⟩:=I.nM hH;obtain⟨z2,ip,n2,r2,l7,e2⟩:=I.nM hB;apply PySem.P.add_list e e2 ?_ (by rw[gj,gj];omega);have ea:its.toArray++ip.toArray=(its++ip).toArray:=by simp
 rw[ea];exact⟨.ref _,_,I.Mg (t':=s.toks) (r.append r2) (by rw[cq];omega),rfl,q _ I.fresh⟩
def ah6:R2:=fun x y H Q=>∃l k xs,x= .ref l/\y= .int k/\H l=some (.ak xs)/\ -(2^63)<=k/\k<2^63/\xs.length*k.toNat<=sizeLine /\
 ∀p,H p=none->Q (.ref p) (ay H p (.ak (List.replicate k.toNat xs).flatten))
def afe {α:Type}(xs:List α)(k:Nat):(List.replicate k xs).flatten.length=k*xs.length:=by
 induction k with
 | zero=>simp
 | succ k ih=>rw[List.replicate_succ,List.flatten_cons,cq,ih,Nat.succ_mul,Nat.add_comm]
def agm:gi X (binaryOp .Mult) ah6:=by
 intro af s σ H x y v u Q I rx ry h;obtain⟨l,k,xs,rfl,rfl,hH,h1,h2,hz,q⟩:=h;cases rx;obtain⟨t,rfl⟩:=ry;obtain⟨z,its,n,r,hl,e⟩:=I.nM hH;have bN:its.toArray.size*k.toNat<=sizeLine:=by rw[gj,<-hl];exact hz
 have ai5:¬its.toArray.size*k.toNat>(2^63-1)/8:=by
  have:(sizeLine:Nat)<=(2^63-1)/8:=by decide
  omega
 have My:¬(!Builtin.List.listFitsIndex k)=true:=by rw[fitsIndex_both h1 h2];exact fE
 have LW:¬Builtin.List.listTooLong (its.toArray.size*k.toNat)=true:=by rw[UG bN];exact fE
 have uH:List.foldl (fun x1 x2=>x1++x2) #[] (List.replicate (if its.toArray.isEmpty=true then 0 else k.toNat) its.toArray)=(List.replicate k.toNat its).flatten.toArray:=by
  have f0:∀m:Nat,List.foldl (fun x1 x2=>x1++x2) #[] (List.replicate m its.toArray)=(List.replicate m its).flatten.toArray:=fun m=>by have:=TM its m [];rw[List.nil_append]at this;exact this
  rw[f0];cases its with
  | nil=>simp
  | cons a r'=>rw[aB (by simp)]
 apply wpAny_binaryOp_repeat_ref (T:="list") (U:="int") (by decide) ⟨_,e,rfl⟩ (fun s'=>typeIs_int s' k t) noFill_list_mul F.fills_int_mul F.slot_int_rmul repeat_list F.slot_int_index.lookup
  (call_meets F.slot_int_rmul (typeIs_int s k t) F.entry_int_rmul (F.args_int_rmul_2 _ _) (int___rmul___int_list k t l its.toArray n)
   ⟨e,rfl,⟨_,e,rfl⟩,call_meets F.slot_list_mul ⟨_,e,rfl⟩ F.entry_list_mul (F.args_list_mul_2 _ _) (AutoListH.list___mul___list_int_3 l its.toArray n k t My ai5 LW) ⟨e,?_⟩⟩)
 rw[uH];exact⟨.ref _,_,I.Mg (t':=s.toks) (r.Xl k.toNat) (by rw[afe,Nat.mul_comm];exact hz),rfl,q _ I.fresh⟩
end
theorem be.ints:∀{ns:List Int}{us:List ah},be (ns.map V.int) us->IntsAre us ns
 | [],us,h=>by rw[List.map_nil]at h;cases h;exact IntsAre.nil
 | n::ns,us,h=>by
  rw[fj]at h;cases h with
  | cons r t =>obtain⟨k,rfl⟩:=r;exact IntsAre.cons n k (be.ints t)
theorem be.Oi:∀{bs:List Bool}{us:List ah},be (bs.map V.bl) us->us=bs.map Value.bool
 | [],us,h=>by rw[List.map_nil]at h;cases h;rfl
 | b::bs,us,h=>by
  rw[fj]at h;cases h with
  | cons r t =>cases r;rw[be.Oi t,fj]
def be.Me {a:ae}{us:List ah}(r:be [V.ref a] us):us=[Value.ref a]:=by
 cases r with
 | cons r t =>cases t;cases r;rfl
section
variable {prog:Program}{w:World}{A:Around}{E:ah->aw->Prop}{s:aw}{l:ae}{its:List ah}{ns:List Int}{Q:ah->aw->Prop}
def aer (hh:A.handled=none)(hl:s.heap.IsList l its.toArray)(hi:IntsAre its ns)(h:∀h' tk t',(∀b o,s.heap.get? b=some o->h'.get? b=some o)->Q (.int ns.sum t') {s with heap:=h',toks:=tk}):wpAny (model prog w) A (call (.builtin "sum") [.ref l]) Q E s:=by
 obtain⟨xs,e⟩:=hi.allInts.items;have hn:numsOf (intItems xs).toList=ns:=by rw[<-e];exact hi.numsOf
 rw[nums_intItems]at hn;rw[e]at hl;apply PySem.sum_intListG hh hl fun h' tk t' hk=>?_;have:=h h' tk t' hk;rw[preSum_eq,Bt (by simp),hn];exact this
end
section
variable {X:Cx}
def ah2 (K:aI):List V->Hp->VK->Prop:=fun vs H Q=>∃(a:ae)(ns:List Int),vs=[V.ref a]/\aA K H a (ns.map V.int)/\Q (.int ns.sum) H
def VW (hc:X.gM=true):nI X (.builtin "sum") (ah2 X.K):=by intro af s σ H vs us Q I r h;obtain⟨a,ns,rfl,hs,q⟩:=h;obtain⟨its,rv,hl,_⟩:=I.list hs;rw[be.Me r];exact aer (I.ok.hd hc) hl.isList rv.ints fun h' tk t' hk=>⟨.int _,H,I.fI hk,⟨_,rfl⟩,q⟩
end
section
variable {X:Cx}
def Vy {ys:List V}(f:ys.all qc=true){j:Nat}{z:V}(h:ys[j]?=some z):qc z=true:=List.all_eq_true.mp f z (fC h)
end
def UP {prog:Program}{w:World}{A:Around}{E:ah->aw->Prop}{s:aw}{l:ae}{items:Array ah}{Q:ah->aw->Prop}(hl:s.heap.IsList l items)(h:∀gD:aw,gD={s with heap:=s.heap.push {cls:=.type "list_iterator",data:=.fields #[.ref l,.int 0 0]}}->(gD.heap.IsListIter s.heap.objs.size l 0/\gD.heap.IsList l items)->l≠s.heap.objs.size->Q (.ref s.heap.objs.size) gD):wpAny (model prog w) A (pyIter (.ref l)) Q E s:=by
 have br:l<s.heap.objs.size:=by obtain⟨_,e,_⟩:=hl;exact bW e
 exact wpAny_pyIter_list hl (h _ rfl ⟨⟨_,eG _ rfl,rfl,rfl⟩,hl.push _⟩ (d9 br))
def Rq {prog:Program}{w:World}{A:Around}{bs:List Bool}{its:List ah}(e:its=bs.map Value.bool):TruthOf prog w A (fun i v=>its.toArray[i]?=some v) (fun i=>bs.getD i false):=fun i v s Q E hv hq=>by
 have xD:its[i]?=some v:=by simpa using hv
 rw[e,bR]at xD;obtain⟨b,hb,rfl⟩:=Option.map_eq_some_iff.mp xD;have hg:bs.getD i false=b:=by rw[lM,hb]<;>rfl
 have lD:Q (bs.getD i false) s:=hq;rw[hg]at lD;exact wpAny_truthy_bool lD
theorem Uc:∀bs:List Bool,(List.range bs.length).any (fun i=>bs.getD i false)=bs.any id
 | []=>rfl
 | b::bs=>by
  rw[dQ,List.range_succ_eq_map,List.any_cons,List.any_map,List.any_cons,<-Uc bs]
  all_goals rfl
theorem Ud:∀bs:List Bool,(List.range bs.length).all (fun i=>bs.getD i false)=bs.all id
 | []=>rfl
 | b::bs=>by
  rw[dQ,List.range_succ_eq_map,List.all_cons,List.all_map,List.all_cons,<-Ud bs]
  all_goals rfl
section
variable {X:Cx}
def aia (K:aI):List V->Hp->VK->Prop:=fun vs H Q=>∃(a:ae)(bs:List Bool),vs=[V.ref a]/\aA K H a (bs.map V.bl)/\Q (.bl (bs.any id)) H
def aib (K:aI):List V->Hp->VK->Prop:=fun vs H Q=>∃(a:ae)(bs:List Bool),vs=[V.ref a]/\aA K H a (bs.map V.bl)/\Q (.bl (bs.all id)) H
def DG (hc:X.gM=true):nI X (.builtin "any") (aia X.K):=by
 intro af s σ H vs us Q I r h;obtain⟨a,bs,rfl,hs,q⟩:=h;obtain⟨its,rv,hl,_⟩:=I.list hs;rw[be.Me r];have hb:=rv.Oi;apply call_any_walk (UP hl.isList fun gD e2 st bJ=>?_);subst e2;apply Z54 _ _ _ _ _ _ _ ⟨rfl,Walks.list (A:=X.A.in1) (I.ok.hd hc) _ a bJ its.toArray,st,Rq hb,fun h' tk hk=>?_⟩;apply⟨.bl _,H,I.fI fun b o eo=>hk b o (fun fm=>?_) (cM _ eo),?_,q⟩
 ·rcases dv.mp fm with e1|fm
  ·exact absurd (e1▸bW eo) (Nat.lt_irrefl _)
  ·cases fm
 ·show Value.bool _=Value.bool _;rw[<-Uc,hb,gj,aL]
def zT (hc:X.gM=true):nI X (.builtin "all") (aib X.K):=by
 intro af s σ H vs us Q I r h;obtain⟨a,bs,rfl,hs,q⟩:=h;obtain⟨its,rv,hl,_⟩:=I.list hs;rw[be.Me r];have hb:=rv.Oi;apply call_all_walk (UP hl.isList fun gD e2 st bJ=>?_);subst e2;apply Z54 _ _ _ _ _ _ _ ⟨rfl,Walks.list (A:=X.A.in1) (I.ok.hd hc) _ a bJ its.toArray,st,Rq hb,fun h' tk hk=>?_⟩;apply⟨.bl _,H,I.fI fun b o eo=>hk b o (fun fm=>?_) (cM _ eo),?_,q⟩
 ·rcases dv.mp fm with e1|fm
  ·exact absurd (e1▸bW eo) (Nat.lt_irrefl _)
  ·cases fm
 ·show Value.bool _=Value.bool _;rw[<-Ud,hb,gj,aL]
end
abbrev VZ (h:Heap)(c:ae)(v:Option ah):Prop:=h.IsCell c v
noncomputable def ah1 (scope sc:Scope):Scope :=
 {scope with names:=scope.names.map fun(n,k)=>if(k== .free&&sc.kind== .function&&sc.names.lookup n==some .cell)then(n,.cell)else(n,k)}
def ig (cells:List (Str×ae)):List (Str×NameKind)->List (Str×ae)->List (Str×ae)
 | [],acc=>acc
 | (n,k)::r,acc=>if k== .free then ig cells r ((n,(cells.lookup n).getD 0)::acc)else ig cells r acc
theorem Ro (env:Env)(f:Str×NameKind->List (Str×ae)->Sem (ForInStep (List (Str×ae))))
  (hf:∀n k c,f (n,k) c=if k== .free then(do let a<-cellOf env n;pure (.yield ((n,a)::c)))else pure (.yield c)) :
  ∀(names:List (Str×NameKind))(acc:List (Str×ae)),(∀y∈names,y.2= .free->∃c,env.cells.lookup y.1=some c)->forIn names acc f=pure (ig env.cells names acc)
 | [],acc,_=>by rw[List.forIn_nil];rfl
 | (n,k)::r,acc,h=>by
  rw[List.forIn_cons,hf];have ih:=fun acc=>Ro env f hf r acc fun y hy=>h y (eF _ hy);unfold ig;by_cases hk:(k==NameKind.free)=true
  ·rw[aE hk,aE hk];obtain⟨c,hc⟩:=h (n,k) List.mem_cons_self (by simpa using hk);have e:cellOf env n=pure c:=by unfold cellOf;rw[hc]
   rw[e];have e2:(env.cells.lookup n).getD 0=c:=by rw[hc];rfl
   rw[e2];exact ih _
  ·rw[aB hk,aB hk];exact ih _
def abN {scope:Scope}{env:Env}(h:∀y∈scope.names,y.2= .free->∃c,env.cells.lookup y.1=some c):closureFor scope env=pure (ig env.cells scope.names []):=by simp only[closureFor];rw[Ro env _ (fun n k c=>rfl) scope.names [] h];rfl
theorem Ju {α:Type}:∀{l:List (Str×α)}{n:Str}{c:α},(n,c)∈l->∃c',l.lookup n=some c'
 | (k,v)::r,n,c,h=>by
  rw[List.lookup_cons];cases hb:n==k with
  | true=>exact⟨_,rfl⟩
  | false =>
   rcases dv.mp h with e|h
   ·cases e;simp at hb
   ·exact Ju h
theorem Ca {cells:List (Str×ae)}:∀{names:List (Str×NameKind)}{acc:List (Str×ae)}{n:Str}{c:ae},(n,c)∈ig cells names acc->(n,c)∈acc\/((n,.free)∈names/\c=(cells.lookup n).getD 0)
 | [],_,_,_,h=>.inl h
 | (m,k)::r,acc,n,c,h=>by
  unfold ig at h;split at h
  ·rename_i hk
   have hk:k= .free:=by simpa using hk
   rcases Ca h with h|⟨h1,h2⟩
   ·rcases dv.mp h with e|h
    ·cases e;exact .inr ⟨hk▸List.mem_cons_self,rfl⟩
    ·exact .inl h
   ·exact .inr ⟨eF _ h1,h2⟩
  ·rcases Ca h with h|⟨h1,h2⟩
   ·exact .inl h
   ·exact .inr ⟨eF _ h1,h2⟩
theorem Jh {cells:List (Str×ae)}:∀{names:List (Str×NameKind)}{acc:List (Str×ae)}{p:Str×ae},p∈acc->p∈ig cells names acc
 | [],_,_,h=>h
 | (m,k)::r,acc,p,h=>by
  unfold ig;split
  ·exact Jh (eF _ h)
  ·exact Jh h
theorem Jg {cells:List (Str×ae)}:∀{names:List (Str×NameKind)}{acc:List (Str×ae)}{n:Str},(n,.free)∈names->(n,(cells.lookup n).getD 0)∈ig cells names acc
 | (m,k)::r,acc,n,h=>by
  unfold ig;rcases dv.mp h with e|h
  ·cases e;exact Jh List.mem_cons_self
  ·split
   ·exact Jg h
   ·exact Jg h
theorem zo:∀{names:List (Str×NameKind)}{h:Heap}{acc:List (Str×ae)}{x:Str}{c:ae},(x,c)∈cellsFrom h.objs.size names acc->(x,c)∈acc\/((x,.cell)∈names/\h.objs.size<=c/\VZ (pushCells h names) c none)
 | [],_,_,_,_,h=>.inl h
 | (n,k)::r,h,acc,x,c,hm=>by
  unfold cellsFrom at hm;unfold pushCells;split at hm
  ·rename_i hk
   rw[aE hk];have hk:k= .cell:=by simpa using hk
   rw[<-Heap.size_push h {cls:=.type "cell",data:=.cell none}]at hm;rcases zo hm with hm|⟨h1,h2,h3⟩
   ·rcases dv.mp hm with e|hm
    ·cases e;exact .inr ⟨hk▸List.mem_cons_self,bo _,_,pushCells_keeps r _ _ _ (eG _ rfl),rfl⟩
    ·exact .inl hm
   ·rw[Heap.size_push]at h2;exact .inr ⟨eF _ h1,Nat.le_of_succ_le h2,h3⟩
  ·rename_i hk
   rw[aB hk];rcases zo hm with hm|⟨h1,h2,h3⟩
   ·exact .inl hm
   ·exact .inr ⟨eF _ h1,h2,h3⟩
theorem CH:∀{names:List (Str×NameKind)}{n:Nat}{acc:List (Str×ae)}{p:Str×ae},p∈acc->p∈cellsFrom n names acc
 | [],_,_,_,h=>h
 | (m,k)::r,n,acc,p,h=>by
  unfold cellsFrom;split
  ·exact CH (eF _ h)
  ·exact CH h
theorem Ke:∀{names:List (Str×NameKind)}{n:Nat}{acc:List (Str×ae)}{x:Str},(x,.cell)∈names->∃c,(x,c)∈cellsFrom n names acc
 | (m,k)::r,n,acc,x,h=>by
  unfold cellsFrom;rcases dv.mp h with e|h
  ·cases e;exact⟨n,CH List.mem_cons_self⟩
  ·split
   ·exact Ke h
   ·exact Ke h
theorem Kd:∀{names:List (Str×NameKind)}{h:Heap}{acc:List (Str×ae)}{x y:Str}{c:ae},(∀p∈acc,p.2<h.objs.size)->(∀x y c,(x,c)∈acc->(y,c)∈acc->x=y)->(x,c)∈cellsFrom h.objs.size names acc->(y,c)∈cellsFrom h.objs.size names acc->x=y
 | [],_,_,_,_,_,_,hi,h1,h2=>hi _ _ _ h1 h2
 | (n,k)::r,h,acc,x,y,c,hl,hi,h1,h2=>by
  unfold cellsFrom at h1 h2;split at h1
  ·rename_i hk
   rw[aE hk]at h2;rw[<-Heap.size_push h {cls:=.type "cell",data:=.cell none}]at h1 h2;apply Kd (h:=h.push _) (fun p hp=>?_) (fun x y c a b=>?_) h1 h2
   ·rw[Heap.size_push];rcases dv.mp hp with rfl|hp
    ·exact Nat.lt_succ_self _
    ·exact Nat.lt_succ_of_lt (hl p hp)
   ·rcases dv.mp a with e|a<;>rcases dv.mp b with e'|b
    ·cases e;cases e';rfl
    ·cases e;exact absurd (hl _ b) (Nat.lt_irrefl _)
    ·cases e';exact absurd (hl _ a) (Nat.lt_irrefl _)
    ·exact hi _ _ _ a b
  ·rename_i hk
   rw[aB hk]at h2;exact Kd hl hi h1 h2
def aaG {M:Model}{A:Around}{E:ah->aw->Prop}{s:aw}{scope:Scope}{globals:ae}{closure:List (Str×ae)}{qual:Str}{func:Option ae}{code:ah}{around:Env}{builtins:ae}{Q:Env->aw->Prop}(h:Q (newEnv scope s.heap.objs.size globals (cellsFrom (s.heap.objs.size+1) scope.names closure) qual func code (some around) builtins) {s with heap:=pushCells (s.heap.push {cls:=.type "dict",data:=.dict #[]}) scope.names}):wpAny M A (newFunctionEnv scope globals closure [] qual func code (some around) builtins) Q E s:=by simp only[newFunctionEnv,Option.isSome_some,if_true];apply az (wpAny_alloc ?_);apply az (wpAny_layCells _ (fun n k c=>rfl) scope.names closure _ _ ?_);rw[show({s with heap:=s.heap.push {cls:=.type "dict",data:=.dict #[]}}:aw).heap.objs.size=s.heap.objs.size+1 from Heap.size_push ..];rw[List.forIn_nil];exact az (aZ (aZ h))
theorem IQ {sc:Scope}:∀{names:List (Str×NameKind)}{x:Str}{k:NameKind},(names.map fun(n,k)=>if(k==NameKind.free&&sc.kind== .function&&sc.names.lookup n==some .cell)then(n,NameKind.cell)else(n,k)).lookup x=some k->∃k',names.lookup x=some k'/\(k=k'\/(k'= .free/\k= .cell))
 | [],_,_,h=>by simp at h
 | (n,Am)::r,x,k,h=>by
  have ih:= @IQ sc r x k;have h':List.lookup x ((if(Am==NameKind.free&&sc.kind== .function&&sc.names.lookup n==some .cell)=true then(n,NameKind.cell)else(n,Am))::(r.map _))=some k:=h;cases hx:x==n with
  | true =>
   simp only[List.lookup_cons,hx];by_cases hc:(Am==NameKind.free&&sc.kind== .function&&sc.names.lookup n==some .cell)=true
   ·rw[aE hc]at h';simp only[List.lookup_cons,hx]at h';cases h';simp only[dw,beq_iff_eq]at hc;exact⟨Am,rfl,.inr ⟨hc.1.1,rfl⟩⟩
   ·rw[aB hc]at h';simp only[List.lookup_cons,hx]at h';cases h';exact⟨_,rfl,.inl rfl⟩
  | false =>
   simp only[List.lookup_cons,hx];by_cases hc:(Am==NameKind.free&&sc.kind== .function&&sc.names.lookup n==some .cell)=true
   ·rw[aE hc]at h';simp only[List.lookup_cons,hx]at h';exact ih h'
   ·rw[aB hc]at h';simp only[List.lookup_cons,hx]at h';exact ih h'
structure Ag (N:List Str)(sc scope:Scope)(bO:List (Str×Nat)):Prop where
 kind:scope.kind= .function
 Ah:∀y∈scope.names,scope.names.lookup y.1=some y.2
 ix:∀p∈bO,N[p.2]?=some p.1
 free:∀y∈scope.names,y.2= .free->sc.names.lookup y.1=some .cell\/sc.names.lookup y.1=some .free
 bO:∀y∈scope.names,y.2= .local\/y.2= .cell->y.1∈bO.map (·.1)\/y.1∉N
def dX (σ:St):List Nat->St
 | []=>σ
 | v::vs=>(dX σ vs).set v none
theorem IK (σ:St):∀vs:List Nat,(dX σ vs).length=σ.length
 | []=>rfl
 | v::vs=>by unfold dX;rw[List.length_set,IK σ vs]
theorem JM {σ:St}{i:Nat}{x:V}:∀{vs:List Nat},(dX σ vs)[i]?=some (some x)->σ[i]?=some (some x)/\i∉vs
 | [],h=>⟨h,by simp⟩
 | v::vs,h=>by
  unfold dX at h;by_cases hi:v=i
  ·subst hi;by_cases hv:v<(dX σ vs).length
   ·rw[List.getElem?_set_self hv]at h;cases h
   ·rw[List.getElem?_eq_none (by simpa using hv)]at h;cases h
  ·rw[List.getElem?_set_ne hi]at h;obtain⟨h1,h2⟩:=JM h;exact⟨h1,by simp only[dv,not_or];exact⟨fun e=>hi e.symm,h2⟩⟩
abbrev Cx.jb (X:Cx)(s:aw)(H:Hp)(scope:Scope)(fq:Env)(fp:List ae):Cx:={X with iw:=s,H_0:=H,env:=fq,aG:=X.stack,ex:=fp,fn:=fun x=>scope.names.lookup x==some .cell,pn:=[],xe:=fun _ _=>False}
section
variable {X:Cx}{af:List (ae×Obj)}{σ:St}{H:Hp}{s:aw}
def aaT {scope:Scope}{bO:List (Str×Nat)}{fp:List ae}(I:au X af σ H s)(ok:Ag X.N X.env.scope scope bO)(hN:X.N.Nodup)(xP:∀b∈fp,lr X af H b/\b<s.heap.objs.size):au (X.jb s H scope (compEnvC scope (cellsFrom (s.heap.objs.size+1) scope.names (ig X.env.cells scope.names [])) s.heap.objs.size X.env) fp) [] (dX σ (bO.map (·.2))) H {s with heap:=pushCells (s.heap.push {cls:=.type "dict",data:=.dict #[]}) scope.names}:=by
 have rK:∀y∈scope.names,y.2= .free->∃c,X.env.cells.lookup y.1=some c:=fun y hy e=>by
  rcases ok.free y hy e with k|k
  ·exact I.ok.sV _ (.inl k)
  ·exact I.ok.sV _ (.inr k)
 generalize z9:compEnvC scope (cellsFrom (s.heap.objs.size+1) scope.names (ig X.env.cells scope.names [])) s.heap.objs.size X.env=fq;have kp:∀b o,s.heap.get? b=some o->(pushCells (s.heap.push {cls:=.type "dict",data:=.dict #[]}) scope.names).get? b=some o:=fun b o e=>pushCells_keeps _ _ _ _ (cM _ e);have hL:fq.locals=s.heap.objs.size:=by rw[<-z9];rfl
 have gQ:fq.cells=cellsFrom (s.heap.objs.size+1) scope.names (ig X.env.cells scope.names []):=by rw[<-z9];rfl
 have fM:fq.scope=ah1 scope X.env.scope:=by rw[<-z9];rfl
 rw[<-Heap.size_push s.heap {cls:=.type "dict",data:=.dict #[]}]at gQ;have cm:∀{y c},(y,c)∈ig X.env.cells scope.names []->X.env.cells.lookup y=some c/\c<s.heap.objs.size:=fun{y c}hm=>by
  rcases Ca hm with hm|⟨h1,rfl⟩
  ·cases hm
  ·obtain⟨c,hc⟩:=rK _ h1 rfl;rw[hc];obtain⟨w,z⟩:=I.cell _ _ hc;exact⟨rfl,z.lt⟩
 have mem:∀{y c},fq.cells.lookup y=some c->(X.env.cells.lookup y=some c/\c<s.heap.objs.size)\/(s.heap.objs.size+1<=c/\VZ (pushCells (s.heap.push {cls:=.type "dict",data:=.dict #[]}) scope.names) c none):=fun{y c}e=>by
  rw[gQ]at e;rcases zo (PySem.mem_of_lookup e)with hm|⟨_,h2,h3⟩
  ·exact .inl (cm hm)
  ·rw[Heap.size_push]at h2;exact .inr ⟨h2,h3⟩
 have w9:∀{y},scope.names.lookup y=some .free->∃c,fq.cells.lookup y=some c/\X.env.cells.lookup y=some c:=fun{y}hl=>by
  have hy:(y,NameKind.free)∈scope.names:=PySem.mem_of_lookup hl;obtain⟨c',e'⟩:=Ju (CH (names:=scope.names) (n:=(s.heap.push {cls:=.type "dict",data:=.dict #[]}).objs.size) (Jg (cells:=X.env.cells) (acc:=[]) hy));rw[<-gQ]at e';apply⟨c',e',?_⟩;rw[gQ]at e';rcases zo (PySem.mem_of_lookup e')with hm|⟨h1,_,_⟩
  ·exact(cm hm).1
  ·have:=ok.Ah _ h1;rw[hl]at this;cases this
 have xt:(X.jb s H scope fq fp).Ok:=by
  apply⟨I.ok.iz,by show fq.scope.kind=_;rw[fM];exact ok.kind,by show fq.globals=_;rw[<-z9];exact I.ok.oQ,by show fq.builtins=_;rw[<-z9];exact I.ok.vI,by show s.heap.objs.size<=fq.locals;rw[hL];exact bo _,
   fun y z c e1 e2=>?_,fun y hy=>?_,fun y c z e=>?_,I.ok.hd,I.ok.frames,.inl rfl,fun b hb=>⟨?_,fun y c e z=>?_⟩,I.bs,b3 I.ok.pw I.sz,fun b o e hb=>?_,fun b hb z=>?_,I.stack,I.Dg⟩
  ·have e1:fq.cells.lookup y=some c:=e1;have e2:fq.cells.lookup z=some c:=e2;rw[gQ]at e1 e2;apply Kd (fun p hp=>?_) (fun y z c a b=>I.ok.inj y z c (cm a).1 (cm b).1) (PySem.mem_of_lookup e1) (PySem.mem_of_lookup e2);rw[Heap.size_push];exact Nat.lt_succ_of_lt (cm (y:=p.1) (c:=p.2) hp).2
  ·show∃c,fq.cells.lookup y=some c;have key:∀k,fq.kindOf y=some k->(k= .cell\/k= .free)->∃c,fq.cells.lookup y=some c:=fun k hk jx=>by
    unfold Env.kindOf at hk;rw[fM]at hk;obtain⟨k',e,r⟩:=IQ hk;have:k'= .cell\/k'= .free:=by
     rcases r with rfl|⟨rfl,_⟩
     ·exact jx
     ·exact .inr rfl
    rcases this with rfl|rfl
    ·obtain⟨c,hm⟩:=Ke (n:=(s.heap.push {cls:=.type "dict",data:=.dict #[]}).objs.size) (acc:=ig X.env.cells scope.names []) (PySem.mem_of_lookup e);obtain⟨c',e'⟩:=Ju hm;exact⟨c',by rw[gQ];exact e'⟩
    ·obtain⟨c,h1,_⟩:=w9 e;exact⟨c,h1⟩
   rcases hy with hy|hy
   ·exact key _ hy (.inl rfl)
   ·exact key _ hy (.inr rfl)
  ·have z:(scope.names.lookup y==some NameKind.cell)=true:=z;have z:scope.names.lookup y=some .cell:=by simpa using z
   have e:fq.cells.lookup y=some c:=e;rw[gQ]at e;rcases zo (PySem.mem_of_lookup e)with hm|⟨_,h2,_⟩
   ·rcases Ca hm with hm|⟨h1,_⟩
    ·cases hm
    ·have q:=ok.Ah _ h1;rw[z]at q;cases q
   ·rw[Heap.size_push]at h2;exact Nat.le_of_succ_le h2
  ·show b≠fq.locals;rw[hL];exact d9 (xP b hb).2
  ·have e:fq.cells.lookup y=some c:=e;rcases mem e with⟨h1,_⟩|⟨h1,_⟩
   ·exact(xP b hb).1.2.2.2.2.1 y c h1 z
   ·have h2:s.heap.objs.size+1<=b:=by rw[<-z];exact h1
    exact absurd (fi (xP b hb).2 (Nat.le_of_succ_le h2)) (Nat.lt_irrefl _)
  ·rcases(xP b hb).1.2.2.2.1 with z|z
   ·exact I.ok.w6 b o e z
   ·exact absurd (fi (bW e) (b3 I.ok.pw z)) (Nat.lt_irrefl _)
  ·rcases dv.mp (I.Lq b z)with z|z
   ·exact(xP b hb).1.2.1 z
   ·exact(xP b hb).1.2.2.1 z
 apply⟨xt,rfl,I.fJ,Un.fI kp,⟨fun _=>none,?_,fun i y av e1 e2 e3=>?_⟩,fun y c e=>?_,?_,fun y c e=>?_,fun p hp=>?_,I.aH.fI kp,by rw[IK];exact I.eO⟩
 ·show Heap.Ns _ fq.locals _;rw[hL];exact Heap.Ns.keeps (Heap.Ns.new ..) fun b o e=>pushCells_keeps _ _ _ _ e
 ·obtain⟨e2,bJ⟩:=JM e2;have ke:scope.names.lookup y=some .free/\(fq.kindOf y=some .cell\/fq.kindOf y=some .free):=by
   have key:∀k,fq.scope.names.lookup y=some k->k= .local\/k= .cell\/k= .free->scope.names.lookup y=some .free/\(fq.kindOf y=some .cell\/fq.kindOf y=some .free):=fun k hk jx=>by
    have mQ:=hk;rw[fM]at hk;obtain⟨k',e,r⟩:=IQ hk;have no:¬(k'= .local\/k'= .cell):=fun hh=>by
     rcases ok.bO _ (PySem.mem_of_lookup e) hh with e'|e'
     ·obtain⟨p,hp,hpy⟩:=cx.mp e';have e3:=ok.ix p hp;have:p.1=y:=hpy;rw[this]at e3;exact bJ (cx.mpr ⟨p,hp,C1 hN e3 e1⟩)
     ·exact e' (fC e1)
    rcases r with rfl|⟨rfl,rfl⟩
    ·rcases jx with rfl|rfl|rfl
     ·exact absurd (.inl rfl) no
     ·exact absurd (.inr rfl) no
     ·exact⟨e,.inr mQ⟩
    ·exact⟨e,.inl mQ⟩
   have e3:x3 fq.scope y:=e3;rcases e3 with e3|e3|e3
   ·exact key _ e3 (.inl rfl)
   ·exact key _ e3 (.inr (.inl rfl))
   ·exact key _ e3 (.inr (.inr rfl))
  obtain⟨m,hn,hl⟩:=I.iL;have aiy:x3 X.env.scope y:=(ok.free _ (PySem.mem_of_lookup ke.1) rfl).elim (fun k=>.inr (.inl k)) (fun k=>.inr (.inr k));obtain⟨w,r,q⟩:=hl i y av e1 e2 aiy;apply⟨w,r,.inr ⟨ke.2,?_⟩⟩;obtain⟨c,h1,h2⟩:=w9 ke.1;rcases q with⟨k,_⟩|⟨_,c',e',z⟩
  ·have k:X.env.scope.names.lookup y=some .local:=k;rcases ok.free _ (PySem.mem_of_lookup ke.1) rfl with k'|k'<;>rw[show X.env.scope.names.lookup y=_ from k']at k<;>cases k
  ·rw[h2]at e';cases e';exact⟨c,h1,z.keeps kp⟩
 ·have e:fq.cells.lookup y=some c:=e;rcases mem e with⟨h1,_⟩|⟨_,z⟩
  ·obtain⟨w,z⟩:=I.cell y c h1;exact⟨w,z.keeps kp⟩
  ·exact⟨_,z⟩
 ·show H fq.locals=none;rw[hL];exact I.aH.fresh (bo _)
 ·have e:fq.cells.lookup y=some c:=e;rcases mem e with⟨h1,_⟩|⟨h1,_⟩
  ·exact I.j1 y c h1
  ·exact I.aH.fresh (Nat.le_of_succ_le h1)
 ·exact absurd (show p∈([]:List (ae×Obj))++[]from hp) (by simp)
def agP {E:ah->aw->Prop}{D:ae}{xs:List V}{y:V}{v:ah}{Q:ah->aw->Prop}(I:au X af σ H s)(hD:H D=some (.ak xs))(hz:xs.length<sizeLine)(r:bF y v)(h:∀s',au X af σ (ay H D (.ak (xs++[y]))) s'->Q .none s'):wpAny (model X.prog X.w) X.A (call (.builtin "list.append") [.ref D,v]) Q E s:=by obtain⟨Ng,its,n,ri,e⟩:=I.aH D _ hD;have hl:=ri.length;apply append_at (hsz:=by rw[gj];omega) e fun h' sb lF=>?_;apply h {s with heap:=h'} (I.pZ (t':=s.toks) (by rw[hD];trivial) (.inl rfl) (fun b u hb q=>(sb.2 b hb).trans q) ⟨_,lF⟩ (Z41 (by rw[cq];exact hz) (its++[v]) (n+1) (ri.append (.cons r .nil)) ?_));rw[lF];simp
def Bm (X:Cx)(ifs:List Expr)(t:TT):Prop :=
 ∀(af:List (ae×Obj))(s:aw)(σ:St)(H:Hp)(Q:Bool->Hp->Prop),au X af σ H s->t σ H Q ->
  wpAny (model X.prog X.w) X.A (forIn ifs true fun c r=>if r=true then do let ok<-isTrue c X.env (eval c X.env);pure (ForInStep.yield ok)else pure (ForInStep.yield r)) (TP X af σ Q) X.xe s
def DZ:TT:=fun _ H Q=>Q true H
def iR:Bm X [] DZ:=fun _ _ _ H _ I h=>wpAny_tests_nil ⟨H,I,h⟩
def Vh {c:Expr}{t:TT}(h:PT X c t):Bm X [c] t:=fun af s σ H Q I hw=>wpAny_tests_one (h af s σ H Q I hw)
end
def wX {α:Type}{t:Sem α}{Q Q':α->aw->Prop}{M:Model}{A:Around}{E:ah->aw->Prop}{s:aw}(h:wpAny M A t Q (fun _ _=>False) s)(hQ:∀a s,Q a s->Q' a s):wpAny M A t Q' E s:=wpAny_mono h hQ fun _ _ z=>False.elim z
def aam {prog:Program}{w:World}{A:Around}{R:Result->aw->Prop}{s:aw}{elt target fW:Expr}{ifs:List Expr}{scope:Scope}{pos:Pos}{it acc:ah}{env:Env}(I:Nat->aw->Prop)
  (uw:∀n s,I n s->wpAny (model prog w) A (pyNext it) (fun r cf=>match r with
   | none=>R (.ok .next) cf
   | some v=>wpAny (model prog w) A (letOwnedTupleGo target it v) (fun _ V9=>wpAny (model prog w) A (assign target env v) (fun _ gD =>
     wpAny (model prog w) A (forIn ifs true fun c r=>if r=true then do let ok<-isTrue c env (eval c env);pure (ForInStep.yield ok)else pure (ForInStep.yield r)) (fun ok oN =>
      if ok=true then wpAny (model prog w) A (eval elt env) (fun x Ws =>wpAny (model prog w) A (call (.builtin "list.append") [acc,x]) (fun _ Wr=>∃m,m<n/\I m Wr) (notedBy (model prog w) A env fun e s'=>R (.error e) s') Ws) (notedBy (model prog w) A env fun e s'=>R (.error e) s') oN
      else∃m,m<n/\I m oN) (notedBy (model prog w) A env fun e s'=>R (.error e) s') gD) (notedBy (model prog w) A env fun e s'=>R (.error e) s') V9) (notedBy (model prog w) A env fun e s'=>R (.error e) s') cf) (notedBy (model prog w) A env fun e s'=>R (.error e) s') s)
  (n:Nat) (h:I n s) :
  codeAny (model prog w) A (.compLoop (.ListComp elt [⟨target,fW,ifs,0⟩] scope pos) 0 it acc env) R s:=by
 apply codeAny_loop rfl I (fun n s hI=>?_) n h;show wpAny _ A ((compTurn (.ListComp elt [⟨target,fW,ifs,0⟩] scope pos) 0 it acc env).onRaise (fun x=>do noteFrame x env;theTreesLotGoes x)) _ _ s;apply wpAny_noted ?_;rw[compTurn_list];apply az (wpAny_standAt (az (wpAny_mono (uw n s hI) (fun r cf xf=>?_) fun _ _ h'=>h')));cases r with
 | none=>exact aZ xf
 | some v =>
  apply az (wpAny_mono xf (fun _ V9 aht=>?_) fun _ _ h'=>h');apply az (wpAny_mono aht (fun _ gD An=>az (wpAny_mono An (fun ok oN D5=>?_) fun _ _ h'=>h')) fun _ _ h'=>h');cases ok with
  | false=>exact aZ ⟨rfl,D5⟩
  | true =>exact az (az (wpAny_mono D5 (fun x Ws ais=>az (wpAny_mono ais (fun _ Wr air=>aZ (aZ ⟨rfl,air⟩)) fun _ _ h'=>h')) fun _ _ h'=>h'))
section
variable {X:Cx}
def Ep (wi:TI)(g:TG)(tt:TT)(te:TE)(vs:List Nat):TE:=fun σ H Q=>wi σ H fun J H1=>∀D,H1 D=none->∃W:Nat->Nat->Hp->Prop,(∃m,W 0 m (ay H1 D (.ak [])))/\∀i m H,W i m H ->
 (J.ek i H/\Q (.ref D) H)\/(J.go i H/\∃Nx:Hp->Prop,(∀H',Nx H'->∃m',m'<m/\W (i+1) m' H')/\∀x H',J.lx i H x H'->g x (dX σ vs) H' fun b4 H2=>dX b4 vs=dX σ vs/\tt b4 H2 fun b H3 =>if b=true then te b4 H3 fun y H4=>∃acc,H4 D=some (.ak acc)/\acc.length<sizeLine/\Nx (ay H4 D (.ak (acc++[y])))else Nx H3)
def Vr {af:List (ae×Obj)}{s:aw}{σ:St}{H:Hp}{Q:VK}{elt tg fW:Expr}{ifs:List Expr}{scope:Scope}{bO:List (Str×Nat)}{pos pos':Pos}{wi:TI}{g:TG}{tt:TT}{te:TE}{use:Option (ah->Sem Unit)}{Qf:ah->aw->Prop}(hc:X.gM=true)(hN:X.N.Nodup)(I:au X af σ H s)(hi:PI X tg fW wi)(ok:Ag X.N X.env.scope scope bO)(hg:∀(s:aw)(H:Hp)(C:ae)(cl:List (Str×ae))(fp:List ae),PG (X.jb s H scope (compEnvC scope cl C X.env) fp) tg g)(ht:∀(s:aw)(H:Hp)(C:ae)(cl:List (Str×ae))(fp:List ae),Bm (X.jb s H scope (compEnvC scope cl C X.env) fp) ifs tt)(he:∀(s:aw)(H:Hp)(C:ae)(cl:List (Str×ae))(fp:List ae),PE (X.jb s H scope (compEnvC scope cl C X.env) fp) elt te)(hs:∀x,foldedSetIterable fW X.env x=pure x)(h:Ep wi g tt te (bO.map (·.2)) σ H Q)(hRR:∀D C s' m H',au X af σ H' s'->Q (.ref D) H'->s'.heap.Ns C m->lr X af H' C->compPost (model X.prog X.w) X.A X.xe use Qf (.ref D) C (.ok .next) s'):wpAny (model X.prog X.w) X.A (comprehension (.ListComp elt [⟨tg,fW,ifs,0⟩] scope pos) scope X.env pos' (newList []) false (eval fW X.env) use) Qf X.xe s:=by
 have rK:∀y∈scope.names,y.2= .free->∃c,X.env.cells.lookup y.1=some c:=fun y hy e=>by
  rcases ok.free y hy e with k|k
  ·exact I.ok.sV _ (.inl k)
  ·exact I.ok.sV _ (.inr k)
 apply wpAny_comprehension_free (use:=use) rfl hs (abN rK) ok.kind (fun y hy e=>by rw[ok.Ah y hy,e])
  (aS (hi af s σ H _ I h) fun xv s1 hx=>aS hx fun Na s2 h2=>?_)
 obtain⟨it,fp,tn,J,H2,e,I2,T,Ew,f2,q⟩:=h2;subst e;apply wpAny_newObj_type (aaG ?_) (by show 0<=sizeLine;decide);generalize hD:s2.heap.objs.size=D;have hDn:H2 D=none:=I2.aH.fresh (Nat.le_of_eq hD);obtain⟨W,⟨m0,w0⟩,uw⟩:=q D hDn;generalize XY:({s2 with heap:=s2.heap.push {cls:=.type "list",data:=.seq ([]:List ah).toArray}}:aw)=s3;have I3:au X af σ (ay H2 D (.ak [])) s3:=by rw[<-XY];apply I2.lg (t':=s2.toks) (fun b o e=>cM _ e) (Nat.le_of_eq hD) ⟨bA _,[],0,.nil,?_⟩;rw[<-hD];exact eG _ rfl
 have h3:s3.heap=s2.heap.push {cls:=.type "list",data:=.seq ([]:List ah).toArray}:=by rw[<-XY]
 have sz:∀b∈fp,b<s2.heap.objs.size:=fun b hb=>by obtain⟨o,e,_⟩:=T.obj _ _ Ew b hb;exact bW e
 have f3:∀b∈fp,lr X af (ay H2 D (.ak [])) b/\b<s3.heap.objs.size:=fun b hb=>by have br:=sz b hb;apply⟨⟨?_,(f2 b hb).2⟩,by rw[h3,Heap.size_push];exact Nat.lt_succ_of_lt br⟩;rw[aq (by rw[<-hD];exact d9 br)];exact(f2 b hb).1
 have Eu:tn 0 s3.heap:=T.keep _ _ _ Ew fun b _ o e=>by rw[h3];exact cM _ e
 have I4:=aaT I3 ok hN f3;have pg:=hg s3 (ay H2 D (.ak [])) s3.heap.objs.size (cellsFrom (s3.heap.objs.size+1) scope.names (ig X.env.cells scope.names [])) fp;have pt:=ht s3 (ay H2 D (.ak [])) s3.heap.objs.size (cellsFrom (s3.heap.objs.size+1) scope.names (ig X.env.cells scope.names [])) fp;have pe:=he s3 (ay H2 D (.ak [])) s3.heap.objs.size (cellsFrom (s3.heap.objs.size+1) scope.names (ig X.env.cells scope.names [])) fp;show codeAny _ _ (.compStart (.ListComp elt [⟨tg,fW,ifs,0⟩] scope pos) 0 (.ref it) (.ref D) (compEnvC scope (cellsFrom (s3.heap.objs.size+1) scope.names (ig X.env.cells scope.names [])) s3.heap.objs.size X.env)) (compPost (model X.prog X.w) X.A X.xe use Qf (.ref D) s3.heap.objs.size) {s3 with heap:=pushCells (s3.heap.push {cls:=.type "dict",data:=.dict #[]}) scope.names};have Xu:∀b∈fp,(ay H2 D (.ak [])) b=none:=fun b hb=>(f3 b hb).1.1;generalize vn:compEnvC scope (cellsFrom (s3.heap.objs.size+1) scope.names (ig X.env.cells scope.names [])) s3.heap.objs.size X.env=ce at I4 pg pt pe⊢;have cL:ce.locals=s3.heap.objs.size:=by subst vn;rfl
 generalize hH3:ay H2 D (.ak [])=H3 at I3 I4 pg pt pe w0 Xu f3;generalize xF:({s3 with heap:=pushCells (s3.heap.push {cls:=.type "dict",data:=.dict #[]}) scope.names}:aw)=s4 at I4⊢;have Xh:tn 0 s4.heap:=T.keep _ _ _ Eu fun b _ o e=>by rw[<-xF];exact pushCells_keeps _ _ _ _ (cM _ e)
 have ux:∀{aK:St}{H':Hp}{s':aw},au (X.jb s3 H3 scope ce fp) [] aK H' s'->(∀b∈fp,H' b=none)->∀b∈fp,lr (X.jb s3 H3 scope ce fp) [] H' b:=fun{aK H' s'}I' hn b hb =>⟨hn b hb,(I'.ok.Bh b hb).1,I'.ok.xk b hb,.inl hb,fun x c e=>(I'.ok.Bh b hb).2 x c e,fun p hp=>absurd (show p∈([]:List (ae×Obj))++[]from hp) (by simp)⟩
 have loop:codeAny (model X.prog X.w) X.A (.compLoop (.ListComp elt [⟨tg,fW,ifs,0⟩] scope pos) 0 (.ref it) (.ref D) ce) (compPost (model X.prog X.w) X.A X.xe use Qf (.ref D) s3.heap.objs.size) s4:=by
  apply aam (fun n s'=>∃i H',au (X.jb s3 H3 scope ce fp) [] (dX σ (bO.map (·.2))) H' s'/\tn i s'.heap/\(∀b∈fp,H' b=none)/\W i n H') ?_ m0 (Z26 0 H3 I4 Xh Xu w0);rintro n s5 ⟨i,H5,I5,xo,n5,w5⟩;rcases uw i n H5 w5 with⟨ek,qq⟩|⟨go,Nx,hNx,step⟩
  ·have td:=T.done (X.jb s3 H3 scope ce fp) rfl rfl rfl hc i [] s5 _ H5 (fun _ _=>False) I5 (ux I5 n5) xo ek;apply wX td fun r s6=>?_;rintro⟨hr,I6⟩;subst hr;have I7:au X af σ H5 s6:=I3.L4 (ch:=fp) I6.os I6.base I6.aH I6.fJ fun b hb=>⟨(f3 b hb).1.2.2.2.1,(f3 b hb).1.2.1,(f3 b hb).1.2.2.2.2.1,(f3 b hb).1.2.2.2.2.2⟩;have nC:H5 s3.heap.objs.size=none:=by have z:H5 ce.locals=none:=I6.free;rw[cL]at z;exact z
   obtain⟨m,hn,_⟩:=I6.iL;have hn:s6.heap.Ns ce.locals m:=hn;rw[cL]at hn;exact hRR D s3.heap.objs.size s6 m H5 I7 qq hn (I3.oR (bo _) nC)
  ·have ti:=T.item (X.jb s3 H3 scope ce fp) rfl rfl rfl hc i [] s5 _ H5 (fun _ _=>False) I5 (ux I5 n5) xo go;apply wX ti fun r s6=>?_;rintro⟨u,hr,h6⟩;subst hr;apply wX h6 fun _ s7=>?_;rintro⟨x,H7,I7,r7,y7,MV,n7⟩;have I7':=I7.VN (ux I7 n7) (T.obj _ _ MV);apply wX (pg _ s7 _ H7 x u _ I7' r7 (step x H7 y7)) fun _ s8=>?_;rintro⟨Ek,H8,I8,XU,q8⟩;apply wX (pt _ s8 Ek H8 _ I8 q8) fun b s9=>?_;rintro⟨H9,I9,q9⟩;have fin:∀{s':aw}{H':Hp},au (X.jb s3 H3 scope ce fp) ([]++zN fp s7.heap) Ek H' s'->Nx H'->∃m,m<n/\∃i H',au (X.jb s3 H3 scope ce fp) [] (dX σ (bO.map (·.2))) H' s'/\tn i s'.heap/\(∀b∈fp,H' b=none)/\W i m H':=fun{s' H'}I' nx=>by
    obtain⟨m',hm,w'⟩:=hNx H' nx;have Wx:∀b∈fp,∀o,s7.heap.get? b=some o->s'.heap.get? b=some o/\H' b=none:=fun b hb o e =>
     let z:=I'.jM (b,o) (List.mem_append_right _ (List.mem_append_right _ (Jt hb e)))
     ⟨z.1,z.2.1⟩
    have hl:(dX σ (bO.map (·.2))).length=Ek.length:=by rw[<-XU,IK]
    apply Z46 m' hm (i+1) H' ((I'.CQ (af:=[])).DX hl (fun j v e=>?_)) (T.keep _ _ _ MV fun b hb o e=>(Wx b hb o e).1) (fun b hb=>?_) w'
    ·rw[<-XU]at e;exact(JM e).1
    ·obtain⟨o,e,_⟩:=T.obj _ _ MV b hb;exact(Wx b hb o e).2
   cases b with
   | false =>simp only[Bool.false_eq_true,if_false]at q9⊢;exact fin I9 q9
   | true =>simp only[if_true]at q9⊢;apply wX (pe _ s9 Ek H9 _ I9 q9) fun z s10=>?_;rintro⟨yv,H10,I10,r10,acc,ajf,ait,nx⟩;exact agP (X:=X.jb s3 H3 scope ce fp) I10 ajf ait r10 fun s11 I11=>fin I11 nx
 exact codeAny_compStart_list loop (T.k9 X.A 0 _ _ _ Xh loop)
def jF {elt tg fW:Expr}{ifs:List Expr}{scope:Scope}{bO:List (Str×Nat)}{pos:Pos}{wi:TI}{g:TG}{tt:TT}{te:TE}(hc:X.gM=true)(hN:X.N.Nodup)(hi:PI X tg fW wi)(ok:Ag X.N X.env.scope scope bO)(hg:∀(s:aw)(H:Hp)(C:ae)(cl:List (Str×ae))(fp:List ae),PG (X.jb s H scope (compEnvC scope cl C X.env) fp) tg g)(ht:∀(s:aw)(H:Hp)(C:ae)(cl:List (Str×ae))(fp:List ae),Bm (X.jb s H scope (compEnvC scope cl C X.env) fp) ifs tt)(he:∀(s:aw)(H:Hp)(C:ae)(cl:List (Str×ae))(fp:List ae),PE (X.jb s H scope (compEnvC scope cl C X.env) fp) elt te)(hs:∀x,foldedSetIterable fW X.env x=pure x:=by intro _;rfl):PE X (.ListComp elt [⟨tg,fW,ifs,0⟩] scope pos) (Ep wi g tt te (bO.map (·.2))):=by intro af s σ H Q I h;rw[eval_ListComp];apply Vr hc hN I hi ok hg ht he hs h fun D C s' m H' I' q hn f=>⟨m,hn,fun kh sb=>?_⟩;obtain⟨f0,f1,f2,f3,f4,f5⟩:=f;exact⟨.ref D,H',I'.iU (t':=s'.toks) (fun b o hb e=>(sb.2 b hb).trans e) f0 f1 f3 f4 f5,rfl,q⟩
def CY {i:Nat}{y:Str}{py:Pos}{elt tg fW:Expr}{ifs:List Expr}{scope:Scope}{bO:List (Str×Nat)}{pos Wt:Pos}{wi:TI}{g:TG}{tt:TT}{te:TE}(hc:X.gM=true)(hN:X.N.Nodup)(hy:X.N[i]?=some y)(fz:X.env.scope.names.lookup y=some .local)
  (hsw:swapsWith (.ListComp elt [⟨tg,fW,ifs,0⟩] scope pos) (some (.Name y py)) Wt.line X.env=pure true) (hi:PI X tg fW wi) (ok:Ag X.N X.env.scope scope bO)
  (hg:∀(s:aw)(H:Hp)(C:ae)(cl:List (Str×ae))(fp:List ae),PG (X.jb s H scope (compEnvC scope cl C X.env) fp) tg g) (ht:∀(s:aw)(H:Hp)(C:ae)(cl:List (Str×ae))(fp:List ae),Bm (X.jb s H scope (compEnvC scope cl C X.env) fp) ifs tt)
  (he:∀(s:aw)(H:Hp)(C:ae)(cl:List (Str×ae))(fp:List ae),PE (X.jb s H scope (compEnvC scope cl C X.env) fp) elt te) (hs:∀x,foldedSetIterable fW X.env x=pure x:=by intro _;rfl) :
  PS X (.Assign [.Name y py] (.ListComp elt [⟨tg,fW,ifs,0⟩] scope pos) Wt) (D3 (Ep wi g tt te (bO.map (·.2))) (wQ i)):=by
 intro af s σ H D I h;rw[exec_Assign_Name_used _ _ _ _ hsw];apply az (wpAny_standAt (az ?_));show wpAny _ X.A (do let _<-comprehension (.ListComp elt [⟨tg,fW,ifs,0⟩] scope pos) scope X.env (firstIterPos [⟨tg,fW,ifs,0⟩] pos) (newList []) false (eval fW X.env) (some (assign (.Name y py) X.env))) _ _ s;have h:Ep wi g tt te (bO.map (·.2)) σ H (fun x H1=>wQ i x σ H1 D.nx):=h;apply az (aS (Vr (Qf:=fun _ s'=>SP X af D .next s') hc hN I hi ok hg ht he hs h fun L C s' m H' I' q hn f=>?_) fun _ s' hq=>aZ (aZ hq));show wpAny _ _ (assign (.Name y py) X.env (.ref L)) _ _ _;apply wpAny_assign_Name (S3 (v:=V.ref L) I' hN hy (.inl fz) rfl (fun s2 I2=>?_) (.inr fz));rintro⟨a,sb,ha⟩;obtain⟨f0,f1,f2,f3,f4,f5⟩:=f;have haC:C≠a:=by
  rcases ha with z|z
  ·rw[z];exact f1
  ·exact fun e=>f4 y a z e.symm
 apply⟨m,hn.sameBut sb haC,fun h3 sb3=>?_⟩;exact⟨_,H',I2.iU (t':=s2.toks) (fun b o hb e=>(sb3.2 b hb).trans e) f0 f1 f3 f4 f5,q⟩
def De {elt:Expr}{gs:List Comprehension}{scope:Scope}{pos py:Pos}{y:Str}{l:Nat}{env:Env}(hk:env.scope.kind= .function)(hy:env.scope.names.lookup y=some .local)(hl:(py.line==pos.line)=true)(ha:(scope.names.any fun(n,k)=>n==y&&(k== .local||k== .cell))=false):swapsWith (.ListComp elt gs scope pos) (some (.Name y py)) l env=pure true:=by
 have ky:env.kindOf y=some .local:=hy;have hb:env.blockKind= .function:=by unfold Env.blockKind;rw[hk];rfl
 unfold swapsWith;simp only[hb,ky,ha,Expr.pos,hl];rfl
end
def agu {K:aI}{a:ae}{xs:List V}{g:TG}{tt:TT}{te:TE}{vs:List Nat}{σ:St}{H1:Hp}{D:ae}{Qd:Hp->Prop}(Pv:Nat->Hp->Prop)(h0:Pv 0 (ay H1 D (.ak [])))(hl:∀i H,i<=xs.length->Pv i H->cS K H a xs)(hs:∀i x H,xs[i]?=some x->Pv i H->g x (dX σ vs) H fun b4 H2=>dX b4 vs=dX σ vs/\tt b4 H2 fun b H3=>if b=true then te b4 H3 fun y H4=>∃acc,H4 D=some (.ak acc)/\acc.length<sizeLine/\Pv (i+1) (ay H4 D (.ak (acc++[y])))else Pv (i+1) H3)(hd:∀H,Pv xs.length H->Qd H):∃W:Nat->Nat->Hp->Prop,(∃m,W 0 m (ay H1 D (.ak [])))/\∀i m H,W i m H->((tE K a).ek i H/\Qd H)\/((tE K a).go i H/\∃Nx:Hp->Prop,(∀H',Nx H'->∃m',m'<m/\W (i+1) m' H')/\∀x H',(tE K a).lx i H x H'->g x (dX σ vs) H' fun b4 H2=>dX b4 vs=dX σ vs/\tt b4 H2 fun b H3=>if b=true then te b4 H3 fun y H4=>∃acc,H4 D=some (.ak acc)/\acc.length<sizeLine/\Nx (ay H4 D (.ak (acc++[y])))else Nx H3):=by
 apply Z10 (fun i m H=>m=xs.length-i/\i<=xs.length/\Pv i H) ⟨xs.length,by simp,bA _,h0⟩ ?_;rintro i m H ⟨rfl,hi,p⟩;have q:=hl i H hi p;by_cases br:i<xs.length
 ·apply .inr (Z25 ⟨xs,xs[i],q,by simp[br]⟩ (Pv (i+1)) (fun H' p'=>⟨xs.length-(i+1),by omega,rfl,br,p'⟩) (fun x H' y=>?_));obtain⟨e,y⟩:=y;subst e;exact hs i x _ (y xs q) p
 ·have e:i=xs.length:=by omega
  subst e;exact .inl ⟨⟨xs,q,bo _⟩,hd H p⟩
noncomputable def W4 (N:List Str)(sc scope:Scope)(bO:List (Str×Nat)):Bool :=
 (match scope.kind with| .function=>true|_=>false)&&(scope.names.all fun y=>decide (scope.names.lookup y.1=some y.2))&&(bO.all fun p=>decide (N[p.2]?=some p.1)) &&
  (scope.names.all fun y=>match y.2 with
   | .free=>(match sc.names.lookup y.1 with|some .cell=>true|some .free=>true|_=>false)
   | .local=>decide (y.1∈bO.map (·.1))||decide (y.1∉N)
   | .cell=>decide (y.1∈bO.map (·.1))||decide (y.1∉N)
   | _=>true)
def ic {N:List Str}{sc scope:Scope}{bO:List (Str×Nat)}(h:W4 N sc scope bO=true):Ag N sc scope bO:=by
 unfold W4 at h;simp only[dw,List.all_eq_true,eE]at h;obtain⟨⟨⟨h1,h2⟩,h3⟩,h4⟩:=h;apply⟨?_,h2,h3,fun y hy e=>?_,fun y hy e=>?_⟩
 ·split at h1
  ·assumption
  ·cases h1
 ·have q:=h4 y hy;simp only[e]at q;split at q<;>first|exact .inl (by assumption)|exact .inr (by assumption)|cases q
 ·have q:=h4 y hy;rcases e with e|e<;>(simp only[e,Bool.or_eq_true,eE]at q;exact q)
section
variable {κ:Type}[DecidableEq κ]
def dk (ai:List (κ×V))(k:κ):Option V:=(ai.find? fun kv=>decide (kv.1=k)).map (·.2)
noncomputable def ff (ai:List (κ×V))(k:κ)(v:V):List (κ×V) :=
 if(ai.any fun kv=>decide (kv.1=k))=true then ai.map (fun kv=>if kv.1=k then(kv.1,v)else kv)else ai++[(k,v)]
def ml {p:κ×V}{r:List (κ×V)}{k:κ}(e:p.1=k):dk (p::r) k=some p.2:=by simp[dk,qC,e]
def mm {p:κ×V}{r:List (κ×V)}{k:κ}(e:¬p.1=k):dk (p::r) k=dk r k:=by simp[dk,qC,e]
theorem zw (k:κ):∀ai:List (κ×V),(ai.any fun kv=>decide (kv.1=k))=(dk ai k).isSome
 | []=>rfl
 | p::r=>by
  rw[List.any_cons];by_cases e:p.1=k
  ·simp only[ml e,bY e,Bool.true_or,Option.isSome_some]
  ·rw[mm e,bZ e,Bool.false_or];exact zw k r
theorem Uj (k j:κ)(y:V):∀ai:List (κ×V),dk (ai.map fun kv=>if kv.1=k then(kv.1,y)else kv) j=(dk ai j).map fun x=>if j=k then y else x
 | []=>rfl
 | p::r=>by
  have ih:=Uj k j y r;rw[fj];by_cases h:p.1=k
  ·rw[aE h];by_cases e:p.1=j
   ·rw[ml (p:=(p.1,y)) e,ml e,Option.map_some,aE (e.symm.trans h)]
   ·rw[mm (p:=(p.1,y)) e,mm e,ih]
  ·rw[aB h];by_cases e:p.1=j
   ·rw[ml (p:=p) e,ml e,Option.map_some,aB (fun z=>h (e.trans z))]
   ·rw[mm (p:=p) e,mm e,ih]
theorem SR (k j:κ)(y:V):∀ai:List (κ×V),dk ai k=none->dk (ai++[(k,y)]) j=if j=k then some y else dk ai j
 | [],_=>by
  by_cases e:k=j
  ·rw[aE e.symm];exact ml (p:=(k,y)) e
  ·rw[aB (fun z=>e z.symm)];exact mm (p:=(k,y)) e
 | p::r,hn=>by
  rw[List.cons_append];have hk:¬p.1=k:=fun z=>by rw[ml z]at hn;cases hn
  rw[mm hk]at hn;have ih:=SR k j y r hn;by_cases e:p.1=j
  ·rw[ml e,ml e,aB (fun z=>hk (e.trans z))]
  ·rw[mm e,mm e,ih]
def CO (ai:List (κ×V))(k j:κ)(y:V):dk (ff ai k y) j=if j=k then some y else dk ai j:=by
 unfold ff;by_cases a:(ai.any fun kv=>decide (kv.1=k))=true
 ·rw[aE a,Uj];rw[zw]at a;by_cases e:j=k
  ·obtain⟨x,hx⟩:=Option.isSome_iff_exists.mp a;rw[aE e,e,hx,Option.map_some,aE rfl]
  ·rw[aB e];cases dk ai j with
   | none=>rfl
   | some x=>rw[Option.map_some,aB e]
 ·rw[aB a];apply SR k j y ai ?_;rw[zw]at a;cases q:dk ai k with
  | none=>rfl
  | some x=>rw[q]at a;exact(a rfl).elim
def qH (ai:List (κ×V))(k:κ)(v:V):(ff ai k v).length<=ai.length+1:=by
 unfold ff;split
 ·rw[aL];omega
 ·rw[cq,dQ,List.length_nil];omega
def adH {ai:List (κ×V)}{k:κ}(v:V)(h:dk ai k=none):ff ai k v=ai++[(k,v)]:=by unfold ff;rw[zw,h];exact aB (by decide)
def iJ.zk {o:Option V}{u:Option ah}(r:iJ o u):o.isSome=u.isSome:=by
 cases o with
 | none=>cases u with
  | none=>rfl
  | some _=>exact(show False from r).elim
 | some _=>cases u with
  | none=>exact(show False from r).elim
  | some _=>rfl
def iJ.getD {o:Option V}{u:Option ah}{d:V}{d':ah}(r:iJ o u)(rd:bF d d'):bF (o.getD d) (u.getD d'):=by
 cases o with
 | none=>cases u with
  | none=>exact rd
  | some _=>exact(show False from r).elim
 | some _=>cases u with
  | none=>exact(show False from r).elim
  | some _=>exact r
def KV.val {ai:List (κ×V)}{vs:List (κ×ah)}(r:KV ai vs)(k:κ):iJ (dk ai k) (valueAt vs k):=by
 unfold KV at r
 induction r with
 | nil=>exact True.intro
 | @cons p q ps qs h t ih =>
  obtain⟨h1,h2⟩:=h;by_cases e:p.1=k
  ·have e':q.1=k:=h1.symm.trans e;have b:valueAt (q::qs) k=some q.2:=by simp[valueAt,qC,e']
   rw[ml e,b];exact h2
  ·have e':¬q.1=k:=fun z=>e (h1.trans z);have b:valueAt (q::qs) k=valueAt qs k:=by simp[valueAt,qC,e']
   rw[mm e,b];exact ih
def KV.any {ai:List (κ×V)}{vs:List (κ×ah)}(r:KV ai vs)(k:κ):(ai.any fun kv=>decide (kv.1=k))=vs.any fun kv=>decide (kv.1=k):=by
 unfold KV at r
 induction r with
 | nil=>rfl
 | cons h t ih=>rw[List.any_cons,List.any_cons,ih,h.1]
def KV.Md {ai:List (κ×V)}{vs:List (κ×ah)}(r:KV ai vs)(k:κ){y:V}{u:ah}(ry:bF y u):KV (ai.map fun kv=>if kv.1=k then(kv.1,y)else kv) (vs.map fun kv=>if kv.1=k then(kv.1,u)else kv):=by
 unfold KV at r⊢
 induction r with
 | nil=>exact .nil
 | @cons p q ps qs h t ih =>
  rw[fj,fj];apply .cons ?_ ih;obtain⟨h1,h2⟩:=h;by_cases e:p.1=k
  ·rw[aE e,aE (h1.symm.trans e)];exact⟨h1,ry⟩
  ·rw[aB e,aB (fun z=>e (h1.trans z))];exact⟨h1,h2⟩
def KV.va {ai:List (κ×V)}{vs:List (κ×ah)}(r:KV ai vs)(k:κ){y:V}{u:ah}(ry:bF y u):KV (ff ai k y) (stored vs k u):=by
 unfold ff stored;rw[r.any k];by_cases e:(vs.any fun kv=>decide (kv.1=k))=true
 ·rw[aE e,aE e];exact r.Md k ry
 ·rw[aB e,aB e];exact Paired.snoc r ⟨rfl,ry⟩
def KV.length {ai:List (κ×V)}{vs:List (κ×ah)}(r:KV ai vs):ai.length=vs.length:=Paired.length r
end
def rH {P:Program}{w:World}{k:aP}{u:ah}(r:bF (kV k) u):(gC P w).is k u=true:=by
 cases k with
 | inl i=>obtain⟨t,e⟩:=(show∃t,u=Value.int i t from r);subst e;exact aaJ P w i t
 | inr x=>obtain⟨t,e⟩:=(show∃t,u=Value.str x t from r);subst e;exact aaI P w x t
theorem TC {P:Program}{w:World}:∀{ks:List aP}{us:List ah},be (ks.map kV) us->ItemsAre (gC P w) ks us
 | [],_,r=>by rw[List.map_nil]at r;cases r;exact .nil
 | k::ks,_,r=>by
  rw[fj]at r;cases r with
  | cons h t=>exact .cons (rH h) (TC t)
abbrev KT (H:Hp):List (List aP×V)->List (List aP×ae×ah)->Prop:=Paired fun p q=>p.1=q.1/\H q.2.1=some (.bp (p.1.map kV))/\bF p.2 q.2.2
def KT.val {H:Hp}{ai:List (List aP×V)}{xs:List (List aP×ae×ah)}(r:KT H ai xs)(k:List aP):iJ (dk ai k) ((atKey xs k).map (·.2)):=by
 induction r with
 | nil=>exact True.intro
 | @cons p q ps qs h t ih =>
  obtain⟨h1,_,h2⟩:=h;by_cases e:p.1=k
  ·have e':q.1=k:=h1.symm.trans e;have b:atKey (q::qs) k=some q.2:=by simp[atKey,qC,e']
   rw[ml e,b];exact h2
  ·have e':¬q.1=k:=fun z=>e (h1.trans z);have b:atKey (q::qs) k=atKey qs k:=by simp[atKey,qC,e']
   rw[mm e,b];exact ih
def KT.Md {H:Hp}{ai:List (List aP×V)}{xs:List (List aP×ae×ah)}(r:KT H ai xs)(k:List aP){y:V}{u:ah}(ry:bF y u):KT H (ai.map fun kv=>if kv.1=k then(kv.1,y)else kv) (xs.map (putAt k u)):=by
 induction r with
 | nil=>exact .nil
 | @cons p q ps qs h t ih =>
  rw[fj,fj];apply .cons ?_ ih;obtain⟨h1,h2,h3⟩:=h;unfold putAt;by_cases e:p.1=k
  ·rw[aE e,aE (h1.symm.trans e)];exact⟨h1,h2,ry⟩
  ·rw[aB e,aB (fun z=>e (h1.trans z))];exact⟨h1,h2,h3⟩
def KT.va {H:Hp}{ai:List (List aP×V)}{xs:List (List aP×ae×ah)}(r:KT H ai xs)(k:List aP){b:ae}{y:V}{u:ah}(hb:H b=some (.bp (k.map kV)))(ry:bF y u):KT H (ff ai k y) (storedH xs k b u):=by
 have e:(ai.any fun kv=>decide (kv.1=k))=(atKey xs k).isSome:=by rw[zw,(r.val k).zk,Option.isSome_map]
 unfold ff storedH;rw[e];by_cases q:(atKey xs k).isSome=true
 ·rw[aE q,aE q];exact r.Md k ry
 ·rw[aB q,aB q];exact Paired.snoc r ⟨rfl,hb,ry⟩
def KT.keeps {H H':Hp}{ai:List (List aP×V)}{xs:List (List aP×ae×ah)}(r:KT H ai xs)(ht:∀b ys,H b=some (.bp ys)->H' b=some (.bp ys)):KT H' ai xs :=
 Paired.dc r fun _ _ z=>⟨z.1,ht _ _ z.2.1,z.2.2⟩
section
variable {P:Program}{w:World}{H:Hp}{h:Heap}{a:ae}
def Wc {u:HO}(ok:dh P w H h)(e:Rd H a u):eK P w H h a u:=e.ok ok
def ur {ai:List (aP×V)}(ok:dh P w H h)(e:Rd H a (.dK ai)):ai.length<=sizeLine/\(a==sysModules)=false/\∃vs,KV ai vs/\h.DictOf (gC P w) a vs :=
 show eK P w H h a (.dK ai)from Wc ok e
def Wj {ai:List (aP×V)}(ok:dh P w H h)(e:H a=some (.dK ai)):ai.length<=sizeLine/\(a==sysModules)=false/\∃vs,KV ai vs/\h.DictOf (gC P w) a vs:=ur ok (.inl e)
def wI {ks:List aP}(ok:dh P w H h)(e:H a=some (.bp (ks.map kV))):(tupleKind (gC P w)).is h ks a:=by obtain⟨_,its,r,o,h1,h2,n,h3⟩:=(show eK P w H h a (.bp (ks.map kV))from ok a _ e);exact Z20 o its.toArray n h1 h2 h3 (by simpa using TC r)
def uq {ai:List (List aP×V)}(ok:dh P w H h)(e:Rd H a (.dT ai)):ai.length<=sizeLine/\(a==sysModules)=false/\∃xs,KT H ai xs/\h.DictOfH (tupleKind (gC P w)) a xs:=by
 obtain⟨z,y,xs,r,o,es,ep,h1,h2,h3,h4,h5⟩:=(show eK P w H h a (.dT ai)from Wc ok e);apply Z60 z y xs r o es ep h1 h2 h3 h4 ⟨fun x hx=>?_,h5⟩;have all:∀{l:List (List aP×V)}{m:List (List aP×ae×ah)},KT H l m->∀x∈m,(tupleKind (gC P w)).is h x.1 x.2.1:=by
  intro l m q
  induction q with
  | nil=>intro x hx;exact nomatch hx
  | @cons p q ps qs hq t ih =>
   intro x hx;rcases dv.mp hx with e|hx
   ·subst e;exact wI ok (by rw[<-hq.1];exact hq.2.1)
   ·exact ih x hx
 exact all r x hx
def ahK {ai:List (List aP×V)}(ok:dh P w H h)(e:H a=some (.dT ai)):ai.length<=sizeLine/\(a==sysModules)=false/\∃xs,KT H ai xs/\h.DictOfH (tupleKind (gC P w)) a xs:=uq ok (.inl e)
end
def gX (H:Hp)(a:ae)(y:V)(r:Option V):Prop :=
 (∃ai k,Rd H a (.dK ai)/\y=kV k/\r=dk ai k)\/∃ai k b,Rd H a (.dT ai)/\y= .ref b/\H b=some (.bp (k.map kV))/\r=dk ai k
def qh (H:Hp)(a:ae)(y v:V)(H':Hp):Prop :=
 (∃ai k,H a=some (.dK ai)/\y=kV k/\ai.length<sizeLine/\H'=ay H a (.dK (ff ai k v))) \/
 ∃ai k b,H a=some (.dT ai)/\y= .ref b/\H b=some (.bp (k.map kV))/\ai.length<sizeLine/\H'=ay H a (.dT (ff ai k v))
def gX.k {H:Hp}{a:ae}{ai:List (aP×V)}{k:aP}(e:H a=some (.dK ai)):gX H a (kV k) (dk ai k):=.inl ⟨ai,k,.inl e,rfl,rfl⟩
def gX.t {H:Hp}{a b:ae}{ai:List (List aP×V)}{k:List aP}(e:H a=some (.dT ai))(eb:H b=some (.bp (k.map kV))):gX H a (.ref b) (dk ai k):=.inr (Z20 ai k b (.inl e) rfl eb rfl)
def qh.k {H:Hp}{a:ae}{ai:List (aP×V)}{k:aP}{v:V}(e:H a=some (.dK ai))(hl:ai.length<sizeLine):qh H a (kV k) v (ay H a (.dK (ff ai k v))):=.inl (Z26 ai k e rfl hl rfl)
def qh.t {H:Hp}{a b:ae}{ai:List (List aP×V)}{k:List aP}{v:V}(e:H a=some (.dT ai))(eb:H b=some (.bp (k.map kV)))(hl:ai.length<sizeLine):qh H a (.ref b) v (ay H a (.dT (ff ai k v))):=.inr (Z13 ai k b e rfl eb hl rfl)
section
variable {X:Cx}{af:List (ae×Obj)}{σ:St}{H:Hp}{s:aw}{a:ae}{y v:V}{u r:ah}{o:Option V}{A:Around}{E:ah->aw->Prop}
def au.Oj (I:au X af σ H s):sysModules<s.heap.objs.size:=by have h:mainGlobals<s.heap.objs.size:=(I.iz.oQ.keeps I.bk).lt;exact Nat.lt_trans (by decide) h
def acT {Q:ah->aw->Prop}(hu:A.units+1<cLine)(I:au X af σ H s)(g:gX H a y (some v))(ry:bF y u)(h:∀w' s',au X af σ H s'->bF v w'->Q w' s'):wpAny (model X.prog X.w) A (getItem (.ref a) u) Q E s:=by
 rcases g with⟨ai,k,e,ey,l⟩|⟨ai,k,b,e,ey,eb,l⟩
 ·subst ey;obtain⟨z,hd,vs,rel,dd⟩:=ur I.aH e;obtain⟨w',hw,j8⟩:=iJ.Dh (v:=v) (o:=valueAt vs k) (by rw[l];exact rel.val k);exact wpAny_getItem_of (rH ry) dd.mapOf hw (h w' _ (I.dY _) j8)
 ·subst ey;cases (show u=Value.ref b from ry);obtain⟨z,hd,xs,rel,dd⟩:=uq I.aH e;obtain⟨w',hw,j8⟩:=iJ.Dh (v:=v) (o:=(atKey xs k).map (·.2)) (by rw[l];exact rel.val k);obtain⟨p,hp,gy⟩:=Option.map_eq_some_iff.mp hw;apply wpAny_getItem_heap (tupleKind_room_in1 hu) (wI I.aH eb) dd hp ?_;rw[gy];exact h w' _ (I.dY _) j8
def ajm {Q:ah->aw->Prop}(hu:A.units+1<cLine)(I:au X af σ H s)(g:gX H a y o)(ry:bF y u)(h:∀s',au X af σ H s'->Q (.bool o.isSome) s'):wpAny (model X.prog X.w) A (compareOp .In u (.ref a)) Q E s:=by
 rcases g with⟨ai,k,e,ey,l⟩|⟨ai,k,b,e,ey,eb,l⟩
 ·subst ey;obtain⟨z,hd,vs,rel,dd⟩:=ur I.aH e;apply wpAny_in_of (rH ry) hd dd.mapOf ?_;rw[<-(rel.val k).zk,<-l];exact h _ (I.dY _)
 ·subst ey;cases (show u=Value.ref b from ry);obtain⟨z,hd,xs,rel,dd⟩:=uq I.aH e;apply wpAny_in_heap (tupleKind_room_in1 hu) (wI I.aH eb) hd dd ?_;have q:=(rel.val k).zk;rw[Option.isSome_map]at q;rw[<-q,<-l];exact h _ (I.dY _)
def afx {Q:ah->aw->Prop}(hu:A.units+1<cLine)(I:au X af σ H s)(g:gX H a y o)(ry:bF y u)(h:∀s',au X af σ H s'->Q (.bool (!o.isSome)) s'):wpAny (model X.prog X.w) A (compareOp .NotIn u (.ref a)) Q E s:=by
 rcases g with⟨ai,k,e,ey,l⟩|⟨ai,k,b,e,ey,eb,l⟩
 ·subst ey;obtain⟨z,hd,vs,rel,dd⟩:=ur I.aH e;apply wpAny_notIn_of (rH ry) hd dd.mapOf ?_;rw[<-(rel.val k).zk,<-l];exact h _ (I.dY _)
 ·subst ey;cases (show u=Value.ref b from ry);obtain⟨z,hd,xs,rel,dd⟩:=uq I.aH e;apply wpAny_notIn_heap (tupleKind_room_in1 hu) (wI I.aH eb) hd dd ?_;have q:=(rel.val k).zk;rw[Option.isSome_map]at q;rw[<-q,<-l];exact h _ (I.dY _)
def Lj {h':Heap}{t':Nat}{ob:HO}(I:au X af σ H s)(mu:qy (H a))(hs:Heap.SameBut a s.heap h')(he:∃q,h'.get? a=some q)(new:eK X.prog X.w (ay H a ob) h' a ob):au X af σ (ay H a ob) {s with heap:=h',toks:=t'} :=
 I.pZ (x:=a) (e:=a) mu (.inl rfl) (fun b q hb z=>(hs.2 b hb).trans z) he new
def VU {P:Program}{w:World}{H':Hp}{h':Heap}{ai:List (aP×V)}{vs:List (aP×ah)}(z:ai.length<=sizeLine)(hd:(a==sysModules)=false)(rel:KV ai vs)(dd:h'.DictOf (gC P w) a vs):eK P w H' h' a (.dK ai):=⟨z,hd,vs,rel,dd⟩
def acS {H':Hp}{Q:Unit->aw->Prop}(hu:A.units+1<cLine)(I:au X af σ H s)(g:qh H a y v H')(ry:bF y u)(rv:bF v r)(h:∀s',au X af σ H' s'->Q () s'):wpAny (model X.prog X.w) A (setItem (.ref a) u r) Q E s:=by
 rcases g with⟨ai,k,e,ey,l,eH⟩|⟨ai,k,b,e,ey,eb,l,eH⟩
 ·subst ey eH;obtain⟨z,hd,vs,rel,dd⟩:=Wj I.aH e;have hz:vs.length<=sizeLine:=by rw[<-rel.length];exact z
  have hl:(ff ai k v).length<=sizeLine:=by have:=qH ai k v;omega
  apply wpAny_setItem_pairs (hsz:=hz) (rH ry) dd fun h' vH hs=>h _ ?_;have he:∃q,h'.get? a=some q:=let ⟨q,_,_,hq,_⟩:=vH;⟨q,hq⟩;exact Lj I (by rw[e];exact True.intro) hs he (VU hl hd (rel.va k rv) vH)
 ·subst ey eH;cases (show u=Value.ref b from ry);obtain⟨z,hd,xs,rel,dd⟩:=ahK I.aH e;have hz:xs.length<=sizeLine:=by rw[<-Paired.length rel];exact z
  have hl:(ff ai k v).length<=sizeLine:=by have:=qH ai k v;omega
  apply wpAny_setItem_heap (hsz:=hz) (tupleKind_room_in1 hu) (wI I.aH eb) dd fun h' vH hs=>h _ ?_;obtain⟨q,es,ep,hq,h2,h3,h4,_,h5⟩:=vH;apply Lj I (by rw[e];exact True.intro) hs ⟨q,hq⟩ (Z60 hl hd _ ((rel.va k eb rv).keeps fun c ys ec=>?_) q es ep hq h2 h3 h4 h5);rw[aq (aJ ec e (fun z=>nomatch z))];exact ec
end
def W9 (i:Expr):Prop:=∀ov iv,subscripted i false ov iv=operate [ov,iv] (getItem ov iv)
def aes {prog:Program}{w:World}{A:Around}{E:ah->aw->Prop}{s:aw}{env:Env}{value slice:Expr}{pos:Pos}{T id:String}{Q:ah->aw->Prop}(hl:typeLookup (.type T) "__getitem__"=pure (some (.builtin id)))(hs:W9 slice)(h:wpAny (model prog w) A (eval value env) (fun o cf=>wpAny (model prog w) A (eval slice env) (fun i gD=>gD.TypeIs o T/\wpAny (model prog w) A (getItem o i) Q E gD) E cf) E s):wpAny (model prog w) A (eval (.Subscript value slice pos) env) Q E s:=by
 apply Subscript_ (wpAny_mono h (fun o cf xf=>wpAny_mono xf (fun i gD An=>?_) fun _ _ x=>x) fun _ _ x=>x);obtain⟨hT,An⟩:=An;unfold subscriptTail;apply az ?_;rw[getitemInPython_of_ne hT.not_modules];apply az (wpAny_specialOf hT hl ?_);have fin:wpAny (model prog w) A (subscripted slice false o i) (fun r oN=>wpAny (model prog w) A (letTemporaryGo value o r >>= fun _=>pure r) Q E oN) E gD:=by rw[hs o i];exact wpAny_operating (wpAny_mono An (fun r oN D5=>az (wpAny_letTemporaryGo (aZ D5))) fun _ _ x=>x)
 first
  | exact aZ (az fin)
  | exact az (aZ (az fin))
  | exact az fin
def aaP {X:Cx}{af:List (ae×Obj)}{σ:St}{H:Hp}{s:aw}{a:ae}{y:V}{o:Option V}(I:au X af σ H s)(g:gX H a y o):s.TypeIs (.ref a) "dict":=by
 rcases g with⟨ai,k,e,_,_⟩|⟨ai,k,b,e,_,_,_⟩
 ·obtain⟨_,_,vs,_,dd⟩:=ur I.aH e;exact dd.typeIs
 ·obtain⟨_,_,xs,_,dd⟩:=uq I.aH e;exact dd.typeIs
def ag0 (td ty:TE):TE:=fun σ H Q=>td σ H fun x H1=>ty σ H1 fun y H2=>∃a v,x= .ref a/\gX H2 a y (some v)/\Q v H2
def ahT (ty td:TE):TE:=fun σ H Q=>ty σ H fun y H1=>td σ H1 fun x H2=>∃a o,x= .ref a/\gX H2 a y o/\Q (.bl o.isSome) H2
def aeq (ty td:TE):TE:=fun σ H Q=>ty σ H fun y H1=>td σ H1 fun x H2=>∃a o,x= .ref a/\gX H2 a y o/\Q (.bl (!o.isSome)) H2
def ahg (td ty tv:TE):TS:=fun D σ H=>tv σ H fun v H1=>td σ H1 fun x H2=>ty σ H2 fun y H3=>∃a H4,x= .ref a/\qh H3 a y v H4/\D.nx σ H4
section
variable {X:Cx}{o i e value:Expr}{pos pos' jm:Pos}{td ty tv:TE}
def Vm (hu:X.A.units+1<cLine)(ho:PE X o td)(hi:PE X i ty)(hs:W9 i):PE X (.Subscript o i pos) (ag0 td ty):=by intro af s σ H Q I h;apply aes PySem.F.slot_dict_getitem.lookup hs (aS (ho af s σ H _ I h) fun u s1 ⟨x,H1,I1,rx,q1⟩=>aS (hi af s1 σ H1 _ I1 q1) fun iv s2=>?_);rintro⟨y,H2,I2,ry,a,v,ex,g,q2⟩;subst ex;obtain rfl:u=Value.ref a:=rx;exact⟨aaP I2 g,acT hu I2 g ry fun w' s3 I3 j8=>⟨v,H2,I3,j8,q2⟩⟩
def VO (hu:X.A.units+1<cLine)(hi:PE X i ty)(ho:PE X o td):PC X .In i o (ahT ty td):=by intro af s σ H Q I h;apply aS (hi af s σ H _ I h) fun iv s1 ⟨y,H1,I1,ry,q1⟩=>aS (ho af s1 σ H1 _ I1 q1) fun u s2=>?_;rintro⟨x,H2,I2,rx,a,ov,ex,g,q2⟩;subst ex;obtain rfl:u=Value.ref a:=rx;exact ajm hu I2 g ry fun s3 I3=>⟨.bl ov.isSome,H2,I3,rfl,q2⟩
def Ti (hu:X.A.units+1<cLine)(hi:PE X i ty)(ho:PE X o td):PC X .NotIn i o (aeq ty td):=by intro af s σ H Q I h;apply aS (hi af s σ H _ I h) fun iv s1 ⟨y,H1,I1,ry,q1⟩=>aS (ho af s1 σ H1 _ I1 q1) fun u s2=>?_;rintro⟨x,H2,I2,rx,a,ov,ex,g,q2⟩;subst ex;obtain rfl:u=Value.ref a:=rx;exact afx hu I2 g ry fun s3 I3=>⟨.bl (!ov.isSome),H2,I3,rfl,q2⟩
def K3 (hu:X.A.units+1<cLine)(ho:PE X o td)(hi:PE X i ty)(hv:PE X value tv)(hs:swapsWith value (some (.Subscript o i pos')) pos.line X.env=pure false):PS X (.Assign [.Subscript o i pos'] value pos) (ahg td ty tv):=by intro af s σ H D I h;apply wpAny_Assign_Subscript (aS (hv af s σ H _ I h) fun r s1 ⟨v,H1,I1,rv,q1⟩=>aS (ho af s1 σ H1 _ I1 q1) fun u s2 ⟨x,H2,I2,rx,q2⟩=>aS (hi af s2 σ H2 _ I2 q2) fun iv s3=>?_) hs;rintro⟨y,H3,I3,ry,a,H4,ex,g,q3⟩;subst ex;obtain rfl:u=Value.ref a:=rx;exact acS hu I3 g ry rv fun s4 I4=>⟨σ,H4,I4,q3⟩
end
def ad6 {P:Program}{w:World}{H:Hp}(h:Heap)(hb:sysModules<h.objs.size):eK P w H (h.push {cls:=.type "dict",data:=.dict #[]}) h.objs.size (.dK []) :=
 ⟨bA _,Z25 (beq_eq_false_iff_ne.mpr (Ne.symm (d9 hb))) [] (.nil) (Heap.DictOf.new h)⟩
def ad5 {P:Program}{w:World}{H:Hp}(h:Heap)(hb:sysModules<h.objs.size):eK P w H (h.push {cls:=.type "dict",data:=.dict #[]}) h.objs.size (.dT []) :=
 (Z60 (bA _) (beq_eq_false_iff_ne.mpr (Ne.symm (d9 hb))) [] (.nil) _ (#[]) 0 (eG _ rfl) ⟨rfl,rfl,rfl⟩ rfl rfl List.nodup_nil)
def afW:TE:=fun _ H Q=>∀p,H p=none->Q (.ref p) (ay H p (.dK []))
def afV:TE:=fun _ H Q=>∀p,H p=none->Q (.ref p) (ay H p (.dT []))
section
variable {X:Cx}{pos:Pos}
def Kv:PE X (.Dict [] [] pos) afW:=fun af s σ H Q I h =>wpAny_Dict_empty ⟨.ref s.heap.objs.size,_,I.lg (a:=s.heap.objs.size) (o:=.dK []) (t':=s.toks) (fun _ _ q=>cM _ q) (bo _) (ad6 s.heap I.Oj),rfl,h _ (I.aH.fresh (bo _))⟩
def adK:PE X (.Dict [] [] pos) afV:=fun af s σ H Q I h =>wpAny_Dict_empty ⟨.ref s.heap.objs.size,_,I.lg (a:=s.heap.objs.size) (o:=.dT []) (t':=s.toks) (fun _ _ q=>cM _ q) (bo _) (ad5 s.heap I.Oj),rfl,h _ (I.aH.fresh (bo _))⟩
end
def rm (ai more:List (aP×V)):List (aP×V):=more.foldl (fun acc kv=>ff acc kv.1 kv.2) ai
def KV.merge:∀{more:List (aP×V)}{rs:List (aP×ah)}{ai:List (aP×V)}{vs:List (aP×ah)},KV more rs->KV ai vs->KV (rm ai more) (merged vs rs):=by
 intro more rs ai vs r;unfold KV at r
 induction r generalizing ai vs with
 | nil=>intro q;exact q
 | @cons p q ps qs h t ih =>
  intro r0;have e:KV (ff ai p.1 p.2) (stored vs q.1 q.2):=by have:=r0.va p.1 h.2;rw[<-h.1];exact this
  exact ih e
theorem QK:∀(more ai:List (aP×V)),(rm ai more).length<=ai.length+more.length
 | [],ai=>by show ai.length<=ai.length+0;omega
 | p::r,ai=>by have h1:=QK r (ff ai p.1 p.2);have h2:=qH ai p.1 p.2;show(rm (ff ai p.1 p.2) r).length<=_;rw[dQ];omega
structure M2 (X:Cx)(o:Expr)(m:Str)(fK:Pos)(e f:Expr)(ir:Pos):Prop where
 base:attributeBase o m X.env (eval o X.env)=eval o X.env
 i9:((backTo ir (starEach [e,f] X.env)).all (fun x=> !x.1)&&(backToKw ir (keywordEach [] X.env)).all (fun x=>x.1.isSome)
  && decide (([e,f]:List Expr).length+([]:List Keyword).length+(if([]:List Keyword).isEmpty then 0 else 1)<30))=true
 line:(fK.endLine==ir.line)=true
 V1:backTo ir (starEach [e,f] X.env)=[(false,eval e X.env),(false,eval f X.env)]
def Ox (H:Hp)(a:ae):Prop:=(∃ai,Rd H a (.dK ai))\/∃ai,Rd H a (.dT ai)
def VS {X:Cx}{af:List (ae×Obj)}{σ:St}{H:Hp}{s:aw}{a:ae}(I:au X af σ H s)(d:Ox H a):s.TypeIs (.ref a) "dict"/\(∀b,Value.ref a= .ref b->∃ob,s.heap.get? b=some ob/\ob.dict=none)/\(a==sysModules)=false:=by
 rcases d with⟨ai,e⟩|⟨ai,e⟩
 ·obtain⟨_,hd,vs,_,dd⟩:=ur I.aH e;apply⟨dd.typeIs,fun b q=>?_,hd⟩;cases q;obtain⟨ob,_,_,h1,h2,_⟩:=dd;exact⟨ob,h1,h2.2.1⟩
 ·obtain⟨_,hd,xs,_,dd⟩:=uq I.aH e;apply⟨dd.typeIs,fun b q=>?_,hd⟩;cases q;obtain⟨ob,_,_,h1,h2,_⟩:=dd;exact⟨ob,h1,h2.2.1⟩
section
variable {X:Cx}{af:List (ae×Obj)}{σ:St}{H:Hp}{s:aw}{a:ae}{y d:V}{u r:ah}{o:Option V}{A:Around}{E:ah->aw->Prop}
def agK {Q:ah->aw->Prop}(hu:A.units+1<cLine)(I:au X af σ H s)(g:gX H a y o)(ry:bF y u)(rd:bF d r)(h:∀w' s',au X af σ H s'->bF (o.getD d) w'->Q w' s'):wpAny (model X.prog X.w) A (call (.builtin "dict.get") [.ref a,u,r]) Q E s:=by
 rcases g with⟨ai,k,e,ey,l⟩|⟨ai,k,b,e,ey,eb,l⟩
 ·subst ey;obtain⟨z,hd,vs,rel,dd⟩:=ur I.aH e;apply call_meetsIn PySem.F.slot_dict_get dd.typeIs PySem.F.entry_dict_get (PySem.F.args_dict_get_3 _ _ _) (meets_dict_get_default (gC X.prog X.w) a (rH ry) hd r) ⟨_,dd.mapOf,h _ _ (I.dY _) ?_⟩;rw[l];exact(rel.val k).getD rd
 ·subst ey;cases (show u=Value.ref b from ry);obtain⟨z,hd,xs,rel,dd⟩:=uq I.aH e;apply call_meetsIn PySem.F.slot_dict_get dd.typeIs PySem.F.entry_dict_get (PySem.F.args_dict_get_3 _ _ _) (meetsH_dict_get_default (tupleKind (gC X.prog X.w)) a b hd r) (Z45 (tupleKind_room_in1 hu) k xs (wI I.aH eb) dd (h _ _ (I.dY _) ?_));rw[l];exact(rel.val k).getD rd
end
def afX (td ty tx:TE):TE:=fun σ H Q=>td σ H fun x H1=>∃a,x= .ref a/\Ox H1 a/\ty σ H1 fun y H2=>tx σ H2 fun z H3=>∃o,gX H3 a y o/\Q (o.getD z) H3
section
variable {X:Cx}{o e f:Expr}{fK ir:Pos}{td ty tx:TE}
def Kw (hu:X.A.units+1<cLine)(ho:PE X o td)(he:PE X e ty)(hf:PE X f tx)(m:M2 X o "get" fK e f ir):PE X (.Call (.Attribute o "get" fK) [e,f] [] ir) (afX td ty tx):=by
 intro af s σ H Q I h;apply wpAny_Call_method m.base m.i9 m.line PySem.F.plainAttrs_dict PySem.F.slot_dict_get PySem.F.type_dict_get (aS (ho af s σ H _ I h) fun u s1=>?_);rintro⟨x,H1,I1,rx,a,ex,d,q1⟩;subst ex;obtain rfl:u=Value.ref a:=rx;obtain⟨t1,t2,_⟩:=VS I1 d;apply⟨t1,t2,?_⟩;rw[m.V1];apply Calls.callWith_builtin rfl (Calls.evalArgs_plain (Calls.spliced_cons (aS (he af s1 σ H1 _ I1 q1) fun iv s2 ⟨y,H2,I2,ry,q2⟩ =>Calls.spliced_cons (aS (hf af s2 σ H2 _ I2 q2) fun fv s3 ⟨z,H3,I3,rz,ov,g,q3⟩=>Calls.spliced_nil ?_))))
 exact agK hu I3 g ry rz fun w' s4 I4 j8=>⟨_,H3,I4,j8,q3⟩
end
def Zy:typeLookup (.type "list") "keys"=pure none:=am_miss_of_fast (by first|decide+kernel|rfl)
def Ul:entryFor table "dict.update.loop"=some Builtin.«dict.update.loop»:=entryFor_of_tree (by kernel_rfl)
def zx:plainId "dict.update.loop"=true:=by decide+kernel
section
variable {prog:Program}{w:World}{A:Around}{E:ah->aw->Prop}
def acD {s:aw}{a:ae}{o:Obj}{xs:Array ah}{k:Nat}{Q:Option ah->aw->Prop}(hx:s.heap.get? a=some o)(hc:o.cls= .type "list")(oO:o.data= .seq xs k)(hd:o.dict=none)(hA:A.handled=none)(h:∀h' tk,(∀b ob,s.heap.get? b=some ob->h'.get? b=some ob)->Q none {s with heap:=h',toks:=tk}):wpAny (model prog w) A (getAttr? (.ref a) "keys") Q E s:=by
 obtain⟨c,FC,dat,sl⟩:=o;simp only at hc oO hd;subst hc oO hd;obtain⟨hp,g,d,tk,os⟩:=s;have hT:∀Xe,(⟨hp,g,d,Xe,os⟩:aw).TypeIs (.ref a) "list":=fun _=>⟨_,hx,rfl⟩;have ahB:=Zy;have ahA:(["__module__","__name__","__qualname__","__doc__","__annotations__"]:List Str).contains "keys"=false:=by decide+kernel
 have hsz:("keys":Str).length+100<=sizeLine:=by first|size_fits|decide+kernel
 have f1:=sub_AttributeError;have f3:=PySem.F.slot_list_getattribute.lookup;have f4:=PySem.F.slot_list_getattribute.bind (.ref a);have f5:=am_list_getattr_none;unfold getAttr? getAttrBy? getAttrBy
 repeat (any_goals (first|assumption|exact hT _|((with_reducible show wpAny _ _ (call (Value.builtin "list.__getattribute__") _ _) _ _ _);apply call_meets PySem.F.slot_list_getattribute (hT _) am_entry_list_getattribute (PySem.F.args_list_getattribute_2 _ _) (meets_getattribute_miss_list a xs k sl "keys" _ ahB ahA hsz) ⟨hx,hA,fun h' Xe e Nn=>?_⟩)|wp_step))
 obtain⟨t',u',he⟩:=Nn.there;show wpAny _ _ (getattributeRaised _ _ _ _ _ _ _) _ _ _;unfold getattributeRaised
 repeat (any_goals (first|assumption|wp_step))
 all_goals first|exact h _ _ Nn.keeps|(dsimp only;repeat (any_goals (first|assumption|exact h _ _ Nn.keeps|wp_step)))
theorem Uk {R:Result->aw->Prop}{S I l:ae}{items:Array ah}{res:ah}(hh:A.handled=none)(Yd:l≠I)(Fk:S≠I)(Yz:S≠l):∀(b7:List (aP×ah))(i:Nat)(acc:List (aP×ah))(ix:Int)(t:Tok)(s:aw),items.size=i+b7.length->acc.length+b7.length<=sizeLine->(∀(j:Nat)(q:aP×ah),b7[j]?=some q->∃(b:ae)(u:ah),items[i+j]?=some (.ref b)/\b≠S/\b≠I/\IsTup s.heap b #[u,q.2]/\nH q.1 u=true)->s.heap.IsListIter I l i->s.heap.IsList l items->s.heap.DictOf (gC prog w) S acc->(∀h' tk,h'.DictOf (gC prog w) S (merged acc b7)->(∀b o,b≠S->b≠I->s.heap.get? b=some o->h'.get? b=some o)->R (.ok (.ret res)) {s with heap:=h',toks:=tk})->codeAny (model prog w) A (.builtin "dict.update.loop" ⟨[.ref S,.ref I,.int ix t,res],[]⟩) R s
 | [],i,acc,ix,t,s,hsz,nY,ht,cb,hl,hm,hR=>by apply codeAny_builtin Ul ?_;rw[Around.under_plainId zx _];show wpAny _ A.in1 (pyNext (.ref I) >>= _) _ _ s;apply az (wpAny_pyNext_list_end (A:=A.in1) hh cb hl (by first|exact Array.getElem?_eq_none (Nat.le_of_eq hsz)|(simp at hsz;simp;omega)) fun h' he=>?_);show wpAny _ A.in1 (Builtin.Dict.addKeywords S [] >>= _) _ _ _;apply az (aZ (aZ ?_));exact hR h' s.toks (hm.extBut he Fk) fun b o _ hb e=>he b o hb e
 | q::b7,i,acc,ix,t,s,hsz,nY,ht,cb,hl,hm,hR=>by
  obtain⟨b,u,hb,hbS,hbI,jo,hk⟩:=ht 0 q rfl;rw[dQ]at hsz nY;apply codeAny_builtin Ul ?_;rw[Around.under_plainId zx _];show wpAny _ A.in1 (pyNext (.ref I) >>= _) _ _ s;apply az (wpAny_pyNext_list_item (x:=.ref b) cb hl (by simpa using hb) fun h1 aiY AQ=>?_);have jO:IsTup h1 b #[u,q.2]:=jo.extBut AQ.extBut hbI;have gY:h1.IsList l items:=hl.extBut AQ.extBut Yd;have NB:h1.DictOf (gC prog w) S acc:=hm.extBut AQ.extBut Fk;obtain⟨o,ho,hc,n,hd⟩:=id jO;show wpAny _ A.in1 (holding [Value.ref b] _ >>= _) _ _ _;apply az (wpAny_holding ?_);apply az (wpAny_tryCatch ?_);unfold Builtin.Dict.pairItems;apply az (wpAny_typeOf (T:="tuple") ⟨o,ho,hc⟩ ?_);rw[aE (by first|decide|rfl|simp)];apply az (wpAny_seqItems ho hd (aZ ?_));show wpAny _ A.in1 (holding [u,q.2] (dictSet S u q.2)) _ _ _;apply wpAny_holding (wpAny_dictSet_pairs (knd:=gC prog w) (k:=q.1) hk NB (fun h2 X9 gF=>?_) ⋯);apply aZ ⟨plainId_quiet zx _,Uk (items:=items) hh Yd Fk Yz b7 (i+1) (stored acc q.1 q.2) (ix+1) 0 _ (show items.size=i+1+b7.length by omega) ?_ (fun j q' e=>?_) ?_ ?_ X9 fun h' tk gP k=>?_⟩
  ·have z:=stored_length_le acc q.1 q.2;omega
  ·obtain⟨b',u',A7,WZ,W0,z6,jx⟩:=ht (j+1) q' (by simpa using e);apply Z22 b' u' ?_ WZ W0 ((z6.extBut AQ.extBut W0).extBut gF.extBut WZ) jx;rw[show i+1+j=i+(j+1) by omega];exact A7
  ·exact aiY.at fun o' e=>gF.extBut I o' (Ne.symm Fk) e
  ·exact gY.extBut gF.extBut (Ne.symm Yz)
  ·exact hR h' tk gP fun c oc h3 h4 e=>k c oc h3 h4 (gF.extBut c oc h3 (AQ.extBut c oc h4 e))
def Zr {s:aw}{l:ae}{ol:Obj}{items:Array ah}{n:Nat}{prs:List (aP×ah)}{Q:ah->aw->Prop}(hh:A.handled=none)(hl:s.heap.get? l=some ol)(hc:ol.cls= .type "list")(hd:ol.dict=none)(oO:ol.data= .seq items n)(hsz:items.size=prs.length)(nY:prs.length<=sizeLine)(ht:∀(j:Nat)(q:aP×ah),prs[j]?=some q->∃(b:ae)(u:ah),items[j]?=some (.ref b)/\IsTup s.heap b #[u,q.2]/\nH q.1 u=true)(h:∀h' tk,h'.DictOf (gC prog w) s.heap.objs.size (merged [] prs)->(∀b o,s.heap.get? b=some o->h'.get? b=some o)->Q (.ref s.heap.objs.size) {s with heap:=h',toks:=tk}):wpAny (model prog w) A (call (.type "dict") [.ref l]) Q E s:=by
 apply callType_codes (Q₁:=fun obj cf=>obj= .ref s.heap.objs.size/\cf={s with heap:=s.heap.push {cls:=.type "dict",data:=.dict #[]}}) PySem.F.kt_called_dict (PySem.F.kt_typeCall_dict_1 _) PySem.F.entry_dict_init (kt_code_dict_new _ ⟨rfl,rfl⟩) ?_;rintro obj cf ⟨rfl,rfl⟩;have uH:(s.heap.push {cls:=.type "dict",data:=.dict #[]}).DictOf (gC prog w) s.heap.objs.size []:=Heap.DictOf.new s.heap;have k0:∀b o,s.heap.get? b=some o->(s.heap.push {cls:=.type "dict",data:=.dict #[]}).get? b=some o:=fun b o e=>cM _ e;apply⟨uH.typeIs,PySem.F.args_dict_init_2 _ _,?_⟩;unfold Builtin.«dict.__init__»;apply az ?_;unfold Builtin.Dict.selfAndRest;apply az (wpAny_notOrdered_dict uH.typeIs ?_);show wpAny _ _ (pure (s.heap.objs.size,[Value.ref l])) _ _ _;apply aZ ?_;show wpAny _ _ (Builtin.Dict.updateFrom "dict.__init__" s.heap.objs.size (.ref l) [] .none) _ _ _;unfold Builtin.Dict.updateFrom;apply az (wpAny_typeOf (T:="list") ⟨ol,k0 _ _ hl,hc⟩ ?_);rw[aE (by first|decide|rfl|simp)];apply az (acD (k0 _ _ hl) hc oO hd hh fun h1 tk1 gO=>?_);rw[aE (show(none:Option ah).isNone=true from rfl)];apply az (wpAny_rule ?_);have gY:h1.IsList l items:=⟨ol,gO _ _ (k0 _ _ hl),hc,n,oO⟩;have xU:s.heap.objs.size<h1.objs.size:=by have e:(s.heap.push {cls:=.type "dict",data:=.dict #[]}).get? s.heap.objs.size=some {cls:=.type "dict",data:=.dict #[]}:=eG _ rfl;exact bW (gO _ _ e)
 apply az (wpAny_pyIter_list gY ?_);have k2:∀b o,h1.get? b=some o->(h1.push {cls:=.type "list_iterator",data:=.fields #[.ref l,.int 0 0]}).get? b=some o:=fun b o e=>cM _ e;have br:l<s.heap.objs.size:=bW hl;have key:=Uk (prog:=prog) (w:=w) (A:=A.in1) (R:=wants (fun r gD=>r= .none/\Q (.ref s.heap.objs.size) gD) E) (S:=s.heap.objs.size) (I:=h1.objs.size) (l:=l) (items:=items) (res:=Value.none) hh
  (d9 (Nat.lt_trans br xU)) (d9 xU) (Nat.ne_of_gt br) prs 0 [] 0 0
  {s with heap:=h1.push {cls:=.type "list_iterator",data:=.fields #[.ref l,.int 0 0]},toks:=tk1} (by rw[hsz,Nat.zero_add]) (by rw[List.length_nil,Nat.zero_add];exact nY)
  (fun j q e=>by obtain⟨b,u,e1,e2,e3⟩:=ht j q e;have hb:b<s.heap.objs.size:=e2.lt;exact Z22 b u (by rw[Nat.zero_add];exact e1) (d9 hb) (d9 (Nat.lt_trans hb xU)) (e2.keeps fun c o z=>k2 _ _ (gO _ _ (k0 _ _ z))) e3)
  ⟨_,eG _ rfl,rfl,rfl⟩ (gY.at fun o e=>k2 _ _ e) ((uH.at fun o e=>gO _ _ e).at fun o e=>k2 _ _ e)
  (fun h' tk gP k=>⟨rfl,h h' tk gP fun b o e=>k b o (d9 (bW e)) (d9 (Nat.lt_trans (bW e) xU)) (k2 _ _ (gO _ _ (k0 _ _ e)))⟩)
 first
  | exact aZ ⟨plainId_quiet zx _,key⟩
  | exact az (aZ (aZ ⟨plainId_quiet zx _,key⟩))
end
section
variable {X:Cx}
theorem UB {af:List (ae×Obj)}{σ:St}{H:Hp}{s:aw}(I:au X af σ H s):∀{ps:List ae}{ai:List (aP×V)},Paired (fun p kv=>cS X.K H p [kV kv.1,kv.2]) ps ai->∃prs:List (aP×ah),KV ai prs/\prs.length=ps.length/\∀(j:Nat)(q:aP×ah),prs[j]?=some q->∃(b:ae)(u:ah),ps[j]?=some b/\IsTup s.heap b #[u,q.2]/\nH q.1 u=true
 | _,_,.nil=>Z12 [] (.nil) rfl (fun j q e=>by simp at e)
 | _,_,.cons (a:=p) (b:=kv) h t=>by
  obtain⟨prs,r,hl,hp⟩:=UB I t;obtain⟨its,rv,ht,_⟩:=I.tuple h;obtain⟨u,y,ei,ru,ry⟩:=LO rv;subst ei;apply Z12 ((kv.1,y)::prs) (.cons ⟨rfl,ry⟩ r) (by rw[dQ,dQ,hl]) (fun j q e=>?_);cases j with
  | zero =>have e':(kv.1,y)=q:=d3 e;subst e';exact⟨p,u,rfl,ht,rH (P:=X.prog) (w:=X.w) ru⟩
  | succ j =>obtain⟨b,u',e1,e2,e3⟩:=hp j q (by simpa using e);exact⟨b,u',by simpa using e1,e2,e3⟩
theorem Vg:∀{ps:List ae}{us:List ah},be (ps.map V.ref) us->us=ps.map Value.ref
 | [],us,r=>by rw[List.map_nil]at r;cases r;rfl
 | p::ps,us,r=>by
  rw[fj]at r;cases r with
  | cons h t =>cases h;rw[fj,<-Vg t]
def abO (ahE:X.gM=true):nI X (.type "dict") (fun xs H Q=>∃(a:ae)(ps:List ae)(ai:List (aP×V)),xs=[.ref a]/\aA X.K H a (ps.map V.ref)/\Paired (fun p kv=>cS X.K H p [kV kv.1,kv.2]) ps ai/\∀p,H p=none->Q (.ref p) (ay H p (.dK (rm [] ai)))):=by
 intro af s σ H xs us Q I r q;obtain⟨a,ps,ai,ex,hq,hp,q⟩:=q;subst ex;obtain⟨u,eu,rx⟩:=DI r;subst eu;cases rx;obtain⟨its,rv,pl,hz⟩:=I.list hq;have ei:=Vg rv;subst ei;rw[aL]at hz;obtain⟨prs,rel,hl,EW⟩:=UB I hp;obtain⟨o,n,ho,hc,hd,oO⟩:=pl;apply Zr (prs:=prs) (I.ok.hd ahE) ho hc hd oO (by simp[hl]) (by rw[hl];exact hz) (fun j q' e=>?_) fun h' tk gP k=>?_
 ·obtain⟨b,u,e1,e2,e3⟩:=EW j q' e;exact⟨b,u,by simp[e1],e2,e3⟩
 ·have hm:(s.heap.objs.size==sysModules)=false:=beq_eq_false_iff_ne.mpr (Nat.ne_of_gt I.Oj);have bN:(rm [] ai).length<=sizeLine:=by apply b3 (QK ai []) ?_;rw[List.length_nil,Nat.zero_add,rel.length,hl];exact hz
  exact⟨.ref s.heap.objs.size,ay H s.heap.objs.size (.dK (rm [] ai)),I.lg (t':=tk) k (bo _) (show eK X.prog X.w _ _ _ (.dK (rm [] ai))from⟨bN,hm,merged [] prs,KV.merge rel .nil,gP⟩),rfl,q _ (I.aH.fresh (bo _))⟩
end
def ZD:bootBuiltins "reversed"=some (.type "reversed"):=by decide+kernel
section
variable {X:Cx}{af:List (ae×Obj)}{σ:St}{H:Hp}{s:aw}{h':Heap}
def au.KS {t':Nat}{ch:List ae}(I:au X af σ H s)(k:∀b o,b∉ch->s.heap.get? b=some o->h'.get? b=some o)(hf:∀b∈ch,lr X af H b):au X af σ H {s with heap:=h',toks:=t'}:=by
 have si:∀b u,H b=some u->b∉ch:=fun b u e z=>by have q:=(hf b z).1;rw[q]at e;cases e
 apply I.step (g':=s.gens) (d':=s.drawn) (ch:=ch) (fun b hb=>⟨(hf b hb).2.2.2.1,(hf b hb).2.1,(hf b hb).2.2.2.2.1,(hf b hb).2.2.2.2.2⟩) (fun b o _ _ hc e _=>k b o hc e) (fun b o _ _ hc e _=>⟨o.slots,k b o hc e⟩)
  (fun _ _ _ _ n=>n) (fun b o hc e=>⟨o,k b o hc e⟩) (fun _ _ e=>e) (fun _ _ _ e=>e) (fun b ps e=>⟨#[],by rw[e];simp⟩) (fun m hm=>?_) (fun b u e=>?_) I.fJ
 ·obtain⟨o,es,ep,ho,r⟩:=hm;exact⟨o,es,ep,k _ o (fun z=>(hf _ z).2.1 rfl) ho,r⟩
 ·refine(I.aH b u e).fS (fun c v hc q=>k c v ?_ q) (fun _ q=>q) fun _ _ q=>q;rcases hc with z|z
  ·rw[z];exact si b u e
  ·exact si c _ z
def au.zh {t':Nat}{ch:List ae}{T:ae}{ob:HO}(I:au X af σ H s)(k:∀b o,b∉ch->s.heap.get? b=some o->h'.get? b=some o)(hf:∀b∈ch,lr X af H b)(hT:s.heap.objs.size<=T)(new:eK X.prog X.w (ay H T ob) h' T ob):au X af σ (ay H T ob) {s with heap:=h',toks:=t'}:=by
 have hn:H T=none:=I.aH.fresh hT;have si:∀b u,H b=some u->b∉ch:=fun b u e z=>by have q:=(hf b z).1;rw[q]at e;cases e
 apply I.step (g':=s.gens) (d':=s.drawn) (ch:=ch) (fun b hb=>⟨(hf b hb).2.2.2.1,(hf b hb).2.1,(hf b hb).2.2.2.2.1,(hf b hb).2.2.2.2.2⟩) (fun b o _ _ hc e _=>k b o hc e) (fun b o _ _ hc e _=>⟨o.slots,k b o hc e⟩)
  (fun b o _ e n=>?_) (fun b o hc e=>⟨o,k b o hc e⟩) (fun b xs e=>?_) (fun b o u e=>?_) (fun b ps e=>⟨#[],?_⟩) (fun m hm=>?_) (fun b u e=>?_) I.fJ
 ·rw[aq (d9 (fi (bW e) hT))];exact n
 ·rw[aq (aQ e hn)];exact e
 ·rw[aq (aQ e hn)];exact e
 ·rw[aq (aQ e hn),e];simp
 ·obtain⟨o,es,ep,ho,r⟩:=hm;exact⟨o,es,ep,k _ o (fun z=>(hf _ z).2.1 rfl) ho,r⟩
 ·by_cases hb:b=T
  ·subst hb;rw[aC]at e;cases e;exact new
  ·rw[aq hb]at e;refine(I.aH b u e).fS (fun c v hc q=>k c v ?_ q) (fun c q=>by rw[aq (aQ q hn)];exact q) fun c xs q=>by rw[aq (aQ q hn)];exact q
   rcases hc with z|z
   ·rw[z];exact si b u e
   ·exact si c _ z
def au.WE {d:ae}{u:HO}(I:au X af σ H s)(h:H d=some u)(mu:qy (some u)):∃od,au X af σ (ay H d (.cK od u)) s:=by
 have x:=I.aH d u h;have ex:∃od,s.heap.get? d=some od:=by
  cases u with
  | ak xs=>obtain⟨_,_,_,_,e⟩:=x;exact⟨_,e⟩
  | dK ai=>obtain⟨_,_,_,_,o,_,_,e,_⟩:=x;exact⟨o,e⟩
  | dT ai=>obtain⟨_,_,_,_,o,_,_,e,_⟩:=x;exact⟨o,e⟩
  | set S n=>obtain⟨o,_,_,_,e,_⟩:=x;exact⟨o,e⟩
  | bc C dx fs=>obtain⟨_,_,_,e,_⟩:=x;exact⟨_,e⟩
  | ext φ=>obtain⟨_,⟨_,e⟩,_⟩:=x;exact⟨_,e⟩
  | _=>exact False.elim mu
 obtain⟨od,e⟩:=ex;have new:eK X.prog X.w (ay H d (.cK od u)) s.heap d (.cK od u):=by
  apply⟨e,x.fS (fun b v _ q=>q) (fun b q=>?_) fun b xs q=>?_⟩
  ·rw[aq (fun z=>by rw[z,h]at q;cases q;exact mu)];exact q
  ·rw[aq (fun z=>by rw[z,h]at q;cases q;exact mu)];exact q
 exact⟨od,I.pZ (x:=d) (e:=d) (t':=s.toks) (h':=s.heap) (by rw[h];exact mu) (.inl rfl) (fun b v _ q=>q) ⟨od,e⟩ new⟩
def au.zY {d:ae}{u:HO}(I:au X af σ H s)(h:H d=some u)(mu:qy (some u)):∀o' u',X.H_0 d≠some (.cK o' u'):=fun o' u' e=>by have q:=I.base.mH d o' u' e;rw[h]at q;cases q;exact mu
def au.zM {d:ae}{od:Obj}{u:HO}(I:au X af σ H s)(h:H d=some (.cK od u))(hn:∀o' u',X.H_0 d≠some (.cK o' u')):au X af σ (ay H d u) s:=by
 have xy:∀b o,H b=some o->(∀o' u',o≠ .cK o' u')->b≠d:=fun b o e bJ z=>by rw[z,h]at e;cases e;exact bJ _ _ rfl
 have neN:∀b,H b=none->b≠d:=fun b e z=>by rw[z,h]at e;cases e
 apply⟨I.ok,I.os,I.fJ,⟨I.base.keep,I.base.slot,fun b o e n hx=>?_,I.base.there,fun b xs e=>?_,fun b o x e=>?_,fun b ps e=>?_⟩,I.iL,I.cell,?_,fun x c e=>?_,fun p hp=>?_,fun b o e=>?_,I.eO⟩
 ·rw[aq (neN b (I.base.free b o e n hx))];exact I.base.free b o e n hx
 ·have q:=I.base.oK b xs e;rw[aq (xy b _ q (fun _ _ z=>nomatch z))];exact q
 ·have q:=I.base.mH b o x e;rw[aq (fun z=>by rw[z]at e;exact hn _ _ e)];exact q
 ·obtain⟨m,q⟩:=I.base.oM b ps e;exact⟨m,by rw[aq (xy b _ q (fun _ _ z=>nomatch z))];exact q⟩
 ·rw[aq (neN _ I.free)];exact I.free
 ·rw[aq (neN c (I.j1 x c e))];exact I.j1 x c e
 ·obtain⟨e,n,r⟩:=I.jM p hp;exact⟨e,by rw[aq (neN _ n)];exact n,r⟩
 ·by_cases hb:b=d
  ·rw[hb,aC]at e;cases e;rw[hb];obtain⟨_,x⟩:=I.aH d _ h;exact x.fS (fun c v _ q=>q) (fun c q=>by rw[aq (xy c _ q (fun _ _ z=>nomatch z))];exact q) fun c xs q=>by rw[aq (xy c _ q (fun _ _ z=>nomatch z))];exact q
  ·rw[aq hb]at e;exact(I.aH b o e).fS (fun c v _ q=>q) (fun c q=>by rw[aq (xy c _ q (fun _ _ z=>nomatch z))];exact q) fun c xs q=>by rw[aq (xy c _ q (fun _ _ z=>nomatch z))];exact q
end
def agY (t:TS):TS:=fun D σ H=>∃d u,H d=some u/\qy (some u)/\∀od,t ⟨fun aK H'=>H' d=some (.cK od u)/\D.nx aK (ay H' d u),fun v H'=>H' d=some (.cK od u)/\D.rt v (ay H' d u),fun aK H'=>H' d=some (.cK od u)/\D.bk aK (ay H' d u),fun aK H'=>H' d=some (.cK od u)/\D.ct aK (ay H' d u)⟩ σ (ay H d (.cK od u))
def afU (t:TE):TE:=fun σ H Q=>∃d u,H d=some u/\qy (some u)/\∀od,t σ (ay H d (.cK od u)) fun v H'=>H' d=some (.cK od u)/\Q v (ay H' d u)
section
variable {X:Cx}
def aeW {st:Stmt}{t:TS}(h:PS X st t):PS X st (agY t):=by
 intro af s σ H D I hw;obtain⟨d,u,hd,mu,hw⟩:=hw;obtain⟨od,I1⟩:=I.WE hd mu;apply aS (h af s σ _ _ I1 (hw od)) fun f s1 q=>?_;cases f with
 | next=>obtain⟨aK,H',I2,e,q⟩:=q;exact⟨aK,_,I2.zM e (I.zY hd mu),q⟩
 | brk=>obtain⟨aK,H',I2,e,q⟩:=q;exact⟨aK,_,I2.zM e (I.zY hd mu),q⟩
 | cont=>obtain⟨aK,H',I2,e,q⟩:=q;exact⟨aK,_,I2.zM e (I.zY hd mu),q⟩
 | ret v=>obtain⟨x,aK,H',I2,r,e,q⟩:=q;exact⟨x,aK,_,I2.zM e (I.zY hd mu),r,q⟩
def ae1 {e:Expr}{t:TE}(h:PE X e t):PE X e (afU t):=by intro af s σ H Q I hw;obtain⟨d,u,hd,mu,hw⟩:=hw;obtain⟨od,I1⟩:=I.WE hd mu;apply aS (h af s σ _ _ I1 (hw od)) fun v s1=>?_;rintro⟨x,H1,I2,r,e2,q⟩;exact⟨x,_,I2.zM e2 (I.zY hd mu),r,q⟩
def zO {tg:Expr}{af:List (ae×Obj)}{σ:St}{H:Hp}{s:aw}{R:It->Hp->Prop}{J:It}{tn:Nat->Heap->Prop}{tk:Nat}(I:au X af σ H s)(o:Obj)(T:l0 X.prog X.w X.K tg J [s.heap.objs.size] s.heap.objs.size tn)(st:tn 0 (s.heap.push o))(q:R J H):Ou X af σ tg R (.ref s.heap.objs.size) {s with heap:=s.heap.push o,toks:=tk}:=by
 apply Z40 s.heap.objs.size [s.heap.objs.size] tn J H rfl (I.fI fun b ob e=>cM _ e) T st (fun b hb=>?_) q;have e:b=s.heap.objs.size:=by simpa using hb
 subst e;exact I.oR (bo _) (I.aH.fresh (bo _))
end
def Y1 (K:aI)(a:ae)(n:Nat):It :=
 ⟨fun i H=>i<n/\∃(xs:List V)(x:V),aA K H a xs/\xs[n-1-i]?=some x,fun i H x H'=>H'=H/\∀xs,aA K H a xs->xs[n-1-i]?=some x,fun i _=>n<=i⟩
def adb {P:Program}{w:World}{K:aI}{tg:Expr}(a it:ae)(n:Nat):l0 P w K tg (Y1 K a n) [it] it (fun i h=>i<=n/\h.IsRevIter it a ((n:Int)-1-(i:Nat))) where
 mem:=by simp
 obj:=fun i h st b hb=>by
  have e:b=it:=by simpa using hb
  subst e;obtain⟨_,o,e,c,d⟩:=st;exact⟨o,e,fun v z=>by rw[d]at z;cases z⟩
 keep:=fun i h h' st k=>⟨st.1,st.2.at fun o e=>k it (by simp) o e⟩
 item:=by
  intro X hP hw hK hc i af s σ H E I hf st hg;subst hP hw hK;obtain⟨cX,xs,x,hq,hx⟩:=hg;obtain⟨its,rv,p,hz⟩:=I.list hq;obtain⟨u,hu,ru⟩:=rv.get hx;obtain⟨f0,f1,f2,f3,f4,f5⟩:=hf it (by simp);obtain⟨_,cb⟩:=st;have e1:(n:Int)-1-(i:Int)=((n-1-i:Nat):Int):=by omega
  rw[e1]at cb;apply wpAny_pyNext_rev_item cb p.isList (x:=u) (by simpa using hu) fun h' iu sb=>?_;have e2:((n-1-i:Nat):Int)-1=(n:Int)-1-((i+1:Nat):Int):=by omega
  rw[e2]at iu;have I1:au X af σ H {s with heap:=h'}:=I.iU (t':=s.toks) (fun b o hb e=>(sb.2 b hb).trans e) f0 f1 f3 f4 f5;obtain⟨o,e,c,d⟩:=id iu;exact⟨u,rfl,uo (s:={s with heap:=h'}) e c d (by decide) (Z22 x H I1 ru ⟨rfl,fun ys hy=>by rw[I.zE hy hq];exact hx⟩ ⟨cX,iu⟩ (fun b hb=>(hf b hb).1))⟩
 done:=by
  intro X hP hw hK hc i af s σ H E I hf st hg;subst hP hw hK;obtain⟨f0,f1,f2,f3,f4,f5⟩:=hf it (by simp);obtain⟨cX,cb⟩:=st;have E8:n<=i:=hg;have e1:(n:Int)-1-(i:Int)= -1:=by omega
  rw[e1]at cb;exact wpAny_pyNext_rev_end (I.ok.hd hc) cb fun h' eb=>⟨rfl,I.iU (t':=s.toks) (fun b o hb e=>eb b o hb e) f0 f1 f3 f4 f5⟩
 k9:=fun A i s Q E st h=>wpAny_pyIter_revIter st.2 h
def aiq (K:aI)(ta:TA):TI:=fun σ H R=>ta σ H fun vs H1=>∃(a:ae)(xs:List V),vs=[.ref a]/\aA K H1 a xs/\R (Y1 K a xs.length) H1
section
variable {X:Cx}{tg:Expr}
def aay {e:Expr}{ta:TA}{p pos:Pos}(hg:Gl X "reversed")(hm:X.mg "reversed"=none)(ha:PA X [e] ta)(hs:starEach [e] X.env=[(false,eval e X.env)]:=by rfl):PI X tg (.Call (.Name "reversed" p) [e] [] pos) (aiq X.K ta):=by
 intro af s σ H R I h;apply Call_ (oA I hg hm ZD (PyProof.Rows.callWith_type1 (aS (ha pos af s σ H _ I h) fun us s1=>?_) hs rfl));rintro⟨vs,H1,I1,r1,q1⟩;obtain⟨a,xs,e,hq,q⟩:=q1;subst e;cases r1 with
 | cons r rr =>
  cases rr;cases r;obtain⟨its,rv,p',hz⟩:=I1.list hq;have hl:=rv.length;have e1:(its.toArray.size:Int)-1=(xs.length:Int)-1-((0:Nat):Int):=by simp only[gj];omega
  apply call_reversed_list p'.isList (wpAny_pyIter_revIter (l:=a) (i:=(its.toArray.size:Int)-1) ⟨_,eG _ rfl,rfl,rfl⟩ ?_);apply zO (tk:=s1.toks) I1 _ (adb a _ xs.length) ⟨bA _,?_⟩ q;rw[<-e1];exact⟨_,eG _ rfl,rfl,rfl⟩
end
def Bq (x:Str):It:=⟨fun i _=>i<x.cps.size,fun i H v H'=>H'=H/\∃c,x.cps[i]?=some c/\v= .str ⟨#[c]⟩,fun i _=>x.cps.size<=i⟩
def Uo {P:Program}{w:World}{K:aI}{tg:Expr}(it:ae)(x:Str)(t:Tok)(ty:String)(sC:ty="str_ascii_iterator"\/ty="str_iterator"):l0 P w K tg (Bq x) [it] it (fun i h=>h.IsStrIter it ty x t i) where
 mem:=by simp
 obj:=fun i h st b hb=>by
  have e:b=it:=by simpa using hb
  subst e;obtain⟨o,e,c,d⟩:=st;exact⟨o,e,fun v z=>by rw[d]at z;cases z⟩
 keep:=fun i h h' st k=>let ⟨o,ho,r⟩:=st;⟨o,k it (by simp) o ho,r⟩
 item:=by
  intro X hP hw hK hc i af s σ H E I hf st hg;subst hP hw hK;obtain⟨f0,f1,f2,f3,f4,f5⟩:=hf it (by simp);have W:Walks X.prog X.w X.A it [it] [it] x.cps.size (SignAt x) (fun i h=>h.IsStrIter it ty x t i):=by
   rcases sC with e|e
   ·rw[e];exact Walks.strAscii (I.ok.hd hc) it x t
   ·rw[e];exact Walks.strWide (I.ok.hd hc) it x t
  have gf:["enumerate","zip","dict_itemiterator","dict_reverseitemiterator","odict_iterator","itertools.zip_longest","itertools.pairwise"].contains ty=false:=by
   rcases sC with e|e
   ·rw[e];decide
   ·rw[e];decide
  apply W.item i s _ _ hg st fun v h' tk hv iu kk=>?_;obtain⟨c,u,hcx,rfl⟩:=hv;have I1:au X af σ H {s with heap:=h',toks:=tk}:=I.iU (fun b o hb e=>kk b o (by simpa using hb) e) f0 f1 f3 f4 f5;obtain⟨oi,e,cc,dd⟩:=id iu;exact⟨_,rfl,uo (s:={s with heap:=h',toks:=tk}) e cc dd gf (Z22 (.str ⟨#[c]⟩) H I1 ⟨u,rfl⟩ ⟨rfl,c,hcx,rfl⟩ iu (fun b hb=>(hf b hb).1))⟩
 done:=by
  intro X hP hw hK hc i af s σ H E I hf st hg;subst hP hw hK;obtain⟨f0,f1,f2,f3,f4,f5⟩:=hf it (by simp);have hx:x.cps[i]?=none:=Array.getElem?_eq_none hg;rcases sC with e|e
  ·rw[e]at st;exact wpAny_pyNext_ascii_end (I.ok.hd hc) st hx fun h' eb=>⟨rfl,I.iU (t':=s.toks) (fun b o hb e=>eb b o hb e) f0 f1 f3 f4 f5⟩
  ·rw[e]at st;exact wpAny_pyNext_wide_end (I.ok.hd hc) st hx fun h' eb=>⟨rfl,I.iU (t':=s.toks) (fun b o hb e=>eb b o hb e) f0 f1 f3 f4 f5⟩
 k9:=fun A i s Q E st h=>by
  rcases sC with e|e
  ·rw[e]at st;exact wpAny_pyIter_striter_ascii st h
  ·rw[e]at st;exact wpAny_pyIter_striter_wide st h
def aip (te:TE):TI:=fun σ H R=>te σ H fun v H1=>∃x,v= .str x/\R (Bq x) H1
def Lw {X:Cx}{tg e:Expr}{te:TE}(he:PE X e te):PI X tg e (aip te):=by
 intro af s σ H R I h;apply aS (he af s σ H _ I h) fun v s1=>?_;rintro⟨y,H1,I1,r1,x,ex,q⟩;subst ex;obtain⟨t,rfl⟩:=r1;cases ha:x.cps.all (·<128)
 ·exact wpAny_pyIter_wide ha (zO (tk:=s1.toks) I1 _ (Uo _ x t "str_iterator" (.inr rfl)) ⟨_,eG _ rfl,rfl,rfl⟩ q)
 ·exact wpAny_pyIter_ascii ha (zO (tk:=s1.toks) I1 _ (Uo _ x t "str_ascii_iterator" (.inl rfl)) ⟨_,eG _ rfl,rfl,rfl⟩ q)
section
variable {prog:Program}{w:World}{A:Around}{E:ah->aw->Prop}{s:aw}
def Tz {d:ae}{o:Obj}{es:Array DictEntry}{ep:Nat}{Q:ah->aw->Prop}(hd:(d==sysModules)=false)(ho:s.heap.get? d=some o)(hc:o.ExactDict)(oO:o.data= .dict es ep)(hQ:Q (.ref s.heap.objs.size) {s with heap:=s.heap.push {cls:=.type "dict_keyiterator",data:=.fields #[.ref d,.int 0 0,.int es.size 0,.int ep 0]}}):wpAny (model prog w) A (pyIter (.ref d)) Q E s:=by have hT:s.TypeIs (.ref d) "dict":=⟨o,ho,hc.1⟩;apply wpAny_pyIter_slot hT F.slot_dict_iter (wpAny_call_entry F.slot_dict_iter hT F.entry_dict_iter ?_ (F.args_dict_iter_1 _));unfold Builtin.«dict.__iter__»;apply az ?_;unfold Builtin.Dict.dictSlotNone;apply az (wpAny_notOrdered_dict hT ?_);show wpAny _ _ (pure (Value.ref d)) _ _ s;apply aZ ?_;show wpAny _ _ (Builtin.Dict.showsAll d >>= _) _ _ s;unfold Builtin.Dict.showsAll;rw[aB (by rw[hd];exact fE)];apply az (aZ ?_);apply az (wpAny_dictEntries ho oO ?_);apply az (wpAny_dictEpoch ho oO ?_);apply az (wpAny_newObj_type (aZ (Z23 _ rfl "dict_keyiterator" _ ⟨_,eG _ rfl,rfl⟩ F.slot_dict_keyiterator_next.lookup ?_)));simpa[rawInt]using hQ
def ZY {it d:ae}{i n ep:Nat}{od:Obj}{es:Array DictEntry}{en:DictEntry}{Q:Option ah->aw->Prop}(cb:s.heap.IsKeyIter it d i n ep)(nX:s.heap.get? d=some od)(A5:od.data= .dict es ep)(hsz:es.size=n)(hx:es[i]?=some en)(hQ:∀h',h'.IsKeyIter it d (i+1) n ep->Heap.SameBut it s.heap h'->Q (some en.key) {s with heap:=h'}):wpAny (model prog w) A (pyNext (.ref it)) Q E s:=by
 obtain⟨o,ho,hc,hd⟩:=id cb;unfold pyNext;apply az (wpAny_attempt (wpAny_callSpecial?_slot (name:=Str.ofString "__next__") cb.typeIs F.slot_dict_keyiterator_next
  (wpAny_call_entry F.slot_dict_keyiterator_next cb.typeIs F.entry_dict_keyiterator_next ?_ (F.args_dict_keyiterator_next_1 _))))
 apply az (aZ ?_);apply az ?_;apply az ?_
 first|apply az (wpAny_typeNameOfWhole_keyiter cb.typeIs (aZ ?_))|apply az (wpAny_typeNameOf_keyiter cb.typeIs (aZ ?_))
 apply az (wpAny_fieldsOf ho hd ?_);have Mr:Builtin.Dict_items.ownsTuple "dict_keyiterator"=false:=by decide
 simp only[Mr,Bool.false_eq_true,if_false];show wpAny _ _ (if(Value.ref d==Value.none)=true then _ else _) _ _ s;rw[aB (show¬((Value.ref d==Value.none)=true)from fE)];apply az (aZ ?_);apply az (wpAny_dictEntries nX A5 ?_);rw[aB (by rw[hsz];simp)];apply az (aZ ?_);apply az (wpAny_dictEpoch nX A5 ?_);rw[aB (by simp)];apply aZ ?_;obtain⟨aiP,NL⟩:=Array.getElem?_eq_some_iff.mp hx;simp only[show¬((i:Int)<0)from by omega,if_false,mj,Array.getElem?_eq_getElem aiP];apply az ?_
 first|apply az (wpAny_typeNameOfWhole_keyiter cb.typeIs (aZ ?_))|apply az (wpAny_typeNameOf_keyiter cb.typeIs (aZ ?_))
 apply az (wpAny_isOneOf_keyiter cb.typeIs ?_);show wpAny _ _ (setField (.ref it) 1 (rawInt ((i:Int)+1)) >>= _) _ _ s;apply az (wpAny_setField ho hd (by simp) ?_);have xg:(s.heap.update it (Obj.mapFields (·.setIfInBounds 1 (rawInt ((i:Int)+1))))).IsKeyIter it d (i+1) n ep :=
  (Z12 _ (Heap.get?_update_self _ ho (Obj.isFreed_of_fields (Obj.data_mapFields hd _))) ((Obj.cls_mapFields ..).trans hc) (by rw[Obj.data_mapFields hd];simp[rawInt]))
 apply az (wpAny_holding ?_);apply az (wpAny_isOneOf_keyiter (s:={s with heap:=s.heap.update it (Obj.mapFields (·.setIfInBounds 1 (rawInt ((i:Int)+1))))}) xg.typeIs ?_);show wpAny _ _ (pure es[i].key) _ _ _;rw[NL];exact aZ (aZ ⟨_,rfl,aZ (hQ _ xg (Heap.SameBut.update ..))⟩)
def Q8 {it d:ae}{i n ep:Nat}{od:Obj}{es:Array DictEntry}{Q:Option ah->aw->Prop}(hh:A.handled=none)(cb:s.heap.IsKeyIter it d i n ep)(nX:s.heap.get? d=some od)(A5:od.data= .dict es ep)(hsz:es.size=n)(E8:n<=i)(hQ:∀h',Heap.ExtBut it s.heap h'->Q none {s with heap:=h'}):wpAny (model prog w) A (pyNext (.ref it)) Q E s:=by
 obtain⟨o,ho,hc,hd⟩:=id cb;unfold pyNext;apply az (wpAny_attempt (wpAny_callSpecial?_slot (name:=Str.ofString "__next__") cb.typeIs F.slot_dict_keyiterator_next
  (wpAny_call_entry F.slot_dict_keyiterator_next cb.typeIs F.entry_dict_keyiterator_next ?_ (F.args_dict_keyiterator_next_1 _))))
 apply az (aZ ?_);apply az ?_;apply az ?_
 first|apply az (wpAny_typeNameOfWhole_keyiter cb.typeIs (aZ ?_))|apply az (wpAny_typeNameOf_keyiter cb.typeIs (aZ ?_))
 apply az (wpAny_fieldsOf ho hd ?_);have Mr:Builtin.Dict_items.ownsTuple "dict_keyiterator"=false:=by decide
 simp only[Mr,Bool.false_eq_true,if_false];show wpAny _ _ (if(Value.ref d==Value.none)=true then _ else _) _ _ s;rw[aB (show¬((Value.ref d==Value.none)=true)from fE)];apply az (aZ ?_);apply az (wpAny_dictEntries nX A5 ?_);rw[aB (by rw[hsz];simp)];apply az (aZ ?_);apply az (wpAny_dictEpoch nX A5 ?_);rw[aB (by simp)];apply aZ ?_;have ai1:es.size<=i:=by rw[hsz];exact E8
 simp only[show¬((i:Int)<0)from by omega,if_false,mj,Array.getElem?_eq_none ai1];apply az ?_
 first|apply az (wpAny_typeNameOfWhole_keyiter cb.typeIs (aZ ?_))|apply az (wpAny_typeNameOf_keyiter cb.typeIs (aZ ?_))
 show wpAny _ _ (setField (.ref it) 0 .none >>= _) _ _ s;apply az (wpAny_setField ho hd (by simp) ?_);show wpAny _ _ (newExc (.type "StopIteration") [] >>= _) _ _ _;apply az ?_;simp only[newExc,newTuple];apply az (wpAny_newObj_type ?_ (by size_fits));apply az (m:=firstArgMember _ _) (wpAny_of_eq (a:=Value.none) (by first|rfl|(simp only[firstArgMember];rfl)) ?_);apply wpAny_newObj_type ?_ (by size_fits);simp only[raiseNew];apply az (wpAny_handled ?_);rw[show A.in1.handled=none from hh];apply az (aZ (wpAny_throw ?_));apply az (wpAny_isInstance (T:="StopIteration") (b:=true) ⟨_,eG _ rfl,rfl⟩ isSubtype_stop ?_);exact aZ (hQ _ (((Heap.SameBut.update ..).extBut.push _).push _))
end
def agv {κ:Type}{ai:List (κ×V)}{vs:List (κ×ah)}(h:KV ai vs):∀{i:Nat}{k:κ}{v:V},ai[i]?=some (k,v)->∃u,vs[i]?=some (k,u)/\bF v u:=by
 unfold KV at h
 induction h with
 | nil=>intro i k v e;simp at e
 | @cons a b uA uz r t ih =>
  intro i k v e;cases i with
  | zero =>simp only[List.getElem?_cons_zero,Option.some.injEq]at e;subst e;apply⟨b.2,?_,r.2⟩;simp only[List.getElem?_cons_zero];exact congrArg some (Prod.ext r.1.symm rfl)
  | succ j =>simp only[List.getElem?_cons_succ]at e⊢;exact ih e
def abn {α β:Type}{G:α->β->Prop}{uA:List α}{uz:List β}(h:Paired G uA uz):∀{i:Nat}{a:α},uA[i]?=some a->∃b,uz[i]?=some b/\G a b:=by
 induction h with
 | nil=>intro i a e;simp at e
 | @cons a b uA uz r t ih =>
  intro i a' e;cases i with
  | zero =>simp only[List.getElem?_cons_zero,Option.some.injEq]at e;subst e;exact⟨b,rfl,r⟩
  | succ j =>simp only[List.getElem?_cons_succ]at e⊢;exact ih e
def adE {k:aP}{u:ah}(h:nH k u=true):bF (kV k) u:=by
 rcases oq h with⟨i,t,rfl,rfl⟩|⟨x,t,rfl,rfl⟩
 ·exact⟨t,rfl⟩
 ·exact⟨t,rfl⟩
section
variable {X:Cx}{af:List (ae×Obj)}{σ:St}{H:Hp}{s:aw}{d:ae}{o:Obj}
def au.MG {ai:List (aP×V)}(I:au X af σ H s)(h:H d=some (.cK o (.dK ai))):(d==sysModules)=false/\s.heap.get? d=some o/\o.ExactDict/\∃(es:Array DictEntry)(ep:Nat)(vs:List (aP×ah)),o.data= .dict es ep/\es.size=ai.length/\KV ai vs/\s.heap.DictAt (gC X.prog X.w) d vs ep:=by obtain⟨hd,z,hs,vs,kv,o',es,ep,ho,hx,iC,r⟩:=I.aH d _ h;rw[hd]at ho;cases ho;apply⟨hs,hd,hx,Z20 es ep vs iC ?_ kv (Z26 o es hd hx iC r)⟩;have l1:=r.2.1.length;have l2:ai.length=vs.length:=Paired.length kv;rw[Array.length_toList]at l1;omega
def au.MF {ai:List (List aP×V)}(I:au X af σ H s)(h:H d=some (.cK o (.dT ai))):(d==sysModules)=false/\s.heap.get? d=some o/\o.ExactDict/\∃(es:Array DictEntry)(ep:Nat),o.data= .dict es ep/\es.size=ai.length/\∀(i:Nat)(k:List aP)(v:V),ai[i]?=some (k,v)->∃(en:DictEntry)(q:ae),es[i]?=some en/\en.key= .ref q/\H q=some (.bp (k.map kV)):=by
 obtain⟨hd,z,hs,xs,pr,o',es,ep,ho,hx,iC,he,_⟩:=I.aH d _ h;rw[hd]at ho;cases ho;apply⟨hs,hd,Z45 hx es ep iC ?_ (fun i k v e=>?_)⟩
 ·have l1:es.size=xs.length:=size_of_entries he;have l2:ai.length=xs.length:=Paired.length pr;omega
 ·obtain⟨b,hb,e1,e2,_⟩:=abn pr e;have q:=entry_at he i;rw[hb]at q;exact Z14 _ b.2.1 q rfl e2
end
def Y2 (d:ae)(o:Obj)(ai:List (aP×V)):It :=
 ⟨fun i H=>H d=some (.cK o (.dK ai))/\i<ai.length,fun i H x H'=>H'=H/\∃k v,ai[i]?=some (k,v)/\x=kV k,fun i H=>H d=some (.cK o (.dK ai))/\ai.length<=i⟩
def Xb (d:ae)(o:Obj)(ai:List (List aP×V)):It :=
 ⟨fun i H=>H d=some (.cK o (.dT ai))/\i<ai.length,fun i H x H'=>H'=H/\∃(k:List aP)(v:V)(q:ae),ai[i]?=some (k,v)/\x= .ref q/\H q=some (.bp (k.map kV)),fun i H=>H d=some (.cK o (.dT ai))/\ai.length<=i⟩
def Dq {o:Obj}{es ph:Array DictEntry}{ep pk:Nat}(h:o.data= .dict es ep)(h':o.data= .dict ph pk):ph=es/\pk=ep:=by rw[h]at h';cases h';exact⟨rfl,rfl⟩
section
variable {P:Program}{w:World}{K:aI}{tg:Expr}{d:ae}{o:Obj}{es:Array DictEntry}{ep:Nat}
def ab2 {ai:List (aP×V)}(it:ae)(nX:o.data= .dict es ep):l0 P w K tg (Y2 d o ai) [it] it (fun i h=>h.IsKeyIter it d i ai.length ep) where
 mem:=by simp
 obj:=fun i h st b hb=>by
  have e:b=it:=by simpa using hb
  subst e;obtain⟨oi,e,c,dd⟩:=st;exact⟨oi,e,fun v z=>by rw[dd]at z;cases z⟩
 keep:=fun i h h' st k=>st.at fun oi e=>k it (by simp) oi e
 item:=by intro X hP hw hK hc i af s σ H E I hf st hg;subst hP hw hK;obtain⟨hd,hi⟩:=hg;obtain⟨f0,f1,f2,f3,f4,f5⟩:=hf it (by simp);obtain⟨hs,o6,hx,ph,pk,vs,iC,hsz,kv,hm⟩:=I.MG hd;obtain⟨rfl,rfl⟩:=Dq nX iC;obtain⟨⟨k,v⟩,nZ⟩:∃p,ai[i]?=some p:=⟨ai[i],cB hi⟩;obtain⟨u,hu,ru⟩:=agv kv nZ;have hl:ai.length=vs.length:=Paired.length kv;rw[hl]at st;apply wpAny_pyNext_dict_item st hm hu fun key h' uK iu sb=>?_;have I1:au X af σ H {s with heap:=h'}:=I.iU (t':=s.toks) (fun b ob hb e=>(sb.2 b hb).trans e) f0 f1 f3 f4 f5;obtain⟨oi,e,c,dd⟩:=id iu;apply⟨key,rfl,uo (s:={s with heap:=h'}) e c dd (by decide) (Z22 (kV k) H I1 (adE (show nH k key=true from uK)) ⟨rfl,k,v,nZ,rfl⟩ ?_ (fun b hb=>(hf b hb).1))⟩;show h'.IsKeyIter it d (i+1) ai.length _;rw[hl];exact iu
 done:=by intro X hP hw hK hc i af s σ H E I hf st hg;subst hP hw hK;obtain⟨hd,hi⟩:=hg;obtain⟨f0,f1,f2,f3,f4,f5⟩:=hf it (by simp);obtain⟨hs,o6,hx,ph,pk,vs,iC,hsz,kv,hm⟩:=I.MG hd;obtain⟨rfl,rfl⟩:=Dq nX iC;exact Q8 (I.ok.hd hc) st o6 iC hsz hi fun h' eb=>⟨rfl,I.iU (t':=s.toks) (fun b ob hb e=>eb b ob hb e) f0 f1 f3 f4 f5⟩
 k9:=fun A i s Q E st h=>wpAny_pyIter_keyiter st h
def aa1 {ai:List (List aP×V)}(it:ae)(nX:o.data= .dict es ep):l0 P w K tg (Xb d o ai) [it] it (fun i h=>h.IsKeyIter it d i ai.length ep) where
 mem:=by simp
 obj:=fun i h st b hb=>by
  have e:b=it:=by simpa using hb
  subst e;obtain⟨oi,e,c,dd⟩:=st;exact⟨oi,e,fun v z=>by rw[dd]at z;cases z⟩
 keep:=fun i h h' st k=>st.at fun oi e=>k it (by simp) oi e
 item:=by intro X hP hw hK hc i af s σ H E I hf st hg;subst hP hw hK;obtain⟨hd,hi⟩:=hg;obtain⟨f0,f1,f2,f3,f4,f5⟩:=hf it (by simp);obtain⟨hs,o6,hx,ph,pk,iC,hsz,ent⟩:=I.MF hd;obtain⟨rfl,rfl⟩:=Dq nX iC;obtain⟨⟨k,v⟩,nZ⟩:∃p,ai[i]?=some p:=⟨ai[i],cB hi⟩;obtain⟨en,q,NL,uK,hq⟩:=ent i k v nZ;apply ZY st o6 iC hsz NL fun h' iu sb=>?_;have I1:au X af σ H {s with heap:=h'}:=I.iU (t':=s.toks) (fun b ob hb e=>(sb.2 b hb).trans e) f0 f1 f3 f4 f5;obtain⟨oi,e,c,dd⟩:=id iu;exact⟨en.key,rfl,uo (s:={s with heap:=h'}) e c dd (by decide) (Z22 (.ref q) H I1 uK ⟨rfl,Z19 k v q nZ rfl hq⟩ iu (fun b hb=>(hf b hb).1))⟩
 done:=by intro X hP hw hK hc i af s σ H E I hf st hg;subst hP hw hK;obtain⟨hd,hi⟩:=hg;obtain⟨f0,f1,f2,f3,f4,f5⟩:=hf it (by simp);obtain⟨hs,o6,hx,ph,pk,iC,hsz,ent⟩:=I.MF hd;obtain⟨rfl,rfl⟩:=Dq nX iC;exact Q8 (I.ok.hd hc) st o6 iC hsz hi fun h' eb=>⟨rfl,I.iU (t':=s.toks) (fun b ob hb e=>eb b ob hb e) f0 f1 f3 f4 f5⟩
 k9:=fun A i s Q E st h=>by apply wpAny_pyIter_slot st.typeIs F.slot_dict_keyiterator_iter (wpAny_call_entry F.slot_dict_keyiterator_iter st.typeIs F.entry_dict_keyiterator_iter ?_ (F.args_dict_keyiterator_iter_1 _));show wpAny _ _ (ret (.ref it)) _ _ s;exact aZ (Z23 _ rfl "dict_keyiterator" _ st.typeIs F.slot_dict_keyiterator_next.lookup h)
end
def ahr (td:TE):TI:=fun σ H R=>td σ H fun x H1=>∃d o,x= .ref d/\((∃ai,H1 d=some (.cK o (.dK ai))/\R (Y2 d o ai) H1)\/∃ai,H1 d=some (.cK o (.dT ai))/\R (Xb d o ai) H1)
section
variable {X:Cx}{tg e:Expr}{td:TE}{fK ir:Pos}
def aeY (he:PE X e td):PI X tg e (ahr td):=by
 intro af s σ H R I h;apply aS (he af s σ H _ I h) fun u s1=>?_;rintro⟨x,H1,I1,rx,d,o,ex,q⟩;subst ex;obtain rfl:u=Value.ref d:=rx;rcases q with⟨ai,hd,q⟩|⟨ai,hd,q⟩
 ·obtain⟨hs,o6,hx,es,ep,vs,iC,hsz,kv,hm⟩:=I1.MG hd;apply Tz hs o6 hx iC (zO (tk:=s1.toks) I1 _ (ab2 _ iC) (Z12 _ (eG _ rfl) rfl ?_) q);rw[hsz]<;>rfl
 ·obtain⟨hs,o6,hx,es,ep,iC,hsz,ent⟩:=I1.MF hd;apply Tz hs o6 hx iC (zO (tk:=s1.toks) I1 _ (aa1 _ iC) (Z12 _ (eG _ rfl) rfl ?_) q);rw[hsz]<;>rfl
end
def Y3 (K:aI)(a:ae):It :=
 ⟨fun i H=>∃(xs:List V)(x:V),aA K H a xs/\xs[i]?=some x,fun i H v H'=>∃T x,v= .ref T/\H T=none/\H'=ay H T (.bp [.int (i:Nat),x])/\∀xs,aA K H a xs->xs[i]?=some x,fun i H=>∃xs:List V,aA K H a xs/\xs.length<=i⟩
def ab3 {P:Program}{w:World}{K:aI}{kI:List Expr}{kk:Nat}{jm:Pos}(a e it:ae):l0 P w K (.Tuple kI kk jm) (Y3 K a) [e,it] e (fun i h=>(∃old,IsEnum h e it ((i:Nat):Int) old)/\h.IsListIter it a i/\e≠it) where
 mem:=by simp
 obj:=fun i h st b hb=>by
  obtain⟨⟨old,he⟩,⟨o,ho,hc,hd⟩,_⟩:=st;have e':b=e\/b=it:=by simpa using hb
  rcases e' with z|z
  ·rw[z];exact⟨_,he,fun v q=>nomatch q⟩
  ·rw[z];exact⟨o,ho,fun v q=>by rw[hd]at q;cases q⟩
 keep:=fun i h h' st k=>let ⟨⟨old,he⟩,hi,bJ⟩:=st;⟨⟨old,k e (by simp) _ he⟩,hi.at fun o q=>k it (by simp) o q,bJ⟩
 item:=by
  intro X hP hw hK hc i af s σ H E I hf st hg;subst hP hw hK;obtain⟨⟨old,he⟩,cb,bJ⟩:=st;obtain⟨xs,x,hq,hx⟩:=hg;obtain⟨its,rv,p,hz⟩:=I.list hq;obtain⟨u,hu,ru⟩:=rv.get hx;have A4:e<s.heap.objs.size:=bW he;have jR:it<s.heap.objs.size:=by obtain⟨_,q,_⟩:=cb;exact bW q
  apply wpAny_pyNext_enum_item he cb p.isList (x:=u) (by simpa using hu) bJ fun h' ho xg hT hsz hk=>?_;apply Z10 _ rfl (wpAny_letOwnedTupleGo_enum (s:={s with heap:=h',toks:=s.toks+1}) ho fun kh NM sb=>?_);have qt:kh.get? s.heap.objs.size=some {cls:=.type "tuple",data:=.seq #[.int i s.toks,u]}:=(sb.2 _ (Nat.ne_of_gt A4)).trans hT;have new:eK X.prog X.w (ay H s.heap.objs.size (.bp [.int (i:Nat),x])) kh s.heap.objs.size (.bp [.int (i:Nat),x]) :=
   ⟨by show 2<=sizeLine;decide,[.int i s.toks,u],.cons ⟨_,rfl⟩ (.cons ru .nil),Z47 _ qt rfl _ rfl⟩
  have I1:au X af σ (ay H s.heap.objs.size (.bp [.int (i:Nat),x])) {s with heap:=kh,toks:=s.toks+1} :=
   I.zh (ch:=[e,it]) (fun b ob hb q=>(sb.2 b (fun z=>hb (by simp[z]))).trans (hk b ob (fun z=>hb (by simp[z])) (fun z=>hb (by simp[z])) q)) hf (bo _) new
  apply Z22 (.ref s.heap.objs.size) _ I1 rfl (Z26 _ x rfl (I.aH.fresh (bo _)) rfl (fun ys hy=>by rw[I.zE hy hq];exact hx)) ⟨⟨u,?_⟩,xg.at fun o q=>(sb.2 it (Ne.symm bJ)).trans q,bJ⟩ (fun b hb=>?_)
  ·have e1:((i+1:Nat):Int)=(i:Int)+1:=by omega
   rw[e1];exact NM
  ·have A7:b<s.heap.objs.size:=by
    have e':b=e\/b=it:=by simpa using hb
    rcases e' with z|z
    ·rw[z];exact A4
    ·rw[z];exact jR
   rw[aq (d9 A7)];exact(hf b hb).1
 done:=by intro X hP hw hK hc i af s σ H E I hf st hg;subst hP hw hK;obtain⟨⟨old,he⟩,cb,bJ⟩:=st;obtain⟨xs,hq,hx⟩:=hg;obtain⟨its,rv,p,hz⟩:=I.list hq;obtain⟨f0,f1,f2,f3,f4,f5⟩:=hf it (by simp);have hl:=rv.length;exact wpAny_pyNext_enum_end (I.ok.hd hc) he cb p.isList (by simp;omega) fun h' eb=>⟨rfl,I.iU (t':=s.toks) (fun b o hb q=>eb b o hb q) f0 f1 f3 f4 f5⟩
 k9:=fun A i s Q E st h=>let ⟨⟨_,he⟩,_⟩:=st;wpAny_pyIter_enum he h
def ahs (K:aI)(ta:TA):TI:=fun σ H R=>ta σ H fun vs H1=>∃a xs,vs=[.ref a]/\aA K H1 a xs/\R (Y3 K a) H1
def Vk {X:Cx}{e:Expr}{ta:TA}{p pos jm:Pos}{kI:List Expr}{kk:Nat}(hg:Gl X "enumerate")(hm:X.mg "enumerate"=none)(ha:PA X [e] ta)(hs:starEach [e] X.env=[(false,eval e X.env)]:=by rfl):PI X (.Tuple kI kk jm) (.Call (.Name "enumerate" p) [e] [] pos) (ahs X.K ta):=by
 intro af s σ H R I h;apply Call_ (oA I hg hm boot_enumerate (PyProof.Rows.callWith_type1 (aS (ha pos af s σ H _ I h) fun us s1=>?_) hs rfl));rintro⟨vs,H1,I1,r1,q1⟩;obtain⟨a,xs,ex,hq,q⟩:=q1;subst ex;cases r1 with
 | cons r rr =>
  cases rr;cases r;obtain⟨its,rv,p',hz⟩:=I1.list hq;apply call_enumerate_list p'.isList fun h' he cb hsz hk=>wpAny_pyIter_enum he ?_;have I2:au X af σ H1 {s1 with heap:=h'}:=I1.fI (t':=s1.toks) hk;apply Z40 (s1.heap.objs.size+1) [s1.heap.objs.size+1,s1.heap.objs.size] _ _ H1 rfl I2 (ab3 a (s1.heap.objs.size+1) s1.heap.objs.size) ⟨⟨.none,he⟩,cb,Nat.succ_ne_self _⟩ (fun b hb=>?_) q;have e':b=s1.heap.objs.size+1\/b=s1.heap.objs.size:=by simpa using hb
  have gz:s1.heap.objs.size<=b:=by
   rcases e' with z|z
   ·rw[z];exact Nat.le_add_right _ _
   ·rw[z];exact bo _
  exact I1.oR gz (I1.aH.fresh gz)
def Kg:bootBuiltins "zip"=some (.type "zip"):=by decide+kernel
def Bp (K:aI)(a b:ae):It :=
 ⟨fun i H=>∃(xs ys:List V)(x y:V),aA K H a xs/\aA K H b ys/\xs[i]?=some x/\ys[i]?=some y,
  fun i H v H'=>∃T x y,v= .ref T/\H T=none/\H'=ay H T (.bp [x,y])/\(∀xs,aA K H a xs->xs[i]?=some x)/\∀ys,aA K H b ys->ys[i]?=some y,
  fun i H=>∃xs ys:List V,aA K H a xs/\aA K H b ys/\(xs.length<=i\/ys.length<=i)⟩
def ada {P:Program}{w:World}{K:aI}{kI:List Expr}{kk:Nat}{jm:Pos}{a b z TI TO i1 i2:ae}(D:ZipApart z TI TO i1 i2 a b):l0 P w K (.Tuple kI kk jm) (Bp K a b) [z,TI,TO,i1,i2] z (fun i h=>IsZip h z TI TO .none/\IsPair h TI (.ref i1) (.ref i2)/\(∃x y,IsPair h TO x y)/\h.IsListIter i1 a i/\h.IsListIter i2 b i) where
 mem:=by simp
 obj:=fun i h st c hc=>by
  obtain⟨hz,cP,⟨x,y,du⟩,⟨o1,e1,_,d1⟩,⟨o2,e2,_,d2⟩⟩:=st;have e':c=z\/c=TI\/c=TO\/c=i1\/c=i2:=by simpa using hc
  rcases e' with q|q|q|q|q
  ·rw[q];exact⟨_,hz,fun v q=>nomatch q⟩
  ·rw[q];exact⟨_,cP,fun v q=>nomatch q⟩
  ·rw[q];exact⟨_,du,fun v q=>nomatch q⟩
  ·rw[q];exact⟨o1,e1,fun v q=>by rw[d1]at q;cases q⟩
  ·rw[q];exact⟨o2,e2,fun v q=>by rw[d2]at q;cases q⟩
 keep:=fun i h h' st k=>by obtain⟨hz,cP,⟨x,y,du⟩,h1,h2⟩:=st;exact⟨k z (by simp) _ hz,k TI (by simp) _ cP,⟨x,y,k TO (by simp) _ du⟩,h1.at fun o q=>k i1 (by simp) o q,h2.at fun o q=>k i2 (by simp) o q⟩
 item:=by
  intro X hP hw hK hc i af s σ H E I hf st hg;subst hP hw hK;obtain⟨hz,cP,⟨x0,y0,du⟩,h1,h2⟩:=st;obtain⟨xs,ys,x,y,sL,sJ,hx,hy⟩:=hg;obtain⟨its,rv,p,_⟩:=I.list sL;obtain⟨ip,uY,p2,_⟩:=I.list sJ;obtain⟨u,hu,ru⟩:=rv.get hx;obtain⟨u2,AN,MW⟩:=uY.get hy;have dZ:z<s.heap.objs.size:=bW hz;apply wpAny_pyNext_zip_item D hz cP du h1 h2 p.isList p2.isList (x:=u) (y:=u2) (by simpa using hu) (by simpa using AN) fun h' z' Oo N6 xX hT hsz hk=>?_;apply Z10 _ rfl (wpAny_letOwnedTupleGo_zip (s:={s with heap:=h'}) z' fun kh MS sb=>?_);have qt:kh.get? s.heap.objs.size=some {cls:=.type "tuple",data:=.seq #[u,u2]}:=(sb.2 _ (Nat.ne_of_gt dZ)).trans hT;have new:eK X.prog X.w (ay H s.heap.objs.size (.bp [x,y])) kh s.heap.objs.size (.bp [x,y]) :=
   ⟨by show 2<=sizeLine;decide,[u,u2],.cons ru (.cons MW .nil),Z47 _ qt rfl _ rfl⟩
  have I1:au X af σ (ay H s.heap.objs.size (.bp [x,y])) {s with heap:=kh} :=
   I.zh (t':=s.toks) (ch:=[z,TI,TO,i1,i2]) (fun c o hb q=>(sb.2 c (fun q'=>hb (by simp[q']))).trans (hk c o (fun q'=>hb (by simp[q'])) (fun q'=>hb (by simp[q'])) (fun q'=>hb (by simp[q'])) (fun q'=>hb (by simp[q'])) q)) hf (bo _) new
  apply Z22 (.ref s.heap.objs.size) _ I1 rfl (Z13 _ x y rfl (I.aH.fresh (bo _)) rfl (fun l hl=>by rw[I.zE hl sL];exact hx) (fun l hl=>by rw[I.zE hl sJ];exact hy)) ⟨MS,?_,⟨u,u2,?_⟩,?_,?_⟩ (fun c n8=>?_)
  ·exact(sb.2 _ D.TIz).trans (hk _ _ D.TIz D.TITO D.TIi1 D.TIi2 cP)
  ·exact(sb.2 _ D.TOz).trans Oo
  ·exact N6.at fun o q=>(sb.2 _ D.i1z).trans q
  ·exact xX.at fun o q=>(sb.2 _ D.i2z).trans q
  ·have br:c<s.heap.objs.size:=by
    have e':c=z\/c=TI\/c=TO\/c=i1\/c=i2:=by simpa using n8
    rcases e' with q|q|q|q|q
    ·rw[q];exact dZ
    ·rw[q];exact bW cP
    ·rw[q];exact bW du
    ·rw[q];obtain⟨_,e1,_⟩:=h1;exact bW e1
    ·rw[q];obtain⟨_,e2,_⟩:=h2;exact bW e2
   rw[aq (d9 br)];exact(hf c n8).1
 done:=by
  intro X hP hw hK hc i af s σ H E I hf st hg;subst hP hw hK;obtain⟨hz,cP,⟨x0,y0,du⟩,h1,h2⟩:=st;obtain⟨xs,ys,sL,sJ,mF⟩:=hg;obtain⟨its,rv,p,_⟩:=I.list sL;obtain⟨ip,uY,p2,_⟩:=I.list sJ;have l1:=rv.length;have l2:=uY.length;have he:its.toArray[i]?=none\/ip.toArray[i]?=none:=by
   rcases mF with q|q
   ·exact .inl (by simp;omega)
   ·exact .inr (by simp;omega)
  exact wpAny_pyNext_zip_end (I.ok.hd hc) D hz cP du h1 h2 p.isList p2.isList he fun h' hk=>⟨rfl,I.KS (t':=s.toks) (ch:=[z,TI,TO,i1,i2]) (fun c o hb q =>hk c o (fun q'=>hb (by simp[q'])) (fun q'=>hb (by simp[q'])) (fun q'=>hb (by simp[q'])) (fun q'=>hb (by simp[q'])) q) hf⟩
 k9:=fun A i s Q E st h=>wpAny_pyIter_zip st.1 h
def ain (K:aI)(ta:TA):TI:=fun σ H R=>ta σ H fun vs H1=>∃a b xs ys,vs=[.ref a,.ref b]/\aA K H1 a xs/\aA K H1 b ys/\R (Bp K a b) H1
def Lv {X:Cx}{e e2:Expr}{ta:TA}{p pos jm:Pos}{kI:List Expr}{kk:Nat}(hg:Gl X "zip")(hm:X.mg "zip"=none)(ha:PA X [e,e2] ta)(hs:starEach [e,e2] X.env=(false,eval e X.env)::starEach [e2] X.env:=by rfl)(cR:(backTo pos (starEach [e2] X.env)).any (·.1)=false:=by rfl):PI X (.Tuple kI kk jm) (.Call (.Name "zip" p) [e,e2] [] pos) (ain X.K ta):=by
 intro af s σ H R I h;apply Call_ (oA I hg hm Kg (PyProof.Rows.callWith_type1 (aS (ha pos af s σ H _ I h) fun us s1=>?_) hs cR));rintro⟨vs,H1,I1,r1,q1⟩;obtain⟨a,b,xs,ys,ex,sL,sJ,q⟩:=q1;subst ex;cases r1 with
 | cons r rr =>
  cases rr with
  | cons r' rr =>
   cases rr;cases r;cases r';obtain⟨its,rv,p1,_⟩:=I1.list sL;obtain⟨ip,uY,p2,_⟩:=I1.list sJ;have la:a<s1.heap.objs.size:=p1.lt;have lb:b<s1.heap.objs.size:=p2.lt;apply call_zip_2 p1.isList p2.isList fun h' hz cP du h1 h2 hsz hk=>wpAny_pyIter_zip hz ?_;have I2:au X af σ H1 {s1 with heap:=h'}:=I1.fI (t':=s1.toks) hk;apply Z40 (s1.heap.objs.size+4) [s1.heap.objs.size+4,s1.heap.objs.size+2,s1.heap.objs.size+3,s1.heap.objs.size,s1.heap.objs.size+1] _ _ H1 rfl I2 (ada (W.ktu_apart s1.heap.objs.size a b la lb)) ⟨hz,cP,⟨_,_,du⟩,h1,h2⟩ (fun c n8=>?_) q;have e':c=s1.heap.objs.size+4\/c=s1.heap.objs.size+2\/c=s1.heap.objs.size+3\/c=s1.heap.objs.size\/c=s1.heap.objs.size+1:=by simpa using n8
   have gz:s1.heap.objs.size<=c:=by
    rcases e' with z|z|z|z|z
    ·rw[z];exact Nat.le_add_right _ _
    ·rw[z];exact Nat.le_add_right _ _
    ·rw[z];exact Nat.le_add_right _ _
    ·rw[z];exact bo _
    ·rw[z];exact Nat.le_add_right _ _
   exact I1.oR gz (I1.aH.fresh gz)
end L2
section
namespace TL
open PySem PySem.Builtin PySem.Builtin.Str PySem.StrLaws
abbrev tl (x:Str):List Nat:=x.cps.toList
def JO (x y:Str):tl (x++y)=tl x++tl y:=by show(x++y).cps.toList=_;rw[Str.cps_append,Array.toList_append]
def pre (S l:List Nat):Bool:=l.take S.length==S
def EA (S:List Nat):List Nat->List Nat->Option (List Nat×List Nat)
 | _,[]=>none
 | acc,c::r=>if pre S (c::r)=true then some (acc,(c::r).drop S.length)else EA S (acc++[c]) r
def oF (S:List Nat):List (List Nat)->List Nat
 | []=>[]
 | [p]=>p
 | p::q::r=>p++(S++oF S (q::r))
theorem Dd (y:Str):∀parts:List Str,tl (Str.join y parts)=oF (tl y) (parts.map tl)
 | []=>rfl
 | [_]=>rfl
 | x::z::r=>by show tl (x++y++Str.join y (z::r))=tl x++(tl y++oF (tl y) ((z::r).map tl));rw[JO,JO,Dd y (z::r),List.append_assoc]
def Ld (y:Str)(parts:List Str):Txt.join y parts=Str.join y parts:=glued_eq_join y parts
end TL
end
namespace L2
open PySem PySem.Spec PyProof.Rows
theorem Ig:∀{ys:List Str}{us:List ah},be (ys.map V.str) us->StrsAre us ys
 | [],_,.nil=>.nil
 | y::ys,_,.cons r t=>by obtain⟨k,rfl⟩:=r;exact .cons y k (Ig t)
section
variable {X:Cx}
def afb:qz X "str.join" (fun x xs H Q=>∃a p,∃ys:List Str,x= .str a/\xs=[.ref p]/\(aA X.K H p (ys.map V.str)\/cS X.K H p (ys.map V.str))/\(ys.map (·.length)).sum+ys.length*a.length<=16777216/\Q (.str (Txt.join a ys)) H):=by
 intro af s σ H x xs v us Q I rx rs h;obtain⟨a,p,ys,rfl,rfl,hp,hz,h⟩:=h;obtain⟨t,rfl⟩:=rx;cases rs with
 | cons r1 rs =>
  cases rs;cases r1;rcases hp with hp|hp
  ·obtain⟨its,r,⟨o,n,ho,hc,_,hd⟩,_⟩:=I.list hp;exact PyProof.Rows.join_list (items:=its.toArray) ⟨o,ho,hc,n,hd⟩ (by rw[List.toList_toArray];exact Ig r) hz fun t' k=>⟨.str _,H,I.dY k,⟨t',rfl⟩,h⟩
  ·obtain⟨its,r,ht,_⟩:=I.tuple hp;exact PyProof.Rows.join_tuple (items:=its.toArray) ht (by rw[List.toList_toArray];exact Ig r) hz fun t' k=>⟨.str _,H,I.dY k,⟨t',rfl⟩,h⟩
def XC {id:String}{C:Str->Prop}{g:Str->V}(rule:∀(a:Str)(t:Tok)(s:aw)(Q:ah->aw->Prop),C a->(∀(u:ah)(k:Nat),bF (g a) u->Q u {s with toks:=k})->wpAny (model X.prog X.w) X.A (call (.builtin id) [.str a t]) Q X.xe s):qz X id (fun x xs H Q=>∃a,x= .str a/\xs=[]/\C a/\Q (g a) H):=by intro af s σ H x xs v us Q I rx rs h;obtain⟨a,rfl,rfl,hc,h⟩:=h;obtain⟨t,rfl⟩:=rx;cases rs;exact rule a t s _ hc fun u k r=>⟨g a,H,I.dY k,r,h⟩
def Sl:qz X "str.isdigit" (fun x xs H Q=>∃a,x= .str a/\xs=[]/\True/\Q (.bl (Txt.isdigit a)) H) :=
 XC (C:=fun _=>True) (g:=fun a=>.bl (Txt.isdigit a)) fun _ _ s _ _ h=>PySem.SC.isdigit (h _ s.toks rfl)
def abA:qz X "str.isalpha" (fun x xs H Q=>∃a,x= .str a/\xs=[]/\True/\Q (.bl (Txt.isalpha a)) H) :=
 XC (C:=fun _=>True) (g:=fun a=>.bl (Txt.isalpha a)) fun _ _ s _ _ h=>PySem.SC.isalpha (h _ s.toks rfl)
end
section
variable {X:Cx}{o e:Expr}{to te:TE}
def tM0 (r:V->List V->Hp->VK->Prop)(to:TE):TE:=fun σ H Q=>to σ H fun x H1=>(∃a,x= .str a)/\r x [] H1 Q
def Xf (r:V->List V->Hp->VK->Prop)(to te:TE):TE:=fun σ H Q=>to σ H fun x H1=>(∃a,x= .str a)/\te σ H1 fun y H2=>r x [y] H2 Q
def LS {id:String}{name:Str}{fK pos:Pos}{r:V->List V->Hp->VK->Prop}(slot:Slot "str" name id)(ty:typeOf (.builtin id)=pure (.type "method_descriptor"))(rule:qz X id r)(ho:PE X o to)(p9:attributeBase o name X.env (eval o X.env)=eval o X.env:=by rfl)(fG:(fK.endLine==pos.line)=true:=by rfl):PE X (.Call (.Attribute o name fK) [] [] pos) (tM0 r to):=by intro af s σ H Q I h;apply PySem.Call_method0 p9 fG (aS (ho af s σ H _ I h) fun v s1=>?_);rintro⟨x,H1,I1,r1,q1⟩;obtain⟨⟨a,rfl⟩,q1⟩:=q1;obtain⟨t,rfl⟩:=_root_.id r1;exact Z42 "str" _ F.plainAttrs_str slot ty (typeIs_str _ _ _) (fun _ e=>nomatch e) (Calls.callWith_builtin rfl (PySem.evalArgs_none (rule af s1 σ H1 _ [] _ [] Q I1 r1 .nil q1)))
def ahi {id:String}{name:Str}{fK pos:Pos}{r:V->List V->Hp->VK->Prop}(slot:Slot "str" name id)(ty:typeOf (.builtin id)=pure (.type "method_descriptor"))(rule:qz X id r)(ho:PE X o to)(he:PE X e te)(hs:starEach [e] X.env=[(false,eval e X.env)]:=by rfl)(p9:attributeBase o name X.env (eval o X.env)=eval o X.env:=by rfl)(fG:(fK.endLine==pos.line)=true:=by rfl):PE X (.Call (.Attribute o name fK) [e] [] pos) (Xf r to te):=by intro af s σ H Q I h;apply PySem.Call_method1 p9 hs fG (aS (ho af s σ H _ I h) fun v s1=>?_);rintro⟨x,H1,I1,r1,q1⟩;obtain⟨⟨a,rfl⟩,q1⟩:=q1;obtain⟨t,rfl⟩:=_root_.id r1;apply Z42 "str" _ F.plainAttrs_str slot ty (typeIs_str _ _ _) (fun _ e=>nomatch e) (Calls.callWith_builtin rfl (Calls.evalArgs_plain (Calls.spliced_cons ?_)));exact aS (he af s1 σ H1 _ I1 q1) fun u s2 ⟨y,H2,I2,r2,q2⟩=>Calls.spliced_nil (rule af s2 σ H2 _ [y] _ [u] Q I2 r1 (.cons r2 .nil) q2)
def Dk {fK pos:Pos}(ho:PE X o to)(he:PE X e te)(hs:starEach [e] X.env=[(false,eval e X.env)]:=by rfl)(p9:attributeBase o "join" X.env (eval o X.env)=eval o X.env:=by rfl)(fG:(fK.endLine==pos.line)=true:=by rfl):PE X (.Call (.Attribute o "join" fK) [e] [] pos) (Xf (fun x xs H Q=>∃a p,∃ys:List Str,x= .str a/\xs=[.ref p]/\(aA X.K H p (ys.map V.str)\/cS X.K H p (ys.map V.str))/\(ys.map (·.length)).sum+ys.length*a.length<=16777216/\Q (.str (Txt.join a ys)) H) to te) :=
 ahi F.slot_str_join F.type_str_join afb ho he hs p9 fG
end
section
variable {X:Cx}
def Sh:gi X (compareOp .In) (fun x y H Q=>∃(c:Nat)(z:Str),x= .str ⟨#[c]⟩/\y= .str z/\Q (.bl (decide (c∈z.cps.toList))) H):=by intro af s σ H x y v u Q I rx ry h;obtain⟨c,z,rfl,rfl,q⟩:=h;obtain⟨t,rfl⟩:=rx;obtain⟨t',rfl⟩:=ry;exact PyProof.Rows.in_str (eV I q (PySem.StrLaws.found_one z c).symm)
end
def IsPart.Xm {v:ah}{o:Option Int}(p:IsPart v o):∃l:Option (Int×Tok),v=partValue l/\l.map (·.1)=o:=by
 cases p with
 | none=>exact⟨none,rfl,rfl⟩
 | int i t=>exact⟨some (i,t),rfl,rfl⟩
def Ae (n d:Nat):Option Int->Int
 | none=>(d:Int)
 | some i=>max 0 (min (if i<0 then i+(n:Int)else i) (n:Int))
def U1 (n d:Nat)(o:Option Int):Ae n d o=((HT.cA n d o:Nat):Int):=by
 cases o with
 | none=>rfl
 | some v =>
  show max (0:Int) (min (if v<0 then v+(n:Int)else v) (n:Int))=(((if v<0 then(v+(n:Int)).toNat else min v.toNat n):Nat):Int);by_cases hv:v<0
  ·simp only[aE hv];omega
  ·simp only[aB hv];omega
def acm (a b:Option Int)(n:Nat):Builtin.Str.strSliceIndices a b 1 n=sliceRange (Ae n 0 a) (Ae n n b) 1:=by
 have h1:((1:Int)>0)=True:=by simp
 cases a<;>cases b<;>first
  | rfl
  | (simp only[Builtin.Str.strSliceIndices,Ae,h1,if_true];rfl)
  | simp[Builtin.Str.strSliceIndices,Ae]
def ahZ (a b:Option Int)(n:Nat):Builtin.Str.strSliceIndices a b 1 n=(List.range (HT.cA n n b-HT.cA n 0 a)).map (fun k=>HT.cA n 0 a+k):=by
 rw[acm,U1,U1];generalize HT.cA n 0 a=p;generalize HT.cA n n b=q;simp only[sliceRange,show((1:Int)>0)=True from by simp,if_true];by_cases br:(p:Int)<q
 ·have e3:(((q:Int)-p+1-1)/1).toNat=q-p:=by first|omega|(simp;done)|(simp;omega)
  simp only[br,if_true,e3];apply List.map_congr_left fun k _=>?_;omega
 ·have:q-p=0:=by omega
  simp[br,this]
def rY (z:Str)(lo hi:Option Int):Str :=
 ⟨((z.cps.toList.drop (HT.cA z.length 0 lo)).take (HT.cA z.length z.length hi-HT.cA z.length 0 lo)).toArray⟩
def Qo (z:Str)(lo hi:Option Int):PySem.StrLaws.sliceText z lo hi=rY z lo hi:=by
 have h1:HT.cA z.length 0 lo<=z.length:=HT.VM _ _ (bA _) _;have h2:HT.cA z.length z.length hi<=z.length:=HT.VM _ _ (bo _) _;have hp:HT.cA z.length 0 lo<=max (HT.cA z.length 0 lo) (HT.cA z.length z.length hi):=Nat.le_max_left _ _;have hq:max (HT.cA z.length 0 lo) (HT.cA z.length z.length hi)<=z.length:=Nat.max_le.mpr ⟨h1,h2⟩;have hd:max (HT.cA z.length 0 lo) (HT.cA z.length z.length hi)-HT.cA z.length 0 lo=HT.cA z.length z.length hi-HT.cA z.length 0 lo:=by omega
 have e:Builtin.Str.strSliceIndices lo hi 1 z.length =
   Builtin.Str.strSliceIndices (some ((HT.cA z.length 0 lo:Nat):Int)) (some ((max (HT.cA z.length 0 lo) (HT.cA z.length z.length hi):Nat):Int)) 1 z.length:=by
  rw[PySem.StrLaws.strSliceIndices_plain hp hq,hd,ahZ]
 have e2:PySem.StrLaws.sliceText z lo hi =
   PySem.StrLaws.sliceText z (some ((HT.cA z.length 0 lo:Nat):Int)) (some ((max (HT.cA z.length 0 lo) (HT.cA z.length z.length hi):Nat):Int)):=by
  unfold PySem.StrLaws.sliceText;rw[e]
 rw[e2,PySem.StrLaws.sliceText_nat z hp hq,hd];rfl
def aaS (z:Str)(lo hi:Option Int):(rY z lo hi).length<=z.length:=by show(((z.cps.toList.drop (HT.cA z.length 0 lo)).take (HT.cA z.length z.length hi-HT.cA z.length 0 lo)).toArray).size<=z.cps.size;rw[gj,gH,jX,Array.length_toList];omega
def ah4:V->Option Int->Option Int->Hp->VK->Prop:=fun x lo hi H Q=>∃z,x= .str z/\z.length<=sizeLine/\Q (.str (rY z lo hi)) H
def VL {X:Cx}:Oq X ah4:=by
 intro af s σ H x v vl vu lo hi sl Q I rx hs pl pu h;obtain⟨z,rfl,hz,q⟩:=h;obtain⟨t,rfl⟩:=rx;obtain⟨os,EZ,mT,hds⟩:=hs;obtain⟨l,rfl,rfl⟩:=IsPart.Xm pl;obtain⟨u,rfl,rfl⟩:=IsPart.Xm pu;apply⟨"str",_,F.slot_str_getitem.lookup,typeIs_str _ _ _,?_⟩;apply wpAny_getItem_str_slice (l:=l) (u:=u) (st:=none) ⟨os,EZ,mT,hds⟩ rfl ?_;have hl:(PySem.StrLaws.sliceText z (l.map (·.1)) (u.map (·.1))).length<=sizeLine:=by rw[Qo];exact b3 (aaS z _ _) hz
 rw[<-Qo]at q;unfold PySem.StrLaws.sliceText at q hl;show Made.post (if((1:Int)==1&&(Builtin.Str.strSliceIndices (l.map (·.1)) (u.map (·.1)) 1 z.length).length==z.length)=true then Made.val (.str z t)
  else Made.str ⟨((Builtin.Str.strSliceIndices (l.map (·.1)) (u.map (·.1)) 1 z.length).filterMap (z.cps[·]?)).toArray⟩) (EP X af σ Q) s
 by_cases c:((1:Int)==1&&(Builtin.Str.strSliceIndices (l.map (·.1)) (u.map (·.1)) 1 z.length).length==z.length)=true
 ·rw[aE c]at q⊢;exact⟨.str z,H,I,⟨t,rfl⟩,q⟩
 ·rw[aB c]at q hl⊢;exact Z45 hl (.str _) H (I.dY _) ⟨_,rfl⟩ q
abbrev Y0 {K:aI}{h:Heap}(_:K.In h):aI:=K
def ej (s:Stmt)(j:Nat):Stmt:=match s with
 | .ClassDef _ _ _ body _ _ _ _ _ _ _=>body.getD j (.Pass ⟨0,0,0,0⟩)
 | _=>.Pass ⟨0,0,0,0⟩
def wz (s:Stmt):Arguments:=match s with
 | .FunctionDef _ a _ _ _ _ _ _ _ _=>a
 | _=>{posonlyargs:=[],args:=[],vararg:=none,kwonlyargs:=[],kw_defaults:=[],kwarg:=none,defaults:=[]}
def qZ (s:Stmt):List Stmt:=match s with
 | .FunctionDef _ _ b _ _ _ _ _ _ _=>b
 | _=>[]
def aR (s:Stmt):Scope:=match s with
 | .FunctionDef _ _ _ _ _ _ sc _ _ _=>sc
 | _=>{kind:=.function,names:=[],isGenerator:=false,isCoroutine:=false}
abbrev E0:XK:=fun _ _ _=>False
structure bz (K:aI)(x qual:Str)(st:Stmt)(f:ae)(fd:FuncData):Prop where
 ex:∃(oc:ah)(od:Option ae)(kV doc pm:ah)(an:Option ae)(aU ct:ah)(xr:Array (Option ah)),
  fd=W.fnOf x qual (wz st) (qZ st) (aR st) .none kV doc pm an aU ct/\K.lookup f=some ⟨oc,od,.func fd,xr⟩/\W.codeIn K aU qual=true
 kp:W.keepIn K (.ref f)=true
section
variable {P:Program}{w:World}{K:aI}{mg:Str->Option ah}{base:Heap}
def bz.oG {x qual:Str}{st:Stmt}{f:ae}{fd:FuncData}{ps:List Str}(F:bz K x qual st f fd)(h:∀(kV doc pm:ah)(an:Option ae)(aU ct:ah)(us:List ah),us.length=ps.length->bindArgs (W.fnOf x qual (wz st) (qZ st) (aR st) .none kV doc pm an aU ct) ⟨us,[]⟩=pure (ps.zip us)):j3 K fd ps []:=by obtain⟨oc,od,kV,doc,pm,an,aU,ct,xr,rfl,lk,jy⟩:=F.ex;exact .all (h kV doc pm an aU ct)
end
def my {A:Around}{k:Nat}(hr:dB k A):A.units+1<cLine:=jd (Nat.add_le_add_left (by decide:1<=64) _) hr.units
def S4 {n:Nat}(h:n<=1000):n<sizeLine:=jd h (by decide)
section
variable {X:Cx}
def pv (i:Nat){x:Str}{pos:Pos}(hN:X.N[i]?=some x:=by rfl)(hv:x3 X.env.scope x:=by first|exact Or.inl rfl|exact Or.inr (Or.inl rfl)|exact Or.inr (Or.inr rfl))(hd:(x==("__debug__":Str))=false:=by decide)(jy:(x==("__classdict__":Str))=false:=by decide):PE X (.Name x pos) (Wn i):=agk hN hv hd jy
end
def aO {A B:Prop}(h:B):if false=true then A else B:=by rw[aB fE];exact h
def a0 {A B:Prop}(h:A):if true=true then A else B:=by rw[aE rfl];exact h
def aj (H H':Hp):Prop:=∀b o,H b=some o->H' b=some o
def aj.refl (H:Hp):aj H H:=fun _ _ h=>h
def aj.trans {H H1 H2:Hp}(a:aj H H1)(b:aj H1 H2):aj H H2:=fun c o h=>b c o (a c o h)
def aj.free {H H':Hp}(e:aj H H'){l:ae}(h:H' l=Option.none):H l=Option.none:=by
 cases q:H l with
 | none=>rfl
 | some o =>rw[e l o q]at h;cases h
def aj.seq {K:aI}{H H':Hp}{a:ae}{xs:List V}(e:aj H H')(h:aA K H a xs):aA K H' a xs:=by
 rcases h with(h|⟨o,h⟩)|h
 ·exact .inl (.inl (e _ _ h))
 ·exact .inl (.inr ⟨o,e _ _ h⟩)
 ·exact .inr h
def aj.rT {H H1:Hp}{x dx C:ae}(nx:H x=Option.none)(nd:H dx=Option.none)(k:∀b o,(ay (ay H dx (.bO x)) x (.bc C dx [])) b=some o->b≠x->H1 b=some o):aj H H1:=fun b o e =>k b o (by rw[aq (aQ e nx),aq (aQ e nd)];exact e) (aQ e nx)
end L2
section
namespace L2
open PySem PySem.Spec PyProof.Rows
open PySem.W (WData Codec OpenSpec Well WellAll ReadsW ReadsAllW)
mutual
inductive Dw (K:aI)(H:Hp):V->WData->Prop
 | bx:Dw K H .bx .none
 | bl (b:Bool):Dw K H (.bl b) (.bool b)
 | int (i:Int):Dw K H (.int i) (.int i)
 | str (x:Str):Dw K H (.str x) (.str x)
 | hJ (b:Array UInt8):Dw K H (.hJ b) (.bytes b.toList)
 | ak {a:ae} {xs:List V} {ds:List WData}:aA K H a xs->mz K H xs ds->Dw K H (.ref a) (.list ds)
 | bp {a:ae} {xs:List V} {ds:List WData}:cS K H a xs->mz K H xs ds->Dw K H (.ref a) (.tuple ds)
inductive mz (K:aI)(H:Hp):List V->List WData->Prop
 | nil:mz K H [] []
 | cons {v:V} {vs:List V} {d:WData} {ds:List WData}:Dw K H v d->mz K H vs ds->mz K H (v::vs) (d::ds)
end
theorem VA {K:aI}{H:Hp}:∀ns:List Int,mz K H (ns.map V.int) (ns.map WData.int)
 | []=>.nil
 | n::r=>.cons (.int n) (VA r)
theorem Vw {K:aI}{H:Hp}:∀(ns:List Int)(xs:List V),mz K H xs (ns.map WData.int)->xs=ns.map V.int
 | [],xs,h=>by cases h;rfl
 | n::r,xs,h=>by
  cases h with
  | cons h1 h2 =>cases h1;rw[Vw r _ h2]<;>rfl
section
variable {P:Program}{w:World}{K:aI}{H:Hp}{h:Heap}{R:W.WRecords}{cl:Str->Option ae}
def afZ {a:ae}{xs:List V}(aH:dh P w H h)(KX:K.In h)(q:aA K H a xs):∃(its:List ah)(o:Obj)(n:Nat),be xs its/\h.get? a=some o/\o.cls= .type "list"/\o.data= .seq its.toArray n:=by
 rcases q with q|⟨o,its,n,e,hc,_,hd,_,hv⟩
 ·obtain⟨_,its,n,hv,e⟩:=(show eK P w H h a (.ak xs)from q.ok aH);exact Z20 its _ n hv e rfl rfl
 ·exact Z20 its.toList o n hv (KX _ _ e) hc (by simp[hd])
def afY {a:ae}{xs:List V}(aH:dh P w H h)(KX:K.In h)(q:cS K H a xs):∃(its:List ah)(o:Obj)(n:Nat),be xs its/\h.get? a=some o/\o.cls= .type "tuple"/\o.data= .seq its.toArray n:=by
 rcases q with q|⟨o,its,n,e,hc,hd,_,hv⟩
 ·obtain⟨_,its,hv,o,e,hc,n,hd⟩:=(show eK P w H h a (.bp xs)from q.ok aH);exact⟨its,o,n,hv,e,hc,hd⟩
 ·exact Z20 its.toList o n hv (KX _ _ e) hc (by simp[hd])
mutual
theorem Dw.Wb (aH:dh P w H h)(KX:K.In h):∀(d:WData)(v:V)(u:ah),Dw K H v d->bF v u->∃as,ReadsW R cl h u d as
 | .none,_,_,x,r=>by cases x;cases r;exact⟨_,ReadsW.none⟩
 | .bool b,_,_,x,r=>by cases x;cases r;exact⟨_,ReadsW.bool b⟩
 | .int i,_,_,x,r=>by cases x;obtain⟨t,rfl⟩:=r;exact⟨_,ReadsW.int i t⟩
 | .str s,_,_,x,r=>by cases x;obtain⟨t,rfl⟩:=r;exact⟨_,ReadsW.str s t⟩
 | .bytes b,_,_,x,r=>by cases x;obtain⟨t,rfl⟩:=r;exact⟨_,ReadsW.bytes _ t⟩
 | .list ds,_,_,x,r=>by
  cases x with
  | ak hs ha =>cases r;obtain⟨its,o,n,rv,ho,hc,hd⟩:=afZ aH KX hs;obtain⟨as,hr⟩:=Dw.Kr aH KX ds _ its ha rv;exact⟨_,ReadsW.list ho hc hd hr⟩
 | .tuple ds,_,_,x,r=>by
  cases x with
  | bp hs ha =>cases r;obtain⟨its,o,n,rv,ho,hc,hd⟩:=afY aH KX hs;obtain⟨as,hr⟩:=Dw.Kr aH KX ds _ its ha rv;exact⟨_,ReadsW.tuple ho hc hd hr⟩
 | .float _,_,_,x,_=>by cases x
 | .dict _,_,_,x,_=>by cases x
 | .bytearray _,_,_,x,_=>by cases x
 | .set _,_,_,x,_=>by cases x
 | .frozenset _,_,_,x,_=>by cases x
 | .obj _ _,_,_,x,_=>by cases x
theorem Dw.Kr (aH:dh P w H h)(KX:K.In h):∀(ds:List WData)(vs:List V)(us:List ah),mz K H vs ds->be vs us->∃as,ReadsAllW R cl h us ds as
 | [],_,_,x,r=>by cases x;cases r;exact⟨_,ReadsAllW.nil⟩
 | d::ds,_,_,x,r=>by
  cases x with
  | cons h1 h2 =>
   cases r with
   | cons r1 r2 =>obtain⟨as,q1⟩:=Dw.Wb aH KX d _ _ h1 r1;obtain⟨bs,q2⟩:=Dw.Kr aH KX ds _ _ h2 r2;exact⟨_,ReadsAllW.cons q1 q2⟩
end
end
mutual
def lz:WData->Bool
 | .none=>true
 | .bool _=>true
 | .int _=>true
 | .str _=>true
 | .bytes _=>true
 | .list xs=>mE xs
 | .tuple xs=>mE xs
 | _=>false
def mE:List WData->Bool
 | []=>true
 | x::r=>lz x&&mE r
end
theorem Uy {α:Type}{f:α->WData}(h:∀a,lz (f a)=true):∀l:List α,mE (l.map f)=true
 | []=>rfl
 | x::r=>by show(lz (f x)&&mE (r.map f))=true;rw[h x,Uy h r]<;>rfl
theorem rh:∀(c:Codec)(a:c.denote),lz (c.enc a)=true
 | .unit,_=>rfl
 | .bool,_=>rfl
 | .int _ _,_=>rfl
 | .nat _ _,_=>rfl
 | .u8,_=>rfl
 | .bytes _ _,_=>rfl
 | .text _ _ _ _,_=>rfl
 | .list _ _ c,a=>Uy (fun x=>rh c x) a
 | .pair c d,a=>by show(lz (c.enc a.1)&&(lz (d.enc a.2)&&true))=true;rw[rh c a.1,rh d a.2]<;>rfl
 | .triple c d e,a=>by show(lz (c.enc a.1)&&(lz (d.enc a.2.1)&&(lz (e.enc a.2.2)&&true)))=true;rw[rh c a.1,rh d a.2.1,rh e a.2.2]<;>rfl
 | .option c,none=>rfl
 | .option c,some x=>rh c x
theorem Th:∀(cs:List Codec)(a:Codec.denoteAll cs),mE (Codec.encAll cs a)=true
 | [],_=>rfl
 | c::cs,a=>by show(lz (c.enc a.1)&&mE (Codec.encAll cs a.2))=true;rw[rh c a.1,Th cs a.2]<;>rfl
theorem Jl:∀{xs:List WData}{d:WData},d∈xs->d.weight<=WData.weightAll xs
 | [],d,h=>absurd h (by simp)
 | x::r,d,h=>by
  show d.weight<=x.weight+1+WData.weightAll r;rcases dv.mp h with e|m
  ·rw[e];omega
  ·have z:=Jl m;omega
def jL:ah->V
 | .none=>.bx
 | .bool b=>.bl b
 | .int i _=>.int i
 | .str x _=>.str x
 | .bytes b _=>.hJ b
 | .ref a=>.ref a
 | _=>.bx
def mh (A:List ae):ah->Prop
 | .none=>True
 | .bool _=>True
 | .int _ _=>True
 | .str _ _=>True
 | .bytes _ _=>True
 | .ref a=>a∈A
 | _=>False
def mh.gv {A B:List ae}(h:∀a∈A,a∈B):∀{u:ah},mh A u->mh B u:=fun{u}x=>by
 cases u with
 | ref a=>exact h a x
 | none=>trivial
 | bool b=>trivial
 | int i t=>trivial
 | str s t=>trivial
 | bytes b t=>trivial
 | _=>exact False.elim x
def adD {A:List ae}{u:ah}(x:mh A u):bF (jL u) u:=by
 cases u with
 | ref a=>rfl
 | none=>rfl
 | bool b=>rfl
 | int i t=>exact⟨t,rfl⟩
 | str s t=>exact⟨t,rfl⟩
 | bytes b t=>exact⟨t,rfl⟩
 | _=>exact False.elim x
theorem wm {A:List ae}:∀{vs:List ah},(∀u∈vs,mh A u)->be (vs.map jL) vs
 | [],_=>.nil
 | u::r,h=>.cons (adD (h u (List.mem_cons_self ..))) (wm fun x hx=>h x (eF _ hx))
def mD (h:Heap)(A:List ae)(a:ae):Prop:=∃vs:List ah,vs.length<=sizeLine/\(∀u∈vs,mh A u) /\
 (h.get? a=some {cls:=.type "list",data:=.seq vs.toArray}\/h.get? a=some {cls:=.type "tuple",data:=.seq vs.toArray})
def mD.gv {h:Heap}{A B:List ae}{a:ae}(k:∀a∈A,a∈B)(x:mD h A a):mD h B a:=by obtain⟨vs,h1,h2,h3⟩:=x;exact⟨vs,h1,fun u hu=>(h2 u hu).gv k,h3⟩
theorem B7 {P:Params}{h:Heap}:∀{vs:List ah}{ds:List WData},WellAll P h vs ds->vs.length=ds.length
 | _,_,.nil=>rfl
 | _,_,.cons _ b=>by show _+1=_+1;rw[B7 b]
def SN {P:Params}{h:Heap}{v:ah}{ds:List WData}(x:Well P h v (.list ds)):∃(a:ae)(vs:List ah),v= .ref a/\h.get? a=some {cls:=.type "list",data:=.seq vs.toArray}/\WellAll P h vs ds:=by
 cases x with
 | list ho i4=>exact⟨_,_,rfl,ho,i4⟩
def R7 {P:Params}{h:Heap}{v:ah}{ds:List WData}(x:Well P h v (.tuple ds)):∃(a:ae)(vs:List ah),v= .ref a/\h.get? a=some {cls:=.type "tuple",data:=.seq vs.toArray}/\WellAll P h vs ds:=by
 cases x with
 | tuple ho i4=>exact⟨_,_,rfl,ho,i4⟩
def SO {P:Params}{h:Heap}{us:List ah}{d:WData}{ds:List WData}(x:WellAll P h us (d::ds)):∃(v:ah)(vs:List ah),us=v::vs/\Well P h v d/\WellAll P h vs ds:=by
 cases x with
 | cons a b=>exact⟨_,_,rfl,a,b⟩
def Vo {n:Nat}(h:n<=1048576):n<=sizeLine:=b3 h (by decide)
section
variable {P:Params}{h:Heap}
mutual
theorem aed:∀(d:WData)(v:ah),Well P h v d->lz d=true->d.weight<=1048576->∃A:List ae,mh A v/\∀a∈A,mD h A a
 | .none,_,x,_,_=>by cases x;exact⟨[],trivial,fun a m=>absurd m (by simp)⟩
 | .bool b,_,x,_,_=>by cases x;exact⟨[],trivial,fun a m=>absurd m (by simp)⟩
 | .int i,_,x,_,_=>by cases x;exact⟨[],trivial,fun a m=>absurd m (by simp)⟩
 | .str s,_,x,_,_=>by cases x;exact⟨[],trivial,fun a m=>absurd m (by simp)⟩
 | .bytes b,_,x,_,_=>by cases x;exact⟨[],trivial,fun a m=>absurd m (by simp)⟩
 | .list ds,_,x,p,z=>by
  obtain⟨a,vs,rfl,ho,i4⟩:=SN x;have z2:WData.weightAll ds<=1048576:=z;obtain⟨A,h1,h2⟩:=C7 ds _ i4 p fun d hd=>b3 (Jl hd) z2;have k:∀b∈A,b∈a::A:=fun b hb=>eF _ hb;apply⟨a::A,List.mem_cons_self ..,fun b hb=>?_⟩;rcases dv.mp hb with e|m
  ·rw[e];exact⟨vs,Vo (by rw[B7 i4];exact b3 (W.length_le_weightAllW ds) z2),fun u hu=>(h1 u hu).gv k,.inl ho⟩
  ·exact(h2 b m).gv k
 | .tuple ds,_,x,p,z=>by
  obtain⟨a,vs,rfl,ho,i4⟩:=R7 x;have z2:WData.weightAll ds<=1048576:=z;obtain⟨A,h1,h2⟩:=C7 ds _ i4 p fun d hd=>b3 (Jl hd) z2;have k:∀b∈A,b∈a::A:=fun b hb=>eF _ hb;apply⟨a::A,List.mem_cons_self ..,fun b hb=>?_⟩;rcases dv.mp hb with e|m
  ·rw[e];exact⟨vs,Vo (by rw[B7 i4];exact b3 (W.length_le_weightAllW ds) z2),fun u hu=>(h1 u hu).gv k,.inr ho⟩
  ·exact(h2 b m).gv k
 | .float _,_,_,p,_=>Bool.noConfusion (show false=true from p)
 | .dict _,_,_,p,_=>Bool.noConfusion (show false=true from p)
 | .bytearray _,_,_,p,_=>Bool.noConfusion (show false=true from p)
 | .set _,_,_,p,_=>Bool.noConfusion (show false=true from p)
 | .frozenset _,_,_,p,_=>Bool.noConfusion (show false=true from p)
 | .obj _ _,_,_,p,_=>Bool.noConfusion (show false=true from p)
theorem C7:∀(ds:List WData)(vs:List ah),WellAll P h vs ds->mE ds=true->(∀d∈ds,d.weight<=1048576)->∃A:List ae,(∀u∈vs,mh A u)/\∀a∈A,mD h A a
 | [],_,x,_,_=>by cases x;exact⟨[],fun u m=>absurd m (by simp),fun a m=>absurd m (by simp)⟩
 | d::ds,_,x,p,z=>by
  obtain⟨v,vs,rfl,x1,x2⟩:=SO x;have q:lz d=true/\mE ds=true:=Bool.and_eq_true_iff.mp p;obtain⟨A,a1,a2⟩:=aed d v x1 q.1 (z d (List.mem_cons_self ..));obtain⟨B,b1,b2⟩:=C7 ds vs x2 q.2 fun e he=>z e (eF _ he);have kA:∀b∈A,b∈A++B:=fun b hb=>eQ.mpr (.inl hb);have kB:∀b∈B,b∈A++B:=fun b hb=>eQ.mpr (.inr hb);apply⟨A++B,fun u hu=>?_,fun b hb=>?_⟩
  ·rcases dv.mp hu with e|m
   ·rw[e];exact a1.gv kA
   ·exact(b1 u m).gv kB
  ·rcases eQ.mp hb with m|m
   ·exact(a2 b m).gv kA
   ·exact(b2 b m).gv kB
end
end
noncomputable def D9 (o:Obj):Option HO:=match o.data with
 | .seq vs _=>if(o.cls==Value.type "list")=true then some (.cK o (.ak (vs.toList.map jL)))else some (.cK o (.bp (vs.toList.map jL)))
 | _=>none
def i6 (K:aI)(h:Heap)(A:List ae):Hp:=fun b=>if b∈A then(if(K.lookup b).isNone=true then(h.get? b).bind D9 else none)else none
def Af (H:Hp):Prop:=∀b,H b=none\/∃o u,H b=some (.cK o u)
def UT (vs:List ah):D9 {cls:=.type "list",data:=.seq vs.toArray}=some (.cK {cls:=.type "list",data:=.seq vs.toArray} (.ak (vs.map jL))):=by show(if(Value.type "list"==Value.type "list")=true then some (HO.cK {cls:=.type "list",data:=.seq vs.toArray} (.ak (vs.toArray.toList.map jL)))else some (HO.cK {cls:=.type "list",data:=.seq vs.toArray} (.bp (vs.toArray.toList.map jL))))=_;rw[aE (beq_self_eq_true _)]
def US (vs:List ah):D9 {cls:=.type "tuple",data:=.seq vs.toArray}=some (.cK {cls:=.type "tuple",data:=.seq vs.toArray} (.bp (vs.map jL))):=by show(if(Value.type "tuple"==Value.type "list")=true then some (HO.cK {cls:=.type "tuple",data:=.seq vs.toArray} (.ak (vs.toArray.toList.map jL)))else some (HO.cK {cls:=.type "tuple",data:=.seq vs.toArray} (.bp (vs.toArray.toList.map jL))))=_;rw[aB (by decide)]
section
variable {P:Program}{w:World}{K:aI}{h:Heap}{A:List ae}
def Ds {b:ae}{o:Obj}(hb:b∈A)(hk:K.lookup b=none)(e:h.get? b=some o):i6 K h A b=D9 o:=by unfold i6;rw[aE hb,hk,aE (show(none:Option Obj).isNone=true from rfl),e]<;>rfl
def ae7 {b:ae}{u:HO}(q:i6 K h A b=some u):b∈A/\K.lookup b=none:=by
 unfold i6 at q;by_cases hb:b∈A
 ·rw[aE hb]at q;cases hk:K.lookup b with
  | none=>exact⟨hb,rfl⟩
  | some o =>rw[hk,aB (by simp)]at q;cases q
 ·rw[aB hb]at q;cases q
def Dr (ar:∀a∈A,mD h A a){b:ae}{u:HO}(q:i6 K h A b=some u):K.lookup b=none/\∃vs:List ah,vs.length<=sizeLine/\(∀u∈vs,mh A u)/\((h.get? b=some {cls:=.type "list",data:=.seq vs.toArray}/\u= .cK {cls:=.type "list",data:=.seq vs.toArray} (.ak (vs.map jL)))\/(h.get? b=some {cls:=.type "tuple",data:=.seq vs.toArray}/\u= .cK {cls:=.type "tuple",data:=.seq vs.toArray} (.bp (vs.map jL)))):=by
 obtain⟨hb,hk⟩:=ae7 q;obtain⟨vs,h1,h2,h3⟩:=ar b hb;apply⟨hk,Z12 vs h1 h2 ?_⟩;rcases h3 with e|e
 ·rw[Ds hb hk e,UT]at q;exact .inl ⟨e,(d3 q).symm⟩
 ·rw[Ds hb hk e,US]at q;exact .inr ⟨e,(d3 q).symm⟩
def acY (ar:∀a∈A,mD h A a):Af (i6 K h A):=fun b=>by
 cases q:i6 K h A b with
 | none=>exact .inl rfl
 | some u =>
  obtain⟨_,vs,_,_,⟨_,e⟩|⟨_,e⟩⟩:=Dr ar q
  ·exact .inr ⟨_,_,by rw[e]⟩
  ·exact .inr ⟨_,_,by rw[e]⟩
def afC (ar:∀a∈A,mD h A a):dh P w (i6 K h A) h:=fun b u q=>by
 obtain⟨_,vs,h1,h2,⟨e,rfl⟩|⟨e,rfl⟩⟩:=Dr ar q
 ·exact⟨e,Z41 (by rw[aL];exact h1) vs _ (wm h2) e⟩
 ·exact⟨e,by rw[aL];exact h1,Z71 vs (wm h2) _ e rfl _ rfl⟩
def Di {c c':ah}{vs us:List ah}(e:(some {cls:=c,data:=.seq vs.toArray}:Option Obj)=some {cls:=c',data:=.seq us.toArray}):c=c'/\vs=us:=by have e1:=d3 e;have e2:c=c':=congrArg Obj.cls e1;have e3:Data.seq vs.toArray=Data.seq us.toArray:=congrArg Obj.data e1;injection e3 with e4;apply⟨e2,?_⟩;have e5:=congrArg Array.toList e4;simpa using e5
def ajo (KX:K.In h)(ar:∀a∈A,mD h A a){a:ae}{vs:List ah}(ha:a∈A)(e:h.get? a=some {cls:=.type "list",data:=.seq vs.toArray}):(∀u∈vs,mh A u)/\aA K (i6 K h A) a (vs.map jL):=by
 obtain⟨us,h1,h2,h3⟩:=ar a ha;have hu:us=vs:=by
  rcases h3 with q|q
  ·rw[e]at q;exact(Di q).2.symm
  ·rw[e]at q;exact absurd (Value.type.inj (Di q).1) (by decide)
 subst hu;apply⟨h2,?_⟩;cases hk:K.lookup a with
 | none=>exact .inl (.inr ⟨_,by rw[Ds ha hk e,UT]⟩)
 | some o =>have e2:=KX a o hk;rw[e]at e2;obtain rfl:=d3 e2;exact .inr (Z27 _ us.toArray _ hk rfl rfl rfl (by rw[gj];exact h1) (by simpa using wm h2))
def ajn (KX:K.In h)(ar:∀a∈A,mD h A a){a:ae}{vs:List ah}(ha:a∈A)(e:h.get? a=some {cls:=.type "tuple",data:=.seq vs.toArray}):(∀u∈vs,mh A u)/\cS K (i6 K h A) a (vs.map jL):=by
 obtain⟨us,h1,h2,h3⟩:=ar a ha;have hu:us=vs:=by
  rcases h3 with q|q
  ·rw[e]at q;exact absurd (Value.type.inj (Di q).1) (by decide)
  ·rw[e]at q;exact(Di q).2.symm
 subst hu;apply⟨h2,?_⟩;cases hk:K.lookup a with
 | none=>exact .inl (.inr ⟨_,by rw[Ds ha hk e,US]⟩)
 | some o =>have e2:=KX a o hk;rw[e]at e2;obtain rfl:=d3 e2;exact .inr (Z13 _ us.toArray _ hk rfl rfl (by rw[gj];exact h1) (by simpa using wm h2))
mutual
theorem agJ {Pm:Params}(KX:K.In h)(ar:∀a∈A,mD h A a):∀(d:WData)(v:ah),Well Pm h v d->lz d=true->mh A v->Dw K (i6 K h A) (jL v) d
 | .none,_,x,_,_=>by cases x;exact .bx
 | .bool b,_,x,_,_=>by cases x;exact .bl b
 | .int i,_,x,_,_=>by cases x;exact .int i
 | .str s,_,x,_,_=>by cases x;exact .str s
 | .bytes b,_,x,_,_=>by cases x;have z:=Dw.hJ (K:=K) (H:=i6 K h A) b.toArray;exact z
 | .list ds,_,x,p,hu=>by obtain⟨a,vs,rfl,ho,i4⟩:=SN x;obtain⟨h2,hs⟩:=ajo KX ar hu ho;exact .ak hs (DF KX ar ds _ i4 p h2)
 | .tuple ds,_,x,p,hu=>by obtain⟨a,vs,rfl,ho,i4⟩:=R7 x;obtain⟨h2,hs⟩:=ajn KX ar hu ho;exact .bp hs (DF KX ar ds _ i4 p h2)
 | .float _,_,_,p,_=>Bool.noConfusion (show false=true from p)
 | .dict _,_,_,p,_=>Bool.noConfusion (show false=true from p)
 | .bytearray _,_,_,p,_=>Bool.noConfusion (show false=true from p)
 | .set _,_,_,p,_=>Bool.noConfusion (show false=true from p)
 | .frozenset _,_,_,p,_=>Bool.noConfusion (show false=true from p)
 | .obj _ _,_,_,p,_=>Bool.noConfusion (show false=true from p)
theorem DF {Pm:Params}(KX:K.In h)(ar:∀a∈A,mD h A a):∀(ds:List WData)(vs:List ah),WellAll Pm h vs ds->mE ds=true->(∀u∈vs,mh A u)->mz K (i6 K h A) (vs.map jL) ds
 | [],_,x,_,_=>by cases x;exact .nil
 | d::ds,_,x,p,hu=>by obtain⟨v,vs,rfl,x1,x2⟩:=SO x;have q:lz d=true/\mE ds=true:=Bool.and_eq_true_iff.mp p;exact .cons (agJ KX ar d v x1 q.1 (hu _ (List.mem_cons_self ..))) (DF KX ar ds vs x2 q.2 fun u m=>hu u (eF _ m))
end
end
def ab8 {P:Program}{w:World}{K:aI}{mg mb:Str->Option ah}{CX:ng}{k:Nat}{fa:ae}{fd:FuncData}{ps:List Str}{sp:Sp}{cf:aw}{oJ:List ah}{ds:List WData}{R:W.WRecords}{cl:Str->Option ae}{d0:WData}(KX:K.In cf.heap)(xK:cf.heap.Ns mainGlobals mg)(hb:cf.heap.Ns builtinsNs mb)(hbb:∀x:Str,x≠"__name__"->mb x=bootBuiltins x)(aiR:cf.heap.NoLimit)(hg:cf.gens= #[])(eZ:WellAll w.params cf.heap oJ ds)(cR:mE ds=true)(hwt:∀d∈ds,d.weight<=1048576)(hr:dB k callerA)(F:∀base:Heap,K.In base->base.Ns mainGlobals mg->bg P w K mg base CX k fa fd ps sp)(ahF:∀(s:aw)(us:List ah),us.length=ps.length->BindsTo s fd ⟨us,[]⟩ (ps.zip us))(bN:ds.length=ps.length)(mI:∀(H:Hp)(xs:List V),Af H->mz K H xs ds->sp xs H (fun v H'=>Dw K H' v d0) fun _ _ _=>False)(Bb:∀H e s',CX [] H cf (fun _ _ _=>False) e s'->False):codeAny (model P w) callerA (.call (.ref fa) ⟨oJ,[]⟩) (fun r s'=>∃u as,r= .ok (.ret u)/\ReadsW R cl s'.heap u d0 as/\OldK cf.heap s'.heap/\s'.os=cf.os/\AllBare s'.gens) cf:=by
 obtain⟨A,ho,ar⟩:=C7 ds oJ eZ cR hwt;have hO:Af (i6 K cf.heap A):=acY ar;have aH:dh P w (i6 K cf.heap A) cf.heap:=afC ar;have hS:=DF KX ar ds oJ eZ cR ho;have hV:=wm ho;have hK:∀b u,i6 K cf.heap A b=some u->K.lookup b=none:=fun b u q=>(Dr ar q).1;have xw:∀{b:ae}{o:Obj}{es:Array DictEntry}{ep:Nat},cf.heap.get? b=some o->o.data= .dict es ep->i6 K cf.heap A b=none:=fun{b o es ep}e d=>by
  cases q:i6 K cf.heap A b with
  | none=>rfl
  | some u =>
   obtain⟨_,vs,_,_,⟨e2,_⟩|⟨e2,_⟩⟩:=Dr ar q
   ·rw[e2]at e;cases e;have d':Data.seq vs.toArray _=Data.dict es ep:=d;cases d'
   ·rw[e2]at e;cases e;have d':Data.seq vs.toArray _=Data.dict es ep:=d;cases d'
 generalize i6 K cf.heap A=H at hO aH hS hK xw;have VF:∀{b:ae}{o:Obj},cf.heap.get? b=some o->H b=none->(qe cf.heap H).get? b=some o:=fun e n=>adY e n;have EB:∀{b:ae}{m:Str->Option ah},cf.heap.Ns b m->(qe cf.heap H).Ns b m:=fun{b m}⟨o,es,ep,e,d,r⟩=>⟨o,es,ep,VF e (xw e d),d,r⟩;have nK:∀b o,K.lookup b=some o->H b=none:=fun b o e=>by
  cases q:H b with
  | none=>rfl
  | some u =>rw[hK b u q]at e;cases e
 have YF:K.In (qe cf.heap H):=fun b o e=>VF (KX b o e) (nK b o e);have hM:FG K mg (qe cf.heap H):=⟨YF,EB xK,⟨mb,EB hb,hbb⟩,let ⟨mc,h1,h2⟩:=aiR;⟨mc,EB h1,h2⟩⟩;have e0:uU P w K mg (qe cf.heap H) callerA [] cf H:=⟨rfl,hM,fun b o e=>ae6 e,Nat.le_of_eq (acM _ _),trivial,fun b hb=>absurd (show b∈([]:List ae)from hb) (by simp),aH,.of_eq hg⟩;have hl:oJ.length=ps.length:=by rw[B7 eZ];exact bN
 apply codeAny_mono ((F _ YF (EB xK)).nR callerA [] cf H ⟨oJ,[]⟩ oJ (oJ.map jL) _ _ hr e0 (ahF cf oJ hl) hV (mI H _ hO hS)) fun r s' x=>?_;cases r with
 | error e=>exact(Bb H e s' x).elim
 | ok fl =>
  cases fl with
  | next=>exact False.elim x
  | brk=>exact False.elim x
  | cont=>exact False.elim x
  | ret u =>
   obtain⟨v,H',os,fJ,un,WR,r',q⟩:=x;have fI:∀b o,cf.heap.get? b=some o->s'.heap.get? b=some o:=fun b o e=>by
    cases q2:H b with
    | none=>exact un.keep b o e q2 (by intro z;exact absurd (show b∈([]:List ae)from z) (by simp)) (by simp)
    | some u2 =>
     rcases hO b with z|⟨ob,u3,z⟩
     ·rw[q2]at z;cases z
     ·have z2:=un.mH b ob _ z;obtain⟨e1,_⟩:=aH b _ z;obtain⟨e2,_⟩:=WR b _ z2;rw[e]at e1;cases e1;exact e2
   have KX':K.In s'.heap:=fun b o e=>fI b o (KX b o e);obtain⟨as,X1⟩:=Dw.Wb (R:=R) (cl:=cl) WR KX' d0 v u q r';exact⟨u,as,rfl,X1,OldK.of_keep fI,os,fJ⟩
def Zz {ds:List WData}(h:WData.layableAll ds=true):∀d∈ds,d.weight<=1048576:=fun d hd =>(W.layableW_iff.mp (List.all_eq_true.mp h d hd)).2.2
theorem Sx:∀(cs:List Codec)(a:Codec.denoteAll cs),(Codec.encAll cs a).length=cs.length
 | [],_=>rfl
 | c::cs,a=>by show(Codec.encAll cs a.2).length+1=cs.length+1;rw[Sx cs a.2]
def abU {r:OpenSpec}{k:Nat}{q:Program}{loose:List Str}{XP:(Str->Option ah)->Heap->Prop}{YP:World->Heap->Prop}{d:DefRec}{K:Params->aI}{CX:World->ng}{ps:List Str}{sp:World->Sp}(LV:r.wellSaid=true)(NQ:d.params.defaults=[])(bN:r.args.length=ps.length)(hr:dB k callerA)(hY:∀(w:World)(h:Heap),YP w h->(K w.params).In h)(F:∀(w:World)(mg:Str->Option ah)(fa:ae)(h:Heap),YP w h->(K w.params).In h->h.Ns mainGlobals mg->mg d.name=some (.ref fa)->∃fd:FuncData,(∀(s:aw)(us:List ah),us.length=ps.length->BindsTo s fd ⟨us,[]⟩ (ps.zip us))/\∀base:Heap,(K w.params).In base->base.Ns mainGlobals mg->bg r.prog w (K w.params) mg base (CX w) k fa fd ps (sp w))(mI:∀(w:World)(H:Hp)(xs:List V)(a:Codec.denoteAll r.args),Af H->Codec.withinAll r.args a=true->Codec.app r.args r.asked a=true->mz (K w.params) H xs (Codec.encAll r.args a)->sp w xs H (fun v H'=>Dw (K w.params) H' v (r.ret.enc (Codec.app r.args r.f a))) fun _ _ _=>False)(Bb:∀(w:World)(H:Hp)(s:aw)(e:ah)(s':aw),CX w [] H s (fun _ _ _=>False) e s'->False):W.WalkOS q loose XP YP r d [] (fun f vs=>PySem.call f vs):=by
 intro w iw cf mg mb G Y fa o pm cd doc dV kV ho hd jy hD AX hg args oJ as aiF aiS X1 eZ vm;obtain⟨a,e1,e2⟩:=W.os_pre_some aiF;obtain⟨e3,ER⟩:=Codec.encAll_of_decAll r.args args a e1;subst e3;have KX:=hY w _ Y;obtain⟨fd,hb,hF⟩:=F w mg fa _ Y KX G.T.g AX;apply W.enter_call (codeAny_mono (ab8 (R:=[]) (cl:=classAt iw.heap) (d0:=r.ret.enc (Codec.app r.args r.f a)) KX G.T.g G.T.b G.T.builtins G.T.nolimit hg eZ (Th _ _) (Zz aiS) hr hF hb (by rw[Sx];exact bN)
  (fun H xs hO hS=>mI w H xs a hO ER e2 hS) fun H e s'=>Bb w H cf e s') fun r' s' hq=>?_)
 obtain⟨u,as',rfl,h1,h2,h3,h4⟩:=hq;exact⟨.inl (Z13 u _ as' rfl (fun _=>rfl) h1 ((OpenSpec.post_iff LV ER _ _).mpr rfl) (fun z=>Bool.noConfusion (show false=true from z))),h2,h3,h4⟩
end L2
end
namespace L2
open PySem PySem.Spec PyProof.Rows
section
variable {M:Model}{A:Around}{E:ah->aw->Prop}{s:aw}
structure DH (fs:List ae)(e T:ae)(fl:ah)(h h':Heap):Prop where
 new:h.objs.size<=T
 keep:∀b o,b∉fs->b≠e->h.get? b=some o->h'.get? b=some o
 slot:∀b o,b∈fs->b≠e->h.get? b=some o->∃sl,h'.get? b=some {o with slots:=sl}
 YX:∀o,e∉fs->h.get? e=some o->h'.get? e=some (o.mapFields (·.setIfInBounds 1 (.ref T)))
 tb:∃o ts,h'.get? T=some o/\o.data= .fields ts/\ts[3]?=some fl
def VY (h:Heap)(head:ah):Prop:=head= .none\/∃T o ts,head= .ref T/\h.get? T=some o/\o.data= .fields ts/\ts[3]?=some .none
def aji {base:Heap}{env:Env}{aG:List Env}{L e:ae}{oe:Obj}{vs:Array ah}{head:ah}{Q:Unit->aw->Prop}
  (ke:A.frames=some (env::aG)) (hl:s.heap.FunFrames base (env::aG)) (hf:env.frame=some L)
  (he:s.heap.get? e=some oe) (hd:oe.data= .fields vs) (h1:vs[1]?=some head) (hh:VY s.heap head)
  (h:∀h' T,DH (kW (env::aG)) e T .none s.heap h'->Q () {s with heap:=h'}) :
  wpAny M A (noteFrame (.ref e) env) (fun _ cf=>wpAny M A (setFlight (.ref e) Option.none) Q E cf) E s:=by
 have ene:e∉kW (env::aG):=fun hm=>by obtain⟨_,o,ho,hnf⟩:=hl.mem hm;rw[he]at ho;cases ho;exact hnf vs hd
 have sz:1<vs.size:=(Array.getElem?_eq_some_iff.mp h1).1;have tail:∀(Vx:Bool),wpAny M A (do setField (.ref e) 1 (<-EntryCells.newEntry head (<-frameOf env) .none (rawInt L) .none (<-entryPlaceOf L Vx)))
   (fun _ cf=>wpAny M A (setFlight (.ref e) Option.none) Q E cf) E s:=fun Vx=>by
  apply az (wpAny_frameOf_fun ke hl hf fun g sg=>?_);apply az (wpAny_entryPlaceOf fun pl cR=>?_);unfold EntryCells.newEntry newFields;apply az (wpAny_newObj_type ?_ (cR.sizeOk5 _ _ _ _ _));have eg:g.get? e=some oe:=by rw[sg.2.1 e ene];exact he
  generalize hn:([head,Value.ref L,Value.none,rawInt L,Value.none]++(if pl.isEmpty then List.replicate 6 Value.none else pl)).toArray=cells;have c3:3<cells.size:=by subst hn;simp only[gj,cq,dQ,List.length_nil];omega
  have eT:g.objs.size≠e:=Nat.ne_of_gt (bW eg);apply wpAny_setField (cM _ eg) hd sz ?_;have d1:=Obj.data_mapFields hd (·.setIfInBounds 1 (Value.ref g.objs.size));have q1:=Heap.get?_update_self (Obj.mapFields (·.setIfInBounds 1 (Value.ref g.objs.size))) (cM {cls:=.type "traceback",data:=.fields cells} eg) (Obj.isFreed_of_fields d1);have qT:((g.push {cls:=.type "traceback",data:=.fields cells}).update e (Obj.mapFields (·.setIfInBounds 1 (Value.ref g.objs.size)))).get? g.objs.size=some {cls:=.type "traceback",data:=.fields cells}:=by rw[qD _ _ (Ne.symm eT)];exact eG g rfl
  unfold setFlight;apply az (wpAny_field q1 d1 (x:=.ref g.objs.size) (by simp[sz]) ?_);rw[aE (by simp)];apply wpAny_setField qT rfl c3 (h _ g.objs.size ?_);have wF:∀b o,b≠e->g.get? b=some o->(((g.push {cls:=.type "traceback",data:=.fields cells}).update e (Obj.mapFields (·.setIfInBounds 1 (Value.ref g.objs.size)))).update g.objs.size (Obj.mapFields (·.setIfInBounds 3 ((Option.none:Option ae).elim Value.none fun f=>rawInt f)))).get? b=some o:=fun b o hb hg=>by rw[qD _ _ (Nat.ne_of_gt (bW hg)),qD _ _ (Ne.symm hb)];exact cM _ hg
  apply⟨by rw[sg.1];exact bo _,fun b o nb ne hb=>wF b o ne (by rw[sg.2.1 b nb];exact hb),fun b o _ ne hb=>?_,fun o _ ho=>?_,?_⟩
  ·obtain⟨sl,hs⟩:=sg.2.2 b o hb;exact⟨sl,wF b _ ne hs⟩
  ·have:o=oe:=d3 (ho.symm.trans he);subst this;rw[qD _ _ eT];exact q1
  ·exact Z14 _ _ (Heap.get?_update_self _ qT (Obj.isFreed_of_fields (Obj.data_mapFields rfl _))) (Obj.data_mapFields rfl _) (by simp[c3])
 unfold noteFrame;simp only[hf];apply az (wpAny_field he hd h1 ?_);rcases hh with rfl|⟨T,o,ts,rfl,hT,NR,h3⟩
 ·rw[aB (by decide)];exact tail _
 ·rw[aE (by simp)];apply az (wpAny_field hT NR h3 ?_);rw[aB (by simp[rawInt])];apply az (wpAny_setField hT NR (Array.getElem?_eq_some_iff.mp h3).1 ?_);rw[Heap.update_setField_same s.heap T o ts 3 .none hT NR h3];exact tail _
end
abbrev m8:List ah:=[.type "Exception",.type "BaseException",.type "object"]
noncomputable def DW (nm q:Str)(C N:ae)(bs:List ah)(sn:List Str)(de:List ah)(ab:Bool)(col:Option Bool)(dd:Option ae)(k0 k1 k2 k3 k5:Option ah):Obj :=
 excClassObj nm q C N bs m8 true sn de ab col dd k0 k1 k2 k3 k5 "Exception.__new__"
structure gE (K:aI)(C:ae):Prop where
 ex:∃nm q N bs sn de ab col dd k0 k1 k2 k3 k5 cN dN es ep sl,K.lookup C=some (DW nm q C N bs sn de ab col dd k0 k1 k2 k3 k5)/\K.lookup N=some ⟨cN,dN,.dict es ep,sl⟩/\StrKeys es/\nsFind es "__setattr__"=none
 kp:W.keepIn K (.ref C)=true
section
variable {prog:Program}{w:World}{A:Around}{E:ah->aw->Prop}{s:aw}{K:aI}{x C:ae}{ox:Obj}{od:Option Obj}{name:Str}
def LI (C:ae):(Value.ref C::m8).contains (.type "BaseException")=true:=by rw[List.contains_cons,show m8.contains (.type "BaseException")=true by decide+kernel,Bool.or_true]
def agO (C:ae):(Value.ref C::m8).contains (.type "type")=false:=by rw[List.contains_cons,show m8.contains (.type "type")=false by decide+kernel,Bool.or_false];rfl
def agM (C C':ae):(Value.ref C::m8).contains (.ref C')=decide (C'=C):=by
 rw[List.contains_cons,show m8.contains (.ref C')=false by rw[List.contains_cons,List.contains_cons,List.contains_cons,List.contains_nil];rfl,Bool.or_false]
 by_cases z:C'=C
 ·subst z;simp
 ·simp[z]
def gE.de (c:gE K C)(b:ah):W.mroIn K C b=some ((Value.ref C::m8).contains b):=by obtain⟨nm,q,N,bs,sn,de,ab,col,dd,k0,k1,k2,k3,k5,cN,dN,es,ep,sl,h1,_⟩:=c.ex;unfold W.mroIn W.clsIn;rw[h1];rfl
def afo {expr:Bool}{v:ah}{Q:ah->aw->Prop}(X:K.In s.heap)(c:gE K C)(I:W.InstAt s.heap x ox C od)(hga:W.findIn K (.ref C) "__getattribute__"=some (some (.builtin "BaseException.__getattribute__")))(hgh:W.findIn K (.ref C) "__getattr__"=some none)(hf:W.findObj K C od name=some (.value v))(hh:W.handedIn v=true)(h:Q v {s with toks:=s.toks+1}):wpAny (model prog w) A (getAttr (.ref x) name expr) Q E s:=by
 obtain⟨hp,g,d,t,os⟩:=s;have L0:=I.type (M:=model prog w);have L1:=W.looks_findIn (M:=model prog w) X hga;have L2:=W.looks_findIn (M:=model prog w) X hgh;have L3:=W.looks_find (M:=model prog w) X I hf;have FB:=PySem.F.attrBase_Exception;have de:W.Looks (model prog w) hp (isInstance (.ref x) (.type "BaseException")) true:=L0.andThen (W.looks_mroIn X ((c.de _).trans (congrArg some (LI C))));unfold getAttr getAttrBy;apply az (wpAny_mkText (wpAny_holding (az (L0.at (az (L1.at ?_))))));have ne:(Value.builtin "BaseException.__getattribute__"==Value.builtin "object.__getattribute__")=false:=by decide+kernel
 simp only[onTheHeap,pF,ne,Bool.false_eq_true,if_false];unfold getAttrByItsOwn hookBefore;simp only[onTheHeap,if_true];apply az (L2.at (az (wpAny_attempt (wpAny_holding ?_))));unfold callGetattribute;have nh:(expr&&onTheHeap (Value.builtin "BaseException.__getattribute__"))=false:=by cases expr<;>rfl
 rw[nh];simp only[Bool.false_eq_true,if_false];unfold boundAndCalled;rw[FB.ga.bind (.ref x)];have gk:builtinKind "BaseException.__getattribute__"=some .slot:=by decide+kernel
 have gs:splitId "BaseException.__getattribute__"=some ("BaseException","__getattribute__"):=by decide+kernel
 apply az (aZ ?_);apply wpAny_call ?_;apply codeAny_call_builtin FB.ga.plain F.entry_bexc_ga ?_;apply @W.check_slot (model prog w) _ _ _ "BaseException.__getattribute__" "BaseException" "__getattribute__" (.ref x) [.str name t] [] _ gk gs de (F.args_bexc_ga _ _) ?_;unfold Builtin.«object.__getattribute__»;apply az (aZ (az (aZ (az (L0.at (az (L3.at ?_)))))));apply aZ ?_;show wpAny _ _ (handedOut v) _ _ _;rw[W.handedOut_of hh];exact aZ h
def RI {e C':ae}{oe:Obj}{Q:Bool->aw->Prop}(X:K.In s.heap)(c:gE K C)(c':gE K C')(he:s.heap.get? e=some oe)(hc:oe.cls= .ref C)(h:Q (decide (C'=C)) s):wpAny (model prog w) A (excMatches (.ref e) (.ref C')) Q E s:=by
 obtain⟨nm,q,N,bs,sn,de,ab,col,dd,k0,k1,k2,k3,k5,cN,dN,es,ep,sl,h1,_⟩:=c'.ex;obtain⟨hp,g,d,t,os⟩:=s;have pd:=X _ _ h1;have f:=tc_notTuple;have S1:=W.looks_mroIn (M:=model prog w) X ((c'.de _).trans (congrArg some (LI C')));have S2:=W.looks_mroIn (M:=model prog w) X ((c.de _).trans (congrArg some (agM C C')));unfold DW at pd;unfold excMatches
 repeat (first|(with_reducible apply wpAny_loadPart_at he ?_;rw[hc])|with_reducible apply wpAny_loadPart_at pd ?_|with_reducible apply S1.at ?_|with_reducible apply S2.at ?_|wp_step)
 cases hd:decide (C'=C)<;>(rw[hd]at h;wp_walk;exact h)
def abj {e0:ae}{oe:Obj}{vs:Array ah}{Q:Flow->aw->Prop}(c:gE K C)(hh:A.handled=none)(X:K.In s.heap)(he:s.heap.get? e0=some oe)(hc:oe.cls= .ref C)(hd:oe.data= .fields vs)(h1:vs[1]?=some .none)
  (hE:E (.ref e0) s):wpAny (model prog w) A (do
   let cv<-(pure Option.none:Sem (Option ah))
   let e<-holding cv.toList (excFromValue (.ref e0) "exceptions must derive from BaseException")
   if let some cv:=cv then
    let c<-if cv== .none then pure .none else holding [e] (excFromValue cv "exception causes must derive from BaseException")
    setField e 3 c
    setField e 4 (.bool true)
   let e<-if<-isType (.ref e0)then holding [e] (raisedFor (.ref e0) e)else raisedInstance e
   setFlight e none
   raiseNew e:Sem Flow) Q E s:=by
 obtain⟨nm,q,N,bs,sn,de,ab,col,dd,k0,k1,k2,k3,k5,cN,dN,es,ep,sl,l1,_⟩:=c.ex;obtain⟨hp,g,d,t,os⟩:=s;have hC:=X _ _ l1;have S1:=W.looks_mroIn (M:=model prog w) X ((c.de _).trans (congrArg some (LI C)));have S0:=W.looks_mroIn (M:=model prog w) X ((c.de _).trans (congrArg some (agO C)));unfold DW at hC
 repeat (first|(with_reducible apply wpAny_loadPart_at he ?_;rw[hc])|with_reducible apply wpAny_loadPart_at hC ?_|with_reducible apply wpAny_field he hd h1 ?_|with_reducible apply S1.at ?_|with_reducible apply S0.at ?_|wp_step)
 exact wpAny_raiseNew_none hh hE
end
def XE (a C:ae)(dx:Option ae)(tb:ah):HO:=.ext fun h=>∃o vs,h.get? a=some o/\o.cls= .ref C/\o.dict=dx/\o.data= .fields vs/\vs[1]?=some tb
def TB (a:ae):HO:=.ext fun h=>∃o ts,h.get? a=some o/\o.data= .fields ts/\ts[3]?=some .none
section
variable {P:Program}{w:World}{H:Hp}{h h':Heap}{a C T:ae}{dx:Option ae}{tb:ah}
def XE.mk {o:Obj}{vs:Array ah}(h1:h.get? a=some o)(h2:o.cls= .ref C)(h3:o.dict=dx)(h4:o.data= .fields vs)(h5:vs[1]?=some tb):eK P w H h a (XE a C dx tb) :=
 ⟨Z22 o vs h1 h2 h3 h4 h5,⟨o,h1⟩,fun _ _ ⟨o,vs,q1,q⟩ k=>⟨o,vs,k o q1,q⟩⟩
def TB.mk {o:Obj}{ts:Array ah}(h1:h.get? a=some o)(h2:o.data= .fields ts)(h3:ts[3]?=some .none):eK P w H h a (TB a) :=
 ⟨⟨o,ts,h1,h2,h3⟩,⟨o,h1⟩,fun _ _ ⟨o,ts,q1,q⟩ k=>⟨o,ts,k o q1,q⟩⟩
def Ej (H:Hp)(tb:ah):Prop:=tb= .none\/∃T,tb= .ref T/\H T=some (TB T)
def Ej.head (x:dh P w H h)(t:Ej H tb):VY h tb:=by
 rcases t with rfl|⟨T,rfl,e⟩
 ·exact .inl rfl
 ·obtain⟨⟨o,ts,h1,h2,h3⟩,_⟩:=x T _ e;exact .inr (Z20 T o ts rfl h1 h2 h3)
def iV (H:Hp)(a C:ae)(dx:Option ae)(T:ae):Hp:=ay (ay H a (XE a C dx (.ref T))) T (TB T)
def dh.rE {fs:List ae}(ok:dh P w H h)(fr:∀b∈fs,H b=none)(ha:H a=some (XE a C dx tb))(m:DH fs a T .none h h'):dh P w (iV H a C dx T) h':=by
 have hT:H T=none:=ok.fresh m.new;have aT:a≠T:=aQ ha hT;have Ol:a∉fs:=fun z=>by rw[fr a z]at ha;cases ha
 intro b u e;unfold iV at e;by_cases hb:b=T
 ·subst hb;rw[aC]at e;cases e;obtain⟨o,ts,q1,q2,q3⟩:=m.tb;exact TB.mk q1 q2 q3
 ·rw[aq hb]at e;by_cases A6:b=a
  ·subst A6;rw[aC]at e;cases e;obtain⟨⟨o,vs,q1,q2,q3,q4,q5⟩,_⟩:=ok _ _ ha;apply XE.mk (m.YX o Ol q1) ?_ ?_ (Obj.data_mapFields q4 _) ?_
   ·rw[Obj.cls_mapFields];exact q2
   ·rw[<-q3];obtain⟨c,d,dt,sl⟩:=o;cases dt<;>rfl
   ·have:1<vs.size:=(Array.getElem?_eq_some_iff.mp q5).1;simp[this]
  ·rw[aq A6]at e;have qd:∀c,H c=some (.bO b)->c≠a/\c≠T:=fun c q=>⟨fun z=>(by rw[z,ha]at q;cases q),aQ q hT⟩;refine(ok b u e).fS (fun c v hc q=>m.keep c v ?_ ?_ q) (fun c q=>?_) fun c xs q=>?_
   ·intro z;have:=fr c z;rcases hc with rfl|hc
    ·rw[e]at this;cases this
    ·rw[hc]at this;cases this
   ·rcases hc with rfl|hc
    ·exact A6
    ·exact(qd c hc).1
   ·unfold iV;rw[aq (qd c q).2,aq (qd c q).1];exact q
   ·unfold iV;have c1:c≠a:=fun z=>by rw[z,ha]at q;cases q
    rw[aq (aQ q hT),aq c1];exact q
end
def bw (P:Program)(w:World):ng:=fun aG H s E e s'=>∃a C dx T H' H0,e= .ref a/\s'.os=s.os/\AllBare s'.gens/\Un (kW aG) [] H H' s.heap s'.heap/\dh P w H' s'.heap /\
 H' a=some (XE a C dx (.ref T))/\H' T=some (TB T)/\aj H0 H'/\H0 a=none/\E (.ref C) dx H0
def ro (X:Cx)(E:XK):Prop:=∀(af:List (ae×Obj))(σ:St)(H:Hp)(s:aw)(a C:ae)(dx:Option ae)(tb:ah)(H0:Hp),
 au X af σ H s->H a=some (XE a C dx tb)->Ej H tb->aj H0 H->H0 a=none->E (.ref C) dx H0->X.xe (.ref a) s
def ro.none (X:Cx):ro X E0:=fun _ _ _ _ _ _ _ _ _ _ _ _ _ _ e=>e.elim
section
variable {X:Cx}{af:List (ae×Obj)}{σ:St}{H:Hp}{s:aw}
def ro.dO {E:XK}(t:ro X E):pY (bw X.prog X.w) X E:=by rintro af σ H s e s' I ⟨a,C,dx,T,H',H0,ee,os,fJ,un,aH,ha,hT,hs,hn,hE⟩;subst ee;exact t af σ H' s' a C dx (.ref T) H0 (I.L4 os un aH fJ fun _ z=>nomatch z) ha (.inr ⟨T,rfl,hT⟩) hs hn hE
def bE:pY (bw X.prog X.w) X E0:=(ro.none X).dO
def Un.rE {fs:List ae}{a C T:ae}{dx:Option ae}{tb:ah}{h h':Heap}{P:Program}{w:World}(ok:dh P w H h)(fr:∀b∈fs,H b=Option.none)(ha:H a=some (XE a C dx tb))(m:DH fs a T .none h h'):Un fs [] H (iV H a C dx T) h h':=by
 have hT:H T=Option.none:=ok.fresh m.new;have lt:∀b o,h.get? b=some o->b≠T:=fun b o e=>d9 (fi (bW e) m.new);have ne:∀b,H b=Option.none->b≠a:=fun b n z=>by rw[z,ha]at n;cases n
 have Ol:a∉fs:=fun z=>by rw[fr a z]at ha;cases ha
 have fS:∀b o,H b=some o->o≠XE a C dx tb->iV H a C dx T b=some o:=fun b o e bJ=>by
  unfold iV;rw[aq (aQ e hT),aq]
  ·exact e
  ·intro z;rw[z,ha]at e;exact bJ (d3 e).symm
 apply⟨fun b o e n hb _=>m.keep b o hb (ne b n) e,fun b o e n hb _=>m.slot b o hb (ne b n) e,fun b o e n _=>?_,fun b o e _=>?_,fun b xs e=>fS b _ e (by intro z;cases z),fun b o u e=>fS b _ e (by intro z;cases z),fun b ps e=>⟨#[],?_⟩⟩
 ·unfold iV;rw[aq (lt b o e),aq (ne b n)];exact n
 ·by_cases z:b=a
  ·subst z;exact⟨_,m.YX o Ol e⟩
  ·by_cases hb:b∈fs
   ·obtain⟨sl,q⟩:=m.slot b o hb z e;exact⟨_,q⟩
   ·exact⟨o,m.keep b o hb z e⟩
 ·rw[fS b _ e (by intro z;cases z)];simp
def au.rE {a C T:ae}{dx:Option ae}{tb:ah}{h':Heap}(I:au X af σ H s)(ha:H a=some (XE a C dx tb))(m:DH (kW X.stack) a T .none s.heap h'):au X af σ (iV H a C dx T) {s with heap:=h'} :=
 I.L4 (s':={s with heap:=h'}) rfl (Un.rE I.aH I.Dg ha m) (I.aH.rE I.Dg ha m) I.fJ fun _ z=>nomatch z
def aj.rE {H0:Hp}{a C T:ae}{dx:Option ae}(hs:aj H0 H)(hn:H0 a=Option.none)(hT:H T=Option.none):aj H0 (iV H a C dx T):=fun b o e=>by unfold iV;rw[aq (aQ (hs b o e) hT),aq (aQ e hn)];exact hs b o e
def au.WA {a C:ae}{dx:Option ae}{tb:ah}{M:Model}{A:Around}{E:ah->aw->Prop}{Q:Unit->aw->Prop}(I:au X af σ H s)(ha:H a=some (XE a C dx tb))(ht:Ej H tb)(fL:X.stack=X.env::X.aG)(hf:X.env.frame=some X.env.locals)(ke:A.frames=some X.stack)(h:∀s' T,au X af σ (iV H a C dx T) s'->H T=Option.none->s'.os=s.os->Q () s'):wpAny M A (noteFrame (.ref a) X.env) (fun _ cf=>wpAny M A (setFlight (.ref a) Option.none) Q E cf) E s:=by obtain⟨⟨o,vs,q1,q2,q3,q4,q5⟩,_⟩:=I.aH a _ ha;apply aji (base:=X.base) (fL▸ke) (fL▸I.stack) hf q1 q4 q5 (ht.head I.aH) fun h' T m=>?_;rw[<-fL]at m;exact h _ T (I.rE ha m) (I.aH.fresh m.new) rfl
end
def cY {P:Program}{w:World}{K:aI}{mg:Str->Option ah}{base:Heap}{N:List Str}{qual:Str}{scope:Scope}{f:ae}{cd:ah}{A:Around}{aG:List Env}{s:aw}{H:Hp}{E:XK}:ro (nO (bw P w) P w K mg base N qual scope f cd A aG s H E) E:=by intro af σ H1 s1 a C dx tb H0 I ha ht hs hn hE;show wpAny _ _ (leaving _ _) _ _ _;unfold leaving;apply az (I.WA ha ht rfl rfl I.ok.frames fun s2 T I2 hT os2=>?_);have aT:a≠T:=aQ ha hT;exact Z48 a C dx T (iV H1 a C dx T) H0 ⟨rfl,I2.os,I2.fJ,I2.base,I2.aH,by unfold iV;rw[aq aT,aC],by unfold iV;rw[aC],aj.rE hs hn hT,hn,hE⟩
def pU {P:Program}{w:World}{K:aI}{mg:Str->Option ah}{base:Heap}{N:List Str}{qual:Str}{scope:Scope}{f:ae}{cd:ah}{A:Around}{aG:List Env}{s:aw}{H:Hp}{E:XK}{CX:ng}:PassesOwn (model P w) (nO CX P w K mg base N qual scope f cd A aG s H E).A (nO CX P w K mg base N qual scope f cd A aG s H E).env (nO CX P w K mg base N qual scope f cd A aG s H E).xe :=
 PassesOwn.leaving (Q₁:=fun e AA=>CX aG H s E e AA)
def bz.iy {P:Program}{w:World}{K:aI}{mg:Str->Option ah}{base:Heap}{x qual:Str}{st:Stmt}{f:ae}{fd:FuncData}{N ps:List Str}{k:Nat}{sp:Sp}(F:bz K x qual st f fd)(S:bD N ps (aR st))(eO:∀vs H Q E,sp vs H Q E->vs.length=ps.length)(Aa:∀(aU:ah)(A:Around)(aG:List Env)(s:aw)(H:Hp)(vs:List V)(Q:VK)(E:XK),dB k (A.deeper (envOfC qual (aR st) s.heap.objs.size f aU))->sp vs H Q E->∃t,jW (nO (bw P w) P w K mg base N qual (aR st) f aU A aG s H E) (qZ st) t/\t {nx:=fun _ H'=>Q .bx H',rt:=Q} (start N vs) H):bg P w K mg base (bw P w) (k+1) f fd ps sp:=by obtain⟨oc,od,kV,doc,pm,an,aU,ct,xr,rfl,lk,jy⟩:=F.ex;exact ahI lk jy S eO fun A aG s H vs Q E hr mI=>Aa aU A aG s H vs Q E hr mI
def bz.cj {P:Program}{w:World}{K:aI}{mg:Str->Option ah}{base:Heap}{x qual:Str}{st:Stmt}{f:ae}{fd:FuncData}{N ps:List Str}{k:Nat}{sp:Sp}(F:bz K x qual st f fd)(S:bD N ps (aR st))(eO:∀vs H Q E,sp vs H Q E->vs.length=ps.length)(Aa:∀(aU:ah)(A:Around)(aG:List Env)(s:aw)(H:Hp)(vs:List V)(Q:VK)(E:XK),dB k (A.deeper (envOfC qual (aR st) s.heap.objs.size f aU))->sp vs H Q E->∃t,jW (nO (bw P w) P w K mg base N qual (aR st) f aU A aG s H E).ED (qZ st) t/\t {nx:=fun _ H'=>Q .bx H',rt:=Q} (start N vs) H):bg P w K mg base (bw P w) (k+1) f fd ps sp:=by apply F.iy S eO fun aU A aG s H vs Q E hr mI=>?_;obtain⟨t,h,q⟩:=Aa aU A aG s H vs Q E hr mI;exact⟨t,h.ED,q⟩
def agg (K:aI)(te:TE)(E:XK):TS:=fun _ σ H=>te σ H fun v H2=>∃a C dx H0,v= .ref a/\gE K C/\H2 a=some (XE a C dx .none)/\aj H0 H2/\H0 a=Option.none/\E (.ref C) dx H0
def t9 {X:Cx}{e:Expr}{te:TE}{E:XK}{pos:Pos}(thr:ro X E)(hc:X.gM=true)(he:PE X e te):PS X (.Raise (some e) Option.none pos) (agg X.K te E):=by intro af s σ H D I h;rw[arm_exec_Raise];apply az (wpAny_standAt ?_);show wpAny _ _ (raiseStmt X.env (some (do let v<-eval e X.env;standAt pos;pure v)) Option.none) _ _ _;unfold raiseStmt;apply az (az (wpAny_mono (he af s σ H _ I h) (fun u s1 hq=>az (wpAny_standAt (aZ ?_))) fun _ _ z=>z));obtain⟨v,H2,I2,rv,a,C,dx,H0,ev,c,ha,hs,hn,hE⟩:=hq;subst ev;obtain rfl:u=Value.ref a:=rv;obtain⟨⟨o,vs,q1,q2,q3,q4,q5⟩,_⟩:=I2.aH a _ ha;have hX:=thr af σ H2 s1 a C dx .none H0 I2 ha (.inl rfl) hs hn hE;exact abj c (I2.ok.hd hc) I2.gw q1 q2 q4 q5 hX
def aaE {P:Program}{w:World}{H:Hp}{h:Heap}{a:ae}{o:HO}(x:eK P w H h a o):∃u,h.get? a=some u:=by
 cases o with
 | ak xs=>obtain⟨_,_,_,_,e⟩:=x;exact⟨_,e⟩
 | bp xs=>obtain⟨_,_,_,u,e,_⟩:=x;exact⟨u,e⟩
 | dK ai=>obtain⟨_,_,_,_,u,_,_,e,_⟩:=x;exact⟨u,e⟩
 | dT ai=>obtain⟨_,_,_,_,u,_,_,e,_⟩:=x;exact⟨u,e⟩
 | set S n=>obtain⟨u,_,_,_,e,_⟩:=x;exact⟨u,e⟩
 | bc C dx fs=>obtain⟨_,_,_,e,_⟩:=x;exact⟨_,e⟩
 | bO y=>exact x
 | xd fs=>obtain⟨_,⟨u,_,_,e,_⟩,_⟩:=x;exact⟨u,e⟩
 | Ez lo hi=>obtain⟨_,_,_,e⟩:=x;exact⟨_,e⟩
 | cK ob u=>obtain⟨e,_⟩:=x;exact⟨_,e⟩
 | r9 ps=>exact⟨_,show h.get? a=some _ from x⟩
 | EI f y=>exact⟨_,show h.get? a=some _ from x⟩
 | ext φ=>exact x.2.1
section
variable {X:Cx}{af:List (ae×Obj)}{σ:St}{H:Hp}{s:aw}{C a:ae}
def au.Wf {h':Heap}{us:List ah}(I:au X af σ H s)(m:Heap.MadeExcOf s.heap h' a (.ref C) us):H a=Option.none/\au X af σ (ay H a (XE a C Option.none .none)) {s with heap:=h'}:=by
 have hn:H a=Option.none:=by
  cases q:H a with
  | none=>rfl
  | some u =>obtain⟨o,e⟩:=aaE (I.aH a u q);rw[m.new]at e;cases e
 apply⟨hn,?_⟩;obtain⟨t,e1,e2,e3⟩:=m.there;have ok:dh X.prog X.w (ay H a (XE a C Option.none .none)) h':=fun b u e=>by
  by_cases hb:b=a
  ·subst hb;rw[aC]at e;cases e;exact XE.mk e1 rfl rfl rfl rfl
  ·rw[aq hb]at e;exact(I.aH b u e).fS (fun c v _ q=>m.keeps c v q) (fun c q=>by rw[aq (aQ q hn)];exact q) fun c xs q=>by rw[aq (aQ q hn)];exact q
 apply I.un (h':=h') (t':=s.toks) ⟨fun b o e _ _ _=>m.keeps b o e,fun b o e _ _ _=>⟨o.slots,m.keeps b o e⟩,fun b o e n _=>?_,fun b o e _=>⟨o,m.keeps b o e⟩,fun b xs e=>?_,fun b o u e=>?_,fun b ps e=>⟨#[],?_⟩⟩ ok
 ·rw[aq]
  ·exact n
  ·intro z;rw[z,m.new]at e;cases e
 ·rw[aq (aQ e hn)];exact e
 ·rw[aq (aQ e hn)];exact e
 ·rw[aq (aQ e hn),e];simp
def gE.bu {K:aI}(c:gE K C){h:Heap}(x:K.In h):∃nm q N bs sn de ab col dd k0 k1 k2 k3 k5 mN,h.get? C=some (excClassObj nm q C N bs m8 true sn de ab col dd k0 k1 k2 k3 k5 "Exception.__new__")/\h.Ns N mN/\mN "__setattr__"=Option.none/\(∀name,W.nsIn K N name=some (mN name))/\∃cd,W.clsIn K C=some cd/\cd.ns=N:=by
 obtain⟨nm,q,N,bs,sn,de,ab,col,dd,k0,k1,k2,k3,k5,cN,dN,es,ep,sl,h1,h2,h3,h4⟩:=c.ex;apply Z54 nm q N bs sn de ab (Z72 col dd k0 k1 k2 k3 k5 (fun y=>nsFind es y) (x _ _ h1) (Z20 _ es ep (x _ _ h2) rfl h3 (fun _=>rfl)) h4 (fun name=>?_) ⟨_,by unfold W.clsIn;rw[h1];rfl,rfl⟩);unfold W.nsIn nsFind findBy;rw[h2];dsimp only;rw[<-Array.find?_toList];cases q:es.toList.find? (fun(e:DictEntry)=>e.key.isStr name)with
 | some y=>rfl
 | none =>
  have aa:es.toList.any (·.refKey)=false:=by rw[List.any_eq_false];intro y hy;obtain⟨z,t,uK⟩:=h3 y (Array.mem_toList_iff.mp hy);simp[DictEntry.refKey,uK]
  dsimp only;rw[aa];rfl
end
structure MM (K:aI)(C f:ae):Prop where
 Nb:∃cd,W.clsIn K C=some cd/\W.nsIn K cd.ns "__init__"=some (some (.ref f))
 fn:W.isFn K (.ref f)=true
structure Wk (K:aI)(C:ae):Prop where
 Nb:∃cd,W.clsIn K C=some cd/\W.nsIn K cd.ns "__init__"=some Option.none
def afT (C:ae)(sp:Sp)(t:TA):TE:=fun σ H Q=>t σ H fun vs H1=>vs.length<=sizeLine/\∀a,H1 a=Option.none->sp (.ref a::vs) (ay H1 a (XE a C Option.none .none)) (fun v H2=>v= .bx/\Q (.ref a) H2) E0
def aeo (C:ae):TE:=fun _ H Q=>∀a,H a=Option.none->Q (.ref a) (ay H a (XE a C Option.none .none))
section
variable {X:Cx}{k:Nat}{f C:ae}{fd:FuncData}{ps:List Str}{sp:Sp}{x:Str}{p pos:Pos}{e:Expr}{es:List Expr}{t:TA}
def acr {af:List (ae×Obj)}{σ:St}{H:Hp}{s:aw}{Q:VK}{us:List ah}{vs:List V}(c:gE X.K C)(i:MM X.K C f)(F:bg X.prog X.w X.K X.mg X.base (bw X.prog X.w) k f fd ps sp)(hr:dB (k+1) X.A)(hb:j3 X.K fd ps [])(I:au X af σ H s)(r:be vs us)(hl:vs.length<=sizeLine)(h:∀a,H a=Option.none->sp (.ref a::vs) (ay H a (XE a C Option.none .none)) (fun v H2=>v= .bx/\Q (.ref a) H2) E0):wpAny (model X.prog X.w) X.A (call (.ref C) us) (EP X af σ Q) X.xe s:=by
 have KX:=I.gw;obtain⟨nm,q,N,bs,sn,de,ab,col,dd,k0,k1,k2,k3,k5,mN,hC,hN,_,xK,gQ⟩:=c.bu KX;obtain⟨cd,jy,cX⟩:=i.Nb;have eN:cd.ns=N:=by obtain⟨cd',z1,z2⟩:=gQ;rw[jy]at z1;rw[d3 z1];exact z2
 rw[eN,xK]at cX;have hi:mN "__init__"=some (.ref f):=d3 cX;obtain⟨oI,hfI,hfc⟩:∃oI,s.heap.get? f=some oI/\oI.cls= .type "function":=by have z:=beq_iff_eq.mp i.fn;obtain⟨o,ho,hc⟩:=Option.map_eq_some_iff.mp (show(X.K.lookup f).map (·.cls)=some (.type "function")from z);exact⟨o,KX _ _ ho,hc⟩
 obtain⟨hp,g,d,tk,os⟩:=s;apply wpAny_call_exc_init PySem.F.excBase_Exception hC hN hi hfI hfc (fun h' a m=>?_) (by rw[<-r.length];exact hl);obtain⟨hn,I2⟩:=I.Wf m;have hq:=h a hn;have r2:be (V.ref a::vs) (Value.ref a::us):=.cons rfl r;have bN:(Value.ref a::us).length=ps.length:=by rw[<-r2.length];exact F.eO _ _ _ _ hq
 apply wpAny_call (codeAny_mono (F.nR _ X.stack _ _ ⟨Value.ref a::us,[]⟩ (Value.ref a::us) _ _ E0 (hr.Ak C us []) (I2.MH.Ak C us []) ?_ r2 hq) fun rr s' lD=>?_)
 ·have:=hb _ (Value.ref a::us) I2.gw (by rw[nq];exact bN);rw[nq]at this;exact this
 ·cases rr with
  | error e=>exact(bE (X:=X) af σ _ _ e s' I2 lD)
  | ok fl =>
   cases fl with
   | ret u =>obtain⟨v,H',I3,rv,ev,q3⟩:=I2.L6 lD;subst ev;exact⟨rv,⟨V.ref a,H',I3,rfl,q3⟩⟩
   | next=>exact False.elim lD
   | brk=>exact False.elim lD
   | cont=>exact False.elim lD
def CZ (c:gE X.K C)(i:MM X.K C f)(F:bg X.prog X.w X.K X.mg X.base (bw X.prog X.w) k f fd ps sp)(hr:dB (k+1) X.A)(hg:Gl X x)(hm:X.mg x=some (.ref C))(hb:j3 X.K fd ps [])(ha:PA X (e::es) t)(jT:(x==("__debug__":Str))=false:=by decide)(he:starEach (e::es) X.env=(false,eval e X.env)::starEach es X.env:=by rfl)(cR:(backTo pos (starEach es X.env)).any (·.1)=false:=by rfl):PE X (.Call (.Name x p) (e::es) [] pos) (afT C sp t):=by intro af s σ H Q I h;apply wpAny_Call_Name_kw (qX I hg hm ?_ jT);apply W.callWith_K (h₀:=X.base) I.ok.iz.xA c.kp (aS (ha pos af s σ H _ I h) fun us s1 ⟨vs,H1,I1,r,hl,q⟩=>⟨I1.gw,?_⟩) he cR;exact acr c i F hr hb I1 r hl q
def JS (c:gE X.K C)(i:Wk X.K C)(hg:Gl X x)(hm:X.mg x=some (.ref C))(jT:(x==("__debug__":Str))=false:=by decide):PE X (.Call (.Name x p) [] [] pos) (aeo C):=by
 intro af s σ H Q I h;apply wpAny_Call_Name_kw (qX I hg hm ?_ jT);apply W.callWith_K0 I.gw c.kp ?_;have KX:=I.gw;obtain⟨nm,q,N,bs,sn,de,ab,col,dd,k0,k1,k2,k3,k5,mN,hC,hN,_,xK,gQ⟩:=c.bu KX;obtain⟨cd,jy,cX⟩:=i.Nb;have eN:cd.ns=N:=by obtain⟨cd',z1,z2⟩:=gQ;rw[jy]at z1;rw[d3 z1];exact z2
 rw[eN,xK]at cX;have hi:mN "__init__"=Option.none:=d3 cX;obtain⟨hp,g,d,tk,os⟩:=s;apply wpAny_call_exc_sub PySem.F.excBase_Exception hC hN hi fun h' a m=>?_;obtain⟨hn,I2⟩:=I.Wf m;exact⟨V.ref a,_,I2,rfl,h a hn⟩
end
open PySem PySem.Spec PyProof.Rows PySem.Builtin.ObjectAttr
def agN (C:ae):(Value.ref C::m8).contains (.type "object")=true:=by rw[List.contains_cons,show m8.contains (.type "object")=true by decide+kernel,Bool.or_true]
section
variable {prog:Program}{w:World}{A:Around}{E:ah->aw->Prop}{s:aw}{K:aI}{x C:ae}{o:Obj}{name:Str}{v:ah}{vs:Array ah}
def gE.mro (c:gE K C):∃cd,W.clsIn K C=some cd/\cd.hasDict=true/\cd.mro=Value.ref C::m8:=by obtain⟨nm,q,N,bs,sn,de,ab,col,dd,k0,k1,k2,k3,k5,cN,dN,es,ep,sl,h1,_⟩:=c.ex;exact⟨_,by unfold W.clsIn;rw[h1];rfl,rfl,rfl⟩
def aeL {Q:Unit->aw->Prop}(X:K.In s.heap)(c:gE K C)(hx:s.heap.get? x=some o)(hc:o.cls= .ref C)(Ym:o.dict=Option.none)(hd:o.data= .fields vs)(hs:W.findIn K (.ref C) "__setattr__"=some (some (.builtin "object.__setattr__")))(jw:W.findIn K (.ref C) name=some Option.none)(h:∀h',(∀b u,b≠x->s.heap.get? b=some u->h'.get? b=some u)->h'.get? x=some {o with dict:=some s.heap.objs.size}->h'.Ns1 s.heap.objs.size (fun y=>if y=name then some v else Option.none)->Q () {s with heap:=h',toks:=s.toks+2}):wpAny (model prog w) A (setAttr (.ref x) name v) Q E s:=by
 have J:W.InstAt s.heap x o C Option.none:=⟨hx,hc,by unfold W.notCls;rw[hd],by rw[Ym];trivial⟩;obtain⟨cd,jy,LX,aiO⟩:=c.mro;have SF:=PySem.F.store_Exception;apply W.set_plain X J hs ?_;have de:W.Looks (model prog w) s.heap (isInstance (.ref x) (.type "object")) true:=J.type.andThen (W.looks_mroIn X ((c.de _).trans (congrArg some (agN C))));apply codeAny_call_builtin SF.slot.plain SF.entry ?_;apply @W.check_slot (model prog w) _ _ {s with toks:=s.toks+1} "object.__setattr__" "object" "__setattr__" (.ref x) [.str name s.toks,v] [] _ SF.kind SF.split de (SF.args (.ref x) (.str name s.toks) v) ?_;rw[W.osa_eq,refuse_eq];have hm:W.Looks (model prog w) s.heap (mroOf (.ref C)) cd.mro:=(W.looks_clsIn X jy).andThen .now;apply az (az (W.Looks.here (s:={s with toks:=s.toks+1}) J.type (az (W.Looks.here (s:={s with toks:=s.toks+1}) hm ?_))));rw[aiO,refuseLoop_ref,SF.passes];apply aZ (az (W.Looks.here (s:={s with toks:=s.toks+1}) J.type (az (W.Looks.here (s:={s with toks:=s.toks+1}) (W.looks_findIn X jw) ?_))));apply az (aZ (a:=Option.none) ?_);show wpAny _ _ (storeInOwnDict (.ref x) (.ref C) (.str name s.toks) name v false) _ _ _;unfold storeInOwnDict;apply az (aZ (az (az (wpAny_loadPart hx ?_))));rw[hc];apply az (W.Looks.here (s:={s with toks:=s.toks+1}) (W.looks_clsIn X jy) ?_);rw[LX];simp only[Bool.not_true,Bool.false_eq_true,if_false];rw[Ym];simp only[typeHasDict,Bool.not_true,Bool.or_self,Bool.false_eq_true,if_false];rw[hd];have XT:(s.heap.push {cls:=.type "dict",data:=.dict #[]}).get? x=some o:=cM _ hx;have XQ:x≠s.heap.objs.size:=d9 (bW hx);apply az (wpAny_alloc (az (wpAny_update XT (aZ ?_))));have ahv:=Heap.get?_update_self (fun o=>({cls:=o.cls,dict:=some s.heap.objs.size,data:=o.data,slots:=o.slots}:Obj)) XT (by rw[hd];rfl);have hD:((s.heap.push {cls:=.type "dict",data:=.dict #[]}).update x fun o=>{cls:=o.cls,dict:=some s.heap.objs.size,data:=o.data,slots:=o.slots}).get? s.heap.objs.size=some {cls:=.type "dict",data:=.dict #[]}:=by rw[qD _ _ XQ];exact eG s.heap rfl
 have hN:((s.heap.push {cls:=.type "dict",data:=.dict #[]}).update x fun o=>{cls:=o.cls,dict:=some s.heap.objs.size,data:=o.data,slots:=o.slots}).Ns s.heap.objs.size (fun _=>Option.none):=Z20 _ (#[]) _ hD rfl (fun e he=>absurd he (by simp)) (fun _=>rfl);show wpAny _ _ (storeInDict s.heap.objs.size (.str name s.toks) name v) _ _ _;unfold storeInDict newKeyGuard;apply az (aZ (az (wpAny_nsSet1 (Heap.Ns1.of_empty hN) fun h' xM i7=>?_)));obtain⟨oD,esD,epD,NA,NS,NT⟩:=xM.count (Within.cons name v Within.nil);apply az (wpAny_lookBehind NA (by rw[NS];exact pastItsLine_dict (b3 NT (by rw[dQ,List.length_nil,sizeLine_eq];omega))) (aZ ?_));apply h h' (fun b u hb e=>?_) ((i7.2 x XQ).trans ahv) xM;rw[i7.2 b (d9 (bW e)),qD _ _ (Ne.symm hb)];exact cM _ e
end
structure L7 (K:aI)(C:ae):Prop where
 sa:W.findIn K (.ref C) "__setattr__"=some (some (.builtin "object.__setattr__"))
 ga:W.findIn K (.ref C) "__getattribute__"=some (some (.builtin "BaseException.__getattribute__"))
 gh:W.findIn K (.ref C) "__getattr__"=some Option.none
def ahf (K:aI)(ta tv:TE)(f:Str):TS:=fun D σ H=>tv σ H fun y H1=>ta σ H1 fun x H2=>∃a C tb,x= .ref a/\H2 a=some (XE a C Option.none tb)/\gE K C/\L7 K C/\dU K C f /\
 ∀d,H2 d=Option.none->d≠a->D.nx σ (ay (ay H2 d (.xd [(f,y)])) a (XE a C (some d) tb))
def V2 (K:aI)(ta:TE)(f:Str):TE:=fun σ H Q=>ta σ H fun x H1=>∃a C d tb fs v,x= .ref a/\H1 a=some (XE a C (some d) tb)/\gE K C/\L7 K C/\dU K C f/\H1 d=some (.xd fs)/\fs.lookup f=some v/\Q v H1
section
variable {X:Cx}{o e value:Expr}{f:Str}{pos pos':Pos}{ta tv:TE}
def aeU (ha:PE X o ta)(hv:PE X value tv)(hs:swapsWith value (some (.Attribute o f pos')) pos.line X.env=pure false):PS X (.Assign [.Attribute o f pos'] value pos) (ahf X.K ta tv f):=by
 intro af s σ H D I h;apply plainObj_wpAny_Assign_Attribute (aS (hv af s σ H _ I h) fun u s1 ⟨y,H1,I1,ry,q⟩=>aS (ha af s1 σ H1 _ I1 q) fun ov s2=>?_) hs;rintro⟨x,H2,I2,rx,a,C,tb,ex,ea,c,xa,n,q2⟩;subst ex;obtain rfl:ov=Value.ref a:=rx;obtain⟨⟨ob,vs,p1,p2,p3,p4,p5⟩,_⟩:=I2.aH a _ ea;apply aeL I2.gw c p1 p2 p3 p4 xa.sa n fun h' kp hx hN=>?_;have fr:H2 s2.heap.objs.size=Option.none:=I2.aH.fresh (bo _);have ne:s2.heap.objs.size≠a:=Nat.ne_of_gt (bW p1);have na:∀b u,H2 b=some u->u≠XE a C Option.none tb->b≠a:=fun b u z bJ q=>by rw[q,ea]at z;exact bJ (d3 z).symm
 have Au:∀b u,H2 b=some u->b≠a->ay (ay H2 s2.heap.objs.size (.xd [(f,y)])) a (XE a C (some s2.heap.objs.size) tb) b=some u:=fun b u z hb=>by rw[aq hb,aq (aQ z fr)];exact z
 have ok:dh X.prog X.w (ay (ay H2 s2.heap.objs.size (.xd [(f,y)])) a (XE a C (some s2.heap.objs.size) tb)) h':=fun b u z=>by
  by_cases hb:b=a
  ·subst hb;rw[aC]at z;cases z;exact XE.mk hx p2 rfl p4 p5
  ·rw[aq hb]at z;by_cases vq:b=s2.heap.objs.size
   ·subst vq;rw[aC]at z;cases z;apply⟨_,hN,fun g=>?_⟩;by_cases hg:g=f
    ·subst hg;simp;exact ry
    ·have hb:(g==f)=false:=beq_eq_false_iff_ne.mpr hg;simp[List.lookup,hb,hg,iJ]
   ·rw[aq vq]at z;have qd:∀c',H2 c'=some (.bO b)->c'≠a:=fun c' q=>na c' _ q (by intro zz;cases zz);refine(I2.aH b u z).fS (fun c' w' l8 q=>kp c' w' ?_ q) (fun c' q=>Au c' _ q (qd c' q)) fun c' xs q=>Au c' _ q (na c' _ q (by intro zz;cases zz));rcases l8 with rfl|l8
    ·exact hb
    ·exact qd c' l8
 apply⟨σ,_,I2.un (h':=h') (t':=s2.toks+2) ⟨fun b u z n _ _=>kp b u (fun q=>by rw[q,ea]at n;cases n) z,fun b u z n _ _=>⟨u.slots,kp b u (fun q=>by rw[q,ea]at n;cases n) z⟩,fun b u z n _=>?_,fun b u z _=>?_,fun b xs z=>Au b _ z (na b _ z (by intro zz;cases zz)),fun b u w' z=>Au b _ z (na b _ z (by intro zz;cases zz)),fun b ps z=>⟨#[],?_⟩⟩ ok,q2 _ fr ne⟩
 ·have b1:b≠a:=fun q=>by rw[q,ea]at n;cases n
  rw[aq b1,aq (d9 (bW z))];exact n
 ·by_cases q:b=a
  ·subst q;exact⟨_,hx⟩
  ·exact⟨u,kp b u q z⟩
 ·rw[Au b _ z (na b _ z (by intro zz;cases zz))];simp
def aeZ (he:PE X e ta)(hb:attributeBase e f X.env (eval e X.env)=eval e X.env):PE X (.Attribute e f pos) (V2 X.K ta f):=by intro af s σ H Q I h;apply VG hb (aS (he af s σ H _ I h) fun u s1=>?_);rintro⟨x,H1,I1,rx,a,C,d,tb,fs,v,ex,ea,c,xa,n,ed,l,q⟩;subst ex;obtain rfl:u=Value.ref a:=rx;obtain⟨⟨ob,vs,p1,p2,p3,p4,p5⟩,_⟩:=I1.aH a _ ea;obtain⟨mA,hN,hr⟩:=I1.aH d _ ed;obtain⟨od,ho,hl⟩:=Tv hN;obtain⟨w',hw,j8⟩:=iJ.Dh (v:=v) (o:=mA f) (by rw[<-l];exact hr f);obtain⟨cd,jy,LX,_⟩:=c.mro;have J:W.InstAt s1.heap a ob C (some od):=⟨p1,p2,by unfold W.notCls;rw[p4],by rw[p3];exact ho⟩;apply afo I1.gw c J xa.ga xa.gh (W.findObj_own (by unfold W.hasDictIn;rw[jy];exact LX) n rfl (by rw[hl,hw])) (TJ j8) ?_;exact⟨v,H1,I1.dY _,j8,q⟩
end
abbrev Cx.bu (X:Cx)(A:Around)(gM:Bool)(E:ah->aw->Prop)(pn:List (ae×Obj)):Cx:={X with A:=A,gM:=gM,xe:=E,pn:=pn}
section
variable {X:Cx}{af:List (ae×Obj)}{σ:St}{H:Hp}{s:aw}{A:Around}{E:ah->aw->Prop}{pn:List (ae×Obj)}{b:Bool}
def Cx.Ok.bu (ok:X.Ok)(ke:A.frames=some X.stack)(hd:b=true->A.handled=Option.none):(X.bu A b E pn).Ok :=
 ⟨ok.iz,ok.kind,ok.oQ,ok.vI,ok.above,ok.inj,ok.sV,ok.xZ,hd,ke,ok.Az,ok.Bh,ok.bs,ok.pw,ok.w6,ok.xk,ok.lY,ok.sY⟩
def au.En (I:au X af σ H s)(ke:A.frames=some X.stack)(hd:b=true->A.handled=Option.none){p6:List (ae×Obj)}(hp:∀p∈pn++p6,p∈X.pn++af):au (X.bu A b E pn) p6 σ H s :=
 ⟨I.ok.bu ke hd,I.os,I.fJ,I.base,I.iL,I.cell,I.free,I.j1,fun p h=>I.jM p (hp p h),I.aH,I.eO⟩
def au.Ab {p6:List (ae×Obj)}(I:au (X.bu A b E pn) p6 σ H s)(ok:X.Ok)(hp:∀p∈X.pn++af,p∈pn++p6):au X af σ H s :=
 ⟨ok,I.os,I.fJ,I.base,I.iL,I.cell,I.free,I.j1,fun p h=>I.jM p (hp p h),I.aH,I.eO⟩
def Dm {M:Model}{A:Around}{E:ah->aw->Prop}{n:Str}{i:Nat}{pos:Pos}{Q:Unit->aw->Prop}(I:au X af σ H s)(hN:X.N.Nodup)(hi:X.N[i]?=some n)(hl:X.env.kindOf n=some .local)
  (h:∀s',au X af (σ.set i Option.none) H s'->Q () s'):wpAny M A (do bindName X.env n .none;unbindBehindTheSuite X.env n pos) Q E s:=by
 obtain⟨m,hn,hm⟩:=I.iL;apply wpAny_nameGoes_keeps hl hn (by rw[I.ok.kind];rfl) fun h' v xM hs=>h _ ?_;have xx:∀b o,X.iw.heap.get? b=some o->b≠X.env.locals:=fun b o e=>d9 (fi (bW e) I.ok.above);have cellK:∀x c,X.env.cells.lookup x=some c->∀v,s.heap.IsCell c v->h'.IsCell c v:=fun x c e v ⟨o,ho,hd⟩=>⟨o,(hs.2 c (I.tf x c e)).trans ho,hd⟩;apply⟨I.ok,I.os,I.fJ,⟨fun b o e n hb hx=>?_,fun b o e n hb hx=>?_,I.base.free,fun b o e hx=>?_,I.base.oK,I.base.mH,I.base.oM⟩,⟨_,xM,fun j y u e1 e2 e3=>?_⟩,fun x c e=>?_,I.free,I.j1,fun p hp=>?_,fun b u e=>?_,by rw[List.length_set];exact I.eO⟩
 ·rw[hs.2 b (xx b o e)];exact I.base.keep b o e n hb hx
 ·rw[hs.2 b (xx b o e)];exact I.base.slot b o e n hb hx
 ·rw[hs.2 b (xx b o e)];exact I.base.there b o e hx
 ·have ji:j≠i:=fun z=>by
   subst z;rw[List.getElem?_set_self']at e2;cases q:σ[j]? with
   | none=>rw[q]at e2;cases e2
   | some _=>rw[q]at e2;cases e2
  rw[List.getElem?_set_ne (Ne.symm ji)]at e2;obtain⟨w',r,l⟩:=hm j y u e1 e2 e3;have yn:y≠n:=fun z=>ji (C1 hN e1 (by rw[z];exact hi));apply⟨w',r,?_⟩;rcases l with⟨k,z⟩|⟨k,c,e,z⟩
  ·exact .inl ⟨k,by show(if y=n then v else m y)=some w';rw[aB yn];exact z⟩
  ·exact .inr ⟨k,c,e,cellK y c e _ z⟩
 ·obtain⟨v,z⟩:=I.cell x c e;exact⟨v,cellK x c e v z⟩
 ·obtain⟨e,n,ne,nf,d⟩:=I.jM p hp;exact⟨(hs.2 p.1 ne).trans e,n,ne,nf,d⟩
 ·refine(I.aH b u e).fS (fun c v hc q=>(hs.2 c ?_).trans q) (fun _ q=>q) fun _ _ q=>q;intro z;have f:=I.free;rw[<-z]at f;rcases hc with rfl|hc
  ·rw[e]at f;cases f
  ·rw[hc]at f;cases f
def TN {M:Model}{A:Around}{E:ah->aw->Prop}{a C T:ae}{dx:Option ae}{Q:Unit->aw->Prop}(I:au X af σ H s)(ha:H a=some (XE a C dx (.ref T)))(hT:H T=some (TB T))(h:Q () s):wpAny M A (setFlight (.ref a) Option.none) Q E s:=by obtain⟨⟨o,vs,q1,q2,q3,q4,q5⟩,_⟩:=I.aH a _ ha;obtain⟨⟨oT,ts,t1,t2,t3⟩,_⟩:=I.aH T _ hT;unfold setFlight;apply az (wpAny_field q1 q4 q5 ?_);rw[aE (by simp)];apply wpAny_setField t1 t2 (Array.getElem?_eq_some_iff.mp t3).1 ?_;have:s.heap.update T (Obj.mapFields (·.setIfInBounds 3 ((Option.none:Option ae).elim Value.none fun f=>rawInt f)))=s.heap:=Heap.update_setField_same s.heap T oT ts 3 .none t1 t2 t3;rw[this];exact h
end
abbrev TH:=ae->ae->Option ae->gc->St->Hp->Prop
def PH (X:Cx)(hs:List ExceptHandler)(t:TH):Prop :=
 ∀(af:List (ae×Obj))(s:aw)(σ:St)(H:Hp)(D:gc)(a C:ae)(dx:Option ae)(T:ae),au X af σ H s->gE X.K C->H a=some (XE a C dx (.ref T))->H T=some (TB T)->t a C dx D σ H ->
  wpAny (model X.prog X.w) X.A (handleBy (.ref a) X.env hs) (SP X af D) X.xe s
def agF:TH:=fun _ _ _ _ _ _=>False
def agj {X:Cx}:PH X [] agF:=fun _ _ _ _ _ _ _ _ _ _ _ _ _ h=>h.elim
def YO (i:Nat)(C':ae)(ts:TS)(b7:TH):TH:=fun a C dx D σ H=>if C'=C then ts {nx:=fun aK H'=>D.nx (aK.set i Option.none) H',rt:=D.rt,bk:=fun aK H'=>D.bk (aK.set i Option.none) H',ct:=fun aK H'=>D.ct (aK.set i Option.none) H'} (σ.set i (some (.ref a))) H else b7 a C dx D σ H
def VT (C':ae)(ts:TS)(b7:TH):TH:=fun a C dx D σ H=>if C'=C then ts D σ H else b7 a C dx D σ H
section
variable {X:Cx}{C':ae}{x n:Str}{np pos:Pos}{b0:Stmt}{DJ:List Stmt}{hs:List ExceptHandler}{ts:TS}{th:TH}{i:Nat}
def ahh (hN:X.N.Nodup)(hi:X.N[i]?=some n)(hl:X.env.kindOf n=some .local)(c':gE X.K C')(hg:Gl X x)(hm:X.mg x=some (.ref C'))(Nu:∀A E,jW (X.bu A false E X.pn) (b0::DJ) ts)(hr:PH X hs th)(jT:(x==("__debug__":Str))=false:=by decide):PH X (.ExceptHandler (some (.Name x np)) (some n) (b0::DJ) pos::hs) (YO i C' ts th):=by
 intro af s σ H D a C dx T I c ha hT h;obtain⟨⟨o,vs,q1,q2,q3,q4,q5⟩,_⟩:=I.aH a _ ha;have fr:(X.A.mark (some (.ref a))).frames=some X.stack:=I.ok.frames;have I':∀E,au (X.bu (X.A.mark (some (.ref a))) false E X.pn) af σ H s:=fun E=>I.En (b:=false) fr (fun z=>Bool.noConfusion z) fun _ z=>z;apply wpAny_handleBy_cons (codeAny_handlers_test ?_) (by intro q;cases q);apply qX (X:=X.bu (X.A.mark (some (.ref a))) false X.xe X.pn) (I' _) hg hm ?_ jT;apply RI I.gw c c' q1 q2 ?_;unfold YO at h;by_cases z:C'=C
 ·rw[aE z]at h;rw[bY z];apply codeAny_handlers_suite_as ?_;apply TN I ha hT ?_;apply CU (X:=X.bu (X.A.mark (some (.ref a))) false X.xe X.pn) (i:=i) (v:=V.ref a) (u:=Value.ref a) (I' _) hN hi (.inl hl) rfl (fun s1 I1=>?_) (.inr hl);have I1':au X af (σ.set i (some (.ref a))) H s1:=I1.Ab I.ok fun _ z=>z;apply wpAny_mono (Nu (X.A.mark (some (.ref a))) (fun _ _=>False) af s1 _ H _ (I1'.En (b:=false) fr (fun z=>Bool.noConfusion z) fun _ z=>z) h) (fun f s2 hq=>?_) fun _ _ z=>z.elim;have i5:∀{aK:St}{H':Hp},au (X.bu (X.A.mark (some (.ref a))) false (fun _ _=>False) X.pn) af aK H' s2->au X af aK H' s2:=fun J=>J.Ab I.ok fun _ z=>z;cases f with
  | next =>obtain⟨aK,H',J,q⟩:=hq;exact Dm (i5 J) hN hi hl fun s3 J3=>⟨_,H',J3,q⟩
  | brk =>obtain⟨aK,H',J,q⟩:=hq;exact Dm (i5 J) hN hi hl fun s3 J3=>⟨_,H',J3,q⟩
  | cont =>obtain⟨aK,H',J,q⟩:=hq;exact Dm (i5 J) hN hi hl fun s3 J3=>⟨_,H',J3,q⟩
  | ret u =>obtain⟨v,aK,H',J,rv,q⟩:=hq;exact Dm (i5 J) hN hi hl fun s3 J3=>⟨v,_,H',J3,rv,q⟩
 ·rw[aB z]at h;rw[bZ z];exact hr af s σ H D a C dx T I c ha hT h
def adI (c':gE X.K C')(hg:Gl X x)(hm:X.mg x=some (.ref C'))(Nu:∀A E,jW (X.bu A false E X.pn) (b0::DJ) ts)(hr:PH X hs th)(jT:(x==("__debug__":Str))=false:=by decide):PH X (.ExceptHandler (some (.Name x np)) Option.none (b0::DJ) pos::hs) (VT C' ts th):=by
 intro af s σ H D a C dx T I c ha hT h;obtain⟨⟨o,vs,q1,q2,q3,q4,q5⟩,_⟩:=I.aH a _ ha;have fr:(X.A.mark (some (.ref a))).frames=some X.stack:=I.ok.frames;have I':∀E,au (X.bu (X.A.mark (some (.ref a))) false E X.pn) af σ H s:=fun E=>I.En (b:=false) fr (fun z=>Bool.noConfusion z) fun _ z=>z;apply wpAny_handleBy_cons (codeAny_handlers_test ?_) (by intro q;cases q);apply qX (X:=X.bu (X.A.mark (some (.ref a))) false X.xe X.pn) (I' _) hg hm ?_ jT;apply RI I.gw c c' q1 q2 ?_;unfold VT at h;by_cases z:C'=C
 ·rw[aE z]at h;rw[bY z];apply codeAny_handlers_suite ?_;apply TN I ha hT ?_;apply wpAny_mono (Nu (X.A.mark (some (.ref a))) (fun _ _=>False) af s _ H D (I' _) h) (fun f s2 hq=>?_) fun _ _ z=>z.elim;have i5:∀{aK:St}{H':Hp},au (X.bu (X.A.mark (some (.ref a))) false (fun _ _=>False) X.pn) af aK H' s2->au X af aK H' s2:=fun J=>J.Ab I.ok fun _ z=>z;cases f with
  | next =>obtain⟨aK,H',J,q⟩:=hq;exact⟨_,H',i5 J,q⟩
  | brk =>obtain⟨aK,H',J,q⟩:=hq;exact⟨_,H',i5 J,q⟩
  | cont =>obtain⟨aK,H',J,q⟩:=hq;exact⟨_,H',i5 J,q⟩
  | ret u =>obtain⟨v,aK,H',J,rv,q⟩:=hq;exact⟨v,_,H',i5 J,rv,q⟩
 ·rw[aB z]at h;rw[bZ z];exact hr af s σ H D a C dx T I c ha hT h
def ahN (K:aI)(n:Nat)(EX:XK)(tb:TS)(th:TH):TS:=fun D σ H=>tb D σ H/\∀(a C:ae)(dx:Option ae)(T:ae)(aK:St)(H' H0:Hp),aK.length=n->H' a=some (XE a C dx (.ref T))->H' T=some (TB T)->aj H0 H'->H0 a=Option.none->EX (.ref C) dx H0 ->
 gE K C/\th a C dx D aK H'
def agi {h0:ExceptHandler}{body:List Stmt}{tb:TS}(EX:XK)(fL:X.stack=X.env::X.aG)(hf:X.env.frame=some X.env.locals)(hb:∀E pn,ro (X.bu X.A X.gM E pn) EX->jW (X.bu X.A X.gM E pn) body tb)(hh:PH X (h0::hs) th):PS X (.Try body (h0::hs) [] [] pos) (ahN X.K X.N.length EX tb th):=by
 rintro af s σ H D I ⟨hq,hx⟩;apply wpAny_Try_except ?_;have fr:=I.ok.frames;have hd:=I.ok.hd;apply wpAny_mono (hb (fun e cf=>wpAny (model X.prog X.w) X.A (noteFrame e X.env) (fun _ gD=>wpAny (model X.prog X.w) X.A (setFlight e Option.none) (fun _ oN=>wpAny (model X.prog X.w) X.A (handleBy e X.env (h0::hs)) (SP X af D) X.xe oN) X.xe gD) X.xe cf) (X.pn++af) ?_ [] s σ H D
   (I.En fr hd fun p z=>by rwa [nq]at z) hq) (fun f s1 jv=>?_) fun _ _ z=>z
 ·intro p6 aK H' s' a C dx tb' H0 J ha ht i7 hn hE;have J':au X af aK H' s':=J.Ab I.ok fun p z=>List.mem_append_left _ z;show wpAny _ _ _ _ _ _;apply J'.WA ha ht fL hf fr fun s2 T J2 hT os2=>?_;have aT:a≠T:=aQ ha hT;have e1:iV H' a C dx T a=some (XE a C dx (.ref T)):=by unfold iV;rw[aq aT,aC]
  have e2:iV H' a C dx T T=some (TB T):=by unfold iV;rw[aC]
  obtain⟨c,hth⟩:=hx a C dx T aK _ H0 J2.eO e1 e2 (aj.rE i7 hn hT) hn hE;exact hh af s2 aK _ D a C dx T J2 c e1 e2 hth
 ·have i5:∀{E:ah->aw->Prop}{aK:St}{H':Hp},au (X.bu X.A X.gM E (X.pn++af)) [] aK H' s1->au X af aK H' s1:=fun J=>J.Ab I.ok fun p z=>by rw[nq];exact z
  cases f with
  | next =>obtain⟨aK,H',J,q⟩:=jv;exact wpAny_execs_nil ⟨_,H',i5 J,q⟩
  | brk =>obtain⟨aK,H',J,q⟩:=jv;exact⟨_,H',i5 J,q⟩
  | cont =>obtain⟨aK,H',J,q⟩:=jv;exact⟨_,H',i5 J,q⟩
  | ret u =>obtain⟨v,aK,H',J,rv,q⟩:=jv;exact⟨v,_,H',i5 J,rv,q⟩
end
open PySem
structure ZA (z TI TO i1 i2:ae)(d8 d7:List ae):Prop where
 TIz:TI≠z
 TOz:TO≠z
 i1z:i1≠z
 i2z:i2≠z
 TITO:TI≠TO
 TIi1:TI≠i1
 TIi2:TI≠i2
 W8:TO≠i1
 ajs:TO≠i2
 i12:i1≠i2
 Bg:z∉d8
 YW:TO∉d8
 YV:i2∉d8
 Bf:z∉d7
 Oa:TO∉d7
 Fz:i1∉d7
section
variable {prog:Program}{w:World}{A:Around}{E:ah->aw->Prop}{s:aw}{z TI TO i1 i2:ae}{d8 d7:List ae}{n1 n2:Nat}{P1 P2:Nat->ah->Prop}{S1 S2:Nat->Heap->Prop}{a b:ah}{k1 k2:Nat}
def SJ {Q:ah->aw->Prop}(D:ZA z TI TO i1 i2 d8 d7)(D1:Draws prog w A i1 d8 n1 P1 S1)(D2:Draws prog w A i2 d7 n2 P2 S2)(hz:IsZip s.heap z TI TO .none)(cP:IsPair s.heap TI (.ref i1) (.ref i2))(du:IsPair s.heap TO a b)(h1:S1 k1 s.heap)(h2:S2 k2 s.heap)(gO:k1<n1)(jQ:k2<n2)(hQ:∀x y h' tk,P1 k1 x->P2 k2 y->IsZip h' z TI TO (rawInt s.heap.objs.size)->IsPair h' TO x y->S1 (k1+1) h'->S2 (k2+1) h'->IsPair h' s.heap.objs.size x y->h'.objs.size=s.heap.objs.size+1->(∀c o,c≠z->c≠TO->c≠i1->c≠i2->s.heap.get? c=some o->h'.get? c=some o)->Q (.ref s.heap.objs.size) {s with heap:=h',toks:=tk}):wpAny (model prog w) A (Builtin.«zip.__next__» ⟨[.ref z],[]⟩) (fun fin s'=>∃v,fin= .done (.ret v)/\Q v s') E s:=by
 obtain⟨hp,g,d,tk,os⟩:=s;show wpAny _ _ (field (.ref z) 2 >>= _) _ _ _;apply az (wpAny_field hz rfl (x:=.bool false) rfl ?_);show wpAny _ _ (field (.ref z) 3 >>= _) _ _ _;apply az (wpAny_field hz rfl (x:=.ref TI) rfl ?_);apply az (wpAny_seqItems cP rfl ?_);show wpAny _ _ (Builtin.SmallTypes.ownedTupleIsFree (.ref z) >>= _) _ _ _;apply az ?_;unfold Builtin.SmallTypes.ownedTupleIsFree;apply az (wpAny_field hz rfl (x:=.none) rfl (aZ ?_));simp only[if_true];apply az (wpAny_rule ?_);apply az (wpAny_field hz rfl (x:=.ref TO) rfl ?_);apply az (wpAny_setField_rec hz (by simp) fun ha l4 dJ=>?_);replace l4:IsZip ha z TI TO .ellipsis:=l4;replace dJ:Heap.SameBut z hp ha:=dJ;have g1:S1 k1 ha:=D1.frame _ _ _ h1 fun c hc o q=>dJ.extBut _ _ (fun e=>D.Bg (e▸hc)) q;have g2:S2 k2 ha:=D2.frame _ _ _ h2 fun c hc o q=>dJ.extBut _ _ (fun e=>D.Bf (e▸hc)) q;apply az ?_;simp only[List.zipIdx_cons,List.zipIdx_nil,List.forIn_cons,List.forIn_nil];apply az (az (wpAny_onRaise ?_));show wpAny _ _ (Builtin.SmallTypes.nextOf (.ref i1) >>= _) _ _ _;apply az (D1.item k1 _ _ _ gO g1 fun x hb tb px Be fg=>aZ ?_);replace fg:Heap.SameBut i1 ha hb:=fg;have Ar:IsPair hb TO a b:=fg.extBut _ _ D.W8 (dJ.extBut _ _ D.TOz du);apply az (wpAny_seqItems (s:=⟨hb,g,d,tb,os⟩) Ar rfl ?_);apply az (wpAny_updateSeq_pair (s:=⟨hb,g,d,tb,os⟩) Ar fun hc Eh fM=>?_);replace Eh:IsPair hc TO x b:=Eh;replace fM:Heap.SameBut TO hb hc:=fM;apply az (wpAny_letGo (aZ ?_));have Bd:S2 k2 hc:=D2.frame _ _ _ g2 fun c hm o q=>fM.extBut _ _ (fun e=>D.Oa (e▸hm)) (fg.extBut _ _ (fun e=>D.Fz (e▸hm)) q);apply az (az (wpAny_onRaise ?_));show wpAny _ _ (Builtin.SmallTypes.nextOf (.ref i2) >>= _) _ _ _;apply az (D2.item k2 _ _ _ jQ Bd fun y gP td py g2d o3=>aZ ?_);replace o3:Heap.SameBut i2 hc gP:=o3;have W2:IsPair gP TO x b:=o3.extBut _ _ D.ajs Eh;apply az (wpAny_seqItems (s:=⟨gP,g,d,td,os⟩) W2 rfl ?_);apply az (wpAny_updateSeq_pair (s:=⟨gP,g,d,td,os⟩) W2 fun he Eg oZ=>?_);replace Eg:IsPair he TO x y:=Eg;replace oZ:Heap.SameBut TO gP he:=oZ;apply az (wpAny_letGo (aZ (aZ ?_)));apply az (wpAny_seqItems (s:=⟨he,g,d,td,os⟩) Eg rfl ?_);apply az (wpAny_newTuple ?_);have hsz:he.objs.size=hp.objs.size:=by rw[oZ.1,o3.1,fM.1,fg.1,dJ.1]
 have Nf:IsZip he z TI TO .ellipsis:=oZ.extBut _ _ D.TOz.symm (o3.extBut _ _ D.i2z.symm (fM.extBut _ _ D.TOz.symm (fg.extBut _ _ D.i1z.symm l4)));have hke:∀c o,c≠z->c≠TO->c≠i1->c≠i2->hp.get? c=some o->he.get? c=some o:=fun c o c1 c2 c3 c4 e =>oZ.extBut _ _ c2 (o3.extBut _ _ c4 (fM.extBut _ _ c2 (fg.extBut _ _ c3 (dJ.extBut _ _ c1 e))))
 have g1e:S1 (k1+1) he:=D1.frame _ _ _ Be fun c hm o q=>oZ.extBut _ _ (fun e=>D.YW (e▸hm)) (o3.extBut _ _ (fun e=>D.YV (e▸hm)) (fM.extBut _ _ (fun e=>D.YW (e▸hm)) q));have g2e:S2 (k2+1) he:=D2.frame _ _ _ g2d fun c hm o q=>oZ.extBut _ _ (fun e=>D.Oa (e▸hm)) q;have WG:z<he.objs.size:=bW Nf;show wpAny _ _ (Builtin.SmallTypes.ownedTupleHandOut (.ref z) (.ref he.objs.size) >>= _) _ _ _;apply az ?_;unfold Builtin.SmallTypes.ownedTupleHandOut;have hzf:IsZip (he.push {cls:=.type "tuple",data:=.seq #[x,y]}) z TI TO .ellipsis:=cM _ Nf;apply az (wpAny_setField_rec (s:=⟨_,g,d,td,os⟩) hzf (by simp) fun hg Nd AO=>?_);replace Nd:IsZip hg z TI TO (rawInt he.objs.size):=Nd;apply wpAny_setField_rec (s:=⟨hg,g,d,td,os⟩) Nd (by simp) fun hh EK kO=>?_;replace EK:IsZip hh z TI TO (rawInt he.objs.size):=EK;replace kO:Heap.SameBut z hg hh:=kO;replace AO:Heap.SameBut z (he.push {cls:=.type "tuple",data:=.seq #[x,y]}) hg:=AO;have up:∀c o,c≠z->he.get? c=some o->hh.get? c=some o:=fun c o c1 e=>kO.extBut _ _ c1 (AO.extBut _ _ c1 (cM _ e));have Yx:IsPair hh he.objs.size x y:=kO.extBut _ _ (Nat.ne_of_gt WG) (AO.extBut _ _ (Nat.ne_of_gt WG) (eG _ rfl));have XM:hh.objs.size=he.objs.size+1:=by rw[kO.1,AO.1,Heap.size_push]
 rw[hsz]at EK Yx XM;apply aZ ⟨_,rfl,?_⟩;show Q (.ref he.objs.size) _;rw[hsz];exact hQ x y hh td px py EK (up _ _ D.TOz Eg) (D1.frame _ _ _ g1e fun c hm o q=>up c o (fun e=>D.Bg (e▸hm)) q) (D2.frame _ _ _ g2e fun c hm o q=>up c o (fun e=>D.Bf (e▸hm)) q) Yx XM fun c o c1 c2 c3 c4 e=>up c o c1 (hke c o c1 c2 c3 c4 e)
def ac0 {Q:Fin->aw->Prop}(D:ZA z TI TO i1 i2 d8 d7)(D1:Draws prog w A i1 d8 n1 P1 S1)(D2:Draws prog w A i2 d7 n2 P2 S2)(hz:IsZip s.heap z TI TO .none)(cP:IsPair s.heap TI (.ref i1) (.ref i2))(du:IsPair s.heap TO a b)(h1:S1 k1 s.heap)(h2:S2 k2 s.heap)(mF:k1=n1\/(k1<n1/\k2=n2))(hE:∀h' tk e,(∀c o,c≠z->c≠TO->c≠i1->c≠i2->s.heap.get? c=some o->h'.get? c=some o)->(∃o,h'.get? e=some o/\o.cls= .type "StopIteration")->E (.ref e) {s with heap:=h',toks:=tk}):wpAny (model prog w) A (Builtin.«zip.__next__» ⟨[.ref z],[]⟩) Q E s:=by
 obtain⟨hp,g,d,tk,os⟩:=s;show wpAny _ _ (field (.ref z) 2 >>= _) _ _ _;apply az (wpAny_field hz rfl (x:=.bool false) rfl ?_);show wpAny _ _ (field (.ref z) 3 >>= _) _ _ _;apply az (wpAny_field hz rfl (x:=.ref TI) rfl ?_);apply az (wpAny_seqItems cP rfl ?_);show wpAny _ _ (Builtin.SmallTypes.ownedTupleIsFree (.ref z) >>= _) _ _ _;apply az ?_;unfold Builtin.SmallTypes.ownedTupleIsFree;apply az (wpAny_field hz rfl (x:=.none) rfl (aZ ?_));simp only[if_true];apply az (wpAny_rule ?_);apply az (wpAny_field hz rfl (x:=.ref TO) rfl ?_);apply az (wpAny_setField_rec hz (by simp) fun ha l4 dJ=>?_);replace l4:IsZip ha z TI TO .ellipsis:=l4;replace dJ:Heap.SameBut z hp ha:=dJ;have g1:S1 k1 ha:=D1.frame _ _ _ h1 fun c hc o q=>dJ.extBut _ _ (fun e=>D.Bg (e▸hc)) q;have g2:S2 k2 ha:=D2.frame _ _ _ h2 fun c hc o q=>dJ.extBut _ _ (fun e=>D.Bf (e▸hc)) q;apply az ?_;simp only[List.zipIdx_cons,List.zipIdx_nil,List.forIn_cons,List.forIn_nil];apply az (az (wpAny_onRaise ?_));show wpAny _ _ (Builtin.SmallTypes.nextOf (.ref i1) >>= _) _ _ _;rcases mF with rfl|⟨gO,rfl⟩
 ·apply az (D1.done _ _ _ g1 fun hb e fg he=>?_);obtain⟨oe,mP,vn⟩:=he;have oX:IsZip hb z TI TO .ellipsis:=fg _ _ D.i1z.symm l4;have NK:e≠z:=fun x=>by subst x;rw[oX]at mP;cases mP;simp at vn
  apply wpAny_setField_rec (s:=⟨hb,g,d,tk,os⟩) oX (by simp) fun hc _ fM=>hE hc tk e (fun c o c1 _ c3 _ x=>fM.extBut _ _ c1 (fg _ _ c3 (dJ.extBut _ _ c1 x))) ⟨oe,fM.extBut _ _ NK mP,vn⟩
 ·apply az (D1.item k1 _ _ _ gO g1 fun x hb tb px Be fg=>aZ ?_);replace fg:Heap.SameBut i1 ha hb:=fg;have Ar:IsPair hb TO a b:=fg.extBut _ _ D.W8 (dJ.extBut _ _ D.TOz du);apply az (wpAny_seqItems (s:=⟨hb,g,d,tb,os⟩) Ar rfl ?_);apply az (wpAny_updateSeq_pair (s:=⟨hb,g,d,tb,os⟩) Ar fun hc Eh fM=>?_);replace fM:Heap.SameBut TO hb hc:=fM;apply az (wpAny_letGo (aZ ?_));have Bd:S2 k2 hc:=D2.frame _ _ _ g2 fun c hm o q=>fM.extBut _ _ (fun e=>D.Oa (e▸hm)) (fg.extBut _ _ (fun e=>D.Fz (e▸hm)) q);apply az (az (wpAny_onRaise ?_));show wpAny _ _ (Builtin.SmallTypes.nextOf (.ref i2) >>= _) _ _ _;apply az (D2.done _ _ _ Bd fun gP e o3 he=>?_);obtain⟨oe,mP,vn⟩:=he;have XJ:IsZip gP z TI TO .ellipsis:=o3 _ _ D.i2z.symm (fM.extBut _ _ D.TOz.symm (fg.extBut _ _ D.i1z.symm l4));have NK:e≠z:=fun x=>by subst x;rw[XJ]at mP;cases mP;simp at vn
  apply wpAny_setField_rec (s:=⟨gP,g,d,tb,os⟩) XJ (by simp) fun he _ oZ=>hE he tb e (fun c o c1 c2 c3 c4 x=>oZ.extBut _ _ c1 (o3 _ _ c4 (fM.extBut _ _ c2 (fg.extBut _ _ c3 (dJ.extBut _ _ c1 x))))) ⟨oe,oZ.extBut _ _ NK mP,vn⟩
end
section
variable {prog:Program}{w:World}{A:Around}{E:ah->aw->Prop}{s:aw}{z TI TO i1 i2:ae}{d8 d7:List ae}{n1 n2:Nat}{P1 P2:Nat->ah->Prop}{S1 S2:Nat->Heap->Prop}{a b:ah}{k1 k2:Nat}
def Zw {Q:Option ah->aw->Prop}(D:ZA z TI TO i1 i2 d8 d7)(D1:Draws prog w A.in1 i1 d8 n1 P1 S1)(D2:Draws prog w A.in1 i2 d7 n2 P2 S2)(hz:IsZip s.heap z TI TO .none)(cP:IsPair s.heap TI (.ref i1) (.ref i2))(du:IsPair s.heap TO a b)(h1:S1 k1 s.heap)(h2:S2 k2 s.heap)(gO:k1<n1)(jQ:k2<n2)(hQ:∀x y h' tk,P1 k1 x->P2 k2 y->IsZip h' z TI TO (rawInt s.heap.objs.size)->IsPair h' TO x y->S1 (k1+1) h'->S2 (k2+1) h'->IsPair h' s.heap.objs.size x y->h'.objs.size=s.heap.objs.size+1->(∀c o,c≠z->c≠TO->c≠i1->c≠i2->s.heap.get? c=some o->h'.get? c=some o)->Q (some (.ref s.heap.objs.size)) {s with heap:=h',toks:=tk}):wpAny (model prog w) A (pyNext (.ref z)) Q E s:=by
 have hT:s.TypeIs (.ref z) "zip":=⟨_,hz,rfl⟩;unfold pyNext;exact az (wpAny_attempt (wpAny_callSpecial?_slot (name:=Str.ofString "__next__") hT F.slot_zip_next
  (wpAny_call_entry F.slot_zip_next hT F.entry_zip_next
   (SJ D D1 D2 hz cP du h1 h2 gO jQ fun x y h' tk a1 a2 a3 a4 a5 a6 a7 a8 a9=>aZ (hQ x y h' tk a1 a2 a3 a4 a5 a6 a7 a8 a9)) (F.args_zip_next_1 _))))
def QJ {Q:Option ah->aw->Prop}(D:ZA z TI TO i1 i2 d8 d7)(D1:Draws prog w A.in1 i1 d8 n1 P1 S1)(D2:Draws prog w A.in1 i2 d7 n2 P2 S2)(hz:IsZip s.heap z TI TO .none)(cP:IsPair s.heap TI (.ref i1) (.ref i2))(du:IsPair s.heap TO a b)(h1:S1 k1 s.heap)(h2:S2 k2 s.heap)(mF:k1=n1\/(k1<n1/\k2=n2))(hQ:∀h' tk,(∀c o,c≠z->c≠TO->c≠i1->c≠i2->s.heap.get? c=some o->h'.get? c=some o)->Q none {s with heap:=h',toks:=tk}):wpAny (model prog w) A (pyNext (.ref z)) Q E s:=by
 have hT:s.TypeIs (.ref z) "zip":=⟨_,hz,rfl⟩;unfold pyNext;apply az (wpAny_attempt (wpAny_callSpecial?_slot (name:=Str.ofString "__next__") hT F.slot_zip_next
  (wpAny_call_entry F.slot_zip_next hT F.entry_zip_next (ac0 D D1 D2 hz cP du h1 h2 mF fun h' tk e hk he=>?_) (F.args_zip_next_1 _))))
 obtain⟨o,ho,hc⟩:=he;apply az (wpAny_isInstance (T:="StopIteration") (b:=true) ⟨o,ho,hc⟩ isSubtype_stop ?_);exact aZ (hQ _ _ hk)
end
section
variable {prog:Program}{w:World}{A:Around}{E:ah->aw->Prop}{s:aw}
def Zk {it l:ae}{i:Nat}{items:Array ah}{x:ah}{Q:ah->aw->Prop}(cb:s.heap.IsTupleIter it l i)(hl:s.heap.IsTuple l items)(hx:items[i]?=some x)(hQ:∀h',h'.IsTupleIter it l (i+1)->Heap.SameBut it s.heap h'->Q x {s with heap:=h'}):wpAny (model prog w) A (Builtin.SmallTypes.nextOf (.ref it)) Q E s:=by
 obtain⟨o,ho,hc,hd⟩:=id cb;obtain⟨ol,sN,_,nl,NP⟩:=hl;unfold Builtin.SmallTypes.nextOf;apply az (wpAny_callSpecial?_slot (name:=Str.ofString "__next__") cb.typeIs F.slot_tuple_iterator_next
  (wpAny_call_entry F.slot_tuple_iterator_next cb.typeIs F.entry_tuple_iterator_next ?_ (F.args_tuple_iterator_next_1 _)))
 show wpAny _ _ (field (.ref it) 0 >>= _) _ _ s;apply az (wpAny_field ho hd (x:=.ref l) rfl ?_);show wpAny _ _ (if(Value.ref l==Value.none)=true then _ else _) _ _ s;rw[aB (show¬((Value.ref l==Value.none)=true)from fE)];show wpAny _ _ (field (.ref it) 1 >>= _) _ _ s;apply az (wpAny_field ho hd (x:=.int i 0) rfl ?_);show wpAny _ _ (seqItems? (.ref l) >>= _) _ _ s;apply az (wpAny_seqItems sN NP ?_);simp only[mj,hx];apply az (wpAny_setField ho hd (by simp) (aZ ⟨x,rfl,aZ (hQ _ ?_ (Heap.SameBut.update ..))⟩));exact⟨_,Heap.get?_update_self _ ho (Obj.isFreed_of_fields (Obj.data_mapFields hd _)),(Obj.cls_mapFields ..).trans hc,by rw[Obj.data_mapFields hd];simp[rawInt]⟩
def Zo {it l:ae}{i:Nat}{items:Array ah}{Q:ah->aw->Prop}(hh:A.handled=none)(cb:s.heap.IsTupleIter it l i)(hl:s.heap.IsTuple l items)(hx:items[i]?=none)(hE:∀h' e,Heap.ExtBut it s.heap h'->(∃o,h'.get? e=some o/\o.cls= .type "StopIteration")->E (.ref e) {s with heap:=h'}):wpAny (model prog w) A (Builtin.SmallTypes.nextOf (.ref it)) Q E s:=by
 obtain⟨o,ho,hc,hd⟩:=id cb;obtain⟨ol,sN,_,nl,NP⟩:=hl;unfold Builtin.SmallTypes.nextOf;apply az (wpAny_callSpecial?_slot (name:=Str.ofString "__next__") cb.typeIs F.slot_tuple_iterator_next
  (wpAny_call_entry F.slot_tuple_iterator_next cb.typeIs F.entry_tuple_iterator_next ?_ (F.args_tuple_iterator_next_1 _)))
 show wpAny _ _ (field (.ref it) 0 >>= _) _ _ s;apply az (wpAny_field ho hd (x:=.ref l) rfl ?_);show wpAny _ _ (if(Value.ref l==Value.none)=true then _ else _) _ _ s;rw[aB (show¬((Value.ref l==Value.none)=true)from fE)];show wpAny _ _ (field (.ref it) 1 >>= _) _ _ s;apply az (wpAny_field ho hd (x:=.int i 0) rfl ?_);show wpAny _ _ (seqItems? (.ref l) >>= _) _ _ s;apply az (wpAny_seqItems sN NP ?_);simp only[mj,hx];apply az (wpAny_rule (az (wpAny_setField ho hd (by simp) ?_)));show wpAny _ _ (newExc (.type "StopIteration") [] >>= _) _ _ _;apply az ?_;simp only[newExc,newTuple];apply az (wpAny_newObj_type ?_ (by size_fits));apply az (m:=firstArgMember _ _) (wpAny_of_eq (a:=Value.none) (by first|rfl|(simp only[firstArgMember];rfl)) ?_);apply wpAny_newObj_type ?_ (by size_fits);simp only[raiseNew];apply az (wpAny_handled ?_)
 first|rw[show A.in1.handled=none from hh]|rw[hh]
 apply az (aZ (wpAny_throw ?_));exact hE _ _ (((Heap.SameBut.update ..).extBut.push _).push _) ⟨_,eG _ rfl,rfl⟩
def afS {h h':Heap}{a:ae}{items:Array ah}(x:h.IsTuple a items)(k:∀o,h.get? a=some o->h'.get? a=some o):h'.IsTuple a items:=let ⟨o,ho,r⟩:=x;⟨o,k o ho,r⟩
def KU {h h':Heap}{a t:ae}{i:Nat}(x:h.IsTupleIter a t i)(k:∀o,h.get? a=some o->h'.get? a=some o):h'.IsTupleIter a t i:=let ⟨o,ho,r⟩:=x;⟨o,k o ho,r⟩
def Sy (hh:A.handled=none)(it l:ae)(bJ:l≠it)(items:Array ah):Draws prog w A it [it,l] items.size (fun i v=>items[i]?=some v) (fun i h=>h.IsTupleIter it l i/\h.IsTuple l items) where
 live:=fun _ _ st=>let ⟨o,ho,_⟩:=st.1;⟨o,ho⟩
 frame:=fun _ _ _ st hk=>⟨KU st.1 fun o e=>hk it (by simp) o e,afS st.2 fun o e=>hk l (by simp) o e⟩
 item:=fun i s Q E hi st hQ=>by apply Zk st.1 st.2 (x:=items[i]) (by simp[hi]) fun h' xg i7=>?_;exact hQ _ h' s.toks (by simp[hi]) ⟨xg,st.2.extBut i7.extBut bJ⟩ i7
 done:=fun s Q E st hE=>Zo hh st.1 st.2 (by simp) hE
end
abbrev DV (h:Heap)(x:Str)(t:Tok):Heap:=h.push {cls:=.type (strIterType x),data:=.fields #[.str x t,.int 0 0]}
abbrev DU (h:Heap)(x y:Str)(t u:Tok):Heap:=(DV h x t).push {cls:=.type (strIterType y),data:=.fields #[.str y u,.int 0 0]}
abbrev DT (h:Heap)(x y:Str)(t u:Tok):Heap:=(DU h x y t u).push {cls:=.type "tuple",data:=.seq #[.ref h.objs.size,.ref (DV h x t).objs.size]}
abbrev DS (h:Heap)(x y:Str)(t u:Tok):Heap:=(DT h x y t u).push {cls:=.type "tuple",data:=.seq #[.none,.none]}
abbrev uv (h:Heap)(x y:Str)(t u:Tok):Heap:=(DS h x y t u).push {cls:=.type "zip",data:=.fields #[.none,.bool false,.bool false,.ref (DU h x y t u).objs.size,.ref (DT h x y t u).objs.size]}
def Zx (x y:Str)(t u:Tok):Meets (Builtin.«zip.__new__» ⟨[.type "zip",.str x t,.str y u],[]⟩) (fun _ R s=>R (.ok (.ret (.ref (DS s.heap x y t u).objs.size))) {s with heap:=uv s.heap x y t u}) :=
 .of_wp fun prog w A R s h=>by
  obtain⟨hp,g,d,tk,os⟩:=s;have aiB:=sub_zip
  wp_walk using wpAny_pyIter_strU
  exact Z10 _ rfl h
section
variable {prog:Program}{w:World}{A:Around}{E:ah->aw->Prop}{s:aw}
def Z1 {x y:Str}{t u:Tok}{Q:ah->aw->Prop}(h:∀h',IsZip h' (s.heap.objs.size+4) (s.heap.objs.size+2) (s.heap.objs.size+3) .none->IsPair h' (s.heap.objs.size+2) (.ref s.heap.objs.size) (.ref (s.heap.objs.size+1))->IsPair h' (s.heap.objs.size+3) .none .none->h'.IsStrIter s.heap.objs.size (strIterType x) x t 0->h'.IsStrIter (s.heap.objs.size+1) (strIterType y) y u 0->h'.objs.size=s.heap.objs.size+5->(∀c o,s.heap.get? c=some o->h'.get? c=some o)->Q (.ref (s.heap.objs.size+4)) {s with heap:=h'}):wpAny (model prog w) A (call (.type "zip") [.str x t,.str y u]) Q E s:=by
 apply callType_new F.called_zip (by decide) (F.typeCall_zip_2 _ _) (F.newCall_zip_2 _ _) (fun obj=>F.args_object_init_3 obj _ _) F.entry_zip_new
  (Zx x y t u) ?_
 have z1:(DV s.heap x t).objs.size=s.heap.objs.size+1:=Heap.size_push ..;have z2:(DU s.heap x y t u).objs.size=s.heap.objs.size+2:=by rw[Heap.size_push,z1]
 have z3:(DT s.heap x y t u).objs.size=s.heap.objs.size+3:=by rw[Heap.size_push,z2]
 have z4:(DS s.heap x y t u).objs.size=s.heap.objs.size+4:=by rw[Heap.size_push,z3]
 have z5:(uv s.heap x y t u).objs.size=s.heap.objs.size+5:=by rw[Heap.size_push,z4]
 have g5:(uv s.heap x y t u).get? (DS s.heap x y t u).objs.size=some _:=eG _ rfl;have g4:(uv s.heap x y t u).get? (DT s.heap x y t u).objs.size=some _:=cM _ (eG _ rfl);have g3:(uv s.heap x y t u).get? (DU s.heap x y t u).objs.size=some _:=cM _ (cM _ (eG _ rfl));have g2:(uv s.heap x y t u).get? (DV s.heap x t).objs.size=some _:=cM _ (cM _ (cM _ (eG _ rfl)));have g1:(uv s.heap x y t u).get? s.heap.objs.size=some _:=cM _ (cM _ (cM _ (cM _ (eG _ rfl))));show _/\_;rw[z2,z3,z4]at g5;rw[z1,z2]at g3;rw[z3]at g4;rw[z1]at g2;rw[z4];exact⟨⟨_,g5,rfl⟩,h _ g5 g3 g4 ⟨_,g1,rfl,rfl⟩ ⟨_,g2,rfl,rfl⟩ z5 fun c o x =>cM _ (cM _ (cM _ (cM _ (cM _ x))))⟩
end
def Y6 (l:ae)(items:Array ah)(n:Nat)(FC:Option ae)(sl:Array (Option ah)):Meets (Builtin.«enumerate.__new__» ⟨[.type "enumerate",.ref l],[]⟩) (fun _ R s=>s.heap.get? l=some {cls:=.type "tuple",dict:=FC,data:=.seq items n,slots:=sl}/\R (.ok (.ret (.ref (s.heap.push {cls:=.type "tuple_iterator",data:=.fields #[.ref l,.int 0 0]}).objs.size))) {s with heap:=(s.heap.push {cls:=.type "tuple_iterator",data:=.fields #[.ref l,.int 0 0]}).push {cls:=.type "enumerate",data:=.fields #[.none,.bool false,.ref s.heap.objs.size,rawInt 0,.none,.none]}}) :=
 .of_wp fun prog w A R s h=>by
  obtain⟨hp,g,d,tk,os⟩:=s;obtain⟨hl,h⟩:=h;have aiB:=sub_enumerate;have hL:Heap.IsTuple (Shared.heap ⟨hp,g,d,tk,os⟩) l items:=⟨_,hl,rfl,n,rfl⟩
  wp_walk using wpAny_loadPart' hl
  apply wpAny_stack_any fun st=>aZ ?_;split
  ·rename_i c _ _ _ _ _
   cases (c==Value.type "enumerate")
   ·wp_walk using wpAny_loadPart' hl,wpAny_pyIter_tuple hL
    exact⟨_,rfl,h⟩
   ·wp_walk using wpAny_loadPart' hl,wpAny_pyIter_tuple hL
    exact⟨_,rfl,h⟩
  ·wp_walk using wpAny_loadPart' hl,wpAny_pyIter_tuple hL
   exact⟨_,rfl,h⟩
section
variable {prog:Program}{w:World}{A:Around}{E:ah->aw->Prop}{s:aw}
def Y7 {l:ae}{items:Array ah}{Q:ah->aw->Prop}(hL:s.heap.IsTuple l items)(h:∀h',IsEnum h' (s.heap.objs.size+1) s.heap.objs.size 0 .none->h'.IsTupleIter s.heap.objs.size l 0->h'.objs.size=s.heap.objs.size+2->(∀b o,s.heap.get? b=some o->h'.get? b=some o)->Q (.ref (s.heap.objs.size+1)) {s with heap:=h'}):wpAny (model prog w) A (call (.type "enumerate") [.ref l]) Q E s:=by
 obtain⟨⟨c,FC,dt,sl⟩,hl,hc,n,hd⟩:=hL;replace hc:c= .type "tuple":=hc;replace hd:dt= .seq items n:=hd;subst hc hd;apply callType_new F.called_enumerate (by decide) (F.typeCall_enumerate_1 _) (F.newCall_enumerate_1 _) (fun obj=>F.args_object_init_2 obj _) F.entry_enumerate_new
  (Y6 l items n FC sl) ⟨hl,?_⟩
 have hz:(s.heap.push {cls:=.type "tuple_iterator",data:=.fields #[.ref l,.int 0 0]}).objs.size=s.heap.objs.size+1:=Heap.size_push ..;show _/\_;rw[hz];have he:IsEnum ((s.heap.push {cls:=.type "tuple_iterator",data:=.fields #[.ref l,.int 0 0]}).push
   {cls:=.type "enumerate",data:=.fields #[.none,.bool false,.ref s.heap.objs.size,rawInt 0,.none,.none]}) (s.heap.objs.size+1) s.heap.objs.size 0 .none:=by
  have:=eG (s.heap.push {cls:=.type "tuple_iterator",data:=.fields #[.ref l,.int 0 0]})
   (o:={cls:=.type "enumerate",data:=.fields #[.none,.bool false,.ref s.heap.objs.size,rawInt 0,.none,.none]}) rfl
  rw[hz]at this;exact this
 apply⟨⟨_,he,rfl⟩,h _ he ⟨_,cM _ (eG _ rfl),rfl,rfl⟩ (by rw[Heap.size_push,hz]) fun b o x=>cM _ (cM _ x)⟩
end
def abK {prog:Program}{w:World}{A:Around}{E:ah->aw->Prop}{s:aw}{items:Array ah}{x:ah}{e:ah->Bool}{j:Nat}(hj:j<items.size)
  (cb:e items[j]=true) (gf:∀m(hm:m<items.size),m<j->e items[m]=false) (he:∀y,y∈items->SeqAt.EqAt A s y x (e y)) {Q:Option Fin×Unit->aw->Prop}
  (h:Q (some (.done (.ret (.int j s.toks))),()) {s with toks:=s.toks+1}) :
  ∀(k i:Nat),i+k=items.size->i<=j->wpAny (model prog w) A (forIn (List.range' i k) ((none,()):Option Fin×Unit) (fun(i:Nat)__s =>
   match items[i]? with
    | some y=>do
     let Kn<-eqBool y x
     if Kn=true then do
       let Kn<-retInt (i:Int)
       pure (ForInStep.done (some Kn,()))
      else pure (ForInStep.yield (none,()))
    | x=>pure (ForInStep.yield (none,())))) Q E s:=by
 intro k
 induction k with
 | zero=>intro i h1 h2;omega
 | succ k ih =>
  intro i h1 h2;have br:i<items.size:=by omega
  rw[List.range'_succ,List.forIn_cons];have e1:items[i]?=some items[i]:=by simp[br]
  rw[e1];apply az (az (he _ (Array.getElem_mem br) prog w _ _ ?_));by_cases hij:i=j
  ·subst hij;rw[cb];simp only[if_true];obtain⟨hp,g,d,tk,os⟩:=s
   wp_walk
   exact h
  ·rw[gf i br ⋯];simp only[Bool.false_eq_true,if_false];exact aZ (ih (i+1) ⋯ ⋯)
def ZE (l:ae)(items:Array ah)(n:Nat)(dd:Option ae)(sl:Array (Option ah))(x:ah)(e:ah->Bool)(j:Nat)(hj:j<items.size)(cb:e items[j]=true)(gf:∀m(hm:m<items.size),m<j->e items[m]=false):Meets (Builtin.«tuple.index» ⟨[.ref l,x],[]⟩) (fun A R s=>s.heap.get? l=some {cls:=.type "tuple",dict:=dd,data:=.seq items n,slots:=sl}/\(∀y,y∈items->SeqAt.EqAt A.in1 s y x (e y))/\R (.ok (.ret (.int j s.toks))) {s with toks:=s.toks+1}):=by
 apply .of_wp fun prog w A R s h=>?_;obtain⟨hl,he,h⟩:=h;unfold Builtin.«tuple.index»;simp only[Std.Legacy.Range.forIn_eq_forIn_range',Std.Legacy.Range.size];have key:=fun(Q:Option Fin×Unit->aw->Prop)(E:ah->aw->Prop)hq=>abK (prog:=prog) (w:=w) (A:=A.in1) (E:=E) (s:=s) (Q:=Q) hj cb gf he hq ((min items.size items.size-0+1-1)/1) 0 (by simp) (bA _);obtain⟨hp,g,d,tk,os⟩:=s
 wp_walk using wpAny_loadPart' hl
 apply key _ _ ?_;exact aZ ⟨_,rfl,h⟩
abbrev wJ (h:Heap)(z TI TO T:ae)(b:Bool):Prop :=
 h.get? z=some {cls:=.type "zip",dict:=none,data:=.fields #[rawInt T,.bool b,.bool false,.ref TI,.ref TO],slots:= #[]}
section
variable {prog:Program}{w:World}{A:Around}{E:ah->aw->Prop}{s:aw}{z TI TO T i1 i2:ae}{b:Bool}{d8 d7:List ae}{n1 n2:Nat}{P1 P2:Nat->ah->Prop}{S1 S2:Nat->Heap->Prop}{k1 k2:Nat}
def agR {M:Model}{a:ae}{o:Obj}{Q:Option Obj->aw->Prop}(ho:s.heap.get? a=some o)(h:Q (some o) s):wpAny M A (loadIfAlive a) Q E s :=
 fun Γ p _=>by
  show Sem.wp M Γ (.loadIfAlive a .pure) _ _ p s;simp only[Sem.wp,ho]
  first|exact h|simpa using h
def UE {Q:Bool->aw->Prop}(hz:wJ s.heap z TI TO T b)(hT:∃o,s.heap.get? T=some o)(h:∀h',wJ h' z TI TO T true->Heap.SameBut z s.heap h'->Q false {s with heap:=h'}):wpAny (model prog w) A (Builtin.SmallTypes.ownedTupleIsFree (.ref z)) Q E s:=by
 obtain⟨oT,hT⟩:=hT;obtain⟨hp,g,d,tk,os⟩:=s;unfold Builtin.SmallTypes.ownedTupleIsFree;apply az (wpAny_field hz rfl (x:=rawInt T) rfl ?_);show wpAny _ _ (loadIfAlive (T:Int).toNat >>= _) _ _ _;rw[mj];apply az (agR hT ?_);show wpAny _ _ (field (.ref z) 1 >>= _) _ _ _;apply az (wpAny_field hz rfl (x:=.bool b) rfl ?_);cases b with
 | true=>exact aZ (h hp hz ⟨rfl,fun _ _=>rfl⟩)
 | false =>show wpAny _ _ (setField (.ref z) 1 (.bool true) >>= _) _ _ _;exact az (wpAny_setField_rec hz (by simp) fun h' Ng i7=>aZ (h h' Ng i7))
def abR {Q:ah->aw->Prop}(D:ZA z TI TO i1 i2 d8 d7)(D1:Draws prog w A i1 d8 n1 P1 S1)(D2:Draws prog w A i2 d7 n2 P2 S2)(hz:wJ s.heap z TI TO T b)(hT:∃o,s.heap.get? T=some o)(cP:IsPair s.heap TI (.ref i1) (.ref i2))(h1:S1 k1 s.heap)(h2:S2 k2 s.heap)(gO:k1<n1)(jQ:k2<n2)(hQ:∀x y h' tk,P1 k1 x->P2 k2 y->wJ h' z TI TO T true->S1 (k1+1) h'->S2 (k2+1) h'->IsPair h' s.heap.objs.size x y->h'.objs.size=s.heap.objs.size+1->(∀c o,c≠z->c≠TO->c≠i1->c≠i2->s.heap.get? c=some o->h'.get? c=some o)->Q (.ref s.heap.objs.size) {s with heap:=h',toks:=tk}):wpAny (model prog w) A (Builtin.«zip.__next__» ⟨[.ref z],[]⟩) (fun fin s'=>∃v,fin= .done (.ret v)/\Q v s') E s:=by
 obtain⟨hp,g,d,tk,os⟩:=s;show wpAny _ _ (field (.ref z) 2 >>= _) _ _ _;apply az (wpAny_field hz rfl (x:=.bool false) rfl ?_);show wpAny _ _ (field (.ref z) 3 >>= _) _ _ _;apply az (wpAny_field hz rfl (x:=.ref TI) rfl ?_);apply az (wpAny_seqItems cP rfl ?_);show wpAny _ _ (Builtin.SmallTypes.ownedTupleIsFree (.ref z) >>= _) _ _ _;apply az (UE hz hT fun ha l4 dJ=>?_);replace dJ:Heap.SameBut z hp ha:=dJ;have g1:S1 k1 ha:=D1.frame _ _ _ h1 fun c hc o q=>dJ.extBut _ _ (fun e=>D.Bg (e▸hc)) q;have g2:S2 k2 ha:=D2.frame _ _ _ h2 fun c hc o q=>dJ.extBut _ _ (fun e=>D.Bf (e▸hc)) q;simp only[Bool.false_eq_true,if_false,<-Array.forIn_toList,List.forIn_cons,List.forIn_nil];apply az (az (az (wpAny_holding ?_)));show wpAny _ _ (Builtin.SmallTypes.nextOf (.ref i1) >>= _) _ _ _;apply az (D1.item k1 _ _ _ gO g1 fun x hb tb px Be fg=>aZ ?_);replace fg:Heap.SameBut i1 ha hb:=fg;have N8:S2 k2 hb:=D2.frame _ _ _ g2 fun c hm o q=>fg.extBut _ _ (fun e=>D.Fz (e▸hm)) q;apply aZ ?_;apply az (az (wpAny_holding ?_));show wpAny _ _ (Builtin.SmallTypes.nextOf (.ref i2) >>= _) _ _ _;apply az (D2.item k2 _ _ _ jQ N8 fun y hc tc py Bd fM=>aZ ?_);replace fM:Heap.SameBut i2 hb hc:=fM;apply aZ (aZ ?_);apply az (wpAny_newTuple (hsz:=by show 2<=sizeLine;decide) ?_);have hsz:hc.objs.size=hp.objs.size:=by rw[fM.1,fg.1,dJ.1]
 have up:∀c o,hc.get? c=some o->(hc.push {cls:=.type "tuple",data:=.seq #[x,y]}).get? c=some o:=fun c o e=>cM _ e;apply aZ ⟨_,rfl,?_⟩;show Q (.ref hc.objs.size) _;rw[hsz];apply hQ x y _ tc px py (up _ _ (fM.extBut _ _ D.i2z.symm (fg.extBut _ _ D.i1z.symm l4))) ?_ ?_ ?_ ?_ fun c o c1 c2 c3 c4 e=>up _ _ (fM.extBut _ _ c4 (fg.extBut _ _ c3 (dJ.extBut _ _ c1 e)))
 ·exact D1.frame _ _ _ Be fun c hm o q=>up _ _ (fM.extBut _ _ (fun e=>D.YV (e▸hm)) q)
 ·exact D2.frame _ _ _ Bd fun c hm o q=>up _ _ q
 ·rw[<-hsz];exact eG _ rfl
 ·rw[Heap.size_push,hsz]
def ac1 {Q:Fin->aw->Prop}(D:ZA z TI TO i1 i2 d8 d7)(D1:Draws prog w A i1 d8 n1 P1 S1)(D2:Draws prog w A i2 d7 n2 P2 S2)(hz:wJ s.heap z TI TO T b)(hT:∃o,s.heap.get? T=some o)(cP:IsPair s.heap TI (.ref i1) (.ref i2))(h1:S1 k1 s.heap)(h2:S2 k2 s.heap)(mF:k1=n1\/(k1<n1/\k2=n2))(hE:∀h' tk e,(∀c o,c≠z->c≠TO->c≠i1->c≠i2->s.heap.get? c=some o->h'.get? c=some o)->(∃o,h'.get? e=some o/\o.cls= .type "StopIteration")->E (.ref e) {s with heap:=h',toks:=tk}):wpAny (model prog w) A (Builtin.«zip.__next__» ⟨[.ref z],[]⟩) Q E s:=by
 obtain⟨hp,g,d,tk,os⟩:=s;show wpAny _ _ (field (.ref z) 2 >>= _) _ _ _;apply az (wpAny_field hz rfl (x:=.bool false) rfl ?_);show wpAny _ _ (field (.ref z) 3 >>= _) _ _ _;apply az (wpAny_field hz rfl (x:=.ref TI) rfl ?_);apply az (wpAny_seqItems cP rfl ?_);show wpAny _ _ (Builtin.SmallTypes.ownedTupleIsFree (.ref z) >>= _) _ _ _;apply az (UE hz hT fun ha l4 dJ=>?_);replace dJ:Heap.SameBut z hp ha:=dJ;have g1:S1 k1 ha:=D1.frame _ _ _ h1 fun c hc o q=>dJ.extBut _ _ (fun e=>D.Bg (e▸hc)) q;have g2:S2 k2 ha:=D2.frame _ _ _ h2 fun c hc o q=>dJ.extBut _ _ (fun e=>D.Bf (e▸hc)) q;simp only[Bool.false_eq_true,if_false,<-Array.forIn_toList,List.forIn_cons,List.forIn_nil];apply az (az (az (wpAny_holding ?_)));show wpAny _ _ (Builtin.SmallTypes.nextOf (.ref i1) >>= _) _ _ _;rcases mF with rfl|⟨gO,rfl⟩
 ·exact az (D1.done _ _ _ g1 fun hb e fg he=>hE hb tk e (fun c o c1 _ c3 _ q=>fg _ _ c3 (dJ.extBut _ _ c1 q)) he)
 ·apply az (D1.item k1 _ _ _ gO g1 fun x hb tb px Be fg=>aZ ?_);replace fg:Heap.SameBut i1 ha hb:=fg;have N8:S2 k2 hb:=D2.frame _ _ _ g2 fun c hm o q=>fg.extBut _ _ (fun e=>D.Fz (e▸hm)) q;apply aZ ?_;apply az (az (wpAny_holding ?_));show wpAny _ _ (Builtin.SmallTypes.nextOf (.ref i2) >>= _) _ _ _;exact az (D2.done _ _ _ N8 fun hc e fM he=>hE hc tb e (fun c o c1 _ c3 c4 q=>fM _ _ c4 (fg.extBut _ _ c3 (dJ.extBut _ _ c1 q))) he)
end
section
variable {prog:Program}{w:World}{A:Around}{E:ah->aw->Prop}{s:aw}{z TI TO T i1 i2:ae}{d8 d7:List ae}{n1 n2:Nat}{P1 P2:Nat->ah->Prop}{S1 S2:Nat->Heap->Prop}{k:Nat}
def jc (z TI TO i1 i2:ae)(S1 S2:Nat->Heap->Prop)(k:Nat)(h:Heap):Prop:=IsPair h TI (.ref i1) (.ref i2)/\S1 k h/\S2 k h/\((k=0/\IsZip h z TI TO .none/\∃a b,IsPair h TO a b)\/∃T b,wJ h z TI TO T b/\(∃o,h.get? T=some o)/\T≠z/\T≠i1/\T≠i2/\T≠TO)
def jc.type {k:Nat}(h:jc z TI TO i1 i2 S1 S2 k s.heap):s.TypeIs (.ref z) "zip":=by
 rcases h.2.2.2 with⟨_,q,_⟩|⟨_,_,q,_⟩
 ·exact⟨_,q,rfl⟩
 ·exact⟨_,q,rfl⟩
def jc.fS {k:Nat}{h h':Heap}(D1:Draws prog w A i1 d8 n1 P1 S1)(D2:Draws prog w A i2 d7 n2 P2 S2)(x:jc z TI TO i1 i2 S1 S2 k h)(q:∀c o,h.get? c=some o->h'.get? c=some o):jc z TI TO i1 i2 S1 S2 k h':=by
 obtain⟨h1,h2,h3,h4⟩:=x;apply⟨q _ _ h1,D1.frame _ _ _ h2 fun c _ o e=>q c o e,D2.frame _ _ _ h3 fun c _ o e=>q c o e,?_⟩;rcases h4 with⟨e,y1,a,b,y2⟩|⟨T,b,y1,⟨o,y2⟩,y3⟩
 ·exact .inl ⟨e,q _ _ y1,a,b,q _ _ y2⟩
 ·exact .inr ⟨T,b,q _ _ y1,⟨o,q _ _ y2⟩,y3⟩
def aal {Q:Option ah->aw->Prop}(D:ZA z TI TO i1 i2 d8 d7)(D1:Draws prog w A.in1 i1 d8 n1 P1 S1)(D2:Draws prog w A.in1 i2 d7 n2 P2 S2)(fL:jc z TI TO i1 i2 S1 S2 k s.heap)(gO:k<n1)(jQ:k<n2)(br:i1<s.heap.objs.size/\i2<s.heap.objs.size/\TO<s.heap.objs.size)(hQ:∀x y h' tk,P1 k x->P2 k y->jc z TI TO i1 i2 S1 S2 (k+1) h'->IsPair h' s.heap.objs.size x y->h'.objs.size=s.heap.objs.size+1->(∀c o,c≠z->c≠TO->c≠i1->c≠i2->s.heap.get? c=some o->h'.get? c=some o)->Q (some (.ref s.heap.objs.size)) {s with heap:=h',toks:=tk}):wpAny (model prog w) A (pyNext (.ref z)) Q E s:=by
 have hT:=fL.type;obtain⟨cP,h1,h2,h4⟩:=fL;have dZ:z<s.heap.objs.size:=by obtain⟨o,ho,_⟩:=hT;exact bW ho
 have ne:s.heap.objs.size≠z/\s.heap.objs.size≠i1/\s.heap.objs.size≠i2/\s.heap.objs.size≠TO:=⟨Nat.ne_of_gt dZ,Nat.ne_of_gt br.1,Nat.ne_of_gt br.2.1,Nat.ne_of_gt br.2.2⟩;unfold pyNext;rcases h4 with⟨e,hz,a,b,du⟩|⟨T,b,hz,o9,nz,XB,XA,Xy⟩
 ·apply az (wpAny_attempt (wpAny_callSpecial?_slot (name:=Str.ofString "__next__") hT F.slot_zip_next (wpAny_call_entry F.slot_zip_next hT F.entry_zip_next
   (SJ D D1 D2 hz cP du h1 h2 gO jQ fun x y h' tk a1 a2 a3 a4 a5 a6 a7 a8 a9=>aZ (hQ x y h' tk a1 a2 ⟨a9 _ _ D.TIz D.TITO D.TIi1 D.TIi2 cP,a5,a6,.inr ⟨_,false,a3,⟨_,a7⟩,ne⟩⟩ a7 a8 a9)) (F.args_zip_next_1 _))))
 ·apply az (wpAny_attempt (wpAny_callSpecial?_slot (name:=Str.ofString "__next__") hT F.slot_zip_next (wpAny_call_entry F.slot_zip_next hT F.entry_zip_next
   (abR D D1 D2 hz o9 cP h1 h2 gO jQ fun x y h' tk a1 a2 a3 a5 a6 a7 a8 a9=>aZ (hQ x y h' tk a1 a2 ⟨a9 _ _ D.TIz D.TITO D.TIi1 D.TIi2 cP,a5,a6,.inr ⟨T,true,a3,?_,nz,XB,XA,Xy⟩⟩ a7 a8 a9)) (F.args_zip_next_1 _))))
  obtain⟨o,ho⟩:=o9;exact⟨o,a9 _ _ nz Xy XB XA ho⟩
def aaF {Q:Option ah->aw->Prop}(D:ZA z TI TO i1 i2 d8 d7)(D1:Draws prog w A.in1 i1 d8 n1 P1 S1)(D2:Draws prog w A.in1 i2 d7 n2 P2 S2)(fL:jc z TI TO i1 i2 S1 S2 k s.heap)(mF:k=n1\/(k<n1/\k=n2))(hQ:∀h' tk,(∀c o,c≠z->c≠TO->c≠i1->c≠i2->s.heap.get? c=some o->h'.get? c=some o)->Q none {s with heap:=h',toks:=tk}):wpAny (model prog w) A (pyNext (.ref z)) Q E s:=by
 have hT:=fL.type;obtain⟨cP,h1,h2,h4⟩:=fL;rcases h4 with⟨e,hz,a,b,du⟩|⟨T,b,hz,o9,_⟩
 ·exact QJ D D1 D2 hz cP du h1 h2 mF hQ
 ·unfold pyNext;apply az (wpAny_attempt (wpAny_callSpecial?_slot (name:=Str.ofString "__next__") hT F.slot_zip_next
   (wpAny_call_entry F.slot_zip_next hT F.entry_zip_next (ac1 D D1 D2 hz o9 cP h1 h2 mF fun h' tk e hk he=>?_) (F.args_zip_next_1 _))))
  obtain⟨o,ho,hc⟩:=he;apply az (wpAny_isInstance (T:="StopIteration") (b:=true) ⟨o,ho,hc⟩ isSubtype_stop ?_);exact aZ (hQ _ _ hk)
end
def C6 {prog:Program}{w:World}{A:Around}(hh:A.handled=none)(it:ae)(x:Str)(t:Tok):Draws prog w A it [it] x.cps.size (fun i v=>∃c u,x.cps[i]?=some c/\v= .str ⟨#[c]⟩ u) (fun i h=>h.IsStrIter it (strIterType x) x t i):=by
 unfold strIterType;split
 ·exact Draws.strAscii hh it x t
 ·exact Draws.strWide hh it x t
def Xa (x y:Str):It :=
 ⟨fun i _=>i<x.cps.size/\i<y.cps.size,
  fun i H v H'=>∃T c d,v= .ref T/\H T=none/\H'=ay H T (.bp [.str ⟨#[c]⟩,.str ⟨#[d]⟩])/\x.cps[i]?=some c/\y.cps[i]?=some d,
  fun i _=>x.cps.size<=i\/y.cps.size<=i⟩
def CV {h h':Heap}{a:ae}{ty:String}{x:Str}{t:Tok}{i:Nat}(y:h.IsStrIter a ty x t i)(k:∀o,h.get? a=some o->h'.get? a=some o):h'.IsStrIter a ty x t i:=let ⟨o,ho,r⟩:=y;⟨o,k o ho,r⟩
def ab0 {P:Program}{w:World}{K:aI}{kI:List Expr}{kk:Nat}{jm:Pos}{x y:Str}{t u:Tok}{z TI TO i1 i2:ae}(D:ZA z TI TO i1 i2 [i1] [i2]):l0 P w K (.Tuple kI kk jm) (Xa x y) [z,TI,TO,i1,i2] z (fun i h=>i<=x.cps.size/\i<=y.cps.size/\IsZip h z TI TO .none/\IsPair h TI (.ref i1) (.ref i2)/\(∃a b,IsPair h TO a b)/\h.IsStrIter i1 (strIterType x) x t i/\h.IsStrIter i2 (strIterType y) y u i) where
 mem:=by simp
 obj:=fun i h st c hc=>by
  obtain⟨_,_,hz,cP,⟨a,b,du⟩,⟨o1,e1,_,d1⟩,⟨o2,e2,_,d2⟩⟩:=st;have e':c=z\/c=TI\/c=TO\/c=i1\/c=i2:=by simpa using hc
  rcases e' with q|q|q|q|q
  ·rw[q];exact⟨_,hz,fun v q=>nomatch q⟩
  ·rw[q];exact⟨_,cP,fun v q=>nomatch q⟩
  ·rw[q];exact⟨_,du,fun v q=>nomatch q⟩
  ·rw[q];exact⟨o1,e1,fun v q=>by rw[d1]at q;cases q⟩
  ·rw[q];exact⟨o2,e2,fun v q=>by rw[d2]at q;cases q⟩
 keep:=fun i h h' st k=>by obtain⟨l1,l2,hz,cP,⟨a,b,du⟩,h1,h2⟩:=st;exact⟨l1,l2,k z (by simp) _ hz,k TI (by simp) _ cP,⟨a,b,k TO (by simp) _ du⟩,CV h1 fun o q=>k i1 (by simp) o q,CV h2 fun o q=>k i2 (by simp) o q⟩
 item:=by
  intro X hP hw hK hc i af s σ H E I hf st hg;subst hP hw hK;obtain⟨l1,l2,hz,cP,⟨x0,y0,du⟩,h1,h2⟩:=st;have hh:X.A.in1.handled=none:=I.ok.hd hc;have dZ:z<s.heap.objs.size:=bW hz;apply Zw D (C6 hh i1 x t) (C6 hh i2 y u) hz cP du h1 h2 hg.1 hg.2 fun vx vy h' tk px py z' Oo N6 xX hT hsz hk=>?_;obtain⟨c,tc,ec,rfl⟩:=px;obtain⟨d,td,ed,rfl⟩:=py;apply Z10 _ rfl (wpAny_letOwnedTupleGo_zip (s:={s with heap:=h',toks:=tk}) z' fun kh MS sb=>?_);have qt:kh.get? s.heap.objs.size=some {cls:=.type "tuple",data:=.seq #[.str ⟨#[c]⟩ tc,.str ⟨#[d]⟩ td]}:=(sb.2 _ (Nat.ne_of_gt dZ)).trans hT;have new:eK X.prog X.w (ay H s.heap.objs.size (.bp [.str ⟨#[c]⟩,.str ⟨#[d]⟩])) kh s.heap.objs.size (.bp [.str ⟨#[c]⟩,.str ⟨#[d]⟩]) :=
   ⟨by show 2<=sizeLine;decide,[.str ⟨#[c]⟩ tc,.str ⟨#[d]⟩ td],.cons ⟨_,rfl⟩ (.cons ⟨_,rfl⟩ .nil),Z47 _ qt rfl _ rfl⟩
  have I1:au X af σ (ay H s.heap.objs.size (.bp [.str ⟨#[c]⟩,.str ⟨#[d]⟩])) {s with heap:=kh,toks:=tk} :=
   I.zh (t':=tk) (ch:=[z,TI,TO,i1,i2]) (fun c o hb q=>(sb.2 c (fun q'=>hb (by simp[q']))).trans (hk c o (fun q'=>hb (by simp[q'])) (fun q'=>hb (by simp[q'])) (fun q'=>hb (by simp[q'])) (fun q'=>hb (by simp[q'])) q)) hf (bo _) new
  apply Z22 (.ref s.heap.objs.size) _ I1 rfl (Z13 _ c d rfl (I.aH.fresh (bo _)) rfl ec ed) ⟨hg.1,hg.2,MS,?_,⟨.str ⟨#[c]⟩ tc,.str ⟨#[d]⟩ td,?_⟩,?_,?_⟩ (fun c n8=>?_)
  ·exact(sb.2 _ D.TIz).trans (hk _ _ D.TIz D.TITO D.TIi1 D.TIi2 cP)
  ·exact(sb.2 _ D.TOz).trans Oo
  ·exact CV N6 fun o q=>(sb.2 _ D.i1z).trans q
  ·exact CV xX fun o q=>(sb.2 _ D.i2z).trans q
  ·have br:c<s.heap.objs.size:=by
    have e':c=z\/c=TI\/c=TO\/c=i1\/c=i2:=by simpa using n8
    rcases e' with q|q|q|q|q
    ·rw[q];exact dZ
    ·rw[q];exact bW cP
    ·rw[q];exact bW du
    ·rw[q];obtain⟨_,e1,_⟩:=h1;exact bW e1
    ·rw[q];obtain⟨_,e2,_⟩:=h2;exact bW e2
   rw[aq (d9 br)];exact(hf c n8).1
 done:=by
  intro X hP hw hK hc i af s σ H E I hf st hg;subst hP hw hK;obtain⟨l1,l2,hz,cP,⟨x0,y0,du⟩,h1,h2⟩:=st;have hh:X.A.in1.handled=none:=I.ok.hd hc;have mF:i=x.cps.size\/(i<x.cps.size/\i=y.cps.size):=by
   rcases hg with q|q
   ·left;omega
   ·by_cases hx:i=x.cps.size
    ·exact .inl hx
    ·right;omega
  exact QJ D (C6 hh i1 x t) (C6 hh i2 y u) hz cP du h1 h2 mF fun h' tk hk=>⟨rfl,I.KS (t':=tk) (ch:=[z,TI,TO,i1,i2]) (fun c o hb q =>hk c o (fun q'=>hb (by simp[q'])) (fun q'=>hb (by simp[q'])) (fun q'=>hb (by simp[q'])) (fun q'=>hb (by simp[q'])) q) hf⟩
 k9:=fun A i s Q E st h=>wpAny_pyIter_zip st.2.2.1 h
def aho (ta:TA):TI:=fun σ H R=>ta σ H fun vs H1=>∃x y,vs=[.str x,.str y]/\R (Xa x y) H1
def agU (I:Nat):ZA (I+4) (I+2) (I+3) I (I+1) [I] [I+1]:=by constructor<;>first|(simp;done)|(apply W.neN ?_;omega)|(simp;omega)|omega
def aeX {X:Cx}{e e2:Expr}{ta:TA}{p pos jm:Pos}{kI:List Expr}{kk:Nat}(hg:Gl X "zip")(hm:X.mg "zip"=none)(ha:PA X [e,e2] ta)(hs:starEach [e,e2] X.env=(false,eval e X.env)::starEach [e2] X.env:=by rfl)(cR:(backTo pos (starEach [e2] X.env)).any (·.1)=false:=by rfl):PI X (.Tuple kI kk jm) (.Call (.Name "zip" p) [e,e2] [] pos) (aho ta):=by
 intro af s σ H R I h;apply Call_ (oA I hg hm Kg (PyProof.Rows.callWith_type1 (aS (ha pos af s σ H _ I h) fun us s1=>?_) hs cR));rintro⟨vs,H1,I1,r1,q1⟩;obtain⟨x,y,ex,q⟩:=q1;subst ex;cases r1 with
 | cons r rr =>
  cases rr with
  | cons r' rr =>
   cases rr;obtain⟨t,rfl⟩:=r;obtain⟨u,rfl⟩:=r';apply Z1 fun h' hz cP du h1 h2 hsz hk=>wpAny_pyIter_zip hz ?_;have I2:au X af σ H1 {s1 with heap:=h'}:=I1.fI (t':=s1.toks) hk;apply Z40 (s1.heap.objs.size+4) [s1.heap.objs.size+4,s1.heap.objs.size+2,s1.heap.objs.size+3,s1.heap.objs.size,s1.heap.objs.size+1] _ _ H1 rfl I2 (ab0 (agU s1.heap.objs.size)) ⟨bA _,bA _,hz,cP,⟨_,_,du⟩,h1,h2⟩ (fun c n8=>?_) q;have e':c=s1.heap.objs.size+4\/c=s1.heap.objs.size+2\/c=s1.heap.objs.size+3\/c=s1.heap.objs.size\/c=s1.heap.objs.size+1:=by simpa using n8
   have gz:s1.heap.objs.size<=c:=by
    rcases e' with z|z|z|z|z
    ·rw[z];exact Nat.le_add_right _ _
    ·rw[z];exact Nat.le_add_right _ _
    ·rw[z];exact Nat.le_add_right _ _
    ·rw[z];exact bo _
    ·rw[z];exact Nat.le_add_right _ _
   exact I1.oR gz (I1.aH.fresh gz)
def Xc (K:aI)(a:ae)(xs:List V):It :=
 ⟨fun i H=>cS K H a xs/\i<xs.length,fun i H v H'=>∃T x,v= .ref T/\H T=none/\H'=ay H T (.bp [.int (i:Nat),x])/\xs[i]?=some x,fun i H=>cS K H a xs/\xs.length<=i⟩
def aa2 {P:Program}{w:World}{K:aI}{kI:List Expr}{kk:Nat}{jm:Pos}(a e it:ae)(xs:List V)(hae:a≠e)(Ys:a≠it):l0 P w K (.Tuple kI kk jm) (Xc K a xs) [e,it] e (fun i h=>i<=xs.length/\(∃old,IsEnum h e it ((i:Nat):Int) old)/\h.IsTupleIter it a i/\e≠it) where
 mem:=by simp
 obj:=fun i h st b hb=>by
  obtain⟨_,⟨old,he⟩,⟨o,ho,hc,hd⟩,_⟩:=st;have e':b=e\/b=it:=by simpa using hb
  rcases e' with z|z
  ·rw[z];exact⟨_,he,fun v q=>nomatch q⟩
  ·rw[z];exact⟨o,ho,fun v q=>by rw[hd]at q;cases q⟩
 keep:=fun i h h' st k=>let ⟨gz,⟨old,he⟩,hi,bJ⟩:=st;⟨gz,⟨old,k e (by simp) _ he⟩,KU hi fun o q=>k it (by simp) o q,bJ⟩
 item:=by
  intro X hP hw hK hc i af s σ H E I hf st hg;subst hP hw hK;obtain⟨gz,⟨old,he⟩,cb,bJ⟩:=st;obtain⟨hq,AY⟩:=hg;have hx:xs[i]?=some xs[i]:=cB AY;generalize xs[i]=x at hx;obtain⟨its,rv,p,hz⟩:=I.tuple hq;obtain⟨u,hu,ru⟩:=rv.get hx;have A4:e<s.heap.objs.size:=bW he;have jR:it<s.heap.objs.size:=by obtain⟨_,q,_⟩:=cb;exact bW q
  have hh:X.A.in1.handled=none:=I.ok.hd hc;have br:i<its.toArray.size:=by have:=(fD.mp hu).1;simpa using this
  have vw:s.heap.IsTuple a its.toArray:=p;apply wpAny_pyNext_enum_itemD (n:=its.toArray.size) (Sy hh it a Ys its.toArray) he ⟨cb,vw⟩ br bJ (by simp;exact⟨bJ,fun q=>hae q.symm⟩) fun v h' tk pv ho Mn hT hsz hk=>?_;have ev:v=u:=by
   have:its.toArray[i]?=some v:=pv;have h2:its.toArray[i]?=some u:=by simpa using hu
   rw[h2]at this;exact(d3 this).symm
  subst ev;have jQ:∀b o,b≠e->b≠it->s.heap.get? b=some o->h'.get? b=some o:=hk;apply Z10 _ rfl (wpAny_letOwnedTupleGo_enum (s:={s with heap:=h',toks:=tk+1}) ho fun kh NM sb=>?_);have qt:kh.get? s.heap.objs.size=some {cls:=.type "tuple",data:=.seq #[.int i tk,v]}:=(sb.2 _ (Nat.ne_of_gt A4)).trans hT;have new:eK X.prog X.w (ay H s.heap.objs.size (.bp [.int (i:Nat),x])) kh s.heap.objs.size (.bp [.int (i:Nat),x]) :=
   ⟨by show 2<=sizeLine;decide,[.int i tk,v],.cons ⟨_,rfl⟩ (.cons ru .nil),Z47 _ qt rfl _ rfl⟩
  have I1:au X af σ (ay H s.heap.objs.size (.bp [.int (i:Nat),x])) {s with heap:=kh,toks:=tk+1} :=
   I.zh (ch:=[e,it]) (fun b ob hb q=>(sb.2 b (fun z=>hb (by simp[z]))).trans (jQ b ob (fun z=>hb (by simp[z])) (fun z=>hb (by simp[z])) q)) hf (bo _) new
  apply Z22 (.ref s.heap.objs.size) _ I1 rfl (Z26 _ x rfl (I.aH.fresh (bo _)) rfl hx) ⟨AY,⟨v,?_⟩,KU Mn.1 fun o q=>(sb.2 it (Ne.symm bJ)).trans q,bJ⟩ (fun b hb=>?_)
  ·have e1:((i+1:Nat):Int)=(i:Int)+1:=by omega
   rw[e1];exact NM
  ·have A7:b<s.heap.objs.size:=by
    have e':b=e\/b=it:=by simpa using hb
    rcases e' with z|z
    ·rw[z];exact A4
    ·rw[z];exact jR
   rw[aq (d9 A7)];exact(hf b hb).1
 done:=by
  intro X hP hw hK hc i af s σ H E I hf st hg;subst hP hw hK;obtain⟨gz,⟨old,he⟩,cb,bJ⟩:=st;obtain⟨hq,hx⟩:=hg;obtain⟨its,rv,p,hz⟩:=I.tuple hq;obtain⟨f0,f1,f2,f3,f4,f5⟩:=hf it (by simp);have hh:X.A.in1.handled=none:=I.ok.hd hc;have hl:=rv.length;have hi:i=its.toArray.size:=by simp;omega
  have vw:s.heap.IsTuple a its.toArray:=p;exact wpAny_pyNext_enum_endD (Sy hh it a Ys its.toArray) he ⟨hi▸cb,vw⟩ fun h' eb=>⟨rfl,I.iU (t':=s.toks) (fun b o hb q=>eb b o hb q) f0 f1 f3 f4 f5⟩
 k9:=fun A i s Q E st h=>let ⟨_,⟨_,he⟩,_⟩:=st;wpAny_pyIter_enum he h
def agD (K:aI)(ta:TA):TI:=fun σ H R=>ta σ H fun vs H1=>∃a xs,vs=[.ref a]/\cS K H1 a xs/\R (Xc K a xs) H1
def UA {X:Cx}{e:Expr}{ta:TA}{p pos jm:Pos}{kI:List Expr}{kk:Nat}(hg:Gl X "enumerate")(hm:X.mg "enumerate"=none)(ha:PA X [e] ta)(hs:starEach [e] X.env=[(false,eval e X.env)]:=by rfl):PI X (.Tuple kI kk jm) (.Call (.Name "enumerate" p) [e] [] pos) (agD X.K ta):=by
 intro af s σ H R I h;apply Call_ (oA I hg hm boot_enumerate (PyProof.Rows.callWith_type1 (aS (ha pos af s σ H _ I h) fun us s1=>?_) hs rfl));rintro⟨vs,H1,I1,r1,q1⟩;obtain⟨a,xs,ex,hq,q⟩:=q1;subst ex;cases r1 with
 | cons r rr =>
  cases rr;cases r;obtain⟨its,rv,p',hz⟩:=I1.tuple hq;have vw:s1.heap.IsTuple a its.toArray:=p';have o9:a<s1.heap.objs.size:=by obtain⟨_,ho,_⟩:=p';exact bW ho
  apply Y7 vw fun h' he cb hsz hk=>wpAny_pyIter_enum he ?_;have I2:au X af σ H1 {s1 with heap:=h'}:=I1.fI (t':=s1.toks) hk;apply Z40 (s1.heap.objs.size+1) [s1.heap.objs.size+1,s1.heap.objs.size] _ _ H1 rfl I2 (aa2 a (s1.heap.objs.size+1) s1.heap.objs.size xs (d9 (Nat.lt_succ_of_lt o9)) (d9 o9)) ⟨bA _,⟨.none,he⟩,cb,Nat.succ_ne_self _⟩ (fun b hb=>?_) q;have e':b=s1.heap.objs.size+1\/b=s1.heap.objs.size:=by simpa using hb
  have gz:s1.heap.objs.size<=b:=by
   rcases e' with z|z
   ·rw[z];exact Nat.le_add_right _ _
   ·rw[z];exact bo _
  exact I1.oR gz (I1.aH.fresh gz)
def aeR (K:aI):V->List V->Hp->VK->Prop:=fun x xs H Q=>∃(a:ae)(ys:List V)(y:V)(j:Nat)(z:V),x=V.ref a/\xs=[y]/\cS K H a ys/\qc y=true/\ys.all qc=true/\ys[j]?=some z/\og z y=true /\
 (∀(m:Nat)(z':V),m<j->ys[m]?=some z'->og z' y=false)/\Q (.int (j:Nat)) H
def Tr {X:Cx}:qz X "tuple.index" (aeR X.K):=by
 intro af s σ H x xs v us Q I rx rxs h;obtain⟨a,ys,y,j,z,rfl,rfl,hs,fy,N9,hz,hzj,gf,q⟩:=h;cases rx;cases rxs with
 | cons ry rt =>
  rename_i uy ut
  cases rt;obtain⟨its,rv,⟨⟨cls,dd,data,sl⟩,ho,hc,n,hd⟩,bN⟩:=I.tuple hs;simp only at hc hd;subst hc hd;obtain⟨u,hu,ru⟩:=rv.get hz;obtain⟨hjl,hje⟩:=fD.mp hu;have hvl:=rv.length;have hj:j<its.toArray.size:=by simpa using hjl
  apply call_meets PySem.F.slot_tuple_index ⟨_,ho,rfl⟩ PySem.F.entry_tuple_index (PySem.F.args_tuple_index_2 _ _)
   (ZE a its.toArray n dd sl uy (Oc y) j hj ?_ ?_) ⟨ho,fun u' hu'=>UJ ry fy rv N9 u' (by simpa using hu'),?_⟩
  ·have e1:its.toArray[j]=u:=by simpa using hje
   rw[e1,LH ru (Vy N9 hz)];exact hzj
  ·intro m hm hmj;have X7:m<its.length:=by simpa using hm
   have hmy:m<ys.length:=by omega
   have xC:ys[m]?=some ys[m]:=cB hmy;obtain⟨u2,AN,MW⟩:=rv.get xC;obtain⟨_,hme⟩:=fD.mp AN;have e1:its.toArray[m]=u2:=by simpa using hme
   rw[e1,LH MW (Vy N9 xC)];exact gf m _ hmj xC
  ·exact⟨.int j,H,I.dY _,⟨_,rfl⟩,q⟩
def ad7 {X:Cx}{af:List (ae×Obj)}{σ:St}{H:Hp}{s:aw}{a:ae}{ai:List (aP×V)}{k:aP}{d:V}{u r:ah}{A:Around}{E:ah->aw->Prop}{Q:ah->aw->Prop}(I:au X af σ H s)(e:H a=some (.dK ai))(ry:bF (kV k) u)(rd:bF d r)(br:ai.length<sizeLine)(h1:∀v,dk ai k=some v->∀w' s',au X af σ H s'->bF v w'->Q w' s')(h2:dk ai k=none->∀s',au X af σ (ay H a (.dK (ff ai k d))) s'->Q r s'):wpAny (model X.prog X.w) A (call (.builtin "dict.setdefault") [.ref a,u,r]) Q E s:=by
 obtain⟨z,hd,vs,rel,dd⟩:=Wj I.aH e;have hz:vs.length<=sizeLine:=by rw[<-rel.length];exact z
 have hl:(ff ai k d).length<=sizeLine:=by have:=qH ai k d;omega
 apply call_meetsIn PySem.F.slot_dict_setdefault dd.typeIs PySem.F.entry_dict_setdefault (PySem.F.args_dict_setdefault_3 _ _ _) (kt_meets_setdefault (gC X.prog X.w) a (rH ry) hd r) (Z28 vs dd hz (fun v hv=>?_) (fun hn h' vH hs=>?_))
 ·have rv:=rel.val k;rw[hv]at rv;cases q:dk ai k with
  | none=>rw[q]at rv;exact rv.elim
  | some v0 =>rw[q]at rv;exact h1 v0 q v _ (I.dY _) rv
 ·have rv:=rel.val k;rw[hn]at rv;have q:dk ai k=none:=by
   cases q:dk ai k with
   | none=>rfl
   | some v0=>rw[q]at rv;exact rv.elim
  have he:∃q,h'.get? a=some q:=let ⟨q,_,_,hq,_⟩:=vH;⟨q,hq⟩;exact h2 q _ (Lj I (by rw[e];exact True.intro) hs he (VU hl hd (rel.va k rd) vH))
def adf (td ty tx:TE):TE:=fun σ H Q=>td σ H fun x H1=>∃a,x= .ref a/\Ox H1 a/\ty σ H1 fun y H2=>tx σ H2 fun z H3=>∃ai k,H3 a=some (.dK ai)/\y=kV k/\ai.length<sizeLine /\
 (∀v,dk ai k=some v->Q v H3)/\(dk ai k=none->Q z (ay H3 a (.dK (ff ai k z))))
def abl {X:Cx}{o e f:Expr}{fK ir:Pos}{td ty tx:TE}(ho:PE X o td)(he:PE X e ty)(hf:PE X f tx)(m:M2 X o "setdefault" fK e f ir):PE X (.Call (.Attribute o "setdefault" fK) [e,f] [] ir) (adf td ty tx):=by
 intro af s σ H Q I h;apply wpAny_Call_method m.base m.i9 m.line PySem.F.plainAttrs_dict PySem.F.slot_dict_setdefault PySem.F.type_dict_setdefault (aS (ho af s σ H _ I h) fun u s1=>?_);rintro⟨x,H1,I1,rx,a,ex,d,q1⟩;subst ex;obtain rfl:u=Value.ref a:=rx;obtain⟨t1,t2,_⟩:=VS I1 d;apply⟨t1,t2,?_⟩;rw[m.V1];apply Calls.callWith_builtin rfl (Calls.evalArgs_plain (Calls.spliced_cons (aS (he af s1 σ H1 _ I1 q1) fun iv s2 ⟨y,H2,I2,ry,q2⟩ =>Calls.spliced_cons (aS (hf af s2 σ H2 _ I2 q2) fun fv s3 ⟨z,H3,I3,rz,ai,k,ea,ey,br,qa,qb⟩=>Calls.spliced_nil ?_))))
 subst ey;exact ad7 I3 ea ry rz br (fun v hv w' s4 I4 j8=>⟨v,H3,I4,j8,qa v hv⟩) fun hn s4 I4=>⟨z,_,I4,rz,qb hn⟩
def aaU:typeLookup (.type "zip") "__len__"=pure none:=by rw[typeLookup_type,builtinLookup_eq_fast];kernel_rfl
def aap:typeLookup (.type "zip") "__length_hint__"=pure none:=by rw[typeLookup_type,builtinLookup_eq_fast];kernel_rfl
def zL (H:Hp)(xs ys:List V)(ts:List ae)(k:Nat):Prop:=Paired (fun t j=>∃x y,xs[j]?=some x/\ys[j]?=some y/\H t=some (.bp [x,y])) ts (List.range k)
theorem RG {α β:Type}{F:α->β->Prop}{a:α}{b:β}:∀{l:List α}{m:List β},Paired F l m->F a b->Paired F (l++[a]) (m++[b])
 | _,_,.nil,h=>.cons h .nil
 | _,_,.cons r t,h=>.cons r (RG t h)
theorem QF {α β:Type}{F:α->β->Prop}:∀{l:List α}{m:List β},Paired F l m->l.length=m.length
 | _,_,.nil=>rfl
 | _,_,.cons _ t=>by rw[dQ,dQ,QF t]
section
variable {prog:Program}{w:World}{A:Around}{z TI TO i1 i2 S:ae}{d8 d7:List ae}{n1 n2:Nat}{P1 P2:Nat->ah->Prop}{S1 S2:Nat->Heap->Prop}
def jc.YZ {k:Nat}{h h':Heap}(D1:Draws prog w A i1 d8 n1 P1 S1)(D2:Draws prog w A i2 d7 n2 P2 S2)(x:jc z TI TO i1 i2 S1 S2 k h)(h1:S∉d8)(h2:S∉d7)(cP:S≠TI)(hz:S≠z)(du:S≠TO)(q:∀c o,c≠S->h.get? c=some o->h'.get? c=some o)(hs:∃o,h'.get? S=some o):jc z TI TO i1 i2 S1 S2 k h':=by
 obtain⟨g1,g2,g3,g4⟩:=x;apply⟨q _ _ cP.symm g1,D1.frame _ _ _ g2 fun c hc o e=>q c o (fun y=>h1 (y▸hc)) e,D2.frame _ _ _ g3 fun c hc o e=>q c o (fun y=>h2 (y▸hc)) e,?_⟩;rcases g4 with⟨e,y1,a,b,y2⟩|⟨T,b,y1,⟨o,y2⟩,y3⟩
 ·exact .inl ⟨e,q _ _ hz.symm y1,a,b,q _ _ du.symm y2⟩
 ·apply .inr ⟨T,b,q _ _ hz.symm y1,?_,y3⟩;by_cases e:T=S
  ·rw[e];exact hs
  ·exact⟨o,q _ _ e y2⟩
end
section
variable {X:Cx}{af:List (ae×Obj)}{σ:St}{A:Around}{R:Result->aw->Prop}{z TI TO i1 i2 S:ae}{d8 d7:List ae}{n n2:Nat}{S1 S2:Nat->Heap->Prop}{xs ys:List V}{its ip:List ah}
def afw (D:ZA z TI TO i1 i2 d8 d7)(D1:Draws X.prog X.w A.in1.in1 i1 d8 n (fun i v=>its.toArray[i]?=some v) S1)(D2:Draws X.prog X.w A.in1.in1 i2 d7 n2 (fun i v=>ip.toArray[i]?=some v) S2)(o4:n<=n2)(hn:n<=sizeLine)(r1:be xs its)(r2:be ys ip)(hx:n<=xs.length)(hy:n<=ys.length)(xU:S∉d8)(hS2:S∉d7)(ai9:S≠TI)(res:ah):∀(m k:Nat)(s:aw)(H:Hp)(ts:List ae),n-k=m->k<=n->au X af σ H s->(∀c∈[z,TO,i1,i2],lr X af H c)->TO<s.heap.objs.size->jc z TI TO i1 i2 S1 S2 k s.heap->H S=some (.ak (ts.map V.ref))->zL H xs ys ts k->(∀s' H' xn,au X af σ H' s'->(∀b o,H b=some o->b≠S->H' b=some o)->H' S=some (.ak (xn.map V.ref))->zL H' xs ys xn n->R (.ok (.ret res)) s')->codeAny (model X.prog X.w) A (.builtin "list.extend.loop" ⟨[.ref S,.ref z,res],[]⟩) R s:=by
 intro m
 induction m with
 | zero =>
  intro k s H ts hk kQ I hf br fL hH hP hR;have e:k=n:=by omega
  subst e;apply codeAny_builtin F.entry_extend_loop ?_;rw[Around.under_plainId F.plain_extend_loop _];show wpAny _ A.in1 (pyNext (.ref z) >>= _) _ _ s;apply az (aaF D D1 D2 fL (.inl rfl) fun h' tk jx=>?_);exact aZ (hR _ H ts (I.KS (t':=tk) (ch:=[z,TO,i1,i2]) (fun c o hb q=>jx c o (fun y=>hb (by simp[y])) (fun y=>hb (by simp[y])) (fun y=>hb (by simp[y])) (fun y=>hb (by simp[y])) q) hf) (fun b o h _=>h) hH hP)
 | succ m ih =>
  intro k s H ts hk kQ I hf br fL hH hP hR;have cG:k<n:=by omega
  have nS:∀c,c∈[z,TO,i1,i2]->S≠c:=fun c hc y=>by have:=(hf c hc).1;rw[<-y,hH]at this;cases this
  apply codeAny_builtin F.entry_extend_loop ?_;rw[Around.under_plainId F.plain_extend_loop _];show wpAny _ A.in1 (pyNext (.ref z) >>= _) _ _ s;have l1:i1<s.heap.objs.size:=let ⟨_,q⟩:=D1.live _ _ fL.2.1;bW q;have l2:i2<s.heap.objs.size:=let ⟨_,q⟩:=D2.live _ _ fL.2.2.1;bW q;have dZ:z<s.heap.objs.size:=by obtain⟨o,ho,_⟩:=fL.type;exact bW ho
  apply az (aal D D1 D2 fL cG ⋯ ⟨l1,l2,br⟩ fun u v h' tk pu pv Mn hT hsz jx=>?_);obtain⟨x,XS⟩:∃x,xs[k]?=some x:=⟨_,cB ⋯⟩;obtain⟨y,XO⟩:∃y,ys[k]?=some y:=⟨_,cB ⋯⟩;obtain⟨u',hu,ru⟩:=r1.get XS;obtain⟨v',hv,rv⟩:=r2.get XO;have eu:u'=u:=by
   have:its[k]?=some u:=by simpa using pu
   rw[this]at hu;exact(d3 hu).symm
  have ev:v'=v:=by
   have:ip[k]?=some v:=by simpa using pv
   rw[this]at hv;exact(d3 hv).symm
  subst eu ev;have ke:H s.heap.objs.size=none:=I.aH.fresh (bo _);have new:eK X.prog X.w (ay H s.heap.objs.size (.bp [x,y])) h' s.heap.objs.size (.bp [x,y]):=⟨by show 2<=sizeLine;decide,[u',v'],.cons ru (.cons rv .nil),Z47 _ hT rfl _ rfl⟩;have I1:au X af σ (ay H s.heap.objs.size (.bp [x,y])) {s with heap:=h',toks:=tk} :=
   I.zh (t':=tk) (ch:=[z,TO,i1,i2]) (fun c o hb q=>jx c o (fun y=>hb (by simp[y])) (fun y=>hb (by simp[y])) (fun y=>hb (by simp[y])) (fun y=>hb (by simp[y])) q) hf (bo _) new
  have Xz:S≠s.heap.objs.size:=aQ hH ke;have kU:(ay H s.heap.objs.size (.bp [x,y])) S=some (.ak (ts.map V.ref)):=by rw[aq Xz];exact hH
  obtain⟨_,XG,nc,rS,hlS,eS⟩:=I1.nM kU;have l5:ts.length=k:=by have:=QF hP;rw[qB]at this;exact this
  have jR:XG.length=k:=by rw[<-hlS,aL,l5]
  have I2:=I1.uD (its':=XG++[.ref s.heap.objs.size]) (ys:=ts.map V.ref++[V.ref s.heap.objs.size]) (t':=tk) kU eS (f:=(·.push (.ref s.heap.objs.size))) (by simp) (rS.append (.cons (show bF (V.ref s.heap.objs.size) (Value.ref s.heap.objs.size)from rfl) .nil)) (by rw[cq,aL,l5,List.length_singleton];omega);show wpAny _ A.in1 (updateSeq S (·.push (.ref s.heap.objs.size)) >>= _) _ _ _;apply az ?_;apply wpAny_updateSeq eS rfl (aZ ⟨plainId_quiet F.plain_extend_loop _,ih (k+1) _ _ (ts++[s.heap.objs.size]) ⋯ cG I2 (fun c hc=>?_) ?_ ?_ ?_ ?_ ?_⟩) ?_ ?_
  ·have gQ:c<s.heap.objs.size:=by
    have e':c=z\/c=TO\/c=i1\/c=i2:=by simpa using hc
    rcases e' with q|q|q|q
    ·rw[q];exact dZ
    ·rw[q];exact br
    ·rw[q];exact l1
    ·rw[q];exact l2
   have h0:=hf c hc;exact⟨by rw[aq (nS c hc).symm,aq (d9 gQ)];exact h0.1,h0.2⟩
  ·show TO<(h'.update S _).objs.size;rw[Heap.size_update,hsz];exact Nat.lt_succ_of_lt br
  ·apply jc.YZ D1 D2 Mn xU hS2 ai9 (nS z (by simp)) (nS TO (by simp)) (fun c o hc e=>(qD _ _ (Ne.symm hc)).trans e) ⟨_,Heap.get?_update_self _ eS rfl⟩
  ·rw[aC,cV];rfl
  ·unfold zL;rw[vK];apply RG (Paired.dc hP fun t j ⟨x,y,h1,h2,h3⟩=>Z14 x y h1 h2 ?_) (Z14 x y XS XO ?_)
   ·rw[aq (aJ h3 hH (by intro q;cases q)),aq (aQ h3 ke)];exact h3
   ·rw[aq Xz.symm,aC]
  ·intro s' H' xn I' oW N1 iN;apply hR s' H' xn I' (fun b o h hb=>oW b o ?_ hb) N1 iN;rw[aq hb,aq (aQ h ke)];exact h
  ·simp;omega
  ·simp;omega
end
section
variable {X:Cx}{af:List (ae×Obj)}{σ:St}{H:Hp}{s:aw}{z TI TO i1 i2:ae}{d8 d7:List ae}{n n2:Nat}{S1 S2:Nat->Heap->Prop}{xs ys:List V}{its ip:List ah}
def Z2 {Q:VK}(D:ZA z TI TO i1 i2 d8 d7)(D1:Draws X.prog X.w X.A.in1.in1.in1 i1 d8 n (fun i v=>its.toArray[i]?=some v) S1)(D2:Draws X.prog X.w X.A.in1.in1.in1 i2 d7 n2 (fun i v=>ip.toArray[i]?=some v) S2)
  (o4:n<=n2) (hn:n<=sizeLine) (r1:be xs its) (r2:be ys ip) (hx:n<=xs.length) (hy:n<=ys.length) (gY:∀c∈d8,c<s.heap.objs.size) (l7:∀c∈d7,c<s.heap.objs.size) (cP:TI<s.heap.objs.size) (du:TO<s.heap.objs.size)
  (I:au X af σ H s) (hf:∀c∈[z,TO,i1,i2],lr X af H c) (fL:jc z TI TO i1 i2 S1 S2 0 s.heap) (hz:IsZip s.heap z TI TO .none)
  (hQ:∀H' l ts,aj H H'->H l=none->H' l=some (.ak (ts.map V.ref))->zL H' xs ys ts n->Q (.ref l) H') :
  wpAny (model X.prog X.w) X.A (call (.type "list") [.ref z]) (EP X af σ Q) X.xe s:=by
 have dZ:z<s.heap.objs.size:=bW hz;have Fn:H s.heap.objs.size=none:=I.aH.fresh (bo _);have I0:au X af σ (ay H s.heap.objs.size (.ak [])) {s with heap:=s.heap.push {cls:=.type "list",data:=.seq #[]}}:=I.Mg (its:=[]) (ys:=[]) (t':=s.toks) .nil (bA _);have EH:s.heap.objs.size≠z:=Nat.ne_of_gt dZ;have WD:s.heap.objs.size≠TO:=Nat.ne_of_gt du;have Mf:s.heap.objs.size≠TI:=Nat.ne_of_gt cP;have M6:s.heap.objs.size∉d8:=fun h=>Nat.lt_irrefl _ (gY _ h);have M5:s.heap.objs.size∉d7:=fun h=>Nat.lt_irrefl _ (l7 _ h);generalize NY:s.heap.objs.size=S at Fn I0 EH WD Mf M6 M5;apply callType_codes (Q₁:=fun obj cf=>obj= .ref S/\cf={s with heap:=s.heap.push {cls:=.type "list",data:=.seq #[]}}) F.called_list (F.typeCall_list_1 _) F.entry_list_init
  (code_list_new _ ⟨by rw[NY],rfl⟩) fun obj cf xf=>?_
 obtain⟨rfl,rfl⟩:=xf;have hS:(s.heap.push {cls:=.type "list",data:=.seq #[]}).get? S=some {cls:=.type "list",data:=.seq #[]}:=by rw[<-NY];exact eG _ rfl
 apply⟨⟨_,hS,rfl⟩,F.args_list_init_2 _ _,?_⟩;have st0:jc z TI TO i1 i2 S1 S2 0 (s.heap.push {cls:=.type "list",data:=.seq #[]}):=fL.fS D1 D2 fun c o e=>cM _ e;have hz0:IsZip (s.heap.push {cls:=.type "list",data:=.seq #[]}) z TI TO .none:=cM _ hz;have sz0:TO<(s.heap.push {cls:=.type "list",data:=.seq #[]}).objs.size:=by rw[Heap.size_push];exact Nat.lt_succ_of_lt du
 show wpAny _ X.A.in1.in1 (do let old<-Builtin.List.listItems (.ref S);Builtin.List.listUpdate (.ref S) (fun _=> #[]);letGo old.toList.reverse;Builtin.List.listExtendWith (.ref S) (.ref z) .none) _ _ _;apply az ?_;unfold Builtin.List.listItems;apply az (wpAny_seqItems hS rfl (aZ ?_));show wpAny _ X.A.in1.in1 (updateSeq S (fun _=> #[]) >>= fun _=>letGo (#[]:Array ah).toList.reverse >>= fun _=>Builtin.List.listExtendWith (.ref S) (.ref z) .none) _ _ _;apply az (wpAny_updateSeq hS rfl ?_);have Ia:=I0.uD (its:=[]) (its':=[]) (ys:=[]) (t':=s.toks) (f:=fun _=> #[]) aC hS rfl .nil (bA _);have hSa:=Heap.get?_update_self (Obj.mapSeq (fun _=>(#[]:Array ah))) hS rfl;have zb:∀(h1:Heap)(f:Obj->Obj)(o:Obj),jc z TI TO i1 i2 S1 S2 0 h1->(h1.update S f).get? S=some o->jc z TI TO i1 i2 S1 S2 0 (h1.update S f):=fun h1 f o st ho =>jc.YZ D1 D2 st M6 M5 Mf EH WD (fun c o hc e=>(qD _ _ (Ne.symm hc)).trans e) ⟨o,ho⟩
 have Et:=zb _ _ _ st0 hSa;have l4:IsZip ((s.heap.push {cls:=.type "list",data:=.seq #[]}).update S (Obj.mapSeq (fun _=>(#[]:Array ah)))) z TI TO .none:=(qD _ _ EH).trans hz0;apply az (wpAny_letGo ?_);unfold Builtin.List.listExtendWith;have hT:∀sx:aw,jc z TI TO i1 i2 S1 S2 0 sx.heap->sx.TypeIs (.ref z) "zip":=fun sx h=>h.type;apply az (wpAny_typeOf (hT _ Et) ?_);have e1:Builtin.List.listSameRef (.ref S) (.ref z)=false:=by simp[Builtin.List.listSameRef,EH]
 have e2:(Value.type "zip"==Value.type "list")=false:=by decide
 have e3:(Value.type "zip"==Value.type "tuple")=false:=by decide
 simp only[e1,e2,e3,Bool.or_false,Bool.false_eq_true,if_false];apply az (wpAny_pyIter_zip l4 ?_);apply az (wpAny_holding ?_);unfold Builtin.List.listLengthHint;apply az (wpAny_specialOf (hT _ Et) aaU ?_);show wpAny _ X.A.in1.in1 (specialOf (Value.ref z) (Str.ofString "__length_hint__") >>= _) _ _ _;apply az (wpAny_specialOf (hT _ Et) aap ?_);apply aZ ?_;show wpAny _ X.A.in1.in1 (rule "list.extend.makes-room" >>= fun _=>Builtin.List.listTouch (.ref S) >>= fun _ =>again (.builtin "list.extend.loop" ⟨[.ref S,.ref z,.none],[]⟩)) _ _ _
 apply az (wpAny_rule ?_);apply az ?_;show wpAny _ X.A.in1.in1 (updateSeq S (·.push .none) >>= fun _=>updateSeq S (·.pop)) _ _ _;obtain⟨_,itA,ncA,rA,hlA,eA⟩:=Ia.nM aC;have eiA:itA=[]:=List.eq_nil_of_length_eq_zero hlA.symm;subst eiA;apply az (wpAny_updateSeq eA rfl ?_);have Ib:=Ia.uD (its:=[]) (its':=[.none]) (ys:=[.bx]) (t':=s.toks) (f:=(·.push Value.none)) aC eA rfl (.cons (show bF .bx Value.none from rfl) .nil) (by decide);obtain⟨_,XH,ncB,rB,hlB,eB⟩:=Ib.nM aC;obtain⟨vB,eiB⟩:∃v,XH=[v]:=by
  match XH,hlB with
  | [v],_=>exact⟨v,rfl⟩
 subst eiB;have stb:=zb _ _ _ Et eB;apply wpAny_updateSeq (hz:=by show 1<=sizeLine;decide) eB rfl ?_ (by show 0<=sizeLine+1;exact bA _);have Ic:=Ib.uD (its:=[vB]) (its':=[]) (ys:=[]) (t':=s.toks) (f:=(·.pop)) aC eB (by simp) .nil (bA _);obtain⟨_,itC,ncC,rC,hlC,eC⟩:=Ic.nM aC;have stc:=zb _ _ _ stb eC;have szc:TO<((((s.heap.push {cls:=.type "list",data:=.seq #[]}).update S (Obj.mapSeq (fun _=>(#[]:Array ah)))).update S (Obj.mapSeq (·.push Value.none))).update S (Obj.mapSeq (·.pop))).objs.size:=by rw[Heap.size_update,Heap.size_update,Heap.size_update];exact sz0
 have i5:∀b o,H b=some o->(ay (ay (ay (ay H S (.ak [])) S (.ak [])) S (.ak [.bx])) S (.ak [])) b=some o:=fun b o h=>by have nb:b≠S:=aQ h Fn;rw[aq nb,aq nb,aq nb,aq nb];exact h
 apply aZ ⟨plainId_quiet F.plain_extend_loop _,afw (A:=X.A.in1) (S:=S) D D1 D2 o4 hn r1 r2 hx hy M6 M5 Mf .none n 0 _ _ [] rfl (bA _) Ic (fun c hc=>?_) ?_ stc aC .nil fun s' H' xn I' oW N1 iN=>?_⟩
 ·have h0:=hf c hc;have nc:c≠S:=fun e=>by
   have gQ:c<s.heap.objs.size:=by
    have e':c=z\/c=TO\/c=i1\/c=i2:=by simpa using hc
    rcases e' with q|q|q|q
    ·rw[q];exact dZ
    ·rw[q];exact du
    ·rw[q];obtain⟨_,h⟩:=D1.live _ _ fL.2.1;exact bW h
    ·rw[q];obtain⟨_,h⟩:=D2.live _ _ fL.2.2.1;exact bW h
   rw[e,NY]at gQ;exact Nat.lt_irrefl _ gQ
  exact⟨by rw[aq nc,aq nc,aq nc,aq nc];exact h0.1,h0.2⟩
 ·exact szc
 ·exact⟨rfl,.ref S,H',I',rfl,hQ H' S xn (fun b o h=>oW b o (i5 b o h) (aQ h Fn)) Fn N1 iN⟩
end
def ade (K:aI)(ta:TA):TE:=fun σ H Q=>ta σ H fun vs H1=>∃a b xs ys,vs=[.ref a,.ref b]/\aA K H1 a xs/\aA K H1 b ys/\xs.length<=ys.length /\
 ∀H' l ts,aj H1 H'->H1 l=none->H' l=some (.ak (ts.map V.ref))->zL H' xs ys ts xs.length->Q (.ref l) H'
def adP {c a b:Nat}(h1:c≠a)(h2:c≠b):(c:ae)∉([a,b]:List ae):=fun h=>by
 rcases dv.mp h with e|h
 ·exact h1 e
 ·rcases dv.mp h with e|h
  ·exact h2 e
  ·cases h
def afQ (I a b:Nat)(ha:a<I)(hb:b<I):ZA (I+4) (I+2) (I+3) I (I+1) [I,a] [I+1,b]:=by constructor<;>first|(apply W.neN ?_;omega)|(exact adP ⋯ ⋯)
def abk {X:Cx}{e e2:Expr}{ta:TA}{p p2 pos wZ:Pos}(hc:X.gM=true)(A3:Gl X "list")(X7:X.mg "list"=none)(hgz:Gl X "zip")(hmz:X.mg "zip"=none)(ha:PA X [e,e2] ta)(XZ:starEach [.Call (.Name "zip" p2) [e,e2] [] wZ] X.env=[(false,eval (.Call (.Name "zip" p2) [e,e2] [] wZ) X.env)]:=by rfl)(hs:starEach [e,e2] X.env=(false,eval e X.env)::starEach [e2] X.env:=by rfl)(cR:(backTo wZ (starEach [e2] X.env)).any (·.1)=false:=by rfl):PE X (.Call (.Name "list" p) [.Call (.Name "zip" p2) [e,e2] [] wZ] [] pos) (ade X.K ta):=by
 intro af s σ H Q I h;apply wpAny_Call_Name_kw (oA (u:=.type "list") I A3 X7 (by decide+kernel) ?_);apply PyProof.Rows.callWith_type1 ?_ XZ rfl;rw[XZ];show wpAny _ _ (spliced ((false,eval (.Call (.Name "zip" p2) [e,e2] [] wZ) X.env)::backTo pos (starEach [] X.env))) _ _ s;apply Calls.spliced_cons ?_;apply Call_ (oA I hgz hmz Kg (PyProof.Rows.callWith_type1 (aS (ha wZ af s σ H _ I h) fun us s1=>?_) hs cR));rintro⟨vs,H1,I1,r1,q1⟩;obtain⟨a,b,xs,ys,ex,sL,sJ,bN,q⟩:=q1;subst ex;cases r1 with
 | cons r rr =>
  cases rr with
  | cons r' rr =>
   cases rr;cases r;cases r';obtain⟨its,rv,p1,XN⟩:=I1.list sL;obtain⟨ip,uY,p2,_⟩:=I1.list sJ;have la:a<s1.heap.objs.size:=p1.lt;have lb:b<s1.heap.objs.size:=p2.lt;apply call_zip_2 p1.isList p2.isList fun h' hz cP du h1 h2 hsz hk=>Calls.spliced_nil ?_;have I2:au X af σ H1 {s1 with heap:=h'}:=I1.fI (t':=s1.toks) hk;have hh:X.A.in1.in1.in1.handled=none:=I1.ok.hd hc;have l1:=rv.length;have l2:=uY.length;apply Z2 (n:=its.toArray.size) (n2:=ip.toArray.size) (afQ s1.heap.objs.size a b la lb) (Draws.list hh s1.heap.objs.size a (d9 la) its.toArray) (Draws.list hh (s1.heap.objs.size+1) b (d9 (Nat.lt_succ_of_lt lb)) ip.toArray)
    (by simp;omega) (by simp;omega) rv uY (by simp;omega) (by simp;omega) (fun c hc=>?_) (fun c hc=>?_) (by show _<h'.objs.size;rw[hsz];exact Nat.add_lt_add_left (by decide) _) (by show _<h'.objs.size;rw[hsz];exact Nat.add_lt_add_left (by decide) _) I2 (fun c n8=>?_) ⟨cP,⟨h1,p1.isList.at fun o e=>hk _ _ e⟩,⟨h2,p2.isList.at fun o e=>hk _ _ e⟩,.inl ⟨rfl,hz,_,_,du⟩⟩ hz (fun H' l ts s2 hl NG hP=>q H' l ts s2 hl NG (by
     have e:its.toArray.size=xs.length:=by simp;omega
     rw[e]at hP;exact hP))
   ·show c<h'.objs.size;rw[hsz];have e':c=s1.heap.objs.size\/c=a:=by simpa using hc
    rcases e' with z|z
    ·rw[z];exact Nat.lt_add_of_pos_right (by decide)
    ·rw[z];exact fi la (Nat.le_add_right _ _)
   ·show c<h'.objs.size;rw[hsz];have e':c=s1.heap.objs.size+1\/c=b:=by simpa using hc
    rcases e' with z|z
    ·rw[z];exact Nat.add_lt_add_left (by decide) _
    ·rw[z];exact fi lb (Nat.le_add_right _ _)
   ·have e':c=s1.heap.objs.size+4\/c=s1.heap.objs.size+3\/c=s1.heap.objs.size\/c=s1.heap.objs.size+1:=by simpa using n8
    have gz:s1.heap.objs.size<=c:=by
     rcases e' with z|z|z|z
     ·rw[z];exact Nat.le_add_right _ _
     ·rw[z];exact Nat.le_add_right _ _
     ·rw[z];exact bo _
     ·rw[z];exact Nat.le_add_right _ _
    exact I1.oR gz (I1.aH.fresh gz)
def wH {J:It}{g:TG}{tt:TT}{te:TE}{vs:List Nat}{σ:St}{H1:Hp}{D:ae}{Qd:Hp->Prop}(n:Nat)(Pv:Nat->Hp->Prop)(h0:Pv 0 (ay H1 D (.ak [])))(gZ:∀i H,i<n->Pv i H->J.go i H)(z7:∀H,Pv n H->J.ek n H)(hs:∀i x H H',i<n->Pv i H->J.lx i H x H'->g x (dX σ vs) H' fun b4 H2=>dX b4 vs=dX σ vs/\tt b4 H2 fun b H3=>if b=true then te b4 H3 fun y H4=>∃acc,H4 D=some (.ak acc)/\acc.length<sizeLine/\Pv (i+1) (ay H4 D (.ak (acc++[y])))else Pv (i+1) H3)(hd:∀H,Pv n H->Qd H):∃W:Nat->Nat->Hp->Prop,(∃m,W 0 m (ay H1 D (.ak [])))/\∀i m H,W i m H->(J.ek i H/\Qd H)\/(J.go i H/\∃Nx:Hp->Prop,(∀H',Nx H'->∃m',m'<m/\W (i+1) m' H')/\∀x H',J.lx i H x H'->g x (dX σ vs) H' fun b4 H2=>dX b4 vs=dX σ vs/\tt b4 H2 fun b H3=>if b=true then te b4 H3 fun y H4=>∃acc,H4 D=some (.ak acc)/\acc.length<sizeLine/\Nx (ay H4 D (.ak (acc++[y])))else Nx H3):=by
 apply Z10 (fun i m H=>m=n-i/\i<=n/\Pv i H) ⟨n,by simp,bA _,h0⟩ ?_;rintro i m H ⟨rfl,hi,p⟩;by_cases br:i<n
 ·exact .inr (Z25 (gZ i H br p) (Pv (i+1)) (fun H' p'=>⟨n-(i+1),by omega,rfl,br,p'⟩) (fun x H' y=>hs i x H H' br p y))
 ·have e:i=n:=by omega
  subst e;exact .inl ⟨z7 H p,hd H p⟩
def uc {J:It}{g:TG}{tb:TS}{D:gc}{σ:St}{H:Hp}(n:Nat)(Pv:Nat->St->Hp->Prop)(h0:Pv 0 σ H)(gZ:∀i σ H,i<n->Pv i σ H->J.go i H)(z7:∀σ H,Pv n σ H->J.ek n H)(hs:∀i x σ H H',i<n->Pv i σ H->J.lx i H x H'->g x σ H' fun b4 H2=>tb {D with nx:=Pv (i+1),ct:=Pv (i+1),bk:=D.nx} b4 H2)(hd:∀σ H,Pv n σ H->D.nx σ H):∃W:Nat->Nat->St->Hp->Prop,(∃m,W 0 m σ H)/\∀i m σ H,W i m σ H->(J.ek i H/\D.nx σ H)\/(J.go i H/\∃N:St->Hp->Prop,(∀aK H',N aK H'->∃m',m'<m/\W (i+1) m' aK H')/\∀x H',J.lx i H x H'->g x σ H' fun b4 H2=>tb {D with nx:=N,ct:=N,bk:=D.nx} b4 H2):=by
 apply⟨fun i m σ H=>m=n-i/\i<=n/\Pv i σ H,⟨n,by simp,bA _,h0⟩,?_⟩;rintro i m σ H ⟨rfl,hi,p⟩;by_cases br:i<n
 ·exact .inr ⟨gZ i σ H br p,Pv (i+1),fun aK H' p'=>⟨n-(i+1),by omega,rfl,br,p'⟩,fun x H' y=>hs i x σ H H' br p y⟩
 ·have e:i=n:=by omega
  subst e;exact .inl ⟨z7 σ H p,hd σ H p⟩
def acp {c:TT}{tb b7:TS}{D:gc}{σ:St}{H:Hp}(W:Nat->St->Hp->Prop)(Ex:St->Hp->Prop)(m0:Nat)(h0:W m0 σ H)(hs:∀(X:St->Hp->Prop),(∀σ H,Ex σ H->X σ H)->∀m σ H,W m σ H->c σ H fun b H1=>if b=true then∃N:St->Hp->Prop,(∀aK H',N aK H'->∃m',m'<m/\W m' aK H')/\tb {nx:=N,rt:=D.rt,bk:=X,ct:=N} σ H1 else X σ H1)(hx:∀σ H,Ex σ H->b7 D σ H):nL (Lo c tb) b7 D σ H:=⟨W,⟨m0,h0⟩,fun m σ H hW=>hs _ hx m σ H hW⟩
def v9 {c:TT}{tb b7:TS}{D:gc}{σ:St}{H:Hp}(W G:Nat->St->Hp->Prop)(Ex:St->Hp->Prop)(m0:Nat)(h0:W m0 σ H)(ht:∀(X Y:St->Hp->Prop)m σ H,W m σ H->(∀σ H,Ex σ H->X σ H)->(∀σ H,G m σ H->Y σ H)->c σ H fun b H1=>if b=true then Y σ H1 else X σ H1)(hb:∀m σ H,G m σ H->tb {nx:=fun aK H'=>∃m',m'<m/\W m' aK H',rt:=D.rt,bk:=b7 D,ct:=fun aK H'=>∃m',m'<m/\W m' aK H'} σ H)(hx:∀σ H,Ex σ H->b7 D σ H):nL (Lo c tb) b7 D σ H :=
 ⟨W,⟨m0,h0⟩,fun m σ H hW=>ht (b7 D) (fun σ H1=>∃N:St->Hp->Prop,(∀aK H',N aK H'->∃m',m'<m/\W m' aK H')/\tb {D with nx:=N,ct:=N,bk:=b7 D} σ H1) m σ H hW hx fun σ H hG=>⟨_,fun _ _ q=>q,hb m σ H hG⟩⟩
def dj {t b7:TS}{D:gc}{σ:St}{H:Hp}(Ex:St->Hp->Prop)(h:∀X:St->Hp->Prop,(∀σ H,Ex σ H->X σ H)->t {D with nx:=X} σ H)(hx:∀σ H,Ex σ H->b7 D σ H):nL t b7 D σ H:=h (b7 D) hx
def DY {A N:Hp->Prop}{σ:St}{H:Hp}(h:A H):DZ σ H fun b H3=>if b=true then A H3 else N H3:=by show if true=true then A H else N H;rw[aE rfl];exact h
def Vl {X:Cx}(K:aI){e:Expr}{f:Str}{pos:Pos}{ta:TE}(he:PE X e ta)(hb:attributeBase e f X.env (eval e X.env)=eval e X.env:=by rfl)(hK:X.K=K:=by rfl):PE X (.Attribute e f pos) (Wp K ta f):=hK▸aX he hb
theorem kj {α:Type}:∀{l:List α}{i:Nat}{x:α},l[i]?=some x->l.take (i+1)=l.take i++[x]
 | [],i,x,h=>by simp at h
 | a::l,0,x,h=>by have e:a=x:=d3 h;subst e;rfl
 | a::l,i+1,x,h=>by have ih:=kj (l:=l) (i:=i) (x:=x) h;show a::l.take (i+1)=a::l.take i++[x];rw[ih];rfl
def aj.new {H1:Hp}{D:ae}{o:HO}(h:H1 D=none):aj H1 (ay H1 D o):=fun b u e=>by rw[aq (aQ e h)];exact e
def aj.i0 {H1 H:Hp}{D:ae}{o:HO}(s:aj H1 H)(h:H1 D=none):aj H1 (ay H D o):=fun b u e=>by rw[aq (aQ e h)];exact s b u e
def k8 {J:It}{g:TG}{te:TE}{vs:List Nat}{σ:St}{H1:Hp}{D:ae}{Qd:Hp->Prop}(ys:List V)(hn:ys.length<=sizeLine)(hD:H1 D=none)(gZ:∀i H,i<ys.length->aj H1 H->J.go i H)(z7:∀H,aj H1 H->J.ek ys.length H)(hs:∀i x y H H'(Kt:VK),ys[i]?=some y->aj H1 H->H D=some (.ak (ys.take i))->J.lx i H x H'->(∀H4,aj H H4->Kt y H4)->g x (dX σ vs) H' fun b4 H2=>dX b4 vs=dX σ vs/\te b4 H2 Kt)(hd:∀H,aj H1 H->H D=some (.ak ys)->Qd H):∃W:Nat->Nat->Hp->Prop,(∃m,W 0 m (ay H1 D (.ak [])))/\∀i m H,W i m H->(J.ek i H/\Qd H)\/(J.go i H/\∃Nx:Hp->Prop,(∀H',Nx H'->∃m',m'<m/\W (i+1) m' H')/\∀x H',J.lx i H x H'->g x (dX σ vs) H' fun b4 H2=>dX b4 vs=dX σ vs/\DZ b4 H2 fun b H3=>if b=true then te b4 H3 fun y H4=>∃acc,H4 D=some (.ak acc)/\acc.length<sizeLine/\Nx (ay H4 D (.ak (acc++[y])))else Nx H3):=by
 apply wH ys.length (fun i H=>aj H1 H/\H D=some (.ak (ys.take i))) ⟨aj.new hD,aC⟩ (fun i H hi p=>gZ i H hi p.1) (fun H p=>z7 H p.1) (fun i x H H' hi p hy=>?_) fun H p=>hd H p.1 (by rw[p.2,ni]);have e:=cB hi;apply hs i x _ H H' _ e p.1 p.2 hy fun H4 q4=>Z28 (ys.take i) (q4 D _ p.2) ?_ ((p.1.trans q4).i0 hD) ?_
 ·rw[gH];exact fi (jd (Nat.min_le_left _ _) hi) hn
 ·rw[aC,<-kj e]
end L2
namespace L2
open PySem PySem.Spec PyProof.Rows
def dB.ww {j k:Nat}{A:Around}(r:dB k A)(h:j<=k:=by decide):dB j A:=r.gv h
def bL {N Q:List Str}{sc:Scope}(a:sc.kind= .function:=by rfl)(b:sc.isCoroutine=false:=by rfl)(c:sc.isGenerator=false:=by rfl)(d:N.Nodup:=by decide+kernel)(e:N.take Q.length=Q:=by rfl)(f:∀x∈Q,sc.names.lookup x=some .local\/sc.names.lookup x=some .cell:=by decide+kernel)(g:∀y∈sc.names,y.2≠ .free:=by decide+kernel):bD N Q sc:=⟨a,b,c,d,e,f,g⟩
def M7 {n:Nat}(h:n<=3000000):n<sizeLine:=jd h (by decide)
def nV {n:Nat}(h:n<=3000000):n<=sizeLine:=b3 h (by decide)
def _root_.Olr {α:Type}{a:α}{b:Prop}:a=a\/b:=.inl rfl
def _root_.Orr {α:Type}{a:α}{b:Prop}:b\/a=a:=.inr rfl
def eY:1<=sizeLine:=by decide
def wY:2<=sizeLine:=by decide
def Mb:3<=sizeLine:=by decide
end L2
namespace Ad
open PySem PySem.Spec PyProof.Rows L2
variable {P:Program}{w:World}{K:aI}{mg:Str->Option ah}{base:Heap}
def nP (K:aI)(a:ae)(xs:List V):Prop:=∃(o:Obj)(its:Array ah)(n:Nat),K.lookup a=some o/\o.cls= .type "tuple"/\o.dict=none/\o.data= .seq its n/\its.size<=sizeLine/\be xs its.toList
def nP.sq {K:aI}{a:ae}{xs:List V}(t:nP K a xs)(H:Hp):cS K H a xs:=let ⟨o,its,n,h1,h2,_,h3⟩:=t;.inr (Z19 o its n h1 h2 h3)
def nP.ty {K:aI}{a:ae}{xs:List V}(t:nP K a xs):∃o,K.lookup a=some o/\o.cls= .type "tuple"/\o.dict=none:=let ⟨o,_,_,h1,h2,h3,_⟩:=t;⟨o,h1,h2,h3⟩
def Ay:V->ah->Bool
 | .bx,.none=>true
 | .bl b,.bool c=>b==c
 | .int i,.int j _=>i==j
 | .str x,.str y _=>x==y
 | .ref a,.ref b=>a==b
 | _,_=>false
def U6 {v:V}{u:ah}(h:Ay v u=true):bF v u:=by cases v<;>cases u<;>simp[Ay]at h<;>first|(subst h;simp[L2.bF])|simp[L2.bF]
def wA:List V->List ah->Bool
 | [],[]=>true
 | v::vs,u::us=>Ay v u&&wA vs us
 | _,_=>false
theorem R8:∀{vs:List V}{us:List ah},wA vs us=true->be vs us
 | [],[],_=>.nil
 | v::vs,u::us,h=>by simp only[wA,dw]at h;exact .cons (U6 h.1) (R8 h.2)
 | [],_::_,h=>by simp[wA]at h
 | _::_,[],h=>by simp[wA]at h
def Dv (xs:List V)(its:Array ah):Bool:=decide (its.size<=1000)&&wA xs its.toList
def U7 {K:aI}{a:ae}{xs:List V}{its:Array ah}{n:Nat}{sl:Array (Option ah)}(l:K.lookup a=some ⟨.type "tuple",none,.seq its n,sl⟩)(h:Dv xs its=true):nP K a xs:=by unfold Dv at h;rw[dw,eE]at h;exact Z27 _ its n l rfl rfl rfl (Nat.le_of_lt (S4 h.1)) (R8 h.2)
section
variable {K:aI}{mg:Str->Option ah}{h:Heap}{x:Str}{C:ae}
def r8 (K:aI)(x:Str)(xs:List V):Prop:=∃a its n sl,W.nsIn K mainGlobals x=some (some (.ref a))/\K.lookup a=some ⟨.type "tuple",none,.seq its n,sl⟩/\Dv xs its=true
def W7 (K:aI)(mg:Str->Option ah)(x:Str)(xs:List V):Prop:=∃a:ae,mg x=some (.ref a)/\nP K a xs
def r8.to {xs:List V}(X:K.In h)(G:h.Ns mainGlobals mg)(t:r8 K x xs):W7 K mg x xs:=by obtain⟨a,its,n,sl,h1,h2,h3⟩:=t;exact⟨a,Oz X G h1,U7 h2 h3⟩
def uu (K:aI):List ah->List (List V)->Prop
 | [],[]=>True
 | u::us,r::rs=>(∃a,u= .ref a/\∃its n sl,K.lookup a=some ⟨.type "tuple",none,.seq its n,sl⟩/\Dv r its=true)/\uu K us rs
 | _,_=>False
def wU (K:aI)(x:Str)(rows:List (List V)):Prop:=∃a its n sl,W.nsIn K mainGlobals x=some (some (.ref a))/\K.lookup a=some ⟨.type "tuple",none,.seq its n,sl⟩/\decide (its.size<=1000)=true/\uu K its.toList rows
def wR (K:aI)(mg:Str->Option ah)(x:Str)(rows:List (List V)):Prop:=∃(a:ae)(as:List ae),mg x=some (.ref a)/\nP K a (as.map V.ref)/\Paired (nP K) as rows
theorem uu.to:∀{us:List ah}{rs:List (List V)},uu K us rs->∃as:List ae,be (as.map V.ref) us/\Paired (nP K) as rs
 | [],[],_=>⟨[],.nil,.nil⟩
 | u::us,r::rs,h=>by obtain⟨⟨a,rfl,its,n,sl,h1,h2⟩,h3⟩:=h;obtain⟨as,p1,p2⟩:=uu.to h3;exact⟨a::as,.cons rfl p1,.cons (U7 h1 h2) p2⟩
 | [],_::_,h=>by simp[uu]at h
 | _::_,[],h=>by simp[uu]at h
def wU.to {rows:List (List V)}(X:K.In h)(G:h.Ns mainGlobals mg)(t:wU K x rows):wR K mg x rows:=by obtain⟨a,its,n,sl,h1,h2,h3,h4⟩:=t;obtain⟨as,p1,p2⟩:=h4.to;exact⟨a,as,Oz X G h1,Z27 _ its n h2 rfl rfl rfl (Nat.le_of_lt (S4 (of_decide_eq_true h3))) p1,p2⟩
def ajh {v:V}(X:K.In h)(G:h.Ns mainGlobals mg)(t:∃u,W.nsIn K mainGlobals x=some (some u)/\Ay v u=true):∃u:ah,mg x=some u/\bF v u:=by obtain⟨u,h1,h2⟩:=t;exact⟨u,Oz X G h1,U6 h2⟩
def KY (es:Array DictEntry):Bool:=es.toList.all fun e=>match e.key with
 | .str _ _=>true
 | _=>false
def aa4 {es:Array DictEntry}(h:KY es=true):StrKeys es:=by
 intro e he;unfold KY at h;have:=List.all_eq_true.mp h e (Array.mem_toList_iff.mpr he);split at this
 ·rename_i x t q
  exact⟨x,t,q⟩
 ·cases this
def xl (K:aI)(C:ae):Prop:=∃nm q N bs sn de ab col dd k0 k1 k2 k3 k5 cN dN es ep sl,K.lookup C=some (DW nm q C N bs sn de ab col dd k0 k1 k2 k3 k5)/\K.lookup N=some ⟨cN,dN,.dict es ep,sl⟩/\KY es=true/\nsFind es "__setattr__"=none /\
 W.keepIn K (.ref C)=true/\W.findIn K (.ref C) "__setattr__"=some (some (.builtin "object.__setattr__"))/\W.findIn K (.ref C) "__getattribute__"=some (some (.builtin "BaseException.__getattribute__"))/\W.findIn K (.ref C) "__getattr__"=some none
def xl.xc (x:xl K C):gE K C:=by obtain⟨nm,q,N,bs,sn,de,ab,col,dd,k0,k1,k2,k3,k5,cN,dN,es,ep,sl,h1,h2,h3,h4,h5,_⟩:=x;exact⟨Z54 nm q N bs sn de ab (Z73 col dd k0 k1 k2 k3 k5 cN dN es ep sl ⟨h1,h2,aa4 h3,h4⟩),h5⟩
def xl.xa (x:xl K C):L7 K C:=by obtain⟨nm,q,N,bs,sn,de,ab,col,dd,k0,k1,k2,k3,k5,cN,dN,es,ep,sl,h1,h2,h3,h4,h5,h6,h7,h8⟩:=x;exact⟨h6,h7,h8⟩
end
def bK (i:Nat):Stmt:=PySem.Challenge.pw_landrules_s01_answers.main.body.getD i (.Pass ⟨0,0,0,0⟩)
abbrev Q5:Stmt:=ej (bK 9) 0
abbrev Cu:Stmt:=bK 15
abbrev Ih:Stmt:=bK 16
abbrev JR:Stmt:=bK 17
abbrev Td:Stmt:=bK 31
abbrev Jo:Stmt:=bK 32
abbrev Q1:Stmt:=bK 33
abbrev Sd:Stmt:=bK 34
abbrev Pw:Stmt:=bK 35
abbrev HN:Stmt:=bK 36
abbrev QD:Stmt:=ej (bK 38) 0
abbrev O9:Stmt:=ej (bK 38) 1
abbrev QC:Stmt:=ej (bK 38) 2
abbrev PB:Stmt:=ej (bK 38) 3
abbrev P8:Stmt:=ej (bK 38) 4
abbrev O8:Stmt:=ej (bK 38) 5
abbrev OU:Stmt:=ej (bK 38) 6
abbrev OK:Stmt:=ej (bK 38) 7
abbrev FU:Stmt:=ej (bK 38) 8
abbrev RE:Stmt:=ej (bK 49) 0
abbrev RF:Stmt:=ej (bK 50) 0
abbrev OA:Stmt:=ej (bK 50) 1
abbrev F2:Stmt:=ej (bK 50) 2
abbrev Hr:Stmt:=ej (bK 50) 3
abbrev Q4:Stmt:=ej (bK 51) 0
abbrev O7:Stmt:=ej (bK 51) 1
abbrev Pz:Stmt:=ej (bK 51) 2
abbrev OS:Stmt:=ej (bK 51) 3
abbrev QX:Stmt:=bK 64
abbrev Ry:Stmt:=bK 65
abbrev Pu:Stmt:=bK 66
abbrev RA:Stmt:=bK 67
abbrev Tc:Stmt:=bK 68
abbrev Rz:Stmt:=bK 69
abbrev Pr:Stmt:=bK 70
abbrev QZ:Stmt:=bK 71
abbrev IM:Stmt:=bK 76
abbrev O5:Stmt:=bK 77
abbrev P7:Stmt:=bK 78
abbrev Q3:Stmt:=bK 79
abbrev Ii:Stmt:=bK 80
abbrev QY:Stmt:=bK 84
abbrev GY:Stmt:=bK 85
abbrev BS:Stmt:=bK 86
abbrev QA:Stmt:=bK 87
abbrev Q0:Stmt:=bK 88
abbrev P6:Stmt:=bK 89
abbrev HF:Stmt:=ej (bK 91) 0
abbrev OT:Stmt:=ej (bK 91) 1
abbrev FT:Stmt:=ej (bK 91) 2
abbrev OC:Stmt:=ej (bK 91) 3
abbrev Ij:Stmt:=bK 93
abbrev Sf:Stmt:=bK 94
abbrev IP:Stmt:=bK 95
abbrev BC:Stmt:=bK 96
abbrev FO:Stmt:=bK 97
abbrev Se:Stmt:=bK 98
abbrev Ut:Stmt:=bK 99
abbrev RB:Stmt:=ej (bK 100) 0
abbrev PD:Stmt:=ej (bK 100) 1
abbrev QE:Stmt:=ej (bK 100) 2
abbrev RD:Stmt:=ej (bK 104) 0
abbrev RC:Stmt:=ej (bK 104) 1
abbrev Pc:Stmt:=ej (bK 104) 2
abbrev Pb:Stmt:=ej (bK 104) 3
abbrev PF:Stmt:=ej (bK 104) 4
abbrev P9:Stmt:=ej (bK 104) 5
abbrev PJ:Stmt:=ej (bK 104) 6
abbrev Pa:Stmt:=ej (bK 104) 7
abbrev Pd:Stmt:=ej (bK 104) 8
abbrev O6:Stmt:=bK 105
abbrev Px:Stmt:=bK 106
abbrev Py:Stmt:=bK 107
abbrev Te:Stmt:=bK 116
abbrev QB:Stmt:=bK 117
abbrev Ta:Stmt:=bK 118
abbrev Nm (K:aI)(x:Str)(f:ae):Prop:=W.nsIn K mainGlobals x=some (some (.ref f))
abbrev lJ (K:aI)(x:Str):Prop:=W.nsIn K mainGlobals x=some none
abbrev cJ (K:aI)(x:Str)(v:V):Prop:=∃u,W.nsIn K mainGlobals x=some (some u)/\Ay v u=true
set_option genInjectivity false in
set_option genSizeOf false in
structure Tx (K:aI)(mg:Str->Option ah) where
 {h:Heap}
 X:K.In h
 G:h.Ns mainGlobals mg
 {IB J6 Iu J8 J9 JE Iw JD Hc HS HW Gu HV Hg Hz Gs Gb F3 F1 Je Jf FK F4 HB IA Gr Hf F9 Io IX Ha IZ J7 IY G9 Iq IW Gp Hy Iy Iv Ip Hb Hx HR Ir Hw HJ Ga F0 FN Iz JG Ja F8 FQ JF KO Jb Hh HX Jd Jc Gx Gw Hi HA Hj Gv Gy Gq Hd He Ka HU J5:ae}
 {Rn TY Rg T1 T2 SA Ri Sz PQ QN QQ Pj QP PX Qe Ph OZ ON OJ RY RZ OB OO Qh Rl Pg PV OX Q9 RR PM RT TZ RS PL Rb RQ Pe Qc Rj Rh Ra PN Qb QM Rc Qa Qn OY OI OD Rk SE RU OW OF SD UY RV PY QR RX RW Pn Pl PZ Qg P0 Pk Pp Pf PR PU Kb QO TX:FuncData}
 {gJ d4 cH bX cn cQ di iY fF:ae}
 wj:Nm K "TooMuch" gJ
 ud:Nm K "Fault" d4
 C8:Nm K "Reader" cH
 LL:Nm K "Item" bX
 LM:Nm K "Form" cn
 Ll:Nm K "Rules" cQ
 Km:Nm K "Reading" di
 LJ:Nm K "Path" iY
 LK:Nm K "Land" fF
 CJ:Nm K "text_of" J6
 IG:Nm K "numbers_of" Iu
 Kj:Nm K "is_word" J8
 Kk:Nm K "is_wide" J9
 JK:Nm K "vanishes" JE
 II:Nm K "letters_of" Iw
 JJ:Nm K "words_of" JD
 Hn:Nm K "gathered_words" Hc
 HZ:Nm K "is_too_much" HS
 IC:Nm K "read_rules" Io
 Jj:Nm K "read_line" IX
 Hl:Nm K "possible_heads" Ha
 Jk:Nm K "read_form" IZ
 Ki:Nm K "may_end" J7
 Cc:Nm K "read_item" IY
 Hk:Nm K "possible_names" G9
 IE:Nm K "read_joint" Iq
 Cb:Nm K "words_fit" IW
 Gz:Nm K "is_house_number" Gp
 BV:Nm K "is_one_letter" Hy
 yN:Nm K "is_counted" Iy
 IH:Nm K "looks_like" Iv
 ID:Nm K "read_parts" Ip
 Hm:Nm K "names_not_told" Hb
 HD:Nm K "is_printed_by" Hx
 HY:Nm K "item_agrees" HR
 IF:Nm K "printed_by" Ir
 HC:Nm K "words_printed" Hw
 IJ:Nm K "count_ways" Iz
 Ct:Nm K "all_ways" JG
 Cd:Nm K "counts_by" Ja
 Gc:Nm K "with_item_before" F8
 FR:Nm K "counts_having_words" FQ
 Cs:Nm K "find_way" JF
 KQ:Nm K "way_by" KO
 BG:Nm K "bounded_text_of" Gq
 Ho:Nm K "answer_of_ways" Hd
 yw:Nm K "answer_of_text" He
 Kl:Nm K "answers" Ka
 Ie:Nm K "answer_call" HU
 Kh:Nm K "told_by" J5
 wk:MM K d4 IB
 Cw:Mk K cH HW
 yl:fu K cH "finished" Gu
 tP:fu K cH "sees" HV
 vS:fu K cH "accepts" Hg
 pI:fu K cH "demand" Hz
 BE:fu K cH "read_run" Gs
 yi:fu K cH "read_word" Gb
 yf:fu K cH "read_words" F3
 yc:fu K cH "read_choice" F1
 La:Mk K bX Je
 Lb:Mk K cn Jf
 x9:fu K cn "pieces_with_joints" FK
 BA:fu K cn "all_optional" F4
 BR:fu K cn "has_kind" HB
 Kz:Mk K cQ IA
 Gd:fu K cQ "add_short" Gr
 GK:fu K cQ "add_drop" Hf
 BB:fu K cQ "plain_word" F9
 Js:Mk K di HJ
 F5:fu K di "links_by" Ga
 By:fu K di "lengths_of" F0
 FL:fu K di "lengths_from" FN
 K8:Mk K iY Jb
 GQ:fu K iY "pass_item" Hh
 HK:fu K iY "settle" HX
 K9:Mk K fF Jd
 IL:fu K fF "take" Jc
 Gg:fu K fF "tell_count" Gx
 Gf:fu K fF "tell_plain" Gw
 GU:fu K fF "tell_ways" Hi
 Hq:fu K fF "tell_way" HA
 GX:fu K fF "tell_part" Hj
 Ge:fu K fF "tell_print" Gv
 ym:fu K fF "reading_of" Gy
 tR:bz K "__init__" "Fault.__init__" Q5 IB Rn
 t6:bz K "text_of" "text_of" Cu J6 TY
 yS:bz K "numbers_of" "numbers_of" Ih Iu Rg
 zr:bz K "is_word" "is_word" JR J8 T1
 zt:bz K "is_wide" "is_wide" Td J9 T2
 zg:bz K "vanishes" "vanishes" Jo JE SA
 yU:bz K "letters_of" "letters_of" Q1 Iw Ri
 zf:bz K "words_of" "words_of" Sd JD Sz
 yA:bz K "gathered_words" "gathered_words" Pw Hc PQ
 yK:bz K "is_too_much" "is_too_much" HN HS QN
 yM:bz K "__init__" "Reader.__init__" QD HW QQ
 vQ:bz K "finished" "Reader.finished" O9 Gu Pj
 qG:bz K "sees" "Reader.sees" QC HV QP
 tN:bz K "accepts" "Reader.accepts" PB Hg PX
 oj:bz K "demand" "Reader.demand" P8 Hz Qe
 yp:bz K "read_run" "Reader.read_run" O8 Gs Ph
 vP:bz K "read_word" "Reader.read_word" OU Gb OZ
 vO:bz K "read_words" "Reader.read_words" OK F3 ON
 vN:bz K "read_choice" "Reader.read_choice" FU F1 OJ
 Ci:bz K "__init__" "Item.__init__" RE Je RY
 Cj:bz K "__init__" "Form.__init__" RF Jf RZ
 vL:bz K "pieces_with_joints" "Form.pieces_with_joints" OA FK OB
 yh:bz K "all_optional" "Form.all_optional" F2 F4 OO
 yE:bz K "has_kind" "Form.has_kind" Hr HB Qh
 B6:bz K "__init__" "Rules.__init__" Q4 IA Rl
 BH:bz K "add_short" "Rules.add_short" O7 Gr Pg
 BN:bz K "add_drop" "Rules.add_drop" Pz Hf PV
 yk:bz K "plain_word" "Rules.plain_word" OS F9 OX
 yO:bz K "read_rules" "read_rules" QX Io Q9
 y6:bz K "read_line" "read_line" Ry IX RR
 yy:bz K "possible_heads" "possible_heads" Pu Ha PM
 y8:bz K "read_form" "read_form" RA IZ RT
 zq:bz K "may_end" "may_end" Tc J7 TZ
 tU:bz K "read_item" "read_item" Rz IY RS
 yx:bz K "possible_names" "possible_names" Pr G9 PL
 yQ:bz K "read_joint" "read_joint" QZ Iq Rb
 tT:bz K "words_fit" "words_fit" IM IW RQ
 yo:bz K "is_house_number" "is_house_number" O5 Gp Pe
 tO:bz K "is_one_letter" "is_one_letter" P7 Hy Qc
 pK:bz K "is_counted" "is_counted" Q3 Iy Rj
 yT:bz K "looks_like" "looks_like" Ii Iv Rh
 yP:bz K "read_parts" "read_parts" QY Ip Ra
 yz:bz K "names_not_told" "names_not_told" GY Hb PN
 yD:bz K "is_printed_by" "is_printed_by" BS Hx Qb
 yJ:bz K "item_agrees" "item_agrees" QA HR QM
 yR:bz K "printed_by" "printed_by" Q0 Ir Rc
 yC:bz K "words_printed" "words_printed" P6 Hw Qa
 BY:bz K "__init__" "Reading.__init__" HF HJ Qn
 BD:bz K "links_by" "Reading.links_by" OT Ga OY
 ye:bz K "lengths_of" "Reading.lengths_of" FT F0 OI
 Bx:bz K "lengths_from" "Reading.lengths_from" OC FN OD
 yV:bz K "count_ways" "count_ways" Ij Iz Rk
 tZ:bz K "all_ways" "all_ways" Sf JG SE
 tX:bz K "counts_by" "counts_by" IP Ja RU
 yj:bz K "with_item_before" "with_item_before" BC F8 OW
 yb:bz K "counts_having_words" "counts_having_words" FO FQ OF
 tY:bz K "find_way" "find_way" Se JF SD
 zG:bz K "way_by" "way_by" Ut KO UY
 Ce:bz K "__init__" "Path.__init__" RB Jb RV
 BO:bz K "pass_item" "Path.pass_item" PD Hh PY
 B1:bz K "settle" "Path.settle" QE HX QR
 Cg:bz K "__init__" "Land.__init__" RD Jd RX
 Cf:bz K "take" "Land.take" RC Jc RW
 BK:bz K "tell_count" "Land.tell_count" Pc Gx Pn
 BJ:bz K "tell_plain" "Land.tell_plain" Pb Gw Pl
 BP:bz K "tell_ways" "Land.tell_ways" PF Hi PZ
 BW:bz K "tell_way" "Land.tell_way" P9 HA Qg
 BQ:bz K "tell_part" "Land.tell_part" PJ Hj P0
 BI:bz K "tell_print" "Land.tell_print" Pa Gv Pk
 vR:bz K "reading_of" "Land.reading_of" Pd Gy Pp
 tL:bz K "bounded_text_of" "bounded_text_of" O6 Gq Pf
 yB:bz K "answer_of_ways" "answer_of_ways" Px Hd PR
 pH:bz K "answer_of_text" "answer_of_text" Py He PU
 CK:bz K "answers" "answers" Te Ka Kb
 yL:bz K "answer_call" "answer_call" QB HU QO
 zp:bz K "told_by" "told_by" Ta J5 TX
 qL:xl K gJ
 y9:Wk K gJ
 lQ:xl K d4
 BX:dU K d4 "place"
 cE:jA K cH
 jB:dU K cH "place"
 vT:dU K cH "text"
 fU:jA K bX
 jC:dU K bX "kind"
 qF:dU K bX "optional"
 vV:dU K bX "word"
 ij:jA K cn
 yH:dU K cn "joints"
 nv:dU K cn "pieces"
 dG:jA K cQ
 yg:dU K cQ "drop_count"
 yt:dU K cQ "dropped"
 nt:dU K cQ "forms"
 tI:dU K cQ "line_count"
 yr:dU K cQ "read_as"
 pJ:dU K cQ "shapes"
 yd:dU K cQ "short_count"
 fk:jA K di
 vM:dU K di "known_lengths"
 BM:dU K di "links"
 BF:dU K di "shapes"
 qE:dU K di "word_lines"
 ya:dU K di "word_numbers"
 pG:dU K di "words"
 iG:jA K iY
 yG:dU K iY "number"
 BU:dU K iY "reading"
 tQ:dU K iY "start"
 yu:dU K iY "strength"
 yX:dU K iY "way"
 gn:jA K fF
 ki:dU K fF "rules"
 GZ:gJ≠d4
 za:cJ K "NOT_SUCH" (.int (-1))
 Jx:cJ K "TOO_MUCH" (.int (-2))
 CA:cJ K "NOT_HAD" (.int (-3))
 yZ:cJ K "NOT_THERE" (.int (-4))
 Jy:cJ K "NO_RULES" (.int (-5))
 Lh:cJ K "FAULT" (.int (-6))
 Ht:cJ K "TOO_MANY_WAYS" (.int (-9))
 CB:cJ K "LETTERS" (.str "0123456789abcdefghijklmnopqrstuvwxyz")
 Lf:cJ K "SIGNS" (.str "0123456789abcdefghijklmnopqrstuvwxyz\n ,/=?")
 yI:cJ K "MOST_LETTERS" (.int 32)
 HG:cJ K "STRANGE_SIGN" (.str "!")
 Gm:cJ K "MOST_CHARACTERS" (.int 512)
 FZ:cJ K "MOST_LINES_folding" (.int 8)
 FW:cJ K "MOST_WORDS_folding" (.int 128)
 Jz:cJ K "LINE_END" (.int 10)
 IU:cJ K "LAST_WIDE" (.int 1114111)
 G8:cJ K "FIRST_NOT_WIDE" (.int 55296)
 Hu:cJ K "LAST_NOT_WIDE" (.int 57343)
 Gj:wU K "ROWS_OF_LETTERS" [[.int 97,.str "abcdefghijklmnopqrstuvwxyz"],[.int 65,.str "abcdefghijklmnopqrstuvwxyz"],[.int 48,.str "0123456789"],[.int 178,.str "23"],[.int 8308,.str "456789"],[.int 8320,.str "0123456789"],[.int 536,.str "sstt"],[.int 65296,.str "0123456789"],[.int 65313,.str "abcdefghijklmnopqrstuvwxyz"],[.int 65345,.str "abcdefghijklmnopqrstuvwxyz"]]
 HH:wU K "SAME_LETTERS" [[.int 170,.int 170,.str "a"],[.int 185,.int 185,.str "1"],[.int 186,.int 186,.str "o"],[.int 8304,.int 8304,.str "0"],[.int 192,.int 197,.str "a"],[.int 198,.int 198,.str "ae"],[.int 199,.int 199,.str "c"],[.int 200,.int 203,.str "e"],[.int 204,.int 207,.str "i"],[.int 208,.int 208,.str "d"],[.int 209,.int 209,.str "n"],[.int 210,.int 214,.str "o"],[.int 216,.int 216,.str "o"],[.int 217,.int 220,.str "u"],[.int 221,.int 221,.str "y"],[.int 222,.int 222,.str "th"],[.int 223,.int 223,.str "ss"],[.int 255,.int 255,.str "y"],[.int 256,.int 261,.str "a"],[.int 262,.int 269,.str "c"],[.int 270,.int 273,.str "d"],[.int 274,.int 283,.str "e"],[.int 284,.int 291,.str "g"],[.int 292,.int 295,.str "h"],[.int 296,.int 305,.str "i"],[.int 306,.int 307,.str "ij"],[.int 308,.int 309,.str "j"],[.int 310,.int 312,.str "k"],[.int 313,.int 322,.str "l"],[.int 323,.int 329,.str "n"],[.int 330,.int 331,.str "ng"],[.int 332,.int 337,.str "o"],[.int 338,.int 339,.str "oe"],[.int 340,.int 345,.str "r"],[.int 346,.int 353,.str "s"],[.int 354,.int 359,.str "t"],[.int 360,.int 371,.str "u"],[.int 372,.int 373,.str "w"],[.int 374,.int 376,.str "y"],[.int 377,.int 382,.str "z"],[.int 383,.int 383,.str "s"],[.int 7838,.int 7838,.str "ss"],[.int 8470,.int 8470,.str "no"],[.int 64256,.int 64256,.str "ff"],[.int 64257,.int 64257,.str "fi"],[.int 64258,.int 64258,.str "fl"],[.int 64259,.int 64259,.str "ffi"],[.int 64260,.int 64260,.str "ffl"],[.int 64261,.int 64262,.str "st"]]
 Hv:cJ K "FIRST_AS_LESS" (.int 224)
 HI:cJ K "LAST_AS_LESS" (.int 254)
 IT:wU K "VANISHING" [[.int 39,.int 39],[.int 96,.int 96],[.int 173,.int 173],[.int 180,.int 180],[.int 700,.int 700],[.int 768,.int 879],[.int 8203,.int 8205],[.int 8216,.int 8217],[.int 8288,.int 8288],[.int 65279,.int 65279]]
 ub:r8 K "KINDS" [.str "person",.str "house",.str "street",.str "number",.str "district",.str "town",.str "code",.str "box",.str "land"]
 KG:cJ K "NUMBER" (.int 3)
 DE:cJ K "CODE" (.int 6)
 LZ:cJ K "BOX" (.int 7)
 we:cJ K "OWN_WORD" (.int 9)
 qY:cJ K "BLANK" (.int 0)
 Li:cJ K "COMMA" (.int 1)
 C3:cJ K "STROKE" (.int 2)
 yY:r8 K "STRENGTHS" [.int 0,.int 1,.int 2]
 FY:cJ K "MOST_LINES_grammar" (.int 512)
 HQ:cJ K "MOST_SHAPES" (.int 8)
 Ik:cJ K "MOST_FORMS" (.int 64)
 FV:cJ K "MOST_WORDS_grammar" (.int 32)
 B5:cJ K "MOST_ITEMS" (.int 16)
 F7:cJ K "MOST_SHAPE_SIGNS" (.int 12)
 B4:cJ K "SHAPE_HEAD" (.str "shape ")
 B3:cJ K "SHORT_HEAD" (.str "short ")
 B9:cJ K "DROP_HEAD" (.str "drop ")
 IV:cJ K "FORM_HEAD" (.str "form ")
 Cq:cJ K "OWN_MARK" (.str "=")
 Bz:r8 K "MOST_WORDS_fitting" [.int 8,.int 8,.int 8,.int 2,.int 8,.int 8,.int 4,.int 1,.int 8,.int 1]
 FX:cJ K "MOST_NUMBER_DIGITS" (.int 5)
 Gn:cJ K "MOST_BOX_DIGITS" (.int 6)
 Gk:cJ K "MOST_PART_WORDS" (.int 8)
 JZ:r8 K "BETWEEN" [.str " ",.str ", ",.str "\n"]
 Il:cJ K "MOST_BYTES" (.int 65536)
 G7:cJ K "FIRST_TOO_MANY" (.int 9223372036854775808)
 LD:cJ K "TAKE" (.int 0)
 Dn:cJ K "COUNT" (.int 1)
 Lg:cJ K "PLAIN" (.int 2)
 LC:cJ K "WAYS" (.int 3)
 LY:cJ K "WAY" (.int 4)
 LF:cJ K "PART" (.int 5)
 Hs:r8 K "WHOLE_NUMBERS" [.int 0,.int 1,.int 0,.int 0,.int 1,.int 2,.int 1]
 uk:lJ K "all"
 wN:lJ K "any"
 LA:lJ K "dict"
 vX:lJ K "enumerate"
 d5:lJ K "len"
 Lz:lJ K "list"
 zZ:lJ K "max"
 LU:lJ K "min"
 DO:lJ K "ord"
 K7:lJ K "range"
 Jr:lJ K "reversed"
 DN:lJ K "sum"
 uj:lJ K "zip"
section
variable {K:aI}{mg:Str->Option ah}(T:Tx K mg){x:Str}
def Tx.tm {f:ae}(e:Nm K x f):mg x=some (.ref f):=Oz T.X T.G e
def Tx.tg {v:V}(e:cJ K x v):∃u:ah,mg x=some u/\bF v u:=ajh T.X T.G e
def Tx.tu {v:List V}(e:r8 K x v):W7 K mg x v:=e.to T.X T.G
def Tx.tw {v:List (List V)}(e:wU K x v):wR K mg x v:=e.to T.X T.G
def Tx.tn (e:lJ K x):mg x=none:=W.mg_none_of T.X T.G e
def dE {y qual:Str}{st:Stmt}{f:ae}{fd:FuncData}{p0:Str}(F:bz K y qual st f fd)(h:∀(kV doc pm:ah)(an:Option ae)(aU ct u0:ah),bindArgs (W.fnOf y qual (wz st) (qZ st) (aR st) .none kV doc pm an aU ct) ⟨[u0],[]⟩=pure [(p0,u0)]:=by intros;rfl):j3 K fd [p0] []:=F.oG fun a b c d e g us hl=>match us,hl with|[u0],_=>h a b c d e g u0
def cp {y qual:Str}{st:Stmt}{f:ae}{fd:FuncData}{p0 p1:Str}(F:bz K y qual st f fd)(h:∀(kV doc pm:ah)(an:Option ae)(aU ct u0 u1:ah),bindArgs (W.fnOf y qual (wz st) (qZ st) (aR st) .none kV doc pm an aU ct) ⟨[u0,u1],[]⟩=pure [(p0,u0),(p1,u1)]:=by intros;rfl):j3 K fd [p0,p1] []:=F.oG fun a b c d e g us hl=>match us,hl with|[u0,u1],_=>h a b c d e g u0 u1
def jz {y qual:Str}{st:Stmt}{f:ae}{fd:FuncData}{p0 p1 p2:Str}(F:bz K y qual st f fd)(h:∀(kV doc pm:ah)(an:Option ae)(aU ct u0 u1 u2:ah),bindArgs (W.fnOf y qual (wz st) (qZ st) (aR st) .none kV doc pm an aU ct) ⟨[u0,u1,u2],[]⟩=pure [(p0,u0),(p1,u1),(p2,u2)]:=by intros;rfl):j3 K fd [p0,p1,p2] []:=F.oG fun a b c d e g us hl=>match us,hl with|[u0,u1,u2],_=>h a b c d e g u0 u1 u2
def tj {y qual:Str}{st:Stmt}{f:ae}{fd:FuncData}{p0 p1 p2 p3:Str}(F:bz K y qual st f fd)(h:∀(kV doc pm:ah)(an:Option ae)(aU ct u0 u1 u2 u3:ah),bindArgs (W.fnOf y qual (wz st) (qZ st) (aR st) .none kV doc pm an aU ct) ⟨[u0,u1,u2,u3],[]⟩=pure [(p0,u0),(p1,u1),(p2,u2),(p3,u3)]:=by intros;rfl):j3 K fd [p0,p1,p2,p3] []:=F.oG fun a b c d e g us hl=>match us,hl with|[u0,u1,u2,u3],_=>h a b c d e g u0 u1 u2 u3
end
open Po (Word Got)
open Rm (b8 bV jK)
def tx (b:ajG):Str:=⟨(b.map b8).toArray⟩
def iH (b:ajG):(tx b).cps.toList=b.map b8:=by simp[tx]
def dz (b:ajG):(tx b).length=b.length:=by show(tx b).cps.size=b.length;simp[tx]
def Du {v w:ajG}(h:∀c∈w,c∈bV)(e:tx v=tx w):v=w:=by
 have:(tx v).cps.toList=(tx w).cps.toList:=by rw[e]
 rw[iH,iH]at this;exact Rm.RJ h this
def wB {x:Str}{b:ajG}(h:x.cps.toList=b.map b8):x=tx b:=by obtain⟨⟨l⟩⟩:=x;simp at h;rw[h];rfl
def fO {n:Nat}(h:n<=1000000):n<=sizeLine:=b3 h (by decide)
def qk (b:ajG)(p:Nat):List (Str×V):=[("text",.str (tx b)),("place",.int p)]
def cu (C:ae)(H:Hp)(r:ae)(b:ajG)(p:Nat):Prop:=(∃dx,H r=some (.bc C dx (qk b p)))/\p<=b.length/\b.length<=1000000
def bf (r:ae)(H H':Hp):Prop:=∀a o,H a=some o->a≠r->H' a=some o
def bf.refl (r:ae)(H:Hp):bf r H H:=fun _ _ h _=>h
def bf.trans {r:ae}{H H1 H2:Hp}(a:bf r H H1)(b:bf r H1 H2):bf r H H2:=fun x o h n=>b x o (a x o h n) n
def bf.ay (r:ae)(H:Hp)(o:HO):bf r H (ay H r o):=fun _ _ h n=>by rw[aq n];exact h
def gV (CF:ae)(E:XK)(Kp:Hp->Prop)(k:Nat):Prop:=∀(dx:ae)(H':Hp),H' dx=some (.xd [("place",.int k)])->Kp H'->E (.ref CF) (some dx) H'
def gV.fZ {CF:ae}{E:XK}{K1 K2:Hp->Prop}{k:Nat}(f:gV CF E K1 k)(h:∀H,K2 H->K1 H):gV CF E K2 k:=fun dx H' e q=>f dx H' e (h H' q)
def qf {α:Type}(g:Got α)(b:ajG)(ok:α->Nat->Prop)(tD:Nat->Prop):Prop:=(∀a q,g= .ok (a,b.drop q,q)->q<=b.length->ok a q)/\∀k,g= .error k->tD k
def bf.same {r:ae}{H H1 H2:Hp}(a:bf r H H1)(b:aj H1 H2):bf r H H2:=fun x o h n=>b x o (a x o h n)
def aj.keep {r:ae}{H H1:Hp}(a:aj H H1):bf r H H1:=fun x o h _=>a x o h
def aew (C:ae):Sp:=fun vs H Q _=>∃(r dx:ae)(b:ajG),vs=[.ref r,.str (tx b)]/\H r=some (.bc C dx [])/\b.length<=1000000/\∀H':Hp,cu C H' r b 0->bf r H H'->Q .bx H'
def aba (C:ae):Sp:=fun vs H Q _=>∃(r:ae)(b:ajG)(p:Nat),vs=[.ref r]/\cu C H r b p/\Q (.bl (decide (p=b.length))) H
def af3 (C:ae):Sp:=fun vs H Q _=>∃(r:ae)(b l:ajG)(p:Nat),vs=[.ref r,.str (tx l)]/\(∀c∈l,c∈bV)/\cu C H r b p/\Q (.bl (Pm.b6 l (b.drop p))) H
def ack (C:ae):Sp:=fun vs H Q _=>∃(r:ae)(b l:ajG)(p:Nat),vs=[.ref r,.str (tx l)]/\(∀c∈l,c∈bV)/\cu C H r b p /\
 ∀H',cu C H' r b (if Pm.b6 l (b.drop p)=true then p+1 else p)->bf r H H'->Q (.bl (Pm.b6 l (b.drop p))) H'
def U9 (C:ae):Sp:=fun vs H Q _=>∃(a:ae)(tb:ah)(v:V),vs=[.ref a,v]/\H a=some (XE a C Option.none tb)/\∀d,H d=Option.none->d≠a->Q .bx (ay (ay H d (.xd [("place",v)])) a (XE a C (some d) tb))
def ZK:bD ["self","place"] ["self","place"] (aR Q5):=bL
def BZ (T:Tx K mg):bg P w K mg base (bw P w) 1 T.IB T.Rn ["self","place"] (U9 T.d4):=by
 exists T.tR.cj ZK
 ·obtain⟨a,tb,v,rfl,_⟩:=h;rfl
 ·obtain⟨a,tb,v,rfl,ha,k⟩:=h;apply⟨_,aF (aeU (pv 0) (pv 1) rfl),?_⟩;exact Z15 _ rfl _ rfl (Z27 a _ tb rfl ha T.lQ.xc T.lQ.xa T.BX k)
def Zt:bD ["self","text"] ["self","text"] (aR QD):=bL
def Ql (T:Tx K mg):bg P w K mg base (bw P w) 1 T.HW T.QQ ["self","text"] (aew T.cH):=by
 exists T.yM.cj Zt
 ·obtain⟨r,dx,b,rfl,_⟩:=h;rfl
 ·obtain⟨r,dx,b,rfl,hp,hb,k⟩:=h;apply⟨_,aD (fP (pv 0) (pv 1) rfl) (aF (fP (pv 0) bQ rfl)),?_⟩;apply Z29 _ rfl _ rfl r _ dx [] ⟨rfl,hp,T.cE,T.vT,(show 0<1000 by decide),?_⟩;apply Z18 _ rfl r _ dx _ rfl aC T.cE T.jB (show 1<1000 by decide) ?_;exact k _ ⟨⟨dx,aC⟩,bA _,hb⟩ fun a o e n=>by rw[aq n,aq n];exact e
def Za:bD ["self"] ["self"] (aR O9):=bL
def F6 (T:Tx K mg):bg P w K mg base (bw P w) 1 T.Gu T.Pj ["self"] (aba T.cH):=by
 exists T.vQ.cj Za
 ·obtain⟨r,b,p,rfl,_⟩:=h;rfl
 ·obtain⟨r,b,p,rfl,⟨⟨dx,hR⟩,hp,hb⟩,k⟩:=h;apply⟨_,aF (aY (iT dW (aX (pv 0) rfl) (cD om rfl (T.tn T.d5) e7 (ao (aX (pv 0) rfl) ax)) (bS _))),?_⟩;apply Z16 _ rfl r _ dx _ _ rfl hR T.cE T.jB rfl (Z16 _ rfl r _ dx _ _ rfl hR T.cE T.vT rfl (Z28 _ rfl (by rw[dz];exact fO hb) rfl ?_));rw[dz];have e:decide (V.int (p:Int)=V.int (b.length:Int))=decide (p=b.length):=by
   by_cases h:p=b.length
   ·simp[h]
   ·have:¬(p:Int)=(b.length:Int):=by omega
    simp[h,this]
  show Q (.bl (decide (V.int (p:Int)=V.int (b.length:Int)))) H;rw[e];exact k
def Zs:bD ["self","signs"] ["self","signs"] (aR QC):=bL
def yF (T:Tx K mg):bg P w K mg base (bw P w) 2 T.HV T.QP ["self","signs"] (af3 T.cH):=by
 have G:= @F6 P w K mg base T;exists T.qG.cj Zs
 ·obtain⟨r,b,l,p,rfl,_⟩:=h;rfl
 ·obtain⟨r,b,l,p,rfl,hl,dC,k⟩:=h;obtain⟨⟨dx,hR⟩,hp,hb⟩:=id dC;apply Z10 _ (aF (aY (lW (DA (nB (pv 0) T.cE T.yl G hr (dE T.vQ) .nil bE)) (kx (iT Sh (cZ zS (aX (pv 0) rfl) (aX (pv 0) rfl) (fun _ _=>rfl)) (pv 1) rfl))))) ?_;apply Z61 _ rfl r dx _ rfl hR rfl r b p ⟨rfl,dC,Z15 _ rfl _ rfl ?_⟩;by_cases h:p=b.length
  ·rw[bY h];have e:Pm.b6 l (b.drop p)=false:=by rw[h,x8];rfl
   rw[e]at k;exact aO k
  ·rw[bZ h];have br:p<b.length:=by omega
   have hg:b[p]?=some b[p]:=cB br;apply a0 (Z16 _ rfl r _ dx _ _ rfl hR T.cE T.vT rfl (Z16 _ rfl r _ dx _ _ rfl hR T.cE T.jB rfl (Z13 _ _ (b8 b[p]) rfl rfl (by rw[dz];exact fO hb) (dH (by rw[iH,bR,hg];rfl)) (Z23 _ rfl _ _ rfl rfl ?_))));have e:Pm.b6 l (b.drop p)=decide (b8 b[p]∈(tx l).cps.toList):=by rw[iH,nk br];show l.contains b[p]=_;rw[Bool.eq_iff_iff,eE,Rm.Va hl,List.contains_iff_mem]
   rw[<-e];exact k
def B8 (T:Tx K mg){E:XK}{Kp:Hp->Prop}{k:Nat}{H1:Hp}(h:gV T.d4 E Kp k)(hK:∀H',aj H1 H'->Kp H')(a:ae)(ha:H1 a=none):U9 T.d4 [.ref a,.int k] (ay H1 a (XE a T.d4 Option.none .none)) (fun v H2=>v= .bx/\∃a' C dx H0,V.ref a= .ref a'/\gE K C/\H2 a'=some (XE a' C dx .none)/\aj H0 H2/\H0 a'=Option.none/\E (.ref C) dx H0) E0:=by
 apply Z19 a (.none) (.int k) rfl aC (fun d hd bJ=>⟨rfl,Z35 a T.d4 (some d) (ay H1 d (.xd [("place",.int k)])) rfl T.lQ.xc aC (fun b o e=>?_) ?_ ?_⟩)
 ·have Fc:H1 d=none:=by rw[aq bJ]at hd;exact hd
  by_cases hb:b=d
  ·subst hb;rw[aC]at e;rw[aq bJ,aC];exact e
  ·rw[aq hb]at e;rw[aq (aQ e ha),aq hb,aq (aQ e ha)];exact e
 ·rw[aq (Ne.symm bJ)];exact ha
 ·have Fc:H1 d=none:=by rw[aq bJ]at hd;exact hd
  exact h d _ aC (hK _ (aj.new Fc))
def O4:bD ["self","sign","seen"] ["self","sign"] (aR PB):=bL
def Gi (T:Tx K mg):bg P w K mg base (bw P w) 3 T.Hg T.PX ["self","sign"] (ack T.cH):=by
 have G:= @yF P w K mg base T;exists T.tN.cj O4
 ·obtain⟨r,b,l,p,rfl,_⟩:=h;rfl
 ·obtain⟨r,b,l,p,rfl,hl,dC,k⟩:=h;obtain⟨⟨dx,hR⟩,hp,hb⟩:=id dC;apply⟨_,aD (bB (i:=2) O4.nd rfl Olr (cT (pv 0) T.cE T.tP G hr (cp T.qG) .nil bE (ao (pv 1) ax)))
   (aD (bU (gm (pv 2)) (aF (qO (pv 0) bQ uh)) b5) (aF (aY (pv 2)))),?_⟩
  apply Z74 _ rfl r dx _ rfl hR rfl _ rfl (Z32 r b l p rfl hl dC ?_);apply Z15 _ rfl _ rfl ?_;cases hs:Pm.b6 l (b.drop p)with
  | false =>rw[hs]at k;exact aO ⟨_,rfl,k H dC (bf.refl _ _)⟩
  | true =>
   rw[hs]at k;have br:p<b.length:=by
    cases hd:b.drop p with
    | nil=>rw[hd]at hs;simp[Pm.b6]at hs
    | cons c t =>have:=congrArg List.length hd;rw[jX]at this;simp at this;omega
   apply a0 (Z30 _ rfl r _ dx _ _ rfl hR T.cE (Z84 T.jB rfl _ _ rfl rfl dx _ hR (show 2<1000 by decide) _ rfl ?_));exact k _ ⟨⟨dx,aC⟩,br,hb⟩ (bf.ay _ _ _)
def ads (C CF:ae):Sp:=fun vs H Q E=>∃(r:ae)(b:ajG)(c:UInt8)(p:Nat),vs=[.ref r,.str (tx [c])]/\c∈bV/\cu C H r b p /\
 qf (Pm.cW c (b.drop p) p) b (fun _ q=>∀H',cu C H' r b q->bf r H H'->Q .bx H') (gV CF E (bf r H))
def aaQ (c:UInt8)(b:ajG)(p:Nat):Pm.cW c (b.drop p) p=if Pm.b6 [c] (b.drop p)=true then .ok ((),b.drop (p+1),p+1)else .error p:=by
 cases h:b.drop p with
 | nil=>rfl
 | cons x t =>
  have e:b.drop (p+1)=t:=by rw[<-List.tail_drop,h];rfl
  simp only[Pm.cW,Pm.b6,e];by_cases hx:x=c
  ·subst hx;simp
  ·simp[hx,fun(q:c=x)=>hx q.symm]
def Zm:bD ["self","sign"] ["self","sign"] (aR P8):=bL
def BL (T:Tx K mg):bg P w K mg base (bw P w) 4 T.Hz T.Qe ["self","sign"] (ads T.cH T.d4):=by
 have G:= @Gi P w K mg base T;have GF:= @BZ P w K mg base T;exists T.oj.iy Zm
 ·obtain⟨r,b,c,p,rfl,_⟩:=h;rfl
 ·obtain⟨r,b,c,p,rfl,hc,dC,k1,k2⟩:=h;obtain⟨⟨dx,hR⟩,hp,hb⟩:=id dC;apply⟨_,aF (bU (lV (gm (cT (pv 0) T.cE T.vS G hr (cp T.tN) .nil bE (ao (pv 1) ax))))
   (aF (t9 cY rfl (CZ T.lQ.xc T.wk GF hr.ww rfl (T.tm T.ud) (cp T.tR) (ao (aX (pv 0) rfl) ax)))) b5),?_⟩
  apply Z74 _ rfl r dx _ rfl hR rfl _ rfl (Z32 r b [c] p rfl (fun x hx=>(by simp at hx;rw[hx];exact hc)) dC (fun H' dI hK=>⟨_,rfl,?_⟩));rw[aaQ]at k1 k2;cases hs:Pm.b6 [c] (b.drop p)with
  | true =>rw[hs]at dI k1;exact aO (k1 () (p+1) rfl dI.2.1 H' dI hK)
  | false =>rw[hs]at dI k2;obtain⟨dD,gg⟩:=dI.1;apply a0 (Z31 _ rfl r _ dD _ _ ⟨rfl,gg,T.cE,T.jB,rfl,eY,fun a ha=>B8 T (k2 p rfl) (fun H2 s2=>hK.same s2) a ha⟩)
def Sm:("0123456789abcdefghijklmnopqrstuvwxyz":Str)=tx jK:=by decide+kernel
def agL {b:ajG}{p q:Nat}(hp:p<=q)(hq:q<=b.length):rY (tx b) (some (p:Int)) (some (q:Int))=tx ((b.drop p).take (q-p)):=by apply wB ?_;unfold rY;rw[dz];simp only[HT.cA];rw[aB ⋯,aB ⋯,mj,mj,tG hq,tG (b3 hp hq),iH];simp[List.map_take,List.map_drop]
def ag7 (C CF:ae):Sp:=fun vs H Q E=>∃(r:ae)(b l:ajG)(p m:Nat),vs=[.ref r,.str (tx l),.int (m:Int)]/\(∀c∈l,c∈bV)/\cu C H r b p /\
 qf (Po.some_ (fun c=>l.contains c) m (b.drop p) p) b (fun x q=>∀H',cu C H' r b q->bf r H H'->Q (.str (tx x)) H') (gV CF E (bf r H))
def OR:bD ["self","signs","most","start"] ["self","signs","most"] (aR O8):=bL
def OV (T:Tx K mg):bg P w K mg base (bw P w) 4 T.Gs T.Ph ["self","signs","most"] (ag7 T.cH T.d4):=by
 have G:= @yF P w K mg base T;have GF:= @BZ P w K mg base T;exists T.yp.iy OR
 ·obtain⟨r,b,l,p,m,rfl,_⟩:=h;rfl
 ·obtain⟨r,b,l,p,m,rfl,hl,dC,k1,k2⟩:=h;obtain⟨⟨dx,hR⟩,hp,hb⟩:=id dC;apply Z10 _ (aD (bB (i:=3) OR.nd rfl Olr (aX (pv 0) rfl))
   (aD (qR pU (PW.pt (wC (cI p7 (e9 rl (aX (pv 0) rfl) (pv 3)) (pv 2) (bS _)) (zH (gm (cT (pv 0) T.cE T.tP G hr.ww (cp T.qG) .nil bE (ao (pv 1) ax)))))) (aF (qO (pv 0) bQ uh)))
   (aD (bU (cI dW (aX (pv 0) rfl) (pv 3) (bS _)) (aF (t9 cY rfl (CZ T.lQ.xc T.wk GF hr.ww rfl (T.tm T.ud) (cp T.tR) (ao (aX (pv 0) rfl) ax)))) b5)
   (aF (aY (qS VL (aX (pv 0) rfl) (lR (pv 3)) (lR (aX (pv 0) rfl)))))))) ?_
  apply Z16 _ rfl r _ dx _ _ rfl hR T.cE T.jB rfl ?_;apply acp (fun n σ H'=>∃j,n=b.length-(p+j)/\σ=[some (.ref r),some (.str (tx l)),some (.int (m:Int)),some (.int (p:Int))]/\cu T.cH H' r b (p+j)/\bf r H H'/\j<=m/\∀c∈(b.drop p).take j,l.contains c=true)
   (fun σ H'=>∃j,σ=[some (.ref r),some (.str (tx l)),some (.int (m:Int)),some (.int (p:Int))]/\cu T.cH H' r b (p+j)/\bf r H H'/\Po.some_ (fun c=>l.contains c) m (b.drop p) p=if j=0 then .error p else .ok ((b.drop p).take j,b.drop (p+j),p+j))
   _ (Z85 0 rfl rfl dC (bf.refl _ _) (bA _) (fun c hc=>by simp at hc)) (fun X hX n σ H'=>?_) (fun σ H'=>?_)
  ·rintro⟨j,rfl,rfl,dI,hK,hjm,i4⟩;obtain⟨⟨dD,gg⟩,dM,_⟩:=id dI;have ek:(j=m\/Pm.b6 l (b.drop (p+j))=false)->X [some (.ref r),some (.str (tx l)),some (.int (m:Int)),some (.int (p:Int))] H':=fun h5=>by
    apply hX _ _ (Z28 j rfl dI hK ?_);have:=Rm.adx (sort:=fun c=>l.contains c) (b:=b.drop p) (aN:=m) (j:=j) (p:=p) i4 (by rw[jX];omega) hjm (by
     rcases h5 with h5|h5
     ·exact .inl h5
     ·right;intro c hc;rw[x6]at hc;obtain⟨br,e⟩:=fD.mp hc;rw[nk br,e]at h5;exact h5)
    rw[Bw]at this;exact this
   apply Z33 _ rfl r _ (Z86 dD _ _ rfl gg T.cE T.jB rfl _ rfl _ _ (Z75 rfl rfl _ rfl _ _ rfl rfl _ rfl ?_));by_cases hj:j<m
   ·rw[bY (show((p+j:Nat):Int)-(p:Int)<(m:Int) by omega)];apply a0 (Z88 _ rfl r dD _ rfl gg rfl _ (Z87 rfl r b l (p+j) rfl hl dI _ rfl ?_));cases hs:Pm.b6 l (b.drop (p+j))with
    | false=>exact aO (ek (.inr hs))
    | true =>
     have br:p+j<b.length:=by
      cases hd:b.drop (p+j)with
      | nil=>rw[hd]at hs;simp[Pm.b6]at hs
      | cons c t =>have:=congrArg List.length hd;rw[jX]at this;simp at this;omega
     have hc:l.contains b[p+j]=true:=by rw[nk br]at hs;exact hs
     apply a0 (Z90 _ (fun _ _ q=>q) _ rfl r _ dD _ _ rfl (Z89 gg T.cE T.jB rfl _ _ rfl rfl dD _ gg (show 2<1000 by decide) ?_));apply Z17 (b.length-(p+(j+1))) ⋯ (j+1) ⟨rfl,rfl,⟨⟨dD,aC⟩,by omega,hb⟩,hK.trans (bf.ay _ _ _),hj,fun c l8=>?_⟩;have hg:(b.drop p)[j]?=some b[p+j]:=by rw[x6];exact cB br
     rw[Rm.Up hg]at l8;rcases eQ.mp l8 with q|q
     ·exact i4 c q
     ·simp at q;rw[q];exact hc
   ·rw[bZ (show¬((p+j:Nat):Int)-(p:Int)<(m:Int) by omega)];exact aO (ek (.inl ⋯))
  ·rintro⟨j,rfl,dI,hK,l6⟩;obtain⟨⟨dD,gg⟩,dM,_⟩:=id dI;apply Z16 _ rfl r _ dD _ _ rfl gg T.cE T.jB rfl (Z11 _ rfl rfl _ rfl ?_);by_cases hj:j=0
   ·subst hj;rw[bY (show V.int ((p+0:Nat):Int)=V.int (p:Int) by rfl)];rw[aE rfl]at l6;apply a0 (Z31 _ rfl r _ dD _ _ ⟨rfl,gg,T.cE,T.jB,rfl,eY,fun a ha=>B8 T (k2 p l6) (fun H2 s2=>hK.same s2) a ha⟩)
   ·rw[bZ (show¬V.int ((p+j:Nat):Int)=V.int (p:Int) by intro q;injection q with q;omega)];rw[aB hj]at l6;apply aO (Z55 _ rfl r _ dD _ _ rfl gg T.cE T.vT (Z91 rfl _ rfl _ rfl _ rfl r _ dD _ _ ⟨rfl,gg,T.cE,T.jB,Z76 rfl _ rfl _ rfl (by rw[dz];exact fO hb) ?_⟩));rw[agL (Nat.le_add_right p j) dM,Nat.add_sub_cancel_left];exact k1 _ _ l6 dM H' dI hK
def af0 (C CF:ae):Sp:=fun vs H Q E=>∃(r:ae)(b:ajG)(p:Nat),vs=[.ref r]/\cu C H r b p /\
 qf (Po.wordIn (b.drop p) p) b (fun x q=>∀H',cu C H' r b q->bf r H H'->Q (.str (tx x)) H') (gV CF E (bf r H))
def abF:(fun c=>jK.contains c)=Po.isLetter:=by funext c;rw[Bool.eq_iff_iff,List.contains_iff_mem];exact(Rm.B2 c).symm
def Y9:bD ["self"] ["self"] (aR OU):=bL
def OM (T:Tx K mg):bg P w K mg base (bw P w) 5 T.Gb T.OZ ["self"] (af0 T.cH T.d4):=by
 have G:= @OV P w K mg base T;exists T.vP.iy Y9
 ·obtain⟨r,b,p,rfl,_⟩:=h;rfl
 ·obtain⟨r,b,p,rfl,dC,k⟩:=h;obtain⟨⟨dx,hR⟩,hp,hb⟩:=id dC;obtain⟨uL,mL,rL⟩:=(T.tg T.CB);obtain⟨uM,mM,rM⟩:=(T.tg T.yI);rw[Sm]at rL;apply⟨_,aF (aY (cT (pv 0) T.cE T.BE G hr (jz T.yp) .nil cY.dO (ao (bh rfl mL rL) (ao (bh rfl mM rM) ax)))),?_⟩;apply Z88 _ rfl r dx _ rfl hR rfl r (Z32 b jK p 32 rfl Rm.Lc dC ?_);rw[abF];exact k
def adt (K:aI)(C CF:ae):Sp:=fun vs H Q E=>∃(r a:ae)(b:ajG)(p:Nat)(aM:List ajG),vs=[.ref r,.ref a]/\aA K H a (aM.map fun o=>V.str (tx o))/\Pm.iK aM/\(∀o∈aM,(∀c∈o,c∈bV)/\o.length<=100)/\aM.length<=100/\cu C H r b p /\
 qf (Pm.fe aM (b.drop p) p) b (fun o q=>o∈aM->∀H',cu C H' r b q->bf r H H'->Q (.str (tx o)) H') (gV CF E (bf r H))
def aaO {α:Type}{f:α->Bool}{l:List α}{i:Nat}{x:α}(h:l[i]?=some x):(l.take (i+1)).filter f=(l.take i).filter f++(if f x=true then[x]else[]):=by
 rw[kj h,List.filter_append];congr 1;by_cases hf:f x=true
 ·simp[hf]
 ·simp[hf]
def OE:bD ["self","choices","start","possible","depth","choice"] ["self","choices"] (aR FU):=bL
def FP (T:Tx K mg):bg P w K mg base (bw P w) 4 T.F1 T.OJ ["self","choices"] (adt K T.cH T.d4):=by
 have G:= @yF P w K mg base T;have GF:= @BZ P w K mg base T;exists T.vN.iy OE
 ·obtain⟨r,a,b,p,aM,rfl,_⟩:=h;rfl
 ·obtain⟨r,a,b,p,aM,rfl,hS,hF,hO,hOl,dC,k1,k2⟩:=h;obtain⟨⟨dx,hR⟩,hp,hb⟩:=id dC;have nd:=OE.nd;apply Z10 _ (aD (bB (i:=2) nd rfl Olr (aX (pv 0) rfl)) (aD (bB (i:=3) nd rfl Olr (pv 1)) (aF (qR pU (gm rq)
   (aD (bB (i:=4) nd rfl Orr (e9 rl (aX (pv 0) rfl) (pv 2)))
   (aD (CY (i:=3) rfl nd rfl rfl (De rfl rfl rfl rfl) (iS (pv 3)) (ic (N:=["self","choices","start","possible","depth","choice"]) (sc:=aR FU) (bO:=[("choice",5)]) (by decide+kernel)) (fun _ _ _ _ _=>b9 (i:=5) nd rfl Olr) (fun _ _ _ _ _=>Vh (gm (cT (pv 0) T.cE T.tP G hr.ww (cp T.qG) .nil bE (ao (cZ zS (pv 5) (pv 4) (fun _ _=>rfl)) ax)))) (fun _ _ _ _ _=>pv 5))
   (aD (bU (lV (t8 (pv 3) (fun _=>rfl))) (aF (t9 cY rfl (CZ T.lQ.xc T.wk GF hr.ww rfl (T.tm T.ud) (cp T.tR) (ao (aX (pv 0) rfl) ax)))) b5)
   (aD (qO (pv 0) bQ uh)
   (aF (bU (cI dW (cD om rfl (T.tn T.d5) e7 (ao (cZ eU (pv 3) bQ (fun _ _=>rfl)) ax)) (e9 k7 (pv 4) bQ) (bS _)) (aF (aY (cZ eU (pv 3) bQ (fun _ _=>rfl)))) b5)))))))))) ?_
  apply Z10 _ rfl (Z37 r _ dx _ _ rfl hR T.cE T.jB rfl _ rfl ?_);apply⟨fun n σ H'=>∃(d:Nat)(q:ae)(L:List ajG)(v4 v5:Option V),n=101-d/\d<=100/\σ=[some (.ref r),some (.ref a),some (.int (p:Int)),some (.ref q),v4,v5]/\cu T.cH H' r b (p+d)/\bf r H H'/\aA K H' q (L.map fun o=>V.str (tx o))/\L.length<=100/\Cm.nQ aM (b.drop p) p L d,
   Z48 _ 0 a aM none none ⟨rfl,by decide,rfl,dC,bf.refl _ _,hS,hOl,Cm.nQ.start hF _ _⟩,?_⟩
  rintro n σ H' ⟨d,q,L,v4,v5,rfl,hd,rfl,dI,hK,hq,YC,hL⟩;obtain⟨⟨dD,gg⟩,dM,_⟩:=id dI;apply Z10 _ rfl (a0 (Z10 _ (fun _ _ q=>q) ?_));apply Z34 _ rfl r _ dD _ (Z43 _ rfl gg T.cE T.jB rfl _ rfl _ _ rfl rfl ?_);have ed:((p+d:Nat):Int)-(p:Int)=(d:Int):=by omega
  apply Z24 _ rfl q rfl ⟨_,hq⟩ (fun D hD=>?_);apply wH L.length (fun i H3=>aj H' H3/\H3 D=some (.ak (((L.take i).filter fun o=>Pm.b6 [o.getD d 0] ((b.drop p).drop d)).map fun o=>V.str (tx o)))) ⟨aj.new hD,aC⟩ (fun i H3 hi h3=>?_) (fun H3 h3=>?_) (fun i x H3 H4 hi h3 hy=>?_) (fun H3 h3=>?_)
  ·have iB:i<(L.map fun o=>V.str (tx o)).length:=by simpa using hi
   exact⟨_,_,h3.1.seq hq,cB iB⟩
  ·exact⟨_,h3.1.seq hq,by simp⟩
  ·obtain⟨rfl,hx⟩:=hy;obtain⟨s3,bT⟩:=h3;have hx:=hx _ (s3.seq hq);have Fs:=cB hi;rw[bR,Fs]at hx;cases hx;generalize mP:L[i]=o at Fs;have X4:o∈L:=fC Fs;have sN:=hL.uE o X4;obtain⟨EZ,ahx⟩:=hO o (hL.de o X4);have X5:o[d]?=some (o.getD d 0):=by rw[lM,cB sN];rfl
   have mT:o.getD d 0∈bV:=EZ _ (fC X5);apply⟨rfl,Z88 _ rfl r dD _ rfl (s3 _ _ gg) rfl _ (Z77 rfl _ rfl _ _ (b8 (o.getD d 0)) rfl rfl (by rw[dz];exact fO ⋯) (Z87 (by rw[ed];exact dH (by rw[iH,bR,X5];rfl)) r b [o.getD d 0] (p+d) rfl (fun c hc=>(by simp at hc;rw[hc];exact mT)) ⟨⟨dD,s3 _ _ gg⟩,dM,hb⟩ _ rfl ?_))⟩;have ft:=aaO (f:=fun o=>Pm.b6 [o.getD d 0] ((b.drop p).drop d)) Fs;rw[Bw]at ft bT⊢;cases hs:Pm.b6 [o.getD d 0] (b.drop (p+d))with
   | true =>
    rw[hs,aE rfl]at ft;apply a0 (Z62 _ rfl _ bT ?_ (s3.i0 hD) ?_)
    ·rw[aL];exact jd (b3 (tH _ _) (b3 (by rw[gH];exact Nat.min_le_right _ _) YC)) (by show 100<sizeLine;decide)
    ·rw[aC,ft,cV];rfl
   | false =>rw[hs]at ft;apply aO ⟨s3,?_⟩;rw[ft];simpa using bT
  ·obtain⟨s3,bT⟩:=h3;rw[ni,<-Cm.acJ hL.uE]at bT;have d6:bf r H H3:=hK.same s3;apply Z15 _ rfl _ (.inl ⟨_,aA.of bT,rfl⟩) ?_;cases hk:Pm.keep d ((b.drop p).drop d) L with
   | nil =>have e:=hL.none hk;apply a0 (Z31 _ rfl r _ dD _ _ ⟨rfl,s3 _ _ gg,T.cE,T.jB,rfl,eY,fun a ha=>B8 T (k2 _ e) (fun H2 s2=>d6.same s2) a ha⟩)
   | cons o L' =>
    rw[hk]at bT;have hm:o∈Pm.keep d ((b.drop p).drop d) L:=by rw[hk];exact List.mem_cons_self
    obtain⟨AV,c,hc,_⟩:=Cm.pR hm;obtain⟨EZ,ahx⟩:=hO o (hL.de o AV);have sN:=hL.uE o AV;have br:p+d<b.length:=by rw[Bw,List.head?_drop]at hc;exact(fD.mp hc).1
    have hDr:D≠r:=aJ bT (s3 _ _ gg) nofun;apply aO (Z31 _ rfl r _ dD _ _ ⟨rfl,Z89 (s3 _ _ gg) T.cE T.jB rfl _ _ rfl rfl dD _ (s3 _ _ gg) (show 2<1000 by decide) ?_⟩);have sP:(ay H3 r (.bc T.cH dD (gu "place" (.int (((p+d:Nat):Int)+1)) (qk b (p+d))))) D=some (.ak ((o::L').map fun o=>V.str (tx o))):=by rw[aq hDr];exact bT
    have jJ:cu T.cH (ay H3 r (.bc T.cH dD (gu "place" (.int (((p+d:Nat):Int)+1)) (qk b (p+d))))) r b (p+(d+1)):=⟨⟨dD,aC⟩,by omega,hb⟩;have iO:=d6.trans (bf.ay r H3 (.bc T.cH dD (gu "place" (.int (((p+d:Nat):Int)+1)) (qk b (p+d)))));apply Z92 _ rfl D _ 0 (V.str (tx o)) rfl rfl (aA.of sP) (dH (j:=0) rfl) (tx o) ⟨rfl,(by rw[dz];exact fO ⋯),Z17 _ rfl _ (Z49 _ rfl rfl rfl _ rfl ?_)⟩;rw[dz];by_cases ho:o.length=d+1
    ·rw[bY (show V.int (o.length:Int)=V.int ((((p+d:Nat):Int)-(p:Int))+1) by rw[ed,ho];rfl)];apply a0 (Z44 _ rfl D _ 0 (V.str (tx o)) rfl rfl (aA.of sP) (dH (j:=0) rfl) ?_);have e:=hL.done hk ho;rw[Bw]at e;exact k1 o (p+(d+1)) e ⋯ (hL.de o AV) _ jJ iO
    ·rw[bZ (show¬V.int (o.length:Int)=V.int ((((p+d:Nat):Int)-(p:Int))+1) by intro z;injection z with z;omega)];apply aO (Z31 (101-(d+1)) ⋯ (d+1) D (o::L') _ _ ⟨rfl,by omega,rfl,jJ,iO,aA.of sP,?_,hL.next hF hk ho⟩);rw[<-hk];exact b3 (tH _ _) YC
open TL
def Kq:("0123456789abcdefghijklmnopqrstuvwxyz\n ,/=?":Str)=tx bV:=by decide+kernel
def cU (zs:List Int):ajG:=zs.map fun z=>UInt8.ofNat z.toNat
def rD (cs:List Nat):List (aP×V):=cs.map fun(c:Nat)=>(Sum.inl (c:Int),V.str ⟨#[c]⟩)
def abV (cs:List Nat)(n:Nat):dk (rD cs) (.inl (n:Int))=if n∈cs then some (V.str ⟨#[n]⟩)else none:=by
 unfold dk rD
 induction cs with
 | nil=>rfl
 | cons c cs ih =>
  rw[fj,qC];by_cases h:c=n
  ·subst h;simp
  ·have hn:¬n=c:=fun q=>h q.symm;have e:decide ((Sum.inl (c:Int):aP)= .inl (n:Int))=false:=by rw[decide_eq_false_iff_not];intro q;injection q with q;exact h ⋯
   simp only[e];rw[ih];simp[hn]
def aaK:rm [] (rD (bV.map b8))=rD (bV.map b8):=by decide+kernel
def agc (n:Nat)(h:n<256):(if n∈bV.map b8 then n else 33)=b8 (UInt8.ofNat n):=by
 have key:∀m:Fin 256,(if m.val∈bV.map b8 then m.val else 33)=b8 (UInt8.ofNat m.val):=by decide+kernel
 exact key ⟨n,h⟩
theorem Uq {α:Type}:∀l:List α,(l.map fun _=>1).sum=l.length
 | []=>rfl
 | _::l=>by rw[fj,List.sum_cons,Uq l,dQ];omega
theorem RN:∀cs:List Nat,oF [] (cs.map fun c=>[c])=cs
 | []=>rfl
 | [c]=>rfl
 | c::d::cs=>by have:=RN (d::cs);simp only[fj,oF]at this⊢;rw[this];rfl
def adh (K:aI):Sp:=fun vs H Q _=>∃(a:ae)(zs:List Int),vs=[.ref a]/\aA K H a (zs.map V.int)/\(∀z∈zs,0<=z/\z<256)/\zs.length<=1000000/\∀H',aj H H'->Q (.str (tx (cU zs))) H'
def wb:bD ["numbers","signs","sign","number"] ["numbers"] (aR Cu):=bL
def Si (T:Tx K mg):bg P w K mg base (bw P w) 1 T.J6 T.TY ["numbers"] (adh K):=by
 exists T.t6.cj wb
 ·obtain⟨a,zs,rfl,_⟩:=h;rfl
 ·obtain⟨a,zs,rfl,hS,hz,bN,k⟩:=h;obtain⟨uS,mS,rS⟩:=(T.tg T.Lf);obtain⟨uG,mG,rG⟩:=(T.tg T.HG);apply Z10 _ (aD (bB (i:=1) wb.nd rfl Orr (acw (abO rfl) rfl (T.tn T.LA) (by decide+kernel) (ao (jF rfl wb.nd (Lw (bh rfl mS rS)) (ic (N:=["numbers","signs","sign","number"]) (sc:=aR Cu) (bO:=[("sign",2)]) (by decide+kernel)) (fun _ _ _ _ _=>b9 (i:=2) wb.nd rfl Olr) (fun _ _ _ _ _=>iR)
    (fun _ _ _ _ _=>zP (ao (cD U3 rfl (T.tn T.DO) (by decide+kernel) (ao (pv 2) ax)) (ao (pv 2) ax)))) ax)))
   (aF (aY (Dk zQ (jF rfl wb.nd (iS (pv 0)) (ic (N:=["numbers","signs","sign","number"]) (sc:=aR Cu) (bO:=[("number",3)]) (by decide+kernel)) (fun _ _ _ _ _=>b9 (i:=3) wb.nd rfl Olr) (fun _ _ _ _ _=>iR)
    (fun _ _ _ _ _=>Kw (my hr) (pv 1) (pv 3) (bh rfl mG rG) ⟨rfl,rfl,rfl,rfl⟩)))))) ?_
  apply Z10 _ rfl (fun D hD=>wH (bV.map b8).length (fun i H'=>∃ps:List ae,H' D=some (.ak (ps.map V.ref))/\ps.length=i/\aj H H'/\Paired (fun p c=>H' p=some (.bp [.int ((c:Nat):Int),.str ⟨#[c]⟩])) ps ((bV.map b8).take i))
   (Z28 [] aC rfl (aj.new hD) (.nil)) (fun i H' hi _=>?_) (fun H' _=>?_) (fun i x H' H2 hi ⟨ps,hl,fA,hs,hp⟩ hy=>?_) (fun H' ⟨ps,hl,fA,hs,hp⟩=>?_))
  ·show i<("0123456789abcdefghijklmnopqrstuvwxyz\n ,/=?":Str).cps.size;rw[Kq];simpa[tx]using hi
  ·show("0123456789abcdefghijklmnopqrstuvwxyz\n ,/=?":Str).cps.size<=_;rw[Kq];simp[tx]
  ·obtain⟨rfl,c,hc,rfl⟩:=hy;have l8:(bV.map b8)[i]?=some c:=by
    rw[Kq]at hc;have:(tx bV).cps[i]?=(tx bV).cps.toList[i]?:=by simp
    rw[this,iH]at hc;exact hc
   apply⟨rfl,?_⟩;apply DY (Z71 _ rfl _ rfl rfl _ ⟨rfl,wY,fun t ht=>Z12 (ps.map V.ref) ?_ ?_ ?_⟩)
   ·rw[aq (aQ hl ht)];exact hl
   ·rw[aL,fA];exact fi hi (by show 42<=sizeLine;decide)
   ·have hDt:D≠t:=aQ hl ht;apply Z28 (ps++[t]) ?_ (by simp[fA]) ?_ ?_
    ·rw[aC,cV];rfl
    ·exact(hs.trans (aj.new ht)).i0 hD
    ·rw[kj l8];apply Paired.snoc (L2.Paired.dc hp fun p c' e=>?_) ?_
     ·have:p≠D:=fun q=>by rw[q,hl]at e;cases e
      rw[aq this,aq (aQ e ht)];exact e
     ·rw[aq hDt.symm,aC];rfl
  ·rw[ni]at hp;have mJ:Paired (fun p kv=>cS K H' p [kV kv.1,kv.2]) ps (rD (bV.map b8)):=by
    generalize bV.map b8=cs at hp;clear hl fA
    induction hp with
    | nil=>exact(Paired.nil:Paired _ [] [])
    | cons r _ ih=>exact(Paired.cons (F:=fun p(kv:aP×V)=>cS K H' p [kV kv.1,kv.2]) (cS.of r) ih)
   apply Z20 D ps _ rfl (aA.of hl) mJ (fun d hd=>?_);rw[aaK];have gF:aj H (ay H' d (.dK (rD (bV.map b8)))):=hs.trans (aj.new hd);apply Z76 ⟨_,rfl⟩ _ rfl a rfl ⟨_,gF.seq hS⟩ (fun D2 mY=>?_);apply k8 ((cU zs).map fun c=>V.str ⟨#[b8 c]⟩) (by simpa[cU]using fO bN) mY (fun i H3 hi s3=>?_) (fun H3 s3=>?_) (fun i x y H3 H4 Kt hy s3 bT fz hk=>?_) (fun H3 s3 bT=>?_)
   ·have iB:i<(zs.map V.int).length:=by simpa[cU]using hi
    exact⟨_,_,s3.seq (gF.seq hS),cB iB⟩
   ·exact⟨_,s3.seq (gF.seq hS),by simp[cU]⟩
   ·obtain⟨rfl,hx⟩:=fz;have hx:=hx _ (s3.seq (gF.seq hS));rw[bR]at hx;cases ql:zs[i]? with
    | none=>rw[ql]at hx;cases hx
    | some z =>
     rw[ql]at hx;cases hx;obtain⟨z0,z1⟩:=hz z (fC ql);have xC:y=V.str ⟨#[b8 (UInt8.ofNat z.toNat)]⟩:=by rw[bR,cU,bR,ql]at hy;exact(d3 hy).symm
     subst xC;have Yn:H4 d=some (.dK (rD (bV.map b8))):=s3 _ _ aC;have ez:z=(z.toNat:Int):=by omega
     apply Z76 rfl _ rfl d rfl (.inl ⟨_,.inl Yn⟩) (Z15 _ rfl _ (gX.k (k:=.inl z) Yn) ?_);have e:(dk (rD (bV.map b8)) (.inl z)).getD (.str "!")=V.str ⟨#[b8 (UInt8.ofNat z.toNat)]⟩:=by
      have vp:=abV (bV.map b8) z.toNat;rw[<-ez]at vp;rw[vp,<-agc z.toNat ⋯];by_cases hm:z.toNat∈bV.map b8
      ·rw[aE hm,aE hm];rfl
      ·rw[aB hm,aB hm];rfl
     rw[e];exact hk _ (aj.refl _)
   ·apply Z13 _ D2 ((cU zs).map fun c=>⟨#[b8 c]⟩) rfl rfl (.inl (aA.of (by rw[bT,f6];rfl))) ?_ ?_
    ·have e1:(((cU zs).map fun c=>(⟨#[b8 c]⟩:Str)).map (·.length)).sum=zs.length:=by
      rw[f6];have:((fun x:Str=>x.length)∘fun c:UInt8=>(⟨#[b8 c]⟩:Str))=fun _=>1:=by funext c;rfl
      rw[this,Uq];simp[cU]
     rw[e1];simp[cU];show zs.length+zs.length*0<=16777216;omega
    ·have e2:Txt.join ("":Str) ((cU zs).map fun c=>(⟨#[b8 c]⟩:Str))=tx (cU zs):=by apply wB ?_;rw[Ld];show tl (Str.join _ _)=_;rw[Dd,f6];exact RN ((cU zs).map b8)▸(by rw[f6];rfl)
     rw[e2];exact k H3 (gF.trans s3)
def VR {b:ajG}{i:Nat}{H:Hp}(h:i<b.length):(Bq (tx b)).go i H:=by show i<(tx b).cps.size;simpa[tx]using h
def UO {b:ajG}{H:Hp}:(Bq (tx b)).ek b.length H:=by show(tx b).cps.size<=b.length;simp[tx]
def Vu {b:ajG}{i:Nat}{H H':Hp}{x:V}(h:(Bq (tx b)).lx i H x H'):H'=H/\∃c,b[i]?=some c/\x= .str (tx [c]):=by
 obtain⟨e,c,hc,ex⟩:=h;have:(tx b).cps[i]?=(tx b).cps.toList[i]?:=by simp
 rw[this,iH,bR]at hc;cases hb:b[i]? with
 | none=>rw[hb]at hc;cases hc
 | some d =>rw[hb]at hc;cases hc;exact⟨e,d,rfl,ex⟩
def aaw:Sp:=fun vs H Q _=>∃b:ajG,vs=[.str (tx b)]/\(∀c∈b,c∈bV)/\b.length<=100000/\∀(H':Hp)(p:ae),aj H H'->H p=none->H' p=some (.ak (b.map fun c=>V.int (c.toNat:Int)))->Q (.ref p) H'
def HM:bD ["text","sign"] ["text"] (aR Ih):=bL
def ZS (T:Tx K mg):bg P w K mg base (bw P w) 1 T.Iu T.Rg ["text"] aaw:=by
 exists T.yS.cj HM
 ·obtain⟨b,rfl,_⟩:=h;rfl
 ·obtain⟨b,rfl,hs,bN,k⟩:=h;apply⟨_,aF (aY (jF rfl HM.nd (Lw (pv 0)) (ic (N:=["text","sign"]) (sc:=aR Ih) (bO:=[("sign",1)]) (by decide+kernel)) (fun _ _ _ _ _=>b9 (i:=1) HM.nd rfl Olr) (fun _ _ _ _ _=>iR) (fun _ _ _ _ _=>cD U3 rfl (T.tn T.DO) (by decide+kernel) (ao (pv 1) ax)))),?_⟩;apply Z15 _ rfl _ rfl (fun D hD=>k8 (b.map fun c=>V.int (c.toNat:Int)) (by rw[aL];exact b3 bN (by decide)) hD (fun i H3 hi s3=>VR (by simpa using hi)) (fun H3 s3=>by rw[aL];exact UO) (fun i x y H3 H4 Kt hy s3 bT fz hk=>?_) (fun H3 s3 bT=>k H3 D s3 hD bT));obtain⟨rfl,c,hc,rfl⟩:=Vu fz;rw[bR,hc]at hy;have e:b8 c=c.toNat:=by unfold b8;rw[aE (hs c (fC hc))]
  cases hy;apply Z76 rfl _ rfl _ rfl rfl ?_;show Kt (.int ((b8 c:Nat):Int)) H4;rw[e];exact hk _ (aj.refl _)
def adn:Sp:=fun vs H Q _=>∃b:ajG,vs=[.str (tx b)]/\b.length<=1000000/\∀H':Hp,aj H H'->Q (.bl (Po.fullWord b)) H'
def Jn:bD ["text","sign"] ["text"] (aR JR):=bL
def acE (c:UInt8):decide (b8 c∈(tx jK).cps.toList)=Po.isLetter c:=by rw[iH,Bool.eq_iff_iff,eE,Rm.Va Rm.Lc];exact(Rm.B2 c).symm
def abt (T:Tx K mg):bg P w K mg base (bw P w) 1 T.J8 T.T1 ["text"] adn:=by
 exists T.zr.cj Jn
 ·obtain⟨b,rfl,_⟩:=h;rfl
 ·obtain⟨b,rfl,bN,k⟩:=h;obtain⟨uL,mL,rL⟩:=(T.tg T.CB);obtain⟨uM,mM,rM⟩:=(T.tg T.yI);rw[Sm]at rL;apply Z10 _ (aF (aY (lW (C0 jG jG bQ (cD om rfl (T.tn T.d5) e7 (ao (pv 0) ax)) (bh rfl mM rM)) (kx (cD (zT rfl) rfl (T.tn T.uk) (by decide+kernel) (ao
   (jF rfl Jn.nd (Lw (pv 0)) (ic (N:=["text","sign"]) (sc:=aR JR) (bO:=[("sign",1)]) (by decide+kernel)) (fun _ _ _ _ _=>b9 (i:=1) Jn.nd rfl Olr) (fun _ _ _ _ _=>iR) (fun _ _ _ _ _=>iT Sh (pv 1) (bh rfl mL rL) rfl)) ax)))))) ?_
  have fw:Po.fullWord b=(decide (1<=b.length)&&(decide (b.length<=32)&&b.all Po.isLetter)):=by
   unfold Po.fullWord Po.wordOk Po.LONG;cases b with
   | nil=>rfl
   | cons c t=>simp
  rw[fw]at k;apply Z24 _ rfl _ rfl (by rw[dz];exact fO bN) (Z93 _ _ rfl rfl _ rfl ?_);rw[dz];by_cases h1:1<=b.length
  ·rw[bY (show(1:Int)<=(b.length:Int) by omega)];apply a0 (Z93 _ _ rfl rfl _ rfl ?_);by_cases h2:b.length<=32
   ·rw[bY (show(b.length:Int)<=32 by omega)];apply a0 (Z15 _ rfl _ rfl (fun D hD=>k8 (b.map fun c=>V.bl (Po.isLetter c)) (by rw[aL];exact fO bN) hD (fun i H3 hi s3=>VR (by simpa using hi)) (fun H3 s3=>by rw[aL];exact UO) (fun i x y H3 H4 Kt hy s3 bT fz hk=>?_) (fun H3 s3 bT=>?_)))
    ·obtain⟨rfl,c,hc,rfl⟩:=Vu fz;rw[bR,hc]at hy;cases hy;apply⟨rfl,Z23 _ rfl (b8 c) _ rfl rfl ?_⟩;rw[acE];exact hk _ (aj.refl _)
    ·apply Z14 D (b.map Po.isLetter) rfl (aA.of (by rw[bT,f6];rfl)) ?_;have:=k H3 s3;rw[bY h1,bY h2,pF,pF]at this;have e:(b.map Po.isLetter).all id=b.all Po.isLetter:=by rw[List.all_map];rfl
     rw[e];exact this
   ·rw[bZ (show¬(b.length:Int)<=32 by omega)];have:=k H (aj.refl _);rw[bZ h2,Bool.false_and,Bool.and_false]at this;exact aO this
  ·rw[bZ (show¬(1:Int)<=(b.length:Int) by omega)];have:=k H (aj.refl _);rw[bZ h1,Bool.false_and]at this;exact aO (Z10 _ rfl (aO this))
def vh (i:bI):List (Str×V):=[("kind",.int (i.kind:Int)),("word",.str (tx i.word)),("optional",.bl i.may)]
def lX (C:ae)(H:Hp)(a:ae)(i:bI):Prop:=∃dx,H a=some (.bc C dx (vh i))
def Fx (pa ja:ae):List (Str×V):=[("pieces",.ref pa),("joints",.ref ja)]
structure dA (CI CF:ae)(H:Hp)(f pa ja:ae)(ps:List ae)(is:List bI)(js:List Nat):Prop where
 bu:∃dx,H f=some (.bc CF dx (Fx pa ja))
 pc:H pa=some (.ak (ps.map V.ref))
 it:Paired (lX CI H) ps is
 jt:H ja=some (.ak (js.map fun j=>V.int ((j:Nat):Int)))
theorem Paired.f9 {α β:Type}{F:α->β->Prop}:∀{l:List α}{m:List β},Paired F l m->∀{i:Nat}{a:α},l[i]?=some a->∃b,m[i]?=some b/\F a b
 | _,_,.nil,i,a,h=>by simp at h
 | _,_,.cons r t,0,a,h=>by simp at h;subst h;exact⟨_,rfl,r⟩
 | _,_,.cons r t,i+1,a,h=>by obtain⟨b,h1,h2⟩:=Paired.f9 t (i:=i) (a:=a) (by simpa using h);exact⟨b,by simpa using h1,h2⟩
def dA.same {CI CF:ae}{H H':Hp}{f pa ja:ae}{ps:List ae}{is:List bI}{js:List Nat}(F:dA CI CF H f pa ja ps is js)(s:aj H H'):dA CI CF H' f pa ja ps is js :=
 ⟨let ⟨dx,h⟩:=F.bu;⟨dx,s _ _ h⟩,s _ _ F.pc,L2.Paired.dc F.it fun _ _ ⟨dx,h⟩=>⟨dx,s _ _ h⟩,s _ _ F.jt⟩
def aa8 (C:ae):Sp:=fun vs H Q _=>∃(p dx:ae)(i:bI),vs=[.ref p,.int (i.kind:Int),.str (tx i.word),.bl i.may]/\H p=some (.bc C dx [])/\∀H':Hp,lX C H' p i->bf p H H'->Q .bx H'
def Z9:bD ["self","kind","word","optional"] ["self","kind","word","optional"] (aR RE):=bL
def aaj (T:Tx K mg):bg P w K mg base (bw P w) 1 T.Je T.RY ["self","kind","word","optional"] (aa8 T.bX):=by
 exists T.Ci.cj Z9
 ·obtain⟨p,dx,i,rfl,_⟩:=h;rfl
 ·obtain⟨p,dx,i,rfl,hp,k⟩:=h;apply⟨_,aD (fP (pv 0) (pv 1) rfl) (aD (fP (pv 0) (pv 2) rfl) (aF (fP (pv 0) (pv 3) rfl))),?_⟩;apply Z29 _ rfl _ rfl p _ dx [] ⟨rfl,hp,T.fU,T.jC,(show 0<1000 by decide),?_⟩;apply Z29 _ rfl _ rfl p _ dx _ ⟨rfl,aC,T.fU,T.vV,(show 1<1000 by decide),?_⟩;apply Z29 _ rfl _ rfl p _ dx _ ⟨rfl,aC,T.fU,T.qF,(show 2<1000 by decide),?_⟩;exact k _ ⟨dx,aC⟩ fun a o e n=>by rw[aq n,aq n,aq n];exact e
def aa9 (C:ae):Sp:=fun vs H Q _=>∃(p dx:ae),vs=[.ref p]/\H p=some (.bc C dx [])/\∀(H':Hp)(pa ja:ae),H pa=none->H ja=none->pa≠ja->H' p=some (.bc C dx (Fx pa ja))->H' pa=some (.ak [])->H' ja=some (.ak [])->bf p H H'->Q .bx H'
def aaa:bD ["self"] ["self"] (aR RF):=bL
def aak (T:Tx K mg):bg P w K mg base (bw P w) 1 T.Jf T.RZ ["self"] (aa9 T.cn):=by
 exists T.Cj.cj aaa
 ·obtain⟨p,dx,rfl,_⟩:=h;rfl
 ·obtain⟨p,dx,rfl,hp,k⟩:=h;apply⟨_,aD (fP (pv 0) (cz ax) rfl) (aF (fP (pv 0) (cz ax) rfl)),?_⟩;apply⟨bA _,fun pa xI=>Z18 _ rfl p _ dx [] rfl (by rw[aq (aQ hp xI)];exact hp) T.ij T.nv (show 0<1000 by decide) ?_⟩;have ve:p≠pa:=aQ hp xI;apply⟨bA _,fun ja n0=>?_⟩;have MY:p≠ja:=fun q=>by rw[<-q,aC]at n0;cases n0
  have nj:H ja=none:=by
   rw[aq MY.symm]at n0;by_cases q:ja=pa
   ·rw[q,aC]at n0;cases n0
   ·rw[aq q]at n0;exact n0
  have Xq:pa≠ja:=fun q=>by rw[<-q,aq ve.symm,aC]at n0;cases n0
  apply Z18 _ rfl p _ dx [("pieces",.ref pa)] rfl (by rw[aq MY,aC];rfl) T.ij T.yH (show 1<1000 by decide) ?_;apply k _ pa ja xI nj Xq aC ?_ ?_ fun a o e n=>?_
  ·rw[aq ve.symm,aq Xq,aq ve.symm,aC]
  ·rw[aq MY.symm,aC]
  ·rw[aq n,aq (aQ e nj),aq n,aq (aQ e xI)];exact e
def adv (CI CF:ae):Sp:=fun vs H Q _=>∃(f pa ja:ae)(ps:List ae)(is:List bI)(js:List Nat),vs=[.ref f]/\dA CI CF H f pa ja ps is js/\ps.length<=16/\∀H',aj H H'->Q (.bl (is.all fun i=>i.may)) H'
def OG:bD ["self","item"] ["self"] (aR F2):=bL
def OH (T:Tx K mg):bg P w K mg base (bw P w) 1 T.F4 T.OO ["self"] (adv T.bX T.cn):=by
 exists T.yh.cj OG
 ·obtain⟨f,pa,ja,ps,is,js,rfl,_⟩:=h;rfl
 ·obtain⟨f,pa,ja,ps,is,js,rfl,hF,hl,k⟩:=h;obtain⟨dx,hf⟩:=hF.bu;have nd:=OG.nd;have bN:ps.length=is.length:=Paired.length hF.it;apply⟨_,aF (aY (cD (zT rfl) rfl (T.tn T.uk) (by decide+kernel) (ao (jF rfl nd (iS (aX (pv 0) rfl)) (ic (N:=["self","item"]) (sc:=aR F2) (bO:=[("item",1)]) (by decide+kernel)) (fun _ _ _ _ _=>b9 (i:=1) nd rfl Olr) (fun _ _ _ _ _=>iR) (fun _ _ _ _ _=>Vl K (pv 1))) ax))),?_⟩;apply Z17 _ rfl f (Z78 _ dx _ _ rfl hf T.ij T.nv rfl pa rfl ⟨_,aA.of hF.pc⟩ (fun D hD=>k8 (is.map fun i=>V.bl i.may) (by rw[aL,<-bN];exact fO ⋯) hD (fun i H3 hi s3=>?_) (fun H3 s3=>?_) (fun i x y H3 H4 Kt hy s3 bT fz hk=>?_) (fun H3 s3 bT=>?_)))
  ·have iB:i<(ps.map V.ref).length:=by simp at hi⊢;omega
   exact⟨_,_,aA.of (s3 _ _ hF.pc),cB iB⟩
  ·exact⟨_,aA.of (s3 _ _ hF.pc),by simp[bN]⟩
  ·obtain⟨rfl,hx⟩:=fz;have hx:=hx _ (aA.of (s3 _ _ hF.pc));rw[bR]at hx;cases dP:ps[i]? with
   | none=>rw[dP]at hx;cases hx
   | some p =>rw[dP]at hx;cases hx;obtain⟨it,cb,dm,hI⟩:=Paired.f9 hF.it dP;rw[bR,cb]at hy;cases hy;exact⟨rfl,Z16 _ rfl p _ dm _ _ rfl (s3 _ _ hI) T.fU T.qF rfl (hk _ (aj.refl _))⟩
  ·apply Z14 D (is.map fun i=>i.may) rfl (aA.of (by rw[bT,f6];rfl)) ?_;have e:(is.map fun i=>i.may).all id=is.all fun i=>i.may:=by rw[List.all_map];rfl
   rw[e];exact k H3 s3
def acg (CI CF:ae):Sp:=fun vs H Q _=>∃(f pa ja:ae)(ps:List ae)(is:List bI)(js:List Nat)(k:Nat),vs=[.ref f,.int (k:Int)]/\dA CI CF H f pa ja ps is js/\ps.length<=16/\∀H',aj H H'->Q (.bl (Pm.gK is k)) H'
def Pq:bD ["self","kind","item"] ["self","kind"] (aR Hr):=bL
def PK (T:Tx K mg):bg P w K mg base (bw P w) 1 T.HB T.Qh ["self","kind"] (acg T.bX T.cn):=by
 exists T.yE.cj Pq
 ·obtain⟨f,pa,ja,ps,is,js,kd,rfl,_⟩:=h;rfl
 ·obtain⟨f,pa,ja,ps,is,js,kd,rfl,hF,hl,k⟩:=h;obtain⟨dx,hf⟩:=hF.bu;have nd:=Pq.nd;have bN:ps.length=is.length:=Paired.length hF.it;apply⟨_,aF (aY (cD (DG rfl) rfl (T.tn T.wN) (by decide+kernel) (ao (jF rfl nd (iS (aX (pv 0) rfl)) (ic (N:=["self","kind","item"]) (sc:=aR Hr) (bO:=[("item",2)]) (by decide+kernel)) (fun _ _ _ _ _=>b9 (i:=2) nd rfl Olr) (fun _ _ _ _ _=>iR) (fun _ _ _ _ _=>iT dW (Vl K (pv 2)) (pv 1) (bS _))) ax))),?_⟩;apply Z17 _ rfl f (Z78 _ dx _ _ rfl hf T.ij T.nv rfl pa rfl ⟨_,aA.of hF.pc⟩ (fun D hD=>k8 (is.map fun i=>V.bl (i.kind==kd)) (by rw[aL,<-bN];exact fO ⋯) hD (fun i H3 hi s3=>?_) (fun H3 s3=>?_) (fun i x y H3 H4 Kt hy s3 bT fz hk=>?_) (fun H3 s3 bT=>?_)))
  ·have iB:i<(ps.map V.ref).length:=by simp at hi⊢;omega
   exact⟨_,_,aA.of (s3 _ _ hF.pc),cB iB⟩
  ·exact⟨_,aA.of (s3 _ _ hF.pc),by simp[bN]⟩
  ·obtain⟨rfl,hx⟩:=fz;have hx:=hx _ (aA.of (s3 _ _ hF.pc));rw[bR]at hx;cases dP:ps[i]? with
   | none=>rw[dP]at hx;cases hx
   | some p =>
    rw[dP]at hx;cases hx;obtain⟨it,cb,dm,hI⟩:=Paired.f9 hF.it dP;rw[bR,cb]at hy;cases hy;apply⟨rfl,Z17 _ rfl p (Z78 _ dm _ _ rfl (s3 _ _ hI) T.fU T.jC rfl _ rfl rfl ?_)⟩;have e:decide (V.int (it.kind:Int)=V.int (kd:Int))=(it.kind==kd):=by
     by_cases h:it.kind=kd
     ·simp[h]
     ·have h':¬(it.kind:Int)=(kd:Int):=by omega
      simp[h,h']
    rw[e];exact hk _ (aj.refl _)
  ·apply Z14 D (is.map fun i=>i.kind==kd) rfl (aA.of (by rw[bT,f6];rfl)) ?_;have e:(is.map fun i=>i.kind==kd).any id=Pm.gK is kd:=by rw[List.any_map];rfl
   rw[e];exact k H3 s3
def ie {X:Cx}{x:Str}{b:ajG}{k:Nat}{pos:Pos}(h:x=tx b):PE X (.Constant (.str x) k pos) (tC (.str (tx b))):=h▸zQ
def ac9:((",":String):Str)=tx [44]:=by decide+kernel
def zy:((" ":String):Str)=tx [32]:=by decide+kernel
def abZ:(("/":String):Str)=tx [47]:=by decide+kernel
def Dc:(("\n":String):Str)=tx [10]:=by decide+kernel
def afR:(("?":String):Str)=tx [63]:=by decide+kernel
def VI:(("=":String):Str)=tx [61]:=by decide+kernel
def ac7:(("9a":String):Str)=tx [57,97]:=by decide+kernel
def one_sign {c:UInt8}(h:c∈bV):∀x∈[c],x∈bV:=fun x hx=>by simp at hx;rw[hx];exact h
def aeE (C CF:ae):Sp:=fun vs H Q E=>∃(r:ae)(b:ajG)(p:Nat),vs=[.ref r]/\cu C H r b p /\
 qf (Pm.f7 (b.drop p) p) b (fun j q=>∀H',cu C H' r b q->bf r H H'->Q (.int (j:Int)) H') (gV CF E (bf r H))
def ZH:bD ["reader"] ["reader"] (aR QZ):=bL
def ZR (T:Tx K mg):bg P w K mg base (bw P w) 5 T.Iq T.Rb ["reader"] (aeE T.cH T.d4):=by
 have GA:= @Gi P w K mg base T;have GD:= @BL P w K mg base T;exists T.yQ.iy ZH
 ·obtain⟨r,b,p,rfl,_⟩:=h;rfl
 ·obtain⟨r,b,p,rfl,dC,k1,k2⟩:=h;obtain⟨⟨dx,hR⟩,hp,hb⟩:=id dC;obtain⟨uC,mC,rC⟩:=(T.tg T.Li);obtain⟨uS,mS,rS⟩:=(T.tg T.C3);obtain⟨uB,mB,rB⟩:=(T.tg T.qY);have ET:dB 3 _:=hr.gv (by decide);apply⟨_,aD (bU (gm (cT (pv 0) T.cE T.vS GA ET (cp T.tN) .nil bE (ao (ie ac9) ax)))
    (aD (dR (cT (pv 0) T.cE T.pI GD hr (cp T.oj) .nil cY.dO (ao (ie zy) ax))) (aF (aY (bh rfl mC rC)))) b5)
   (aD (dR (cT (pv 0) T.cE T.pI GD hr (cp T.oj) .nil cY.dO (ao (ie zy) ax)))
   (aD (bU (gm (cT (pv 0) T.cE T.vS GA ET (cp T.tN) .nil bE (ao (ie abZ) ax)))
    (aD (dR (cT (pv 0) T.cE T.pI GD hr (cp T.oj) .nil cY.dO (ao (ie zy) ax))) (aF (aY (bh rfl mS rS)))) b5)
   (aF (aY (bh rfl mB rB))))),?_⟩
  have tail:∀q:Nat,(b.drop q).tail=b.drop (q+1):=fun q=>List.tail_drop;apply Z38 _ rfl r dx _ rfl hR rfl r b [44] p ⟨rfl,one_sign (by decide),dC,fun H1 jr iE=>Z10 _ rfl ?_⟩;obtain⟨⟨vG,qu⟩,gN,_⟩:=id jr;cases hs:Pm.b6 [44] (b.drop p)with
  | true =>
   rw[hs,aE rfl]at jr gN;have ajc:H1 r=some (.bc T.cH vG (qk b (p+1))):=by rw[hs,aE rfl]at qu;exact qu
   have rj:Pm.f7 (b.drop p) p=Pm.gb (Pm.cW 32 (b.drop (p+1)) (p+1)) fun _ r q=>.ok (1,r,q):=by unfold Pm.f7;rw[hs,aE rfl,tail]
   apply a0 (Z38 _ rfl r vG _ rfl ajc rfl r b 32 (p+1) ⟨rfl,by decide,jr,fun _ q e hq H2 fb fB=>?_,fun k e=>?_⟩)
   ·exact k1 1 q (by rw[rj,e];rfl) hq H2 fb (iE.trans fB)
   ·exact(k2 k (by rw[rj,e];rfl)).fZ fun H2 h2=>iE.trans h2
  | false =>
   rw[hs]at jr qu gN;have rj:Pm.f7 (b.drop p) p=Pm.gb (Pm.cW 32 (b.drop p) p) fun _ r q=>if Pm.b6 [47] r=true then Pm.gb (Pm.cW 32 r.tail (q+1)) fun _ s z=>.ok (2,s,z)else .ok (0,r,q):=by unfold Pm.f7;rw[hs,aB (by decide)]
   apply aO (Z38 _ rfl r vG _ rfl qu rfl r b 32 p ⟨rfl,by decide,jr,fun _ q e hq H2 fb fB=>?_,fun k e=>?_⟩)
   ·obtain⟨⟨kX,iD⟩,gy,_⟩:=id fb;rw[e,Pm.bj]at rj;apply Z38 _ rfl r kX _ rfl iD rfl r b [47] q ⟨rfl,one_sign (by decide),fb,fun H3 eL d6=>⟨_,rfl,?_⟩⟩;obtain⟨⟨me,gR⟩,kP,_⟩:=id eL;cases gF:Pm.b6 [47] (b.drop q)with
    | true =>
     rw[gF,aE rfl]at eL gR kP;rw[gF,aE rfl,tail]at rj;apply a0 (Z38 _ rfl r me _ rfl gR rfl r b 32 (q+1) ⟨rfl,by decide,eL,fun _ z e2 hz H4 jJ iO=>?_,fun k e2=>?_⟩)
     ·exact k1 2 z (by rw[rj,e2];rfl) hz H4 jJ (((iE.trans fB).trans d6).trans iO)
     ·exact(k2 k (by rw[rj,e2];rfl)).fZ fun H4 h4=>((iE.trans fB).trans d6).trans h4
    | false =>rw[gF]at eL rj;rw[aB (by decide)]at rj;exact aO (k1 0 q rj hq H3 eL ((iE.trans fB).trans d6))
   ·exact(k2 k (by rw[rj,e];rfl)).fZ fun H2 h2=>iE.trans h2
def aV (ws:List Word):List V:=ws.map fun x=>V.str (tx x)
def aet (C CF:ae):Sp:=fun vs H Q E=>∃(r:ae)(b:ajG)(p bM aN:Nat),vs=[.ref r,.int (bM:Int),.int (aN:Int)]/\bM<=aN/\1<=aN/\aN<=100/\cu C H r b p /\
 qf (Pm.gI aN bM (b.drop p) p) b (fun ws q=>∀(H':Hp)(a:ae),cu C H' r b q->bf r H H'->H a=none->H' a=some (.ak (aV ws))->Q (.ref a) H') (gV CF E (bf r H))
def Qs:bD ["self","least","most","words"] ["self","least","most"] (aR OK):=bL
def QG (T:Tx K mg):bg P w K mg base (bw P w) 6 T.F3 T.ON ["self","least","most"] (aet T.cH T.d4):=by
 have GS:= @yF P w K mg base T;have GD:= @BL P w K mg base T;have GW:= @OM P w K mg base T;exists T.vO.iy Qs
 ·obtain⟨r,b,p,bM,aN,rfl,_⟩:=h;rfl
 ·obtain⟨r,b,p,bM,aN,rfl,gz,NB,X9,dC,k1,k2⟩:=h;obtain⟨⟨dx,hR⟩,hp,hb⟩:=id dC;have nd:=Qs.nd;have hr2:dB 2 _:=hr.gv (by decide);have hr4:dB 4 _:=hr.gv (by decide);apply Z10 _ (aD (bB (i:=3) nd rfl Olr (cz (ao (nB (pv 0) T.cE T.yi GW hr (dE T.vP) .nil cY.dO) ax)))
   (aD (qR pU (PW.pt (LQ (cI p7 (cD gA rfl (T.tn T.d5) e7 (ao (pv 3) ax)) (pv 1) (bS _)) (Lu (PW.pt (wC (cI p7 (cD gA rfl (T.tn T.d5) e7 (ao (pv 3) ax)) (pv 2) (bS _)) (zH (lV (gm (cT (pv 0) T.cE T.tP GS hr2 (cp T.qG) .nil bE (ao (ie Dc) ax))))))))))
    (aD (dR (cT (pv 0) T.cE T.pI GD hr4 (cp T.oj) .nil cY.dO (ao (ie zy) ax)))
    (aF (dR (gp gU iQ iP hU (pv 3) (ao (nB (pv 0) T.cE T.yi GW hr (dE T.vP) .nil cY.dO) ax))))))
   (aF (aY (pv 3))))) ?_
  apply Z61 _ rfl r dx _ rfl hR rfl r b p ⟨rfl,dC,fun x q e hq H1 jr iE=>?_,fun k e=>k2 k (Lm.abS e)⟩;apply⟨eY,fun a ha=>?_⟩;have xR:H a=none:=by
   cases hh:H a with
   | none=>rfl
   | some o =>
    by_cases q:a=r
    ·obtain⟨vG,h1⟩:=jr.1;rw[q,h1]at ha;cases ha
    ·rw[iE a o hh q]at ha;cases ha
  have EG:a≠r:=fun q=>by rw[q,hR]at xR;cases xR
  have step:∀H',bf r H1 H'->bf r H H':=fun H' h=>iE.trans h
  let qi:L2.St:=[some (.ref r),some (.int (bM:Int)),some (.int (aN:Int)),some (.ref a)]
  let W:Nat->L2.St->Hp->Prop:=fun n σ H'=>∃(ws:List Word)(z:Nat),n=aN+1-ws.length/\σ=qi/\cu T.cH H' r b z/\bf r H H'/\H' a=some (.ak (aV ws))/\Lm.kD aN bM (b.drop p) p ws (b.drop z) z
  let G:Nat->L2.St->Hp->Prop:=fun n σ H'=>∃(ws:List Word)(z:Nat),n=aN+1-ws.length/\σ=qi/\cu T.cH H' r b z/\bf r H H'/\H' a=some (.ak (aV ws))/\Lm.kD aN bM (b.drop p) p ws (b.drop z) z/\Lm.oU aN bM ws (b.drop z)
  let Ex:L2.St->Hp->Prop:=fun σ H'=>∃(ws:List Word)(z:Nat),σ=qi/\cu T.cH H' r b z/\bf r H H'/\H' a=some (.ak (aV ws))/\Pm.gI aN bM (b.drop p) p= .ok (ws,b.drop z,z)
  apply v9 W G Ex _ (Z42 [x] q rfl rfl ?_ ?_ aC (.start NB e)) (fun X Y n σ H'=>?_) (fun n σ H'=>?_) (fun σ H'=>?_)
  ·obtain⟨⟨vG,h1⟩,h2⟩:=jr;exact⟨⟨vG,by rw[aq EG.symm];exact h1⟩,h2⟩
  ·exact fun c o hc hn=>by rw[aq (aQ (iE c o hc hn) ha)];exact iE c o hc hn
  ·rintro⟨ws,z,rfl,rfl,fb,fB,hl,hW⟩ hX hY;obtain⟨⟨kX,iD⟩,gy,_⟩:=id fb;have ew:(aV ws).length=ws.length:=by simp[aV]
   have ek:¬Lm.oU aN bM ws (b.drop z)->X qi H':=fun h=>hX _ _ (Z22 ws z rfl fb fB hl (hW.ek h));have go:Lm.oU aN bM ws (b.drop z)->Y qi H':=fun h=>hY _ _ (Z79 ws z rfl rfl fb fB hl hW h);apply Z33 _ rfl a _ (Z75 rfl (.inl (aA.of hl)) _ rfl _ _ rfl rfl _ rfl ?_);rw[ew];by_cases h1:ws.length<bM
   ·rw[bY (show(ws.length:Int)<(bM:Int) by omega)];exact a0 (a0 (go (.inl h1)))
   ·rw[bZ (show¬(ws.length:Int)<(bM:Int) by omega)];apply aO (Z33 _ rfl a _ (Z75 rfl (.inl (aA.of hl)) _ rfl _ _ rfl rfl _ rfl ?_));rw[ew];by_cases h2:ws.length<aN
    ·rw[bY (show(ws.length:Int)<(aN:Int) by omega)];apply a0 (Z63 _ rfl r kX _ rfl iD (Z87 rfl r b [10] z rfl (one_sign (by decide)) fb _ rfl ?_));cases hs:Pm.b6 [10] (b.drop z)with
     | true=>exact aO (ek fun g=>by rcases g with g|g;exact h1 g;rw[hs]at g;cases g.2)
     | false=>exact a0 (go (.inr ⟨h2,hs⟩))
    ·rw[bZ (show¬(ws.length:Int)<(aN:Int) by omega)];exact aO (aO (ek fun g=>by rcases g with g|g;exact h1 g;exact h2 g.1))
  ·rintro⟨ws,z,rfl,rfl,fb,fB,hl,hW,h⟩;obtain⟨⟨kX,iD⟩,gy,_⟩:=id fb;have ew:(aV ws).length=ws.length:=by simp[aV]
   apply Z38 _ rfl r kX _ rfl iD rfl r b 32 z ⟨rfl,by decide,fb,fun _ y e1 hy H3 eL d6=>?_,fun k e1=>(k2 k (hW.ML h e1)).fZ fun H3 h3=>fB.trans h3⟩;obtain⟨⟨me,gR⟩,kP,_⟩:=id eL;have bT:H3 a=some (.ak (aV ws)):=d6 a _ hl EG;apply Z12 _ rfl (.inl ⟨rfl,_,aA.of bT⟩) (Z61 _ rfl r me _ rfl gR rfl r b y ⟨rfl,eL,fun v u e2 hu H4 jJ iO=>?_,fun k e2=>(k2 k (hW.MK h e1 e2)).fZ fun H4 h4=>(fB.trans d6).trans h4⟩);have sP:H4 a=some (.ak (aV ws)):=iO a _ bT EG;have hN:=hW.next gz h e1 e2;have hn:=hN.i9;have o4:(ws++[v]).length=ws.length+1:=by simp
   apply Z13 a _ _ rfl rfl sP (by rw[ew];exact fi (show ws.length<200 by omega) (by decide)) ?_;apply Z33 (aN+1-(ws++[v]).length) ⋯ (ws++[v]) u ⟨rfl,rfl,?_,?_,?_,hN⟩
   ·obtain⟨⟨Bj,h1⟩,h2⟩:=jJ;exact⟨⟨Bj,by rw[aq EG.symm];exact h1⟩,h2⟩
   ·exact fun c o hc hn=>by have h4:=iO c o (d6 c o (fB c o hc hn) hn) hn;rw[aq (fun q=>by rw[q,xR]at hc;cases hc)];exact h4
   ·rw[aC];simp[aV]
  ·rintro⟨ws,z,rfl,fb,fB,hl,e2⟩;exact⟨_,rfl,k1 ws z e2 fb.2.1 H' a fb fB xR hl⟩
end Ad
namespace L2
open PySem PySem.Spec PyProof.Rows
def ae0 {X:Cx}{a:Expr}{pos:Pos}{ta:TE}(ha:PE X a ta):PE X (.UnaryOp .Not a pos) (fun σ H Q=>ta σ H fun x H1=>∃k,MO X.K x H1 k/\Q (.bl (!k)) H1):=by intro af s σ H Q I h;apply UnaryOp_ (aS (ha af s σ H _ I h) fun v s1=>?_);rintro⟨x,H1,I1,r1,k,tv,q1⟩;exact not_of (wpAny_mono (VJ af s1 σ H1 x v (fun b H2=>Q (.bl (!b)) H2) I1 r1 ⟨k,tv,q1⟩) (fun b s' ⟨H2,I2,q⟩=>⟨.bl (!b),H2,I2,rfl,q⟩) fun _ _ z=>z)
def cF {te:TE}{g:TG}{b7:TS}{D:gc}{σ:St}{H:Hp}(h:te σ H fun x H1=>g x σ H1 (b7 D)):nL (D3 te g) b7 D σ H:=h
def ck {i:Nat}{v:V}{σ:St}{H:Hp}{Q:St->Hp->Prop}(h:Q (σ.set i (some v)) H):wQ i v σ H Q:=h
def dS {n b c:St->Hp->Prop}{r:VK}{σ:St}{H:Hp}(h:n σ H):V5 {nx:=n,rt:=r,bk:=b,ct:=c} σ H:=h
def qQ {ta tb:TE}{σ:St}{H:Hp}{Q:VK}(x y:Bool)(ha:∀Q':VK,Q' (.bl x) H->ta σ H Q')(hb:x=true->∀Q':VK,Q' (.bl y) H->tb σ H Q')(hq:Q (.bl (x&&y)) H):V8 ta tb σ H Q:=by
 apply ha _ ⟨x,rfl,?_⟩;cases x with
 | true=>exact a0 (hb rfl _ hq)
 | false=>exact aO hq
end L2
namespace Ad
open PySem PySem.Spec PyProof.Rows L2
open Po (Word Got)
open Rm (b8 bV jK)
variable {P:Program}{w:World}{K:aI}{mg:Str->Option ah}{base:Heap}
def pW:List V:=aV Po.KINDS
def zF:([.str "person",.str "house",.str "street",.str "number",.str "district",.str "town",.str "code",.str "box",.str "land"]:List V)=pW:=by decide+kernel
def Cn:∀{n i:Nat},i<n->(List.range n).take (i+1)=(List.range n).take i++[i]:=fun{n i}h=>kj (by rw[lL h])
def ow (H:Hp)(ru CR:ae)(shape:Bool):Prop:=∃dx fs sa xs,H ru=some (.bc CR dx fs)/\fs.lookup ("shapes":Str)=some (V.ref sa)/\H sa=some (.ak xs)/\shape= !xs.isEmpty
def ow.same {H H':Hp}{ru CR:ae}{shape:Bool}(h:ow H ru CR shape)(s:aj H H'):ow H' ru CR shape :=
 let ⟨dx,fs,sa,xs,h1,h2,h3,h4⟩:=h
 (Z32 dx fs sa xs (s _ _ h1) h2 (s _ _ h3) h4)
def aeA (CI CF CR:ae):Sp:=fun vs H Q _=>∃(f ru pa ja:ae)(ps:List ae)(is:List bI)(js:List Nat)(shape:Bool),vs=[.ref f,.ref ru]/\dA CI CF H f pa ja ps is js/\ps.length<=16/\ow H ru CR shape /\
 ∀(H':Hp)(a:ae),aj H H'->H a=none->H' a=some (.ak (aV (Pm.names is shape)))->Q (.ref a) H'
def t4 (is:List bI)(shape:Bool)(i:Nat):List ajG:=[61]::(((List.range 9).take i).filter fun k=>(k !=Po.CODE||shape)&& !Pm.gK is k).map Pm.eR
def O0:bD ["form","rules","names","kind","name","without_shape"] ["form","rules"] (aR Pr):=bL
def Zf (T:Tx K mg):bg P w K mg base (bw P w) 2 T.G9 T.PL ["form","rules"] (aeA T.bX T.cn T.cQ):=by
 have GH:= @PK P w K mg base T;exists T.yx.cj O0
 ·obtain⟨f,ru,pa,ja,ps,is,js,shape,rfl,_⟩:=h;rfl
 ·obtain⟨f,ru,pa,ja,ps,is,js,shape,rfl,hF,hl,xT,k⟩:=h;obtain⟨uO,mO,rO⟩:=(T.tg T.Cq);rw[show(Str.ofString "=")=tx [61]from VI]at rO;obtain⟨uC,mC,rC⟩:=(T.tg T.DE);obtain⟨ka,mK,tK⟩:=(T.tu T.ub);rw[zF]at tK;have nd:=O0.nd;apply Z10 _ (aD (bB (i:=2) nd rfl Olr (cz (ao (bh rfl mO rO) ax)))
   (aD (jh PassesOwn.never rfl (UA rfl (T.tn T.vX) (ao (bh (v:=.ref ka) rfl mK rfl) ax)) (jj rfl (dF (b9 (i:=3) nd rfl Olr) (dF (b9 (i:=4) nd rfl Olr) jf)))
    (aD (bB (i:=5) nd rfl Olr (lW (iT dW (pv 3) (bh rfl mC rC) (bS _)) (kx (ae0 (aX (pv 1) rfl)))))
    (aF (bU (PW.pt (wC (lV (gm (pv 5))) (zH (lV (gm (cT (pv 0) T.ij T.BR GH hr (cp T.yE) .nil bE (ao (pv 3) ax)))))))
     (aF (dR (gp gU iQ iP hU (pv 2) (ao (pv 4) ax)))) b5))))
   (aF (aY (pv 2))))) ?_
  apply⟨eY,fun a ha=>?_⟩;apply Z14 ka _ rfl (tK.sq _) (uc 9 (fun i σ H'=>∃v3 v4 v5,σ=[some (.ref f),some (.ref ru),some (.ref a),v3,v4,v5]/\aj H H'/\H' a=some (.ak (aV (t4 is shape i)))) (Z19 none none none rfl (aj.new ha) aC) (fun i σ H' hi _=>⟨tK.sq _,hi⟩) (fun σ H' _=>⟨tK.sq _,bo _⟩) (fun i x σ H' H2 hi p hy=>?_) (fun σ H' p=>?_))
  ·obtain⟨v3,v4,v5,rfl,s1,gY⟩:=p;obtain⟨Tt,nm,rfl,hT,rfl,sO⟩:=hy;have Ms:nm= .str (tx (Pm.eR i)):=by
    have e:pW[i]?=some (V.str (tx (Pm.eR i))):=by
     have hk:∀j:Fin 9,pW[j.val]?=some (V.str (tx (Pm.eR j.val))):=by decide+kernel
     exact hk ⟨i,hi⟩
    rw[e]at sO;exact(d3 sO).symm
   subst Ms;have s2:aj H (ay H' Tt (.bp [.int (i:Nat),.str (tx (Pm.eR i))])):=s1.trans (aj.new hT);have l7:(ay H' Tt (.bp [.int (i:Nat),.str (tx (Pm.eR i))])) a=some (.ak (aV (t4 is shape i))):=by rw[aq (aQ gY hT)];exact gY
   obtain⟨dx,fs,sa,xs,h1,h2,h3,h4⟩:=xT.same s2;apply Z39 Tt _ rfl (cS.of aC) rfl _ _ rfl _ _ rfl rfl ?_;have lB:t4 is shape (i+1)=t4 is shape i++(if((i !=Po.CODE||shape)&& !Pm.gK is i)=true then[Pm.eR i]else[]):=by
    unfold t4;rw[Cn hi,List.filter_append,cV,List.cons_append];congr 2;by_cases hc:((i !=Po.CODE||shape)&& !Pm.gK is i)=true
    ·rw[aE hc];simp[hc]
    ·rw[aB hc];simp[hc]
   apply cF (qQ (decide (i=Po.CODE)) (!shape) (fun Q' q=>?_) (fun _ Q' q=>?_) ?_)
   ·apply⟨_,rfl,rfl,?_⟩;have e:decide (V.int (i:Int)=V.int 6)=decide (i=Po.CODE):=by
     by_cases h:i=6
     ·simp[h,Po.CODE]
     ·have h':¬(i:Int)=6:=by omega
      simp[h,h',Po.CODE]
    rw[e];exact q
   ·apply Z10 _ rfl (Z37 ru _ dx fs _ rfl h1 T.dG T.pJ h2 _ (.inl ⟨_,aA.of h3,rfl⟩) ?_);rw[<-h4];exact q
   ·apply Z15 _ rfl _ rfl ?_;cases sr:(decide (i=Po.CODE)&& !shape)with
    | true =>
     have hc:((i !=Po.CODE||shape)&& !Pm.gK is i)=false:=by rw[dw,eE]at sr;simp[sr.1];cases shape<;>simp_all
     rw[hc]at lB;apply aO (aO (Z19 _ _ _ rfl s2 ?_));rw[lB];simpa using l7
    | false =>
     have hc:((i !=Po.CODE||shape)&& !Pm.gK is i)= !Pm.gK is i:=by
      have:(i !=Po.CODE||shape)=true:=by
       by_cases h:i=Po.CODE
       ·simp[h]at sr⊢;exact sr
       ·simp[h]
      rw[this,pF]
     rw[hc]at lB;obtain⟨g0,hf⟩:=(hF.same s2).bu;apply a0 (Z21 _ rfl f g0 _ rfl hf rfl (Z50 _ rfl f pa ja ps is js i rfl (hF.same s2) hl (fun H3 s3=>Z10 _ rfl ?_)));cases hk:Pm.gK is i with
     | true =>rw[hk]at lB;apply aO (Z19 _ _ _ rfl (s2.trans s3) ?_);rw[lB];simpa using s3 _ _ l7
     | false =>
      rw[hk]at lB;have bT:=s3 _ _ l7;apply a0 (Z11 _ rfl (.inl ⟨rfl,_,aA.of bT⟩) _ rfl (Z13 a _ _ rfl rfl bT ?_ (Z19 _ _ _ rfl ((s2.trans s3).i0 ha) ?_)))
      ·have:(t4 is shape i).length<=10:=by unfold t4;rw[dQ,aL];have:=tH (fun k=>(k !=Po.CODE||shape)&& !Pm.gK is k) ((List.range 9).take i);rw[gH,qB]at this;omega
       rw[aV,aL];exact jd this (by decide)
      ·rw[aC,lB];simp[aV]
  ·obtain⟨v3,v4,v5,rfl,s1,gY⟩:=p;exact⟨_,rfl,k H' a s1 ha gY⟩
def mx (z:Int):Bool:=decide (0<z)&&Po.isWide z.toNat
def ael (z:Int):mx z=((decide (1<=z)&&decide (z<=1114111))&& !(decide (55296<=z)&&decide (z<=57343))):=by
 unfold mx Po.isWide;by_cases h:0<z
 ·have e:z=(z.toNat:Int):=by omega
  generalize z.toNat=c at e;subst e;by_cases h1:1<=c<;>by_cases h2:c<=1114111<;>by_cases h3:c<55296<;>by_cases h4:57343<c <;>
   (have e1:decide ((0:Int)<(c:Int))=true:=by simp;omega
    have e2:decide ((1:Int)<=(c:Int))=decide (1<=c):=by simp;omega
    have e3:decide ((c:Int)<=1114111)=decide (c<=1114111):=by simp;omega
    have e4:decide ((55296:Int)<=(c:Int))= !decide (c<55296):=by by_cases q:c<55296<;>simp[q]<;>omega
    have e5:decide ((c:Int)<=57343)= !decide (57343<c):=by by_cases q:57343<c<;>simp[q]<;>omega
    rw[e1,e2,e3,e4,e5];simp[h1,h2,h3,h4])
 ·have e1:decide (0<z)=false:=by simp;omega
  have e2:decide (1<=z)=false:=by simp;omega
  rw[e1,e2];simp
def ua {r r':R2}{ta tb tc:TE}{σ:L2.St}{H:Hp}{Q:VK}(x y z:Int)(p q:Bool)(ha:∀Q':VK,Q' (.int x) H->ta σ H Q')(hb:∀Q':VK,Q' (.int y) H->tb σ H Q')(hc:∀Q':VK,Q' (.int z) H->tc σ H Q')(hr:∀Q':VK,Q' (.bl p) H->r (.int x) (.int y) H Q')(qo:∀Q':VK,Q' (.bl q) H->r' (.int y) (.int z) H Q')(h:Q (.bl (p&&q)) H):Lp r r' ta tb tc σ H Q:=by
 apply ha _ (hb _ (hr _ ⟨p,rfl,?_⟩));cases p with
 | true=>exact a0 (hc _ (qo _ h))
 | false=>exact aO h
def ae9 {ta:TE}{σ:L2.St}{H:Hp}{Q:VK}(p:Bool)(ha:∀Q':VK,Q' (.bl p) H->ta σ H Q')(h:Q (.bl (!p)) H):V4 ta σ H Q:=ha _ ⟨p,rfl,h⟩
def ado:Sp:=fun vs H Q _=>∃z:Int,vs=[.int z]/\Q (.bl (mx z)) H
def abf:bD ["number"] ["number"] (aR Td):=bL
def abu (T:Tx K mg):bg P w K mg base (bw P w) 1 T.J9 T.T2 ["number"] ado:=by
 exists T.zt.cj abf
 ·obtain⟨z,rfl,_⟩:=h;rfl
 ·obtain⟨z,rfl,k⟩:=h;obtain⟨u1,m1,r1⟩:=(T.tg T.IU);obtain⟨u2,m2,r2⟩:=(T.tg T.G8);obtain⟨u3,m3,r3⟩:=(T.tg T.Hu);apply⟨_,aF (aY (lW (C0 jG jG bQ (pv 0) (bh rfl m1 r1)) (kx (DA (C0 jG jG (bh rfl m2 r2) (pv 0) (bh rfl m3 r3)))))),?_⟩;apply qQ (decide ((1:Int)<=z)&&decide (z<=1114111)) (!(decide (55296<=z)&&decide (z<=57343))) (fun Q' q=>?_) (fun _ Q' q=>?_) ?_
  ·exact ua 1 z 1114111 _ _ (fun _ q=>q) (fun _ q=>⟨_,rfl,q⟩) (fun _ q=>q) (fun _ q=>⟨_,_,rfl,rfl,q⟩) (fun _ q=>⟨_,_,rfl,rfl,q⟩) q
  ·exact ae9 _ (fun Q' q=>ua 55296 z 57343 _ _ (fun _ q=>q) (fun _ q=>⟨_,rfl,q⟩) (fun _ q=>q) (fun _ q=>⟨_,_,rfl,rfl,q⟩) (fun _ q=>⟨_,_,rfl,rfl,q⟩) q) q
  ·rw[<-ael];exact k
def acO:([[.int 39,.int 39],[.int 96,.int 96],[.int 173,.int 173],[.int 180,.int 180],[.int 700,.int 700],[.int 768,.int 879],[.int 8203,.int 8205],[.int 8216,.int 8217],[.int 8288,.int 8288],[.int 65279,.int 65279]]:List (List V))=Po.GONE.map fun x=>[V.int (x.1:Int),V.int (x.2:Int)]:=by decide+kernel
def Ls {α:Type}{as:List ae}{l:List α}{f:α->List V}(h:Paired (nP K) as (l.map f)){i:Nat}{b:ae}(hb:as[i]?=some b):∃y,l[i]?=some y/\nP K b (f y):=by
 obtain⟨r,h1,h2⟩:=Paired.f9 h hb;rw[bR]at h1;cases hl:l[i]? with
 | none=>rw[hl]at h1;cases h1
 | some y =>rw[hl]at h1;cases h1;exact⟨y,rfl,h2⟩
def aa5:Sp:=fun vs H Q _=>∃c:Nat,vs=[.int (c:Int)]/\∀H',aj H H'->Q (.bl (Fm.qN c)) H'
def Rt:bD ["character","first","last"] ["character"] (aR Jo):=bL
def aaA (T:Tx K mg):bg P w K mg base (bw P w) 1 T.JE T.SA ["character"] aa5:=by
 exists T.zg.cj Rt
 ·obtain⟨c,rfl,_⟩:=h;rfl
 ·obtain⟨c,rfl,k⟩:=h;obtain⟨ta,as,mV,tV,pV⟩:=(T.tw T.IT);rw[acO]at pV;have nd:=Rt.nd;have bN:as.length=Po.GONE.length:=by rw[Paired.length pV,aL]
  apply Z10 _ (aF (aY (cD (DG rfl) rfl (T.tn T.wN) (by decide+kernel) (ao (jF rfl nd (wD (bh (v:=.ref ta) rfl mV rfl)) (ic (N:=["character","first","last"]) (sc:=aR Jo) (bO:=[("first",1),("last",2)]) (by decide+kernel))
   (fun _ _ _ _ _=>(jj rfl (dF (b9 (i:=1) nd rfl (Or.inl rfl)) (dF (b9 (i:=2) nd rfl (Or.inl rfl)) jf)):PG _ _ (uP K 2 _))) (fun _ _ _ _ _=>iR) (fun _ _ _ _ _=>C0 jG jG (pv 1) (pv 0) (pv 2))) ax)))) ?_
  apply Z12 ta rfl ⟨_,tV.sq _⟩ (fun D hD=>k8 (Po.GONE.map fun x=>V.bl (decide (x.1<=c)&&decide (c<=x.2))) (by show 10<=sizeLine;decide) hD (fun i H3 hi s3=>?_) (fun H3 s3=>?_) (fun i x y H3 H4 Kt hy s3 bT fz hk=>?_) (fun H3 s3 bT=>?_))
  ·have iB:i<(as.map V.ref).length:=by rw[aL,bN];simpa using hi
   exact⟨_,_,tV.sq _,cB iB⟩
  ·exact⟨_,tV.sq _,by rw[aL,aL,bN];exact bo _⟩
  ·obtain⟨rfl,hx⟩:=fz;have hx:=hx _ (tV.sq _);rw[bR]at hx;cases dP:as[i]? with
   | none=>rw[dP]at hx;cases hx
   | some p =>
    rw[dP]at hx;cases hx;obtain⟨g,hg,tg⟩:=Ls pV dP;rw[bR,hg]at hy;cases hy;apply Z51 p _ rfl (tg.sq _) rfl _ _ rfl _ _ ⟨rfl,rfl,rfl,?_⟩;have e1:decide ((g.1:Int)<=(c:Int))=decide (g.1<=c):=by simp
    have e2:decide ((c:Int)<=(g.2:Int))=decide (c<=g.2):=by simp
    apply ua (g.1:Int) (c:Int) (g.2:Int) _ _ (fun _ q=>⟨_,rfl,q⟩) (fun _ q=>⟨_,rfl,q⟩) (fun _ q=>⟨_,rfl,q⟩) (fun _ q=>⟨_,_,rfl,rfl,q⟩) (fun _ q=>⟨_,_,rfl,rfl,q⟩) ?_;rw[e1,e2];exact hk _ (aj.refl _)
  ·apply Z14 D (Po.GONE.map fun x=>decide (x.1<=c)&&decide (c<=x.2)) rfl (aA.of (by rw[bT,f6];rfl)) ?_;have e:((Po.GONE.map fun x=>decide (x.1<=c)&&decide (c<=x.2)).any id)=Fm.qN c:=by rw[List.any_map];rfl
   rw[e];exact k H3 s3
theorem J4 {α:Type}{p:α->Bool}:∀{l:List α}{i:Nat}{x:α},l[i]?=some x->(∀y∈l.take i,p y=false)->p x=true->l.find? p=some x
 | [],i,x,h,_,_=>by simp at h
 | a::l,0,x,h,_,hp=>by simp at h;subst h;simp[List.find?,hp]
 | a::l,i+1,x,h,hn,hp=>by have ha:p a=false:=hn a (by simp);simp only[List.find?,ha];exact J4 (by simpa using h) (fun y hy=>hn y (by simp[hy])) hp
def UU {α:Type}{p:α->Bool}{l:List α}(h:∀y∈l,p y=false):l.find? p=none:=by rw[Bu];intro y hy;rw[h y hy];decide
def ah0 (x:Nat×ajG):List V:=[V.int (x.1:Int),V.str (tx x.2)]
def ahe (x:Nat×Nat×ajG):List V:=[V.int (x.1:Int),V.int (x.2.1:Int),V.str (tx x.2.2)]
def aeP (T:Tx K mg):wR K mg "ROWS_OF_LETTERS" (Fm.pM.map ah0):=cast (congrArg (wR K mg _) (by decide+kernel)) (T.tw T.Gj)
def aeN (T:Tx K mg):wR K mg "SAME_LETTERS" (Fm.oo.map ahe):=cast (congrArg (wR K mg _) (by decide+kernel)) (T.tw T.HH)
def acf:Sp:=fun vs H Q _=>∃c:Nat,vs=[.int (c:Int)]/\Q (.str (tx (Fm.fT c))) H
def Qw:bD ["character","first","letters","last"] ["character"] (aR Q1):=bL
def ZU (T:Tx K mg):bg P w K mg base (bw P w) 1 T.Iw T.Ri ["character"] acf:=by
 exists T.yU.cj Qw
 ·obtain⟨c,rfl,_⟩:=h;rfl
 ·obtain⟨c,rfl,k⟩:=h;obtain⟨u1,m1,r1⟩:=(T.tg T.Hv);obtain⟨u2,m2,r2⟩:=(T.tg T.HI);obtain⟨ta,as,mA,tA,pA⟩:=aeP T;obtain⟨tb,bs,mB,tB,pB⟩:=aeN T;have nd:=Qw.nd;have fN:as.length=Fm.pM.length:=by rw[Paired.length pA,aL]
  have Yc:bs.length=Fm.oo.length:=by rw[Paired.length pB,aL]
  apply Z10 _ (aD (bU (CW jG jG (bh rfl m1 r1) (pv 0) (bh rfl m2 r2)) (aF (bB (i:=0) nd rfl Olr (e9 rl (pv 0) bQ))) b5)
   (aD (jh PassesOwn.never rfl (wD (bh (v:=.ref ta) rfl mA rfl)) (jj rfl (dF (b9 (i:=1) nd rfl Olr) (dF (b9 (i:=2) nd rfl Olr) jf)))
    (aF (bU (CW jG p7 (pv 1) (pv 0) (e9 k7 (pv 1) (cD om rfl (T.tn T.d5) e7 (ao (pv 2) ax)))) (aF (aY (cZ zS (pv 2) (e9 rl (pv 0) (pv 1)) (fun _ _=>rfl)))) b5)))
   (aD (jh PassesOwn.never rfl (wD (bh (v:=.ref tb) rfl mB rfl)) (jj rfl (dF (b9 (i:=1) nd rfl Olr) (dF (b9 (i:=3) nd rfl Olr) (dF (b9 (i:=2) nd rfl Olr) jf))))
    (aF (bU (CW jG jG (pv 1) (pv 0) (pv 3)) (aF (aY (pv 2))) b5)))
   (aF (aY (ie (b:=[]) (by decide+kernel))))))) ?_
  apply dj (fun σ H'=>σ=[some (.int ((Fm.rV c:Nat):Int)),none,none,none]/\H'=H) (fun X hX=>?_) ?_
  ·apply ua 224 (c:Int) 254 _ _ (fun _ q=>q) (fun _ q=>⟨_,rfl,q⟩) (fun _ q=>q) (fun _ q=>⟨_,_,rfl,rfl,q⟩) (fun _ q=>⟨_,_,rfl,rfl,q⟩) ⟨_,rfl,?_⟩
   ·have e1:decide ((224:Int)<=(c:Int))=decide (224<=c):=by simp;omega
    have e2:decide ((c:Int)<=254)=decide (c<=254):=by simp;omega
    rw[e1,e2];by_cases h:224<=c/\c<=254
    ·rw[bY h.1,bY h.2];apply a0 (Z23 _ rfl _ _ rfl rfl (hX _ _ ⟨?_,rfl⟩));have e:((c:Int)-32)=((Fm.rV c:Nat):Int):=by unfold Fm.rV;rw[aE h];omega
     show[some (V.int ((c:Int)-32)),none,none,none]=_;rw[e]
    ·have e:(decide (224<=c)&&decide (c<=254))=false:=by
      by_cases h1:224<=c
      ·have h2:¬c<=254:=fun q=>h ⟨h1,q⟩;simp[h2]
      ·simp[h1]
     rw[e];apply aO (hX _ _ ⟨?_,rfl⟩);unfold Fm.rV;rw[aB h];rfl
  ·rintro σ H' ⟨rfl,rfl⟩;generalize hd:Fm.rV c=d;have kd:Q (.str (tx (Fm.qP d))) H':=by rw[<-hd];exact k
   apply dj (fun σ H2=>H2=H'/\(∃v1 v2 v3,σ=[some (.int (d:Int)),v1,v2,v3])/\∀y∈Fm.pM,Fm.wO d y=false) (fun X hX=>?_) ?_
   ·apply Z12 ta rfl ⟨_,tA.sq _⟩ (uc Fm.pM.length (fun i σ H2=>H2=H'/\(∃v1 v2 v3,σ=[some (.int (d:Int)),v1,v2,v3])/\∀y∈Fm.pM.take i,Fm.wO d y=false) ⟨rfl,⟨_,_,_,rfl⟩,fun y hy=>by simp at hy⟩ (fun i σ H2 hi _=>?_) (fun σ H2 _=>?_) (fun i x σ H2 H3 hi p hy=>?_) (fun σ H2 p=>?_))
    ·have iB:i<(as.map V.ref).length:=by rw[aL,fN];exact hi
     exact⟨_,_,tA.sq _,cB iB⟩
    ·exact⟨_,tA.sq _,by rw[aL,fN];exact bo _⟩
    ·obtain⟨rfl,⟨v1,v2,v3,rfl⟩,gf⟩:=p;obtain⟨rfl,hx⟩:=hy;have hx:=hx _ (tA.sq _);rw[bR]at hx;cases dP:as[i]? with
     | none=>rw[dP]at hx;cases hx
     | some p =>
      rw[dP]at hx;cases hx;obtain⟨g,hg,tg⟩:=Ls pA dP;apply Z39 p _ rfl (tg.sq _) rfl _ _ rfl _ _ rfl rfl ?_;have Wh:(tx g.2).length<=sizeLine:=by
       have:∀y∈Fm.pM,y.2.length<=26:=by decide
       rw[dz];exact fO (b3 (this g (fC hg)) (by decide))
      apply ua (g.1:Int) (d:Int) ((g.1:Int)+((tx g.2).length:Int)) _ _ (fun _ q=>⟨_,rfl,q⟩) (fun _ q=>⟨_,rfl,q⟩) (fun _ q=>Z15 _ rfl _ rfl (Z94 _ rfl Wh _ _ rfl rfl q)) (fun _ q=>⟨_,_,rfl,rfl,q⟩) (fun _ q=>Z14 _ _ rfl rfl q) (Z10 _ rfl ?_)
      ·have e1:decide ((g.1:Int)<=(d:Int))=decide (g.1<=d):=by simp
       have e2:decide ((d:Int)<(g.1:Int)+((tx g.2).length:Int))=decide (d<g.1+g.2.length):=by rw[dz];simp;omega
       rw[e1,e2];cases cX:(decide (g.1<=d)&&decide (d<g.1+g.2.length))with
       | true =>
        have Mx:Fm.wO d g=true:=cX;have hh:g.1<=d/\d<g.1+g.2.length:=by rw[dw,eE,eE]at cX;exact cX
        have br:d-g.1<g.2.length:=by omega
        have A3:=cB br;apply a0 (Z64 _ rfl _ rfl _ (Z95 rfl _ _ rfl rfl _ _ (b8 g.2[d-g.1]) rfl rfl Wh ?_ ?_))
        ·have e:((d:Int)-(g.1:Int))=((d-g.1:Nat):Int):=by omega
         rw[e];exact dH (by rw[iH,bR,A3];rfl)
        ·have e:Fm.qP d=[g.2[d-g.1]]:=by unfold Fm.qP;rw[J4 hg gf Mx];show Fm.Cv d g=_;unfold Fm.Cv;rw[A3]
         rw[e]at kd;exact kd
       | false =>
        apply aO ⟨rfl,⟨_,_,_,rfl⟩,fun y hy=>?_⟩;rw[kj hg]at hy;rcases eQ.mp hy with q|q
        ·exact gf y q
        ·simp at q;rw[q];exact cX
    ·obtain⟨e1,e2,gf⟩:=p;rw[ni]at gf;exact hX _ _ ⟨e1,e2,gf⟩
   ·rintro σ H2 ⟨rfl,⟨v1,v2,v3,rfl⟩,aiL⟩;have la:Fm.qP d=match Fm.oo.find? (Fm.ui d)with|some x=>x.2.2|none=>[]:=by unfold Fm.qP;rw[UU aiL]<;>rfl
    rw[la]at kd;apply dj (fun σ H3=>H3=H2/\∀y∈Fm.oo,Fm.ui d y=false) (fun X hX=>?_) ?_
    ·apply Z12 tb rfl ⟨_,tB.sq _⟩ (uc Fm.oo.length (fun i σ H3=>H3=H2/\(∃v1 v2 v3,σ=[some (.int (d:Int)),v1,v2,v3])/\∀y∈Fm.oo.take i,Fm.ui d y=false) ⟨rfl,⟨_,_,_,rfl⟩,fun y hy=>by simp at hy⟩ (fun i σ H3 hi _=>?_) (fun σ H3 _=>?_) (fun i x σ H3 H4 hi p hy=>?_) (fun σ H3 p=>?_))
     ·have iB:i<(bs.map V.ref).length:=by rw[aL,Yc];exact hi
      exact⟨_,_,tB.sq _,cB iB⟩
     ·exact⟨_,tB.sq _,by rw[aL,Yc];exact bo _⟩
     ·obtain⟨rfl,⟨v1,v2,v3,rfl⟩,gf⟩:=p;obtain⟨rfl,hx⟩:=hy;have hx:=hx _ (tB.sq _);rw[bR]at hx;cases dP:bs[i]? with
      | none=>rw[dP]at hx;cases hx
      | some p =>
       rw[dP]at hx;cases hx;obtain⟨g,hg,tg⟩:=Ls pB dP;apply Z51 p _ rfl (tg.sq _) rfl _ _ rfl _ _ (Z45 rfl _ _ rfl rfl ?_);apply ua (g.1:Int) (d:Int) (g.2.1:Int) _ _ (fun _ q=>⟨_,rfl,q⟩) (fun _ q=>⟨_,rfl,q⟩) (fun _ q=>⟨_,rfl,q⟩) (fun _ q=>⟨_,_,rfl,rfl,q⟩) (fun _ q=>⟨_,_,rfl,rfl,q⟩) (Z10 _ rfl ?_)
       ·have e1:decide ((g.1:Int)<=(d:Int))=decide (g.1<=d):=by simp
        have e2:decide ((d:Int)<=(g.2.1:Int))=decide (d<=g.2.1):=by simp
        rw[e1,e2];cases cX:(decide (g.1<=d)&&decide (d<=g.2.1))with
        | true =>have Mx:Fm.ui d g=true:=cX;rw[J4 hg gf Mx]at kd;exact a0 ⟨_,rfl,kd⟩
        | false =>
         apply aO ⟨rfl,⟨_,Z108 _ _ rfl⟩,fun y hy=>?_⟩;rw[kj hg]at hy;rcases eQ.mp hy with q|q
         ·exact gf y q
         ·simp at q;rw[q];exact cX
     ·obtain⟨e1,e2,gf⟩:=p;rw[ni]at gf;exact hX _ _ ⟨e1,gf⟩
    ·rintro σ H3 ⟨rfl,aiK⟩;rw[UU aiK]at kd;exact kd
def JN (a b:ajG):tx a++tx b=tx (a++b):=by apply wB ?_;have:=TL.JO (tx a) (tx b);show TL.tl (tx a++tx b)=_;rw[this];show(tx a).cps.toList++(tx b).cps.toList=_;rw[iH,iH,cV]
end Ad
namespace L2
open PySem PySem.Spec PyProof.Rows
def Ur {v:V}{i:Nat}{b7:TS}{D:gc}{σ:St}{H:Hp}(h:b7 D (σ.set i (some v)) H):nL (D3 (tC v) (wQ i)) b7 D σ H:=h
def Vc {i:Nat}{te:TE}{ti:Bl}{b7:TS}{D:gc}{σ:St}{H:Hp}(x:V)(hx:σ[i]?=some (some x))(h:te σ H fun y H1=>ti x y H1 fun z H2=>b7 D (σ.set i (some z)) H2):nL (Wq i te ti) b7 D σ H:=⟨x,hx,h⟩
end L2
namespace Ad
open PySem PySem.Spec PyProof.Rows L2
open Po (Word Got)
open Rm (b8 bV jK)
variable {P:Program}{w:World}{K:aI}{mg:Str->Option ah}{base:Heap}
def DL (x:Word×Nat):List V:=[V.str (tx x.1),V.int (x.2:Int)]
structure lT (H:Hp)(l:ae)(ps:List ae)(ws:List (Word×Nat)):Prop where
 ak:H l=some (.ak (ps.map V.ref))
 it:Paired (fun p x=>H p=some (.bp (DL x))) ps ws
def lT.same {H H':Hp}{l:ae}{ps:List ae}{ws:List (Word×Nat)}(W:lT H l ps ws)(s:aj H H'):lT H' l ps ws:=⟨s _ _ W.ak,L2.Paired.dc W.it fun _ _ h=>s _ _ h⟩
def lT.add {H:Hp}{l t:ae}{ps:List ae}{ws:List (Word×Nat)}{x:Word×Nat}(W:lT H l ps ws)(ht:H t=none):lT (ay (ay H t (.bp (DL x))) l (.ak (ps.map V.ref++[V.ref t]))) l (ps++[t]) (ws++[x]):=by
 have nlt:l≠t:=aQ W.ak ht;apply⟨by rw[aC,cV];rfl,Paired.snoc (L2.Paired.dc W.it fun p y h=>?_) ?_⟩
 ·rw[aq (aJ h W.ak nofun),aq (aQ h ht)];exact h
 ·rw[aq nlt.symm,aC]
def RL (c:Nat):(Fm.fT c).length<=3:=by
 unfold Fm.fT Fm.qP;split
 ·unfold Fm.Cv;split<;>simp
 ·split
  ·rename_i x h
   have key:∀y∈Fm.oo,y.2.2.length<=3:=by decide
   exact key _ (pE h)
  ·simp
def acF (l:List (Word×Nat))(x:Word×Nat):Fm.lO (l++[x])=some x.2:=by unfold Fm.lO;simp
def CS (x:Word):(((tx x).length:Int)!=0)=decide (x≠[]):=by
 rw[dz];cases x with
 | nil=>rfl
 | cons c t =>simp[bne_iff_ne];omega
def lP (g:Fm.G):g.eW=if g.word=[]then g else⟨g.cO++[(g.word,g.line)],[],g.line⟩:=rfl
def dg (cs:List Nat)(i:Nat):Fm.G:=(cs.take i).foldl Fm.G.step ⟨[],[],0⟩
def KH {cs:List Nat}{i c:Nat}(h:cs[i]?=some c):dg cs (i+1)=(dg cs i).step c:=by unfold dg;rw[kj h,List.foldl_append];rfl
def adq (K:aI):Sp:=fun vs H Q _=>∃(a:ae)(cs:List Nat),vs=[.ref a]/\aA K H a (cs.map fun c=>V.int ((c:Nat):Int))/\cs.length<=1000/\∀(H':Hp)(l:ae)(ps:List ae),aj H H'->H l=none->lT H' l ps (Fm.mq cs)->Q (.ref l) H'
def O2:bD ["address","words","word","line","character","letters"] ["address"] (aR Pw):=bL
def Zh (T:Tx K mg):bg P w K mg base (bw P w) 2 T.Hc T.PQ ["address"] (adq K):=by
 have GL:= @ZU P w K mg base T;have GV:= @aaA P w K mg base T;exists T.yA.cj O2
 ·obtain⟨a,cs,rfl,_⟩:=h;rfl
 ·obtain⟨a,cs,rfl,hS,bN,k⟩:=h;obtain⟨u1,m1,r1⟩:=(T.tg T.Jz);have nd:=O2.nd;apply Z10 _ (aD (bB (i:=1) nd rfl Olr (cz ax)) (aD (bB (i:=2) nd rfl Olr (ie (b:=[]) (by decide+kernel))) (aD (bB (i:=3) nd rfl Olr bQ)
   (aD (jh PassesOwn.never rfl (iS (pv 0)) (b9 (i:=4) nd rfl Olr)
    (aD (bB (i:=5) nd rfl Olr (cy GL hr rfl (T.tm T.II) T.yU.kp (dE T.yU) .nil bE (ao (pv 4) ax)))
    (aD (uf (i:=2) nd rfl Olr (pv 5) RO)
    (aD (bU (PW.pt (LQ (t8 (pv 5) (fun _=>rfl)) (Lu (gm (cy GV hr rfl (T.tm T.JK) T.zg.kp (dE T.zg) .nil bE (ao (pv 4) ax)))))) (aF aax) b5)
    (aD (bU (t8 (pv 2) (fun _=>rfl)) (aD (dR (gp gU iQ iP hU (pv 1) (ao (zP (ao (pv 2) (ao (pv 3) ax))) ax))) (aF (bB (i:=2) nd rfl Olr (ie (b:=[]) (by decide+kernel))))) b5)
    (aF (bU (PW.pt (wC (cI dW (pv 4) (bh rfl m1 r1) (bS _)) (wC (t8 (pv 1) (fun _=>rfl)) (zH (cI dW (cZ zR (cZ eU (pv 1) (DK Dt bQ) (fun _ _=>rfl)) bQ (fun _ _=>rfl)) (pv 3) (bS _)))))) (aF (uf (i:=3) nd rfl Olr bQ DD)) b5)))))))
   (aD (bU (t8 (pv 2) (fun _=>rfl)) (aF (dR (gp gU iQ iP hU (pv 1) (ao (zP (ao (pv 2) (ao (pv 3) ax))) ax)))) b5)
   (aF (aY (pv 1)))))))) ?_
  have ci:∀i:Nat,∀y:V,(cs.map fun c=>V.int ((c:Nat):Int))[i]?=some y->∃c,cs[i]?=some c/\y= .int (c:Int):=fun i y h=>by
   rw[bR]at h;cases hc:cs[i]? with
   | none=>rw[hc]at h;cases h
   | some c=>rw[hc]at h;exact⟨c,rfl,(d3 h).symm⟩
  apply cF ?_;apply⟨bA _,fun l hl=>ck (Ur (Ur ?_))⟩;have sl:aj H (L2.ay H l (.ak [])):=aj.new hl
  let Pv:Nat->L2.St->Hp->Prop:=fun i σ H'=>∃(ps:List ae)(v4 v5:Option V),σ=[some (.ref a),some (.ref l),some (.str (tx (dg cs i).word)),some (.int (((dg cs i).line:Nat):Int)),v4,v5]/\aj H H'/\lT H' l ps (dg cs i).cO/\(dg cs i).word.length<=3*i/\(dg cs i).cO.length<=i
  apply dj (fun σ H'=>Pv cs.length σ H') (fun X hX=>?_) ?_
  ·apply Z24 _ rfl a rfl ⟨_,sl.seq hS⟩ ?_;have el:(cs.map fun c=>V.int ((c:Nat):Int)).length=cs.length:=by simp
   apply ou (K:=K) (a:=a) (xs:=cs.map fun c=>V.int ((c:Nat):Int)) Pv (Z13 [] none none rfl sl ⟨aC,.nil⟩ (bo _) (bo _)) (fun i σ H' _ h=>let ⟨_,_,_,_,h,_⟩:=h;h.seq hS) ?_ (fun σ H' h=>hX _ _ (by rw[el]at h;exact h));rintro i y σ H' hi ⟨ps,v4,v5,rfl,sm,hW,hb1,vq⟩;obtain⟨c,hc,rfl⟩:=ci i y hi;have jR:i<cs.length:=(fD.mp hc).1;have gs:=KH hc;have ll:=RL c;apply cF ?_;apply Z15 _ rfl c rfl (ck (Vc _ rfl ?_));apply Z46 _ rfl _ _ rfl rfl ?_ ?_
   ·rw[dz,dz];exact fO ⋯
   rw[JN];generalize gx:(dg cs i).word++Fm.fT c=w1;have Yr:w1.length<=3*(i+1):=by rw[<-gx,cq];omega
   have XN:(tx w1).length<=sizeLine:=by rw[dz];exact fO ⋯
   apply Z15 _ rfl _ ⟨by rw[dz];exact fO ⋯,rfl⟩ ?_;rw[CS];by_cases bJ:Fm.fT c=[]
   ·rw[bZ (show¬Fm.fT c≠[]from fun q=>q bJ)];apply aO (Z15 _ rfl c rfl (fun H2 s2=>Z10 _ rfl ?_));have vv:=hW.same s2;have qj:=sm.trans s2;cases hv:Fm.qN c with
    | true =>
     apply a0 (Z13 ps (some (.int (c:Int))) (some (.str (tx (Fm.fT c)))) ?_ qj ?_ ?_ ?_)
     all_goals rw[gs]
     all_goals unfold Fm.G.step
     all_goals simp only[bJ,hv,if_true,or_true,ne_eq,not_true_eq_false,false_or]
     ·rw[bJ]at gx;rw[<-gx];rfl
     ·exact vv
     ·rw[bJ]at gx;rw[gx];exact Yr
     ·omega
    | false =>
     have N7:(dg cs i).step c=(let g2:=(⟨(dg cs i).cO,w1,(dg cs i).line⟩:Fm.G).eW;if c=10/\Fm.lO g2.cO=some g2.line then⟨g2.cO,g2.word,g2.line+1⟩else g2):=by unfold Fm.G.step;simp only[bJ,hv,ne_eq,not_true_eq_false,Bool.false_eq_true,or_self,if_false];rw[<-gx,bJ]
     apply aO (dS ?_);apply dj (fun σ H3=>∃(ps:List ae)(g2:Fm.G),g2=(⟨(dg cs i).cO,w1,(dg cs i).line⟩:Fm.G).eW/\σ=[some (.ref a),some (.ref l),some (.str (tx [])),some (.int (g2.line:Int)),some (.int (c:Int)),some (.str (tx (Fm.fT c)))]/\aj H H3/\lT H3 l ps g2.cO/\g2.word=[]/\g2.cO.length<=i+1) (fun X2 A8=>?_) ?_
     ·apply Z15 _ rfl _ ⟨XN,rfl⟩ ?_;rw[CS];by_cases jN:w1=[]
      ·rw[bZ (show¬w1≠[]from fun q=>q jN)];apply aO (A8 _ _ (Z42 ps _ rfl ?_ qj ?_ ?_ ?_))
       ·rw[lP,aE jN,jN];rfl
       ·rw[lP,aE jN];exact vv
       ·rw[lP,aE jN];exact jN
       ·rw[lP,aE jN];exact Nat.le_succ_of_le vq
      ·rw[bY (show w1≠[]from jN)];apply a0 (Z96 _ rfl (.inl ⟨rfl,_,aA.of vv.ak⟩) _ rfl _ rfl wY (fun t ht=>?_));have bT:(L2.ay H2 t (.bp [.str (tx w1),.int (((dg cs i).line:Nat):Int)])) l=some (.ak (ps.map V.ref)):=by rw[aq (aQ vv.ak ht)];exact vv.ak
       have cR:ps.length<=i:=by rw[Paired.length vv.it];exact vq
       apply Z13 l _ _ rfl rfl bT (by rw[aL];exact jd cR (fi jR (b3 bN (by decide)))) ?_;apply A8 _ _ (Z42 (ps++[t]) _ rfl ?_ ((qj.trans (aj.new ht)).i0 hl) ?_ ?_ ?_)
       ·rw[lP,aB jN];rfl
       ·rw[lP,aB jN];exact vv.add (x:=(w1,(dg cs i).line)) ht
       ·rw[lP,aB jN]
       ·rw[lP,aB jN,cq];simp;omega
     ·rintro σ H3 ⟨nT,g2,hg2,rfl,ly,n9,Ed,WW⟩;rw[<-hg2]at N7;have fS:¬(c=10/\Fm.lO g2.cO=some g2.line)->∀H4,aj H3 H4->Pv (i+1) [some (.ref a),some (.ref l),some (.str (tx [])),some (.int (g2.line:Int)),some (.int (c:Int)),some (.str (tx (Fm.fT c)))] H4:=fun gf H4 s4=>by
       have e:dg cs (i+1)=g2:=by rw[gs,N7];exact aB gf
       apply Z13 nT (some (.int (c:Int))) (some (.str (tx (Fm.fT c)))) ?_ (ly.trans s4) ?_ ?_ ?_
       ·rw[e,Ed]
       ·rw[e];exact n9.same s4
       ·rw[e,Ed];simp
       ·rw[e];exact WW
      apply Z11 _ rfl rfl _ rfl ?_;by_cases N5:c=10
      ·rw[bY (show V.int (c:Int)=V.int 10 by rw[N5];rfl)];apply a0 (Z15 _ rfl _ (.inl ⟨_,aA.of n9.ak,rfl⟩) ?_);have xH:nT.length=g2.cO.length:=Paired.length n9.it;rcases List.eq_nil_or_concat g2.cO with WT|⟨wi,wl,lB⟩
       ·have Nz:nT=[]:=List.length_eq_zero_iff.mp (by rw[xH,WT];rfl);rw[Nz];apply aO (aO (fS (fun q=>?_) H3 (aj.refl _)));rw[WT]at q;exact absurd q.2 (by unfold Fm.lO;simp)
       ·have lB:g2.cO=wi++[wl]:=by rw[lB,List.concat_eq_append]
        have aiH:nT≠[]:=fun q=>by rw[q,lB]at xH;simp at xH
        obtain⟨pi,pl,fA⟩:∃pi pl,nT=pi++[pl]:=by
         rcases List.eq_nil_or_concat nT with q|⟨u,v,q⟩
         ·exact absurd q aiH
         ·exact⟨u,v,by rw[q,List.concat_eq_append]⟩
        have cR:H3 pl=some (.bp (DL wl)):=by
         have dP:pi.length=wi.length:=by rw[fA,lB]at xH;simp at xH;exact xH
         have h1:nT[pi.length]?=some pl:=by rw[fA];simp
         obtain⟨y,h2,h3⟩:=Paired.f9 n9.it h1;rw[lB,dP]at h2;simp at h2;rw[h2];exact h3
        have htr:(!(nT.map V.ref).isEmpty)=true:=by rw[fA];simp
        rw[htr];apply a0 (Z15 _ rfl _ rfl (Z97 l _ _ _ rfl rfl (aA.of n9.ak) ?_ pl _ 1 _ ⟨rfl,rfl,cS.of cR,rfl,Z11 _ rfl rfl _ rfl ?_⟩))
        ·rw[fA,cV];exact KP _ _
        ·have Ya:Fm.lO g2.cO=some wl.2:=by rw[lB,acF]
         by_cases NC:wl.2=g2.line
         ·rw[bY (show V.int (wl.2:Int)=V.int (g2.line:Int) by rw[NC])];have e:dg cs (i+1)=⟨g2.cO,g2.word,g2.line+1⟩:=by rw[gs,N7];exact aE ⟨N5,by rw[Ya,NC]⟩
          apply a0 (Z23 _ rfl _ _ rfl rfl (Z13 nT (some (.int (c:Int))) (some (.str (tx (Fm.fT c)))) ?_ ly ?_ ?_ ?_))
          ·rw[e,Ed];rfl
          ·rw[e];exact n9
          ·rw[e,Ed];simp
          ·rw[e];exact WW
         ·rw[bZ (show¬V.int (wl.2:Int)=V.int (g2.line:Int) by intro q;injection q with q;omega)];apply aO (fS (fun q=>?_) H3 (aj.refl _));rw[Ya]at q;exact NC (d3 q.2)
      ·rw[bZ (show¬V.int (c:Int)=V.int 10 by intro q;injection q with q;omega)];exact aO (aO (fS (fun q=>N5 q.1) H3 (aj.refl _)))
   ·rw[bY (show Fm.fT c≠[]from bJ)];apply a0 (a0 (Z13 ps (some (.int (c:Int))) (some (.str (tx (Fm.fT c)))) ?_ sm ?_ ?_ ?_))
    all_goals rw[gs]
    all_goals unfold Fm.G.step
    all_goals simp only[bJ,ne_eq,not_false_eq_true,true_or,if_true]
    ·rw[gx];rfl
    ·exact hW
    ·rw[gx];exact Yr
    ·omega
  ·rintro σ H' ⟨ps,v4,v5,rfl,sm,hW,hb1,vq⟩;have hg:Fm.mq cs=(dg cs cs.length).eW.cO:=by unfold Fm.mq dg;rw[ni]
   apply dj (fun σ H3=>∃ps v2 v3 v4 v5,σ=[some (.ref a),some (.ref l),v2,v3,v4,v5]/\aj H H3/\lT H3 l ps (Fm.mq cs)) (fun X2 A8=>?_) ?_
   ·apply Z15 _ rfl _ ⟨by rw[dz];exact fO ⋯,rfl⟩ ?_;rw[CS];by_cases jN:(dg cs cs.length).word=[]
    ·rw[bZ (show¬(dg cs cs.length).word≠[]from fun q=>q jN)];apply aO (A8 _ _ (Z80 ps _ _ _ _ rfl sm ?_));rw[hg,lP,aE jN];exact hW
    ·rw[bY (show(dg cs cs.length).word≠[]from jN)];apply a0 (Z96 _ rfl (.inl ⟨rfl,_,aA.of hW.ak⟩) _ rfl _ rfl wY (fun t ht=>?_));have bT:(L2.ay H' t (.bp [.str (tx (dg cs cs.length).word),.int (((dg cs cs.length).line:Nat):Int)])) l=some (.ak (ps.map V.ref)):=by rw[aq (aQ hW.ak ht)];exact hW.ak
     have cR:ps.length<=cs.length:=by rw[Paired.length hW.it];exact vq
     apply Z13 l _ _ rfl rfl bT (by rw[aL];exact jd cR (jd bN (by decide))) ?_;apply A8 _ _ (Z80 (ps++[t]) _ _ _ _ rfl ((sm.trans (aj.new ht)).i0 hl) ?_);rw[hg,lP,aB jN];exact hW.add (x:=((dg cs cs.length).word,(dg cs cs.length).line)) ht
   ·rintro σ H3 ⟨nT,v2,v3,v4,v5,rfl,ly,n9⟩;exact⟨_,rfl,k H3 l nT ly hl n9⟩
def Lx {ta tb:TE}{σ:L2.St}{H:Hp}{Q:VK}(x y:Bool)(ha:∀Q':VK,Q' (.bl x) H->ta σ H Q')(hb:∀Q':VK,Q' (.bl y) H->tb σ H Q')(hq:Q (.bl (x||y)) H):Wo ta tb σ H Q:=by
 apply ha _ ⟨x,rfl,?_⟩;cases x with
 | true=>exact a0 hq
 | false=>exact aO (hb _ hq)
theorem UR {α:Type}{p:α->Bool}:∀{l:List α}{i:Nat}{z:α},l[i]?=some z->(∀y∈l.take i,p y=false)->p z=true->l.findIdx? p=some i
 | [],i,z,h,_,_=>by simp at h
 | a::l,0,z,h,_,hp=>by simp at h;subst h;simp[List.findIdx?_cons,hp]
 | a::l,i+1,z,h,hn,hp=>by have ha:p a=false:=hn a (by simp);rw[List.findIdx?_cons,ha,UR (l:=l) (i:=i) (z:=z) (by simpa using h) (fun y hy=>hn y (by simp[hy])) hp];simp
def adX {α:Type}{p:α->Bool}{l:List α}(h:∀y∈l,p y=false):l.findIdx? p=none:=by rw[List.findIdx?_eq_none_iff];exact h
def nG (CM:ae)(E:XK)(Kp:Hp->Prop):Prop:=∀H':Hp,Kp H'->E (.ref CM) none H'
def acb:Sp:=fun vs H Q _=>∃(l:ae)(ps:List ae)(ws:List (Word×Nat)),vs=[.ref l]/\lT H l ps ws/\ps.length<=1000/\(∀x∈ws,x.1.length<=1000000)/\∀H',aj H H'->Q (.bl (Fm.CT ws)) H'
def Qj:bD ["words","word","line"] ["words"] (aR HN):=bL
def Zu (T:Tx K mg):bg P w K mg base (bw P w) 1 T.HS T.QN ["words"] acb:=by
 exists T.yK.cj Qj
 ·obtain⟨l,ps,ws,rfl,_⟩:=h;rfl
 ·obtain⟨l,ps,ws,rfl,hW,hl,eZ,k⟩:=h;obtain⟨u1,m1,r1⟩:=(T.tg T.FW);obtain⟨u2,m2,r2⟩:=(T.tg T.FZ);obtain⟨u3,m3,r3⟩:=(T.tg T.yI);have nd:=Qj.nd;have bN:ps.length=ws.length:=Paired.length hW.it;apply Z10 _ (aD (bU (cI wM (cD gA rfl (T.tn T.d5) e7 (ao (pv 0) ax)) (bh rfl m1 r1) (bS _)) (aF (aY rq)) b5)
   (aF (aY (cD (DG rfl) rfl (T.tn T.wN) (by decide+kernel) (ao (jF rfl nd (iS (pv 0)) (ic (N:=["words","word","line"]) (sc:=aR HN) (bO:=[("word",1),("line",2)]) (by decide+kernel))
    (fun _ _ _ _ _=>(jj rfl (dF (b9 (i:=1) nd rfl (Or.inl rfl)) (dF (b9 (i:=2) nd rfl (Or.inl rfl)) jf)):PG _ _ (uP K 2 _))) (fun _ _ _ _ _=>iR)
    (fun _ _ _ _ _=>LR (iT zX (pv 2) (bh rfl m2 r2) (bS _)) (kx (iT wM (cD om rfl (T.tn T.d5) e7 (ao (pv 1) ax)) (bh rfl m3 r3) (bS _))))) ax))))) ?_
  apply Z65 _ rfl l _ rfl (.inl (aA.of hW.ak)) _ _ rfl rfl _ rfl ?_;rw[aL,bN];unfold Fm.CT at k;by_cases W3:128<ws.length
  ·rw[bY (show(128:Int)<(ws.length:Int) by omega)];have:=k H (aj.refl _);rw[bY W3,Bool.true_or]at this;exact a0 this
  ·rw[bZ (show¬(128:Int)<(ws.length:Int) by omega)];rw[bZ W3,Bool.false_or]at k;apply aO (Z24 _ rfl l rfl ⟨_,aA.of hW.ak⟩ (fun D hD=>k8 (ws.map fun x=>V.bl (decide (8<=x.2)||decide (32<x.1.length))) (by rw[aL,<-bN];exact fO ⋯) hD (fun i H3 hi s3=>?_) (fun H3 s3=>?_) (fun i x y H3 H4 Kt hy s3 bT fz hk=>?_) (fun H3 s3 bT=>?_)))
   ·have iB:i<(ps.map V.ref).length:=by rw[aL,bN];simpa using hi
    exact⟨_,_,aA.of (s3 _ _ hW.ak),cB iB⟩
   ·exact⟨_,aA.of (s3 _ _ hW.ak),by simp[bN]⟩
   ·obtain⟨rfl,hx⟩:=fz;have hx:=hx _ (aA.of (s3 _ _ hW.ak));rw[bR]at hx;cases dP:ps[i]? with
    | none=>rw[dP]at hx;cases hx
    | some p =>
     rw[dP]at hx;cases hx;obtain⟨g,hg,hgp⟩:=Paired.f9 hW.it dP;rw[bR,hg]at hy;cases hy;apply Z51 p _ rfl (cS.of (s3 _ _ hgp)) rfl _ _ rfl _ _ ⟨rfl,rfl,rfl,?_⟩;apply Lx _ _ (fun _ q=>Z23 _ rfl _ _ rfl rfl q) (fun _ q=>Z10 _ rfl (Z94 _ rfl (by rw[dz];exact fO (eZ g (fC hg))) _ _ rfl rfl q)) ?_;have e1:decide ((8:Int)<=(g.2:Int))=decide (8<=g.2):=by simp;omega
     have e2:decide ((32:Int)<((tx g.1).length:Int))=decide (32<g.1.length):=by rw[dz];simp;omega
     rw[e1,e2];exact hk _ (aj.refl _)
   ·apply Z14 D (ws.map fun x=>decide (8<=x.2)||decide (32<x.1.length)) rfl (aA.of (by rw[bT,f6];rfl)) ?_;have e:((ws.map fun x=>decide (8<=x.2)||decide (32<x.1.length)).any id)=ws.any fun p=>decide (8<=p.2)||decide (32<p.1.length):=by rw[List.any_map];rfl
    rw[e];exact k H3 s3
def Jq (T:Tx K mg){E:XK}{Kp:Hp->Prop}{H1:Hp}(h:nG T.gJ E Kp)(hK:Kp H1)(a:ae)(ha:H1 a=none):∃a' C dx H0,V.ref a= .ref a'/\gE K C/\(ay H1 a (XE a T.gJ Option.none .none)) a'=some (XE a' C dx .none)/\aj H0 (ay H1 a (XE a T.gJ Option.none .none))/\H0 a'=Option.none/\E (.ref C) dx H0 :=
 (Z35 a T.gJ none H1 rfl T.qL.xc aC (aj.new ha) ha (h H1 hK))
def aca (K:aI)(CF CM:ae):Sp:=fun vs H Q E=>∃(a:ae)(zs:List Int),vs=[.ref a]/\aA K H a (zs.map V.int) /\
 (512<zs.length->nG CM E (aj H))/\(zs.length<=512->(∀k,zs.findIdx? (fun z=> !mx z)=some k->gV CF E (aj H) k) /\
  (zs.findIdx? (fun z=> !mx z)=none->(Po.tooMuch (Po.wordsOf (zs.map Int.toNat))=true->nG CM E (aj H)) /\
   (Po.tooMuch (Po.wordsOf (zs.map Int.toNat))=false->∀(H':Hp)(l:ae)(ps:List ae),aj H H'->H l=none->lT H' l ps (Fm.sh (Po.wordsOf (zs.map Int.toNat)))->Q (.ref l) H')))
def aaV (cs:List Nat):∀x∈Fm.mq cs,x.1.length<=3*cs.length:=by
 have key:∀i,i<=cs.length->(dg cs i).word.length<=3*i/\∀x∈(dg cs i).cO,x.1.length<=3*i:=by
  intro i
  induction i with
  | zero=>intro _;exact⟨bA _,fun x hx=>by simp[dg]at hx⟩
  | succ i ih =>
   intro hi;obtain⟨h1,h2⟩:=ih ⋯;have hc:=cB (show i<cs.length by omega);rw[KH hc];generalize cs[i]=c;have ll:=RL c;have hw:((dg cs i).word++Fm.fT c).length<=3*(i+1):=by rw[cq];omega
   have xX:∀x∈(dg cs i).cO,x.1.length<=3*(i+1):=fun x hx=>b3 (h2 x hx) ⋯;have iM:∀g:Fm.G,g.word.length<=3*(i+1)->(∀x∈g.cO,x.1.length<=3*(i+1))->g.eW.word.length<=3*(i+1)/\∀x∈g.eW.cO,x.1.length<=3*(i+1):=fun g q1 q2=>by
    rw[lP];split
    ·exact⟨q1,q2⟩
    ·apply⟨by simp,fun x hx=>?_⟩;rcases eQ.mp hx with q|q
     ·exact q2 x q
     ·simp at q;rw[q];exact q1
   unfold Fm.G.step;simp only;split
   ·exact⟨hw,xX⟩
   ·have:=iM ⟨(dg cs i).cO,(dg cs i).word++Fm.fT c,(dg cs i).line⟩ hw xX;split
    ·exact this
    ·exact this
 intro x hx;obtain⟨h1,h2⟩:=key cs.length (bo _);have hg:Fm.mq cs=(dg cs cs.length).eW.cO:=by unfold Fm.mq dg;rw[ni]
 rw[hg,lP]at hx;split at hx
 ·exact h2 x hx
 ·rcases eQ.mp hx with q|q
  ·exact h2 x q
  ·simp at q;rw[q];exact h1
def RP (g:Fm.G):g.eW.cO.length<=g.cO.length+1:=by
 rw[lP];split
 ·exact Nat.le_succ _
 ·simp
def aaq (cs:List Nat):(Fm.mq cs).length<=cs.length+1:=by
 have key:∀i,i<=cs.length->(dg cs i).cO.length<=i:=by
  intro i
  induction i with
  | zero=>intro _;exact bo _
  | succ i ih =>
   intro hi;have h1:=ih ⋯;have hc:=cB (show i<cs.length by omega);rw[KH hc];generalize cs[i]=c;unfold Fm.G.step;simp only;split
   ·exact Nat.le_succ_of_le h1
   ·have:=RP ⟨(dg cs i).cO,(dg cs i).word++Fm.fT c,(dg cs i).line⟩;split
    ·exact b3 this (Nat.succ_le_succ h1)
    ·exact b3 this (Nat.succ_le_succ h1)
 have hg:Fm.mq cs=(dg cs cs.length).eW.cO:=by unfold Fm.mq dg;rw[ni]
 rw[hg];exact b3 (RP _) (Nat.succ_le_succ (key _ (bo _)))
def Rr:bD ["address","place","number","words"] ["address"] (aR Sd):=bL
def aaz (T:Tx K mg):bg P w K mg base (bw P w) 3 T.JD T.Sz ["address"] (aca K T.d4 T.gJ):=by
 have GW:= @abu P w K mg base T;have GG:= @Zh P w K mg base T;have GM:= @Zu P w K mg base T;have GF:= @BZ P w K mg base T;exists T.zf.iy Rr
 ·obtain⟨a,zs,rfl,_⟩:=h;rfl
 ·obtain⟨a,zs,rfl,hS,k1,k2⟩:=h;obtain⟨u1,m1,r1⟩:=(T.tg T.Gm);have nd:=Rr.nd;have sI:dB 1 _:=hr.gv (by decide);apply Z10 _ (aD (bU (cI wM (cD gA rfl (T.tn T.d5) e7 (ao (pv 0) ax)) (bh rfl m1 r1) (bS _)) (aF (t9 cY rfl (JS T.qL.xc T.y9 rfl (T.tm T.wj)))) b5)
   (aD (jh pU rfl (Vk rfl (T.tn T.vX) (ao (pv 0) ax)) (jj rfl (dF (b9 (i:=1) nd rfl Olr) (dF (b9 (i:=2) nd rfl Olr) jf)))
    (aF (bU (lV (gm (cy GW sI rfl (T.tm T.Kk) T.zt.kp (dE T.zt) .nil bE (ao (pv 2) ax)))) (aF (t9 cY rfl (CZ T.lQ.xc T.wk GF hr rfl (T.tm T.ud) (cp T.tR) (ao (pv 1) ax)))) b5)))
   (aD (bB (i:=3) nd rfl Olr (cy GG hr rfl (T.tm T.Hn) T.yA.kp (dE T.yA) .nil bE (ao (pv 0) ax)))
   (aD (bU (gm (cy GM sI rfl (T.tm T.HZ) T.yK.kp (dE T.yK) .nil bE (ao (pv 3) ax))) (aF (t9 cY rfl (JS T.qL.xc T.y9 rfl (T.tm T.wj)))) b5)
   (aF (aY (pv 3))))))) ?_
  apply Z65 _ rfl a _ rfl (.inl hS) _ _ rfl rfl _ rfl ?_;rw[aL];by_cases oP:512<zs.length
  ·rw[bY (show(512:Int)<(zs.length:Int) by omega)];exact a0 fun e he=>Jq T (k1 oP) (aj.refl _) e he
  ·rw[bZ (show¬(512:Int)<(zs.length:Int) by omega)];obtain⟨kF,kM⟩:=k2 ⋯;apply aO (dS ?_);apply dj (fun σ H'=>(∃v1 v2,σ=[some (.ref a),v1,v2,none])/\aj H H'/\∀z∈zs,mx z=true) (fun X hX=>?_) ?_
   ·apply Z23 _ rfl a _ rfl hS (uc zs.length (fun i σ H'=>(∃v1 v2,σ=[some (.ref a),v1,v2,none])/\aj H H'/\∀z∈zs.take i,mx z=true) ⟨⟨_,_,rfl⟩,aj.refl _,fun z hz=>by simp at hz⟩ (fun i σ H' hi p=>?_) (fun σ H' p=>?_) (fun i x σ H' H2 hi p hy=>?_) (fun σ H' p=>?_))
    ·have iB:i<(zs.map V.int).length:=by simpa using hi
     exact⟨_,_,p.2.1.seq hS,cB iB⟩
    ·exact⟨_,p.2.1.seq hS,by simp⟩
    ·obtain⟨⟨v1,v2,rfl⟩,sm,gf⟩:=p;obtain⟨t,xv,rfl,ht,rfl,hx⟩:=hy;have hx:=hx _ (sm.seq hS);have ql:=cB hi;rw[bR,ql]at hx;cases hx;generalize Nf:zs[i]=z at ql;have qj:aj H (L2.ay H' t (.bp [.int (i:Nat),.int z])):=sm.trans (aj.new ht);apply Z39 t _ rfl (cS.of aC) rfl _ _ rfl _ _ rfl rfl ?_;apply Z56 _ rfl z rfl _ rfl ?_;cases hw:mx z with
     | true =>
      apply aO ⟨⟨_,_,rfl⟩,qj,fun y hy=>?_⟩;rw[kj ql]at hy;rcases eQ.mp hy with q|q
      ·exact gf y q
      ·simp at q;rw[q];exact hw
     | false =>have hk:=kF i (UR ql (fun y hy=>by rw[gf y hy];rfl) (by rw[hw];rfl));exact a0 (Z12 _ rfl eY (fun e he=>B8 T hk (fun H3 s3=>qj.trans s3) e he))
    ·obtain⟨h1,h2,h3⟩:=p;rw[ni]at h3;exact hX _ _ ⟨h1,h2,h3⟩
   ·rintro σ H' ⟨⟨v1,v2,rfl⟩,sm,i4⟩;obtain⟨kT,kOk⟩:=kM (adX fun y hy=>by rw[i4 y hy];rfl);have aiG:∀z∈zs,z=((z.toNat:Nat):Int):=fun z hz=>by have:=i4 z hz;unfold mx at this;rw[dw,eE]at this;omega
    have mT:((zs.map Int.toNat).map fun c=>V.int ((c:Nat):Int))=zs.map V.int:=by rw[f6];apply List.map_congr_left fun z hz=>?_;show V.int (z.toNat:Int)=V.int z;rw[<-aiG z hz]
    apply cF ?_;apply Z46 _ rfl a (zs.map Int.toNat) rfl (by rw[mT];exact sm.seq hS) (by rw[aL];omega) (fun H3 l ps s3 hl hW=>ck ?_);have NF:H l=none:=sm.free hl;have E8:=Fm.aaN (zs.map Int.toNat);have htm:=Fm.aa3 (zs.map Int.toNat);have fA:ps.length<=1000:=by rw[Paired.length hW.it];have:=aaq (zs.map Int.toNat);rw[aL]at this;omega
    apply Z98 _ rfl l ps _ ⟨rfl,hW,fA,fun x hx=>?_,fun H4 s4=>⟨_,rfl,?_⟩⟩
    ·have:=aaV _ x hx;rw[aL]at this;omega
    ·rw[E8]at hW⊢;rw[htm];cases hm:Po.tooMuch (Po.wordsOf (zs.map Int.toNat))with
     | true=>exact a0 fun e he=>Jq T (kT hm) ((sm.trans s3).trans s4) e he
     | false=>exact aO ⟨_,rfl,kOk hm H4 l ps ((sm.trans s3).trans s4) NF (hW.same s4)⟩
def acZ:∀c∈jK,Unicode.isAlpha (b8 c)=Po.smallLetter c:=by decide+kernel
def acR:∀c∈jK,Unicode.isDigit (b8 c)=Po.isDigit c:=by decide+kernel
def oS (x:Word):Prop:=∀c∈x,c∈jK
def VX {x:Word}(h:oS x){p:Nat->Bool}{q:UInt8->Bool}(e:∀c∈jK,p (b8 c)=q c):(tx x).cps.all p=x.all q:=by
 rw[<-Array.all_toList,iH,List.all_map]
 induction x with
 | nil=>rfl
 | cons c t ih =>rw[List.all_cons,List.all_cons,ih fun d hd=>h d (eF _ hd)];congr 1;exact e c (h c (by simp))
def Sr {x:Word}(h:oS x):Txt.isdigit (tx x)=Po.isNumber x:=by unfold Txt.isdigit Po.isNumber;rw[dz,VX h acR];cases x<;>simp
def aaM {c:UInt8}(h:c∈jK):Txt.isalpha (tx [c])=Po.smallLetter c:=by unfold Txt.isalpha;rw[dz,VX (x:=[c]) (fun d hd=>by simp at hd;rw[hd];exact h) acZ];simp
def lS {i j:Nat}:decide (V.int (i:Int)=V.int (j:Int))=decide (i=j):=by
 by_cases h:i=j
 ·simp[h]
 ·have h':¬(i:Int)=(j:Int):=by omega
  simp[h,h']
def aav:Sp:=fun vs H Q _=>∃x:Word,vs=[.str (tx x)]/\oS x/\x.length<=1000000/\Q (.bl (Po.oneLetter x)) H
def Zl:bD ["word"] ["word"] (aR P7):=bL
def Zn (T:Tx K mg):bg P w K mg base (bw P w) 1 T.Hy T.Qc ["word"] aav:=by
 exists T.tO.cj Zl
 ·obtain⟨x,rfl,_⟩:=h;rfl
 ·obtain⟨x,rfl,hx,hl,k⟩:=h;apply⟨_,aF (aY (lW (iT dW (cD om rfl (T.tn T.d5) e7 (ao (pv 0) ax)) bQ (bS _)) (kx (LS PySem.F.slot_str_isalpha PySem.F.type_str_isalpha abA (pv 0))))),?_⟩;apply qQ (decide (x.length=1)) (Txt.isalpha (tx x)) (fun Q' q=>Z62 _ rfl _ rfl (by rw[dz];exact fO hl) rfl ?_) (fun _ Q' q=>Z47 _ rfl ⟨_,rfl⟩ _ ⟨rfl,rfl,trivial,q⟩) ?_
  ·rw[dz];show Q' (.bl (decide (V.int (x.length:Int)=V.int ((1:Nat):Int)))) H;rw[lS];exact q
  ·have e:(decide (x.length=1)&&Txt.isalpha (tx x))=Po.oneLetter x:=by
    match x,hx with
    | [],_=>rfl
    | [c],hx =>rw[aaM (hx c (by simp))];rfl
    | c::d::t,_=>simp[Po.oneLetter]
   rw[e];exact k
def ach:Sp:=fun vs H Q _=>∃(x:Word)(m:Nat),vs=[.str (tx x),.int (m:Int)]/\oS x/\x.length<=1000000/\Q (.bl (Fi.rf m x)) H
def ZI:bD ["word","most"] ["word","most"] (aR Q3):=bL
def aem:(("0":String):Str)=tx [48]:=by decide+kernel
def aen:(("9":String):Str)=tx [57]:=by decide+kernel
def VP {c d:UInt8}(hd:d∈bV):decide (V.str (tx [c])=V.str (tx [d]))=(c==d):=by
 by_cases h:c=d
 ·subst h;simp
 ·have h':¬V.str (tx [c])=V.str (tx [d]):=fun q=>by injection q with q;have:=Du (v:=[c]) (w:=[d]) (one_sign hd) q;simp at this;exact h this
  simp[h,h']
def QI (T:Tx K mg):bg P w K mg base (bw P w) 1 T.Iy T.Rj ["word","most"] ach:=by
 exists T.pK.cj ZI
 ·obtain⟨x,m,rfl,_⟩:=h;rfl
 ·obtain⟨x,m,rfl,hx,hl,k⟩:=h;apply Z10 _ (aF (aY (lW (LS PySem.F.slot_str_isdigit PySem.F.type_str_isdigit Sl (pv 0)) (lW (iT jG (cD om rfl (T.tn T.d5) e7 (ao (pv 0) ax)) (pv 1) (bS _)) (kx (iT DM (cZ zS (pv 0) bQ (fun _ _=>rfl)) (ie aem) (bS _))))))) ?_;have hz:(tx x).length<=sizeLine:=by rw[dz];exact fO hl
  apply qQ (Po.isNumber x) (decide (x.length<=m)&& !(x.head?==some 48)) (fun Q' q=>Z47 _ rfl ⟨_,rfl⟩ _ ⟨rfl,rfl,trivial,?_⟩) (fun hn Q' q=>?_) k
  ·rw[Sr hx];exact q
  ·cases x with
   | nil=>simp[Po.isNumber]at hn
   | cons c t =>
    apply qQ (decide ((c::t).length<=m)) (!((c::t).head?==some 48)) (fun Q' q=>Z24 _ rfl _ rfl hz (Z23 _ rfl _ _ rfl rfl ?_)) (fun _ Q' q=>Z98 _ rfl _ 0 (b8 c) ⟨rfl,rfl,hz,dH (j:=0) (by rw[iH];rfl),rfl,?_⟩) q
    ·rw[dz];have e:decide (((c::t).length:Int)<=(m:Int))=decide ((c::t).length<=m):=by simp;omega
     show Q' (.bl (decide (((c::t).length:Int)<=(m:Int)))) H;rw[e];exact q
    ·show Q' (.bl (!decide (V.str (tx [c])=V.str (tx [48])))) H;rw[VP (by decide)];have e:((c::t).head?==some 48)=(c==48):=by simp
     rw[e]at q;exact q
def ad9 {x:Word}:rY (tx x) none (some (-1))=tx x.dropLast:=by
 apply wB ?_;unfold rY;rw[dz];simp only[HT.cA];rw[aE (by decide),iH];have e:((-1:Int)+(x.length:Int)).toNat=x.length-1:=by omega
 rw[e,List.drop_zero,Y5,List.dropLast_eq_take,List.map_take]
def Z0 {x:Word}(h:oS x):oS x.dropLast:=fun c hc=>h c (List.dropLast_subset x hc)
structure MN (K:aI)(H:Hp)(l:ae)(ws:List Word):Prop where
 sq:aA K H l (aV ws)
 Al:∀x∈ws,oS x/\x≠[]/\x.length<=1000000
def aeF (K:aI):Sp:=fun vs H Q _=>∃(l:ae)(ws:List Word),vs=[.ref l]/\MN K H l ws/\(ws.length=1\/ws.length=2)/\Q (.bl (Fi.IS ws)) H
def OP:bD ["words","word"] ["words"] (aR O5):=bL
def Zb (T:Tx K mg):bg P w K mg base (bw P w) 2 T.Gp T.Pe ["words"] (aeF K):=by
 have GC:= @QI P w K mg base T;have GO:= @Zn P w K mg base T;exists T.yo.cj OP
 ·obtain⟨l,ws,rfl,_⟩:=h;rfl
 ·obtain⟨l,ws,rfl,hW,hn,k⟩:=h;obtain⟨u1,m1,r1⟩:=(T.tg T.FX);have nd:=OP.nd;apply Z10 _ (aD (bU (cI dW (cD gA rfl (T.tn T.d5) e7 (ao (pv 0) ax)) bQ (bS _)) (aF (aY (lW (cy GC hr rfl (T.tm T.yN) T.pK.kp (cp T.pK) .nil bE (ao (cZ eU (pv 0) bQ (fun _ _=>rfl)) (ao (bh rfl m1 r1) ax))) (kx (cy GO hr rfl (T.tm T.BV) T.tO.kp (dE T.tO) .nil bE (ao (cZ eU (pv 0) bQ (fun _ _=>rfl)) ax)))))) b5)
   (aD (bB (i:=1) nd rfl Olr (cZ eU (pv 0) bQ (fun _ _=>rfl)))
   (aD (bU (gm (cy GO hr rfl (T.tm T.BV) T.tO.kp (dE T.tO) .nil bE (ao (cZ zS (pv 1) (DK Dt bQ) (fun _ _=>rfl)) ax))) (aF (bB (i:=1) nd rfl Olr (qS VL (pv 1) K5 (lR (DK Dt bQ))))) b5)
   (aF (aY (cy GC hr rfl (T.tm T.yN) T.pK.kp (cp T.pK) .nil bE (ao (pv 1) (ao (bh rfl m1 r1) ax)))))))) ?_
  have ew:(aV ws).length=ws.length:=by simp[aV]
  apply Z17 _ rfl l (Z49 _ rfl (.inl hW.sq) rfl _ rfl ?_);rw[ew]
  match ws,hn with
  | [x,y],_ =>have hx:=hW.Al x (by simp);have hy:=hW.Al y (by simp);apply a0 ?_;apply qQ (Fi.rf 5 x) (Po.oneLetter y) (fun Q' q=>Z57 _ rfl l _ 0 _ rfl rfl hW.sq (dH (j:=0) rfl) x 5 ⟨rfl,hx.1,hx.2.2,q⟩) (fun _ Q' q=>Z92 _ rfl l _ 1 _ rfl rfl hW.sq (dH (j:=1) rfl) y ⟨rfl,hy.1,hy.2.2,q⟩) k
  | [x],_ =>
   obtain⟨hx,bJ,hl⟩:=hW.Al x (by simp);have hz:(tx x).length<=sizeLine:=by rw[dz];exact fO hl
   apply aO (dS ?_);apply cF ?_;apply Z44 _ rfl l _ 0 _ rfl rfl hW.sq (dH (j:=0) rfl) (ck ?_);rcases List.eq_nil_or_concat x with hq|⟨xi,c,hq⟩
   ·exact absurd hq bJ
   ·have hq:x=xi++[c]:=by rw[hq,List.concat_eq_append]
    have hc:c∈jK:=hx c (by rw[hq];simp);have ed:x.drop (x.length-1)=[c]:=by rw[hq];simp
    apply dj (fun σ H2=>H2=H/\σ=[some (.ref l),some (.str (tx (if Po.oneLetter (x.drop (x.length-1))=true then x.dropLast else x)))]) (fun X hX=>?_) ?_
    ·apply Z15 _ rfl _ rfl (Z13 _ _ (b8 c) rfl rfl hz ?_ (Z49 [c] rfl (fun d hd=>(by simp at hd;rw[hd];exact hc)) (show 1<=1000000 by decide) _ rfl ?_))
     ·rw[iH,hq,cV];exact KP _ _
     ·cases ho:Po.oneLetter [c]with
      | true=>exact a0 (Z17 _ rfl _ (Z76 rfl _ rfl _ rfl hz (hX _ _ ⟨rfl,by rw[ed,ho,aE rfl];show[_,some (V.str (rY (tx x) none (some (-1))))]=_;rw[ad9]⟩)))
      | false=>exact aO (hX _ _ ⟨rfl,by rw[ed,ho,aB (by decide)];rfl⟩)
    ·rintro σ H2 ⟨rfl,rfl⟩;apply Z46 _ rfl _ 5 rfl ?_ ?_ k
     ·split
      ·exact Z0 hx
      ·exact hx
     ·split
      ·rw[List.length_dropLast];omega
      ·exact hl
  | [],hn=>simp at hn
  | _::_::_::_,hn=>simp at hn
def aeB:Sp:=fun vs H Q _=>∃(x y:ajG),vs=[.str (tx x),.str (tx y)]/\oS x/\x.length<=1000000/\y.length<=1000000/\∀H',aj H H'->Q (.bl (Fi.ot x y)) H'
def Qv:bD ["letters","shape","letter","sign"] ["letters","shape"] (aR Ii):=bL
def ZT (T:Tx K mg):bg P w K mg base (bw P w) 1 T.Iv T.Rh ["letters","shape"] aeB:=by
 exists T.yT.cj Qv
 ·obtain⟨x,y,rfl,_⟩:=h;rfl
 ·obtain⟨x,y,rfl,hx,AY,hly,k⟩:=h;have nd:=Qv.nd;apply Z10 _ (aD (bU (cI DM (cD om rfl (T.tn T.d5) e7 (ao (pv 0) ax)) (cD om rfl (T.tn T.d5) e7 (ao (pv 1) ax)) (bS _)) (aF (aY rq)) b5)
   (aF (aY (cD (zT rfl) rfl (T.tn T.uk) (by decide+kernel) (ao (jF rfl nd (aeX rfl (T.tn T.uj) (ao (pv 0) (ao (pv 1) ax))) (ic (N:=["letters","shape","letter","sign"]) (sc:=aR Ii) (bO:=[("letter",2),("sign",3)]) (by decide+kernel))
    (fun _ _ _ _ _=>(jj rfl (dF (b9 (i:=2) nd rfl (Or.inl rfl)) (dF (b9 (i:=3) nd rfl (Or.inl rfl)) jf)):PG _ _ (uP K 2 _))) (fun _ _ _ _ _=>iR)
    (fun _ _ _ _ _=>iT dW (LS PySem.F.slot_str_isdigit PySem.F.type_str_isdigit Sl (pv 2)) (iT dW (pv 3) (ie aen) (bS _)) (bS _))) ax))))) ?_
  have z1:(tx x).length<=sizeLine:=by rw[dz];exact fO AY
  have z2:(tx y).length<=sizeLine:=by rw[dz];exact fO hly
  apply Z71 _ rfl _ rfl z1 _ ⟨rfl,Z49 _ rfl z2 rfl _ rfl ?_⟩;rw[dz,dz,lS];unfold Fi.ot at k;by_cases hl:x.length=y.length
  ·rw[bY hl];rw[bY hl,pF]at k;have sx:(tx x).cps.size=x.length:=by simp[tx]
   have sy:(tx y).cps.size=y.length:=by simp[tx]
   have zl:(x.zip y).length=x.length:=by rw[List.length_zip,hl,Nat.min_self]
   apply aO (Z17 _ rfl _ (Z41 rfl _ _ rfl (fun D hD=>k8 ((x.zip y).map fun p=>V.bl (Po.isDigit p.1==(p.2==57))) (by rw[aL,zl];exact fO AY) hD (fun i H3 hi s3=>?_) (fun H3 s3=>?_) (fun i v u H3 H4 Kt hu s3 bT fz hk=>?_) (fun H3 s3 bT=>?_))))
   ·rw[aL,zl]at hi;exact⟨by rw[sx];exact hi,by rw[sy,<-hl];exact hi⟩
   ·rw[aL,zl];exact .inl (by rw[sx];exact bo _)
   ·obtain⟨t,c0,d0,rfl,ht,rfl,hc,hd⟩:=fz;have l8:(tx x).cps[i]?=(tx x).cps.toList[i]?:=by simp
    have gP:(tx y).cps[i]?=(tx y).cps.toList[i]?:=by simp
    rw[l8,iH,bR]at hc;rw[gP,iH,bR]at hd;cases EL:x[i]? with
    | none=>rw[EL]at hc;cases hc
    | some c =>
     cases Nj:y[i]? with
     | none=>rw[Nj]at hd;cases hd
     | some d =>
      rw[EL]at hc;rw[Nj]at hd;cases hc;cases hd;have hz:(x.zip y)[i]?=some (c,d):=by rw[List.getElem?_zip_eq_some];exact⟨EL,Nj⟩
      rw[bR,hz]at hu;cases hu;have gQ:oS [c]:=fun e he=>by simp at he;rw[he];exact hx c (fC EL)
      apply Z51 t _ rfl (cS.of aC) rfl _ _ rfl _ _ ⟨rfl,rfl,rfl,?_⟩;apply Z12 _ rfl ⟨_,rfl⟩ (Z49 _ rfl rfl trivial _ rfl ⟨rfl,rfl,?_⟩);have e1:Txt.isdigit (tx [c])=Po.isDigit c:=by rw[Sr gQ];simp[Po.isNumber]
      show Kt (.bl (decide (V.bl (Txt.isdigit (tx [c]))=V.bl (decide (V.str (tx [d])=V.str (tx [57])))))) _;rw[e1,VP (by decide)];have e2:decide (V.bl (Po.isDigit c)=V.bl (d==57))=(Po.isDigit c==(d==57)):=by cases Po.isDigit c<;>cases (d==57)<;>rfl
      rw[e2];exact hk _ (aj.new ht)
   ·apply Z14 D ((x.zip y).map fun p=>Po.isDigit p.1==(p.2==57)) rfl (aA.of (by rw[bT,f6];rfl)) ?_;have e:((x.zip y).map fun p=>Po.isDigit p.1==(p.2==57)).all id=(x.zip y).all fun p=>Po.isDigit p.1==(p.2==57):=by rw[List.all_map];rfl
    rw[e];exact k H3 s3
  ·rw[bZ hl];have:=k H (aj.refl _);rw[bZ hl,Bool.false_and]at this;exact a0 this
def Tu:([.int 8,.int 8,.int 8,.int 2,.int 8,.int 8,.int 4,.int 1,.int 8,.int 1]:List V)=Fi.gq.map fun m=>V.int ((m:Nat):Int):=by decide+kernel
theorem TQ:∀ws:List Word,TL.oF [] (ws.map fun x=>x.map b8)=ws.flatten.map b8
 | []=>rfl
 | [x]=>by simp[TL.oF]
 | x::y::r=>by have:=TQ (y::r);simp only[fj,TL.oF]at this⊢;rw[this];simp
def abI (ws:List Word):Txt.join ("":Str) (ws.map tx)=tx ws.flatten:=by
 apply wB ?_;rw[TL.Ld];show TL.tl (Str.join _ _)=_;rw[TL.Dd,f6];have e:(TL.tl∘tx)=fun x=>x.map b8:=by funext x;exact iH x
 rw[e];exact TQ ws
theorem Df:∀ws:List Word,((ws.map tx).map (·.length)).sum=ws.flatten.length
 | []=>rfl
 | x::r=>by rw[fj,fj,List.sum_cons,Df r,dz,List.flatten_cons,cq]
def aha (K:aI)(CI:ae):Sp:=fun vs H Q _=>∃(ia l sl:ae)(i:bI)(ws:List Word)(sh:List ajG),vs=[.ref ia,.ref l,.ref sl]/\lX CI H ia i/\i.kind<=9/\(i.kind=9->∀c∈i.word,c∈bV)/\MN K H l ws/\ws.flatten.length<=1000000/\aA K H sl (aV sh)/\sh.length<=1000/\(∀s∈sh,s.length<=1000000) /\
 ∀H',aj H H'->Q (.bl (Fi.kH sh i.kind i.word ws)) H'
def QS:bD ["item","words","shapes","letters","shape"] ["item","words","shapes"] (aR IM):=bL
def Q7 (T:Tx K mg):bg P w K mg base (bw P w) 3 T.IW T.RQ ["item","words","shapes"] (aha K T.bX):=by
 have GC:= @QI P w K mg base T;have GH:= @Zb P w K mg base T;have GL:= @ZT P w K mg base T;exists T.tT.cj QS
 ·obtain⟨ia,l,sl,i,ws,sh,rfl,_⟩:=h;rfl
 ·obtain⟨ia,l,sl,i,ws,sh,rfl,⟨dm,hI⟩,kc,iA,hW,iM,hS,xE,kO,k⟩:=h;obtain⟨u1,m1,r1⟩:=(T.tg T.we);obtain⟨u2,m2,r2⟩:=(T.tg T.KG);obtain⟨u3,m3,r3⟩:=(T.tg T.LZ);obtain⟨u4,m4,r4⟩:=(T.tg T.DE);obtain⟨u5,m5,r5⟩:=(T.tg T.Gn);obtain⟨tm,mM,tM⟩:=(T.tu T.Bz);rw[Tu]at tM;have nd:=QS.nd;have sI:dB 1 _:=hr.gv (by decide);apply Z10 _ (aD (bU (lV (CW jG jG bQ (cD gA rfl (T.tn T.d5) e7 (ao (pv 1) ax)) (cZ zR (bh (v:=.ref tm) rfl mM rfl) (aX (pv 0) rfl) (fun _ _=>rfl)))) (aF (aY rq)) b5)
   (aD (bU (cI dW (aX (pv 0) rfl) (bh rfl m1 r1) (bS _)) (aF (aY (iT dW (cZ eU (pv 1) bQ (fun _ _=>rfl)) (aX (pv 0) rfl) (bS _)))) b5)
   (aD (bU (cI dW (aX (pv 0) rfl) (bh rfl m2 r2) (bS _)) (aF (aY (cy GH hr rfl (T.tm T.Gz) T.yo.kp (dE T.yo) .nil bE (ao (pv 1) ax)))) b5)
   (aD (bU (cI dW (aX (pv 0) rfl) (bh rfl m3 r3) (bS _)) (aF (aY (cy GC sI rfl (T.tm T.yN) T.pK.kp (cp T.pK) .nil bE (ao (cZ eU (pv 1) bQ (fun _ _=>rfl)) (ao (bh rfl m5 r5) ax))))) b5)
   (aD (bU (cI dW (aX (pv 0) rfl) (bh rfl m4 r4) (bS _))
    (aD (bB (i:=3) nd rfl Orr (Dk zQ (pv 1)))
    (aF (aY (cD (DG rfl) rfl (T.tn T.wN) (by decide+kernel) (ao (jF rfl nd (iS (pv 2)) (ic (N:=["item","words","shapes","letters","shape"]) (sc:=aR IM) (bO:=[("shape",4)]) (by decide+kernel)) (fun _ _ _ _ _=>b9 (i:=4) nd rfl Olr) (fun _ _ _ _ _=>iR)
     (fun _ _ _ _ _=>cy GL sI rfl (T.tm T.IH) T.yT.kp (cp T.yT) .nil bE (ao (pv 3) (ao (pv 4) ax)))) ax))))) b5)
   (aF (aY rq))))))) ?_
  have ew:(aV ws).length=ws.length:=by simp[aV]
  have E5:(Fi.gq.map fun m=>V.int ((m:Nat):Int))[i.kind]?=some (V.int ((Fi.gq.getD i.kind 0:Nat):Int)):=by
   have key:∀k:Fin 10,(Fi.gq.map fun m=>V.int ((m:Nat):Int))[k.val]?=some (V.int ((Fi.gq.getD k.val 0:Nat):Int)):=by decide+kernel
   exact key ⟨i.kind,by omega⟩
  have jP:∀(n:Nat)(X Y:Prop),(i.kind=n->X)->(i.kind≠n->Y)->(if decide (V.int (i.kind:Int)=V.int (n:Int))=true then X else Y):=fun n X Y hx hy=>by
   rw[lS];by_cases h:i.kind=n
   ·rw[bY h];exact a0 (hx h)
   ·rw[bZ h];exact aO (hy h)
  apply ua 1 (ws.length:Int) ((Fi.gq.getD i.kind 0:Nat):Int) _ _ (fun _ q=>q) (fun _ q=>Z23 _ rfl l _ rfl (.inl hW.sq) (by rw[ew];exact q)) (fun _ q=>Z30 _ rfl ia _ dm _ _ rfl hI T.fU (Z99 T.jC rfl tm _ _ _ rfl rfl (tM.sq _) (dH E5) q)) (fun _ q=>⟨_,_,rfl,rfl,q⟩) (fun _ q=>⟨_,_,rfl,rfl,q⟩) (Z10 _ rfl ?_);have e1:decide ((1:Int)<=(ws.length:Int))=decide (1<=ws.length):=by simp;omega
  have e2:decide ((ws.length:Int)<=((Fi.gq.getD i.kind 0:Nat):Int))=decide (ws.length<=Fi.gq.getD i.kind 0):=by simp
  rw[e1,e2];unfold Fi.kH at k;by_cases cX:1<=ws.length/\ws.length<=Fi.gq.getD i.kind 0
  ·rw[aE cX]at k;rw[bY cX.1,bY cX.2];obtain⟨x,r,Nl⟩:∃x r,ws=x::r:=by
    cases ws with
    | nil=>simp at cX
    | cons x r=>exact⟨x,r,rfl⟩
   have EM:(aV ws)[0]?=some (V.str (tx x)):=by rw[Nl];rfl
   have XR:=hW.Al x (by rw[Nl];simp);have Yh:ws.headD []=x:=by rw[Nl];rfl
   apply aO (dS ?_);apply Z17 _ rfl ia (Z36 _ dm _ _ rfl hI T.fU T.jC rfl rfl _ rfl (jP 9 _ _ (fun h=>?_) (fun h9=>?_)))
   ·rw[aE h,Yh]at k;apply Z92 _ rfl l _ 0 _ rfl rfl hW.sq (dH (j:=0) EM) _ (Z81 rfl ia _ dm _ _ rfl hI T.fU T.vV rfl rfl ?_);have e:decide (V.str (tx x)=V.str (tx i.word))=(x==i.word):=by
     by_cases q:x=i.word
     ·simp[q]
     ·have q':¬V.str (tx x)=V.str (tx i.word):=fun z=>by injection z with z;exact q (Du (iA h) z)
      simp[q,q']
    rw[e];exact k H (aj.refl _)
   ·rw[aB h9]at k;apply dS ?_;apply Z17 _ rfl ia (Z36 _ dm _ _ rfl hI T.fU T.jC rfl rfl _ rfl (jP 3 _ _ (fun h=>?_) (fun h3=>?_)))
    ·rw[aE h]at k;rw[h]at cX;have h2:ws.length<=2:=cX.2;exact Z46 _ rfl l ws rfl hW ⋯ (k H (aj.refl _))
    ·rw[aB h3]at k;apply dS ?_;apply Z17 _ rfl ia (Z36 _ dm _ _ rfl hI T.fU T.jC rfl rfl _ rfl (jP 7 _ _ (fun h=>?_) (fun h7=>?_)))
     ·rw[aE h,Yh]at k;exact Z57 _ rfl l _ 0 _ rfl rfl hW.sq (dH (j:=0) EM) x 6 ⟨rfl,XR.1,XR.2.2,k H (aj.refl _)⟩
     ·rw[aB h7]at k;apply dS ?_;apply Z17 _ rfl ia (Z36 _ dm _ _ rfl hI T.fU T.jC rfl rfl _ rfl (jP 6 _ _ (fun h=>?_) (fun h6=>?_)))
      ·rw[aE h]at k;apply Z77 ⟨_,rfl⟩ _ rfl _ l (ws.map tx) rfl rfl (.inl (by have:=hW.sq;unfold aV at this;rw[f6];exact this)) ⟨?_,?_⟩
       ·rw[Df];show ws.flatten.length+(ws.map tx).length*0<=16777216;omega
       ·rw[abI];have ai2:oS ws.flatten:=fun c hc=>by obtain⟨y,h1,h2⟩:=List.mem_flatten.mp hc;exact(hW.Al y h1).1 c h2
        apply Z24 _ rfl sl rfl ⟨_,hS⟩ (fun D hD=>k8 (sh.map fun s=>V.bl (Fi.ot ws.flatten s)) (by rw[aL];exact fO ⋯) hD (fun i H3 hi s3=>?_) (fun H3 s3=>?_) (fun i x y H3 H4 Kt hy s3 bT fz hk=>?_) (fun H3 s3 bT=>?_))
        ·have iB:i<(aV sh).length:=by simpa[aV]using hi
         exact⟨_,_,s3.seq hS,cB iB⟩
        ·exact⟨_,s3.seq hS,by simp[aV]⟩
        ·obtain⟨rfl,hx⟩:=fz;have hx:=hx _ (s3.seq hS);unfold aV at hx;rw[bR]at hx;cases dP:sh[i]? with
         | none=>rw[dP]at hx;cases hx
         | some p =>rw[dP]at hx;cases hx;rw[bR,dP]at hy;cases hy;exact⟨rfl,Z52 _ rfl _ rfl _ _ rfl ai2 ⟨iM,kO p (fC dP),fun H5 s5=>hk _ s5⟩⟩
        ·apply Z14 D (sh.map fun s=>Fi.ot ws.flatten s) rfl (aA.of (by rw[bT,f6];rfl)) ?_;have e:((sh.map fun s=>Fi.ot ws.flatten s).any id)=sh.any (Fi.ot ws.flatten):=by rw[List.any_map];rfl
         rw[e];exact k H3 s3
      ·rw[aB h6]at k;exact k H (aj.refl _)
  ·rw[aB cX]at k;have e:(decide (1<=ws.length)&&decide (ws.length<=Fi.gq.getD i.kind 0))=false:=by
    by_cases q1:1<=ws.length
    ·have q2:¬ws.length<=Fi.gq.getD i.kind 0:=fun q=>cX ⟨q1,q⟩;rw[bZ q2,Bool.and_false]
    ·rw[bZ q1,Bool.false_and]
   rw[e];exact a0 (k H (aj.refl _))
def agG {pa ja:ae}{b:ajG}{p:Nat}:Fx pa ja≠qk b p:=fun h=>by injection h with h1;injection h1 with h2;exact absurd h2 (by decide+kernel)
def agA {i:bI}{b:ajG}{p:Nat}:vh i≠qk b p:=fun h=>by injection h with h1;injection h1 with h2;exact absurd h2 (by decide+kernel)
def mv {C D dx dy:ae}{fs gs:List (Str×V)}(h:HO.bc C dx fs=HO.bc D dy gs):fs=gs:=by injection h
def dA.keep {CI CF C:ae}{H H':Hp}{r f pa ja:ae}{ps:List ae}{is:List bI}{js:List Nat}{b:ajG}{p:Nat}(F:dA CI CF H f pa ja ps is js)(hr:cu C H r b p)(s:bf r H H'):dA CI CF H' f pa ja ps is js:=by obtain⟨dr,hr⟩:=hr.1;obtain⟨dx,h⟩:=F.bu;apply⟨⟨dx,s _ _ h (aJ h hr fun q=>agG (mv q))⟩,s _ _ F.pc (aJ F.pc hr nofun),L2.Paired.dc F.it fun a i ⟨dx,h⟩=>⟨dx,s _ _ h (aJ h hr fun q=>agA (mv q))⟩,s _ _ F.jt (aJ F.jt hr nofun)⟩
def ow.keep {C:ae}{H H':Hp}{r ru CR:ae}{shape:Bool}{b:ajG}{p:Nat}(h:ow H ru CR shape)(hr:cu C H r b p)(s:bf r H H'):ow H' ru CR shape:=by obtain⟨dr,hr⟩:=hr.1;obtain⟨dx,fs,sa,xs,h1,h2,h3,h4⟩:=h;apply Z32 dx fs sa xs (s _ _ h1 (aJ h1 hr fun q=>?_)) h2 (s _ _ h3 (aJ h3 hr nofun)) h4;rw[mv q]at h2;exact absurd h2 (by show(none:Option V)≠_;intro z;cases z)
def cu.same {C:ae}{H H':Hp}{r:ae}{b:ajG}{p:Nat}(h:cu C H r b p)(s:aj H H'):cu C H' r b p:=⟨let ⟨dx,q⟩:=h.1;⟨dx,s _ _ q⟩,h.2⟩
def U4 (is:List bI):(is.all fun i=>i.may)= !Pm.jE is:=by
 unfold Pm.jE
 induction is with
 | nil=>rfl
 | cons i is ih=>simp only[List.all_cons,List.any_cons,ih,Bool.not_or,Bool.not_not]
def Dl:∀k:Fin 9,pW[k.val]?=some (V.str (tx (Pm.eR k.val))):=by decide+kernel
def Sn:∀k m:Fin 9,m.val<k.val->og (V.str (tx (Pm.eR m.val))) (V.str (tx (Pm.eR k.val)))=false:=by decide+kernel
def UI {is:List bI}{shape:Bool}{o:ajG}(h:o∈Pm.names is shape):o=[61]\/∃k,k<9/\o=Pm.eR k:=by
 unfold Pm.names at h;rcases dv.mp h with h|h
 ·exact .inl h
 ·obtain⟨k,hk,rfl⟩:=cx.mp h;exact .inr ⟨k,mi.mp (kY.mp hk).1,rfl⟩
def adQ:∀k:Fin 9,(∀c∈Pm.eR k.val,c∈bV)/\(Pm.eR k.val).length<=100:=by decide+kernel
def acC (is:List bI)(shape:Bool):(Pm.names is shape).length<=100:=by unfold Pm.names;rw[dQ,aL];have:=tH (fun k=>(k !=Po.CODE||shape)&& !Pm.gK is k) (List.range 9);rw[qB]at this;omega
def ae8:∀k:Fin 9,decide (V.str (tx (Pm.eR k.val))=V.str (tx [61]))=false:=by decide+kernel
def UH {C:ae}{H H1:Hp}{r a:ae}{b:ajG}{p q:Nat}(hR:cu C H r b p)(qu:cu C H1 r b q)(hK:bf r H H1)(h:H1 a=none):H a=none:=by
 cases hh:H a with
 | none=>rfl
 | some o =>
  by_cases e:a=r
  ·obtain⟨vG,h1⟩:=qu.1;rw[e,h1]at h;cases h
  ·rw[hK a o hh e]at h;cases h
def af7 (C gT CI CF CR:ae):Sp:=fun vs H Q E=>∃(r f ru pa ja:ae)(ps:List ae)(is:List bI)(js:List Nat)(shape:Bool)(b:ajG)(p:Nat),vs=[.ref r,.ref f,.ref ru]/\cu C H r b p/\dA CI CF H f pa ja ps is js/\ps.length<=15/\ow H ru CR shape /\
 qf (Pm.iF is shape (b.drop p) p) b (fun i q=>∀(H':Hp)(a:ae),cu C H' r b q->bf r H H'->H a=none->lX CI H' a i->Q (.ref a) H') (gV gT E (bf r H))
def QV:bD ["reader","form","rules","name","kind","word","last_hope","optional"] ["reader","form","rules"] (aR Rz):=bL
def aaf (T:Tx K mg):bg P w K mg base (bw P w) 6 T.IY T.RS ["reader","form","rules"] (af7 T.cH T.d4 T.bX T.cn T.cQ):=by
 have GN:= @Zf P w K mg base T;have GC:= @FP P w K mg base T;have GW:= @OM P w K mg base T;have GA:= @Gi P w K mg base T;have GO:= @OH P w K mg base T;have GI:= @aaj P w K mg base T;exists T.tU.iy QV
 ·obtain⟨r,f,ru,pa,ja,ps,is,js,shape,b,p,rfl,_⟩:=h;rfl
 ·obtain⟨r,f,ru,pa,ja,ps,is,js,shape,b,p,rfl,dC,hF,hl,xT,k1,k2⟩:=h;obtain⟨uO,mO,rO⟩:=(T.tg T.Cq);rw[show(Str.ofString "=")=tx [61]from VI]at rO;obtain⟨uW,mW,rW⟩:=(T.tg T.we);obtain⟨uM,mM,rM⟩:=(T.tg T.B5);obtain⟨ka,mK,tK⟩:=(T.tu T.ub);rw[zF]at tK;have nd:=QV.nd;apply Z10 _ (aD (bB (i:=3) nd rfl Olr (cT (pv 0) T.cE T.yc GC hr.ww (cp T.vN) .nil cY.dO (ao (cy GN hr.ww rfl (T.tm T.Hk) T.yx.kp (cp T.yx) .nil bE (ao (pv 1) (ao (pv 2) ax))) ax)))
   (aD (bU (cI dW (pv 3) (bh rfl mO rO) (bS _))
    (aD (bB (i:=4) nd rfl Olr (bh rfl mW rW)) (aF (bB (i:=5) nd rfl Olr (nB (pv 0) T.cE T.yi GW hr (dE T.vP) .nil cY.dO))))
    (aD (bB (i:=4) nd rfl Olr (gp PySem.F.plainAttrs_tuple PySem.F.slot_tuple_index PySem.F.type_tuple_index Tr (bh (v:=.ref ka) rfl mK rfl) (ao (pv 3) ax))) (aF (bB (i:=5) nd rfl Olr (ie (b:=[]) (by decide+kernel))))))
   (aD (bB (i:=6) nd rfl Olr (lW (iT dW (cD gA rfl (T.tn T.d5) e7 (ao (aX (pv 1) rfl) ax)) (e9 rl (bh rfl mM rM) bQ) (bS _)) (kx (nB (pv 1) T.ij T.BA GO hr.ww (dE T.yh) .nil bE))))
   (aD (bB (i:=7) nd rfl Olr (lW (DA (pv 6)) (kx (cT (pv 0) T.cE T.vS GA hr.ww (cp T.tN) .nil bE (ao (ie afR) ax)))))
   (aF (aY (zI T.La GI hr.ww rfl (T.tm T.LL) (tj T.Ci) .nil bE (ao (pv 4) (ao (pv 5) (ao (pv 7) ax)))))))))) ?_
  obtain⟨dx,hR⟩:=dC.1;have bN:ps.length=is.length:=Paired.length hF.it;apply cF (Z21 _ rfl r dx _ rfl hR rfl (Z66 _ rfl _ rfl f ru pa ja ps is js shape ⟨rfl,hF,by omega,xT,fun H1 na s1 jw E1=>?_⟩));apply Z100 r na b p (Pm.names is shape) rfl (aA.of E1) (Pm.wd is shape) (fun o ho=>?_) (acC is shape) (dC.same s1) (fun o q e hq ho H2 fb fB=>?_) (fun k e=>?_)
  ·rcases UI ho with rfl|⟨k,hk,rfl⟩
   ·exact⟨one_sign (by decide),by decide⟩
   ·exact adQ ⟨k,hk⟩
  ·have As:bf r H H2:=(aj.keep s1).trans fB;have vD:dA T.bX T.cn H2 f pa ja ps is js:=(hF.same s1).keep (dC.same s1) fB;have ri:Pm.iF is shape (b.drop p) p=Pm.gb (Pm.lU o (b.drop q) q) fun x s z=>Pm.wq (Pm.nD is) o x s z:=by unfold Pm.iF;rw[e,Pm.bj]
   obtain⟨kX,iD⟩:=fb.1;apply ck ?_;apply dj (fun σ H3=>∃(x:Word)(z:Nat),σ=[some (.ref r),some (.ref f),some (.ref ru),some (.str (tx o)),some (.int (Pm.kindOf o:Int)),some (.str (tx x)),none,none]/\cu T.cH H3 r b z/\bf r H H3/\dA T.bX T.cn H3 f pa ja ps is js/\Pm.lU o (b.drop q) q= .ok (x,b.drop z,z)) (fun X hX=>?_) ?_
   ·apply Z11 _ rfl rfl _ rfl ?_;rcases UI ho with rfl|⟨kd,jP,rfl⟩
    ·rw[bY (show V.str (tx [61])=V.str (tx [61])from rfl)];apply a0 (Z61 _ rfl r kX _ rfl iD rfl r b q ⟨rfl,fb,fun x z e2 hz H3 eL d6=>?_,fun k e2=>?_⟩)
     ·exact hX _ _ (Z22 x z rfl eL (As.trans d6) (vD.keep fb d6) (by unfold Pm.lU;rw[aE rfl];exact e2))
     ·refine(k2 k ?_).fZ fun H3 h3=>As.trans h3;rw[ri];unfold Pm.lU;rw[aE rfl,e2];rfl
    ·have gf:=ae8 ⟨kd,jP⟩;have xN:=Pm.vY kd jP;rw[gf];apply aO ⟨.inr (.inl ⟨rfl,tK.ty⟩),Z31 _ rfl ka pW (.str (tx (Pm.eR kd))) kd _ ⟨rfl,rfl,tK.sq _,rfl,by decide+kernel,Dl ⟨kd,jP⟩,by simp[og],fun m z hm hz=>?_,?_⟩⟩
     ·have:=Dl ⟨m,by omega⟩;rw[this]at hz;rw[<-d3 hz];exact Sn ⟨kd,jP⟩ ⟨m,by omega⟩ hm
     ·apply hX _ _ (Z22 [] q ?_ fb As vD (by unfold Pm.lU;rw[aB xN.2]));rw[xN.1];rfl
   ·rintro σ H3 ⟨x,z,rfl,eL,d6,sX,e2⟩;rw[e2,Pm.bj]at ri;obtain⟨g0,Yk⟩:=sX.bu;apply dj (fun σ H4=>σ=[some (.ref r),some (.ref f),some (.ref ru),some (.str (tx o)),some (.int (Pm.kindOf o:Int)),some (.str (tx x)),some (.bl (Pm.nD is)),none]/\aj H3 H4) (fun X hX=>?_) ?_
    ·apply Z31 _ rfl f _ g0 _ _ ⟨rfl,Z89 Yk T.ij T.nv rfl pa _ rfl (.inl (aA.of sX.pc)) _ _ rfl rfl (Z25 rfl _ rfl ?_)⟩;rw[aL];have lh:Pm.nD is=(decide (ps.length=15)&&is.all fun i=>i.may):=by unfold Pm.nD;rw[U4,bN]
     by_cases N4:ps.length=15
     ·rw[bY (show V.int (ps.length:Int)=V.int ((16:Int)-1) by rw[N4];rfl)];apply a0 (Z61 _ rfl f g0 _ rfl Yk rfl f pa ja (Z20 ps is js rfl sX ⋯ (fun H4 s4=>hX _ _ ⟨?_,s4⟩)));rw[lh,bY N4,pF];rfl
     ·rw[bZ (show¬V.int (ps.length:Int)=V.int ((16:Int)-1) by intro q;injection q with q;omega)];apply aO (hX _ _ ⟨?_,aj.refl _⟩);rw[lh,bZ N4,Bool.false_and];rfl
    ·rintro σ H4 ⟨rfl,s4⟩;have jJ:=eL.same s4;have iO:bf r H H4:=d6.same s4;obtain⟨Bj,Fo⟩:=jJ.1;apply dj (fun σ H5=>∃(m:Bool)(y:Nat),σ=[some (.ref r),some (.ref f),some (.ref ru),some (.str (tx o)),some (.int (Pm.kindOf o:Int)),some (.str (tx x)),some (.bl (Pm.nD is)),some (.bl m)]/\cu T.cH H5 r b y/\bf r H H5/\Pm.iF is shape (b.drop p) p= .ok (⟨Pm.kindOf o,x,m⟩,b.drop y,y)) (fun X hX=>?_) ?_
     ·apply Z56 _ rfl _ rfl _ rfl ?_;unfold Pm.wq at ri;cases hh:Pm.nD is with
      | true =>rw[hh,aB (by simp)]at ri;exact aO (hX _ _ (Z26 false z (by rw[hh];rfl) jJ iO ri))
      | false =>
       apply a0 (Z38 _ rfl r Bj _ rfl Fo rfl r b [63] z ⟨rfl,one_sign (by decide),jJ,fun H5 kG gG=>?_⟩);cases hs:Pm.b6 [63] (b.drop z)with
       | true =>rw[hh,hs,aE (by simp),List.tail_drop]at ri;rw[hs,aE rfl]at kG;exact hX _ _ (Z26 true (z+1) (by rw[hh];rfl) kG (iO.trans gG) ri)
       | false =>rw[hh,hs,aB (by simp)]at ri;rw[hs]at kG;exact hX _ _ (Z26 false z (by rw[hh];rfl) kG (iO.trans gG) ri)
     ·rintro σ H5 ⟨m,y,rfl,kG,gG,e5⟩;apply Z56 _ rfl _ rfl _ rfl (fun a sZ ha jU bJ=>Z19 a sZ ⟨Pm.kindOf o,x,m⟩ rfl aC (fun H6 hI Ft=>⟨rfl,?_⟩));have s6:aj H5 H6:=aj.rT ha jU Ft;exact k1 _ y e5 kG.2.1 H6 a (kG.same s6) (gG.same s6) (UH dC kG gG ha) hI
  ·exact(k2 k (by unfold Pm.iF;rw[e];rfl)).fZ fun H2 h2=>(aj.keep s1).trans h2
def cC {H:Hp}{a b:ae}{o:HO}(h:ay H a o b=none):b≠a/\H b=none:=by
 by_cases e:b=a
 ·rw[e,aC]at h;cases h
 ·rw[aq e]at h;exact⟨e,h⟩
def dA.W6 {CI CF:ae}{H:Hp}{f pa ja a:ae}{ps:List ae}{is:List bI}{js:List Nat}{i:bI}(F:dA CI CF H f pa ja ps is js)(j9:pa≠ja)(hI:lX CI H a i):dA CI CF (ay H pa (.ak (ps.map V.ref++[V.ref a]))) f pa ja (ps++[a]) (is++[i]) js:=by obtain⟨dx,hf⟩:=F.bu;have ne:∀x C dx fs,H x=some (.bc C dx fs)->x≠pa:=fun x C dx fs h=>aJ h F.pc nofun;apply⟨⟨dx,by rw[aq (ne _ _ _ _ hf)];exact hf⟩,by rw[aC,cV];rfl,?_,by rw[aq j9.symm];exact F.jt⟩;apply Paired.snoc (L2.Paired.dc F.it fun x j ⟨dx,h⟩=>⟨dx,by rw[aq (ne _ _ _ _ h)];exact h⟩) ?_;obtain⟨dx,h⟩:=hI;exact⟨dx,by rw[aq (ne _ _ _ _ h)];exact h⟩
def dA.ajp {CI CF:ae}{H:Hp}{f pa ja:ae}{ps:List ae}{is:List bI}{js:List Nat}{j:Nat}(F:dA CI CF H f pa ja ps is js)(j9:pa≠ja):dA CI CF (ay H ja (.ak ((js.map fun j=>V.int ((j:Nat):Int))++[V.int (j:Int)]))) f pa ja ps is (js++[j]):=by obtain⟨dx,hf⟩:=F.bu;have ne:∀x C dx fs,H x=some (.bc C dx fs)->x≠ja:=fun x C dx fs h=>aJ h F.jt nofun;exact⟨⟨dx,by rw[aq (ne _ _ _ _ hf)];exact hf⟩,by rw[aq j9];exact F.pc,L2.Paired.dc F.it fun x j ⟨dx,h⟩=>⟨dx,by rw[aq (ne _ _ _ _ h)];exact h⟩,by rw[aC,cV];rfl⟩
def cu.wW {C:ae}{H:Hp}{r a:ae}{b:ajG}{p:Nat}{o:HO}(h:cu C H r b p)(n:r≠a):cu C (ay H a o) r b p:=⟨let ⟨dx,q⟩:=h.1;⟨dx,by rw[aq n];exact q⟩,h.2⟩
def bf.iZ {r a:ae}{H H1:Hp}{o:HO}(k:bf r H H1)(h:H a=none):bf r H (L2.ay H1 a o):=fun x u e n=>by rw[aq (aQ e h)];exact k x u e n
def Ac (is:List bI)(b:ajG):Bool:=decide (is.length=16)||(Pm.b6 [10] b&&Pm.jE is)
def UW (js:List (Nat×bI))(b:ajG):Ac (js.map (·.2)) b=true↔Lm.gc js b:=by unfold Ac Lm.gc;rw[Bool.or_eq_true,dw,eE,aL]
def adm (C CI CF:ae):Sp:=fun vs H Q _=>∃(r f pa ja:ae)(ps:List ae)(is:List bI)(js:List Nat)(b:ajG)(p:Nat),vs=[.ref r,.ref f]/\cu C H r b p/\dA CI CF H f pa ja ps is js/\ps.length<=16/\∀H',aj H H'->Q (.bl (Ac is (b.drop p))) H'
def abe:bD ["reader","form"] ["reader","form"] (aR Tc):=bL
def abr (T:Tx K mg):bg P w K mg base (bw P w) 3 T.J7 T.TZ ["reader","form"] (adm T.cH T.bX T.cn):=by
 have GS:= @yF P w K mg base T;have GO:= @OH P w K mg base T;exists T.zq.cj abe
 ·obtain⟨r,f,pa,ja,ps,is,js,b,p,rfl,_⟩:=h;rfl
 ·obtain⟨r,f,pa,ja,ps,is,js,b,p,rfl,dC,hF,hl,k⟩:=h;obtain⟨uM,mM,rM⟩:=(T.tg T.B5);obtain⟨dx,hR⟩:=dC.1;obtain⟨g0,hf⟩:=hF.bu;have bN:ps.length=is.length:=Paired.length hF.it;apply Z10 _ (aD (bU (cI dW (cD gA rfl (T.tn T.d5) e7 (ao (aX (pv 1) rfl) ax)) (bh rfl mM rM) (bS _)) (aF (aY rq)) b5)
   (aF (aY (lW (cT (pv 0) T.cE T.tP GS hr (cp T.qG) .nil bE (ao (ie Dc) ax)) (kx (DA (nB (pv 1) T.ij T.BA GO hr.ww (dE T.yh) .nil bE))))))) ?_
  apply Z55 _ rfl f _ g0 _ _ rfl hf T.ij T.nv (Z109 rfl pa (Z49 _ rfl (.inl (aA.of hF.pc)) rfl _ rfl ?_));rw[aL];unfold Ac at k;by_cases Bc:ps.length=16
  ·rw[bY (show V.int (ps.length:Int)=V.int 16 by rw[Bc];rfl)];have:=k H (aj.refl _);rw[bY (by omega:is.length=16),Bool.true_or]at this;exact a0 this
  ·rw[bZ (show¬V.int (ps.length:Int)=V.int 16 by intro q;injection q with q;omega)];rw[bZ (by omega:¬is.length=16),Bool.false_or]at k;apply aO (Z63 _ rfl r dx _ rfl hR (Z87 rfl r b [10] p rfl (one_sign (by decide)) dC _ rfl ?_));cases hs:Pm.b6 [10] (b.drop p)with
   | false =>rw[hs,Bool.false_and]at k;exact aO (k H (aj.refl _))
   | true =>rw[hs,pF]at k;apply a0 (Z61 _ rfl f g0 _ rfl hf rfl f pa ja (Z20 ps is js rfl hF hl (fun H4 s4=>⟨_,rfl,?_⟩)));rw[U4,Bool.not_not];exact k H4 s4
def af9 (C gT CI CF CR:ae):Sp:=fun vs H Q E=>∃(r ru:ae)(shape:Bool)(b:ajG)(p:Nat),vs=[.ref r,.ref ru]/\cu C H r b p/\ow H ru CR shape /\
 qf (Pm.je shape (b.drop p) p) b (fun js q=>∀(H':Hp)(f pa ja:ae)(ps:List ae),cu C H' r b q->bf r H H'->H f=none->H pa=none->H ja=none->pa≠ja->(∀x∈ps,H x=none)->dA CI CF H' f pa ja ps (js.map (·.2)) ((js.drop 1).map (·.1))->Q (.ref f) H') (gV gT E (bf r H))
def QW:bD ["reader","rules","form"] ["reader","rules"] (aR RA):=bL
def aag (T:Tx K mg):bg P w K mg base (bw P w) 7 T.IZ T.RT ["reader","rules"] (af9 T.cH T.d4 T.bX T.cn T.cQ):=by
 have GF:= @aak P w K mg base T;have GI:= @aaf P w K mg base T;have GE:= @abr P w K mg base T;have GJ:= @ZR P w K mg base T;exists T.y8.iy QW
 ·obtain⟨r,ru,shape,b,p,rfl,_⟩:=h;rfl
 ·obtain⟨r,ru,shape,b,p,rfl,dC,xT,k1,k2⟩:=h;have nd:=QW.nd;have ET:dB 3 _:=hr.gv (by decide);have hr5:dB 5 _:=hr.gv (by decide);apply Z10 _ (aD (bB (i:=2) nd rfl Olr (Ku T.Lb GF hr.ww rfl (T.tm T.LM) (dE T.Cj) .nil bE))
   (aD (dR (gp gU iQ iP hU (aX (pv 2) rfl) (ao (cy GI hr rfl (T.tm T.Cc) T.tU.kp (jz T.tU) .nil cY.dO (ao (pv 0) (ao (pv 2) (ao (pv 1) ax)))) ax)))
   (aD (qR pU (lV (gm (cy GE ET rfl (T.tm T.Ki) T.zq.kp (cp T.zq) .nil bE (ao (pv 0) (ao (pv 2) ax)))))
    (aD (dR (gp gU iQ iP hU (aX (pv 2) rfl) (ao (cy GJ hr5 rfl (T.tm T.IE) T.yQ.kp (dE T.yQ) .nil cY.dO (ao (pv 0) ax)) ax)))
    (aF (dR (gp gU iQ iP hU (aX (pv 2) rfl) (ao (cy GI hr rfl (T.tm T.Cc) T.tU.kp (jz T.tU) .nil cY.dO (ao (pv 0) (ao (pv 2) (ao (pv 1) ax)))) ax))))))
   (aF (aY (pv 2)))))) ?_
  obtain⟨dx,hR⟩:=dC.1;apply cF fun f df nf ndf NQ=>Z14 f df rfl aC (fun H1 pa ja xI n0 j9 h1 h2 h3 iE=>⟨rfl,ck ?_⟩);have s1:aj H H1:=aj.rT nf ndf iE;have D8:H pa=none:=(cC (cC xI).2).2;have Mw:H ja=none:=(cC (cC n0).2).2;have YM:dA T.bX T.cn H1 f pa ja [] [] []:=⟨⟨df,h1⟩,h2,.nil,h3⟩;have jr:=dC.same s1;have Xo:r≠pa:=aQ hR D8;have nrj:r≠ja:=aQ hR Mw;apply Z16 _ rfl f _ df _ _ rfl h1 T.ij T.nv rfl (Z91 (.inl ⟨rfl,_,aA.of h2⟩) _ rfl _ rfl _ rfl r f ru pa ja (Z82 [] [] [] shape b p rfl jr YM (bA _) (xT.same s1) (fun i q e hq H2 a fb fB ha hI=>?_) (fun k e=>?_)))
  ·have vD:=YM.keep jr fB;apply Z13 pa _ _ rfl rfl vD.pc (by show 0<sizeLine;decide) ?_;have As:bf r H H2:=(aj.keep s1).trans fB;have xR:H a=none:=by
    cases hh:H a with
    | none=>rfl
    | some o=>rw[s1 _ _ hh]at ha;cases ha
   let qi:L2.St:=[some (.ref r),some (.ref ru),some (.ref f)]
   let W:Nat->L2.St->Hp->Prop:=fun n σ H'=>∃(js:List (Nat×bI))(z:Nat)(ps:List ae),n=17-js.length/\σ=qi/\cu T.cH H' r b z/\bf r H H'/\dA T.bX T.cn H' f pa ja ps (js.map (·.2)) ((js.drop 1).map (·.1))/\(∀x∈ps,H x=none)/\Lm.kE shape (b.drop p) p js (b.drop z) z
   let G:Nat->L2.St->Hp->Prop:=fun n σ H'=>∃(js:List (Nat×bI))(z:Nat)(ps:List ae),n=17-js.length/\σ=qi/\cu T.cH H' r b z/\bf r H H'/\dA T.bX T.cn H' f pa ja ps (js.map (·.2)) ((js.drop 1).map (·.1))/\(∀x∈ps,H x=none)/\Lm.kE shape (b.drop p) p js (b.drop z) z/\¬Lm.gc js (b.drop z)
   let Ex:L2.St->Hp->Prop:=fun σ H'=>∃(js:List (Nat×bI))(z:Nat)(ps:List ae),σ=qi/\cu T.cH H' r b z/\bf r H H'/\dA T.bX T.cn H' f pa ja ps (js.map (·.2)) ((js.drop 1).map (·.1))/\(∀x∈ps,H x=none)/\Pm.je shape (b.drop p) p= .ok (js,b.drop z,z)
   have sX:dA T.bX T.cn (L2.ay H2 pa (.ak (([]:List ae).map V.ref++[V.ref a]))) f pa ja [a] [i] []:=vD.W6 j9 hI;apply v9 W G Ex _ (Z19 [(0,i)] q [a] rfl rfl ⟨fb.wW Xo,As.iZ D8,sX,fun x hx=>(by simp at hx;rw[hx];exact xR),.start e⟩) (fun X Y n σ H'=>?_) (fun n σ H'=>?_) (fun σ H'=>?_)
   ·rintro⟨js,z,ps,rfl,rfl,dI,oa,md,fA,hL⟩ hX hY;have bN:ps.length=js.length:=by rw[Paired.length md.it,aL]
    apply Z64 _ rfl _ rfl r (Z72 f pa ja ps _ _ b z rfl dI md (by have:=hL.aN;omega) (fun H4 s4=>⟨_,rfl,?_⟩));cases he:Ac (js.map (·.2)) (b.drop z)with
    | true=>exact aO (hX _ _ (Z27 js z ps rfl (dI.same s4) (oa.same s4) (md.same s4) fA (hL.ek ((UW js _).mp he))))
    | false=>exact a0 (hY _ _ (Z19 js z ps rfl rfl ⟨dI.same s4,oa.same s4,md.same s4,fA,hL,fun q=>by rw[(UW js _).mpr q]at he;cases he⟩))
   ·rintro⟨js,z,ps,rfl,rfl,dI,oa,md,fA,hL,hE⟩;have bN:ps.length=js.length:=by rw[Paired.length md.it,aL]
    have ajD:js.length<16:=Nat.lt_of_le_of_ne hL.aN fun q=>hE (.inl q);have h1j:=hL.vc;obtain⟨g0,hf⟩:=md.bu;apply Z16 _ rfl f _ g0 _ _ rfl hf T.ij T.yH rfl (Z77 (.inl ⟨rfl,_,aA.of md.jt⟩) _ rfl r b z rfl dI (fun j y e1 hy H4 jJ iO=>?_) (fun k e1=>(k2 k (hL.ML hE e1)).fZ fun H4 h4=>oa.trans h4));have qw:=md.keep dI iO;apply Z13 ja _ _ rfl rfl qw.jt (by rw[aL,aL,jX];exact fi (show js.length-1<16 by omega) (by decide)) ?_;have Fu:=qw.ajp (j:=j) j9;have kG:=jJ.wW (o:=.ak ((((js.drop 1).map (·.1)).map fun j=>V.int ((j:Nat):Int))++[V.int (j:Int)])) nrj;have gG:=(oa.trans iO).iZ (o:=.ak ((((js.drop 1).map (·.1)).map fun j=>V.int ((j:Nat):Int))++[V.int (j:Int)])) Mw;obtain⟨dxg,hg⟩:=Fu.bu;apply Z16 _ rfl f _ dxg _ _ rfl hg T.ij T.nv rfl (Z91 (.inl ⟨rfl,_,aA.of Fu.pc⟩) _ rfl _ rfl _ rfl r f ru pa ja (Z82 ps _ _ shape b y rfl kG Fu ⋯ (xT.keep dC gG) (fun i2 u e2 hu H6 a6 MD Ft ha6 hI6=>?_) (fun k e2=>(k2 k (hL.MK hE e1 e2)).fZ fun H6 h6=>gG.trans h6)));have YL:=Fu.keep kG Ft;apply Z13 pa _ _ rfl rfl YL.pc (by rw[aL];exact fi (show ps.length<16 by omega) (by decide)) ?_;have hN:=hL.next hE e1 e2;apply Z98 (17-(js++[(j,i2)]).length) (by rw[cq];simp;omega) (js++[(j,i2)]) u (ps++[a6]) ⟨rfl,rfl,MD.wW Xo,(gG.trans Ft).iZ D8,?_,fun x hx=>?_,hN⟩
    ·have hd:(js++[(j,i2)]).drop 1=js.drop 1++[(j,i2)]:=by rw[List.drop_append_of_le_length h1j]
     rw[hd,cV,cV];exact YL.W6 j9 hI6
    ·rcases eQ.mp hx with q|q
     ·exact fA x q
     ·simp at q;rw[q];exact UH dC kG gG ha6
   ·rintro⟨js,z,ps,rfl,dI,oa,md,fA,e3⟩;exact⟨_,rfl,k1 js z e3 dI.2.1 H' f pa ja ps dI oa nf D8 Mw j9 fA md⟩
  ·exact(k2 k (Lm.ad2 e)).fZ fun H2 h2=>(aj.keep s1).trans h2
structure Y4 where
 f:ae
 pa:ae
 ja:ae
 ps:List ae
structure eP where
 sa:ae
 ra:ae
 da:ae
 fa:ae
 fs:List Y4
noncomputable def u9 (n c d:Nat)(A:eP):List (Str×V):=[("line_count",.int (n:Int)),("shapes",.ref A.sa),("short_count",.int (c:Int)),("drop_count",.int (d:Int)),("read_as",.ref A.ra),("dropped",.ref A.da),("forms",.ref A.fa)]
def nF (ai:List (aP×V))(l:List (Word×Word)):Prop:=ai.length<=l.length/\∀v,Po.wordOk v=true->dk ai (.inr (tx v))=(l.find? fun p=>p.1==v).map fun p=>V.str (tx p.2)
def rQ (ai:List (aP×V))(l:List Word):Prop:=ai.length<=l.length/\∀v,Po.wordOk v=true->(dk ai (.inr (tx v))).isSome=l.contains v
structure cg (CI CF CR:ae)(H:Hp)(a:ae)(n:Nat)(A:eP)(x:aW):Prop where
 bu:∃dx,H a=some (.bc CR dx (u9 n (Po.shorts x).length (Po.drops x).length A))
 sh:H A.sa=some (.ak (aV (Po.shapes x)))
 ra:∃ai,H A.ra=some (.dK ai)/\nF ai (Po.shorts x)
 da:∃ai,H A.da=some (.dK ai)/\rQ ai (Po.drops x)
 fo:H A.fa=some (.ak (A.fs.map fun g=>V.ref g.f))
 fs:Paired (fun g f=>dA CI CF H g.f g.pa g.ja g.ps f.items (f.more.map (·.1))) A.fs (Po.forms x)
 sf:A.sa≠A.fa
 rd:A.ra≠A.da
 ap:∀g∈A.fs,g.pa≠A.sa/\g.pa≠A.fa/\g.ja≠A.sa/\g.ja≠A.fa
def Ug {v w:Word}(hw:Po.wordOk w=true):(Sum.inr (tx v):aP)= .inr (tx w)↔v=w:=by apply⟨fun h=>?_,fun h=>by rw[h]⟩;injection h with h;exact Du (Rm.zu hw) h
def nF.nil:nF [] []:=⟨bo _,fun _ _=>rfl⟩
def rQ.nil:rQ [] []:=⟨bo _,fun _ _=>rfl⟩
def TR {l:List (Word×Word)}{u w v:Word}:(l++[(u,w)]).find? (fun p=>p.1==v)=(l.find? fun p=>p.1==v).or (if u=v then some (u,w)else none):=by
 rw[List.find?_append];congr 1;by_cases h:u=v
 ·simp[h]
 ·simp[h]
def nF.there {ai:List (aP×V)}{l:List (Word×Word)}{u w:Word}{y:V}(D:nF ai l)(hu:Po.wordOk u=true)(h:dk ai (.inr (tx u))=some y):nF ai (l++[(u,w)]):=by
 apply⟨by rw[cq];exact b3 D.1 (Nat.le_add_right _ _),fun v hv=>?_⟩;rw[D.2 v hv,TR];by_cases e:u=v
 ·subst e;have:=D.2 u hu;rw[h]at this;cases hf:l.find? fun p=>p.1==u with
  | none=>rw[hf]at this;cases this
  | some q=>simp
 ·rw[aB e,Option.or_none]
def nF.new {ai:List (aP×V)}{l:List (Word×Word)}{u w:Word}(D:nF ai l)(hu:Po.wordOk u=true)(h:dk ai (.inr (tx u))=none):nF (ff ai (.inr (tx u)) (V.str (tx w))) (l++[(u,w)]):=by
 apply⟨by rw[cq];exact b3 (qH _ _ _) (Nat.add_le_add_right D.1 1),fun v hv=>?_⟩;rw[CO,TR];by_cases e:v=u
 ·subst e;have:=D.2 v hv;rw[h]at this;rw[aE rfl,aE rfl];cases hf:l.find? fun p=>p.1==v with
  | none=>simp
  | some q=>rw[hf]at this;cases this
 ·rw[aB (fun q=>e ((Ug hu).mp q)),D.2 v hv,aB (fun q=>e q.symm),Option.or_none]
def rQ.va {ai:List (aP×V)}{l:List Word}{u:Word}{y:V}(D:rQ ai l)(hu:Po.wordOk u=true):rQ (ff ai (.inr (tx u)) y) (l++[u]):=by
 apply⟨by rw[cq];exact b3 (qH _ _ _) (Nat.add_le_add_right D.1 1),fun v hv=>?_⟩;rw[CO];by_cases e:v=u
 ·subst e;simp
 ·rw[aB (fun q=>e ((Ug hu).mp q)),D.2 v hv];simp[e]
section
variable {CI CF CR C:ae}{H H':Hp}{a r:ae}{n:Nat}{A:eP}{x:aW}
def cg.same (R:cg CI CF CR H a n A x)(s:aj H H'):cg CI CF CR H' a n A x :=
 ⟨let ⟨dx,h⟩:=R.bu;⟨dx,s _ _ h⟩,s _ _ R.sh,let ⟨k,h1,h2⟩:=R.ra;⟨k,s _ _ h1,h2⟩,let ⟨k,h1,h2⟩:=R.da;⟨k,s _ _ h1,h2⟩,s _ _ R.fo,L2.Paired.dc R.fs fun _ _ F=>F.same s,R.sf,R.rd,R.ap⟩
def Dx {c d:Nat}{b:ajG}{p:Nat}:u9 n c d A≠qk b p:=fun h=>by injection h with h1;injection h1 with h2;exact absurd h2 (by decide+kernel)
def cg.keep {b:ajG}{p:Nat}(R:cg CI CF CR H a n A x)(hr:cu C H r b p)(s:bf r H H'):cg CI CF CR H' a n A x:=by obtain⟨dr,qo⟩:=id hr.1;obtain⟨dx,h⟩:=R.bu;obtain⟨k1,r1,r2⟩:=R.ra;obtain⟨k2,d1,d2⟩:=R.da;exact⟨⟨dx,s _ _ h (aJ h qo fun q=>Dx (mv q))⟩,s _ _ R.sh (aJ R.sh qo nofun),⟨k1,s _ _ r1 (aJ r1 qo nofun),r2⟩,⟨k2,s _ _ d1 (aJ d1 qo nofun),d2⟩,s _ _ R.fo (aJ R.fo qo nofun),L2.Paired.dc R.fs fun _ _ F=>F.keep hr s,R.sf,R.rd,R.ap⟩
def bG (S:List ae)(H H':Hp):Prop:=∀b o,H b=some o->b∉S->H' b=some o
def bG.trans {S:List ae}{H H1 H2:Hp}(k:bG S H H1)(l:bG S H1 H2):bG S H H2:=fun b o h n=>l b o (k b o h n) n
def bG.refl (S:List ae)(H:Hp):bG S H H:=fun _ _ h _=>h
def bG.ay {S:List ae}{H:Hp}{b:ae}{o:HO}(h:b∈S):bG S H (L2.ay H b o):=fun c u e n=>by rw[aq (show c≠b from fun q=>n (by rw[q];exact h))];exact e
def bG.iZ {S:List ae}{H H1:Hp}{b:ae}{o:HO}(k:bG S H H1)(h:b∈S\/H b=none):bG S H (L2.ay H1 b o):=fun c u e n=>by
 rw[aq (fun q=>?_)]
 ·exact k c u e n
 ·subst q;rcases h with h|h
  ·exact n h
  ·rw[h]at e;cases e
def bf.fQ {S:List ae}(k:bf r H H')(h:r∈S):bG S H H':=fun b o e n=>k b o e fun q=>n (q▸h)
def aj.fQ {S:List ae}(k:aj H H'):bG S H H':=fun b o e _=>k b o e
def dA.fS {f pa ja:ae}{ps:List ae}{is:List bI}{js:List Nat}(F:dA CI CF H f pa ja ps is js)(hi:∀b C dx fs,H b=some (.bc C dx fs)->(fs=Fx pa ja\/∃i,fs=vh i)->H' b=some (.bc C dx fs))(hp:H' pa=H pa)(hj:H' ja=H ja):dA CI CF H' f pa ja ps is js:=by obtain⟨dx,h⟩:=F.bu;exact⟨⟨dx,hi _ _ _ _ h (.inl rfl)⟩,hp.trans F.pc,L2.Paired.dc F.it fun b i ⟨dx,h⟩=>⟨dx,hi _ _ _ _ h (.inr ⟨i,rfl⟩)⟩,hj.trans F.jt⟩
theorem Sg {α β:Type}{F G:α->β->Prop}:∀{l:List α}{m:List β},Paired F l m->(∀a∈l,∀b,F a b->G a b)->Paired G l m
 | _,_,.nil,_=>.nil
 | _,_,.cons r t,h=>.cons (h _ (by simp) _ r) (Sg t fun a ha b q=>h a (eF _ ha) b q)
end
structure lK where
 sa:ae
 wa:ae
 na:ae
 la:ae
 ka:ae
 kl:ae
noncomputable def Xk (A:lK):List (Str×V):=[("shapes",.ref A.sa),("words",.ref A.wa),("word_numbers",.ref A.na),("word_lines",.ref A.la),("links",.ref A.ka),("known_lengths",.ref A.kl)]
def jk (l:List bP):List V:=l.map fun y=>V.int ((y.line:Nat):Int)
def p8 (l:List bP):List V:=l.map fun y=>V.int ((y.i:Nat):Int)
structure j6 (C:ae)(H:Hp)(r:ae)(A:lK)(x:aW)(l:List bP):Prop where
 bu:∃dx,H r=some (.bc C dx (Xk A))
 sh:H A.sa=some (.ak (aV (Po.shapes x)))
 wo:H A.wa=some (.ak (aV (l.map fun y=>y.word)))
 li:H A.la=some (.ak (jk l))
 nu:H A.na=some (.ak (p8 l))
def j6.same {C:ae}{H H':Hp}{r:ae}{A:lK}{x:aW}{l:List bP}(R:j6 C H r A x l)(s:aj H H'):j6 C H' r A x l :=
 ⟨let ⟨dx,h⟩:=R.bu;⟨dx,s _ _ h⟩,s _ _ R.sh,s _ _ R.wo,s _ _ R.li,s _ _ R.nu⟩
def T3 {ws:List Word}{p q:Nat}(hp:p<=q)(hq:q<=ws.length):j5 (aV ws) (some (p:Int)) (some (q:Int))=aV ((ws.drop p).take (q-p)):=by unfold j5 aV;rw[aL];simp only[HT.cA];rw[aB ⋯,aB ⋯,mj,mj,tG hq,tG (b3 hp hq)];rw[List.map_take,List.map_drop]
structure pD (x:aW)(l:List bP):Prop where
 w:∀y∈l,Po.wordOk y.word=true/\y.word≠[]
 n:l.length<=1000
 sn:(Po.shapes x).length<=1000
 sl:∀s∈Po.shapes x,s.length<=1000000
theorem zK {m:Nat}:∀{ws:List Word},(∀v∈ws,v.length<=m)->ws.flatten.length<=ws.length*m
 | [],_=>by simp
 | v::r,h=>by have:=zK (ws:=r) fun u hu=>h u (eF _ hu);have h1:=h v (by simp);rw[List.flatten_cons,cq,dQ,Nat.add_mul,Nat.one_mul];omega
def qW {v:Word}(h:Po.wordOk v=true):v.length<=32:=by unfold Po.wordOk at h;rw[dw,eE]at h;exact h.1
def wy {l:List bP}{k:Nat}{y:bP}(h:l[k]?=some y):(jk l)[k]?=some (V.int (y.line:Int)):=by unfold jk;rw[bR,h];rfl
def bC (l:List Nat):List V:=l.map fun c=>V.int ((c:Nat):Int)
def af8 (C CI:ae):Sp:=fun vs H Q _=>∃(r ia:ae)(k:Nat)(A:lK)(x:aW)(l:List bP)(i:bI),vs=[.ref r,.ref ia,.int (k:Int)]/\j6 C H r A x l/\pD x l/\lX CI H ia i/\i.kind<=9/\(i.kind=9->∀c∈i.word,c∈bV)/\k<l.length /\
 ∀(H':Hp)(p:ae),aj H H'->H p=none->H' p=some (.ak (bC (Wm.eD x l i k)))->Q (.ref p) H'
def P4:bD ["self","item","start","lengths","end","most_end"] ["self","item","start"] (aR OC):=bL
def Zp (T:Tx K mg):bg P w K mg base (bw P w) 4 T.FN T.OD ["self","item","start"] (af8 T.di T.bX):=by
 have GF:= @Q7 P w K mg base T;exists T.Bx.cj P4
 ·obtain⟨r,ia,k,A,x,l,i,rfl,_⟩:=h;rfl
 ·obtain⟨r,ia,k,ga,x,l,i,rfl,hR,hO,⟨dm,hI⟩,kc,iA,cG,kk⟩:=h;obtain⟨tm,mM,tM⟩:=(T.tu T.Bz);rw[Tu]at tM;have nd:=P4.nd;apply Z10 _ (aD (bB (i:=3) nd rfl Olr (cz ax))
   (aD (bB (i:=4) nd rfl Olr (e9 k7 (pv 2) bQ))
   (aD (bB (i:=5) nd rfl Olr (cD (acV rfl) rfl (T.tn T.LU) (by decide+kernel) (ao (e9 k7 (pv 2) (cZ zR (bh (v:=.ref tm) rfl mM rfl) (aX (pv 1) rfl) (fun _ _=>rfl))) (ao (cD gA rfl (T.tn T.d5) e7 (ao (aX (pv 0) rfl) ax)) ax))))
   (aD (qR PassesOwn.never (PW.pt (wC (cI jG (pv 4) (pv 5) (bS _)) (zH (cI dW (cZ eU (aX (pv 0) rfl) (e9 rl (pv 4) bQ) (fun _ _=>rfl)) (cZ eU (aX (pv 0) rfl) (pv 2) (fun _ _=>rfl)) (bS _)))))
    (aD (bU (gm (cy GF hr rfl (T.tm T.Cb) T.tT.kp (jz T.tT) .nil bE (ao (pv 1) (ao (qS wx (aX (pv 0) rfl) (lR (pv 2)) (lR (pv 4))) (ao (aX (pv 0) rfl) ax)))))
     (aF (dR (gp gU iQ iP hU (pv 3) (ao (e9 rl (pv 4) (pv 2)) ax)))) b5)
    (aF (uf (i:=4) nd rfl Olr bQ DD))))
   (aF (aY (pv 3))))))) ?_
  have E5:(Fi.gq.map fun m=>V.int ((m:Nat):Int))[i.kind]?=some (V.int ((Fi.gq.getD i.kind 0:Nat):Int)):=by
   have key:∀k:Fin 10,(Fi.gq.map fun m=>V.int ((m:Nat):Int))[k.val]?=some (V.int ((Fi.gq.getD k.val 0:Nat):Int)):=by decide+kernel
   exact key ⟨i.kind,by omega⟩
  have hm8:=Lm.ags i.kind;generalize AW:Fi.gq.getD i.kind 0=mo at E5 hm8;have EO:∀y∈l,Po.wordOk y.word=true:=fun y hy=>(hO.w y hy).1;obtain⟨y0,so⟩:∃y,l[k]?=some y:=⟨_,cB cG⟩;apply cF ?_;apply⟨bA _,fun p hp=>ck ?_⟩;have sp:=aj.new (o:=.ak []) hp;obtain⟨dx,lH⟩:=(hR.same sp).bu;apply cF ?_;apply Z23 _ rfl _ _ rfl rfl (ck ?_);apply cF ?_;apply Z90 _ rfl _ rfl ia _ dm _ _ rfl ⟨sp _ _ hI,T.fU,Z99 T.jC rfl tm _ _ _ rfl rfl (tM.sq _) (dH E5) (Z93 _ _ rfl rfl _ rfl (Z67 r _ dx _ _ rfl lH T.fk T.pG rfl ga.wa _ ⟨rfl,Z41 (.inl (aA.of (sp _ _ hR.wo))) _ _ rfl (ck ?_)⟩))⟩;have vF:(aV (l.map fun y=>y.word)).length=l.length:=by simp[aV]
  have eM:(if(((aV (l.map fun y=>y.word)).length:Nat):Int)<(k:Int)+(mo:Int)then(((aV (l.map fun y=>y.word)).length:Nat):Int)else(k:Int)+(mo:Int))=((min (k+mo) l.length:Nat):Int):=by rw[vF];split<;>omega
  rw[eM]
  let x4:Nat->L2.St:=fun n=>[some (.ref r),some (.ref ia),some (.int (k:Int)),some (.ref p),some (.int ((k+1+n:Nat):Int)),some (.int ((min (k+mo) l.length:Nat):Int))]
  let B:Nat->L2.St->Hp->Prop:=fun n σ H'=>σ=x4 n/\aj H H'/\H' p=some (.ak (bC (Lm.nJ x l i k n)))/\k+n<=l.length/\n<=mo/\Lm.wV l k n
  apply v9 (fun m σ H'=>∃n,m=l.length-(k+n)/\B n σ H') (fun m σ H'=>∃n,m=l.length-(k+n)/\B n σ H'/\k+n<l.length/\n<mo/\Lm.wV l k (n+1))
   (fun σ H'=>∃n,σ=x4 n/\aj H H'/\H' p=some (.ak (bC (Wm.eD x l i k)))) _ (Z10 0 rfl ⟨rfl,sp,aC,Nat.le_of_lt cG,bA _,fun j hj=>absurd hj (Nat.not_lt_zero _)⟩) ?_ ?_ ?_
  ·rintro X Y m σ H' ⟨n,rfl,rfl,sm,dM,kQ,sO,hL⟩ hX hY;have ek:(∀c,n<c->Lm.F x l i k c=false)->X (x4 n) H':=fun h=>hX _ _ ⟨n,rfl,sm,by rw[dM,Lm.ac6 x l ⋯ h]⟩;obtain⟨dD,pb⟩:=(hR.same sm).bu;have Yb:=(hR.same sm).li;apply Z83 _ rfl _ rfl _ _ rfl rfl _ rfl ?_;by_cases h1:k+1+n<=min (k+mo) l.length
   ·rw[bY (show((k+1+n:Nat):Int)<=((min (k+mo) l.length:Nat):Int) by omega)];obtain⟨yn,Ni⟩:∃y,l[k+n]?=some y:=⟨_,cB ⋯⟩;have ei:((k+1+n:Nat):Int)-1=((k+n:Nat):Int):=by omega
    apply a0 (Z33 _ rfl r _ (Z86 dD _ _ rfl pb T.fk T.qE rfl _ rfl _ _ (Z99 rfl rfl ga.la _ _ _ rfl rfl (aA.of Yb) (by rw[ei];exact dH (wy Ni)) (Z16 _ rfl r _ dD _ _ rfl pb T.fk T.qE rfl (Z44 _ rfl ga.la _ _ _ rfl rfl (aA.of Yb) (dH (wy so)) (Z25 rfl _ rfl ?_))))));rw[lS];by_cases h2:yn.line=y0.line
    ·rw[bY h2];exact a0 (hY _ _ ⟨n,rfl,⟨rfl,sm,dM,kQ,sO,hL⟩,by omega,by omega,Lm.abD l hL (by rw[Ni,so];exact congrArg some h2)⟩)
    ·rw[bZ h2];exact aO (ek (Lm.agT x l (by rw[Ni,so];intro q;exact h2 (d3 q))))
   ·rw[bZ (show¬((k+1+n:Nat):Int)<=((min (k+mo) l.length:Nat):Int) by omega)];apply aO (ek ?_);by_cases h3:mo<=n
    ·exact Lm.agS x l kc EO (by rw[AW];exact h3)
    ·exact Lm.ahL x l ⋯
  ·rintro m σ H' ⟨n,rfl,⟨rfl,sm,dM,kQ,sO,hL⟩,h1,h2,Ba⟩;obtain⟨dD,pb⟩:=(hR.same sm).bu;apply dj (fun σ H2=>σ=x4 n/\aj H H2/\H2 p=some (.ak (bC (Lm.nJ x l i k (n+1))))) (fun X hX=>?_) ?_
   ·have eZ:(l.map fun y=>y.word).length=l.length:=by simp
    apply Z90 _ rfl _ rfl r _ dD _ _ rfl ⟨pb,T.fk,T.pG,rfl,Z101 _ rfl _ rfl _ rfl _ rfl ga.wa _ ⟨rfl,aA.of (sm _ _ hR.wo),fun q hq=>?_⟩⟩;have sq:=sm.trans (aj.new (o:=.ak (j5 (aV (l.map fun y=>y.word)) (some (k:Int)) (some ((k+1+n:Nat):Int)))) hq);obtain⟨qx,hRq⟩:=(hR.same sq).bu;have MI:j5 (aV (l.map fun y=>y.word)) (some (k:Int)) (some ((k+1+n:Nat):Int))=aV (((l.drop k).take (n+1)).map fun y=>y.word):=by rw[T3 ⋯ (by rw[eZ];omega),show k+1+n-k=n+1 by omega,List.map_take,List.map_drop]
    have cX:∀y∈(l.drop k).take (n+1),Po.wordOk y.word=true/\y.word≠[]:=fun y hy=>hO.w y (FJ (x5 hy));have hW:MN K (L2.ay H' q (.ak (j5 (aV (l.map fun y=>y.word)) (some (k:Int)) (some ((k+1+n:Nat):Int))))) q (((l.drop k).take (n+1)).map fun y=>y.word):=by apply⟨aA.of (by rw[aC,MI]),fun v hv=>?_⟩;obtain⟨y,hy,rfl⟩:=cx.mp hv;have:=cX y hy;have N3:=qW this.1;exact⟨Rm.CN this.1,this.2,by omega⟩
    have iM:(((l.drop k).take (n+1)).map fun y=>y.word).flatten.length<=1000000:=by
     have:=zK (m:=32) (ws:=((l.drop k).take (n+1)).map fun y=>y.word) fun v hv=>by obtain⟨y,hy,rfl⟩:=cx.mp hv;exact qW (cX y hy).1
     rw[aL,gH]at this;have:min (n+1) (l.drop k).length*32<=9*32:=Nat.mul_le_mul_right _ ⋯;omega
    apply Z30 _ rfl r _ qx _ _ rfl hRq T.fk (Z102 T.BF rfl ia q ga.sa i _ _ rfl ⟨dm,sq _ _ hI⟩ kc iA ⟨hW,iM,aA.of (sq _ _ hR.sh),hO.sn,hO.sl,fun H2 s2=>Z10 _ rfl ?_⟩);have hF:=Lm.afP x l (i:=i) (k:=k) (n:=n+1) kc EO ⋯ ⋯ Ba;have gy:H2 p=some (.ak (bC (Lm.nJ x l i k n))):=s2 _ _ (by rw[aq (aQ dM hq)];exact dM);have su:=Lm.SS x l i k n;rw[<-hF];cases hb:Lm.F x l i k (n+1)with
    | true =>
     rw[hb,aE rfl]at su;apply a0 (Z12 _ rfl (.inl ⟨rfl,_,aA.of gy⟩) (Z17 _ rfl _ (Z95 rfl _ _ rfl rfl p _ _ rfl rfl gy ?_ (hX _ _ ⟨rfl,(sq.trans s2).i0 hp,?_⟩))))
     ·have:=Lm.aar x l i k n;unfold bC;rw[aL];exact fi (show _<100 by omega) (by decide)
     ·rw[aC,su];unfold bC;rw[cV];show some (HO.ak (_++[V.int (((k+1+n:Nat):Int)-(k:Int))]))=_;rw[show((k+1+n:Nat):Int)-(k:Int)=((n+1:Nat):Int) by omega];rfl
    | false =>rw[hb,aB fE,nq]at su;exact aO (hX _ _ ⟨rfl,sq.trans s2,by rw[gy,su]⟩)
   ·rintro σ H2 ⟨rfl,s2,gy⟩;apply Z17 _ rfl _ (Z96 _ rfl rfl (l.length-(k+(n+1))) ⋯ (n+1) rfl ?_ ⟨s2,gy,by omega,by omega,Ba⟩);show List.set (x4 n) 4 (some (V.int (((k+1+n:Nat):Int)+1)))=x4 (n+1);rw[show((k+1+n:Nat):Int)+1=((k+1+(n+1):Nat):Int) by omega];rfl
  ·rintro σ H' ⟨n,rfl,sm,dM⟩;exact⟨_,rfl,kk H' p sm hp dM⟩
def e8 {H H':Hp}{q:ae}(s:aj H H')(h:H' q=none):H q=none:=by
 cases e:H q with
 | none=>rfl
 | some o=>rw[s _ _ e]at h;cases h
noncomputable def iW (l:List bP)(s n:Nat):List Nat:=1::(List.range n).map fun k=>if Po.begins l s (k+1)=true then 1 else 0
def aaL (l:List bP)(s n:Nat):iW l s (n+1)=iW l s n++[if Po.begins l s (n+1)=true then 1 else 0]:=by unfold iW;rw[vK,cV];rfl
def B0 (l:List bP)(s n:Nat):(iW l s n).length=n+1:=by simp[iW]
def acU {l:List bP}:j5 (jk l) (some (1:Int)) none=jk (l.drop 1):=by
 unfold j5 jk;rw[aL];simp only[HT.cA];rw[aB ⋯];cases l with
 | nil=>rfl
 | cons y r =>rw[show min (1:Int).toNat (y::r).length=1 by simp];show(r.map _).take r.length=r.map _;rw[Bt (by simp)]
def aeC (C:ae):Sp:=fun vs H Q _=>∃(r dx la:ae)(fs:List (Str×V))(l:List bP)(s:Nat),vs=[.ref r,.int (s:Int)]/\H r=some (.bc C dx fs)/\fs.lookup ("word_lines":Str)=some (V.ref la)/\H la=some (.ak (jk l))/\l.length<=1000/\s<=2 /\
 ∀(H':Hp)(p:ae),aj H H'->H p=none->H' p=some (.ak (bC (iW l s (l.length-1)++[0])))->Q (.ref p) H'
def Rw:bD ["self","strength","links","before","line","barred"] ["self","strength"] (aR OT):=bL
def aaD (T:Tx K mg):bg P w K mg base (bw P w) 1 T.Ga T.OY ["self","strength"] (aeC T.di):=by
 exists T.BD.cj Rw
 ·obtain⟨r,dx,la,fs,l,s,rfl,_⟩:=h;rfl
 ·obtain⟨r,dx,la,fs,l,s,rfl,hR,E9,fN,nY,gF,kk⟩:=h;obtain⟨u1,m1,r1⟩:=(T.tg T.qY);obtain⟨u2,m2,r2⟩:=(T.tg T.C3);have nd:=Rw.nd;apply Z10 _ (aD (bB (i:=2) nd rfl Olr (cz (ao bQ ax)))
   (aD (jh PassesOwn.never rfl (Lv rfl (T.tn T.uj) (ao (aX (pv 0) rfl) (ao (qS wx (aX (pv 0) rfl) (lR bQ) K5) ax))) (jj rfl (dF (b9 (i:=3) nd rfl Olr) (dF (b9 (i:=4) nd rfl Olr) jf)))
    (aD (bB (i:=5) nd rfl Olr (LR (lW (iT dW (pv 1) (bh rfl m1 r1) (bS _)) (kx (iT DM (pv 3) (pv 4) (bS _)))) (kx (lW (iT dW (pv 1) (bh rfl m2 r2) (bS _)) (kx (iT dW (pv 3) (pv 4) (bS _)))))))
    (aF (dR (gp gU iQ iP hU (pv 2) (ao (zD (gm (pv 5)) bQ bQ) ax))))))
   (aF (aY (e9 ug (pv 2) (cz (ao bQ ax))))))) ?_
  apply cF ?_;apply⟨eY,fun p hp=>ck ?_⟩;have sp:=aj.new (o:=.ak [V.int 1]) hp;apply dj (fun σ H'=>∃v3 v4 v5,σ=[some (.ref r),some (.int (s:Int)),some (.ref p),v3,v4,v5]/\aj H H'/\H' p=some (.ak (bC (iW l s (l.length-1))))) (fun X hX=>?_) ?_
  ·apply Z16 _ rfl r _ dx _ _ rfl (sp _ _ hR) T.fk T.qE E9 (Z34 _ rfl r _ dx _ (Z43 _ rfl (sp _ _ hR) T.fk T.qE E9 _ rfl la _ rfl (aA.of (sp _ _ fN)) (fun q hq=>?_)));rw[acU];have sq:=sp.trans (aj.new (o:=.ak (jk (l.drop 1))) hq);have aiT:=sq _ _ fN;apply Z32 la q _ _ rfl (aA.of aiT) (aA.of aC) ?_;have EU:H q=none:=e8 sp hq;apply uc (l.length-1) (fun i σ H'=>∃v3 v4 v5,σ=[some (.ref r),some (.int (s:Int)),some (.ref p),v3,v4,v5]/\aj H H'/\H' q=some (.ak (jk (l.drop 1)))/\H' p=some (.ak (bC (iW l s i)))) ?_ ?_ ?_ ?_ ?_
   ·exact Z20 _ _ _ rfl sq aC (by rw[aq (aQ aC hq),aC];rfl)
   ·rintro i σ H1 hi ⟨v3,v4,v5,rfl,sm,jv,gN⟩;have h1:i<l.length:=by omega
    have h2:i<(l.drop 1).length:=by rw[jX];exact hi
    exact Z32 _ _ _ _ (aA.of (sm _ _ fN)) (aA.of jv) (wy (cB h1)) (wy (cB h2))
   ·rintro σ H1 ⟨v3,v4,v5,rfl,sm,jv,gN⟩;exact Z14 _ _ (aA.of (sm _ _ fN)) (aA.of jv) (.inr (by simp[jk]))
   ·rintro i v σ H1 H2 hi ⟨v3,v4,v5,rfl,sm,jv,gN⟩ ⟨Tt,a,b,rfl,hT,rfl,ha,hb⟩;have h1:i<l.length:=by omega
    have h2:i+1<l.length:=by omega
    have e1:=cB h1;have e2:=cB h2;generalize l[i]=y at e1;generalize l[i+1]=z at e2;have jV:=ha _ (aA.of (sm _ _ fN));rw[wy e1]at jV;have Yq:=hb _ (aA.of jv);rw[wy (y:=z) (by rw[x6,Nat.add_comm];exact e2)]at Yq;cases jV;cases Yq;have s2:=sm.trans (aj.new (o:=.bp [V.int (y.line:Int),V.int (z.line:Int)]) hT);have gy:(L2.ay H1 Tt (.bp [V.int (y.line:Int),V.int (z.line:Int)])) p=some (.ak (bC (iW l s i))):=by rw[aq (aQ gN hT)];exact gN
    have hq2:(L2.ay H1 Tt (.bp [V.int (y.line:Int),V.int (z.line:Int)])) q=some (.ak (jk (l.drop 1))):=by rw[aq (aQ jv hT)];exact jv
    have npq:q≠p:=fun e=>by have:=hq;rw[e,aC]at this;cases this
    have ez:decide (V.int (s:Int)=V.int 0)=decide (s=0):=lS (j:=0);have et:decide (V.int (s:Int)=V.int 2)=decide (s=2):=lS (j:=2);have qr:=Lm.acX l gF (k:=i) h2 y.line z.line (by rw[e1];rfl) (by rw[e2];rfl);apply Z39 Tt _ rfl (cS.of aC) rfl _ _ rfl _ _ rfl rfl ?_;apply cF (Lx (decide (s=0)&& !decide (y.line=z.line)) (decide (s=2)&&decide (y.line=z.line))
     (fun Q' q'=>qQ _ _ (fun Q2 q2=>⟨_,rfl,rfl,by rw[ez];exact q2⟩) (fun _ Q2 q2=>Z24 _ rfl _ rfl rfl (by rw[lS];exact q2)) q')
     (fun Q' q'=>qQ _ _ (fun Q2 q2=>⟨_,rfl,rfl,by rw[et];exact q2⟩) (fun _ Q2 q2=>Z24 _ rfl _ rfl rfl (by rw[lS];exact q2)) q') ?_)
    have ajl:((decide (s=0)&& !decide (y.line=z.line))||(decide (s=2)&&decide (y.line=z.line)))= !Po.begins l s (i+1):=by rw[qr,Bool.not_not];simp
    rw[ajl];have hls:=aaL l s i;have bN:(bC (iW l s i)).length<sizeLine:=by unfold bC;rw[aL,B0];exact fi (show _<2000 by omega) (by decide)
    have fin:∀(c:Nat)(v5:Option V),(c=if Po.begins l s (i+1)=true then 1 else 0)->∃v3 v4 v5',([some (.ref r),some (.int (s:Int)),some (.ref p),some (V.int (y.line:Int)),some (V.int (z.line:Int)),v5]:L2.St)=[some (.ref r),some (.int (s:Int)),some (.ref p),v3,v4,v5']/\aj H (L2.ay (L2.ay H1 Tt (.bp [V.int (y.line:Int),V.int (z.line:Int)])) p (.ak (bC (iW l s i)++[V.int (c:Int)]))) /\
      (L2.ay (L2.ay H1 Tt (.bp [V.int (y.line:Int),V.int (z.line:Int)])) p (.ak (bC (iW l s i)++[V.int (c:Int)]))) q=some (.ak (jk (l.drop 1))) /\
      (L2.ay (L2.ay H1 Tt (.bp [V.int (y.line:Int),V.int (z.line:Int)])) p (.ak (bC (iW l s i)++[V.int (c:Int)]))) p=some (.ak (bC (iW l s (i+1)))):=fun c v5 hc=>by
     apply Z20 _ _ _ rfl (s2.i0 hp) (by rw[aq npq];exact hq2) ?_;rw[aC,hls,<-hc];unfold bC;rw[cV];rfl
    apply ck ?_;apply Z12 _ rfl (.inl ⟨rfl,_,aA.of gy⟩) (Z15 _ rfl _ rfl ?_);cases hb:Po.begins l s (i+1)with
    | true=>exact aO (Z13 p _ _ rfl rfl gy bN (fin 1 _ (by rw[hb];rfl)))
    | false=>exact a0 (Z13 p _ _ rfl rfl gy bN (fin 0 _ (by rw[hb];rfl)))
   ·rintro σ H1 ⟨v3,v4,v5,rfl,sm,jv,gN⟩;exact hX _ _ (Z19 _ _ _ rfl sm gN)
  ·rintro σ H' ⟨v3,v4,v5,rfl,sm,dM⟩;apply⟨_,rfl,eY,fun q hq=>?_⟩;apply Z35 p q _ _ rfl rfl (by rw[aq (aQ dM hq)];exact dM) aC ?_ (fun t ht=>?_)
   ·unfold bC;rw[aL,B0];exact nV (by simp;omega)
   ·have s3:=sm.trans (aj.new (o:=.ak [V.int 0]) hq);apply kk _ t (s3.trans (aj.new ht)) (e8 s3 ht) ?_;rw[aC];unfold bC;rw[cV];rfl
section
variable {CI CF CR C:ae}{H H':Hp}{a r:ae}{n:Nat}{A:eP}{x:aW}
def bG.gv {S S':List ae}(k:bG S H H')(h:∀b∈S,b∈S'):bG S' H H':=fun b o e q=>k b o e fun z=>q (h b z)
abbrev eP.all (A:eP)(a:ae):List ae:=[a,A.sa,A.ra,A.da,A.fa]
def cg.zm (R:cg CI CF CR H a n A x)(k:bG (A.all a) H H'):Paired (fun g f=>dA CI CF H' g.f g.pa g.ja g.ps f.items (f.more.map (·.1))) A.fs (Po.forms x):=by
 obtain⟨da0,ha⟩:=R.bu;obtain⟨k1,r1,r2⟩:=R.ra;obtain⟨k2,d1,d2⟩:=R.da;apply Sg R.fs fun g hg f F=>?_;obtain⟨p1,p2,p3,p4⟩:=R.ap g hg;have hl:∀b l,H b=some (.ak l)->b≠A.sa->b≠A.fa->H' b=some (.ak l):=fun b l h n1 n2=>k _ _ h (by simp;exact⟨aJ h ha nofun,n1,aJ h r1 nofun,aJ h d1 nofun,n2⟩)
 apply F.fS (fun b C dy fs h q=>k _ _ h ?_) ((hl _ _ F.pc p1 p2).trans F.pc.symm) ((hl _ _ F.jt p3 p4).trans F.jt.symm);simp;apply⟨aJ h ha fun z=>?_,aJ h R.sh nofun,aJ h r1 nofun,aJ h d1 nofun,aJ h R.fo nofun⟩;have z:=mv z;rcases q with q|⟨i,q⟩
 ·rw[q]at z;injection z with z1;injection z1 with z2;exact absurd z2 (by decide+kernel)
 ·rw[q]at z;injection z with z1;injection z1 with z2;exact absurd z2 (by decide+kernel)
end
def ad8 (y:V)(ys:List V):j5 (y::ys) (some 1) none=ys:=by unfold j5;simp[HT.cA]
def adj (CI CF CR:ae):Sp:=fun vs H Q _=>∃(a dx:ae),vs=[.ref a]/\H a=some (.bc CR dx [])/\∀(H':Hp)(A:eP),cg CI CF CR H' a 0 A []->A.fs=[]->(∀b∈[A.sa,A.ra,A.da,A.fa],H b=none)->bf a H H'->Q .bx H'
def ZJ:bD ["self"] ["self"] (aR Q4):=bL
def ZX (T:Tx K mg):bg P w K mg base (bw P w) 1 T.IA T.Rl ["self"] (adj T.bX T.cn T.cQ):=by
 exists T.B6.cj ZJ
 ·obtain⟨a,dx,rfl,_⟩:=h;rfl
 ·obtain⟨a,dx,rfl,ha,k⟩:=h;apply⟨_,aD (fP (pv 0) bQ rfl) (aD (fP (pv 0) (cz ax) rfl) (aD (fP (pv 0) bQ rfl) (aD (fP (pv 0) bQ rfl) (aD (fP (pv 0) Kv rfl) (aD (fP (pv 0) Kv rfl) (aF (fP (pv 0) (cz ax) rfl))))))),?_⟩;apply Z18 _ rfl a _ dx [] rfl ha T.dG T.tI (show 0<1000 by decide) ?_;apply⟨bA _,fun sa dJ=>Z18 _ rfl a _ dx [("line_count",.int 0)] rfl (by rw[aq (cC dJ).1.symm,aC];rfl) T.dG T.pJ (show 1<1000 by decide) ?_⟩;apply Z18 _ rfl a _ dx _ rfl aC T.dG T.yd (show 2<1000 by decide) ?_;apply Z18 _ rfl a _ dx _ rfl aC T.dG T.yg (show 3<1000 by decide) ?_;intro ra lC;apply Z18 _ rfl a _ dx [("line_count",.int 0),("shapes",.ref sa),("short_count",.int 0),("drop_count",.int 0)] rfl (by rw[aq (cC lC).1.symm,aC];rfl) T.dG T.yr (show 4<1000 by decide) ?_;intro da jU;apply Z18 _ rfl a _ dx [("line_count",.int 0),("shapes",.ref sa),("short_count",.int 0),("drop_count",.int 0),("read_as",.ref ra)] rfl (by rw[aq (cC jU).1.symm,aC];rfl) T.dG T.yt (show 5<1000 by decide) ?_;apply⟨bA _,fun fa jS=>Z18 _ rfl a _ dx [("line_count",.int 0),("shapes",.ref sa),("short_count",.int 0),("drop_count",.int 0),("read_as",.ref ra),("dropped",.ref da)] rfl (by rw[aq (cC jS).1.symm,aC];rfl) T.dG T.nt (show 6<1000 by decide) ?_⟩;obtain⟨xu,dJ⟩:=cC dJ;obtain⟨se,lC⟩:=cC lC;have lC:=(cC lC).2;obtain⟨aie,lC⟩:=cC (cC lC).2;have lC:=(cC lC).2;obtain⟨vg,jU⟩:=cC jU;obtain⟨WC,jU⟩:=cC jU;have jU:=(cC jU).2;have jU:=(cC jU).2;obtain⟨aik,jU⟩:=cC (cC jU).2;have jU:=(cC jU).2;obtain⟨nfa,jS⟩:=cC jS;obtain⟨aij,jS⟩:=cC jS;obtain⟨aii,jS⟩:=cC (cC jS).2;have jS:=(cC jS).2;have jS:=(cC jS).2;obtain⟨WB,jS⟩:=cC (cC jS).2;have jS:=(cC jS).2;apply k _ ⟨sa,ra,da,fa,[]⟩ ⟨⟨dx,aC⟩,?_,⟨[],?_,nF.nil⟩,⟨[],?_,rQ.nil⟩,?_,.nil,WB.symm,WC.symm,fun g hg=>by simp at hg⟩ rfl (fun b hb=>?_) (fun b o e hn=>?_)
  ·rw[aq xu,aq WB.symm,aq xu,aq aik.symm,aq xu,aq aie.symm,aq xu,aq xu,aq xu,aC];rfl
  ·rw[aq se,aq aii.symm,aq se,aq WC.symm,aq se,aC]
  ·rw[aq vg,aq aij.symm,aq vg,aC]
  ·rw[aq nfa,aC];rfl
  ·simp at hb;rcases hb with rfl|rfl|rfl|rfl
   ·exact dJ
   ·exact lC
   ·exact jU
   ·exact jS
  ·rw[aq hn,aq (aQ e jS),aq hn,aq (aQ e jU),aq hn,aq (aQ e lC),aq hn,aq hn,aq hn,aq (aQ e dJ),aq hn];exact e
def abb (CI CF CR:ae):Sp:=fun vs H Q _=>∃(a l:ae)(n:Nat)(A:eP)(x:aW)(v:Word)(ws:List Word),vs=[.ref a,.ref l]/\cg CI CF CR H a n A x/\H l=some (.ak (aV (v::ws)))/\(∀u∈v::ws,Po.wordOk u=true)/\ws.length<=31/\(Po.shorts x).length<=20000 /\
 ∀H',cg CI CF CR H' a n A (x++[.short v ws])->bG [a,A.ra] H H'->Q .bx H'
def OQ:bD ["self","words","word"] ["self","words"] (aR O7):=bL
def Zc (T:Tx K mg):bg P w K mg base (bw P w) 1 T.Gr T.Pg ["self","words"] (abb T.bX T.cn T.cQ):=by
 exists T.BH.cj OQ
 ·obtain⟨a,l,n,A',x,v,ws,rfl,_⟩:=h;rfl
 ·obtain⟨a,l,n,A',x,v,ws,rfl,R,hl,hw,sr,xE,k⟩:=h;have nd:=OQ.nd;apply Z10 _ (aD (qO (pv 0) (e9 rl (cD gA rfl (T.tn T.d5) e7 (ao (pv 1) ax)) bQ) uh)
   (aF (jh PassesOwn.never rfl (iS (qS wx (pv 1) (lR bQ) K5)) (b9 (i:=2) nd rfl Olr) (aF (dR (abl (aX (pv 0) rfl) (pv 2) (cZ eU (pv 1) bQ (fun _ _=>rfl)) ⟨rfl,rfl,rfl,rfl⟩)))))) ?_
  obtain⟨dx,ha⟩:=R.bu;obtain⟨k1,r1,r2⟩:=R.ra;have vf:l≠a:=aJ hl ha nofun;have M0:l≠A'.ra:=aJ hl r1 nofun;have se:A'.ra≠a:=aJ r1 ha nofun;have ew:(aV (v::ws)).length=ws.length+1:=by simp[aV]
  apply Z34 _ rfl a _ dx _ (Z43 _ rfl ha T.dG T.yd rfl _ rfl l _ rfl (.inl (aA.of hl)) (Z53 _ _ rfl (Z109 rfl _ (Z94 _ rfl rfl dx _ ha (show 7<1000 by decide) ?_))));generalize kU:L2.ay H a _=H1;have Fj:H1 a=some (.bc T.cQ dx (u9 n (Po.shorts (x++[.short v ws])).length (Po.drops x).length A')):=by
   rw[<-kU,aC];congr 2;have e:(((Po.shorts x).length:Int)+(((aV (v::ws)).length:Int)-1))=((Po.shorts (x++[.short v ws])).length:Int):=by rw[ew,Rm.vW,cq,aL];omega
   show[(_,_),(_,_),(_,V.int (((Po.shorts x).length:Int)+(((aV (v::ws)).length:Int)-1))),(_,_),(_,_),(_,_),(_,_)]=_;rw[e];rfl
  have oV:bG [a,A'.ra] H H1:=by rw[<-kU];exact bG.ay (by simp)
  have gY:H1 l=some (.ak (aV (v::ws))):=oV _ _ hl (by simp;exact⟨vf,M0⟩);have sI:H1 A'.ra=some (.dK k1):=by rw[<-kU,aq se];exact r1
  clear kU;apply Z52 _ rfl _ rfl l _ rfl (aA.of gY) (fun p hp=>Z12 p rfl ⟨_,aA.of aC⟩ ?_);rw[show aV (v::ws)=V.str (tx v)::aV ws from rfl,ad8];have np:∀b o,H1 b=some o->b≠p:=fun b o h=>aQ h hp;apply ou (K:=K) (a:=p) (xs:=aV ws) (fun i σ H'=>∃v2 ai,σ=[some (.ref a),some (.ref l),v2]/\H' p=some (.ak (aV ws))/\H' a=some (.bc T.cQ dx (u9 n (Po.shorts (x++[.short v ws])).length (Po.drops x).length A'))/\H' l=some (.ak (aV (v::ws)))/\H' A'.ra=some (.dK ai)/\nF ai (Po.shorts x++(ws.take i).map fun u=>(u,v))/\bG [a,A'.ra] H H')
   (Z79 none k1 rfl aC (by rw[aq (np _ _ Fj)];exact Fj) (by rw[aq (np _ _ gY)];exact gY) (by rw[aq (np _ _ sI)];exact sI) (by simpa using r2) (fun b o e q=>by rw[aq (np _ _ (oV _ _ e q))];exact oV _ _ e q)) (fun i σ H' _ h=>let ⟨_,_,_,h,_⟩:=h;aA.of h) ?_ ?_
  ·rintro i y σ H' hi ⟨v2,ai,rfl,h1,h2,h3,h4,h5,h6⟩;unfold aV at hi;rw[bR]at hi;cases hu:ws[i]? with
   | none=>rw[hu]at hi;cases hi
   | some u =>
    rw[hu]at hi;cases hi;have E3:u∈v::ws:=eF _ (fC hu);have bN:=h5.1;have jR:i<ws.length:=(fD.mp hu).1;have tk:(ws.take (i+1)).map (fun u=>(u,v))=(ws.take i).map (fun u=>(u,v))++[(u,v)]:=by rw[kj hu,cV];rfl
    have nap:A'.ra≠p:=aJ h4 h1 nofun;have nal:A'.ra≠l:=M0.symm;apply Z16 _ rfl a _ dx _ _ rfl h2 T.dG T.yr rfl (Z11 A'.ra rfl (.inl ⟨_,.inl h4⟩) _ rfl (Z57 _ rfl l _ 0 _ rfl rfl (aA.of h3) (dH (j:=0) rfl) ai (.inr (tx u)) ⟨h4,rfl,?_,fun y hy=>?_,fun hn=>?_⟩))
    ·rw[cq,aL,gH]at bN;exact jd (show ai.length<=20100 by omega) (by decide)
    ·apply Z79 _ ai rfl h1 h2 h3 h4 ?_ h6;rw[tk,<-List.append_assoc];exact h5.there (hw u E3) hy
    ·apply Z79 _ _ rfl (by rw[aq nap.symm];exact h1) (by rw[aq se.symm];exact h2) (by rw[aq M0];exact h3) aC ?_ (h6.iZ (.inl (by simp)));rw[tk,<-List.append_assoc];exact h5.new (hw u E3) hn
  ·rintro σ H' ⟨v2,ai,rfl,h1,h2,h3,h4,h5,h6⟩;apply k H' ?_ h6;have e2:(aV ws).length=ws.length:=by simp[aV]
   rw[e2,ni]at h5;have es:Po.shorts x++ws.map (fun u=>(u,v))=Po.shorts (x++[.short v ws]):=by rw[Rm.vW]
   rw[es]at h5;have ed:Po.drops (x++[.short v ws])=Po.drops x:=by rw[Rm.wg];simp
   have eh:Po.shapes (x++[.short v ws])=Po.shapes x:=by rw[Rm.yW];simp
   have ef:Po.forms (x++[.short v ws])=Po.forms x:=by rw[Rm.zc];simp
   obtain⟨k2,d1,d2⟩:=R.da;have hm:bG (A'.all a) H H':=h6.gv (by intro b hb;simp at hb⊢;rcases hb with q|q<;>simp[q]);apply⟨⟨dx,by rw[ed];exact h2⟩,?_,⟨ai,h4,h5⟩,⟨k2,h6 _ _ d1 (by simp;exact⟨aJ d1 ha nofun,fun q=>R.rd q.symm⟩),by rw[ed];exact d2⟩,h6 _ _ R.fo (by simp;exact⟨aJ R.fo ha nofun,aJ R.fo r1 nofun⟩),by rw[ef];exact R.zm hm,R.sf,R.rd,R.ap⟩;rw[eh];exact h6 _ _ R.sh (by simp;exact⟨aJ R.sh ha nofun,aJ R.sh r1 nofun⟩)
def SW:(("shape ":String):Str)=tx Pm.lN:=by decide+kernel
def SV:(("short ":String):Str)=tx Pm.kZ:=by decide+kernel
def Um:(("drop ":String):Str)=tx Pm.k4:=by decide+kernel
def ac8:(("form ":String):Str)=tx Pm.nE:=by decide+kernel
def acj (CI CF CR:ae):Sp:=fun vs H Q _=>∃(a l:ae)(n:Nat)(A:eP)(x:aW)(ws:List Word),vs=[.ref a,.ref l]/\cg CI CF CR H a n A x/\H l=some (.ak (aV ws))/\(∀u∈ws,Po.wordOk u=true)/\ws.length<=32/\(Po.drops x).length<=20000 /\
 ∀H',cg CI CF CR H' a n A (x++[.drop ws])->bG [a,A.da] H H'->Q .bx H'
def O3:bD ["self","words","word"] ["self","words"] (aR Pz):=bL
def Zj (T:Tx K mg):bg P w K mg base (bw P w) 1 T.Hf T.PV ["self","words"] (acj T.bX T.cn T.cQ):=by
 exists T.BN.cj O3
 ·obtain⟨a,l,n,A',x,ws,rfl,_⟩:=h;rfl
 ·obtain⟨a,l,n,A',x,ws,rfl,R,hl,hw,sr,xE,k⟩:=h;have nd:=O3.nd;apply Z10 _ (aD (qO (pv 0) (cD gA rfl (T.tn T.d5) e7 (ao (pv 1) ax)) uh)
   (aF (jh PassesOwn.never rfl (iS (pv 1)) (b9 (i:=2) nd rfl Olr) (aF (K3 (my hr) (aX (pv 0) rfl) (pv 2) rq rfl))))) ?_
  obtain⟨dx,ha⟩:=R.bu;obtain⟨k1,r1,r2⟩:=R.ra;obtain⟨k2,d1,d2⟩:=R.da;have vf:l≠a:=aJ hl ha nofun;have Xs:l≠A'.da:=aJ hl d1 nofun;have vg:A'.da≠a:=aJ d1 ha nofun;have ew:(aV ws).length=ws.length:=by simp[aV]
  apply Z34 _ rfl a _ dx _ (Z43 _ rfl ha T.dG T.yg rfl _ rfl l _ rfl (.inl (aA.of hl)) (Z53 _ _ rfl (Z45 rfl dx _ ha (show 7<1000 by decide) ?_)));generalize kU:L2.ay H a _=H1;have Fj:H1 a=some (.bc T.cQ dx (u9 n (Po.shorts x).length (Po.drops (x++[.drop ws])).length A')):=by
   rw[<-kU,aC];congr 2;have e:(((Po.drops x).length:Int)+((aV ws).length:Int))=((Po.drops (x++[.drop ws])).length:Int):=by rw[ew,show Po.drops (x++[.drop ws])=Po.drops x++ws by rw[Rm.wg],cq];omega
   show[(_,_),(_,_),(_,_),(_,V.int (((Po.drops x).length:Int)+((aV ws).length:Int))),(_,_),(_,_),(_,_)]=_;rw[e];rfl
  have oV:bG [a,A'.da] H H1:=by rw[<-kU];exact bG.ay (by simp)
  have gY:H1 l=some (.ak (aV ws)):=oV _ _ hl (by simp;exact⟨vf,Xs⟩);have Fc:H1 A'.da=some (.dK k2):=by rw[<-kU,aq vg];exact d1
  clear kU;apply Z24 _ rfl l rfl ⟨_,aA.of gY⟩ ?_;apply ou (K:=K) (a:=l) (xs:=aV ws) (fun i σ H'=>∃v2 ai,σ=[some (.ref a),some (.ref l),v2]/\H' a=some (.bc T.cQ dx (u9 n (Po.shorts x).length (Po.drops (x++[.drop ws])).length A'))/\H' l=some (.ak (aV ws))/\H' A'.da=some (.dK ai)/\rQ ai (Po.drops x++ws.take i)/\bG [a,A'.da] H H')
   (Z42 none k2 rfl Fj gY Fc (by simpa using d2) oV) (fun i σ H' _ h=>let ⟨_,_,_,_,h,_⟩:=h;aA.of h) ?_ ?_
  ·rintro i y σ H' hi ⟨v2,ai,rfl,h2,h3,h4,h5,h6⟩;unfold aV at hi;rw[bR]at hi;cases hu:ws[i]? with
   | none=>rw[hu]at hi;cases hi
   | some u =>
    rw[hu]at hi;cases hi;have E3:u∈ws:=fC hu;have bN:=h5.1;have jR:i<ws.length:=(fD.mp hu).1;apply Z34 _ rfl a _ dx _ (Z43 _ rfl h2 T.dG T.yt rfl _ rfl A'.da _ rfl (qh.k (k:=.inr (tx u)) h4 ?_) ?_)
    ·rw[cq,gH]at bN;exact jd (show ai.length<=20100 by omega) (by decide)
    ·apply Z42 _ _ rfl (by rw[aq vg.symm];exact h2) (by rw[aq Xs];exact h3) aC ?_ (h6.iZ (.inl (by simp)));rw[kj hu,<-List.append_assoc];exact h5.va (hw u E3)
  ·rintro σ H' ⟨v2,ai,rfl,h2,h3,h4,h5,h6⟩;apply k H' ?_ h6;rw[ew,ni]at h5;have ed:Po.drops x++ws=Po.drops (x++[.drop ws]):=by rw[Rm.wg]
   rw[ed]at h5;have es:Po.shorts (x++[.drop ws])=Po.shorts x:=by rw[Rm.vW];simp
   have eh:Po.shapes (x++[.drop ws])=Po.shapes x:=by rw[Rm.yW];simp
   have ef:Po.forms (x++[.drop ws])=Po.forms x:=by rw[Rm.zc];simp
   have hm:bG (A'.all a) H H':=h6.gv (by intro b hb;simp at hb⊢;rcases hb with q|q<;>simp[q]);apply⟨⟨dx,by rw[es];exact h2⟩,?_,⟨k1,h6 _ _ r1 (by simp;exact⟨aJ r1 ha nofun,R.rd⟩),by rw[es];exact r2⟩,⟨ai,h4,h5⟩,h6 _ _ R.fo (by simp;exact⟨aJ R.fo ha nofun,aJ R.fo d1 nofun⟩),by rw[ef];exact R.zm hm,R.sf,R.rd,R.ap⟩;rw[eh];exact h6 _ _ R.sh (by simp;exact⟨aJ R.sh ha nofun,aJ R.sh d1 nofun⟩)
def oz (x:aW)(v:Word):V:=match Po.plainOf x v with
 | some u=>.str (tx u)
 | none=>.bx
def aex (CI CF CR:ae):Sp:=fun vs H Q _=>∃(a:ae)(n:Nat)(A:eP)(x:aW)(v:Word),vs=[.ref a,.str (tx v)]/\cg CI CF CR H a n A x/\Po.wordOk v=true/\Q (oz x v) H
def Y8:bD ["self","word"] ["self","word"] (aR OS):=bL
def OL (T:Tx K mg):bg P w K mg base (bw P w) 1 T.F9 T.OX ["self","word"] (aex T.bX T.cn T.cQ):=by
 exists T.yk.cj Y8
 ·obtain⟨a,n,A',x,v,rfl,_⟩:=h;rfl
 ·obtain⟨a,n,A',x,v,rfl,R,hv,k⟩:=h;apply⟨_,aD (bU (Dy (VO (my hr) (pv 1) (aX (pv 0) rfl))) (aF (aY rk)) b5) (aF (aY (Kw (my hr) (aX (pv 0) rfl) (pv 1) (pv 1) ⟨rfl,rfl,rfl,rfl⟩))),?_⟩;obtain⟨dx,ha⟩:=R.bu;obtain⟨k1,r1,r2⟩:=R.ra;obtain⟨k2,d1,d2⟩:=R.da;apply Z29 _ rfl _ rfl a _ dx _ (Z103 _ rfl ha T.dG T.yt rfl A'.da _ rfl (gX.k (k:=.inr (tx v)) d1) _ rfl ?_);rw[d2.2 v hv];unfold oz Po.plainOf at k;cases hd:(Po.drops x).contains v with
  | true =>rw[hd,aE rfl]at k;exact a0 k
  | false =>
   rw[hd,aB (by decide)]at k;apply aO (Z17 _ rfl a (Z78 _ dx _ _ rfl ha T.dG T.yr rfl A'.ra rfl (.inl ⟨_,.inl r1⟩) (Z56 _ rfl _ rfl _ (gX.k (k:=.inr (tx v)) r1) ?_)));rw[r2.2 v hv];have e:((((Po.shorts x).find? fun p=>p.1==v).map fun p=>V.str (tx p.2)).getD (V.str (tx v)))=V.str (tx (((Po.shorts x).find? fun p=>p.1==v).map (fun p=>p.2) |>.getD v)):=by cases (Po.shorts x).find? fun p=>p.1==v<;>rfl
   rw[e];exact k
def kz (n:Nat)(x:aW):List ajG:=if n=512 then[]else Pm.jl (Rm.fX x) (Rm.iI x)
def aeG (CI CF CR:ae):Sp:=fun vs H Q _=>∃(a:ae)(n:Nat)(A:eP)(x:aW),vs=[.ref a]/\cg CI CF CR H a n A x/\∀(H':Hp)(l:ae),aj H H'->H l=none->H' l=some (.ak (aV (kz n x)))->Q (.ref l) H'
def O1:bD ["rules","heads"] ["rules"] (aR Pu):=bL
def Zg (T:Tx K mg):bg P w K mg base (bw P w) 1 T.Ha T.PM ["rules"] (aeG T.bX T.cn T.cQ):=by
 exists T.yy.cj O1
 ·obtain⟨a,n,A',x,rfl,_⟩:=h;rfl
 ·obtain⟨a,n,A',x,rfl,R,k⟩:=h;obtain⟨u1,m1,r1⟩:=(T.tg T.FY);obtain⟨u2,m2,r2⟩:=(T.tg T.B3);obtain⟨u3,m3,r3⟩:=(T.tg T.B9);obtain⟨u4,m4,r4⟩:=(T.tg T.B4);obtain⟨u5,m5,r5⟩:=(T.tg T.IV);obtain⟨u6,m6,r6⟩:=(T.tg T.HQ);obtain⟨u7,m7,r7⟩:=(T.tg T.Ik);rw[SV]at r2;rw[Um]at r3;rw[SW]at r4;rw[ac8]at r5;have nd:=O1.nd;apply Z10 _ (aD (bU (cI dW (aX (pv 0) rfl) (bh rfl m1 r1) (bS _)) (aF (aY (cz ax))) b5)
   (aD (bB (i:=1) nd rfl Olr (cz (ao (bh rfl m2 r2) (ao (bh rfl m3 r3) ax))))
   (aD (bU (cI p7 (cD gA rfl (T.tn T.d5) e7 (ao (aX (pv 0) rfl) ax)) (bh rfl m6 r6) (bS _)) (aF (dR (gp gU iQ iP hU (pv 1) (ao (bh rfl m4 r4) ax)))) b5)
   (aD (bU (cI p7 (cD gA rfl (T.tn T.d5) e7 (ao (aX (pv 0) rfl) ax)) (bh rfl m7 r7) (bS _)) (aF (dR (gp gU iQ iP hU (pv 1) (ao (bh rfl m5 r5) ax)))) b5)
   (aF (aY (pv 1))))))) ?_
  obtain⟨dx,ha⟩:=R.bu;apply Z17 _ rfl a (Z36 _ dx _ _ rfl ha T.dG T.tI rfl rfl _ rfl ?_);by_cases hn:n=512
  ·rw[bY (show V.int (n:Int)=V.int 512 by rw[hn];rfl)];apply a0 ⟨bA _,fun l hl=>k _ l (aj.new hl) hl ?_⟩;rw[aC];unfold kz;rw[aE hn];rfl
  ·rw[bZ (show¬V.int (n:Int)=V.int 512 by intro q;injection q with q;omega)];apply aO (dS ?_);apply cF ?_;apply⟨wY,fun l hl=>ck ?_⟩;have s1:aj H (L2.ay H l (.ak [.str (tx Pm.kZ),.str (tx Pm.k4)])):=aj.new hl;apply dj (fun σ H2=>σ=[some (.ref a),some (.ref l)]/\aj H H2/\H2 l=some (.ak (aV ([Pm.kZ,Pm.k4]++if Rm.fX x<8 then[Pm.lN]else[])))) (fun X hX=>?_) ?_
   ·apply Z30 _ rfl a _ dx _ _ rfl (s1 _ _ ha) T.dG (Z84 T.pJ rfl A'.sa _ rfl (.inl (aA.of (s1 _ _ R.sh))) _ _ rfl rfl _ rfl ?_);have e:(aV (Po.shapes x)).length=Rm.fX x:=by simp[aV,Rm.fX]
    rw[e];by_cases h8:Rm.fX x<8
    ·rw[bY (show(Rm.fX x:Int)<8 by omega)];apply a0 (Z12 _ rfl (.inl ⟨rfl,_,aA.of aC⟩) (Z13 l _ _ rfl rfl aC (show 2<sizeLine by decide) (hX _ _ ⟨rfl,s1.i0 hl,?_⟩)));rw[aC,aE h8];rfl
    ·rw[bZ (show¬(Rm.fX x:Int)<8 by omega)];apply aO (hX _ _ ⟨rfl,s1,?_⟩);rw[aC,aB h8];rfl
   ·rintro σ H2 ⟨rfl,s2,l7⟩;apply dj (fun σ H3=>σ=[some (.ref a),some (.ref l)]/\aj H H3/\H3 l=some (.ak (aV (kz n x)))) (fun X hX=>?_) ?_
    ·apply Z30 _ rfl a _ dx _ _ rfl (s2 _ _ ha) T.dG (Z84 T.nt rfl A'.fa _ rfl (.inl (aA.of (s2 _ _ R.fo))) _ _ rfl rfl _ rfl ?_);have e:(A'.fs.map fun g=>V.ref g.f).length=Rm.iI x:=by rw[aL,Paired.length R.fs];rfl
     rw[e];have hh:kz n x=([Pm.kZ,Pm.k4]++if Rm.fX x<8 then[Pm.lN]else[])++(if Rm.iI x<64 then[Pm.nE]else[]):=by unfold kz Pm.jl;rw[aB hn,List.append_assoc]
     by_cases xW:Rm.iI x<64
     ·rw[bY (show(Rm.iI x:Int)<64 by omega)];rw[aE xW]at hh;apply a0 (Z12 _ rfl (.inl ⟨rfl,_,aA.of l7⟩) (Z13 l _ _ rfl rfl l7 ?_ (hX _ _ ⟨rfl,s2.i0 hl,?_⟩)))
      ·by_cases h8:Rm.fX x<8
       ·rw[aE h8];show 3<sizeLine;decide
       ·rw[aB h8];show 2<sizeLine;decide
      ·rw[aC,hh];simp[aV]
     ·rw[bZ (show¬(Rm.iI x:Int)<64 by omega)];rw[aB xW,nq]at hh;exact aO (hX _ _ ⟨rfl,s2,by rw[hh];exact l7⟩)
    ·rintro σ H3 ⟨rfl,s3,bT⟩;exact⟨_,rfl,k H3 l s3 hl bT⟩
def rP (av:ae->Prop)(H:Hp)(a:ae)(x:aW)(l:List bP)(i:bI):Prop:=av a/\∃ps:List ae,H a=some (.ak (ps.map V.ref))/\Paired (fun p k=>H p=some (.ak (bC (Wm.eD x l i k)))/\av p) ps (List.range (l.length+1))
def Vz (x:aW)(l:List bP)(i:bI):Wm.eD x l i l.length=[]:=by
 cases h:Wm.eD x l i l.length with
 | nil=>rfl
 | cons c t =>have:=Wm.oB x l (i:=i) (k:=l.length) (c:=c) (by rw[h];simp);omega
def j0 (i:bI):List aP:=[.inl (i.kind:Int),.inr (tx i.word)]
def dn (av:ae->Prop)(H:Hp)(kl:ae)(x:aW)(l:List bP)(n:Nat):Prop:=∃ai:List (List aP×V),H kl=some (.dT ai)/\ai.length<=n/\∀(i:bI)(v:V),(∀c∈i.word,c∈bV)->dk ai (j0 i)=some v->∃a,v= .ref a/\rP av H a x l i
def rP.keep {av:ae->Prop}{H H':Hp}{a kl:ae}{x:aW}{l:List bP}{i:bI}{ai:List (List aP×V)}(L:rP av H a x l i)(hk:H kl=some (.dT ai))(k:bG [kl] H H'):rP av H' a x l i:=by obtain⟨h0,ps,h1,h2⟩:=L;exact⟨h0,ps,k _ _ h1 (by simp;exact aJ h1 hk nofun),L2.Paired.dc h2 fun p j h=>⟨k _ _ h.1 (by simp;exact aJ h.1 hk nofun),h.2⟩⟩
def acQ {x:aW}{i j:bI}(h1:i.kind=j.kind)(h2:i.word=j.word)(ws:List Word):Po.fits x i ws=Po.fits x j ws:=by obtain⟨a,b,c⟩:=i;obtain⟨a',b',c'⟩:=j;simp only at h1 h2;subst h1 h2;rfl
def ad3 {x:aW}{l:List bP}{i j:bI}(h1:i.kind=j.kind)(h2:i.word=j.word)(k:Nat):Wm.eD x l i k=Wm.eD x l j k:=by unfold Wm.eD Po.takes;simp only[acQ h1 h2]
def aff {i j:bI}(hj:∀c∈j.word,c∈bV)(h:j0 i=j0 j):i.kind=j.kind/\i.word=j.word:=by unfold j0 at h;injection h with h1 h2;injection h2 with h3;injection h1 with h1;injection h3 with h3;exact⟨by omega,Du hj h3⟩
def af6 (C CI:ae):Sp:=fun vs H Q _=>∃(r ia:ae)(A:lK)(x:aW)(l:List bP)(i:bI)(n:Nat)(av:ae->Prop),vs=[.ref r,.ref ia]/\(∀b,H b=none->av b)/\j6 C H r A x l/\pD x l/\dn av H A.kl x l n/\n<=100000/\lX CI H ia i/\i.kind<=9/\(∀c∈i.word,c∈bV) /\
 ∀(H':Hp)(a:ae),bG [A.kl] H H'->dn av H' A.kl x l (n+1)->rP av H' a x l i->Q (.ref a) H'
def Qx:bD ["self","item","alike","lengths","start"] ["self","item"] (aR FT):=bL
def QH (T:Tx K mg):bg P w K mg base (bw P w) 6 T.F0 T.OI ["self","item"] (af6 T.di T.bX):=by
 have GF:= @Zp P w K mg base T;exists T.ye.cj Qx
 ·obtain⟨r,ia,A,x,l,i,n,av,rfl,_⟩:=h;rfl
 ·obtain⟨r,ia,ga,x,l,i,n,av,rfl,jV,hR,hO,hK,hn,⟨dm,hI⟩,kc,iA,kk⟩:=h;have nd:=Qx.nd;apply Z10 _ (aD (bB (i:=2) nd rfl Olr (zP (ao (aX (pv 1) rfl) (ao (aX (pv 1) rfl) ax))))
   (aD (bU (Dy (Ti (my hr) (pv 2) (aX (pv 0) rfl)))
    (aD (CY (i:=3) rfl nd rfl rfl (De rfl rfl rfl rfl) (acv rfl (T.tn T.K7) (ao (cD gA rfl (T.tn T.d5) e7 (ao (aX (pv 0) rfl) ax)) ax)) (ic (N:=["self","item","alike","lengths","start"]) (sc:=aR FT) (bO:=[("start",4)]) (by decide+kernel)) (fun _ _ _ _ _=>b9 (i:=4) nd rfl Olr) (fun _ _ _ _ _=>iR)
     (fun _ _ _ _ _=>cT (pv 0) T.fk T.FL GF hr.ww (jz T.Bx) .nil bE (ao (pv 1) (ao (pv 4) ax))))
    (aF (K3 (my hr) (aX (pv 0) rfl) (pv 2) (e9 ug (pv 3) (cz (ao (cz ax) ax))) rfl))) b5)
   (aF (aY (Vm (my hr) (aX (pv 0) rfl) (pv 2) (fun _ _=>rfl)))))) ?_
  have YI:=hI;apply cF ?_;apply Z16 _ rfl ia _ dm _ _ rfl hI T.fU T.jC rfl (Z31 _ rfl ia _ dm _ _ ⟨rfl,hI,T.fU,T.vV,rfl,wY,fun t ht=>ck ?_⟩);have s1:=aj.new (o:=.bp ((j0 i).map kV)) ht;have jO:(L2.ay H t (.bp ((j0 i).map kV))) t=some (.bp ((j0 i).map kV)):=aC;show nL _ _ _ _ (L2.ay H t (.bp ((j0 i).map kV)));generalize L2.ay H t (.bp ((j0 i).map kV))=H1 at s1 jO;obtain⟨ai,cG,kQ,nZ⟩:=hK;have uJ:=s1 _ _ cG;obtain⟨dx,lH⟩:=(hR.same s1).bu;apply dj (fun σ H'=>∃v3 v4 xb a,σ=[some (.ref r),some (.ref ia),some (.ref t),v3,v4]/\bG [ga.kl] H H'/\H' t=some (.bp ((j0 i).map kV))/\H' ga.kl=some (.dT xb)/\xb.length<=n+1/\dk xb (j0 i)=some (.ref a)/\rP av H' a x l i/\dn av H' ga.kl x l (n+1)) (fun X hX=>?_) ?_
  ·apply Z29 _ rfl _ rfl r _ dx _ (Z103 _ rfl lH T.fk T.vM rfl ga.kl _ rfl (gX.t (k:=j0 i) uJ jO) _ rfl ?_);cases hv:dk ai (j0 i)with
   | some v =>obtain⟨a,rfl,hL⟩:=nZ i v iA hv;apply aO (hX _ _ (Z58 _ _ ai a rfl (aj.fQ s1) ⟨jO,uJ,by omega,hv,hL.keep cG (aj.fQ s1),Z12 ai uJ ⋯ (fun j v hj xO=>?_)⟩));obtain⟨b,rfl,hb⟩:=nZ j v hj xO;exact⟨b,rfl,hb.keep cG (aj.fQ s1)⟩
   | none =>
    apply a0 (dj (fun σ H'=>∃v4 D,σ=[some (.ref r),some (.ref ia),some (.ref t),some (.ref D),v4]/\aj H1 H'/\∃ps:List ae,H' D=some (.ak (ps.map V.ref))/\Paired (fun p k=>H' p=some (.ak (bC (Wm.eD x l i k)))/\av p) ps (List.range l.length)) (fun Y hY=>?_) ?_)
    ·have vF:(aV (l.map fun y=>y.word)).length=l.length:=by simp[aV]
     apply Z34 _ rfl r _ dx _ (Z103 _ rfl lH T.fk T.pG rfl ga.wa _ rfl (.inl (aA.of ((hR.same s1).wo))) (l.length:Int) (by rw[vF]) ⟨by omega,?_,fun D hD=>?_⟩)
     ·have:=hO.n;omega
     ·rw[mj];apply wH l.length (fun j H'=>aj H1 H'/\∃ps:List ae,H' D=some (.ak (ps.map V.ref))/\Paired (fun p k=>H' p=some (.ak (bC (Wm.eD x l i k)))/\av p/\p≠D) ps (List.range j)) ⟨aj.new hD,[],aC,.nil⟩ (fun j H' hj _=>hj) (fun H' _=>bo _) ?_ ?_
      ·rintro j v H2 H3 hj ⟨s2,ps,mY,fA⟩ ⟨rfl,rfl⟩;rw[Int.zero_add];apply⟨rfl,DY ?_⟩;obtain⟨kX,iD⟩:=((hR.same s1).same s2).bu;apply Z74 _ rfl r kX _ rfl iD rfl _ rfl (Z50 _ rfl r ia j ga x l i rfl ((hR.same s1).same s2) hO ⟨⟨dm,s2 _ _ (s1 _ _ hI)⟩,kc,fun _=>iA,hj,fun H4 p s4 hp xJ=>?_⟩);have AD:p≠D:=(aQ mY hp).symm;have nY:ps.length=j:=by rw[Paired.length fA,qB]
       apply Z49 _ (s4 _ _ mY) ?_ ((s2.trans s4).i0 hD) (ps++[p]) (by rw[aC,cV];rfl) ?_
       ·rw[aL,nY];have:=hO.n;exact fi (show j<2000 by omega) (by decide)
       ·rw[vK];exact Paired.snoc (L2.Paired.dc fA fun q k ⟨h1,h0,h2⟩=>⟨by rw[aq h2];exact s4 _ _ h1,h0,h2⟩) ⟨by rw[aq AD];exact xJ,jV p (e8 (s1.trans s2) hp),AD⟩
      ·rintro H2 ⟨s2,ps,mY,fA⟩;exact hY _ _ (Z93 _ D rfl s2 ps mY (L2.Paired.dc fA fun q k h=>⟨h.1,h.2.1⟩))
    ·rintro σ H2 ⟨v4,D0,rfl,s2,ps,Fv,fA⟩;have Ea:ps.length=l.length:=by rw[Paired.length fA,qB]
     apply Z12 _ rfl (bA _) (fun e he=>?_);have sE:=aj.new (o:=.ak []) he;apply⟨eY,fun q hq=>?_⟩;have sQ:=sE.trans (aj.new (o:=.ak [V.ref e]) hq);apply Z35 D0 q _ _ rfl rfl (sQ _ _ Fv) aC ?_ (fun D hD=>?_)
     ·rw[aL,Ea];have:=hO.n;exact nV (by simp;omega)
     have sD:=sQ.trans (aj.new (o:=.ak (ps.map V.ref++[V.ref e])) hD);have he2:(L2.ay (L2.ay (L2.ay H2 e (.ak [])) q (.ak [V.ref e])) D (.ak (ps.map V.ref++[V.ref e]))) e=some (.ak []):=by rw[aq (aQ (by rw[aq (aQ aC hq),aC]) hD),aq (aQ aC hq),aC]
     have hL:rP av (L2.ay (L2.ay (L2.ay H2 e (.ak [])) q (.ak [V.ref e])) D (.ak (ps.map V.ref++[V.ref e]))) D x l i:=by apply Z25 (jV D (e8 (s1.trans (s2.trans sQ)) hD)) (ps++[e]) (by rw[aC,cV];rfl) ?_;rw[vK];exact Paired.snoc (L2.Paired.dc fA fun p k h=>⟨sD _ _ h.1,h.2⟩) ⟨by rw[he2,Vz];rfl,jV e (e8 (s1.trans s2) he)⟩
     generalize (L2.ay (L2.ay (L2.ay H2 e (.ak [])) q (.ak [V.ref e])) D (.ak (ps.map V.ref++[V.ref e])))=H' at sD hL;have s2:=s2.trans sD;obtain⟨dD,pb⟩:=((hR.same s1).same s2).bu;have j7:=s1.trans s2;apply Z34 _ rfl r _ dD _ (Z43 _ rfl pb T.fk T.vM rfl _ rfl ga.kl _ rfl (qh.t (k:=j0 i) (s2 _ _ uJ) (s2 _ _ jO) (jd (show ai.length<=200000 by omega) (by decide))) ?_);have kp:bG [ga.kl] H' (L2.ay H' ga.kl (.dT (ff ai (j0 i) (V.ref D)))):=bG.ay (by simp);have YD:=hL.keep (s2 _ _ uJ) kp;apply hX _ _ (Z58 _ _ _ D rfl ((aj.fQ j7).trans kp) ⟨by rw[aq (aJ (s2 _ _ jO) (s2 _ _ uJ) nofun)];exact s2 _ _ jO,aC,b3 (qH _ _ _) ⋯,by rw[CO,aE rfl],YD,Z12 _ aC (b3 (qH _ _ _) ⋯) (fun j v hj xO=>?_)⟩);rw[CO]at xO;split at xO
     ·rename_i e
      cases xO;obtain⟨e1,e2⟩:=aff iA e;apply⟨D,rfl,?_⟩;obtain⟨p0,ps,p1,p2⟩:=YD;exact Z25 p0 ps p1 (L2.Paired.dc p2 fun p k h=>by rw[ad3 e1 e2];exact h)
     ·obtain⟨b,rfl,hb⟩:=nZ j v hj xO;exact⟨b,rfl,(hb.keep cG (aj.fQ j7)).keep (s2 _ _ uJ) kp⟩
  ·rintro σ H' ⟨v3,v4,xb,a,rfl,kp,oY,Eb,ajC,xD,hL',oa⟩;have pb:∃dx,H' r=some (.bc T.di dx (Xk ga)):=by obtain⟨dx0,h0⟩:=hR.bu;exact⟨dx0,kp _ _ h0 (by simp;exact aJ h0 cG nofun)⟩
   obtain⟨dD,pb⟩:=pb;have g:=gX.t (k:=j0 i) Eb oY;rw[xD]at g;exact Z34 _ rfl r _ dD _ (Z43 _ rfl pb T.fk T.vM rfl _ rfl ga.kl _ rfl g (kk H' a kp oa hL'))
def oy {K:aI}{ta tv:TE}{f:Str}{b7:TS}{D:gc}{σ:L2.St}{H:Hp}(h:tv σ H fun y H1=>ta σ H1 fun x H2=>∃a C dx fs,x= .ref a/\H2 a=some (.bc C dx fs)/\jA K C/\dU K C f/\fs.length<1000/\b7 D σ (L2.ay H2 a (.bc C dx (gu f y fs)))):nL (Wv K ta tv f) b7 D σ H:=h
def um (x:aW)(p:(Word×Nat)×Nat):Option bP:=(Po.plainOf x p.1.1).map fun v=>⟨p.2,p.1.2,v⟩
noncomputable def gL (x:aW)(ws:List (Word×Nat))(i:Nat):List bP:=((ws.zip (List.range ws.length)).take i).filterMap (um x)
def oE (x:aW)(ws:List (Word×Nat)):List bP:=(ws.zip (List.range ws.length)).filterMap (um x)
def abH {x:aW}{ws:List (Word×Nat)}{i:Nat}{p:Word×Nat}(h:ws[i]?=some p):gL x ws (i+1)=gL x ws i++(um x (p,i)).toList:=by
 have hi:i<ws.length:=(fD.mp h).1;have e:(ws.zip (List.range ws.length))[i]?=some (p,i):=by rw[List.getElem?_zip_eq_some];exact⟨h,lL hi⟩
 unfold gL;rw[kj e,List.filterMap_append];congr 1
def Tw (x:aW)(ws:List (Word×Nat)):gL x ws ws.length=oE x ws:=by unfold gL oE;rw[Bt (by simp)]
def UN (x:aW)(ws:List (Word×Nat))(i:Nat):(gL x ws i).length<=i:=by unfold gL;apply b3 (List.length_filterMap_le _ _) ?_;rw[gH];omega
def afh (x:aW)(l:List Po.Told):Po.keptOf x l=oE x (l.map fun t=>(t.word,t.line)):=by unfold Po.keptOf oE;rw[aL,List.zip_map_left,List.filterMap_map];rfl
def qg (H:Hp)(ka:ae)(l:List bP):Prop:=∃ps:List ae,H ka=some (.ak (ps.map V.ref))/\Paired (fun p s=>H p=some (.ak (bC (iW l s (l.length-1)++[0])))) ps [0,1,2]
section
variable {CI CF CR C:ae}{H H':Hp}{a r:ae}{n:Nat}{A:eP}{x:aW}
def cg.st (R:cg CI CF CR H r n A x)(hl:∀b l,H b=some (.ak l)->H' b=some (.ak l))(hd:∀b l,H b=some (.dK l)->H' b=some (.dK l))(hi:∀b C' dy p q fs,H b=some (.bc C' dy (p::q::fs))->H' b=some (.bc C' dy (p::q::fs))):cg CI CF CR H' r n A x:=by
 obtain⟨d0,h0⟩:=R.bu;obtain⟨k1,r1,r2⟩:=R.ra;obtain⟨k2,d1,d2⟩:=R.da;apply⟨⟨d0,hi _ _ _ _ _ _ h0⟩,hl _ _ R.sh,⟨k1,hd _ _ r1,r2⟩,⟨k2,hd _ _ d1,d2⟩,hl _ _ R.fo,L2.Paired.dc R.fs fun g f F=>?_,R.sf,R.rd,R.ap⟩;apply F.fS (fun b C' dy fs h q=>?_) ((hl _ _ F.pc).trans F.pc.symm) ((hl _ _ F.jt).trans F.jt.symm);rcases q with q|⟨i,q⟩
 ·subst q;exact hi _ _ _ _ _ _ h
 ·subst q;exact hi _ _ _ _ _ _ h
def cg.ag5 {dx:ae}(R:cg CI CF CR H r n A x)(ha:H a=some (.bc C dx []))(k:bf a H H'):cg CI CF CR H' r n A x :=
 R.st (fun b l h=>k _ _ h (aJ h ha nofun)) (fun b l h=>k _ _ h (aJ h ha nofun)) fun b C' dy p q fs h=>k _ _ h (aJ h ha fun q=>by cases mv q)
end
def adk (CI CF CR C:ae):Sp:=fun vs H Q _=>∃(a dx ru wl:ae)(n:Nat)(A:eP)(x:aW)(ps:List ae)(ws:List (Word×Nat)),vs=[.ref a,.ref ru,.ref wl]/\H a=some (.bc C dx [])/\cg CI CF CR H ru n A x/\lT H wl ps ws/\(∀p∈ws,Po.wordOk p.1=true)/\ws.length<=1000 /\
 ∀(H':Hp)(G:lK),j6 C H' a G x (oE x ws)->qg H' G.ka (oE x ws)->H G.kl=none->(∀av,dn av H' G.kl x (oE x ws) 0)->bf a H H'->Q .bx H'
def P5:bD ["self","rules","words","number","word","line","plain","strength"] ["self","rules","words"] (aR HF):=bL
def Zq (T:Tx K mg):bg P w K mg base (bw P w) 3 T.HJ T.Qn ["self","rules","words"] (adk T.bX T.cn T.cQ T.di):=by
 have GP:= @OL P w K mg base T;have GL:= @aaD P w K mg base T;exists T.BY.cj P5
 ·obtain⟨a,dx,ru,wl,n,A,x,ps,ws,rfl,_⟩:=h;rfl
 ·obtain⟨a,dx,ru,wl,n,A',x,ps,ws,rfl,ha,R,W,EO,AL,kk⟩:=h;have nd:=P5.nd;obtain⟨ts,mS,tS⟩:=(T.tu T.yY);apply Z10 _ (aD (fP (pv 0) (aX (pv 1) rfl) rfl) (aD (fP (pv 0) (cz ax) rfl) (aD (fP (pv 0) (cz ax) rfl) (aD (fP (pv 0) (cz ax) rfl)
   (aD (bB (i:=3) nd rfl Olr bQ) (aD (jh PassesOwn.never rfl (iS (pv 2)) (jj rfl (dF (b9 (i:=4) nd rfl Olr) (dF (b9 (i:=5) nd rfl Olr) jf)))
    (aD (bB (i:=6) nd rfl Olr (cT (pv 1) T.dG T.BB GP hr.ww (cp T.yk) .nil bE (ao (pv 4) ax)))
    (aD (bU (cI ae3 (pv 6) rk (bS _))
     (aD (dR (gp gU iQ iP hU (aX (pv 0) rfl) (ao (pv 6) ax)))
     (aD (dR (gp gU iQ iP hU (aX (pv 0) rfl) (ao (pv 3) ax)))
     (aF (dR (gp gU iQ iP hU (aX (pv 0) rfl) (ao (pv 5) ax)))))) b5)
    (aF (uf (i:=3) nd rfl Olr bQ DD)))))
   (aD (fP (pv 0) (jF rfl nd (wD (bh (v:=.ref ts) rfl mS rfl)) (ic (N:=["self","rules","words","number","word","line","plain","strength"]) (sc:=aR HF) (bO:=[("strength",7)]) (by decide+kernel)) (fun _ _ _ _ _=>b9 (i:=7) nd rfl Olr) (fun _ _ _ _ _=>iR)
     (fun _ _ _ _ _=>cT (pv 0) T.fk T.F5 GL hr.ww (cp T.BD) .nil bE (ao (pv 7) ax))) rfl)
   (aF (fP (pv 0) adK rfl))))))))) ?_
  obtain⟨dr,i8⟩:=R.bu;apply oy ?_;apply Z16 _ rfl ru _ dr _ _ rfl i8 T.dG T.pJ rfl (Z18 _ rfl a _ dx [] rfl ha T.fk T.BF (show 0<1000 by decide) ?_);apply oy ?_;apply⟨bA _,fun wa nW=>Z18 _ rfl a _ dx [("shapes",.ref A'.sa)] rfl (by rw[aq (cC nW).1.symm,aC];rfl) T.fk T.pG (show 1<1000 by decide) ?_⟩;apply oy ?_;apply⟨bA _,fun na jw=>Z18 _ rfl a _ dx [("shapes",.ref A'.sa),("words",.ref wa)] rfl (by rw[aq (cC jw).1.symm,aC];rfl) T.fk T.ya (show 2<1000 by decide) ?_⟩;apply oy ?_;apply⟨bA _,fun la fN=>Z18 _ rfl a _ dx [("shapes",.ref A'.sa),("words",.ref wa),("word_numbers",.ref na)] rfl (by rw[aq (cC fN).1.symm,aC];rfl) T.fk T.qE (show 3<1000 by decide) ?_⟩;obtain⟨vd,nW⟩:=cC nW;obtain⟨AE,jw⟩:=cC jw;obtain⟨EE,jw⟩:=cC jw;obtain⟨_,jw⟩:=cC jw;obtain⟨vf,fN⟩:=cC fN;obtain⟨M1,fN⟩:=cC fN;obtain⟨_,fN⟩:=cC fN;obtain⟨MZ,fN⟩:=cC fN;obtain⟨_,fN⟩:=cC fN
  let f1:List (Str×V):=[("shapes",.ref A'.sa)]
  let f2:List (Str×V):=[("shapes",.ref A'.sa),("words",.ref wa)]
  let Ob:List (Str×V):=[("shapes",.ref A'.sa),("words",.ref wa),("word_numbers",.ref na)]
  let f3:List (Str×V):=[("shapes",.ref A'.sa),("words",.ref wa),("word_numbers",.ref na),("word_lines",.ref la)]
  have kU:∀H3:Hp,H3=L2.ay (L2.ay (L2.ay (L2.ay (L2.ay (L2.ay (L2.ay H a (.bc T.di dx f1)) wa (.ak [])) a (.bc T.di dx f2)) na (.ak [])) a (.bc T.di dx Ob)) la (.ak [])) a (.bc T.di dx f3)->bf a H H3/\H3 a=some (.bc T.di dx f3)/\H3 wa=some (.ak [])/\H3 na=some (.ak [])/\H3 la=some (.ak []):=fun H3 e=>by
   subst e;apply⟨fun b o h hn=>?_,aC,?_,?_,?_⟩
   ·rw[aq hn,aq (aQ h fN),aq hn,aq (aQ h jw),aq hn,aq (aQ h nW),aq hn];exact h
   ·rw[aq vd,aq MZ.symm,aq vd,aq EE.symm,aq vd,aC]
   ·rw[aq AE,aq M1.symm,aq AE,aC]
   ·rw[aq vf,aC]
  obtain⟨M9,YT,YQ,YR,YS⟩:=kU _ rfl;show nL _ _ _ _ (L2.ay (L2.ay (L2.ay (L2.ay (L2.ay (L2.ay (L2.ay H a (.bc T.di dx f1)) wa (.ak [])) a (.bc T.di dx f2)) na (.ak [])) a (.bc T.di dx Ob)) la (.ak [])) a (.bc T.di dx f3));generalize L2.ay (L2.ay (L2.ay (L2.ay (L2.ay (L2.ay (L2.ay H a (.bc T.di dx f1)) wa (.ak [])) a (.bc T.di dx f2)) na (.ak [])) a (.bc T.di dx Ob)) la (.ak [])) a (.bc T.di dx f3)=H3 at M9 YT YQ YR YS;clear kU;apply cF ?_;apply ck ?_;have cR:ps.length=ws.length:=Paired.length W.it
  let Pv:Nat->L2.St->Hp->Prop:=fun i σ H'=>∃v3 v4 v5,σ=[some (.ref a),some (.ref ru),some (.ref wl),some (.int ((i:Nat):Int)),v3,v4,v5,none]/\bf a H H'/\H' a=some (.bc T.di dx f3)/\H' wa=some (.ak (aV ((gL x ws i).map fun y=>y.word)))/\H' na=some (.ak (p8 (gL x ws i)))/\H' la=some (.ak (jk (gL x ws i)))
  apply dj (fun σ H'=>Pv ws.length σ H') (fun X hX=>?_) ?_
  ·have hW:∀H',bf a H H'->H' wl=some (.ak (ps.map V.ref)):=fun H' k=>k _ _ W.ak (aJ W.ak ha nofun);apply Z24 _ rfl wl rfl ⟨_,aA.of (hW _ M9)⟩ ?_;apply ou (K:=K) (a:=wl) (xs:=ps.map V.ref) Pv (Z27 none none none rfl M9 YT YQ YR YS) (fun i σ H' _ h=>let ⟨_,_,_,_,k,_⟩:=h;aA.of (hW _ k)) ?_ (fun σ H' h=>hX _ _ (by rw[aL,cR]at h;exact h));rintro i y σ H' hi ⟨v3,v4,v5,rfl,kp,o5,iA,cX,jR⟩;rw[bR]at hi;cases dP:ps[i]? with
   | none=>rw[dP]at hi;cases hi
   | some p =>
    rw[dP]at hi;cases hi;obtain⟨q,Nw,lE⟩:=Paired.f9 W.it dP;have dM:H' p=some (.bp (DL q)):=kp _ _ lE (aJ lE ha nofun);have ajE:i<ws.length:=(fD.mp Nw).1;have aH:=EO q (fC Nw);have ks:=abH (x:=x) Nw;apply Z39 p _ rfl (cS.of dM) rfl _ _ rfl _ _ rfl rfl ?_;have R':=R.ag5 ha kp;obtain⟨Oh,aiD⟩:=R'.bu;apply cF ?_;apply Z21 _ rfl ru Oh _ rfl aiD rfl (Z30 _ rfl ru n A' x q.1 rfl R' aH (ck ?_));have bN:=UN x ws i;apply dj (fun b4 H2=>∃v6,b4=[some (.ref a),some (.ref ru),some (.ref wl),some (.int (i:Int)),some (.str (tx q.1)),some (.int (q.2:Int)),v6,none]/\bf a H H2/\H2 a=some (.bc T.di dx f3)/\H2 wa=some (.ak (aV ((gL x ws (i+1)).map fun y=>y.word)))/\H2 na=some (.ak (p8 (gL x ws (i+1))))/\H2 la=some (.ak (jk (gL x ws (i+1))))) (fun Y hY=>?_) ?_
    ·cases sM:Po.plainOf x q.1 with
     | none =>
      have e:um x (q,i)=none:=by unfold um;rw[sM];rfl
      rw[e]at ks;have ev:oz x q.1= .bx:=by unfold oz;rw[sM]
      rw[ev];apply Z11 _ rfl rfl _ rfl (aO (hY _ _ (Z85 _ rfl kp o5 ?_ ?_ ?_)))
      ·rw[ks];simpa using iA
      ·rw[ks];simpa using cX
      ·rw[ks];simpa using jR
     | some u =>
      have e:um x (q,i)=some ⟨i,q.2,u⟩:=by unfold um;rw[sM];rfl
      rw[e]at ks;have ev:oz x q.1= .str (tx u):=by unfold oz;rw[sM]
      rw[ev];have lim:(gL x ws i).length<sizeLine:=M7 ⋯;apply Z11 _ rfl rfl _ rfl (a0 ?_);apply Z55 _ rfl a _ dx f3 _ rfl o5 T.fk T.pG (Z60 rfl (.inl ⟨rfl,_,aA.of iA⟩) _ rfl wa _ _ rfl rfl iA ?_ ?_)
      ·rw[show(aV ((gL x ws i).map fun y=>y.word)).length=(gL x ws i).length by simp[aV]];exact lim
      apply Z55 _ rfl a _ dx f3 _ rfl (by rw[aq vd.symm];exact o5) T.fk T.ya (Z60 rfl (.inl ⟨rfl,_,aA.of (by rw[aq EE];exact cX)⟩) _ rfl na _ _ rfl rfl (by rw[aq EE];exact cX) ?_ ?_)
      ·rw[show(p8 (gL x ws i)).length=(gL x ws i).length by simp[p8]];exact lim
      have Ec:(L2.ay (L2.ay H' wa (.ak (aV ((gL x ws i).map fun y=>y.word)++[V.str (tx u)]))) na (.ak (p8 (gL x ws i)++[V.int (i:Int)]))) la=some (.ak (jk (gL x ws i))):=by rw[aq M1,aq MZ];exact jR
      apply Z55 _ rfl a _ dx f3 _ rfl (by rw[aq AE.symm,aq vd.symm];exact o5) T.fk T.qE (Z60 rfl (.inl ⟨rfl,_,aA.of Ec⟩) _ rfl la _ _ rfl rfl Ec ?_ ?_)
      ·rw[show(jk (gL x ws i)).length=(gL x ws i).length by simp[jk]];exact lim
      apply hY _ _ (Z85 _ rfl (fun b o h hn=>?_) ?_ ?_ ?_ ?_)
      ·rw[aq (aQ h fN),aq (aQ h jw),aq (aQ h nW)];exact kp b o h hn
      ·rw[aq vf.symm,aq AE.symm,aq vd.symm];exact o5
      ·rw[aq MZ.symm,aq EE.symm,aC,ks];simp[aV]
      ·rw[aq M1.symm,aC,ks];simp[p8]
      ·rw[aC,ks];simp[jk]
    ·rintro b4 H2 ⟨v6,rfl,fY,ai0,aiX,aiZ,Ec⟩;exact Z23 _ rfl _ _ rfl rfl (Z27 _ _ _ rfl fY ai0 aiX aiZ Ec)
  ·rintro σ H' ⟨v3,v4,v5,rfl,kp,o5,iA,cX,jR⟩;rw[Tw]at iA cX jR;have nY:(oE x ws).length<=1000:=by have:=UN x ws ws.length;rw[Tw]at this;omega
   generalize oE x ws=l at iA cX jR nY kk;apply oy ?_;apply Z12 ts rfl ⟨_,tS.sq _⟩ (fun D hD=>?_);apply agu (K:=K) (a:=ts) (xs:=[.int 0,.int 1,.int 2]) (fun i H2=>aj H' H2/\∃ps:List ae,H2 D=some (.ak (ps.map V.ref))/\Paired (fun p s=>H2 p=some (.ak (bC (iW l s (l.length-1)++[0])))/\p≠D) ps ((List.range 3).take i)) (Z25 (aj.new hD) [] aC (.nil)) (fun _ _ _ _=>tS.sq _) ?_ ?_
   ·rintro i v H2 hi ⟨s2,qs,mY,qp⟩;have Yf:i<3:=(fD.mp hi).1;have hv:v= .int (i:Int):=by
     match i,Yf,hi with
     | 0,_,hi=>cases hi;rfl
     | 1,_,hi=>cases hi;rfl
     | 2,_,hi=>cases hi;rfl
    subst hv;apply⟨rfl,DY ?_⟩;apply Z74 _ rfl a dx _ rfl (s2 _ _ o5) rfl _ rfl (Z82 a dx la f3 l i rfl (s2 _ _ o5) rfl (s2 _ _ jR) nY ⋯ (fun H4 p s4 hp xJ=>?_));have AD:p≠D:=(aQ mY hp).symm;have ND:qs.length<=3:=by rw[Paired.length qp,gH];simp;omega
    apply Z49 _ (s4 _ _ mY) ?_ ((s2.trans s4).i0 hD) (qs++[p]) (by rw[aC,cV];rfl) ?_
    ·rw[aL];exact jd ND (by decide)
    ·rw[Cn Yf];exact Paired.snoc (L2.Paired.dc qp fun q k ⟨h1,h2⟩=>⟨by rw[aq h2];exact s4 _ _ h1,h2⟩) ⟨by rw[aq AD];exact xJ,AD⟩
   ·rintro H2 ⟨s2,qs,mY,qp⟩;apply Z18 _ rfl a _ dx f3 rfl (s2 _ _ o5) T.fk T.BM (show 4<1000 by decide) ?_;intro kl cG;obtain⟨M3,cG⟩:=cC cG;apply Z18 _ rfl a _ dx (f3++[(("links":Str),V.ref D)]) rfl (by rw[aq M3.symm,aC];rfl) T.fk T.vM (show 5<1000 by decide) ?_;have up:∀b o,H2 b=some o->b≠a->(L2.ay (L2.ay (L2.ay H2 a (.bc T.di dx (gu "links" (.ref D) f3))) kl (.dT [])) a (.bc T.di dx (gu "known_lengths" (.ref kl) ((f3++[(("links":Str),V.ref D)]))))) b=some o:=fun b o h hn=>by rw[aq hn,aq (aQ h cG),aq hn];exact h
    have LB:∀b L,H2 b=some (.ak L)->b≠a:=fun b L h=>aJ h (s2 _ _ o5) nofun;have kO:=kp _ _ R.sh (aJ R.sh ha nofun);apply kk _ ⟨A'.sa,wa,na,la,D,kl⟩ ⟨⟨dx,aC⟩,up _ _ (s2 _ _ kO) (LB _ _ (s2 _ _ kO)),up _ _ (s2 _ _ iA) vd,up _ _ (s2 _ _ jR) vf,up _ _ (s2 _ _ cX) AE⟩ ⟨qs,up _ _ mY (LB _ _ mY),?_⟩ ?_ (fun av=>Z12 [] ?_ (bo _) (fun j v _ h=>by cases h)) (fun b o h hn=>up _ _ (s2 _ _ (kp _ _ h hn)) hn)
    ·exact L2.Paired.dc qp fun q k h=>up _ _ h.1 (LB _ _ h.1)
    ·cases e:H kl with
     | none=>rfl
     | some o =>have:=s2 _ _ (kp _ _ e M3);rw[this]at cG;cases cG
    ·rw[aq M3,aC]
theorem J1:∀(ns:List Nat)(a:Nat),(((ns.foldl (fun(a b:Nat)=>a+b) a:Nat)):Int)=(a:Int)+(ns.map fun c=>((c:Nat):Int)).sum
 | [],a=>by simp
 | b::r,a=>by rw[List.foldl_cons,J1 r (a+b),fj,List.sum_cons];omega
def Aq (x:aW)(l:List bP)(i:bI)(bs:List Nat)(k:Nat):Nat:=((Wm.eD x l i k).map fun c=>bs.getD (k+c) 0).foldl (fun(a b:Nat)=>a+b) 0
def nN (x:aW)(l:List bP)(i:bI)(bs:List Nat)(n:Nat):List Nat:=(List.range n).map (Aq x l i bs)
def acN (x:aW)(l:List bP)(i:bI)(bs:List Nat)(n:Nat):nN x l i bs (n+1)=nN x l i bs n++[Aq x l i bs n]:=by unfold nN;rw[vK,cV];rfl
def pO (l:List Nat):(bC l).length=l.length:=by simp[bC]
def qU {l:List Nat}{k:Nat}(h:k<l.length):(bC l)[k]?=some (V.int ((l.getD k 0:Nat):Int)):=by unfold bC;rw[bR,lM,cB h];rfl
def abx (l:List Nat)(c:Nat):bC (l++[c])=bC l++[V.int (c:Int)]:=by simp[bC]
def adp:Sp:=fun vs H Q _=>∃(la ba:ae)(x:aW)(l:List bP)(i:bI)(bs:List Nat)(av:ae->Prop),vs=[.ref la,.ref ba]/\rP av H la x l i/\H ba=some (.ak (bC bs))/\bs.length=l.length+1/\l.length<=1000 /\
 ∀(H':Hp)(p:ae),aj H H'->H p=none->H' p=some (.ak (bC (nN x l i bs (l.length+1))))->Q (.ref p) H'
def S9:bD ["lengths_by_start","behind","counts","start","lengths","length"] ["lengths_by_start","behind"] (aR FO):=bL
def acz (T:Tx K mg):bg P w K mg base (bw P w) 2 T.FQ T.OF ["lengths_by_start","behind"] adp:=by
 exists T.yb.cj S9
 ·obtain⟨la,ba,x,l,i,bs,av,rfl,_⟩:=h;rfl
 ·obtain⟨la,ba,x,l,i,bs,av,rfl,⟨_,ps,fN,fA⟩,A6,vo,nY,kk⟩:=h;have nd:=S9.nd;apply Z10 _ (aD (bB (i:=2) nd rfl Olr (cz ax))
   (aD (jh PassesOwn.never rfl (Vk rfl (T.tn T.vX) (ao (pv 0) ax)) (jj rfl (dF (b9 (i:=3) nd rfl Orr) (dF (b9 (i:=4) nd rfl Olr) jf)))
    (aF (dR (gp gU iQ iP hU (pv 2) (ao (cD (VW rfl) rfl (T.tn T.DN) (by decide+kernel) (ao
     (jF rfl nd (iS (pv 4)) (ic (N:=["lengths_by_start","behind","counts","start","lengths","length"]) (sc:=aR FO) (bO:=[("length",5)]) (by decide+kernel)) (fun _ _ _ _ _=>b9 (i:=5) nd rfl Olr) (fun _ _ _ _ _=>iR)
      (fun _ _ _ _ _=>cZ (r:=Ww K) eU (pv 1) (e9 k7 (pv 3) (pv 5)) (fun _ _=>rfl))) ax)) ax)))))
   (aF (aY (pv 2))))) ?_
  have cR:ps.length=l.length+1:=by rw[Paired.length fA,qB]
  apply cF ?_;apply⟨bA _,fun p hp=>ck ?_⟩;have sp:=aj.new (o:=.ak []) hp;apply dj (fun σ H'=>∃v3 v4 v5,σ=[some (.ref la),some (.ref ba),some (.ref p),v3,v4,v5]/\aj H H'/\H' p=some (.ak (bC (nN x l i bs (l.length+1))))) (fun X hX=>?_) ?_
  ·apply Z23 _ rfl la _ rfl (aA.of (sp _ _ fN)) ?_;apply uc (l.length+1) (fun j σ H'=>∃v3 v4 v5,σ=[some (.ref la),some (.ref ba),some (.ref p),v3,v4,v5]/\aj H H'/\H' p=some (.ak (bC (nN x l i bs j)))) (Z19 _ _ _ rfl sp aC) ?_ ?_ ?_ (fun σ H' h=>hX _ _ h)
   ·rintro j σ H1 hj ⟨v3,v4,v5,rfl,sm,gN⟩;exact Z53 _ _ (aA.of (sm _ _ fN)) (cB (by rw[aL,cR];exact hj))
   ·rintro σ H1 ⟨v3,v4,v5,rfl,sm,gN⟩;exact⟨_,aA.of (sm _ _ fN),by rw[aL,cR];exact bo _⟩
   ·rintro j v σ H1 H2 hj ⟨v3,v4,v5,rfl,sm,gN⟩ ⟨Tt,y,rfl,hT,rfl,hy⟩;have AJ:=hy _ (aA.of (sm _ _ fN));rw[bR]at AJ;cases j9:ps[j]? with
    | none=>rw[j9]at AJ;cases AJ
    | some q =>
     rw[j9]at AJ;cases AJ;obtain⟨k,hk,hq,_⟩:=Paired.f9 fA j9;rw[lL hj]at hk;cases hk;have s2:=sm.trans (aj.new (o:=.bp [V.int (j:Int),V.ref q]) hT);have gy:(L2.ay H1 Tt (.bp [V.int (j:Int),V.ref q])) p=some (.ak (bC (nN x l i bs j))):=by rw[aq (aQ gN hT)];exact gN
     apply Z39 Tt _ rfl (cS.of aC) rfl _ _ rfl _ _ rfl rfl ?_;apply Z96 _ rfl (.inl ⟨rfl,_,aA.of gy⟩) _ rfl q rfl ⟨_,aA.of (s2 _ _ hq)⟩ (fun D hD=>?_);have iM:∀c∈Wm.eD x l i j,1<=c/\c<=8/\j+c<=l.length:=fun c h=>Wm.oB x l h;apply k8 ((Wm.eD x l i j).map fun c=>V.int ((bs.getD (j+c) 0:Nat):Int)) ?_ hD (fun m H3 hm s3=>?_) (fun H3 s3=>?_) (fun m v y H3 H4 Kt hy s3 bT fz hk=>?_) (fun H3 s3 bT=>?_)
     ·rw[aL];unfold Wm.eD;exact b3 (tH _ _) (by decide)
     ·rw[aL]at hm;exact Z53 _ _ (s3.seq (aA.of (s2 _ _ hq))) (cB (by rw[pO];exact hm))
     ·exact⟨_,s3.seq (aA.of (s2 _ _ hq)),by rw[pO,aL];exact bo _⟩
     ·obtain⟨rfl,hv⟩:=fz;have hv:=hv _ (s3.seq (aA.of (s2 _ _ hq)));rw[bR]at hy;cases hc:(Wm.eD x l i j)[m]? with
      | none=>rw[hc]at hy;cases hy
      | some c =>rw[hc]at hy;cases hy;unfold bC at hv;rw[bR,hc]at hv;cases hv;have gQ:=iM c (fC hc);apply Z25 rfl _ rfl (Z52 _ rfl _ rfl _ _ rfl rfl (Z68 ba _ _ _ rfl rfl (aA.of (s3 _ _ (s2 _ _ A6))) ?_ (hk _ (aj.refl _))));show pC _ ((j:Int)+(c:Int))=_;rw[show(j:Int)+(c:Int)=((j+c:Nat):Int) by omega];exact dH (qU ⋯)
     ·apply Z14 D ((Wm.eD x l i j).map fun c=>((bs.getD (j+c) 0:Nat):Int)) rfl (aA.of (by rw[bT,f6];rfl)) ?_;have kP:=s3 _ _ gy;apply Z13 p _ _ rfl rfl kP ?_ ?_
      ·rw[pO];unfold nN;rw[aL,qB];exact fi (show j<2000 by omega) (by decide)
      ·apply Z19 _ _ _ rfl ((s2.trans s3).i0 hp) ?_;rw[aC,acN,abx];unfold Aq;rw[J1,f6];simp;rfl
  ·rintro σ H' ⟨v3,v4,v5,rfl,sm,dM⟩;exact⟨_,rfl,kk _ p sm hp dM⟩
def jn (x:aW)(l:List bP)(r:List (bI×Nat))(s:Nat):List Nat:=(List.range (l.length+1)).map (Wm.Rf x l r s)
def zC (x:aW)(l:List bP)(r:List (bI×Nat))(s:Nat):(jn x l r s).length=l.length+1:=by simp[jn]
def Dj (x:aW)(l:List bP)(r:List (bI×Nat))(s:Nat){k:Nat}(h:k<=l.length):(jn x l r s).getD k 0=Wm.Rf x l r s k:=by unfold jn;rw[lM,bR,lL ⋯];rfl
def vi (x:aW)(l:List bP)(i:bI)(bs:List Nat):List Nat:=nN x l i bs (l.length+1)
def nU (l:List bP)(s:Nat):List Nat:=iW l s (l.length-1)++[0]
def afl (x:aW)(l:List bP)(i:bI)(bs:List Nat):(vi x l i bs).length=l.length+1:=by simp[vi,nN]
def afc (l:List bP)(s:Nat):l.length+1<=(nU l s).length:=by unfold nU;rw[cq,B0];simp;omega
def agt (l:List bP)(s k:Nat):(nU l s).getD k 0<=1:=by
 have key:∀c∈nU l s,c<=1:=fun c hc=>by
  unfold nU iW at hc;simp at hc;rcases hc with rfl|⟨a,_,rfl⟩|rfl
  ·exact bo _
  ·split<;>omega
  ·exact bA _
 rw[lM];cases h:(nU l s)[k]? with
 | none=>exact bA _
 | some c=>exact key c (fC h)
def Uw (x:aW)(l:List bP)(i:bI)(j:Nat)(r:List (bI×Nat))(s k:Nat)(h:k<=l.length):Wm.Rf x l ((i,j)::r) s k=(vi x l i (jn x l r j)).getD k 0*(nU l s).getD k 0+if i.may=true then Wm.Rf x l r (max s j) k else 0:=by
 rw[Wm.Rf];congr 1;have e1:(vi x l i (jn x l r j)).getD k 0=((Wm.eD x l i k).map fun(c:Nat)=>Wm.Rf x l r j (k+c)).foldl (fun(a b:Nat)=>a+b) 0:=by unfold vi nN;rw[lM,bR,lL ⋯];show Aq x l i (jn x l r j) k=_;unfold Aq;have:(Wm.eD x l i k).map (fun c=>(jn x l r j).getD (k+c) 0)=(Wm.eD x l i k).map fun(c:Nat)=>Wm.Rf x l r j (k+c):=List.map_congr_left fun c hc=>Dj x l r j (Wm.oB x l hc).2.2;rw[this]
 rw[e1];by_cases hk:k<l.length
 ·have e2:(nU l s).getD k 0=if Po.begins l s k=true then 1 else 0:=by
   unfold nU;rw[lM,List.getElem?_append_left (by rw[B0];omega)];unfold iW;cases k with
   | zero=>rfl
   | succ m =>rw[List.getElem?_cons_succ,bR,lL ⋯];rfl
  rw[e2];split<;>simp
 ·have e:k=l.length:=by omega
  subst e;rw[Vz];simp
def ik (H:Hp)(b:ae)(x:aW)(l:List bP)(r:List (bI×Nat)):Prop:=∃ps:List ae,H b=some (.ak (ps.map V.ref))/\Paired (fun p s=>H p=some (.ak (bC (jn x l r s)))) ps [0,1,2]
def ik.same {H H':Hp}{b:ae}{x:aW}{l:List bP}{r:List (bI×Nat)}(h:ik H b x l r)(s:aj H H'):ik H' b x l r:=let ⟨ps,h1,h2⟩:=h;⟨ps,s _ _ h1,L2.Paired.dc h2 fun _ _ h=>s _ _ h⟩
def ik.keep {H H':Hp}{b kl:ae}{x:aW}{l:List bP}{r:List (bI×Nat)}{ai:List (List aP×V)}(h:ik H b x l r)(hk:H kl=some (.dT ai))(k:bG [kl] H H'):ik H' b x l r:=by obtain⟨ps,h1,h2⟩:=h;exact⟨ps,k _ _ h1 (by simp;exact aJ h1 hk nofun),L2.Paired.dc h2 fun p j h=>k _ _ h (by simp;exact aJ h hk nofun)⟩
def qg.keep {H H':Hp}{b kl:ae}{l:List bP}{ai:List (List aP×V)}(h:qg H b l)(hk:H kl=some (.dT ai))(k:bG [kl] H H'):qg H' b l:=by obtain⟨ps,h1,h2⟩:=h;exact⟨ps,k _ _ h1 (by simp;exact aJ h1 hk nofun),L2.Paired.dc h2 fun p j h=>k _ _ h (by simp;exact aJ h hk nofun)⟩
def j6.keep {C:ae}{H H':Hp}{r kl:ae}{A:lK}{x:aW}{l:List bP}{ai:List (List aP×V)}(R:j6 C H r A x l)(hk:H kl=some (.dT ai))(k:bG [kl] H H'):j6 C H' r A x l:=by obtain⟨⟨dx,h⟩,h1,h2,h3,h4⟩:=R;exact⟨⟨dx,k _ _ h (by simp;exact aJ h hk nofun)⟩,k _ _ h1 (by simp;exact aJ h1 hk nofun),k _ _ h2 (by simp;exact aJ h2 hk nofun),k _ _ h3 (by simp;exact aJ h3 hk nofun),k _ _ h4 (by simp;exact aJ h4 hk nofun)⟩
def dn.same {av:ae->Prop}{H H':Hp}{kl:ae}{x:aW}{l:List bP}{n:Nat}(h:dn av H kl x l n)(s:aj H H'):dn av H' kl x l n:=by obtain⟨ai,h1,h2,h3⟩:=h;apply Z12 ai (s _ _ h1) h2 (fun i v hi hv=>?_);obtain⟨a,e,ha⟩:=h3 i v hi hv;exact⟨a,e,ha.keep h1 (aj.fQ s)⟩
def zA {H:Hp}{ps:List ae}{F:ae->Nat->Prop}(h:Paired F ps [0,1,2]){s:Nat}(hs:s<=2):∃p,(ps.map V.ref)[s]?=some (V.ref p)/\F p s:=by
 have hl:ps.length=3:=Paired.length h;have e:=cB (l:=ps) (i:=s) ⋯;obtain⟨b,hb,hF⟩:=Paired.f9 h e;have:b=s:=by
  match s,hs,hb with
  | 0,_,hb=>cases hb;rfl
  | 1,_,hb=>cases hb;rfl
  | 2,_,hb=>cases hb;rfl
 subst this;exact⟨_,by rw[bR,e];rfl,hF⟩
def Vq {K:aI}{a b D:ae}{as bs:List Nat}{f:Nat->Nat->Nat}{g:TG}{te:TE}{vs:List Nat}{σ:L2.St}{H1:Hp}{Qd:Hp->Prop}(n:Nat)(ha:aA K H1 a (bC as))(hb:aA K H1 b (bC bs))(hn:as.length=n)(hm:n<=bs.length)(hz:n<=sizeLine)(hD:H1 D=none)(hs:∀(x y:Nat)(Tt:ae)(H:Hp)(Kt:VK),(∃k,y=bs.getD k 0)->H Tt=some (.bp [.int (x:Int),.int (y:Int)])->(∀H4,aj H H4->Kt (.int ((f x y:Nat):Int)) H4)->g (.ref Tt) (dX σ vs) H fun b4 H2=>dX b4 vs=dX σ vs/\te b4 H2 Kt)(hd:∀H,aj H1 H->H D=some (.ak (bC ((List.range n).map fun k=>f (as.getD k 0) (bs.getD k 0))))->Qd H):∃W:Nat->Nat->Hp->Prop,(∃m,W 0 m (L2.ay H1 D (.ak [])))/\∀i m H,W i m H->((Bp K a b).ek i H/\Qd H)\/((Bp K a b).go i H/\∃Nx:Hp->Prop,(∀H',Nx H'->∃m',m'<m/\W (i+1) m' H')/\∀x H',(Bp K a b).lx i H x H'->g x (dX σ vs) H' fun b4 H2=>dX b4 vs=dX σ vs/\DZ b4 H2 fun b H3=>if b=true then te b4 H3 fun y H4=>∃acc,H4 D=some (.ak acc)/\acc.length<sizeLine/\Nx (L2.ay H4 D (.ak (acc++[y])))else Nx H3):=by
 have el:((List.range n).map fun k=>V.int ((f (as.getD k 0) (bs.getD k 0):Nat):Int)).length=n:=by simp
 apply k8 ((List.range n).map fun k=>V.int ((f (as.getD k 0) (bs.getD k 0):Nat):Int)) (by rw[el];exact hz) hD (fun i H hi s=>?_) (fun H s=>?_) (fun i v y H H' Kt hy s hl fz hk=>?_) (fun H s hl=>hd H s (by rw[hl];unfold bC;rw[f6];rfl))
 ·rw[el]at hi;exact Z32 _ _ _ _ (s.seq ha) (s.seq hb) (qU ⋯) (qU ⋯)
 ·rw[el];exact⟨_,_,s.seq ha,s.seq hb,.inl (by rw[pO];omega)⟩
 ·obtain⟨Tt,x0,y0,rfl,hT,rfl,hx,so⟩:=fz;have cX:i<n:=by have:=(fD.mp hy).1;rw[el]at this;exact this
  have hx:=hx _ (s.seq ha);have so:=so _ (s.seq hb);rw[qU ⋯]at hx so;cases hx;cases so;rw[bR,lL cX]at hy;cases hy;exact hs _ _ Tt _ Kt ⟨i,rfl⟩ aC fun H4 s4=>hk H4 ((aj.new hT).trans s4)
def aeI (C CI:ae):Sp:=fun vs H Q _=>∃(ia ba ra:ae)(j:Nat)(A:lK)(x:aW)(l:List bP)(i:bI)(r:List (bI×Nat))(n:Nat)(av:ae->Prop),vs=[.ref ia,.int (j:Int),.ref ba,.ref ra]/\(∀b,H b=none->av b)/\j6 C H ra A x l/\pD x l/\qg H A.ka l/\dn av H A.kl x l n/\n<=100000/\lX CI H ia i/\i.kind<=9/\(∀c∈i.word,c∈bV)/\j<=2/\ik H ba x l r /\
 ∀(H':Hp)(p:ae),bG [A.kl] H H'->dn av H' A.kl x l (n+1)->H p=none->ik H' p x l ((i,j)::r)->Q (.ref p) H'
def Us:bD ["item","joint","behind","reading","having_words","result","strength","counts","left_out","count","link","other"] ["item","joint","behind","reading"] (aR BC):=bL
def adO (T:Tx K mg):bg P w K mg base (bw P w) 7 T.F8 T.OW ["item","joint","behind","reading"] (aeI T.di T.bX):=by
 have GL:= @QH P w K mg base T;have GH:= @acz P w K mg base T;exists T.yj.cj Us
 ·obtain⟨ia,ba,ra,j,A,x,l,i,r,n,av,rfl,_⟩:=h;rfl
 ·obtain⟨ia,ba,ra,j,ga,x,l,i,r,n,av,rfl,jV,hR,hO,kR,hK,hn,⟨dm,hI⟩,kc,iA,sR,hT,kk⟩:=h;have nd:=Us.nd;obtain⟨ts,mS,tS⟩:=(T.tu T.yY);apply Z10 _ (aD (bB (i:=4) nd rfl Olr (cy GH hr.ww rfl (T.tm T.FR) T.yb.kp (cp T.yb) .nil bE (ao (cT (pv 3) T.fk T.By GL hr (cp T.ye) .nil bE (ao (pv 0) ax)) (ao (cZ eU (pv 2) (pv 1) (fun _ _=>rfl)) ax))))
   (aD (bB (i:=5) nd rfl Olr (cz ax))
   (aD (jh PassesOwn.never rfl (wD (bh (v:=.ref ts) rfl mS rfl)) (b9 (i:=6) nd rfl Olr)
    (aD (CY (i:=7) rfl nd rfl rfl (De rfl rfl rfl rfl) (Lv rfl (T.tn T.uj) (ao (pv 4) (ao (cZ eU (aX (pv 3) rfl) (pv 6) (fun _ _=>rfl)) ax))) (ic (N:=["item","joint","behind","reading","having_words","result","strength","counts","left_out","count","link","other"]) (sc:=aR BC) (bO:=[("count",9),("link",10)]) (by decide+kernel))
     (fun _ _ _ _ _=>(jj rfl (dF (b9 (i:=9) nd rfl (Or.inl rfl)) (dF (b9 (i:=10) nd rfl (Or.inl rfl)) jf)):PG _ _ (uP K 2 _))) (fun _ _ _ _ _=>iR) (fun _ _ _ _ _=>e9 agn (pv 9) (pv 10)))
    (aD (bU (gm (aX (pv 0) rfl))
     (aD (bB (i:=8) nd rfl Olr (cZ eU (pv 2) (cD (Kf rfl) rfl (T.tn T.zZ) (by decide+kernel) (ao (pv 6) (ao (pv 1) ax))) (fun _ _=>rfl)))
     (aF (CY (i:=7) rfl nd rfl rfl (De rfl rfl rfl rfl) (Lv rfl (T.tn T.uj) (ao (pv 7) (ao (pv 8) ax))) (ic (N:=["item","joint","behind","reading","having_words","result","strength","counts","left_out","count","link","other"]) (sc:=aR BC) (bO:=[("count",9),("other",11)]) (by decide+kernel))
      (fun _ _ _ _ _=>(jj rfl (dF (b9 (i:=9) nd rfl (Or.inl rfl)) (dF (b9 (i:=11) nd rfl (Or.inl rfl)) jf)):PG _ _ (uP K 2 _))) (fun _ _ _ _ _=>iR) (fun _ _ _ _ _=>e9 k7 (pv 9) (pv 11))))) b5)
    (aF (dR (gp gU iQ iP hU (pv 5) (ao (pv 7) ax)))))))
   (aF (aY (pv 5)))))) ?_
  obtain⟨ai,cG,_,_⟩:=id hK;obtain⟨dx,lH⟩:=hR.bu;apply cF ?_;apply Z59 _ rfl ra dx _ rfl (Z69 lH rfl _ rfl ra ia ga x l i n av ⟨rfl,jV,hR,hO,hK,hn,⟨dm,hI⟩,kc,iA,fun H1 la kp iE hL=>?_⟩);have NX:=hT.keep cG kp;obtain⟨tp,jO,sF⟩:=id NX;obtain⟨pj,j9,WQ⟩:=zA (H:=H1) sF sR;apply Z10 _ rfl (Z57 _ rfl ba _ _ _ rfl rfl (aA.of jO) (dH j9) la pj (Z40 x l i _ av rfl hL WQ (zC _ _ _ _) hO.n (fun H2 hv s2 hv0 E7=>ck ?_)));replace E7:H2 hv=some (.ak (bC (vi x l i (jn x l r j)))):=E7;have fY:bG [ga.kl] H H2:=kp.trans (aj.fQ s2);have qt:=NX.same s2;have ajd:=kR.keep cG fY;have iD:=hR.keep cG fY;have fB:=iE.same s2;have hI2:H2 ia=some (.bc T.bX dm (vh i)):=fY _ _ hI (by simp;exact aJ hI cG nofun);clear NX jO sF j9 WQ;obtain⟨kX,ajb⟩:=iD.bu;obtain⟨lp,gY,l7⟩:=id ajd;obtain⟨tp2,jO,sF⟩:=id qt;apply cF ?_;apply⟨bA _,fun p hp=>ck ?_⟩;have sp:=aj.new (o:=.ak []) hp
  let Pv:Nat->L2.St->Hp->Prop:=fun m σ H'=>∃v6 v7 v8,σ=[some (.ref ia),some (.int (j:Int)),some (.ref ba),some (.ref ra),some (.ref hv),some (.ref p),v6,v7,v8,none,none,none]/\aj H2 H'/\∃qs:List ae,H' p=some (.ak (qs.map V.ref))/\Paired (fun q s=>H' q=some (.ak (bC (jn x l ((i,j)::r) s)))/\q≠p) qs ((List.range 3).take m)
  apply dj (fun σ H'=>Pv 3 σ H') (fun X hX=>?_) ?_
  ·apply Z12 ts rfl ⟨_,tS.sq _⟩ ?_;apply afv (K:=K) (a:=ts) (xs:=[.int 0,.int 1,.int 2]) Pv (Z104 none none none rfl sp [] aC (.nil)) (fun _ _ _ _ _=>tS.sq _) ?_ (fun σ H' h=>hX _ _ h);rintro m v σ H' hm ⟨v6,v7,v8,rfl,sm,qs,dM,qp⟩;have X8:m<3:=(fD.mp hm).1;have hmv:v= .int (m:Int):=by
    match m,X8,hm with
    | 0,_,hi=>cases hi;rfl
    | 1,_,hi=>cases hi;rfl
    | 2,_,hi=>cases hi;rfl
   subst hmv;obtain⟨pl,cR,D7⟩:=zA (H:=H2) l7 (s:=m) ⋯;replace D7:H2 pl=some (.ak (bC (nU l m))):=D7;apply ck ?_;have hO1:=hO.n;apply dj (fun σ H3=>∃c,σ=[some (.ref ia),some (.int (j:Int)),some (.ref ba),some (.ref ra),some (.ref hv),some (.ref p),some (.int (m:Int)),some (.ref c),v8,none,none,none]/\aj H' H3/\H' c=none/\H3 c=some (.ak (bC ((List.range (l.length+1)).map fun k=>(vi x l i (jn x l r j)).getD k 0*(nU l m).getD k 0)))) (fun Y hY=>?_) ?_
   ·apply Z15 _ rfl _ rfl (Z37 ra _ kX _ _ rfl (sm _ _ ajb) T.fk T.BM rfl _ rfl (Z97 ga.ka _ _ _ rfl rfl (aA.of (sm _ _ gY)) (dH cR) hv pl _ _ ⟨rfl,aA.of (sm _ _ E7),aA.of (sm _ _ D7),fun D hD=>?_⟩));apply Vq (f:=fun a b=>a*b) (l.length+1) (aA.of (sm _ _ E7)) (aA.of (sm _ _ D7)) (afl _ _ _ _) (afc _ _) (nV ⋯) hD (fun a b Tt H3 Kt hb l9 hk=>?_) (fun H3 s3 vE=>?_)
    ·apply Z39 Tt _ rfl (cS.of l9) rfl _ _ rfl _ _ rfl rfl (Z25 rfl _ rfl (Z46 _ rfl _ _ rfl rfl ?_ ?_))
     ·obtain⟨k,rfl⟩:=hb;have:=agt l m k;exact .inr ⟨by omega,by omega⟩
     ·have:=hk H3 (aj.refl _);rw[Int.natCast_mul]at this;exact this
    ·exact hY _ _ (Z28 D rfl s3 hD vE)
   ·rintro σ H3 ⟨c,rfl,s3,mU,hc⟩;have ly:=sm.trans s3;apply dj (fun σ H4=>∃c v8,σ=[some (.ref ia),some (.int (j:Int)),some (.ref ba),some (.ref ra),some (.ref hv),some (.ref p),some (.int (m:Int)),some (.ref c),v8,none,none,none]/\aj H' H4/\H' c=none/\H4 c=some (.ak (bC (jn x l ((i,j)::r) m)))) (fun Y hY=>?_) ?_
    ·apply Z10 _ rfl (Z37 ia _ dm _ _ rfl (ly _ _ hI2) T.fU T.qF rfl _ rfl ?_);cases Ap:i.may with
     | false =>apply aO (hY _ _ (Z26 c v8 rfl s3 mU ?_));rw[hc];apply congrArg (fun z=>some (HO.ak (bC z))) (List.map_congr_left fun k hk=>?_);rw[Uw x l i j r m k (by have:=mi.mp hk;omega),Ap];simp
     | true =>
      obtain⟨po,sM,WO⟩:=zA (H:=H2) sF (s:=max m j) ⋯;apply a0 (cF ?_);have emax:(if(j:Int)>(m:Int)then(j:Int)else(m:Int))=((max m j:Nat):Int):=by split<;>omega
      apply Z10 _ rfl (Z64 _ rfl _ rfl _ (Z44 _ rfl ba _ _ _ rfl rfl (aA.of (ly _ _ jO)) (by rw[emax];exact dH sM) (ck ?_)));apply Z29 _ rfl _ rfl c po _ _ ⟨rfl,aA.of hc,aA.of (ly _ _ WO),fun D hD=>?_⟩;apply Vq (f:=fun a b=>a+b) (l.length+1) (aA.of hc) (aA.of (ly _ _ WO)) (by simp) (by rw[zC];exact bo _) (nV ⋯) hD (fun a b Tt H4 Kt hb l9 hk=>?_) (fun H4 s4 hD4=>?_)
      ·apply Z51 Tt _ rfl (cS.of l9) rfl _ _ rfl _ _ ⟨rfl,rfl,rfl,Z52 _ rfl _ rfl _ _ rfl rfl ?_⟩;have:=hk H4 (aj.refl _);rw[Int.natCast_add]at this;exact this
      ·apply hY _ _ (Z26 D _ rfl (s3.trans s4) (e8 s3 hD) ?_);rw[hD4];apply congrArg (fun z=>some (HO.ak (bC z))) (List.map_congr_left fun k hk=>?_);have cG:=mi.mp hk;rw[Uw x l i j r m k ⋯,Ap,aE rfl];congr 1
       ·rw[lM,bR,lL cG];rfl
       ·exact Dj x l r (max m j) ⋯
    ·rintro σ H4 ⟨c,v8,rfl,s4,mU,hc⟩;have xJ:=s4 _ _ dM;have ND:qs.length<=3:=by rw[Paired.length qp,gH];simp;omega
     have Xw:c≠p:=(aQ dM mU).symm;apply Z11 _ rfl (.inl ⟨rfl,_,aA.of xJ⟩) _ rfl (Z13 p _ _ rfl rfl xJ (by rw[aL];exact jd ND (by decide)) ?_);apply Z104 _ _ _ rfl ((sm.trans s4).i0 hp) (qs++[c]) (by rw[aC,cV];rfl) ?_;rw[Cn X8];exact Paired.snoc (L2.Paired.dc qp fun q k ⟨h1,h2⟩=>⟨by rw[aq h2];exact s4 _ _ h1,h2⟩) ⟨by rw[aq Xw];exact hc,Xw⟩
  ·rintro σ H' ⟨v6,v7,v8,rfl,sm,qs,dM,qp⟩;apply⟨_,rfl,kk H' p (fY.trans (aj.fQ sm)) (fB.same sm) ?_ ⟨qs,dM,L2.Paired.dc qp fun _ _ h=>h.1⟩⟩;cases e:H p with
   | none=>rfl
   | some o =>
    by_cases mJ:p=ga.kl
    ·rw[mJ]at hp;obtain⟨ajx,jQ,_⟩:=fB;rw[jQ]at hp;cases hp
    ·rw[fY _ _ e (by simp;exact mJ)]at hp;cases hp
theorem K4 {α β:Type}{F:α->β->Prop}:∀{l:List α}{m:List β},l.length=m.length->(∀(k:Nat)(a:α)(b:β),l[k]?=some a->m[k]?=some b->F a b)->Paired F l m
 | [],[],_,_=>.nil
 | a::l,b::m,h,f=>.cons (f 0 a b rfl rfl) (K4 (by simpa using h) fun k a b h1 h2=>f (k+1) a b h1 h2)
 | [],_::_,h,_=>by simp at h
 | _::_,[],h,_=>by simp at h
def abm {α β:Type}{F:α->β->Prop}{l:List α}{m:List β}(h:Paired F l m):Paired F l.reverse m.reverse:=by
 have hl:=Paired.length h;apply K4 (by simpa using hl) fun k a b ha hb=>?_;have h1:k<l.length:=by simpa using (fD.mp ha).1
 rw[List.getElem?_reverse h1]at ha;rw[List.getElem?_reverse ⋯,<-hl]at hb;obtain⟨c,hc,hF⟩:=Paired.f9 h ha;rw[hb]at hc;cases hc;exact hF
def ajt (CI:ae)(H:Hp)(z:ae)(tz:List ae)(r:List (bI×Nat)):Prop:=H z=some (.ak (tz.map V.ref))/\Paired (fun t p=>∃q,lX CI H q p.1/\H t=some (.bp [.ref q,.int ((p.2:Nat):Int)])) tz r
def KZ (x:aW)(l:List bP)(s:Nat):jn x l [] s=List.replicate l.length 0++[1]:=by
 unfold jn;rw[vK,cV];congr 1
 ·apply List.ext_getElem
  ·simp
  ·intro k h1 h2;have:k<l.length:=by simpa using h1
   simp[Wm.Rf];omega
 ·simp[Wm.Rf]
def Tp {av:ae->Prop}{H H':Hp}{kl:ae}{x:aW}{l:List bP}{n:Nat}(k:bG [kl] H H')(h:dn av H' kl x l n):∀b,H' b=none->H b=none:=fun b hb=>by
 cases e:H b with
 | none=>rfl
 | some o =>
  obtain⟨ai,h1,_⟩:=h;by_cases q:b=kl
  ·rw[q,h1]at hb;cases hb
  ·rw[k _ _ e (by simp;exact q)]at hb;cases hb
def dn.more {av:ae->Prop}{H:Hp}{kl:ae}{x:aW}{l:List bP}{n m:Nat}(h:dn av H kl x l n)(e:n<=m):dn av H kl x l m:=let ⟨ai,h1,h2,h3⟩:=h;Z12 ai h1 (b3 h2 e) h3
def dn.DX {av m9:ae->Prop}{H:Hp}{kl:ae}{x:aW}{l:List bP}{n:Nat}(h:dn av H kl x l n)(e:∀b,av b->m9 b):dn m9 H kl x l n:=by obtain⟨ai,h1,h2,h3⟩:=h;apply Z12 ai h1 h2 (fun i v hi hv=>?_);obtain⟨a,rfl,h0,ps,p1,p2⟩:=h3 i v hi hv;exact Z11 a rfl (e _ h0) ps p1 (L2.Paired.dc p2 fun p k h=>⟨h.1,e _ h.2⟩)
def dn.W5 {av:ae->Prop}{H:Hp}{kl c:ae}{x:aW}{l:List bP}{n:Nat}(h:dn av H kl x l n)(hc:H c=none):dn (fun b=>av b/\b≠c) H kl x l n:=by obtain⟨ai,h1,h2,h3⟩:=h;apply Z12 ai h1 h2 (fun i v hi hv=>?_);obtain⟨a,rfl,h0,ps,p1,p2⟩:=h3 i v hi hv;exact Z11 a rfl ⟨h0,aQ p1 hc⟩ ps p1 (L2.Paired.dc p2 fun p k h=>⟨h.1,h.2,aQ h.1 hc⟩)
def dn.iZ {av:ae->Prop}{H:Hp}{kl c:ae}{x:aW}{l:List bP}{n:Nat}{o:HO}(h:dn av H kl x l n)(hc:∀b,av b->b≠c)(hk:kl≠c):dn av (L2.ay H c o) kl x l n:=by obtain⟨ai,h1,h2,h3⟩:=h;apply Z12 ai (by rw[aq hk];exact h1) h2 (fun i v hi hv=>?_);obtain⟨a,rfl,h0,ps,p1,p2⟩:=h3 i v hi hv;exact Z11 a rfl h0 ps (by rw[aq (hc _ h0)];exact p1) (L2.Paired.dc p2 fun p k h=>⟨by rw[aq (hc _ h.2)];exact h.1,h.2⟩)
theorem Ux (v:V):∀n:Nat,(List.replicate n [v]).flatten=List.replicate n v
 | 0=>rfl
 | n+1=>by rw[List.replicate_succ,List.flatten_cons,Ux v n,List.replicate_succ];rfl
def ik.L9 {H:Hp}{b c q:ae}{x:aW}{l:List bP}{r:List (bI×Nat)}{b7:List V}{o:HO}(h:ik H b x l r)(hc:H c=some (.ak (V.ref q::b7)))(hb:b≠c):ik (L2.ay H c o) b x l r:=by
 obtain⟨ps,h1,h2⟩:=h;apply⟨ps,by rw[aq hb];exact h1,L2.Paired.dc h2 fun p s hp=>?_⟩;have:p≠c:=fun e=>by
  rw[e,hc]at hp;have hp:V.ref q::b7=bC (jn x l r s):=by injection hp with hp;injection hp
  have:=qU (l:=jn x l r s) (k:=0) (by rw[zC];omega);rw[<-hp]at this;cases this
 rw[aq this];exact hp
def rR (H:Hp)(c:ae)(x:aW)(l:List bP)(r:List (bI×Nat)):Prop:=∃ts:List ae,H c=some (.ak (ts.map V.ref))/\Paired (fun b d=>ik H b x l (r.drop d)) ts (List.range (r.length+1))
def rR.keep {H H':Hp}{c kl:ae}{x:aW}{l:List bP}{r:List (bI×Nat)}{ai:List (List aP×V)}(h:rR H c x l r)(hk:H kl=some (.dT ai))(k:bG [kl] H H'):rR H' c x l r:=by obtain⟨ps,h1,h2⟩:=h;exact⟨ps,k _ _ h1 (by simp;exact aJ h1 hk nofun),L2.Paired.dc h2 fun p j h=>h.keep hk k⟩
def rR.at {H:Hp}{c:ae}{x:aW}{l:List bP}{r:List (bI×Nat)}(h:rR H c x l r){d:Nat}(hd:d<=r.length):∃ts b,H c=some (.ak ts)/\ts[d]?=some (V.ref b)/\ik H b x l (r.drop d):=by
 obtain⟨ts,h1,h2⟩:=h;have hl:ts.length=r.length+1:=by rw[Paired.length h2,qB]
 have e:=cB (l:=ts) (i:=d) ⋯;obtain⟨d',gP,hT⟩:=Paired.f9 h2 e;rw[lL ⋯]at gP;cases gP;exact Z14 _ _ h1 (by rw[bR,e];rfl) hT
def abi (N:Nat):((List.range (N+1)).map fun k=>N-k).reverse=List.range (N+1):=by
 apply List.ext_getElem
 ·simp
 ·intro k h1 h2;simp at h2;simp;omega
def ag8 (CI CF:ae):Sp:=fun vs H Q _=>∃(f pa ja:ae)(ps:List ae)(is:List bI)(js:List Nat),vs=[.ref f]/\dA CI CF H f pa ja ps is js/\is.length=js.length+1/\is.length<=1000 /\
 ∀(H':Hp)(z:ae)(tz:List ae),aj H H'->H z=none->ajt CI H' z tz (is.zip (js++[0]))->Q (.ref z) H'
def age:bD ["self"] ["self"] (aR OA):=bL
def Ly (T:Tx K mg):bg P w K mg base (bw P w) 1 T.FK T.OB ["self"] (ag8 T.bX T.cn):=by
 exists T.vL.cj age
 ·obtain⟨f,pa,ja,ps,is,js,rfl,_⟩:=h;rfl
 ·obtain⟨f,pa,ja,ps,is,js,rfl,hF,bN,NI,kk⟩:=h;obtain⟨uB,mB,rB⟩:=(T.tg T.qY);apply⟨_,aF (aY (abk rfl rfl (T.tn T.Lz) rfl (T.tn T.uj) (ao (aX (pv 0) rfl) (ao (e9 ug (aX (pv 0) rfl) (cz (ao (bh rfl mB rB) ax))) ax)))),?_⟩;obtain⟨g0,mX⟩:=hF.bu;have cR:ps.length=is.length:=Paired.length hF.it;have ejs:(js.map fun j=>V.int ((j:Nat):Int))++[V.int 0]=bC (js++[0]):=by simp[bC]
  apply Z16 _ rfl f _ g0 _ _ rfl mX T.ij T.nv rfl (Z31 _ rfl f _ g0 _ _ ⟨rfl,mX,T.ij,T.yH,rfl,eY,fun p1 gN=>?_⟩);apply Z35 ja p1 _ _ rfl rfl (by rw[aq (aQ hF.jt gN)];exact hF.jt) aC ?_ (fun p2 gy=>?_)
  ·rw[aL];exact nV (by simp;omega)
  rw[ejs];have sa:=(aj.new (o:=.ak [V.int 0]) gN).trans (aj.new (o:=.ak (bC (js++[0]))) gy);apply Z68 pa p2 _ _ rfl (aA.of (sa _ _ hF.pc)) (aA.of aC) (by rw[aL,pO,cq,cR];simp;omega) (fun H3 zl tz s3 dZ lj hP=>?_);rw[aL,cR]at hP;have sv:tz.length=is.length:=by have:=Paired.length hP;rw[qB]at this;exact this
  apply kk H3 zl tz (sa.trans s3) (e8 sa dZ) ⟨lj,K4 (by rw[List.length_zip,sv,cq];simp;omega) fun k t p ht hp=>?_⟩;obtain⟨k',jx,xq,yq,AK,Nh,jo⟩:=Paired.f9 hP ht;rw[List.getElem?_zip_eq_some]at hp;have br:k<is.length:=(fD.mp hp.1).1;rw[lL br]at jx;cases jx;rw[bR]at AK;cases lE:ps[k]? with
  | none=>rw[lE]at AK;cases AK
  | some pq =>rw[lE]at AK;cases AK;obtain⟨iq,sS,qx,lI⟩:=Paired.f9 hF.it lE;rw[hp.1]at sS;cases sS;unfold bC at Nh;rw[bR,hp.2]at Nh;cases Nh;exact⟨pq,⟨qx,(sa.trans s3) _ _ lI⟩,jo⟩
def ahY (C CI CF:ae):Sp:=fun vs H Q _=>∃(f pa ja ra:ae)(ps:List ae)(is:List bI)(js:List Nat)(A:lK)(x:aW)(l:List bP)(n:Nat)(av:ae->Prop),vs=[.ref f,.ref ra]/\(∀b,H b=none->av b)/\dA CI CF H f pa ja ps is js/\is.length=js.length+1/\is.length<=1000/\(∀i∈is,i.kind<=9/\∀c∈i.word,c∈bV)/\(∀j∈js,j<=2)/\j6 C H ra A x l/\pD x l/\qg H A.ka l/\dn av H A.kl x l n/\n+is.length<=100000 /\
 ∀(H':Hp)(c:ae),bG [A.kl] H H'->dn av H' A.kl x l (n+is.length)->H c=none->rR H' c x l (is.zip (js++[0]))->Q (.ref c) H'
def Wa:bD ["form","reading","only_the_end","counts","strength","item","joint"] ["form","reading"] (aR IP):=bL
def We (T:Tx K mg):bg P w K mg base (bw P w) 8 T.Ja T.RU ["form","reading"] (ahY T.di T.bX T.cn):=by
 have GA:= @adO P w K mg base T;have GP:= @Ly P w K mg base T;exists T.tX.cj Wa
 ·obtain⟨f,pa,ja,ra,ps,is,js,A,x,l,n,av,rfl,_⟩:=h;rfl
 ·obtain⟨f,pa,ja,ra,ps,is,js,ga,x,l,n,av,rfl,jV,hF,bN,NI,rX,Mv,hR,hO,kR,hK,hn,kk⟩:=h;have nd:=Wa.nd;obtain⟨ts,mS,tS⟩:=(T.tu T.yY);apply Z10 _ (aD (bB (i:=2) nd rfl Orr (e9 ug (e9 agm (cz (ao bQ ax)) (cD gA rfl (T.tn T.d5) e7 (ao (aX (pv 1) rfl) ax))) (cz (ao bQ ax))))
   (aD (bB (i:=3) nd rfl Olr (cz (ao (jF rfl nd (wD (bh (v:=.ref ts) rfl mS rfl)) (ic (N:=["form","reading","only_the_end","counts","strength","item","joint"]) (sc:=aR IP) (bO:=[("strength",4)]) (by decide+kernel)) (fun _ _ _ _ _=>b9 (i:=4) nd rfl Olr) (fun _ _ _ _ _=>iR) (fun _ _ _ _ _=>pv 2)) ax)))
   (aD (jh PassesOwn.never rfl (aay rfl (T.tn T.Jr) (ao (nB (pv 0) T.ij T.x9 GP hr.ww (dE T.vL) .nil bE) ax)) (jj rfl (dF (b9 (i:=5) nd rfl Olr) (dF (b9 (i:=6) nd rfl Olr) jf)))
    (aF (dR (gp gU iQ iP hU (pv 3) (ao (cy GA hr rfl (T.tm T.Gc) T.yj.kp (tj T.yj) .nil bE (ao (pv 5) (ao (pv 6) (ao (cZ eU (pv 3) (DK Dt bQ) (fun _ _=>rfl)) (ao (pv 1) ax))))) ax)))))
   (aD (dR (agl gU PySem.F.slot_list_reverse PySem.F.type_list_reverse abz (pv 3)))
   (aF (aY (pv 3))))))) ?_
  obtain⟨dx,lH⟩:=hR.bu;have hO1:=hO.n;have vF:(aV (l.map fun y=>y.word)).length=l.length:=by simp[aV]
  apply dj (fun σ H1=>∃oe,σ=[some (.ref f),some (.ref ra),some (.ref oe),none,none,none,none]/\aj H H1/\H1 oe=some (.ak (bC (List.replicate l.length 0++[1])))) (fun X hX=>?_) ?_
  ·apply⟨eY,fun p1 gN=>?_⟩;have s1:=aj.new (o:=.ak [V.int 0]) gN;apply Z55 _ rfl ra _ dx _ _ rfl (s1 _ _ lH) T.fk T.pG (Z95 rfl ga.wa _ rfl (.inl (aA.of (s1 _ _ hR.wo))) p1 _ _ rfl rfl aC ?_ ⟨?_,?_,fun p2 gy=>?_⟩)
   ·omega
   ·rw[vF];omega
   ·rw[vF,mj];exact nV (by simp;omega)
   rw[vF,mj,Ux];have s2:=s1.trans (aj.new (o:=.ak (List.replicate l.length (V.int 0))) gy);apply⟨eY,fun p3 kP=>?_⟩;apply Z35 p2 p3 _ _ rfl rfl (by rw[aq (aQ aC kP),aC]) aC ?_ (fun oe mP=>hX _ _ (Z12 oe rfl ((s2.trans (aj.new kP)).trans (aj.new mP)) ?_))
   ·rw[List.length_replicate];exact nV (by simp;omega)
   ·rw[aC];unfold bC;rw[cV,List.map_replicate];rfl
  ·rintro σ H1 ⟨oe,rfl,s1,mP⟩;apply dj (fun σ H2=>∃c b,σ=[some (.ref f),some (.ref ra),some (.ref oe),some (.ref c),none,none,none]/\aj H H2/\H c=none/\b≠c/\H2 c=some (.ak [V.ref b])/\ik H2 b x l []) (fun X hX=>?_) ?_
   ·apply Z12 ts rfl ⟨_,tS.sq _⟩ (fun D hD=>?_);apply k8 [V.ref oe,V.ref oe,V.ref oe] Mb hD (fun i H3 hi s3=>?_) (fun H3 s3=>⟨_,tS.sq _,bo 3⟩) (fun i v y H3 H4 Kt hy s3 bT fz hk=>?_) (fun H3 s3 bT=>?_)
    ·exact Z53 _ _ (tS.sq _) (cB (show i<3 from hi))
    ·obtain⟨rfl,_⟩:=fz;have hy2:y=V.ref oe:=by
      match i,hy with
      | 0,hy=>cases hy;rfl
      | 1,hy=>cases hy;rfl
      | 2,hy=>cases hy;rfl
     subst hy2;exact⟨rfl,_,rfl,hk _ (aj.refl _)⟩
    ·apply⟨eY,fun c hc=>?_⟩;have sc:=aj.new (o:=.ak [V.ref D]) hc;have h:=sc _ _ (s3 _ _ mP);exact hX _ _ (Z22 c D rfl ((s1.trans s3).trans sc) (e8 (s1.trans s3) hc) (aQ bT hc) (Z25 aC [oe,oe,oe] (sc _ _ bT) (.cons (by rw[KZ];exact h) (.cons (by rw[KZ];exact h) (.cons (by rw[KZ];exact h) .nil)))))
   ·rintro σ H2 ⟨c,b0,rfl,s2,mU,NV,NU,vw⟩;obtain⟨g0,mX⟩:=(hF.same s2).bu;have aiW:∃ai,H ga.kl=some (.dT ai):=let ⟨ai,h,_⟩:=hK;⟨ai,h⟩;obtain⟨ai,cG⟩:=aiW;have Mt:ga.kl≠c:=aQ cG mU;generalize vj:is.zip (js++[0])=r at kk;have xG:r.length=is.length:=by rw[<-vj,List.length_zip,cq];simp;omega
    let m9:ae->Prop:=fun b=>av b/\b≠c
    apply dj (fun σ H'=>∃bs v5 v6,σ=[some (.ref f),some (.ref ra),some (.ref oe),some (.ref c),none,v5,v6]/\bG [ga.kl] H H'/\dn m9 H' ga.kl x l (n+is.length)/\H' c=some (.ak (bs.map V.ref))/\Paired (fun b d=>ik H' b x l (r.drop d)/\b≠c) bs ((List.range (r.length+1)).map fun k=>r.length-k)) (fun X hX=>?_) ?_
    ·apply Z59 _ rfl f g0 _ rfl (Z102 mX rfl f pa ja ps is js rfl (hF.same s2) bN NI (fun H3 zl tz s3 dZ vz=>?_));rw[vj]at vz;obtain⟨lj,hP⟩:=vz;have uX:aj H H3:=s2.trans s3;have sv:tz.length=is.length:=by rw[Paired.length hP,xG]
     apply Z14 zl _ rfl (aA.of lj) ?_;rw[aL,sv];have uI:=uX _ _ cG;have Xn:zl≠c:=(aQ NU dZ).symm;have xB:zl≠ga.kl:=aJ lj uI nofun;apply uc is.length (fun t σ H'=>∃bs v5 v6,σ=[some (.ref f),some (.ref ra),some (.ref oe),some (.ref c),none,v5,v6]/\bG [ga.kl] H H'/\bG [ga.kl,c] H3 H'/\dn m9 H' ga.kl x l (n+t)/\H' c=some (.ak (bs.map V.ref))/\Paired (fun b d=>ik H' b x l (r.drop d)/\b≠c) bs ((List.range (t+1)).map fun k=>r.length-k)) ?_ ?_ ?_ ?_ ?_
     ·apply Z27 [b0] _ _ rfl (aj.fQ uX) (bG.refl _ _) ((hK.W5 mU).same uX) (s3 _ _ NU) (.cons ⟨?_,NV⟩ .nil);show ik H3 b0 x l (r.drop (r.length-0));rw[Y5,x8];exact vw.same s3
     ·rintro t σ H' ht ⟨bs,v5,v6,rfl,_,kp,_⟩;exact Z41 ht _ _ (aA.of (kp _ _ lj (by simp;exact⟨xB,Xn⟩))) (cB (by rw[aL,sv];omega))
     ·rintro σ H' _;exact bo _
     ·rintro t v σ H' H'' ht ⟨bs,v5,v6,rfl,kp,gd,vA,n6,l9⟩ ⟨rfl,hv⟩;have hzt:=gd _ _ lj (by simp;exact⟨xB,Xn⟩);have hv:=hv _ (aA.of hzt);rw[bR]at hv;cases ju:tz[is.length-1-t]? with
      | none=>rw[ju]at hv;cases hv
      | some tq =>
       rw[ju]at hv;cases hv;obtain⟨⟨iq,jq⟩,sG,pq,⟨qx,lI⟩,jo⟩:=Paired.f9 hP ju;have hz:=sG;rw[<-vj,List.getElem?_zip_eq_some]at hz;obtain⟨sS,AZ⟩:=hz;have sR:jq<=2:=by
        rcases eQ.mp (fC AZ)with h|h
        ·exact Mv _ h
        ·simp at h;omega
       have ok:=rX iq (fC sS);have Yp:=s3 _ _ NU;have z6:=gd _ _ jo (by simp;exact⟨aJ jo uI nofun,aJ jo Yp nofun⟩);have ME:=gd _ _ lI (by simp;exact⟨aJ lI uI nofun,aJ lI Yp nofun⟩);have z8:r.drop (r.length-(t+1))=(iq,jq)::r.drop (r.length-t):=by obtain⟨br,e⟩:=fD.mp sG;rw[show r.length-(t+1)=is.length-1-t by omega,nk br,e,show is.length-1-t+1=r.length-t by omega]
       have vo:bs.length=t+1:=by rw[Paired.length l9];simp
       have sU:=cB (l:=bs) (i:=t) ⋯;obtain⟨d,hd,Yy,hbc⟩:=Paired.f9 l9 sU;rw[bR,lL ⋯]at hd;cases hd;have ahJ:bs.map V.ref=(bs.take t).map V.ref++[V.ref bs[t]]:=by rw[<-List.map_singleton (f:=V.ref),<-cV,<-kj sU,Bt ⋯]
       have MA:∀b,H'' b=none->m9 b:=fun b hb=>⟨jV b (Tp kp vA b hb),fun e=>by rw[e,n6]at hb;cases hb⟩;apply Z39 tq _ rfl (cS.of z6) rfl _ _ rfl _ _ rfl rfl ?_;apply Z12 _ rfl (.inl ⟨rfl,_,aA.of n6⟩) (Z56 _ rfl _ rfl _ rfl (Z70 _ rfl c _ _ _ rfl rfl (Z69 (aA.of n6) (by rw[ahJ];exact KP _ _) _ rfl pq (bs[t]) ra jq ga x l iq (Z19 _ (n+t) m9 rfl MA ⟨hR.keep cG kp,hO,kR.keep cG kp,vA,by omega,⟨qx,ME⟩,ok.1,ok.2,sR,Yy,fun H5 p5 kK gG AR hT5=>?_⟩))));obtain⟨xb,Eb,_⟩:=id vA;have Fe:=kK _ _ n6 (by simp;exact Mt.symm);have Xr:p5≠c:=(aQ n6 AR).symm;have bJ:bs.map V.ref≠[]:=fun q=>by have:=congrArg List.length q;rw[aL,vo]at this;simp at this
       obtain⟨q0,zW,EU⟩:∃q0 zW,bs.map V.ref=V.ref q0::zW:=by
        cases bs with
        | nil=>exact absurd rfl bJ
        | cons a b=>exact⟨a,_,rfl⟩
       have Mz:=Fe;rw[EU]at Mz;apply Z13 c _ _ rfl rfl Fe ?_ (Z27 (bs++[p5]) _ _ rfl ?_ ?_ ?_ ?_ ?_)
       ·rw[aL,vo];exact M7 ⋯
       ·exact(kp.trans kK).iZ (.inr mU)
       ·exact(gd.trans (kK.gv (by intro b hb;simp at hb;simp[hb]))).iZ (.inl (by simp))
       ·have:=gG.iZ (o:=.ak (bs.map V.ref++[V.ref p5])) (fun b hb=>hb.2) Mt;rw[Nat.add_assoc]at this;exact this
       ·rw[aC,cV];rfl
       ·rw[vK,cV];apply Paired.snoc (L2.Paired.dc l9 fun b d h=>⟨(h.1.keep Eb kK).L9 Mz h.2,h.2⟩) ⟨?_,Xr⟩;have:=hT5.L9 (o:=.ak (bs.map V.ref++[V.ref p5])) Mz Xr;rw[z8];exact this
     ·rintro σ H' ⟨bs,v5,v6,rfl,kp,_,vA,n6,l9⟩;exact hX _ _ (Z13 bs _ _ rfl kp vA n6 (by rw[xG];rw[xG]at l9;exact l9))
    ·rintro σ H9 ⟨bs,v5,v6,rfl,kp,vA,n6,l9⟩;have vo:bs.length=r.length+1:=by rw[Paired.length l9];simp
     obtain⟨q0,zW,EU⟩:∃q0 zW,bs.map V.ref=V.ref q0::zW:=by
      cases bs with
      | nil=>simp at vo
      | cons a b=>exact⟨a,_,rfl⟩
     have WY:=n6;rw[EU]at WY;apply Z94 _ rfl (.inl ⟨rfl,_,aA.of n6⟩) c _ rfl rfl ⟨n6,?_⟩;apply⟨_,rfl,kk _ c (kp.iZ (.inr mU)) ((vA.iZ (fun b hb=>hb.2) Mt).DX fun b hb=>hb.1) mU ⟨bs.reverse,by rw[aC,List.map_reverse],?_⟩⟩;rw[<-abi];exact abm (L2.Paired.dc l9 fun b d h=>h.1.L9 WY h.2)
def ahc:Sp:=fun vs H Q _=>∃(c:ae)(x:aW)(l:List bP)(r:List (bI×Nat)),vs=[.ref c]/\rR H c x l r/\Q (.int ((Wm.Rf x l r 0 0:Nat):Int)) H
def agf:bD ["counts"] ["counts"] (aR Sf):=bL
def VQ (T:Tx K mg):bg P w K mg base (bw P w) 1 T.JG T.SE ["counts"] ahc:=by
 exists T.tZ.cj agf
 ·obtain⟨c,x,l,r,rfl,_⟩:=h;rfl
 ·obtain⟨c,x,l,r,rfl,hC,kk⟩:=h;obtain⟨uB,mB,rB⟩:=(T.tg T.qY);apply⟨_,aF (aY (cZ eU (cZ eU (cZ eU (pv 0) bQ (fun _ _=>rfl)) (bh rfl mB rB) (fun _ _=>rfl)) bQ (fun _ _=>rfl))),?_⟩;obtain⟨ts,b,hc,hb,hT⟩:=hC.at (bA _);rw[List.drop_zero]at hT;obtain⟨tp,jO,sF⟩:=hT;obtain⟨pz,Ny,Mp⟩:=zA (H:=H) sF (s:=0) ⋯;apply Z44 _ rfl c _ 0 _ rfl rfl (aA.of hc) (dH (j:=0) hb) (Z97 b _ 0 _ rfl rfl (aA.of jO) (dH (j:=0) Ny) pz _ 0 _ ⟨rfl,rfl,aA.of Mp,dH (j:=0) (qU (by rw[zC];omega)),?_⟩);rw[Dj x l _ 0 (bA _)];exact kk
def T4 (x:aW)(l:List bP)(f:Po.Form)(h:∀p∈f.more,p.1<=2):Po.countBy x l f=Wm.Rf x l (Wy.fH f) 0 0:=by rw[Wm.aea x l f h,Wy.Vf]
structure Ax (x:aW):Prop where
 i9:(Po.forms x).length<=1000
 eO:∀f∈Po.forms x,f.items.length<=16
 ok:∀f∈Po.forms x,∀i∈f.items,i.kind<=9/\∀c∈i.word,c∈bV
 cw:∀f∈Po.forms x,∀p∈f.more,p.1<=2
def Ax.Mc {x:aW}(h:Ax x){f:Po.Form}(hf:f∈Po.forms x):∀j∈f.more.map (fun p:Nat×bI=>p.1),j<=2:=fun j hj=>by obtain⟨p,hp,rfl⟩:=cx.mp hj;exact h.cw f hf p hp
def Cy (f:Po.Form):f.items.length=(f.more.map (fun p:Nat×bI=>p.1)).length+1:=by simp[Po.Form.items]
def cg.wK {CI CF CR:ae}{H H':Hp}{kl r:ae}{n:Nat}{A:eP}{x:aW}{ai:List (List aP×V)}(R:cg CI CF CR H r n A x)(ha:H kl=some (.dT ai))(k:bG [kl] H H'):cg CI CF CR H' r n A x :=
 R.st (fun b l h=>k _ _ h (by simp;exact aJ h ha nofun)) (fun b l h=>k _ _ h (by simp;exact aJ h ha nofun)) fun b C' dy p q fs h=>k _ _ h (by simp;exact aJ h ha nofun)
def aeH (C CI CF CR:ae):Sp:=fun vs H Q _=>∃(ru ra:ae)(n:Nat)(A:eP)(x:aW)(l:List bP)(G:lK),vs=[.ref A.fa,.ref ra]/\cg CI CF CR H ru n A x/\j6 C H ra G x l/\pD x l/\qg H G.ka l/\(∀av,dn av H G.kl x l 0)/\Ax x /\
 ∀(H':Hp),bG [G.kl] H H'->Q (.int ((Po.countWays x l:Nat):Int)) H'
def Qz:bD ["forms","reading","form"] ["forms","reading"] (aR Ij):=bL
def ZW (T:Tx K mg):bg P w K mg base (bw P w) 9 T.Iz T.Rk ["forms","reading"] (aeH T.di T.bX T.cn T.cQ):=by
 have GA:= @VQ P w K mg base T;have GB:= @We P w K mg base T;exists T.yV.cj Qz
 ·obtain⟨ru,ra,n,A,x,l,G,rfl,_⟩:=h;rfl
 ·obtain⟨ru,ra,n,A',x,l,G,rfl,R,hR,hO,kR,hK,hF,kk⟩:=h;have nd:=Qz.nd;apply Z10 _ (aF (aY (cD (VW rfl) rfl (T.tn T.DN) (by decide+kernel) (ao (jF rfl nd (iS (pv 0)) (ic (N:=["forms","reading","form"]) (sc:=aR Ij) (bO:=[("form",2)]) (by decide+kernel)) (fun _ _ _ _ _=>b9 (i:=2) nd rfl Olr) (fun _ _ _ _ _=>iR)
    (fun _ _ _ _ _=>cy GA hr.ww rfl (T.tm T.Ct) T.tZ.kp (dE T.tZ) .nil bE (ao (cy GB hr rfl (T.tm T.Cd) T.tX.kp (cp T.tX) .nil bE (ao (pv 2) (ao (pv 1) ax))) ax))) ax)))) ?_
  obtain⟨ai,cG,_,_⟩:=hK fun _=>True;have iM:A'.fs.length=(Po.forms x).length:=Paired.length R.fs;have hfe:=hF.i9;apply Z24 _ rfl A'.fa rfl ⟨_,aA.of R.fo⟩ (fun D hD=>?_)
  let cs:List Int:=(Po.forms x).map fun f=>((Po.countBy x l f:Nat):Int)
  have gQ:cs.length=(Po.forms x).length:=by simp[cs]
  have Fv:D≠G.kl:=(aQ cG hD).symm;apply wH (Po.forms x).length (fun i H3=>bG [G.kl] H H3/\dn (fun b=>b≠D) H3 G.kl x l (16*i)/\H3 D=some (.ak ((cs.take i).map V.int))) ?_ ?_ ?_ ?_ ?_
  ·have sn:=aj.new (o:=.ak []) hD;exact⟨aj.fQ sn,(hK _).same sn,aC⟩
  ·rintro i H3 hi ⟨gd,_,_⟩;exact Z53 _ _ (aA.of (R.wK cG gd).fo) (cB (by rw[aL,iM];exact hi))
  ·rintro H3 ⟨gd,_,_⟩;exact⟨_,aA.of (R.wK cG gd).fo,by rw[aL,iM];exact bo _⟩
  ·rintro i v H3 H4 hi ⟨gd,d6,vE⟩ ⟨rfl,hv⟩;have R3:=R.wK cG gd;have hv:=hv _ (aA.of R3.fo);rw[bR]at hv;cases sT:A'.fs[i]? with
   | none=>rw[sT]at hv;cases hv
   | some g =>
    rw[sT]at hv;cases hv;obtain⟨f,n4,N2⟩:=Paired.f9 R3.fs sT;have fm:=fC n4;have aiU:=hF.eO f fm;apply⟨rfl,DY ?_⟩;apply Z15 _ rfl _ rfl (Z73 g.f g.pa g.ja ra g.ps f.items (f.more.map (·.1)) G x l (16*i) (fun b=>b≠D) ⟨rfl,(fun b hb e=>by rw[e,vE]at hb;cases hb),N2,Cy f,by omega,hF.ok f fm,hF.Mc fm,hR.keep cG gd,hO,kR.keep cG gd,d6,by omega,fun H5 c kK gG Fe Fw=>?_⟩);apply Z58 c x l _ rfl Fw ?_;have ec:=T4 x l f (hF.cw f fm);unfold Wy.fH at ec;rw[<-ec];have hci:cs[i]?=some ((Po.countBy x l f:Nat):Int):=by show((Po.forms x).map _)[i]?=_;rw[bR,n4];rfl
    have hD5:=kK _ _ vE (by simp;exact Fv);apply Z10 _ hD5 ⟨?_,?_,?_,?_⟩
    ·rw[aL,gH];exact M7 ⋯
    ·exact(gd.trans kK).iZ (.inr hD)
    ·exact(gG.iZ (fun b hb=>hb) Fv.symm).more ⋯
    ·rw[aC,kj hci,cV];rfl
  ·rintro H3 ⟨gd,d6,vE⟩;rw[<-gQ,ni]at vE;apply Z14 D cs rfl (aA.of vE) ?_;have e:cs.sum=((Po.countWays x l:Nat):Int):=by unfold Po.countWays;rw[J1,f6];simp;rfl
   rw[e];exact kk H3 gd
noncomputable def AB (ra:ae)(m k s:Nat)(wl:ae):List (Str×V):=[("reading",.ref ra),("number",.int (m:Int)),("start",.int (k:Int)),("strength",.int (s:Int)),("way",.ref wl)]
def uR (C:ae)(H:Hp)(p ra:ae)(m k s:Nat)(wl:ae):Prop:=∃dx,H p=some (.bc C dx (AB ra m k s wl))
def V0 (t:Nat×Nat×Nat):List V:=[.int (t.1:Int),.int (t.2.1:Int),.int (t.2.2:Int)]
def j2 (H:Hp)(wl:ae)(ws:List (Nat×Nat×Nat)):Prop:=∃ps:List ae,H wl=some (.ak (ps.map V.ref))/\Paired (fun p t=>H p=some (.bp (V0 t))) ps ws
def j2.keep {H H':Hp}{wl p C dx:ae}{fs:List (Str×V)}{ws:List (Nat×Nat×Nat)}(h:j2 H wl ws)(hp:H p=some (.bc C dx fs))(k:bf p H H'):j2 H' wl ws:=by obtain⟨ps,h1,h2⟩:=h;exact⟨ps,k _ _ h1 (aJ h1 hp nofun),L2.Paired.dc h2 fun q t h=>k _ _ h (aJ h hp nofun)⟩
def j2.ahl {H H':Hp}{wl kl:ae}{ai:List (List aP×V)}{ws:List (Nat×Nat×Nat)}(h:j2 H wl ws)(hp:H kl=some (.dT ai))(k:bG [kl] H H'):j2 H' wl ws:=by obtain⟨ps,h1,h2⟩:=h;exact⟨ps,k _ _ h1 (by simp;exact aJ h1 hp nofun),L2.Paired.dc h2 fun q t h=>k _ _ h (by simp;exact aJ h hp nofun)⟩
def aez (C:ae):Sp:=fun vs H Q _=>∃(a dx ra:ae)(m:Nat),vs=[.ref a,.ref ra,.int (m:Int)]/\H a=some (.bc C dx [])/\∀(H':Hp)(wl:ae),H wl=none->uR C H' a ra m 0 0 wl->H' wl=some (.ak [])->bf a H H'->Q .bx H'
def Z7:bD ["self","reading","number"] ["self","reading","number"] (aR RB):=bL
def aah (T:Tx K mg):bg P w K mg base (bw P w) 1 T.Jb T.RV ["self","reading","number"] (aez T.iY):=by
 exists T.Ce.cj Z7
 ·obtain⟨a,dx,ra,m,rfl,_⟩:=h;rfl
 ·obtain⟨a,dx,ra,m,rfl,ha,kk⟩:=h;obtain⟨uB,mB,rB⟩:=(T.tg T.qY);apply⟨_,aD (fP (pv 0) (pv 1) rfl) (aD (fP (pv 0) (pv 2) rfl) (aD (fP (pv 0) bQ rfl) (aD (fP (pv 0) (bh rfl mB rB) rfl) (aF (fP (pv 0) (cz ax) rfl))))),?_⟩;apply oy ?_;apply Z29 _ rfl _ rfl a _ dx [] ⟨rfl,ha,T.iG,T.BU,(show 0<1000 by decide),?_⟩;apply oy ?_;apply Z29 _ rfl _ rfl a _ dx [("reading",.ref ra)] ⟨rfl,aC,T.iG,T.yG,(show 1<1000 by decide),?_⟩;apply oy ?_;apply Z18 _ rfl a _ dx [("reading",.ref ra),("number",.int (m:Int))] rfl aC T.iG T.tQ (show 2<1000 by decide) ?_;apply oy ?_;apply Z18 _ rfl a _ dx [("reading",.ref ra),("number",.int (m:Int)),("start",.int 0)] rfl aC T.iG T.yu (show 3<1000 by decide) ?_;apply⟨bA _,fun wl eZ=>Z18 _ rfl a _ dx [("reading",.ref ra),("number",.int (m:Int)),("start",.int 0),("strength",.int 0)] rfl (by rw[aq (cC eZ).1.symm,aC];rfl) T.iG T.yX (show 4<1000 by decide) ?_⟩;obtain⟨nwl,eZ⟩:=cC eZ;obtain⟨_,eZ⟩:=cC eZ;obtain⟨_,eZ⟩:=cC eZ;obtain⟨_,eZ⟩:=cC eZ;apply kk _ wl eZ ⟨dx,aC⟩ (by rw[aq nwl,aC]) fun b o h hn=>?_;rw[aq hn,aq (aQ h eZ),aq hn,aq hn,aq hn,aq hn];exact h
def adi (C CI:ae):Sp:=fun vs H Q _=>∃(p ia ra wl:ae)(i:bI)(m k s c s2:Nat)(ws:List (Nat×Nat×Nat)),vs=[.ref p,.ref ia,.int (c:Int),.int (s2:Int)]/\uR C H p ra m k s wl/\lX CI H ia i/\j2 H wl ws/\ws.length<=1000 /\
 ∀(H':Hp),uR C H' p ra m (k+c) s2 wl->j2 H' wl (ws++if c=0 then[]else[(i.kind,k,c)])->bG [p,wl] H H'->Q .bx H'
def S8:bD ["self","item","length","strength"] ["self","item","length","strength"] (aR QE):=bL
def acy (T:Tx K mg):bg P w K mg base (bw P w) 1 T.HX T.QR ["self","item","length","strength"] (adi T.iY T.bX):=by
 exists T.B1.cj S8
 ·obtain⟨p,ia,ra,wl,i,m,k,s,c,s2,ws,rfl,_⟩:=h;rfl
 ·obtain⟨p,ia,ra,wl,i,m,k,s,c,s2,ws,rfl,⟨dx,hP⟩,⟨dm,hI⟩,hW,eZ,kk⟩:=h;have nd:=S8.nd;apply Z10 _ (aD (bU (cI wM (pv 2) bQ (bS _)) (aF (dR (gp gU iQ iP hU (aX (pv 0) rfl) (ao (zP (ao (aX (pv 1) rfl) (ao (aX (pv 0) rfl) (ao (pv 2) ax)))) ax)))) b5)
   (aD (qO (pv 0) (pv 2) uh)
   (aF (fP (pv 0) (pv 3) rfl)))) ?_
  apply dj (fun σ H1=>σ=[some (.ref p),some (.ref ia),some (.int (c:Int)),some (.int (s2:Int))]/\H1 p=some (.bc T.iY dx (AB ra m k s wl))/\j2 H1 wl (ws++if c=0 then[]else[(i.kind,k,c)])/\bG [p,wl] H H1) (fun X hX=>?_) ?_
  ·apply Z105 _ rfl _ _ rfl rfl _ rfl ?_;obtain⟨ps,gx,lA⟩:=hW;by_cases hc:c=0
   ·rw[bZ (show¬(0:Int)<(c:Int) by omega)];exact aO (hX _ _ ⟨rfl,hP,by rw[aE hc,nq];exact⟨ps,gx,lA⟩,bG.refl _ _⟩)
   ·rw[bY (show(0:Int)<(c:Int) by omega)];apply a0 (Z17 _ rfl p (Z36 _ dx _ _ rfl hP T.iG T.yX rfl (.inl ⟨rfl,_,aA.of gx⟩) _ rfl (Z37 ia _ dm _ _ rfl hI T.fU T.jC rfl _ rfl (Z37 p _ dx _ _ rfl hP T.iG T.tQ rfl _ rfl ⟨Mb,fun t ht=>?_⟩))));have st:=aj.new (o:=.bp (V0 (i.kind,k,c))) ht;have Xp:p≠wl:=aJ hP gx nofun;apply Z13 wl _ _ rfl rfl (st _ _ gx) ?_ (hX _ _ ⟨rfl,?_,?_,?_⟩)
    ·rw[aL,Paired.length lA];exact jd eZ (by decide)
    ·rw[aq Xp];exact st _ _ hP
    ·rw[aB hc];apply⟨ps++[t],by rw[aC,cV];rfl,Paired.snoc (L2.Paired.dc lA fun q u h=>?_) ?_⟩
     ·rw[aq (aJ h gx nofun)];exact st _ _ h
     ·rw[aq (aQ gx ht).symm];exact aC
    ·exact bG.iZ (aj.fQ st) (.inl (by simp))
  ·rintro σ H1 ⟨rfl,Fq,Yv,oV⟩;obtain⟨ps,gx,lA⟩:=id Yv;have Xp:p≠wl:=aJ Fq gx nofun;apply Z34 _ rfl p _ dx _ (Z43 _ rfl Fq T.iG T.tQ rfl _ rfl _ _ rfl rfl (Z14 dx _ Fq (show 5<1000 by decide) ?_));apply Z29 _ rfl _ rfl p _ dx _ ⟨rfl,aC,T.iG,T.yu,(show 5<1000 by decide),?_⟩;apply kk _ ⟨dx,?_⟩ ?_ ?_
   ·rw[aC];show some (HO.bc T.iY dx (AB ra m k s wl|>gu "start" (.int ((k:Int)+(c:Int)))|>gu "strength" (.int (s2:Int))))=_;rw[show(k:Int)+(c:Int)=((k+c:Nat):Int) by omega];rfl
   ·exact j2.keep Yv Fq fun b o h hn=>by rw[aq hn,aq hn];exact h
   ·exact bG.iZ (bG.iZ oV (.inl (by simp))) (.inl (by simp))
def ik.ahm {H H':Hp}{b p C dx:ae}{x:aW}{l:List bP}{r:List (bI×Nat)}{fs:List (Str×V)}(h:ik H b x l r)(hp:H p=some (.bc C dx fs))(k:bf p H H'):ik H' b x l r:=by obtain⟨ps,h1,h2⟩:=h;exact⟨ps,k _ _ h1 (aJ h1 hp nofun),L2.Paired.dc h2 fun q j h=>k _ _ h (aJ h hp nofun)⟩
def dn.Wg {av:ae->Prop}{H H':Hp}{kl p wl C dx:ae}{x:aW}{l:List bP}{n:Nat}{fs:List (Str×V)}{ys:List V}(h:dn av H kl x l n)(hp:H p=some (.bc C dx fs))(hw:H wl=some (.ak ys))(jV:∀b,av b->b≠wl)(k:bG [p,wl] H H'):dn av H' kl x l n:=by obtain⟨ai,h1,h2,h3⟩:=h;apply Z12 ai (k _ _ h1 (by simp;exact⟨aJ h1 hp nofun,aJ h1 hw nofun⟩)) h2 (fun i v hi hv=>?_);obtain⟨a,rfl,h0,ps,p1,p2⟩:=h3 i v hi hv;exact Z11 a rfl h0 ps (k _ _ p1 (by simp;exact⟨aJ p1 hp nofun,jV _ h0⟩)) (L2.Paired.dc p2 fun q j h=>⟨k _ _ h.1 (by simp;exact⟨aJ h.1 hp nofun,jV _ h.2⟩),h.2⟩)
def Tn (x:aW)(l:List bP)(i:bI)(k:Nat):bC (if i.may=true then[0]else[])++bC (Wm.eD x l i k)=bC (Wy.aM x l i k):=by unfold bC Wy.aM;rw[cV]
def af4 (CP CI C:ae):Sp:=fun vs H Q _=>∃(p ia ba ra wl:ae)(i:bI)(m k s j n:Nat)(G:lK)(x:aW)(l:List bP)(r:List (bI×Nat))(av:ae->Prop)(ws:List (Nat×Nat×Nat)),vs=[.ref p,.ref ia,.int (j:Int),.ref ba]/\uR CP H p ra m k s wl/\j2 H wl ws/\ws.length<=1000/\(∀b,H b=none->av b)/\(∀b,av b->b≠wl)/\j6 C H ra G x l/\pD x l/\dn av H G.kl x l n/\n<=100000/\lX CI H ia i/\i.kind<=9/\(∀c∈i.word,c∈bV)/\j<=2/\s<=2/\k<=l.length/\ik H ba x l r/\m<Wm.Rf x l ((i,j)::r) s k /\
 ∀(H':Hp),uR CP H' p ra (Po.pick (Wm.eI x l i j r s k) m).2 (k+(Po.pick (Wm.eI x l i j r s k) m).1) (if(Po.pick (Wm.eI x l i j r s k) m).1=0 then max s j else j) wl->j2 H' wl (ws++if(Po.pick (Wm.eI x l i j r s k) m).1=0 then[]else[(i.kind,k,(Po.pick (Wm.eI x l i j r s k) m).1)])->dn av H' G.kl x l (n+1)->bG [G.kl,p,wl] H H'->Q .bx H'
def Vd:bD ["self","item","joint","behind","left_out","length","strength","how_many"] ["self","item","joint","behind"] (aR PD):=bL
def ae5 (T:Tx K mg):bg P w K mg base (bw P w) 7 T.Hh T.PY ["self","item","joint","behind"] (af4 T.iY T.bX T.di):=by
 have GL:= @QH P w K mg base T;have GS:= @acy P w K mg base T;apply T.BO.cj Vd (fun vs H Q E h=>?_) (fun aU A aG s0 H vs Q E hr h=>?_)
 ·obtain⟨p,ia,ba,ra,wl,i,m,k,s,j,n,G,x,l,r,av,ws,rfl,_⟩:=h;rfl
 ·obtain⟨p,ia,ba,ra,wl,i,m,k,s,j,n,G,x,l,r,av,ws,rfl,⟨dx,hP⟩,hW,AL,jV,W1,hR,hO,hK,hn,⟨dm,hI⟩,kc,iA,sR,gF,cG,hT,hm,kk⟩:=h;have nd:=Vd.nd;apply Z10 _ (aD (bB (i:=4) nd rfl Olr (zD (gm (aX (pv 1) rfl)) (cz (ao bQ ax)) (cz ax)))
   (aF (jh PassesOwn.never rfl (iS (e9 ug (pv 4) (cZ eU (cT (aX (pv 0) rfl) T.fk T.By GL hr (cp T.ye) .nil bE (ao (pv 1) ax)) (aX (pv 0) rfl) (fun _ _=>rfl)))) (b9 (i:=5) nd rfl Olr)
    (aD (bB (i:=6) nd rfl Olr (zD (cI wM (pv 5) bQ (bS _)) (pv 2) (cD (Kf rfl) rfl (T.tn T.zZ) (by decide+kernel) (ao (aX (pv 0) rfl) (ao (pv 2) ax)))))
    (aD (bB (i:=7) nd rfl Olr (cZ eU (cZ eU (pv 3) (pv 6) (fun _ _=>rfl)) (e9 k7 (aX (pv 0) rfl) (pv 5)) (fun _ _=>rfl)))
    (aD (bU (cI p7 (aX (pv 0) rfl) (pv 7) (bS _)) (aD (dR (cT (pv 0) T.iG T.HK GS hr.ww (tj T.B1) .nil bE (ao (pv 1) (ao (pv 5) (ao (pv 6) ax))))) (aF aeV)) b5)
    (aF (qO (pv 0) (pv 7) agC)))))))) ?_
  obtain⟨ai,mQ,_,_⟩:=id hK;obtain⟨ps,gx,lA⟩:=id hW;apply dj (fun σ H1=>∃lo,σ=[some (.ref p),some (.ref ia),some (.int (j:Int)),some (.ref ba),some (.ref lo),none,none,none]/\aj H H1/\H1 lo=some (.ak (bC (if i.may=true then[0]else[])))) (fun X hX=>?_) ?_
  ·apply Z10 _ rfl (Z37 ia _ dm _ _ rfl hI T.fU T.qF rfl _ rfl ?_);cases Ap:i.may with
   | true =>apply a0 ⟨eY,fun lo vm=>hX _ _ ⟨lo,rfl,aj.new vm,?_⟩⟩;rw[aC,aE Ap];rfl
   | false =>apply aO ⟨bA _,fun lo vm=>hX _ _ ⟨lo,rfl,aj.new vm,?_⟩⟩;rw[aC,aB (by rw[Ap];decide)];rfl
  ·rintro σ H1 ⟨lo,rfl,s1,vm⟩;have qu:=hR.same s1;obtain⟨Bi,lH⟩:=qu.bu;apply Z15 _ rfl _ rfl (Z67 p _ dx _ _ rfl (s1 _ _ hP) T.iG T.BU rfl ra Bi (Z10 _ rfl (Z69 lH rfl _ rfl ra ia G x l i n av ⟨rfl,fun b hb=>jV b (e8 s1 hb),qu,hO,hK.same s1,hn,⟨dm,s1 _ _ hI⟩,kc,iA,fun H2 la fY fB hL=>?_⟩)));have gO:=s1 _ _ mQ;have A9:=fY _ _ (s1 _ _ hP) (by simp;exact aJ hP mQ nofun);have aiQ:=fY _ _ vm (by simp;exact aJ vm gO nofun);obtain⟨_,M8,fN,Ea⟩:=hL;have ajB:M8.length=l.length+1:=by rw[Paired.length Ea,qB]
   have Od:=cB (l:=M8) (i:=k) ⋯;obtain⟨k',jx,hq,_⟩:=Paired.f9 Ea Od;rw[lL ⋯]at jx;cases jx;generalize M8[k]=q at Od hq;have sN:=Wy.adN x l i k;apply Z16 _ rfl p _ dx _ _ rfl A9 T.iG T.tQ rfl (Z97 la _ _ _ rfl rfl (aA.of fN) (dH (j:=k) (by rw[bR,Od];rfl)) lo q _ _ ⟨rfl,rfl,aiQ,hq,?_,fun z hz=>?_⟩)
   ·rw[<-cq,Tn,pO];exact b3 sN (by decide)
   rw[Tn];have sz:=aj.new (o:=.ak (bC (Wy.aM x l i k))) hz;have AI:(L2.ay H2 z (.ak (bC (Wy.aM x l i k)))) z=some (.ak (bC (Wy.aM x l i k))):=aC;have gd:bG [G.kl] H (L2.ay H2 z (.ak (bC (Wy.aM x l i k)))):=((aj.fQ s1).trans fY).trans (aj.fQ sz);have d6:=fB.same sz;have qv:=sz _ _ A9;generalize (L2.ay H2 z (.ak (bC (Wy.aM x l i k))))=H3 at AI gd d6 qv;have hT3:=hT.keep mQ gd;have n9:=hW.ahl mQ gd;have YH:H3 ia=some (.bc T.bX dm (vh i)):=gd _ _ hI (by simp;exact aJ hI mQ nofun);apply Z12 z rfl ⟨_,aA.of AI⟩ ?_
   let pr:Nat->Nat×Nat:=fun c=>(c,Wy.wide x l r s j k c)
   let os:=Wy.aM x l i k
   have ahw:=Wy.acu x l i j r s k m hm;apply ou (K:=K) (a:=z) (xs:=bC os) (fun t σ H'=>∃m' v5 v6 v7,σ=[some (.ref p),some (.ref ia),some (.int (j:Int)),some (.ref ba),some (.ref lo),v5,v6,v7]/\H' p=some (.bc T.iY dx (AB ra m' k s wl))/\bf p H3 H'/\Po.pick (os.map pr) m=Po.pick ((os.drop t).map pr) m'/\m'<((os.drop t).map (Wy.wide x l r s j k)).sum)
    (Z68 m none none none rfl qv (bf.refl _ _) rfl (fi hm (Wy.adM x l i j r s k))) (fun t σ H' _ h=>?_) ?_ (fun σ H' h=>?_)
   ·obtain⟨m',v5,v6,v7,_,_,kp,_⟩:=h;exact aA.of (kp _ _ AI (aJ AI qv nofun))
   ·rintro t v σ H' hv ⟨m',v5,v6,v7,rfl,iN,oW,mJ,l6⟩;have Nr:t<os.length:=by have:=(fD.mp hv).1;rw[pO]at this;exact this
    have Fb:=nk Nr;have AS:os[t]∈Wy.aM x l i k:=List.getElem_mem Nr;have hv2:v=V.int ((os[t]:Nat):Int):=by unfold bC at hv;rw[bR,cB Nr]at hv;cases hv;rfl
    subst hv2;generalize os[t]=c at Fb AS;obtain⟨hkc,hc8⟩:=Wy.ae2 x l cG AS;rw[Fb]at mJ l6;rw[fj]at mJ l6;rw[List.sum_cons]at l6;have hT':=hT3.ahm qv oW;obtain⟨tp,jO,sF⟩:=id hT';apply ck ?_;generalize i7:(if c=0 then max s j else j)=s';have aiC:s'<=2:=by rw[<-i7];split<;>omega
    apply dj (fun b4 Bs=>b4=[some (.ref p),some (.ref ia),some (.int (j:Int)),some (.ref ba),some (.ref lo),some (.int (c:Int)),some (.int (s':Int)),v7]/\Bs=H') (fun Y hY=>?_) ?_
    ·apply Z105 _ rfl _ _ rfl rfl _ rfl ?_;by_cases mU:c=0
     ·rw[bZ (show¬(0:Int)<(c:Int) by omega)];rw[aE mU]at i7;apply aO (Z33 _ rfl p _ (Z86 dx _ _ rfl iN T.iG T.yu rfl _ rfl _ _ ⟨rfl,hY _ _ ⟨?_,rfl⟩⟩));have:(if(j:Int)>(s:Int)then(j:Int)else(s:Int))=(s':Int):=by rw[<-i7];split<;>omega
      rw[this];rfl
     ·rw[bY (show(0:Int)<(c:Int) by omega)];rw[aB mU]at i7;subst i7;exact a0 (Z10 _ rfl (hY _ _ ⟨rfl,rfl⟩))
    ·rintro b4 Bs ⟨rfl,rfl⟩;obtain⟨pz,Ny,Mp⟩:=zA (H:=Bs) sF (s:=s') aiC;have ewd:(jn x l r s').getD (k+c) 0=Wy.wide x l r s j k c:=by rw[Dj x l r s' hkc];unfold Wy.wide;rw[i7]
     apply cF ?_;apply Z29 _ rfl _ rfl ba _ _ _ ⟨rfl,rfl,aA.of jO,dH (j:=s') Ny,Z33 _ rfl p _ (Z86 dx _ _ rfl iN T.iG T.tQ rfl _ rfl _ _ (Z99 rfl rfl pz _ _ _ rfl rfl (aA.of Mp) (by rw[show(k:Int)+(c:Int)=((k+c:Nat):Int) by omega];exact dH (qU (by rw[zC];omega))) (ck ?_)))⟩
     rw[ewd];apply Z30 _ rfl p _ dx _ _ rfl iN T.iG (Z75 T.yG rfl _ rfl _ _ rfl rfl _ rfl ?_);rw[Po.pick]at mJ;by_cases br:m'<Wy.wide x l r s j k c
     ·rw[bY (show(m':Int)<((Wy.wide x l r s j k c:Nat):Int) by omega)];rw[aE br]at mJ;have hy:Po.pick (Wm.eI x l i j r s k) m=(c,m'):=ahw.trans mJ;rw[hy]at kk;have Yw:=n9.keep qv oW;have YI:Bs ia=some (.bc T.bX dm (vh i)):=oW _ _ YH (aJ YH qv fun q=>by cases mv q);apply a0 (Z74 _ rfl p dx _ rfl iN rfl _ rfl (Z66 _ rfl _ rfl p ia ra wl i m' k s (Z27 c s' ws rfl ⟨dx,iN⟩ ⟨dm,YI⟩ Yw AL (fun H5 sW NW kK=>?_))));obtain⟨qs,aix,_⟩:=id Yw;have oa:dn av Bs G.kl x l (n+1):=d6.Wg (wl:=wl) qv (n9.choose_spec.1) W1 fun b o h hb=>oW _ _ h (by simp at hb;exact hb.1);apply kk H5 (by rw[i7];exact sW) NW (oa.Wg iN aix W1 kK) fun b o h hb=>?_;simp at hb;exact kK _ _ (oW _ _ (gd _ _ h (by simp;exact hb.1)) hb.2.1) (by simp;exact hb.2)
     ·rw[bZ (show¬(m':Int)<((Wy.wide x l r s j k c:Nat):Int) by omega)];rw[aB br]at mJ;apply aO (dS ?_);apply Z34 _ rfl p _ dx _ (Z43 _ rfl iN T.iG T.yG rfl _ rfl _ _ rfl rfl (Z14 dx _ iN (show 5<1000 by decide) ?_));apply Z68 (m'-Wy.wide x l r s j k c) _ _ _ rfl ?_ (oW.trans (bf.ay _ _ _)) mJ ⋯;rw[aC];rw[show(m':Int)-((Wy.wide x l r s j k c:Nat):Int)=((m'-Wy.wide x l r s j k c:Nat):Int) by omega];rfl
   ·obtain⟨m',v5,v6,v7,_,_,_,_,l6⟩:=h;rw[pO,x8]at l6;simp at l6
def ac5 (x:aW)(l:List bP)(i:bI)(j:Nat)(r:List (bI×Nat))(s k n:Nat):Wy.way x l ((i,j)::r) s k n=(if(Po.pick (Wm.eI x l i j r s k) n).1=0 then[]else[(i.kind,k,(Po.pick (Wm.eI x l i j r s k) n).1)])++Wy.way x l r (if(Po.pick (Wm.eI x l i j r s k) n).1=0 then max s j else j) (k+(Po.pick (Wm.eI x l i j r s k) n).1) (Po.pick (Wm.eI x l i j r s k) n).2:=by rw[Wy.way]
def agh {A:List (Str×V)}(h:A.length≠5){ra wl:ae}{m k s:Nat}:A≠AB ra m k s wl:=fun e=>h (by rw[e];rfl)
def aeu (C CI CF:ae):Sp:=fun vs H Q _=>∃(f pa ja c ra:ae)(ps:List ae)(is:List bI)(js:List Nat)(G:lK)(x:aW)(l:List bP)(m n:Nat)(av:ae->Prop),vs=[.ref f,.ref c,.ref ra,.int (m:Int)]/\(∀b,H b=none->av b)/\dA CI CF H f pa ja ps is js/\is.length=js.length+1/\is.length<=900/\(∀i∈is,i.kind<=9/\∀c∈i.word,c∈bV)/\(∀j∈js,j<=2)/\j6 C H ra G x l/\pD x l/\dn av H G.kl x l n/\n+is.length<=100000/\rR H c x l (is.zip (js++[0]))/\m<Wm.Rf x l (is.zip (js++[0])) 0 0 /\
 ∀(H':Hp)(wl:ae),bG [G.kl] H H'->dn av H' G.kl x l (n+is.length)->H wl=none->j2 H' wl (Wy.way x l (is.zip (js++[0])) 0 0 m)->Q (.ref wl) H'
def S7:bD ["form","counts","reading","number","path","place","item","joint"] ["form","counts","reading","number"] (aR Ut):=bL
def acx (T:Tx K mg):bg P w K mg base (bw P w) 8 T.KO T.UY ["form","counts","reading","number"] (aeu T.di T.bX T.cn):=by
 have GI:= @aah P w K mg base T;have GP:= @Ly P w K mg base T;have GS:= @ae5 P w K mg base T;exists T.zG.cj S7
 ·obtain⟨f,pa,ja,c,ra,ps,is,js,G,x,l,m,n,av,rfl,_⟩:=h;rfl
 ·obtain⟨f,pa,ja,c,ra,ps,is,js,G,x,l,m,n,av,rfl,jV,hF,bN,NI,rX,Mv,hR,hO,hK,hn,hC,hm,kk⟩:=h;have nd:=S7.nd;apply Z10 _ (aD (bB (i:=4) nd rfl Olr (zI T.K8 GI hr.ww rfl (T.tm T.LJ) (jz T.Ce) .nil bE (ao (pv 2) (ao (pv 3) ax))))
   (aD (bB (i:=5) nd rfl Olr bQ)
   (aD (jh PassesOwn.never rfl (iS (nB (pv 0) T.ij T.x9 GP hr.ww (dE T.vL) .nil bE)) (jj rfl (dF (b9 (i:=6) nd rfl Olr) (dF (b9 (i:=7) nd rfl Olr) jf)))
    (aD (uf (i:=5) nd rfl Olr bQ DD)
    (aF (dR (cT (pv 4) T.iG T.GQ GS hr (tj T.BO) .nil bE (ao (pv 6) (ao (pv 7) (ao (cZ eU (pv 1) (pv 5) (fun _ _=>rfl)) ax))))))))
   (aF (aY (aX (pv 4) rfl)))))) ?_
  generalize vj:is.zip (js++[0])=r at kk hC hm;have xG:r.length=is.length:=by rw[<-vj,List.length_zip,cq];simp;omega
  obtain⟨ai,cG,_,_⟩:=id hK;apply cF ?_;apply Z15 _ rfl _ rfl (fun a dx ha NN bJ=>?_);have s0:aj H (L2.ay (L2.ay H dx (.bO a)) a (.bc T.iY dx [])):=fun b o h=>by rw[aq (aQ h ha),aq (aQ h NN)];exact h
  apply Z58 a dx ra m rfl aC (fun H1 wl eZ hPt WI oV=>⟨rfl,ck ?_⟩);have s1:aj H H1:=fun b o h=>oV _ _ (s0 _ _ h) (aQ h ha);have Mj:H wl=none:=e8 s0 eZ;apply cF ?_;apply ck ?_;obtain⟨g0,mX⟩:=(hF.same s1).bu
  let m9:ae->Prop:=fun b=>av b/\b≠wl
  apply dj (fun σ H'=>∃v5 v6 v7 m' k' s',σ=[some (.ref f),some (.ref c),some (.ref ra),some (.int (m:Int)),some (.ref a),v5,v6,v7]/\uR T.iY H' a ra m' k' s' wl/\j2 H' wl (Wy.way x l r 0 0 m)/\bG [G.kl] H H'/\dn m9 H' G.kl x l (n+is.length)) (fun X hX=>?_) ?_
  ·apply Z59 _ rfl f g0 _ rfl (Z102 mX rfl f pa ja ps is js rfl (hF.same s1) bN ⋯ (fun H3 zl tz s3 dZ vz=>?_));rw[vj]at vz;obtain⟨lj,hP⟩:=vz;have uX:aj H H3:=s1.trans s3;have sv:tz.length=is.length:=by rw[Paired.length hP,xG]
   have uI:=uX _ _ cG;have Mi:=s3 _ _ WI;have nzw:zl≠wl:=(aQ WI dZ).symm;have xB:zl≠G.kl:=aJ lj uI nofun;obtain⟨sZ,hPa⟩:=hPt;have Ei:=s3 _ _ hPa;have nza:zl≠a:=aJ lj Ei nofun;apply Z12 zl rfl ⟨_,aA.of lj⟩ ?_;apply ou (K:=K) (a:=zl) (xs:=tz.map V.ref) (fun q σ H'=>∃v6 v7 m' k' s' ws,σ=[some (.ref f),some (.ref c),some (.ref ra),some (.int (m:Int)),some (.ref a),some (.int ((q:Nat):Int)),v6,v7]/\uR T.iY H' a ra m' k' s' wl/\j2 H' wl ws/\ws.length<=q/\bG [G.kl] H H'/\bG [G.kl,a,wl] H3 H'/\dn m9 H' G.kl x l (n+q)/\Wy.way x l r 0 0 m=ws++Wy.way x l (r.drop q) s' k' m'/\m'<Wm.Rf x l (r.drop q) s' k'/\k'<=l.length/\s'<=2)
    (Z48 none none m 0 0 [] ⟨rfl,⟨sZ,Ei⟩,⟨[],Mi,.nil⟩,bo _,aj.fQ uX,bG.refl _ _,(hK.W5 Mj).same uX,rfl,hm,bA _,bA _⟩) (fun q σ H' _ h=>?_) ?_ (fun σ H' h=>?_)
   ·obtain⟨v6,v7,m',k',s',ws,_,_,_,_,_,kp,_⟩:=h;exact aA.of (kp _ _ lj (by simp;exact⟨xB,nza,nzw⟩))
   ·rintro q v σ H' hv ⟨v6,v7,m',k',s',ws,rfl,Fp,xS,hwq,kp,gd,vC,uF,E4,NH,XW⟩;rw[bR]at hv;cases ju:tz[q]? with
    | none=>rw[ju]at hv;cases hv
    | some tq =>
     rw[ju]at hv;cases hv;obtain⟨⟨iq,jq⟩,sG,pq,⟨qx,lI⟩,jo⟩:=Paired.f9 hP ju;have hz:=sG;rw[<-vj,List.getElem?_zip_eq_some]at hz;obtain⟨sS,AZ⟩:=hz;have hqr:q<r.length:=(fD.mp sG).1;have sR:jq<=2:=by
      rcases eQ.mp (fC AZ)with h|h
      ·exact Mv _ h
      ·simp at h;omega
     have ok:=rX iq (fC sS);have z6:=gd _ _ jo (by simp;exact⟨aJ jo uI nofun,aJ jo Ei nofun,aJ jo Mi nofun⟩);have ME:=gd _ _ lI (by simp;exact⟨aJ lI uI nofun,aJ lI Ei fun q=>agh (show(vh iq).length≠5 from(by decide:(3:Nat)≠5)) (mv q),aJ lI Mi nofun⟩);have z8:r.drop q=(iq,jq)::r.drop (q+1):=by obtain⟨br,e⟩:=fD.mp sG;rw[nk br,e]
     rw[z8]at E4 uF;obtain⟨cts,bq,Fd,hcb,hTq⟩:=(hC.keep cG kp).at (d:=q+1) ⋯;obtain⟨Of,N0⟩:=id Fp;have Mh:∃ys,H' wl=some (.ak ys):=let ⟨ps,h,_⟩:=xS;⟨_,h⟩;obtain⟨ys,Mh⟩:=Mh;have MA:∀b,H' b=none->m9 b:=fun b hb=>⟨jV b (Tp kp vC b hb),fun e=>by rw[e,Mh]at hb;cases hb⟩;apply Z39 tq _ rfl (cS.of z6) rfl _ _ rfl _ _ rfl rfl ?_;apply dj (fun b4 H2=>b4=[some (.ref f),some (.ref c),some (.ref ra),some (.int (m:Int)),some (.ref a),some (.int ((q+1:Nat):Int)),some (.ref pq),some (.int (jq:Int))]/\H2=H') (fun Y hY=>?_) ?_
     ·exact Z23 _ rfl _ _ rfl rfl (hY _ _ ⟨rfl,rfl⟩)
     ·rintro b4 H2 ⟨rfl,rfl⟩;apply Z21 _ rfl a Of _ rfl N0 rfl (Z56 _ rfl _ rfl _ rfl (Z44 _ rfl c _ _ _ rfl rfl (aA.of Fd) (dH (j:=q+1) hcb) (Z73 a pq bq ra wl iq m' k' s' jq (n+q) G (Z80 x l (r.drop (q+1)) m9 ws rfl Fp ⟨xS,by omega,MA,fun b hb=>hb.2,hR.keep cG kp,hO,vC,by omega,⟨qx,ME⟩,ok.1,ok.2,sR,XW,NH,hTq,E4,fun H5 sW NW gG kK=>?_⟩))));have cX:=Wy.agp x l iq jq (r.drop (q+1)) s' k' m' E4;apply Z48 _ _ _ _ _ _ ⟨rfl,sW,NW,?_,?_,gd.trans kK,by rw[Nat.add_assoc]at gG;exact gG,?_,cX.2,Wm.K6 x l NH,by split<;>omega⟩
      ·rw[cq];split<;>simp<;>omega
      ·exact fun b o h hb=>kK _ _ (kp _ _ h hb) (by simp at hb;simp;exact⟨hb,aQ h ha,aQ h Mj⟩)
      ·rw[uF,ac5,List.append_assoc]
   ·obtain⟨v6,v7,m',k',s',ws,rfl,Fp,xS,hwq,kp,gd,vC,uF,E4,NH,XW⟩:=h;rw[aL,sv]at uF vC;rw[Bv ⋯]at uF;have:Wy.way x l [] s' k' m'=[]:=by rw[Wy.way]
    rw[this,nq]at uF;exact hX _ _ (Z48 _ _ _ m' k' s' ⟨rfl,Fp,by rw[uF];exact xS,kp,vC⟩)
  ·rintro σ H' ⟨v5,v6,v7,m',k',s',rfl,⟨Of,N0⟩,xS,kp,vC⟩;exact Z16 _ rfl a _ Of _ _ rfl N0 T.iG T.yX rfl (kk H' wl kp (vC.DX fun b hb=>hb.1) Mj xS)
def aga (C CI CF CR:ae):Sp:=fun vs H Q _=>∃(ru ra:ae)(n k:Nat)(A:eP)(x:aW)(l:List bP)(G:lK),vs=[.ref A.fa,.ref ra,.int (k:Int)]/\cg CI CF CR H ru n A x/\j6 C H ra G x l/\pD x l/\qg H G.ka l/\(∀av,dn av H G.kl x l 0)/\Ax x /\
 (Wy.gW x l (Po.forms x) k=none->∀(H':Hp),bG [G.kl] H H'->Q .bx H')/\∀f m,Wy.gW x l (Po.forms x) k=some (f,m)->∀(H':Hp)(wl:ae),bG [G.kl] H H'->H wl=none->j2 H' wl (Wy.jH x l f m)->Q (.ref wl) H'
def Rx:bD ["forms","reading","number","form","counts","how_many"] ["forms","reading","number"] (aR Se):=bL
def RH (T:Tx K mg):bg P w K mg base (bw P w) 9 T.JF T.SD ["forms","reading","number"] (aga T.di T.bX T.cn T.cQ):=by
 have GA:= @VQ P w K mg base T;have GB:= @We P w K mg base T;have GW:= @acx P w K mg base T;exists T.tY.cj Rx
 ·obtain⟨ru,ra,n,k,A,x,l,G,rfl,_⟩:=h;rfl
 ·obtain⟨ru,ra,n,k,A',x,l,G,rfl,R,hR,hO,kR,hK,hF,kn,ks⟩:=h;have nd:=Rx.nd;apply Z10 _ (aD (jh PassesOwn.never rfl (iS (pv 0)) (b9 (i:=3) nd rfl Olr)
    (aD (bB (i:=4) nd rfl Olr (cy GB hr rfl (T.tm T.Cd) T.tX.kp (cp T.tX) .nil bE (ao (pv 3) (ao (pv 1) ax))))
    (aD (bB (i:=5) nd rfl Olr (cy GA hr.ww rfl (T.tm T.Ct) T.tZ.kp (dE T.tZ) .nil bE (ao (pv 4) ax)))
    (aD (bU (cI p7 (pv 2) (pv 5) (bS _)) (aF (aY (cy GW hr rfl (T.tm T.KQ) T.zG.kp (tj T.zG) .nil bE (ao (pv 3) (ao (pv 4) (ao (pv 1) (ao (pv 2) ax))))))) b5)
    (aF (uf (i:=2) nd rfl Olr (pv 5) agB))))))
   (aF (aY rk))) ?_
  obtain⟨ai,cG,_,_⟩:=hK fun _=>True;have iM:A'.fs.length=(Po.forms x).length:=Paired.length R.fs;have hfe:=hF.i9;apply dj (fun σ H'=>bG [G.kl] H H'/\Wy.gW x l (Po.forms x) k=none) (fun X hX=>?_) ?_
  ·apply Z24 _ rfl A'.fa rfl ⟨_,aA.of R.fo⟩ ?_;apply ou (K:=K) (a:=A'.fa) (xs:=A'.fs.map fun g=>V.ref g.f) (fun i σ H'=>∃k' v3 v4 v5,σ=[some (.ref A'.fa),some (.ref ra),some (.int ((k':Nat):Int)),v3,v4,v5]/\bG [G.kl] H H'/\dn (fun _=>True) H' G.kl x l (16*i)/\Wy.gW x l (Po.forms x) k=Wy.gW x l ((Po.forms x).drop i) k')
    (Z32 k none none none rfl (bG.refl _ _) (hK _) rfl) (fun i σ H' _ h=>?_) ?_ (fun σ H' h=>?_)
   ·obtain⟨k',v3,v4,v5,_,kp,_⟩:=h;exact aA.of (R.wK cG kp).fo
   ·rintro i v σ H' hv ⟨k',v3,v4,v5,rfl,kp,YE,n4⟩;rw[bR]at hv;cases sT:A'.fs[i]? with
    | none=>rw[sT]at hv;cases hv
    | some g =>
     rw[sT]at hv;cases hv;have R3:=R.wK cG kp;obtain⟨f,mR,N2⟩:=Paired.f9 R3.fs sT;have fm:=fC mR;have aiU:=hF.eO f fm;have jR:i<(Po.forms x).length:=(fD.mp mR).1;have z8:(Po.forms x).drop i=f::(Po.forms x).drop (i+1):=by obtain⟨br,e⟩:=fD.mp mR;rw[nk br,e]
     have ec:=T4 x l f (hF.cw f fm);rw[z8,Wy.gW]at n4;obtain⟨xb,Eb,_⟩:=id YE;apply ck ?_;apply cF ?_;apply Z15 _ rfl _ rfl (Z73 g.f g.pa g.ja ra g.ps f.items (f.more.map (·.1)) G x l (16*i) (fun _=>True) ⟨rfl,fun _ _=>trivial,N2,Cy f,by omega,hF.ok f fm,hF.Mc fm,hR.keep cG kp,hO,kR.keep cG kp,YE,by omega,fun H5 c kK gG Fe Fw=>ck ?_⟩);apply cF ?_;apply Z70 _ rfl c x l _ rfl Fw (ck ?_);have AH:=kp.trans kK;have R5:=R.wK cG AH;obtain⟨f',WX,aje⟩:=Paired.f9 R5.fs sT;rw[mR]at WX;cases WX;apply Z83 _ rfl _ rfl _ _ rfl rfl _ rfl ?_;have FA:Wm.Rf x l (f.items.zip (f.more.map (fun p:Nat×bI=>p.1)++[0])) 0 0=Po.countBy x l f:=ec.symm;by_cases br:k'<Po.countBy x l f
     ·rw[aE br]at n4;rw[bY (show(k':Int)<((Wm.Rf x l (f.items.zip (f.more.map (fun p:Nat×bI=>p.1)++[0])) 0 0:Nat):Int) by rw[FA];omega)];apply a0 (Z101 _ rfl _ rfl _ rfl _ rfl g.f g.pa (Z73 g.ja c ra g.ps f.items (f.more.map (·.1)) G x l k' (16*i+f.items.length) (fun _=>True) ⟨rfl,fun _ _=>trivial,aje,Cy f,by omega,hF.ok f fm,hF.Mc fm,hR.keep cG AH,hO,gG,by omega,Fw,by rw[FA];exact br,fun H7 wl EJ _ eZ hW=>?_⟩));apply ks f k' n4 H7 wl (AH.trans EJ) ?_ hW;cases e:H wl with
      | none=>rfl
      | some o =>
       by_cases q:wl=G.kl
       ·obtain⟨kv,h5,_⟩:=gG;rw[q,h5]at eZ;cases eZ
       ·rw[AH _ _ e (by simp;exact q)]at eZ;cases eZ
     ·rw[aB br]at n4;rw[bZ (show¬(k':Int)<((Wm.Rf x l (f.items.zip (f.more.map (fun p:Nat×bI=>p.1)++[0])) 0 0:Nat):Int) by rw[FA];omega)];apply aO (dS ?_);apply Z52 _ rfl _ rfl _ _ rfl rfl (Z32 (k'-Po.countBy x l f) (some (.ref g.f)) (some (.ref c)) (some (.int ((Po.countBy x l f:Nat):Int))) ?_ AH (gG.more ⋯) n4);rw[FA];show[some (V.ref A'.fa),some (V.ref ra),some (V.int ((k':Int)-((Po.countBy x l f:Nat):Int))),some (V.ref g.f),some (V.ref c),some (V.int ((Po.countBy x l f:Nat):Int))]=_;rw[show(k':Int)-((Po.countBy x l f:Nat):Int)=((k'-Po.countBy x l f:Nat):Int) by omega]
   ·obtain⟨k',v3,v4,v5,rfl,kp,_,n4⟩:=h;rw[aL,iM,x8]at n4;exact hX _ _ ⟨kp,n4⟩
  ·rintro σ H' ⟨kp,hf⟩;exact kn hf H' kp
section
variable {CI CF CR C:ae}{H H':Hp}{a r:ae}{n:Nat}{A:eP}{x:aW}
def cg.aek {s:ajG}(R:cg CI CF CR H a n A x):cg CI CF CR (ay H A.sa (.ak (aV (Po.shapes x)++[V.str (tx s)]))) a n A (x++[.shape s]):=by
 obtain⟨dx,ha⟩:=R.bu;obtain⟨k1,r1,r2⟩:=R.ra;obtain⟨k2,d1,d2⟩:=R.da;have es:Po.shorts (x++[.shape s])=Po.shorts x:=by rw[Rm.vW];simp
 have ed:Po.drops (x++[.shape s])=Po.drops x:=by rw[Rm.wg];simp
 have ef:Po.forms (x++[.shape s])=Po.forms x:=by rw[Rm.zc];simp
 have eh:Po.shapes (x++[.shape s])=Po.shapes x++[s]:=by rw[Rm.yW]
 apply⟨⟨dx,by rw[es,ed,aq (aJ ha R.sh nofun)];exact ha⟩,by rw[aC,eh];simp[aV],⟨k1,by rw[aq (aJ r1 R.sh nofun)];exact r1,by rw[es];exact r2⟩,⟨k2,by rw[aq (aJ d1 R.sh nofun)];exact d1,by rw[ed];exact d2⟩,by rw[aq R.sf.symm];exact R.fo,?_,R.sf,R.rd,R.ap⟩;rw[ef];exact R.zm (bG.ay (by simp))
def cg.afN {g:Y4}{f:Po.Form}(R:cg CI CF CR H a n A x)(F:dA CI CF H g.f g.pa g.ja g.ps f.items (f.more.map (·.1)))(hp:g.pa≠A.sa/\g.pa≠A.fa/\g.ja≠A.sa/\g.ja≠A.fa):cg CI CF CR (ay H A.fa (.ak ((A.fs.map fun g=>V.ref g.f)++[V.ref g.f]))) a n {A with fs:=A.fs++[g]} (x++[.form f]):=by
 obtain⟨dx,ha⟩:=R.bu;obtain⟨k1,r1,r2⟩:=R.ra;obtain⟨k2,d1,d2⟩:=R.da;have es:Po.shorts (x++[.form f])=Po.shorts x:=by rw[Rm.vW];simp
 have ed:Po.drops (x++[.form f])=Po.drops x:=by rw[Rm.wg];simp
 have ef:Po.forms (x++[.form f])=Po.forms x++[f]:=by rw[Rm.zc]
 have eh:Po.shapes (x++[.form f])=Po.shapes x:=by rw[Rm.yW];simp
 have R2:=R.zm (H':=ay H A.fa (.ak ((A.fs.map fun g=>V.ref g.f)++[V.ref g.f]))) (bG.ay (by simp));apply⟨⟨dx,by rw[es,ed,aq (aJ ha R.fo nofun)];exact ha⟩,by rw[aq R.sf,eh];exact R.sh,⟨k1,by rw[aq (aJ r1 R.fo nofun)];exact r1,by rw[es];exact r2⟩,⟨k2,by rw[aq (aJ d1 R.fo nofun)];exact d1,by rw[ed];exact d2⟩,by rw[aC,cV];rfl,?_,R.sf,R.rd,fun g' hg=>?_⟩
 ·rw[ef];apply Paired.snoc R2 (F.fS (fun b C dy fs h _=>by rw[aq (aJ h R.fo nofun)];exact h) ?_ ?_)
  ·rw[aq hp.2.1]
  ·rw[aq hp.2.2.2]
 ·rcases eQ.mp hg with q|q
  ·exact R.ap g' q
  ·simp at q;rw[q];exact hp
def cg.adz (R:cg CI CF CR H a n A x):ow H a CR (decide (0<Rm.fX x)):=by obtain⟨dx,ha⟩:=R.bu;apply Z32 dx _ A.sa _ ha rfl R.sh ?_;unfold Rm.fX aV;cases Po.shapes x<;>simp
end
def Few (x:aW):Prop:=(Po.shorts x).length<=20000/\(Po.drops x).length<=20000
def af5 (C gT CI CF CR:ae):Sp:=fun vs H Q E=>∃(r a:ae)(b:ajG)(p:Nat)(A:eP)(x:aW),vs=[.ref r,.ref a]/\cu C H r b p/\cg CI CF CR H a x.length A x/\Few x/\Rm.iI x<=1000/\Rm.fX x<=1000 /\
 qf (Ln.oC x.length (Rm.fX x) (Rm.iI x) (b.drop p) p) b (fun l q=>∀(H':Hp)(A':eP),cu C H' r b q->cg CI CF CR H' a x.length A' (x++[l])->A'.all a=A.all a->bG (r::A.all a) H H'->Q .bx H') (gV gT E (bG (r::A.all a) H))
def QU:bD ["reader","rules","head"] ["reader","rules"] (aR Ry):=bL
def aae (T:Tx K mg):bg P w K mg base (bw P w) 8 T.IX T.RR ["reader","rules"] (af5 T.cH T.d4 T.bX T.cn T.cQ):=by
 have GH:= @Zg P w K mg base T;have GC:= @FP P w K mg base T;have GR:= @OV P w K mg base T;have GW:= @QG P w K mg base T;have GS:= @Zc P w K mg base T;have GD:= @Zj P w K mg base T;have GF:= @aag P w K mg base T;have GE:= @BL P w K mg base T;exists T.y6.iy QU
 ·obtain⟨r,a,b,p,A',x,rfl,_⟩:=h;rfl
 ·obtain⟨r,a,b,p,A',x,rfl,dC,R,Ee,hcf,mT,k1,k2⟩:=h;obtain⟨u2,m2,r2⟩:=(T.tg T.B3);obtain⟨u3,m3,r3⟩:=(T.tg T.B9);obtain⟨u4,m4,r4⟩:=(T.tg T.B4);obtain⟨u6,m6,r6⟩:=(T.tg T.F7);obtain⟨uW,mW,rW⟩:=(T.tg T.FV);rw[SV]at r2;rw[Um]at r3;rw[SW]at r4;have nd:=QU.nd;apply Z10 _ (aD (bB (i:=2) nd rfl Olr (cT (pv 0) T.cE T.yc GC hr.ww (cp T.vN) .nil cY.dO (ao (cy GH hr.ww rfl (T.tm T.Hl) T.yy.kp (dE T.yy) .nil bE (ao (pv 1) ax)) ax)))
   (aD (bU (cI dW (pv 2) (bh rfl m4 r4) (bS _))
     (aF (dR (gp gU iQ iP hU (aX (pv 1) rfl) (ao (cT (pv 0) T.cE T.BE GR hr.ww (jz T.yp) .nil cY.dO (ao (ie ac7) (ao (bh rfl m6 r6) ax))) ax))))
     (aF (bU (cI dW (pv 2) (bh rfl m2 r2) (bS _))
      (aF (dR (cT (pv 1) T.dG T.Gd GS hr.ww (cp T.BH) .nil bE (ao (cT (pv 0) T.cE T.yf GW hr.ww (jz T.vO) .nil cY.dO (ao bQ (ao (bh rfl mW rW) ax))) ax))))
      (aF (bU (cI dW (pv 2) (bh rfl m3 r3) (bS _))
       (aF (dR (cT (pv 1) T.dG T.GK GD hr.ww (cp T.BN) .nil bE (ao (cT (pv 0) T.cE T.yf GW hr.ww (jz T.vO) .nil cY.dO (ao bQ (ao (bh rfl mW rW) ax))) ax))))
       (aF (dR (gp gU iQ iP hU (aX (pv 1) rfl) (ao (cy GF hr rfl (T.tm T.Jk) T.y8.kp (cp T.y8) .nil cY.dO (ao (pv 0) (ao (pv 1) ax))) ax)))))))))
   (aF (dR (cT (pv 0) T.cE T.pI GE hr.ww (cp T.oj) .nil cY.dO (ao (ie Dc) ax)))))) ?_
  obtain⟨dx,hR⟩:=dC.1;apply cF ?_;apply Z21 _ rfl r dx _ rfl hR rfl (Z70 _ rfl a x.length A' x rfl R (fun H1 hl s1 Yg gY=>?_));have jr:=dC.same s1;have R1:=R.same s1;have rK:Pm.iK (kz x.length x):=by
   unfold kz;split
   ·exact⟨fun o h=>by simp at h,fun o h=>by simp at h⟩
   ·exact Pm.Cp _ _
  have fm:∀o∈kz x.length x,(∀c∈o,c∈bV)/\o.length<=100:=fun o ho=>by
   unfold kz at ho;split at ho
   ·simp at ho
   ·rcases Ln.Cz ho with rfl|rfl|rfl|rfl<;>exact⟨by decide,by decide⟩
  have Yg:(kz x.length x).length<=100:=by
   unfold kz Pm.jl;split
   ·simp
   ·simp only[cq,dQ,List.length_nil];split<;>split<;>simp
  have mr:r∈r::A'.all a:=List.mem_cons_self;have ma:a∈r::A'.all a:=by simp
  have ms:A'.sa∈r::A'.all a:=by simp
  have mra:A'.ra∈r::A'.all a:=by simp
  have mda:A'.da∈r::A'.all a:=by simp
  have mf:A'.fa∈r::A'.all a:=by simp
  have XF:bG (r::A'.all a) H H1:=aj.fQ s1;apply Z100 r hl b p (kz x.length x) rfl (aA.of gY) rK fm Yg jr (fun o q e hq ho H2 fb fB=>ck ?_) (fun k e=>?_)
  ·have hn:x.length≠512:=fun q=>by unfold kz at ho;rw[aE q]at ho;simp at ho
   unfold kz at e ho;rw[aB hn]at e ho;have E6:Ln.oC x.length (Rm.fX x) (Rm.iI x) (b.drop p) p=Pm.jY (Rm.fX x) (Rm.iI x) (b.drop p) p:=by unfold Ln.oC;rw[aB hn]
   have R2:=R1.keep jr fB;have sj:=XF.trans (fB.fQ mr);obtain⟨kX,iD⟩:=fb.1;obtain⟨sZ,Fh⟩:=R2.bu;apply dj (fun σ H3=>∃(l:Po.RLine)(z:Nat)(A2:eP),σ=[some (.ref r),some (.ref a),some (.str (tx o))]/\cu T.cH H3 r b z/\cg T.bX T.cn T.cQ H3 a x.length A2 (x++[l])/\A2.all a=A'.all a/\bG (r::A'.all a) H H3/\Ln.oC x.length (Rm.fX x) (Rm.iI x) (b.drop p) p=Pm.gb (Pm.cW 10 (b.drop z) z) fun _ d y=>.ok (l,d,y)) (fun X hX=>?_) ?_
   ·apply Z11 _ rfl rfl _ rfl ?_;rcases Ln.Cz ho with rfl|rfl|rfl|rfl
    ·
     rw[bY rfl];have fG:=E6.trans (Ln.Jw e);rw[<-Ln.aco]at fG;apply a0 (Z31 _ rfl a _ sZ _ _ ⟨rfl,Fh,T.dG,T.pJ,rfl,.inl ⟨rfl,_,aA.of R2.sh⟩,Z88 _ rfl r kX _ rfl iD rfl r (Z68 b [57,97] q 12 rfl (by decide) fb (fun v z e2 hz H3 eL d6=>?_) (fun k e2=>?_))⟩)
     ·have R3:=R2.keep fb d6;obtain⟨me,gR⟩:=eL.1;rw[e2,Pm.bj]at fG;apply Z13 A'.sa _ _ rfl rfl R3.sh ?_ (hX _ _ (Z27 (.shape v) z A' rfl (eL.wW (aJ gR R3.sh nofun)) R3.aek rfl ((sj.trans (d6.fQ mr)).iZ (.inl ms)) fG));have:(aV (Po.shapes x)).length=Rm.fX x:=by simp[aV,Rm.fX]
      rw[this];exact jd mT (by decide)
     ·exact(k2 k (by rw[fG,e2];rfl)).fZ fun H3 h3=>sj.trans (h3.fQ mr)
    ·
     rw[show decide (V.str (tx Pm.kZ)=V.str (tx Pm.lN))=false by decide+kernel];apply aO (Z11 _ rfl rfl _ rfl ?_);rw[bY rfl];have fG:=E6.trans (Ln.Jv e);apply a0 (Z21 _ rfl a sZ _ rfl Fh rfl (Z63 _ rfl r kX _ rfl iD (Z81 rfl r b q 2 32 rfl (by decide) (by decide) (by decide) fb (fun ws z e2 hz H3 l eL d6 NF bT=>?_) (fun k e2=>?_))))
     ·have R3:=R2.keep fb d6;obtain⟨w1,w2,w3⟩:=Ln.nA (by decide) (by decide) e2;rw[e2,Pm.bj]at fG;cases ws with
      | nil=>exact absurd rfl w3
      | cons v ws =>obtain⟨me,gR⟩:=eL.1;apply Z54 a l x.length A' x v ws ⟨rfl,R3,bT,fun u hu=>(Rm.k6 (w1 u hu)).1,by simp at w2;omega,Ee.1,fun H4 R4 AG=>hX _ _ (Z27 (.short v ws) z A' rfl ?_ R4 rfl ((sj.trans (d6.fQ mr)).trans (AG.gv (by intro c hc;simp at hc;rcases hc with q|q<;>simp[q]))) fG)⟩;obtain⟨Bk,vt⟩:=R3.bu;obtain⟨k3,MX,_⟩:=R3.ra;exact⟨⟨me,AG _ _ gR (by simp;exact⟨aJ gR vt fun q=>Dx (mv q).symm,aJ gR MX nofun⟩)⟩,eL.2⟩
     ·exact(k2 k (by rw[fG,e2];rfl)).fZ fun H3 h3=>sj.trans (h3.fQ mr)
    ·
     rw[show decide (V.str (tx Pm.k4)=V.str (tx Pm.lN))=false by decide+kernel];apply aO (Z11 _ rfl rfl _ rfl ?_);rw[show decide (V.str (tx Pm.k4)=V.str (tx Pm.kZ))=false by decide+kernel];apply aO (Z11 _ rfl rfl _ rfl ?_);rw[bY rfl];have fG:=E6.trans (Ln.JX e);apply a0 (Z21 _ rfl a sZ _ rfl Fh rfl (Z63 _ rfl r kX _ rfl iD (Z81 rfl r b q 1 32 rfl (by decide) (by decide) (by decide) fb (fun ws z e2 hz H3 l eL d6 NF bT=>?_) (fun k e2=>?_))))
     ·have R3:=R2.keep fb d6;obtain⟨w1,w2,w3⟩:=Ln.nA (by decide) (by decide) e2;rw[e2,Pm.bj]at fG;obtain⟨me,gR⟩:=eL.1;apply Z82 a l x.length A' x ws rfl R3 bT (fun u hu=>(Rm.k6 (w1 u hu)).1) w2 Ee.2 (fun H4 R4 AG=>hX _ _ (Z27 (.drop ws) z A' rfl ?_ R4 rfl ((sj.trans (d6.fQ mr)).trans (AG.gv (by intro c hc;simp at hc;rcases hc with q|q<;>simp[q]))) fG));obtain⟨Bk,vt⟩:=R3.bu;obtain⟨k3,MX,_⟩:=R3.da;exact⟨⟨me,AG _ _ gR (by simp;exact⟨aJ gR vt fun q=>Dx (mv q).symm,aJ gR MX nofun⟩)⟩,eL.2⟩
     ·exact(k2 k (by rw[fG,e2];rfl)).fZ fun H3 h3=>sj.trans (h3.fQ mr)
    ·
     rw[show decide (V.str (tx Pm.nE)=V.str (tx Pm.lN))=false by decide+kernel];apply aO (Z11 _ rfl rfl _ rfl ?_);rw[show decide (V.str (tx Pm.nE)=V.str (tx Pm.kZ))=false by decide+kernel];apply aO (Z11 _ rfl rfl _ rfl ?_);rw[show decide (V.str (tx Pm.nE)=V.str (tx Pm.k4))=false by decide+kernel];have fG:=E6.trans (Ln.JW e);apply aO (Z17 _ rfl a (Z36 _ sZ _ _ rfl Fh T.dG T.nt rfl (.inl ⟨rfl,_,aA.of R2.fo⟩) _ rfl (Z55 _ rfl r a (decide (0<Rm.fX x)) b q rfl fb R2.adz (fun js z e2 hz H3 f pa ja ps eL d6 nf ve Xt j9 fA hF=>?_) (fun k e2=>?_))))
     ·have R3:=R2.keep fb d6;obtain⟨me,gR⟩:=eL.1;have bJ:=Ln.aft e2;rw[e2,Pm.bj]at fG;have nn:∀y,H2 y=none->y≠A'.sa/\y≠A'.fa:=fun y hy=>⟨(aQ R2.sh hy).symm,(aQ R2.fo hy).symm⟩;have md:dA T.bX T.cn H3 f pa ja ps (Ln.pX js).items ((Ln.pX js).more.map (·.1)):=by rw[Ln.aan bJ];exact hF
      have R4:=R3.afN (g:=⟨f,pa,ja,ps⟩) (f:=Ln.pX js) md ⟨(nn pa ve).1,(nn pa ve).2,(nn ja Xt).1,(nn ja Xt).2⟩;apply Z13 A'.fa _ _ rfl rfl R3.fo ?_ (hX _ _ (Z27 (.form (Ln.pX js)) z _ rfl (eL.wW (aJ gR R3.fo nofun)) R4 rfl ((sj.trans (d6.fQ mr)).iZ (.inl mf)) fG));have:(A'.fs.map fun g=>V.ref g.f).length=Rm.iI x:=by rw[aL,Paired.length R.fs];rfl
      rw[this];exact jd hcf (by decide)
     ·exact(k2 k (by rw[fG,e2];rfl)).fZ fun H3 h3=>sj.trans (h3.fQ mr)
   ·rintro σ H3 ⟨l,z,A2,rfl,eL,R3,hA,XD,fG⟩;obtain⟨me,gR⟩:=eL.1;apply Z38 _ rfl r me _ rfl gR rfl r b 10 z ⟨rfl,by decide,eL,fun _ y e2 hy H4 jJ iO=>?_,fun k e2=>?_⟩
    ·exact k1 l y (by rw[fG,e2];rfl) hy H4 A2 jJ (R3.keep eL iO) hA (XD.trans (iO.fQ mr))
    ·exact(k2 k (by rw[fG,e2];rfl)).fZ fun H4 h4=>XD.trans (h4.fQ mr)
  ·refine(k2 k ?_).fZ fun H2 h2=>XF.trans (h2.fQ mr);unfold Ln.oC;unfold kz at e;split
   ·rename_i hn
    rw[aE hn,Ln.JI]at e;injection e with e;rw[e]
   ·rename_i hn
    rw[aB hn]at e;exact Ln.KA e
section
variable {CI CF CR C:ae}{H H':Hp}{a r:ae}{n:Nat}{A:eP}{x:aW}
def cg.next {dx:ae}(R:cg CI CF CR H a n A x):cg CI CF CR (ay H a (.bc CR dx (u9 (n+1) (Po.shorts x).length (Po.drops x).length A))) a (n+1) A x:=by obtain⟨da,ha⟩:=R.bu;obtain⟨k1,r1,r2⟩:=R.ra;obtain⟨k2,d1,d2⟩:=R.da;exact⟨⟨dx,aC⟩,by rw[aq (aJ R.sh ha nofun)];exact R.sh,⟨k1,by rw[aq (aJ r1 ha nofun)];exact r1,r2⟩,⟨k2,by rw[aq (aJ d1 ha nofun)];exact d1,d2⟩,by rw[aq (aJ R.fo ha nofun)];exact R.fo,R.zm (bG.ay (by simp)),R.sf,R.rd,R.ap⟩
def bG.new {S:List ae}{H0 H1 H2:Hp}(k:bG S H1 H2)(s:aj H0 H1)(h:∀y∈S,H0 y=none):aj H0 H2:=fun b o e=>k b o (s b o e) fun q=>by rw[h b q]at e;cases e
end
def aev (gT CI CF CR:ae):Sp:=fun vs H Q E=>∃b:ajG,vs=[.str (tx b)]/\b.length<=1000000/\(∀x,Po.readRules b= .ok x->∀(H':Hp)(a:ae)(A:eP),aj H H'->cg CI CF CR H' a x.length A x->Q (.ref a) H')/\∀k,Po.readRules b= .error k->gV gT E (aj H) k
def Qt:bD ["text","reader","rules"] ["text"] (aR QX):=bL
def ZP (T:Tx K mg):bg P w K mg base (bw P w) 9 T.Io T.Q9 ["text"] (aev T.d4 T.bX T.cn T.cQ):=by
 have GI:= @Ql P w K mg base T;have GR:= @ZX P w K mg base T;have GF:= @F6 P w K mg base T;have GL:= @aae P w K mg base T;exists T.yO.iy Qt
 ·obtain⟨b,rfl,_⟩:=h;rfl
 ·obtain⟨b,rfl,hb,k1,k2⟩:=h;have nd:=Qt.nd;apply Z10 _ (aD (bB (i:=1) nd rfl Olr (zI T.Cw GI hr.ww rfl (T.tm T.C8) (cp T.yM) .nil bE (ao (pv 0) ax)))
   (aD (bB (i:=2) nd rfl Olr (Ku T.Kz GR hr.ww rfl (T.tm T.Ll) (dE T.B6) .nil bE))
   (aD (qR pU (PW.pt (LQ (cI dW (aX (pv 2) rfl) bQ (bS _)) (Lu (lV (gm (nB (pv 1) T.cE T.yl GF hr.ww (dE T.vQ) .nil bE))))))
    (aD (dR (cy GL hr rfl (T.tm T.Jj) T.y6.kp (cp T.y6) .nil cY.dO (ao (pv 1) (ao (pv 2) ax)))) (aF (qO (pv 2) bQ uh))))
   (aF (aY (pv 2)))))) ?_
  apply cF ?_;apply Z10 _ rfl (fun r dr nr M4 bJ=>Z20 r dr b rfl aC hb (fun H1 jr iE=>⟨rfl,ck ?_⟩));have s1:aj H H1:=aj.rT nr M4 iE;apply cF ?_;intro a da na vg ajA;apply Z14 a da rfl aC (fun H2 A0 R2 hA0 uH fB=>⟨rfl,ck ?_⟩);have s2:aj H1 H2:=aj.rT na vg fB;have Xx:H a=none:=s1.free na;have ahy:∀y∈r::A0.all a,H y=none:=fun y hy=>by
   rcases dv.mp hy with rfl|hy
   ·exact nr
   ·rcases dv.mp hy with rfl|hy
    ·exact Xx
    ·have:=uH y hy;exact s1.free (cC (cC this).2).2
  let W:Nat->L2.St->Hp->Prop:=fun m σ H'=>∃(x:aW)(z:Nat)(A1:eP),m=513-x.length/\σ=[some (.str (tx b)),some (.ref r),some (.ref a)]/\cu T.cH H' r b z/\cg T.bX T.cn T.cQ H' a x.length A1 x/\aj H H'/\(∀y∈r::A1.all a,H y=none)/\Rm.fc b x z/\Bn.tF x/\(x≠[]->b≠[])
  let G:Nat->L2.St->Hp->Prop:=fun m σ H'=>∃(x:aW)(z:Nat)(A1:eP),m=513-x.length/\σ=[some (.str (tx b)),some (.ref r),some (.ref a)]/\cu T.cH H' r b z/\cg T.bX T.cn T.cQ H' a x.length A1 x/\aj H H'/\(∀y∈r::A1.all a,H y=none)/\Rm.fc b x z/\Bn.tF x/\(x=[]\/z<b.length)
  let Ex:L2.St->Hp->Prop:=fun σ H'=>∃(x:aW)(A1:eP),σ=[some (.str (tx b)),some (.ref r),some (.ref a)]/\cg T.bX T.cn T.cQ H' a x.length A1 x/\aj H H'/\Po.readRules b= .ok x
  apply v9 W G Ex _ (Z19 [] 0 A0 rfl rfl ⟨jr.same s2,R2,s1.trans s2,ahy,Rm.fc.start b,Bn.tF.nil,fun q=>absurd rfl q⟩) (fun X Y m σ H'=>?_) (fun m σ H'=>?_) (fun σ H'=>?_)
  ·rintro⟨x,z,A1,rfl,rfl,dI,R',sm,hn,hw,hc,hbx⟩ hX hY;obtain⟨Oh,gg⟩:=dI.1;obtain⟨da',ha'⟩:=R'.bu;apply Z17 _ rfl a (Z36 _ da' _ _ rfl ha' T.dG T.tI rfl rfl _ rfl ?_);by_cases h0:x.length=0
   ·rw[bY (show V.int (x.length:Int)=V.int 0 by rw[h0];rfl)];exact a0 (a0 (hY _ _ (Z19 x z A1 rfl rfl ⟨dI,R',sm,hn,hw,hc,.inl (List.length_eq_zero_iff.mp h0)⟩)))
   ·rw[bZ (show¬V.int (x.length:Int)=V.int 0 by intro q;injection q with q;omega)];apply aO (Z21 _ rfl r Oh _ rfl gg rfl (Z104 r b z rfl dI _ rfl ?_));have aiu:x≠[]:=fun q=>h0 (by rw[q];rfl);by_cases hz:z=b.length
    ·rw[bY hz];exact aO (hX _ _ ⟨x,A1,rfl,R',sm,hw.ek hz (hbx aiu)⟩)
    ·rw[bZ hz];exact a0 (hY _ _ (Z19 x z A1 rfl rfl ⟨dI,R',sm,hn,hw,hc,.inr (by have:=dI.2.1;omega)⟩))
  ·rintro⟨x,z,A1,rfl,rfl,dI,R',sm,hn,hw,hc,gZ⟩;have gz:=hw.le;have h1:=hc.sh;have h2:=hc.dr;have h3:=hc.sp;have h4:=hc.fo;apply Z64 _ rfl _ rfl r (Z100 a b z A1 x rfl dI R' ⟨by omega,by omega⟩ ⋯ ⋯ (fun l q e hq H3 A2 eL R3 hA ks=>?_) (fun k e=>?_))
   ·have br:x.length<512:=by
     rcases Nat.lt_or_ge x.length 512 with q|q
     ·exact q
     ·have:x.length=512:=by omega
      unfold Ln.oC at e;rw[aE this]at e;cases e
    have e':=e;unfold Ln.oC at e';rw[aB ⋯]at e';have l6:=Bn.abE e';rw[Ln.UK br]at e;have NV:b≠[]:=fun q=>by rw[q,List.drop_nil,Rm.Jp]at e;cases e
    have ly:=ks.new sm hn;obtain⟨Bk,vt⟩:=R3.bu;obtain⟨dr3,gR⟩:=eL.1;apply Z31 _ rfl a _ Bk _ _ ⟨rfl,Z89 vt T.dG T.tI rfl _ _ rfl rfl Bk _ vt (show 7<1000 by decide) ?_⟩;have se:r≠a:=aJ gR vt fun q=>Dx (mv q).symm;have el:(x++[l]).length=x.length+1:=by simp
    apply Z98 (513-(x++[l]).length) ⋯ (x++[l]) q A2 ⟨rfl,rfl,eL.wW se,?_,?_,by rw[hA];exact hn,hw.step br gZ e hq,hc.snoc l6,fun _=>NV⟩
    ·rw[el];exact R3.next (dx:=Bk)
    ·exact fun c o ec=>by rw[aq (aQ ec Xx)];exact ly c o ec
   ·refine(k2 k ?_).fZ fun H3 h3=>h3.new sm hn;by_cases oP:x.length=512
    ·unfold Ln.oC at e;rw[aE oP]at e;injection e with e;rw[<-e];apply hw.ajk oP ?_;rcases gZ with q|q
     ·rw[q]at oP;simp at oP
     ·exact q
    ·rw[Ln.UK ⋯]at e;exact hw.tD ⋯ gZ e
  ·rintro⟨x,A1,rfl,R',sm,e⟩;exact⟨_,rfl,k1 x e H' a A1 sm R'⟩
structure kJ (x:aW):Prop where
 ok:∀l∈x,Ok.qA l
 eO:x.length<=512
theorem Tg:∀{n s f:Nat}{b:ajG}{p:Nat}{x:aW},Po.rulesFrom n s f b p= .ok x->x.length<=n
 | n,s,f,[],p,x,h=>by
  have:Po.rulesFrom n s f [] p= .ok []:=by cases n<;>rfl
  rw[this]at h;cases h;exact bA _
 | 0,s,f,c::b,p,x,h=>by simp[Po.rulesFrom]at h
 | n+1,s,f,c::b,p,x,h=>by
  rw[Po.rulesFrom]at h
  ·cases e:Po.ruleIn s f (c::b) p with
   | error k=>rw[e]at h;cases h
   | ok y =>
    obtain⟨l,r,q⟩:=y;rw[e]at h;simp only at h;cases e2:Po.rulesFrom n (if Po.isShape l=true then s+1 else s) (if Po.isForm l=true then f+1 else f) r q with
    | error k=>rw[e2]at h;cases h
    | ok z =>rw[e2]at h;cases h;have:=Tg e2;simpa using this
  ·simp
def kJ.of {b:ajG}{x:aW}(h:Po.readRules b= .ok x):kJ x:=by
 apply⟨Ok.aeQ h,?_⟩;unfold Po.readRules at h;split at h
 ·cases h
 ·exact Tg h
def KD {i:bI}(h:i.ok=true):i.kind<=9/\(∀c∈i.word,c∈bV)/\i.word.length<=32/\(i.kind=9->i.word≠[]):=by
 unfold Po.Item.ok at h;rw[dw,eE]at h;apply⟨h.1,?_⟩;have h2:=h.2;split at h2
 ·have:=Rm.k6 h2;exact⟨Rm.zu this.1,qW this.1,fun _=>this.2⟩
 ·rename_i h9
  have:i.word=[]:=by simpa using h2
  rw[this];exact⟨by simp,by simp,fun q=>absurd q h9⟩
def kJ.fs {x:aW}(h:kJ x):Ax x:=by
 have hf:=Ok.KJ h.ok;apply⟨?_,fun f hm=>(hf f hm).i9,fun f hm i hi=>?_,fun f hm=>(hf f hm).cw⟩
 ·unfold Po.forms;exact b3 (List.length_filterMap_le _ _) (b3 h.eO (by decide))
 ·have:=KD ((hf f hm).ok i hi);exact⟨this.1,this.2.1⟩
def C4 (zs:List Int):List (Word×Nat):=Fm.sh (Po.wordsOf (zs.map Int.toNat))
def fV (x:aW)(zs:List Int):List bP:=oE x (C4 zs)
def KC (x:aW)(zs:List Int):fV x zs=Po.keptOf x (Po.wordsOf (zs.map Int.toNat)):=(afh x _).symm
def acP {zs:List Int}(h:Po.tooMuch (Po.wordsOf (zs.map Int.toNat))=false):(∀p∈C4 zs,Po.wordOk p.1=true)/\(C4 zs).length<=1000:=by
 obtain⟨h1,h2⟩:=Wd.nA h;apply⟨fun p hp=>?_,?_⟩
 ·obtain⟨t,ht,rfl⟩:=cx.mp hp;exact(Rm.k6 (h2 t ht)).1
 ·unfold C4 Fm.sh;rw[aL];omega
def kJ.k {x:aW}(hx:kJ x){zs:List Int}(h:Po.tooMuch (Po.wordsOf (zs.map Int.toNat))=false):pD x (fV x zs):=by
 obtain⟨h1,h2⟩:=Wd.nA h;rw[KC];have hl:=Wd.UM x (Po.wordsOf (zs.map Int.toNat));apply⟨fun y hy=>Rm.k6 (Wd.afg hx.ok h2 y hy),by omega,?_,fun s hs=>?_⟩
 ·unfold Po.shapes;exact b3 (List.length_filterMap_le _ _) (b3 hx.eO (by decide))
 ·exact b3 (Ok.S6 hx.ok s hs).2 (by decide)
def lq (CL:ae)(H:Hp)(a:ae)(v:V):Prop:=∃dx,H a=some (.bc CL dx [("rules",v)])
def aeD (CL:ae):Sp:=fun vs H Q _=>∃(a dx:ae),vs=[.ref a]/\H a=some (.bc CL dx [])/\∀H',lq CL H' a .bx->bf a H H'->Q .bx H'
def Z8:bD ["self"] ["self"] (aR RD):=bL
def aai (T:Tx K mg):bg P w K mg base (bw P w) 1 T.Jd T.RX ["self"] (aeD T.fF):=by
 exists T.Cg.cj Z8
 ·obtain⟨a,dx,rfl,_⟩:=h;rfl
 ·obtain⟨a,dx,rfl,ha,k⟩:=h;apply⟨_,aF (fP (pv 0) rk rfl),?_⟩;exact Z18 _ rfl a _ dx [] rfl ha T.gn T.ki (show 0<1000 by decide) (k _ ⟨dx,aC⟩ (bf.ay _ _ _))
def ahb:Sp:=fun vs H Q _=>∃n:Nat,vs=[.int (n:Int)]/\∀(H':Hp)(p:ae),aj H H'->H p=none->H' p=some (.ak [.int (if 9223372036854775808<=n then -9 else(n:Int))])->Q (.ref p) H'
def Zd:bD ["how_many"] ["how_many"] (aR Px):=bL
def Zi (T:Tx K mg):bg P w K mg base (bw P w) 1 T.Hd T.PR ["how_many"] ahb:=by
 exists T.yB.cj Zd
 ·obtain⟨n,rfl,_⟩:=h;rfl
 ·obtain⟨n,rfl,k⟩:=h;obtain⟨u1,m1,r1⟩:=(T.tg T.G7);obtain⟨u2,m2,r2⟩:=(T.tg T.Ht);apply⟨_,aD (bU (cI zX (pv 0) (bh rfl m1 r1) (bS _)) (aF (aY (cz (ao (bh rfl m2 r2) ax)))) b5) (aF (aY (cz (ao (pv 0) ax)))),?_⟩;apply Z105 _ rfl _ _ rfl rfl _ rfl ?_;by_cases h:9223372036854775808<=n
  ·rw[aE h]at k;rw[bY (show(9223372036854775808:Int)<=(n:Int) by omega)];exact a0 ⟨eY,fun p hp=>k _ p (aj.new hp) hp aC⟩
  ·rw[aB h]at k;rw[bZ (show¬(9223372036854775808:Int)<=(n:Int) by omega)];exact aO ⟨_,rfl,eY,fun p hp=>k _ p (aj.new hp) hp aC⟩
def rp (u:ajG):List V:=V.int (u.length:Int)::u.map fun c=>V.int (c.toNat:Int)
def agb:Sp:=fun vs H Q _=>∃u:ajG,vs=[.str (tx u)]/\(∀c∈u,c∈bV)/\u.length<=100000/\∀(H':Hp)(p:ae),aj H H'->H p=none->H' p=some (.ak (rp u))->Q (.ref p) H'
def Ze:bD ["text"] ["text"] (aR Py):=bL
def Gh (T:Tx K mg):bg P w K mg base (bw P w) 3 T.He T.PU ["text"] agb:=by
 have GN:= @ZS P w K mg base T;exists T.pH.cj Ze
 ·obtain⟨u,rfl,_⟩:=h;rfl
 ·obtain⟨u,rfl,hu,hul,k⟩:=h;apply⟨_,aF (aY (e9 ug (cz (ao (cD om rfl (T.tn T.d5) e7 (ao (pv 0) ax)) ax)) (cy GN hr.ww rfl (T.tm T.IG) T.yS.kp (dE T.yS) .nil bE (ao (pv 0) ax)))),?_⟩;apply Z62 _ rfl _ rfl (by rw[dz];exact fO ⋯) eY (fun p1 gN=>?_);have s3:=aj.new (o:=.ak [V.int (((tx u).length:Nat):Int)]) gN;apply Z62 _ rfl u rfl hu hul (fun H4 p2 s4 gy Mq=>?_);apply Z35 p1 p2 _ _ rfl rfl (s4 _ _ aC) Mq ?_ (fun p3 kP=>?_)
  ·rw[aL];exact nV (by simp;omega)
  ·apply k _ p3 ((s3.trans s4).trans (aj.new kP)) (e8 (s3.trans s4) kP) ?_;rw[aC,dz];rfl
def aci (K:aI)(CM:ae):Sp:=fun vs H Q E=>∃(na:ae)(zs:List Int),vs=[.ref na]/\aA K H na (zs.map V.int)/\zs.length<=1000000/\(∀z∈zs,0<=z/\z<256)/\(65536<zs.length->nG CM E (aj H))/\(zs.length<=65536->∀H',aj H H'->Q (.str (tx (cU zs))) H')
def abg:bD ["numbers"] ["numbers"] (aR O6):=bL
def Sj (T:Tx K mg):bg P w K mg base (bw P w) 4 T.Gq T.Pf ["numbers"] (aci K T.gJ):=by
 have GT:= @Si P w K mg base T;exists T.tL.iy abg
 ·obtain⟨na,zs,rfl,_⟩:=h;rfl
 ·obtain⟨na,zs,rfl,hN,dZ,oX,k1,k2⟩:=h;obtain⟨u1,m1,r1⟩:=(T.tg T.Il);apply Z10 _ (aD (bU (cI wM (cD gA rfl (T.tn T.d5) e7 (ao (pv 0) ax)) (bh rfl m1 r1) (bS _)) (aF (t9 cY rfl (JS T.qL.xc T.y9 rfl (T.tm T.wj)))) b5)
   (aF (aY (cy GT hr.ww rfl (T.tm T.CJ) T.t6.kp (dE T.t6) .nil bE (ao (pv 0) ax))))) ?_
  apply Z65 _ rfl na _ rfl (.inl hN) _ _ rfl rfl _ rfl ?_;rw[aL];by_cases ai7:65536<zs.length
  ·rw[bY (show(65536:Int)<(zs.length:Int) by omega)];exact a0 fun e he=>Jq T (k1 ai7) (aj.refl _) e he
  ·rw[bZ (show¬(65536:Int)<(zs.length:Int) by omega)];exact aO (Z33 _ rfl na zs ⟨rfl,hN,oX,dZ,k2 ⋯⟩)
def qV (CF CM:ae)(H:Hp)(E:XK)(zs:List Int)(ok:Prop):Prop:=(512<zs.length->nG CM E (aj H))/\(zs.length<=512->(∀k,zs.findIdx? (fun z=> !mx z)=some k->gV CF E (aj H) k) /\
  (zs.findIdx? (fun z=> !mx z)=none->(Po.tooMuch (Po.wordsOf (zs.map Int.toNat))=true->nG CM E (aj H))/\(Po.tooMuch (Po.wordsOf (zs.map Int.toNat))=false->ok)))
def qV.fZ {CF CM:ae}{H:Hp}{E:XK}{zs:List Int}{a b:Prop}(h:qV CF CM H E zs a)(f:Po.tooMuch (Po.wordsOf (zs.map Int.toNat))=false->a->b):qV CF CM H E zs b :=
 ⟨h.1,fun h1=>⟨(h.2 h1).1,fun h2=>⟨((h.2 h1).2 h2).1,fun h3=>f h3 (((h.2 h1).2 h2).2 h3)⟩⟩⟩
def adl (K:aI)(gT CM CI CF CR C CL:ae):Sp:=fun vs H Q E=>∃(a na ru:ae)(n:Nat)(A:eP)(x:aW)(zs:List Int),vs=[.ref a,.ref na]/\lq CL H a (.ref ru)/\cg CI CF CR H ru n A x/\aA K H na (zs.map V.int) /\
 qV gT CM H E zs (∀(H':Hp)(ra:ae)(G:lK),aj H H'->j6 C H' ra G x (fV x zs)->qg H' G.ka (fV x zs)->H G.kl=none->(∀av,dn av H' G.kl x (fV x zs) 0)->Q (.ref ra) H')
def ZG:bD ["self","address"] ["self","address"] (aR Pd):=bL
def HP (T:Tx K mg):bg P w K mg base (bw P w) 5 T.Gy T.Pp ["self","address"] (adl K T.d4 T.gJ T.bX T.cn T.cQ T.di T.fF):=by
 have GI:= @Zq P w K mg base T;have GW:= @aaz P w K mg base T;exists T.vR.iy ZG
 ·obtain⟨a,na,ru,n,A,x,zs,rfl,_⟩:=h;rfl
 ·obtain⟨a,na,ru,n,A',x,zs,rfl,⟨dx,e6⟩,R,hN,hS⟩:=h;apply⟨_,aF (aY (zI T.Js GI hr rfl (T.tm T.Km) (jz T.BY) .nil bE (ao (aX (pv 0) rfl) (ao (cy GW hr.ww rfl (T.tm T.JJ) T.zf.kp (dE T.zf) .nil cY.dO (ao (pv 1) ax)) ax)))),?_⟩;apply Z16 _ rfl a _ dx _ _ rfl e6 T.gn T.ki rfl (Z46 _ rfl na zs rfl hN hS.1 (fun oP=>⟨(hS.2 oP).1,fun rJ=>⟨((hS.2 oP).2 rJ).1,fun hm H1 wl ps s1 eZ hW=>?_⟩⟩));have kk:=((hS.2 oP).2 rJ).2 hm;obtain⟨f1,f2⟩:=acP hm;intro ra dr lC Fb bJ;have s0:aj H1 (L2.ay (L2.ay H1 dr (.bO ra)) ra (.bc T.di dr [])):=fun b o h=>by rw[aq (aQ h lC),aq (aQ h Fb)];exact h
  apply Z54 ra dr ru wl n A' x (Z79 ps _ rfl aC ((R.same s1).same s0) (hW.same s0) f1 f2 (fun H2 G hR kR kQ hK kp=>⟨rfl,?_⟩));have s2:aj H H2:=fun b o h=>kp _ _ (s0 _ _ (s1 _ _ h)) (aQ (s1 _ _ h) lC);exact kk H2 ra G s2 hR kR (e8 (s1.trans s0) kQ) hK
def adJ {X:Cx}(K:aI){e:Expr}{f:Str}{pos:Pos}{ta:TE}(he:PE X e ta)(hb:attributeBase e f X.env (eval e X.env)=eval e X.env:=by rfl)(hK:X.K=K:=by rfl):PE X (.Attribute e f pos) (V2 K ta f):=hK▸aeZ he hb
def cg.ag4 {CI CF CR CL:ae}{H H':Hp}{a r dx:ae}{n:Nat}{A:eP}{x:aW}{v:V}(R:cg CI CF CR H r n A x)(ha:H a=some (.bc CL dx [("rules",v)]))(k:bf a H H'):cg CI CF CR H' r n A x :=
 R.st (fun b l h=>k _ _ h (aJ h ha nofun)) (fun b l h=>k _ _ h (aJ h ha nofun)) fun b C' dy p q fs h=>k _ _ h (aJ h ha fun z=>by cases mv z)
def af2 (K:aI)(gT CM CI CF CR CL:ae):Sp:=fun vs H Q E=>∃(a na:ae)(v:V)(zs:List Int),vs=[.ref a,.ref na]/\lq CL H a v/\aA K H na (zs.map V.int)/\zs.length<=1000000/\(∀z∈zs,0<=z/\z<256) /\
 (65536<zs.length->nG CM E (aj H)) /\
 (zs.length<=65536->(∀k,Po.readRules (cU zs)= .error k->gV gT E (aj H) k) /\
  ∀x,Po.readRules (cU zs)= .ok x->∀(H':Hp)(p ru:ae)(A:eP),bf a H H'->lq CL H' a (.ref ru)->cg CI CF CR H' ru x.length A x->H p=none->H' p=some (.ak [.int 0])->Q (.ref p) H')
def aeM:bD ["self","numbers"] ["self","numbers"] (aR RC):=bL
def ae4 (T:Tx K mg):bg P w K mg base (bw P w) 10 T.Jc T.RW ["self","numbers"] (af2 K T.d4 T.gJ T.bX T.cn T.cQ T.fF):=by
 have GR:= @ZP P w K mg base T;have GT:= @Sj P w K mg base T;exists T.Cf.iy aeM
 ·obtain⟨a,na,v,zs,rfl,_⟩:=h;rfl
 ·obtain⟨a,na,v,zs,rfl,hL,hN,dZ,oX,k1,k2⟩:=h;apply⟨_,aD (fP (pv 0) (cy GR hr rfl (T.tm T.IC) T.yO.kp (dE T.yO) .nil cY.dO (ao (cy GT hr.ww rfl (T.tm T.BG) T.tL.kp (dE T.tL) .nil cY.dO (ao (pv 1) ax)) ax)) rfl)
   (aF (aY (cz (ao bQ ax)))),?_⟩
  obtain⟨dx,e6⟩:=id hL;apply oy ?_;apply Z33 _ rfl na zs ⟨rfl,hN,dZ,oX,k1,fun xW H1 s1=>?_⟩;obtain⟨kf,ko⟩:=k2 xW;apply Z28 (cU zs) rfl (by simpa[cU]using dZ) (fun x hx H2 ru A2 s2 hRu=>?_) (fun k hk=>(kf k hk).fZ fun H2 s2=>s1.trans s2);have xj:=s2 _ _ (s1 _ _ e6);have kp:=bf.ay a H2 (.bc T.fF dx [("rules",.ref ru)]);apply Z18 _ rfl a _ dx _ rfl xj T.gn T.ki (show 1<1000 by decide) ?_;apply⟨eY,fun p hp=>?_⟩;obtain⟨ve,gy⟩:=cC hp;have sp:=aj.new (o:=.ak [V.int 0]) hp;apply ko x hx _ p ru A2 ?_ ⟨dx,sp _ _ (by rw[aC];rfl)⟩ ((hRu.ag4 xj kp).same sp) (e8 (s1.trans s2) gy) aC;exact fun b o h hn=>sp _ _ (kp _ _ (s2 _ _ (s1 _ _ h)) hn)
def rb (n:Nat)(x:aW):List Nat:=[n,(Po.shapes x).length,(Po.shorts x).length,(Po.drops x).length,(Po.forms x).length]
def aau (CI CF CR CL:ae):Sp:=fun vs H Q _=>∃(a ru:ae)(n q:Nat)(A:eP)(x:aW),vs=[.ref a,.int (q:Int)]/\lq CL H a (.ref ru)/\cg CI CF CR H ru n A x /\
 ∀(H':Hp)(p:ae),aj H H'->H p=none->H' p=some (.ak [.int (if 5<=q then -1 else(((rb n x).getD q 0:Nat):Int))])->Q (.ref p) H'
def Qr:bD ["self","what","rules","counts"] ["self","what"] (aR Pc):=bL
def ZO (T:Tx K mg):bg P w K mg base (bw P w) 1 T.Gx T.Pn ["self","what"] (aau T.bX T.cn T.cQ T.fF):=by
 exists T.BK.cj Qr
 ·obtain⟨a,ru,n,q,A,x,rfl,_⟩:=h;rfl
 ·obtain⟨a,ru,n,q,A',x,rfl,⟨dx,e6⟩,R,k⟩:=h;have nd:=Qr.nd;obtain⟨u1,m1,r1⟩:=(T.tg T.za);apply Z10 _ (aD (bB (i:=2) nd rfl Olr (aX (pv 0) rfl))
   (aD (bB (i:=3) nd rfl Olr (cz (ao (aX (pv 2) rfl) (ao (cD gA rfl (T.tn T.d5) e7 (ao (aX (pv 2) rfl) ax)) (ao (aX (pv 2) rfl) (ao (aX (pv 2) rfl) (ao (cD gA rfl (T.tn T.d5) e7 (ao (aX (pv 2) rfl) ax)) ax)))))))
   (aD (bU (cI zX (pv 1) (cD gA rfl (T.tn T.d5) e7 (ao (pv 3) ax)) (bS _)) (aF (aY (cz (ao (bh rfl m1 r1) ax)))) b5)
   (aF (aY (cz (ao (cZ eU (pv 3) (pv 1) (fun _ _=>rfl)) ax))))))) ?_
  obtain⟨dr,i8⟩:=R.bu;have iM:(A'.fs.map fun g=>V.ref g.f).length=(Po.forms x).length:=by rw[aL];exact Paired.length R.fs
  have xE:(aV (Po.shapes x)).length=(Po.shapes x).length:=by simp[aV]
  apply cF ?_;apply Z16 _ rfl a _ dx _ _ rfl e6 T.gn T.ki rfl (ck ?_);apply cF ?_;apply Z16 _ rfl ru _ dr _ _ rfl i8 T.dG T.tI rfl (Z34 _ rfl ru _ dr _ (Z103 _ rfl i8 T.dG T.pJ rfl A'.sa _ rfl (.inl (aA.of R.sh)) _ rfl (Z37 ru _ dr _ _ rfl i8 T.dG T.yd rfl _ rfl (Z37 ru _ dr _ _ rfl i8 T.dG T.yg rfl _ rfl (Z67 ru _ dr _ _ rfl i8 T.dG T.nt rfl A'.fa _ ⟨rfl,.inl (aA.of R.fo),(show 5<=sizeLine by decide),fun c hc=>ck ?_⟩)))));rw[xE,iM];have sc:=aj.new (o:=.ak (bC (rb n x))) hc;have Ff:(L2.ay H c (.ak (bC (rb n x)))) c=some (.ak (bC (rb n x))):=aC;show nL _ _ _ _ (L2.ay H c (.ak (bC (rb n x))));generalize L2.ay H c (.ak (bC (rb n x)))=H1 at sc Ff;apply Z10 _ rfl (Z65 _ rfl c _ rfl (.inl (aA.of Ff)) _ _ rfl rfl _ rfl ?_);rw[show(bC (rb n x)).length=5 from rfl];by_cases h5:5<=q
  ·rw[aE h5]at k;rw[bY (show((5:Nat):Int)<=(q:Int) by omega)];exact a0 ⟨eY,fun p hp=>k _ p (sc.trans (aj.new hp)) (e8 sc hp) aC⟩
  ·rw[aB h5]at k;rw[bZ (show¬((5:Nat):Int)<=(q:Int) by omega)];apply aO (Z29 _ rfl _ rfl c _ _ _ ⟨rfl,rfl,aA.of Ff,dH (qU (show q<5 by omega)),eY,fun p hp=>k _ p (sc.trans (aj.new hp)) (e8 sc hp) aC⟩)
def aat (K:aI)(CI CF CR CL:ae):Sp:=fun vs H Q _=>∃(a na ru:ae)(n:Nat)(A:eP)(x:aW)(zs:List Int),vs=[.ref a,.ref na]/\lq CL H a (.ref ru)/\cg CI CF CR H ru n A x/\aA K H na (zs.map V.int)/\zs.length<=1000000/\(∀z∈zs,0<=z/\z<256)/\kJ x /\
 (Po.fullWord (cU zs)=false->∀(H':Hp)(p:ae),aj H H'->H p=none->H' p=some (.ak [.int (-1)])->Q (.ref p) H') /\
 (Po.fullWord (cU zs)=true->(Po.plainOf x (cU zs)=none->∀(H':Hp)(p:ae),aj H H'->H p=none->H' p=some (.ak [.int 0])->Q (.ref p) H') /\
  ∀u,Po.plainOf x (cU zs)=some u->∀(H':Hp)(p:ae),aj H H'->H p=none->H' p=some (.ak (V.int 1::rp u))->Q (.ref p) H')
def Qq:bD ["self","numbers","word","plain"] ["self","numbers"] (aR Pb):=bL
def ZN (T:Tx K mg):bg P w K mg base (bw P w) 4 T.Gw T.Pl ["self","numbers"] (aat K T.bX T.cn T.cQ T.fF):=by
 have GT:= @Si P w K mg base T;have GI:= @abt P w K mg base T;have GP:= @OL P w K mg base T;have GN:= @Gh P w K mg base T;exists T.BJ.cj Qq
 ·obtain⟨a,na,ru,n,A,x,zs,rfl,_⟩:=h;rfl
 ·obtain⟨a,na,ru,n,A',x,zs,rfl,⟨dx,e6⟩,R,hN,dZ,oX,sM,kn,kw⟩:=h;have nd:=Qq.nd;obtain⟨u1,m1,r1⟩:=(T.tg T.za);apply Z10 _ (aD (bB (i:=2) nd rfl Olr (cy GT hr.ww rfl (T.tm T.CJ) T.t6.kp (dE T.t6) .nil bE (ao (pv 1) ax)))
   (aD (bU (lV (gm (cy GI hr.ww rfl (T.tm T.Kj) T.zr.kp (dE T.zr) .nil bE (ao (pv 2) ax)))) (aF (aY (cz (ao (bh rfl m1 r1) ax)))) b5)
   (aD (bB (i:=3) nd rfl Olr (cT (aX (pv 0) rfl) T.dG T.BB GP hr.ww (cp T.yk) .nil bE (ao (pv 2) ax)))
   (aD (bU (cI DC (pv 3) rk (bS _)) (aF (aY (cz (ao bQ ax)))) b5)
   (aF (aY (e9 ug (cz (ao bQ ax)) (cy GN hr rfl (T.tm T.yw) T.pH.kp (dE T.pH) .nil bE (ao (pv 3) ax))))))))) ?_
  have vo:(cU zs).length<=1000000:=by simpa[cU]using dZ
  apply cF ?_;apply Z33 _ rfl na zs ⟨rfl,hN,oX,dZ,fun H1 s1=>ck ?_⟩;apply Z24 _ rfl (cU zs) rfl vo (fun H2 s2=>Z10 _ rfl ?_);have j7:=s1.trans s2;cases hw:Po.fullWord (cU zs)with
  | false =>exact a0 ⟨eY,fun p hp=>kn hw _ p (j7.trans (aj.new hp)) (e8 j7 hp) aC⟩
  | true =>
   obtain⟨k0,k1⟩:=kw hw;apply aO (dS ?_);apply cF ?_;have R2:=R.same j7;obtain⟨dr,i8⟩:=R2.bu;apply Z16 _ rfl a _ dx _ _ rfl (j7 _ _ e6) T.gn T.ki rfl (Z20 ru dr _ rfl i8 rfl (Z30 _ rfl ru n A' x (cU zs) rfl R2 ((Rm.k6 hw).1) (ck ?_)));cases hp:Po.plainOf x (cU zs)with
   | none =>
    have ev:oz x (cU zs)= .bx:=by unfold oz;rw[hp]
    rw[ev];exact Z11 _ rfl rfl _ rfl (a0 ⟨eY,fun p hq=>k0 hp _ p (j7.trans (aj.new hq)) (e8 j7 hq) aC⟩)
   | some u =>
    have ev:oz x (cU zs)= .str (tx u):=by unfold oz;rw[hp]
    rw[ev];have hu:=Rm.k6 (Ok.Ks sM.ok hw hp);have ajy:=qW hu.1;apply Z11 _ rfl rfl _ rfl (aO (dS ?_));apply⟨eY,fun p1 gN=>?_⟩;have s3:=j7.trans (aj.new (o:=.ak [V.int 1]) gN);apply Z62 _ rfl u rfl (Rm.zu hu.1) ⋯ (fun H4 p2 s4 gy Mq=>?_);apply Z35 p1 p2 _ _ rfl rfl (s4 _ _ aC) Mq ?_ (fun p3 kP=>?_)
    ·exact nV (by simp[rp];omega)
    ·apply k1 u hp _ p3 ((s3.trans s4).trans (aj.new kP)) (e8 (s3.trans s4) kP) ?_;rw[aC];rfl
def aa6 (K:aI)(gT CM CI CF CR CL:ae):Sp:=fun vs H Q E=>∃(a na ru:ae)(n:Nat)(A:eP)(x:aW)(zs:List Int),vs=[.ref a,.ref na]/\lq CL H a (.ref ru)/\cg CI CF CR H ru n A x/\aA K H na (zs.map V.int)/\kJ x /\
 qV gT CM H E zs (∀(H':Hp)(p:ae),aj H H'->H p=none->H' p=some (.ak [.int (if 9223372036854775808<=Po.countWays x (fV x zs)then -9 else((Po.countWays x (fV x zs):Nat):Int))])->Q (.ref p) H')
def Z6:bD ["self","address"] ["self","address"] (aR PF):=bL
def aac (T:Tx K mg):bg P w K mg base (bw P w) 10 T.Hi T.PZ ["self","address"] (aa6 K T.d4 T.gJ T.bX T.cn T.cQ T.fF):=by
 have GR:= @HP P w K mg base T;have GC:= @ZW P w K mg base T;have GA:= @Zi P w K mg base T;exists T.BP.iy Z6
 ·obtain⟨a,na,ru,n,A,x,zs,rfl,_⟩:=h;rfl
 ·obtain⟨a,na,ru,n,A',x,zs,rfl,hL,R,hN,hx,hS⟩:=h;obtain⟨dx,e6⟩:=id hL;apply⟨_,aF (aY (cy GA hr.ww rfl (T.tm T.Ho) T.yB.kp (dE T.yB) .nil bE (ao (cy GC hr rfl (T.tm T.IJ) T.yV.kp (cp T.yV) .nil bE (ao (aX (aX (pv 0) rfl) rfl) (ao (cT (pv 0) T.gn T.ym GR hr.ww (cp T.vR) .nil cY.dO (ao (pv 1) ax)) ax))) ax))),?_⟩;obtain⟨dr,i8⟩:=R.bu;apply Z30 _ rfl a _ dx _ _ rfl e6 T.gn (Z106 T.ki rfl ru _ dr _ _ rfl i8 T.dG T.nt rfl (Z21 _ rfl a dx _ rfl e6 rfl (Z50 _ rfl a na ru n A' x zs rfl hL R ⟨hN,hS.fZ fun hm kk H1 ra G s1 hR kR kQ hK=>?_⟩)));apply Z54 ru ra n A' x (fV x zs) G ⟨rfl,R.same s1,hR,hx.k hm,kR,hK,hx.fs,fun H2 fY=>?_⟩;have s2:aj H H2:=fun b o h=>fY _ _ (s1 _ _ h) (by simp;exact aQ h kQ);exact⟨_,rfl,fun H3 p s3 hp kP=>kk H3 p (s2.trans s3) (e8 s2 hp) kP⟩
theorem SI:∀ws:List Word,TL.oF [32] (ws.map fun x=>x.map b8)=(Po.spaced ws).map b8
 | []=>rfl
 | [x]=>by simp[TL.oF,Po.spaced]
 | x::y::r=>by
  have h:=SI (y::r);have N3:b8 32=32:=by decide
  have e:Po.spaced (x::y::r)=x++(32::Po.spaced (y::r)):=rfl;rw[e,cV,show(32::Po.spaced (y::r)).map b8=b8 32::(Po.spaced (y::r)).map b8 from rfl,N3,<-h];rfl
def So (ws:List Word):Txt.join (" ":Str) (ws.map tx)=tx (Po.spaced ws):=by
 apply wB ?_;rw[TL.Ld];show TL.tl (Str.join _ _)=_;rw[TL.Dd,f6];have e:(TL.tl∘tx)=fun x=>x.map b8:=by funext x;exact iH x
 rw[e];exact SI ws
theorem Jm:∀{ws:List Word},(∀w∈ws,∀c∈w,c∈bV)->∀c∈Po.spaced ws,c∈bV
 | [],_,c,hc=>by simp[Po.spaced]at hc
 | [w],h,c,hc=>h w (by simp) c (by simpa[Po.spaced]using hc)
 | w::v::r,h,c,hc=>by
  rw[Po.spaced]at hc;rcases eQ.mp hc with hc|hc
  ·exact h w (by simp) c hc
  ·rcases dv.mp hc with rfl|hc
   ·decide
   ·exact Jm (ws:=v::r) (fun u hu=>h u (eF _ hu)) c hc
  ·simp
theorem Ck:∀{ws:List Word},(∀w∈ws,w.length<=32)->(Po.spaced ws).length<=33*ws.length
 | [],_=>by simp[Po.spaced]
 | [w],h=>by have:=h w (by simp);simp[Po.spaced];omega
 | w::v::r,h=>by
  have h1:=h w (by simp);have h2:=Ck (ws:=v::r) fun u hu=>h u (eF _ hu);rw[Po.spaced,cq,dQ]
  ·simp only[dQ]at h2⊢;omega
  ·simp
noncomputable def pT (l:List bP)(ws:List (Nat×Nat×Nat)):List Nat:=ws.flatMap fun t=>[t.1,((l[t.2.1]?).map fun(y:bP)=>y.i).getD 0,t.2.2]
def aaX (l:List bP)(ws:List (Nat×Nat×Nat)):pT l ws=(ws.map (Wy.DB l)).flatMap Wqatcl.partNums:=by unfold pT;rw[List.flatMap_map];rfl
def Rp (l:List bP)(ws:List (Nat×Nat×Nat)):(pT l ws).length=3*ws.length:=by
 induction ws with
 | nil=>rfl
 | cons t r ih =>unfold pT at ih⊢;rw[List.flatMap_cons,cq,ih,dQ];simp;omega
def ago {l:List bP}{k:Nat}(h:k<l.length):(p8 l)[k]?=some (V.int ((((l[k]?).map fun(y:bP)=>y.i).getD 0:Nat):Int)):=by unfold p8;rw[bR,cB h];rfl
def acd (K:aI)(gT CM CI CF CR CL:ae):Sp:=fun vs H Q E=>∃(a na ru:ae)(n k:Nat)(A:eP)(x:aW)(zs:List Int),vs=[.ref a,.int (k:Int),.ref na]/\lq CL H a (.ref ru)/\cg CI CF CR H ru n A x/\aA K H na (zs.map V.int)/\kJ x /\
 qV gT CM H E zs ((Wy.gW x (fV x zs) (Po.forms x) k=none->∀(H':Hp)(p:ae),aj H H'->H p=none->H' p=some (.ak [.int (-4)])->Q (.ref p) H') /\
  ∀f m,Wy.gW x (fV x zs) (Po.forms x) k=some (f,m)->∀(H':Hp)(p:ae),aj H H'->H p=none->H' p=some (.ak (bC ((Wy.jH x (fV x zs) f m).length::pT (fV x zs) (Wy.jH x (fV x zs) f m))))->Q (.ref p) H')
def Ru:bD ["self","number","address","reading","way","told","kind","start","length"] ["self","number","address"] (aR P9):=bL
def aaB (T:Tx K mg):bg P w K mg base (bw P w) 10 T.HA T.Qg ["self","number","address"] (acd K T.d4 T.gJ T.bX T.cn T.cQ T.fF):=by
 have GR:= @HP P w K mg base T;have GF:= @RH P w K mg base T;exists T.BW.iy Ru
 ·obtain⟨a,na,ru,n,k,A,x,zs,rfl,_⟩:=h;rfl
 ·obtain⟨a,na,ru,n,k,A',x,zs,rfl,hL,R,hN,hx,hS⟩:=h;obtain⟨dx,e6⟩:=id hL;have nd:=Ru.nd;obtain⟨u1,m1,r1⟩:=(T.tg T.yZ);apply Z10 _ (aD (bB (i:=3) nd rfl Olr (cT (pv 0) T.gn T.ym GR hr.ww (cp T.vR) .nil cY.dO (ao (pv 2) ax)))
   (aD (bB (i:=4) nd rfl Olr (cy GF hr rfl (T.tm T.Cs) T.tY.kp (jz T.tY) .nil bE (ao (aX (aX (pv 0) rfl) rfl) (ao (pv 3) (ao (pv 1) ax)))))
   (aD (bU (cI DC (pv 4) rk (bS _)) (aF (aY (cz (ao (bh rfl m1 r1) ax)))) b5)
   (aD (bB (i:=5) nd rfl Olr (cz (ao (cD gA rfl (T.tn T.d5) e7 (ao (pv 4) ax)) ax)))
   (aD (jh pU rfl (iS (pv 4)) (jj rfl (dF (b9 (i:=6) nd rfl Olr) (dF (b9 (i:=7) nd rfl Olr) (dF (b9 (i:=8) nd rfl Olr) jf))))
    (aF (dR (gp gU PySem.F.slot_list_extend PySem.F.type_list_extend Ts (pv 5) (ao (cz (ao (pv 6) (ao (cZ eU (aX (pv 3) rfl) (pv 7) (fun _ _=>rfl)) (ao (pv 8) ax)))) ax)))))
   (aF (aY (pv 5)))))))) ?_
  apply cF ?_;apply Z21 _ rfl a dx _ rfl e6 rfl (Z50 _ rfl a na ru n A' x zs rfl hL R ⟨hN,hS.fZ fun hm kk H1 ra G s1 hR kR kQ hK=>ck ?_⟩);obtain⟨k0,k1⟩:=kk;have hO:=hx.k hm;have hF:=hx.fs;generalize fV x zs=l at *;apply cF ?_;have R1:=R.same s1;obtain⟨dr,i8⟩:=R1.bu;have zV:∀{H2:Hp},bG [G.kl] H1 H2->aj H H2:=fun fY b o h=>fY _ _ (s1 _ _ h) (by simp;exact aQ h kQ);apply Z30 _ rfl a _ dx _ _ rfl (s1 _ _ e6) T.gn (Z106 T.ki rfl ru _ dr _ _ rfl i8 T.dG T.nt rfl (Z66 _ rfl _ rfl ru ra n k A' x l G ⟨rfl,R1,hR,hO,kR,hK,hF,fun rJ H2 fY=>ck ?_,fun f m DP H2 wl fY eZ hW=>ck ?_⟩))
  ·have s2:=zV fY;exact Z11 _ rfl rfl _ rfl (a0 ⟨eY,fun p hp=>k0 rJ _ p (s2.trans (aj.new hp)) (e8 s2 hp) aC⟩)
  ·have s2:=zV fY;have k1:=k1 f m DP;have cX:=Wy.KR x l f m;have ajw:(Wy.jH x l f m).length<=16:=b3 (Wy.Uh x l f m) (hF.eO f (Wy.C5 x l _ _ f m DP).2);generalize Wy.jH x l f m=ws at *;obtain⟨ps,gx,lA⟩:=hW;have cR:ps.length=ws.length:=Paired.length lA;apply Z11 _ rfl rfl _ rfl (aO (dS ?_));apply cF ?_;apply Z46 _ rfl wl _ rfl (.inl (aA.of gx)) eY (fun td qm=>ck ?_);have Es:=aj.new (o:=.ak [V.int (((ps.map V.ref).length:Nat):Int)]) qm;obtain⟨ai,mQ,_⟩:=hK fun _=>True;have iD:=hR.keep mQ fY;obtain⟨Bi,lH⟩:=iD.bu;apply dj (fun σ H'=>∃v6 v7 v8,σ=[some (.ref a),some (.int (k:Int)),some (.ref na),some (.ref ra),some (.ref wl),some (.ref td),v6,v7,v8]/\aj H2 H'/\H' td=some (.ak (bC (ws.length::pT l ws)))) (fun X hX=>?_) ?_
   ·apply Z24 _ rfl wl rfl ⟨_,aA.of (Es _ _ gx)⟩ ?_;apply ou (K:=K) (a:=wl) (xs:=ps.map V.ref) (fun q σ H'=>∃v6 v7 v8,σ=[some (.ref a),some (.int (k:Int)),some (.ref na),some (.ref ra),some (.ref wl),some (.ref td),v6,v7,v8]/\aj H2 H'/\H' td=some (.ak (bC (ws.length::pT l (ws.take q)))))
     (Z19 none none none rfl Es (by rw[aC,aL,cR];rfl)) (fun q σ H' _ h=>let ⟨_,_,_,_,s,_⟩:=h;aA.of (s _ _ gx)) ?_ (fun σ H' h=>?_)
    ·rintro q v σ H' hv ⟨v6,v7,v8,rfl,sm,oY⟩;rw[bR]at hv;cases lE:ps[q]? with
     | none=>rw[lE]at hv;cases hv
     | some pq =>
      rw[lE]at hv;cases hv;obtain⟨t,ju,jo⟩:=Paired.f9 lA lE;have hti:=cX t (fC ju);have X3:q<ws.length:=(fD.mp ju).1;apply Z51 pq _ rfl (cS.of (sm _ _ jo)) rfl _ _ rfl _ _ (Z45 rfl _ _ rfl rfl ?_);apply Z11 _ rfl (.inl ⟨rfl,_,aA.of oY⟩) _ rfl (Z16 _ rfl ra _ Bi _ _ rfl (sm _ _ lH) T.fk T.ya rfl (Z92 _ rfl G.na _ _ _ rfl rfl (aA.of (sm _ _ iD.nu)) (dH (j:=t.2.1) (ago ⋯)) _ ⟨rfl,Mb,fun e he=>?_⟩));have hte:td≠e:=aQ oY he;apply Z35 td e _ _ rfl rfl (by rw[aq hte];exact oY) aC ?_ (Z19 _ _ _ rfl ?_ ?_)
      ·rw[pO,dQ,Rp,gH];exact nV (by simp;omega)
      ·exact(sm.trans (aj.new he)).i0 qm
      ·rw[aC,kj ju];unfold pT bC;rw[List.flatMap_append,fj,fj,cV];simp
    ·obtain⟨v6,v7,v8,rfl,sm,oY⟩:=h;rw[aL,cR,ni]at oY;exact hX _ _ (Z19 _ _ _ rfl sm oY)
   ·rintro σ H' ⟨v6,v7,v8,rfl,sm,oY⟩;exact⟨_,rfl,k1 H' td (s2.trans sm) (e8 s2 qm) oY⟩
def aa7 (K:aI)(gT CM CI CF CR CL:ae):Sp:=fun vs H Q E=>∃(a na ru:ae)(n k kd:Nat)(A:eP)(x:aW)(zs:List Int),vs=[.ref a,.int (k:Int),.int (kd:Int),.ref na]/\lq CL H a (.ref ru)/\cg CI CF CR H ru n A x/\aA K H na (zs.map V.int)/\kJ x /\
 qV gT CM H E zs ((9<=kd->∀(H':Hp)(p:ae),aj H H'->H p=none->H' p=some (.ak [.int (-1)])->Q (.ref p) H')/\(kd<9->(Wy.gW x (fV x zs) (Po.forms x) k=none->∀(H':Hp)(p:ae),aj H H'->H p=none->H' p=some (.ak [.int (-4)])->Q (.ref p) H') /\
  ∀f m,Wy.gW x (fV x zs) (Po.forms x) k=some (f,m)->((Wy.jH x (fV x zs) f m).find? (fun t=>t.1==kd)=none->∀(H':Hp)(p:ae),aj H H'->H p=none->H' p=some (.ak [.int (-3)])->Q (.ref p) H') /\
   ∀t,(Wy.jH x (fV x zs) f m).find? (fun t=>t.1==kd)=some t->∀(H':Hp)(p:ae),aj H H'->H p=none->H' p=some (.ak (rp (Po.spaced (Wy.gB (fV x zs) t))))->Q (.ref p) H'))
def QT:bD ["self","number","kind","address","reading","way","own_kind","start","length"] ["self","number","kind","address"] (aR PJ):=bL
def aad (T:Tx K mg):bg P w K mg base (bw P w) 10 T.Hj T.P0 ["self","number","kind","address"] (aa7 K T.d4 T.gJ T.bX T.cn T.cQ T.fF):=by
 have GR:= @HP P w K mg base T;have GF:= @RH P w K mg base T;have GT:= @Gh P w K mg base T;exists T.BQ.iy QT
 ·obtain⟨a,na,ru,n,k,kd,A,x,zs,rfl,_⟩:=h;rfl
 ·obtain⟨a,na,ru,n,k,kd,A',x,zs,rfl,hL,R,hN,hx,hS⟩:=h;obtain⟨dx,e6⟩:=id hL;have nd:=QT.nd;obtain⟨u1,m1,r1⟩:=(T.tg T.za);obtain⟨u2,m2,r2⟩:=(T.tg T.yZ);obtain⟨u3,m3,r3⟩:=(T.tg T.CA);obtain⟨tk,mk,tK⟩:=(T.tu T.ub);rw[zF]at tK;apply Z10 _ (aD (bB (i:=4) nd rfl Olr (cT (pv 0) T.gn T.ym GR hr.ww (cp T.vR) .nil cY.dO (ao (pv 3) ax)))
   (aD (bU (cI zX (pv 2) (cD gA rfl (T.tn T.d5) e7 (ao (bh (v:=.ref tk) rfl mk rfl) ax)) (bS _)) (aF (aY (cz (ao (bh rfl m1 r1) ax)))) b5)
   (aD (bB (i:=5) nd rfl Olr (cy GF hr rfl (T.tm T.Cs) T.tY.kp (jz T.tY) .nil bE (ao (aX (aX (pv 0) rfl) rfl) (ao (pv 4) (ao (pv 1) ax)))))
   (aD (bU (cI DC (pv 5) rk (bS _)) (aF (aY (cz (ao (bh rfl m2 r2) ax)))) b5)
   (aD (jh pU rfl (iS (pv 5)) (jj rfl (dF (b9 (i:=6) nd rfl Olr) (dF (b9 (i:=7) nd rfl Olr) (dF (b9 (i:=8) nd rfl Olr) jf))))
    (aF (bU (cI dW (pv 6) (pv 2) (bS _)) (aF (aY (cy GT hr.ww rfl (T.tm T.yw) T.pH.kp (dE T.pH) .nil bE (ao (Dk zQ (qS wx (aX (pv 4) rfl) (lR (pv 7)) (lR (e9 k7 (pv 7) (pv 8))))) ax)))) b5)))
   (aF (aY (cz (ao (bh rfl m3 r3) ax))))))))) ?_
  apply cF ?_;apply Z21 _ rfl a dx _ rfl e6 rfl (Z50 _ rfl a na ru n A' x zs rfl hL R ⟨hN,hS.fZ fun hm kk H1 ra G s1 hR kR kQ hK=>ck ?_⟩);obtain⟨kb,kg⟩:=kk;have hO:=hx.k hm;have hF:=hx.fs;generalize fV x zs=l at *;apply Z65 _ rfl tk _ rfl (.inr (tK.sq _)) _ _ rfl rfl _ rfl ?_;rw[show pW.length=9 by decide+kernel];by_cases h9:9<=kd
  ·rw[bY (show(((9:Nat):Int))<=(kd:Int) by omega)];exact a0 ⟨eY,fun p hp=>kb h9 _ p (s1.trans (aj.new hp)) (e8 s1 hp) aC⟩
  ·rw[bZ (show¬(((9:Nat):Int))<=(kd:Int) by omega)];obtain⟨k0,k1⟩:=kg ⋯;apply aO (dS ?_);apply cF ?_;have R1:=R.same s1;obtain⟨dr,i8⟩:=R1.bu;have zV:∀{H2:Hp},bG [G.kl] H1 H2->aj H H2:=fun fY b o h=>fY _ _ (s1 _ _ h) (by simp;exact aQ h kQ);apply Z30 _ rfl a _ dx _ _ rfl (s1 _ _ e6) T.gn (Z106 T.ki rfl ru _ dr _ _ rfl i8 T.dG T.nt rfl (Z66 _ rfl _ rfl ru ra n k A' x l G ⟨rfl,R1,hR,hO,kR,hK,hF,fun rJ H2 fY=>ck ?_,fun f m DP H2 wl fY eZ hW=>ck ?_⟩))
   ·have s2:=zV fY;exact Z11 _ rfl rfl _ rfl (a0 ⟨eY,fun p hp=>k0 rJ _ p (s2.trans (aj.new hp)) (e8 s2 hp) aC⟩)
   ·have s2:=zV fY;obtain⟨kN,kS⟩:=k1 f m DP;have cX:=Wy.KR x l f m;generalize Wy.jH x l f m=ws at *;obtain⟨ps,gx,lA⟩:=hW;have cR:ps.length=ws.length:=Paired.length lA;apply Z11 _ rfl rfl _ rfl (aO (dS ?_));obtain⟨ai,mQ,_⟩:=hK fun _=>True;have iD:=hR.keep mQ fY;obtain⟨Bi,lH⟩:=iD.bu;apply dj (fun σ H'=>H'=H2/\ws.find? (fun t=>t.1==kd)=none) (fun X hX=>?_) ?_
    ·apply Z24 _ rfl wl rfl ⟨_,aA.of gx⟩ ?_;apply ou (K:=K) (a:=wl) (xs:=ps.map V.ref) (fun q σ H'=>∃v6 v7 v8,σ=[some (.ref a),some (.int (k:Int)),some (.int (kd:Int)),some (.ref na),some (.ref ra),some (.ref wl),v6,v7,v8]/\H'=H2/\ws.find? (fun t=>t.1==kd)=(ws.drop q).find? fun t=>t.1==kd)
      (Z19 none none none rfl rfl rfl) (fun q σ H' _ h=>let ⟨_,_,_,_,s,_⟩:=h;by rw[s];exact aA.of gx) ?_ (fun σ H' h=>?_)
     ·rintro q v σ H' hv ⟨v6,v7,v8,rfl,rfl,o7⟩;rw[bR]at hv;cases lE:ps[q]? with
      | none=>rw[lE]at hv;cases hv
      | some pq =>
       rw[lE]at hv;cases hv;obtain⟨t,ju,jo⟩:=Paired.f9 lA lE;have hti:=cX t (fC ju);obtain⟨X3,e⟩:=fD.mp ju;rw[nk X3,e,qC]at o7;apply Z51 pq _ rfl (cS.of jo) rfl _ _ rfl _ _ (Z45 rfl _ _ rfl rfl ?_);apply Z71 _ rfl _ rfl rfl _ ⟨rfl,?_⟩;rw[lS];by_cases jP:t.1=kd
       ·rw[bY jP];rw[show(t.1==kd)=true by simpa using jP]at o7;have kS:=kS t o7;have aiw:(l.map fun y=>y.word).length=l.length:=by simp
        have MI:j5 (aV (l.map fun y=>y.word)) (some (t.2.1:Int)) (some ((t.2.1:Int)+(t.2.2:Int)))=aV (Wy.gB l t):=by rw[show(t.2.1:Int)+(t.2.2:Int)=((t.2.1+t.2.2:Nat):Int) by omega,T3 ⋯ (by rw[aiw];omega),show t.2.1+t.2.2-t.2.1=t.2.2 by omega];unfold Wy.gB;rw[List.map_take,List.map_drop]
        have Np:∀v∈Wy.gB l t,(∀c∈v,c∈bV)/\v.length<=32:=fun v hv=>by obtain⟨y,hy,rfl⟩:=cx.mp hv;have:=(hO.w y (FJ (x5 hy))).1;exact⟨Rm.zu this,qW this⟩
        have AL:(Wy.gB l t).length<=1000:=by unfold Wy.gB;have:=hO.n;rw[aL,gH,jX];omega
        have xE:=Ck (ws:=Wy.gB l t) fun v hv=>(Np v hv).2;apply a0 ⟨⟨_,rfl⟩,Z16 _ rfl ra _ Bi _ _ rfl lH T.fk T.pG rfl (Z101 _ rfl _ rfl _ rfl _ rfl _ _ ⟨rfl,rfl,Z23 _ rfl G.wa _ rfl (aA.of iD.wo) (fun z hz=>?_)⟩)⟩;rw[MI];have sz:=aj.new (o:=.ak (aV (Wy.gB l t))) hz;have iM:=zK (m:=32) (ws:=Wy.gB l t) fun v hv=>(Np v hv).2;apply Z13 _ z ((Wy.gB l t).map tx) rfl rfl (.inl (aA.of (by rw[aC,f6];rfl))) ?_ ?_
        ·rw[Df,aL];show _+_*1<=16777216;omega
        ·rw[So];apply Z28 _ rfl (fun v hv=>Jm (fun w hw=>(Np w hw).1) v hv) ⋯ (fun H5 p s5 hp AR=>kS H5 p (s2.trans (sz.trans s5)) (e8 (s2.trans sz) hp) AR)
       ·rw[bZ jP];rw[show(t.1==kd)=false by simpa using jP]at o7;exact aO (Z19 _ _ _ rfl rfl o7)
     ·obtain⟨v6,v7,v8,rfl,rfl,o7⟩:=h;rw[aL,cR,x8]at o7;exact hX _ _ ⟨rfl,o7⟩
    ·rintro σ H' ⟨rfl,o7⟩;exact⟨eY,fun p hp=>kN o7 _ p (s2.trans (aj.new hp)) (e8 s2 hp) aC⟩
def il (k:Nat):aP:=.inl (k:Int)
def adT {a b:Nat}:il a=il b↔a=b:=by apply⟨fun h=>?_,fun h=>by rw[h]⟩;unfold il at h;injection h with h;omega
def jg (H:Hp)(pt:ae)(ai:List (aP×V))(y:Po.Parts):Prop:=H pt=some (.dK ai)/\Paired (fun(kv:aP×V)(q:Nat×List Word)=>kv.1=il q.1/\∃a,kv.2=V.ref a/\H a=some (.ak (aV q.2))) ai y
def jg.same {H H':Hp}{pt:ae}{ai:List (aP×V)}{y:Po.Parts}(h:jg H pt ai y)(s:aj H H'):jg H' pt ai y:=⟨s _ _ h.1,L2.Paired.dc h.2 fun kv q ⟨h1,a,h2,h3⟩=>⟨h1,a,h2,s _ _ h3⟩⟩
def jg.keep {H H':Hp}{pt r C dx:ae}{fs:List (Str×V)}{ai:List (aP×V)}{y:Po.Parts}(h:jg H pt ai y)(hr:H r=some (.bc C dx fs))(k:bf r H H'):jg H' pt ai y :=
 ⟨k _ _ h.1 (aJ h.1 hr nofun),L2.Paired.dc h.2 fun kv q ⟨h1,a,h2,h3⟩=>⟨h1,a,h2,k _ _ h3 (aJ h3 hr nofun)⟩⟩
theorem zi {H:Hp}:∀{ai:List (aP×V)}{y:Po.Parts},Paired (fun(kv:aP×V)(q:Nat×List Word)=>kv.1=il q.1/\∃a,kv.2=V.ref a/\H a=some (.ak (aV q.2))) ai y->∀k:Nat,(y.find? (fun q=>q.1==k)=none/\dk ai (il k)=none)\/∃q a,y.find? (fun q=>q.1==k)=some q/\dk ai (il k)=some (V.ref a)/\H a=some (.ak (aV q.2))
 | _,_,.nil,k=>.inl ⟨rfl,rfl⟩
 | _,_,.cons (a:=kv) (b:=q) ⟨h1,a,h2,h3⟩ t,k=>by
  by_cases hk:q.1=k
  ·apply .inr (Z14 q a ?_ ?_ h3)
   ·rw[qC,show(q.1==k)=true by simpa using hk]
   ·rw[ml (by rw[h1,hk]),h2]
  ·have e1:(q.1==k)=false:=by simpa using hk
   have e2:¬kv.1=il k:=fun e=>hk (adT.mp (h1.symm.trans e));rw[qC,e1,mm e2];exact zi t k
def ag9:Sp:=fun vs H Q _=>∃(pt:ae)(ai:List (aP×V))(y:Po.Parts),vs=[.ref pt]/\jg H pt ai y/\∀(H':Hp)(a:ae),aj H H'->H a=none->H' a=some (.ak (aV (Pt.names (y.map (·.1)))))->Q (.ref a) H'
noncomputable def t5 (y:Po.Parts)(i:Nat):List ajG:=(((List.range 9).take i).filter fun k=> !(y.map (·.1)).contains k).map Pm.eR
def Rv:bD ["parts","kind","name"] ["parts"] (aR GY):=bL
def aaC (T:Tx K mg):bg P w K mg base (bw P w) 2 T.Hb T.PN ["parts"] ag9:=by
 exists T.yz.cj Rv
 ·obtain⟨pt,ai,y,rfl,_⟩:=h;rfl
 ·obtain⟨pt,ai,y,rfl,hP,kk⟩:=h;obtain⟨ka,mK,tK⟩:=(T.tu T.ub);rw[zF]at tK;have nd:=Rv.nd;apply⟨_,aF (aY (jF rfl nd (UA rfl (T.tn T.vX) (ao (bh (v:=.ref ka) rfl mK rfl) ax)) (ic (N:=["parts","kind","name"]) (sc:=aR GY) (bO:=[("kind",1),("name",2)]) (by decide+kernel))
   (fun _ _ _ _ _=>(jj rfl (dF (b9 (i:=1) nd rfl (Or.inl rfl)) (dF (b9 (i:=2) nd rfl (Or.inl rfl)) jf)):PG _ _ (uP K 2 _))) (fun _ _ _ _ _=>Vh (Dy (Ti (my hr) (pv 1) (pv 0)))) (fun _ _ _ _ _=>pv 2))),?_⟩
  apply Z14 ka _ rfl (tK.sq _) (fun D hD=>?_);apply wH 9 (fun i H3=>aj H H3/\H3 D=some (.ak (aV (t5 y i)))) ⟨aj.new hD,aC⟩ (fun i H3 hi _=>⟨tK.sq _,hi⟩) (fun H3 _=>⟨tK.sq _,bo _⟩) (fun i v H3 H4 hi h3 hy=>?_) (fun H3 h3=>?_)
  ·obtain⟨s3,bT⟩:=h3;obtain⟨Tt,nm,rfl,hT,rfl,sO⟩:=hy;have Ms:nm= .str (tx (Pm.eR i)):=by
    have e:pW[i]?=some (V.str (tx (Pm.eR i))):=by
     have hk:∀j:Fin 9,pW[j.val]?=some (V.str (tx (Pm.eR j.val))):=by decide+kernel
     exact hk ⟨i,hi⟩
    rw[e]at sO;exact(d3 sO).symm
   subst Ms;have s4:aj H (L2.ay H3 Tt (.bp [.int (i:Int),.str (tx (Pm.eR i))])):=s3.trans (aj.new hT);have sP:(L2.ay H3 Tt (.bp [.int (i:Int),.str (tx (Pm.eR i))])) D=some (.ak (aV (t5 y i))):=by rw[aq (aQ bT hT)];exact bT
   have xV:=hP.same s4;have bN:(aV (t5 y i)).length<=9:=by unfold aV t5;rw[aL,aL];apply b3 (tH _ _) ?_;rw[gH];simp;omega
   have X0:t5 y (i+1)=t5 y i++(if(!(y.map (·.1)).contains i)=true then[Pm.eR i]else[]):=by
    unfold t5;rw[Cn hi,List.filter_append,cV];congr 1;have vc:∀(p:Nat->Bool),([i].filter p).map Pm.eR=if p i=true then[Pm.eR i]else[]:=fun p=>by cases h:p i<;>simp[h]
    exact vc _
   apply Z51 Tt _ rfl (cS.of aC) rfl _ _ rfl _ _ ⟨rfl,rfl,rfl,?_⟩;apply Z83 _ rfl _ rfl pt _ rfl (gX.k (k:=il i) xV.1) _ rfl ?_;rcases zi xV.2 i with⟨hf,hv⟩|⟨q,a,hf,hv,_⟩
   ·rw[hv];have hc:(!(y.map (·.1)).contains i)=true:=by rw[Bu]at hf;simp;intro b hb;have:=hf (i,b) hb;simp at this
    apply a0 (Z62 _ rfl _ sP (jd bN (by decide)) (s4.i0 hD) ?_);rw[aC,X0,aE hc];simp[aV]
   ·rw[hv];have hc:¬(!(y.map (·.1)).contains i)=true:=by have h1:=pE hf;have h2:=List.find?_some hf;simp at h2;simp;exact⟨q.2,by rw[<-h2];exact h1⟩
    apply aO ⟨s4,?_⟩;rw[X0,aB hc,nq];exact sP
  ·obtain⟨s3,bT⟩:=h3;apply kk H3 D s3 hD ?_;rw[bT];rfl
def aey (gT:ae):Sp:=fun vs H Q E=>∃b:ajG,vs=[.str (tx b)]/\b.length<=1000000/\(∀y,Po.readParts b= .ok y->(∀q∈y,q.1<9/\(∀w∈q.2,Po.fullWord w=true)/\q.2.length<=8/\q.2≠[])->y.length<=9->∀(H':Hp)(pt:ae)(ai:List (aP×V)),aj H H'->jg H' pt ai y->Q (.ref pt) H')/\∀k,Po.readParts b= .error k->gV gT E (aj H) k
def Qu:bD ["text","reader","parts","kind"] ["text"] (aR QY):=bL
def acG (bH:List Nat):(∀o∈Pt.names bH,(∀c∈o,c∈bV)/\o.length<=100)/\(Pt.names bH).length<=100:=by
 constructor
 ·intro o ho;have key:∀o∈Pt.KN,(∀c∈o,c∈bV)/\o.length<=100:=by decide+kernel
  exact key o (Pt.zj bH o ho)
 ·unfold Pt.names Pt.left;rw[aL];exact b3 (tH _ _) (by decide)
def jg.add {H:Hp}{pt a:ae}{ai:List (aP×V)}{y:Po.Parts}{k:Nat}{ws:List Word}(h:jg H pt ai y)(ha:H a=some (.ak (aV ws)))(hk:k∉y.map (·.1)):ff ai (il k) (V.ref a)=ai++[(il k,V.ref a)]/\jg (L2.ay H pt (.dK (ff ai (il k) (V.ref a)))) pt (ai++[(il k,V.ref a)]) (y++[(k,ws)]):=by
 have hv:dk ai (il k)=none:=by
  rcases zi h.2 k with⟨_,hv⟩|⟨q,b,hf,_,_⟩
  ·exact hv
  ·exfalso;have h1:=pE hf;have h2:=List.find?_some hf;simp at h2;exact hk (cx.mpr ⟨q,h1,h2⟩)
 have e:=adH (V.ref a) hv;apply⟨e,by rw[aC,e],Paired.snoc (L2.Paired.dc h.2 fun kv q ⟨h1,b,h2,h3⟩=>⟨h1,b,h2,?_⟩) ⟨rfl,a,rfl,?_⟩⟩
 ·rw[aq (aJ h3 h.1 nofun)];exact h3
 ·rw[aq (aJ ha h.1 nofun)];exact ha
def ZQ (T:Tx K mg):bg P w K mg base (bw P w) 7 T.Ip T.Ra ["text"] (aey T.d4):=by
 have GI:= @Ql P w K mg base T;have GF:= @F6 P w K mg base T;have GC:= @FP P w K mg base T;have GN:= @aaC P w K mg base T;have GD:= @BL P w K mg base T;have GW:= @QG P w K mg base T;exists T.yP.iy Qu
 ·obtain⟨b,rfl,_⟩:=h;rfl
 ·obtain⟨b,rfl,hb,k1,k2⟩:=h;obtain⟨ka,mK,tK⟩:=(T.tu T.ub);rw[zF]at tK;obtain⟨uM,mM,rM⟩:=(T.tg T.Gk);have nd:=Qu.nd;apply Z10 _ (aD (bB (i:=1) nd rfl Olr (zI T.Cw GI hr.ww rfl (T.tm T.C8) (cp T.yM) .nil bE (ao (pv 0) ax)))
   (aD (bB (i:=2) nd rfl Olr Kv)
   (aD (qR pU (lV (gm (nB (pv 1) T.cE T.yl GF hr.ww (dE T.vQ) .nil bE)))
    (aD (bB (i:=3) nd rfl Olr (gp PySem.F.plainAttrs_tuple PySem.F.slot_tuple_index PySem.F.type_tuple_index Tr (bh (v:=.ref ka) rfl mK rfl) (ao (cT (pv 1) T.cE T.yc GC hr.ww (cp T.vN) .nil cY.dO (ao (cy GN hr.ww rfl (T.tm T.Hm) T.yz.kp (dE T.yz) .nil bE (ao (pv 2) ax)) ax)) ax)))
    (aD (dR (cT (pv 1) T.cE T.pI GD hr.ww (cp T.oj) .nil cY.dO (ao (ie zy) ax)))
    (aD (K3 (my hr) (pv 2) (pv 3) (cT (pv 1) T.cE T.yf GW hr (jz T.vO) .nil cY.dO (ao bQ (ao (bh rfl mM rM) ax))) rfl)
    (aF (dR (cT (pv 1) T.cE T.pI GD hr.ww (cp T.oj) .nil cY.dO (ao (ie Dc) ax))))))))
   (aF (aY (pv 2)))))) ?_
  apply cF ?_;apply Z10 _ rfl (fun r dr nr M4 bJ=>Z20 r dr b rfl aC hb (fun H1 jr iE=>⟨rfl,ck ?_⟩));have s1:aj H H1:=aj.rT nr M4 iE;apply cF ?_;intro pt EV;apply ck ?_;have sp:=aj.new (o:=.dK []) EV;have aiE:H pt=none:=e8 s1 EV;have rF:∀{H2 H3:Hp},aj H H2->bf r H2 H3->aj H H3:=fun s k b o h=>k _ _ (s _ _ h) (aQ h nr)
  let W:Nat->L2.St->Hp->Prop:=fun m σ H'=>∃(y:Po.Parts)(ai:List (aP×V))(z:Nat)(v3:Option V),m=10-y.length/\σ=[some (.str (tx b)),some (.ref r),some (.ref pt),v3]/\cu T.cH H' r b z/\jg H' pt ai y/\aj H H'/\Pt.fc b y z
  let G:Nat->L2.St->Hp->Prop:=fun m σ H'=>∃(y:Po.Parts)(ai:List (aP×V))(z:Nat)(v3:Option V),m=10-y.length/\σ=[some (.str (tx b)),some (.ref r),some (.ref pt),v3]/\cu T.cH H' r b z/\jg H' pt ai y/\aj H H'/\Pt.fc b y z/\z<b.length
  let Ex:L2.St->Hp->Prop:=fun σ H'=>∃(y:Po.Parts)(ai:List (aP×V))(z:Nat)(v3:Option V),σ=[some (.str (tx b)),some (.ref r),some (.ref pt),v3]/\jg H' pt ai y/\aj H H'/\Pt.fc b y z/\z=b.length
  apply v9 W G Ex _ (Z35 [] [] 0 none rfl rfl (jr.same sp) ⟨aC,.nil⟩ (s1.trans sp) (Pt.fc.start b)) (fun X Y m σ H'=>?_) (fun m σ H'=>?_) (fun σ H'=>?_)
  ·rintro⟨y,ai,z,v3,rfl,rfl,dI,iN,sm,hw⟩ hX hY;obtain⟨⟨dD,gg⟩,hz,_⟩:=id dI;apply Z21 _ rfl r dD _ rfl gg rfl (Z104 r b z rfl dI _ rfl ?_);by_cases he:z=b.length
   ·rw[bY he];exact aO (hX _ _ (Z68 y ai z v3 rfl iN sm hw he))
   ·rw[bZ he];exact a0 (hY _ _ (Z58 y ai z v3 rfl rfl ⟨dI,iN,sm,hw,by omega⟩))
  ·rintro⟨y,ai,z,v3,rfl,rfl,dI,iN,sm,hw,hz⟩;obtain⟨⟨dD,gg⟩,Ng,_⟩:=id dI;have kn:=acG (y.map (·.1));apply cF ?_;apply Z77 (.inr (.inl ⟨rfl,tK.ty⟩)) _ rfl r dD _ rfl gg rfl (Z63 _ rfl pt ai y rfl iN (fun H2 na s2 jw aiN=>?_));have qj:=sm.trans s2;apply Z100 r na b z _ rfl (aA.of aiN) (Pt.wd _) kn.1 kn.2 (dI.same s2) (fun o q e hq ho H3 eL d6=>?_) (fun k e=>?_)
   ·obtain⟨kd,jP,rfl⟩:=cx.mp ho;have Mu:kd<9:=mi.mp (kY.mp jP).1;have aiV:kd∉y.map (·.1):=by simpa using (kY.mp jP).2
    have xN:=Pm.vY kd Mu;have ly:=rF qj d6;have qv:=(iN.same s2).keep (s2 _ _ gg) d6;obtain⟨⟨me,gR⟩,AI,_⟩:=id eL;have uV:Pt.step (y.map (·.1)) (b.drop z) z=Pm.gb (Pm.cW 32 (b.drop q) q) fun _ s z=>Pm.gb (Pm.gI 8 1 s z) fun l c y=>Pm.gb (Pm.cW 10 c y) fun _ d u=>.ok ((kd,l),d,u):=by unfold Pt.step;rw[e,Pm.bj,xN.1]
    apply Z80 ka pW (.str (tx (Pm.eR kd))) kd _ rfl rfl ⟨tK.sq _,rfl,by decide+kernel,Dl ⟨kd,Mu⟩,by simp[og],fun m z hm hz=>?_,ck ?_⟩
    ·have:=Dl ⟨m,by omega⟩;rw[this]at hz;rw[<-d3 hz];exact Sn ⟨kd,Mu⟩ ⟨m,by omega⟩ hm
    apply Z38 _ rfl r me _ rfl gR rfl r b 32 q ⟨rfl,by decide,eL,fun _ u e1 hu H4 jJ iO=>?_,fun k e1=>(k2 k (hw.tD hz (by rw[uV,e1,Pm.iX]))).fZ fun H4 h4=>rF ly h4⟩;have Xj:=rF ly iO;have xV:=qv.keep gR iO;obtain⟨⟨Bj,Fo⟩,hz4,_⟩:=id jJ;rw[e1,Pm.bj]at uV;apply Z63 _ rfl r Bj _ rfl Fo (Z81 rfl r b u 1 8 rfl (by decide) (by decide) (by decide) jJ (fun ws t e2 ht H5 wa kG gG nW Ml=>?_) (fun k e2=>(k2 k (hw.tD hz (by rw[uV,e2,Pm.iX]))).fZ fun H5 h5=>rF Xj h5));have xp:=rF Xj gG;have sW:=xV.keep Fo gG;obtain⟨⟨Og,YA⟩,hz5,_⟩:=id kG;rw[e2,Pm.bj]at uV;have cG:ai.length=y.length:=Paired.length sW.2;have hf:=hw.i9;obtain⟨ep,hP6⟩:=sW.add Ml aiV;apply Z52 _ rfl _ rfl pt _ rfl (qh.k (k:=il kd) sW.1 (jd (show ai.length<=100 by omega) (by decide))) ?_;have NZ:(L2.ay H5 pt (.dK (ff ai (il kd) (V.ref wa)))) r=some (.bc T.cH Og (qk b t)):=by rw[aq (aJ YA sW.1 nofun)];exact YA
    have MD:cu T.cH (L2.ay H5 pt (.dK (ff ai (il kd) (V.ref wa)))) r b t:=⟨⟨Og,NZ⟩,kG.2⟩;have Xi:aj H (L2.ay H5 pt (.dK (ff ai (il kd) (V.ref wa)))):=xp.i0 aiE;apply Z38 _ rfl r Og _ rfl NZ rfl r b 10 t ⟨rfl,by decide,MD,fun _ v e3 hv H7 aja YG=>?_,fun k e3=>(k2 k (hw.tD hz (by rw[uV,e3,Pm.iX]))).fZ fun H7 h7=>rF Xi h7⟩;rw[e3,Pm.bj]at uV;have lA:=hw.step hz uV hv;have Yl:=lA.i9;apply Z18 (10-(y++[(kd,ws)]).length) ?_ (y++[(kd,ws)]) _ v _ rfl rfl aja (hP6.keep NZ YG) (rF Xi YG) lA;rw[cq]at Yl⊢;simp at Yl⊢;omega
   ·refine(k2 k (hw.tD hz ?_)).fZ fun H3 h3=>rF qj h3;unfold Pt.step;rw[e,Pm.iX]
  ·rintro⟨y,ai,z,v3,rfl,iN,sm,hw,hz⟩;exact⟨_,rfl,k1 y (hw.ek hz) hw.lt hw.i9 H' pt ai sm iN⟩
def afz:([.str " ",.str ", ",.str "\n"]:List V)=Po.BETWEEN.map fun b=>V.str (tx b):=by decide+kernel
def afB {s:Nat}(h:s<=2):(Po.BETWEEN.map fun b=>V.str (tx b))[s]?=some (V.str (tx (Po.BETWEEN.getD s []))):=by
 match s,h with
 | 0,_=>rfl
 | 1,_=>rfl
 | 2,_=>rfl
def afA {s:Nat}(h:s<=2):(∀c∈Po.BETWEEN.getD s [],c∈bV)/\(Po.BETWEEN.getD s []).length<=2:=by
 match s,h with
 | 0,_=>decide
 | 1,_=>decide
 | 2,_=>decide
def dA.ahn {CI CF:ae}{H H':Hp}{f pa ja pt:ae}{ps:List ae}{is:List bI}{js:List Nat}{ai:List (aP×V)}(F:dA CI CF H f pa ja ps is js)(hp:H pt=some (.dK ai))(k:bf pt H H'):dA CI CF H' f pa ja ps is js:=by apply⟨?_,k _ _ F.pc (aJ F.pc hp nofun),L2.Paired.dc F.it fun q i ⟨dx,h⟩=>⟨dx,k _ _ h (aJ h hp nofun)⟩,k _ _ F.jt (aJ F.jt hp nofun)⟩;obtain⟨dx,h⟩:=F.bu;exact⟨dx,k _ _ h (aJ h hp nofun)⟩
def FE (y:Po.Parts):Prop:=∀q∈y,q.1<9/\(∀w∈q.2,Po.fullWord w=true)/\q.2.length<=8/\q.2≠[]
def MP (x:aW):Prop:=(Po.shapes x).length<=1000/\∀s∈Po.shapes x,s.length<=1000000
def kJ.sh {x:aW}(hx:kJ x):MP x:=by apply⟨?_,fun s hs=>b3 (Ok.S6 hx.ok s hs).2 (by decide)⟩;unfold Po.shapes;exact b3 (List.length_filterMap_le _ _) (b3 hx.eO (by decide))
def KI {v:Word}(h:Po.fullWord v=true):(∀c∈v,c∈bV)/\v.length<=32/\v≠[]:=⟨Rm.zu (Rm.k6 h).1,qW (Rm.k6 h).1,(Rm.k6 h).2⟩
def adw (CI:ae):Sp:=fun vs H Q _=>∃(ia pt sa:ae)(ai:List (aP×V))(y:Po.Parts)(i:bI)(x:aW),vs=[.ref ia,.ref pt,.ref sa]/\lX CI H ia i/\i.kind<=9/\(∀c∈i.word,c∈bV)/\jg H pt ai y/\FE y/\H sa=some (.ak (aV (Po.shapes x)))/\MP x /\
 ∀H',aj H H'->Q (.bl (Pt.rn x y i)) H'
def acq:bD ["item","parts","shapes"] ["item","parts","shapes"] (aR QA):=bL
def acA (T:Tx K mg):bg P w K mg base (bw P w) 4 T.HR T.QM ["item","parts","shapes"] (adw T.bX):=by
 have GF:= @Q7 P w K mg base T;exists T.yJ.cj acq
 ·obtain⟨ia,pt,sa,ai,y,i,x,rfl,_⟩:=h;rfl
 ·obtain⟨ia,pt,sa,ai,y,i,x,rfl,⟨dm,hI⟩,kc,iA,hP,hy,dJ,kO,kk⟩:=h;obtain⟨uO,mO,rO⟩:=(T.tg T.we);apply⟨_,aD (bU (Dy (VO (my hr) (aX (pv 0) rfl) (pv 1))) (aF (aY (cy GF hr rfl (T.tm T.Cb) T.tT.kp (jz T.tT) .nil bE (ao (pv 0) (ao (Vm (my hr) (pv 1) (aX (pv 0) rfl) (fun _ _=>rfl)) (ao (pv 2) ax)))))) b5)
   (aF (aY (LR (aX (pv 0) rfl) (kx (iT dW (aX (pv 0) rfl) (bh rfl mO rO) (bS _)))))),?_⟩
  apply Z30 _ rfl ia _ dm _ _ rfl hI T.fU (Z75 T.jC rfl _ rfl pt _ rfl (gX.k (k:=il i.kind) hP.1) _ rfl ?_);unfold Pt.rn at kk;rcases zi hP.2 i.kind with⟨hf,hv⟩|⟨q,a,hf,hv,ha⟩
  ·rw[hf]at kk;simp only at kk;rw[hv];apply aO (dS ?_);apply Lx i.may (i.kind==9) (fun Q' q'=>Z16 _ rfl ia _ dm _ _ rfl hI T.fU T.qF rfl q') (fun Q' q'=>Z31 _ rfl ia _ dm _ _ ⟨rfl,hI,T.fU,T.jC,rfl,rfl,?_⟩) (kk H (aj.refl _));rw[show decide (V.int (i.kind:Int)=V.int 9)=decide (i.kind=9)from lS (j:=9)];have:decide (i.kind=9)=(i.kind==9):=by rw[Bool.eq_iff_iff];simp
   rw[this];exact q'
  ·rw[hf]at kk;simp only at kk;rw[hv];have hq:=hy q (pE hf);have hg:=gX.k (k:=il i.kind) hP.1;rw[hv]at hg;have My:=Fi.LG x i kc q.2 fun v hv=>(Rm.k6 (hq.2.1 v hv)).1;rw[<-My]at kk;apply a0 (Z56 _ rfl _ rfl _ rfl (Z67 ia _ dm _ _ rfl hI T.fU T.jC rfl pt _ ⟨rfl,hg,Z107 _ rfl ia a sa i q.2 _ ⟨rfl,⟨dm,hI⟩,kc,fun _=>iA,⟨aA.of ha,fun v hv=>?_⟩,?_,aA.of dJ,kO.1,kO.2,kk⟩⟩))
   ·have:=KI (hq.2.1 v hv);exact⟨Rm.CN (Rm.k6 (hq.2.1 v hv)).1,this.2.2,by omega⟩
   ·have:=zK (m:=32) (ws:=q.2) fun v hv=>(KI (hq.2.1 v hv)).2.1;have:=hq.2.2.1;omega
def ahX (CI CF:ae):Sp:=fun vs H Q _=>∃(f pa ja pt sa:ae)(ps:List ae)(ai:List (aP×V))(y:Po.Parts)(fo:Po.Form)(x:aW),vs=[.ref f,.ref pt,.ref sa]/\dA CI CF H f pa ja ps fo.items (fo.more.map (·.1))/\fo.items.length<=16/\(∀i∈fo.items,i.kind<=9/\∀c∈i.word,c∈bV)/\jg H pt ai y/\FE y/\y.length<=9/\H sa=some (.ak (aV (Po.shapes x)))/\MP x /\
 ∀H',aj H H'->Q (.bl (Po.printable x fo y)) H'
def Qy:bD ["form","parts","shapes","kind","item"] ["form","parts","shapes"] (aR BS):=bL
def ZV (T:Tx K mg):bg P w K mg base (bw P w) 5 T.Hx T.Qb ["form","parts","shapes"] (ahX T.bX T.cn):=by
 have GH:= @PK P w K mg base T;have GA:= @acA P w K mg base T;exists T.yD.cj Qy
 ·obtain⟨f,pa,ja,pt,sa,ps,ai,y,fo,x,rfl,_⟩:=h;rfl
 ·obtain⟨f,pa,ja,pt,sa,ps,ai,y,fo,x,rfl,hF,Bc,rX,hP,hy,Nk,dJ,kO,kk⟩:=h;have nd:=Qy.nd;have bN:ps.length=fo.items.length:=Paired.length hF.it;rw[Pt.aab x fo fun q hq=>(hy q hq).1]at kk;apply Z10 _ (aD (bU (lV (gm (ae1 (cD (zT rfl) rfl (T.tn T.uk) (by decide+kernel) (ao (jF rfl nd (aeY (pv 1)) (ic (N:=["form","parts","shapes","kind","item"]) (sc:=aR BS) (bO:=[("kind",3)]) (by decide+kernel)) (fun _ _ _ _ _=>b9 (i:=3) nd rfl Olr) (fun _ _ _ _ _=>iR)
    (fun _ _ _ _ _=>cT (pv 0) T.ij T.BR GH hr.ww (cp T.yE) .nil bE (ao (pv 3) ax))) ax))))) (aF (aY rq)) b5)
   (aF (aY (cD (zT rfl) rfl (T.tn T.uk) (by decide+kernel) (ao (jF rfl nd (iS (aX (pv 0) rfl)) (ic (N:=["form","parts","shapes","kind","item"]) (sc:=aR BS) (bO:=[("item",4)]) (by decide+kernel)) (fun _ _ _ _ _=>b9 (i:=4) nd rfl Olr) (fun _ _ _ _ _=>iR)
    (fun _ _ _ _ _=>cy GA hr rfl (T.tm T.HY) T.yJ.kp (jz T.yJ) .nil bE (ao (pv 4) (ao (pv 1) (ao (pv 2) ax))))) ax))))) ?_
  apply Z14 pt (.dK ai) hP.1 trivial (fun od=>?_);have kL:bf pt H (L2.ay H pt (.cK od (.dK ai))):=bf.ay _ _ _;have Ao:(L2.ay H pt (.cK od (.dK ai))) pt=some (.cK od (.dK ai)):=aC;have YK:=hF.ahn hP.1 kL;have i5:∀H3,aj (L2.ay H pt (.cK od (.dK ai))) H3->aj H (L2.ay H3 pt (.dK ai)):=fun H3 s3 b o h=>by
   by_cases e:b=pt
   ·rw[e]at h⊢;rw[hP.1]at h;rw[aC];exact h
   ·rw[aq e];exact s3 _ _ (kL _ _ h e)
  generalize L2.ay H pt (.cK od (.dK ai))=HL at kL Ao YK i5;have cG:ai.length=y.length:=Paired.length hP.2;apply Z33 _ rfl pt od ⟨rfl,.inl (Z10 ai Ao (fun D hD=>?_))⟩;apply k8 (y.map fun q=>V.bl (Pm.gK fo.items q.1)) (by rw[aL];exact b3 Nk (by decide)) hD (fun i H3 hi s3=>?_) (fun H3 s3=>?_) (fun i v z H3 H4 Kt hz s3 bT fz hk=>?_) (fun H3 s3 bT=>?_)
  ·rw[aL]at hi;exact⟨s3 _ _ Ao,by omega⟩
  ·rw[aL];exact⟨s3 _ _ Ao,by omega⟩
  ·obtain⟨rfl,k,v',nZ,rfl⟩:=fz;obtain⟨q,hq,gO,_⟩:=Paired.f9 hP.2 nZ;rw[bR,hq]at hz;cases hz;have sX:=YK.same s3;obtain⟨g0,mX⟩:=sX.bu;simp only at gO;subst gO;exact Z77 rfl _ rfl f g0 _ rfl mX rfl (Z50 _ rfl f pa ja ps fo.items _ q.1 rfl sX ⋯ (fun H5 s5=>hk H5 s5))
  ·apply Z26 D (y.map fun q=>Pm.gK fo.items q.1) rfl (aA.of (by rw[bT,f6];rfl)) (s3 _ _ Ao) ?_;have s4:=i5 H3 s3;generalize L2.ay H3 pt (.dK ai)=H4 at s4;have e:(y.map fun q=>Pm.gK fo.items q.1).all id=y.all fun q=>Pm.gK fo.items q.1:=by rw[List.all_map];rfl
   rw[e];apply Z10 _ rfl ?_;cases ha:y.all fun q=>Pm.gK fo.items q.1 with
   | false =>rw[ha,Bool.false_and]at kk;exact a0 (kk H4 s4)
   | true =>
    rw[ha,pF]at kk;apply aO (dS ?_);have qw:=hF.same s4;have xV:=hP.same s4;obtain⟨g0,mX⟩:=qw.bu;apply Z17 _ rfl f (Z78 _ g0 _ _ rfl mX T.ij T.nv rfl pa rfl ⟨_,aA.of qw.pc⟩ (fun D hD=>?_));apply k8 (fo.items.map fun i=>V.bl (Pt.rn x y i)) (by rw[aL];exact b3 Bc (by decide)) hD (fun i H5 hi s5=>?_) (fun H5 s5=>?_) (fun i v z H5 H6 Kt hz s5 Ye fz hk=>?_) (fun H5 s5 Ye=>?_)
    ·have iB:i<(ps.map V.ref).length:=by simp at hi⊢;omega
     exact⟨_,_,aA.of (s5 _ _ qw.pc),cB iB⟩
    ·exact⟨_,aA.of (s5 _ _ qw.pc),by simp[bN]⟩
    ·obtain⟨rfl,hx⟩:=fz;have hx:=hx _ (aA.of (s5 _ _ qw.pc));rw[bR]at hx;cases dP:ps[i]? with
     | none=>rw[dP]at hx;cases hx
     | some p =>rw[dP]at hx;cases hx;obtain⟨it,cb,dm,hI⟩:=Paired.f9 qw.it dP;rw[bR,cb]at hz;cases hz;have ok:=rX it (fC cb);exact Z91 rfl _ rfl _ rfl _ rfl p pt sa ai y (Z108 it x ⟨rfl,⟨dm,s5 _ _ hI⟩,ok.1,ok.2,xV.same s5,hy,s5 _ _ (s4 _ _ dJ),kO,fun H7 s7=>hk H7 s7⟩)
    ·apply Z14 D (fo.items.map fun i=>Pt.rn x y i) rfl (aA.of (by rw[Ye,f6];rfl)) ?_;have e:(fo.items.map fun i=>Pt.rn x y i).all id=fo.items.all (Pt.rn x y):=by rw[List.all_map];rfl
     rw[e];exact kk H5 (s4.trans s5)
def ahW (CI:ae):Sp:=fun vs H Q _=>∃(ia pt:ae)(ai:List (aP×V))(y:Po.Parts)(i:bI),vs=[.ref ia,.ref pt]/\lX CI H ia i/\jg H pt ai y /\
 ∀(H':Hp)(p:ae),aj H H'->H' p=some (.ak (aV ((Po.printedWith y i).getD [])))->Q (.ref p) H'
def ahd:bD ["item","parts"] ["item","parts"] (aR P6):=bL
def ahj (T:Tx K mg):bg P w K mg base (bw P w) 2 T.Hw T.Qa ["item","parts"] (ahW T.bX):=by
 exists T.yC.cj ahd
 ·obtain⟨ia,pt,ai,y,i,rfl,_⟩:=h;rfl
 ·obtain⟨ia,pt,ai,y,i,rfl,⟨dm,hI⟩,hP,kk⟩:=h;obtain⟨uO,mO,rO⟩:=(T.tg T.we);apply⟨_,aD (bU (cI dW (aX (pv 0) rfl) (bh rfl mO rO) (bS _)) (aF (aY (zD (gm (aX (pv 0) rfl)) (cz ax) (cz (ao (aX (pv 0) rfl) ax))))) b5)
   (aF (aY (Kw (my hr) (pv 1) (aX (pv 0) rfl) (cz ax) ⟨rfl,rfl,rfl,rfl⟩))),?_⟩
  apply Z17 _ rfl ia (Z36 _ dm _ _ rfl hI T.fU T.jC rfl rfl _ rfl ?_);rw[show decide (V.int (i.kind:Int)=V.int 9)=decide (i.kind=9)from lS (j:=9)];unfold Po.printedWith at kk;by_cases h9:i.kind=9
  ·rw[bY h9];rw[aE (show i.kind=Po.OWN from h9)]at kk;apply a0 (Z10 _ rfl (Z37 ia _ dm _ _ rfl hI T.fU T.qF rfl _ rfl ?_));cases hm:i.may with
   | true =>rw[hm,aE rfl]at kk;exact a0 ⟨bA _,fun p hp=>kk _ p (aj.new hp) aC⟩
   | false =>rw[hm,aB fE]at kk;exact aO (Z31 _ rfl ia _ dm _ _ ⟨rfl,hI,T.fU,T.vV,rfl,eY,fun p hp=>kk _ p (aj.new hp) aC⟩)
  ·rw[bZ h9];rw[aB (show¬i.kind=Po.OWN from h9)]at kk;apply aO (dS ?_);apply Z71 _ rfl pt rfl (.inl ⟨ai,.inl hP.1⟩) _ (Z81 rfl ia _ dm _ _ rfl hI T.fU T.jC rfl (bA _) (fun p hp=>?_));have sn:=aj.new (o:=.ak []) hp;have A9:=hP.same sn;apply⟨_,gX.k (k:=il i.kind) A9.1,?_⟩;rcases zi A9.2 i.kind with⟨hf,hv⟩|⟨q,a,hf,hv,ha⟩
   ·rw[hv];rw[hf]at kk;exact kk _ p sn aC
   ·rw[hv];rw[hf]at kk;exact kk _ a sn ha
def ace (CI CF:ae):Sp:=fun vs H Q _=>∃(f pa ja pt:ae)(ps:List ae)(ai:List (aP×V))(y:Po.Parts)(fo:Po.Form),vs=[.ref f,.ref pt]/\dA CI CF H f pa ja ps fo.items (fo.more.map (·.1))/\fo.items.length<=16/\(∀i∈fo.items,i.ok=true)/\(∀p∈fo.more,p.1<=2)/\jg H pt ai y/\FE y /\
 ((∀c∈Po.printed fo y,c∈bV)->(Po.printed fo y).length<=5000->∀H',aj H H'->Q (.str (tx (Po.printed fo y))) H')
def Sa:bD ["form","parts","text","strength","item","joint","words","between"] ["form","parts"] (aR Q0):=bL
def ZL {y:Po.Parts}(hy:FE y){i:bI}(hi:i.ok=true){ws:List Word}(h:Po.printedWith y i=some ws):ws.length<=8/\ws≠[]/\∀v∈ws,(∀c∈v,c∈bV)/\v.length<=32/\v≠[]:=by
 unfold Po.printedWith at h;split at h
 ·rename_i h9
  split at h
  ·cases h
  ·cases h;have:=KD hi;exact⟨by simp,by simp,fun v hv=>by simp at hv;subst hv;exact⟨this.2.1,this.2.2.1,this.2.2.2 h9⟩⟩
 ·cases e:y.find? (fun q=>q.1==i.kind)with
  | none=>rw[e]at h;cases h
  | some q =>rw[e]at h;cases h;have:=hy q (pE e);exact⟨this.2.2.1,this.2.2.2,fun v hv=>KI (this.2.1 v hv)⟩
def abq (T:Tx K mg):bg P w K mg base (bw P w) 3 T.Ir T.Rc ["form","parts"] (ace T.bX T.cn):=by
 have GP:= @Ly P w K mg base T;have GW:= @ahj P w K mg base T;exists T.yR.cj Sa
 ·obtain⟨f,pa,ja,pt,ps,ai,y,fo,rfl,_⟩:=h;rfl
 ·obtain⟨f,pa,ja,pt,ps,ai,y,fo,rfl,hF,Bc,rX,D6,hP,hy,kk⟩:=h;obtain⟨tb,mB,tB⟩:=(T.tu T.JZ);rw[afz]at tB;obtain⟨uZ,mZ,rZ⟩:=(T.tg T.qY);have nd:=Sa.nd;apply Z10 _ (aD (bB (i:=2) nd rfl Olr (ie (b:=[]) (by decide+kernel))) (aD (bB (i:=3) nd rfl Olr (bh rfl mZ rZ))
   (aD (jh PassesOwn.never rfl (iS (nB (pv 0) T.ij T.x9 GP hr.ww (dE T.vL) .nil bE)) (jj rfl (dF (b9 (i:=4) nd rfl Olr) (dF (b9 (i:=5) nd rfl Olr) jf)))
    (aD (bB (i:=6) nd rfl Olr (cy GW hr rfl (T.tm T.HC) T.yC.kp (cp T.yC) .nil bE (ao (pv 4) (ao (pv 1) ax))))
    (aF (bU (t8 (pv 6) (fun _=>rfl))
     (aD (bB (i:=7) nd rfl Olr (zD (t8 (pv 2) (fun _=>rfl)) (cZ zR (bh (v:=.ref tb) rfl mB rfl) (pv 3) (fun _ _=>rfl)) (ie (b:=[]) (by decide+kernel))))
     (aD (uf (i:=2) nd rfl Olr (e9 abo (pv 7) (Dk zQ (pv 6))) RO)
     (aF (bB (i:=3) nd rfl Olr (pv 5)))))
     (aF (bB (i:=3) nd rfl Olr (cD (Kf rfl) rfl (T.tn T.zZ) (by decide+kernel) (ao (pv 3) (ao (pv 5) ax)))))))))
   (aF (aY (pv 2)))))) ?_
  apply cF ?_;apply ck ?_;apply cF ?_;apply ck ?_;obtain⟨g0,mX⟩:=hF.bu;have xG:=Wy.t7 fo;apply dj (fun σ H'=>∃v3 v4 v5 v6 v7,σ=[some (.ref f),some (.ref pt),some (.str (tx (Po.printed fo y))),v3,v4,v5,v6,v7]/\aj H H'/\(∀c∈Po.printed fo y,c∈bV)/\(Po.printed fo y).length<=5000) (fun X hX=>?_) ?_
  ·apply Z59 _ rfl f g0 _ rfl (Z102 mX rfl f pa ja ps fo.items _ rfl hF (Cy fo) ⋯ (fun H3 zl tz s3 dZ vz=>?_));obtain⟨lj,YB⟩:=vz;have sv:tz.length=fo.items.length:=by rw[Paired.length YB,List.length_zip];simp[Po.Form.items]
   apply Z12 zl rfl ⟨_,aA.of lj⟩ ?_;apply ou (K:=K) (a:=zl) (xs:=tz.map V.ref) (fun q σ H'=>∃t s v4 v5 v6 v7,σ=[some (.ref f),some (.ref pt),some (.str (tx t)),some (.int ((s:Nat):Int)),v4,v5,v6,v7]/\aj H3 H'/\s<=2/\(∀c∈t,c∈bV)/\t.length<=300*q/\Pt.go y (Wy.fH fo) [] 0=Pt.go y ((Wy.fH fo).drop q) t s)
    (Z48 [] 0 none none none none ⟨rfl,aj.refl _,bA _,by simp,bo _,rfl⟩) (fun q σ H' _ h=>let ⟨_,_,_,_,_,_,_,s,_⟩:=h;aA.of (s _ _ lj)) ?_ (fun σ H' h=>?_)
   ·rintro q v σ H' hv ⟨t,s,v4,v5,v6,v7,rfl,sm,gF,ES,l5,gZ⟩;rw[bR]at hv;cases ju:tz[q]? with
    | none=>rw[ju]at hv;cases hv
    | some tq =>
     rw[ju]at hv;cases hv;obtain⟨⟨iq,jq⟩,sG,pq,lI,jo⟩:=Paired.f9 YB ju;have WM:(Wy.fH fo)[q]?=some (iq,jq):=sG;obtain⟨sS,AZ⟩:=Pt.K0 WM;obtain⟨br,e⟩:=fD.mp WM;have ajz:q<16:=by omega
     have sR:jq<=2:=by
      rcases eQ.mp (fC AZ)with h|h
      ·obtain⟨p,hp,rfl⟩:=cx.mp h;exact D6 p hp
      ·simp at h;omega
     rw[nk br,e,Pt.go]at gZ;apply Z39 tq _ rfl (cS.of (sm _ _ jo)) rfl _ _ rfl _ _ rfl rfl ?_;apply cF ?_;obtain⟨qx,lI⟩:=lI;apply Z90 _ rfl _ rfl pq pt ai y iq rfl ⟨⟨qx,sm _ _ lI⟩,(hP.same s3).same sm,fun H5 wp s5 EN=>ck ?_⟩;have xp:=sm.trans s5;apply Z15 _ rfl _ (.inl ⟨_,aA.of EN,rfl⟩) ?_;cases hp:Po.printedWith y iq with
     | none =>
      rw[hp]at gZ EN;simp only at gZ;apply aO (Z64 _ rfl _ rfl _ (Z107 _ rfl t (max s jq) (some (.ref pq)) (some (.int (jq:Int))) (some (.ref wp)) v7 ⟨?_,xp,by omega,ES,by omega,gZ⟩));have:(if(jq:Int)>(s:Int)then(jq:Int)else(s:Int))=((max s jq:Nat):Int):=by split<;>omega
      show[some (V.ref f),some (V.ref pt),some (V.str (tx t)),some (V.int (if(jq:Int)>(s:Int)then(jq:Int)else(s:Int))),some (V.ref pq),some (V.int (jq:Int)),some (V.ref wp),v7]=_;rw[this]
     | some ws =>
      rw[hp]at gZ EN;simp only at gZ;obtain⟨w8,wne,MT⟩:=ZL hy (rX iq (fC sS)) hp;have bJ:(!(aV ((some ws).getD [])).isEmpty)=true:=by
       cases ws with
       | nil=>exact absurd rfl wne
       | cons a b=>rfl
      rw[bJ];have xE:=Ck (ws:=ws) fun v hv=>(MT v hv).2.1;have hbo:=afA gF;apply a0 ?_;generalize sU:(if t=[]then([]:ajG)else Po.BETWEEN.getD s [])=bt at gZ;have ai6:(∀c∈bt,c∈bV)/\bt.length<=2:=by
       rw[<-sU];split
       ·exact⟨by simp,by simp⟩
       ·exact hbo
      have iM:=zK (m:=32) (ws:=ws) fun v hv=>(MT v hv).2.1;apply dj (fun b4 H6=>b4=[some (.ref f),some (.ref pt),some (.str (tx t)),some (.int (s:Int)),some (.ref pq),some (.int (jq:Int)),some (.ref wp),some (.str (tx bt))]/\H6=H5) (fun Y hY=>?_) ?_
      ·apply Z15 _ rfl _ ⟨by rw[dz];exact fO ⋯,rfl⟩ ?_;rw[CS];by_cases ht:t=[]
       ·rw[bZ (show¬t≠[]from fun q=>q ht)];rw[aE ht]at sU;subst sU;exact aO (hY _ _ ⟨rfl,rfl⟩)
       ·rw[bY (show t≠[]from ht)];rw[aB ht]at sU;subst sU;exact a0 (Z44 _ rfl tb _ _ _ rfl rfl (tB.sq _) (dH (j:=s) (afB gF)) (hY _ _ ⟨rfl,rfl⟩))
      ·rintro b4 H6 ⟨rfl,rfl⟩;apply Vc _ rfl ?_;apply Z11 _ rfl ⟨_,rfl⟩ _ rfl (Z13 _ wp (ws.map tx) rfl rfl (.inl (aA.of (by rw[EN,f6];rfl))) ?_ ?_)
       ·rw[Df,aL];show _+_*1<=16777216;omega
       ·rw[So];apply Z26 _ _ rfl rfl ?_ ?_
        ·rw[dz,dz];exact fO ⋯
        ·rw[JN];apply Z26 _ _ rfl rfl ?_ ?_
         ·rw[dz,dz,cq];exact fO ⋯
         ·rw[JN];apply Z107 _ rfl (t++(bt++Po.spaced ws)) jq _ _ _ _ ⟨rfl,xp,sR,?_,?_,gZ⟩
          ·intro c hc;rcases eQ.mp hc with hc|hc
           ·exact ES c hc
           ·rcases eQ.mp hc with hc|hc
            ·exact ai6.1 c hc
            ·exact Jm (fun v hv=>(MT v hv).1) c hc
          ·rw[cq,cq];omega
   ·obtain⟨t,s,v4,v5,v6,v7,rfl,sm,gF,ES,l5,gZ⟩:=h;rw[aL,sv]at gZ l5;rw[Bv ⋯]at gZ;have vD:Pt.Aw fo y:=Pt.afq (fun q hq=>⟨(hy q hq).2.1,(hy q hq).2.2.2⟩) fun i hi h9=>(KD (rX i hi)).2.2.2 h9;have et:Po.printed fo y=t:=by rw[<-Pt.ahG fo y vD,gZ];rfl
    exact hX _ _ (Z80 _ _ _ _ _ (by rw[et]) (s3.trans sm) ⟨by rw[et];exact ES,by rw[et];omega⟩)
  ·rintro σ H' ⟨v3,v4,v5,v6,v7,rfl,sm,h1,h2⟩;exact⟨_,rfl,kk h1 h2 H' sm⟩
def aas (K:aI)(gT CM CI CF CR CL:ae):Sp:=fun vs H Q E=>∃(a na ru:ae)(n k:Nat)(A:eP)(x:aW)(zs:List Int),vs=[.ref a,.int (k:Int),.ref na]/\lq CL H a (.ref ru)/\cg CI CF CR H ru n A x/\aA K H na (zs.map V.int)/\zs.length<=1000000/\(∀z∈zs,0<=z/\z<256)/\kJ x /\
 (65536<zs.length->nG CM E (aj H))/\(zs.length<=65536->(∀e,Po.readParts (cU zs)= .error e->gV gT E (aj H) e)/\∀y,Po.readParts (cU zs)= .ok y ->
  ((Po.forms x)[k]?=none->∀(H':Hp)(p:ae),aj H H'->H p=none->H' p=some (.ak [.int (-4)])->Q (.ref p) H') /\
  ∀f,(Po.forms x)[k]?=some f->(Po.printable x f y=false->∀(H':Hp)(p:ae),aj H H'->H p=none->H' p=some (.ak [.int (-3)])->Q (.ref p) H') /\
   (Po.printable x f y=true->∀(H':Hp)(p:ae),aj H H'->H p=none->H' p=some (.ak (rp (Po.printed f y)))->(Po.printed f y).length<=5000->Q (.ref p) H'))
def Qp:bD ["self","number","numbers","parts","form"] ["self","number","numbers"] (aR Pa):=bL
def ZM (T:Tx K mg):bg P w K mg base (bw P w) 10 T.Gv T.Pk ["self","number","numbers"] (aas K T.d4 T.gJ T.bX T.cn T.cQ T.fF):=by
 have GB:= @Sj P w K mg base T;have GR:= @ZQ P w K mg base T;have GI:= @ZV P w K mg base T;have GP:= @abq P w K mg base T;have GA:= @Gh P w K mg base T;exists T.BI.iy Qp
 ·obtain⟨a,na,ru,n,k,A,x,zs,rfl,_⟩:=h;rfl
 ·obtain⟨a,na,ru,n,k,A',x,zs,rfl,⟨dx,e6⟩,R,hN,dZ,oX,hx,k1,k2⟩:=h;obtain⟨u1,m1,r1⟩:=(T.tg T.yZ);obtain⟨u2,m2,r2⟩:=(T.tg T.CA);have nd:=Qp.nd;apply Z10 _ (aD (bB (i:=3) nd rfl Olr (cy GR hr.ww rfl (T.tm T.ID) T.yP.kp (dE T.yP) .nil cY.dO (ao (cy GB hr.ww rfl (T.tm T.BG) T.tL.kp (dE T.tL) .nil cY.dO (ao (pv 2) ax)) ax)))
   (aD (bU (cI zX (pv 1) (cD gA rfl (T.tn T.d5) e7 (ao (aX (aX (pv 0) rfl) rfl) ax)) (bS _)) (aF (aY (cz (ao (bh rfl m1 r1) ax)))) b5)
   (aD (bB (i:=4) nd rfl Olr (cZ eU (aX (aX (pv 0) rfl) rfl) (pv 1) (fun _ _=>rfl)))
   (aD (bU (lV (gm (cy GI hr.ww rfl (T.tm T.HD) T.yD.kp (jz T.yD) .nil bE (ao (pv 4) (ao (pv 3) (ao (aX (aX (pv 0) rfl) rfl) ax)))))) (aF (aY (cz (ao (bh rfl m2 r2) ax)))) b5)
   (aF (aY (cy GA hr.ww rfl (T.tm T.yw) T.pH.kp (dE T.pH) .nil bE (ao (cy GP hr.ww rfl (T.tm T.IF) T.yR.kp (cp T.yR) .nil bE (ao (pv 4) (ao (pv 3) ax))) ax)))))))) ?_
  apply cF ?_;apply Z33 _ rfl na zs ⟨rfl,hN,dZ,oX,k1,fun xW H1 s1=>?_⟩;obtain⟨kf,ko⟩:=k2 xW;apply Z28 (cU zs) rfl (by simpa[cU]using dZ) (fun y hy WH Nk H2 pt ai s2 hP=>ck ?_) (fun e he=>(kf e he).fZ fun H2 s2=>s1.trans s2);obtain⟨kno,kfo⟩:=ko y hy;have j7:=s1.trans s2;have R2:=R.same j7;obtain⟨dr,i8⟩:=R2.bu;have xj:=j7 _ _ e6;have iM:(A'.fs.map fun g=>V.ref g.f).length=(Po.forms x).length:=by rw[aL];exact Paired.length R.fs
  apply Z15 _ rfl _ rfl (Z67 a _ dx _ _ rfl xj T.gn T.ki rfl ru _ (Z20 dr _ _ rfl i8 T.dG (Z84 T.nt rfl A'.fa _ rfl (.inl (aA.of R2.fo)) _ _ rfl rfl _ rfl ?_)));rw[iM];by_cases hk:(Po.forms x).length<=k
  ·rw[bY (show(((Po.forms x).length:Nat):Int)<=(k:Int) by omega)];exact a0 ⟨eY,fun p hp=>kno (List.getElem?_eq_none hk) _ p (j7.trans (aj.new hp)) (e8 j7 hp) aC⟩
  ·rw[bZ (show¬(((Po.forms x).length:Nat):Int)<=(k:Int) by omega)];apply aO (dS ?_);have A3:A'.fs.length=(Po.forms x).length:=Paired.length R.fs;have Oe:=cB (l:=A'.fs) (i:=k) ⋯;generalize A'.fs[k]=g at Oe;obtain⟨f,Yi,YJ⟩:=Paired.f9 R2.fs Oe;have fm:=fC Yi;have mR:=Ok.KJ hx.ok f fm;have E9:=hx.fs;obtain⟨kn,ky⟩:=kfo f Yi;apply cF ?_;apply Z30 _ rfl a _ dx _ _ rfl xj T.gn (Z106 T.ki rfl ru _ dr _ _ rfl i8 T.dG T.nt rfl (Z44 _ rfl A'.fa _ _ _ rfl rfl (aA.of R2.fo) (dH (j:=k) (by rw[bR,Oe];rfl)) (ck ?_)));apply Z15 _ rfl _ rfl (Z16 _ rfl a _ dx _ _ rfl xj T.gn T.ki rfl (Z67 ru _ dr _ _ rfl i8 T.dG T.pJ rfl g.f g.pa (Z72 g.ja pt A'.sa g.ps ai y f x rfl YJ mR.i9 (E9.ok f fm) ⟨hP,WH,Nk,R2.sh,hx.sh,fun H3 s3=>Z10 _ rfl ?_⟩)));have Ey:=j7.trans s3;cases EW:Po.printable x f y with
   | false =>exact a0 ⟨eY,fun p hp=>kn EW _ p (Ey.trans (aj.new hp)) (e8 Ey hp) aC⟩
   | true =>apply aO (dS ?_);apply Z66 _ rfl _ rfl g.f g.pa g.ja pt g.ps ai y f ⟨rfl,YJ.same s3,mR.i9,mR.ok,mR.cw,hP.same s3,WH,fun h1 h2 H4 s4=>?_⟩;exact Z28 _ rfl h1 ⋯ (fun H5 p s5 hp AR=>ky EW H5 p ((Ey.trans s4).trans s5) (e8 (Ey.trans s4) hp) AR h2)
def l3 (CI CF CR CL:ae)(H:Hp)(a:ae):Option aW->Prop
 | none=>lq CL H a .bx
 | some x=>∃ru A,lq CL H a (.ref ru)/\cg CI CF CR H ru x.length A x/\kJ x
def l3.same {CI CF CR CL:ae}{H H':Hp}{a:ae}{st:Option aW}(h:l3 CI CF CR CL H a st)(s:aj H H'):l3 CI CF CR CL H' a st:=by
 cases st with
 | none=>obtain⟨dx,h⟩:=h;exact⟨dx,s _ _ h⟩
 | some x=>obtain⟨ru,A,⟨dx,h1⟩,h2,h3⟩:=h;exact⟨ru,A,⟨dx,s _ _ h1⟩,h2.same s,h3⟩
def lZ (r:Wqatcl.Ans):List V:=V.int r.ret::r.nums.map fun n=>V.int ((n:Nat):Int)
def xt (zs:List Int):Prop:=∀z∈zs,0<=z/\z<256
inductive mw:Nat->List Int->List Int->Wqatcl.Call->Prop where
 | take {zs:List Int}:xt zs->mw 0 [] zs (.take (cU zs))
 | count {zs:List Int} (n:Nat):mw 1 [(n:Int)] zs (.count n)
 | plain {zs:List Int}:xt zs->mw 2 [] zs (.plain (cU zs))
 | ways {zs:List Int}:mw 3 [] zs (.ways zs)
 | way {zs:List Int} (i:Nat):mw 4 [(i:Int)] zs (.way i zs)
 | part {zs:List Int} (i k:Nat):mw 5 [(i:Int),(k:Int)] zs (.part i k zs)
 | print {zs:List Int} (f:Nat):xt zs->mw 6 [(f:Int)] zs (.print f (cU zs))
def abT:Wqatcl.wide=mx:=rfl
def JP {CF CM:ae}{H:Hp}{E:XK}{x:aW}{zs:List Int}{g:List bP->Wqatcl.Ans}{ok:Prop}(hm:Wqatcl.ofText x zs g=Wqatcl.MUCH->nG CM E (aj H))(hf:∀k,Wqatcl.ofText x zs g=Wqatcl.faultAt k->gV CF E (aj H) k)(ho:Po.tooMuch (Po.wordsOf (zs.map Int.toNat))=false->Wqatcl.ofText x zs g=g (fV x zs)->ok):qV CF CM H E zs ok:=by
 unfold Wqatcl.ofText at hm hf ho;rw[abT]at hm hf ho;apply⟨fun h=>hm (by rw[aE (show Po.CHARS<zs.length from h)]),fun h=>?_⟩;have hn:¬Po.CHARS<zs.length:=by unfold Po.CHARS;omega
 rw[aB hn]at hm hf ho;apply⟨fun k hk=>hf k (by rw[hk]),fun hk=>?_⟩;rw[hk]at hm hf ho;simp only at hm hf ho;apply⟨fun ht=>hm (by rw[aE ht]),fun ht=>ho ht ?_⟩;rw[aB (by rw[ht];decide),KC]
def adU {x:aW}{zs:List Int}(h:Po.tooMuch (Po.wordsOf (zs.map Int.toNat))=false):(fV x zs).length<=128:=by rw[KC];exact b3 (Wd.UM x _) (Wd.nA h).1
def adL {x:aW}{l:List bP}(hO:pD x l)(hl:l.length<=128)(t:Nat×Nat×Nat):(Po.spaced (Wy.gB l t)).length<=5000:=by
 have h1:=Ck (ws:=Wy.gB l t) fun v hv=>by obtain⟨y,hy,rfl⟩:=cx.mp hv;exact qW (hO.w y (FJ (x5 hy))).1
 have h2:(Wy.gB l t).length<=l.length:=by unfold Wy.gB;rw[aL,gH,jX];omega
 omega
def To (u:ajG):rp u=lZ (Wqatcl.rowAns (Wqatcl.nums u)):=by unfold rp lZ Wqatcl.rowAns Wqatcl.nums;simp
def abY {l:List bI}(h:Ok.uQ l){kind:Nat}(hk:kind<9):((l.map fun i=>i.kind).filter fun q=>q==kind).length<=1:=by
 induction l with
 | nil=>simp
 | cons i r ih =>
  unfold Ok.uQ at h;rw[List.pairwise_cons]at h;have ih:=ih h.2;rw[fj,List.filter_cons];by_cases hi:i.kind=kind
  ·have hn:(r.map fun i=>i.kind).filter (fun q=>q==kind)=[]:=by
    rw[List.filter_eq_nil_iff];intro q hq e;obtain⟨j,hj,rfl⟩:=cx.mp hq;have e:j.kind=kind:=by simpa using e
    rcases h.1 j hj with h9|bJ
    ·omega
    ·exact bJ (hi.trans e.symm)
   rw[aE (by simpa using hi),hn];simp
  ·rw[aB (by simpa using hi)];exact ih
def af1 (K:aI)(gT CM CI CF CR CL:ae):Sp:=fun vs H Q E=>∃(a wa na:ae)(q:Nat)(ws zs:List Int)(st:Option aW)(c:Wqatcl.Call),vs=[.ref a,.int (q:Int),.ref wa,.ref na]/\l3 CI CF CR CL H a st/\aA K H wa (ws.map V.int)/\aA K H na (zs.map V.int)/\zs.length<=1000000/\mw q ws zs c /\
 (∀(H':Hp)(p:ae),bf a H H'->l3 CI CF CR CL H' a (Wqatcl.step st c).1->H p=none->H' p=some (.ak (lZ (Wqatcl.step st c).2))->(Wqatcl.step st c).2.nums.length<=6000->Q (.ref p) H') /\
 (Wqatcl.step st c=(st,Wqatcl.MUCH)->nG CM E (aj H))/\∀k,Wqatcl.step st c=(st,Wqatcl.faultAt k)->gV gT E (aj H) k
def abd:bD ["land","call","wholes","row"] ["land","call","wholes","row"] (aR Ta):=bL
def abp (T:Tx K mg):bg P w K mg base (bw P w) 11 T.J5 T.TX ["land","call","wholes","row"] (af1 K T.d4 T.gJ T.bX T.cn T.cQ T.fF):=by
 have G0:= @ae4 P w K mg base T;have G1:= @ZO P w K mg base T;have G2:= @ZN P w K mg base T;have G3:= @aac P w K mg base T;have G4:= @aaB P w K mg base T;have G5:= @aad P w K mg base T;have G6:= @ZM P w K mg base T;exists T.zp.iy abd
 ·obtain⟨a,wa,na,q,ws,zs,st,c,rfl,_⟩:=h;rfl
 ·obtain⟨a,wa,na,q,ws,zs,st,c,rfl,lG,hW,hN,dZ,hC,kk,km,kf⟩:=h;obtain⟨u0,m0,r0⟩:=(T.tg T.LD);obtain⟨u1,m1,r1⟩:=(T.tg T.Dn);obtain⟨u2,m2,r2⟩:=(T.tg T.Lg);obtain⟨u3,m3,r3⟩:=(T.tg T.LC);obtain⟨u4,m4,r4⟩:=(T.tg T.LY);obtain⟨u5,m5,r5⟩:=(T.tg T.LF);obtain⟨uN,mN,rN⟩:=(T.tg T.Jy);apply Z10 _ (aD (bU (cI dW (pv 1) (bh rfl m0 r0) (bS _)) (aF (aY (cT (pv 0) T.gn T.IL G0 hr (cp T.Cf) .nil cY.dO (ao (pv 3) ax)))) b5)
   (aD (bU (cI DC (aX (pv 0) rfl) rk (bS _)) (aF (aY (cz (ao (bh rfl mN rN) ax)))) b5)
   (aD (bU (cI dW (pv 1) (bh rfl m1 r1) (bS _)) (aF (aY (cT (pv 0) T.gn T.Gg G1 hr.ww (cp T.BK) .nil bE (ao (cZ eU (pv 2) bQ (fun _ _=>rfl)) ax)))) b5)
   (aD (bU (cI dW (pv 1) (bh rfl m2 r2) (bS _)) (aF (aY (cT (pv 0) T.gn T.Gf G2 hr.ww (cp T.BJ) .nil bE (ao (pv 3) ax)))) b5)
   (aD (bU (cI dW (pv 1) (bh rfl m3 r3) (bS _)) (aF (aY (cT (pv 0) T.gn T.GU G3 hr (cp T.BP) .nil cY.dO (ao (pv 3) ax)))) b5)
   (aD (bU (cI dW (pv 1) (bh rfl m4 r4) (bS _)) (aF (aY (cT (pv 0) T.gn T.Hq G4 hr (jz T.BW) .nil cY.dO (ao (cZ eU (pv 2) bQ (fun _ _=>rfl)) (ao (pv 3) ax))))) b5)
   (aD (bU (cI dW (pv 1) (bh rfl m5 r5) (bS _)) (aF (aY (cT (pv 0) T.gn T.GX G5 hr (tj T.BQ) .nil cY.dO (ao (cZ eU (pv 2) bQ (fun _ _=>rfl)) (ao (cZ eU (pv 2) bQ (fun _ _=>rfl)) (ao (pv 3) ax)))))) b5)
   (aF (aY (cT (pv 0) T.gn T.Ge G6 hr (jz T.BI) .nil cY.dO (ao (cZ eU (pv 2) bQ (fun _ _=>rfl)) (ao (pv 3) ax)))))))))))) ?_
  have dq:∀j:Nat,decide (V.int (q:Int)=V.int ((j:Nat):Int))=decide (q=j):=fun j=>lS;have same:∀{H':Hp},(Wqatcl.step st c).1=st->aj H H'->bf a H H'/\l3 T.bX T.cn T.cQ T.fF H' a (Wqatcl.step st c).1:=fun e s=>⟨aj.keep s,by rw[e];exact lG.same s⟩;have ld:∃dx v,H a=some (.bc T.fF dx [("rules",v)]):=by
   cases st with
   | none=>obtain⟨dx,h⟩:=lG;exact⟨dx,_,h⟩
   | some x=>obtain⟨ru,A,⟨dx,h⟩,_⟩:=lG;exact⟨dx,_,h⟩
  obtain⟨dx,v,e6⟩:=ld;apply Z11 _ rfl rfl _ rfl ?_;rw[show decide (V.int (q:Int)=V.int 0)=decide (q=0)from dq 0];by_cases q0:q=0
  ·rw[bY q0];subst q0;cases hC with
   | take hb =>
    have hl:(cU zs).length=zs.length:=by simp[cU]
    unfold Wqatcl.step at kk km kf;simp only at kk km kf;rw[hl]at kk km kf;apply a0 (Z21 _ rfl a dx _ rfl e6 rfl (Z34 _ rfl a na v zs ⟨rfl,⟨dx,e6⟩,hN,dZ,hb,fun h=>km (by rw[aE (show Wqatcl.LONGEST<zs.length from h)]),fun h=>?_⟩));rw[aB (show¬Wqatcl.LONGEST<zs.length by unfold Wqatcl.LONGEST;omega)]at kk km kf;apply⟨fun k hk=>kf k (by rw[hk]),fun x hx H' p ru A kp hL hR hp dM=>?_⟩;rw[hx]at kk;exact kk H' p kp ⟨ru,A,hL,hR,kJ.of hx⟩ hp dM (bA _)
  ·rw[bZ q0];apply aO (dS ?_);have fL:∀x,st=some x->c≠ .take []->True:=fun _ _ _=>trivial;cases st with
   | none =>
    obtain⟨dx,e6⟩:=lG;have e:Wqatcl.step none c=(none,Wqatcl.UNREADY):=by cases hC<;>first|exact absurd rfl q0|rfl
    rw[e]at kk;apply Z17 _ rfl a (Z36 _ dx _ _ rfl e6 T.gn T.ki rfl rfl _ rfl (a0 ⟨eY,fun p hp=>?_⟩));exact kk _ p (aj.keep (aj.new hp)) ⟨dx,(aj.new hp) _ _ e6⟩ hp aC (bA _)
   | some x =>
    have ai8:=lG;obtain⟨ru,A',⟨dx,e6⟩,R,hx⟩:=lG;have hL:lq T.fF H a (.ref ru):=⟨dx,e6⟩;have e:Wqatcl.step (some x) c=(some x,Wqatcl.told x c):=by cases hC<;>first|exact absurd rfl q0|rfl
    rw[e]at kk km kf;simp only at kk;have km:Wqatcl.told x c=Wqatcl.MUCH->nG T.gJ E (aj H):=fun h=>km (by rw[h]);have kf:∀k,Wqatcl.told x c=Wqatcl.faultAt k->gV T.d4 E (aj H) k:=fun k h=>kf k (by rw[h]);have kk:∀(FD:Wqatcl.Ans),Wqatcl.told x c=FD->FD.nums.length<=6000->∀(H':Hp)(p:ae),aj H H'->H p=none->H' p=some (.ak (lZ FD))->Q (.ref p) H':=fun FD ha hl H' p s hp dM=>by subst ha;exact kk H' p (aj.keep s) (ai8.same s) hp dM hl
    apply Z17 _ rfl a (Z36 _ dx _ _ rfl e6 T.gn T.ki rfl rfl _ rfl (aO (dS ?_)));apply Z11 _ rfl rfl _ rfl ?_;rw[show decide (V.int (q:Int)=V.int 1)=decide (q=1)from dq 1];cases hC with
    | take hb=>exact absurd rfl q0
    | count n =>
     apply a0 (Z21 _ rfl a dx _ rfl e6 rfl (Z57 _ rfl wa _ 0 _ rfl rfl hW (dH (j:=0) rfl) a ru (Z32 x.length n A' x rfl hL R ?_)));by_cases h5:5<=n
     ·rw[aE h5];exact kk Wqatcl.BAD (by unfold Wqatcl.told;simp only;rw[aE ⋯]) (bA _)
     ·rw[aB h5];intro H' p s hp dM;apply kk (Wqatcl.says ((Wqatcl.countOf x n:Nat):Int)) (by unfold Wqatcl.told;simp only;rw[aB ⋯]) (bA _) H' p s hp ?_;rw[dM];have:(rb x.length x).getD n 0=Wqatcl.countOf x n:=by
       match n,h5 with
       | 0,_=>rfl
       | 1,_=>rfl
       | 2,_=>rfl
       | 3,_=>rfl
       | 4,_=>rfl
       | n+5,h=>exact absurd ⋯ h
      rw[this];rfl
    | plain hb =>
     apply aO (dS ?_);apply Z11 _ rfl rfl _ rfl (a0 ?_);have ew:Po.fullWord (cU zs)=(Po.wordOk (cU zs)&& !(cU zs).isEmpty):=rfl;apply Z21 _ rfl a dx _ rfl e6 rfl (Z50 _ rfl a na ru x.length A' x zs rfl hL R ⟨hN,dZ,hb,hx,fun hf=>?_,fun hf=>⟨fun hp=>?_,fun u hu=>?_⟩⟩)
     ·apply kk Wqatcl.BAD ?_ (bA _);unfold Wqatcl.told;simp only;rw[aE];rw[ew,Bool.and_eq_false_iff]at hf;rcases hf with h|h
      ·exact .inl h
      ·right;simpa using h
     all_goals
      have WS:¬(Po.wordOk (cU zs)=false\/cU zs=[]):=by
       have:=Rm.k6 hf;rintro(h|h)
       ·rw[this.1]at h;cases h
       ·exact this.2 h
     ·apply kk (Wqatcl.says 0) ?_ (bA _);unfold Wqatcl.told;simp only;rw[aB WS,hp]
     ·have N3:=qW (Rm.k6 (Ok.Ks hx.ok hf hu)).1;intro H' p s hp dM;apply kk ⟨1,u.length::Wqatcl.nums u⟩ ?_ (by show(u.length::Wqatcl.nums u).length<=6000;simp[Wqatcl.nums];omega) H' p s hp ?_
      ·unfold Wqatcl.told;simp only;rw[aB WS,hu]
      ·rw[dM];unfold lZ rp Wqatcl.nums;simp
    | ways =>
     apply aO (dS ?_);apply Z11 _ rfl rfl _ rfl (aO (dS ?_));apply Z11 _ rfl rfl _ rfl (a0 ?_);apply Z21 _ rfl a dx _ rfl e6 rfl (Z50 _ rfl a na ru x.length A' x zs rfl hL R ⟨hN,hx,JP (x:=x) (g:=fun l=>if 2^63<=Po.countWays x l then Wqatcl.MANY else Wqatcl.says ((Po.countWays x l:Nat):Int)) km kf fun hm ho=>?_⟩);have ho:Wqatcl.told x (.ways zs)=_:=ho;by_cases hb:9223372036854775808<=Po.countWays x (fV x zs)
     ·rw[aE hb];rw[aE (show 2^63<=Po.countWays x (fV x zs)from hb)]at ho;exact kk Wqatcl.MANY ho (bA _)
     ·rw[aB hb];rw[aB (show¬2^63<=Po.countWays x (fV x zs)from hb)]at ho;exact kk _ ho (bA _)
    | way i =>
     apply aO (dS ?_);apply Z11 _ rfl rfl _ rfl (aO (dS ?_));apply Z11 _ rfl rfl _ rfl (aO (dS ?_));apply Z11 _ rfl rfl _ rfl (a0 ?_);apply Z21 _ rfl a dx _ rfl e6 rfl (Z70 _ rfl wa _ 0 _ rfl rfl (Z69 hW (dH (j:=0) rfl) _ rfl a na ru x.length i A' x zs ⟨rfl,hL,R,hN,hx,JP (x:=x) (g:=fun l=>match Po.nthWay x l i with
      | some w=>⟨((Po.partsOf x l w).length:Int),(Po.partsOf x l w).flatMap Wqatcl.partNums⟩
      | none=>Wqatcl.NO) km kf fun hm ho=>⟨fun hn=>?_,fun f m hs=>?_⟩⟩))
     ·have ho:Wqatcl.told x (.way i zs)=_:=ho;rw[Wy.SY x _ hn]at ho;exact kk Wqatcl.NO ho (bA _)
     ·have ho:Wqatcl.told x (.way i zs)=_:=ho;have fm:=(Wy.C5 x _ _ _ f m hs).2;obtain⟨w',hw,hp,_⟩:=Wy.SX x _ hs (hx.fs.cw f fm);rw[hw]at ho;simp only at ho;rw[hp,<-aaX,aL]at ho;have Bc:=b3 (Wy.Uh x (fV x zs) f m) (hx.fs.eO f fm);intro H' p s hp dM;apply kk _ ho (by show(pT _ _).length<=6000;rw[Rp];omega) H' p s hp ?_;rw[dM];unfold lZ bC;simp
    | part i k =>
     apply aO (dS ?_);apply Z11 _ rfl rfl _ rfl (aO (dS ?_));apply Z11 _ rfl rfl _ rfl (aO (dS ?_));apply Z11 _ rfl rfl _ rfl (aO (dS ?_));apply Z11 _ rfl rfl _ rfl (a0 ?_);apply Z21 _ rfl a dx _ rfl e6 rfl (Z44 _ rfl wa _ 0 _ rfl rfl hW (dH (j:=0) rfl) (Z70 _ rfl wa _ 1 _ rfl rfl (Z69 hW (dH (j:=1) rfl) _ rfl a na ru x.length i k A' x (Z85 zs rfl hL R hN hx (JP (x:=x) (g:=fun l=>if 8<k then Wqatcl.BAD else match Po.nthWay x l i with
      | some w=>if Po.wordsIn x l w k=[]then Wqatcl.MISSING else Wqatcl.rowAns (Wqatcl.nums (Po.spaced (Po.wordsIn x l w k)))
      | none=>Wqatcl.NO) km kf fun hm ho=>⟨fun h9=>?_,fun h9=>⟨fun hn=>?_,fun f m hs=>?_⟩⟩)))))
     all_goals have ho:Wqatcl.told x (.part i k zs)=_:=ho
     ·rw[aE (show 8<k by omega)]at ho;exact kk Wqatcl.BAD ho (bA _)
     ·rw[aB (show¬8<k by omega),Wy.SY x _ hn]at ho;exact kk Wqatcl.NO ho (bA _)
     ·have fm:=(Wy.C5 x _ _ _ f m hs).2;obtain⟨w',hw,_,Nq⟩:=Wy.SX x _ hs (hx.fs.cw f fm);have Nq:=Nq k (abY (Ok.KJ hx.ok f fm).Ah h9);rw[aB (show¬8<k by omega),hw]at ho;simp only at ho;rw[Nq]at ho;apply⟨fun rJ=>?_,fun t ht=>?_⟩
      ·rw[rJ]at ho;exact kk Wqatcl.MISSING ho (bA _)
      ·rw[ht]at ho;have bJ:=Wy.abM x (fV x zs) t ht;simp only[Option.map_some,Option.getD_some]at ho;rw[aB bJ]at ho;have bN:=adL (hx.k hm) (adU hm) t;intro H' p s hp dM;apply kk _ ho (by show(Wqatcl.nums _).length<=6000;unfold Wqatcl.nums;rw[aL];omega) H' p s hp ?_;rw[dM,To]
    | print f hb =>
     apply aO (dS ?_);apply Z11 _ rfl rfl _ rfl (aO (dS ?_));apply Z11 _ rfl rfl _ rfl (aO (dS ?_));apply Z11 _ rfl rfl _ rfl (aO (dS ?_));apply Z11 _ rfl rfl _ rfl (aO (dS ?_));have hl:(cU zs).length=zs.length:=by simp[cU]
     unfold Wqatcl.told at kk km kf;simp only at kk km kf;rw[hl]at kk km kf;apply Z21 _ rfl a dx _ rfl e6 rfl (Z70 _ rfl wa _ 0 _ rfl rfl (Z69 hW (dH (j:=0) rfl) _ rfl a na ru x.length f A' x zs ⟨rfl,hL,R,hN,dZ,hb,hx,fun h=>km (by rw[aE (show Wqatcl.LONGEST<zs.length from h)]),fun h=>?_⟩));rw[aB (show¬Wqatcl.LONGEST<zs.length by unfold Wqatcl.LONGEST;omega)]at kk km kf;apply⟨fun e he=>kf e (by rw[he]),fun y hy=>⟨fun hn=>?_,fun fo mR=>⟨fun hpf=>?_,fun EV H' p s hp dM bN=>?_⟩⟩⟩
     ·rw[hy]at kk;simp only at kk;rw[hn]at kk;exact kk Wqatcl.NO rfl (bA _)
     ·rw[hy]at kk;simp only at kk;rw[mR]at kk;simp only at kk;rw[aB (by rw[hpf];decide)]at kk;exact kk Wqatcl.MISSING rfl (bA _)
     ·rw[hy]at kk;simp only at kk;rw[mR]at kk;simp only at kk;rw[aE EV]at kk;apply kk _ rfl (by show(Wqatcl.nums _).length<=6000;unfold Wqatcl.nums;rw[aL];omega) H' p s hp ?_;rw[dM,To]
def agH (CF CM:ae)(H:Hp)(st:Option aW)(c:Wqatcl.Call):XK:=fun x dx H0=>(x= .ref CF/\∃d k,dx=some d/\H0 d=some (.xd [("place",.int ((k:Nat):Int))])/\Wqatcl.step st c=(st,Wqatcl.faultAt k)/\aj H H0)\/(x= .ref CM/\dx=none/\Wqatcl.step st c=(st,Wqatcl.MUCH)/\aj H H0)
def adu (K:aI)(CI CF CR CL:ae):Sp:=fun vs H Q _=>∃(a wa na:ae)(q:Nat)(ws zs:List Int)(st:Option aW)(c:Wqatcl.Call),vs=[.ref a,.int (q:Int),.ref wa,.ref na]/\l3 CI CF CR CL H a st/\aA K H wa (ws.map V.int)/\aA K H na (zs.map V.int)/\zs.length<=1000000/\mw q ws zs c /\
 ∀(H':Hp)(p:ae),bf a H H'->l3 CI CF CR CL H' a (Wqatcl.step st c).1->H p=none->H' p=some (.ak (lZ (Wqatcl.step st c).2))->(Wqatcl.step st c).2.nums.length<=6000->Q (.ref p) H'
def Qk:bD ["land","call","wholes","row","fault"] ["land","call","wholes","row"] (aR QB):=bL
def Zv (T:Tx K mg):bg P w K mg base (bw P w) 14 T.HU T.QO ["land","call","wholes","row"] (adu K T.bX T.cn T.cQ T.fF):=by
 have GT:= @abp P w K mg base T;exists T.yL.cj Qk
 ·obtain⟨a,wa,na,q,ws,zs,st,c,rfl,_⟩:=h;rfl
 ·obtain⟨a,wa,na,q,ws,zs,st,c,rfl,lG,hW,hN,dZ,hC,kk⟩:=h;have nd:=Qk.nd;obtain⟨u2,m2,r2⟩:=(T.tg T.Jx);obtain⟨u3,m3,r3⟩:=(T.tg T.Lh);apply Z10 _ (aF (agi (agH T.d4 T.gJ H st c) rfl rfl
    (fun E2 pn ht=>aF (aY (cy GT hr.ww rfl (T.tm T.Kh) T.zp.kp (tj T.zp) .nil ht.dO (ao (pv 0) (ao (pv 1) (ao (pv 2) (ao (pv 3) ax)))))))
    (adI T.qL.xc rfl (T.tm T.wj) (fun A2 E2=>aF (aY (cz (ao (bh rfl m2 r2) ax))))
    (ahh (i:=4) nd rfl rfl T.lQ.xc rfl (T.tm T.ud) (fun A2 E2=>aF (aY (cz (ao (bh rfl m3 r3) (ao (adJ K (pv 4)) ax))))) agj)))) ?_
  apply⟨?_,?_⟩
  ·exact Z15 _ rfl _ rfl (Z66 _ rfl _ rfl a wa na q ws zs st c ⟨rfl,lG,hW,hN,dZ,hC,kk,fun h H0 s0=>.inr ⟨rfl,rfl,h,s0⟩,fun k h d H0 hd s0=>.inl ⟨rfl,Z26 d k rfl hd h s0⟩⟩)
  ·intro e C dxe Tb aK H' H0 bN hE Yy sm hn hex;rcases hex with⟨pd,d,k,rfl,hd,hk,sH⟩|⟨pd,rfl,hM,sH⟩
   ·have pd:C=T.d4:=by injection pd
    subst pd;apply⟨T.lQ.xc,?_⟩;show if T.gJ=T.d4 then _ else(if T.d4=T.d4 then _ else _);rw[aB T.GZ,aE rfl];rw[hk]at kk
    match aK,bN with
    | [y0,y1,y2,y3,y4],_ =>apply Z107 _ rfl e T.d4 d _ _ _ ⟨rfl,hE,T.lQ.xc,T.lQ.xa,T.BX,sm _ _ hd,rfl,wY,fun p hp=>?_⟩;have sA:=(sH.trans sm).trans (aj.new (o:=.ak [V.int (-6),V.int (k:Int)]) hp);exact kk _ p (aj.keep sA) (lG.same sA) (e8 (sH.trans sm) hp) aC (Nat.le_of_ble_eq_true rfl)
   ·have pd:C=T.gJ:=by injection pd
    subst pd;apply⟨T.qL.xc,?_⟩;show if T.gJ=T.gJ then _ else _;rw[aE rfl];rw[hM]at kk;apply⟨eY,fun p hp=>?_⟩;have sA:=(sH.trans sm).trans (aj.new (o:=.ak [V.int (-2)]) hp);exact kk _ p (aj.keep sA) (lG.same sA) (e8 (sH.trans sm) hp) aC (Nat.le_of_ble_eq_true rfl)
def afy {q n:Nat}{ws zs:List Int}(hq:q<7)(jv:q≠1)(hw:Fl.ue[q]?=some n)(hl:ws.length=n)(ha:WqatclNeutral.asked1 [(q:Int)::ws,zs]=true):∃c,mw q ws zs c/\WqatclNeutral.callOf [(q:Int)::ws,zs]=some c:=by
 have nat:∀{z:Int}{b:Nat},WqatclNeutral.natural z b=true->∃k:Nat,z=(k:Int):=fun{z b}h=>by unfold WqatclNeutral.natural at h;rw[dw,eE]at h;exact⟨z.toNat,by omega⟩
 have hJ:zs.all (fun z=>WqatclNeutral.natural z 8)=true->xt zs:=fun h z hz=>by have:=List.all_eq_true.mp h z hz;unfold WqatclNeutral.natural at this;rw[dw,eE,eE]at this;exact⟨this.1,by have:=this.2;omega⟩
 match q,hq,jv,hw with
 | 0,_,_,hw =>cases hw;obtain rfl:=List.eq_nil_of_length_eq_zero hl;exact⟨_,.take (hJ ha),rfl⟩
 | 2,_,_,hw =>cases hw;obtain rfl:=List.eq_nil_of_length_eq_zero hl;exact⟨_,.plain (hJ ha),rfl⟩
 | 3,_,_,hw =>cases hw;obtain rfl:=List.eq_nil_of_length_eq_zero hl;exact⟨_,.ways,rfl⟩
 | 4,_,_,hw =>
  cases hw
  match ws,hl with
  | [i],_ =>have ha:(WqatclNeutral.natural i 64&&zs.all fun z=>WqatclNeutral.whole32 z)=true:=ha;rw[dw]at ha;obtain⟨k,rfl⟩:=nat ha.1;exact⟨_,.way k,rfl⟩
 | 5,_,_,hw =>
  cases hw
  match ws,hl with
  | [i,k],_ =>have ha:(WqatclNeutral.natural i 64&&WqatclNeutral.natural k 32&&zs.all fun z=>WqatclNeutral.whole32 z)=true:=ha;rw[dw,dw]at ha;obtain⟨i,rfl⟩:=nat ha.1.1;obtain⟨k,rfl⟩:=nat ha.1.2;exact⟨_,.part i k,rfl⟩
 | 6,_,_,hw =>
  cases hw
  match ws,hl with
  | [f],_ =>have ha:(WqatclNeutral.natural f 32&&zs.all fun z=>WqatclNeutral.natural z 8)=true:=ha;rw[dw]at ha;obtain⟨k,rfl⟩:=nat ha.1;apply⟨_,.print k (hJ ha.2),?_⟩;rfl
def aeb {x:Int}(ha:WqatclNeutral.asked1 [[1,x]]=true):∃n:Nat,x=(n:Int)/\mw 1 [x] [] (.count n)/\WqatclNeutral.callOf [[1,x]]=some (.count n):=by have ha:WqatclNeutral.natural x 32=true:=ha;unfold WqatclNeutral.natural at ha;rw[dw,eE]at ha;obtain⟨n,rfl⟩:∃n:Nat,x=(n:Int):=⟨x.toNat,by omega⟩;exact⟨n,rfl,.count n,rfl⟩
def adg {st:Option aW}{c:List (List Int)}{x:Wqatcl.Call}(h:WqatclNeutral.callOf c=some x):WqatclNeutral.step st c=((Wqatcl.step st x).1,(Wqatcl.step st x).2.ret::(Wqatcl.step st x).2.nums.map fun(n:Nat)=>(n:Int)):=by unfold WqatclNeutral.step;rw[h];rfl
def UZ {zs:List Int}{p q:Nat}(hp:p<=q)(hq:q<=zs.length):j5 (zs.map V.int) (some (p:Int)) (some (q:Int))=((zs.drop p).take (q-p)).map V.int:=by unfold j5;rw[aL];simp only[HT.cA];rw[aB ⋯,aB ⋯,mj,mj,tG hq,tG (b3 hp hq)];rw[List.map_take,List.map_drop]
def Dp {zs:List Int}{k:Nat}{x:Int}{t:List Int}(h:zs.drop k=x::t):zs[k]?=some x/\zs.drop (k+1)=t:=by
 constructor
 ·have:=congrArg (fun l=>l[0]?) h;simpa[x6]using this
 ·have:=congrArg (List.drop 1) h;rw[Bw]at this;simpa using this
def UX {zs a t:List Int}{k:Nat}(h:zs.drop k=a++t):(zs.drop k).take a.length=a/\zs.drop (k+a.length)=t:=by
 constructor
 ·rw[h];simp
 ·rw[<-Bw,h];simp
def l3.ag6 {CI CF CR CL:ae}{H H':Hp}{a td:ae}{od:Obj}{u:HO}{st:Option aW}(S:l3 CI CF CR CL H a st)(hf:H td=some (.cK od u))(k:bf td H H'):l3 CI CF CR CL H' a st:=by
 cases st with
 | none=>obtain⟨dx,h⟩:=S;exact⟨dx,k _ _ h (aJ h hf nofun)⟩
 | some x =>obtain⟨ru,A,⟨dx,h⟩,R,ok⟩:=S;exact⟨ru,A,⟨dx,k _ _ h (aJ h hf nofun)⟩,R.st (fun b l h=>k _ _ h (aJ h hf nofun)) (fun b l h=>k _ _ h (aJ h hf nofun)) fun b C' dy p q fs h=>k _ _ h (aJ h hf nofun),ok⟩
def adB {H H':Hp}{b:ae}{o:HO}(s:aj H H'):aj (L2.ay H b o) (L2.ay H' b o):=fun c u h=>by
 by_cases e:c=b
 ·rw[e,aC]at h⊢;exact h
 ·rw[aq e]at h⊢;exact s _ _ h
def C9 {H:Hp}{b:ae}{o u:HO}:L2.ay (L2.ay H b u) b o=L2.ay H b o:=by
 funext c;by_cases e:c=b
 ·rw[e,aC,aC]
 ·rw[aq e,aq e,aq e]
def JQ (K:aI):Sp:=fun vs H Q _=>∃(ca:ae)(zs:List Int),vs=[.ref ca]/\aA K H ca (zs.map V.int)/\PyWqatcl.answers_asked zs=true/\zs.length<=1000000 /\
 ∀(H':Hp)(p:ae),aj H H'->H' p=some (.ak ((PyWqatcl.answers zs).map V.int))->Q (.ref p) H'
def Sb:bD ["calls","land","told","place","call","row_place","wholes","row","answer"] ["calls"] (aR Te):=bL
def aaW:([.int 0,.int 1,.int 0,.int 0,.int 1,.int 2,.int 1]:List V)=bC Fl.ue:=by decide+kernel
def abv (T:Tx K mg):bg P w K mg base (bw P w) 15 T.Ka T.Kb ["calls"] (JQ K):=by
 have GI:= @aai P w K mg base T;have GA:= @Zv P w K mg base T;exists T.CK.cj Sb
 ·obtain⟨ca,zs,rfl,_⟩:=h;rfl
 ·obtain⟨ca,zs,rfl,hCa,MB,dZ,kk⟩:=h;obtain⟨uC,mC,rC⟩:=(T.tg T.Dn);obtain⟨tw,mW,tW⟩:=(T.tu T.Hs);rw[aaW]at tW;have nd:=Sb.nd;apply Z10 _ (aD (bB (i:=1) nd rfl Olr (Ku T.K9 GI hr.ww rfl (T.tm T.LK) (dE T.Cg) .nil bE))
   (aD (bB (i:=2) nd rfl Olr (cz ax)) (aD (bB (i:=3) nd rfl Olr bQ)
   (aD (qR PassesOwn.never (cI p7 (pv 3) (cD gA rfl (T.tn T.d5) e7 (ao (pv 0) ax)) (bS _))
    (aD (bB (i:=4) nd rfl Olr (cZ eU (pv 0) (pv 3) (fun _ _=>rfl)))
    (aD (bB (i:=5) nd rfl Olr (e9 k7 (e9 k7 (pv 3) bQ) (cZ zR (bh (v:=.ref tw) rfl mW rfl) (pv 4) (fun _ _=>rfl))))
    (aD (bB (i:=6) nd rfl Olr (qS wx (pv 0) (lR (e9 k7 (pv 3) bQ)) (lR (pv 5))))
    (aD (bB (i:=7) nd rfl Olr (cz ax))
    (aD (bB (i:=3) nd rfl Olr (pv 5))
    (aD (bU (cI DM (pv 4) (bh rfl mC rC) (bS _))
     (aD (bB (i:=3) nd rfl Olr (e9 k7 (e9 k7 (pv 5) bQ) (cZ eU (pv 0) (pv 5) (fun _ _=>rfl))))
     (aF (bB (i:=7) nd rfl Olr (qS wx (pv 0) (lR (e9 k7 (pv 5) bQ)) (lR (pv 3)))))) b5)
    (aD (aeW (bB (i:=8) nd rfl Olr (cy GA hr rfl (T.tm T.Ie) T.yL.kp (tj T.yL) .nil bE (ao (pv 1) (ao (pv 4) (ao (pv 6) (ao (pv 7) ax)))))))
    (aD (dR (gp gU iQ iP hU (pv 2) (ao (cD gA rfl (T.tn T.d5) e7 (ao (pv 8) ax)) ax)))
    (aF (dR (gp gU PySem.F.slot_list_extend PySem.F.type_list_extend Ts (pv 2) (ao (pv 8) ax)))))))))))))
   (aF (aY (pv 2))))))) ?_
  obtain⟨YY,ai3,Fg,xh⟩:=Fl.abP MB;have ahD:=Fl.abQ Fg;have ajg:YY.length<=400:=by unfold WqatclNeutral.asked at Fg;rw[dw,dw,dw,eE,eE,eE]at Fg;exact Fg.1.2
  apply cF ?_;intro a dx ha NN bJ;apply Z14 a dx rfl aC (fun H1 Ba iE=>⟨rfl,ck ?_⟩);have s1:aj H H1:=aj.rT ha NN iE;apply cF ?_;apply⟨bA _,fun td qm=>ck ?_⟩;have Es:=aj.new (o:=.ak []) qm;have Mm:H td=none:=e8 s1 qm;apply cF ?_;apply ck ?_;have Ai:∀{H':Hp},aj H H'->aA K H' ca (zs.map V.int):=fun s=>s.seq hCa
  let B:List (List (List Int))->L2.St->Hp->Prop:=fun cs σ H'=>∃(st:Option aW)(k f':Nat)(tl:List Int)(v4 v5 v6 v7 v8:Option V),σ=[some (.ref ca),some (.ref a),some (.ref td),some (.int (k:Int)),v4,v5,v6,v7,v8]/\(∀o,l3 T.bX T.cn T.cQ T.fF (L2.ay H' td o) a st)/\H' td=some (.ak (tl.map V.int))/\aj H H'/\k<=zs.length/\PyFlat.calls PyWqatcl.shape f' (zs.drop k)=some cs/\(∀c∈cs,WqatclNeutral.asked1 c=true)/\PyWqatcl.answers zs=tl++PyFlat.told (PyFlat.played WqatclNeutral.step st cs)/\tl.length<=7000*(400-cs.length)/\cs.length<=400
  apply v9 (fun m σ H'=>∃cs,m=cs.length/\B cs σ H') (fun m σ H'=>∃cs,m=cs.length/\cs≠[]/\B cs σ H') (fun σ H'=>B [] σ H') _ (Z17 YY rfl none (Z72 0 zs.length [] none none none none none rfl (fun o=>show lq _ _ _ _ from let ⟨dx,h⟩:=Ba;⟨dx,by rw[C9,aq (aQ h qm)];exact h⟩) aC (s1.trans Es) ⟨bA _,by rw[List.drop_zero];exact ai3,ahD,xh,bA _,ajg⟩)) ?_ ?_ ?_
  ·rintro X Y m σ H' ⟨cs,rfl,hB⟩ hX hY;have YN:=hB;obtain⟨st,k,f',tl,v4,v5,v6,v7,v8,rfl,lG,l5,sm,hk,mT,Ef,xh,Nt,Yo⟩:=hB;apply Z10 _ rfl (Z65 _ rfl ca _ rfl (.inl (Ai sm)) _ _ rfl rfl _ rfl ?_);rw[aL];rcases Fl.T7 mT with⟨he,rfl⟩|⟨c,t,oh,f2,rfl,h1,h2⟩
   ·have:zs.length<=k:=by have:=congrArg List.length he;rw[jX]at this;simp at this;omega
    rw[bZ (show¬(k:Int)<(zs.length:Int) by omega)];exact aO (hX _ _ YN)
   ·have:k<zs.length:=by
     rcases Nat.lt_or_ge k zs.length with h|h
     ·exact h
     ·rw[Bv h]at h1;cases h1
    rw[bY (show(k:Int)<(zs.length:Int) by omega)];exact a0 (hY _ _ ⟨_,rfl,by simp,YN⟩)
  ·rintro m σ H' ⟨cs,rfl,aiM,st,k,f',tl,v4,v5,v6,v7,v8,rfl,lG,l5,sm,hk,mT,Ef,xh,Nt,Yo⟩;rcases Fl.T7 mT with⟨he,rfl⟩|⟨c,t,oh,f2,rfl,h1,h2⟩
   ·exact absurd rfl aiM
   have Yt:=Ef c (by simp);have form:∃(q n:Nat)(ws row:List Int)(x:Wqatcl.Call)(k2:Nat),q<7/\zs[k]?=some (q:Int)/\Fl.ue[q]?=some n/\(zs.drop (k+1)).take n=ws/\k+1+n<=zs.length/\mw q ws row x/\WqatclNeutral.callOf c=some x/\zs.drop k2=t/\k2<=zs.length/\((q=1/\row=[]/\k2=k+1+n)\/(q≠1/\zs[k+1+n]?=some (row.length:Int)/\(zs.drop (k+1+n+1)).take row.length=row/\k2=k+1+n+1+row.length)):=by
    rcases Fl.acW h1 with⟨x,he,rfl⟩|⟨q,n,ws,row,hq,jv,hw,hl,he,rfl⟩
    ·obtain⟨a1,a2⟩:=Dp he;obtain⟨b1,b2⟩:=Dp a2;obtain⟨n,rfl,c1,c2⟩:=aeb Yt;have br:=(fD.mp b1).1;apply Z48 1 1 [(n:Int)] [] _ (k+1+1) ⟨by omega,a1,rfl,?_,by omega,c1,c2,b2,by omega,.inl ⟨rfl,rfl,rfl⟩⟩;rw[a2];rfl
    ·obtain⟨a1,a2⟩:=Dp he;obtain⟨b1,b2⟩:=UX a2;obtain⟨d1,d2⟩:=Dp b2;obtain⟨e1,e2⟩:=UX d2;obtain⟨x,c1,c2⟩:=afy hq jv hw hl Yt;rw[hl]at b1 b2 d1 d2 e1 e2;have br:=(fD.mp d1).1;have gz:k+1+n+1+row.length<=zs.length:=by have:=congrArg List.length d2;rw[jX,cq]at this;omega
     exact Z48 q n ws row x _ ⟨hq,a1,hw,b1,by omega,c1,c2,e2,gz,.inr ⟨jv,d1,e1,rfl⟩⟩
   obtain⟨q,n,ws,row,x,k2,hq,xB,AL,sr,kQ,hCI,hco,jQ,WU,Wi⟩:=form;have Mo:row.length<=zs.length:=by
    rcases Wi with⟨_,rfl,_⟩|⟨_,_,_,rfl⟩
    ·exact bA _
    ·omega
   have aiv:(bC Fl.ue)[q]?=some (V.int (n:Int)):=by unfold bC;rw[bR,AL];rfl
   apply cF ?_;apply Z29 _ rfl _ rfl ca _ _ _ ⟨rfl,rfl,Ai sm,dH (j:=k) (by rw[bR,xB];rfl),ck ?_⟩;apply dj (fun b4 H2=>b4=[some (.ref ca),some (.ref a),some (.ref td),some (.int (k:Int)),some (.int (q:Int)),some (.int ((k+1+n:Nat):Int)),v6,v7,v8]/\H2=H') (fun Y hY=>?_) ?_
   ·apply Z23 _ rfl _ _ rfl rfl (Z57 _ rfl tw _ _ _ rfl rfl (tW.sq _) (dH (j:=q) aiv) _ _ ⟨rfl,rfl,hY _ _ ⟨?_,rfl⟩⟩);show[some (V.ref ca),some (V.ref a),some (V.ref td),some (V.int (k:Int)),some (V.int (q:Int)),some (V.int ((k:Int)+1+(n:Int))),v6,v7,v8]=_;rw[show(k:Int)+1+(n:Int)=((k+1+n:Nat):Int) by omega]
   ·rintro b4 H2 ⟨rfl,rfl⟩;apply dj (fun lu H3=>∃wa,lu=[some (.ref ca),some (.ref a),some (.ref td),some (.int (k:Int)),some (.int (q:Int)),some (.int ((k+1+n:Nat):Int)),some (.ref wa),v7,v8]/\aj H2 H3/\H2 wa=none/\H3 wa=some (.ak (ws.map V.int))) (fun Y hY=>?_) ?_
    ·apply Z83 _ rfl _ rfl _ _ rfl rfl _ rfl (Z52 _ rfl _ rfl ca _ rfl (Ai sm) (fun wa nW=>hY _ _ (Z28 wa rfl (aj.new nW) nW ?_)));rw[aC,show(k:Int)+1=((k+1:Nat):Int) by omega,UZ ⋯ kQ,show k+1+n-(k+1)=n by omega,sr]
    ·rintro lu H3 ⟨wa,rfl,s3,afk,nW⟩;apply cF ?_;apply⟨bA _,fun r0 Nv=>ck ?_⟩;apply cF ?_;apply Z10 _ rfl (ck ?_);have s4:=s3.trans (aj.new (o:=.ak []) Nv);have nr0:r0≠td:=(aQ (s3 _ _ l5) Nv).symm;have WN:(L2.ay H3 r0 (.ak [])) r0=some (.ak []):=aC;have WJ:=(aj.new (o:=.ak []) Nv) _ _ nW;generalize L2.ay H3 r0 (.ak [])=H4 at s4 WN WJ;apply dj (fun Xd H5=>∃na,Xd=[some (.ref ca),some (.ref a),some (.ref td),some (.int (k2:Int)),some (.int (q:Int)),some (.int ((k+1+n:Nat):Int)),some (.ref wa),some (.ref na),v8]/\aj H4 H5/\na≠td/\H5 na=some (.ak (row.map V.int))) (fun Y hY=>?_) ?_
     ·apply Z11 _ rfl rfl _ rfl ?_;rw[show decide (V.int (q:Int)=V.int 1)=decide (q=1)from lS (j:=1)];rcases Wi with⟨q1,rfl,rfl⟩|⟨q1,bN,hrw,rfl⟩
      ·rw[bY q1];exact aO (hY _ _ ⟨r0,rfl,aj.refl _,nr0,WN⟩)
      ·rw[bZ q1];apply a0 ?_;apply dj (fun El H6=>El=[some (.ref ca),some (.ref a),some (.ref td),some (.int ((k+1+n+1+row.length:Nat):Int)),some (.int (q:Int)),some (.int ((k+1+n:Nat):Int)),some (.ref wa),some (.ref r0),v8]/\H6=H4) (fun Z hZ=>?_) ?_
       ·apply Z105 _ rfl _ _ rfl rfl _ rfl (Z57 _ rfl ca _ _ _ rfl rfl (Ai (sm.trans s4)) (dH (j:=k+1+n) (by rw[bR,bN];rfl)) _ _ ⟨rfl,rfl,hZ _ _ ⟨?_,rfl⟩⟩);show[some (V.ref ca),some (V.ref a),some (V.ref td),some (V.int (((k+1+n:Nat):Int)+1+(row.length:Int))),some (V.int (q:Int)),some (V.int ((k+1+n:Nat):Int)),some (V.ref wa),some (V.ref r0),v8]=_;rw[show((k+1+n:Nat):Int)+1+(row.length:Int)=((k+1+n+1+row.length:Nat):Int) by omega]
       ·rintro El H6 ⟨rfl,rfl⟩;apply Z83 _ rfl _ rfl _ _ rfl rfl _ rfl (Z52 _ rfl _ rfl ca _ rfl (Ai (sm.trans s4)) (fun na jw=>hY _ _ (Z28 na rfl (aj.new jw) ((aQ (s4 _ _ l5) jw).symm) ?_)));rw[aC,show((k+1+n:Nat):Int)+1=((k+1+n+1:Nat):Int) by omega,UZ ⋯ WU,show k+1+n+1+row.length-(k+1+n+1)=row.length by omega,hrw]
     ·rintro Xd H5 ⟨na,rfl,s5,afm,jw⟩;have xp:=(sm.trans s4).trans s5;have aiA:=s5 _ _ (s4 _ _ l5);have ntd:td≠a:=fun e=>by obtain⟨dl,hl⟩:=Ba;rw[e,hl]at qm;cases qm
      have Ml:=s5 _ _ WJ;have ahu:wa≠td:=fun e=>by have:=afk;rw[e,l5]at this;cases this
      have ahz:na≠td:=afm;apply dj (fun ls H8=>∃p,ls=[some (.ref ca),some (.ref a),some (.ref td),some (.int (k2:Int)),some (.int (q:Int)),some (.int ((k+1+n:Nat):Int)),some (.ref wa),some (.ref na),some (.ref p)]/\(∀o,l3 T.bX T.cn T.cQ T.fF (L2.ay H8 td o) a (Wqatcl.step st x).1)/\H8 td=some (.ak (tl.map V.int))/\aj H H8/\p≠td/\H8 p=some (.ak (lZ (Wqatcl.step st x).2))/\(Wqatcl.step st x).2.nums.length<=6000) (fun Y hY=>?_) ?_
      ·apply Z14 td (.ak (tl.map V.int)) aiA trivial (fun od=>?_);apply Z101 _ rfl _ rfl _ rfl _ rfl a wa (Z82 na q ws row st x rfl ((lG (.cK od (.ak (tl.map V.int)))).same (adB (s4.trans s5))) (aA.of (by rw[aq ahu];exact Ml)) (aA.of (by rw[aq ahz];exact jw)) ⋯ hCI (fun H7 p EJ MC hp EY X6=>?_));have Yj:H7 td=some (.cK od (.ak (tl.map V.int))):=EJ _ _ aC ntd;have EC:p≠td:=fun e=>by rw[e,aC]at hp;cases hp
       apply⟨Yj,hY _ _ (Z10 p rfl ⟨fun o=>?_,aC,fun b o h=>?_,EC,by rw[aq EC];exact EY,X6⟩)⟩
       ·rw[C9];exact MC.ag6 Yj (bf.ay _ _ _)
       ·have nb:=aQ h Mm;rw[aq nb];exact EJ _ _ (by rw[aq nb];exact xp _ _ h) (aQ h ha)
      rintro ls H7 ⟨p,rfl,MC,WL,sm7,EC,EY,X6⟩;have o9:(lZ (Wqatcl.step st x).2).length=(Wqatcl.step st x).2.nums.length+1:=by unfold lZ;simp
      have gQ:(c::oh).length=oh.length+1:=rfl;have aiz:tl.length<=7000*400:=b3 Nt (Nat.mul_le_mul_left _ ⋯);apply Z47 _ rfl (.inl ⟨rfl,_,aA.of WL⟩) _ (Z95 rfl p _ rfl (.inl (aA.of EY)) td _ _ rfl rfl WL ?_ ?_)
      ·rw[aL];exact jd aiz (by decide)
      ·have WK:(L2.ay H7 td (.ak (tl.map V.int++[V.int (((lZ (Wqatcl.step st x).2).length:Nat):Int)]))) td=some (.ak (tl.map V.int++[V.int (((lZ (Wqatcl.step st x).2).length:Nat):Int)])):=aC;apply Z12 _ rfl (.inl ⟨rfl,_,aA.of WK⟩) (Z18 _ rfl td p _ _ rfl rfl WK (by rw[aq EC];exact EY) ?_ ?_)
       ·rw[cq,aL,o9];exact nV (by simp;omega)
       ·have fL:=adg (st:=st) hco;have cR:=Fl.ab5 st c oh;rw[fL]at cR;apply Z64 oh.length (by rw[gQ];omega) oh rfl ((Wqatcl.step st x).1) (Z72 k2 f2 (tl++((((Wqatcl.step st x).2.nums.length+1:Nat):Int)::(Wqatcl.step st x).2.ret::(Wqatcl.step st x).2.nums.map fun(n:Nat)=>(n:Int))) _ _ _ _ _ rfl ?_ ?_ ?_ ⟨WU,by rw[jQ];exact h2,fun c hc=>Ef c (eF _ hc),?_,?_,?_⟩)
        ·intro o;rw[C9,C9];exact MC o
        ·rw[aC,o9];congr 1;unfold lZ;simp
        ·exact(sm7.i0 Mm).i0 Mm
        ·rw[xh,cR];simp
        ·rw[cq];simp;omega
        ·omega
  ·rintro σ H' ⟨st,k,f',tl,v4,v5,v6,v7,v8,rfl,lG,l5,sm,hk,mT,Ef,xh,Nt,Yo⟩;apply⟨_,rfl,kk H' td sm ?_⟩;rw[xh,l5];simp[PyFlat.played,PyFlat.told]
end Ad
namespace L2
open PySem PySem.Spec PyProof.Rows
open PySem.W (WData Codec OpenSpec)
def aaY {r:OpenSpec}{k:Nat}{q:Program}{loose:List Str}{XP:(Str->Option Value)->Heap->Prop}{YP:World->Heap->Prop}{d:DefRec}{K:Params->aI}{CX:World->ng}{ps:List Str}{sp:aI->Sp}(LV:r.wellSaid=true)(NQ:d.params.defaults=[])(bN:r.args.length=ps.length)(hr:dB k callerA)(hY:∀(w:World)(h:Heap),YP w h->(K w.params).In h)(F:∀(w:World)(mg:Str->Option Value)(fa:Addr)(h:Heap),YP w h->(K w.params).In h->h.Ns mainGlobals mg->mg d.name=some (.ref fa)->∃fd:FuncData,(∀(s:Shared)(us:List Value),us.length=ps.length->BindsTo s fd ⟨us,[]⟩ (ps.zip us))/\∀base:Heap,(K w.params).In base->base.Ns mainGlobals mg->bg r.prog w (K w.params) mg base (CX w) k fa fd ps (sp (K w.params)))(mI:∀(K:aI)(H:Hp)(xs:List V)(a:Codec.denoteAll r.args),Af H->Codec.withinAll r.args a=true->Codec.app r.args r.asked a=true->mz K H xs (Codec.encAll r.args a)->sp K xs H (fun v H'=>Dw K H' v (r.ret.enc (Codec.app r.args r.f a))) fun _ _ _=>False)(Bb:∀(w:World)(H:Hp)(s:Shared)(e:Value)(s':Shared),CX w [] H s (fun _ _ _=>False) e s'->False):W.WalkOS q loose XP YP r d [] (fun f vs=>PySem.call f vs) :=
 abU (K:=K) (CX:=CX) (sp:=fun w=>sp (K w.params)) LV NQ bN hr hY F (fun w H xs a h1 h2 h3 h4=>mI (K w.params) H xs a h1 h2 h3 h4) fun w H s e s'=>Bb w H s e s'
end L2
namespace Ad
open PySem PySem.Spec PyProof.Rows L2
def agQ {P:Program}{w:World}{K:aI}{mg:Str->Option Value}{fa:Addr}(T:Nonempty (Tx K mg))(AX:mg "answers"=some (.ref fa)):∃fd:FuncData,(∀(s:Shared)(us:List Value),us.length=(["calls"]:List Str).length->BindsTo s fd ⟨us,[]⟩ ((["calls"]:List Str).zip us))/\∀base:Heap,K.In base->base.Ns mainGlobals mg->bg P w K mg base (bw P w) 15 fa fd ["calls"] (JQ K):=by obtain⟨T⟩:=T;have e:=AX.symm.trans (T.tm T.Kl);cases e;apply⟨T.Kb,fun s us hu=>?_,fun base _ _=>abv T⟩;obtain⟨oc,od,kV,doc,pm,an,aU,ct,xr,hd,_⟩:=T.CK.ex;rw[hd];exact match us,hu with|[_],_=>.of_eq rfl
end Ad
open Lean in
local macro_rules
| `(#check_failure $s:str)=>do
 let mut c:=#[]
 for x in s.getString.splitOn " "++(List.range 740).map (s!"o_{·}")do
  let n:=(`PySem.Challenge.cw_landrules_s01_answers_holds).str x
  c:=c.push (<-`(theorem $(mkIdent ((`PySem.W.Fast).str s!"tw{n.hash}")) : True:=⟨⟩))
 return mkNullNode c
#check_failure"tree_254 tree_693 tree_319 tree_738 tree_494 tree_64 tree_546 tree_614 tree_363 tree_9 tree_577 tree_137 tree_434 tree_177 tree_279 tree_26 heap_1 heap_8 heap_739 view_1 env_3 sts_280 sts_27 sts_364 sts_65 sts_138 sts_435 sts_578 sts_615 sts_11 sts_255 sts_495 sts_178 sts_547 sts_694 sts_320"
theorem PySem.W.Fast.tw4573639738579301979:True:=⟨⟩
open PySem PySem.W PyProof.Rows
set_option maxRecDepth 100000 in
set_option maxHeartbeats 0 in
theorem PySem.Challenge.cw_landrules_s01_answers_holds : PySem.Challenge.rw_landrules_s01_answers.Holds := by
 w_on;k_headS;(case hw=>exact⟨[.list [.int 1,.int 0]],by decide+kernel,by decide+kernel⟩)
 k_fillS
 apply L2.aaY (r:=PySem.Challenge.rw_landrules_s01_answers) (k:=15) (CX:=fun w=>L2.bw PySem.Challenge.rw_landrules_s01_answers.prog w) (ps:=["calls"]) (sp:=fun K=>Ad.JQ K) (by decide+kernel) rfl rfl ⟨rfl,by decide,by decide⟩ (fun w h Y=>PySem.W.kIn_of Y) ?F ?S (fun _ _ _ _ _ z=>by obtain⟨_,_,_,_,_,_,_,_,_,_,_,_,_,_,_,z⟩:=z;exact z)
 case F =>
  intro w mg fa h Y KX G AX;apply Ad.agQ ?_ AX;have T:Nonempty (Ad.Tx (L2.Y0 KX) mg):=by
   dsimp only[L2.Y0];refine' ⟨Ad.Tx.mk KX G ?wj ?ud ?C8 ?LL ?LM ?Ll ?Km ?LJ ?LK ?CJ ?IG ?Kj ?Kk ?JK ?II ?JJ ?Hn ?HZ ?IC ?Jj ?Hl ?Jk ?Ki ?Cc ?Hk ?IE ?Cb ?Gz ?BV ?yN ?IH ?ID ?Hm ?HD ?HY ?IF ?HC ?IJ ?Ct ?Cd ?Gc ?FR ?Cs ?KQ ?BG ?Ho ?yw ?Kl ?Ie ?Kh ?wk ?Cw ?yl ?tP ?vS ?pI ?BE ?yi ?yf ?yc ?La ?Lb ?x9 ?BA ?BR ?Kz ?Gd ?GK ?BB ?Js ?F5 ?By ?FL ?K8 ?GQ ?HK ?K9 ?IL ?Gg ?Gf ?GU ?Hq ?GX ?Ge ?ym ?tR ?t6 ?yS ?zr ?zt ?zg ?yU ?zf ?yA ?yK ?yM ?vQ ?qG ?tN ?oj ?yp ?vP ?vO ?vN ?Ci ?Cj ?vL ?yh ?yE ?B6 ?BH ?BN ?yk ?yO ?y6 ?yy ?y8 ?zq ?tU ?yx ?yQ ?tT ?yo ?tO ?pK ?yT ?yP ?yz ?yD ?yJ ?yR ?yC ?BY ?BD ?ye ?Bx ?yV ?tZ ?tX ?yj ?yb ?tY ?zG ?Ce ?BO ?B1 ?Cg ?Cf ?BK ?BJ ?BP ?BW ?BQ ?BI ?vR ?tL ?yB ?pH ?CK ?yL ?zp ?qL ?y9 ?lQ ?BX ?cE ?jB ?vT ?fU ?jC ?qF ?vV ?ij ?yH ?nv ?dG ?yg ?yt ?nt ?tI ?yr ?pJ ?yd ?fk ?vM ?BM ?BF ?qE ?ya ?pG ?iG ?yG ?BU ?tQ ?yu ?yX ?gn ?ki ?GZ ?za ?Jx ?CA ?yZ ?Jy ?Lh ?Ht ?CB ?Lf ?yI ?HG ?Gm ?FZ ?FW ?Jz ?IU ?G8 ?Hu ?Gj ?HH ?Hv ?HI ?IT ?ub ?KG ?DE ?LZ ?we ?qY ?Li ?C3 ?yY ?FY ?HQ ?Ik ?FV ?B5 ?F7 ?B4 ?B3 ?B9 ?IV ?Cq ?Bz ?FX ?Gn ?Gk ?JZ ?Il ?G7 ?LD ?Dn ?Lg ?LC ?LY ?LF ?Hs ?uk ?wN ?LA ?vX ?d5 ?Lz ?zZ ?LU ?DO ?K7 ?Jr ?DN ?uj⟩
   case wj|ud|C8|LL|LM|Ll|Km|LJ|LK|CJ|IG|Kj|Kk|JK|II|JJ|Hn|HZ|IC|Jj|Hl|Jk|Ki|Cc|Hk|IE|Cb|Gz|BV|yN|IH|ID|Hm|HD|HY|IF|HC|IJ|Ct|Cd|Gc|FR|Cs|KQ|BG|Ho|yw|Kl|Ie|Kh|uk|wN|LA|vX|d5|Lz|zZ|LU|DO|K7|Jr|DN|uj=>(show PySem.W.nsIn _ _ _=_;k_is)
   case wk=>exact⟨⟨_,by k_is,by k_is⟩,by k_is⟩
   case Cw|La|Lb|Kz|Js|K8|K9|cE|fU|ij|dG|fk|iG|gn=>exact⟨by k_is,by k_is,by k_is,by k_is⟩
   case yl|tP|vS|pI|BE|yi|yf|yc|x9|BA|BR|Gd|GK|BB|F5|By|FL|GQ|HK|IL|Gg|Gf|GU|Hq|GX|Ge|ym=>exact⟨by k_is,by k_is,by k_is⟩
   case tR|t6|yS|zr|zt|zg|yU|zf|yA|yK|yM|vQ|qG|tN|oj|yp|vP|vO|vN|Ci|Cj|vL|yh|yE|B6|BH|BN|yk|yO|y6|yy|y8|zq|tU|yx|yQ|tT|yo|tO|pK|yT|yP|yz|yD|yJ|yR|yC|BY|BD|ye|Bx|yV|tZ|tX|yj|yb|tY|zG|Ce|BO|B1|Cg|Cf|BK|BJ|BP|BW|BQ|BI|vR|tL|yB|pH|CK|yL|zp=>exact⟨⟨_,_,_,_,_,_,_,_,_,rfl,by k_is,by k_is⟩,by k_is⟩
   case qL|lQ=>exact⟨_,_,_,_,_,_,_,_,_,_,_,_,_,_,_,_,_,_,_,by k_is,by k_is,by rfl,by rfl,by k_is,by k_is,by k_is,by k_is⟩
   case y9=>exact⟨⟨_,by k_is,by k_is⟩⟩
   case BX|jB|vT|jC|qF|vV|yH|nv|yg|yt|nt|tI|yr|pJ|yd|vM|BM|BF|qE|ya|pG|yG|BU|tQ|yu|yX|ki=>(show PySem.W.findIn _ _ _=_;k_is)
   case GZ=>decide
   case Gj|HH|IT=>exact⟨_,_,_,_,by k_is,by k_is,by decide+kernel,by repeat (first|exact trivial|apply⟨⟨_,rfl,_,_,_,by k_is,by decide+kernel⟩,?_⟩)⟩
   case ub|yY|Bz|JZ|Hs=>exact⟨_,_,_,_,by k_is,by k_is,by decide+kernel⟩
   case za|Jx|CA|yZ|Jy|Lh|Ht|CB|Lf|yI|HG|Gm|FZ|FW|Jz|IU|G8|Hu|Hv|HI|KG|DE|LZ|we|qY|Li|C3|FY|HQ|Ik|FV|B5|F7|B4|B3|B9|IV|Cq|FX|Gn|Gk|Il|G7|LD|Dn|Lg|LC|LY|LF=>exact⟨_,by k_is,by decide+kernel⟩
  exact T
 case S =>
  intro K H xs a hO ER MB hx;cases hx with
  | cons h1 h2 =>
   cases h2;cases h1 with
   | ak hs ha =>have e:=L2.Vw a.1 _ ha;subst e;have q:((Codec.inLen 0 16000 a.1&&a.1.all (Codec.inInt (-2147483648) 18446744073709551615))&&true)=true:=ER;rw[dw,dw]at q;exact⟨_,a.1,rfl,hs,MB,b3 (Codec.inNat_iff.mp q.1.1).2 (by decide),fun H' p _ hp=>.ak (L2.aA.of hp) (L2.VA _)⟩

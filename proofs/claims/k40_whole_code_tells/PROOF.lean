import PyProof.Rows.All
import Wide.All
import OpenK.AllK
import Wide.FinOn
import Lean
import PyProof.EqAt
import PyProof.EqKinds
import PyProof.TupleCall
import PyProof.ListNew
import PyProof.WalksMore
import PyProof.ListRange
import PyProof.RaisesMany
import PyProof.RulesTry
import PyProof.PassesOwn
import OpenK.KOwn
import PyProof.RulesAs
import PyProof.RulesDel
import PyProof.ExcArgsOwn
import PyProof.IsiBase
import KE.KIsAll
import KE.KDictOf
import PyProof.AttrMiss
import KE.KDictLaws
import PyProof.DictWalks
import PyProof.ZipIter
import PyProof.TupleIter
import KE.KPairComp
import PySem.Challenge.RW_kindspan_k40_whole_code_tells
set_option Elab.async false
set_option linter.all false
set_option maxRecDepth 100000
set_option maxHeartbeats 16000000
set_option compiler.extract_closed false
noncomputable section
local macro_rules | `(term| nofun)=>`(term| ⟨rfl,rfl,rfl,by decide +kernel,rfl,by decide +kernel,by decide +kernel⟩)
local macro_rules | `(term| ())=>`(term| (by omega))
local macro_rules | `(term| ⟨⟩)=>`(term| (by decide))
theorem AO {α:Sort _}{β:α->Sort _}{γ:∀ a,β a->Sort _}{x:∀ a b,γ a b}:∀ a b,x a b=x a b:=λ_ _=>rfl
abbrev GO:List PySem.Str:=["_law_script","_law_k","_law_goal","_law_names","_law_deep"]
abbrev HG:List PySem.Str:=["_law_script","_law_k"]
inductive D1 {A0 A1:Type}(p:A0->A1->Prop):Prop
 | mk (a0:A0) (a1:A1) (h:p a0 a1):D1 p
inductive Dw {A0 A1 A2:Type}(p:A0->A1->A2->Prop):Prop
 | mk (a0:A0) (a1:A1) (a2:A2) (h:p a0 a1 a2):Dw p
inductive Lb {A0 A1 A2 A3:Type}(p:A0->A1->A2->A3->Prop):Prop
 | mk (a0:A0) (a1:A1) (a2:A2) (a3:A3) (h:p a0 a1 a2 a3):Lb p
inductive RF {A0 A1 A2 A3 A4:Type}(p:A0->A1->A2->A3->A4->Prop):Prop
 | mk (a0:A0) (a1:A1) (a2:A2) (a3:A3) (a4:A4) (h:p a0 a1 a2 a3 a4):RF p
inductive gp {A0 A1 A2 A3 A4 A5:Type}(p:A0->A1->A2->A3->A4->A5->Prop):Prop
 | mk (a0:A0) (a1:A1) (a2:A2) (a3:A3) (a4:A4) (a5:A5) (h:p a0 a1 a2 a3 a4 a5):gp p
inductive Iv7 {A0 A1 A2 A3 A4 A5 A6:Type}(p:A0->A1->A2->A3->A4->A5->A6->Prop):Prop
 | mk (a0:A0) (a1:A1) (a2:A2) (a3:A3) (a4:A4) (a5:A5) (a6:A6) (h:p a0 a1 a2 a3 a4 a5 a6):Iv7 p
inductive Iv8 {A0 A1 A2 A3 A4 A5 A6 A7:Type}(p:A0->A1->A2->A3->A4->A5->A6->A7->Prop):Prop
 | mk (a0:A0) (a1:A1) (a2:A2) (a3:A3) (a4:A4) (a5:A5) (a6:A6) (a7:A7) (h:p a0 a1 a2 a3 a4 a5 a6 a7):Iv8 p
inductive gq {A0 A1 A2 A3 A4 A5 A6 A7 A8 A9 A10 A11 A12 A13:Type}(p:A0->A1->A2->A3->A4->A5->A6->A7->A8->A9->A10->A11->A12->A13->Prop):Prop
 | mk (a0:A0) (a1:A1) (a2:A2) (a3:A3) (a4:A4) (a5:A5) (a6:A6) (a7:A7) (a8:A8) (a9:A9) (a10:A10) (pD:A11) (pE:A12) (pF:A13) (h:p a0 a1 a2 a3 a4 a5 a6 a7 a8 a9 a10 pD pE pF):gq p
namespace L2
open PySem PySem.Spec PyProof.Rows
abbrev Key:=Sum Int Str
noncomputable def HY:Key->Value->Bool
 | .inl k,v=>Value.isInt k v
 | .inr x,v=>Value.isStrOf x v
noncomputable def pG (w:World):Key->Int
 | .inl k=>hashInt k
 | .inr x=>hashStr w x
theorem B':∀ {k:Key} {v:Value},HY k v=true->(∃ i t,k=Sum.inl i/\v=Value.int i t)\/(∃ x t,k=Sum.inr x/\v=Value.str x t)
 | .inl i,v,h=>by
  obtain ⟨t,e⟩:=Value.isInt_shape (k:=i) (v:=v) h
  exact .inl ⟨i,t,rfl,e⟩
 | .inr x,v,h=>by
  obtain ⟨t,e⟩:=Value.isStrOf_shape (x:=x) (v:=v) h
  exact .inr ⟨x,t,rfl,e⟩
theorem NK (i:Int)(t:Tok):HY (.inl i) (.int i t)=true:=by simp [HY,Value.isInt]
theorem NM (x:Str)(t:Tok):HY (.inr x) (.str x t)=true:=by simp [HY,Value.isStrOf]
theorem W4 (a b:Int):decide ((Sum.inl a:Key)=Sum.inl b)=(a==b):=by
 by_cases e:a=b
 ·subst e;simp
 ·have h:¬ (Sum.inl a:Key)=Sum.inl b:=λq=>e (Sum.inl.inj q)
  rw [decide_eq_false h]
  exact (beq_eq_false_iff_ne.mpr e).symm
theorem Lk (a b:Str):decide ((Sum.inr a:Key)=Sum.inr b)=decide (a=b):=by
 by_cases e:a=b
 ·subst e;simp
 ·have h:¬ (Sum.inr a:Key)=Sum.inr b:=λq=>e (Sum.inr.inj q)
  rw [decide_eq_false h,decide_eq_false e]
theorem W5 (a:Int)(b:Str):decide ((Sum.inl a:Key)=Sum.inr b)=false:=decide_eq_false (λq=>nomatch q)
theorem W6 (a:Str)(b:Int):decide ((Sum.inr a:Key)=Sum.inl b)=false:=decide_eq_false (λq=>nomatch q)
noncomputable def Bm (prog:Program)(w:World):PySem.KeyKind prog w Key where
 is:=HY
 hash:=pG w
 inj:=λv a b ha hb=>by
  rcases B' ha with ⟨i,t,rfl,rfl⟩ | ⟨x,t,rfl,rfl⟩
  ·rcases B' hb with ⟨j,u,rfl,e⟩ | ⟨y,u,rfl,e⟩
   ·injection e with e1 _;rw [e1]
   ·exact nomatch e
  ·rcases B' hb with ⟨j,u,rfl,e⟩ | ⟨y,u,rfl,e⟩
   ·exact nomatch e
   ·injection e with e1 _;rw [e1]
 byValue:=λk v h=>by
  rcases B' h with ⟨i,t,rfl,rfl⟩ | ⟨x,t,rfl,rfl⟩ <;> rfl
 pyHash:=λhv h=>by
  rcases B' hv with ⟨i,t,rfl,rfl⟩ | ⟨x,t,rfl,rfl⟩
  ·exact wpAny_pyHash_int h
  ·exact wpAny_pyHash_str h
 eqBool:=λhu hv h=>by
  rcases B' hu with ⟨i,t,rfl,rfl⟩ | ⟨x,t,rfl,rfl⟩
  ·rcases B' hv with ⟨j,u,rfl,rfl⟩ | ⟨y,u,rfl,rfl⟩
   ·rw [W4] at h;exact wpAny_eqBool_int h
   ·rw [W5] at h;exact SeqAt.EqAt.int_str i t y u _ _ _ _ h
  ·rcases B' hv with ⟨j,u,rfl,rfl⟩ | ⟨y,u,rfl,rfl⟩
   ·rw [W6] at h;exact SeqAt.EqAt.str_int x t j u _ _ _ _ h
   ·rw [Lk] at h;exact wpAny_eqBool_str h
 «strs»:=λk x t v h=>by
  rcases B' h with ⟨i,u,rfl,e⟩ | ⟨y,u,rfl,e⟩
  ·exact nomatch e
  ·injection e with e1 _
   subst e1
   cases v <;> rfl
theorem JH (prog:Program)(w:World)(i:Int)(t:Tok):(Bm prog w).is (.inl i) (.int i t)=true:=NK i t
theorem Ej (prog:Program)(w:World)(x:Str)(t:Tok):(Bm prog w).is (.inr x) (.str x t)=true:=NM x t
inductive V where
 | non | bl (b:Bool) | int (i:Int) | str (x:Str) | byt (b:Array UInt8) | flt (b:UInt64) | ref (a:Addr) | ty (n:String)
 deriving DecidableEq
noncomputable def RelV:V->Value->Prop
 | .non,u=>u=Value.none
 | .bl b,u=>u=Value.bool b
 | .int i,u=>∃ t,u=Value.int i t
 | .str x,u=>∃ t,u=Value.str x t
 | .byt b,u=>∃ t,u=Value.bytes b t
 | .flt b,u=>∃ t,u=Value.float b t
 | .ref a,u=>u=Value.ref a
 | .ty n,u=>u=Value.type n
abbrev Vals:List V->List Value->Prop:=Paired RelV
theorem Vals.length {xs:List V}{us:List Value}(r:Vals xs us):xs.length=us.length:=Paired.length r
theorem Vals.get:∀ {xs:List V} {us:List Value} {i:Nat} {x:V},Vals xs us->xs[i]?=some x->∃ u,us[i]?=some u/\RelV x u
 | _,_,_,_,.nil,e=>by simp at e
 | _,_,0,_,.cons r _,e=>by simp at e;subst e;exact ⟨_,rfl,r⟩
 | _,_,i+1,x,.cons _ t,e=>by
  obtain ⟨u,h1,h2⟩:=Vals.get (i:=i) (x:=x) t (by simpa using e)
  exact ⟨u,by simpa using h1,h2⟩
theorem Vals.append:∀ {xs ys:List V} {us ws:List Value},Vals xs us->Vals ys ws->Vals (xs++ys) (us++ws)
 | _,_,_,_,.nil,s=>s
 | _,_,_,_,.cons r t,s=>.cons r (Vals.append t s)
theorem Vals.take:∀ {xs:List V} {us:List Value} (n:Nat),Vals xs us->Vals (xs.take n) (us.take n)
 | _,_,0,_=>.nil
 | _,_,_+1,.nil=>.nil
 | _,_,n+1,.cons r t=>.cons r (Vals.take n t)
theorem Vals.drop:∀ {xs:List V} {us:List Value} (n:Nat),Vals xs us->Vals (xs.drop n) (us.drop n)
 | _,_,0,r=>r
 | _,_,_+1,.nil=>.nil
 | _,_,n+1,.cons _ t=>Vals.drop n t
noncomputable def F4:Option V->Option Value->Prop
 | some v,some u=>RelV v u
 | none,none=>True
 | _,_=>False
noncomputable def KV {κ:Type}:List (κ × V)->List (κ × Value)->Prop:=Paired λ(p:κ × V) (q:κ × Value)=>p.1=q.1/\RelV p.2 q.2
noncomputable def kV:Key->V
 | .inl i=>.int i
 | .inr x=>.str x
inductive HO where
 /-- a list -/
 | lst (xs:List V)
 /-- a tuple (never changes) -/
 | tup (xs:List V)
 /-- a dict whose keys are ints and texts;one whose keys are tuples of ints and texts (the empty one is both) -/
 | dK (AI:List (Key × V)) | dT (AI:List (List Key × V))
 /-- a set of ints: its members,its size -/
 | set (S:Int->Bool) (n:Nat)
 /-- an instance of the class at C,its dict at dx,its attributes -/
 | ins (C dx:Addr) (fs:List (Str × V))
 /-- the dict of the instance at x -/
 | own (x:Addr)
 /-- the dict of an exception -/
 | xd (fs:List (Str × V))
 /-- a bound method,f of x -/
 | met (f x:Addr)
 /-- a range object lo,lo+1,.. below hi -/
 | rng (lo hi:Int)
 /-- a gu that is known to the object (the pH;a dict while a loop walks it): read,never written while it is so -/
 | frz (o:Obj) (u:HO)
 /-- a code gy table -/
 | tbl (ps:Array Value)
 /-- any other gu,by what is true of its one object (a def of Aez own: Ahr a S n:=HO.ext λh=>..) -/
 | ext (φ:Heap->Prop)
abbrev Hp:=Addr->Option HO
noncomputable def upd (H:Hp)(a:Addr)(o:HO):Hp:=λb=>if b=a then some o else H b
theorem AG {H:Hp}{a:Addr}{o:HO}:upd H a o a=some o:=by unfold upd;rw [if_pos rfl]
theorem AQ {H:Hp}{a b:Addr}{o:HO}(h:b≠a):upd H a o b=H b:=by unfold upd;rw [if_neg h]
theorem IL {H:Hp}{a:Addr}{o u:HO}:upd (upd H a o) a u=upd H a u:=by
 funext b;unfold upd;split <;> rfl
theorem Ge {H:Hp}{a b:Addr}{o u:HO}(h:H a=some o)(h':H b=some u)(d:o≠u):a≠b:=by
 intro e;subst e;rw [h] at h';exact d (Option.some.inj h')
theorem Ba {H:Hp}{a b:Addr}{o:HO}(h:H a=some o)(h':H b=none):a≠b:=by
 intro e;subst e;rw [h] at h';cases h'
section
variable (P:Program)(w:World)
noncomputable def Br (H:Hp)(h:Heap)(a:Addr):HO->Prop
 | .lst xs=>xs.length<=sizeLine/\∃ (its:List Value) (n:Nat),Vals xs its/\h.get? a=some { cls:=.type "list",data:=.seq its.toArray n }
 | .tup xs=>xs.length<=sizeLine/\∃ its:List Value,Vals xs its/\IsTup h a its.toArray
 | .dK AI=>AI.length<=sizeLine/\(a==sysModules)=false/\∃ vs,KV AI vs/\h.DictOf (Bm P w) a vs
 | .dT AI=>AI.length<=sizeLine/\(a==sysModules)=false/\∃ xs:List (List Key × Addr × Value),
   Paired (λ(p:List Key × V) (q:List Key × Addr × Value)=>p.1=q.1/\H q.2.1=some (.tup (p.1.map kV))/\RelV p.2 q.2.2) AI xs /\
   ∃ o es ep,h.get? a=some o/\o.ExactDict/\o.data=.dict es ep/\es.toList=xs.map (entryOfKey (tupleKind (Bm P w)))/\(xs.map (·.1)).Nodup
 | .set S n=>h.SetOf (intKind P w) a S n
 | .ins C dx fs=>H dx=some (.own a)/\fs.length<=1000/\dx≠a/\h.get? a=some (W.instObj C dx) /\
   ∃ mA,h.Ns1 dx mA/\(∀ f,F4 (fs.lookup f) (mA f))/\PySem.Within mA (fs.map (·.1))
 | .own _=>∃ o,h.get? a=some o
 | .xd fs=>∃ mA,h.Ns1 a mA/\∀ f,F4 (fs.lookup f) (mA f)
 | .rng lo hi=>∃ t u v,h.get? a=some { cls:=.type "range",data:=.fields #[.int lo t,.int hi u,.int 1 v] }
 | .frz o u=>h.get? a=some o/\Br H h a u
 | .tbl ps=>h.get? a=some { cls:=.none,data:=.fields ps }
 | .met f x=>h.get? a=some (W.methodObj (.ref f) (.ref x))
 | .ext φ=>φ h/\(∃ o,h.get? a=some o)/\∀ h1 h2:Heap,φ h1->(∀ o,h1.get? a=some o->h2.get? a=some o)->φ h2
noncomputable def D' (H:Hp)(h:Heap):Prop:=∀ a o,H a=some o->Br P w H h a o
end
section
variable {P:Program}{w:World}{H H':Hp}{h h':Heap}{a:Addr}{o:HO}
theorem Br.lt (x:Br P w H h a o):a < h.objs.size:=by
 cases o with
 | lst xs=>obtain ⟨_,_,_,_,e⟩:=x;exact Heap.lt_size e
 | tup xs=>obtain ⟨_,_,_,p⟩:=x;exact p.lt
 | dK AI=>obtain ⟨_,_,_,_,o,_,_,e,_⟩:=x;exact Heap.lt_size e
 | dT AI=>obtain ⟨_,_,_,_,o,_,_,e,_⟩:=x;exact Heap.lt_size e
 | set S n=>obtain ⟨o,_,_,_,e,_⟩:=x;exact Heap.lt_size e
 | ins C dx fs=>obtain ⟨_,_,_,e,_⟩:=x;exact Heap.lt_size e
 | own y=>obtain ⟨_,e⟩:=x;exact Heap.lt_size e
 | xd fs=>obtain ⟨_,⟨_,_,_,e,_⟩,_⟩:=x;exact Heap.lt_size e
 | rng lo hi=>obtain ⟨_,_,_,e⟩:=x;exact Heap.lt_size e
 | frz ob u=>obtain ⟨e,_⟩:=x;exact Heap.lt_size e
 | tbl ps=>exact Heap.lt_size (show h.get? a=some _ from x)
 | met f y=>exact Heap.lt_size (show h.get? a=some _ from x)
 | ext φ=>obtain ⟨_,⟨_,e⟩,_⟩:=x;exact Heap.lt_size e
theorem Paired.mapP {α β:Type}{F G:α->β->Prop}:∀ {l₁:List α} {l₂:List β},Paired F l₁ l₂->(∀ a b,F a b->G a b)->Paired G l₁ l₂
 | _,_,.nil,_=>.nil
 | _,_,.cons r t,f=>.cons (f _ _ r) (Paired.mapP t f)
theorem Br.stay (x:Br P w H h a o)(k:∀ b u,(b=a\/H b=some (.own a))->h.get? b=some u->h'.get? b=some u)
  (ho:∀ b,H b=some (.own a)->H' b=some (.own a)) (ht:∀ b xs,H b=some (.tup xs)->H' b=some (.tup xs)):Br P w H' h' a o:=by
 induction o with
 | lst xs=>obtain ⟨z,its,n,r,e⟩:=x;exact ⟨z,its,n,r,k _ _ (.inl rfl) e⟩
 | tup xs=>obtain ⟨z,its,r,ob,e,c⟩:=x;exact ⟨z,its,r,ob,k _ _ (.inl rfl) e,c⟩
 | dK AI=>obtain ⟨z,y,vs,r,ob,es,ep,e,c⟩:=x;exact ⟨z,y,vs,r,ob,es,ep,k _ _ (.inl rfl) e,c⟩
 | dT AI =>
  obtain ⟨z,y,xs,r,ob,es,ep,e,c⟩:=x
  exact ⟨z,y,xs,Paired.mapP r λp q z=>⟨z.1,ht _ _ z.2.1,z.2.2⟩,ob,es,ep,k _ _ (.inl rfl) e,c⟩
 | set S n=>obtain ⟨ob,es,ep,t,e,c⟩:=x;exact ⟨ob,es,ep,t,k _ _ (.inl rfl) e,c⟩
 | ins C dx fs =>
  obtain ⟨d,z,ne,e,mA,⟨od,es,ep,e2,c⟩,r⟩:=x
  exact ⟨ho _ d,z,ne,k _ _ (.inl rfl) e,mA,⟨od,es,ep,k _ _ (.inr d) e2,c⟩,r⟩
 | own y=>obtain ⟨ob,e⟩:=x;exact ⟨ob,k _ _ (.inl rfl) e⟩
 | xd fs=>obtain ⟨mA,⟨od,es,ep,e,c⟩,r⟩:=x;exact ⟨mA,⟨od,es,ep,k _ _ (.inl rfl) e,c⟩,r⟩
 | rng lo hi=>obtain ⟨t,u,v,e⟩:=x;exact ⟨t,u,v,k _ _ (.inl rfl) e⟩
 | frz ob u ih=>obtain ⟨e,q⟩:=x;exact ⟨k _ _ (.inl rfl) e,ih q⟩
 | tbl ps =>
  have e:h.get? a=some { cls:=.none,data:=.fields ps }:=x
  show h'.get? a=some { cls:=.none,data:=.fields ps }
  exact k a _ (.inl rfl) e
 | met f y =>
  have e:h.get? a=some (W.methodObj (.ref f) (.ref y)):=x
  show h'.get? a=some (W.methodObj (.ref f) (.ref y))
  exact k a _ (.inl rfl) e
 | ext φ=>obtain ⟨p,⟨o,e⟩,st⟩:=x;exact ⟨st _ _ p λo q=>k _ _ (.inl rfl) q,⟨o,k _ _ (.inl rfl) e⟩,st⟩
theorem D'.lt (x:D' P w H h)(e:H a=some o):a < h.objs.size:=(x a o e).lt
theorem D'.fresh (x:D' P w H h)(e:h.objs.size<=a):H a=none:=by
 cases q:H a with
 | none=>rfl
 | some u=>exact absurd (Nat.lt_of_lt_of_le (x.lt q) e) (Nat.lt_irrefl _)
theorem D'.kept (x:D' P w H h)(k:∀ b u,h.get? b=some u->h'.get? b=some u):D' P w H h':=λa o e =>
 (x a o e).stay (λb u _ q=>k b u q) (λ_ q=>q) λ_ _ q=>q
theorem D'.laid (x:D' P w H h)(k:∀ b u,h.get? b=some u->h'.get? b=some u)(hp:h.objs.size<=a)(new:Br P w (upd H a o) h' a o):D' P w (upd H a o) h':=λb u e=>by
 have hn:=x.fresh hp
 by_cases hb:b=a
 ·subst hb;rw [AG] at e;cases e;exact new
 ·rw [AQ hb] at e
  exact (x b u e).stay (λc v _ q=>k c v q) (λc q=>by rw [AQ (Ba q hn)];exact q) λc xs q=>by rw [AQ (Ba q hn)];exact q
end
noncomputable def Rd (H:Hp)(a:Addr)(u:HO):Prop:=H a=some u\/∃ o,H a=some (.frz o u)
theorem Rd.ok {P:Program}{w:World}{H:Hp}{h:Heap}{a:Addr}{u:HO}(r:Rd H a u)(x:D' P w H h):Br P w H h a u:=by
 rcases r with r | ⟨o,r⟩
 ·exact x a u r
 ·obtain ⟨_,q⟩:=x a _ r
  exact q
noncomputable def gA:Option HO->Prop
 | some (.lst _)=>True
 | some (.dK _)=>True
 | some (.dT _)=>True
 | some (.set _ _)=>True
 | some (.ins _ _ _)=>True
 | some (.ext _)=>True
 | _=>False
section
variable {P:Program}{w:World}{H:Hp}{h h':Heap}{x e:Addr}{o':HO}
theorem D'.write (ok:D' P w H h)(mu:gA (H x))(he:e=x\/H e=some (.own x))(k:∀ b u,b≠e->h.get? b=some u->h'.get? b=some u)(fA:∃ u,h'.get? e=some u)
  (new:Br P w (upd H x o') h' x o'):D' P w (upd H x o') h':=λb u q=>by
 have gB:∀ c y,H c=some (.own y)->c≠x:=λc y r z=>by subst z;rw [r] at mu;exact mu
 have pI:∀ c xs,H c=some (.tup xs)->c≠x:=λc xs r z=>by subst z;rw [r] at mu;exact mu
 by_cases hb:b=x
 ·subst hb;rw [AG] at q;cases q;exact new
 ·rw [AQ hb] at q
  by_cases W7:b=e
  ·have q':H b=some (.own x):=by
    rcases he with z | z
    ·exact absurd (W7.trans z) hb
    ·rw [W7];exact z
   rw [q] at q';cases q'
   obtain ⟨v,hv⟩:=fA
   exact ⟨v,by rw [W7];exact hv⟩
  ·refine (ok b u q).stay (λc v hc r=>k c v ?_ r) (λc r=>by rw [AQ (gB c b r)];exact r) λc xs r=>by rw [AQ (pI c xs r)];exact r
   rcases hc with rfl | hc
   ·exact W7
   ·rintro rfl
    rcases he with z | z
    ·exact gB c b hc z
    ·rw [hc] at z;cases z;exact hb rfl
end
structure Un (fs ex:List Addr)(H H':Hp)(h h':Heap):Prop where
 keep:∀ b o,h.get? b=some o->H b=none->b∉fs->b∉ex->h'.get? b=some o
 slot:∀ b o,h.get? b=some o->H b=none->b∈fs->b∉ex->∃ sl,h'.get? b=some { o with slots:=sl }
 free:∀ b o,h.get? b=some o->H b=none->b∉ex->H' b=none
 there:∀ b o,h.get? b=some o->b∉ex->∃ o',h'.get? b=some o'
 tups:∀ b xs,H b=some (.tup xs)->H' b=some (.tup xs)
 frzs:∀ b o u,H b=some (.frz o u)->H' b=some (.frz o u)
 tbls:∀ b ps,H b=some (.tbl ps)->∃ more,H' b=some (.tbl (ps++more))
section
variable {fs OZ ex ex':List Addr}{H H1 H2:Hp}{h h1 h2 h':Heap}{a x e:Addr}{o:HO}
theorem Un.any (u:Un fs ex H H1 h h1){b:Addr}{ob:Obj}(q:h.get? b=some ob)(n:H b=none)(hx:b∉ex):∃ sl,h1.get? b=some { ob with slots:=sl }:=by
 by_cases hb:b∈fs
 ·exact u.slot b ob q n hb hx
 ·exact ⟨ob.slots,u.keep b ob q n hb hx⟩
theorem Un.kept (k:∀ b u,h.get? b=some u->h'.get? b=some u):Un fs ex H H h h' :=
 ⟨λb ob q _ _ _=>k b ob q,λb ob q _ _ _=>⟨ob.slots,k b ob q⟩,λ_ _ _ n _=>n,λb ob q _=>⟨ob,k b ob q⟩,λ_ _ q=>q,λ_ _ _ q=>q,λ_ ps q=>⟨#[],by rw [q];simp⟩⟩
theorem Un.refl:Un fs ex H H h h:=Un.kept λ_ _ q=>q
theorem Un.laid (k:∀ b u,h.get? b=some u->h'.get? b=some u)(hp:h.objs.size<=a)(hn:H a=none):Un fs ex H (upd H a o) h h' where
 keep:=λb u q _ _ _=>k b u q
 slot:=λb u q _ _ _=>⟨u.slots,k b u q⟩
 free:=λb u q n _=>by rw [AQ (Nat.ne_of_lt (Nat.lt_of_lt_of_le (Heap.lt_size q) hp))];exact n
 there:=λb u q _=>⟨u,k b u q⟩
 tups:=λb xs q=>by rw [AQ (Ba q hn)];exact q
 frzs:=λb u xs q=>by rw [AQ (Ba q hn)];exact q
 tbls:=λb ps q=>⟨#[],by rw [AQ (Ba q hn),q];simp⟩
theorem Un.write (mu:gA (H x))(he:e=x\/H e=some (.own x))(k:∀ b u,b≠e->h.get? b=some u->h'.get? b=some u)(fA:∃ u,h'.get? e=some u):Un fs ex H (upd H x o) h h':=by
 have hx:∀ b,H b=none->b≠x:=λb n z=>by subst z;rw [n] at mu;exact mu
 have hb:∀ b,H b=none->b≠e:=λb n z=>by
  subst z
  rcases he with r | r
  ·exact hx b n r
  ·rw [n] at r;cases r
 have hm:∀ b u,H b=some u->¬ gA (some u)->b≠x:=λb u q nm z=>by subst z;rw [q] at mu;exact nm mu
 refine ⟨λb u q n _ _=>k b u (hb b n) q,λb u q n _ _=>⟨u.slots,k b u (hb b n) q⟩,λb u q n _=>by rw [AQ (hx b n)];exact n,λb u q _=>?_,
  λb xs q=>by rw [AQ (hm b _ q λz=>z)];exact q,λb u xs q=>by rw [AQ (hm b _ q λz=>z)];exact q,λb ps q=>⟨#[],by rw [AQ (hm b _ q λz=>z),q];simp⟩⟩
 by_cases W7:b=e
 ·subst W7;exact fA
 ·exact ⟨u,k b u W7 q⟩
end
noncomputable def n8 (h:Heap)(H:Hp):List Addr:=(List.range h.objs.size).filter λa=>(H a).isSome
noncomputable def HH (h:Heap)(H:Hp):Heap:=W.hideAll h (n8 h H)
theorem NN (h:Heap)(H:Hp):(HH h H).objs.size=h.objs.size:=W.hideAll_size _ _
theorem Pd {h:Heap}{H:Hp}{b:Addr}{o:Obj}(e:h.get? b=some o)(n:H b=none):(HH h H).get? b=some o :=
 W.hideAll_get _ e λhm=>by
  have q:(H b).isSome=true:=(List.mem_filter.mp hm).2
  rw [n] at q;simp at q
theorem RP {h:Heap}{H:Hp}{b:Addr}{o:Obj}(e:(HH h H).get? b=some o):h.get? b=some o/\H b=none:=by
 have e':h.get? b=some o:=W.of_hideAll (n8 h H) e
 refine ⟨e',?_⟩
 cases q:H b with
 | none=>rfl
 | some x =>
  have hm:b∈n8 h H:=List.mem_filter.mpr ⟨List.mem_range.mpr (Heap.lt_size e'),by simp [q]⟩
  have z:(HH h H).get? b=none:=W.hideAll_none (n8 h H) hm
  rw [z] at e;cases e
structure Mod (K:W.Frag)(mg:Str->Option Value)(base:Heap):Prop where
 kin:K.In base
 glob:base.Ns mainGlobals mg
 blt:∃ mb,base.Ns builtinsNs mb/\∀ x:Str,x≠"__name__"->mb x=bootBuiltins x
 nolimit:base.NoLimit
structure Cx where
 prog:Program
 w:World
 K:W.Frag
 mg:Str->Option Value
 base:Heap
 A:Around
 N:List Str
 s₀:Shared
 H₀:Hp
 env:Env
 outer:List Env
 stack:List Env
 ex:List Addr
 fn:Str->Bool
 calm:Bool
 pn:List (Addr × Obj)
 xe:Value->Shared->Prop
noncomputable def frs (l:List Env):List Addr:=l.filterMap (·.frame)
abbrev Cx.fs (X:Cx):List Addr:=frs X.outer
noncomputable def V1 (sc:Scope)(x:Str):Prop:=sc.names.lookup x=some .local\/sc.names.lookup x=some .cell\/sc.names.lookup x=some .free
noncomputable def Loc (sc:Scope)(x:Str):Prop:=sc.names.lookup x=some .local\/sc.names.lookup x=some .cell
noncomputable def Look (env:Env)(h:Heap)(m:Str->Option Value)(x:Str)(u:Value):Prop :=
 (env.kindOf x=some .local/\m x=some u)\/((env.kindOf x=some .cell\/env.kindOf x=some .free)/\∃ c,env.cells.lookup x=some c/\h.IsCell c (some u))
structure Cx.Ok (X:Cx):Prop where
 mod:Mod X.K X.mg X.base
 kind:X.env.scope.kind=.function
 glob:X.env.globals=mainGlobals
 blt:X.env.builtins=builtinsNs
 above:X.s₀.heap.objs.size<=X.env.locals
 inj:∀ x y c,X.env.cells.lookup x=some c->X.env.cells.lookup y=some c->x=y
 has:∀ x,(X.env.kindOf x=some .cell\/X.env.kindOf x=some .free)->∃ c,X.env.cells.lookup x=some c
 cab:∀ x c,X.fn x=true->X.env.cells.lookup x=some c->X.s₀.heap.objs.size<=c
 hd:X.calm=true->X.A.handled=none
 frames:X.A.frames=some X.stack
 stk:X.stack=X.outer\/(X.stack=X.env::X.outer/\X.env.frame=some X.env.locals)
 exf:∀ b∈X.ex,b≠X.env.locals/\∀ x c,X.env.cells.lookup x=some c->c≠b
 bs:∀ b o,X.base.get? b=some o->X.s₀.heap.get? b=some o/\X.H₀ b=none
 bsz:X.base.objs.size<=X.s₀.heap.objs.size
 noex:∀ b o,X.base.get? b=some o->b∉X.ex
 exfs:∀ b∈X.ex,b∉X.fs
 funs:X.s₀.heap.FunFrames X.base X.outer
 frf:∀ b∈X.fs,X.H₀ b=none
structure Inv (X:Cx)(pins:List (Addr × Obj))(σ:List (Option V))(H:Hp)(s:Shared):Prop where
 ok:X.Ok
 os:s.os=X.s₀.os
 bare:AllBare s.gens
 base:Un X.fs X.ex X.H₀ H X.s₀.heap s.heap
 loc:∃ m,s.heap.Ns X.env.locals m/\∀ (i:Nat) (x:Str) (v:V),X.N[i]?=some x->σ[i]?=some (some v)->V1 X.env.scope x->∃ u,RelV v u/\Look X.env s.heap m x u
 cell:∀ x c,X.env.cells.lookup x=some c->∃ v,s.heap.IsCell c v
 free:H X.env.locals=none
 freeC:∀ x c,X.env.cells.lookup x=some c->H c=none
 pin:∀ p∈X.pn++pins,s.heap.get? p.1=some p.2/\H p.1=none/\p.1≠X.env.locals/\p.1∉X.fs/\∀ v,p.2.data≠.cell v
 hok:D' X.prog X.w H s.heap
 len:σ.length=X.N.length
section
variable {X:Cx}{pins:List (Addr × Obj)}{σ:List (Option V)}{H H':Hp}{s:Shared}{h':Heap}
theorem Cx.Ok.nofr (ok:X.Ok){b:Addr}{o:Obj}(e:X.base.get? b=some o):b∉X.fs:=λhb=>by
 have:=(ok.funs.mem hb).1
 rw [e] at this;cases this
theorem Inv.bs (I:Inv X pins σ H s):∀ b o,X.base.get? b=some o->s.heap.get? b=some o/\H b=none:=λb o e =>
 ⟨I.base.keep b o (I.ok.bs b o e).1 (I.ok.bs b o e).2 (I.ok.nofr e) (I.ok.noex b o e),I.base.free b o (I.ok.bs b o e).1 (I.ok.bs b o e).2 (I.ok.noex b o e)⟩
theorem Inv.bk (I:Inv X pins σ H s):∀ b o,X.base.get? b=some o->s.heap.get? b=some o:=λb o e=>(I.bs b o e).1
theorem Inv.mod (I:Inv X pins σ H s):Mod X.K X.mg X.base:=I.ok.mod
theorem Inv.kIn (I:Inv X pins σ H s):X.K.In s.heap:=I.ok.mod.kin.keeps I.bk
theorem Inv.fr (I:Inv X pins σ H s):∃ m,Fr X.base X.env.locals s.heap m :=
 let ⟨m,hn,_⟩:=I.loc
 ⟨m,hn,I.bk,Nat.le_trans I.ok.bsz I.ok.above⟩
theorem Inv.lt (I:Inv X pins σ H s):X.env.locals < s.heap.objs.size:=let ⟨_,hn,_⟩:=I.loc;hn.lt
theorem Inv.sz (I:Inv X pins σ H s):X.s₀.heap.objs.size<=s.heap.objs.size:=Nat.le_trans I.ok.above (Nat.le_of_lt I.lt)
theorem Inv.nofs (I:Inv X pins σ H s){a:Addr}(h:s.heap.objs.size<=a):a∉X.fs:=λhb=>by
 obtain ⟨_,o,ho,_⟩:=I.ok.funs.mem hb
 exact absurd (Nat.lt_of_lt_of_le (Heap.lt_size ho) (Nat.le_trans I.sz h)) (Nat.lt_irrefl _)
theorem Inv.cne (I:Inv X pins σ H s):∀ x c,X.env.cells.lookup x=some c->c≠X.env.locals:=λx c e z=>by
 obtain ⟨v,o,ho,hd⟩:=I.cell x c e
 obtain ⟨m,⟨o',es,ep,W8,IP,_⟩,_⟩:=I.loc
 rw [z,W8] at ho;cases ho;rw [IP] at hd;cases hd
theorem Inv.funs (I:Inv X pins σ H s):s.heap.FunFrames X.base X.outer:=by
 have all:∀ (l:List Env),(∀ b∈frs l,b∈X.fs)->X.s₀.heap.FunFrames X.base l->s.heap.FunFrames X.base l:=by
  intro l
  induction l with
  | nil=>intro _ _;trivial
  | cons env r ih =>
   intro hs hl
   obtain ⟨hk,⟨L,o,hf,hn,ho,hd⟩,hr⟩:=hl
   have hL:L∈X.fs:=hs L (by unfold frs;rw [List.filterMap_cons,hf];exact List.mem_cons_self)
   obtain ⟨sl,e⟩:=I.base.slot L o ho (I.ok.frf L hL) hL λz=>I.ok.exfs L z hL
   exact ⟨hk,⟨L,_,hf,hn,e,hd⟩,ih (λb hb=>hs b (by unfold frs;rw [List.filterMap_cons,hf];exact List.mem_cons_of_mem _ hb)) hr⟩
 exact all X.outer (λ_ hb=>hb) I.ok.funs
theorem Inv.stack (I:Inv X pins σ H s):s.heap.FunFrames X.base X.stack:=by
 rcases I.ok.stk with e | ⟨e,hf⟩
 ·rw [e];exact I.funs
 ·rw [e]
  obtain ⟨m,hn,_⟩:=I.loc
  refine .cons (by rw [I.ok.kind];decide) hf hn ?_ I.funs
  exact Heap.get?_none_of_le (Nat.le_trans I.ok.bsz I.ok.above)
theorem Inv.stkSub (I:Inv X pins σ H s):∀ b∈frs X.stack,b∈X.env.locals::X.fs:=λb hb=>by
 rcases I.ok.stk with e | ⟨e,hf⟩
 ·rw [e] at hb;exact List.mem_cons_of_mem _ hb
 ·rw [e] at hb
  unfold frs at hb
  rw [List.filterMap_cons,hf] at hb
  exact hb
theorem Inv.stkFree (I:Inv X pins σ H s):∀ b∈frs X.stack,H b=none:=λb hb=>by
 rcases List.mem_cons.mp (I.stkSub b hb) with e | hb
 ·rw [e];exact I.free
 ·obtain ⟨_,o,ho,_⟩:=I.ok.funs.mem hb
  exact I.base.free b o ho (I.ok.frf b hb) λz=>I.ok.exfs b z hb
theorem Inv.step {g':Array GenState}{t':Nat}{d':Drawn}{ch:List Addr}(I:Inv X pins σ H s)
  (RG:∀ b∈ch,(b∈X.ex\/X.s₀.heap.objs.size<=b)/\b≠X.env.locals/\(∀ x c,X.env.cells.lookup x=some c->c≠b)/\∀ p∈X.pn++pins,p.1≠b)
  (keep:∀ b o,b≠X.env.locals->b∉X.fs->b∉ch->s.heap.get? b=some o->H b=none->h'.get? b=some o)
  (slot:∀ b o,b≠X.env.locals->b∈X.fs->b∉ch->s.heap.get? b=some o->H b=none->∃ sl,h'.get? b=some { o with slots:=sl }) (free:∀ b o,b∉ch->s.heap.get? b=some o->H b=none->H' b=none)
  (there:∀ b o,b∉ch->s.heap.get? b=some o->∃ o',h'.get? b=some o')
  (tups:∀ b xs,H b=some (.tup xs)->H' b=some (.tup xs)) (frzs:∀ b o u,H b=some (.frz o u)->H' b=some (.frz o u)) (tbls:∀ b ps,H b=some (.tbl ps)->∃ more,H' b=some (.tbl (ps++more)))
  (ns:∀ m,s.heap.Ns X.env.locals m->h'.Ns X.env.locals m) (hok:D' X.prog X.w H' h') (hg:AllBare g') :
  Inv X pins σ H' { s with heap:=h',gens:=g',drawn:=d',toks:=t' }:=by
 have neL:∀ b o,X.s₀.heap.get? b=some o->b≠X.env.locals:=λb o e=>Nat.ne_of_lt (Nat.lt_of_lt_of_le (Heap.lt_size e) I.ok.above)
 have n9:∀ b o,X.s₀.heap.get? b=some o->b∉X.ex->b∉ch:=λb o e hx hb=>by
  rcases (RG b hb).1 with z | z
  ·exact hx z
  ·exact absurd (Nat.lt_of_lt_of_le (Heap.lt_size e) z) (Nat.lt_irrefl _)
 have cellK:∀ x c,X.env.cells.lookup x=some c->∀ v,s.heap.IsCell c v->h'.IsCell c v:=λx c e v ⟨o,ho,hd⟩=>by
  have gC:c∉ch:=λz=>(RG c z).2.2.1 x c e rfl
  by_cases hc:c∈X.fs
  ·obtain ⟨sl,q⟩:=slot c o (I.cne x c e) hc gC ho (I.freeC x c e)
   exact ⟨_,q,hd⟩
  ·exact ⟨o,keep c o (I.cne x c e) hc gC ho (I.freeC x c e),hd⟩
 refine ⟨I.ok,I.os,hg,⟨λb o e n hb hx=>?_,λb o e n hb hx=>?_,λb o e n hx=>?_,λb o e hx=>?_,λb xs e=>tups b xs (I.base.tups b xs e),λb o xs e=>frzs b o xs (I.base.frzs b o xs e),λb ps e=>?_⟩,?_,λx c e=>?_,?_,λx c e=>?_,λp hp=>?_,hok,I.len⟩
 ·exact keep b o (neL b o e) hb (n9 b o e hx) (I.base.keep b o e n hb hx) (I.base.free b o e n hx)
 ·obtain ⟨sl,e1⟩:=I.base.slot b o e n hb hx
  obtain ⟨sl',e2⟩:=slot b _ (neL b o e) hb (n9 b o e hx) e1 (I.base.free b o e n hx)
  exact ⟨sl',e2⟩
 ·obtain ⟨o',e1⟩:=I.base.there b o e hx
  exact free b o' (n9 b o e hx) e1 (I.base.free b o e n hx)
 ·obtain ⟨o',e1⟩:=I.base.there b o e hx
  exact there b o' (n9 b o e hx) e1
 ·obtain ⟨m1,e1⟩:=I.base.tbls b ps e
  obtain ⟨m2,e2⟩:=tbls b _ e1
  exact ⟨m1++m2,by rw [e2,Array.append_assoc]⟩
 ·obtain ⟨m,hn,hl⟩:=I.loc
  refine ⟨m,ns m hn,λi x v e1 e2 e3=>?_⟩
  obtain ⟨u,r,l⟩:=hl i x v e1 e2 e3
  refine ⟨u,r,?_⟩
  rcases l with l | ⟨k,c,e,z⟩
  ·exact .inl l
  ·exact .inr ⟨k,c,e,cellK x c e _ z⟩
 ·obtain ⟨v,z⟩:=I.cell x c e
  exact ⟨v,cellK x c e v z⟩
 ·obtain ⟨m,⟨o,_,_,ho,_⟩,_⟩:=I.loc
  exact free _ o (λz=>(RG _ z).2.1 rfl) ho I.free
 ·obtain ⟨v,o,ho,hd⟩:=I.cell x c e
  exact free c o (λz=>(RG c z).2.2.1 x c e rfl) ho (I.freeC x c e)
 ·obtain ⟨e,n,ne,nf,d⟩:=I.pin p hp
  have gC:p.1∉ch:=λz=>(RG p.1 z).2.2.2 p hp rfl
  exact ⟨keep p.1 p.2 ne nf gC e n,free p.1 p.2 gC e n,ne,nf,d⟩
theorem Inv.un {t':Nat}(I:Inv X pins σ H s)(u:Un X.fs [] H H' s.heap h')(hok:D' X.prog X.w H' h'):Inv X pins σ H' { s with heap:=h',toks:=t' }:=by
 obtain ⟨m,⟨o,es,ep,ho,r⟩,_⟩:=id I.loc
 obtain ⟨sl,hL⟩:=u.any ho I.free (by simp)
 exact I.step (g':=s.gens) (d':=s.drawn) (ch:=[]) (λ_ z=>nomatch z) (λb o _ hb _ e n=>u.keep b o e n hb (by simp)) (λb o _ hb _ e n=>u.slot b o e n hb (by simp)) (λb o _ e n=>u.free b o e n (by simp)) (λb o _ e=>u.there b o e (by simp)) u.tups u.frzs u.tbls (λm' hm=>by
  obtain ⟨o',pJ,pK,W8,r'⟩:=hm
  rw [ho] at W8;cases W8
  exact ⟨_,pJ,pK,hL,r'⟩) hok I.bare
theorem Inv.call {g':Array GenState}{t':Nat}{d':Drawn}{ch:List Addr}(I:Inv X pins σ H s)(u:Un (frs X.stack) ch H H' s.heap h')(hok:D' X.prog X.w H' h')(hg:AllBare g')
  (RG:∀ b∈ch,(b∈X.ex\/X.s₀.heap.objs.size<=b)/\b≠X.env.locals/\(∀ x c,X.env.cells.lookup x=some c->c≠b)/\∀ p∈X.pn++pins,p.1≠b) :
  Inv X pins σ H' { s with heap:=h',gens:=g',drawn:=d',toks:=t' }:=by
 obtain ⟨m,⟨o,es,ep,ho,r⟩,_⟩:=id I.loc
 obtain ⟨sl,hL⟩:=u.any ho I.free λz=>(RG _ z).2.1 rfl
 exact I.step (ch:=ch) RG (λb o hL hb hc e n=>u.keep b o e n (λz=>(List.mem_cons.mp (I.stkSub b z)).elim hL hb) hc) (λb o _ _ hc e n=>u.any e n hc) (λb o hc e n=>u.free b o e n hc) (λb o hc e=>u.there b o e hc) u.tups u.frzs u.tbls (λm' hm=>by
  obtain ⟨o',pJ,pK,W8,r'⟩:=hm
  rw [ho] at W8;cases W8
  exact ⟨_,pJ,pK,hL,r'⟩) hok hg
theorem Inv.turned {t':Nat}{it:Addr}(I:Inv X pins σ H s)(k:∀ b o,b≠it->s.heap.get? b=some o->h'.get? b=some o)(hn:H it=none)(hL:it≠X.env.locals)
  (h1:it∈X.ex\/X.s₀.heap.objs.size<=it) (h2:∀ x c,X.env.cells.lookup x=some c->c≠it) (h3:∀ p∈X.pn++pins,p.1≠it):Inv X pins σ H { s with heap:=h',toks:=t' }:=by
 have nit:∀ b u,H b=some u->b≠it:=λb u e z=>by rw [z,hn] at e;cases e
 refine I.step (g':=s.gens) (d':=s.drawn) (ch:=[it]) (λb hb=>?_) (λb o _ _ hc e _=>k b o (λz=>hc (by simp [z])) e) (λb o _ _ hc e _=>⟨o.slots,k b o (λz=>hc (by simp [z])) e⟩) (λ_ _ _ _ n=>n)
  (λb o hc e=>⟨o,k b o (λz=>hc (by simp [z])) e⟩) (λ_ _ e=>e) (λ_ _ _ e=>e) (λb ps e=>⟨#[],by rw [e];simp⟩) (λm hm=>?_) (λb u e=>?_) I.bare
 ·have e:b=it:=by simpa using hb
  subst e
  exact ⟨h1,hL,h2,h3⟩
 ·obtain ⟨o,es,ep,ho,r⟩:=hm
  exact ⟨o,es,ep,k _ o (Ne.symm hL) ho,r⟩
 ·refine (I.hok b u e).stay (λc v hc q=>k c v ?_ q) (λ_ q=>q) λ_ _ q=>q
  rcases hc with z | z
  ·rw [z];exact nit b u e
  ·exact nit c _ z
theorem Inv.tok (I:Inv X pins σ H s)(t:Nat):Inv X pins σ H { s with toks:=t }:=I.un (h':=s.heap) (t':=t) Un.refl I.hok
theorem Inv.kept {t':Nat}(I:Inv X pins σ H s)(k:∀ b u,s.heap.get? b=some u->h'.get? b=some u):Inv X pins σ H { s with heap:=h',toks:=t' }:=I.un (Un.kept k) (I.hok.kept k)
theorem Inv.laid {a:Addr}{o:HO}{t':Nat}(I:Inv X pins σ H s)(k:∀ b u,s.heap.get? b=some u->h'.get? b=some u)(hp:s.heap.objs.size<=a)(new:Br X.prog X.w (upd H a o) h' a o):
  Inv X pins σ (upd H a o) { s with heap:=h',toks:=t' }:=I.un (Un.laid k hp (I.hok.fresh hp)) (I.hok.laid k hp new)
theorem Inv.write {x e:Addr}{o:HO}{t':Nat}(I:Inv X pins σ H s)(mu:gA (H x))(he:e=x\/H e=some (.own x))(k:∀ b u,b≠e->s.heap.get? b=some u->h'.get? b=some u)(fA:∃ u,h'.get? e=some u)
  (new:Br X.prog X.w (upd H x o) h' x o):Inv X pins σ (upd H x o) { s with heap:=h',toks:=t' }:=I.un (Un.write mu he k fA) (I.hok.write mu he k fA new)
theorem Inv.weak {σ':List (Option V)}(I:Inv X pins σ H s)(hl:σ'.length=σ.length)(w:∀ (i:Nat) v,σ'[i]?=some (some v)->σ[i]?=some (some v)):Inv X pins σ' H s :=
 ⟨I.ok,I.os,I.bare,I.base,let ⟨m,hn,pL⟩:=I.loc;⟨m,hn,λi x v e1 e2 e3=>pL i x v e1 (w i v e2) e3⟩,I.cell,I.free,I.freeC,I.pin,I.hok,hl.trans I.len⟩
theorem Inv.pins_of {pins':List (Addr × Obj)}(I:Inv X pins σ H s)(h:∀ p∈pins',s.heap.get? p.1=some p.2/\H p.1=none/\p.1≠X.env.locals/\p.1∉X.fs/\∀ v,p.2.data≠.cell v):Inv X pins' σ H s :=
 ⟨I.ok,I.os,I.bare,I.base,I.loc,I.cell,I.free,I.freeC,λp hp=>(List.mem_append.mp hp).elim (λz=>I.pin p (List.mem_append_left _ z)) (h p),I.hok,I.len⟩
theorem JI {N:List Str}(hN:N.Nodup){i j:Nat}{x:Str}(a:N[i]?=some x)(b:N[j]?=some x):i=j:=by
 obtain ⟨h1,e1⟩:=List.getElem?_eq_some_iff.mp a
 obtain ⟨h2,e2⟩:=List.getElem?_eq_some_iff.mp b
 exact (List.getElem_inj hN).mp (e1.trans e2.symm)
theorem HZ {M:Model}{A:Around}{E:Value->Shared->Prop}{i:Nat}{x:Str}{v:V}{u:Value}{Q:Unit->Shared->Prop}(I:Inv X pins σ H s)(hN:X.N.Nodup)(hi:X.N[i]?=some x)(hx:Loc X.env.scope x)(r:RelV v u)
  (h:∀ s',Inv X pins (σ.set i (some v)) H s'->(∃ a,Heap.SameBut a s.heap s'.heap/\(a=X.env.locals\/X.env.cells.lookup x=some a))->Q .unit s') (hf:X.fn x=true\/X.env.scope.names.lookup x=some .local:=by first | exact .inl rfl | exact .inr rfl | assumption):wpAny M A (storeName X.env x u) Q E s:=by
 obtain ⟨m,hn,hl⟩:=id I.loc
 have pM:(X.env.scope.kind==.class || (X.env.scope.kind==.module && X.env.locals != X.env.globals))=false:=by rw [I.ok.kind];rfl
 have hiσ:i < σ.length:=by rw [I.len];exact (List.getElem?_eq_some_iff.mp hi).1
 have cne:=I.cne
 have tracked:∀ {a:Addr} {h':Heap},(∃ o,s.heap.get? a=some o/\H a=none)->Heap.SameBut a s.heap h'->D' X.prog X.w H h':=λ{a h'} ha hs b ob e=>by
  obtain ⟨_,_,V2⟩:=ha
  refine (I.hok b ob e).stay (λc w' hc q=>(hs.2 c ?_).trans q) (λ_ q=>q) λ_ _ q=>q
  rintro rfl
  rcases hc with rfl | hc
  ·rw [V2] at e;cases e
  ·rw [V2] at hc;cases hc
 rcases hx with hk | hk
 ·refine wpAny_storeName_local hk hn (λh' nc hs=>?_) pM
  obtain ⟨oL,_,_,hoL,_⟩:=id hn
  refine h _ ⟨I.ok,I.os,I.bare,⟨λb o e n hb hx=>?_,λb o e n hb hx=>?_,I.base.free,λb o e hx=>?_,I.base.tups,I.base.frzs,I.base.tbls⟩,⟨_,nc,λj y v' e1 e2 e3=>?_⟩,λy c e=>?_,I.free,I.freeC,λp hp=>?_,tracked ⟨oL,hoL,I.free⟩ hs,by simpa using I.len⟩ ⟨_,hs,.inl rfl⟩
  ·exact (hs.2 b (Nat.ne_of_lt (Nat.lt_of_lt_of_le (Heap.lt_size e) I.ok.above))).trans (I.base.keep b o e n hb hx)
  ·obtain ⟨sl,e1⟩:=I.base.slot b o e n hb hx
   exact ⟨sl,(hs.2 b (Nat.ne_of_lt (Nat.lt_of_lt_of_le (Heap.lt_size e) I.ok.above))).trans e1⟩
  ·obtain ⟨o',e1⟩:=I.base.there b o e hx
   exact ⟨o',(hs.2 b (Nat.ne_of_lt (Nat.lt_of_lt_of_le (Heap.lt_size e) I.ok.above))).trans e1⟩
  ·by_cases hj:j=i
   ·subst hj
    rw [hi] at e1;cases e1
    rw [List.getElem?_set_self hiσ] at e2
    cases e2
    exact ⟨u,r,.inl ⟨hk,by simp⟩⟩
   ·rw [List.getElem?_set_ne (Ne.symm hj)] at e2
    obtain ⟨u',r',q⟩:=hl j y v' e1 e2 e3
    refine ⟨u',r',?_⟩
    rcases q with ⟨k,e⟩ | ⟨k,c,e,z⟩
    ·refine .inl ⟨k,?_⟩
     have:y≠x:=λe=>hj (JI hN e1 (e▸hi))
     simp [this,e]
    ·exact .inr ⟨k,c,e,z.sameBut hs (cne y c e)⟩
  ·obtain ⟨w',z⟩:=I.cell y c e
   exact ⟨w',z.sameBut hs (cne y c e)⟩
  ·obtain ⟨e,n,ne,nf,d⟩:=I.pin p hp
   exact ⟨(hs.2 p.1 ne).trans e,n,ne,nf,d⟩
 ·have pN:X.fn x=true:=by
   rcases hf with z | z
   ·exact z
   ·rw [z] at hk;cases hk
  obtain ⟨c,hc⟩:=I.ok.has x (.inl hk)
  obtain ⟨w',z⟩:=I.cell x c hc
  refine wpAny_storeName_cell I.ok.kind hk hc z (λh' HI hs=>?_)
  obtain ⟨oc,hoc,pO⟩:=id z
  refine h { s with heap:=h' } ⟨I.ok,I.os,I.bare,⟨λb o e n hb hx=>?_,λb o e n hb hx=>?_,I.base.free,λb o e hx=>?_,I.base.tups,I.base.frzs,I.base.tbls⟩,⟨m,hn.sameBut hs (Ne.symm (cne x c hc)),λj y v' e1 e2 e3=>?_⟩,λy c' e=>?_,I.free,I.freeC,λp hp=>?_,tracked ⟨oc,hoc,I.freeC x c hc⟩ hs,by simpa using I.len⟩ ⟨c,hs,.inr hc⟩
  ·exact (hs.2 b (Nat.ne_of_lt (Nat.lt_of_lt_of_le (Heap.lt_size e) (I.ok.cab x c pN hc)))).trans (I.base.keep b o e n hb hx)
  ·obtain ⟨sl,e1⟩:=I.base.slot b o e n hb hx
   exact ⟨sl,(hs.2 b (Nat.ne_of_lt (Nat.lt_of_lt_of_le (Heap.lt_size e) (I.ok.cab x c pN hc)))).trans e1⟩
  ·obtain ⟨o',e1⟩:=I.base.there b o e hx
   exact ⟨o',(hs.2 b (Nat.ne_of_lt (Nat.lt_of_lt_of_le (Heap.lt_size e) (I.ok.cab x c pN hc)))).trans e1⟩
  ·by_cases hj:j=i
   ·subst hj
    rw [hi] at e1;cases e1
    rw [List.getElem?_set_self hiσ] at e2
    cases e2
    exact ⟨u,r,.inr ⟨.inl hk,c,hc,HI⟩⟩
   ·rw [List.getElem?_set_ne (Ne.symm hj)] at e2
    obtain ⟨u',r',q⟩:=hl j y v' e1 e2 e3
    refine ⟨u',r',?_⟩
    rcases q with q | ⟨k,c',e,z'⟩
    ·exact .inl q
    ·refine .inr ⟨k,c',e,z'.sameBut hs ?_⟩
     rintro rfl
     exact hj (JI hN e1 (I.ok.inj _ _ _ e hc▸hi))
  ·by_cases pP:c'=c
   ·subst pP;exact ⟨_,HI⟩
   ·obtain ⟨w2,z2⟩:=I.cell y c' e
    exact ⟨w2,z2.sameBut hs pP⟩
  ·obtain ⟨e,n,ne,nf,d⟩:=I.pin p hp
   refine ⟨(hs.2 p.1 ?_).trans e,n,ne,nf,d⟩
   intro q
   rw [q,hoc] at e
   have q':oc=p.2:=Option.some.inj e
   exact d w' (by rw [<- q'];exact pO)
theorem GQ {M:Model}{A:Around}{E:Value->Shared->Prop}{i:Nat}{x:Str}{v:V}{u:Value}{Q:Unit->Shared->Prop}(I:Inv X pins σ H s)(hN:X.N.Nodup)(hi:X.N[i]?=some x)(hx:Loc X.env.scope x)(r:RelV v u)
  (h:∀ s',Inv X pins (σ.set i (some v)) H s'->Q .unit s') (hf:X.fn x=true\/X.env.scope.names.lookup x=some .local:=by first | exact .inl rfl | exact .inr rfl | assumption):wpAny M A (storeName X.env x u) Q E s :=
 HZ I hN hi hx r (λs' I' _=>h s' I') hf
theorem Inv.call' {s':Shared}{ch:List Addr}(I:Inv X pins σ H s)(ho:s'.os=s.os)(u:Un (frs X.stack) ch H H' s.heap s'.heap)(hok:D' X.prog X.w H' s'.heap)(hg:AllBare s'.gens)
  (RG:∀ b∈ch,(b∈X.ex\/X.s₀.heap.objs.size<=b)/\b≠X.env.locals/\(∀ x c,X.env.cells.lookup x=some c->c≠b)/\∀ p∈X.pn++pins,p.1≠b):Inv X pins σ H' s':=by
 obtain ⟨h',g',d',t',o'⟩:=s'
 have e:o'=s.os:=ho
 subst e
 exact I.call (g':=g') (t':=t') (d':=d') u hok hg RG
end
abbrev XK:=Value->Option Addr->Hp->Prop
abbrev St:=List (Option V)
abbrev VK:=V->Hp->Prop
abbrev TE:=St->Hp->VK->Prop
abbrev TT:=St->Hp->(Bool->Hp->Prop)->Prop
abbrev TA:=St->Hp->(List V->Hp->Prop)->Prop
structure Ends where
 nx:St->Hp->Prop
 rt:VK
 bk:St->Hp->Prop:=λ_ _=>False
 ct:St->Hp->Prop:=λ_ _=>False
abbrev TS:=Ends->St->Hp->Prop
inductive EP (X:Cx)(pins:List (Addr × Obj))(σ:St)(Q:VK)(u:Value)(s':Shared):Prop
 | mk (v:_) (H':_) (h1:Inv X pins σ H' s') (h2:RelV v u) (h3:Q v H'):EP X pins σ Q u s'
noncomputable def TP (X:Cx)(pins:List (Addr × Obj))(σ:St)(Q:Bool->Hp->Prop)(b:Bool)(s':Shared):Prop:=∃ H',Inv X pins σ H' s'/\Q b H'
inductive AP (X:Cx)(pins:List (Addr × Obj))(σ:St)(Q:List V->Hp->Prop)(us:List Value)(s':Shared):Prop
 | mk (vs:_) (H':_) (h1:Inv X pins σ H' s') (h2:Vals vs us) (h3:Q vs H'):AP X pins σ Q us s'
noncomputable def SP (X:Cx)(pins:List (Addr × Obj))(D:Ends)(f:Flow)(s':Shared):Prop :=
 match f with
 | .next=>∃ σ' H',Inv X pins σ' H' s'/\D.nx σ' H'
 | .brk=>∃ σ' H',Inv X pins σ' H' s'/\D.bk σ' H'
 | .cont=>∃ σ' H',Inv X pins σ' H' s'/\D.ct σ' H'
 | .ret u=>∃ v σ' H',Inv X pins σ' H' s'/\RelV v u/\D.rt v H'
noncomputable def PE (X:Cx)(e:Expr)(t:TE):Prop :=
 ∀ (pins:List (Addr × Obj)) (s:Shared) (σ:St) (H:Hp) (Q:VK),Inv X pins σ H s->t σ H Q->wpAny (model X.prog X.w) X.A (eval e X.env) (EP X pins σ Q) X.xe s
noncomputable def PT (X:Cx)(e:Expr)(t:TT):Prop :=
 ∀ (pins:List (Addr × Obj)) (s:Shared) (σ:St) (H:Hp) (Q:Bool->Hp->Prop),Inv X pins σ H s->t σ H Q->wpAny (model X.prog X.w) X.A (isTrue e X.env (eval e X.env)) (TP X pins σ Q) X.xe s
noncomputable def PW (X:Cx)(e:Expr)(t:TT):Prop :=
 ∀ (whole:Sem Value) (pins:List (Addr × Obj)) (s:Shared) (σ:St) (H:Hp) (Q:Bool->Hp->Prop),Inv X pins σ H s->t σ H Q->wpAny (model X.prog X.w) X.A (isTrue e X.env whole) (TP X pins σ Q) X.xe s
theorem PW.pt {X:Cx}{e:Expr}{t:TT}(h:PW X e t):PT X e t:=h _
noncomputable def PA (X:Cx)(es:List Expr)(t:TA):Prop :=
 ∀ (pos:Pos) (pins:List (Addr × Obj)) (s:Shared) (σ:St) (H:Hp) (Q:List V->Hp->Prop),Inv X pins σ H s->t σ H Q->wpAny (model X.prog X.w) X.A (spliced (backTo pos (starEach es X.env))) (AP X pins σ Q) X.xe s
noncomputable def PS (X:Cx)(st:Stmt)(t:TS):Prop :=
 ∀ (pins:List (Addr × Obj)) (s:Shared) (σ:St) (H:Hp) (D:Ends),Inv X pins σ H s->t D σ H->wpAny (model X.prog X.w) X.A (exec st X.env) (SP X pins D) X.xe s
noncomputable def Mx (X:Cx)(st:List Stmt)(t:TS):Prop :=
 ∀ (pins:List (Addr × Obj)) (s:Shared) (σ:St) (H:Hp) (D:Ends),Inv X pins σ H s->t D σ H->wpAny (model X.prog X.w) X.A (execs st X.env) (SP X pins D) X.xe s
theorem BD {α:Type}{t:Sem α}{Q Q':α->Shared->Prop}{M:Model}{A:Around}{E:Value->Shared->Prop}{s:Shared}(h:wpAny M A t Q E s)(hQ:∀ a s,Q a s->Q' a s):wpAny M A t Q' E s:=wpAny_mono h hQ λ_ _ x=>x
section
variable {X:Cx}
theorem bin {a b:Expr}{ta tb:TE}(ha:PE X a ta)(hb:PE X b tb){pins:List (Addr × Obj)}{s:Shared}{σ:St}{H:Hp}{R:V->V->Hp->Prop}(I:Inv X pins σ H s)(h:ta σ H λx H1=>tb σ H1 λy H2=>R x y H2)
  {α:Type} {Q:α->Shared->Prop} {f:Value->Value->Sem α}
  (hf:∀ v u s2 x y H2,Inv X pins σ H2 s2->RelV x v->RelV y u->R x y H2->wpAny (model X.prog X.w) X.A (f v u) Q X.xe s2) :
  wpAny (model X.prog X.w) X.A (eval a X.env) (λv s₁=>wpAny (model X.prog X.w) X.A (eval b X.env) (λu s₂=>wpAny (model X.prog X.w) X.A (f v u) Q X.xe s₂) X.xe s₁) X.xe s:=by
 refine BD (ha pins s σ H _ I h) λv s1 ⟨x,H1,I1,r1,q1⟩=>?_
 refine BD (hb pins s1 σ H1 _ I1 q1) λu s2 ⟨y,H2,I2,r2,q2⟩=>?_
 exact hf v u s2 x y H2 I2 r1 r2 q2
inductive Bv (i:Nat)(σ:St)(H:Hp)(Q:VK):Prop
 | mk (v:_) (h1:σ[i]?=some (some v)) (h2:Q v H):Bv i σ H Q
noncomputable def tC (v:V):TE:=λ_ H Q=>Q v H
theorem Ll {i:Nat}{x:Str}{pos:Pos}(hN:X.N[i]?=some x)(hv:V1 X.env.scope x)(hd:(x==("__debug__":Str))=false:=by decide)(JJ:(x==("__classdict__":Str))=false:=by decide):PE X (.Name x pos) (Bv i):=by
 intro pins s σ H Q I h
 obtain ⟨v,e,h⟩:=h
 obtain ⟨m,hn,hl⟩:=I.loc
 obtain ⟨u,r,l⟩:=hl i x v hN e hv
 have fin:EP X pins σ Q u s:=⟨v,H,I,r,h⟩
 rcases l with ⟨hk,hm⟩ | ⟨hk,c,hc,My⟩
 ·exact wpAny_Name (wpAny_loadName_local I.ok.kind hk hn hm fin) hd
 ·rcases hk with hk | hk
  ·exact wpAny_Name (wpAny_loadName_cell I.ok.kind hk hc My fin) hd
  ·exact wpAny_Name (wpAny_loadName_free I.ok.kind hk hc My fin JJ) hd
theorem DI {i j pos}:PE X (.Constant (.int i) j pos) (tC (.int i)):=λ_ _ _ H _ I h=>wpAny_Constant_int ⟨.int i,H,I.tok _,⟨_,rfl⟩,h⟩
theorem gD {b j pos}:PE X (.Constant (.bool b) j pos) (tC (.bl b)):=λ_ _ _ H _ I h=>Constant_bool ⟨.bl b,H,I,rfl,h⟩
theorem W9 {j pos}:PE X (.Constant .none j pos) (tC .non):=λ_ _ _ H _ I h=>Constant_none ⟨.non,H,I,rfl,h⟩
theorem Wa {x j pos}:PE X (.Constant (.str x) j pos) (tC (.str x)):=λ_ _ _ H _ I h=>Calls.Constant_str ⟨.str x,H,I.tok _,⟨_,rfl⟩,h⟩
noncomputable def Gl (X:Cx)(x:Str):Prop:=X.env.kindOf x=some .globalImplicit
theorem IQ {E:Value->Shared->Prop}{pins:List (Addr × Obj)}{s:Shared}{σ:St}{H:Hp}{x:Str}{u:Value}{pos:Pos}{Q:Value->Shared->Prop}(I:Inv X pins σ H s)(hg:Gl X x)(hm:X.mg x=some u)(h:Q u s)
  (hd:(x==("__debug__":Str))=false:=by decide):wpAny (model X.prog X.w) X.A (eval (.Name x pos) X.env) Q E s :=
 Calls.Name_function_global I.ok.kind hg (Calls.loadGlobal_global (by rw [I.ok.glob];exact I.mod.glob.keeps I.bk) hm h) hd
theorem Ek {E:Value->Shared->Prop}{pins:List (Addr × Obj)}{s:Shared}{σ:St}{H:Hp}{x:Str}{u:Value}{pos:Pos}{Q:Value->Shared->Prop}(I:Inv X pins σ H s)(hg:Gl X x)(hm:X.mg x=none)(hv:bootBuiltins x=some u)(h:Q u s)
  (hn:x≠"__name__":=by decide) (hd:(x==("__debug__":Str))=false:=by decide):wpAny (model X.prog X.w) X.A (eval (.Name x pos) X.env) Q E s:=by
 obtain ⟨mb,h1,h2⟩:=I.mod.blt
 exact Calls.Name_function_global I.ok.kind hg (Calls.loadGlobal_builtin (by rw [I.ok.glob];exact I.mod.glob.keeps I.bk) hm (by rw [I.ok.blt];exact h1.keeps I.bk) ((h2 x hn).trans hv) h) hd
theorem IS {x:Str}{v:V}{u:Value}{pos:Pos}(hg:Gl X x)(hm:X.mg x=some u)(r:RelV v u)(hd:(x==("__debug__":Str))=false:=by decide):PE X (.Name x pos) (tC v) :=
 λ_ _ _ H _ I h=>IQ I hg hm ⟨v,H,I,r,h⟩ hd
theorem RQ {x:Str}{v:V}{u:Value}{pos:Pos}(hg:Gl X x)(hm:X.mg x=none)(hv:bootBuiltins x=some u)(r:RelV v u)(hn:x≠"__name__":=by decide)(hd:(x==("__debug__":Str))=false:=by decide):PE X (.Name x pos) (tC v) :=
 λ_ _ _ H _ I h=>Ek I hg hm hv ⟨v,H,I,r,h⟩ hn hd
variable {a b:Expr}{ta tb:TE}{pos:Pos}
noncomputable def PC (X:Cx)(op:CmpOp)(a b:Expr)(t:TE):Prop :=
 ∀ (pins:List (Addr × Obj)) (s:Shared) (σ:St) (H:Hp) (Q:VK),Inv X pins σ H s->t σ H Q ->
  wpAny (model X.prog X.w) X.A (eval a X.env) (λv s₁=>wpAny (model X.prog X.w) X.A (eval b X.env) (λu s₂=>wpAny (model X.prog X.w) X.A (compareOp op v u) (EP X pins σ Q) X.xe s₂) X.xe s₁) X.xe s
theorem Pe (b:Expr){op:CmpOp}(h:op≠.In)(h2:op≠.NotIn):behindInMarks op b=false:=by
 have e1:(op==CmpOp.In)=false:=by cases op <;> first | rfl | exact absurd rfl h
 have e2:(op==CmpOp.NotIn)=false:=by cases op <;> first | rfl | exact absurd rfl h2
 cases b <;> simp [behindInMarks,e1,e2]
inductive fB (Q:(Bool->Hp->Prop))(x:V)(H1:Hp):Prop
 | mk (c:_) (h1:x=.bl c) (h2:Q c H1):fB Q x H1
noncomputable def tB (t:TE):TT:=fun σ H Q=>t σ H λx H1=>fB Q x H1
theorem Wb {op:CmpOp}{t:TE}(h:PC X op a b t)(h1:behindInMarks op b=false:=by first | exact Pe _ ⟨⟩ ⟨⟩ | rfl):PT X (.Compare a [op] [b] pos) (tB t):=by
 intro pins s σ H Q I hw
 refine wpAny_isTrue_Compare1 (BD (h pins s σ H _ I hw) λv s1 h1=>BD h1 λu s2 h2=>BD h2 λc s3 ⟨x,H1,I1,r1,q1⟩=>?_) h1
 obtain ⟨d,rfl,q⟩:=q1
 cases r1
 exact wpAny_truthy_bool ⟨H1,I1,q⟩
theorem Wc {e:Expr}{t:TE}(h:PE X e t)(he:∀ whole,isTrue e X.env whole=(do let v <- whole;standAt e.pos;holding [v] (truthy v)):=by intro _;rfl):PT X e (tB t):=by
 intro pins s σ H Q I hw
 refine isTrue_plain (BD (h pins s σ H _ I hw) λv s1 ⟨x,H1,I1,r1,q1⟩=>?_) (he _)
 obtain ⟨d,rfl,q⟩:=q1
 cases r1
 exact wpAny_truthy_bool ⟨H1,I1,q⟩
variable {tA RS:TT}{rest:List Expr}
noncomputable def Wd (t u:TT):TT:=fun σ H Q=>t σ H λc H1=>if c=true then u σ H1 Q else Q false H1
noncomputable def pQ (t u:TT):TT:=fun σ H Q=>t σ H λc H1=>if c=true then Q true H1 else u σ H1 Q
noncomputable def Wf (t:TT):TT:=fun σ H Q=>t σ H λc H1=>Q (!c) H1
theorem RT (ha:PT X a tA):PW X (.BoolOp .And [a] pos) tA:=by
 intro wh pins s σ H Q I h
 refine isTrue_and (BD (ha pins s σ H Q I h) λc s1 e=>?_)
 cases c with
 | true=>exact isTrue_and_nil e
 | false=>exact e
theorem Wg (ha:PT X a tA):PW X (.BoolOp .Or [a] pos) tA:=by
 intro wh pins s σ H Q I h
 refine isTrue_or (BD (ha pins s σ H Q I h) λc s1 e=>?_)
 cases c with
 | false=>exact isTrue_or_nil e
 | true=>exact e
theorem Wh (ha:PT X a tA)(hb:PW X (.BoolOp .And (b::rest) pos) RS):PW X (.BoolOp .And (a::b::rest) pos) (Wd tA RS):=by
 intro wh pins s σ H Q I h
 refine isTrue_and (BD (ha pins s σ H _ I h) λc s1 ⟨H1,I1,q1⟩=>?_)
 cases c with
 | true=>exact hb wh pins s1 σ H1 Q I1 q1
 | false=>exact ⟨H1,I1,q1⟩
theorem gE (ha:PT X a tA)(hb:PW X (.BoolOp .Or (b::rest) pos) RS):PW X (.BoolOp .Or (a::b::rest) pos) (pQ tA RS):=by
 intro wh pins s σ H Q I h
 refine isTrue_or (BD (ha pins s σ H _ I h) λc s1 ⟨H1,I1,q1⟩=>?_)
 cases c with
 | true=>exact ⟨H1,I1,q1⟩
 | false=>exact hb wh pins s1 σ H1 Q I1 q1
theorem Wi (ha:PT X a tA):PT X (.UnaryOp .Not a pos) (Wf tA):=by
 intro pins s σ H Q I h
 exact isTrue_not (ha pins s σ H (λc H1=>Q (!c) H1) I h)
noncomputable def Pf (ta tb:TE):TE:=fun σ H Q=>ta σ H λx H1=>∃ c,x=.bl c/\if c=true then tb σ H1 Q else Q (.bl false) H1
noncomputable def RU (ta tb:TE):TE:=fun σ H Q=>ta σ H λx H1=>∃ c,x=.bl c/\if c=true then Q (.bl true) H1 else tb σ H1 Q
noncomputable def Pg (ta:TE):TE:=fun σ H Q=>ta σ H λx H1=>∃ c,x=.bl c/\Q (.bl (!c)) H1
theorem Wj {op}{t:TE}(h:PE X a t):PE X (.BoolOp op [a] pos) t:=λpins s σ H Q I hw=>BoolOp_one (h pins s σ H Q I hw)
theorem Wk (ha:PE X a ta)(hb:PE X (.BoolOp .And (b::rest) pos) tb):PE X (.BoolOp .And (a::b::rest) pos) (Pf ta tb):=by
 intro pins s σ H Q I h
 refine BoolOp_and (BD (ha pins s σ H _ I h) λv s1 ⟨x,H1,I1,r1,q1⟩=>?_)
 obtain ⟨c,rfl,q1⟩:=q1
 cases r1
 refine wpAny_truthy_bool ?_
 cases c with
 | true=>exact hb pins s1 σ H1 Q I1 q1
 | false=>exact ⟨.bl false,H1,I1,rfl,q1⟩
theorem gF (ha:PE X a ta)(hb:PE X (.BoolOp .Or (b::rest) pos) tb):PE X (.BoolOp .Or (a::b::rest) pos) (RU ta tb):=by
 intro pins s σ H Q I h
 refine BoolOp_or (BD (ha pins s σ H _ I h) λv s1 ⟨x,H1,I1,r1,q1⟩=>?_)
 obtain ⟨c,rfl,q1⟩:=q1
 cases r1
 refine wpAny_truthy_bool ?_
 cases c with
 | false=>exact hb pins s1 σ H1 Q I1 q1
 | true=>exact ⟨.bl true,H1,I1,rfl,q1⟩
theorem Wl (ha:PE X a ta):PE X (.UnaryOp .Not a pos) (Pg ta):=by
 intro pins s σ H Q I h
 refine UnaryOp_ (BD (ha pins s σ H _ I h) λv s1 ⟨x,H1,I1,r1,q1⟩=>?_)
 obtain ⟨c,rfl,q1⟩:=q1
 cases r1
 exact not_of (wpAny_truthy_bool ⟨.bl (!c),H1,I1,rfl,q1⟩)
noncomputable def pR (t:TT)(ta tb:TE):TE:=fun σ H Q=>t σ H λc H1=>if c=true then ta σ H1 Q else tb σ H1 Q
theorem Ph {c:Expr}(hc:PT X c tA)(ha:PE X a ta)(hb:PE X b tb):PE X (.IfExp c a b pos) (pR tA ta tb):=by
 intro pins s σ H Q I h
 refine wpAny_IfExp (BD (hc pins s σ H _ I h) λd s1 ⟨H1,I1,q1⟩=>?_)
 cases d with
 | true=>exact ha pins s1 σ H1 Q I1 q1
 | false=>exact hb pins s1 σ H1 Q I1 q1
end
noncomputable def B3 (K:W.Frag)(H:Hp)(a:Addr)(xs:List V):Prop :=
 Rd H a (.lst xs) \/
  ∃ (o:Obj) (its:Array Value) (n:Nat),K.lookup a=some o/\o.cls=.type "list"/\o.dict=none/\o.data=.seq its n/\its.size<=sizeLine/\Vals xs its.toList
noncomputable def Av (K:W.Frag)(H:Hp)(a:Addr)(xs:List V):Prop :=
 Rd H a (.tup xs) \/
  ∃ (o:Obj) (its:Array Value) (n:Nat),K.lookup a=some o/\o.cls=.type "tuple"/\o.data=.seq its n/\its.size<=sizeLine/\Vals xs its.toList
noncomputable def pS:Value->Option V
 | .none=>some .non
 | .bool b=>some (.bl b)
 | .int i _=>some (.int i)
 | .str x _=>some (.str x)
 | .bytes b _=>some (.byt b)
 | .float b _=>some (.flt b)
 | .ref a=>some (.ref a)
 | .type n=>some (.ty n)
 | _=>none
theorem RelV.abs {x:V}{u:Value}(r:RelV x u):pS u=some x:=by
 cases x with
 | non=>cases r;rfl
 | bl _=>cases r;rfl
 | int _=>obtain ⟨t,rfl⟩:=r;rfl
 | str _=>obtain ⟨t,rfl⟩:=r;rfl
 | byt _=>obtain ⟨t,rfl⟩:=r;rfl
 | flt _=>obtain ⟨t,rfl⟩:=r;rfl
 | ref _=>cases r;rfl
 | ty _=>cases r;rfl
theorem RelV.inj {x y:V}{u:Value}(r:RelV x u)(q:RelV y u):x=y:=Option.some.inj (r.abs.symm.trans q.abs)
theorem Vals.inj:∀ {xs ys:List V} {us:List Value},Vals xs us->Vals ys us->xs=ys
 | _,_,_,.nil,.nil=>rfl
 | _,_,_,.cons r t,.cons r' t'=>by rw [r.inj r',Vals.inj t t']
section
variable {X:Cx}{pins:List (Addr × Obj)}{σ:St}{H:Hp}{s:Shared}{a:Addr}{xs ys:List V}
theorem B3.of {K:W.Frag}(h:H a=some (.lst xs)):B3 K H a xs:=.inl (.inl h)
theorem Av.of {K:W.Frag}(h:H a=some (.tup xs)):Av K H a xs:=.inl (.inl h)
theorem Inv.list (I:Inv X pins σ H s)(h:B3 X.K H a xs):∃ its:List Value,Vals xs its/\PlainL s.heap a its.toArray/\xs.length<=sizeLine:=by
 rcases h with h | ⟨o,its,n,hk,hc,hd,hs,hz,r⟩
 ·obtain ⟨z,its,n,r,e⟩:=h.ok I.hok
  exact ⟨its,r,⟨_,n,e,rfl,rfl,rfl⟩,z⟩
 ·refine ⟨its.toList,r,⟨o,n,I.kIn a o hk,hc,hd,by simpa using hs⟩,?_⟩
  have e:=r.length
  simp only [Array.length_toList] at e
  omega
theorem Inv.tuple (I:Inv X pins σ H s)(h:Av X.K H a xs):∃ its:List Value,Vals xs its/\IsTup s.heap a its.toArray/\xs.length<=sizeLine:=by
 rcases h with h | ⟨o,its,n,hk,hc,hs,hz,r⟩
 ·obtain ⟨z,its,r,p⟩:=h.ok I.hok
  exact ⟨its,r,p,z⟩
 ·refine ⟨its.toList,r,⟨o,I.kIn a o hk,hc,n,by simpa using hs⟩,?_⟩
  have e:=r.length
  simp only [Array.length_toList] at e
  omega
theorem Inv.list_inj (I:Inv X pins σ H s)(h:B3 X.K H a xs)(h':B3 X.K H a ys):xs=ys:=by
 obtain ⟨its,r,⟨o,n,e,_,_,d⟩,_⟩:=I.list h
 obtain ⟨its',r',⟨o',n',e',_,_,d'⟩,_⟩:=I.list h'
 rw [e] at e';cases e'
 rw [d] at d'
 injection d' with d1 _
 have:its=its':=by simpa using congrArg Array.toList d1
 subst this
 exact r.inj r'
theorem Inv.tuple_inj (I:Inv X pins σ H s)(h:Av X.K H a xs)(h':Av X.K H a ys):xs=ys:=by
 obtain ⟨its,r,⟨o,e,_,n,d⟩,_⟩:=I.tuple h
 obtain ⟨its',r',⟨o',e',_,n',d'⟩,_⟩:=I.tuple h'
 rw [e] at e';cases e'
 rw [d] at d'
 injection d' with d1 _
 have:its=its':=by simpa using congrArg Array.toList d1
 subst this
 exact r.inj r'
end
abbrev Cx.wish (X:Cx)(E:Value->Shared->Prop):Cx:={ X with xe:=E }
abbrev Cx.nox (X:Cx):Cx:=X.wish λ_ _=>False
theorem Cx.Ok.wish {X:Cx}(ok:X.Ok)(E:Value->Shared->Prop):(X.wish E).Ok :=
 ⟨ok.mod,ok.kind,ok.glob,ok.blt,ok.above,ok.inj,ok.has,ok.cab,ok.hd,ok.frames,ok.stk,ok.exf,ok.bs,ok.bsz,ok.noex,ok.exfs,ok.funs,ok.frf⟩
theorem Cx.Ok.unwish {X:Cx}{E:Value->Shared->Prop}(ok:(X.wish E).Ok):X.Ok :=
 ⟨ok.mod,ok.kind,ok.glob,ok.blt,ok.above,ok.inj,ok.has,ok.cab,ok.hd,ok.frames,ok.stk,ok.exf,ok.bs,ok.bsz,ok.noex,ok.exfs,ok.funs,ok.frf⟩
section
variable {X:Cx}{pins:List (Addr × Obj)}{σ:St}{H:Hp}{s:Shared}{E:Value->Shared->Prop}
theorem Inv.wish (I:Inv X pins σ H s)(E:Value->Shared->Prop):Inv (X.wish E) pins σ H s:=⟨I.ok.wish E,I.os,I.bare,I.base,I.loc,I.cell,I.free,I.freeC,I.pin,I.hok,I.len⟩
theorem Inv.unwish (I:Inv (X.wish E) pins σ H s):Inv X pins σ H s:=⟨I.ok.unwish,I.os,I.bare,I.base,I.loc,I.cell,I.free,I.freeC,I.pin,I.hok,I.len⟩
theorem SP.unwish {D:Ends}{f:Flow}{s':Shared}(h:SP (X.wish E) pins D f s'):SP X pins D f s':=by
 cases f with
 | next=>obtain ⟨σ',H',I,q⟩:=h;exact ⟨σ',H',I.unwish,q⟩
 | brk=>obtain ⟨σ',H',I,q⟩:=h;exact ⟨σ',H',I.unwish,q⟩
 | cont=>obtain ⟨σ',H',I,q⟩:=h;exact ⟨σ',H',I.unwish,q⟩
 | ret u=>obtain ⟨v,σ',H',I,r,q⟩:=h;exact ⟨v,σ',H',I.unwish,r,q⟩
theorem Mx.nox {st:List Stmt}{t:TS}(h:Mx X.nox st t):Mx X st t:=λpins s σ H D I hw =>
 wpAny_mono (h pins s σ H D (I.wish _) hw) (λ_ _ q=>q.unwish) λ_ _ z=>False.elim z
end
section
variable {X:Cx}{st:Stmt}{rest:List Stmt}{t u:TS}{e:Expr}{te:TE}{pos:Pos}
noncomputable def JK:TS:=λD σ H=>D.nx σ H
noncomputable def Be (t u:TS):TS:=λD σ H=>t { D with nx:=u D } σ H
theorem Mz:Mx X [] JK:=λ_ _ σ H _ I h=>wpAny_execs_nil ⟨σ,H,I,h⟩
theorem Fn (h1:PS X st t)(h2:Mx X rest u):Mx X (st::rest) (Be t u):=by
 intro pins s σ H D I h
 refine wpAny_execs_cons (BD (h1 pins s σ H { D with nx:=u D } I h) λf s1 q=>?_)
 cases f with
 | next =>
  obtain ⟨σ',H',I',q⟩:=q
  exact h2 pins s1 σ' H' D I' q
 | ret v=>exact q
 | brk=>exact q
 | cont=>exact q
theorem Gx (h1:PS X st t):Mx X [st] t:=by
 intro pins s σ H D I h
 refine wpAny_execs_cons (BD (h1 pins s σ H D I h) λf s1 q=>?_)
 cases f with
 | next=>exact wpAny_execs_nil q
 | ret v=>exact q
 | brk=>exact q
 | cont=>exact q
theorem Inv.quiet {pins:List (Addr × Obj)}{σ:St}{H:Hp}{s:Shared}(I:Inv X pins σ H s):interactive X.env=false:=by simp [interactive,I.ok.kind]
noncomputable def MA (te:TE):TS:=λD σ H=>te σ H λ_ H1=>D.nx σ H1
theorem RV (he:PE X e te)(hs:swapsWith e none pos.line X.env=pure false:=by rfl):PS X (.Expr e pos) (MA te):=by
 intro pins s σ H D I h
 exact wpAny_Expr_any (BD (he pins s σ H _ I h) λv s1 ⟨x,H1,I1,r1,q1⟩=>⟨σ,H1,I1,q1⟩) I.quiet hs
noncomputable def NO (te:TE):TS:=λD σ H=>te σ H D.rt
theorem IT (he:PE X e te):PS X (.Return (some e) pos) (NO te):=by
 intro pins s σ H D I h
 exact wpAny_Return_some (BD (he pins s σ H _ I h) λv s1 ⟨x,H1,I1,r1,q1⟩=>⟨x,σ,H1,I1,r1,q1⟩)
noncomputable def NP (c:TT)(t u:TS):TS:=λD σ H=>c σ H λb H1=>if b=true then t D σ H1 else u D σ H1
theorem V3 {c:Expr}{a b:List Stmt}{tc:TT}(hc:PT X c tc)(ha:Mx X a t)(hb:Mx X b u):PS X (.If c a b pos) (NP tc t u):=by
 intro pins s σ H D I h
 refine wpAny_If (BD (hc pins s σ H _ I h) λd s1 ⟨H1,I1,q1⟩=>?_)
 cases d with
 | true=>exact ha pins s1 σ H1 D I1 q1
 | false=>exact hb pins s1 σ H1 D I1 q1
end
abbrev TG:=V->St->Hp->(St->Hp->Prop)->Prop
abbrev RW:=List V->St->Hp->(St->Hp->Prop)->Prop
noncomputable def PG (X:Cx)(target:Expr)(t:TG):Prop :=
 ∀ (pins:List (Addr × Obj)) (s:Shared) (σ:St) (H:Hp) (v:V) (u:Value) (Q:St->Hp->Prop),Inv X pins σ H s->RelV v u->t v σ H Q ->
  wpAny (model X.prog X.w) X.A (assign target X.env u) (λ_ s'=>∃ σ' H',Inv X pins σ' H' s'/\Q σ' H') X.xe s
noncomputable def gG (X:Cx)(ts:List Expr)(t:RW):Prop :=
 ∀ (pins:List (Addr × Obj)) (s:Shared) (σ:St) (H:Hp) (vs:List V) (us:List Value) (Q:St->Hp->Prop),Inv X pins σ H s->Vals vs us->t vs σ H Q ->
  wpAny (model X.prog X.w) X.A (assignInOrder ((assignEach ts X.env).map (·.2)) us) (λ_ s'=>∃ σ' H',Inv X pins σ' H' s'/\Q σ' H') X.xe s
abbrev gH:=V->V->Hp->VK->Prop
noncomputable def pT (X:Cx)(op:Operator)(t:gH):Prop :=
 ∀ (pins:List (Addr × Obj)) (s:Shared) (σ:St) (H:Hp) (x y:V) (v u:Value) (Q:VK),Inv X pins σ H s->RelV x v->RelV y u->t x y H Q ->
  wpAny (model X.prog X.w) X.A (inplaceOp op v u) (EP X pins σ Q) X.xe s
section
variable {X:Cx}{pos:Pos}
noncomputable def D2 (i:Nat):TG:=λv σ H Q=>Q (σ.set i (some v)) H
theorem RX {i:Nat}{x:Str}(hN:X.N.Nodup)(hi:X.N[i]?=some x)(hx:Loc X.env.scope x)(hf:X.fn x=true\/X.env.scope.names.lookup x=some .local:=by first | exact .inl rfl | exact .inr rfl | assumption):PG X (.Name x pos) (D2 i):=by
 intro pins s σ H v u Q I r h
 exact wpAny_assign_Name (GQ I hN hi hx r (λs' I'=>⟨_,H,I',h⟩) hf)
noncomputable def NQ:RW:=λvs σ H Q=>vs=[]/\Q σ H
inductive El (t:TG)(u:RW)(vs:(List V))(σ:St)(H:Hp)(Q:(St->Hp->Prop)):Prop
 | mk (v:_) (r:_) (h1:vs=v::r) (h2:t v σ H fun σ' H'=>u r σ' H' Q):El t u vs σ H Q
theorem RY:gG X [] NQ:=by
 intro pins s σ H vs us Q I r h
 obtain ⟨e,h⟩:=h
 subst e
 cases r
 exact assignInOrder_nil ⟨σ,H,I,h⟩
theorem Pj {e:Expr}{es:List Expr}{t:TG}{u:RW}(h1:PG X e t)(h2:gG X es u)
  (hs:(assignEach (e::es) X.env).map (·.2)=assign e X.env::(assignEach es X.env).map (·.2):=by rfl):gG X (e::es) (El t u):=by
 intro pins s σ H vs us Q I r h
 obtain ⟨v,vr,e1,h⟩:=h
 subst e1
 cases r with
 | cons r rr =>
  rw [hs]
  refine assignInOrder_cons (BD (h1 pins s σ H _ _ _ I r h) λ_ s1 ⟨σ1,H1,I1,q1⟩=>?_)
  exact h2 pins s1 σ1 H1 _ _ Q I1 rr q1
inductive Lm (K:W.Frag)(n:Nat)(t:RW)(v:V)(σ:St)(H:Hp)(Q:(St->Hp->Prop)):Prop
 | mk (a:_) (xs:_) (h1:v=.ref a) (h2:Av K H a xs) (h3:xs.length=n) (h4:t xs σ H Q):Lm K n t v σ H Q
theorem Wm {es:List Expr}{k:Nat}{t:RW}{n:Nat}(hc:X.calm=true)(h:gG X es t)
  (hn:(assignEach es X.env).length=n:=by rfl) (JL:(assignEach es X.env).findIdx? (·.1)=none:=by rfl):PG X (.Tuple es k pos) (Lm X.K n t):=by
 intro pins s σ H v u Q I r hw
 obtain ⟨a,xs,e1,hq,hl,hw⟩:=hw
 subst e1
 cases r
 obtain ⟨its,rv,ht,hz⟩:=I.tuple hq
 refine assign_Tuple_tuple (I.ok.hd hc) ht (by simp [hn,<- hl,rv.length]) JL λh' hx=>?_
 have I1:Inv X pins σ H { s with heap:=h' }:=I.kept (t':=s.toks) λb o e=>hx b o (Nat.ne_of_lt (Heap.lt_size e)) e
 exact h pins _ σ H xs _ Q I1 (by simpa using rv) hw
noncomputable def NR (te:TE)(g:TG):TS:=λD σ H=>te σ H λx H1=>g x σ H1 D.nx
theorem Wn {tg e:Expr}{te:TE}{g:TG}(he:PE X e te)(hg:PG X tg g)(hs:swapsWithSole [tg] e pos.line X.env=pure false:=by rfl)(hw:swappedStores [tg] e X.env=pure none:=by rfl)
  (h1:(assignEach [tg] X.env).map (·.2)=[assign tg X.env]:=by rfl):PS X (.Assign [tg] e pos) (NR te g):=by
 intro pins s σ H D I h
 refine wpAny_Assign_stores (BD (he pins s σ H _ I h) λv s1 ⟨x,H1,I1,r1,q1⟩=>?_) hs hw
 rw [h1]
 exact BD (hg pins s1 σ H1 x v _ I1 r1 q1) λ_ s2 q=>q
theorem Ln {i:Nat}{x:Str}{e:Expr}{te:TE}{pos':Pos}(hN:X.N.Nodup)(hi:X.N[i]?=some x)(hx:Loc X.env.scope x)(he:PE X e te)(hs:swapsWith e (some (.Name x pos')) pos.line X.env=pure false:=by rfl)(hf:X.fn x=true\/X.env.scope.names.lookup x=some .local:=by first | exact .inl rfl | exact .inr rfl | assumption):
  PS X (.Assign [.Name x pos'] e pos) (NR te (D2 i)):=by
 intro pins s σ H D I h
 refine wpAny_Assign_Name (BD (he pins s σ H _ I h) λv s1 ⟨y,H1,I1,r1,q1⟩=>?_) hs
 exact GQ I1 hN hi hx r1 (λs2 I2=>⟨_,H1,I2,q1⟩) hf
noncomputable def Wo (i:Nat)(te:TE)(ti:gH):TS:=λD σ H=>∃ x,σ[i]?=some (some x)/\te σ H λy H1=>ti x y H1 λz H2=>D.nx (σ.set i (some z)) H2
theorem Wq {i:Nat}{x:Str}{e:Expr}{te:TE}{op:Operator}{ti:gH}{pos':Pos}(hN:X.N.Nodup)(hi:X.N[i]?=some x)(hx:Loc X.env.scope x)(he:PE X e te)(ho:pT X op ti)(hf:X.fn x=true\/X.env.scope.names.lookup x=some .local:=by first | exact .inl rfl | exact .inr rfl | assumption):
  PS X (.AugAssign (.Name x pos') op e pos) (Wo i te ti):=by
 intro pins s σ H D I h
 obtain ⟨v,e1,h⟩:=h
 obtain ⟨m,hn,hl⟩:=I.loc
 have pU:V1 X.env.scope x:=by rcases hx with k | k;exact .inl k;exact .inr (.inl k)
 obtain ⟨u,r,l⟩:=hl i x v hi e1 pU
 refine wpAny_AugAssign_Name ?_
 have go:wpAny (model X.prog X.w) X.A (eval e X.env) (λw s₂=>wpAny (model X.prog X.w) X.A (inplaceOp op u w) (λr s₃=>wpAny (model X.prog X.w) X.A (storeName X.env x r) (λ_=>SP X pins D .next) X.xe s₃) X.xe s₂) X.xe s:=by
  refine BD (he pins s σ H _ I h) λw s1 ⟨y,H1,I1,r1,q1⟩=>?_
  refine BD (ho pins s1 σ H1 v y u w _ I1 r r1 q1) λz s2 ⟨zv,H2,I2,r2,q2⟩=>?_
  exact GQ I2 hN hi hx r2 (λs3 I3=>⟨_,H2,I3,q2⟩) hf
 rcases l with ⟨hk,hm⟩ | ⟨hk,c,hc,My⟩
 ·exact wpAny_loadName_local I.ok.kind hk hn hm go
 ·rcases hk with hk | hk
  ·exact wpAny_loadName_cell I.ok.kind hk hc My go
  ·rcases hx with k | k
   ·have:X.env.scope.names.lookup x=some .free:=hk
    rw [k] at this;cases this
   ·have:X.env.scope.names.lookup x=some .free:=hk
    rw [k] at this;cases this
noncomputable def ipI (f:Int->Int->Int):gH:=λx y H Q=>∃ i j,x=.int i/\y=.int j/\Q (.int (f i j)) H
theorem Wr:pT X .Add (ipI λi j=>i+j):=by
 intro pins s σ H x y v u Q I r1 r2 h
 obtain ⟨i,j,e1,e2,q⟩:=h
 subst e1;subst e2
 obtain ⟨t,rfl⟩:=r1
 obtain ⟨t',rfl⟩:=r2
 exact iadd_int ⟨.int _,H,I.tok _,⟨_,rfl⟩,q⟩
noncomputable def Pk (c:TT)(tb:TS):TS:=λD σ H=>∃ W:Nat->St->Hp->Prop,(∃ m,W m σ H)/\∀ m σ H,W m σ H ->
 c σ H λb H1=>if b=true then ∃ N:St->Hp->Prop,(∀ σ' H',N σ' H'->∃ m',m' < m/\W m' σ' H')/\tb { D with nx:=N,ct:=N,bk:=D.nx } σ H1 else D.nx σ H1
theorem Pl {c:Expr}{body:List Stmt}{tc:TT}{tb:TS}(hp:PassesOwn (model X.prog X.w) X.A X.env X.xe)(hc:PT X c tc)(hb:Mx X body tb):PS X (.While c body [] pos) (Pk tc tb):=by
 intro pins s σ H D I h
 obtain ⟨W,⟨m0,w0⟩,turn⟩:=h
 refine wpAny_While (codeAny_whileLoop (λn s'=>∃ σ' H',Inv X pins σ' H' s'/\W n σ' H') ?_ m0 ⟨σ,H,I,w0⟩)
 rintro n s1 ⟨σ1,H1,I1,w1⟩
 refine wpAny_passesOwn hp (BD (hc pins s1 σ1 H1 _ I1 (turn n σ1 H1 w1)) λb s2 ⟨H2,I2,q2⟩=>?_)
 cases b with
 | true =>
  obtain ⟨N,hN,q2⟩:=q2
  rw [if_pos rfl]
  refine wpAny_passesOwn hp (BD (hb pins s2 σ1 H2 _ I2 q2) λf s3 q3=>?_)
  cases f with
  | next =>
   obtain ⟨σ3,H3,I3,n3⟩:=q3
   obtain ⟨m',hm,w3⟩:=hN σ3 H3 n3
   exact ⟨m',hm,σ3,H3,I3,w3⟩
  | cont =>
   obtain ⟨σ3,H3,I3,n3⟩:=q3
   obtain ⟨m',hm,w3⟩:=hN σ3 H3 n3
   exact ⟨m',hm,σ3,H3,I3,w3⟩
  | brk=>exact q3
  | ret v=>exact q3
 | false =>
  rw [if_neg Bool.false_ne_true]
  exact wpAny_execs_nil ⟨σ1,H2,I2,q2⟩
end
structure It where
 go:Nat->Hp->Prop
 yld:Nat->Hp->V->Hp->Prop
 stop:Nat->Hp->Prop
noncomputable def HJ (X:Cx)(pins:List (Addr × Obj))(H:Hp)(b:Addr):Prop :=
 H b=none/\b≠X.env.locals/\b∉X.fs/\(b∈X.ex\/X.s₀.heap.objs.size<=b)/\(∀ x c,X.env.cells.lookup x=some c->c≠b)/\∀ p∈X.pn++pins,p.1≠b
theorem Inv.fpOk {X:Cx}{pins:List (Addr × Obj)}{σ:St}{H H':Hp}{s:Shared}{b:Addr}(I:Inv X pins σ H s)(hb:s.heap.objs.size<=b)(hn:H' b=none):HJ X pins H' b:=by
 refine ⟨hn,Nat.ne_of_gt (Nat.lt_of_lt_of_le I.lt hb),I.nofs hb,.inr (Nat.le_trans I.sz hb),λx c e z=>?_,λp hp z=>?_⟩
 ·obtain ⟨v,q⟩:=I.cell x c e
  exact absurd (Nat.lt_of_lt_of_le q.lt (by rw [z];exact hb)) (Nat.lt_irrefl _)
 ·exact absurd (Nat.lt_of_lt_of_le (Heap.lt_size (I.pin p hp).1) (by rw [z];exact hb)) (Nat.lt_irrefl _)
structure Turn (P:Program)(w:World)(K:W.Frag)(tg:Expr)(J:It)(fp:List Addr)(it:Addr)(tn:Nat->Heap->Prop):Prop where
 mem:it∈fp
 obj:∀ i h,tn i h->∀ b∈fp,∃ o,h.get? b=some o/\∀ v,o.data≠.cell v
 keep:∀ i h h',tn i h->(∀ b∈fp,∀ o,h.get? b=some o->h'.get? b=some o)->tn i h'
 item:∀ (X:Cx),X.prog=P->X.w=w->X.K=K->X.calm=true->∀ (i:Nat) (pins:List (Addr × Obj)) (s:Shared) (σ:St) (H:Hp) (E:Value->Shared->Prop),Inv X pins σ H s->(∀ b∈fp,HJ X pins H b)->tn i s.heap->J.go i H ->
  wpAny (model P w) X.A (pyNext (.ref it)) (λr s1=>∃ u,r=some u /\
   wpAny (model P w) X.A (letOwnedTupleGo tg (.ref it) u) (λ_ s2=>∃ x H',Inv X pins σ H' s2/\RelV x u/\J.yld i H x H'/\tn (i+1) s2.heap/\∀ b∈fp,H' b=none) E s1) E s
 done:∀ (X:Cx),X.prog=P->X.w=w->X.K=K->X.calm=true->∀ (i:Nat) (pins:List (Addr × Obj)) (s:Shared) (σ:St) (H:Hp) (E:Value->Shared->Prop),Inv X pins σ H s->(∀ b∈fp,HJ X pins H b)->tn i s.heap->J.stop i H ->
  wpAny (model P w) X.A (pyNext (.ref it)) (λr s1=>r=none/\Inv X pins σ H s1) E s
 self:∀ (A:Around) (i:Nat) (s:Shared) (Q:Value->Shared->Prop) (E:Value->Shared->Prop),tn i s.heap->Q (.ref it) s->wpAny (model P w) A (pyIter (.ref it)) Q E s
abbrev TI:=St->Hp->(It->Hp->Prop)->Prop
noncomputable def PIE (X:Cx)(pins:List (Addr × Obj))(σ:St)(tg:Expr)(R:It->Hp->Prop)(ng:Value)(s2:Shared):Prop :=
 ∃ (it:Addr) (fp:List Addr) (tn:Nat->Heap->Prop) (J:It) (H':Hp),ng=.ref it/\Inv X pins σ H' s2/\Turn X.prog X.w X.K tg J fp it tn/\tn 0 s2.heap/\(∀ b∈fp,HJ X pins H' b)/\R J H'
noncomputable def PI (X:Cx)(tg iter:Expr)(wi:TI):Prop :=
 ∀ (pins:List (Addr × Obj)) (s:Shared) (σ:St) (H:Hp) (R:It->Hp->Prop),Inv X pins σ H s->wi σ H R ->
  wpAny (model X.prog X.w) X.A (eval iter X.env) (λv s1=>wpAny (model X.prog X.w) X.A (pyIter v) (PIE X pins σ tg R) X.xe s1) X.xe s
theorem MB {M:Model}{A:Around}{E:Value->Shared->Prop}{s:Shared}{tg:Expr}{it:Addr}{u:Value}{o:Obj}{n:String}{vs:Array Value}{Q:Unit->Shared->Prop}(ho:s.heap.get? it=some o)(hc:o.cls=.type n)(hd:o.data=.fields vs)
    (hn:["enumerate","zip","dict_itemiterator","dict_reverseitemiterator","odict_iterator","itertools.zip_longest","itertools.pairwise"].contains n=false) (hQ:Q .unit s):wpAny M A (letOwnedTupleGo tg (.ref it) u) Q E s:=by
  unfold letOwnedTupleGo
  cases tg <;> first
    | exact wpAny_pure hQ
    | (cases u <;> first
        | exact wpAny_pure hQ
        | (refine wpAny_bind (wpAny_load ho ?_)
           rw [hc,hd]
           show wpAny M A (if (["enumerate","zip","dict_itemiterator","dict_reverseitemiterator","odict_iterator","itertools.zip_longest","itertools.pairwise"].contains n && vs[0]?==some (rawInt _))=true then _ else _) Q E s
           rw [if_neg (by intro h;rw [hn,Bool.false_and] at h;cases h)]
           exact wpAny_pure hQ))
noncomputable def Ws (K:W.Frag)(a:Addr):It :=
 ⟨λi H=>∃ xs x,B3 K H a xs/\xs[i]?=some x,λi H x H'=>H'=H/\∀ xs,B3 K H a xs->xs[i]?=some x,λi H=>∃ xs,B3 K H a xs/\xs.length<=i⟩
noncomputable def fD (K:W.Frag)(a:Addr):It :=
 ⟨λi H=>∃ xs x,Av K H a xs/\xs[i]?=some x,λi H x H'=>H'=H/\∀ xs,Av K H a xs->xs[i]?=some x,λi H=>∃ xs,Av K H a xs/\xs.length<=i⟩
noncomputable def V4 (lo:Int)(n:Nat):It:=⟨λi _=>i < n,λi H x H'=>H'=H/\x=.int (lo+i),λi _=>n<=i⟩
theorem NS {P:Program}{w:World}{K:W.Frag}{tg:Expr}(a it:Addr):Turn P w K tg (Ws K a) [it] it (λi h=>h.IsListIter it a i) where
 mem:=by simp
 obj:=λi h st b hb=>by
  have e:b=it:=by simpa using hb
  subst e
  obtain ⟨o,e,c,d⟩:=st
  exact ⟨o,e,λv z=>by rw [d] at z;cases z⟩
 keep:=λi h h' st k=>st.at λo e=>k it (by simp) o e
 item:=by
  intro X hP hw hK hc i pins s σ H E I hf st hg
  subst hP hw hK
  obtain ⟨xs,x,hq,hx⟩:=hg
  obtain ⟨its,rv,p,hz⟩:=I.list hq
  obtain ⟨u,hu,ru⟩:=rv.get hx
  obtain ⟨f0,f1,f2,f3,f4,f5⟩:=hf it (by simp)
  refine wpAny_pyNext_list_item st p.isList (x:=u) (by simpa using hu) λh' MC sb=>?_
  have I1:Inv X pins σ H { s with heap:=h' }:=I.turned (t':=s.toks) (λb o hb e=>(sb.2 b hb).trans e) f0 f1 f3 f4 f5
  obtain ⟨o,e,c,d⟩:=id MC
  exact ⟨u,rfl,MB (s:={ s with heap:=h' }) e c d ⟨⟩ ⟨x,H,I1,ru,⟨rfl,λys hy=>by rw [I.list_inj hy hq];exact hx⟩,MC,λb hb=>(hf b hb).1⟩⟩
 done:=by
  intro X hP hw hK hc i pins s σ H E I hf st hg
  subst hP hw hK
  obtain ⟨xs,hq,hx⟩:=hg
  obtain ⟨its,rv,p,hz⟩:=I.list hq
  obtain ⟨f0,f1,f2,f3,f4,f5⟩:=hf it (by simp)
  have hl:=rv.length
  exact wpAny_pyNext_list_end (I.ok.hd hc) st p.isList (by simp;omega) λh' eb=>⟨rfl,I.turned (t':=s.toks) (λb o hb e=>eb b o hb e) f0 f1 f3 f4 f5⟩
 self:=λ_ _ _ _ _ st h=>wpAny_pyIter_listiter st h
theorem Lo {P:Program}{w:World}{K:W.Frag}{tg:Expr}(a it:Addr):Turn P w K tg (fD K a) [it] it (λi h=>h.IsTupleIter it a i) where
 mem:=by simp
 obj:=λi h st b hb=>by
  have e:b=it:=by simpa using hb
  subst e
  obtain ⟨o,e,c,d⟩:=st
  exact ⟨o,e,λv z=>by rw [d] at z;cases z⟩
 keep:=λi h h' st k=>st.at λo e=>k it (by simp) o e
 item:=by
  intro X hP hw hK hc i pins s σ H E I hf st hg
  subst hP hw hK
  obtain ⟨xs,x,hq,hx⟩:=hg
  obtain ⟨its,rv,p,hz⟩:=I.tuple hq
  obtain ⟨u,hu,ru⟩:=rv.get hx
  obtain ⟨f0,f1,f2,f3,f4,f5⟩:=hf it (by simp)
  refine wpAny_pyNext_tuple_item st (show s.heap.IsTuple a its.toArray from p) (x:=u) (by simpa using hu) λh' MC sb=>?_
  have I1:Inv X pins σ H { s with heap:=h' }:=I.turned (t':=s.toks) (λb o hb e=>(sb.2 b hb).trans e) f0 f1 f3 f4 f5
  obtain ⟨o,e,c,d⟩:=id MC
  exact ⟨u,rfl,MB (s:={ s with heap:=h' }) e c d ⟨⟩ ⟨x,H,I1,ru,⟨rfl,λys hy=>by rw [I.tuple_inj hy hq];exact hx⟩,MC,λb hb=>(hf b hb).1⟩⟩
 done:=by
  intro X hP hw hK hc i pins s σ H E I hf st hg
  subst hP hw hK
  obtain ⟨xs,hq,hx⟩:=hg
  obtain ⟨its,rv,p,hz⟩:=I.tuple hq
  obtain ⟨f0,f1,f2,f3,f4,f5⟩:=hf it (by simp)
  have hl:=rv.length
  exact wpAny_pyNext_tuple_end (I.ok.hd hc) st (show s.heap.IsTuple a its.toArray from p) (by simp;omega) λh' eb=>⟨rfl,I.turned (t':=s.toks) (λb o hb e=>eb b o hb e) f0 f1 f3 f4 f5⟩
 self:=λ_ _ _ _ _ st h=>wpAny_pyIter_tupleiter st h
theorem Lq {P:Program}{w:World}{K:W.Frag}{tg:Expr}(it:Addr)(lo:Int)(n:Nat):Turn P w K tg (V4 lo n) [it] it (λi h=>IsRangeIter h it (lo+(i:Nat) * 1) ((n:Int) - (i:Nat)) 1) where
 mem:=by simp
 obj:=λi h st b hb=>by
  have e:b=it:=by simpa using hb
  subst e
  exact ⟨_,st,λv z=>by
   have z':Data.fields _=Data.cell v:=z
   cases z'⟩
 keep:=λi h h' st k=>k it (by simp) _ st
 item:=by
  intro X hP hw hK hc i pins s σ H E I hf st hg
  subst hP hw hK
  obtain ⟨f0,f1,f2,f3,f4,f5⟩:=hf it (by simp)
  have W:=Walks.range (prog:=X.prog) (w:=X.w) (I.ok.hd hc) it lo 1 n
  refine W.item i s _ _ hg st λv h' tk hv MC kk=>?_
  obtain ⟨t,rfl⟩:=hv
  have I1:Inv X pins σ H { s with heap:=h',toks:=tk }:=I.turned (λb o hb e=>kk b o (by simpa using hb) e) f0 f1 f3 f4 f5
  refine ⟨_,rfl,MB (s:={ s with heap:=h',toks:=tk }) (n:="range_iterator") MC rfl rfl ⟨⟩ ⟨.int (lo+i),H,I1,⟨t,?_⟩,⟨rfl,rfl⟩,MC,λb hb=>(hf b hb).1⟩⟩
  rw [Int.mul_one]
 done:=by
  intro X hP hw hK hc i pins s σ H E I hf st hg
  subst hP hw hK
  obtain ⟨f0,f1,f2,f3,f4,f5⟩:=hf it (by simp)
  exact wpAny_pyNext_range_end (I.ok.hd hc) st (by have:n<=i:=hg;omega) λh' eb=>⟨rfl,I.turned (t':=s.toks) (λb o hb e=>eb b o hb e) f0 f1 f3 f4 f5⟩
 self:=λ_ _ _ _ _ st h=>wpAny_pyIter_rangeiter st h
section
variable {X:Cx}{tg:Expr}
inductive Lr (K:W.Frag)(R:(It->Hp->Prop))(x:V)(H1:Hp):Prop
 | mk (a:_) (h1:x=.ref a) (h2:(∃ xs,B3 K H1 a xs)) (h3:R (Ws K a) H1):Lr K R x H1
noncomputable def MD (K:W.Frag)(tl:TE):TI:=fun σ H R=>tl σ H λx H1=>Lr K R x H1
inductive Pn (K:W.Frag)(R:(It->Hp->Prop))(x:V)(H1:Hp):Prop
 | mk (a:_) (h1:x=.ref a) (h2:(∃ xs,Av K H1 a xs)) (h3:R (fD K a) H1):Pn K R x H1
noncomputable def Wt (K:W.Frag)(tl:TE):TI:=fun σ H R=>tl σ H λx H1=>Pn K R x H1
theorem RZ {l:Expr}{tl:TE}(hl:PE X l tl):PI X tg l (MD X.K tl):=by
 intro pins s σ H R I h
 refine BD (hl pins s σ H _ I h) λv s1 ⟨x,H1,I1,r1,q1⟩=>?_
 obtain ⟨a,e,⟨xs,hq⟩,q⟩:=q1
 subst e
 cases r1
 obtain ⟨its,rv,p,hz⟩:=I1.list hq
 refine wpAny_pyIter_list p.isList ?_
 refine ⟨s1.heap.objs.size,[s1.heap.objs.size],_,_,H1,rfl,I1.kept (t':=s1.toks) λb o e=>Heap.get?_push_of_some _ e,NS a _,⟨_,Heap.get?_push_size _ rfl,rfl,rfl⟩,λb hb=>?_,q⟩
 have e:b=s1.heap.objs.size:=by simpa using hb
 subst e
 exact I1.fpOk (Nat.le_refl _) (I1.hok.fresh (Nat.le_refl _))
theorem Wu {l:Expr}{tl:TE}(hl:PE X l tl):PI X tg l (Wt X.K tl):=by
 intro pins s σ H R I h
 refine BD (hl pins s σ H _ I h) λv s1 ⟨x,H1,I1,r1,q1⟩=>?_
 obtain ⟨a,e,⟨xs,hq⟩,q⟩:=q1
 subst e
 cases r1
 obtain ⟨its,rv,p,hz⟩:=I1.tuple hq
 refine wpAny_pyIter_tuple (show s1.heap.IsTuple a its.toArray from p) ?_
 refine ⟨s1.heap.objs.size,[s1.heap.objs.size],_,_,H1,rfl,I1.kept (t':=s1.toks) λb o e=>Heap.get?_push_of_some _ e,Lo a _,⟨_,Heap.get?_push_size _ rfl,rfl,rfl⟩,λb hb=>?_,q⟩
 have e:b=s1.heap.objs.size:=by simpa using hb
 subst e
 exact I1.fpOk (Nat.le_refl _) (I1.hok.fresh (Nat.le_refl _))
theorem JM {pins:List (Addr × Obj)}{σ:St}{H:Hp}{s:Shared}{R:It->Hp->Prop}{E:Value->Shared->Prop}{lo hi:Int}{t u v:Tok}{tk:Nat}(I:Inv X pins σ H s)(h1:-(2 ^ 62)<=lo)(h2:lo < 2 ^ 62)(h3:-(2 ^ 62)<=hi)(h4:hi < 2 ^ 62)
  (q:R (V4 lo (hi - lo).toNat) H):wpAny (model X.prog X.w) X.A (pyIter (.ref s.heap.objs.size)) (PIE X pins σ tg R) E { s with heap:=s.heap.push { cls:=.type "range",data:=.fields #[.int lo t,.int hi u,.int 1 v] },toks:=tk }:=by
 refine wpAny_pyIter_range (IsRange.new ..) (small_one h1 h2 h3 h4) ?_
 have I1:Inv X pins σ H { s with heap:=s.heap.push { cls:=.type "range",data:=.fields #[.int lo t,.int hi u,.int 1 v] },toks:=tk }:=I.kept λb o e=>Heap.get?_push_of_some _ e
 refine ⟨(s.heap.push { cls:=.type "range",data:=.fields #[.int lo t,.int hi u,.int 1 v] }).objs.size,[(s.heap.push { cls:=.type "range",data:=.fields #[.int lo t,.int hi u,.int 1 v] }).objs.size],_,_,H,rfl,
  I1.kept (t':=tk) λb o e=>Heap.get?_push_of_some _ e,Lq _ lo (hi - lo).toNat,?_,λb hb=>?_,q⟩
 ·have e1:lo+((0:Nat):Int) * 1=lo:=by simp
  have e2:(((hi - lo).toNat:Nat):Int) - ((0:Nat):Int)=Builtin.Range.rangeSize lo hi 1:=by rw [rangeSize_one];split <;> omega
  show IsRangeIter _ _ (lo+((0:Nat):Int) * 1) ((((hi - lo).toNat:Nat):Int) - ((0:Nat):Int)) 1
  rw [e1,e2]
  exact Heap.get?_push_size _ rfl
 ·have e:b=(s.heap.push { cls:=.type "range",data:=.fields #[.int lo t,.int hi u,.int 1 v] }).objs.size:=by simpa using hb
  subst e
  exact I1.fpOk (Nat.le_refl _) (I1.hok.fresh (Nat.le_refl _))
inductive IU (R:(It->Hp->Prop))(vs:(List V))(H1:Hp):Prop
 | mk (j:Int) (h1:vs=[.int j]) (h2:-(2 ^ 62)<=j) (h3:j < 2 ^ 62) (h4:R (V4 0 j.toNat) H1):IU R vs H1
noncomputable def ME (ta:TA):TI:=fun σ H R=>ta σ H λvs H1=>IU R vs H1
noncomputable def V5 (ta:TA):TI:=fun σ H R=>ta σ H λvs H1=>∃ i j:Int,vs=[.int i,.int j]/\(-(2 ^ 62)<=i/\i < 2 ^ 62/\-(2 ^ 62)<=j/\j < 2 ^ 62)/\R (V4 i (j - i).toNat) H1
theorem NT {a:Expr}{ta:TA}{p pos:Pos}(hg:Gl X "range")(hm:X.mg "range"=none)(ha:PA X [a] ta)(hs:starEach [a] X.env=[(false,eval a X.env)]:=by rfl):PI X tg (.Call (.Name "range" p) [a] [] pos) (ME ta):=by
 intro pins s σ H R I h
 refine Call_ (Ek I hg hm boot_range (PyProof.Rows.callWith_type1 (BD (ha pos pins s σ H _ I h) λus s1 ⟨vs,H1,I1,r1,q1⟩=>?_) hs rfl))
 obtain ⟨j,e,q1,q2,q⟩:=q1
 subst e
 cases r1 with
 | cons r rr =>
  cases rr
  obtain ⟨t,rfl⟩:=r
  exact call_range_1 (JM I1 () () q1 q2 (by simpa using q))
theorem NU {a b:Expr}{ta:TA}{p pos:Pos}(hg:Gl X "range")(hm:X.mg "range"=none)(ha:PA X [a,b] ta)(hs:starEach [a,b] X.env=[(false,eval a X.env),(false,eval b X.env)]:=by rfl)(Po:starEach [b] X.env=[(false,eval b X.env)]:=by rfl):
  PI X tg (.Call (.Name "range" p) [a,b] [] pos) (V5 ta):=by
 intro pins s σ H R I h
 refine Call_ (Ek I hg hm boot_range (PyProof.Rows.callWith_type1 (BD (ha pos pins s σ H _ I h) λus s1 ⟨vs,H1,I1,r1,q1⟩=>?_) (by rw [hs,Po]) (by rw [Po];rfl)))
 obtain ⟨i,j,e,⟨q1,q2,q3,q4⟩,q⟩:=q1
 subst e
 cases r1 with
 | cons r rr =>
  cases rr with
  | cons r' rr =>
   cases rr
   obtain ⟨t,rfl⟩:=r
   obtain ⟨t',rfl⟩:=r'
   exact call_range_2 (JM I1 q1 q2 q3 q4 q)
noncomputable def Wv (wi:TI)(g:TG)(tb:TS):TS:=λD σ H=>wi σ H λJ H1=>∃ W:Nat->Nat->St->Hp->Prop,(∃ m,W 0 m σ H1)/\∀ i m σ H,W i m σ H ->
 (J.stop i H/\D.nx σ H)\/(J.go i H/\∃ N:St->Hp->Prop,(∀ σ' H',N σ' H'->∃ m',m' < m/\W (i+1) m' σ' H')/\∀ x H',J.yld i H x H'->g x σ H' fun σ2 H2=>tb { D with nx:=N,ct:=N,bk:=D.nx } σ2 H2)
noncomputable def GR (fp:List Addr)(h:Heap):List (Addr × Obj):=fp.filterMap λb=>(h.get? b).map λo=>(b,o)
theorem E1 {fp:List Addr}{h:Heap}{b:Addr}{o:Obj}(hb:b∈fp)(e:h.get? b=some o):(b,o)∈GR fp h:=List.mem_filterMap.mpr ⟨b,hb,by rw [e];rfl⟩
theorem NV {fp:List Addr}{h:Heap}{p:Addr × Obj}(hp:p∈GR fp h):p.1∈fp/\h.get? p.1=some p.2:=by
 obtain ⟨b,hb,e⟩:=List.mem_filterMap.mp hp
 cases q:h.get? b with
 | none=>rw [q] at e;cases e
 | some o =>
  rw [q] at e
  have e':(b,o)=p:=Option.some.inj e
  subst e'
  exact ⟨hb,q⟩
theorem Inv.pinned {pins:List (Addr × Obj)}{σ:St}{H:Hp}{s:Shared}{fp:List Addr}(I:Inv X pins σ H s)(hf:∀ b∈fp,HJ X pins H b)(ho:∀ b∈fp,∃ o,s.heap.get? b=some o/\∀ v,o.data≠.cell v):Inv X (pins++GR fp s.heap) σ H s :=
 I.pins_of λp hp=>(List.mem_append.mp hp).elim (λz=>I.pin p (List.mem_append_right _ z)) λz=>by
  obtain ⟨hb,e⟩:=NV z
  obtain ⟨f0,f1,f2,_⟩:=hf p.1 hb
  obtain ⟨o,e',d⟩:=ho p.1 hb
  rw [e] at e';cases e'
  exact ⟨e,f0,f1,f2,d⟩
theorem Inv.unpinned {pins pl:List (Addr × Obj)}{σ:St}{H:Hp}{s:Shared}(I:Inv X (pins++pl) σ H s):Inv X pins σ H s:=I.pins_of λp hp=>I.pin p (List.mem_append_right _ (List.mem_append_left _ hp))
theorem Ww {iter:Expr}{body:List Stmt}{wi:TI}{g:TG}{tb:TS}{pos:Pos}(hp:PassesOwn (model X.prog X.w) X.A X.env X.xe)(hc:X.calm=true)(hi:PI X tg iter wi)(hg:PG X tg g)(hb:Mx X body tb)
  (hs:∀ x,foldedSetIterable iter X.env x=pure x:=by intro _;rfl):PS X (.For tg iter body [] pos) (Wv wi g tb):=by
 intro pins s σ H D I h
 refine wpAny_For (BD (hi pins s σ H _ I h) λv s1 h1=>BD h1 λng s2 h2=>?_) hs
 obtain ⟨it,fp,tn,J,H2,e,I2,T,gJ,f2,W,⟨m0,w0⟩,turn⟩:=h2
 subst e
 have Wx:∀ {H':Hp},(∀ b∈fp,H' b=none)->∀ b∈fp,HJ X pins H' b:=λhn b hb=>⟨hn b hb,(f2 b hb).2⟩
 refine codeAny_forLoop_any (λn s'=>∃ i σ' H',Inv X pins σ' H' s'/\tn i s'.heap/\(∀ b∈fp,H' b=none)/\W i n σ' H') ?_ m0 ⟨0,σ,H2,I2,gJ,λb hb=>(f2 b hb).1,w0⟩
 rintro n s3 ⟨i,σ3,H3,I3,gK,gL,w3⟩
 rcases turn i n σ3 H3 w3 with ⟨stop,qn⟩ | ⟨go,N,hN,step⟩
 ·refine wpAny_passesOwn hp (BD (T.done X rfl rfl rfl hc i pins s3 σ3 H3 X.xe I3 (Wx gL) gK stop) λr s4 ⟨hr,I4⟩=>?_)
  subst hr
  exact wpAny_execs_nil ⟨σ3,H3,I4,qn⟩
 ·refine wpAny_passesOwn hp (BD (T.item X rfl rfl rfl hc i pins s3 σ3 H3 X.xe I3 (Wx gL) gK go) λr s4 ⟨u,hr,h4⟩=>?_)
  subst hr
  refine wpAny_passesOwn hp (BD h4 λ_ s5 ⟨x,H5,I5,r5,y5,Wy,pV⟩=>?_)
  have pW:=I5.pinned (Wx pV) (T.obj _ _ Wy)
  refine wpAny_passesOwn hp (BD (hg _ s5 σ3 H5 x u _ pW r5 (step x H5 y5)) λ_ s6 ⟨σ6,H6,I6,q6⟩=>?_)
  refine wpAny_passesOwn hp (BD (hb _ s6 σ6 H6 _ I6 q6) λf s7 q7=>?_)
  have again:∀ {σ7:St} {H7:Hp},Inv X (pins++GR fp s5.heap) σ7 H7 s7->N σ7 H7->∃ m,m < n/\∃ i σ' H',Inv X pins σ' H' s7/\tn i s7.heap/\(∀ b∈fp,H' b=none)/\W i m σ' H':=λ{σ7 H7} I7 n7=>by
   obtain ⟨m',hm,w7⟩:=hN σ7 H7 n7
   refine ⟨m',hm,i+1,σ7,H7,I7.unpinned,T.keep _ _ _ Wy λb hb o e=>(I7.pin (b,o) (List.mem_append_right _ (List.mem_append_right _ (E1 hb e)))).1,λb hb=>?_,w7⟩
   obtain ⟨o,e,d⟩:=T.obj _ _ Wy b hb
   exact (I7.pin (b,o) (List.mem_append_right _ (List.mem_append_right _ (E1 hb e)))).2.1
  cases f with
  | next=>obtain ⟨σ7,H7,I7,n7⟩:=q7;exact again I7 n7
  | cont=>obtain ⟨σ7,H7,I7,n7⟩:=q7;exact again I7 n7
  | brk=>obtain ⟨σ7,H7,I7,q7⟩:=q7;exact ⟨σ7,H7,I7.unpinned,q7⟩
  | ret v=>obtain ⟨x7,σ7,H7,I7,r7,q7⟩:=q7;exact ⟨x7,σ7,H7,I7.unpinned,r7,q7⟩
end
theorem Pp {K:W.Frag}{a:Addr}{xs:List V}{g:TG}{tb:TS}{D:Ends}{σ:St}{H:Hp}(Pv:Nat->St->Hp->Prop)(h0:Pv 0 σ H)(hl:∀ i σ H,i<=xs.length->Pv i σ H->B3 K H a xs)
  (hs:∀ i x σ H,xs[i]?=some x->Pv i σ H->g x σ H fun σ2 H2=>tb { D with nx:=Pv (i+1),ct:=Pv (i+1),bk:=D.nx } σ2 H2) (hd:∀ σ H,Pv xs.length σ H->D.nx σ H) :
  ∃ W:Nat->Nat->St->Hp->Prop,(∃ m,W 0 m σ H)/\∀ i m σ H,W i m σ H ->
   ((Ws K a).stop i H/\D.nx σ H)\/((Ws K a).go i H/\∃ N:St->Hp->Prop,(∀ σ' H',N σ' H'->∃ m',m' < m/\W (i+1) m' σ' H')/\∀ x H',(Ws K a).yld i H x H'->g x σ H' fun σ2 H2=>tb { D with nx:=N,ct:=N,bk:=D.nx } σ2 H2):=by
 refine ⟨λi m σ H=>m=xs.length - i/\i<=xs.length/\Pv i σ H,⟨xs.length,by simp,Nat.zero_le _,h0⟩,?_⟩
 rintro i m σ H ⟨rfl,hi,p⟩
 have q:=hl i σ H hi p
 by_cases DN:i < xs.length
 ·refine .inr ⟨⟨xs,xs[i],q,by simp [DN]⟩,Pv (i+1),fun σ' H' p'=>⟨xs.length - (i+1),(),rfl,DN,p'⟩,λx H' y=>?_⟩
  obtain ⟨e,y⟩:=y
  subst e
  exact hs i x σ _ (y xs q) p
 ·have e:i=xs.length:=by omega
  subst e
  exact .inl ⟨⟨xs,q,Nat.le_refl _⟩,hd σ H p⟩
theorem S0 {K:W.Frag}{a:Addr}{xs:List V}{g:TG}{tb:TS}{D:Ends}{σ:St}{H:Hp}(Pv:Nat->St->Hp->Prop)(h0:Pv 0 σ H)(hl:∀ i σ H,i<=xs.length->Pv i σ H->Av K H a xs)
  (hs:∀ i x σ H,xs[i]?=some x->Pv i σ H->g x σ H fun σ2 H2=>tb { D with nx:=Pv (i+1),ct:=Pv (i+1),bk:=D.nx } σ2 H2) (hd:∀ σ H,Pv xs.length σ H->D.nx σ H) :
  ∃ W:Nat->Nat->St->Hp->Prop,(∃ m,W 0 m σ H)/\∀ i m σ H,W i m σ H ->
   ((fD K a).stop i H/\D.nx σ H)\/((fD K a).go i H/\∃ N:St->Hp->Prop,(∀ σ' H',N σ' H'->∃ m',m' < m/\W (i+1) m' σ' H')/\∀ x H',(fD K a).yld i H x H'->g x σ H' fun σ2 H2=>tb { D with nx:=N,ct:=N,bk:=D.nx } σ2 H2):=by
 refine ⟨λi m σ H=>m=xs.length - i/\i<=xs.length/\Pv i σ H,⟨xs.length,by simp,Nat.zero_le _,h0⟩,?_⟩
 rintro i m σ H ⟨rfl,hi,p⟩
 have q:=hl i σ H hi p
 by_cases DN:i < xs.length
 ·refine .inr ⟨⟨xs,xs[i],q,by simp [DN]⟩,Pv (i+1),fun σ' H' p'=>⟨xs.length - (i+1),(),rfl,DN,p'⟩,λx H' y=>?_⟩
  obtain ⟨e,y⟩:=y
  subst e
  exact hs i x σ _ (y xs q) p
 ·have e:i=xs.length:=by omega
  subst e
  exact .inl ⟨⟨xs,q,Nat.le_refl _⟩,hd σ H p⟩
theorem I0 {lo:Int}{n:Nat}{g:TG}{tb:TS}{D:Ends}{σ:St}{H:Hp}(Pv:Nat->St->Hp->Prop)(h0:Pv 0 σ H)
  (hs:∀ i σ H,i < n->Pv i σ H->g (.int (lo+i)) σ H fun σ2 H2=>tb { D with nx:=Pv (i+1),ct:=Pv (i+1),bk:=D.nx } σ2 H2) (hd:∀ σ H,Pv n σ H->D.nx σ H) :
  ∃ W:Nat->Nat->St->Hp->Prop,(∃ m,W 0 m σ H)/\∀ i m σ H,W i m σ H ->
   ((V4 lo n).stop i H/\D.nx σ H)\/((V4 lo n).go i H/\∃ N:St->Hp->Prop,(∀ σ' H',N σ' H'->∃ m',m' < m/\W (i+1) m' σ' H')/\∀ x H',(V4 lo n).yld i H x H'->g x σ H' fun σ2 H2=>tb { D with nx:=N,ct:=N,bk:=D.nx } σ2 H2):=by
 refine ⟨λi m σ H=>m=n - i/\i<=n/\Pv i σ H,⟨n,by simp,Nat.zero_le _,h0⟩,?_⟩
 rintro i m σ H ⟨rfl,hi,p⟩
 by_cases DN:i < n
 ·refine .inr ⟨DN,Pv (i+1),fun σ' H' p'=>⟨n - (i+1),(),rfl,DN,p'⟩,λx H' y=>?_⟩
  obtain ⟨e,y⟩:=y
  subst e y
  exact hs i σ _ DN p
 ·have e:i=n:=by omega
  subst e
  exact .inl ⟨Nat.le_refl _,hd σ H p⟩
abbrev R2:=V->V->Hp->VK->Prop
noncomputable def EG (X:Cx)(f:Value->Value->Sem Value)(r:R2):Prop :=
 ∀ (pins:List (Addr × Obj)) (s:Shared) (σ:St) (H:Hp) (x y:V) (v u:Value) (Q:VK),Inv X pins σ H s->RelV x v->RelV y u->r x y H Q ->
  wpAny (model X.prog X.w) X.A (f v u) (EP X pins σ Q) X.xe s
noncomputable def nh (X:Cx)(f:Value->Sem Value)(r:V->Hp->VK->Prop):Prop :=
 ∀ (pins:List (Addr × Obj)) (s:Shared) (σ:St) (H:Hp) (x:V) (v:Value) (Q:VK),Inv X pins σ H s->RelV x v->r x H Q ->
  wpAny (model X.prog X.w) X.A (f v) (EP X pins σ Q) X.xe s
noncomputable def Ds (X:Cx)(f:Value)(r:List V->Hp->VK->Prop):Prop :=
 ∀ (pins:List (Addr × Obj)) (s:Shared) (σ:St) (H:Hp) (xs:List V) (us:List Value) (Q:VK),Inv X pins σ H s->Vals xs us->r xs H Q ->
  wpAny (model X.prog X.w) X.A (call f us) (EP X pins σ Q) X.xe s
noncomputable def pX (X:Cx)(r:V->Hp->(Bool->Hp->Prop)->Prop):Prop :=
 ∀ (pins:List (Addr × Obj)) (s:Shared) (σ:St) (H:Hp) (x:V) (v:Value) (Q:Bool->Hp->Prop),Inv X pins σ H s->RelV x v->r x H Q ->
  wpAny (model X.prog X.w) X.A (truthy v) (TP X pins σ Q) X.xe s
noncomputable def Fl (r:R2)(ta tb:TE):TE:=fun σ H Q=>ta σ H λx H1=>tb σ H1 λy H2=>r x y H2 Q
noncomputable def pY (r:V->Hp->VK->Prop)(ta:TE):TE:=fun σ H Q=>ta σ H λx H1=>r x H1 Q
inductive rI (C:Int->Int->Prop)(g:Int->Int->V)(x:V)(y:V)(H:Hp)(Q:VK):Prop
 | mk (i:_) (j:_) (h1:x=.int i) (h2:y=.int j) (h3:C i j) (h4:Q (g i j) H):rI C g x y H Q
inductive NW (g:Int->Int->V)(x:V)(y:V)(H:Hp)(Q:VK):Prop
 | mk (i:_) (j:_) (h1:x=.int i) (h2:y=.int j) (h3:Q (g i j) H):NW g x y H Q
noncomputable def rU (g:Int->V):V->Hp->VK->Prop:=λx H Q=>∃ i,x=.int i/\Q (g i) H
section
variable {X:Cx}{a b c:Expr}{ta tb tc:TE}{pos:Pos}
theorem Wz (ha:PE X a ta)(hb:PE X b tb){pins:List (Addr × Obj)}{s:Shared}{σ:St}{H:Hp}{R:V->V->Hp->Prop}(I:Inv X pins σ H s)
  (h:ta σ H λx H1=>tb σ H1 λy H2=>R x y H2) {Q:Value->Shared->Prop} {f:Value->Value->Sem Value}
  (hf:∀ v u s2 x y H2,Inv X pins σ H2 s2->RelV x v->RelV y u->R x y H2->wpAny (model X.prog X.w) X.A (f v u) Q X.xe s2) :
  wpAny (model X.prog X.w) X.A (eval a X.env) (λv s₁=>wpAny (model X.prog X.w) X.A (eval b X.env) (λu s₂=>wpAny (model X.prog X.w) X.A (f v u) Q X.xe s₂) X.xe s₁) X.xe s:=by
 refine BD (ha pins s σ H _ I h) λv s1 ⟨x,H1,I1,r1,q1⟩=>?_
 refine BD (hb pins s1 σ H1 _ I1 q1) λu s2 ⟨y,H2,I2,r2,q2⟩=>?_
 exact hf v u s2 x y H2 I2 r1 r2 q2
theorem Ec {op:Operator}{r:R2}(ho:EG X (binaryOp op) r)(ha:PE X a ta)(hb:PE X b tb):PE X (.BinOp a op b pos) (Fl r ta tb):=by
 intro pins s σ H Q I h
 exact wpAny_BinOp (Wz ha hb I h λv u s2 x y H2 I2 rx ry q=>ho pins s2 σ H2 x y v u Q I2 rx ry q)
theorem gM {op:UnaryOp}{r:V->Hp->VK->Prop}(ho:nh X (unaryOp op) r)(ha:PE X a ta):PE X (.UnaryOp op a pos) (pY r ta):=by
 intro pins s σ H Q I h
 exact UnaryOp_ (BD (ha pins s σ H _ I h) λv s1 ⟨x,H1,I1,r1,q1⟩=>ho pins s1 σ H1 x v Q I1 r1 q1)
theorem ni {f:Value->Value->Sem Value}{C:Int->Int->Prop}{g:Int->Int->Int}
  (rule:∀ (i j:Int) (t u:Tok) (s:Shared) (Q:Value->Shared->Prop) (E:Value->Shared->Prop),C i j->Q (.int (g i j) s.toks) { s with toks:=s.toks+1 }->wpAny (model X.prog X.w) X.A (f (.int i t) (.int j u)) Q E s) :
  EG X f (rI C λi j=>.int (g i j)):=by
 intro pins s σ H x y v u Q I rx ry h
 obtain ⟨i,j,rfl,rfl,hc,q⟩:=h
 obtain ⟨t,rfl⟩:=rx
 obtain ⟨t',rfl⟩:=ry
 exact rule i j t t' s _ _ hc ⟨.int (g i j),H,I.tok _,⟨_,rfl⟩,q⟩
theorem gN {f:Value->Value->Sem Value}{g:Int->Int->Int}
  (rule:∀ (i j:Int) (t u:Tok) (s:Shared) (Q:Value->Shared->Prop) (E:Value->Shared->Prop),Q (.int (g i j) s.toks) { s with toks:=s.toks+1 }->wpAny (model X.prog X.w) X.A (f (.int i t) (.int j u)) Q E s) :
  EG X f (NW λi j=>.int (g i j)):=by
 intro pins s σ H x y v u Q I rx ry h
 obtain ⟨i,j,rfl,rfl,q⟩:=h
 obtain ⟨t,rfl⟩:=rx
 obtain ⟨t',rfl⟩:=ry
 exact rule i j t t' s _ _ ⟨.int (g i j),H,I.tok _,⟨_,rfl⟩,q⟩
theorem WA {f:Value->Value->Sem Value}{g:Int->Int->Bool}
  (rule:∀ (i j:Int) (t u:Tok) (s:Shared) (Q:Value->Shared->Prop) (E:Value->Shared->Prop),Q (.bool (g i j)) s->wpAny (model X.prog X.w) X.A (f (.int i t) (.int j u)) Q E s) :
  EG X f (NW λi j=>.bl (g i j)):=by
 intro pins s σ H x y v u Q I rx ry h
 obtain ⟨i,j,rfl,rfl,q⟩:=h
 obtain ⟨t,rfl⟩:=rx
 obtain ⟨t',rfl⟩:=ry
 exact rule i j t t' s _ _ ⟨.bl (g i j),H,I,rfl,q⟩
noncomputable def pZ (i j:Int):Prop:=0 < j/\j < 1073741824
noncomputable def q9 (i j:Int):Prop:=0<=j/\j<=1000000/\i.natAbs < 2 ^ 64
noncomputable def S1 (i j:Int):Prop:=(-(2 ^ 64) < i/\i < 2 ^ 64)\/(-(2 ^ 64) < j/\j < 2 ^ 64)
theorem S1.ok {i j:Int}(h:S1 i j):IntMulOk i j:=by
 rcases h with ⟨h1,h2⟩ | ⟨h1,h2⟩
 ·exact .of_left (intBits_le_64 h1 h2)
 ·exact .of_right (intBits_le_64 h1 h2)
theorem AZ:EG X (binaryOp .Add) (NW λi j=>.int (i+j)):=gN λ_ _ _ _ _ _ _ q=>add_int q
theorem Cu:EG X (binaryOp .Sub) (NW λi j=>.int (i - j)):=gN λ_ _ _ _ _ _ _ q=>sub_int q
theorem BE:EG X (binaryOp .Mult) (rI S1 λi j=>.int (i * j)):=ni λ_ _ _ _ _ _ _ hc q=>mul_int q hc.ok
theorem Ck:EG X (binaryOp .FloorDiv) (rI pZ λi j=>.int (i / j)):=ni λi j _ _ _ _ _ hc q=>by
 have h1:(0:Int) < j:=hc.1
 have h2:j < 1073741824:=hc.2
 exact floordiv_int () (by rw [Int.fdiv_eq_ediv_of_nonneg i ()];exact q) (.inl (PyProof.noPylong_small ()))
theorem Bc:EG X (binaryOp .Mod) (rI (λ_ j=>0 < j) λi j=>.int (i % j)):=ni λi j _ _ _ _ _ hc q=>by
 have h1:(0:Int) < j:=hc
 exact mod_int' () (by rw [Int.fmod_eq_emod_of_nonneg i ()];exact q)
theorem Pq:EG X (binaryOp .Pow) (rI q9 λi j=>.int (i ^ j.toNat)):=ni λ_ _ _ _ _ _ _ hc q=>pow_int_small hc.1 hc.2.1 hc.2.2 q
theorem unI {f:Value->Sem Value}{g:Int->Int}
  (rule:∀ (i:Int) (t:Tok) (s:Shared) (Q:Value->Shared->Prop) (E:Value->Shared->Prop),Q (.int (g i) s.toks) { s with toks:=s.toks+1 }->wpAny (model X.prog X.w) X.A (f (.int i t)) Q E s) :
  nh X f (rU λi=>.int (g i)):=by
 intro pins s σ H x v Q I rx h
 obtain ⟨i,rfl,q⟩:=h
 obtain ⟨t,rfl⟩:=rx
 exact rule i t s _ _ ⟨.int (g i),H,I.tok _,⟨_,rfl⟩,q⟩
theorem F5:nh X (unaryOp .USub) (rU λi=>.int (-i)):=unI λ_ _ _ _ _ q=>neg_int q
end
noncomputable def Pt:V->V->Bool
 | .non,.non=>true | .non,.int _=>true | .int _,.non=>true | .non,.bl _=>true | .bl _,.non=>true | .non,.str _=>true | .str _,.non=>true
 | .int _,.int _=>true | .bl _,.bl _=>true | .str _,.str _=>true | .byt _,.byt _=>true
 | .int _,.str _=>true | .str _,.int _=>true | .bl _,.str _=>true | .str _,.bl _=>true
 | _,_=>false
noncomputable def rEq:R2:=λx y H Q=>Pt x y=true/\Q (.bl (decide (x=y))) H
noncomputable def rNe:R2:=λx y H Q=>Pt x y=true/\Q (.bl (!decide (x=y))) H
theorem MF {i j:Int}:decide (V.int i=V.int j)=(i==j):=by
 rw [Bool.eq_iff_iff]
 simp
theorem Pu {i j:Bool}:decide (V.bl i=V.bl j)=(i==j):=by
 rw [Bool.eq_iff_iff]
 simp
theorem MG {i j:Str}:decide (V.str i=V.str j)=(i==j):=by
 rw [Bool.eq_iff_iff]
 simp
theorem MH {i j:Array UInt8}:decide (V.byt i=V.byt j)=(i.toList==j.toList):=by
 rw [Bool.eq_iff_iff]
 cases i
 cases j
 simp
section
variable {X:Cx}{a b c:Expr}{ta tb tc:TE}{pos:Pos}
theorem B8 {pins:List (Addr × Obj)}{σ:St}{H:Hp}{s:Shared}{Q:VK}{k k':Bool}(I:Inv X pins σ H s)(q:Q (.bl k) H)(e:k=k'):EP X pins σ Q (.bool k') s:=by
 subst e
 exact ⟨.bl k,H,I,rfl,q⟩
theorem AK:EG X (compareOp .Eq) rEq:=by
 intro pins s σ H x y v u Q I rx ry h
 obtain ⟨hs,q⟩:=h
 cases x with
 | non =>
  cases rx
  cases y with
  | non=>cases ry;exact PySem.EqNone.eq_none_none (B8 I q (by simp))
  | bl j=>cases ry;exact PySem.EqNone.eq_none_bool (B8 I q (by simp))
  | int j=>obtain ⟨t',rfl⟩:=ry;exact PySem.EqNone.eq_none_int (B8 I q (by simp))
  | str j=>obtain ⟨t',rfl⟩:=ry;exact PySem.EqNone.eq_none_str (B8 I q (by simp))
  | _=>exact absurd (show false=true from hs) Bool.false_ne_true
 | bl i =>
  cases rx
  cases y with
  | non=>cases ry;exact PySem.EqNone.eq_bool_none (B8 I q (by simp))
  | bl j=>cases ry;exact eq_bool (B8 I q Pu)
  | str j=>obtain ⟨t',rfl⟩:=ry;exact PySem.EqMixed.eq_bool_str (B8 I q (by simp))
  | _=>exact absurd (show false=true from hs) Bool.false_ne_true
 | int i =>
  obtain ⟨t,rfl⟩:=rx
  cases y with
  | non=>cases ry;exact PySem.EqNone.eq_int_none (B8 I q (by simp))
  | int j=>obtain ⟨t',rfl⟩:=ry;exact eq_int (B8 I q MF)
  | str j=>obtain ⟨t',rfl⟩:=ry;exact PySem.EqMixed.eq_int_str (B8 I q (by simp))
  | _=>exact absurd (show false=true from hs) Bool.false_ne_true
 | str i =>
  obtain ⟨t,rfl⟩:=rx
  cases y with
  | non=>cases ry;exact PySem.EqNone.eq_str_none (B8 I q (by simp))
  | bl j=>cases ry;exact PySem.EqMixed.eq_str_bool (B8 I q (by simp))
  | int j=>obtain ⟨t',rfl⟩:=ry;exact PySem.EqMixed.eq_str_int (B8 I q (by simp))
  | str j=>obtain ⟨t',rfl⟩:=ry;exact eq_str (B8 I q MG)
  | _=>exact absurd (show false=true from hs) Bool.false_ne_true
 | byt i =>
  obtain ⟨t,rfl⟩:=rx
  cases y with
  | byt j=>obtain ⟨t',rfl⟩:=ry;exact W.eq_bytes (B8 I q MH)
  | _=>exact absurd (show false=true from hs) Bool.false_ne_true
 | _=>cases y <;> exact absurd (show false=true from hs) Bool.false_ne_true
theorem Pw:EG X (compareOp .NotEq) rNe:=by
 intro pins s σ H x y v u Q I rx ry h
 obtain ⟨hs,q⟩:=h
 cases x with
 | non =>
  cases rx
  cases y with
  | non=>cases ry;exact PySem.EqNone.ne_none_none (B8 I q (by simp))
  | bl j=>cases ry;exact PySem.EqNone.ne_none_bool (B8 I q (by simp))
  | int j=>obtain ⟨t',rfl⟩:=ry;exact PySem.EqNone.ne_none_int (B8 I q (by simp))
  | str j=>obtain ⟨t',rfl⟩:=ry;exact PySem.EqNone.ne_none_str (B8 I q (by simp))
  | _=>exact absurd (show false=true from hs) Bool.false_ne_true
 | bl i =>
  cases rx
  cases y with
  | non=>cases ry;exact PySem.EqNone.ne_bool_none (B8 I q (by simp))
  | bl j=>cases ry;exact ne_bool (B8 I q (congrArg not Pu))
  | str j=>obtain ⟨t',rfl⟩:=ry;exact PySem.EqMixed.ne_bool_str (B8 I q (by simp))
  | _=>exact absurd (show false=true from hs) Bool.false_ne_true
 | int i =>
  obtain ⟨t,rfl⟩:=rx
  cases y with
  | non=>cases ry;exact PySem.EqNone.ne_int_none (B8 I q (by simp))
  | int j=>obtain ⟨t',rfl⟩:=ry;exact ne_int (B8 I q (congrArg not MF))
  | str j=>obtain ⟨t',rfl⟩:=ry;exact PySem.EqMixed.ne_int_str (B8 I q (by simp))
  | _=>exact absurd (show false=true from hs) Bool.false_ne_true
 | str i =>
  obtain ⟨t,rfl⟩:=rx
  cases y with
  | non=>cases ry;exact PySem.EqNone.ne_str_none (B8 I q (by simp))
  | bl j=>cases ry;exact PySem.EqMixed.ne_str_bool (B8 I q (by simp))
  | int j=>obtain ⟨t',rfl⟩:=ry;exact PySem.EqMixed.ne_str_int (B8 I q (by simp))
  | str j=>obtain ⟨t',rfl⟩:=ry;exact ne_str (B8 I q (congrArg not MG))
  | _=>exact absurd (show false=true from hs) Bool.false_ne_true
 | byt i =>
  obtain ⟨t,rfl⟩:=rx
  cases y with
  | byt j=>obtain ⟨t',rfl⟩:=ry;exact W.ne_bytes (B8 I q (congrArg not MH))
  | _=>exact absurd (show false=true from hs) Bool.false_ne_true
 | _=>cases y <;> exact absurd (show false=true from hs) Bool.false_ne_true
theorem Gf:EG X (compareOp .Lt) (NW λi j=>.bl (decide (i < j))):=WA λ_ _ _ _ _ _ _ q=>lt_int q
theorem Ia:EG X (compareOp .Gt) (NW λi j=>.bl (decide (j < i))):=WA λ_ _ _ _ _ _ _ q=>gt_int q
theorem Px:EG X (compareOp .GtE) (NW λi j=>.bl (decide (j<=i))):=WA λ_ _ _ _ _ _ _ q=>ge_int q
theorem Ls:EG X (compareOp .Is) (λx y H Q=>y=.non/\Q (.bl (decide (x=.non))) H):=by
 intro pins s σ H x y v u Q I rx ry h
 obtain ⟨rfl,q⟩:=h
 cases ry
 refine is_none_gen (B8 I q ?_)
 cases x <;> first
  | (cases rx;rfl)
  | (obtain ⟨t,rfl⟩:=rx;rfl)
theorem EG.or {f:Value->Value->Sem Value}{r r':R2}(h:EG X f r)(h':EG X f r'):EG X f (λx y H Q=>r x y H Q\/r' x y H Q):=by
 intro pins s σ H x y v u Q I rx ry q
 rcases q with q | q
 ·exact h pins s σ H x y v u Q I rx ry q
 ·exact h' pins s σ H x y v u Q I rx ry q
theorem Am (b:Expr){op:CmpOp}(h:op≠.In:=by decide)(h2:op≠.NotIn:=by decide):behindInMarks op b=false:=by
 have e1:(op==CmpOp.In)=false:=by cases op <;> first | rfl | exact absurd rfl h
 have e2:(op==CmpOp.NotIn)=false:=by cases op <;> first | rfl | exact absurd rfl h2
 cases b <;> simp [behindInMarks,e1,e2]
theorem S3 {op:CmpOp}{r:R2}(ho:EG X (compareOp op) r)(ha:PE X a ta)(hb:PE X b tb)(hm:behindInMarks op b=false):PE X (.Compare a [op] [b] pos) (Fl r ta tb):=by
 intro pins s σ H Q I h
 exact wpAny_Compare1 (Wz ha hb I h λv u s2 x y H2 I2 rx ry q=>ho pins s2 σ H2 x y v u Q I2 rx ry q) hm
noncomputable def JN (t:TE):TT:=fun σ H Q=>t σ H λx H'=>fB Q x H'
theorem S4 {op:CmpOp}{r:R2}(ho:EG X (compareOp op) r)(ha:PE X a ta)(hb:PE X b tb)(hm:behindInMarks op b=false):PT X (.Compare a [op] [b] pos) (JN (Fl r ta tb)):=by
 intro pins s σ H Q I h
 refine wpAny_isTrue_Compare1 (BD (ha pins s σ H _ I h) λv s1 ⟨x,H1,I1,r1,q1⟩=>BD (hb pins s1 σ H1 _ I1 q1) λu s2 ⟨y,H2,I2,r2,q2⟩ =>
  BD (ho pins s2 σ H2 x y v u _ I2 r1 r2 q2) λc s3 ⟨z,H3,I3,r3,k,e,q3⟩=>?_) hm
 subst e
 cases r3
 exact wpAny_truthy_bool ⟨H3,I3,q3⟩
noncomputable def WB (K:W.Frag)(x:V)(H:Hp)(k:Bool):Prop :=
 match x with
 | .non=>k=false
 | .bl b=>k=b
 | .int i=>k=(i != 0)
 | .str y=>y.length<=sizeLine/\k=((y.length:Int) != 0)
 | .byt y=>y.size<=sizeLine/\k=((y.size:Int) != 0)
 | .ref p=>(∃ xs,B3 K H p xs/\k=!xs.isEmpty)\/(∃ xs,Av K H p xs/\k=!xs.isEmpty)\/∃ AI,H p=some (.dK AI)/\k=!AI.isEmpty
 | _=>False
theorem Lu {κ:Type}{AI:List (κ × V)}{vs:List (κ × Value)}(r:KV AI vs):(!vs.isEmpty)=!AI.isEmpty:=by
 cases r <;> rfl
theorem GS {xs:List V}{its:List Value}(r:Vals xs its):(!its.toArray.isEmpty)=!xs.isEmpty:=by
 cases r <;> simp
theorem IV:(sizeLine:Nat) < 2 ^ 63:=by rw [sizeLine_eq];decide
theorem WC:pX X (λx H Q=>∃ k,WB X.K x H k/\Q k H):=by
 intro pins s σ H x v Q I rx h
 obtain ⟨k,e,q⟩:=h
 have hl:=IV
 have hs:sizeLine=16777216:=sizeLine_eq
 cases x with
 | non =>
  cases rx
  have e':k=false:=e
  subst e'
  exact truthy_none ⟨H,I,q⟩
 | bl b =>
  cases rx
  have e':k=b:=e
  subst e'
  exact wpAny_truthy_bool ⟨H,I,q⟩
 | int i =>
  obtain ⟨t,rfl⟩:=rx
  have e':k=(i != 0):=e
  subst e'
  exact PySem.P.truthy_int ⟨H,I,q⟩
 | str y =>
  obtain ⟨t,rfl⟩:=rx
  obtain ⟨hy,e'⟩:y.length<=sizeLine/\k=((y.length:Int) != 0):=e
  subst e'
  exact PySem.P.truthy_str () ⟨H,I.tok _,q⟩
 | byt y =>
  obtain ⟨t,rfl⟩:=rx
  obtain ⟨hy,e'⟩:y.size<=sizeLine/\k=((y.size:Int) != 0):=e
  subst e'
  exact W.truthy_bytes () ⟨H,I.tok _,q⟩
 | ref p =>
  cases rx
  have e':(∃ xs,B3 X.K H p xs/\k=!xs.isEmpty)\/(∃ xs,Av X.K H p xs/\k=!xs.isEmpty)\/∃ AI,H p=some (.dK AI)/\k=!AI.isEmpty:=e
  rcases e' with ⟨xs,hx,e'⟩ | ⟨xs,hx,e'⟩ | ⟨AI,hx,e'⟩
  ·subst e'
   obtain ⟨its,r,pl,hz⟩:=I.list hx
   have hlen:=r.length
   exact wpAny_truthy_list pl.isList (by simp only [List.size_toArray];omega) ⟨H,I.tok _,by rw [GS r];exact q⟩
  ·subst e'
   obtain ⟨its,r,pl,hz⟩:=I.tuple hx
   have hlen:=r.length
   exact truthy_tuple pl (by simp only [List.size_toArray];omega) ⟨H,I.tok _,by rw [GS r];exact q⟩
  ·subst e'
   obtain ⟨hz,hS,vs,r,m⟩:AI.length<=sizeLine/\(p==sysModules)=false/\∃ vs,KV AI vs/\s.heap.DictOf (Bm X.prog X.w) p vs:=I.hok p _ hx
   have hlen:AI.length=vs.length:=Paired.length r
   exact wpAny_truthy_dict hS m () ⟨H,I.tok _,by rw [Lu r];exact q⟩
 | _=>exact (show False from e).elim
theorem JO (ha:PE X a ta)(he:∀ whole,isTrue a X.env whole=(do let v <- whole;standAt a.pos;holding [v] (truthy v))):
  PT X a (fun σ H Q=>ta σ H λx H'=>∃ k,WB X.K x H' k/\Q k H'):=by
 intro pins s σ H Q I h
 exact isTrue_plain (BD (ha pins s σ H _ I h) λv s1 ⟨x,H1,I1,r1,q1⟩=>WC pins s1 σ H1 x v Q I1 r1 q1) (he _)
theorem vals1 {x:V}{us:List Value}(r:Vals [x] us):∃ u,us=[u]/\RelV x u:=by
 cases r with
 | cons r1 r2=>cases r2;exact ⟨_,rfl,r1⟩
theorem vals2 {x y:V}{us:List Value}(r:Vals [x,y] us):∃ u w',us=[u,w']/\RelV x u/\RelV y w':=by
 cases r with
 | cons r1 r2 =>
  cases r2 with
  | cons r3 r4=>cases r4;exact ⟨_,_,rfl,r1,r3⟩
theorem Ib (hc:X.calm=true):Ds X (.builtin "max") (λxs H Q=>∃ i j,xs=[.int i,.int j]/\Q (.int (if j > i then j else i)) H):=by
 intro pins s σ H xs us Q I r h
 obtain ⟨i,j,rfl,q⟩:=h
 obtain ⟨u,w',rfl,⟨t,rfl⟩,⟨t',rfl⟩⟩:=vals2 r
 refine max_two_ints (I.ok.hd hc) λh' tk k=>⟨_,H,I.kept k,?_,q⟩
 by_cases hj:j > i
 ·rw [if_pos hj,if_pos hj];exact ⟨_,rfl⟩
 ·rw [if_neg hj,if_neg hj];exact ⟨_,rfl⟩
theorem NX (hc:X.calm=true):Ds X (.builtin "min") (λxs H Q=>∃ i j,xs=[.int i,.int j]/\Q (.int (if j < i then j else i)) H):=by
 intro pins s σ H xs us Q I r h
 obtain ⟨i,j,rfl,q⟩:=h
 obtain ⟨u,w',rfl,⟨t,rfl⟩,⟨t',rfl⟩⟩:=vals2 r
 refine min_two_ints (I.ok.hd hc) λh' tk k=>⟨_,H,I.kept k,?_,q⟩
 by_cases hj:j < i
 ·rw [if_pos hj,if_pos hj];exact ⟨_,rfl⟩
 ·rw [if_neg hj,if_neg hj];exact ⟨_,rfl⟩
theorem DO:Ds X (.type "int") (λxs H Q=>(∃ i,xs=[.int i]/\Q (.int i) H)\/∃ k,xs=[.bl k]/\Q (.int (if k then 1 else 0)) H):=by
 intro pins s σ H xs us Q I r h
 rcases h with ⟨i,rfl,q⟩ | ⟨k,rfl,q⟩
 ·obtain ⟨u,rfl,t,rfl⟩:=vals1 r
  exact call_int_int ⟨.int i,H,I,⟨_,rfl⟩,q⟩
 ·obtain ⟨u,rfl,r1⟩:=vals1 r
  cases r1
  exact call_int_bool ⟨.int (if k then 1 else 0),H,I.tok _,⟨_,rfl⟩,q⟩
end
structure NY (h:Heap)(x dx C:Addr)(mA:Str->Option Value):Prop where
 obj:h.get? x=some (W.instObj C dx)
 ns:h.Ns1 dx mA
 ne:dx≠x
theorem NZ {h:Heap}{dx:Addr}{mA:Str->Option Value}(n:h.Ns1 dx mA):∃ od,h.get? dx=some od/\∀ name,W.lookIn name od=some (mA name):=by
 obtain ⟨o,es,ep,ho,hd,hk,_,hm⟩:=n
 refine ⟨o,ho,λname=>?_⟩
 have e:=hm name
 unfold nsFind findBy at e
 rw [<- Array.find?_toList] at e
 unfold W.lookIn
 rw [hd]
 dsimp only
 split
 ·rename_i y q
  rw [q] at e
  exact congrArg some e
 ·rename_i q
  rw [q] at e
  have a:es.toList.any (·.refKey)=false:=by
   rw [List.any_eq_false]
   intro y hy
   obtain ⟨z,t,S5⟩:=hk y (Array.mem_toList_iff.mp hy)
   simp [DictEntry.refKey,S5]
  have a':¬ es.toList.any (·.refKey)=true:=by rw [a];exact Bool.false_ne_true
  rw [if_neg a']
  exact congrArg some e
theorem NY.look {h:Heap}{x dx C:Addr}{mA:Str->Option Value}(I:NY h x dx C mA):∃ od,W.InstAt h x (W.instObj C dx) C (some od)/\∀ name,W.lookIn name od=some (mA name) :=
 let ⟨od,ho,hl⟩:=NZ I.ns
 ⟨od,⟨I.obj,rfl,rfl,ho⟩,hl⟩
section
variable {prog:Program}{w:World}{A:Around}{E:Value->Shared->Prop}{s:Shared}{K:W.Frag}{x dx C f:Addr}{mA:Str->Option Value}{name:Str}{v:Value}
theorem get_map {expr:Bool}{Q:Value->Shared->Prop}(X:K.In s.heap)(I:NY s.heap x dx C mA)(hg:W.plainGet K C name=true)(hh:W.hasDictIn K C=true)
  (ha:W.findIn K (.ref C) name=some none) (hv:mA name=some v) (S6:W.handedIn v=true) (h:Q v { s with toks:=s.toks+1 }) :
  wpAny (model prog w) A (getAttr (.ref x) name expr) Q E s:=by
 obtain ⟨od,J,hl⟩:=I.look
 exact W.get_value X J (W.plainGet_of hg).1 (W.findObj_own hh ha rfl (by rw [hl,hv])) S6 h
theorem S7 {ns:List Str}{Q:Unit->Shared->Prop}(X:K.In s.heap)(I:NY s.heap x dx C mA)
  (hs:W.findIn K (.ref C) "__setattr__"=some (some (.builtin "object.__setattr__"))) (hp:W.plainOver K C=true) (ht:W.takerIn K C name=some none) (hh:W.hasDictIn K C=true)
  (hw:PySem.Within mA ns) (hsz:ns.length<=sizeLine)
  (h:∀ h',NY h' x dx C (λy=>if y=name then some v else mA y)->Heap.SameBut dx s.heap h'->Q .unit { s with heap:=h',toks:=s.toks+2 }) :
  wpAny (model prog w) A (setAttr (.ref x) name v) Q E s:=by
 obtain ⟨od,J,hl⟩:=I.look
 refine W.set_plain X J hs (W.osa_open (s:={ s with toks:=s.toks+1 }) (r:=none) X J hp ht λb=>?_)
 obtain ⟨cd,hc,IP⟩:=W.any_some hh
 have hx:s.heap.get? x=some ⟨.ref C,some dx,.plain,#[]⟩:=I.obj
 refine wpAny_bind (wpAny_pure (wpAny_bind (wpAny_bind (wpAny_loadPart hx (wpAny_bind (W.Looks.here (s:={ s with toks:=s.toks+1 }) (W.looks_clsIn X hc) ?_))))))
 rw [IP]
 refine wpAny_pure (a:=some dx) (wpAny_bind (wpAny_pure (wpAny_bind ?_)))
 refine wpAny_nsSet1 (s:={ s with toks:=s.toks+1 }) I.ns λh' nj Po=>?_
 obtain ⟨oD,esD,epD,hoD,hdD,hcD⟩:=nj.count (PySem.Within.cons name v hw)
 refine wpAny_bind (wpAny_lookBehind hoD (by rw [hdD];exact pastItsLine_dict (Nat.le_trans hcD (by rw [List.length_cons];omega))) ?_)
 exact wpAny_pure (h _ ⟨(Po.2 _ (Ne.symm I.ne)).trans I.obj,nj,I.ne⟩ Po)
theorem Py {R:Result->Shared->Prop}{vs:List Value}{kw:List (Str × Value)}(X:K.In s.heap)(hm:W.makesIn K C=true)
  (hi:W.findIn K (.ref C) "__init__"=some (some (.ref f))) (hf:W.typeIn K (.ref f)=some (.type "function"))
  (h:codeAny (model prog w) (A.under (.builtin "type.__call__" ⟨.ref C::vs,kw⟩)) (.call (.ref f) ⟨.ref (s.heap.objs.size+1)::vs,kw⟩) (W.InitBack (s.heap.objs.size+1) R)
   { s with heap:=(s.heap.push W.emptyDict).push (W.instObj C s.heap.objs.size) }) :
  codeAny (model prog w) A (.call (.ref C) ⟨vs,kw⟩) R s:=by
 obtain ⟨hh,g,d,t,os⟩:=s
 exact W.make_core (W.makes_of X hm) (W.looks_findIn X hi) (λself=>W.bind_fn X self hf) (.inl rfl) h
end
noncomputable def Eg (f:Str)(v:V):List (Str × V)->List (Str × V)
 | []=>[(f,v)]
 | (g,x)::r=>if g=f then (g,v)::r else (g,x)::Eg f v r
theorem Gg (f g:Str)(v:V):∀ fs:List (Str × V),(Eg f v fs).lookup g=if g=f then some v else fs.lookup g
 | []=>by
  show List.lookup g [(f,v)]=_
  by_cases h:g=f
  ·have hb:(g==f)=true:=beq_iff_eq.mpr h
   simp only [List.lookup,hb,if_pos h]
  ·have hb:(g==f)=false:=beq_eq_false_iff_ne.mpr h
   simp only [List.lookup,hb,if_neg h]
 | (k,x)::r=>by
  have ih:=Gg f g v r
  rw [show Eg f v ((k,x)::r)=(if k=f then (k,v)::r else (k,x)::Eg f v r) from rfl]
  by_cases hk:k=f
  ·rw [if_pos hk]
   by_cases h:g=k
   ·have hb:(g==k)=true:=beq_iff_eq.mpr h
    simp only [List.lookup,hb,if_pos (h.trans hk)]
   ·have hb:(g==k)=false:=beq_eq_false_iff_ne.mpr h
    simp only [List.lookup,hb,if_neg (λe:g=f=>h (e.trans hk.symm))]
  ·rw [if_neg hk]
   by_cases h:g=k
   ·have hb:(g==k)=true:=beq_iff_eq.mpr h
    simp only [List.lookup,hb,if_neg (λe:g=f=>hk (h.symm.trans e))]
   ·have hb:(g==k)=false:=beq_eq_false_iff_ne.mpr h
    simp only [List.lookup,hb]
    exact ih
theorem FU (f:Str)(v:V):∀ fs:List (Str × V),f∈(Eg f v fs).map (·.1)/\∀ g,g∈fs.map (·.1)->g∈(Eg f v fs).map (·.1)
 | []=>⟨by simp [Eg],λg h=>by simp at h⟩
 | (k,x)::r=>by
  obtain ⟨i1,i2⟩:=FU f v r
  rw [show Eg f v ((k,x)::r)=(if k=f then (k,v)::r else (k,x)::Eg f v r) from rfl]
  by_cases hk:k=f
  ·rw [if_pos hk]
   subst hk
   exact ⟨by simp,λg h=>by simpa using h⟩
  ·rw [if_neg hk]
   refine ⟨?_,λg h=>?_⟩
   ·rw [List.map_cons]
    exact List.mem_cons_of_mem _ i1
   ·rw [List.map_cons] at h ⊢
    rcases List.mem_cons.mp h with e | e
    ·exact List.mem_cons.mpr (.inl e)
    ·exact List.mem_cons_of_mem _ (i2 g e)
theorem Gh (f:Str)(v:V):∀ fs:List (Str × V),(Eg f v fs).length<=fs.length+1
 | []=>by simp [Eg]
 | (k,x)::r=>by
  have ih:=Gh f v r
  rw [show Eg f v ((k,x)::r)=(if k=f then (k,v)::r else (k,x)::Eg f v r) from rfl]
  by_cases hk:k=f
  ·rw [if_pos hk,List.length_cons,List.length_cons];omega
  ·rw [if_neg hk,List.length_cons,List.length_cons];omega
theorem F4.some_of {v:V}{o:Option Value}(r:F4 (some v) o):∃ u,o=some u/\RelV v u:=by
 cases o with
 | none=>exact (show False from r).elim
 | some u=>exact ⟨u,rfl,r⟩
theorem N' {v:V}{u:Value}(r:RelV v u):W.handedIn u=true:=by
 cases v with
 | non=>cases (show u=Value.none from r);rfl
 | bl b=>cases (show u=Value.bool b from r);rfl
 | int i=>obtain ⟨t,e⟩:=(show ∃ t,u=Value.int i t from r);cases e;rfl
 | str x=>obtain ⟨t,e⟩:=(show ∃ t,u=Value.str x t from r);cases e;rfl
 | byt b=>obtain ⟨t,e⟩:=(show ∃ t,u=Value.bytes b t from r);cases e;rfl
 | flt b=>obtain ⟨t,e⟩:=(show ∃ t,u=Value.float b t from r);cases e;rfl
 | ref a=>cases (show u=Value.ref a from r);rfl
 | ty n=>cases (show u=Value.type n from r);rfl
section
variable {P:Program}{w:World}{H H':Hp}{h h':Heap}{a C dx:Addr}{fs OZ:List (Str × V)}
theorem IW (hok:D' P w H h)(e:H a=some (.ins C dx fs)):∃ mA,NY h a dx C mA/\(∀ f,F4 (fs.lookup f) (mA f))/\PySem.Within mA (fs.map (·.1))/\fs.length<=1000/\H dx=some (.own a):=by
 obtain ⟨d,z,ne,ob,mA,n,r,q⟩:=(show Br P w H h a (.ins C dx fs) from hok a _ e)
 exact ⟨mA,⟨ob,n,ne⟩,r,q,z,d⟩
end
structure V6 (K:W.Frag)(C:Addr):Prop where
 pg:W.plainGet K C Str.empty=true
 hd:W.hasDictIn K C=true
 po:W.plainOver K C=true
 sa:W.findIn K (.ref C) "__setattr__"=some (some (.builtin "object.__setattr__"))
theorem V6.get {K:W.Frag}{C:Addr}(c:V6 K C)(f:Str):W.plainGet K C f=true:=c.pg
noncomputable def E3 (K:W.Frag)(C:Addr)(f:Str):Prop:=W.findIn K (.ref C) f=some none
theorem E3.taker {K:W.Frag}{C:Addr}{f:Str}(n:E3 K C f):W.takerIn K C f=some none:=by
 unfold W.takerIn
 rw [show W.findIn K (.ref C) f=some none from n]
 rfl
structure Meth (K:W.Frag)(C:Addr)(m:Str)(f:Addr):Prop where
 at_:W.findIn K (.ref C) m=some (some (.ref f))
 fn:W.isFn K (.ref f)=true
 kp:W.keepIn K (.ref f)=true
section
variable {X:Cx}{pins:List (Addr × Obj)}{σ:St}{H:Hp}{s:Shared}{a C dx:Addr}{fs:List (Str × V)}{f:Str}{v:V}{A:Around}{E:Value->Shared->Prop}
theorem Lv {b:Bool}{Q:Value->Shared->Prop}(I:Inv X pins σ H s)(e:H a=some (.ins C dx fs))(c:V6 X.K C)(n:E3 X.K C f)(l:fs.lookup f=some v)
  (h:∀ u s',Inv X pins σ H s'->RelV v u->Q u s'):wpAny (model X.prog X.w) A (getAttr (.ref a) f b) Q E s:=by
 obtain ⟨mA,O,r,_,_,_⟩:=IW I.hok e
 obtain ⟨u,hu,ru⟩:=F4.some_of (v:=v) (o:=mA f) (by rw [<- l];exact r f)
 exact get_map I.kIn O (c.get f) c.hd n hu (N' ru) (h u _ (I.tok _) ru)
theorem Lw {y:V}{u:Value}{Q:Unit->Shared->Prop}(I:Inv X pins σ H s)(e:H a=some (.ins C dx fs))(c:V6 X.K C)(n:E3 X.K C f)(hl:fs.length < 1000)(ry:RelV y u)
  (h:∀ s',Inv X pins σ (upd H a (.ins C dx (Eg f y fs))) s'->Q .unit s'):wpAny (model X.prog X.w) A (setAttr (.ref a) f u) Q E s:=by
 obtain ⟨mA,O,r,wi,_,ho⟩:=IW I.hok e
 have hz:(fs.map (·.1)).length<=sizeLine:=by rw [List.length_map,sizeLine_eq];omega
 refine S7 I.kIn O c.sa c.po n.taker c.hd wi hz λh' O' sb=>h _ ?_
 have hd:∃ o,h'.get? dx=some o:=let ⟨o,_,_,e',_⟩:=O'.ns;⟨o,e'⟩
 refine I.write (x:=a) (e:=dx) (by rw [e];exact True.intro) (.inr ho) (λb q hb z=>(sb.2 b hb).trans z) hd ?_
 refine ⟨by rw [AQ O.ne];exact ho,?_,O.ne,O'.obj,_,O'.ns,λg=>?_,λg hg=>?_⟩
 ·have:=Gh f y fs;omega
 ·show F4 ((Eg f y fs).lookup g) (if g=f then some u else mA g)
  rw [Gg]
  by_cases q:g=f
  ·rw [if_pos q,if_pos q];exact ry
  ·rw [if_neg q,if_neg q];exact r g
 ·by_cases q:g=f
  ·rw [q];exact (FU f y fs).1
  ·refine (FU f y fs).2 g (wi g λz=>hg ?_)
   show (if g=f then some u else mA g)=none
   rw [if_neg q];exact z
theorem Inv.made (I:Inv X pins σ H s):Inv X pins σ (upd (upd H s.heap.objs.size (.own (s.heap.objs.size+1))) (s.heap.objs.size+1) (.ins C s.heap.objs.size []))
  { s with heap:=(s.heap.push W.emptyDict).push (W.instObj C s.heap.objs.size) }:=by
 have e1:(s.heap.push W.emptyDict).get? s.heap.objs.size=some W.emptyDict:=Heap.get?_push_size s.heap rfl
 have e2:((s.heap.push W.emptyDict).push (W.instObj C s.heap.objs.size)).get? (s.heap.objs.size+1)=some (W.instObj C s.heap.objs.size):=by
  have:=Heap.get?_push_size (s.heap.push W.emptyDict) (o:=W.instObj C s.heap.objs.size) rfl
  rwa [Heap.size_push] at this
 have e3:(s.heap.push W.emptyDict).Ns s.heap.objs.size (λ_=>none):=⟨W.emptyDict,#[],_,e1,rfl,(λe he=>absurd he (by simp)),λ_=>rfl⟩
 have I1:=I.laid (a:=s.heap.objs.size) (o:=.own (s.heap.objs.size+1)) (h':=s.heap.push W.emptyDict) (t':=s.toks) (λb u q=>Heap.get?_push_of_some _ q) (Nat.le_refl _) ⟨_,e1⟩
 refine I1.laid (a:=s.heap.objs.size+1) (o:=.ins C s.heap.objs.size []) (t':=s.toks) (λb u q=>Heap.get?_push_of_some _ q) (Nat.le_of_eq (Heap.size_push _ _)) ?_
 have ne:s.heap.objs.size≠s.heap.objs.size+1:=Nat.ne_of_lt (Nat.lt_succ_self _)
 refine ⟨by rw [AQ ne,AG],Nat.zero_le _,ne,e2,λ_=>none,(Heap.Ns1.of_empty e3).at λo q=>Heap.get?_push_of_some _ q,λ_=>True.intro,λy hy=>absurd rfl hy⟩
theorem S8 {prog:Program}{w:World}{env:Env}{e:Expr}{f:Str}{pos:Pos}{s:Shared}{Q:Value->Shared->Prop}(hb:attributeBase e f env (eval e env)=eval e env)
  (h:wpAny (model prog w) A (eval e env) (λo s₁=>wpAny (model prog w) A (getAttr o f true) Q E s₁) E s):wpAny (model prog w) A (eval (.Attribute e f pos) env) Q E s :=
 Attribute_any_ h (by rw [arm_eval_Attribute,hb])
end
inductive Pz (K:W.Frag)(f:Str)(Q:VK)(x:V)(H1:Hp):Prop
 | mk (a:_) (C:_) (dx:_) (fs:_) (v:_) (h1:x=.ref a) (h2:H1 a=some (.ins C dx fs)) (h3:V6 K C) (h4:E3 K C f) (h5:fs.lookup f=some v) (h6:Q v H1):Pz K f Q x H1
noncomputable def WD (K:W.Frag)(ta:TE)(f:Str):TE:=fun σ H Q=>ta σ H λx H1=>Pz K f Q x H1
inductive MI (K:W.Frag)(f:Str)(N:St->Hp->Prop)(σ:St)(y:V)(x:V)(H2:Hp):Prop
 | mk (a:_) (C:_) (dx:_) (fs:_) (h1:x=.ref a) (h2:H2 a=some (.ins C dx fs)) (h3:V6 K C) (h4:E3 K C f) (h5:fs.length < 1000) (h6:N σ (upd H2 a (.ins C dx (Eg f y fs)))):MI K f N σ y x H2
noncomputable def S9 (K:W.Frag)(ta tv:TE)(f:Str):TS:=λD σ H=>tv σ H λy H1=>ta σ H1 λx H2=>MI K f D.nx σ y x H2
section
variable {X:Cx}{o e value:Expr}{f:Str}{pos pos' gO:Pos}{ta tv:TE}
theorem WE (he:PE X e ta)(hb:attributeBase e f X.env (eval e X.env)=eval e X.env):PE X (.Attribute e f pos) (WD X.K ta f):=by
 intro pins s σ H Q I h
 refine S8 hb (BD (he pins s σ H _ I h) λu s1 ⟨x,H1,I1,rx,a,C,dx,fs,v,ex,ea,c,n,l,q⟩=>?_)
 subst ex
 obtain rfl:u=Value.ref a:=rx
 exact Lv I1 ea c n l λu' s2 I2 ru=>⟨v,H1,I2,ru,q⟩
theorem WG (ha:PE X o ta)(hv:PE X value tv)(hs:swapsWith value (some (.Attribute o f pos')) pos.line X.env=pure false):PS X (.Assign [.Attribute o f pos'] value pos) (S9 X.K ta tv f):=by
 intro pins s σ H D I h
 refine plainObj_wpAny_Assign_Attribute (BD (hv pins s σ H _ I h) λu s1 ⟨y,H1,I1,ry,q⟩=>BD (ha pins s1 σ H1 _ I1 q) λov s2 ⟨x,H2,I2,rx,a,C,dx,fs,ex,ea,c,n,l,q2⟩=>?_) hs
 subst ex
 obtain rfl:ov=Value.ref a:=rx
 exact Lw I2 ea c n l ry λs3 I3=>⟨σ,_,I3,q2⟩
end
section
variable {X:Cx}{pins:List (Addr × Obj)}{σ:St}{H:Hp}{s:Shared}{A:Around}{E:Value->Shared->Prop}{Q:Value->Shared->Prop}{c:Value}{b:Bool}
inductive C6 (K:W.Frag)(H:Hp):V->Value->Prop where
 | non:C6 K H .non (.type "NoneType")
 | bl (x:Bool):C6 K H (.bl x) (.type "bool")
 | int (i:Int):C6 K H (.int i) (.type "int")
 | str (x:Str):C6 K H (.str x) (.type "str")
 | flt (x:UInt64):C6 K H (.flt x) (.type "float")
 | lst {a:Addr} {xs:List V} (e:H a=some (.lst xs)):C6 K H (.ref a) (.type "list")
 | frz {a:Addr} {o:Obj} {xs:List V} (e:H a=some (.frz o (.lst xs))):C6 K H (.ref a) (.type "list")
 | tup {a:Addr} {xs:List V} (e:H a=some (.tup xs)):C6 K H (.ref a) (.type "tuple")
 | dK {a:Addr} {AI:List (Key × V)} (e:H a=some (.dK AI)):C6 K H (.ref a) (.type "dict")
 | dT {a:Addr} {AI:List (List Key × V)} (e:H a=some (.dT AI)):C6 K H (.ref a) (.type "dict")
 | ins {a C dx:Addr} {fs:List (Str × V)} (e:H a=some (.ins C dx fs)) (cl:V6 K C) (ha:W.findIn K (.ref C) "__class__"=some (some (.builtin "object.__class__")))
   (hn:W.specialIn K (.builtin "object.__class__") "__get__"=some (some (.builtin "getset_descriptor.__get__"))) (P0:W.takesIn K (.builtin "object.__class__")=some true)
   (hm:W.mroIn K C (.type "object")=some true):C6 K H (.ref a) (.ref C)
theorem O0 {x:V}{u t:Value}(I:Inv X pins σ H s)(rx:RelV x u)(ty:C6 X.K H x t)(e:W.kitOne X.K t c=some b)(h:∀ tk,Q (.bool b) { s with toks:=tk }):
  wpAny (model X.prog X.w) A (call (.builtin "isinstance") [u,c]) Q E s:=by
 cases ty with
 | non=>cases (show u=Value.none from rx);exact W.kia_one W.kitx_none I.kIn True.intro e (λz=>nomatch z) h
 | bl y=>cases (show u=Value.bool y from rx);exact W.kia_one W.kitx_bool I.kIn True.intro e (λz=>nomatch z) h
 | int i=>obtain ⟨t,q⟩:=(show ∃ t,u=Value.int i t from rx);cases q;exact W.kia_one W.kitx_int I.kIn True.intro e (λz=>nomatch z) h
 | str y=>obtain ⟨t,q⟩:=(show ∃ t,u=Value.str y t from rx);cases q;exact W.kia_one W.kitx_str I.kIn True.intro e (λz=>nomatch z) h
 | flt y=>obtain ⟨t,q⟩:=(show ∃ t,u=Value.float y t from rx);cases q;exact W.kia_one W.kitx_float I.kIn True.intro e (λz=>nomatch z) h
 | @lst a xs ea =>
  cases (show u=Value.ref a from rx)
  obtain ⟨_,_,n,_,h1⟩:=(show Br X.prog X.w H s.heap a (.lst xs) from I.hok a _ ea)
  exact W.kia_one W.kitx_list I.kIn ⟨_,h1,rfl⟩ e (λz=>nomatch z) h
 | @frz a ob xs ea =>
  cases (show u=Value.ref a from rx)
  obtain ⟨_,_,_,n,_,h1⟩:=(show Br X.prog X.w H s.heap a (.frz ob (.lst xs)) from I.hok a _ ea)
  exact W.kia_one W.kitx_list I.kIn ⟨_,h1,rfl⟩ e (λz=>nomatch z) h
 | @tup a xs ea =>
  cases (show u=Value.ref a from rx)
  obtain ⟨_,_,_,p⟩:=(show Br X.prog X.w H s.heap a (.tup xs) from I.hok a _ ea)
  obtain ⟨o,h1,h2,_⟩:=p
  exact W.kia_one W.kitx_tuple I.kIn ⟨o,h1,h2⟩ e (λz=>nomatch z) h
 | @dK a AI ea =>
  cases (show u=Value.ref a from rx)
  obtain ⟨_,_,vs,_,p⟩:=(show Br X.prog X.w H s.heap a (.dK AI) from I.hok a _ ea)
  obtain ⟨o,es,ep,h1,h2,_⟩:=p
  exact W.kia_one W.kitx_dict I.kIn ⟨o,h1,h2.1⟩ e (λz=>nomatch z) h
 | @dT a AI ea =>
  cases (show u=Value.ref a from rx)
  obtain ⟨_,_,xs,_,o,es,ep,h1,h2,_⟩:=(show Br X.prog X.w H s.heap a (.dT AI) from I.hok a _ ea)
  exact W.kia_one W.kitx_dict I.kIn ⟨o,h1,h2.1⟩ e (λz=>nomatch z) h
 | @ins a C dx fs ea cl ha hn P0 hm =>
  cases (show u=Value.ref a from rx)
  obtain ⟨mA,O,_⟩:=IW I.hok ea
  obtain ⟨od,J,_⟩:=O.look
  exact W.kia_one (W.kitx_own (cl.get _) cl.hd ha hn P0 hm) I.kIn J e (λz=>nomatch z) h
end
structure Bh (k:Nat)(A:Around):Prop where
 hd:A.handled=none
 dp:A.depth+2 * k+5 < recursionLimit
 un:A.units+16 * k+200 < cLine
theorem Bh.mono {j k:Nat}{A:Around}(r:Bh k A)(h:j<=k):Bh j A:=⟨r.hd,by have:=r.dp;omega,by have:=r.un;omega⟩
theorem Bh.deeper {k:Nat}{A:Around}(r:Bh (k+1) A)(env:Env):Bh k (A.deeper env) :=
 ⟨r.hd,by have:=r.dp;show A.depth+1+2 * k+5 < _;omega,by have:=r.un;show A.units+3+16 * k+200 < _;omega⟩
theorem Lx {A:Around}{C:Addr}{us:List Value}{kw:List (Str × Value)}:(A.under (.builtin "type.__call__" ⟨.ref C::us,kw⟩)).depth=A.depth+1:=by
 first | rfl | simp [Around.under,Code.weight,Code.isCreation,Code.isGuard,Code.isCaller,Code.frames,Code.isFrame,guardIds]
theorem Ly {A:Around}{C:Addr}{us:List Value}{kw:List (Str × Value)}:(A.under (.builtin "type.__call__" ⟨.ref C::us,kw⟩)).units=A.units+1:=by
 first | rfl | simp [Around.under,Code.cUnits,Code.frames,Code.isFrame]
theorem Bh.make {k:Nat}{A:Around}(r:Bh (k+1) A)(C:Addr)(us:List Value)(kw:List (Str × Value)):Bh k (A.under (.builtin "type.__call__" ⟨.ref C::us,kw⟩)) :=
 ⟨r.hd,by have:=r.dp;rw [Lx];omega,by have:=r.un;rw [Ly];omega⟩
theorem Bh.depth {k:Nat}{A:Around}(r:Bh k A):A.depth < recursionLimit:=by have:=r.dp;omega
theorem Bh.units {k:Nat}{A:Around}(r:Bh k A):A.units+64 < cLine:=by have:=r.un;omega
noncomputable def Em:TA:=λ_ H Q=>Q [] H
noncomputable def BB (ta:TE)(tr:TA):TA:=fun σ H Q=>ta σ H λx H1=>tr σ H1 λxs H2=>Q (x::xs) H2
section
variable {X:Cx}{e:Expr}{es:List Expr}{te:TE}{t:TA}{pos:Pos}
theorem Lz:PA X [] Em:=λ_ _ _ _ H Q I h=>Calls.spliced_nil ⟨[],H,I,.nil,h⟩
theorem Gy (ha:PE X e te)(hr:PA X es t)(hs:starEach (e::es) X.env=(false,eval e X.env)::starEach es X.env:=by rfl):PA X (e::es) (BB te t):=by
 intro pos pins s σ H Q I h
 rw [hs]
 show wpAny _ _ (spliced ((false,eval e X.env)::backTo pos (starEach es X.env))) _ _ s
 refine Calls.spliced_cons (BD (ha pins s σ H _ I h) λu s1 ⟨x,H1,I1,r1,q1⟩=>?_)
 exact BD (hr pos pins s1 σ H1 _ I1 q1) λus s2 ⟨xs,H2,I2,r2,q2⟩=>⟨x::xs,H2,I2,.cons r1 r2,q2⟩
noncomputable def Sb (t:TA):TE:=fun σ H Q=>t σ H λxs H1=>xs.length<=sizeLine/\∀ p,H1 p=none->Q (.ref p) (upd H1 p (.tup xs))
noncomputable def Sd (t:TA):TE:=fun σ H Q=>t σ H λxs H1=>xs.length<=sizeLine/\∀ p,H1 p=none->Q (.ref p) (upd H1 p (.lst xs))
theorem WH {x1}(h:PA X es t):PE X (.Tuple es x1 pos) (Sb t):=by
 intro pins s σ H Q I hq
 refine wpAny_Tuple_spliced (BD (h pos pins s σ H _ I hq) λus s1 ⟨xs,H1,I1,r,z,q⟩=>⟨by rw [<- r.length];exact z,?_⟩)
 have hf:H1 s1.heap.objs.size=none:=I1.hok.fresh (Nat.le_refl _)
 refine ⟨.ref s1.heap.objs.size,upd H1 s1.heap.objs.size (.tup xs),I1.laid (t':=s1.toks) (λb u e=>Heap.get?_push_of_some _ e) (Nat.le_refl _) ?_,rfl,q _ hf⟩
 exact ⟨z,us,r,⟨_,Heap.get?_push_size _ rfl,rfl,_,rfl⟩⟩
theorem WI (h:PA X es t):PE X (.List es pos) (Sd t):=by
 intro pins s σ H Q I hq
 refine wpAny_List_spliced (BD (h pos pins s σ H _ I hq) λus s1 ⟨xs,H1,I1,r,z,q⟩=>⟨by rw [<- r.length];exact z,?_⟩)
 have hf:H1 s1.heap.objs.size=none:=I1.hok.fresh (Nat.le_refl _)
 refine ⟨.ref s1.heap.objs.size,upd H1 s1.heap.objs.size (.lst xs),I1.laid (t':=s1.toks) (λb u e=>Heap.get?_push_of_some _ e) (Nat.le_refl _) ?_,rfl,q _ hf⟩
 exact ⟨z,us,0,r,Heap.get?_push_size _ rfl⟩
end
abbrev Sp:=List V->Hp->VK->XK->Prop
abbrev LA:=List Env->Hp->Shared->XK->Value->Shared->Prop
structure LB (P:Program)(w:World)(K:W.Frag)(mg:Str->Option Value)(base:Heap)(A:Around)(outer:List Env)(s:Shared)(H:Hp):Prop where
 frames:A.frames=some outer
 mod:Mod K mg base
 bs:∀ b o,base.get? b=some o->s.heap.get? b=some o/\H b=none
 bsz:base.objs.size<=s.heap.objs.size
 funs:s.heap.FunFrames base outer
 frf:∀ b∈frs outer,H b=none
 hok:D' P w H s.heap
 bare:AllBare s.gens
noncomputable def CE (outer:List Env)(P:Program)(w:World)(H:Hp)(s:Shared)(Q:VK)(u:Value)(s':Shared):Prop :=
 ∃ v H',s'.os=s.os/\AllBare s'.gens/\Un (frs outer) [] H H' s.heap s'.heap/\D' P w H' s'.heap/\RelV v u/\Q v H'
noncomputable def CR (CX:LA)(outer:List Env)(P:Program)(w:World)(H:Hp)(s:Shared)(Q:VK)(E:XK)(r:Result)(s':Shared):Prop :=
 match r with
 | .ok (.ret u)=>CE outer P w H s Q u s'
 | .ok _=>False
 | .error e=>CX outer H s E e s'
structure AY (P:Program)(w:World)(K:W.Frag)(mg:Str->Option Value)(base:Heap)(CX:LA)(k:Nat)(f:Addr)(fd:FuncData)(ps:List Str)(sp:Sp):Prop where
 len:∀ vs H Q E,sp vs H Q E->vs.length=ps.length
 run:∀ (A:Around) (outer:List Env) (s:Shared) (H:Hp) (args:Args) (us:List Value) (vs:List V) (Q:VK) (E:XK),Bh k A->LB P w K mg base A outer s H->BindsTo s fd args (ps.zip us)->Vals vs us->sp vs H Q E ->
  codeAny (model P w) A (.call (.ref f) args) (CR CX outer P w H s Q E) s
theorem AY.mono {P:Program}{w:World}{K:W.Frag}{mg:Str->Option Value}{base:Heap}{CX:LA}{j k:Nat}{f:Addr}{fd:FuncData}{ps:List Str}{sp:Sp}(F:AY P w K mg base CX j f fd ps sp)(h:j<=k):
  AY P w K mg base CX k f fd ps sp:=⟨F.len,λA outer s H args us vs Q E hr=>F.run A outer s H args us vs Q E (hr.mono h)⟩
theorem LB.make {P:Program}{w:World}{K:W.Frag}{mg:Str->Option Value}{base:Heap}{A:Around}{outer:List Env}{s:Shared}{H:Hp}(e:LB P w K mg base A outer s H)(C:Addr)(us:List Value)(kw:List (Str × Value)):
  LB P w K mg base (A.under (.builtin "type.__call__" ⟨.ref C::us,kw⟩)) outer s H:=⟨by first | exact e.frames | (simpa [Around.under,Code.envs,Code.isFrame,pushEnvs] using e.frames),e.mod,e.bs,e.bsz,e.funs,e.frf,e.hok,e.bare⟩
section
variable {X:Cx}{pins:List (Addr × Obj)}{σ:St}{H:Hp}{s s':Shared}
theorem Inv.env0 (I:Inv X pins σ H s):LB X.prog X.w X.K X.mg X.base X.A X.stack s H :=
 ⟨I.ok.frames,I.ok.mod,I.bs,Nat.le_trans I.ok.bsz I.sz,I.stack,I.stkFree,I.hok,I.bare⟩
theorem Inv.after {Q:VK}{u:Value}(I:Inv X pins σ H s)(h:CE X.stack X.prog X.w H s Q u s'):EP X pins σ Q u s':=by
 obtain ⟨v,H',os,bare,un,hok,r,q⟩:=h
 obtain ⟨hh,g,d,t,qa⟩:=s'
 obtain rfl:qa=s.os:=os
 exact ⟨v,H',I.call (h':=hh) (g':=g) (d':=d) (t':=t) (ch:=[]) un hok bare (λb z=>absurd z (by simp)),r,q⟩
end
noncomputable def Ed (sp:Sp)(dvs:List V)(E:XK)(t:TA):TE:=fun σ H Q=>t σ H λvs H1=>sp (vs++dvs) H1 Q E
noncomputable def PD (C:Addr)(sp:Sp)(dvs:List V)(E:XK)(t:TA):TE:=fun σ H Q=>t σ H λvs H1=>∀ x dx,H1 x=none->H1 dx=none->dx≠x ->
 sp (.ref x::(vs++dvs)) (upd (upd H1 dx (.own x)) x (.ins C dx [])) (λv H2=>v=.non/\Q (.ref x) H2) E
noncomputable def Binds (K:W.Frag)(fd:FuncData)(ps:List Str)(ds:List Value):Prop :=
 ∀ (s:Shared) (us:List Value),K.In s.heap->(us++ds).length=ps.length->BindsTo s fd ⟨us,[]⟩ (ps.zip (us++ds))
theorem Binds.all {K:W.Frag}{fd:FuncData}{ps:List Str}(h:∀ us:List Value,us.length=ps.length->bindArgs fd ⟨us,[]⟩=pure (ps.zip us)):Binds K fd ps []:=λs us _ hl=>by
 rw [List.append_nil] at hl ⊢
 exact .of_eq (h us hl)
noncomputable def Passes (CX:LA)(X:Cx)(E:XK):Prop:=∀ (pins:List (Addr × Obj)) (σ:St) (H:Hp) (s:Shared) (e:Value) (s':Shared),Inv X pins σ H s->CX X.stack H s E e s'->X.xe e s'
section
variable {X:Cx}{CX:LA}{k:Nat}{f C:Addr}{fd:FuncData}{ps:List Str}{sp:Sp}{dvs:List V}{ds:List Value}{E:XK}{x m:Str}{p pos apos:Pos}{e o:Expr}{es:List Expr}{ta:TE}{t:TA}
theorem GU {pins:List (Addr × Obj)}{σ:St}{H:Hp}{s:Shared}{Q:VK}{us:List Value}{vs:List V}(F:AY X.prog X.w X.K X.mg X.base CX k f fd ps sp)(hr:Bh k X.A)(hb:Binds X.K fd ps ds)(hd:Vals dvs ds)(hx:Passes CX X E)
  (I:Inv X pins σ H s) (r:Vals vs us) (h:sp (vs++dvs) H Q E):wpAny (model X.prog X.w) X.A (call (.ref f) us) (EP X pins σ Q) X.xe s:=by
 have r2:Vals (vs++dvs) (us++ds):=r.append hd
 have hl:(us++ds).length=ps.length:=by rw [<- r2.length];exact F.len _ _ _ _ h
 refine wpAny_call (codeAny_mono (F.run X.A X.stack s H ⟨us,[]⟩ (us++ds) (vs++dvs) Q E hr I.env0 (hb s us I.kIn hl) r2 h) λr s' hq=>?_)
 cases r with
 | error e=>exact hx pins σ H s e s' I hq
 | ok fl =>
  cases fl with
  | ret u=>exact I.after hq
  | next=>exact False.elim hq
  | brk=>exact False.elim hq
  | cont=>exact False.elim hq
theorem MJ (F:AY X.prog X.w X.K X.mg X.base CX k f fd ps sp)(hr:Bh k X.A)(hg:Gl X x)(hm:X.mg x=some (.ref f))(hk:W.keepIn X.K (.ref f)=true)(hb:Binds X.K fd ps ds)(hd:Vals dvs ds)(hx:Passes CX X E)
  (ha:PA X (e::es) t) (FR:(x==("__debug__":Str))=false:=by decide) (he:starEach (e::es) X.env=(false,eval e X.env)::starEach es X.env:=by rfl) (E4:(backTo pos (starEach es X.env)).any (·.1)=false:=by rfl) :
  PE X (.Call (.Name x p) (e::es) [] pos) (Ed sp dvs E t):=by
 intro pins s σ H Q I h
 refine wpAny_Call_Name_kw (IQ I hg hm ?_ FR)
 refine W.callWith_K (h₀:=X.base) I.ok.mod.kin hk (BD (ha pos pins s σ H _ I h) λus s1 ⟨vs,H1,I1,r,q⟩=>⟨I1.kIn,?_⟩) he E4
 exact GU F hr hb hd hx I1 r q
structure Mk (K:W.Frag)(C f:Addr):Prop where
 makes:W.makesIn K C=true
 init:W.findIn K (.ref C) "__init__"=some (some (.ref f))
 fn:W.isFn K (.ref f)=true
 kp:W.keepIn K (.ref C)=true
theorem PF {pins:List (Addr × Obj)}{σ:St}{H:Hp}{s:Shared}{Q:VK}{us:List Value}{vs:List V}(M:Mk X.K C f)(F:AY X.prog X.w X.K X.mg X.base CX k f fd ps sp)(hr:Bh (k+1) X.A)(hb:Binds X.K fd ps ds)(hd:Vals dvs ds)
  (hx:Passes CX X E) (I:Inv X pins σ H s) (r:Vals vs us)
  (h:∀ x dx,H x=none->H dx=none->dx≠x->sp (.ref x::(vs++dvs)) (upd (upd H dx (.own x)) x (.ins C dx [])) (λv H2=>v=.non/\Q (.ref x) H2) E) :
  wpAny (model X.prog X.w) X.A (call (.ref C) us) (EP X pins σ Q) X.xe s:=by
 have hq:=h (s.heap.objs.size+1) s.heap.objs.size (I.hok.fresh (Nat.le_succ _)) (I.hok.fresh (Nat.le_refl _)) (Nat.ne_of_lt (Nat.lt_succ_self _))
 have I2:=Inv.made (C:=C) I
 have r2:Vals (V.ref (s.heap.objs.size+1)::(vs++dvs)) (Value.ref (s.heap.objs.size+1)::(us++ds)):=.cons rfl (r.append hd)
 have hl:(Value.ref (s.heap.objs.size+1)::us++ds).length=ps.length:=by
  have e:=r2.length
  rw [F.len _ _ _ _ hq] at e
  exact e.symm
 refine wpAny_call (Py (f:=f) I.kIn M.makes M.init (beq_iff_eq.mp M.fn) (codeAny_mono (F.run _ X.stack _ _ ⟨Value.ref (s.heap.objs.size+1)::us,[]⟩ (Value.ref (s.heap.objs.size+1)::(us++ds)) _ _ E (hr.make C us [])
  (I2.env0.make C us []) (hb _ (Value.ref (s.heap.objs.size+1)::us) I2.kIn hl) r2 hq) λr s' gP=>?_))
 cases r with
 | error e=>exact hx pins σ _ _ e s' I2 gP
 | ok fl =>
  cases fl with
  | ret u =>
   obtain ⟨v,H',I3,rv,ev,q3⟩:=I2.after gP
   subst ev
   exact ⟨rv,⟨V.ref (s.heap.objs.size+1),H',I3,rfl,q3⟩⟩
  | next=>exact False.elim gP
  | brk=>exact False.elim gP
  | cont=>exact False.elim gP
theorem Se (M:Mk X.K C f)(F:AY X.prog X.w X.K X.mg X.base CX k f fd ps sp)(hr:Bh (k+1) X.A)(hg:Gl X x)(hm:X.mg x=some (.ref C))(hb:Binds X.K fd ps ds)(hd:Vals dvs ds)(hx:Passes CX X E)
  (ha:PA X (e::es) t) (FR:(x==("__debug__":Str))=false:=by decide) (he:starEach (e::es) X.env=(false,eval e X.env)::starEach es X.env:=by rfl) (E4:(backTo pos (starEach es X.env)).any (·.1)=false:=by rfl) :
  PE X (.Call (.Name x p) (e::es) [] pos) (PD C sp dvs E t):=by
 intro pins s σ H Q I h
 refine wpAny_Call_Name_kw (IQ I hg hm ?_ FR)
 refine W.callWith_K (h₀:=X.base) I.ok.mod.kin M.kp (BD (ha pos pins s σ H _ I h) λus s1 ⟨vs,H1,I1,r,q⟩=>⟨I1.kIn,?_⟩) he E4
 exact PF M F hr hb hd hx I1 r q
end
structure AE (N P:List Str)(sc:Scope):Prop where
 kind:sc.kind=.function
 co:sc.isCoroutine=false
 gen:sc.isGenerator=false
 nd:N.Nodup
 pre:N.take P.length=P
 par:∀ x∈P,sc.names.lookup x=some .local\/sc.names.lookup x=some .cell
 nofree:∀ y∈sc.names,y.2≠.free
theorem Ic {kindOf:Str->Option NameKind}{x:Str}:∀ {binds:List (Str × Value)} {m:Str->Option Value},(∀ v,(x,v)∉binds)->bindL kindOf binds m x=m x
 | [],_,_=>rfl
 | (n,v)::r,m,h=>by
  unfold bindL
  rw [Ic λw hw=>h w (List.mem_cons_of_mem _ hw)]
  split
  ·have:x≠n:=by rintro rfl;exact h v List.mem_cons_self
   simp [this]
  ·rfl
theorem Ie {kindOf:Str->Option NameKind}{x:Str}:∀ {binds:List (Str × Value)} {m:Str->Option Value},(∀ v,(x,v)∉binds)->bindC kindOf binds m x=m x
 | [],_,_=>rfl
 | (n,v)::r,m,h=>by
  unfold bindC
  rw [Ie λw hw=>h w (List.mem_cons_of_mem _ hw)]
  split
  ·rfl
  ·have:x≠n:=by rintro rfl;exact h v List.mem_cons_self
   simp [this]
theorem Ig {kindOf:Str->Option NameKind}{x:Str}{v:Value}:∀ {P:List Str} {vs:List Value} {i:Nat} {m:Str->Option Value},P.Nodup->P[i]?=some x->vs[i]?=some v->kindOf x=some .local ->
  bindL kindOf (P.zip vs) m x=some v
 | [],_,_,_,_,h,_,_=>by simp at h
 | _::_,[],_,_,_,_,h,_=>by simp at h
 | p::P,w::vs,0,m,nd,h1,h2,hk=>by
  simp at h1 h2;subst h1;subst h2
  show bindL kindOf ((p,w)::P.zip vs) m p=_
  unfold bindL
  rw [Ic λv hv=>(List.nodup_cons.mp nd).1 (List.of_mem_zip hv).1,if_pos hk]
  simp
 | p::P,w::vs,i+1,m,nd,h1,h2,hk=>by
  show bindL kindOf ((p,w)::P.zip vs) m x=_
  unfold bindL
  exact Ig (i:=i) (List.nodup_cons.mp nd).2 (by simpa using h1) (by simpa using h2) hk
theorem Ih {kindOf:Str->Option NameKind}{x:Str}{v:Value}:∀ {P:List Str} {vs:List Value} {i:Nat} {m:Str->Option Value},P.Nodup->P[i]?=some x->vs[i]?=some v->kindOf x≠some .local ->
  bindC kindOf (P.zip vs) m x=some v
 | [],_,_,_,_,h,_,_=>by simp at h
 | _::_,[],_,_,_,_,h,_=>by simp at h
 | p::P,w::vs,0,m,nd,h1,h2,hk=>by
  simp at h1 h2;subst h1;subst h2
  show bindC kindOf ((p,w)::P.zip vs) m p=_
  unfold bindC
  rw [Ie λv hv=>(List.nodup_cons.mp nd).1 (List.of_mem_zip hv).1,if_neg hk]
  simp
 | p::P,w::vs,i+1,m,nd,h1,h2,hk=>by
  show bindC kindOf ((p,w)::P.zip vs) m x=_
  unfold bindC
  exact Ih (i:=i) (List.nodup_cons.mp nd).2 (by simpa using h1) (by simpa using h2) hk
noncomputable def start (N:List Str)(vs:List V):St:=vs.map some++List.replicate (N.length - vs.length) none
noncomputable def DP (CX:LA)(P:Program)(w:World)(K:W.Frag)(mg:Str->Option Value)(base:Heap)(N:List Str)(qual:Str)(scope:Scope)(f:Addr)(cd:Value)(A:Around)(outer:List Env)(s:Shared)(H:Hp)(E:XK):Cx where
 prog:=P
 w:=w
 K:=K
 mg:=mg
 base:=base
 A:=A.deeper (envOfC qual scope s.heap.objs.size f cd)
 N:=N
 s₀:=s
 H₀:=H
 env:=envOfC qual scope s.heap.objs.size f cd
 outer:=outer
 stack:=envOfC qual scope s.heap.objs.size f cd::outer
 ex:=[]
 calm:=true
 fn:=λ_=>true
 pn:=[]
 xe:=λe s'=>wpAny (model P w) (A.deeper (envOfC qual scope s.heap.objs.size f cd)) (leaving (envOfC qual scope s.heap.objs.size f cd) e) (λ_ PH=>CX outer H s E e PH) (λe' PH=>CX outer H s E e' PH) s'
theorem JP {sc:Scope}{n:Nat}{x:Str}(h:sc.names.lookup x=some .cell):∃ c,(cellsFrom n sc.names []).lookup x=some c:=by
 have q:=W.cellsFrom_some sc.names n [] (.inl h)
 exact Option.isSome_iff_exists.mp q
theorem O1 {CX:LA}{P:Program}{w:World}{K:W.Frag}{mg:Str->Option Value}{base:Heap}{N ps:List Str}{qual:Str}{scope:Scope}{f:Addr}{cd:Value}{A:Around}{outer:List Env}{s s1:Shared}{H:Hp}{E:XK}{us:List Value}{vs:List V}
  (S:AE N ps scope) (hd:A.handled=none) (e0:LB P w K mg base A outer s H) (hl:vs.length=ps.length) (r:Vals vs us)
  (x:InCallC s s.heap.objs.size (bindL (envOfC qual scope s.heap.objs.size f cd).kindOf (ps.zip us) λ_=>none) (cellsFrom (s.heap.objs.size+1) scope.names []) (bindC (envOfC qual scope s.heap.objs.size f cd).kindOf (ps.zip us) λ_=>none) s1) :
  Inv (DP CX P w K mg base N qual scope f cd A outer s H E) [] (start N vs) H s1:=by
 have E4:ps.length<=N.length:=by have:=congrArg List.length S.pre;rw [List.length_take] at this;omega
 obtain ⟨h1,tk,rfl,hk⟩:=x.done
 have WJ:∀ b:Addr,b∉(DP CX P w K mg base N qual scope f cd A outer s H E).ex:=λb z=>absurd (show b∈([]:List Addr) from z) (by simp)
 refine ⟨⟨e0.mod,S.kind,rfl,rfl,Nat.le_refl _,λy z c h1 h2=>?_,λy hy=>?_,λy c _ h=>?_,λ_=>hd,Around.frames_deeper e0.frames,.inr ⟨rfl,rfl⟩,λb z=>absurd z (WJ b),e0.bs,e0.bsz,λb _ _=>WJ b,λb z=>absurd z (WJ b),e0.funs,e0.frf⟩,
  rfl,e0.bare,Un.kept hk,⟨_,x.toInCall.ns,λi y v h1 h2 h3=>?_⟩,λy c h=>⟨_,x.cell y c h⟩,e0.hok.fresh (Nat.le_refl _),λy c h=>?_,λp hp=>absurd (show p∈([]:List (Addr × Obj)) from hp) (by simp),e0.hok.kept hk,?_⟩
 ·exact name_of_addr x.apart (PySem.mem_of_lookup h1) (PySem.mem_of_lookup h2)
 ·have hy:scope.names.lookup y=some .cell\/scope.names.lookup y=some .free:=hy
  rcases hy with hy | hy
  ·exact JP hy
  ·exact absurd rfl (S.nofree _ (PySem.mem_of_lookup hy))
 ·exact Nat.le_of_lt (x.above y c (PySem.mem_of_lookup h))
 ·have hi:i < vs.length:=by
   unfold start at h2
   by_cases hi:i < vs.length
   ·exact hi
   ·rw [List.getElem?_append_right (by simpa using hi)] at h2
    rw [List.getElem?_replicate] at h2
    split at h2 <;> cases h2
  have ha:vs[i]?=some v:=by
   unfold start at h2
   rw [List.getElem?_append_left (by simpa using hi),List.getElem?_map] at h2
   cases e:vs[i]? with
   | none=>rw [e] at h2;cases h2
   | some a=>rw [e] at h2;cases h2;rfl
  obtain ⟨u,hu,rv⟩:=r.get ha
  have hp:ps[i]?=some y:=by
   rw [<- S.pre,List.getElem?_take_of_lt ()];exact h1
  have ndP:ps.Nodup:=by rw [<- S.pre];exact S.nd.sublist (List.take_sublist _ _)
  refine ⟨u,rv,?_⟩
  rcases S.par y (List.mem_of_getElem? hp) with k | k
  ·exact .inl ⟨k,Ig ndP hp hu k⟩
  ·obtain ⟨c,e⟩:=JP (n:=s.heap.objs.size+1) k
   refine .inr ⟨.inl k,c,e,?_⟩
   have q:=x.cell y c e
   rw [Ih ndP hp hu (by show scope.names.lookup y≠_;rw [k];decide)] at q
   exact q
 ·exact e0.hok.fresh (Nat.le_of_lt (x.above y c (PySem.mem_of_lookup h)))
 ·unfold start
  show _=N.length
  rw [List.length_append,List.length_map,List.length_replicate]
  omega
theorem gQ {CX:LA}{P:Program}{w:World}{K:W.Frag}{mg:Str->Option Value}{base:Heap}{k:Nat}{f:Addr}{name qual:Str}{params:Arguments}{body:List Stmt}{scope:Scope}{dV kV doc pm BV ct oc:Value}{an od:Option Addr}
  {V7:Array (Option Value)} {N ps:List Str} {sp:Sp} (lk:K.lookup f=some ⟨oc,od,.func (W.fnOf name qual params body scope dV kV doc pm an BV ct),V7⟩) (JJ:W.codeIn K BV qual=true) (S:AE N ps scope)
  (len:∀ vs H Q E,sp vs H Q E->vs.length=ps.length)
  (JQ:∀ (A:Around) (outer:List Env) (s:Shared) (H:Hp) (vs:List V) (Q:VK) (E:XK),Bh k (A.deeper (envOfC qual scope s.heap.objs.size f BV))->sp vs H Q E ->
   ∃ t,Mx (DP CX P w K mg base N qual scope f BV A outer s H E) body t/\t { nx:=λ_ H'=>Q .non H',rt:=Q } (start N vs) H) :
  AY P w K mg base CX (k+1) f (W.fnOf name qual params body scope dV kV doc pm an BV ct) ps sp:=by
 refine ⟨len,λA outer s H args us vs Q E hr e0 hb r RH=>?_⟩
 have hl:=len _ _ _ _ RH
 have KX:K.In s.heap:=e0.mod.kin.keeps λb o e=>(e0.bs b o e).1
 have lim:s.heap.NoLimit:=e0.mod.nolimit.keeps λb o e=>(e0.bs b o e).1
 have gR:∀ y∈ps.zip us,scope.names.lookup y.1=some .local\/(scope.names.lookup y.1=some .cell/\((cellsFrom (s.heap.objs.size+1) scope.names []).lookup y.1).isSome=true):=λ⟨n,v⟩ hy=>by
  rcases S.par n (List.of_mem_zip hy).1 with q | q
  ·exact .inl q
  ·exact .inr ⟨q,W.cellsFrom_some _ _ _ (.inl q)⟩
 refine codeAny_call_function hr.depth (KX _ _ lk) rfl S.co S.gen rfl (W.codeRec_of KX JJ) (hb _ _ _ _ ?_)
 refine wpAny_newFunctionEnv_cells S.kind gR λenv he s1 x=>?_
 subst he
 refine ⟨lim.keeps x.toInCall.keep,codeAny_func ?_⟩
 obtain ⟨t,ht,hq⟩:=JQ A outer s H vs Q E (hr.deeper _) RH
 have I:Inv (DP CX P w K mg base N qual scope f BV A outer s H E) [] (start N vs) H s1:=O1 S hr.hd e0 hl r x
 refine wpAny_mono (ht [] s1 (start N vs) H _ I hq) (λfl s' hs=>?_) λe s' hs=>hs
 have fin:∀ {σ':St} {H':Hp} {v:V} {u:Value},Inv (DP CX P w K mg base N qual scope f BV A outer s H E) [] σ' H' s'->RelV v u->Q v H'->CE outer P w H s Q u s' :=
  λ{σ' H' v u} J rv q=>⟨v,H',J.os,J.bare,J.base,J.hok,rv,q⟩
 cases fl with
 | ret u =>
  obtain ⟨v,σ',H',J,rv,q⟩:=hs
  exact fin J rv q
 | next =>
  obtain ⟨σ',H',J,q⟩:=hs
  exact fin (v:=V.non) (u:=Value.none) J rfl q
 | brk =>
  obtain ⟨_,_,_,q⟩:=hs
  exact False.elim q
 | cont =>
  obtain ⟨_,_,_,q⟩:=hs
  exact False.elim q
section
variable {X:Cx}{x:Str}{p pos:Pos}{e:Expr}{es:List Expr}{t:TA}{id T:String}{r:List V->Hp->VK->Prop}
noncomputable def Sf (r:List V->Hp->VK->Prop)(t:TA):TE:=fun σ H Q=>t σ H λvs H1=>r vs H1 Q
theorem JR (hc:Ds X (.builtin id) r)(hg:Gl X x)(hm:X.mg x=none)(hv:bootBuiltins x=some (.builtin id))(ha:PA X (e::es) t)(hn:x≠"__name__":=by decide)(FR:(x==("__debug__":Str))=false:=by decide)
  (he:starEach (e::es) X.env=(false,eval e X.env)::starEach es X.env:=by rfl) (E4:(backTo pos (starEach es X.env)).any (·.1)=false:=by rfl):PE X (.Call (.Name x p) (e::es) [] pos) (Sf r t):=by
 intro pins s σ H Q I h
 refine wpAny_Call_Name_kw (Ek I hg hm hv ?_ hn FR)
 exact PyProof.Rows.callWith_builtin1 (BD (ha pos pins s σ H _ I h) λus s1 ⟨vs,H1,I1,r1,q1⟩=>hc pins s1 σ H1 vs us Q I1 r1 q1) he E4
theorem O2 (hc:Ds X (.type T) r)(hg:Gl X x)(hm:X.mg x=none)(hv:bootBuiltins x=some (.type T))(ha:PA X (e::es) t)(hn:x≠"__name__":=by decide)(FR:(x==("__debug__":Str))=false:=by decide)
  (he:starEach (e::es) X.env=(false,eval e X.env)::starEach es X.env:=by rfl) (E4:(backTo pos (starEach es X.env)).any (·.1)=false:=by rfl):PE X (.Call (.Name x p) (e::es) [] pos) (Sf r t):=by
 intro pins s σ H Q I h
 refine wpAny_Call_Name_kw (Ek I hg hm hv ?_ hn FR)
 exact PyProof.Rows.callWith_type1 (BD (ha pos pins s σ H _ I h) λus s1 ⟨vs,H1,I1,r1,q1⟩=>hc pins s1 σ H1 vs us Q I1 r1 q1) he E4
end
end L2
namespace HT
open PySem PyProof.Rows
section
variable {prog:Program}{w:World}{A:Around}{E:Value->Shared->Prop}{s:Shared}
theorem cat_tup {t b:Addr}{vs ws:List Value}{Q:Value->Shared->Prop}(ht:IsTup s.heap t vs.toArray)(hb:IsTup s.heap b ws.toArray)(hv:vs≠[])
  (h1:ws=[]->Q (.ref t) s) (h2:ws≠[]->Q (.ref s.heap.objs.size) { s with heap:=s.heap.push { cls:=.type "tuple",data:=.seq (vs++ws).toArray } })
  (hsz:vs.length+ws.length<=sizeLine):wpAny (model prog w) A (binaryOp .Add (.ref t) (.ref b)) Q E s:=by
 obtain ⟨⟨cls,dd,data,sl⟩,ho,hc,n,hd⟩:=id ht
 obtain ⟨⟨Ahx,qb,data2,sl2⟩,nk,HK,n2,hd2⟩:=id hb
 simp only at hc hd HK hd2
 subst hc hd HK hd2
 have e:vs.toArray++ws.toArray=(vs++ws).toArray:=by simp
 by_cases hw:ws=[]
 ·exact concat_meets ⟨_,ho,rfl⟩ ⟨_,nk,rfl⟩ noFill_tuple_add seq_tuple_add PySem.F.slot_tuple_add PySem.F.entry_tuple_add (PySem.F.args_tuple_add_2 _ _)
   (tuple_addW1 t b vs.toArray ws.toArray n n2 dd qb sl sl2 (by simpa using hv) (by simp [hw])) ⟨ho,nk,h1 hw⟩
 ·refine concat_meets ⟨_,ho,rfl⟩ ⟨_,nk,rfl⟩ noFill_tuple_add seq_tuple_add PySem.F.slot_tuple_add PySem.F.entry_tuple_add (PySem.F.args_tuple_add_2 _ _)
   (tuple_addW2 t b vs.toArray ws.toArray n n2 dd qb sl sl2 (by simpa using hv) (by simpa using hw) (by rw [List.size_toArray,List.size_toArray];exact hsz)) ⟨ho,nk,?_⟩
  rw [e]
  exact h2 hw
noncomputable def sIx (n d:Nat):Option Int->Nat
 | none=>d
 | some v=>if v < 0 then (v+(n:Int)).toNat else min v.toNat n
theorem sIx_none (n d:Nat):sIx n d none=d:=rfl
theorem sIx_nat (n d k:Nat):sIx n d (some (k:Int))=min k n:=by
 show (if (k:Int) < 0 then ((k:Int)+(n:Int)).toNat else min (k:Int).toNat n)=min k n
 rw [if_neg (),Int.toNat_natCast]
theorem WK (n d:Nat)(hd:d<=n)(o:Option Int):sIx n d o<=n:=by
 cases o with
 | none=>exact hd
 | some v =>
  show (if v < 0 then (v+(n:Int)).toNat else min v.toNat n)<=n
  by_cases hv:v < 0
  ·rw [if_pos hv];omega
  ·rw [if_neg hv];exact Nat.min_le_right _ _
theorem MK (v:Int)(n d:Nat):(if v < 0 then max (v+(n:Int)) 0 else min v (n:Int))=((sIx n d (some v):Nat):Int):=by
 show (if v < 0 then max (v+(n:Int)) 0 else min v (n:Int))=(((if v < 0 then (v+(n:Int)).toNat else min v.toNat n):Nat):Int)
 by_cases hv:v < 0
 ·simp only [if_pos hv];omega
 ·simp only [if_neg hv];omega
theorem LC (lo hi:Option Int)(n:Nat):Builtin.Slice.sliceAdjust lo hi 1 (n:Int)=(((sIx n 0 lo:Nat):Int),((sIx n n hi:Nat):Int)):=by
 have h1:¬ ((1:Int) < 0):=by omega
 unfold Builtin.Slice.sliceAdjust
 simp only [h1,if_false]
 refine Prod.ext ?_ ?_
 ·cases lo with
  | none=>rfl
  | some v=>exact MK v n 0
 ·cases hi with
  | none=>rfl
  | some v=>exact MK v n n
theorem LD (i j:Nat):Builtin.Slice.slicePlaces (i:Int) (j:Int) 1=j - i:=by
 unfold Builtin.Slice.slicePlaces
 have h1:(1:Int) > 0:=by omega
 simp only [h1,if_true,Int.ediv_one]
 split <;> omega
theorem GV {v:Value}{o:Option Int}{Q:Option Int->Shared->Prop}(p:IsPart v o)(h:Q o s):wpAny (model prog w) A (Builtin.Slice.slicePartIndex v) Q E s:=by
 cases p with
 | none=>exact slicePart_none h
 | int i t=>exact slicePart_int h
theorem FV {sl:Addr}{vl vu:Value}{lo hi:Option Int}{n:Nat}{Q:Int × Int × Nat->Shared->Prop}(hs:s.heap.IsSliceOf sl vl vu .none)(pl:IsPart vl lo)(pu:IsPart vu hi)
  (h:Q (((sIx n 0 lo:Nat):Int),1,sIx n n hi - sIx n 0 lo) s):wpAny (model prog w) A (Builtin.Slice.sliceApplied (.ref sl) (pure (n:Int))) Q E s:=by
 obtain ⟨os,WL,hcs,nq⟩:=id hs
 unfold Builtin.Slice.sliceApplied Builtin.Slice.sliceFields
 refine wpAny_bind (wpAny_bind (wpAny_field WL nq (x:=vl) rfl (wpAny_bind (wpAny_field WL nq (x:=vu) rfl (wpAny_bind (wpAny_field WL nq (x:=.none) rfl (wpAny_pure ?_)))))))
 refine wpAny_bind (slicePart_none ?_)
 show wpAny _ _ (if ((1:Int)==0)=true then _ else _) _ _ s
 rw [if_neg ⟨⟩]
 refine wpAny_bind (GV pl (wpAny_bind (GV pu (wpAny_bind (wpAny_pure ?_)))))
 show wpAny _ _ (match Builtin.Slice.sliceAdjust lo hi 1 (n:Int) with | (lo,hi)=>pure (lo,(1:Int),Builtin.Slice.slicePlaces lo hi 1)) _ _ s
 rw [LC lo hi n]
 show wpAny _ _ (pure (((sIx n 0 lo:Nat):Int),(1:Int),Builtin.Slice.slicePlaces ((sIx n 0 lo:Nat):Int) ((sIx n n hi:Nat):Int) 1)) _ _ s
 rw [LD]
 exact wpAny_pure h
theorem PJ (xs:Array Value)(i k:Nat):((List.range k).filterMap λ(m:Nat)=>xs[((i:Int)+(m:Int) * 1).toNat]?).toArray=((xs.toList.drop i).take k).toArray:=by
 have e:(λ(m:Nat)=>xs[((i:Int)+(m:Int) * 1).toNat]?)=λm=>xs[i+m]?:=by
  funext m
  have:((i:Int)+(m:Int) * 1).toNat=i+m:=by omega
  rw [this]
 rw [e]
 have:=pick_run xs i k
 rw [List.filterMap_map] at this
 have e2:((λx=>xs[x]?) ∘ λx=>i+x)=λm=>xs[i+m]?:=rfl
 rw [e2] at this
 rw [this]
theorem getItem_tuple_cut {t sl:Addr}{items:Array Value}{vl vu:Value}{lo hi:Option Int}{Q:Value->Shared->Prop}(ht:IsTup s.heap t items)(hs:s.heap.IsSliceOf sl vl vu .none)(pl:IsPart vl lo)(pu:IsPart vu hi)
  (hw:¬ (sIx items.size 0 lo=0/\sIx items.size items.size hi=items.size))
  (h:Q (.ref s.heap.objs.size) { s with heap:=s.heap.push { cls:=.type "tuple",data:=.seq ((items.toList.drop (sIx items.size 0 lo)).take (sIx items.size items.size hi - sIx items.size 0 lo)).toArray } })
  (hsz:items.size<=sizeLine):wpAny (model prog w) A (getItem (.ref t) (.ref sl)) Q E s:=by
 have ML:sizeOk (.seq ((items.toList.drop (sIx items.size 0 lo)).take (sIx items.size items.size hi - sIx items.size 0 lo)).toArray):=by
  show ((items.toList.drop (sIx items.size 0 lo)).take (sIx items.size items.size hi - sIx items.size 0 lo)).toArray.size<=sizeLine
  rw [List.size_toArray,List.length_take,List.length_drop,Array.length_toList]
  omega
 have hj:sIx items.size items.size hi<=items.size:=WK _ _ (Nat.le_refl _) hi
 obtain ⟨os,WL,hcs,nq⟩:=id hs
 have hTs:s.TypeIs (.ref sl) "slice":=⟨os,WL,hcs⟩
 unfold getItem
 try with_reducible refine wpAny_holding ?_
 first | refine wpAny_bind (wpAny_pure ?_) | skip
 refine wpAny_bind (wpAny_sequenceKey ht.typeIs ⟨⟩ ?_)
 refine wpAny_bind (wpAny_callSpecial?_slot (name:=Str.ofString "__getitem__") ht.typeIs PyProof.Rows.slot_tuple_getitem
  (wpAny_call_entry PyProof.Rows.slot_tuple_getitem ht.typeIs entry_tuple_getitem ?_ (args_tuple_getitem _ _)))
 show wpAny _ _ (Builtin.Tuple.tupleItemsOf (.ref t) >>= _) _ _ s
 refine wpAny_bind (tupleItemsOf_ ht ?_)
 refine wpAny_bind (wpAny_typeOf hTs ?_)
 rw [if_pos ⟨⟩]
 refine wpAny_bind (FV hs pl pu ?_)
 have hno:¬ ((((sIx items.size 0 lo:Nat):Int)==0 && (1:Int)==1 && (sIx items.size items.size hi - sIx items.size 0 lo)==items.size)=true):=by
  intro q
  rw [Bool.and_eq_true,Bool.and_eq_true] at q
  have q1:((sIx items.size 0 lo:Nat):Int)=0:=eq_of_beq q.1.1
  have q2:sIx items.size items.size hi - sIx items.size 0 lo=items.size:=eq_of_beq q.2
  exact hw ⟨(),()⟩
 show wpAny _ _ (if (((sIx items.size 0 lo:Nat):Int)==0 && (1:Int)==1 && (sIx items.size items.size hi - sIx items.size 0 lo)==items.size)=true then _ else _) _ _ s
 rw [if_neg hno,PJ]
 first
  | exact wpAny_bind (m:=Builtin.Tuple.tupleExact _) (wpAny_newObj_type (wpAny_pure ⟨_,rfl,wpAny_pure h⟩) ML)
  | exact wpAny_bind (m:=Builtin.Tuple.tupleExact _) (wpAny_newObj_type (wpAny_bind (wpAny_pure (wpAny_pure ⟨_,rfl,wpAny_pure h⟩))) ML)
  | exact wpAny_bind (wpAny_bind (m:=Builtin.Tuple.tupleExact _) (wpAny_newObj_type (wpAny_pure (wpAny_pure ⟨_,rfl,wpAny_pure h⟩)) ML))
  | exact wpAny_bind (wpAny_bind (m:=Builtin.Tuple.tupleExact _) (wpAny_newObj_type (wpAny_pure ⟨_,rfl,wpAny_pure h⟩) ML))
end
end HT
namespace L2
open PySem PySem.Spec PyProof.Rows
abbrev TO:=St->Hp->(Option Int->Hp->Prop)->Prop
noncomputable def PO (X:Cx)(e:Option Expr)(t:TO):Prop :=
 ∀ (pins:List (Addr × Obj)) (s:Shared) (σ:St) (H:Hp) (Q:Option Int->Hp->Prop),Inv X pins σ H s->t σ H Q ->
  wpAny (model X.prog X.w) X.A (evalPart e X.env) (λu s'=>∃ o H',Inv X pins σ H' s'/\IsPart u o/\Q o H') X.xe s
noncomputable def Gz:TO:=λ_ H Q=>Q none H
noncomputable def MM (t:TE):TO:=fun σ H Q=>t σ H λx H1=>∃ i,x=.int i/\Q (some i) H1
section
variable {X:Cx}{e:Expr}{te:TE}{lo hi:Option Expr}{tl th:TO}{pos p2:Pos}
theorem Sg:PO X none Gz:=by
 intro pins s σ H Q I h
 rw [evalPart_none]
 exact wpAny_pure ⟨none,H,I,.none,h⟩
theorem Sh (h:PE X e te):PO X (some e) (MM te):=by
 intro pins s σ H Q I hw
 rw [evalPart_some]
 refine BD (h pins s σ H _ I hw) λu s1 ⟨x,H1,I1,r1,q1⟩=>?_
 obtain ⟨i,rfl,q⟩:=q1
 obtain ⟨t,rfl⟩:=r1
 exact ⟨some i,H1,I1,.int i t,q⟩
noncomputable def nr (X:Cx)(r:V->Option Int->Option Int->Hp->VK->Prop):Prop :=
 ∀ (pins:List (Addr × Obj)) (s:Shared) (σ:St) (H:Hp) (x:V) (v vl vu:Value) (lo hi:Option Int) (sl:Addr) (Q:VK),Inv X pins σ H s->RelV x v->s.heap.IsSliceOf sl vl vu .none->IsPart vl lo->IsPart vu hi->r x lo hi H Q ->
  ∃ T id,typeLookup (.type T) "__getitem__"=pure (some (.builtin id))/\s.TypeIs v T/\wpAny (model X.prog X.w) X.A (getItem v (.ref sl)) (EP X pins σ Q) X.xe s
noncomputable def nt (r:V->Option Int->Option Int->Hp->VK->Prop)(te:TE)(tl th:TO):TE:=fun σ H Q=>te σ H λx H1=>tl σ H1 λl H2=>th σ H2 λu H3=>r x l u H3 Q
theorem PK {r:V->Option Int->Option Int->Hp->VK->Prop}(hr:nr X r)(he:PE X e te)(hl:PO X lo tl)(hu:PO X hi th):PE X (.Subscript e (.Slice lo hi none p2) pos) (nt r te tl th):=by
 intro pins s σ H Q I h
 refine Subscript_ (BD (he pins s σ H _ I h) λv s1 ⟨x,H1,I1,r1,q1⟩=>?_)
 refine wpAny_Slice (BD (hl pins s1 σ H1 _ I1 q1) λvl s2 ⟨l,H2,I2,pl,q2⟩=>BD (hu pins s2 σ H2 _ I2 q2) λvu s3 ⟨u,H3,I3,pu,q3⟩=>?_)
 rw [evalPart_none]
 refine wpAny_pure ?_
 have I4:Inv X pins σ H3 { s3 with heap:=s3.heap.push { cls:=.type "slice",data:=.fields #[vl,vu,.none] } }:=I3.kept (t':=s3.toks) λb ob q=>Heap.get?_push_of_some _ q
 obtain ⟨T,id,hT,ht,hg⟩:=hr pins { s3 with heap:=s3.heap.push { cls:=.type "slice",data:=.fields #[vl,vu,.none] } } σ H3 x v vl vu l u s3.heap.objs.size Q I4 r1 (Heap.IsSliceOf.new ..) pl pu q3
 show wpAny (model X.prog X.w) X.A (subscriptTail e (.Slice lo hi none p2) v (.ref s3.heap.objs.size)) (EP X pins σ Q) X.xe { s3 with heap:=s3.heap.push { cls:=.type "slice",data:=.fields #[vl,vu,.none] } }
 exact tail_any (ops:=[.ref s3.heap.objs.size,v]) ht hT hg (by with_unfolding_all rfl)
noncomputable def D7 (xs:List V)(lo hi:Option Int):List V:=(xs.drop (HT.sIx xs.length 0 lo)).take (HT.sIx xs.length xs.length hi - HT.sIx xs.length 0 lo)
theorem Gi (xs:List V)(lo hi:Option Int):(D7 xs lo hi).length<=xs.length:=by
 unfold D7
 rw [List.length_take,List.length_drop]
 omega
inductive F6 (K:W.Frag)(x:V)(lo:(Option Int))(hi:(Option Int))(H:Hp)(Q:VK):Prop
 | mk (a:_) (xs:_) (h1:x=.ref a) (h2:Av K H a xs) (h3:¬ (HT.sIx xs.length 0 lo=0/\HT.sIx xs.length xs.length hi=xs.length)) (h4:∀ p,H p=none->Q (.ref p) (upd H p (.tup (D7 xs lo hi)))):F6 K x lo hi H Q
theorem Dt:nr X (F6 X.K):=by
 intro pins s σ H x v vl vu lo hi sl Q I rx hs pl pu h
 obtain ⟨a,xs,rfl,hx,hw,q⟩:=h
 cases rx
 obtain ⟨its,r,ht,hz⟩:=I.tuple hx
 have hlen:its.toArray.size=xs.length:=by rw [List.size_toArray];exact r.length.symm
 refine ⟨"tuple",_,PyProof.Rows.slot_tuple_getitem.lookup,ht.typeIs,?_⟩
 refine HT.getItem_tuple_cut ht hs pl pu (by rw [hlen];exact hw) ?_ (by rw [hlen];exact hz)
 rw [hlen]
 refine ⟨.ref s.heap.objs.size,_,I.laid (t':=s.toks) (o:=.tup (D7 xs lo hi)) (λb ob q=>Heap.get?_push_of_some _ q) (Nat.le_refl _) ?_,rfl,q _ (I.hok.fresh (Nat.le_refl _))⟩
 exact ⟨Nat.le_trans (Gi xs lo hi) hz,_,(r.drop (HT.sIx xs.length 0 lo)).take (HT.sIx xs.length xs.length hi - HT.sIx xs.length 0 lo),IsTup.new _ _⟩
inductive Fp (K:W.Frag)(x:V)(y:V)(H:Hp)(Q:VK):Prop
 | mk (a:_) (b:_) (xs:_) (ys:_) (h1:x=.ref a) (h2:y=.ref b) (h3:Av K H a xs) (h4:Av K H b ys) (h5:xs≠[]) (h6:xs.length+ys.length<=sizeLine) (h7:(ys=[]->Q (.ref a) H)) (h8:(ys≠[]->∀ p,H p=none->Q (.ref p) (upd H p (.tup (xs++ys))))):Fp K x y H Q
theorem Vals.nil_iff {xs:List V}{us:List Value}(r:Vals xs us):us=[]↔xs=[]:=by
 cases r with
 | nil=>simp
 | cons _ _=>simp
theorem Fq:EG X (binaryOp .Add) (Fp X.K):=by
 intro pins s σ H x y v u Q I rx ry h
 obtain ⟨a,b,xs,ys,rfl,rfl,ha,hb,hx,hz,q1,q2⟩:=h
 cases rx
 cases ry
 obtain ⟨its,r1,p1,_⟩:=I.tuple ha
 obtain ⟨IX,r2,p2,_⟩:=I.tuple hb
 refine HT.cat_tup p1 p2 (λz=>hx (r1.nil_iff.mp z)) (λz=>⟨.ref a,H,I,rfl,q1 (r2.nil_iff.mp z)⟩) (λz=>?_) (by rw [<- r1.length,<- r2.length];exact hz)
 refine ⟨.ref s.heap.objs.size,_,I.laid (t':=s.toks) (o:=.tup (xs++ys)) (λb ob q=>Heap.get?_push_of_some _ q) (Nat.le_refl _) ?_,rfl,q2 (λw=>z (r2.nil_iff.mpr w)) _ (I.hok.fresh (Nat.le_refl _))⟩
 exact ⟨by rw [List.length_append];exact hz,_,r1.append r2,IsTup.new _ _⟩
end
noncomputable def fE (n:Nat)(i:Int):Option Nat:=if 0<=i then (if i < n then some i.toNat else none) else if -(n:Int)<=i then some (i+n).toNat else none
noncomputable def MN {α:Type}(xs:List α)(i:Int):Option α:=(fE xs.length i).bind λj=>xs[j]?
theorem Si {n:Nat}{i:Int}{j:Nat}(h:fE n i=some j):seqIndex? i n=some j/\j < n/\-(n:Int)<=i/\i < n:=by
 unfold fE at h
 by_cases h0:0<=i
 ·rw [if_pos h0] at h
  by_cases h1:i < n
  ·rw [if_pos h1] at h
   have e:i.toNat=j:=Option.some.inj h
   exact ⟨by rw [seqIndex_of h0 h1,e],(),(),h1⟩
  ·rw [if_neg h1] at h;cases h
 ·rw [if_neg h0] at h
  by_cases h1:-(n:Int)<=i
  ·rw [if_pos h1] at h
   have e:(i+n).toNat=j:=Option.some.inj h
   exact ⟨by rw [seqIndex_neg () h1,e],(),h1,()⟩
  ·rw [if_neg h1] at h;cases h
theorem MO {α:Type}{xs:List α}{i:Int}{v:α}(h:MN xs i=some v):∃ j,seqIndex? i xs.length=some j/\xs[j]?=some v/\j < xs.length/\-(xs.length:Int)<=i/\i < xs.length:=by
 unfold MN at h
 cases e:fE xs.length i with
 | none=>rw [e] at h;cases h
 | some j =>
  rw [e] at h
  obtain ⟨h1,h2,h3,h4⟩:=Si e
  exact ⟨j,h1,h,h2,h3,h4⟩
theorem Ak {α:Type}{xs:List α}{j:Nat}{v:α}(h:xs[j]?=some v):MN xs (j:Int)=some v:=by
 have hj:j < xs.length:=(List.getElem?_eq_some_iff.mp h).1
 have e:fE xs.length (j:Int)=some j:=by
  unfold fE
  rw [if_pos (),if_pos ()];simp
 unfold MN;rw [e];exact h
noncomputable def MP (b:Expr):Prop:=∀ o i,subscripted b false o i=operate [o,i] (getItem o i)
noncomputable def gS (X:Cx)(r:R2):Prop :=
 ∀ (value slice:Expr) (pins:List (Addr × Obj)) (s:Shared) (σ:St) (H:Hp) (x y:V) (v u:Value) (Q:VK),Inv X pins σ H s->RelV x v->RelV y u->r x y H Q ->
  subscripted slice false v u=operate [v,u] (getItem v u)->wpAny (model X.prog X.w) X.A (subscriptTail value slice v u) (EP X pins σ Q) X.xe s
noncomputable def nu (X:Cx)(id:String)(r:V->List V->Hp->VK->Prop):Prop :=
 ∀ (pins:List (Addr × Obj)) (s:Shared) (σ:St) (H:Hp) (x:V) (xs:List V) (v:Value) (us:List Value) (Q:VK),Inv X pins σ H s->RelV x v->Vals xs us->r x xs H Q ->
  wpAny (model X.prog X.w) X.A (call (.builtin id) (v::us)) (EP X pins σ Q) X.xe s
section
variable {X:Cx}{a b:Expr}{ta tb:TE}{pos:Pos}
theorem V8 {r:R2}(hr:gS X r)(ha:PE X a ta)(hb:PE X b tb)(hs:MP b):PE X (.Subscript a b pos) (Fl r ta tb):=by
 intro pins s σ H Q I h
 exact Subscript_ (Wz ha hb I h λv u s2 x y H2 I2 rx ry q=>hr a b pins s2 σ H2 x y v u Q I2 rx ry q (hs _ _))
inductive Bw (K:W.Frag)(x:V)(y:V)(H:Hp)(Q:VK):Prop
 | mk (p:_) (xs:_) (i:_) (v:_) (h1:x=.ref p) (h2:y=.int i) (h3:B3 K H p xs) (h4:MN xs i=some v) (h5:Q v H):Bw K x y H Q
inductive AA (K:W.Frag)(x:V)(y:V)(H:Hp)(Q:VK):Prop
 | mk (p:_) (xs:_) (i:_) (v:_) (h1:x=.ref p) (h2:y=.int i) (h3:Av K H p xs) (h4:MN xs i=some v) (h5:Q v H):AA K x y H Q
theorem AJ:gS X (Bw X.K):=by
 intro value slice pins s σ H x y v u Q I rx ry h hs
 obtain ⟨p,xs,i,z,rfl,rfl,hq,he,q⟩:=h
 cases rx
 obtain ⟨t,rfl⟩:=ry
 obtain ⟨its,r,pl,hz⟩:=I.list hq
 obtain ⟨j,h1,h2,h3,h4,h5⟩:=MO he
 obtain ⟨w,ew,P1⟩:=r.get h2
 have hl:=r.length
 have hn:=IV
 have fin:EP X pins σ Q w s:=⟨z,H,I,P1,q⟩
 by_cases h0:0<=i
 ·have hj:i.toNat=j:=by
   rw [seqIndex_of h0 h5] at h1
   exact Option.some.inj h1
  exact item_listR pl.isList h0 () (by rw [hj];simpa using ew) fin hs
 ·have hj:(i+(its.toArray.size:Int)).toNat=j:=by
   rw [seqIndex_neg () h4] at h1
   rw [List.size_toArray,<- hl]
   exact Option.some.inj h1
  exact subscriptTail_builtinR (x:=w) pl.isList.typeIs slot_list_getitem.lookup
   (wpAny_getItem_list_neg (Q:=λr s'=>r=w/\EP X pins σ Q r s') pl.isList () (by rw [List.size_toArray] <;> omega) () (by rw [hj];simpa using ew) ⟨rfl,fin⟩) hs
theorem Aj:gS X (AA X.K):=by
 intro value slice pins s σ H x y v u Q I rx ry h hs
 obtain ⟨p,xs,i,z,rfl,rfl,hq,he,q⟩:=h
 cases rx
 obtain ⟨t,rfl⟩:=ry
 obtain ⟨its,r,pl,hz⟩:=I.tuple hq
 obtain ⟨j,h1,h2,h3,h4,h5⟩:=MO he
 obtain ⟨w,ew,P1⟩:=r.get h2
 have hl:=r.length
 have hn:=IV
 have fin:EP X pins σ Q w s:=⟨z,H,I,P1,q⟩
 exact subscriptTail_builtinR (x:=w) pl.typeIs slot_tuple_getitem.lookup
  (getItem_tuple (j:=j) (Q:=λr s'=>r=w/\EP X pins σ Q r s') pl () () (by rw [List.size_toArray,<- hl];exact h1) (by simpa using ew) ⟨rfl,fin⟩) hs
theorem IY (lo hi:Option Int)(n:Nat):(sliceBounds lo hi none n).1=((HT.sIx n 0 lo:Nat):Int)/\(sliceBounds lo hi none n).2.1=((HT.sIx n n hi:Nat):Int)/\(sliceBounds lo hi none n).2.2=1:=by
 refine ⟨?_,?_,rfl⟩
 ·cases lo with
  | none=>simp [sliceBounds,HT.sIx]
  | some i =>
   simp only [sliceBounds,HT.sIx,Option.getD_none,show (1:Int) > 0 by decide,if_true]
   by_cases h:i < 0
   ·simp only [h,if_true] <;> omega
   ·simp only [h,if_false] <;> omega
 ·cases hi with
  | none=>simp [sliceBounds,HT.sIx]
  | some i =>
   simp only [sliceBounds,HT.sIx,Option.getD_none,show (1:Int) > 0 by decide,if_true]
   by_cases h:i < 0
   ·simp only [h,if_true] <;> omega
   ·simp only [h,if_false] <;> omega
theorem HL (its:List Value)(lo hi:Option Int):slicePick its.toArray lo hi none=((its.drop (HT.sIx its.length 0 lo)).take (HT.sIx its.length its.length hi - HT.sIx its.length 0 lo)).toArray:=by
 obtain ⟨h1,h2,h3⟩:=IY lo hi its.toArray.size
 unfold slicePick
 rw [h1,h2,h3]
 simp only [sliceRange_one,pick_run,List.size_toArray] <;> rfl
noncomputable def O3 (K:W.Frag):V->Option Int->Option Int->Hp->VK->Prop:=λx lo hi H Q=>∃ a xs,x=.ref a/\B3 K H a xs/\∀ p,H p=none->Q (.ref p) (upd H p (.lst (D7 xs lo hi)))
theorem GA:nr X (O3 X.K):=by
 intro pins s σ H x v vl vu lo hi sl Q I rx hs pl pu h
 obtain ⟨a,xs,rfl,hx,q⟩:=h
 cases rx
 obtain ⟨its,r,ht,hz⟩:=I.list hx
 have hlen:=r.length
 refine ⟨"list",_,slot_list_getitem.lookup,ht.isList.typeIs,?_⟩
 refine wpAny_getItem_list_slice ht.isList hs pl pu .none (by simp) ?_ (by rw [List.size_toArray] <;> omega)
 rw [HL,<- hlen]
 refine ⟨.ref s.heap.objs.size,_,I.laid (t':=s.toks) (o:=.lst (D7 xs lo hi)) (λb ob q=>Heap.get?_push_of_some _ q) (Nat.le_refl _) ?_,rfl,q _ (I.hok.fresh (Nat.le_refl _))⟩
 exact ⟨Nat.le_trans (Gi xs lo hi) hz,_,0,(r.drop (HT.sIx xs.length 0 lo)).take (HT.sIx xs.length xs.length hi - HT.sIx xs.length 0 lo),Heap.get?_push_size _ rfl⟩
noncomputable def DQ:V->Bool
 | .non=>true
 | .bl _=>true
 | .int _=>true
 | .str _=>true
 | _=>false
noncomputable def PL:V->V->Bool
 | .non,.non=>true
 | .bl a,.bl b=>a==b
 | .bl a,.int b=>(if a then 1 else 0)==b
 | .int a,.bl b=>a==(if b then 1 else 0)
 | .int a,.int b=>a==b
 | .str a,.str b=>a==b
 | _,_=>false
theorem WM {A:Around}{s:Shared}{y x:V}{u v:Value}(ry:RelV y u)(rx:RelV x v)(fy:DQ y=true)(fx:DQ x=true):SeqAt.EqAt A s u v (PL y x):=by
 cases y with
 | non =>
  cases ry
  cases x with
  | non=>cases rx;exact SeqAt.EqAt.same _
  | bl b=>cases rx;exact SeqAt.EqAt.none_bool b
  | int b=>obtain ⟨t,rfl⟩:=rx;exact SeqAt.EqAt.none_int b t
  | str b=>obtain ⟨t,rfl⟩:=rx;exact SeqAt.EqAt.none_str b t
  | _=>exact absurd (show false=true from fx) Bool.false_ne_true
 | bl a =>
  cases ry
  cases x with
  | non=>cases rx;exact SeqAt.EqAt.bool_none a
  | bl b=>cases rx;exact SeqAt.EqAt.bool_bool a b
  | int b=>obtain ⟨t,rfl⟩:=rx;exact SeqAt.EqAt.bool_int a b t
  | str b=>obtain ⟨t,rfl⟩:=rx;exact SeqAt.EqAt.bool_str a b t
  | _=>exact absurd (show false=true from fx) Bool.false_ne_true
 | int a =>
  obtain ⟨t',rfl⟩:=ry
  cases x with
  | non=>cases rx;exact SeqAt.EqAt.int_none a t'
  | bl b=>cases rx;exact SeqAt.EqAt.int_bool a t' b
  | int b=>obtain ⟨t,rfl⟩:=rx;exact SeqAt.EqAt.int_int a t' b t
  | str b=>obtain ⟨t,rfl⟩:=rx;exact SeqAt.EqAt.int_str a t' b t
  | _=>exact absurd (show false=true from fx) Bool.false_ne_true
 | str a =>
  obtain ⟨t',rfl⟩:=ry
  cases x with
  | non=>cases rx;exact SeqAt.EqAt.str_none a t'
  | bl b=>cases rx;exact SeqAt.EqAt.str_bool a t' b
  | int b=>obtain ⟨t,rfl⟩:=rx;exact SeqAt.EqAt.str_int a t' b t
  | str b=>obtain ⟨t,rfl⟩:=rx;exact SeqAt.EqAt.str_str a t' b t
  | _=>exact absurd (show false=true from fx) Bool.false_ne_true
 | _=>exact absurd (show false=true from fy) Bool.false_ne_true
noncomputable def LF (x:V)(u:Value):Bool:=match u with
 | .none=>PL .non x
 | .bool b=>PL (.bl b) x
 | .int i _=>PL (.int i) x
 | .str z _=>PL (.str z) x
 | _=>false
theorem PN {x y:V}{u:Value}(r:RelV y u)(f:DQ y=true):LF x u=PL y x:=by
 cases y with
 | non=>cases r;rfl
 | bl b=>cases r;rfl
 | int i=>obtain ⟨t,rfl⟩:=r;rfl
 | str z=>obtain ⟨t,rfl⟩:=r;rfl
 | _=>exact absurd (show false=true from f) Bool.false_ne_true
theorem Fs {x:V}:∀ {xs:List V} {us:List Value},Vals xs us->xs.all DQ=true->us.any (LF x)=xs.any λy=>PL y x
 | _,_,.nil,_=>rfl
 | y::xs,u::us,.cons r t,f=>by
  rw [List.all_cons,Bool.and_eq_true] at f
  rw [List.any_cons,List.any_cons,PN r f.1,Fs t f.2]
theorem En {A:Around}{s:Shared}{x:V}{v:Value}(rx:RelV x v)(fx:DQ x=true):∀ {xs:List V} {us:List Value},Vals xs us->xs.all DQ=true->∀ u∈us,SeqAt.EqAt A s u v (LF x u)
 | _,_,.nil,_=>λu hu=>by cases hu
 | y::xs,u::us,.cons r t,f=>λu' hu=>by
  rw [List.all_cons,Bool.and_eq_true] at f
  rcases List.mem_cons.mp hu with rfl | hu
  ·rw [PN r f.1];exact WM r rx f.1 fx
  ·exact En rx fx t f.2 u' hu
noncomputable def Cr (x:V)(xs:List V):Bool:=xs.any λy=>PL y x
noncomputable def FT (K:W.Frag)(neg:Bool):R2:=λx y H Q=>∃ p xs,y=.ref p/\(B3 K H p xs\/Av K H p xs)/\DQ x=true/\xs.all DQ=true/\Q (.bl (if neg then !Cr x xs else Cr x xs)) H
theorem B0:EG X (compareOp .In) (FT X.K false):=by
 intro pins s σ H x y v u Q I rx ry h
 obtain ⟨p,xs,rfl,hq,fx,fs,q⟩:=h
 cases ry
 rcases hq with hq | hq
 ·obtain ⟨its,r,pl,hz⟩:=I.list hq
  refine SeqAt.in_listAt (LF x) pl.isList (λw hw=>En rx fx r fs w (by simpa using hw)) ⟨.bl _,H,I,rfl,?_⟩
  rw [show its.toArray.any (LF x)=its.any (LF x) by simp,Fs r fs]
  exact q
 ·obtain ⟨its,r,pl,hz⟩:=I.tuple hq
  refine SeqAt.in_tupleAt (LF x) pl (λw hw=>En rx fx r fs w (by simpa using hw)) ⟨.bl _,H,I,rfl,?_⟩
  rw [show its.toArray.any (LF x)=its.any (LF x) by simp,Fs r fs]
  exact q
theorem Ft:EG X (compareOp .NotIn) (FT X.K true):=by
 intro pins s σ H x y v u Q I rx ry h
 obtain ⟨p,xs,rfl,hq,fx,fs,q⟩:=h
 cases ry
 rcases hq with hq | hq
 ·obtain ⟨its,r,pl,hz⟩:=I.list hq
  refine SeqAt.notIn_listAt (LF x) pl.isList (λw hw=>En rx fx r fs w (by simpa using hw)) ⟨.bl _,H,I,rfl,?_⟩
  rw [show its.toArray.any (LF x)=its.any (LF x) by simp,Fs r fs]
  exact q
 ·obtain ⟨its,r,pl,hz⟩:=I.tuple hq
  refine SeqAt.notIn_tupleAt (LF x) pl (λw hw=>En rx fx r fs w (by simpa using hw)) ⟨.bl _,H,I,rfl,?_⟩
  rw [show its.toArray.any (LF x)=its.any (LF x) by simp,Fs r fs]
  exact q
theorem Ax:Ds X (.builtin "len") (λxs H Q=>∃ p ys,xs=[.ref p]/\(B3 X.K H p ys\/Av X.K H p ys)/\Q (.int ys.length) H):=by
 intro pins s σ H xs us Q I r h
 obtain ⟨p,ys,rfl,hq,q⟩:=h
 obtain ⟨u,rfl,rx⟩:=vals1 r
 cases rx
 have hn:=IV
 rcases hq with hq | hq
 ·obtain ⟨its,r',pl,hz⟩:=I.list hq
  have hlen:=r'.length
  exact Calls.call_len_list pl.isList (by simp only [List.size_toArray] <;> omega) ⟨.int ys.length,H,I.tok _,⟨s.toks+1,by rw [List.size_toArray,hlen]⟩,q⟩
 ·obtain ⟨its,r',pl,hz⟩:=I.tuple hq
  have hlen:=r'.length
  exact len_tuple pl (by simp only [List.size_toArray] <;> omega) ⟨.int ys.length,H,I.tok _,⟨s.toks+1,by rw [List.size_toArray,hlen]⟩,q⟩
theorem E5:Ds X (.type "list") (λxs H Q=>∃ p ys,xs=[.ref p]/\(B3 X.K H p ys\/Av X.K H p ys)/\∀ l,H l=none->Q (.ref l) (upd H l (.lst ys))):=by
 intro pins s σ H xs us Q I r h
 obtain ⟨p,ys,rfl,hq,q⟩:=h
 obtain ⟨u,rfl,rx⟩:=vals1 r
 cases rx
 have fin:∀ (its:List Value),Vals ys its->ys.length<=sizeLine->∀ (h':Heap) (c':Nat),(∀ b o',s.heap.get? b=some o'->h'.get? b=some o') ->
   h'.get? s.heap.objs.size=some { cls:=.type "list",dict:=none,data:=.seq its.toArray c',slots:=#[] }->EP X pins σ Q (.ref s.heap.objs.size) { s with heap:=h' }:=λits r' hz h' c' kp e =>
  ⟨.ref s.heap.objs.size,_,I.laid (t':=s.toks) kp (Nat.le_refl _) (show Br X.prog X.w _ h' _ (.lst ys) from ⟨hz,its,c',r',e⟩),rfl,q _ (I.hok.fresh (Nat.le_refl _))⟩
 rcases hq with hq | hq
 ·obtain ⟨its,r',pl,hz⟩:=I.list hq
  have hlen:=r'.length
  obtain ⟨o,ho,hc,n,hd⟩:=pl.isList
  exact call_list_seq p (.inl rfl) ho hc hd (λh' c' kp e=>fin its r' hz h' c' kp e) (by simp only [List.size_toArray] <;> omega)
 ·obtain ⟨its,r',pl,hz⟩:=I.tuple hq
  have hlen:=r'.length
  obtain ⟨o,ho,hc,n,hd⟩:=pl
  exact call_list_seq p (.inr rfl) ho hc hd (λh' c' kp e=>fin its r' hz h' c' kp e) (by simp only [List.size_toArray] <;> omega)
theorem DJ:Ds X (.type "tuple") (λxs H Q=>∃ p ys,xs=[.ref p]/\((B3 X.K H p ys/\∀ l,H l=none->Q (.ref l) (upd H l (.tup ys)))\/(Av X.K H p ys/\Q (.ref p) H))):=by
 intro pins s σ H xs us Q I r h
 obtain ⟨p,ys,rfl,h⟩:=h
 obtain ⟨u,rfl,rx⟩:=vals1 r
 cases rx
 rcases h with ⟨hq,q⟩ | ⟨hq,q⟩
 ·obtain ⟨its,r',pl,hz⟩:=I.list hq
  have hlen:=r'.length
  refine call_tuple_list pl.isList (λh' kp=>?_) (by simp only [List.size_toArray] <;> omega)
  have I1:Inv X pins σ H { s with heap:=h' }:=I.kept (t':=s.toks) kp
  have I2:Inv X pins σ (upd H h'.objs.size (.tup ys)) { s with heap:=h'.push { cls:=.type "tuple",data:=.seq its.toArray } } :=
   I1.laid (t':=s.toks) (λb o e=>Heap.get?_push_of_some _ e) (Nat.le_refl _) (show Br X.prog X.w _ _ _ (.tup ys) from ⟨hz,its,r',IsTup.new _ _⟩)
  exact ⟨.ref h'.objs.size,_,I2,rfl,q _ (I1.hok.fresh (Nat.le_refl _))⟩
 ·obtain ⟨its,r',pl,hz⟩:=I.tuple hq
  exact call_tuple_same pl ⟨.ref p,H,I,rfl,q⟩
noncomputable def gT (K:W.Frag)(T:String)(x:V)(H:Hp):Prop:=match x with
 | .str _=>T="str"
 | .int _=>T="int"
 | .ref p=>(T="list"/\∃ xs,B3 K H p xs)\/(T="tuple"/\∃ o,K.lookup p=some o/\o.cls=.type "tuple"/\o.dict=none) \/
   (T="dict"/\((∃ AI,H p=some (.dK AI))\/∃ AI,H p=some (.dT AI)))\/(T="set"/\∃ S n,H p=some (.set S n))
 | _=>False
theorem PQ {pins:List (Addr × Obj)}{σ:St}{H:Hp}{s:Shared}{T:String}{x:V}{v:Value}(I:Inv X pins σ H s)(r:RelV x v)(ty:gT X.K T x H):
  s.TypeIs v T/\∀ a,v=.ref a->∃ ob,s.heap.get? a=some ob/\ob.dict=none:=by
 cases x with
 | str z =>
  obtain ⟨t,rfl⟩:=r
  cases (show T="str" from ty)
  exact ⟨typeIs_str s z t,λ_ e=>nomatch e⟩
 | int i =>
  obtain ⟨t,rfl⟩:=r
  cases (show T="int" from ty)
  exact ⟨typeIs_int s i t,λ_ e=>nomatch e⟩
 | ref p =>
  cases r
  rcases ty with ⟨rfl,xs,hq⟩ | ⟨rfl,o,hk,hc,hd⟩ | ⟨rfl,hk⟩ | ⟨rfl,S,n,hk⟩
  ·obtain ⟨its,_,pl,_⟩:=I.list hq
   refine ⟨pl.isList.typeIs,λa e=>?_⟩
   cases e
   obtain ⟨o,n,e,c,hd,_⟩:=pl
   exact ⟨o,e,hd⟩
  ·refine ⟨⟨o,I.kIn p o hk,hc⟩,λa e=>?_⟩
   cases e
   exact ⟨o,I.kIn _ o hk,hd⟩
  ·have z:∃ o,s.heap.get? p=some o/\o.ExactDict:=by
    rcases hk with ⟨AI,hk⟩ | ⟨AI,hk⟩
    ·obtain ⟨_,_,_,_,o,_,_,e,ex,_⟩:=I.hok p _ hk
     exact ⟨o,e,ex⟩
    ·obtain ⟨_,_,_,_,o,_,_,e,ex,_⟩:=I.hok p _ hk
     exact ⟨o,e,ex⟩
   obtain ⟨o,e,ex⟩:=z
   refine ⟨⟨o,e,ex.1⟩,λa e2=>?_⟩
   cases e2
   exact ⟨o,e,ex.2.1⟩
  ·obtain ⟨o,_,_,_,e,ex,_⟩:=I.hok p _ hk
   refine ⟨⟨o,e,ex.1⟩,λa e2=>?_⟩
   cases e2
   exact ⟨o,e,ex.2.1⟩
 | _=>exact False.elim ty
noncomputable def Sj (K:W.Frag)(T:String)(r:V->List V->Hp->VK->Prop)(to:TE):TE:=fun σ H Q=>to σ H λx H1=>gT K T x H1/\r x [] H1 Q
noncomputable def qc (K:W.Frag)(T:String)(r:V->List V->Hp->VK->Prop)(to:TE)(t:TA):TE:=fun σ H Q=>to σ H λx H1=>gT K T x H1/\t σ H1 λxs H2=>r x xs H2 Q
variable {o e:Expr}{es:List Expr}{to:TE}{t:TA}{name:Str}{apos D8:Pos}{T id:String}{r:V->List V->Hp->VK->Prop}
theorem WN (pa:PlainAttrs T)(slot:Slot T name id)(WO:typeOf (.builtin id)=pure (.type "method_descriptor"))(hm:nu X id r)(ho:PE X o to)
  (GW:attributeBase o name X.env (eval o X.env)=eval o X.env:=by rfl) (GX:(apos.endLine==D8.line)=true:=by rfl):PE X (.Call (.Attribute o name apos) [] [] D8) (Sj X.K T r to):=by
 intro pins s σ H Q I h
 refine wpAny_Call_method0_late GW GX (BD (ho pins s σ H _ I h) λv s1 ⟨x,H1,I1,r1,ty,q1⟩=>?_)
 obtain ⟨h1,h2⟩:=PQ I1 r1 ty
 exact ⟨T,id,pa,slot,WO,h1,h2,Calls.callWith_builtin rfl (PySem.evalArgs_none (hm pins s1 σ H1 x [] v [] Q I1 r1 .nil q1))⟩
theorem gU (pa:PlainAttrs T)(slot:Slot T name id)(WO:typeOf (.builtin id)=pure (.type "method_descriptor"))(hm:nu X id r)(ho:PE X o to)(ha:PA X (e::es) t)
  (GW:attributeBase o name X.env (eval o X.env)=eval o X.env:=by rfl)
  (WQ:((backTo D8 (starEach (e::es) X.env)).all (λx=>!x.1) && (backToKw D8 (keywordEach [] X.env)).all (λx=>x.1.isSome)
   && decide ((e::es).length+([]:List Keyword).length+(if ([]:List Keyword).isEmpty then 0 else 1) < 30))=true:=by rfl)
  (GX:(apos.endLine==D8.line)=true:=by rfl) (hs:starEach (e::es) X.env=(false,eval e X.env)::starEach es X.env:=by rfl) (LG:(backTo D8 (starEach es X.env)).any (·.1)=false:=by rfl) :
  PE X (.Call (.Attribute o name apos) (e::es) [] D8) (qc X.K T r to t):=by
 intro pins s σ H Q I h
 refine wpAny_Call_method_late GW WQ GX rfl (BD (ho pins s σ H _ I h) λv s1 ⟨x,H1,I1,r1,ty,q1⟩=>?_)
 obtain ⟨h1,h2⟩:=PQ I1 r1 ty
 refine ⟨T,id,pa,slot,WO,h1,h2,?_⟩
 have hA:=ha D8 pins s1 σ H1 _ I1 q1
 rw [hs] at hA ⊢
 refine Calls.callWith_builtin (by show (false || (backTo D8 (starEach es X.env)).any (·.1))=false;rw [LG] <;> rfl) (Calls.evalArgs_plain ?_)
 exact BD hA λus s2 ⟨vs,H2,I2,r2,q2⟩=>hm pins s2 σ H2 x vs v us Q I2 r1 r2 q2
end
noncomputable def qd (X:Cx)(id:String)(r:V->List V->Hp->VK->Prop):Prop :=
 ∀ (pins:List (Addr × Obj)) (s:Shared) (σ:St) (H:Hp) (x:V) (xs:List V) (v:Value) (us:List Value) (Q:VK),Inv X pins σ H s->RelV x v->Vals xs us->r x xs H Q ->
  wpAny (model X.prog X.w) X.A (call (.builtin id) (v::us)) (EP X pins σ Q) X.xe s
theorem Vals.one:∀ {x:V} {us:List Value},Vals [x] us->∃ u,us=[u]/\RelV x u
 | _,_,.cons r .nil=>⟨_,rfl,r⟩
theorem Vals.zero:∀ {us:List Value},Vals [] us->us=[]
 | _,.nil=>rfl
theorem Vals.dropLast {xs:List V}{us:List Value}(h:Vals xs us):Vals xs.dropLast us.dropLast:=by
 induction h with
 | nil=>exact .nil
 | cons r t ih =>
  cases t with
  | nil=>exact .nil
  | cons q t'=>exact .cons r ih
theorem Vals.reverse {xs:List V}{us:List Value}(h:Vals xs us):Vals xs.reverse us.reverse:=by
 induction h with
 | nil=>exact .nil
 | cons r t ih=>rw [List.reverse_cons,List.reverse_cons];exact Vals.append ih (.cons r .nil)
theorem Vals.rep {xs:List V}{us:List Value}(h:Vals xs us):∀ k:Nat,Vals (List.replicate k xs).flatten (List.replicate k us).flatten
 | 0=>.nil
 | k+1=>by
  rw [List.replicate_succ,List.replicate_succ,List.flatten_cons,List.flatten_cons]
  exact Vals.append h (Vals.rep h k)
theorem LH {α:Type}(l:List α):l.eraseIdx (l.length - 1)=l.dropLast:=by
 induction l with
 | nil=>rfl
 | cons a r ih =>
  cases r with
  | nil=>rfl
  | cons b r =>
   have e:(a::b::r).length - 1=((b::r).length - 1)+1:=by
    have h1:(a::b::r).length=r.length+2:=rfl
    have h2:(b::r).length=r.length+1:=rfl
    omega
   rw [e,List.eraseIdx_cons_succ,ih]
   all_goals rfl
theorem foldl_rep (its:List Value):∀ (k:Nat) (acc:List Value),
  List.foldl (λx1 x2=>x1++x2) acc.toArray (List.replicate k its.toArray)=(acc++(List.replicate k its).flatten).toArray
 | 0,acc=>by simp
 | k+1,acc=>by
  have e:acc.toArray++its.toArray=(acc++its).toArray:=by simp
  have e2:(acc++its)++(List.replicate k its).flatten=acc++(List.replicate (k+1) its).flatten:=by
   rw [List.replicate_succ,List.flatten_cons,List.append_assoc]
  rw [<- e2,<- foldl_rep its k (acc++its),<- e,List.replicate_succ,List.foldl_cons]
section
variable {X:Cx}{pins:List (Addr × Obj)}{σ:St}{H:Hp}{s:Shared}{l b:Addr}{xs ys zs:List V}
theorem Inv.lset {its its':List Value}{n:Nat}{f:Array Value->Array Value}{t':Nat}(I:Inv X pins σ H s)(hH:H l=some (.lst xs))
  (e:s.heap.get? l=some { cls:=.type "list",data:=.seq its.toArray n }) (hf:f its.toArray=its'.toArray) (hv:Vals ys its') (hz:ys.length<=sizeLine) :
  Inv X pins σ (upd H l (.lst ys)) { s with heap:=s.heap.update l (Obj.mapSeq f),toks:=t' }:=by
 have q:=PySem.IsL.update e f
 rw [hf] at q
 refine I.write (x:=l) (e:=l) (by rw [hH];exact trivial) (.inl rfl) (λb' u hb hu=>(Heap.get?_update_other s.heap (Obj.mapSeq f) (Ne.symm hb)).trans hu) ⟨_,q⟩ ?_
 exact ⟨hz,its',_,hv,q⟩
theorem Inv.lnew {its:List Value}{t':Nat}(I:Inv X pins σ H s)(hv:Vals ys its)(hz:ys.length<=sizeLine):
  Inv X pins σ (upd H s.heap.objs.size (.lst ys)) { s with heap:=s.heap.push { cls:=.type "list",data:=.seq its.toArray },toks:=t' } :=
 I.laid (λ_ _ q=>Heap.get?_push_of_some _ q) (Nat.le_refl _) ⟨hz,its,0,hv,Heap.get?_push_size _ rfl⟩
theorem Inv.fresh (I:Inv X pins σ H s):H s.heap.objs.size=none:=I.hok.fresh (Nat.le_refl _)
theorem Inv.lstM (I:Inv X pins σ H s)(hH:H l=some (.lst xs)):xs.length<=sizeLine/\∃ (its:List Value) (n:Nat),Vals xs its/\xs.length=its.length/\s.heap.get? l=some { cls:=.type "list",data:=.seq its.toArray n }:=by
 obtain ⟨z,its,n,r,e⟩:=I.hok l _ hH
 exact ⟨z,its,n,r,r.length,e⟩
theorem JS {n:Nat}(h:n<=sizeLine):Builtin.List.listTooLong n=false:=by
 unfold Builtin.List.listTooLong
 exact decide_eq_false ()
end
section
variable {X:Cx}
inductive MQ (x:V)(vs:(List V))(H:Hp)(Q:VK):Prop
 | mk (l:_) (xs:_) (y:_) (h1:x=.ref l) (h2:vs=[y]) (h3:H l=some (.lst xs)) (h4:xs.length < sizeLine) (h5:Q .non (upd H l (.lst (xs++[y])))):MQ x vs H Q
theorem EH:qd X "list.append" MQ:=by
 intro pins s σ H x vs v us Q I rx rv h
 obtain ⟨l,xs,y,rfl,rfl,hH,hz,q⟩:=h
 cases rx
 obtain ⟨u,rfl,ru⟩:=rv.one
 obtain ⟨z,its,n,r,hl,e⟩:=I.lstM hH
 refine call_meets F.slot_list_append ⟨_,e,rfl⟩ F.entry_list_append (F.args_list_append_2 _ _) (PySem.list_append l its.toArray n u (by rw [List.size_toArray];omega)) ⟨e,?_⟩
 refine ⟨.non,_,I.lset (its':=its++[u]) hH e (by simp) (r.append (.cons ru .nil)) ?_,rfl,q⟩
 rw [List.length_append,List.length_singleton]
 omega
inductive MR (x:V)(vs:(List V))(H:Hp)(Q:VK):Prop
 | mk (l:_) (b:_) (xs:_) (zs:_) (h1:x=.ref l) (h2:vs=[.ref b]) (h3:H l=some (.lst xs)) (h4:H b=some (.lst zs)) (h5:xs.length+zs.length<=sizeLine) (h6:Q .non (upd H l (.lst (xs++zs)))):MR x vs H Q
theorem O4:qd X "list.extend" MR:=by
 intro pins s σ H x vs v us Q I rx rv h
 obtain ⟨l,b,xs,zs,rfl,rfl,hH,hB,hz,q⟩:=h
 cases rx
 obtain ⟨u,rfl,ru⟩:=rv.one
 cases ru
 obtain ⟨z,its,n,r,hl,e⟩:=I.lstM hH
 obtain ⟨z2,IX,n2,r2,GC,e2⟩:=I.lstM hB
 have hsz:its.toArray.size+IX.toArray.size<=sizeLine:=by rw [List.size_toArray,List.size_toArray];omega
 have PR:¬ (!its.toArray.isEmpty && Builtin.List.listTooLong (its.toArray.size+IX.toArray.size))=true:=by
  rw [JS hsz,Bool.and_false]
  exact Bool.false_ne_true
 refine call_meets F.slot_list_extend ⟨_,e,rfl⟩ F.entry_list_extend (F.args_list_extend_2 _ _)
  (AutoSeq1.list_extend_list_list_0 l its.toArray n b IX.toArray n2 PR (by rw [List.size_toArray];omega) ()) ⟨e,e2,?_⟩
 refine ⟨.non,_,I.lset (its':=its++IX) hH e (by simp) (r.append r2) ?_,rfl,q⟩
 rw [List.length_append]
 omega
inductive WR (x:V)(vs:(List V))(H:Hp)(Q:VK):Prop
 | mk (l:_) (xs:_) (y:_) (h1:x=.ref l) (h2:vs=[]) (h3:H l=some (.lst xs)) (h4:xs[xs.length - 1]?=some y) (h5:Q y (upd H l (.lst xs.dropLast))):WR x vs H Q
theorem IZ:qd X "list.pop" WR:=by
 intro pins s σ H x vs v us Q I rx rv h
 obtain ⟨l,xs,y,rfl,rfl,hH,hy,q⟩:=h
 cases rx
 have O5:=rv.zero
 subst O5
 obtain ⟨z,its,n,r,hl,e⟩:=I.lstM hH
 obtain ⟨u,hu,ru⟩:=r.get hy
 have ny:its.toArray[its.toArray.size - 1]?=some u:=by
  show its.toArray[its.length - 1]?=some u
  rw [<- Array.getElem?_toList,<- hl]
  exact hu
 refine call_meets F.slot_list_pop ⟨_,e,rfl⟩ F.entry_list_pop (F.args_list_pop_1 _) (MeetsSeq.list_pop_last l its.toArray n u ny (by rw [List.size_toArray];omega)) ⟨e,?_⟩
 refine ⟨y,_,I.lset (its':=its.dropLast) hH e ?_ r.dropLast ?_,ru,q⟩
 ·show its.toArray.eraseIdxIfInBounds (its.toArray.size - 1)=its.dropLast.toArray
  rw [List.size_toArray,List.eraseIdxIfInBounds_toArray,LH]
 ·rw [List.length_dropLast]
  omega
inductive LI (x:V)(y:V)(H:Hp)(Q:VK):Prop
 | mk (l:_) (b:_) (xs:_) (zs:_) (h1:x=.ref l) (h2:y=.ref b) (h3:H l=some (.lst xs)) (h4:H b=some (.lst zs)) (h5:xs.length+zs.length<=sizeLine) (h6:∀ p,H p=none->Q (.ref p) (upd H p (.lst (xs++zs)))):LI x y H Q
theorem Bf:EG X (binaryOp .Add) LI:=by
 intro pins s σ H x y v u Q I rx ry h
 obtain ⟨l,b,xs,zs,rfl,rfl,hH,hB,hz,q⟩:=h
 cases rx
 cases ry
 obtain ⟨z,its,n,r,hl,e⟩:=I.lstM hH
 obtain ⟨z2,IX,n2,r2,GC,e2⟩:=I.lstM hB
 refine PySem.P.add_list e e2 ?_ (by rw [List.size_toArray,List.size_toArray];omega)
 have ea:its.toArray++IX.toArray=(its++IX).toArray:=by simp
 rw [ea]
 exact ⟨.ref _,_,I.lnew (t':=s.toks) (r.append r2) (by rw [List.length_append];omega),rfl,q _ I.fresh⟩
noncomputable def qe:R2:=λx y H Q=>∃ l k xs,x=.ref l/\y=.int k/\H l=some (.lst xs)/\-(2 ^ 63)<=k/\k < 2 ^ 63/\xs.length * k.toNat<=sizeLine /\
 ∀ p,H p=none->Q (.ref p) (upd H p (.lst (List.replicate k.toNat xs).flatten))
theorem len_rep {α:Type}(xs:List α)(k:Nat):(List.replicate k xs).flatten.length=k * xs.length:=by
 induction k with
 | zero=>simp
 | succ k ih=>rw [List.replicate_succ,List.flatten_cons,List.length_append,ih,Nat.succ_mul,Nat.add_comm]
theorem WS:EG X (binaryOp .Mult) qe:=by
 intro pins s σ H x y v u Q I rx ry h
 obtain ⟨l,k,xs,rfl,rfl,hH,h1,h2,hz,q⟩:=h
 cases rx
 obtain ⟨t,rfl⟩:=ry
 obtain ⟨z,its,n,r,hl,e⟩:=I.lstM hH
 have hlen:its.toArray.size * k.toNat<=sizeLine:=by rw [List.size_toArray,<- hl];exact hz
 have qf:¬ its.toArray.size * k.toNat > (2 ^ 63 - 1) / 8:=by
  have:(sizeLine:Nat)<=(2 ^ 63 - 1) / 8:=by decide
  omega
 have Fu:¬ (!Builtin.List.listFitsIndex k)=true:=by
  rw [fitsIndex_both h1 h2]
  exact Bool.false_ne_true
 have PR:¬ Builtin.List.listTooLong (its.toArray.size * k.toNat)=true:=by
  rw [JS hlen]
  exact Bool.false_ne_true
 have PU:List.foldl (λx1 x2=>x1++x2) #[] (List.replicate (if its.toArray.isEmpty=true then 0 else k.toNat) its.toArray)=(List.replicate k.toNat its).flatten.toArray:=by
  have f0:∀ m:Nat,List.foldl (λx1 x2=>x1++x2) #[] (List.replicate m its.toArray)=(List.replicate m its).flatten.toArray:=λm=>by
   have:=foldl_rep its m []
   rw [List.nil_append] at this
   exact this
  rw [f0]
  cases its with
  | nil=>simp
  | cons a r'=>rw [if_neg (by simp)]
 refine wpAny_binaryOp_repeat_ref (T:="list") (U:="int") ⟨⟩ ⟨_,e,rfl⟩ (λs'=>typeIs_int s' k t) noFill_list_mul F.fills_int_mul F.slot_int_rmul repeat_list F.slot_int_index.lookup
  (call_meets F.slot_int_rmul (typeIs_int s k t) F.entry_int_rmul (F.args_int_rmul_2 _ _) (int___rmul___int_list k t l its.toArray n)
   ⟨e,rfl,⟨_,e,rfl⟩,call_meets F.slot_list_mul ⟨_,e,rfl⟩ F.entry_list_mul (F.args_list_mul_2 _ _) (AutoListH.list___mul___list_int_3 l its.toArray n k t Fu qf PR) ⟨e,?_⟩⟩)
 rw [PU]
 exact ⟨.ref _,_,I.lnew (t':=s.toks) (r.rep k.toNat) (by rw [len_rep,Nat.mul_comm];exact hz),rfl,q _ I.fresh⟩
end
section
variable {κ:Type}[DecidableEq κ]
noncomputable def C7 (AI:List (κ × V))(k:κ):Option V:=(AI.find? λkv=>decide (kv.1=k)).map (·.2)
noncomputable def putK (AI:List (κ × V))(k:κ)(v:V):List (κ × V) :=
 if (AI.any λkv=>decide (kv.1=k))=true then AI.map (λkv=>if kv.1=k then (kv.1,v) else kv) else AI++[(k,v)]
theorem CB {p:κ × V}{r:List (κ × V)}{k:κ}(e:p.1=k):C7 (p::r) k=some p.2:=by simp [C7,List.find?_cons,e]
theorem Ce {p:κ × V}{r:List (κ × V)}{k:κ}(e:¬ p.1=k):C7 (p::r) k=C7 r k:=by simp [C7,List.find?_cons,e]
theorem DR (k:κ):∀ AI:List (κ × V),(AI.any λkv=>decide (kv.1=k))=(C7 AI k).isSome
 | []=>rfl
 | p::r=>by
  rw [List.any_cons]
  by_cases e:p.1=k
  ·simp only [CB e,decide_eq_true e,Bool.true_or,Option.isSome_some]
  ·rw [Ce e,decide_eq_false e,Bool.false_or];exact DR k r
theorem JT (k j:κ)(y:V):∀ AI:List (κ × V),C7 (AI.map λkv=>if kv.1=k then (kv.1,y) else kv) j=(C7 AI j).map λx=>if j=k then y else x
 | []=>rfl
 | p::r=>by
  have ih:=JT k j y r
  rw [List.map_cons]
  by_cases h:p.1=k
  ·rw [if_pos h]
   by_cases e:p.1=j
   ·rw [CB (p:=(p.1,y)) e,CB e,Option.map_some,if_pos (e.symm.trans h)]
   ·rw [Ce (p:=(p.1,y)) e,Ce e,ih]
  ·rw [if_neg h]
   by_cases e:p.1=j
   ·rw [CB (p:=p) e,CB e,Option.map_some,if_neg (λz=>h (e.trans z))]
   ·rw [Ce (p:=p) e,Ce e,ih]
theorem Ii (k j:κ)(y:V):∀ AI:List (κ × V),C7 AI k=none->C7 (AI++[(k,y)]) j=if j=k then some y else C7 AI j
 | [],_=>by
  by_cases e:k=j
  ·rw [if_pos e.symm];exact CB (p:=(k,y)) e
  ·rw [if_neg (λz=>e z.symm)];exact Ce (p:=(k,y)) e
 | p::r,hn=>by
  rw [List.cons_append]
  have hk:¬ p.1=k:=λz=>by rw [CB z] at hn;cases hn
  rw [Ce hk] at hn
  have ih:=Ii k j y r hn
  by_cases e:p.1=j
  ·rw [CB e,CB e,if_neg (λz=>hk (e.trans z))]
  ·rw [Ce e,Ce e,ih]
theorem Fv (AI:List (κ × V))(k j:κ)(y:V):C7 (putK AI k y) j=if j=k then some y else C7 AI j:=by
 unfold putK
 by_cases a:(AI.any λkv=>decide (kv.1=k))=true
 ·rw [if_pos a,JT]
  rw [DR] at a
  by_cases e:j=k
  ·obtain ⟨x,hx⟩:=Option.isSome_iff_exists.mp a
   rw [if_pos e,e,hx,Option.map_some,if_pos rfl]
  ·rw [if_neg e]
   cases C7 AI j with
   | none=>rfl
   | some x=>rw [Option.map_some,if_neg e]
 ·rw [if_neg a]
  refine Ii k j y AI ?_
  rw [DR] at a
  cases q:C7 AI k with
  | none=>rfl
  | some x=>rw [q] at a;exact (a rfl).elim
theorem Eo (AI:List (κ × V))(k:κ)(v:V):(putK AI k v).length<=AI.length+1:=by
 unfold putK
 split
 ·rw [List.length_map];omega
 ·rw [List.length_append,List.length_cons,List.length_nil];omega
theorem PV {AI:List (κ × V)}{k:κ}(v:V)(h:C7 AI k=none):putK AI k v=AI++[(k,v)]:=by
 unfold putK
 rw [DR,h]
 exact if_neg ⟨⟩
theorem F4.isSome_eq {o:Option V}{u:Option Value}(r:F4 o u):o.isSome=u.isSome:=by
 cases o with
 | none=>cases u with
  | none=>rfl
  | some _=>exact (show False from r).elim
 | some _=>cases u with
  | none=>exact (show False from r).elim
  | some _=>rfl
theorem F4.getD {o:Option V}{u:Option Value}{d:V}{d':Value}(r:F4 o u)(left:RelV d d'):RelV (o.getD d) (u.getD d'):=by
 cases o with
 | none=>cases u with
  | none=>exact left
  | some _=>exact (show False from r).elim
 | some _=>cases u with
  | none=>exact (show False from r).elim
  | some _=>exact r
theorem KV.val {AI:List (κ × V)}{vs:List (κ × Value)}(r:KV AI vs)(k:κ):F4 (C7 AI k) (valueAt vs k):=by
 unfold KV at r
 induction r with
 | nil=>exact True.intro
 | @cons p q ps qs h t ih =>
  obtain ⟨h1,h2⟩:=h
  by_cases e:p.1=k
  ·have e':q.1=k:=h1.symm.trans e
   have b:valueAt (q::qs) k=some q.2:=by simp [valueAt,List.find?_cons,e']
   rw [CB e,b];exact h2
  ·have e':¬ q.1=k:=λz=>e (h1.trans z)
   have b:valueAt (q::qs) k=valueAt qs k:=by simp [valueAt,List.find?_cons,e']
   rw [Ce e,b];exact ih
theorem KV.any {AI:List (κ × V)}{vs:List (κ × Value)}(r:KV AI vs)(k:κ):(AI.any λkv=>decide (kv.1=k))=vs.any λkv=>decide (kv.1=k):=by
 unfold KV at r
 induction r with
 | nil=>rfl
 | cons h t ih=>rw [List.any_cons,List.any_cons,ih,h.1]
theorem KV.repl {AI:List (κ × V)}{vs:List (κ × Value)}(r:KV AI vs)(k:κ){y:V}{u:Value}(ry:RelV y u):
  KV (AI.map λkv=>if kv.1=k then (kv.1,y) else kv) (vs.map λkv=>if kv.1=k then (kv.1,u) else kv):=by
 unfold KV at r ⊢
 induction r with
 | nil=>exact .nil
 | @cons p q ps qs h t ih =>
  rw [List.map_cons,List.map_cons]
  refine .cons ?_ ih
  obtain ⟨h1,h2⟩:=h
  by_cases e:p.1=k
  ·rw [if_pos e,if_pos (h1.symm.trans e)];exact ⟨h1,ry⟩
  ·rw [if_neg e,if_neg (λz=>e (h1.trans z))];exact ⟨h1,h2⟩
theorem KV.put {AI:List (κ × V)}{vs:List (κ × Value)}(r:KV AI vs)(k:κ){y:V}{u:Value}(ry:RelV y u):KV (putK AI k y) (stored vs k u):=by
 unfold putK stored
 rw [r.any k]
 by_cases e:(vs.any λkv=>decide (kv.1=k))=true
 ·rw [if_pos e,if_pos e];exact r.repl k ry
 ·rw [if_neg e,if_neg e];exact Paired.snoc r ⟨rfl,ry⟩
theorem KV.length {AI:List (κ × V)}{vs:List (κ × Value)}(r:KV AI vs):AI.length=vs.length:=Paired.length r
end
theorem Fw {P:Program}{w:World}{k:Key}{u:Value}(r:RelV (kV k) u):(Bm P w).is k u=true:=by
 cases k with
 | inl i=>obtain ⟨t,e⟩:=(show ∃ t,u=Value.int i t from r);subst e;exact JH P w i t
 | inr x=>obtain ⟨t,e⟩:=(show ∃ t,u=Value.str x t from r);subst e;exact Ej P w x t
theorem Ij {P:Program}{w:World}:∀ {ks:List Key} {us:List Value},Vals (ks.map kV) us->ItemsAre (Bm P w) ks us
 | [],_,r=>by rw [List.map_nil] at r;cases r;exact .nil
 | k::ks,_,r=>by
  rw [List.map_cons] at r
  cases r with
  | cons h t=>exact .cons (Fw h) (Ij t)
abbrev KT (H:Hp):List (List Key × V)->List (List Key × Addr × Value)->Prop:=Paired λp q=>p.1=q.1/\H q.2.1=some (.tup (p.1.map kV))/\RelV p.2 q.2.2
theorem KT.val {H:Hp}{AI:List (List Key × V)}{xs:List (List Key × Addr × Value)}(r:KT H AI xs)(k:List Key):F4 (C7 AI k) ((atKey xs k).map (·.2)):=by
 induction r with
 | nil=>exact True.intro
 | @cons p q ps qs h t ih =>
  obtain ⟨h1,_,h2⟩:=h
  by_cases e:p.1=k
  ·have e':q.1=k:=h1.symm.trans e
   have b:atKey (q::qs) k=some q.2:=by simp [atKey,List.find?_cons,e']
   rw [CB e,b];exact h2
  ·have e':¬ q.1=k:=λz=>e (h1.trans z)
   have b:atKey (q::qs) k=atKey qs k:=by simp [atKey,List.find?_cons,e']
   rw [Ce e,b];exact ih
theorem KT.repl {H:Hp}{AI:List (List Key × V)}{xs:List (List Key × Addr × Value)}(r:KT H AI xs)(k:List Key){y:V}{u:Value}(ry:RelV y u):
  KT H (AI.map λkv=>if kv.1=k then (kv.1,y) else kv) (xs.map (putAt k u)):=by
 induction r with
 | nil=>exact .nil
 | @cons p q ps qs h t ih =>
  rw [List.map_cons,List.map_cons]
  refine .cons ?_ ih
  obtain ⟨h1,h2,h3⟩:=h
  unfold putAt
  by_cases e:p.1=k
  ·rw [if_pos e,if_pos (h1.symm.trans e)];exact ⟨h1,h2,ry⟩
  ·rw [if_neg e,if_neg (λz=>e (h1.trans z))];exact ⟨h1,h2,h3⟩
theorem KT.put {H:Hp}{AI:List (List Key × V)}{xs:List (List Key × Addr × Value)}(r:KT H AI xs)(k:List Key){b:Addr}{y:V}{u:Value}(hb:H b=some (.tup (k.map kV)))(ry:RelV y u):
  KT H (putK AI k y) (storedH xs k b u):=by
 have e:(AI.any λkv=>decide (kv.1=k))=(atKey xs k).isSome:=by
  rw [DR,(r.val k).isSome_eq,Option.isSome_map]
 unfold putK storedH
 rw [e]
 by_cases q:(atKey xs k).isSome=true
 ·rw [if_pos q,if_pos q];exact r.repl k ry
 ·rw [if_neg q,if_neg q];exact Paired.snoc r ⟨rfl,hb,ry⟩
theorem KT.keeps {H H':Hp}{AI:List (List Key × V)}{xs:List (List Key × Addr × Value)}(r:KT H AI xs)(ht:∀ b ys,H b=some (.tup ys)->H' b=some (.tup ys)):KT H' AI xs :=
 Paired.mapP r λ_ _ z=>⟨z.1,ht _ _ z.2.1,z.2.2⟩
section
variable {P:Program}{w:World}{H:Hp}{h:Heap}{a:Addr}
theorem V9 {u:HO}(ok:D' P w H h)(e:Rd H a u):Br P w H h a u:=e.ok ok
theorem GY {AI:List (Key × V)}(ok:D' P w H h)(e:Rd H a (.dK AI)):AI.length<=sizeLine/\(a==sysModules)=false/\∃ vs,KV AI vs/\h.DictOf (Bm P w) a vs :=
 show Br P w H h a (.dK AI) from V9 ok e
theorem Va {AI:List (Key × V)}(ok:D' P w H h)(e:H a=some (.dK AI)):AI.length<=sizeLine/\(a==sysModules)=false/\∃ vs,KV AI vs/\h.DictOf (Bm P w) a vs:=GY ok (.inl e)
theorem GZ {ks:List Key}(ok:D' P w H h)(e:H a=some (.tup (ks.map kV))):(tupleKind (Bm P w)).is h ks a:=by
 obtain ⟨_,its,r,o,h1,h2,n,h3⟩:=(show Br P w H h a (.tup (ks.map kV)) from ok a _ e)
 exact ⟨o,its.toArray,n,h1,h2,h3,by simpa using Ij r⟩
theorem Ik {AI:List (List Key × V)}(ok:D' P w H h)(e:Rd H a (.dT AI)):AI.length<=sizeLine/\(a==sysModules)=false /\
  ∃ xs,KT H AI xs/\h.DictOfH (tupleKind (Bm P w)) a xs:=by
 obtain ⟨z,y,xs,r,o,es,ep,h1,h2,h3,h4,h5⟩:=(show Br P w H h a (.dT AI) from V9 ok e)
 refine ⟨z,y,xs,r,o,es,ep,h1,h2,h3,h4,λx hx=>?_,h5⟩
 have all:∀ {l:List (List Key × V)} {m:List (List Key × Addr × Value)},KT H l m->∀ x∈m,(tupleKind (Bm P w)).is h x.1 x.2.1:=by
  intro l m q
  induction q with
  | nil=>intro x hx;exact nomatch hx
  | @cons p q ps qs hq t ih =>
   intro x hx
   rcases List.mem_cons.mp hx with e | hx
   ·subst e
    exact GZ ok (by rw [<- hq.1];exact hq.2.1)
   ·exact ih x hx
 exact all r x hx
theorem gV {AI:List (List Key × V)}(ok:D' P w H h)(e:H a=some (.dT AI)):AI.length<=sizeLine/\(a==sysModules)=false /\
  ∃ xs,KT H AI xs/\h.DictOfH (tupleKind (Bm P w)) a xs:=Ik ok (.inl e)
end
noncomputable def Dx (H:Hp)(a:Addr)(y:V)(r:Option V):Prop :=
 (∃ AI k,Rd H a (.dK AI)/\y=kV k/\r=C7 AI k)\/∃ AI k b,Rd H a (.dT AI)/\y=.ref b/\H b=some (.tup (k.map kV))/\r=C7 AI k
noncomputable def PX (H:Hp)(a:Addr)(y v:V)(H':Hp):Prop :=
 (∃ AI k,H a=some (.dK AI)/\y=kV k/\AI.length < sizeLine/\H'=upd H a (.dK (putK AI k v))) \/
 ∃ AI k b,H a=some (.dT AI)/\y=.ref b/\H b=some (.tup (k.map kV))/\AI.length < sizeLine/\H'=upd H a (.dT (putK AI k v))
theorem Dx.k {H:Hp}{a:Addr}{AI:List (Key × V)}{k:Key}(e:H a=some (.dK AI)):Dx H a (kV k) (C7 AI k):=.inl ⟨AI,k,.inl e,rfl,rfl⟩
theorem PX.k {H:Hp}{a:Addr}{AI:List (Key × V)}{k:Key}{v:V}(e:H a=some (.dK AI))(hl:AI.length < sizeLine):PX H a (kV k) v (upd H a (.dK (putK AI k v))):=.inl ⟨AI,k,e,rfl,hl,rfl⟩
section
variable {X:Cx}{pins:List (Addr × Obj)}{σ:St}{H:Hp}{s:Shared}{a:Addr}{y v:V}{u r:Value}{o:Option V}{A:Around}{E:Value->Shared->Prop}
theorem Inv.big (I:Inv X pins σ H s):sysModules < s.heap.objs.size:=by
 have h:mainGlobals < s.heap.objs.size:=(I.mod.glob.keeps I.bk).lt
 exact Nat.lt_trans ⟨⟩ h
theorem O6 {Q:Value->Shared->Prop}(hu:A.units+1 < cLine)(I:Inv X pins σ H s)(g:Dx H a y (some v))(ry:RelV y u)(h:∀ w' s',Inv X pins σ H s'->RelV v w'->Q w' s'):
  wpAny (model X.prog X.w) A (getItem (.ref a) u) Q E s:=by
 rcases g with ⟨AI,k,e,ey,l⟩ | ⟨AI,k,b,e,ey,eb,l⟩
 ·subst ey
  obtain ⟨z,hd,vs,rel,dd⟩:=GY I.hok e
  obtain ⟨w',hw,P1⟩:=F4.some_of (v:=v) (o:=valueAt vs k) (by rw [l];exact rel.val k)
  exact wpAny_getItem_of (Fw ry) dd.mapOf hw (h w' _ (I.tok _) P1)
 ·subst ey
  cases (show u=Value.ref b from ry)
  obtain ⟨z,hd,xs,rel,dd⟩:=Ik I.hok e
  obtain ⟨w',hw,P1⟩:=F4.some_of (v:=v) (o:=(atKey xs k).map (·.2)) (by rw [l];exact rel.val k)
  obtain ⟨p,hp,JD⟩:=Option.map_eq_some_iff.mp hw
  refine wpAny_getItem_heap (tupleKind_room_in1 hu) (GZ I.hok eb) dd hp ?_
  rw [JD]
  exact h w' _ (I.tok _) P1
theorem qg {Q:Value->Shared->Prop}(hu:A.units+1 < cLine)(I:Inv X pins σ H s)(g:Dx H a y o)(ry:RelV y u)(h:∀ s',Inv X pins σ H s'->Q (.bool o.isSome) s'):
  wpAny (model X.prog X.w) A (compareOp .In u (.ref a)) Q E s:=by
 rcases g with ⟨AI,k,e,ey,l⟩ | ⟨AI,k,b,e,ey,eb,l⟩
 ·subst ey
  obtain ⟨z,hd,vs,rel,dd⟩:=GY I.hok e
  refine wpAny_in_of (Fw ry) hd dd.mapOf ?_
  rw [<- (rel.val k).isSome_eq,<- l]
  exact h _ (I.tok _)
 ·subst ey
  cases (show u=Value.ref b from ry)
  obtain ⟨z,hd,xs,rel,dd⟩:=Ik I.hok e
  refine wpAny_in_heap (tupleKind_room_in1 hu) (GZ I.hok eb) hd dd ?_
  have q:=(rel.val k).isSome_eq
  rw [Option.isSome_map] at q
  rw [<- q,<- l]
  exact h _ (I.tok _)
theorem J0 {h':Heap}{t':Nat}{ob:HO}(I:Inv X pins σ H s)(mu:gA (H a))(hs:Heap.SameBut a s.heap h')(he:∃ q,h'.get? a=some q)(new:Br X.prog X.w (upd H a ob) h' a ob):
  Inv X pins σ (upd H a ob) { s with heap:=h',toks:=t' } :=
 I.write (x:=a) (e:=a) mu (.inl rfl) (λb q hb z=>(hs.2 b hb).trans z) he new
theorem J5 {P:Program}{w:World}{H':Hp}{h':Heap}{AI:List (Key × V)}{vs:List (Key × Value)}(z:AI.length<=sizeLine)(hd:(a==sysModules)=false)(rel:KV AI vs)(dd:h'.DictOf (Bm P w) a vs):
  Br P w H' h' a (.dK AI):=⟨z,hd,vs,rel,dd⟩
theorem O7 {H':Hp}{Q:Unit->Shared->Prop}(hu:A.units+1 < cLine)(I:Inv X pins σ H s)(g:PX H a y v H')(ry:RelV y u)(rv:RelV v r)(h:∀ s',Inv X pins σ H' s'->Q .unit s'):
  wpAny (model X.prog X.w) A (setItem (.ref a) u r) Q E s:=by
 rcases g with ⟨AI,k,e,ey,l,eH⟩ | ⟨AI,k,b,e,ey,eb,l,eH⟩
 ·subst ey eH
  obtain ⟨z,hd,vs,rel,dd⟩:=Va I.hok e
  have hz:vs.length<=sizeLine:=by rw [<- rel.length];exact z
  have hl:(putK AI k v).length<=sizeLine:=by have:=Eo AI k v;omega
  refine wpAny_setItem_pairs (hsz:=hz) (Fw ry) dd λh' Sk hs=>h _ ?_
  have he:∃ q,h'.get? a=some q:=let ⟨q,_,_,hq,_⟩:=Sk;⟨q,hq⟩
  exact J0 I (by rw [e];exact True.intro) hs he (J5 hl hd (rel.put k rv) Sk)
 ·subst ey eH
  cases (show u=Value.ref b from ry)
  obtain ⟨z,hd,xs,rel,dd⟩:=gV I.hok e
  have hz:xs.length<=sizeLine:=by rw [<- Paired.length rel];exact z
  have hl:(putK AI k v).length<=sizeLine:=by have:=Eo AI k v;omega
  refine wpAny_setItem_heap (hsz:=hz) (tupleKind_room_in1 hu) (GZ I.hok eb) dd λh' Sk hs=>h _ ?_
  obtain ⟨q,es,ep,hq,h2,h3,h4,_,h5⟩:=Sk
  refine J0 I (by rw [e];exact True.intro) hs ⟨q,hq⟩ ⟨hl,hd,_,(rel.put k eb rv).keeps λc ys ec=>?_,q,es,ep,hq,h2,h3,h4,h5⟩
  rw [AQ (Ge ec e (λz=>nomatch z))]
  exact ec
end
noncomputable def LJ (i:Expr):Prop:=∀ ov iv,subscripted i false ov iv=operate [ov,iv] (getItem ov iv)
theorem J6 {prog:Program}{w:World}{A:Around}{E:Value->Shared->Prop}{s:Shared}{env:Env}{value slice:Expr}{pos:Pos}{T id:String}{Q:Value->Shared->Prop}
  (hl:typeLookup (.type T) "__getitem__"=pure (some (.builtin id))) (hs:LJ slice)
  (h:wpAny (model prog w) A (eval value env) (λo s₁=>wpAny (model prog w) A (eval slice env) (λi s₂=>s₂.TypeIs o T/\wpAny (model prog w) A (getItem o i) Q E s₂) E s₁) E s) :
  wpAny (model prog w) A (eval (.Subscript value slice pos) env) Q E s:=by
 refine Subscript_ (wpAny_mono h (λo s₁ h₁=>wpAny_mono h₁ (λi s₂ h₂=>?_) λ_ _ x=>x) λ_ _ x=>x)
 obtain ⟨hT,h₂⟩:=h₂
 unfold subscriptTail
 refine wpAny_bind ?_
 rw [getitemInPython_of_ne hT.not_modules]
 refine wpAny_bind (wpAny_specialOf hT hl ?_)
 have fin:wpAny (model prog w) A (subscripted slice false o i) (λr s₃=>wpAny (model prog w) A (letTemporaryGo value o r >>= λ_=>pure r) Q E s₃) E s₂:=by
  rw [hs o i]
  exact wpAny_operating (wpAny_mono h₂ (λr s₃ h₃=>wpAny_bind (wpAny_letTemporaryGo (wpAny_pure h₃))) λ_ _ x=>x)
 first
  | exact wpAny_pure (wpAny_bind fin)
  | exact wpAny_bind (wpAny_pure (wpAny_bind fin))
  | exact wpAny_bind fin
theorem JU {X:Cx}{pins:List (Addr × Obj)}{σ:St}{H:Hp}{s:Shared}{a:Addr}{y:V}{o:Option V}(I:Inv X pins σ H s)(g:Dx H a y o):s.TypeIs (.ref a) "dict":=by
 rcases g with ⟨AI,k,e,_,_⟩ | ⟨AI,k,b,e,_,_,_⟩
 ·obtain ⟨_,_,vs,_,dd⟩:=GY I.hok e
  exact dd.typeIs
 ·obtain ⟨_,_,xs,_,dd⟩:=Ik I.hok e
  exact dd.typeIs
inductive LK (Q:VK)(x:V)(y:V)(H2:Hp):Prop
 | mk (a:_) (v:_) (h1:x=.ref a) (h2:Dx H2 a y (some v)) (h3:Q v H2):LK Q x y H2
noncomputable def MT (td ty:TE):TE:=fun σ H Q=>td σ H λx H1=>ty σ H1 λy H2=>LK Q x y H2
inductive PY (Q:VK)(y:V)(x:V)(H2:Hp):Prop
 | mk (a:_) (o:_) (h1:x=.ref a) (h2:Dx H2 a y o) (h3:Q (.bl o.isSome) H2):PY Q y x H2
noncomputable def WT (ty td:TE):TE:=fun σ H Q=>ty σ H λy H1=>td σ H1 λx H2=>PY Q y x H2
inductive LL (N:St->Hp->Prop)(σ:St)(v:V)(x:V)(y:V)(H3:Hp):Prop
 | mk (a:_) (H4:_) (h1:x=.ref a) (h2:PX H3 a y v H4) (h3:N σ H4):LL N σ v x y H3
noncomputable def PZ (td ty tv:TE):TS:=λD σ H=>tv σ H λv H1=>td σ H1 λx H2=>ty σ H2 λy H3=>LL D.nx σ v x y H3
section
variable {X:Cx}{o i e value:Expr}{pos pos' gO:Pos}{td ty tv:TE}
theorem Sl (hu:X.A.units+1 < cLine)(ho:PE X o td)(hi:PE X i ty)(hs:LJ i):PE X (.Subscript o i pos) (MT td ty):=by
 intro pins s σ H Q I h
 refine J6 PySem.F.slot_dict_getitem.lookup hs (BD (ho pins s σ H _ I h) λu s1 ⟨x,H1,I1,rx,q1⟩=>BD (hi pins s1 σ H1 _ I1 q1) λiv s2 ⟨y,H2,I2,ry,a,v,ex,g,q2⟩=>?_)
 subst ex
 obtain rfl:u=Value.ref a:=rx
 exact ⟨JU I2 g,O6 hu I2 g ry λw' s3 I3 P1=>⟨v,H2,I3,P1,q2⟩⟩
theorem WU (hu:X.A.units+1 < cLine)(hi:PE X i ty)(ho:PE X o td):PC X .In i o (WT ty td):=by
 intro pins s σ H Q I h
 refine BD (hi pins s σ H _ I h) λiv s1 ⟨y,H1,I1,ry,q1⟩=>BD (ho pins s1 σ H1 _ I1 q1) λu s2 ⟨x,H2,I2,rx,a,ov,ex,g,q2⟩=>?_
 subst ex
 obtain rfl:u=Value.ref a:=rx
 exact qg hu I2 g ry λs3 I3=>⟨.bl ov.isSome,H2,I3,rfl,q2⟩
theorem Sm (hu:X.A.units+1 < cLine)(ho:PE X o td)(hi:PE X i ty)(hv:PE X value tv)(hs:swapsWith value (some (.Subscript o i pos')) pos.line X.env=pure false):
  PS X (.Assign [.Subscript o i pos'] value pos) (PZ td ty tv):=by
 intro pins s σ H D I h
 refine wpAny_Assign_Subscript (BD (hv pins s σ H _ I h) λr s1 ⟨v,H1,I1,rv,q1⟩=>BD (ho pins s1 σ H1 _ I1 q1) λu s2 ⟨x,H2,I2,rx,q2⟩=>BD (hi pins s2 σ H2 _ I2 q2) λiv s3 ⟨y,H3,I3,ry,a,H4,ex,g,q3⟩=>?_) hs
 subst ex
 obtain rfl:u=Value.ref a:=rx
 exact O7 hu I3 g ry rv λs4 I4=>⟨σ,H4,I4,q3⟩
end
theorem JV {P:Program}{w:World}{H:Hp}(h:Heap)(hb:sysModules < h.objs.size):Br P w H (h.push { cls:=.type "dict",data:=.dict #[] }) h.objs.size (.dK []) :=
 ⟨Nat.zero_le _,beq_eq_false_iff_ne.mpr (Ne.symm (Nat.ne_of_lt hb)),[],.nil,Heap.DictOf.new h⟩
noncomputable def P':TE:=λ_ H Q=>∀ p,H p=none->Q (.ref p) (upd H p (.dK []))
section
variable {X:Cx}{pos:Pos}
theorem Q0:PE X (.Dict [] [] pos) P':=λpins s σ H Q I h =>
 wpAny_Dict_empty ⟨.ref s.heap.objs.size,_,I.laid (a:=s.heap.objs.size) (o:=.dK []) (t':=s.toks) (λ_ _ q=>Heap.get?_push_of_some _ q) (Nat.le_refl _) (JV s.heap I.big),rfl,h _ (I.hok.fresh (Nat.le_refl _))⟩
end
noncomputable def F7:List (TE × TE)->St->Hp->(List (V × V)->Hp->Prop)->Prop
 | [],_,H,Q=>Q [] H
 | (tk,tv)::r,σ,H,Q=>tk σ H λx H1=>tv σ H1 λy H2=>F7 r σ H2 λps H3=>Q ((x,y)::ps) H3
abbrev VV:List (V × V)->List (Value × Value)->Prop:=Paired λp q=>RelV p.1 q.1/\RelV p.2 q.2
noncomputable def gW (X:Cx)(pos:Pos)(keys:List (Option Expr))(values:List Expr)(Il:List (TE × TE)):Prop :=
 ∀ (pins:List (Addr × Obj)) (s:Shared) (σ:St) (H:Hp) (Q:List (V × V)->Hp->Prop),Inv X pins σ H s->F7 Il σ H Q ->
  wpAny (model X.prog X.w) X.A (evalPairs (pairTrees keys values X.env pos)) (λvs s'=>∃ ps H',Inv X pins σ H' s'/\VV ps vs/\Q ps H') X.xe s
theorem Sn {X:Cx}{pos:Pos}:gW X pos [] [] []:=λpins s σ H Q I h=>pairTrees_nil_walk ⟨[],H,I,.nil,h⟩
theorem Q5 {X:Cx}{pos:Pos}{k v:Expr}{ks:List (Option Expr)}{vs:List Expr}{tk tv:TE}{Il:List (TE × TE)}(hk:PE X k tk)(hv:PE X v tv)(hr:gW X pos ks vs Il):
  gW X pos (some k::ks) (v::vs) ((tk,tv)::Il):=λpins s σ H Q I h =>
 pairTrees_cons_walk (BD (hk pins s σ H _ I h) λu s1 ⟨x,H1,I1,rx,q1⟩=>BD (hv pins s1 σ H1 _ I1 q1) λw2 s2 ⟨y,H2,I2,ry,q2⟩ =>
  BD (hr pins s2 σ H2 _ I2 q2) λws s3 ⟨ps,H3,I3,rel,q3⟩=>⟨(x,y)::ps,H3,I3,.cons ⟨rx,ry⟩ rel,q3⟩)
noncomputable def Cf (AI more:List (Key × V)):List (Key × V):=more.foldl (λacc kv=>putK acc kv.1 kv.2) AI
theorem KV.merge:∀ {more:List (Key × V)} {rs:List (Key × Value)} {AI:List (Key × V)} {vs:List (Key × Value)},KV more rs->KV AI vs->KV (Cf AI more) (merged vs rs):=by
 intro more rs AI vs r
 unfold KV at r
 induction r generalizing AI vs with
 | nil=>intro q;exact q
 | @cons p q ps qs h t ih =>
  intro r0
  have e:KV (putK AI p.1 p.2) (stored vs q.1 q.2):=by
   have:=r0.put p.1 h.2
   rw [<- h.1];exact this
  exact ih e
theorem EV:∀ (more AI:List (Key × V)),(Cf AI more).length<=AI.length+more.length
 | [],AI=>by show AI.length<=AI.length+0;omega
 | p::r,AI=>by
  have h1:=EV r (putK AI p.1 p.2)
  have h2:=Eo AI p.1 p.2
  show (Cf (putK AI p.1 p.2) r).length<=_
  rw [List.length_cons];omega
theorem G' {P:Program}{w:World}:∀ {AI:List (Key × V)} {ws:List (Value × Value)},VV (AI.map λkv=>(kV kv.1,kv.2)) ws->∃ rs,Carries (Bm P w) ws rs/\KV AI rs
 | [],_,r=>by rw [List.map_nil] at r;cases r;exact ⟨[],True.intro,.nil⟩
 | p::AI,_,r=>by
  rw [List.map_cons] at r
  cases r with
  | @cons a b as bs h t =>
   obtain ⟨rs,c,q⟩:=G' (P:=P) (w:=w) t
   obtain ⟨b1,b2⟩:=b
   exact ⟨(p.1,b2)::rs,⟨Fw h.1,rfl,c⟩,.cons ⟨rfl,h.2⟩ q⟩
noncomputable def Q6 (Il:List (TE × TE)):TE:=fun σ H Q=>∀ p,H p=none->F7 Il σ (upd H p (.dK [])) λps H2=>H2 p=some (.dK [])/\∃ AI:List (Key × V),ps=AI.map (λkv=>(kV kv.1,kv.2))/\AI.length<=15/\Q (.ref p) (upd H2 p (.dK (Cf [] AI)))
theorem So {X:Cx}{pos:Pos}{keys:List (Option Expr)}{values:List Expr}{Il:List (TE × TE)}(h:gW X pos keys values Il)(J7:keys.all (·.isSome)=true)(hl:keys.length=values.length)(h0:keys≠[])
  (qh:keys.length<=15):PE X (.Dict keys values pos) (Q6 Il):=by
 intro pins s σ H Q I q
 have hn:=I.hok.fresh (Nat.le_refl s.heap.objs.size)
 have I1:=I.laid (a:=s.heap.objs.size) (o:=.dK []) (h':=s.heap.push { cls:=.type "dict",data:=.dict #[] }) (t':=s.toks) (λ_ _ q=>Heap.get?_push_of_some _ q) (Nat.le_refl _) (JV s.heap I.big)
 refine wpAny_Dict_walk (knd:=Bm X.prog X.w) J7 hl h0 qh (BD (h pins _ σ _ _ I1 (q _ hn)) λws s2 ⟨ps,H2,I2,rel,e,AI,ep,lk,q2⟩=>?_)
 subst ep
 obtain ⟨rs,c,rk⟩:=G' (P:=X.prog) (w:=X.w) rel
 obtain ⟨z,hd,vs0,r0,dd⟩:=Va I2.hok e
 cases r0
 refine ⟨rs,c,dd,λh' Sk hs=>⟨.ref s.heap.objs.size,_,?_,rfl,q2⟩⟩
 have hz:(Cf [] AI).length<=sizeLine:=by
  have h1:=EV AI []
  rw [List.length_nil] at h1
  rw [sizeLine_eq];omega
 have he:∃ q,h'.get? s.heap.objs.size=some q:=let ⟨q,_,_,hq,_⟩:=Sk;⟨q,hq⟩
 exact J0 I2 (by rw [e];exact True.intro) hs he (J5 hz hd (rk.merge .nil) Sk)
structure M2 (X:Cx)(o:Expr)(m:Str)(apos:Pos)(e f:Expr)(D8:Pos):Prop where
 base:attributeBase o m X.env (eval o X.env)=eval o X.env
 few:((backTo D8 (starEach [e,f] X.env)).all (λx=>!x.1) && (backToKw D8 (keywordEach [] X.env)).all (λx=>x.1.isSome)
  && decide (([e,f]:List Expr).length+([]:List Keyword).length+(if ([]:List Keyword).isEmpty then 0 else 1) < 30))=true
 line:(apos.endLine==D8.line)=true
 trees:backTo D8 (starEach [e,f] X.env)=[(false,eval e X.env),(false,eval f X.env)]
noncomputable def qi (H:Hp)(a:Addr):Prop:=(∃ AI,Rd H a (.dK AI))\/∃ AI,Rd H a (.dT AI)
theorem WV {X:Cx}{pins:List (Addr × Obj)}{σ:St}{H:Hp}{s:Shared}{a:Addr}(I:Inv X pins σ H s)(d:qi H a):
  s.TypeIs (.ref a) "dict"/\(∀ b,Value.ref a=.ref b->∃ ob,s.heap.get? b=some ob/\ob.dict=none)/\(a==sysModules)=false:=by
 rcases d with ⟨AI,e⟩ | ⟨AI,e⟩
 ·obtain ⟨_,hd,vs,_,dd⟩:=GY I.hok e
  refine ⟨dd.typeIs,λb q=>?_,hd⟩
  cases q
  obtain ⟨ob,_,_,h1,h2,_⟩:=dd
  exact ⟨ob,h1,h2.2.1⟩
 ·obtain ⟨_,hd,xs,_,dd⟩:=Ik I.hok e
  refine ⟨dd.typeIs,λb q=>?_,hd⟩
  cases q
  obtain ⟨ob,_,_,h1,h2,_⟩:=dd
  exact ⟨ob,h1,h2.2.1⟩
section
variable {X:Cx}{pins:List (Addr × Obj)}{σ:St}{H:Hp}{s:Shared}{a:Addr}{y d:V}{u r:Value}{o:Option V}{A:Around}{E:Value->Shared->Prop}
theorem WW {Q:Value->Shared->Prop}(hu:A.units+1 < cLine)(I:Inv X pins σ H s)(g:Dx H a y o)(ry:RelV y u)(left:RelV d r)(h:∀ w' s',Inv X pins σ H s'->RelV (o.getD d) w'->Q w' s'):
  wpAny (model X.prog X.w) A (call (.builtin "dict.get") [.ref a,u,r]) Q E s:=by
 rcases g with ⟨AI,k,e,ey,l⟩ | ⟨AI,k,b,e,ey,eb,l⟩
 ·subst ey
  obtain ⟨z,hd,vs,rel,dd⟩:=GY I.hok e
  refine call_meetsIn PySem.F.slot_dict_get dd.typeIs PySem.F.entry_dict_get (PySem.F.args_dict_get_3 _ _ _) (meets_dict_get_default (Bm X.prog X.w) a (Fw ry) hd r) ⟨_,dd.mapOf,h _ _ (I.tok _) ?_⟩
  rw [l]
  exact (rel.val k).getD left
 ·subst ey
  cases (show u=Value.ref b from ry)
  obtain ⟨z,hd,xs,rel,dd⟩:=Ik I.hok e
  refine call_meetsIn PySem.F.slot_dict_get dd.typeIs PySem.F.entry_dict_get (PySem.F.args_dict_get_3 _ _ _) (meetsH_dict_get_default (tupleKind (Bm X.prog X.w)) a b hd r) ⟨tupleKind_room_in1 hu,k,xs,GZ I.hok eb,dd,h _ _ (I.tok _) ?_⟩
  rw [l]
  exact (rel.val k).getD left
end
noncomputable def LM (td ty tx:TE):TE:=fun σ H Q=>td σ H λx H1=>∃ a,x=.ref a/\qi H1 a/\ty σ H1 λy H2=>tx σ H2 λz H3=>∃ o,Dx H3 a y o/\Q (o.getD z) H3
section
variable {X:Cx}{o e f:Expr}{apos D8:Pos}{td ty tx:TE}
theorem Q7 (hu:X.A.units+1 < cLine)(ho:PE X o td)(he:PE X e ty)(hf:PE X f tx)(m:M2 X o "get" apos e f D8):PE X (.Call (.Attribute o "get" apos) [e,f] [] D8) (LM td ty tx):=by
 intro pins s σ H Q I h
 refine wpAny_Call_method m.base m.few m.line PySem.F.plainAttrs_dict PySem.F.slot_dict_get PySem.F.type_dict_get (BD (ho pins s σ H _ I h) λu s1 ⟨x,H1,I1,rx,a,ex,d,q1⟩=>?_)
 subst ex
 obtain rfl:u=Value.ref a:=rx
 obtain ⟨t1,t2,_⟩:=WV I1 d
 refine ⟨t1,t2,?_⟩
 rw [m.trees]
 refine Calls.callWith_builtin rfl (Calls.evalArgs_plain (Calls.spliced_cons (BD (he pins s1 σ H1 _ I1 q1) λiv s2 ⟨y,H2,I2,ry,q2⟩ =>
  Calls.spliced_cons (BD (hf pins s2 σ H2 _ I2 q2) λfv s3 ⟨z,H3,I3,rz,ov,g,q3⟩=>Calls.spliced_nil ?_))))
 exact WW hu I3 g ry rz λw' s4 I4 P1=>⟨_,H3,I4,P1,q3⟩
end
section
variable {X:Cx}{pins:List (Addr × Obj)}{σ:St}{H:Hp}{s:Shared}{a:Addr}{AI:List (Key × V)}{A:Around}{E:Value->Shared->Prop}
theorem Q8 {Q:Value->Shared->Prop}(I:Inv X pins σ H s)(e:Rd H a (.dK AI))(h:∀ p s',H p=none->Inv X pins σ (upd H p (.dK AI)) s'->Q (.ref p) s'):wpAny (model X.prog X.w) A (call (.type "dict") [.ref a]) Q E s:=by
 obtain ⟨z,hd,vs,rel,dd⟩:=GY I.hok e
 refine kt_call_dict hd dd (by rw [<- rel.length];exact z) λh' Sk hs=>?_
 refine h _ _ (I.hok.fresh (Nat.le_refl _)) (I.laid (a:=s.heap.objs.size) (o:=.dK AI) (t':=s.toks) (λb q hq=>?_) (Nat.le_refl _) (J5 z (beq_eq_false_iff_ne.mpr (Ne.symm (Nat.ne_of_lt I.big))) rel Sk))
 exact (hs.2 b (Nat.ne_of_lt (Heap.lt_size hq))).trans (Heap.get?_push_of_some _ hq)
end
end L2
namespace Att
open PySem PySem.W PySem.Calls PyProof.Rows
theorem Gu {P:Params}{h:Heap}:∀ (ns:List Int) (vs:List Value),WellAll P h vs (ns.map WData.int)->IntsAre vs ns:=by
 intro ns
 induction ns with
 | nil =>
  intro vs w
  rw [List.map_nil] at w
  cases w
  exact .nil
 | cons n ns ih =>
  intro vs w
  rw [List.map_cons] at w
  cases w with
  | cons a b =>
   cases a
   exact .cons _ _ (ih _ b)
theorem O8 {l:OpenLaw}{n:Nat}(hn:l.most=some n){P:Params}{h:Heap}{args:List WData}{vals:List Value}
  (Sq:l.row.toRowW.claim.pre args=true) (nz:WellAll P h vals args) :
  ∃ a vs ns,vals=[Value.ref a]/\args=[WData.list (ns.map WData.int)]/\h.get? a=some { cls:=.type "list",data:=.seq vs.toArray }/\IntsAre vs ns/\ns.length<=n:=by
 have qj:WShape.hasAll [] args [.list .int]=true:=(pre_splitW Sq).1
 have hc:l.pre.holds [] { args:=args }=true:=(pre_splitW Sq).2
 obtain ⟨d,r,rfl,h1,h2⟩:=hasAllW_cons qj
 obtain rfl:=hasAllW_nil h2
 obtain ⟨xs,rfl,h3⟩:=hasW_list h1
 obtain ⟨ns,rfl⟩:=items_int h3
 have hlen:ns.length<=n:=by
  unfold OpenLaw.pre at hc
  have h4:(WTm.not (.lt (.lit (.int (n:Int))) (.len (.arg 0)))).holds [] { args:=[.list (ns.map .int)] }=true:=by
   have h4:=(holds_andW hc).1
   rw [hn] at h4
   exact h4
  have h5:=condW_of h4 (w_not (w_lt w_lit (w_len_list (w_arg rfl))))
  rw [List.length_map] at h5
  refine Nat.le_of_not_lt λq=>?_
  have q':(n:Int) < ((ns.length:Nat):Int):=by omega
  first
   | (rw [decide_eq_true q'] at h5;exact absurd h5 ⟨⟩)
   | (simp at h5;omega)
 cases nz with
 | cons w1 w2 =>
  cases w2
  cases w1 with
  | list ho J7=>exact ⟨_,_,ns,rfl,rfl,ho,Gu ns _ J7,hlen⟩
theorem O9 (l:OpenLaw)(args:List WData):l.row.toRowW.claim.post args (.bool true) args=true :=
 postW_of (r:=l.row.toRowW) (X:=(true==true))
  (show WShape.has [] (.bool true) .bool=true by first | rfl | decide | simp [WShape.has,WShape.arms,WShape.armsAll])
  (show (WTm.eq .res (.lit (.bool true))).value [] { args:=args,res:=some (.bool true),after:=args }=some (.bool (true==true)) from w_eq_bool (w_res rfl) w_lit) rfl
theorem attach_call {l:OpenLaw}{n:Nat}{q:Program}{loose:List Str}{XP:(Str->Option Value)->Heap->Prop}{YP:World->Heap->Prop}{d:DefRec}
  (hn:l.most=some n) (qk:d.params.defaults=[])
  (call:∀ (w:World) (s₀ s₁:Shared) (mg mb:Str->Option Value) (fa:Addr) (o:Obj) (pm cd doc:Value) (a:Addr) (vs:List Value) (ns:List Int),
   Ground q loose [] XP w s₀ mg mb s₁.heap->YP w s₁.heap ->
   s₁.heap.get? fa=some o->o.data=.func (docDef d.name d.params d.body d.scope pm cd doc)->s₁.heap.CodeRec cd d.name->mg d.name=some (.ref fa) ->
   s₁.heap.get? a=some { cls:=.type "list",data:=.seq vs.toArray }->IntsAre vs ns->ns.length<=n->s₁.gens=#[] ->
   codeAny (model l.prog w) callerA (.call (.ref fa) ⟨[.ref a],[]⟩) (λr s'=>r=.ok (.ret (.bool true))/\OldK s₁.heap s'.heap/\s'.os=s₁.os/\AllBare s'.gens) s₁) :
  WalkO q loose XP YP l.row.toRowW d [] (λf vs=>PySem.call f vs):=by
 intro w s₀ s₁ mg mb G Y fa o pm cd doc dV kV ho hd JJ hD gX hg args vals as Sq hlay hrd nz hlo
 obtain rfl:dV=.none:=Dflts.none hD qk
 obtain rfl:kV=.none:=Dflts.noKw hD
 obtain ⟨a,vs,ns,rfl,rfl,WX,hints,hlen⟩:=O8 hn Sq nz
 refine enter_call (codeAny_mono (call w s₀ s₁ mg mb fa o pm cd doc a vs ns G Y ho (fd_plain hd) JJ gX WX hints hlen hg) λr s' hq=>?_)
 obtain ⟨rfl,h2,h3,h4⟩:=hq
 exact ⟨.inl ⟨.bool true,.bool true,[],rfl,λ_=>rfl,.bool true,O9 l _,λ_=>⟨List.Pairwise.nil,λ_ hm=>(nomatch hm)⟩⟩,h2,h3,h4⟩
end Att
namespace L2
open PySem PySem.Spec PyProof.Rows
theorem Im:∀ {vs:List Value} {ns:List Int},IntsAre vs ns->Vals (ns.map V.int) vs
 | _,_,.nil=>.nil
 | _,_,.cons n t h=>.cons ⟨t,rfl⟩ (Im h)
noncomputable def inClass (s:Stmt)(j:Nat):Stmt:=match s with
 | .ClassDef _ _ _ body _ _ _ _ _ _ _=>body.getD j (.Pass ⟨0,0,0,0⟩)
 | _=>.Pass ⟨0,0,0,0⟩
noncomputable def AB (s:Stmt):Arguments:=match s with
 | .FunctionDef _ a _ _ _ _ _ _ _ _=>a
 | _=>{ posonlyargs:=[],args:=[],vararg:=none,kwonlyargs:=[],kw_defaults:=[],kwarg:=none,defaults:=[] }
noncomputable def Az (s:Stmt):List Stmt:=match s with
 | .FunctionDef _ _ b _ _ _ _ _ _ _=>b
 | _=>[]
noncomputable def Ae (s:Stmt):Scope:=match s with
 | .FunctionDef _ _ _ _ _ _ sc _ _ _=>sc
 | _=>{ kind:=.function,names:=[],isGenerator:=false,isCoroutine:=false }
abbrev C5:LA:=λ_ _ _ _ _ _=>False
abbrev E0:XK:=λ_ _ _=>False
theorem Ha {X:Cx}:Passes C5 X E0:=λ_ _ _ _ _ _ _ h=>h.elim
structure D4 (K:W.Frag)(x qual:Str)(st:Stmt)(f:Addr)(fd:FuncData):Prop where
 ex:∃ (oc:Value) (od:Option Addr) (kV doc pm:Value) (an:Option Addr) (BV ct:Value) (V7:Array (Option Value)),
  fd=W.fnOf x qual (AB st) (Az st) (Ae st) .none kV doc pm an BV ct/\K.lookup f=some ⟨oc,od,.func fd,V7⟩/\W.codeIn K BV qual=true
 kp:W.keepIn K (.ref f)=true
section
variable {P:Program}{w:World}{K:W.Frag}{mg:Str->Option Value}{base:Heap}
theorem D4.ok {x qual:Str}{st:Stmt}{f:Addr}{fd:FuncData}{N ps:List Str}{k:Nat}{sp:Sp}(F:D4 K x qual st f fd)(S:AE N ps (Ae st))(len:∀ vs H Q E,sp vs H Q E->vs.length=ps.length)
  (JQ:∀ (BV:Value) (A:Around) (outer:List Env) (s:Shared) (H:Hp) (vs:List V) (Q:VK) (E:XK),Bh k (A.deeper (envOfC qual (Ae st) s.heap.objs.size f BV))->sp vs H Q E ->
   ∃ t,Mx (DP C5 P w K mg base N qual (Ae st) f BV A outer s H E).nox (Az st) t/\t { nx:=λ_ H'=>Q .non H',rt:=Q } (start N vs) H):AY P w K mg base C5 (k+1) f fd ps sp:=by
 obtain ⟨oc,od,kV,doc,pm,an,BV,ct,V7,rfl,lk,JJ⟩:=F.ex
 refine gQ lk JJ S len λA outer s H vs Q E hr RH=>?_
 obtain ⟨t,h,q⟩:=JQ BV A outer s H vs Q E hr RH
 exact ⟨t,h.nox,q⟩
theorem D4.binds {x qual:Str}{st:Stmt}{f:Addr}{fd:FuncData}{ps:List Str}(F:D4 K x qual st f fd)
  (h:∀ (kV doc pm:Value) (an:Option Addr) (BV ct:Value) (us:List Value),us.length=ps.length->bindArgs (W.fnOf x qual (AB st) (Az st) (Ae st) .none kV doc pm an BV ct) ⟨us,[]⟩=pure (ps.zip us)):Binds K fd ps []:=by
 obtain ⟨oc,od,kV,doc,pm,an,BV,ct,V7,rfl,lk,JJ⟩:=F.ex
 exact .all (h kV doc pm an BV ct)
theorem AR {x qual:Str}{st:Stmt}{f:Addr}{oc:Value}{od an:Option Addr}{V7:Array (Option Value)}{kV doc pm BV ct:Value}(l:K.lookup f=some ⟨oc,od,.func (W.fnOf x qual (AB st) (Az st) (Ae st) .none kV doc pm an BV ct),V7⟩)
  (c:W.codeIn K BV qual=true) (k:W.keepIn K (.ref f)=true):D4 K x qual st f (W.fnOf x qual (AB st) (Az st) (Ae st) .none kV doc pm an BV ct):=⟨⟨oc,od,kV,doc,pm,an,BV,ct,V7,rfl,l,c⟩,k⟩
end
theorem Hb {A:Around}{k:Nat}(hr:Bh k A):A.units+1 < cLine:=Nat.lt_of_le_of_lt (Nat.add_le_add_left (by decide:1<=64) _) hr.units
section
variable {X:Cx}
theorem pv (i:Nat){x:Str}{pos:Pos}(hN:X.N[i]?=some x:=by rfl)(hv:V1 X.env.scope x:=by first | exact Or.inl rfl | exact Or.inr (.inl rfl) | exact Or.inr (.inr rfl))(hd:(x==("__debug__":Str))=false:=by decide)
  (JJ:(x==("__classdict__":Str))=false:=by decide):PE X (.Name x pos) (Bv i):=Ll hN hv hd JJ
end
theorem Cm {A B:Prop}(h:B):if false=true then A else B:=by
 rw [if_neg Bool.false_ne_true]
 exact h
theorem CT {A B:Prop}(h:A):if true=true then A else B:=by
 rw [if_pos rfl]
 exact h
theorem Ep {c A B:Prop}[Decidable c](h1:c->A)(h2:¬ c->B):if c then A else B:=by
 by_cases h:c
 ·rw [if_pos h]
  exact h1 h
 ·rw [if_neg h]
  exact h2 h
noncomputable def An (H H':Hp):Prop:=∀ b o,H b=some o->H' b=some o
theorem An.refl (H:Hp):An H H:=λ_ _ h=>h
theorem An.trans {H H1 H2:Hp}(a:An H H1)(b:An H1 H2):An H H2:=λc o h=>b c o (a c o h)
theorem An.free {H H':Hp}(e:An H H'){l:Addr}(h:H' l=Option.none):H l=Option.none:=by
 cases q:H l with
 | none=>rfl
 | some o =>
  rw [e l o q] at h
  cases h
theorem An.seq {K:W.Frag}{H H':Hp}{a:Addr}{xs:List V}(e:An H H')(h:B3 K H a xs):B3 K H' a xs:=by
 rcases h with (h | ⟨o,h⟩) | h
 ·exact .inl (.inl (e _ _ h))
 ·exact .inl (.inr ⟨o,e _ _ h⟩)
 ·exact .inr h
section
variable {P:Program}{w:World}{H H1:Hp}{h h1:Heap}{a:Addr}{o:HO}{fs ex:List Addr}
theorem D'.track (x:D' P w H h)(hn:H a=none)(new:Br P w (upd H a o) h a o):D' P w (upd H a o) h:=by
 intro b u e
 by_cases hb:b=a
 ·subst hb
  rw [AG] at e
  cases e
  exact new
 ·rw [AQ hb] at e
  refine (x b u e).stay (λc v _ q=>q) (λc q=>?_) (λc xs q=>?_)
  ·rw [AQ (Ba q hn)];exact q
  ·rw [AQ (Ba q hn)];exact q
theorem Un.track (u:Un fs ex H H1 h h1)(hn:H1 a=none)(ha:h.get? a=none):Un fs ex H (upd H1 a o) h h1 where
 keep:=u.keep
 slot:=u.slot
 free:=λb ob q n hx=>by
  have hb:b≠a:=λz=>by rw [z,ha] at q;cases q
  rw [AQ hb]
  exact u.free b ob q n hx
 there:=u.there
 tups:=λb xs q=>by
  have z:=u.tups b xs q
  rw [AQ (Ba z hn)]
  exact z
 frzs:=λb ob xs q=>by
  have z:=u.frzs b ob xs q
  rw [AQ (Ba z hn)]
  exact z
 tbls:=λb ps q=>by
  obtain ⟨more,z⟩:=u.tbls b ps q
  exact ⟨more,by rw [AQ (Ba z hn)];exact z⟩
end
section
variable {prog:Program}{w:World}{A:Around}{R:Result->Shared->Prop}{s:Shared}
abbrev Sr:Value->Shared->Prop:=λ_ _=>False
theorem LN {elt target iter:Expr}{ifs:List Expr}{scope:Scope}{pos:Pos}{it acc:Value}{env:Env}(J:Nat->Shared->Prop)
  (turn:∀ n s,J n s->wpAny (model prog w) A (pyNext it) (λr s1=>match r with
   | none=>R (.ok .next) s1
   | some v=>wpAny (model prog w) A (letOwnedTupleGo target it v) (λ_ s2=>wpAny (model prog w) A (assign target env v) (λ_ s3 =>
     wpAny (model prog w) A (forIn ifs true λc r=>if r=true then do let ok <- isTrue c env (eval c env);pure (ForInStep.yield ok) else pure (ForInStep.yield r)) (λok s4 =>
      if ok=true then wpAny (model prog w) A (eval elt env) (λx s5=>wpAny (model prog w) A (call (.builtin "list.append") [acc,x]) (λ_ s6=>∃ m,m < n/\J m s6) Sr s5) Sr s4
      else ∃ m,m < n/\J m s4) Sr s3) Sr s2) Sr s1) Sr s)
  (n:Nat) (h:J n s):codeAny (model prog w) A (.compLoop (.ListComp elt [⟨target,iter,ifs,0⟩] scope pos) 0 it acc env) R s:=by
 refine codeAny_loop rfl J (λn s hJ=>?_) n h
 show wpAny _ A ((compTurn (.ListComp elt [⟨target,iter,ifs,0⟩] scope pos) 0 it acc env).onRaise (λx=>do noteFrame x env;theTreesLotGoes x)) _ _ s
 refine wpAny_noted ?_
 rw [compTurn_list]
 refine wpAny_bind (wpAny_standAt (wpAny_bind (wpAny_mono (turn n s hJ) (λr s1 q1=>?_) λ_ _ z=>z.elim)))
 cases r with
 | none=>exact wpAny_pure q1
 | some v =>
  refine wpAny_bind (wpAny_mono q1 (λ_ s2 q2=>?_) λ_ _ z=>z.elim)
  refine wpAny_bind (wpAny_mono q2 (λ_ s3 q3=>?_) λ_ _ z=>z.elim)
  refine wpAny_bind (wpAny_mono q3 (λok s4 q4=>?_) λ_ _ z=>z.elim)
  cases ok with
  | false=>exact wpAny_pure ⟨rfl,q4⟩
  | true =>
   refine wpAny_bind (wpAny_bind (wpAny_mono q4 (λx s5 q5=>?_) λ_ _ z=>z.elim))
   refine wpAny_bind (wpAny_mono q5 (λ_ s6 q6=>?_) λ_ _ z=>z.elim)
   exact wpAny_pure (wpAny_pure ⟨rfl,q6⟩)
end
noncomputable def Cx.blk (X:Cx)(N:List Str)(env:Env)(s0:Shared)(H0:Hp)(ex:List Addr):Cx :=
 { X with N:=N,s₀:=s0,H₀:=H0,env:=env,outer:=X.stack,stack:=X.stack,ex:=ex,fn:=λ_=>false,pn:=[],xe:=Sr }
structure Bx (X:Cx)(scope:Scope)(cl:List (Str × Addr))(own fr:List Str)(js:List Nat):Prop where
 clos:closureFor scope X.env=pure cl
 cell:∀ y∈scope.names,y.2≠.cell
 kind:scope.kind=.function
 names:∀ y∈scope.names,y.2=.local->scope.names.lookup y.1=some .local
 sub:cl.map (λp=>X.env.cells.lookup p.1)=cl.map (λp=>some p.2)
 has:((relabel scope X.env).names.all λy=>!(y.2==.cell || y.2==.free) || (cl.lookup y.1).isSome)=true
 fre:(fr.all λy=>(X.env.kindOf y==some .cell || X.env.kindOf y==some .free) && ((relabel scope X.env).names.lookup y==some .cell || (relabel scope X.env).names.lookup y==some .free))=true
 here:js.map (λj=>X.N[j]?)=fr.map some
noncomputable def Du (own:List Str)(js:List Nat)(σ:St):St:=own.map (λ_=>none)++js.map (λj=>(σ[j]?).join)
noncomputable def gY (X:Cx)(scope:Scope)(cl:List (Str × Addr))(C:Addr):Env:=compEnvC scope cl C X.env
abbrev Cx.cmp (X:Cx)(scope:Scope)(cl:List (Str × Addr))(own fr:List Str)(C:Addr)(s0:Shared)(H0:Hp)(ex:List Addr):Cx:=X.blk (own++fr) (gY X scope cl C) s0 H0 ex
theorem lookup_mem {α:Type}:∀ {l:List (Str × α)} {y:Str} {c:α},l.lookup y=some c->(y,c)∈l
 | [],_,_,h=>by simp at h
 | (z,d)::r,y,c,h=>by
  rw [List.lookup_cons] at h
  cases e:y==z with
  | true=>rw [e] at h;cases h;rw [eq_of_beq e];exact .head _
  | false=>rw [e] at h;exact .tail _ (lookup_mem h)
section
variable {X:Cx}{scope:Scope}{cl:List (Str × Addr)}{own fr:List Str}{js:List Nat}{pins:List (Addr × Obj)}{σ:St}{H:Hp}{s s':Shared}{fp:List Addr}{C:Addr}{m:Str->Option Value}
theorem Bx.cells (S:Bx X scope cl own fr js){y:Str}{c:Addr}(h:cl.lookup y=some c):X.env.cells.lookup y=some c:=by
 have hm:=lookup_mem h
 have e:∀ (l:List (Str × Addr)),l.map (λp=>X.env.cells.lookup p.1)=l.map (λp=>some p.2)->∀ p∈l,X.env.cells.lookup p.1=some p.2:=by
  intro l
  induction l with
  | nil=>intro _ p hp;cases hp
  | cons q r ih =>
   intro h p hp
   have h1:=(List.cons.inj h).1
   have h2:=(List.cons.inj h).2
   rcases List.mem_cons.mp hp with rfl | hp
   ·exact h1
   ·exact ih h2 p hp
 exact e cl S.sub _ hm
theorem Bx.hasC (S:Bx X scope cl own fr js){y:Str}(h:(relabel scope X.env).names.lookup y=some .cell\/(relabel scope X.env).names.lookup y=some .free):∃ c,cl.lookup y=some c:=by
 have key:∀ k:NameKind,(k=.cell\/k=.free)->(relabel scope X.env).names.lookup y=some k->∃ c,cl.lookup y=some c:=by
  intro k hk hl
  have q:=List.all_eq_true.mp S.has _ (lookup_mem hl)
  have kk:(k==NameKind.cell || k==NameKind.free)=true:=by
   rcases hk with rfl | rfl <;> rfl
  simp only [kk,Bool.not_true,Bool.false_or] at q
  exact Option.isSome_iff_exists.mp q
 rcases h with h | h
 ·exact key _ (.inl rfl) h
 ·exact key _ (.inr rfl) h
theorem Bx.free (S:Bx X scope cl own fr js){y:Str}(h:y∈fr):(X.env.kindOf y=some .cell\/X.env.kindOf y=some .free)/\((relabel scope X.env).names.lookup y=some .cell\/(relabel scope X.env).names.lookup y=some .free):=by
 have q:=List.all_eq_true.mp S.fre y h
 simpa [Bool.and_eq_true,Bool.or_eq_true] using q
theorem Ss {α β:Type}{f:α->β}{l:List α}{i:Nat}{b:β}(h:(l.map f)[i]?=some b):∃ a,l[i]?=some a/\f a=b:=by
 rw [List.getElem?_map] at h
 cases e:l[i]? with
 | none=>rw [e] at h;cases h
 | some a=>rw [e] at h;exact ⟨a,rfl,Option.some.inj h⟩
theorem Sv (S:Bx X scope cl own fr js)(I:Inv X pins σ H s)(hf:∀ b∈fp,HJ X pins H b)(hC:s.heap.objs.size<=C)(RI:s'.heap.Ns C m)(Sw:∀ b∈fp,b < s.heap.objs.size)
  (WL:s'.os=s.os) (hg:s'.gens=s.gens) (k:∀ b o,s.heap.get? b=some o->s'.heap.get? b=some o) :
  Inv (X.cmp scope cl own fr C s H fp) [] (Du own js σ) H s':=by
 have cells:∀ x c,cl.lookup x=some c->X.env.cells.lookup x=some c:=λx c h=>S.cells h
 refine ⟨⟨I.ok.mod,S.kind,I.ok.glob,I.ok.blt,hC,?_,?_,?_,I.ok.hd,I.ok.frames,.inl rfl,?_,I.bs,Nat.le_trans I.ok.bsz I.sz,?_,?_,I.stack,I.stkFree⟩,WL,?_,Un.kept k,⟨m,RI,?_⟩,?_,?_,?_,?_,I.hok.kept k,?_⟩
 ·intro x y c h1 h2
  exact I.ok.inj x y c (cells x c h1) (cells y c h2)
 ·intro x hx
  exact S.hasC hx
 ·intro x c h
  exact absurd (show false=true from h) Bool.false_ne_true
 ·intro b hb
  refine ⟨Nat.ne_of_lt (Nat.lt_of_lt_of_le (Sw b hb) hC),λx c h=>?_⟩
  exact (hf b hb).2.2.2.2.1 x c (cells x c h)
 ·intro b o e hb
  rcases (hf b hb).2.2.2.1 with z | z
  ·exact I.ok.noex b o e z
  ·exact absurd (Nat.lt_of_lt_of_le (Nat.lt_of_lt_of_le (Heap.lt_size e) I.ok.bsz) z) (Nat.lt_irrefl _)
 ·intro b hb z
  rcases List.mem_cons.mp (I.stkSub b z) with e | e
  ·exact (hf b hb).2.1 e
  ·exact (hf b hb).2.2.1 e
 ·rw [hg];exact I.bare
 ·intro i x v h1 h2 _
  have hN:(X.cmp scope cl own fr C s H fp).N=own++fr:=rfl
  rw [hN] at h1
  by_cases hi:i < own.length
  ·have:(Du own js σ)[i]?=some none:=by
    unfold Du
    rw [List.getElem?_append_left (by simpa using hi),List.getElem?_map]
    simp [hi]
   rw [this] at h2
   cases h2
  ·have hi:own.length<=i:=Nat.not_lt.mp hi
   rw [List.getElem?_append_right hi] at h1
   unfold Du at h2
   rw [List.getElem?_append_right (by simpa using hi),List.length_map] at h2
   obtain ⟨j,hj,ej⟩:=Ss h2
   have hXN:X.N[j]?=some x:=by
    have e1:(js.map (λj=>X.N[j]?))[i - own.length]?=some (X.N[j]?):=by rw [List.getElem?_map,hj];rfl
    rw [S.here,List.getElem?_map,h1] at e1
    exact (Option.some.inj e1).symm
   have hσ:σ[j]?=some (some v):=by
    cases e:σ[j]? with
    | none=>rw [e] at ej;cases ej
    | some o=>rw [e] at ej;cases o with
     | none=>cases ej
     | some u=>cases ej;rfl
   obtain ⟨kx,nA⟩:=S.free (List.mem_of_getElem? h1)
   obtain ⟨m0,_,hl⟩:=I.loc
   have pU:V1 X.env.scope x:=by
    rcases kx with z | z
    ·exact .inr (.inl z)
    ·exact .inr (.inr z)
   obtain ⟨u,r,lk⟩:=hl j x v hXN hσ pU
   refine ⟨u,r,.inr ⟨nA,?_⟩⟩
   obtain ⟨c,hc⟩:=S.hasC nA
   rcases lk with ⟨z,_⟩ | ⟨_,c',e',q⟩
   ·rcases kx with y | y <;> (rw [y] at z;cases z)
   ·rw [S.cells hc] at e'
    cases e'
    obtain ⟨o,ho,hd⟩:=q
    exact ⟨c,hc,o,k _ _ ho,hd⟩
 ·intro x c h
  obtain ⟨v,o,ho,hd⟩:=I.cell x c (cells x c h)
  exact ⟨v,o,k _ _ ho,hd⟩
 ·exact I.hok.fresh hC
 ·intro x c h
  exact I.freeC x c (cells x c h)
 ·intro p hp
  exact absurd (show p∈([]:List (Addr × Obj)) from hp) (by simp)
 ·have e:js.length=fr.length:=by
   have:=congrArg List.length S.here
   simpa using this
  show (Du own js σ).length=(own++fr).length
  unfold Du
  simp [e]
end
noncomputable def fF (X:Cx)(ifs:List Expr)(t:TT):Prop :=
 ∀ (pins:List (Addr × Obj)) (s:Shared) (σ:St) (H:Hp) (Q:Bool->Hp->Prop),Inv X pins σ H s->t σ H Q ->
  wpAny (model X.prog X.w) X.A (forIn ifs true λc r=>if r=true then do let ok <- isTrue c X.env (eval c X.env);pure (ForInStep.yield ok) else pure (ForInStep.yield r)) (TP X pins σ Q) X.xe s
noncomputable def HM:TT:=λ_ H Q=>Q true H
theorem Sx {X:Cx}:fF X [] HM:=λ_ _ _ H _ I h=>wpAny_tests_nil ⟨H,I,h⟩
theorem Sy {X:Cx}{c:Expr}{t:TT}(h:PT X c t):fF X [c] t:=λpins s σ H Q I q=>wpAny_tests_one (h pins s σ H Q I q)
noncomputable def Ext (σ σ':St):Prop:=σ'.length=σ.length/\∀ (i:Nat) v,σ[i]?=some (some v)->σ'[i]?=some (some v)
theorem Ext.set {σ:St}{i:Nat}{v:V}(h:σ[i]?=some none):Ext σ (σ.set i (some v)):=by
 refine ⟨by simp,λj u e=>?_⟩
 by_cases hj:i=j
 ·subst hj;rw [h] at e;cases e
 ·rw [List.getElem?_set_ne hj];exact e
noncomputable def Er (J:It)(H1:Hp)(σ:St)(g:TG)(tt:TT)(te:TE)(Fin:List V->Hp->Prop):Prop :=
  ∃ W:Nat->Nat->List V->Hp->Prop,(∃ m,W 0 m [] H1)/\∀ i m ys H,W i m ys H->ys.length<=sizeLine /\
    ((J.stop i H/\Fin ys H)\/(J.go i H/\ys.length < sizeLine/\∀ x H',J.yld i H x H'->g x σ H' fun σ2 H2=>Ext σ σ2/\tt σ2 H2 λb H3 =>
      if b=true then te σ2 H3 λy H4=>∃ m',m' < m/\W (i+1) m' (ys++[y]) H4 else ∃ m',m' < m/\W (i+1) m' ys H3))
section
variable {X:Cx}{scope:Scope}{cl:List (Str × Addr)}{own fr:List Str}{js:List Nat}{elt iter tg:Expr}{ifs:List Expr}{pos:Pos}{g:TG}{tt:TT}{te:TE}
 {pins:List (Addr × Obj)} {σ:St} {H2:Hp} {s2:Shared} {fp:List Addr} {it:Addr} {tn:Nat->Heap->Prop} {J:It} {Fin:List V->Hp->Prop} {E:Value->Shared->Prop}
theorem Oa {ys:List V}{us:List Value}{y:V}{u:Value}(r:Vals ys us)(q:RelV y u):Vals (ys++[y]) (us++[u]):=r.append (.cons q .nil)
theorem Io (S:Bx X scope cl own fr js)(EW:X.calm=true)
  (hg:∀ C s0 H0 ex,PG (X.cmp scope cl own fr C s0 H0 ex) tg g) (ht:∀ C s0 H0 ex,fF (X.cmp scope cl own fr C s0 H0 ex) ifs tt) (he:∀ C s0 H0 ex,PE (X.cmp scope cl own fr C s0 H0 ex) elt te)
  (I2:Inv X pins σ H2 s2) (T:Turn X.prog X.w X.K tg J fp it tn) (ql:tn 0 s2.heap) (hf:∀ b∈fp,HJ X pins H2 b) (L:Er J H2 (Du own js σ) g tt te Fin)
  {RR:Value->Addr->Result->Shared->Prop}
  (hRR:∀ (D C:Addr) (s':Shared) (ys:List V) (its:List Value) (n:Nat) (H':Hp) (m':Str->Option Value),s2.heap.objs.size<=D->s2.heap.objs.size<=C->D≠C->s'.os=s2.os->AllBare s'.gens ->
   Un (frs X.stack) fp H2 H' s2.heap s'.heap->D' X.prog X.w H' s'.heap->H' D=none->H' C=none->s'.heap.Ns C m'->Vals ys its->s'.heap.get? D=some { cls:=.type "list",data:=.seq its.toArray n }->ys.length<=sizeLine ->
   Fin ys H'->RR (.ref D) C (.ok .next) s') :
  wpAny (model X.prog X.w) X.A (newList []) (λacc s3=>wpAny (model X.prog X.w) X.A (newFunctionEnv scope X.env.globals cl [] X.env.qual none .none (some X.env)) (λgZ s4 =>
   codeAny (model X.prog X.w) X.A (.compStart (.ListComp elt [⟨tg,iter,ifs,0⟩] scope pos) 0 (.ref it) acc { gZ with scope:=relabel scope X.env }) (RR acc gZ.locals) s4) E s3) E s2:=by
 refine wpAny_newObj_type (wpAny_newFunctionEnv S.cell (by intro y hy;simp at hy) (λh1 RI nB=>?_) S.kind)
 dsimp only at RI nB ⊢
 generalize hG:s2.heap.push { cls:=.type "list",dict:=none,data:=.seq ([]:List Value).toArray }=G at RI nB ⊢
 have hC:G.objs.size=s2.heap.objs.size+1:=by rw [<- hG,Heap.size_push]
 have Vb:s2.heap.objs.size≠G.objs.size:=by omega
 have Sz:s2.heap.objs.size<=G.objs.size:=by omega
 have old:∀ b o,s2.heap.get? b=some o->h1.get? b=some o:=λb o e=>by
  have hb:=Heap.lt_size e
  exact nB.extBut b o (Nat.ne_of_lt (Nat.lt_of_lt_of_le hb Sz)) (Heap.get?_push_of_some _ (hG▸Heap.get?_push_of_some _ e))
 have Hc:h1.get? s2.heap.objs.size=some { cls:=.type "list",data:=.seq ([]:List Value).toArray 0 } :=
  nB.extBut _ _ Vb (Heap.get?_push_of_some _ (hG▸Heap.get?_push_size _ rfl))
 have Sw:∀ b∈fp,b < s2.heap.objs.size:=λb hb=>by
  obtain ⟨o,e,_⟩:=T.obj 0 _ ql b hb
  exact Heap.lt_size e
 have hU:∀ t:Nat,Inv (X.cmp scope cl own fr G.objs.size s2 H2 fp) [] (Du own js σ) H2 { s2 with heap:=h1,toks:=t }:=λt =>
  Sv S I2 hf Sz RI Sw rfl rfl old
 obtain ⟨W,⟨m0,w0⟩,turn⟩:=L
 have hDs:s2.heap.objs.size∉frs X.stack:=λz=>by
  rcases List.mem_cons.mp (I2.stkSub _ z) with e | e
  ·exact absurd I2.lt (by rw [<- e];exact Nat.lt_irrefl _)
  ·exact I2.nofs (Nat.le_refl _) e
 have WY:∀ {H:Hp} {s:Shared} {σ':St} {its:List Value} {n:Nat},Inv (X.cmp scope cl own fr G.objs.size s2 H2 fp) [] σ' H s->s.heap.get? s2.heap.objs.size=some { cls:=.type "list",data:=.seq its.toArray n }->H s2.heap.objs.size=none ->
   Inv (X.cmp scope cl own fr G.objs.size s2 H2 fp) [(s2.heap.objs.size,{ cls:=.type "list",data:=.seq its.toArray n })] σ' H s:=λ{H s σ' its n} I e hn=>I.pins_of λp hp=>by
  obtain rfl:=List.mem_singleton.mp hp
  exact ⟨e,hn,Vb,hDs,λv z=>by cases z⟩
 have WZ:∀ {H:Hp} {its:List Value} {n:Nat},(∀ b∈fp,H b=none)->∀ b∈fp,HJ (X.cmp scope cl own fr G.objs.size s2 H2 fp) [(s2.heap.objs.size,{ cls:=.type "list",data:=.seq its.toArray n })] H b:=λ{H its n} hn b hb=>by
  have DN:=Sw b hb
  refine ⟨hn b hb,?_,?_,.inl hb,?_,?_⟩
  ·exact Nat.ne_of_lt (Nat.lt_of_lt_of_le DN Sz)
  ·intro z
   rcases List.mem_cons.mp (I2.stkSub b z) with e | e
   ·exact (hf b hb).2.1 e
   ·exact (hf b hb).2.2.1 e
  ·intro x c h
   exact (hf b hb).2.2.2.2.1 x c (S.cells h)
  ·intro p hp
   obtain rfl:=List.mem_singleton.mp (show p∈[(s2.heap.objs.size,_)] from hp)
   exact Ne.symm (Nat.ne_of_lt DN)
 have loop:∀ t:Nat,codeAny (model X.prog X.w) X.A (.compLoop (.ListComp elt [⟨tg,iter,ifs,0⟩] scope pos) 0 (.ref it) (.ref s2.heap.objs.size) (gY X scope cl G.objs.size))
   (RR (.ref s2.heap.objs.size) G.objs.size) { s2 with heap:=h1,toks:=t }:=by
  intro t
  refine LN (λk s'=>RF λi ys its n H'=>Inv (X.cmp scope cl own fr G.objs.size s2 H2 fp) [(s2.heap.objs.size,{ cls:=.type "list",data:=.seq its.toArray n })] (Du own js σ) H' s'/\tn i s'.heap/\(∀ b∈fp,H' b=none) /\
   Vals ys its/\W i k ys H') ?_ m0 ⟨0,[],[],0,H2,WY (hU t) Hc (I2.hok.fresh (Nat.le_refl _)),T.keep _ _ _ ql λb _ o e=>old b o e,λb hb=>(hf b hb).1,.nil,w0⟩
  rintro n s3 ⟨i,ys,its,nn,H3,I3,gK,gL,rv,w3⟩
  obtain ⟨hlen,w3⟩:=turn i n ys H3 w3
  have Vc:=rv.length
  rcases w3 with ⟨stop,fin⟩ | ⟨go,DN,step⟩
  ·refine BD (T.done (X.cmp scope cl own fr G.objs.size s2 H2 fp) rfl rfl rfl EW i _ s3 _ H3 Sr I3 (WZ gL) gK stop) λr s4 q4=>?_
   obtain ⟨hr,I4⟩:=q4
   subst hr
   obtain ⟨eD,nD,_⟩:=I4.pin _ (List.mem_append_right _ (.head _))
   obtain ⟨m4,ns4,_⟩:=I4.loc
   exact hRR _ _ s4 ys its nn H3 m4 (Nat.le_refl _) Sz Vb I4.os I4.bare I4.base I4.hok nD I4.free ns4 rv eD hlen fin
  ·refine BD (T.item (X.cmp scope cl own fr G.objs.size s2 H2 fp) rfl rfl rfl EW i _ s3 _ H3 Sr I3 (WZ gL) gK go) λr s4 q4=>?_
   obtain ⟨u,hr,q4⟩:=q4
   subst hr
   refine BD q4 λ_ s5 q5=>?_
   obtain ⟨x,H5,I5,r5,y5,Wy,pV⟩:=q5
   have pW:=I5.pinned (WZ pV) (T.obj _ _ Wy)
   refine BD (hg G.objs.size s2 H2 fp _ s5 _ H5 x u _ pW r5 (step x H5 y5)) λ_ s6 q6=>?_
   obtain ⟨σ6,H6,I6,hX,q6⟩:=q6
   have fin:∀ {s7:Shared} {H7:Hp},Inv (X.cmp scope cl own fr G.objs.size s2 H2 fp) ([(s2.heap.objs.size,{ cls:=.type "list",data:=.seq its.toArray nn })]++GR fp s5.heap) σ6 H7 s7 ->
     tn (i+1) s7.heap/\(∀ b∈fp,H7 b=none)/\s7.heap.get? s2.heap.objs.size=some { cls:=.type "list",data:=.seq its.toArray nn }/\H7 s2.heap.objs.size=none/\Inv (X.cmp scope cl own fr G.objs.size s2 H2 fp) [] (Du own js σ) H7 s7:=λ{s7 H7} I7=>by
    have pd:=I7.pin _ (List.mem_append_right _ (List.mem_append_left _ (.head _)))
    refine ⟨T.keep _ _ _ Wy λb hb o e=>(I7.pin (b,o) (List.mem_append_right _ (List.mem_append_right _ (E1 hb e)))).1,λb hb=>?_,pd.1,pd.2.1,?_⟩
    ·obtain ⟨o,e,d⟩:=T.obj _ _ Wy b hb
     exact (I7.pin (b,o) (List.mem_append_right _ (List.mem_append_right _ (E1 hb e)))).2.1
    ·exact (I7.pins_of (pins':=[]) λp hp=>absurd hp (by simp)).weak hX.1.symm hX.2
   refine BD (ht G.objs.size s2 H2 fp _ s6 σ6 H6 _ I6 q6) λok s7 q7=>?_
   obtain ⟨H7,I7,q7⟩:=q7
   cases ok with
   | false =>
    obtain ⟨m',hm,w7⟩:=q7
    obtain ⟨a1,a2,a3,a4,a5⟩:=fin I7
    exact ⟨m',hm,i+1,ys,its,nn,H7,WY a5 a3 a4,a1,a2,rv,w7⟩
   | true =>
    refine BD (he G.objs.size s2 H2 fp _ s7 σ6 H7 _ I7 q7) λv s8 q8=>?_
    obtain ⟨y,H8,I8,r8,m',hm,w8⟩:=q8
    obtain ⟨a1,a2,a3,a4,a5⟩:=fin I8
    refine append_at (its:=its.toArray) (n:=nn) a3 (λh9 hs9 e9=>?_) (by rw [List.size_toArray,<- Vc];exact hlen)
    have kp:∀ b o,b≠s2.heap.objs.size->s8.heap.get? b=some o->h9.get? b=some o:=λb o hb e=>(hs9.2 b hb).trans e
    have I9:Inv (X.cmp scope cl own fr G.objs.size s2 H2 fp) [] (Du own js σ) H8 { s8 with heap:=h9,toks:=s8.toks }:=by
     refine a5.turned kp a4 Vb (.inr (Nat.le_refl _)) (λx c h z=>?_) (λp hp=>absurd (show p∈([]:List (Addr × Obj)) from hp) (by simp))
     obtain ⟨v,o,ho,_⟩:=I2.cell x c (S.cells h)
     exact absurd z (Nat.ne_of_lt (Heap.lt_size ho))
    have qm:h9.get? s2.heap.objs.size=some { cls:=.type "list",data:=.seq (its++[v]).toArray (nn+1) }:=by
     rw [e9]
     simp
    refine ⟨m',hm,i+1,ys++[y],its++[v],nn+1,H8,WY I9 qm a4,T.keep _ _ _ a1 λb hb o e=>kp b o ?_ e,a2,Oa rv r8,w8⟩
    exact Nat.ne_of_lt (Sw b hb)
 exact codeAny_compStart_list (loop _) (T.self _ 0 _ _ _ (T.keep _ _ _ ql λb _ o e=>old b o e) (loop _))
theorem MU {H':Hp}{s':Shared}{D:Addr}{ys:List V}{its:List Value}{n:Nat}(I2:Inv X pins σ H2 s2)(hf:∀ b∈fp,HJ X pins H2 b)(hD:s2.heap.objs.size<=D)(os:s'.os=s2.os)(bare:AllBare s'.gens)
  (un:Un (frs X.stack) fp H2 H' s2.heap s'.heap) (hok:D' X.prog X.w H' s'.heap) (nD:H' D=none) (rv:Vals ys its) (e:s'.heap.get? D=some { cls:=.type "list",data:=.seq its.toArray n }) (hz:ys.length<=sizeLine) :
  Inv X pins σ (upd H' D (.lst ys)) s':=by
 refine I2.call' (ch:=fp) os (un.track nD (Heap.get?_none_of_le hD)) (hok.track nD ⟨hz,its,n,rv,e⟩) bare λb hb=>?_
 obtain ⟨_,f1,_,f3,f4,f5⟩:=hf b hb
 exact ⟨f3,f1,f4,f5⟩
noncomputable def MW (own:List Str)(js:List Nat)(wi:TI)(g:TG)(tt:TT)(te:TE):TE:=fun σ H Q=>wi σ H λJ H1 =>
 Er J H1 (Du own js σ) g tt te λys H2=>∀ D,H2 D=none->Q (.ref D) (upd H2 D (.lst ys))
theorem SH {wi:TI}(S:Bx X scope cl own fr js)(EW:X.calm=true)(hi:PI X tg iter wi)
  (hg:∀ C s0 H0 ex,PG (X.cmp scope cl own fr C s0 H0 ex) tg g) (ht:∀ C s0 H0 ex,fF (X.cmp scope cl own fr C s0 H0 ex) ifs tt) (he:∀ C s0 H0 ex,PE (X.cmp scope cl own fr C s0 H0 ex) elt te)
  (hs:∀ x,foldedSetIterable iter X.env x=pure x:=by intro _;rfl):PE X (.ListComp elt [⟨tg,iter,ifs,0⟩] scope pos) (MW own js wi g tt te):=by
 intro pins s σ H Q I h
 rw [eval_ListComp]
 refine wpAny_comprehension_free (use:=none) rfl hs S.clos S.kind S.names (BD (hi pins s σ H _ I h) λv s1 q1=>BD q1 λng s2 q2=>?_)
 obtain ⟨it,fp,tn,J,H2,rfl,I2,T,st,hf,L⟩:=q2
 refine Io (RR:=λacc C=>compPost (model X.prog X.w) X.A X.xe none (EP X pins σ Q) acc C) S EW hg ht he I2 T st hf L ?_
 intro D C s' ys its n H' m' hD hC Vb os bare un hok nD nC ns rv e hz fin
 refine ⟨m',ns,λh'' SJ=>?_⟩
 have I3:=MU I2 hf hD os bare un hok nD rv e hz
 have qo:(upd H' D (.lst ys)) C=none:=by rw [AQ (Ne.symm Vb)];exact nC
 obtain ⟨f0,f1,_,f3,f4,f5⟩:=I2.fpOk hC qo
 have I4:Inv X pins σ (upd H' D (.lst ys)) { s' with heap:=h'',toks:=s'.toks }:=I3.turned (λb o hb q=>(SJ.2 b hb).trans q) f0 f1 f3 f4 f5
 exact ⟨.ref D,_,I4,rfl,fin D nD⟩
noncomputable def LP (i:Nat)(own:List Str)(js:List Nat)(wi:TI)(g:TG)(tt:TT)(te:TE):TS:=λD σ H=>wi σ H λJ H1 =>
 Er J H1 (Du own js σ) g tt te λys H2=>∀ a,H2 a=none->D.nx (σ.set i (some (.ref a))) (upd H2 a (.lst ys))
theorem SK {wi:TI}{i:Nat}{y:Str}{py Q9:Pos}(hN:X.N.Nodup)(hy:X.N[i]?=some y)(hx:Loc X.env.scope y)(S:Bx X scope cl own fr js)(EW:X.calm=true)(hi:PI X tg iter wi)
  (hg:∀ C s0 H0 ex,PG (X.cmp scope cl own fr C s0 H0 ex) tg g) (ht:∀ C s0 H0 ex,fF (X.cmp scope cl own fr C s0 H0 ex) ifs tt) (he:∀ C s0 H0 ex,PE (X.cmp scope cl own fr C s0 H0 ex) elt te)
  (qp:swapsWith (.ListComp elt [⟨tg,iter,ifs,0⟩] scope pos) (some (.Name y py)) Q9.line X.env=pure true:=by rfl)
  (hf:X.fn y=true\/X.env.scope.names.lookup y=some .local:=by first | exact .inl rfl | exact .inr rfl | assumption)
  (hs:∀ x,foldedSetIterable iter X.env x=pure x:=by intro _;rfl):PS X (.Assign [.Name y py] (.ListComp elt [⟨tg,iter,ifs,0⟩] scope pos) Q9) (LP i own js wi g tt te):=by
 intro pins s σ H D I h
 rw [exec_Assign_Name_used _ _ _ _ qp]
 refine wpAny_bind (wpAny_standAt (wpAny_bind ?_))
 show wpAny _ X.A (do let _ <- comprehension (.ListComp elt [⟨tg,iter,ifs,0⟩] scope pos) scope X.env _ (newList []) false (eval iter X.env) (some (assign (.Name y py) X.env))) _ _ s
 refine wpAny_bind (BD (Q:=λ_ s'=>SP X pins D .next s') ?_ λ_ s' q=>wpAny_pure (wpAny_pure q))
 refine wpAny_comprehension_free (use:=some (assign (.Name y py) X.env)) rfl hs S.clos S.kind S.names (BD (hi pins s σ H _ I h) λv s1 q1=>BD q1 λng s2 q2=>?_)
 obtain ⟨it,fp,tn,J,H2,rfl,I2,T,st,nE,L⟩:=q2
 refine Io (RR:=λacc C=>compPost (model X.prog X.w) X.A X.xe (some (assign (.Name y py) X.env)) (λ_ s'=>SP X pins D .next s') acc C) S EW hg ht he I2 T st nE L ?_
 intro d C s' ys its n H' m' hD hC Vb os bare un hok nD nC ns rv e hz fin
 have I3:=MU I2 nE hD os bare un hok nD rv e hz
 have qo:(upd H' d (.lst ys)) C=none:=by rw [AQ (Ne.symm Vb)];exact nC
 obtain ⟨f0,f1,_,f3,f4,f5⟩:=I2.fpOk hC qo
 show wpAny _ X.A (assign (.Name y py) X.env (.ref d)) _ _ s'
 refine wpAny_assign_Name (HZ I3 hN hy hx (v:=.ref d) rfl (λs4 I4 ch=>?_) hf)
 obtain ⟨a,sb,ha⟩:=ch
 have hCa:C≠a:=by
  rcases ha with rfl | ha
  ·exact f1
  ·exact λz=>f4 y a ha z.symm
 refine ⟨m',ns.sameBut sb hCa,λh5 qr=>?_⟩
 exact ⟨_,_,I4.turned (t':=s4.toks) (λb o hb q=>(qr.2 b hb).trans q) f0 f1 f3 f4 f5,fin d nD⟩
end
noncomputable def JW (K:W.Frag)(a:Addr)(n:Nat):It :=
 ⟨λi H=>∃ xs,B3 K H a xs/\xs.length=n/\i < n,λi H x H'=>H'=H/\∀ xs,B3 K H a xs->xs.reverse[i]?=some x,λi _=>n<=i⟩
theorem Qa {P:Program}{w:World}{K:W.Frag}{tg:Expr}(a it:Addr)(n:Nat):Turn P w K tg (JW K a n) [it] it (λi h=>i<=n/\h.IsRevIter it a ((n:Int) - 1 - (i:Int))) where
 mem:=by simp
 obj:=by
  intro i h st b hb
  obtain rfl:b=it:=by simpa using hb
  obtain ⟨_,o,e,c,d⟩:=st
  exact ⟨o,e,λv z=>by rw [d] at z;cases z⟩
 keep:=λi h h' st k=>⟨st.1,st.2.at λo e=>k it (by simp) o e⟩
 item:=by
  intro X hP hw hK hc i pins s σ H E I hf st hg
  subst hP hw hK
  obtain ⟨xs,hq,hn,hi⟩:=hg
  obtain ⟨its,rv,p,hz⟩:=I.list hq
  have hlen:=rv.length
  obtain ⟨f0,f1,f2,f3,f4,f5⟩:=hf it (by simp)
  have ix:n - 1 - i < xs.length:=by omega
  have hx:xs[n - 1 - i]?=some (xs[n - 1 - i]'ix):=List.getElem?_eq_getElem ix
  obtain ⟨u,hu,ru⟩:=rv.get hx
  have ei:(n:Int) - 1 - (i:Int)=((n - 1 - i:Nat):Int):=by omega
  have MC:=st.2
  rw [ei] at MC
  refine wpAny_pyNext_rev_item MC p.isList (x:=u) (by simpa using hu) λh' gJ sb=>?_
  have I1:Inv X pins σ H { s with heap:=h' }:=I.turned (t':=s.toks) (λb o hb e=>(sb.2 b hb).trans e) f0 f1 f3 f4 f5
  have e2:((n - 1 - i:Nat):Int) - 1=(n:Int) - 1 - ((i+1:Nat):Int):=by omega
  rw [e2] at gJ
  obtain ⟨o,e,c,d⟩:=id gJ
  refine ⟨u,rfl,MB (s:={ s with heap:=h' }) e c d ⟨⟩ ⟨xs[n - 1 - i]'ix,H,I1,ru,⟨rfl,λys hy=>?_⟩,⟨hi,gJ⟩,λb hb=>(hf b hb).1⟩⟩
  rw [I.list_inj hy hq,List.getElem?_reverse (),<- hx]
  congr 1
  omega
 done:=by
  intro X hP hw hK hc i pins s σ H E I hf st hg
  subst hP hw hK
  obtain ⟨f0,f1,f2,f3,f4,f5⟩:=hf it (by simp)
  have hg':n<=i:=hg
  have e1:(n:Int) - 1 - (i:Int)=-1:=by have:=st.1;omega
  have MC:=st.2
  rw [e1] at MC
  exact wpAny_pyNext_rev_end (I.ok.hd hc) MC λh' eb=>⟨rfl,I.turned (t':=s.toks) (λb o hb e=>eb b o hb e) f0 f1 f3 f4 f5⟩
 self:=λ_ _ _ _ _ st h=>wpAny_pyIter_revIter st.2 h
section
variable {X:Cx}{tg:Expr}
inductive Qb (K:W.Frag)(R:(It->Hp->Prop))(vs:(List V))(H1:Hp):Prop
 | mk (a:_) (xs:_) (h1:vs=[.ref a]) (h2:B3 K H1 a xs) (h3:R (JW K a xs.length) H1):Qb K R vs H1
noncomputable def W' (K:W.Frag)(ta:TA):TI:=fun σ H R=>ta σ H λvs H1=>Qb K R vs H1
theorem X1 {a:Expr}{ta:TA}{p pos:Pos}(hg:Gl X "reversed")(hm:X.mg "reversed"=none)(ha:PA X [a] ta)(hs:starEach [a] X.env=[(false,eval a X.env)]:=by rfl):PI X tg (.Call (.Name "reversed" p) [a] [] pos) (W' X.K ta):=by
 intro pins s σ H R I h
 refine Call_ (Ek I hg hm boot_reversed (PyProof.Rows.callWith_type1 (BD (ha pos pins s σ H _ I h) λus s1 q1=>?_) hs rfl))
 obtain ⟨vs,H1,I1,r1,l,xs,rfl,hq,q⟩:=q1
 obtain ⟨u,rfl,ru⟩:=vals1 r1
 cases ru
 obtain ⟨its,rv,pl,hz⟩:=I1.list hq
 have hlen:=rv.length
 refine call_reversed_list pl.isList ?_
 have gr:(s1.heap.push (revObj l ((its.toArray.size:Int) - 1))).IsRevIter s1.heap.objs.size l ((xs.length:Int) - 1 - ((0:Nat):Int)):=by
  refine ⟨_,Heap.get?_push_size _ rfl,rfl,?_⟩
  show Data.fields #[.ref l,rawInt ((its.toArray.size:Int) - 1)]=_
  rw [List.size_toArray,<- hlen]
  simp
 refine wpAny_pyIter_revIter gr ?_
 refine ⟨s1.heap.objs.size,[s1.heap.objs.size],_,_,H1,rfl,I1.kept (t':=s1.toks) λb o e=>Heap.get?_push_of_some _ e,Qa l _ xs.length,⟨Nat.zero_le _,gr⟩,λb hb=>?_,q⟩
 obtain rfl:b=s1.heap.objs.size:=by simpa using hb
 exact I1.fpOk (Nat.le_refl _) (I1.hok.fresh (Nat.le_refl _))
end
theorem SM {K:W.Frag}{a:Addr}{xs:List V}{g:TG}{tb:TS}{D:Ends}{σ:St}{H:Hp}(Pv:Nat->St->Hp->Prop)(h0:Pv 0 σ H)(hl:∀ i σ H,i<=xs.length->Pv i σ H->B3 K H a xs)
  (hs:∀ i x σ H,xs.reverse[i]?=some x->Pv i σ H->g x σ H fun σ2 H2=>tb { D with nx:=Pv (i+1),ct:=Pv (i+1),bk:=D.nx } σ2 H2) (hd:∀ σ H,Pv xs.length σ H->D.nx σ H) :
  ∃ W:Nat->Nat->St->Hp->Prop,(∃ m,W 0 m σ H)/\∀ i m σ H,W i m σ H ->
   ((JW K a xs.length).stop i H/\D.nx σ H)\/((JW K a xs.length).go i H/\∃ N:St->Hp->Prop,(∀ σ' H',N σ' H'->∃ m',m' < m/\W (i+1) m' σ' H')/\∀ x H',(JW K a xs.length).yld i H x H'->g x σ H' fun σ2 H2=>tb { D with nx:=N,ct:=N,bk:=D.nx } σ2 H2):=by
 refine ⟨λi m σ H=>m=xs.length - i/\i<=xs.length/\Pv i σ H,⟨xs.length,by simp,Nat.zero_le _,h0⟩,?_⟩
 rintro i m σ H ⟨rfl,hi,p⟩
 have q:=hl i σ H hi p
 by_cases DN:i < xs.length
 ·refine .inr ⟨⟨xs,q,rfl,DN⟩,Pv (i+1),fun σ' H' p'=>⟨xs.length - (i+1),(),rfl,DN,p'⟩,λx H' y=>?_⟩
  obtain ⟨e,y⟩:=y
  subst e
  exact hs i x σ _ (y xs q) p
 ·obtain rfl:i=xs.length:=by omega
  exact .inl ⟨Nat.le_refl _,hd σ H p⟩
open PySem.W (fnMade fnX envX CodeHd tabObj makeFunction_K makeFunction_hit nestDef_K FnAt callWith_F)
noncomputable def nF (a:Addr)(o:Obj):HO:=.ext λh=>h.get? a=some o
section
variable {P:Program}{w:World}{H H':Hp}{h h':Heap}{a b:Addr}{o:Obj}{fs:List Addr}
theorem nF.get (x:D' P w H h)(e:H a=some (nF a o)):h.get? a=some o:=(x a _ e).1
end
structure MX (base:Heap)(mg:Str->Option Value)(c P:Addr):Prop where
 hd:CodeHd base c P
 bm:∃ bm ob,mg "__builtins__"=some (.ref bm)/\bm≠builtinsNs/\base.get? bm=some ob/\ob.cls=.type "module"/\ob.dict=some builtinsNs/\ob.data=.plain
end L2
namespace KM
inductive Kd where
 | num | tru | gap (k:Int) | fn (a b:Kd) | pr (a b:Kd) | ls (a:Kd)
 deriving DecidableEq
noncomputable def Ee:Kd->Bool
 | .gap _=>true
 | _=>false
noncomputable def parts:Kd->List Kd
 | .fn a b=>[a,b]
 | .pr a b=>[a,b]
 | .ls a=>[a]
 | _=>[]
noncomputable def sz:Kd->Nat
 | .fn a b=>sz a+sz b+1
 | .pr a b=>sz a+sz b+1
 | .ls a=>sz a+1
 | _=>1
noncomputable def dp:Kd->Nat
 | .fn a b=>max (dp a) (dp b)+1
 | .pr a b=>max (dp a) (dp b)+1
 | .ls a=>dp a+1
 | _=>0
noncomputable def szs:List Kd->Nat
 | []=>0
 | t::ts=>sz t+szs ts
theorem F8 (a b:List Kd):szs (a++b)=szs a+szs b:=by
 induction a with
 | nil=>simp [szs]
 | cons t ts ih=>simp only [List.cons_append,szs,ih];omega
theorem Ob (t:Kd):szs (parts t)+1=sz t:=by cases t <;> simp [szs,parts,sz]
theorem Oc (t:Kd):(parts t).length<=2:=by cases t <;> simp [parts]
end KM
namespace KS
open PySem PySem.Spec PyProof.Rows L2 KM
noncomputable def word:Kd->Str
 | .num=>"number"
 | .tru=>"truth"
 | .gap _=>"any"
 | .fn _ _=>"fun"
 | .pr _ _=>"pair"
 | .ls _=>"list"
noncomputable def BY (H:Hp):Kd->V->Prop
 | .num,v=>∃ a,v=.ref a/\H a=some (.tup [.str "number"])
 | .tru,v=>∃ a,v=.ref a/\H a=some (.tup [.str "truth"])
 | .gap k,v=>∃ a,v=.ref a/\H a=some (.tup [.str "any",.int k])
 | .ls x,v=>D1 λa u=>v=.ref a/\H a=some (.tup [.str "list",u])/\BY H x u
 | .fn x y,v=>Dw λa u w=>v=.ref a/\H a=some (.tup [.str "fun",u,w])/\BY H x u/\BY H y w
 | .pr x y,v=>Dw λa u w=>v=.ref a/\H a=some (.tup [.str "pair",u,w])/\BY H x u/\BY H y w
abbrev qt (H:Hp):List Kd->List V->Prop:=Paired (BY H)
noncomputable def Au (H H':Hp):Prop:=∀ a xs,H a=some (.tup xs)->H' a=some (.tup xs)
theorem Au.refl (H:Hp):Au H H:=λ_ _ h=>h
theorem Au.trans {H H1 H2:Hp}(a:Au H H1)(b:Au H1 H2):Au H H2:=λc xs h=>b c xs (a c xs h)
theorem Au.of_same {H H':Hp}(s:An H H'):Au H H':=λa xs h=>s a _ h
theorem Au.put {H:Hp}{a:Addr}{o:HO}(h:∀ xs,H a≠some (.tup xs)):Au H (upd H a o):=λb xs e=>by
 rw [AQ]
 ·exact e
 ·intro z;subst z;exact h xs e
theorem Au.new {H:Hp}{a:Addr}{o:HO}(h:H a=none):Au H (upd H a o):=Au.put λxs e=>by rw [h] at e;cases e
theorem BY.mono {H H':Hp}(s:Au H H'):∀ {t:Kd} {v:V},BY H t v->BY H' t v
 | .num,_,⟨a,e,h⟩=>⟨a,e,s _ _ h⟩
 | .tru,_,⟨a,e,h⟩=>⟨a,e,s _ _ h⟩
 | .gap _,_,⟨a,e,h⟩=>⟨a,e,s _ _ h⟩
 | .ls _,_,⟨a,u,e,h,p⟩=>⟨a,u,e,s _ _ h,BY.mono s p⟩
 | .fn _ _,_,⟨a,u,w,e,h,p,q⟩=>⟨a,u,w,e,s _ _ h,BY.mono s p,BY.mono s q⟩
 | .pr _ _,_,⟨a,u,w,e,h,p,q⟩=>⟨a,u,w,e,s _ _ h,BY.mono s p,BY.mono s q⟩
theorem BY.look {H:Hp}:∀ {t:Kd} {v:V},BY H t v->D1 λa us=>v=.ref a/\H a=some (.tup (.str (word t)::us))/\(Ee t=false->qt H (parts t) us)/\(∀ k,t=.gap k->us=[.int k])/\us.length<=2
 | .num,_,⟨a,e,h⟩=>⟨a,[],e,h,λ_=>.nil,λ_ z=>(by cases z),by simp⟩
 | .tru,_,⟨a,e,h⟩=>⟨a,[],e,h,λ_=>.nil,λ_ z=>(by cases z),by simp⟩
 | .gap k,_,⟨a,e,h⟩=>⟨a,[.int k],e,h,λz=>(by simp [Ee] at z),λ_ z=>(by cases z;rfl),by simp⟩
 | .ls _,_,⟨a,u,e,h,p⟩=>⟨a,[u],e,h,λ_=>.cons p .nil,λ_ z=>(by cases z),by simp⟩
 | .fn _ _,_,⟨a,u,w,e,h,p,q⟩=>⟨a,[u,w],e,h,λ_=>.cons p (.cons q .nil),λ_ z=>(by cases z),by simp⟩
 | .pr _ _,_,⟨a,u,w,e,h,p,q⟩=>⟨a,[u,w],e,h,λ_=>.cons p (.cons q .nil),λ_ z=>(by cases z),by simp⟩
theorem Qc {t:Kd}:(word t=("any":Str))↔Ee t=true:=by
 cases t <;> simp [word,Ee] <;> decide
noncomputable def pd:Kd->PyData
 | .num=>.tuple [.str "number"]
 | .tru=>.tuple [.str "truth"]
 | .gap k=>.tuple [.str "any",.int k]
 | .ls x=>.tuple [.str "list",pd x]
 | .fn x y=>.tuple [.str "fun",pd x,pd y]
 | .pr x y=>.tuple [.str "pair",pd x,pd y]
theorem DS:PyData.strOk (Str.ofString "number")=true/\PyData.strOk (Str.ofString "truth")=true/\PyData.strOk (Str.ofString "any")=true/\PyData.strOk (Str.ofString "list")=true/\PyData.strOk (Str.ofString "fun")=true/\PyData.strOk (Str.ofString "pair")=true:=by decide +kernel
theorem FW:∀ t:Kd,(pd t).canLay0=true
 | .num=>by simp [pd,PyData.canLay0,PyData.canLayAll0,DS]
 | .tru=>by simp [pd,PyData.canLay0,PyData.canLayAll0,DS]
 | .gap k=>by simp [pd,PyData.canLay0,PyData.canLayAll0,DS]
 | .ls x=>by simp [pd,PyData.canLay0,PyData.canLayAll0,FW x,DS]
 | .fn x y=>by simp [pd,PyData.canLay0,PyData.canLayAll0,FW x,FW y,DS]
 | .pr x y=>by simp [pd,PyData.canLay0,PyData.canLayAll0,FW x,FW y,DS]
theorem DT:∀ t:Kd,(pd t).depth=dp t+1
 | .num=>by simp [pd,PyData.depth,PyData.depthAll,dp]
 | .tru=>by simp [pd,PyData.depth,PyData.depthAll,dp]
 | .gap k=>by simp [pd,PyData.depth,PyData.depthAll,dp]
 | .ls x=>by simp [pd,PyData.depth,PyData.depthAll,dp,DT x]
 | .fn x y=>by simp [pd,PyData.depth,PyData.depthAll,dp,DT x,DT y]
 | .pr x y=>by simp [pd,PyData.depth,PyData.depthAll,dp,DT x,DT y]
theorem Ip {t:Kd}(h:dp t<=60):SeqAt.shaped (pd t)=true:=by
 unfold SeqAt.shaped
 rw [FW,DT]
 simp
 omega
noncomputable def tag:Kd->Nat
 | .num=>0
 | .tru=>1
 | .gap _=>2
 | .fn _ _=>3
 | .pr _ _=>4
 | .ls _=>5
noncomputable def Qd:Nat->Str
 | 0=>"number"
 | 1=>"truth"
 | 2=>"any"
 | 3=>"fun"
 | 4=>"pair"
 | _=>"list"
theorem JX:∀ i,i < 6->∀ j,j < 6->(Qd i==Qd j)=(i==j):=by decide +kernel
theorem GD (t:Kd):word t=Qd (tag t):=by cases t <;> rfl
theorem Qe (t:Kd):tag t < 6:=by cases t <;> simp [tag]
theorem Qf (t t':Kd):(word t==word t')=(tag t==tag t'):=by
 rw [GD,GD,JX _ (Qe t) _ (Qe t')]
theorem SN (xs ys:List PyData):PyData.eqv (.tuple xs) (.tuple ys)=PyData.eqvAll xs ys:=by rw [PyData.eqv]
theorem Dv (x y:PyData)(xs ys:List PyData):PyData.eqvAll (x::xs) (y::ys)=(PyData.eqv x y && PyData.eqvAll xs ys):=by rw [PyData.eqvAll]
theorem EI:PyData.eqvAll [] []=true:=by rw [PyData.eqvAll]
theorem SQ (x y:Str):PyData.eqv (.str x) (.str y)=(x==y):=by rw [PyData.eqv]
theorem SR (x y:Int):PyData.eqv (.int x) (.int y)=(x==y):=by rw [PyData.eqv]
noncomputable def SU:Kd->List PyData
 | .num=>[]
 | .tru=>[]
 | .gap k=>[.int k]
 | .ls x=>[pd x]
 | .fn x y=>[pd x,pd y]
 | .pr x y=>[pd x,pd y]
theorem Vd (t:Kd):pd t=.tuple (.str (word t)::SU t):=by cases t <;> rfl
theorem FX (t t':Kd):PyData.eqv (pd t) (pd t')=((tag t==tag t') && PyData.eqvAll (SU t) (SU t')):=by
 rw [Vd,Vd,SN,Dv,SQ,Qf]
theorem X2:∀ t t':Kd,PyData.eqv (pd t) (pd t')=decide (t=t'):=by
 intro t
 induction t with
 | num=>intro t';rw [FX];cases t' <;> simp [tag,SU,EI]
 | tru=>intro t';rw [FX];cases t' <;> simp [tag,SU,EI]
 | gap k =>
  intro t';rw [FX]
  cases t' <;> simp only [tag,SU] <;> try (simp;done)
  rw [Dv,SR,EI,Bool.eq_iff_iff]
  simp
 | ls x ih =>
  intro t';rw [FX]
  cases t' <;> simp only [tag,SU] <;> try (simp;done)
  rw [Dv,EI,ih,Bool.eq_iff_iff]
  simp
 | fn x y qu qv =>
  intro t';rw [FX]
  cases t' <;> simp only [tag,SU] <;> try (simp;done)
  rw [Dv,Dv,EI,qu,qv,Bool.eq_iff_iff]
  simp
 | pr x y qu qv =>
  intro t';rw [FX]
  cases t' <;> simp only [tag,SU] <;> try (simp;done)
  rw [Dv,Dv,EI,qu,qv,Bool.eq_iff_iff]
  simp
theorem EJ {P:Program}{w:World}{H:Hp}{h:Heap}{a:Addr}{xs:List V}(x:D' P w H h)(e:H a=some (.tup xs)):Dw λo its n=>Vals xs its/\h.get? a=some o/\o.cls=.type "tuple"/\o.data=.seq its.toArray n:=by
 obtain ⟨_,its,r,o,h1,h2,n,h3⟩:=(show Br P w H h a (.tup xs) from x a _ e)
 exact ⟨o,its,n,r,h1,h2,h3⟩
theorem BY.reads {P:Program}{w:World}{H:Hp}{h:Heap}(x:D' P w H h):∀ {t:Kd} {v:V} {u:Value},BY H t v->RelV v u->∃ as,Reads h u (pd t) as
 | .num,_,_,⟨a,e,q⟩,r=>by
  subst e;cases r
  obtain ⟨o,its,n,rv,h1,h2,h3⟩:=EJ x q
  cases rv with | cons r1 rv=>cases rv;obtain ⟨t1,rfl⟩:=r1;exact ⟨_,.tuple h1 h2 h3 (.cons (.str _ _) .nil)⟩
 | .tru,_,_,⟨a,e,q⟩,r=>by
  subst e;cases r
  obtain ⟨o,its,n,rv,h1,h2,h3⟩:=EJ x q
  cases rv with | cons r1 rv=>cases rv;obtain ⟨t1,rfl⟩:=r1;exact ⟨_,.tuple h1 h2 h3 (.cons (.str _ _) .nil)⟩
 | .gap k,_,_,⟨a,e,q⟩,r=>by
  subst e;cases r
  obtain ⟨o,its,n,rv,h1,h2,h3⟩:=EJ x q
  cases rv with | cons r1 rv=>cases rv with | cons r2 rv=>cases rv;obtain ⟨t1,rfl⟩:=r1;obtain ⟨t2,rfl⟩:=r2;exact ⟨_,.tuple h1 h2 h3 (.cons (.str _ _) (.cons (.int _ _) .nil))⟩
 | .ls y,_,_,⟨a,u,e,q,p⟩,r=>by
  subst e;cases r
  obtain ⟨o,its,n,rv,h1,h2,h3⟩:=EJ x q
  cases rv with | cons r1 rv=>cases rv with | cons r2 rv =>
   cases rv;obtain ⟨t1,rfl⟩:=r1
   obtain ⟨as,ra⟩:=BY.reads x p r2
   exact ⟨_,.tuple h1 h2 h3 (.cons (.str _ _) (.cons ra .nil))⟩
 | .fn y z,_,_,⟨a,u,u',e,q,p,p'⟩,r=>by
  subst e;cases r
  obtain ⟨o,its,n,rv,h1,h2,h3⟩:=EJ x q
  cases rv with | cons r1 rv=>cases rv with | cons r2 rv=>cases rv with | cons r3 rv =>
   cases rv;obtain ⟨t1,rfl⟩:=r1
   obtain ⟨as,ra⟩:=BY.reads x p r2
   obtain ⟨bs,rb⟩:=BY.reads x p' r3
   exact ⟨_,.tuple h1 h2 h3 (.cons (.str _ _) (.cons ra (.cons rb .nil)))⟩
 | .pr y z,_,_,⟨a,u,u',e,q,p,p'⟩,r=>by
  subst e;cases r
  obtain ⟨o,its,n,rv,h1,h2,h3⟩:=EJ x q
  cases rv with | cons r1 rv=>cases rv with | cons r2 rv=>cases rv with | cons r3 rv =>
   cases rv;obtain ⟨t1,rfl⟩:=r1
   obtain ⟨as,ra⟩:=BY.reads x p r2
   obtain ⟨bs,rb⟩:=BY.reads x p' r3
   exact ⟨_,.tuple h1 h2 h3 (.cons (.str _ _) (.cons ra (.cons rb .nil)))⟩
section
variable {X:Cx}
inductive X3 (x:V)(y:V)(H:Hp)(Q:VK):Prop
 | mk (t:_) (t':_) (h1:BY H t x) (h2:BY H t' y) (h3:dp t<=60) (h4:dp t'<=60) (h5:Q (.bl (decide (t=t'))) H):X3 x y H Q
theorem X4 (hu:X.A.units+64 < cLine):EG X (compareOp .Eq) X3:=by
 intro pins s σ H x y v u Q I rx ry h
 obtain ⟨t,t',k1,k2,d1,d2,q⟩:=h
 obtain ⟨as,ra⟩:=BY.reads I.hok k1 rx
 obtain ⟨bs,rb⟩:=BY.reads I.hok k2 ry
 exact eq_dataH ra rb (Ip d1) (Ip d2) hu (B8 I q (X2 t t').symm)
theorem BO:Ds X (.builtin "isinstance") (λxs H Q=>∃ x t T b,xs=[x,.ty T]/\C6 X.K H x t/\W.kitOne X.K t (.type T)=some b/\Q (.bl b) H):=by
 intro pins s σ H xs us Q I r h
 obtain ⟨x,t,T,b,rfl,ty,e,q⟩:=h
 obtain ⟨u,u',rfl,ru,ru'⟩:=vals2 r
 obtain rfl:u'=Value.type T:=ru'
 exact O0 I ru ty e λtk=>⟨.bl b,H,I.tok tk,rfl,q⟩
theorem all_bools:∀ (bs:List Bool),((List.range bs.length).all λi=>bs.getD i true)=bs.all id:=by
 intro bs
 rw [Bool.eq_iff_iff]
 simp only [List.all_eq_true,List.mem_range,id]
 constructor
 ·intro h b hb
  obtain ⟨i,hi,e⟩:=List.mem_iff_getElem.mp hb
  have:=h i hi
  simpa [List.getD,List.getElem?_eq_getElem hi,e] using this
 ·intro h i hi
  have:=h bs[i] (List.getElem_mem hi)
  simpa [List.getD,List.getElem?_eq_getElem hi] using this
theorem FY (hc:X.calm=true):Ds X (.builtin "all") (λxs H Q=>∃ (l:Addr) (bs:List Bool),xs=[.ref l]/\H l=some (.lst (bs.map V.bl))/\Q (.bl (bs.all id)) H):=by
 intro pins s σ H xs us Q I r h
 obtain ⟨l,bs,rfl,hl,q⟩:=h
 obtain ⟨u,rfl,ru⟩:=vals1 r
 obtain rfl:u=Value.ref l:=ru
 obtain ⟨hz,its,n,rv,e⟩:=(show Br X.prog X.w H s.heap l (.lst (bs.map V.bl)) from I.hok l _ hl)
 have hlen:=rv.length
 rw [List.length_map] at hlen
 have hL:s.heap.IsList l its.toArray:=⟨_,e,rfl,n,rfl⟩
 have DN:l < s.heap.objs.size:=Heap.lt_size e
 have hh:X.A.in1.handled=none:=I.ok.hd hc
 refine call_all_walk (wpAny_pyIter_list hL ?_)
 refine ⟨s.heap.objs.size,_,_,its.toArray.size,_,_,λi=>bs.getD i true,rfl,Walks.list hh s.heap.objs.size l (Nat.ne_of_lt DN) its.toArray,⟨⟨_,Heap.get?_push_size _ rfl,rfl,rfl⟩,⟨_,Heap.get?_push_of_some _ e,rfl,n,rfl⟩⟩,?_,λh' tk hk=>?_⟩
 ·intro i v s' Q' E' hv hq
  have S6:its[i]?=some v:=by simpa using hv
  have hi:i < its.length:=(List.getElem?_eq_some_iff.mp S6).1
  have hb:(bs.map V.bl)[i]?=some (V.bl (bs[i]'())):=by rw [List.getElem?_map,List.getElem?_eq_getElem ()];rfl
  obtain ⟨u,hu,ru⟩:=rv.get hb
  rw [S6] at hu
  cases hu
  obtain rfl:v=Value.bool (bs[i]'()):=ru
  refine wpAny_truthy_bool ?_
  have e1:bs.getD i true=bs[i]'():=by simp [List.getD,List.getElem?_eq_getElem (show i < bs.length by omega)]
  rw [<- e1]
  exact hq
 ·have I1:Inv X pins σ H { s with heap:=h',toks:=tk }:=I.kept λb o z=>hk b o (λy=>absurd (List.mem_singleton.mp y) (Nat.ne_of_lt (Heap.lt_size z))) (Heap.get?_push_of_some _ z)
  refine B8 I1 q ?_
  rw [List.size_toArray,<- hlen]
  exact (all_bools bs).symm
theorem Od {xs:List V}{its:List Value}{acc:Array Value}(rv:Vals xs its)(hA:ItemsOf (λi v=>its.toArray[its.toArray.size - 1 - i]?=some v) acc its.toArray.size):Vals xs.reverse acc.toList:=by
 have hl:=rv.length
 have e:acc.toList=its.reverse:=by
  have hs:acc.size=its.length:=hA.1.trans (by simp)
  have hA:=hA.2
  refine List.ext_getElem? λj=>?_
  by_cases hj:j < its.length
  ·have h1:acc[j]?=some (acc[j]'()):=Array.getElem?_eq_getElem ()
   have h2:=hA j _ h1
   rw [List.getElem?_reverse hj]
   simp only [List.size_toArray,List.getElem?_toArray] at h2
   rw [h2]
   simpa using h1
  ·have h1:acc.toList[j]?=none:=List.getElem?_eq_none (by simp;omega)
   have h2:its.reverse[j]?=none:=List.getElem?_eq_none (by simp;omega)
   rw [h1,h2]
 rw [e]
 exact rv.reverse
end
end KS
namespace L2
open PySem PySem.Spec PyProof.Rows
open PySem.W (CodeHd tabObj TabsAt noTabs mem_of_lookupK)
noncomputable def hZ (tabs:List (Addr × Addr))(H:Hp):Prop:=∀ b,H b=none\/(∃ o xs,H b=some (.frz o (.lst xs)))\/(H b=some (.tbl #[])/\b∈tabs.map (·.2))
theorem SV {K:W.Frag}(hK:noTabs K=true){b:Addr}{o:Obj}(e:K.lookup b=some o){ps:Array Value}:o≠tabObj ps:=by
 intro q
 have h2:=List.all_eq_true.mp hK (b,o) (mem_of_lookupK e)
 subst q
 exact absurd (show false=true from h2) Bool.false_ne_true
theorem Oe {P:Program}{w:World}{K:W.Frag}{mg mb:Str->Option Value}{CX:LA}{k:Nat}{fa a:Addr}{fd:FuncData}{x:Str}{sp:Sp}{s₁:Shared}{vs:List Value}{ns:List Int}{tabs:List (Addr × Addr)}
  (KX:K.In s₁.heap) (RI:s₁.heap.Ns mainGlobals mg) (hb:s₁.heap.Ns builtinsNs mb) (hbb:∀ x:Str,x≠"__name__"->mb x=bootBuiltins x) (qw:s₁.heap.NoLimit) (hg:s₁.gens=#[])
  (hbm:∃ bm ob,mg "__builtins__"=some (.ref bm)/\bm≠builtinsNs/\s₁.heap.get? bm=some ob/\ob.cls=.type "module"/\ob.dict=some builtinsNs/\ob.data=.plain)
  (hT:TabsAt tabs s₁.heap) (hK:noTabs K=true)
  (ha:s₁.heap.get? a=some { cls:=.type "list",data:=.seq vs.toArray }) (hi:IntsAre vs ns) (hl:ns.length<=sizeLine) (hr:Bh k callerA)
  (F:∀ base:Heap,K.In base->base.Ns mainGlobals mg->(∀ q∈tabs,MX base mg q.1 q.2)->AY P w K mg base CX k fa fd [x] sp) (i5:∀ (s:Shared) (u:Value),BindsTo s fd ⟨[u],[]⟩ [(x,u)])
  (RH:∀ H:Hp,(∀ q∈tabs,H q.2=some (.tbl #[]))->B3 K H a (ns.map V.int)->sp [.ref a] H (λv _=>v=.bl true) λ_ _ _=>False)
  (hCX:∀ H e s',CX [] H s₁ (λ_ _ _=>False) e s'->False) :
  codeAny (model P w) callerA (.call (.ref fa) ⟨[.ref a],[]⟩) (λr s'=>r=.ok (.ret (.bool true))/\OldK s₁.heap s'.heap/\s'.os=s₁.os/\AllBare s'.gens) s₁:=by
 have rv:=Im hi
 have qx:=hi.length
 have tabOf:∀ {b:Addr},b∈tabs.map (·.2)->s₁.heap.get? b=some (tabObj #[]):=λ{b} hm=>by
  obtain ⟨q,hq,e⟩:=List.mem_map.mp hm
  rw [<- e]
  exact (hT q hq).2
 have core:∀ H:Hp,hZ tabs H->(∀ q∈tabs,H q.2=some (.tbl #[]))->B3 K H a (ns.map V.int)->D' P w H s₁.heap->(∀ b,H b≠none->b=a\/b∈tabs.map (·.2))->(H a≠none->K.lookup a=none) ->
   codeAny (model P w) callerA (.call (.ref fa) ⟨[.ref a],[]⟩) (λr s'=>r=.ok (.ret (.bool true))/\OldK s₁.heap s'.heap/\s'.os=s₁.os/\AllBare s'.gens) s₁:=by
  intro H hO qy hS hok hA hKa
  have GF:∀ {b:Addr} {o:Obj},s₁.heap.get? b=some o->H b=none->(HH s₁.heap H).get? b=some o:=λe n=>Pd e n
  have WJ:∀ {b:Addr} {o:Obj},s₁.heap.get? b=some o->o≠{ cls:=.type "list",data:=.seq vs.toArray }->o≠tabObj #[]->H b=none:=λ{b o} e d1 d2=>by
   cases q:H b with
   | none=>rfl
   | some u =>
    rcases hA b (by rw [q];simp) with e' | e'
    ·subst e'
     rw [ha] at e;cases e
     exact absurd rfl d1
    ·rw [tabOf e'] at e;cases e
     exact absurd rfl d2
  have nG:∀ {b:Addr} {m:Str->Option Value},s₁.heap.Ns b m->(HH s₁.heap H).Ns b m:=λ{b m} ⟨o,es,ep,e,d,r⟩=>⟨o,es,ep,GF e (WJ e (λz=>by rw [z] at d;cases d) (λz=>by rw [z] at d;cases d)),d,r⟩
  have hKb:K.In (HH s₁.heap H):=λb o e=>GF (KX b o e) (by
   cases q:H b with
   | none=>rfl
   | some u =>
    rcases hA b (by rw [q];simp) with e' | e'
    ·subst e'
     rw [hKa (by rw [q];simp)] at e;cases e
    ·have z:=KX b o e
     rw [tabOf e'] at z
     exact absurd (Option.some.inj z).symm (SV hK e))
  have hM:Mod K mg (HH s₁.heap H):=⟨hKb,nG RI,⟨mb,nG hb,hbb⟩,let ⟨mc,h1,h2⟩:=qw;⟨mc,nG h1,h2⟩⟩
  have e0:LB P w K mg (HH s₁.heap H) callerA [] s₁ H:=⟨rfl,hM,λb o e=>RP e,Nat.le_of_eq (NN _ _),trivial,λb hb=>absurd (show b∈([]:List Addr) from hb) (by simp),hok,.of_eq hg⟩
  have hN:∀ q∈tabs,MX (HH s₁.heap H) mg q.1 q.2:=λq hq=>by
   refine ⟨?_,?_⟩
   ·obtain ⟨o,MY,file,tf,flags,tg,inF,text,tt,e1,c1,r⟩:=(hT q hq).1
    exact ⟨o,MY,file,tf,flags,tg,inF,text,tt,GF e1 (WJ e1 (λz=>by rw [z] at c1;exact absurd (show Value.type "list"=Value.type "code" from c1) ⟨⟩) (λz=>by rw [z] at c1;cases c1)),c1,r⟩
   ·obtain ⟨bm,ob,b1,b2,b3,b4,b5⟩:=hbm
    exact ⟨bm,ob,b1,b2,GF b3 (WJ b3 (λz=>by rw [z] at b4;exact absurd (show Value.type "list"=Value.type "module" from b4) ⟨⟩) (λz=>by rw [z] at b4;cases b4)),b4,b5⟩
  refine codeAny_mono ((F _ hKb (nG RI) hN).run callerA [] s₁ H ⟨[.ref a],[]⟩ [.ref a] [.ref a] _ _ hr e0 (i5 s₁ (.ref a)) (.cons rfl .nil) (RH H qy hS)) λr s' h=>?_
  cases r with
  | error e=>exact (hCX H e s' h).elim
  | ok fl =>
   cases fl with
   | next=>exact False.elim h
   | brk=>exact False.elim h
   | cont=>exact False.elim h
   | ret u =>
    obtain ⟨v,H',os,bare,un,i6,r',q⟩:=h
    have q':v=.bl true:=q
    subst q'
    obtain rfl:u=Value.bool true:=r'
    have key:∀ b o,s₁.heap.get? b=some o->s'.heap.get? b=some o\/(b∈tabs.map (·.2)/\o=tabObj #[]/\∃ more,s'.heap.get? b=some (tabObj (#[]++more))):=λb o e=>by
     cases q:H b with
     | none=>exact .inl (un.keep b o e q (by intro z;exact absurd (show b∈([]:List Addr) from z) (by simp)) (by simp))
     | some u =>
      rcases hO b with z | ⟨ob,xs,z⟩ | ⟨z,zm⟩
      ·rw [q] at z;cases z
      ·have z2:=un.frzs b ob _ z
       obtain ⟨e1,_⟩:=hok b _ z
       obtain ⟨e2,_⟩:=i6 b _ z2
       rw [e] at e1;cases e1
       exact .inl e2
      ·obtain ⟨more,z2⟩:=un.tbls b _ z
       have e2:s'.heap.get? b=some _:=i6 b _ z2
       have e1:=tabOf zm
       rw [e] at e1;cases e1
       exact .inr ⟨zm,rfl,more,e2⟩
    refine ⟨rfl,⟨λb o e=>?_,λb o e=>?_⟩,os,bare⟩
    ·rcases key b o e with z | ⟨zm,rfl,more,z⟩
     ·exact .inl z
     ·obtain ⟨q,hq,e'⟩:=List.mem_map.mp zm
      subst e'
      exact .inr (.inl ⟨((hT q hq).1.tab (hT q hq).2).isCodeTable,rfl,#[],more,rfl,z⟩)
    ·rcases key b o e with z | ⟨_,_,more,z⟩
     ·exact ⟨_,z⟩
     ·exact ⟨_,z⟩
 have i7:∀ q∈tabs,q.2≠a:=λq hq z=>by
  have:=(hT q hq).2
  rw [z,ha] at this
  cases this
 cases hk:K.lookup a with
 | some o =>
  have e:=KX a o hk
  rw [ha] at e
  cases e
  refine core (λb=>if b∈tabs.map (·.2) then some (.tbl #[]) else none) (λb=>?_) (λq hq=>if_pos (List.mem_map_of_mem hq)) (.inr ⟨_,vs.toArray,_,hk,rfl,rfl,rfl,by rw [List.size_toArray,qx];exact hl,by simpa using rv⟩) (λb u z=>?_) (λb z=>?_) λz=>?_
  ·by_cases hb:b∈tabs.map (·.2)
   ·exact .inr (.inr ⟨if_pos hb,hb⟩)
   ·exact .inl (if_neg hb)
  ·by_cases hb:b∈tabs.map (·.2)
   ·have z':=(if_pos hb).symm.trans z
    cases z'
    exact tabOf hb
   ·have z':=(if_neg hb).symm.trans z
    cases z'
  ·by_cases hb:b∈tabs.map (·.2)
   ·exact .inr hb
   ·exact absurd (if_neg hb) z
  ·by_cases hb:a∈tabs.map (·.2)
   ·obtain ⟨q,hq,e'⟩:=List.mem_map.mp hb
    exact absurd e' (i7 q hq)
   ·exact absurd (if_neg hb) z
 | none =>
  refine core (λb=>if b=a then some (.frz { cls:=.type "list",data:=.seq vs.toArray } (.lst (ns.map V.int))) else if b∈tabs.map (·.2) then some (.tbl #[]) else none) (λb=>?_) (λq hq=>?_)
   (.inl (.inr ⟨{ cls:=.type "list",data:=.seq vs.toArray },if_pos rfl⟩)) (λb u z=>?_) (λb z=>?_) λ_=>hk
  ·by_cases hb:b=a
   ·exact .inr (.inl ⟨_,_,if_pos hb⟩)
   ·by_cases RJ:b∈tabs.map (·.2)
    ·exact .inr (.inr ⟨(if_neg hb).trans (if_pos RJ),RJ⟩)
    ·exact .inl ((if_neg hb).trans (if_neg RJ))
  ·exact (if_neg (i7 q hq)).trans (if_pos (List.mem_map_of_mem hq))
  ·by_cases hb:b=a
   ·have z':=(if_pos hb).symm.trans z
    cases z'
    subst hb
    exact ⟨ha,by rw [List.length_map];exact hl,vs,_,rv,ha⟩
   ·by_cases RJ:b∈tabs.map (·.2)
    ·have z':=((if_neg hb).trans (if_pos RJ)).symm.trans z
     cases z'
     exact tabOf RJ
    ·have z':=((if_neg hb).trans (if_neg RJ)).symm.trans z
     cases z'
  ·by_cases hb:b=a
   ·exact .inl hb
   ·by_cases RJ:b∈tabs.map (·.2)
    ·exact .inr RJ
    ·exact absurd ((if_neg hb).trans (if_neg RJ)) z
noncomputable def Qg (K:W.Frag)(n:Nat)(ps:List Addr):Sp:=λvs H Q _=>∃ (a:Addr) (ns:List Int),vs=[.ref a]/\B3 K H a (ns.map V.int)/\ns.length<=n/\(∀ p∈ps,H p=some (.tbl #[]))/\∀ H',Q (.bl true) H'
theorem i8 {l:W.OpenLaw}{n k:Nat}{q:Program}{loose:List Str}{XP:(Str->Option Value)->Heap->Prop}{YP:World->Heap->Prop}{d:DefRec}{K:Params->W.Frag}{x:Str}
  (hn:l.most=some n) (nj:n<=sizeLine) (qk:d.params.defaults=[]) (hr:Bh k callerA)
  (hY:∀ (w:World) (h:Heap),YP w h->(K w.params).In h)
  (F:∀ (w:World) (mg mb:Str->Option Value) (SX:ExcName->Option Value) (fa:Addr) (h:Heap),(K w.params).In h->Top q (W.looseW q loose) SX mg mb h->mg d.name=some (.ref fa) ->
   ∃ (fd:FuncData) (tabs:List (Addr × Addr)),noTabs (K w.params)=true/\TabsAt tabs h/\(∀ (s:Shared) (u:Value),BindsTo s fd ⟨[u],[]⟩ [(x,u)]) /\
    ∀ base:Heap,(K w.params).In base->base.Ns mainGlobals mg->(∀ q∈tabs,MX base mg q.1 q.2)->AY l.prog w (K w.params) mg base C5 k fa fd [x] (Qg (K w.params) n (tabs.map (·.2)))) :
  W.WalkO q loose XP YP l.row.toRowW d [] (λf vs=>PySem.call f vs):=by
 refine Att.attach_call hn qk λw s₀ s₁ mg mb fa o pm cd doc a vs ns G Y ho hd JJ gX WX hints hlen hg=>?_
 have KX:=hY w _ Y
 obtain ⟨fd,tabs,hK,hT,hb,hF⟩:=F w mg mb _ fa _ KX G.T gX
 refine Oe KX G.T.g G.T.b G.T.builtins G.T.nolimit hg G.T.bmain hT hK WX hints (Nat.le_trans hlen nj) hr hF hb (λH qy hS=>⟨a,ns,rfl,hS,hlen,λp hp=>?_,λ_=>rfl⟩) λH e s' z=>z
 obtain ⟨q,hq,e'⟩:=List.mem_map.mp hp
 rw [<- e']
 exact qy q hq
end L2
namespace L2
open PySem PySem.Spec PyProof.Rows KS
structure SE (X:Cx)(e:Expr)(t:TE):Prop where out:PE X e t
structure ST (X:Cx)(e:Expr)(t:TT):Prop where out:PT X e t
structure SW (X:Cx)(e:Expr)(t:TT):Prop where out:PW X e t
structure SA (X:Cx)(es:List Expr)(t:TA):Prop where out:PA X es t
structure SS (X:Cx)(st:Stmt)(t:TS):Prop where out:PS X st t
structure SB (X:Cx)(st:List Stmt)(t:TS):Prop where out:Mx X st t
structure SG (X:Cx)(tg:Expr)(g:TG):Prop where out:PG X tg g
structure SI (X:Cx)(tg iter:Expr)(wi:TI):Prop where out:PI X tg iter wi
structure SF (X:Cx)(ifs:List Expr)(t:TT):Prop where out:fF X ifs t
structure SO (X:Cx)(e:Option Expr)(t:TO):Prop where out:PO X e t
structure SD (X:Cx)(pos:Pos)(keys:List (Option Expr))(values:List Expr)(Il:List (TE × TE)):Prop where out:gW X pos keys values Il
section
variable {env:Env}{es:List Expr}
theorem Es {c k p}:starEach (.Constant c k p::es) env=(false,eval (.Constant c k p) env)::starEach es env:=rfl
theorem Et {a o b p}:starEach (.BinOp a o b p::es) env=(false,eval (.BinOp a o b p) env)::starEach es env:=rfl
theorem Eu {a k p}:starEach (.Tuple a k p::es) env=(false,eval (.Tuple a k p) env)::starEach es env:=rfl
theorem DA {a b c p}:starEach (.Call a b c p::es) env=(false,eval (.Call a b c p) env)::starEach es env:=rfl
theorem DB {a p}:starEach (.Name a p::es) env=(false,eval (.Name a p) env)::starEach es env:=rfl
theorem Ew {a b p}:starEach (.Subscript a b p::es) env=(false,eval (.Subscript a b p) env)::starEach es env:=rfl
theorem Gj {a b c p}:starEach (.ListComp a b c p::es) env=(false,eval (.ListComp a b c p) env)::starEach es env:=rfl
end
section
variable {X:Cx}
theorem Ai (i:Nat){x:Str}{pos:Pos}(hN:X.N[i]?=some x:=by rfl)(hv:V1 X.env.scope x:=by first | exact Or.inl rfl | exact Or.inr (.inl rfl) | exact Or.inr (.inr rfl))(hd:(x==("__debug__":Str))=false:=by decide)
  (JJ:(x==("__classdict__":Str))=false:=by decide):SE X (.Name x pos) (Bv i):=⟨Ll hN hv hd JJ⟩
theorem Ab {i j pos}:SE X (.Constant (.int i) j pos) (tC (.int i)):=⟨DI⟩
theorem ES {b j pos}:SE X (.Constant (.bool b) j pos) (tC (.bl b)):=⟨gD⟩
theorem Hd {j pos}:SE X (.Constant .none j pos) (tC .non):=⟨W9⟩
theorem Af {x j pos}:SE X (.Constant (.str x) j pos) (tC (.str x)):=⟨Wa⟩
theorem CV {x:Str}{v:V}{u:Value}{pos:Pos}(hg:Gl X x)(hm:X.mg x=none)(hv:bootBuiltins x=some u)(r:RelV v u)(hn:x≠"__name__":=by decide)(hd:(x==("__debug__":Str))=false:=by decide):SE X (.Name x pos) (tC v):=⟨RQ hg hm hv r hn hd⟩
variable {a b c e o:Expr}{es:List Expr}{ta tb te to ti tx:TE}{tA RS:TT}{t:TA}{pos apos D8 p:Pos}{rest:List Expr}
theorem Ao {r:R2}(hr:gS X r)(ha:SE X a ta)(hb:SE X b tb)(hs:MP b):SE X (.Subscript a b pos) (Fl r ta tb):=⟨V8 hr ha.out hb.out hs⟩
theorem Dm:SO X none Gz:=⟨Sg⟩
theorem Cv (h:SE X e te):SO X (some e) (MM te):=⟨Sh h.out⟩
theorem Cn {lo hi:Option Expr}{tl th:TO}{p2:Pos}{r:V->Option Int->Option Int->Hp->VK->Prop}(hr:nr X r)(he:SE X e te)(hl:SO X lo tl)(hu:SO X hi th):SE X (.Subscript e (.Slice lo hi none p2) pos) (nt r te tl th):=⟨PK hr he.out hl.out hu.out⟩
theorem Cc {op:CmpOp}{r:R2}(ho:EG X (compareOp op) r)(ha:SE X a ta)(hb:SE X b tb)(hm:behindInMarks op b=false):SE X (.Compare a [op] [b] pos) (Fl r ta tb):=⟨S3 ho ha.out hb.out hm⟩
theorem Aw {op:CmpOp}{r:R2}(ho:EG X (compareOp op) r)(ha:SE X a ta)(hb:SE X b tb)(hm:behindInMarks op b=false):ST X (.Compare a [op] [b] pos) (JN (Fl r ta tb)):=⟨S4 ho ha.out hb.out hm⟩
theorem DC (h:SE X e te)(he:∀ whole,isTrue e X.env whole=(do let v <- whole;standAt e.pos;holding [v] (truthy v)):=by intro _;rfl):ST X e (tB te):=⟨Wc h.out he⟩
theorem E6 (ha:SE X a ta)(he:∀ whole,isTrue a X.env whole=(do let v <- whole;standAt a.pos;holding [v] (truthy v)):=by intro _;rfl):ST X a (fun σ H Q=>ta σ H λx H'=>∃ k,WB X.K x H' k/\Q k H'):=⟨JO ha.out he⟩
theorem DU (ha:ST X a tA):ST X (.UnaryOp .Not a pos) (Wf tA):=⟨Wi ha.out⟩
theorem CN (ha:ST X a tA):SW X (.BoolOp .And [a] pos) tA:=⟨RT ha.out⟩
theorem EX (ha:ST X a tA):SW X (.BoolOp .Or [a] pos) tA:=⟨Wg ha.out⟩
theorem w_and (ha:ST X a tA)(hb:SW X (.BoolOp .And (b::rest) pos) RS):SW X (.BoolOp .And (a::b::rest) pos) (Wd tA RS):=⟨Wh ha.out hb.out⟩
theorem w_or (ha:ST X a tA)(hb:SW X (.BoolOp .Or (b::rest) pos) RS):SW X (.BoolOp .Or (a::b::rest) pos) (pQ tA RS):=⟨gE ha.out hb.out⟩
theorem Gk (h:SW X e tA):ST X e tA:=⟨PW.pt h.out⟩
theorem EY {op}(h:SE X a ta):SE X (.BoolOp op [a] pos) ta:=⟨Wj h.out⟩
theorem Gm (ha:SE X a ta)(hb:SE X (.BoolOp .And (b::rest) pos) tb):SE X (.BoolOp .And (a::b::rest) pos) (Pf ta tb):=⟨Wk ha.out hb.out⟩
theorem i9 (ha:SE X a ta)(hb:SE X (.BoolOp .Or (b::rest) pos) tb):SE X (.BoolOp .Or (a::b::rest) pos) (RU ta tb):=⟨gF ha.out hb.out⟩
theorem Ve (ha:SE X a ta):SE X (.UnaryOp .Not a pos) (Pg ta):=⟨Wl ha.out⟩
theorem JY (hc:ST X c tA)(ha:SE X a ta)(hb:SE X b tb):SE X (.IfExp c a b pos) (pR tA ta tb):=⟨Ph hc.out ha.out hb.out⟩
theorem As {op:Operator}{r:R2}(ho:EG X (binaryOp op) r)(ha:SE X a ta)(hb:SE X b tb):SE X (.BinOp a op b pos) (Fl r ta tb):=⟨Ec ho ha.out hb.out⟩
theorem Ac:SA X [] Em:=⟨Lz⟩
theorem Aa (ha:SE X e te)(hr:SA X es t)(hs:starEach (e::es) X.env=(false,eval e X.env)::starEach es X.env:=by first | exact Es | exact DB | exact DA | exact Et | exact Eu | exact Ew | exact Gj | rfl):SA X (e::es) (BB te t):=⟨Gy ha.out hr.out hs⟩
theorem Aq {x1}(h:SA X es t):SE X (.Tuple es x1 pos) (Sb t):=⟨WH h.out⟩
theorem AS (h:SA X es t):SE X (.List es pos) (Sd t):=⟨WI h.out⟩
variable {k:Nat}{f:Addr}{fd:FuncData}{ps:List Str}{sp:Sp}{x:Str}
theorem LQ (F:AY X.prog X.w X.K X.mg X.base C5 k f fd ps sp)(hr:Bh k X.A)(hg:Gl X x)(hm:X.mg x=some (.ref f))(hk:W.keepIn X.K (.ref f)=true)(hb:Binds X.K fd ps [])(ha:SA X (e::es) t)(FR:(x==("__debug__":Str))=false:=by decide)
  (he:starEach (e::es) X.env=(false,eval e X.env)::starEach es X.env:=by first | exact Es | exact DB | exact DA | exact Et | exact Eu | exact Ew | exact Gj | rfl) (E4:(backTo pos (starEach es X.env)).any (·.1)=false:=by rfl) :
  SE X (.Call (.Name x p) (e::es) [] pos) (Ed sp [] E0 t):=⟨MJ F hr hg hm hk hb .nil Ha ha.out FR he E4⟩
theorem AH {id:String}{r:List V->Hp->VK->Prop}(hc:Ds X (.builtin id) r)(hg:Gl X x)(hm:X.mg x=none)(hv:bootBuiltins x=some (.builtin id))(ha:SA X (e::es) t)(hn:x≠"__name__":=by decide)(FR:(x==("__debug__":Str))=false:=by decide)
  (he:starEach (e::es) X.env=(false,eval e X.env)::starEach es X.env:=by first | exact Es | exact DB | exact DA | exact Et | exact Eu | exact Ew | exact Gj | rfl) (E4:(backTo pos (starEach es X.env)).any (·.1)=false:=by rfl):SE X (.Call (.Name x p) (e::es) [] pos) (Sf r t):=⟨JR hc hg hm hv ha.out hn FR he E4⟩
theorem Cg {T:String}{r:List V->Hp->VK->Prop}(hc:Ds X (.type T) r)(hg:Gl X x)(hm:X.mg x=none)(hv:bootBuiltins x=some (.type T))(ha:SA X (e::es) t)(hn:x≠"__name__":=by decide)(FR:(x==("__debug__":Str))=false:=by decide)
  (he:starEach (e::es) X.env=(false,eval e X.env)::starEach es X.env:=by first | exact Es | exact DB | exact DA | exact Et | exact Eu | exact Ew | exact Gj | rfl) (E4:(backTo pos (starEach es X.env)).any (·.1)=false:=by rfl):SE X (.Call (.Name x p) (e::es) [] pos) (Sf r t):=⟨O2 hc hg hm hv ha.out hn FR he E4⟩
theorem MZ {T id:String}{name:Str}{r:V->List V->Hp->VK->Prop}(pa:PlainAttrs T)(slot:Slot T name id)(WO:typeOf (.builtin id)=pure (.type "method_descriptor"))(hm:nu X id r)(ho:SE X o to)
  (GW:attributeBase o name X.env (eval o X.env)=eval o X.env:=by rfl) (GX:(apos.endLine==D8.line)=true:=by rfl):SE X (.Call (.Attribute o name apos) [] [] D8) (Sj X.K T r to):=⟨WN pa slot WO hm ho.out GW GX⟩
theorem Qh {T id:String}{name:Str}{r:V->List V->Hp->VK->Prop}(pa:PlainAttrs T)(slot:Slot T name id)(WO:typeOf (.builtin id)=pure (.type "method_descriptor"))(hm:nu X id r)(ho:SE X o to)(ha:SA X (e::es) t)
  (GW:attributeBase o name X.env (eval o X.env)=eval o X.env:=by rfl)
  (WQ:((backTo D8 (starEach (e::es) X.env)).all (λx=>!x.1) && (backToKw D8 (keywordEach [] X.env)).all (λx=>x.1.isSome)
   && decide ((e::es).length+([]:List Keyword).length+(if ([]:List Keyword).isEmpty then 0 else 1) < 30))=true:=by rfl)
  (GX:(apos.endLine==D8.line)=true:=by rfl) (hs:starEach (e::es) X.env=(false,eval e X.env)::starEach es X.env:=by first | exact Es | exact DB | exact DA | exact Et | exact Eu | exact Ew | exact Gj | rfl) (LG:(backTo D8 (starEach es X.env)).any (·.1)=false:=by rfl) :
  SE X (.Call (.Attribute o name apos) (e::es) [] D8) (qc X.K T r to t):=⟨gU pa slot WO hm ho.out ha.out GW WQ GX hs LG⟩
theorem EK {f:Expr}(hu:X.A.units+1 < cLine)(ho:SE X o to)(he:SE X e te)(hf:SE X f tx)(m:M2 X o "get" apos e f D8):SE X (.Call (.Attribute o "get" apos) [e,f] [] D8) (LM to te tx):=⟨Q7 hu ho.out he.out hf.out m⟩
theorem Qi {i:Expr}(hu:X.A.units+1 < cLine)(ho:SE X o to)(hi:SE X i ti)(hs:LJ i):SE X (.Subscript o i pos) (MT to ti):=⟨Sl hu ho.out hi.out hs⟩
theorem X5:SE X (.Dict [] [] pos) P':=⟨Q0⟩
theorem JZ:SD X pos [] [] []:=⟨Sn⟩
theorem BW {k v:Expr}{ks:List (Option Expr)}{vs:List Expr}{tk tv:TE}{Il:List (TE × TE)}(hk:SE X k tk)(hv:SE X v tv)(hr:SD X pos ks vs Il):SD X pos (some k::ks) (v::vs) ((tk,tv)::Il):=⟨Q5 hk.out hv.out hr.out⟩
theorem He {keys:List (Option Expr)}{values:List Expr}{Il:List (TE × TE)}(h:SD X pos keys values Il)(J7:keys.all (·.isSome)=true)(hl:keys.length=values.length)(h0:keys≠[])(qh:keys.length<=15):SE X (.Dict keys values pos) (Q6 Il):=⟨So h.out J7 hl h0 qh⟩
theorem AN:SB X [] JK:=⟨Mz⟩
variable {st:Stmt}{sts:List Stmt}{ts tu:TS}
theorem Ah (h1:SS X st ts)(h2:SB X sts tu):SB X (st::sts) (Be ts tu):=⟨Fn h1.out h2.out⟩
theorem Al (h1:SS X st ts):SB X [st] ts:=⟨Gx h1.out⟩
theorem Hf (he:SE X e te)(hs:swapsWith e none pos.line X.env=pure false:=by rfl):SS X (.Expr e pos) (MA te):=⟨RV he.out hs⟩
theorem Ar (he:SE X e te):SS X (.Return (some e) pos) (NO te):=⟨IT he.out⟩
theorem B7 {a b:List Stmt}(hc:ST X c tA)(ha:SB X a ts)(hb:SB X b tu):SS X (.If c a b pos) (NP tA ts tu):=⟨V3 hc.out ha.out hb.out⟩
theorem Ay {i:Nat}{pos':Pos}(hN:X.N.Nodup)(hi:X.N[i]?=some x)(hx:Loc X.env.scope x)(he:SE X e te)(hs:swapsWith e (some (.Name x pos')) pos.line X.env=pure false:=by rfl)(hf:X.fn x=true\/X.env.scope.names.lookup x=some .local:=by first | exact .inl rfl | exact .inr rfl | assumption):
  SS X (.Assign [.Name x pos'] e pos) (NR te (D2 i)):=⟨Ln hN hi hx he.out hs hf⟩
theorem X6 {i value:Expr}{tv:TE}{pos':Pos}(hu:X.A.units+1 < cLine)(ho:SE X o to)(hi:SE X i ti)(hv:SE X value tv)(hs:swapsWith value (some (.Subscript o i pos')) pos.line X.env=pure false):SS X (.Assign [.Subscript o i pos'] value pos) (PZ to ti tv):=⟨Sm hu ho.out hi.out hv.out hs⟩
theorem J8 {body:List Stmt}(hp:PassesOwn (model X.prog X.w) X.A X.env X.xe)(hc:ST X c tA)(hb:SB X body ts):SS X (.While c body [] pos) (Pk tA ts):=⟨Pl hp hc.out hb.out⟩
variable {tg iter:Expr}{wi:TI}{g:TG}
theorem J' {body:List Stmt}(hp:PassesOwn (model X.prog X.w) X.A X.env X.xe)(hc:X.calm=true)(hi:SI X tg iter wi)(hg:SG X tg g)(hb:SB X body ts)(hs:∀ x,foldedSetIterable iter X.env x=pure x:=by intro _;rfl):SS X (.For tg iter body [] pos) (Wv wi g ts):=⟨Ww hp hc hi.out hg.out hb.out hs⟩
theorem E7 (hl:SE X e te):SI X tg e (MD X.K te):=⟨RZ hl.out⟩
theorem M' (hl:SE X e te):SI X tg e (Wt X.K te):=⟨Wu hl.out⟩
theorem Hg {ta:TA}(hg:Gl X "range")(hm:X.mg "range"=none)(ha:SA X [a] ta)(hs:starEach [a] X.env=[(false,eval a X.env)]:=by rfl):SI X tg (.Call (.Name "range" p) [a] [] pos) (ME ta):=⟨NT hg hm ha.out hs⟩
theorem Qj {ta:TA}(hg:Gl X "range")(hm:X.mg "range"=none)(ha:SA X [a,b] ta)(hs:starEach [a,b] X.env=[(false,eval a X.env),(false,eval b X.env)]:=by rfl)(Po:starEach [b] X.env=[(false,eval b X.env)]:=by rfl):SI X tg (.Call (.Name "range" p) [a,b] [] pos) (V5 ta):=⟨NU hg hm ha.out hs Po⟩
theorem ie {ta:TA}(hg:Gl X "reversed")(hm:X.mg "reversed"=none)(ha:SA X [a] ta)(hs:starEach [a] X.env=[(false,eval a X.env)]:=by rfl):SI X tg (.Call (.Name "reversed" p) [a] [] pos) (W' X.K ta):=⟨X1 hg hm ha.out hs⟩
theorem BF {i:Nat}(hN:X.N.Nodup)(hi:X.N[i]?=some x)(hx:Loc X.env.scope x)(hf:X.fn x=true\/X.env.scope.names.lookup x=some .local:=by first | exact .inl rfl | exact .inr rfl | assumption):SG X (.Name x pos) (D2 i):=⟨RX hN hi hx hf⟩
theorem EZ:SF X [] HM:=⟨Sx⟩
theorem Qk (h:ST X c tA):SF X [c] tA:=⟨Sy h.out⟩
variable {scope:Scope}{cl:List (Str × Addr)}{own fr:List Str}{js:List Nat}{elt:Expr}{ifs:List Expr}{tt:TT}
theorem F9 (S:Bx X scope cl own fr js)(EW:X.calm=true)(hi:SI X tg iter wi)(hg:∀ C s0 H0 ex,SG (X.cmp scope cl own fr C s0 H0 ex) tg g)(ht:∀ C s0 H0 ex,SF (X.cmp scope cl own fr C s0 H0 ex) ifs tt)(he:∀ C s0 H0 ex,SE (X.cmp scope cl own fr C s0 H0 ex) elt te)
  (hs:∀ x,foldedSetIterable iter X.env x=pure x:=by intro _;rfl):SE X (.ListComp elt [⟨tg,iter,ifs,0⟩] scope pos) (MW own js wi g tt te):=⟨SH S EW hi.out (λC s0 H0 ex=>(hg C s0 H0 ex).out) (λC s0 H0 ex=>(ht C s0 H0 ex).out) (λC s0 H0 ex=>(he C s0 H0 ex).out) hs⟩
end
section
variable {P:Program}{w:World}{K:W.Frag}{mg:Str->Option Value}{base:Heap}
theorem D4.okS {x qual:Str}{st:Stmt}{f:Addr}{fd:FuncData}{N ps:List Str}{k:Nat}{sp:Sp}(F:D4 K x qual st f fd)(S:AE N ps (Ae st))(len:∀ vs H Q E,sp vs H Q E->vs.length=ps.length)
  (JQ:∀ (BV:Value) (A:Around) (outer:List Env) (s:Shared) (H:Hp) (vs:List V) (Q:VK) (E:XK),Bh k (A.deeper (envOfC qual (Ae st) s.heap.objs.size f BV))->sp vs H Q E ->
   ∃ t,SB (DP C5 P w K mg base N qual (Ae st) f BV A outer s H E).nox (Az st) t/\t { nx:=λ_ H'=>Q .non H',rt:=Q } (start N vs) H):AY P w K mg base C5 (k+1) f fd ps sp :=
 F.ok S len λBV A outer s H vs Q E hr h=>let ⟨t,h1,h2⟩:=JQ BV A outer s H vs Q E hr h;⟨t,h1.out,h2⟩
end
end L2
namespace PySem
section
variable {M:Model}{A:Around}{E:Value->Shared->Prop}{nm q:Str}{C N:Addr}{bs bm:List Value}{qz:Bool}{sn:List Str}{sub:List Value}{ab:Bool}{col:Option Bool}{dd:Option Addr}{k0 k1 k2 k3 k5:Option Value}{newId:String}
 {nm2 q2:Str} {C2 N2:Addr} {bs2 bm2:List Value} {Afe:Bool} {sn2:List Str} {Aid:List Value} {ab2:Bool} {Aie:Option Bool} {qb:Option Addr} {j0 j1 j2 j3 j5:Option Value} {qA:String}
end
open PySem.W (Looks looks_findIn findIn Frag)
section
variable {prog:Program}{w:World}{A:Around}{E:Value->Shared->Prop}{h:Heap}{g:Array GenState}{d:Drawn}{t:Nat}{os:OsState}{a:Addr}{o:Obj}{K:Frag}
 {nm q:Str} {C N:Addr} {bs bm bmB:List Value} {qz:Bool} {sn:List Str} {sub:List Value} {ab:Bool} {col:Option Bool} {dd:Option Addr} {k0 k1 k2 k3 k5:Option Value} {newId:String}
end
end PySem
namespace KS
open PySem L2 KM
theorem SY (t:Kd):decide (V.str (word t)=V.str "any")=Ee t:=by
 rw [Bool.eq_iff_iff,decide_eq_true_iff,V.str.injEq]
 exact Qc
theorem An.put {H H':Hp}{a:Addr}{o:HO}(s:An H H')(h:H a=none):An H (upd H' a o):=λb u e=>by
 rw [AQ (Ba e h)]
 exact s b u e
theorem An.new {H:Hp}{a:Addr}{o:HO}(h:H a=none):An H (upd H a o):=An.put (An.refl H) h
theorem Paired.app {α β:Type}{F:α->β->Prop}:∀ {a b:List α} {c d:List β},Paired F a c->Paired F b d->Paired F (a++b) (c++d)
 | _,_,_,_,.nil,q=>q
 | _,_,_,_,.cons h t,q=>.cons h (Paired.app t q)
theorem Paired.split {α β:Type}{F:α->β->Prop}:∀ {a b:List α} {c:List β},Paired F (a++b) c->D1 λc1 c2=>c=c1++c2/\Paired F a c1/\Paired F b c2
 | [],_,c,q=>⟨[],c,rfl,.nil,q⟩
 | x::a,b,_,.cons h t=>by
  obtain ⟨c1,c2,e,p1,p2⟩:=Paired.split (a:=a) (b:=b) t
  exact ⟨_::c1,c2,by rw [e];rfl,.cons h p1,p2⟩
theorem Paired.at {α β:Type}{F:α->β->Prop}:∀ {a:List α} {c:List β} {i:Nat} {y:β},Paired F a c->c[i]?=some y->∃ x,a[i]?=some x/\F x y
 | _,_,_,_,.nil,e=>by simp at e
 | _,_,0,_,.cons h _,e=>by simp at e;subst e;exact ⟨_,rfl,h⟩
 | _,_,i+1,y,.cons _ t,e=>by
  obtain ⟨x,h1,h2⟩:=Paired.at (i:=i) t (by simpa using e)
  exact ⟨x,by simpa using h1,h2⟩
theorem Ey:16777216=sizeLine:=sizeLine_eq.symm
noncomputable def LR:Stmt:=.Pass ⟨0,0,0,0⟩
noncomputable def inDef (s:Stmt)(j:Nat):Stmt:=(Az s).getD j LR
noncomputable def ig (s:Stmt)(j:Nat):Stmt:=match s with
 | .For _ _ b _ _=>b.getD j LR
 | _=>LR
noncomputable def valueOf (s:Stmt):Expr:=match s with
 | .Assign _ v _=>v
 | .Return (some v) _=>v
 | .Expr v _=>v
 | _=>.Constant .none 0 ⟨0,0,0,0⟩
noncomputable def Cw (e:Expr):Scope:=match e with
 | .ListComp _ _ sc _=>sc
 | _=>{ kind:=.function,names:=[],isGenerator:=false,isCoroutine:=false }
theorem rev_last (y:V)(c:List V):(y::c).reverse[(y::c).reverse.length - 1]?=some y:=by simp
theorem Ql {σ:St}{H:Hp}{A B:Hp->Prop}(h:A H):HM σ H (λb H1=>if b=true then A H1 else B H1):=by
 unfold HM
 exact CT h
noncomputable def DD (H:Hp)(AI:List (Key × V))(m:Int->Option Kd):Prop:=∀ k:Int,(C7 AI (Sum.inl k:Key)=none/\m k=none)\/D1 λv t=>C7 AI (Sum.inl k:Key)=some v/\m k=some t/\BY H t v
theorem DD.mono {H H':Hp}{AI:List (Key × V)}{m:Int->Option Kd}(s:Au H H')(h:DD H AI m):DD H' AI m:=λk=>by
 rcases h k with z | ⟨v,t,h1,h2,h3⟩
 ·exact .inl z
 ·exact .inr ⟨v,t,h1,h2,BY.mono s h3⟩
theorem Qm {α:Type}{xs:List α}{i:Int}(h0:0<=i)(h1:i < xs.length):∃ v,MN xs i=some v/\v∈xs:=by
 obtain ⟨j,rfl⟩:=Int.eq_ofNat_of_zero_le h0
 have hj:j < xs.length:=by omega
 exact ⟨xs[j],Ak (List.getElem?_eq_getElem hj),List.getElem_mem hj⟩
noncomputable def Gv:Sp:=λ_ _ _ _=>False
section
variable {Pr:Program}{w:World}{K:W.Frag}{mg:Str->Option Value}{base:Heap}
theorem Ez {k:Nat}{f:Addr}{fd:FuncData}{ps:List Str}:AY Pr w K mg base C5 k f fd ps Gv:=⟨λ_ _ _ _ h=>h.elim,λ_ _ _ _ _ _ _ _ _ _ _ _ _ h=>h.elim⟩
end
theorem S' {t s:Kd}(h:s∈parts t):dp s < dp t:=by
 cases t <;> simp [parts] at h
 ·rcases h with rfl | rfl <;> simp only [dp] <;> omega
 ·rcases h with rfl | rfl <;> simp only [dp] <;> omega
 ·subst h;simp only [dp];omega
theorem AW {c A B:Prop}[Decidable c](hc:c)(h:A):if c then A else B:=by
 rw [if_pos hc]
 exact h
theorem AF {c A B:Prop}[Decidable c](hc:¬ c)(h:B):if c then A else B:=by
 rw [if_neg hc]
 exact h
section
variable {X:Cx}
theorem J9:Ds X (.type "dict") (λxs H Q=>∃ a AI,xs=[.ref a]/\Rd H a (.dK AI)/\∀ p,H p=none->Q (.ref p) (upd H p (.dK AI))):=by
 intro pins s σ H xs us Q I r h
 obtain ⟨a,AI,rfl,e,q⟩:=h
 obtain ⟨u,rfl,ru⟩:=vals1 r
 obtain rfl:u=Value.ref a:=ru
 exact Q8 I e λp s' hp I'=>⟨.ref p,_,I',rfl,q p hp⟩
end
theorem Qn {κ:Type}[DecidableEq κ](AI:List (κ × V))(k:κ)(v:V):(putK AI k v).length<=AI.length+1:=by
 unfold putK
 split
 ·rw [List.length_map];omega
 ·simp
theorem DD.put {H:Hp}{AI:List (Key × V)}{m:Int->Option Kd}{k:Int}{t:Kd}{v:V}(h:DD H AI m)(hv:BY H t v):DD H (putK AI (Sum.inl k:Key) v) (λj=>if j=k then some t else m j):=λj=>by
 rw [Fv]
 by_cases e:j=k
 ·subst e
  rw [if_pos rfl]
  exact .inr ⟨v,t,rfl,if_pos rfl,hv⟩
 ·rw [if_neg (λz=>e (Sum.inl.inj z))]
  show (_/\(if j=k then some t else m j)=none)\/D1 λv' t'=>_/\(if j=k then some t else m j)=some t'/\_
  rw [if_neg e]
  exact h j
theorem DD.nil {H:Hp}:DD H [] (λ_=>none):=λ_=>.inl ⟨rfl,rfl⟩
end KS
namespace KM
noncomputable def prs:Kd->Kd->Option (List (Int × Kd))
 | .gap k,b=>some [(k,b)]
 | .num,.num=>some []
 | .tru,.tru=>some []
 | .ls a,.ls b=>prs a b
 | .fn a a',.fn b b'=>(prs a b).bind λx=>(prs a' b').map λy=>x++y
 | .pr a a',.pr b b'=>(prs a b).bind λx=>(prs a' b').map λy=>x++y
 | _,_=>none
noncomputable def Iq (l:List (Int × Kd))(k:Int):Option Kd:=l.foldl (λm p=>if p.1=k then some p.2 else m) none
noncomputable def wd (a b:Kd):Bool:=match prs a b with
 | none=>false
 | some l=>l.all λp=>decide (Iq l p.1=some p.2)
theorem EA {α:Type}{x y:Option (List α)}{l:List α}(h:(x.bind λu=>y.map λv=>u++v)=some l):∃ u v,x=some u/\y=some v/\l=u++v:=by
 cases x with
 | none=>cases h
 | some u =>
  cases y with
  | none=>cases h
  | some v=>exact ⟨u,v,rfl,rfl,(Option.some.inj h).symm⟩
theorem K0 (k:Int):∀ (l:List (Int × Kd)) (m:Option Kd),l.foldl (λm p=>if p.1=k then some p.2 else m) m=m/\(∀ p∈l,p.1≠k)\/∃ p∈l,p.1=k/\l.foldl (λm p=>if p.1=k then some p.2 else m) m=some p.2
 | [],m=>.inl ⟨rfl,λp hp=>by cases hp⟩
 | q::l,m=>by
  rw [List.foldl_cons]
  rcases K0 k l (if q.1=k then some q.2 else m) with ⟨h1,h2⟩ | ⟨p,hp,h1,h2⟩
  ·by_cases e:q.1=k
   ·refine .inr ⟨q,List.mem_cons_self,e,?_⟩
    rw [h1,if_pos e]
   ·refine .inl ⟨by rw [h1,if_neg e],λp hp=>?_⟩
    rcases List.mem_cons.mp hp with rfl | hp
    ·exact e
    ·exact h2 p hp
  ·exact .inr ⟨p,List.mem_cons_of_mem _ hp,h1,h2⟩
theorem Og {l:List (Int × Kd)}{p:Int × Kd}(h:p∈l):∃ q∈l,q.1=p.1/\Iq l p.1=some q.2:=by
 rcases K0 p.1 l none with ⟨_,h2⟩ | ⟨q,hq,h1,h2⟩
 ·exact absurd rfl (h2 p h)
 ·exact ⟨q,hq,h1,h2⟩
theorem DE:∀ (a b:Kd) (l:List (Int × Kd)),prs a b=some l->l.length<=sz a
 | .gap k,b,l,h=>by cases h;simp [sz]
 | .num,b,l,h=>by cases b <;> first | (cases h;simp [sz]) | cases h
 | .tru,b,l,h=>by cases b <;> first | (cases h;simp [sz]) | cases h
 | .ls a,b,l,h=>by
  cases b with
  | ls b=>have:=DE a b l h;simp only [sz];omega
  | _=>cases h
 | .fn a a',b,l,h=>by
  cases b with
  | fn b b' =>
   obtain ⟨u,v,h1,h2,rfl⟩:=EA h
   have i1:=DE a b u h1
   have i2:=DE a' b' v h2
   simp only [sz,List.length_append];omega
  | _=>cases h
 | .pr a a',b,l,h=>by
  cases b with
  | pr b b' =>
   obtain ⟨u,v,h1,h2,rfl⟩:=EA h
   have i1:=DE a b u h1
   have i2:=DE a' b' v h2
   simp only [sz,List.length_append];omega
  | _=>cases h
theorem Fb:∀ (a b:Kd) (l:List (Int × Kd)),prs a b=some l->∀ p∈l,dp p.2<=dp b
 | .gap k,b,l,h,p,hp=>by cases h;rw [List.mem_singleton.mp hp];exact Nat.le_refl _
 | .num,b,l,h,p,hp=>by cases b <;> first | (cases h;cases hp) | cases h
 | .tru,b,l,h,p,hp=>by cases b <;> first | (cases h;cases hp) | cases h
 | .ls a,b,l,h,p,hp=>by
  cases b with
  | ls b=>have:=Fb a b l h p hp;simp only [dp];omega
  | _=>cases h
 | .fn a a',b,l,h,p,hp=>by
  cases b with
  | fn b b' =>
   obtain ⟨u,v,h1,h2,rfl⟩:=EA h
   rcases List.mem_append.mp hp with hp | hp
   ·have:=Fb a b u h1 p hp;simp only [dp];omega
   ·have:=Fb a' b' v h2 p hp;simp only [dp];omega
  | _=>cases h
 | .pr a a',b,l,h,p,hp=>by
  cases b with
  | pr b b' =>
   obtain ⟨u,v,h1,h2,rfl⟩:=EA h
   rcases List.mem_append.mp hp with hp | hp
   ·have:=Fb a b u h1 p hp;simp only [dp];omega
   ·have:=Fb a' b' v h2 p hp;simp only [dp];omega
  | _=>cases h
end KM
namespace PySem
namespace F
theorem dp_entry_list_ga:entryFor table "list.__getattribute__"=some Builtin.«object.__getattribute__» :=
 entryFor_alias (id':="object.__getattribute__") (by kernel_rfl) (by decide +kernel) (by decide +kernel) (by kernel_rfl)
theorem dp_list_getattr_none:typeLookup (.type "list") "__getattr__"=pure none:=by rw [typeLookup_type,builtinLookup_eq_fast];kernel_rfl
theorem dp_list_keys:typeLookup (.type "list") "keys"=pure none:=by rw [typeLookup_type,builtinLookup_eq_fast];kernel_rfl
theorem dp_entry_loop:entryFor table "dict.update.loop"=some Builtin.«dict.update.loop»:=entryFor_of_tree (by kernel_rfl)
theorem dp_plain_loop:plainId "dict.update.loop"=true:=by decide +kernel
end F
theorem T1 (a:Addr)(items:Array Value)(n:Nat)(sl:Array (Option Value))(u:Tok)(hsz:("keys":Str).length+100<=sizeLine:=by size_fits):
  Meets (Builtin.«object.__getattribute__» ⟨[.ref a,.str "keys" u],[]⟩) (λA R s=>s.heap.get? a=some ⟨.type "list",none,.seq items n,sl⟩/\raisesAttr (.ref a) "keys" A R s) :=
 Meets.of_wp λprog w A R s hs=>by
  obtain ⟨hp,g,d,tk,os⟩:=s
  obtain ⟨hl,hs⟩:=hs
  have hT:(⟨hp,g,d,tk,os⟩:Shared).TypeIs (.ref a) "list":=⟨_,hl,rfl⟩
  have f1:=F.dp_list_keys
  unfold Builtin.«object.__getattribute__»
  repeat (any_goals (first | assumption | wp_step))
  exact wpAny_raiseAttrError hs.1 hs.2 (attrMsg_fits (by decide +kernel) hsz)
section
variable {prog:Program}{w:World}{A:Around}{E:Value->Shared->Prop}{s:Shared}
theorem Oh {a:Addr}{items:Array Value}{n:Nat}{sl:Array (Option Value)}{Q:Option Value->Shared->Prop}(hA:A.handled=none)(hl:s.heap.get? a=some ⟨.type "list",none,.seq items n,sl⟩)
  (h:∀ h' tk,(∀ b o,s.heap.get? b=some o->h'.get? b=some o)->Q none { s with heap:=h',toks:=tk }):wpAny (model prog w) A (getAttr? (.ref a) "keys") Q E s:=by
 obtain ⟨hp,g,d,tk,os⟩:=s
 have hT:(⟨hp,g,d,tk,os⟩:Shared).TypeIs (.ref a) "list":=⟨_,hl,rfl⟩
 have f1:=sub_AttributeError
 have f3:=F.slot_list_getattribute.lookup
 have f4:=F.slot_list_getattribute.bind (.ref a)
 have f5:=F.dp_list_getattr_none
 unfold getAttr? getAttrBy? getAttrBy
 repeat (any_goals (first | assumption | ((with_reducible show wpAny _ _ (call (Value.builtin "list.__getattribute__") _ _) _ _ _);refine call_meets F.slot_list_getattribute ⟨_,hl,rfl⟩ F.dp_entry_list_ga (F.args_list_getattribute_2 _ _) (T1 a items n sl _) ⟨hl,hA,λh' tk' e hx=>?_⟩) | wp_step))
 obtain ⟨t',u',he⟩:=hx.there
 show wpAny _ _ (getattributeRaised _ _ _ _ _ _ _) _ _ _
 unfold getattributeRaised
 repeat (any_goals (first | assumption | wp_step))
 all_goals exact h _ _ hx.keeps
noncomputable def LS {K:Type}[DecidableEq K](key:Nat->K)(vu:Nat->Value):Nat->List (K × Value)
 | 0=>[]
 | i+1=>stored (LS key vu i) (key i) (vu i)
theorem K5 {K:Type}[DecidableEq K](key:Nat->K)(vu:Nat->Value):∀ i,(LS key vu i).length<=i
 | 0=>Nat.le_refl _
 | i+1=>by
  have ih:=K5 key vu i
  show (stored _ _ _).length<=_
  unfold stored
  split
  ·rw [List.length_map];omega
  ·rw [List.length_append,List.length_singleton];omega
theorem T2 {K:Type}[DecidableEq K]{knd:KeyKind prog w K}{R:Result->Shared->Prop}{I:Addr}{fp wr:List Addr}{G:Array GenState->Array GenState->Prop}{n:Nat}{P:Nat->Value->Prop}{St:Nat->Shared->Prop}
  (W:WalksS prog w A.in1 I fp wr G n P St) (D:Addr) (hDf:D∉fp) (ps:Nat->Addr) (key:Nat->K) (ku vu:Nat->Value) (hP:∀ i v,P i v->v=.ref (ps i)) (hk:∀ i,i < n->knd.is (key i) (ku i)=true)
  (hD:∀ i,i < n->ps i≠D) (hw:∀ i,i < n->ps i∉wr) (hz:n<=sizeLine) :
  ∀ (k i:Nat) (s:Shared) (z:Int) (tz:Tok),n - i=k->i<=n->St i s->(∀ j,j < n->PyProof.Rows.IsTup s.heap (ps j) #[ku j,vu j])->s.heap.DictOf knd D (LS key vu i) ->
   (∀ s',Moved (D::wr) G s s'->s'.heap.DictOf knd D (LS key vu n)->R (.ok (.ret .none)) s') ->
   codeAny (model prog w) A (.builtin "dict.update.loop" ⟨[.ref D,.ref I,.int z tz,.none],[]⟩) R s:=by
 have hDw:D∉wr:=λh=>hDf (W.sub _ h)
 have ij:∀ b∈wr,b∈D::wr:=λb hb=>List.mem_cons_of_mem _ hb
 have dmv:∀ {s s':Shared} {AI:List (K × Value)},Moved wr G s s'->s.heap.DictOf knd D AI->s'.heap.DictOf knd D AI:=λ{s s' AI} hm hd=>by
  obtain ⟨o,es,ep,ho,r⟩:=hd
  exact ⟨o,es,ep,hm.heap D _ hDw ho,r⟩
 intro k
 induction k with
 | zero =>
  intro i s z tz hk' hi JL hT hS hR
  obtain rfl:i=n:=by omega
  refine codeAny_builtin F.dp_entry_loop ?_
  rw [Around.under_plainId F.dp_plain_loop _]
  show wpAny _ A.in1 (pyNext (.ref I) >>= _) _ _ s
  refine wpAny_bind (W.done s _ _ JL λs' hm=>?_)
  show wpAny _ A.in1 (Builtin.Dict.addKeywords D [] >>= λ_=>ret Value.none) _ _ s'
  exact wpAny_bind (wpAny_pure (wpAny_pure (hR s' (hm.mono ij) (dmv hm hS))))
 | succ k ih =>
  intro i s z tz hk' hi JL hT hS hR
  have DN:i < n:=by omega
  refine codeAny_builtin F.dp_entry_loop ?_
  rw [Around.under_plainId F.dp_plain_loop _]
  show wpAny _ A.in1 (pyNext (.ref I) >>= _) _ _ s
  refine wpAny_bind (W.item i s _ _ DN JL λv s' hv qB hm=>?_)
  obtain rfl:=hP i v hv
  have ik:=dmv hm hS
  have hT':∀ j,j < n->PyProof.Rows.IsTup s'.heap (ps j) #[ku j,vu j]:=λj hj=>by
   obtain ⟨o,ho,r⟩:=hT j hj
   exact ⟨o,hm.heap _ _ (hw j hj) ho,r⟩
  show wpAny _ A.in1 (holding [Value.ref (ps i)] _ >>= λ_=>again _) _ _ s'
  refine wpAny_bind (wpAny_holding (wpAny_bind (wpAny_tryCatch ?_)))
  obtain ⟨o,ho,hc,m,hd⟩:=hT' i DN
  unfold Builtin.Dict.pairItems
  refine wpAny_bind (wpAny_typeOf (T:="tuple") ⟨o,ho,hc⟩ ?_)
  rw [if_pos ⟨⟩]
  refine wpAny_bind (wpAny_seqItems ho hd (wpAny_pure ?_))
  show wpAny _ A.in1 (holding [ku i,vu i] (dictSet D (ku i) (vu i))) _ _ s'
  refine wpAny_holding (wpAny_dictSet_pairs (hk i DN) ik (λh' IP Ja=>?_) (Nat.le_trans (K5 key vu i) ()))
  refine wpAny_pure ⟨plainId_quiet F.dp_plain_loop _,ih (i+1) _ _ _ () DN (W.frame _ s' _ _ qB (Nat.le_succ _) λb hb o e=>?_) (λj hj=>?_) IP λPH qC qD=>?_⟩
  ·exact (Ja.2 b (λq:b=D=>hDf (by rw [<- q];exact hb))).trans e
  ·obtain ⟨o,ho,r⟩:=hT' j hj
   exact ⟨o,(Ja.2 _ (hD j hj)).trans ho,r⟩
  ·refine hR PH (Moved.trans W.gtrans ((hm.mono ij).then_heap (Nat.le_succ _) λb o hb e=>?_) qC) qD
   exact (Ja.2 b (λq:b=D=>hb (by rw [q];exact List.mem_cons_self))).trans e
theorem T3 {K:Type}[DecidableEq K]{knd:KeyKind prog w K}{l:Addr}{items:Array Value}{n0:Nat}{sl:Array (Option Value)}{Q:Value->Shared->Prop}(hh:A.handled=none)(hl:s.heap.get? l=some ⟨.type "list",none,.seq items n0,sl⟩)
  (ps:Nat->Addr) (key:Nat->K) (ku vu:Nat->Value) (hP:∀ (i:Nat) (v:Value),items[i]?=some v->v=Value.ref (ps i)) (hk:∀ i,i < items.size->knd.is (key i) (ku i)=true) (hT:∀ j,j < items.size->PyProof.Rows.IsTup s.heap (ps j) #[ku j,vu j]) (hz:items.size<=sizeLine)
  (h:∀ h' tk,h'.DictOf knd s.heap.objs.size (LS key vu items.size)->(∀ b o,s.heap.get? b=some o->h'.get? b=some o)->Q (.ref s.heap.objs.size) { s with heap:=h',toks:=tk }) :
  wpAny (model prog w) A (call (.type "dict") [.ref l]) Q E s:=by
 refine callType_codes (Q₁:=λobj s₁=>obj=.ref s.heap.objs.size/\s₁={ s with heap:=s.heap.push { cls:=.type "dict",data:=.dict #[] } }) F.kt_called_dict (F.kt_typeCall_dict_1 _) F.entry_dict_init (kt_code_dict_new _ ⟨rfl,rfl⟩) ?_
 rintro obj s₁ ⟨rfl,rfl⟩
 have PU:(s.heap.push { cls:=.type "dict",data:=.dict #[] }).DictOf knd s.heap.objs.size []:=Heap.DictOf.new s.heap
 have Pa:(s.heap.push { cls:=.type "dict",data:=.dict #[] }).get? l=some ⟨.type "list",none,.seq items n0,sl⟩:=Heap.get?_push_of_some _ hl
 refine ⟨PU.typeIs,F.args_dict_init_2 _ _,?_⟩
 unfold Builtin.«dict.__init__»
 refine wpAny_bind ?_
 unfold Builtin.Dict.selfAndRest
 refine wpAny_bind (wpAny_notOrdered_dict PU.typeIs ?_)
 show wpAny _ _ (pure (s.heap.objs.size,[Value.ref l])) _ _ _
 refine wpAny_pure ?_
 show wpAny _ _ (Builtin.Dict.updateFrom "dict.__init__" s.heap.objs.size (.ref l) [] .none) _ _ _
 unfold Builtin.Dict.updateFrom
 refine wpAny_bind (wpAny_typeOf (T:="list") ⟨_,Pa,rfl⟩ ?_)
 rw [if_pos ⟨⟩]
 refine wpAny_bind (Oh hh Pa λh2 tk2 k2=>?_)
 rw [if_pos ⟨⟩]
 refine wpAny_bind (wpAny_rule ?_)
 have GC:h2.IsList l items:=⟨_,k2 _ _ Pa,rfl,n0,rfl⟩
 refine wpAny_bind (wpAny_pyIter_list (s:={ s with heap:=h2,toks:=tk2 }) GC ?_)
 have big:s.heap.objs.size < h2.objs.size:=Heap.lt_size (k2 s.heap.objs.size _ (Heap.get?_push_size _ rfl))
 have DN:l < s.heap.objs.size:=Heap.lt_size hl
 have E4:∀ j,j < items.size->ps j < s.heap.objs.size:=λj hj=>let ⟨o,ho,_⟩:=hT j hj;Heap.lt_size ho
 have W0:=(Walks.list (prog:=prog) (w:=w) (A:=A.in1.in1) (show A.in1.in1.handled=none from hh) h2.objs.size l (Nat.ne_of_lt (Nat.lt_trans DN big)) items).toS
 refine wpAny_pure ⟨plainId_quiet F.dp_plain_loop _,T2 (knd:=knd) W0 s.heap.objs.size ?_ ps key ku vu hP hk (λj hj=>Nat.ne_of_lt (E4 j hj)) (λj hj=>?_) hz
  items.size 0 _ _ _ rfl (Nat.zero_le _) ⟨⟨_,Heap.get?_push_size _ rfl,rfl,rfl⟩,GC.push _⟩ (λj hj=>?_) ?_ λs' hm hd=>?_⟩
 ·simp only [List.mem_cons,List.not_mem_nil,or_false,not_or]
  exact ⟨Nat.ne_of_lt big,Nat.ne_of_gt DN⟩
 ·simp only [List.mem_cons,List.not_mem_nil,or_false]
  exact Nat.ne_of_lt (Nat.lt_trans (E4 j hj) big)
 ·obtain ⟨o,ho,r⟩:=hT j hj
  exact ⟨o,Heap.get?_push_of_some _ (k2 _ _ (Heap.get?_push_of_some _ ho)),r⟩
 ·obtain ⟨o,es,ep,ho,r⟩:=PU
  exact ⟨o,es,ep,Heap.get?_push_of_some _ (k2 _ _ ho),r⟩
 ·obtain ⟨h',g',d',tk',qa⟩:=s'
  have eg:g'=s.gens:=hm.gens
  have ed:d'=s.drawn:=hm.drawn
  have eo:qa=s.os:=hm.os
  subst eg ed eo
  refine ⟨rfl,h h' tk' hd λb o e=>?_⟩
  have hb:=Heap.lt_size e
  refine hm.heap b o ?_ (Heap.get?_push_of_some _ (k2 _ _ (Heap.get?_push_of_some _ e)))
  simp only [List.mem_cons,List.not_mem_nil,or_false,not_or]
  exact ⟨Nat.ne_of_lt hb,Nat.ne_of_lt (Nat.lt_trans hb big)⟩
end
end PySem
namespace KS
open PySem PySem.Spec PyProof.Rows L2 KM
noncomputable def putAll (prs:List (Addr × Key × V)):List (Key × V):=prs.foldl (λm p=>putK m p.2.1 p.2.2) []
theorem putAll_snoc (a:List (Addr × Key × V))(p:Addr × Key × V):putAll (a++[p])=putK (putAll a) p.2.1 p.2.2:=by
 unfold putAll
 rw [List.foldl_append]
 rfl
theorem LU (prs:List (Addr × Key × V)):(putAll prs).length<=prs.length:=by
 have:∀ (prs:List (Addr × Key × V)) (m:List (Key × V)),(prs.foldl (λm p=>putK m p.2.1 p.2.2) m).length<=m.length+prs.length:=by
  intro prs
  induction prs with
  | nil=>intro m;simp
  | cons p r ih =>
   intro m
   have h1:=ih (putK m p.2.1 p.2.2)
   have h2:=Qn m p.2.1 p.2.2
   simp only [List.foldl_cons,List.length_cons]
   omega
 have:=this prs []
 simpa [putAll] using this
theorem Vf {prs:List (Addr × Key × V)}{vu:Nat->Value}(hv:∀ (j:Nat) p,prs[j]?=some p->RelV p.2.2 (vu j)){key:Nat->Key}(hk:∀ (j:Nat) p,prs[j]?=some p->p.2.1=key j):
  ∀ i,i<=prs.length->KV (putAll (prs.take i)) (LS key vu i)
 | 0,_=>.nil
 | i+1,h=>by
  have ih:=Vf hv hk i ()
  have e:prs[i]?=some (prs[i]'()):=List.getElem?_eq_getElem ()
  rw [List.take_add_one,e]
  show KV (putAll (prs.take i++[prs[i]])) (stored (LS key vu i) (key i) (vu i))
  rw [putAll_snoc,<- hk i _ e]
  exact ih.put _ (hv i _ e)
section
variable {X:Cx}
theorem HN (hc:X.calm=true):Ds X (.type "dict") (λxs H Q=>∃ (l:Addr) (prs:List (Addr × Key × V)),xs=[.ref l]/\H l=some (.lst (prs.map λp=>V.ref p.1))/\(∀ p∈prs,H p.1=some (.tup [kV p.2.1,p.2.2]))/\∀ d,H d=none->Q (.ref d) (upd H d (.dK (putAll prs)))):=by
 intro pins s σ H xs us Q I r h
 obtain ⟨l,prs,rfl,hl,hp,q⟩:=h
 obtain ⟨u,rfl,ru⟩:=vals1 r
 obtain rfl:u=Value.ref l:=ru
 obtain ⟨hz,its,n0,rv,e⟩:=(show Br X.prog X.w H s.heap l (.lst (prs.map λp=>V.ref p.1)) from I.hok l _ hl)
 rw [List.length_map] at hz
 have hlen:=rv.length
 rw [List.length_map] at hlen
 have hT:∀ j,j < prs.length->∃ ku vu,∀ p,prs[j]?=some p->IsTup s.heap p.1 #[ku,vu]/\RelV (kV p.2.1) ku/\RelV p.2.2 vu:=λj hj=>by
  have e1:prs[j]?=some (prs[j]'hj):=List.getElem?_eq_getElem hj
  obtain ⟨_,IX,r2,o,h1,h2,m,h3⟩:=(show Br X.prog X.w H s.heap (prs[j]'hj).1 (.tup [kV (prs[j]'hj).2.1,(prs[j]'hj).2.2]) from I.hok _ _ (hp _ (List.getElem_mem hj)))
  obtain ⟨ku,vu,rfl,rk,rvv⟩:=vals2 r2
  refine ⟨ku,vu,λp ep=>?_⟩
  rw [e1] at ep
  cases ep
  exact ⟨⟨o,h1,h2,m,h3⟩,rk,rvv⟩
 let ku:Nat->Value:=λj=>if h:j < prs.length then Classical.choose (hT j h) else .none
 let vu:Nat->Value:=λj=>if h:j < prs.length then Classical.choose (Classical.choose_spec (hT j h)) else .none
 have qE:∀ (j:Nat) p,prs[j]?=some p->IsTup s.heap p.1 #[ku j,vu j]/\RelV (kV p.2.1) (ku j)/\RelV p.2.2 (vu j):=λj p ep=>by
  have hj:j < prs.length:=(List.getElem?_eq_some_iff.mp ep).1
  have z:=Classical.choose_spec (Classical.choose_spec (hT j hj)) p ep
  have e1:ku j=Classical.choose (hT j hj):=dif_pos hj
  have e2:vu j=Classical.choose (Classical.choose_spec (hT j hj)):=dif_pos hj
  rw [e1,e2]
  exact z
 let ps:Nat->Addr:=λj=>(prs[j]?.map (·.1)).getD 0
 let key:Nat->Key:=λj=>(prs[j]?.map (·.2.1)).getD (Sum.inl 0)
 have Vg:∀ (j:Nat) p,prs[j]?=some p->ps j=p.1:=λj p ep=>by
  show (prs[j]?.map (·.1)).getD 0=_
  rw [ep];rfl
 have S5:∀ (j:Nat) p,prs[j]?=some p->key j=p.2.1:=λj p ep=>by
  show (prs[j]?.map (·.2.1)).getD _=_
  rw [ep];rfl
 have szE:its.toArray.size=prs.length:=by rw [List.size_toArray,hlen]
 refine T3 (knd:=Bm X.prog X.w) (I.ok.hd hc) e ps key ku vu (λi v hv=>?_) (λi hi=>?_) (λi hi=>?_) () λh' tk hd hk=>?_
 ·have S6:its[i]?=some v:=by simpa using hv
  have hi:i < its.length:=(List.getElem?_eq_some_iff.mp S6).1
  have e1:prs[i]?=some (prs[i]'()):=List.getElem?_eq_getElem ()
  have e2:(prs.map λp=>V.ref p.1)[i]?=some (V.ref (prs[i]'()).1):=by rw [List.getElem?_map,e1];rfl
  obtain ⟨u,hu,ru⟩:=rv.get e2
  rw [S6] at hu
  cases hu
  rw [Vg i _ e1]
  exact ru
 ·have Vh:i < prs.length:=by omega
  have e1:prs[i]?=some (prs[i]'Vh):=List.getElem?_eq_getElem Vh
  rw [S5 i _ e1]
  exact Fw (qE i _ e1).2.1
 ·have Vh:i < prs.length:=by omega
  have e1:prs[i]?=some (prs[i]'Vh):=List.getElem?_eq_getElem Vh
  rw [Vg i _ e1]
  exact (qE i _ e1).1
 ·rw [szE] at hd
  have kv:=Vf (prs:=prs) (vu:=vu) (λj p ep=>(qE j p ep).2.2) (key:=key) (λj p ep=>(S5 j p ep).symm) prs.length (Nat.le_refl _)
  rw [List.take_length] at kv
  have hn:H s.heap.objs.size=none:=I.hok.fresh (Nat.le_refl _)
  exact ⟨.ref _,_,I.laid (a:=s.heap.objs.size) (o:=.dK (putAll prs)) (t':=tk) hk (Nat.le_refl _) (J5 (Nat.le_trans (LU prs) hz) (beq_eq_false_iff_ne.mpr (Ne.symm (Nat.ne_of_lt I.big))) kv hd),rfl,q _ hn⟩
end
end KS
namespace L2
open PySem PySem.Spec PyProof.Rows
section
variable {g:TG}{tt:TT}{te:TE}{σ:St}{Fin:List V->Hp->Prop}
theorem Oi {K:W.Frag}{a:Addr}{xs:List V}{H:Hp}(Pv:Nat->List V->Hp->Prop)(h0:Pv 0 [] H)(hl:∀ i ys H,Pv i ys H->B3 K H a xs)(hn:xs.length < sizeLine)
  (hy:∀ i ys H,Pv i ys H->ys.length<=i)
  (hs:∀ i x ys H,xs[i]?=some x->Pv i ys H->g x σ H fun σ2 H2=>Ext σ σ2/\tt σ2 H2 λb H3=>if b=true then te σ2 H3 λy H4=>Pv (i+1) (ys++[y]) H4 else Pv (i+1) ys H3)
  (mg:∀ x σ H Q Q',(∀ σ' H',Q σ' H'->Q' σ' H')->g x σ H Q->g x σ H Q') (mt:∀ σ H Q Q',(∀ b H',Q b H'->Q' b H')->tt σ H Q->tt σ H Q') (me:∀ σ H Q Q',(∀ v H',Q v H'->Q' v H')->te σ H Q->te σ H Q')
  (hd:∀ ys H,Pv xs.length ys H->Fin ys H):Er (Ws K a) H σ g tt te Fin:=by
 refine ⟨λi m ys H=>m=xs.length - i/\i<=xs.length/\Pv i ys H,⟨xs.length,by simp,Nat.zero_le _,h0⟩,?_⟩
 rintro i m ys H ⟨rfl,hi,p⟩
 have q:=hl i ys H p
 have hyl:=hy i ys H p
 refine ⟨(),?_⟩
 by_cases DN:i < xs.length
 ·refine .inr ⟨⟨xs,xs[i],q,by simp [DN]⟩,(),λx H' y=>?_⟩
  obtain ⟨e,y⟩:=y
  subst e
  refine mg _ _ _ _ _ (fun σ2 H2 z=>⟨z.1,mt _ _ _ _ (λb H3 z=>?_) z.2⟩) (hs i x ys _ (y xs q) p)
  cases b with
  | true=>exact me _ _ _ _ (λy H4 z=>⟨xs.length - (i+1),(),rfl,DN,z⟩) z
  | false=>exact ⟨xs.length - (i+1),(),rfl,DN,z⟩
 ·have e:i=xs.length:=by omega
  subst e
  exact .inl ⟨⟨xs,q,Nat.le_refl _⟩,hd ys H p⟩
end
mutual
inductive K6 (H:Hp):PyData->V->Prop
 | non:K6 H .none .non
 | bl (b:Bool):K6 H (.bool b) (.bl b)
 | int (i:Int):K6 H (.int i) (.int i)
 | str (x:Str):K6 H (.str x) (.str x)
 | tup {a:Addr} {us:List V} {ds:List PyData}:H a=some (.tup us)->HP H ds us->K6 H (.tuple ds) (.ref a)
 | lst {a:Addr} {us:List V} {ds:List PyData}:H a=some (.lst us)->HP H ds us->K6 H (.list ds) (.ref a)
inductive HP (H:Hp):List PyData->List V->Prop
 | nil:HP H [] []
 | cons {d:PyData} {v:V} {ds:List PyData} {us:List V}:K6 H d v->HP H ds us->HP H (d::ds) (v::us)
end
mutual
theorem K6.reads {P:Program}{w:World}{H:Hp}{h:Heap}(x:D' P w H h):∀ {d:PyData} {v:V} {u:Value},K6 H d v->RelV v u->∃ as,Reads h u d as
 | _,_,_,.non,r=>by cases r;exact ⟨_,.none⟩
 | _,_,_,.bl b,r=>by cases r;exact ⟨_,.bool b⟩
 | _,_,_,.int i,r=>by obtain ⟨t,rfl⟩:=r;exact ⟨_,.int i t⟩
 | _,_,_,.str s,r=>by obtain ⟨t,rfl⟩:=r;exact ⟨_,.str s t⟩
 | _,_,_,.tup e q,r=>by
  cases r
  obtain ⟨_,its,rv,o,h1,h2,n,h3⟩:=(show Br P w H h _ (.tup _) from x _ _ e)
  obtain ⟨as,ra⟩:=HP.reads x q rv
  exact ⟨_,.tuple h1 h2 h3 ra⟩
 | _,_,_,.lst e q,r=>by
  cases r
  obtain ⟨_,its,n,rv,h1⟩:=(show Br P w H h _ (.lst _) from x _ _ e)
  obtain ⟨as,ra⟩:=HP.reads x q rv
  exact ⟨_,.list h1 rfl rfl ra⟩
theorem HP.reads {P:Program}{w:World}{H:Hp}{h:Heap}(x:D' P w H h):∀ {ds:List PyData} {vs:List V} {us:List Value},HP H ds vs->Vals vs us->∃ as,ReadsAll h us ds as
 | _,_,_,.nil,.nil=>⟨_,.nil⟩
 | _,_,_,.cons q qs,.cons r rs=>by
  obtain ⟨as,ra⟩:=K6.reads x q r
  obtain ⟨bs,rb⟩:=HP.reads x qs rs
  exact ⟨_,.cons ra rb⟩
end
section
variable {X:Cx}
noncomputable def qF:R2:=λx y H Q=>D1 λd d'=>K6 H d x/\K6 H d' y/\SeqAt.shaped d=true/\SeqAt.shaped d'=true/\Q (.bl (PyData.eqv d d')) H
theorem FZ (hu:X.A.units+64 < cLine):EG X (compareOp .Eq) qF:=by
 intro pins s σ H x y v u Q I rx ry h
 obtain ⟨t,t',k1,k2,d1,d2,q⟩:=h
 obtain ⟨as,ra⟩:=K6.reads I.hok k1 rx
 obtain ⟨bs,rb⟩:=K6.reads I.hok k2 ry
 exact eq_dataH ra rb d1 d2 hu (B8 I q rfl)
end
structure nJ (X:Cx)(tg:List Expr)(g:RW):Prop where out:gG X tg g
section
variable {X:Cx}{a b e:Expr}{es:List Expr}{ta tb:TE}{p1 p2 pos Qo HQ:Pos}
theorem il (hu:X.A.units+1 < cLine)(ha:SE X a ta)(hb:SE X b tb)(hm:behindInMarks .In b=false:=by rfl):ST X (.Compare a [.In] [b] pos) (tB (WT ta tb)):=⟨Wb (WU hu ha.out hb.out) hm⟩
theorem Hh:nJ X [] NQ:=⟨RY⟩
theorem De {t:TG}{u:RW}(h1:SG X e t)(h2:nJ X es u)(hs:(assignEach (e::es) X.env).map (·.2)=assign e X.env::(assignEach es X.env).map (·.2):=by rfl):nJ X (e::es) (El t u):=⟨Pj h1.out h2.out hs⟩
theorem K7 {k:Nat}{t:RW}{n:Nat}(hc:X.calm=true)(h:nJ X es t)(hn:(assignEach es X.env).length=n:=by rfl)(JL:(assignEach es X.env).findIdx? (·.1)=none:=by rfl):SG X (.Tuple es k pos) (Lm X.K n t):=⟨Wm hc h.out hn JL⟩
theorem F' {scope:Scope}{cl:List (Str × Addr)}{own fr:List Str}{js:List Nat}{elt iter tg:Expr}{ifs:List Expr}{g:TG}{tt:TT}{te:TE}{wi:TI}{i:Nat}{y:Str}{py Q9:Pos}(hN:X.N.Nodup)(hy:X.N[i]?=some y)(hx:Loc X.env.scope y)(S:Bx X scope cl own fr js)(EW:X.calm=true)(hi:SI X tg iter wi)
  (hg:∀ C s0 H0 ex,SG (X.cmp scope cl own fr C s0 H0 ex) tg g) (ht:∀ C s0 H0 ex,SF (X.cmp scope cl own fr C s0 H0 ex) ifs tt) (he:∀ C s0 H0 ex,SE (X.cmp scope cl own fr C s0 H0 ex) elt te)
  (qp:swapsWith (.ListComp elt [⟨tg,iter,ifs,0⟩] scope pos) (some (.Name y py)) Q9.line X.env=pure true:=by rfl)
  (hf:X.fn y=true\/X.env.scope.names.lookup y=some .local:=by first | exact .inl rfl | exact .inr rfl | assumption)
  (hs:∀ x,foldedSetIterable iter X.env x=pure x:=by intro _;rfl):SS X (.Assign [.Name y py] (.ListComp elt [⟨tg,iter,ifs,0⟩] scope pos) Q9) (LP i own js wi g tt te) :=
 ⟨SK hN hy hx S EW hi.out (λC s0 H0 ex=>(hg C s0 H0 ex).out) (λC s0 H0 ex=>(ht C s0 H0 ex).out) (λC s0 H0 ex=>(he C s0 H0 ex).out) qp hf hs⟩
end
section
variable {X:Cx}
variable {a b o i value e:Expr}{ta tb td ty tv:TE}{pos pos':Pos}{f:Str}
theorem DV (he:SE X e ta)(hb:attributeBase e f X.env (eval e X.env)=eval e X.env:=by rfl):SE X (.Attribute e f pos) (WD X.K ta f):=⟨WE he.out hb⟩
theorem Qp (ha:SE X o ta)(hv:SE X value tv)(hs:swapsWith value (some (.Attribute o f pos')) pos.line X.env=pure false:=by rfl):SS X (.Assign [.Attribute o f pos'] value pos) (S9 X.K ta tv f):=⟨WG ha.out hv.out hs⟩
end
theorem Qq {AI:List (Key × V)}{k:Key}{v u:V}(h:C7 AI k=some u):(putK AI k v).map (·.1)=AI.map (·.1):=by
 unfold putK
 rw [DR,h]
 rw [if_pos (show (some u).isSome=true from rfl),List.map_map]
 refine List.map_congr_left λp _=>?_
 show (if p.1=k then (p.1,v) else p).1=p.1
 by_cases e:p.1=k
 ·rw [if_pos e]
 ·rw [if_neg e]
theorem Qr (AI:List (Key × V))(k:Key)(v:V):(putK AI k v).length<=AI.length+1/\AI.length<=(putK AI k v).length:=by
 cases e:C7 AI k with
 | none=>rw [PV _ e,List.length_append];simp
 | some u =>
  have:=congrArg List.length (Qq (v:=v) e)
  simp at this
  omega
section
variable {X:Cx}{pos:Pos}{tg e o i:Expr}{te to ti:TE}{g:TG}{t:Ail}
theorem ip (he:SE X e te)(hg:SG X tg g)(hs:swapsWithSole [tg] e pos.line X.env=pure false:=by rfl)(hw:swappedStores [tg] e X.env=pure none:=by rfl)
  (h1:(assignEach [tg] X.env).map (·.2)=[assign tg X.env]:=by rfl):SS X (.Assign [tg] e pos) (NR te g):=⟨Wn he.out hg.out hs hw h1⟩
end
end L2
namespace KG
variable {α:Type}
noncomputable def szs (sz:α->Nat):List α->Nat
 | []=>0
 | t::ts=>sz t+szs sz ts
theorem F8 (sz:α->Nat)(a b:List α):szs sz (a++b)=szs sz a+szs sz b:=by
 induction a with
 | nil=>simp [szs]
 | cons t ts ih=>simp only [List.cons_append,szs,ih];omega
variable {kids:α->List α}{sz:α->Nat}
noncomputable def nxt (kids:α->List α):List α->List α
 | []=>[]
 | t::ts=>kids t++ts
noncomputable def iq (kids:α->List α):Nat->List α->List α
 | 0,_=>[]
 | _+1,[]=>[]
 | n+1,t::ts=>t::iq kids n (kids t++ts)
noncomputable def P (kids:α->List α)(sz:α->Nat)(l:List α):List α:=iq kids (szs sz l) l
theorem P_nil:P kids sz []=[]:=rfl
noncomputable def Fo (kids:α->List α):List α->Nat->List α
 | l,0=>l
 | l,j+1=>Fo kids (nxt kids l) j
theorem N1:∀ (j:Nat) (l:List α),Fo kids l (j+1)=nxt kids (Fo kids l j)
 | 0,_=>rfl
 | j+1,l=>by show Fo kids (nxt kids l) (j+1)=_;rw [N1 j (nxt kids l)];rfl
theorem LV:∀ j,Fo kids [] j=[]
 | 0=>rfl
 | j+1=>LV j
section
variable (hs:∀ t,szs sz (kids t)+1=sz t)
include hs
theorem sz_pos (t:α):0 < sz t:=by have:=hs t;omega
theorem szs_nxt (t:α)(ts:List α):szs sz (nxt kids (t::ts))+1=szs sz (t::ts):=by
 simp only [nxt,F8,szs]
 have:=hs t
 omega
theorem P_cons (t:α)(ts:List α):P kids sz (t::ts)=t::P kids sz (kids t++ts):=by
 have e:=szs_nxt hs t ts
 unfold P
 rw [<- e]
 rfl
theorem P_len:∀ (n:Nat) (l:List α),szs sz l=n->(P kids sz l).length=n
 | 0,[],_=>rfl
 | 0,t::ts,h=>by have:=sz_pos hs t;simp only [szs] at h;omega
 | n+1,[],h=>by simp [szs] at h
 | n+1,t::ts,h=>by
  have e:=szs_nxt hs t ts
  rw [P_cons hs,List.length_cons,P_len n (kids t++ts) (by show szs sz (nxt kids (t::ts))=n;omega)]
theorem P_one (t:α):(P kids sz [t]).length=sz t:=by
 have:=P_len hs _ [t] rfl
 simpa [szs] using this
theorem Vi:∀ (j:Nat) (l:List α),(P kids sz l)[j]?=(Fo kids l j).head?
 | 0,[]=>rfl
 | 0,t::ts=>by rw [P_cons hs];rfl
 | j+1,[]=>by show (P kids sz [])[j+1]?=(Fo kids [] j).head?;rw [LV,P_nil];rfl
 | j+1,t::ts=>by
  rw [P_cons hs]
  show (P kids sz (kids t++ts))[j]?=(Fo kids (nxt kids (t::ts)) j).head?
  exact Vi j _
theorem Fo_size:∀ (j:Nat) (l:List α),szs sz (Fo kids l j)=szs sz l - j
 | 0,_=>rfl
 | j+1,[]=>by rw [LV];simp [szs]
 | j+1,t::ts=>by
  show szs sz (Fo kids (nxt kids (t::ts)) j)=_
  rw [Fo_size j]
  have:=szs_nxt hs t ts
  omega
theorem Qs {l:List α}(h:szs sz l=0):l=[]:=by
 cases l with
 | nil=>rfl
 | cons t ts=>have:=sz_pos hs t;simp only [szs] at h;omega
theorem Fo_step {l:List α}{j:Nat}{x:α}(h:(P kids sz l)[j]?=some x):∃ r,Fo kids l j=x::r/\Fo kids l (j+1)=kids x++r:=by
 rw [Vi hs] at h
 cases e:Fo kids l j with
 | nil=>rw [e] at h;cases h
 | cons y r =>
  rw [e] at h
  cases h
  exact ⟨r,rfl,by rw [N1,e];rfl⟩
theorem Fo_end (l:List α):Fo kids l (szs sz l)=[]:=Qs hs (by rw [Fo_size hs];omega)
theorem szs_len (l:List α):l.length<=szs sz l:=by
 induction l with
 | nil=>simp [szs]
 | cons t ts ih=>have:=sz_pos hs t;simp only [szs,List.length_cons];omega
theorem kids_len (t:α):(kids t).length < sz t:=by
 have h1:=szs_len hs (kids t)
 have h2:=hs t
 omega
theorem P_mem_sz:∀ (n:Nat) (l:List α) (d:α),szs sz l=n->d∈P kids sz l->sz d<=szs sz l
 | 0,[],d,_,h=>by cases h
 | 0,t::ts,d,h,_=>by have:=sz_pos hs t;simp only [szs] at h;omega
 | n+1,[],d,h,_=>by simp [szs] at h
 | n+1,t::ts,d,h,hm=>by
  have e:=szs_nxt hs t ts
  rw [P_cons hs] at hm
  rcases List.mem_cons.mp hm with z | z
  ·rw [z];simp only [szs];omega
  ·have:=P_mem_sz n (kids t++ts) d (by show szs sz (nxt kids (t::ts))=n;omega) z
   have e2:szs sz (kids t++ts)=szs sz (nxt kids (t::ts)):=rfl
   omega
end
end KG
namespace L2
open PySem PySem.Spec PyProof.Rows KS
open PySem.W (fnMade fnX envX CodeHd tabObj makeFunction_K makeFunction_hit nestDef_K FnAt callWith_F)
noncomputable def qG (K:W.Frag)(fd:FuncData)(f:Addr)(H:Hp):Prop:=W.keepIn K (.ref f)=true\/∃ fo:Obj,fo.data=.func fd/\H f=some (nF f fo)
section
variable {X:Cx}{k:Nat}{f:Addr}{fd:FuncData}{ps:List Str}{sp:Sp}{x:Str}{p pos:Pos}{e:Expr}{es:List Expr}{t:TA}{i:Nat}
noncomputable def Qt (K:W.Frag)(fd:FuncData)(sp:Sp)(i:Nat)(f:Addr)(t:TA):TE:=fun σ H Q=>σ[i]?=some (some (.ref f))/\qG K fd f H/\t σ H λvs H1=>qG K fd f H1/\sp vs H1 Q E0
theorem Qu (F:AY X.prog X.w X.K X.mg X.base C5 k f fd ps sp)(hr:Bh k X.A)(hb:Binds X.K fd ps [])(hN:X.N[i]?=some x)(hv:V1 X.env.scope x)(ha:PA X (e::es) t)
  (hd:(x==("__debug__":Str))=false:=by decide) (JJ:(x==("__classdict__":Str))=false:=by decide)
  (he:starEach (e::es) X.env=(false,eval e X.env)::starEach es X.env:=by rfl) (E4:(backTo pos (starEach es X.env)).any (·.1)=false:=by rfl) :
  PE X (.Call (.Name x p) (e::es) [] pos) (Qt X.K fd sp i f t):=by
 intro pins s σ H Q I h
 obtain ⟨X7,qH,h⟩:=h
 refine wpAny_Call_Name_kw (BD ((Ll (pos:=p) hN hv hd JJ) pins s σ H (λw G=>w=.ref f/\G=H) I ⟨_,X7,rfl,rfl⟩) λu s1 q1=>?_)
 obtain ⟨y,H1,I1,r1,ey,eH⟩:=q1
 subst ey eH
 obtain rfl:u=Value.ref f:=r1
 have hz:∀ us:List Value,us++[]=us:=λus=>List.append_nil us
 rcases qH with hk | ⟨fo,Sw,qH⟩
 ·refine W.callWith_K (h₀:=X.base) I.ok.mod.kin hk (BD (ha pos pins s1 σ H1 _ I1 h) λus s2 q2=>?_) he E4
  obtain ⟨vs,H2,I2,r2,qI,q2⟩:=q2
  refine ⟨I2.kIn,?_⟩
  exact GU (us:=us) (dvs:=[]) (ds:=[]) F hr hb .nil Ha I2 r2 (by rw [List.append_nil];exact q2)
 ·have at':∀ {s:Shared} {H:Hp},Inv X pins σ H s->qG X.K fd f H->FnAt f s.heap\/W.keepIn X.K (.ref f)=true:=λ{s H} J z=>by
   rcases z with z | ⟨fo,Sw,z⟩
   ·exact .inr z
   ·have g:=nF.get J.hok z
    obtain ⟨oc,od,da,sl⟩:=fo
    have qJ:da=.func fd:=Sw
    subst qJ
    exact .inl ⟨oc,od,fd,sl,g⟩
  by_cases hk:W.keepIn X.K (.ref f)=true
  ·refine W.callWith_K (h₀:=X.base) I.ok.mod.kin hk (BD (ha pos pins s1 σ H1 _ I1 h) λus s2 q2=>?_) he E4
   obtain ⟨vs,H2,I2,r2,qI,q2⟩:=q2
   exact ⟨I2.kIn,GU (us:=us) (dvs:=[]) (ds:=[]) F hr hb .nil Ha I2 r2 (by rw [List.append_nil];exact q2)⟩
  ·refine callWith_F ((at' I1 (.inr ⟨fo,Sw,qH⟩)).resolve_right hk) (BD (ha pos pins s1 σ H1 _ I1 h) λus s2 q2=>?_) he E4
   obtain ⟨vs,H2,I2,r2,qI,q2⟩:=q2
   exact ⟨(at' I2 qI).resolve_right hk,GU (us:=us) (dvs:=[]) (ds:=[]) F hr hb .nil Ha I2 r2 (by rw [List.append_nil];exact q2)⟩
theorem N4 (F:AY X.prog X.w X.K X.mg X.base C5 k f fd ps sp)(hr:Bh k X.A)(hb:Binds X.K fd ps [])(hN:X.N[i]?=some x)(hv:V1 X.env.scope x)(ha:SA X (e::es) t)
  (hd:(x==("__debug__":Str))=false:=by decide) (JJ:(x==("__classdict__":Str))=false:=by decide)
  (he:starEach (e::es) X.env=(false,eval e X.env)::starEach es X.env:=by first | exact Es | exact DB | exact DA | exact Et | exact Eu | exact Ew | exact Gj | rfl) (E4:(backTo pos (starEach es X.env)).any (·.1)=false:=by rfl) :
  SE X (.Call (.Name x p) (e::es) [] pos) (Qt X.K fd sp i f t):=⟨Qu F hr hb hN hv ha.out hd JJ he E4⟩
theorem Qv (hg:Gl X x)(hm:X.mg x=some (.ref f))(hd:(x==("__debug__":Str))=false:=by decide):SE X (.Name x pos) (tC (.ref f)):=⟨IS (v:=.ref f) hg hm rfl hd⟩
end
theorem Gw {R:List Value->Prop}(h:∀ a0,R [a0]):∀ us:List Value,us.length=1->R us
 | [a0],_=>h a0
theorem DK {R:List Value->Prop}(h:∀ a0 a1,R [a0,a1]):∀ us:List Value,us.length=2->R us
 | [a0,a1],_=>h a0 a1
theorem LW {R:List Value->Prop}(h:∀ a0 a1 a2,R [a0,a1,a2]):∀ us:List Value,us.length=3->R us
 | [a0,a1,a2],_=>h a0 a1 a2
theorem X8 {R:List Value->Prop}(h:∀ a0 a1 a2 a3,R [a0,a1,a2,a3]):∀ us:List Value,us.length=4->R us
 | [a0,a1,a2,a3],_=>h a0 a1 a2 a3
theorem X9 {R:List Value->Prop}(h:∀ a0 a1 a2 a3 a4,R [a0,a1,a2,a3,a4]):∀ us:List Value,us.length=5->R us
 | [a0,a1,a2,a3,a4],_=>h a0 a1 a2 a3 a4
theorem qK {R:List Value->Prop}(h:∀ a0 a1 a2 a3 a4 a5 a6,R [a0,a1,a2,a3,a4,a5,a6]):∀ us:List Value,us.length=7->R us
 | [a0,a1,a2,a3,a4,a5,a6],_=>h a0 a1 a2 a3 a4 a5 a6
end L2
namespace L2
open PySem PySem.Spec PyProof.Rows KS
noncomputable def LX (n:Nat)(o:HO)(H1:Hp)(Q:VK):Prop:=n<=sizeLine/\∀ p,H1 p=none->Q (.ref p) (upd H1 p o)
section
variable {σ:St}{H:Hp}{Q:VK}{QB:Bool->Hp->Prop}{D:Ends}
theorem Jb {i:Nat}{v:V}(h:σ[i]?=some (some v))(q:Q v H):Bv i σ H Q:=⟨v,h,q⟩
theorem LY {v:V}(q:Q v H):tC v σ H Q:=q
theorem iu {r:R2}{ta tb:TE}(q:ta σ H λx H1=>tb σ H1 λy H2=>r x y H2 Q):Fl r ta tb σ H Q:=q
theorem Afk {r:V->Hp->VK->Prop}{ta:TE}(q:ta σ H λx H1=>r x H1 Q):pY r ta σ H Q:=q
theorem N5 {C:Int->Int->Prop}{g:Int->Int->V}{i j:Int}(c:C i j)(q:Q (g i j) H):rI C g (.int i) (.int j) H Q:=⟨i,j,rfl,rfl,c,q⟩
theorem qL {g:Int->Int->V}{i j:Int}(q:Q (g i j) H):NW g (.int i) (.int j) H Q:=⟨i,j,rfl,rfl,q⟩
theorem Afl {g:Int->V}{i:Int}(q:Q (g i) H):rU g (.int i) H Q:=⟨i,rfl,q⟩
theorem Hi {x y:V}(h:Pt x y=true)(q:Q (.bl (decide (x=y))) H):rEq x y H Q:=⟨h,q⟩
theorem qM {x y:V}(h:Pt x y=true)(q:Q (.bl (!decide (x=y))) H):rNe x y H Q:=⟨h,q⟩
theorem nK {t:TE}(q:t σ H λx H'=>fB QB x H'):JN t σ H QB:=q
theorem Afm {t:TE}(q:t σ H λx H'=>fB QB x H'):tB t σ H QB:=q
theorem Afn {b:Bool}{P:Bool->Prop}(q:P b):∃ k,V.bl b=V.bl k/\P k:=⟨b,rfl,q⟩
theorem Afo {b:Bool}(q:QB b H):fB QB (.bl b) H:=⟨b,rfl,q⟩
theorem qN {t:TT}(q:t σ H λc H1=>QB (!c) H1):Wf t σ H QB:=q
theorem qO {t u:TT}(q:t σ H λc H1=>if c=true then u σ H1 QB else QB false H1):Wd t u σ H QB:=q
theorem Afp {t u:TT}(q:t σ H λc H1=>if c=true then QB true H1 else u σ H1 QB):pQ t u σ H QB:=q
theorem Afq {t:TT}{ta tb:TE}(q:t σ H λc H1=>if c=true then ta σ H1 Q else tb σ H1 Q):pR t ta tb σ H Q:=q
theorem nL {ta:TE}(q:ta σ H λx H1=>∃ c,x=.bl c/\Q (.bl (!c)) H1):Pg ta σ H Q:=q
theorem nM {ta tb:TE}(q:ta σ H λx H1=>∃ c,x=.bl c/\if c=true then tb σ H1 Q else Q (.bl false) H1):Pf ta tb σ H Q:=q
theorem fG {te:TE}{i:Nat}{u:TS}(q:te σ H λx H1=>u D (σ.set i (some x)) H1):Be (NR te (D2 i)) u D σ H:=q
theorem Qw {te:TE}{i:Nat}(q:te σ H λx H1=>D.nx (σ.set i (some x)) H1):NR te (D2 i) D σ H:=q
theorem fH {c:TT}{t u:TS}(q:c σ H λb H1=>if b=true then t { D with nx:=u D } σ H1 else u D σ H1):Be (NP c t JK) u D σ H:=q
theorem Qx {c:TT}{t u:TS}(q:c σ H λb H1=>if b=true then t D σ H1 else u D σ H1):NP c t u D σ H:=q
theorem Xa {te:TE}{u:TS}(q:te σ H λ_ H1=>u D σ H1):Be (MA te) u D σ H:=q
theorem nN {te:TE}(q:te σ H λ_ H1=>D.nx σ H1):MA te D σ H:=q
theorem qP {te:TE}(q:te σ H D.rt):NO te D σ H:=q
theorem nO (q:D.nx σ H):JK D σ H:=q
theorem qQ {Q:List V->Hp->Prop}(q:Q [] H):Em σ H Q:=q
theorem nQ {te:TE}{t:TA}{Q:List V->Hp->Prop}(q:te σ H λx H1=>t σ H1 λxs H2=>Q (x::xs) H2):BB te t σ H Q:=q
theorem qR {t:TA}(q:t σ H λxs H1=>LX xs.length (.tup xs) H1 Q):Sb t σ H Q:=q
theorem qS {t:TA}(q:t σ H λxs H1=>LX xs.length (.lst xs) H1 Q):Sd t σ H Q:=q
theorem nR {sp:Sp}{E:XK}{t:TA}(q:t σ H λvs H1=>sp vs H1 Q E):Ed sp [] E t σ H Q:=by
 have e:(λvs H1=>sp (vs++[]) H1 Q E)=λvs H1=>sp vs H1 Q E:=by funext vs H1;rw [List.append_nil]
 show t σ H λvs H1=>sp (vs++[]) H1 Q E
 rw [e];exact q
theorem Afr {r:List V->Hp->VK->Prop}{t:TA}(q:t σ H λvs H1=>r vs H1 Q):Sf r t σ H Q:=q
theorem AX {K:W.Frag}{p:Addr}{xs:List V}{i:Int}{v:V}(h:B3 K H p xs)(e:MN xs i=some v)(q:Q v H):Bw K (.ref p) (.int i) H Q:=⟨p,xs,i,v,rfl,rfl,h,e,q⟩
theorem Ad {K:W.Frag}{p:Addr}{xs:List V}{i:Int}{v:V}(h:Av K H p xs)(e:MN xs i=some v)(q:Q v H):AA K (.ref p) (.int i) H Q:=⟨p,xs,i,v,rfl,rfl,h,e,q⟩
theorem Dg {K:W.Frag}{p:Addr}{xs:List V}{i:Int}(h:B3 K H p xs)(h0:0<=i)(h1:i < xs.length)(q:∀ v,v∈xs->Q v H):Bw K (.ref p) (.int i) H Q:=by
 obtain ⟨v,hv,hm⟩:=Qm h0 h1
 exact ⟨p,xs,i,v,rfl,rfl,h,hv,q v hm⟩
end
theorem iw {c:Prop}[Decidable c]{A T R:Prop}(hR:R)(hA:c->R->A):if c then A else (if false=true then T else R):=by
 by_cases h:c
 ·rw [if_pos h];exact hA h hR
 ·rw [if_neg h];exact Cm hR
theorem nU {c:Prop}[Decidable c]{A T R:Prop}(hT:T)(hA:¬ c->T->A):if c then (if true=true then T else R) else A:=by
 by_cases h:c
 ·rw [if_pos h];exact CT hT
 ·rw [if_neg h];exact hA h hT
theorem Oj (n:Nat):((n+1:Nat):Int) - 1=(n:Int):=by omega
theorem BX {n:Nat}(h:n<=16777216):n<=sizeLine:=Ey▸h
theorem D5 {n:Nat}(h:n < 16777216):n < sizeLine:=Ey▸h
end L2
local macro_rules | `(tactic| fail)=>`(tactic| first
 | ((with_reducible refine L2.Jb (v:=?v) ?h ?q);(case h=>rfl))
 | with_reducible refine L2.LY ?_
 | with_reducible refine L2.iu ?_
 | with_reducible refine L2.Afk ?_
 | with_reducible refine L2.qL ?_
 | with_reducible refine L2.Afl ?_
 | ((with_reducible refine L2.N5 ?c ?q);(case c=>first | exact ⟨⟨⟩,⟨⟩⟩ | decide | exact .inl ⟨⟨⟩,⟨⟩⟩ | exact .inr ⟨⟨⟩,⟨⟩⟩ | exact ⟨⟨⟩,⟨⟩,⟨⟩⟩))
 | ((with_reducible refine L2.Hi ?h ?q);(case h=>rfl))
 | ((with_reducible refine L2.qM ?h ?q);(case h=>rfl))
 | with_reducible refine L2.nK ?_
 | with_reducible refine L2.Afm ?_
 | with_reducible refine L2.Afo ?_
 | with_reducible refine L2.Afn ?_
 | with_reducible refine L2.qN ?_
 | with_reducible refine L2.qO ?_
 | with_reducible refine L2.Afp ?_
 | with_reducible refine L2.Afq ?_
 | with_reducible refine L2.nL ?_
 | with_reducible refine L2.nM ?_
 | with_reducible refine L2.fG ?_
 | with_reducible refine L2.Qw ?_
 | with_reducible refine L2.fH ?_
 | with_reducible refine L2.Qx ?_
 | with_reducible refine L2.Xa ?_
 | with_reducible refine L2.nN ?_
 | with_reducible refine L2.qP ?_
 | with_reducible refine nV ?_
 | ((with_reducible refine L2.nO ?_);dsimp only)
 | with_reducible refine L2.qQ ?_
 | with_reducible refine L2.nQ ?_
 | with_reducible refine L2.qR ?_
 | with_reducible refine L2.qS ?_
 | with_reducible refine L2.nR ?_
 | with_reducible refine L2.Afr ?_)
local macro_rules | `(tactic| left)=>`(tactic| repeat fail)
namespace L2
open PySem PySem.Spec PyProof.Rows KS
theorem BG {n:Nat}{H1:Hp}{o:HO}{R:VK}(h:n<=sizeLine)(q:∀ p H2,H1 p=none->An H1 H2->H2 p=some o->R (.ref p) H2):LX n o H1 R :=
 ⟨h,λp hp=>q p _ hp (An.new hp) AG⟩
end L2
local macro_rules | `(tactic| intros $p:ident $h:ident $s:ident $e:ident)=>`(tactic| ((refine L2.BG ?hh fun $p $h hn $s $e=>?qq);(case hh=>first | exact L2.BX (by decide) | (simp only [List.length_cons,List.length_nil];exact L2.BX (by decide)))))
namespace L2
open PySem PySem.Spec PyProof.Rows KS
theorem Dp {H:Hp}{Q:VK}{l b:Addr}{xs zs:List V}(hl:H l=some (.lst xs))(hb:H b=some (.lst zs))(hn:xs.length+zs.length<=sizeLine)(q:∀ p H2,H p=none->An H H2->H2 p=some (.lst (xs++zs))->Q (.ref p) H2):LI (.ref l) (.ref b) H Q :=
 ⟨l,b,xs,zs,rfl,rfl,hl,hb,hn,λp hp=>q p _ hp (An.new hp) AG⟩
noncomputable def Cl (Pr:Program)(w:World)(K:W.Frag)(mg:Str->Option Value)(base:Heap)(k:Nat)(x:Str)(ps:List Str)(sp:Sp):Prop:=∃ f fd,AY Pr w K mg base C5 k f fd ps sp/\W.keepIn K (.ref f)=true/\Binds K fd ps []/\mg x=some (.ref f)
section
variable {X:Cx}{k:Nat}{ps:List Str}{sp:Sp}{x:Str}{p pos:Pos}{e:Expr}{es:List Expr}{t:TA}
theorem B1 (F:Cl X.prog X.w X.K X.mg X.base k x ps sp)(hr:Bh k X.A)(hg:Gl X x)(ha:SA X (e::es) t)(FR:(x==("__debug__":Str))=false:=by decide)
  (he:starEach (e::es) X.env=(false,eval e X.env)::starEach es X.env:=by first | exact Es | exact DB | exact DA | exact Et | exact Eu | exact Ew | exact Gj | rfl) (E4:(backTo pos (starEach es X.env)).any (·.1)=false:=by rfl) :
  SE X (.Call (.Name x p) (e::es) [] pos) (Ed sp [] E0 t):=by
 obtain ⟨f,fd,h1,h2,h3,h4⟩:=F
 exact LQ h1 hr hg h4 h2 h3 ha FR he E4
end
theorem Cl.mono {Pr:Program}{w:World}{K:W.Frag}{mg:Str->Option Value}{base:Heap}{j k:Nat}{x:Str}{ps:List Str}{sp:Sp}(h:j<=k)(F:Cl Pr w K mg base j x ps sp):Cl Pr w K mg base k x ps sp:=by
 obtain ⟨f,fd,h1,h2⟩:=F
 exact ⟨f,fd,h1.mono h,h2⟩
structure Df (K:W.Frag)(mg:Str->Option Value)(x:Str)(st:Stmt)(ps:List Str)(f:Addr)(fd:FuncData):Prop where
 F:D4 K x x st f fd
 b:Binds K fd ps []
 m:mg x=some (.ref f)
theorem Df.cl {Pr:Program}{w:World}{K:W.Frag}{mg:Str->Option Value}{base:Heap}{k:Nat}{x:Str}{st:Stmt}{ps:List Str}{f:Addr}{fd:FuncData}{sp:Sp}(D:Df K mg x st ps f fd)(G:AY Pr w K mg base C5 k f fd ps sp):Cl Pr w K mg base k x ps sp:=⟨f,fd,G,D.F.kp,D.b,D.m⟩
end L2
namespace KX
open PySem
inductive Ex where
 | nm (x:Str) | num (i:Int) | tru (b:Bool) | emp
 | fn (x:Str) (b:Ex) | rc (f x:Str) (b:Ex) | cal (a b:Ex) | lt (x:Str) (a b:Ex) | wh (a b c:Ex) | pr (a b:Ex)
 | opn (a:Ex) (x y:Str) (b:Ex) | lk (a b:Ex) | spl (a b:Ex) (x y:Str) (c:Ex) | op (o:Str) (a b:Ex)
namespace Ex
noncomputable def np:Ex->Nat
 | nm _ | num _ | tru _ | emp=>0
 | fn _ b=>np b | rc _ _ b=>np b | cal a b=>np a+np b | lt _ a b=>np a+np b | wh a b c=>np a+np b+np c | pr a b=>1+np a+np b
 | opn a _ _ b=>np a+np b | lk a b=>1+np a+np b | spl a b _ _ c=>np a+np b+np c | op _ a b=>np a+np b
noncomputable def sz:Ex->Nat
 | nm _ | num _ | tru _ | emp=>1
 | fn _ b=>1+sz b | rc _ _ b=>1+sz b | cal a b=>1+sz a+sz b | lt _ a b=>1+sz a+sz b | wh a b c=>1+sz a+sz b+sz c | pr a b=>1+sz a+sz b
 | opn a _ _ b=>1+sz a+sz b | lk a b=>1+sz a+sz b | spl a b _ _ c=>1+sz a+sz b+sz c | op _ a b=>1+sz a+sz b
noncomputable def cl (xs:List Str):Ex->Prop
 | nm x=>x∈xs
 | num _ | tru _ | emp=>True
 | fn x b=>cl (x::xs) b | rc f x b=>cl (x::f::xs) b | cal a b=>cl xs a/\cl xs b | lt x a b=>cl xs a/\cl (x::xs) b | wh a b c=>cl xs a/\cl xs b/\cl xs c | pr a b=>cl xs a/\cl xs b
 | opn a x y b=>cl xs a/\cl (y::x::xs) b | lk a b=>cl xs a/\cl xs b | spl a b x y c=>cl xs a/\cl xs b/\cl (y::x::xs) c | op _ a b=>cl xs a/\cl xs b
theorem cl.mono {e:Ex}:∀ {xs ys:List Str},(∀ x∈xs,x∈ys)->cl xs e->cl ys e:=by
 have c1:∀ {xs ys:List Str} (x:Str),(∀ x∈xs,x∈ys)->∀ z∈x::xs,z∈x::ys:=λx h z hz=>by
  rcases List.mem_cons.mp hz with rfl | hz
  ·exact .head _
  ·exact .tail _ (h _ hz)
 induction e with
 | nm x=>exact λh q=>h _ q
 | num _ | tru _ | emp=>exact λ_ _=>trivial
 | fn x b ih=>exact λh q=>ih (c1 x h) q
 | rc f x b ih=>exact λh q=>ih (c1 x (c1 f h)) q
 | cal a b ia ib=>exact λh q=>⟨ia h q.1,ib h q.2⟩
 | lt x a b ia ib=>exact λh q=>⟨ia h q.1,ib (c1 x h) q.2⟩
 | wh a b c ia ib ic=>exact λh q=>⟨ia h q.1,ib h q.2.1,ic h q.2.2⟩
 | pr a b ia ib=>exact λh q=>⟨ia h q.1,ib h q.2⟩
 | opn a x y b ia ib=>exact λh q=>⟨ia h q.1,ib (c1 y (c1 x h)) q.2⟩
 | lk a b ia ib=>exact λh q=>⟨ia h q.1,ib h q.2⟩
 | spl a b x y c ia ib ic=>exact λh q=>⟨ia h q.1,ib h q.2.1,ic (c1 y (c1 x h)) q.2.2⟩
 | op o a b ia ib=>exact λh q=>⟨ia h q.1,ib h q.2⟩
noncomputable def isOp (o:Str):Prop:=o="plus"\/o="minus"\/o="less"\/o="same"
noncomputable def opk:Ex->Prop
 | nm _ | num _ | tru _ | emp=>True
 | fn _ b=>opk b | rc _ _ b=>opk b | cal a b=>opk a/\opk b | lt _ a b=>opk a/\opk b | wh a b c=>opk a/\opk b/\opk c | pr a b=>opk a/\opk b
 | opn a _ _ b=>opk a/\opk b | lk a b=>opk a/\opk b | spl a b _ _ c=>opk a/\opk b/\opk c | op o a b=>isOp o/\opk a/\opk b
end Ex
end KX
namespace L2
open PySem PySem.Spec PyProof.Rows KS KX
noncomputable def B9 (H:Hp):Ex->V->Prop
 | .nm x,r=>∃ p,r=.ref p/\H p=some (.tup [.str "name",.str x])
 | .num i,r=>∃ p,r=.ref p/\H p=some (.tup [.str "number",.int i])
 | .tru b,r=>∃ p,r=.ref p/\H p=some (.tup [.str "truth",.bl b])
 | .emp,r=>∃ p,r=.ref p/\H p=some (.tup [.str "empty"])
 | .fn x b,r=>∃ p rb,r=.ref p/\H p=some (.tup [.str "fun",.str x,rb])/\B9 H b rb
 | .rc f x b,r=>∃ p rb,r=.ref p/\H p=some (.tup [.str "rec",.str f,.str x,rb])/\B9 H b rb
 | .cal a b,r=>∃ p ra rb,r=.ref p/\H p=some (.tup [.str "call",ra,rb])/\B9 H a ra/\B9 H b rb
 | .lt x a b,r=>∃ p ra rb,r=.ref p/\H p=some (.tup [.str "let",.str x,ra,rb])/\B9 H a ra/\B9 H b rb
 | .wh a b c,r=>∃ p ra rb rc,r=.ref p/\H p=some (.tup [.str "when",ra,rb,rc])/\B9 H a ra/\B9 H b rb/\B9 H c rc
 | .pr a b,r=>∃ p ra rb,r=.ref p/\H p=some (.tup [.str "pair",ra,rb])/\B9 H a ra/\B9 H b rb
 | .opn a x y b,r=>∃ p ra rb,r=.ref p/\H p=some (.tup [.str "open",ra,.str x,.str y,rb])/\B9 H a ra/\B9 H b rb
 | .lk a b,r=>∃ p ra rb,r=.ref p/\H p=some (.tup [.str "link",ra,rb])/\B9 H a ra/\B9 H b rb
 | .spl a b x y c,r=>∃ p ra rb rc,r=.ref p/\H p=some (.tup [.str "split",ra,rb,.str x,.str y,rc])/\B9 H a ra/\B9 H b rb/\B9 H c rc
 | .op o a b,r=>∃ p ra rb,r=.ref p/\H p=some (.tup [.str "op",.str o,ra,rb])/\B9 H a ra/\B9 H b rb
theorem B9.mono {H H':Hp}(s:Au H H'){e:Ex}:∀ {r:V},B9 H e r->B9 H' e r:=by
 induction e with
 | nm _=>intro r h;obtain ⟨p,h1,h2⟩:=h;exact ⟨p,h1,s _ _ h2⟩
 | num _=>intro r h;obtain ⟨p,h1,h2⟩:=h;exact ⟨p,h1,s _ _ h2⟩
 | tru _=>intro r h;obtain ⟨p,h1,h2⟩:=h;exact ⟨p,h1,s _ _ h2⟩
 | emp=>intro r h;obtain ⟨p,h1,h2⟩:=h;exact ⟨p,h1,s _ _ h2⟩
 | fn _ _ ib=>intro r h;obtain ⟨p,rb,h1,h2,h3⟩:=h;exact ⟨p,rb,h1,s _ _ h2,ib h3⟩
 | rc _ _ _ ib=>intro r h;obtain ⟨p,rb,h1,h2,h3⟩:=h;exact ⟨p,rb,h1,s _ _ h2,ib h3⟩
 | cal _ _ ia ib=>intro r h;obtain ⟨p,ra,rb,h1,h2,h3,h4⟩:=h;exact ⟨p,ra,rb,h1,s _ _ h2,ia h3,ib h4⟩
 | lt _ _ _ ia ib=>intro r h;obtain ⟨p,ra,rb,h1,h2,h3,h4⟩:=h;exact ⟨p,ra,rb,h1,s _ _ h2,ia h3,ib h4⟩
 | wh _ _ _ ia ib ic=>intro r h;obtain ⟨p,ra,rb,rc,h1,h2,h3,h4,h5⟩:=h;exact ⟨p,ra,rb,rc,h1,s _ _ h2,ia h3,ib h4,ic h5⟩
 | pr _ _ ia ib=>intro r h;obtain ⟨p,ra,rb,h1,h2,h3,h4⟩:=h;exact ⟨p,ra,rb,h1,s _ _ h2,ia h3,ib h4⟩
 | opn _ _ _ _ ia ib=>intro r h;obtain ⟨p,ra,rb,h1,h2,h3,h4⟩:=h;exact ⟨p,ra,rb,h1,s _ _ h2,ia h3,ib h4⟩
 | lk _ _ ia ib=>intro r h;obtain ⟨p,ra,rb,h1,h2,h3,h4⟩:=h;exact ⟨p,ra,rb,h1,s _ _ h2,ia h3,ib h4⟩
 | spl _ _ _ _ _ ia ib ic=>intro r h;obtain ⟨p,ra,rb,rc,h1,h2,h3,h4,h5⟩:=h;exact ⟨p,ra,rb,rc,h1,s _ _ h2,ia h3,ib h4,ic h5⟩
 | op _ _ _ ia ib=>intro r h;obtain ⟨p,ra,rb,h1,h2,h3,h4⟩:=h;exact ⟨p,ra,rb,h1,s _ _ h2,ia h3,ib h4⟩
section
variable {X:Cx}{a:Expr}{pos:Pos}{ta:TE}
theorem LZ {op:UnaryOp}{r:V->Hp->VK->Prop}(ho:nh X (unaryOp op) r)(ha:SE X a ta):SE X (.UnaryOp op a pos) (pY r ta):=⟨gM ho ha.out⟩
end
end L2
namespace KX
open PySem
abbrev Su:=Str->Option Ex
noncomputable def Su.rm (σ:Su)(x:Str):Su:=λy=>if y=x then none else σ y
noncomputable def Su.one (x:Str)(v:Ex):Su:=λy=>if y=x then some v else none
noncomputable def Su.or (σ τ:Su):Su:=λy=>match σ y with | some v=>some v | none=>τ y
namespace Ex
noncomputable def sub:Su->Ex->Ex
 | σ,nm x=>(σ x).getD (nm x)
 | _,num i=>num i | _,tru b=>tru b | _,emp=>emp
 | σ,fn x b=>fn x (sub (σ.rm x) b) | σ,rc f x b=>rc f x (sub ((σ.rm f).rm x) b) | σ,cal a b=>cal (sub σ a) (sub σ b) | σ,lt x a b=>lt x (sub σ a) (sub (σ.rm x) b)
 | σ,wh a b c=>wh (sub σ a) (sub σ b) (sub σ c) | σ,pr a b=>pr (sub σ a) (sub σ b) | σ,opn a x y b=>opn (sub σ a) x y (sub ((σ.rm x).rm y) b) | σ,lk a b=>lk (sub σ a) (sub σ b)
 | σ,spl a b x y c=>spl (sub σ a) (sub σ b) x y (sub ((σ.rm x).rm y) c) | σ,op o a b=>op o (sub σ a) (sub σ b)
noncomputable def isV:Ex->Bool
 | num _ | tru _ | emp | fn _ _ | rc _ _ _=>true
 | pr a b | lk a b=>isV a && isV b
 | _=>false
end Ex
open Ex
theorem K8 (σ τ:Su)(x:Str):(σ.or τ).rm x=(σ.rm x).or (τ.rm x):=by
 funext y
 simp only [Su.or,Su.rm]
 by_cases h:y=x <;> simp [h]
theorem DF {σ:Su}{xs:List Str}(x:Str)(h:∀ y∈xs,σ y=none):∀ y∈x::xs,σ.rm x y=none:=by
 intro y hy
 simp only [Su.rm]
 by_cases e:y=x
 ·simp [e]
 ·simp only [e,if_false]
  exact h y ((List.mem_cons.mp hy).resolve_left e)
theorem Xb {e:Ex}:∀ {xs:List Str} {σ:Su},e.cl xs->(∀ x∈xs,σ x=none)->sub σ e=e:=by
 induction e with
 | nm x=>intro xs σ h q;simp [sub,q x h]
 | num _ | tru _ | emp=>intros;rfl
 | fn x b ih=>intro xs σ h q;simp only [sub];rw [ih h (DF x q)]
 | rc f x b ih=>intro xs σ h q;simp only [sub];rw [ih h (DF x (DF f q))]
 | cal a b ia ib | pr a b ia ib | lk a b ia ib=>intro xs σ h q;simp only [sub];rw [ia h.1 q,ib h.2 q]
 | op o a b ia ib=>intro xs σ h q;simp only [sub];rw [ia h.1 q,ib h.2 q]
 | lt x a b ia ib=>intro xs σ h q;simp only [sub];rw [ia h.1 q,ib h.2 (DF x q)]
 | wh a b c ia ib ic=>intro xs σ h q;simp only [sub];rw [ia h.1 q,ib h.2.1 q,ic h.2.2 q]
 | opn a x y b ia ib=>intro xs σ h q;simp only [sub];rw [ia h.1 q,ib h.2 (DF y (DF x q))]
 | spl a b x y c ia ib ic=>intro xs σ h q;simp only [sub];rw [ia h.1 q,ib h.2.1 q,ic h.2.2 (DF y (DF x q))]
theorem N8 {v:Ex}(h:v.cl [])(σ:Su):sub σ v=v:=Xb h λ_ z=>by cases z
noncomputable def Su.Cl (σ:Su):Prop:=∀ x v,σ x=some v->v.cl []
theorem Su.Cl.rm {σ:Su}(h:σ.Cl)(x:Str):(σ.rm x).Cl:=by
 intro y v e
 simp only [Su.rm] at e
 by_cases q:y=x
 ·simp [q] at e
 ·simp only [q,if_false] at e;exact h y v e
theorem sub_sub {e:Ex}:∀ {σ τ:Su},σ.Cl->sub τ (sub σ e)=sub (σ.or τ) e:=by
 induction e with
 | nm x =>
  intro σ τ h
  simp only [sub,Su.or]
  cases q:σ x with
  | none=>simp [sub]
  | some v=>simp only [Option.getD_some];exact N8 (h x v q) τ
 | num _ | tru _ | emp=>intros;rfl
 | fn x b ih=>intro σ τ h;simp only [sub,K8];rw [ih (h.rm x)]
 | rc f x b ih=>intro σ τ h;simp only [sub,K8];rw [ih ((h.rm f).rm x)]
 | cal a b ia ib | pr a b ia ib | lk a b ia ib=>intro σ τ h;simp only [sub];rw [ia h,ib h]
 | op o a b ia ib=>intro σ τ h;simp only [sub];rw [ia h,ib h]
 | lt x a b ia ib=>intro σ τ h;simp only [sub,K8];rw [ia h,ib (h.rm x)]
 | wh a b c ia ib ic=>intro σ τ h;simp only [sub];rw [ia h,ib h,ic h]
 | opn a x y b ia ib=>intro σ τ h;simp only [sub,K8];rw [ia h,ib ((h.rm x).rm y)]
 | spl a b x y c ia ib ic=>intro σ τ h;simp only [sub,K8];rw [ia h,ib h,ic ((h.rm x).rm y)]
theorem L' {e:Ex}:∀ {xs ys:List Str} {σ:Su},σ.Cl->(∀ x∈xs,(σ x).isSome\/x∈ys)->e.cl xs->(sub σ e).cl ys:=by
 have c1:∀ {xs ys:List Str} {σ:Su} (z:Str),(∀ x∈xs,(σ x).isSome\/x∈ys)->∀ x∈z::xs,((σ.rm z) x).isSome\/x∈z::ys:=by
  intro xs ys σ z h x hx
  by_cases e:x=z
  ·exact .inr (e▸List.mem_cons_self ..)
  ·rcases h x ((List.mem_cons.mp hx).resolve_left e) with a | a
   ·refine .inl ?_;simp only [Su.rm,e,if_false];exact a
   ·exact .inr (List.mem_cons_of_mem _ a)
 induction e with
 | nm x =>
  intro xs ys σ h q c
  simp only [sub]
  cases e:σ x with
  | none =>
   rcases q x c with a | a
   ·simp [e] at a
   ·exact a
  | some v=>simp only [Option.getD_some];exact cl.mono (λ_ z=>by cases z) (h x v e)
 | num _ | tru _ | emp=>intros;trivial
 | fn x b ih=>intro xs ys σ h q c;exact ih (h.rm x) (c1 x q) c
 | rc f x b ih=>intro xs ys σ h q c;exact ih ((h.rm f).rm x) (c1 x (c1 f q)) c
 | cal a b ia ib | pr a b ia ib | lk a b ia ib=>intro xs ys σ h q c;exact ⟨ia h q c.1,ib h q c.2⟩
 | op o a b ia ib=>intro xs ys σ h q c;exact ⟨ia h q c.1,ib h q c.2⟩
 | lt x a b ia ib=>intro xs ys σ h q c;exact ⟨ia h q c.1,ib (h.rm x) (c1 x q) c.2⟩
 | wh a b c ia ib ic=>intro xs ys σ h q c;exact ⟨ia h q c.1,ib h q c.2.1,ic h q c.2.2⟩
 | opn a x y b ia ib=>intro xs ys σ h q c;exact ⟨ia h q c.1,ib ((h.rm x).rm y) (c1 y (c1 x q)) c.2⟩
 | spl a b x y c ia ib ic=>intro xs ys σ h q c;exact ⟨ia h q c.1,ib h q c.2.1,ic ((h.rm x).rm y) (c1 y (c1 x q)) c.2.2⟩
theorem T4 {e:Ex}:∀ {σ:Su},(∀ x v,σ x=some v->v.opk)->e.opk->(sub σ e).opk:=by
 have r1:∀ {σ:Su} (z:Str),(∀ x v,σ x=some v->v.opk)->∀ x v,σ.rm z x=some v->v.opk:=by
  intro σ z h x v e
  simp only [Su.rm] at e
  by_cases q:x=z
  ·simp [q] at e
  ·simp only [q,if_false] at e;exact h x v e
 induction e with
 | nm x=>intro σ h c;simp only [sub];cases e:σ x with
  | none=>trivial
  | some v=>exact h x v e
 | num _ | tru _ | emp=>intros;trivial
 | fn x b ih=>intro σ h c;exact ih (r1 x h) c
 | rc f x b ih=>intro σ h c;exact ih (r1 x (r1 f h)) c
 | cal a b ia ib | pr a b ia ib | lk a b ia ib=>intro σ h c;exact ⟨ia h c.1,ib h c.2⟩
 | op o a b ia ib=>intro σ h c;exact ⟨c.1,ia h c.2.1,ib h c.2.2⟩
 | lt x a b ia ib=>intro σ h c;exact ⟨ia h c.1,ib (r1 x h) c.2⟩
 | wh a b c ia ib ic=>intro σ h c;exact ⟨ia h c.1,ib h c.2.1,ic h c.2.2⟩
 | opn a x y b ia ib=>intro σ h c;exact ⟨ia h c.1,ib (r1 y (r1 x h)) c.2⟩
 | spl a b x y c ia ib ic=>intro σ h c;exact ⟨ia h c.1,ib h c.2.1,ic (r1 y (r1 x h)) c.2.2⟩
noncomputable def give (x:Str)(v e:Ex):Ex:=sub (Su.one x v) e
noncomputable def Dj (x y:Str)(v w e:Ex):Ex:=give x v (give y w e)
noncomputable def Xc (o:Str)(i j:Int):Ex :=
 if o="plus" then .num (i+j) else if o="minus" then .num (i - j) else if o="less" then .tru (decide (i < j)) else .tru (decide (i=j))
noncomputable def red:Ex->Option (Ex × Bool)
 | cal (fn x b) v=>some (give x v b,true)
 | cal (rc f x b) v=>some (Dj f x (rc f x b) v b,true)
 | lt x v b=>some (give x v b,false)
 | wh (tru c) a b=>some (if c then a else b,false)
 | opn (pr v w) x y b=>some (Dj x y v w b,false)
 | spl emp a _ _ _=>some (a,false)
 | spl (lk v w) _ x y c=>some (Dj x y v w c,false)
 | op o (num i) (num j)=>some (Xc o i j,false)
 | _=>none
noncomputable def Lc (C:Ex->Ex):Option (Ex × Bool)->Option (Ex × Bool)
 | some (e,b)=>some (C e,b)
 | none=>none
noncomputable def Cy:Ex->Option (Ex × Bool)
 | cal a b=>if isV a then (if isV b then red (cal a b) else Lc (cal a) (Cy b)) else Lc (λz=>cal z b) (Cy a)
 | pr a b=>if isV a then (if isV b then none else Lc (pr a) (Cy b)) else Lc (λz=>pr z b) (Cy a)
 | lk a b=>if isV a then (if isV b then none else Lc (lk a) (Cy b)) else Lc (λz=>lk z b) (Cy a)
 | op o a b=>if isV a then (if isV b then red (op o a b) else Lc (op o a) (Cy b)) else Lc (λz=>op o z b) (Cy a)
 | lt x a b=>if isV a then red (lt x a b) else Lc (λz=>lt x z b) (Cy a)
 | wh a b c=>if isV a then red (wh a b c) else Lc (λz=>wh z b c) (Cy a)
 | opn a x y b=>if isV a then red (opn a x y b) else Lc (λz=>opn z x y b) (Cy a)
 | spl a b x y c=>if isV a then red (spl a b x y c) else Lc (λz=>spl z b x y c) (Cy a)
 | _=>none
abbrev Dn:=Str->Nat
noncomputable def Dn.up (ρ:Dn)(x:Str)(n:Nat):Dn:=λy=>if y=x then n else ρ y
noncomputable def dz:Dn:=λ_=>0
noncomputable def dep:Dn->Ex->Nat
 | ρ,nm x=>ρ x
 | _,num _ | _,tru _ | _,emp=>0
 | ρ,fn x b=>1+dep (ρ.up x 0) b | ρ,rc f x b=>1+dep ((ρ.up f 0).up x 0) b | ρ,cal a b=>1+max (dep ρ a) (dep ρ b) | ρ,lt x a b=>1+max (dep ρ a) (dep (ρ.up x (dep ρ a)) b)
 | ρ,wh a b c=>1+max (dep ρ a) (max (dep ρ b) (dep ρ c)) | ρ,pr a b=>1+max (dep ρ a) (dep ρ b) | ρ,opn a x y b=>1+max (dep ρ a) (dep ((ρ.up x (dep ρ a)).up y (dep ρ a)) b) | ρ,lk a b=>1+max (dep ρ a) (dep ρ b)
 | ρ,spl a b x y c=>1+max (dep ρ a) (max (dep ρ b) (dep ((ρ.up x (dep ρ a)).up y (dep ρ a)) c)) | ρ,op o a b=>1+max (dep ρ a) (dep ρ b)
theorem CC {ρ ρ':Dn}{d n n':Nat}(x:Str)(h:∀ y,ρ' y<=ρ y+d)(hn:n'<=n+d):∀ y,ρ'.up x n' y<=ρ.up x n y+d:=by
 intro y
 simp only [Dn.up]
 by_cases e:y=x
 ·simp only [e,if_true];exact hn
 ·simp only [e,if_false];exact h y
theorem m1 {x x' d:Nat}(h:x'<=x+d):1+x'<=1+x+d:=by omega
theorem m2 {x x' y y' d:Nat}(h1:x'<=x+d)(h2:y'<=y+d):1+max x' y'<=1+max x y+d:=by omega
theorem m3 {x x' y y' z z' d:Nat}(h1:x'<=x+d)(h2:y'<=y+d)(h3:z'<=z+d):1+max x' (max y' z')<=1+max x (max y z)+d:=by omega
theorem m4 {a b n m d:Nat}(h1:a<=n+d)(h2:b<=m+(n+d)):1+max a b<=1+n+m+d:=by omega
theorem m5 {a b c n m l d:Nat}(h1:a<=n+d)(h2:b<=m+d)(h3:c<=l+(n+d)):1+max a (max b c)<=1+max m (n+l)+d:=by omega
theorem l1 {a m:Nat}(h:1+a<=m):a<=m:=by omega
theorem l2 {a b m:Nat}(h:1+max a b<=m):a<=m/\b<=m:=by omega
theorem l3 {a b c m:Nat}(h:1+max a (max b c)<=m):a<=m/\b<=m/\c<=m:=by omega
theorem EL {e:Ex}:∀ {ρ ρ':Dn} {d:Nat},(∀ y,ρ' y<=ρ y+d)->dep ρ' e<=dep ρ e+d:=by
 induction e with
 | nm x=>intro ρ ρ' d h;exact h x
 | num _ | tru _ | emp=>intros;exact Nat.zero_le _
 | fn x b ih=>intro ρ ρ' d h;exact m1 (ih (CC (n:=0) (n':=0) x h (Nat.zero_le _)))
 | rc f x b ih=>intro ρ ρ' d h;exact m1 (ih (CC (n:=0) (n':=0) x (CC (n:=0) (n':=0) f h (Nat.zero_le _)) (Nat.zero_le _)))
 | cal a b ia ib | pr a b ia ib | lk a b ia ib=>intro ρ ρ' d h;exact m2 (ia h) (ib h)
 | op o a b ia ib=>intro ρ ρ' d h;exact m2 (ia h) (ib h)
 | lt x a b ia ib=>intro ρ ρ' d h;exact m2 (ia h) (ib (CC x h (ia h)))
 | wh a b c ia ib ic=>intro ρ ρ' d h;exact m3 (ia h) (ib h) (ic h)
 | opn a x y b ia ib=>intro ρ ρ' d h;exact m2 (ia h) (ib (CC y (CC x h (ia h)) (ia h)))
 | spl a b x y c ia ib ic=>intro ρ ρ' d h;exact m3 (ia h) (ib h) (ic (CC y (CC x h (ia h)) (ia h)))
theorem DW {e:Ex}{ρ ρ':Dn}(h:∀ y,ρ' y<=ρ y):dep ρ' e<=dep ρ e:=EL (d:=0) h
theorem up_eq {ρ ρ':Dn}{xs:List Str}{n:Nat}(x:Str)(h:∀ y∈xs,ρ y=ρ' y):∀ y∈x::xs,ρ.up x n y=ρ'.up x n y:=by
 intro y hy
 simp only [Dn.up]
 by_cases e:y=x
 ·simp [e]
 ·simp only [e,if_false];exact h y ((List.mem_cons.mp hy).resolve_left e)
theorem Xd {e:Ex}:∀ {xs:List Str} {ρ ρ':Dn},e.cl xs->(∀ y∈xs,ρ y=ρ' y)->dep ρ e=dep ρ' e:=by
 induction e with
 | nm x=>intro xs ρ ρ' c h;exact h x c
 | num _ | tru _ | emp=>intros;rfl
 | fn x b ih=>intro xs ρ ρ' c h;simp only [dep];rw [ih c (up_eq x h)]
 | rc f x b ih=>intro xs ρ ρ' c h;simp only [dep];rw [ih c (up_eq x (up_eq f h))]
 | cal a b ia ib | pr a b ia ib | lk a b ia ib=>intro xs ρ ρ' c h;simp only [dep];rw [ia c.1 h,ib c.2 h]
 | op o a b ia ib=>intro xs ρ ρ' c h;simp only [dep];rw [ia c.1 h,ib c.2 h]
 | lt x a b ia ib=>intro xs ρ ρ' c h;simp only [dep];rw [ia c.1 h,ib c.2 (up_eq x h)]
 | wh a b c ia ib ic=>intro xs ρ ρ' c h;simp only [dep];rw [ia c.1 h,ib c.2.1 h,ic c.2.2 h]
 | opn a x y b ia ib=>intro xs ρ ρ' c h;simp only [dep];rw [ia c.1 h,ib c.2 (up_eq y (up_eq x h))]
 | spl a b x y c ia ib ic=>intro xs ρ ρ' c h;simp only [dep];rw [ia c.1 h,ib c.2.1 h,ic c.2.2 (up_eq y (up_eq x h))]
theorem N9 {e:Ex}(h:e.cl [])(ρ:Dn):dep ρ e=dep dz e:=Xd h λ_ z=>by cases z
noncomputable def Su.dn (σ:Su)(ρ:Dn):Dn:=λy=>match σ y with | some v=>dep dz v | none=>ρ y
theorem Gn (σ:Su)(ρ:Dn)(x:Str)(n:Nat):(σ.rm x).dn (ρ.up x n)=(σ.dn ρ).up x n:=by
 funext y
 simp only [Su.dn,Su.rm,Dn.up]
 by_cases e:y=x <;> simp [e]
theorem Jc {e:Ex}:∀ {σ:Su} {ρ:Dn},σ.Cl->dep ρ (sub σ e)=dep (σ.dn ρ) e:=by
 induction e with
 | nm x =>
  intro σ ρ h
  simp only [sub,dep,Su.dn]
  cases q:σ x with
  | none=>simp [dep]
  | some v=>simp only [Option.getD_some];exact N9 (h x v q) ρ
 | num _ | tru _ | emp=>intros;rfl
 | fn x b ih=>intro σ ρ h;simp only [sub,dep];rw [ih (h.rm x),Gn]
 | rc f x b ih=>intro σ ρ h;simp only [sub,dep];rw [ih ((h.rm f).rm x),Gn,Gn]
 | cal a b ia ib | pr a b ia ib | lk a b ia ib=>intro σ ρ h;simp only [sub,dep];rw [ia h,ib h]
 | op o a b ia ib=>intro σ ρ h;simp only [sub,dep];rw [ia h,ib h]
 | lt x a b ia ib=>intro σ ρ h;simp only [sub,dep];rw [ia h,ib (h.rm x),Gn]
 | wh a b c ia ib ic=>intro σ ρ h;simp only [sub,dep];rw [ia h,ib h,ic h]
 | opn a x y b ia ib=>intro σ ρ h;simp only [sub,dep];rw [ia h,ib ((h.rm x).rm y),Gn,Gn]
 | spl a b x y c ia ib ic=>intro σ ρ h;simp only [sub,dep];rw [ia h,ib h,ic ((h.rm x).rm y),Gn,Gn]
inductive Kb (k:Nat):Ex->Nat->Prop
 | nm (x:Str):Kb k (.nm x) 0
 | num (i:Int):Kb k (.num i) 0
 | tru (b:Bool):Kb k (.tru b) 0
 | emp:Kb k .emp 0
 | fn {x:Str} {b:Ex} {n:Nat}:Kb k b n->n<=k->Kb k (.fn x b) (1+n)
 | rc {f x:Str} {b:Ex} {n:Nat}:Kb k b n->n<=k->Kb k (.rc f x b) (1+n)
 | cal {a b:Ex} {n m:Nat}:Kb k a n->Kb k b m->Kb k (.cal a b) (1+max n m)
 | lt {x:Str} {a b:Ex} {n m:Nat}:Kb k a n->Kb k b m->Kb k (.lt x a b) (1+n+m)
 | wh {a b c:Ex} {n m l:Nat}:Kb k a n->Kb k b m->Kb k c l->Kb k (.wh a b c) (1+max n (max m l))
 | pr {a b:Ex} {n m:Nat}:Kb k a n->Kb k b m->Kb k (.pr a b) (1+max n m)
 | opn {x y:Str} {a b:Ex} {n m:Nat}:Kb k a n->Kb k b m->Kb k (.opn a x y b) (1+n+m)
 | lk {a b:Ex} {n m:Nat}:Kb k a n->Kb k b m->Kb k (.lk a b) (1+max n m)
 | spl {x y:Str} {a b c:Ex} {n m l:Nat}:Kb k a n->Kb k b m->Kb k c l->Kb k (.spl a b x y c) (1+max m (n+l))
 | op {o:Str} {a b:Ex} {n m:Nat}:Kb k a n->Kb k b m->Kb k (.op o a b) (1+max n m)
 | zero {v:Ex} {n:Nat}:v.cl []->isV v=true->Kb k v n->Kb k v 0
theorem D0 {ρ:Dn}{m n:Nat}(x:Str)(h:∀ y,ρ y<=m)(hn:n<=m):∀ y,ρ.up x n y<=m:=by
 intro y
 simp only [Dn.up]
 by_cases e:y=x
 ·simp only [e,if_true];exact hn
 ·simp only [e,if_false];exact h y
theorem Ir (x:Str):dz.up x 0=dz:=by funext y;simp [Dn.up,dz]
theorem Na (ρ:Dn):∀ y,dz y<=ρ y:=λ_=>Nat.zero_le _
theorem Qy {b:Ex}{ρ:Dn}{m:Nat}(h:KX.dep ρ b<=m):KX.dep dz b<=m:=Nat.le_trans (DW (Na _)) h
theorem Kb.dep {k:Nat}{e:Ex}{n:Nat}(K:Kb k e n):∀ {ρ:Dn} {m:Nat},(∀ y,ρ y<=m)->dep dz e<=m->KX.dep ρ e<=n+m:=by
 have up:∀ {ρ:Dn} {m:Nat} (n:Nat),(∀ y,ρ y<=m)->∀ y,ρ y<=n+m:=λn h y=>Nat.le_trans (h y) (Nat.le_add_left _ _)
 have qT:∀ {a m:Nat} (n:Nat),a<=m->a<=n+m:=λn h=>Nat.le_trans h (Nat.le_add_left _ _)
 induction K with
 | nm x=>intro ρ m h _;exact Nat.le_trans (h x) (Nat.le_add_left _ _)
 | num _ | tru _ | emp=>intros;simp only [KX.dep];exact Nat.zero_le _
 | @fn x _ _ _ _ ih=>intro ρ m h q;simp only [KX.dep,Ir] at q ⊢;exact m1 (ih (D0 x h (Nat.zero_le m)) (l1 q))
 | @rc f x _ _ _ _ ih=>intro ρ m h q;simp only [KX.dep,Ir] at q ⊢;exact m1 (ih (D0 x (D0 f h (Nat.zero_le m)) (Nat.zero_le m)) (l1 q))
 | cal _ _ ia ib | pr _ _ ia ib | lk _ _ ia ib | op _ _ ia ib=>intro ρ m h q;simp only [KX.dep] at q ⊢;exact m2 (ia h (l2 q).1) (ib h (l2 q).2)
 | @lt x a b n m' _ _ ia ib =>
  intro ρ m h q
  simp only [KX.dep] at q ⊢
  have h1:=ia h (l2 q).1
  exact m4 h1 (ib (ρ:=ρ.up x (KX.dep ρ a)) (m:=n+m) (D0 _ (up n h) h1) (qT n (Qy (l2 q).2)))
 | wh _ _ _ ia ib ic=>intro ρ m h q;simp only [KX.dep] at q ⊢;exact m3 (ia h (l3 q).1) (ib h (l3 q).2.1) (ic h (l3 q).2.2)
 | @opn x y a b n m' _ _ ia ib =>
  intro ρ m h q
  simp only [KX.dep] at q ⊢
  have h1:=ia h (l2 q).1
  exact m4 h1 (ib (ρ:=(ρ.up x (KX.dep ρ a)).up y (KX.dep ρ a)) (m:=n+m) (D0 _ (D0 _ (up n h) h1) h1) (qT n (Qy (l2 q).2)))
 | @spl x y a b c n m' l _ _ _ ia ib ic =>
  intro ρ m h q
  simp only [KX.dep] at q ⊢
  have h1:=ia h (l3 q).1
  exact m5 h1 (ib h (l3 q).2.1) (ic (ρ:=(ρ.up x (KX.dep ρ a)).up y (KX.dep ρ a)) (m:=n+m) (D0 _ (D0 _ (up n h) h1) h1) (qT n (Qy (l3 q).2.2)))
 | zero hc _ _ _=>intro ρ m h q;rw [N9 hc];exact Nat.le_trans q (Nat.le_add_left _ _)
noncomputable def Xe (k:Nat)(v:Ex):Prop:=v.cl []/\isV v=true/\∃ n,Kb k v n
noncomputable def Su.Ok (k:Nat)(σ:Su):Prop:=∀ x v,σ x=some v->Xe k v
theorem Su.Ok.rm {k:Nat}{σ:Su}(h:σ.Ok k)(x:Str):(σ.rm x).Ok k:=by
 intro y v e
 simp only [Su.rm] at e
 by_cases q:y=x
 ·simp [q] at e
 ·simp only [q,if_false] at e;exact h y v e
theorem Su.Ok.cl {k:Nat}{σ:Su}(h:σ.Ok k):σ.Cl:=λx v e=>(h x v e).1
theorem Kb.sub {k:Nat}{e:Ex}{n:Nat}(K:Kb k e n):∀ {σ:Su},σ.Ok k->Kb k (sub σ e) n:=by
 induction K with
 | nm x =>
  intro σ h
  simp only [Ex.sub]
  cases q:σ x with
  | none=>exact .nm x
  | some v=>obtain ⟨a,b,n,c⟩:=h x v q;exact .zero a b c
 | num _=>intros;exact .num _
 | tru _=>intros;exact .tru _
 | emp=>intros;exact .emp
 | fn _ hk ih=>intro σ h;exact .fn (ih (h.rm _)) hk
 | rc _ hk ih=>intro σ h;exact .rc (ih ((h.rm _).rm _)) hk
 | cal _ _ ia ib=>intro σ h;exact .cal (ia h) (ib h)
 | pr _ _ ia ib=>intro σ h;exact .pr (ia h) (ib h)
 | lk _ _ ia ib=>intro σ h;exact .lk (ia h) (ib h)
 | op _ _ ia ib=>intro σ h;exact .op (ia h) (ib h)
 | lt _ _ ia ib=>intro σ h;exact .lt (ia h) (ib (h.rm _))
 | wh _ _ _ ia ib ic=>intro σ h;exact .wh (ia h) (ib h) (ic h)
 | opn _ _ ia ib=>intro σ h;exact .opn (ia h) (ib ((h.rm _).rm _))
 | spl _ _ _ ia ib ic=>intro σ h;exact .spl (ia h) (ib h) (ic ((h.rm _).rm _))
 | zero hc hv K _=>intro σ h;rw [N8 hc];exact .zero hc hv K
noncomputable def Ex.kds:Ex->List Ex
 | cal a b | pr a b | lk a b | op _ a b | lt _ a b | opn a _ _ b=>[a,b]
 | wh a b c | spl a b _ _ c=>[a,b,c]
 | _=>[]
theorem Kb.kds {k:Nat}{e:Ex}{n:Nat}(K:Kb k e n):∀ a∈e.kds,∃ n,Kb k a n:=by
 have n2:∀ {a b:Ex} {n m:Nat},Kb k a n->Kb k b m->∀ x∈[a,b],∃ n,Kb k x n:=λ{a b n m} h1 h2 x hx=>by
  rcases List.mem_cons.mp hx with rfl | hx
  ·exact ⟨n,h1⟩
  ·rw [List.mem_singleton.mp hx];exact ⟨m,h2⟩
 have n3:∀ {a b c:Ex} {n m l:Nat},Kb k a n->Kb k b m->Kb k c l->∀ x∈[a,b,c],∃ n,Kb k x n:=λ{a b c n m l} h1 h2 h3 x hx=>by
  rcases List.mem_cons.mp hx with rfl | hx
  ·exact ⟨n,h1⟩
  ·exact n2 h2 h3 x hx
 have n0:∀ x∈([]:List Ex),∃ n,Kb k x n:=λx hx=>by cases hx
 induction K with
 | zero _ _ _ ih=>exact ih
 | cal h1 h2=>exact n2 h1 h2
 | pr h1 h2=>exact n2 h1 h2
 | lk h1 h2=>exact n2 h1 h2
 | op h1 h2=>exact n2 h1 h2
 | lt h1 h2=>exact n2 h1 h2
 | opn h1 h2=>exact n2 h1 h2
 | wh h1 h2 h3=>exact n3 h1 h2 h3
 | spl h1 h2 h3=>exact n3 h1 h2 h3
 | nm _=>exact n0
 | num _=>exact n0
 | tru _=>exact n0
 | emp=>exact n0
 | fn _ _=>exact n0
 | rc _ _=>exact n0
theorem Kb.two {k:Nat}{a b e:Ex}{n:Nat}(K:Kb k e n)(h:e.kds=[a,b]):(∃ n,Kb k a n)/\∃ n,Kb k b n:=⟨K.kds a (h▸.head _),K.kds b (h▸.tail _ (.head _))⟩
theorem Kb.three {k:Nat}{a b c e:Ex}{n:Nat}(K:Kb k e n)(h:e.kds=[a,b,c]):(∃ n,Kb k a n)/\(∃ n,Kb k b n)/\∃ n,Kb k c n:=⟨K.kds a (h▸.head _),K.kds b (h▸.tail _ (.head _)),K.kds c (h▸.tail _ (.tail _ (.head _)))⟩
theorem Kb.body {k:Nat}{b e:Ex}{n:Nat}(K:Kb k e n):((∃ x,e=.fn x b)\/D1 λf x=>e=.rc f x b)->∃ n,n<=k/\Kb k b n:=by
 induction K with
 | zero _ _ _ ih=>exact ih
 | fn h1 hk=>rintro (⟨_,h⟩ | ⟨_,_,h⟩) <;> cases h <;> exact ⟨_,hk,h1⟩
 | rc h1 hk=>rintro (⟨_,h⟩ | ⟨_,_,h⟩) <;> cases h <;> exact ⟨_,hk,h1⟩
 | _=>rintro (⟨_,h⟩ | ⟨_,_,h⟩) <;> cases h
structure Tr (k:Nat)(e:Ex):Prop where
 cl:e.cl []
 op:e.opk
 kb:∃ n,Kb k e n
theorem M0 {k:Nat}{v:Ex}(x:Str)(h:Xe k v):(Su.one x v).Ok k:=by
 intro y w e
 simp only [Su.one] at e
 by_cases q:y=x
 ·simp only [q,if_true,Option.some.injEq] at e;exact e▸h
 ·simp [q] at e
theorem Vj {k:Nat}{σ τ:Su}(h:σ.Ok k)(g:τ.Ok k):(σ.or τ).Ok k:=by
 intro y w e
 simp only [Su.or] at e
 cases q:σ y with
 | none=>rw [q] at e;exact g y w e
 | some v=>rw [q] at e;simp only [Option.some.injEq] at e;exact h y w (by rw [q,e])
theorem Jd (x:Str)(v:Ex)(ρ:Dn):(Su.one x v).dn ρ=ρ.up x (dep dz v):=by
 funext y
 simp only [Su.dn,Su.one,Dn.up]
 by_cases e:y=x <;> simp [e]
theorem iy (σ τ:Su)(ρ:Dn):(σ.or τ).dn ρ=σ.dn (τ.dn ρ):=by
 funext y
 simp only [Su.dn,Su.or]
 cases σ y <;> rfl
theorem Hj {x y:Str}{v w e:Ex}(h:w.cl []):Dj x y v w e=sub ((Su.one y w).or (Su.one x v)) e:=by
 unfold Dj give
 refine sub_sub λz u e=>?_
 simp only [Su.one] at e
 by_cases q:z=y
 ·simp only [q,if_true,Option.some.injEq] at e;exact e▸h
 ·simp [q] at e
theorem Qz {k:Nat}{σ:Su}{e:Ex}{xs:List Str}(h:σ.Ok k)(ho:∀ x v,σ x=some v->v.opk)(hx:∀ x∈xs,(σ x).isSome)(c:e.cl xs)(o:e.opk)(K:∃ n,Kb k e n):Tr k (sub σ e) :=
 ⟨L' h.cl (λx QA=>.inl (hx x QA)) c,T4 ho o,K.elim λn K=>⟨n,K.sub h⟩⟩
theorem M3 {v:Ex}(x:Str)(h:v.opk):∀ y w,Su.one x v y=some w->w.opk:=by
 intro y w e
 simp only [Su.one] at e
 by_cases q:y=x
 ·simp only [q,if_true,Option.some.injEq] at e;exact e▸h
 ·simp [q] at e
theorem iz {σ τ:Su}(h:∀ x v,σ x=some v->v.opk)(g:∀ x v,τ x=some v->v.opk):∀ x v,σ.or τ x=some v->v.opk:=by
 intro y w e
 simp only [Su.or] at e
 cases q:σ y with
 | none=>rw [q] at e;exact g y w e
 | some v=>rw [q] at e;simp only [Option.some.injEq] at e;exact h y w (by rw [q,e])
theorem Hk (x:Str)(v:Ex):(Su.one x v x).isSome:=by simp [Su.one]
theorem qU {σ τ:Su}{x:Str}(h:(σ x).isSome):(σ.or τ x).isSome:=by
 simp only [Su.or]
 cases q:σ x with
 | none=>simp [q] at h
 | some v=>rfl
theorem qV {σ τ:Su}{x:Str}(h:(τ x).isSome):(σ.or τ x).isSome:=by
 simp only [Su.or]
 cases q:σ x with
 | none=>exact h
 | some v=>rfl
theorem Xe.of {k:Nat}{v:Ex}(T:Tr k v)(h:isV v=true):Xe k v:=⟨T.cl,h,T.kb⟩
theorem Nb {k:Nat}{x:Str}{v b:Ex}(T:Tr k v)(hv:isV v=true)(c:b.cl [x])(o:b.opk)(K:∃ n,Kb k b n):Tr k (give x v b)/\dep dz (give x v b)=dep (dz.up x (dep dz v)) b:=by
 have h:=M0 x (Xe.of T hv)
 refine ⟨Qz h (M3 x T.op) (λy hy=>?_) c o K,?_⟩
 ·rw [List.mem_singleton.mp hy];exact Hk x v
 ·unfold give;rw [Jc h.cl,Jd]
theorem Hl {k:Nat}{x y:Str}{v w b:Ex}(T:Tr k v)(hv:isV v=true)(U:Tr k w)(hw:isV w=true)(c:b.cl [y,x])(o:b.opk)(K:∃ n,Kb k b n):
  Tr k (Dj x y v w b)/\dep dz (Dj x y v w b)=dep ((dz.up x (dep dz v)).up y (dep dz w)) b:=by
 have h1:=M0 x (Xe.of T hv)
 have h2:=M0 y (Xe.of U hw)
 rw [Hj U.cl]
 refine ⟨Qz (Vj h2 h1) (iz (M3 y U.op) (M3 x T.op)) (λz hz=>?_) c o K,?_⟩
 ·rcases List.mem_cons.mp hz with rfl | hz
  ·exact qU (Hk _ w)
  ·rw [List.mem_singleton.mp hz];exact qV (Hk x v)
 ·rw [Jc (Vj h2 h1).cl,iy,Jd,Jd]
noncomputable def grow (k:Nat)(c:Bool):Nat:=if c then k else 0
inductive Je:Ex->Ex->Bool->Prop
 | fn (x:Str) (b v:Ex):Je (.cal (.fn x b) v) (give x v b) true
 | rc (f x:Str) (b v:Ex):Je (.cal (.rc f x b) v) (Dj f x (.rc f x b) v b) true
 | lt (x:Str) (v b:Ex):Je (.lt x v b) (give x v b) false
 | wh (d:Bool) (a b:Ex):Je (.wh (.tru d) a b) (if d=true then a else b) false
 | opn (v w:Ex) (x y:Str) (b:Ex):Je (.opn (.pr v w) x y b) (Dj x y v w b) false
 | emp (a:Ex) (x y:Str) (b:Ex):Je (.spl .emp a x y b) a false
 | lk (v w a:Ex) (x y:Str) (b:Ex):Je (.spl (.lk v w) a x y b) (Dj x y v w b) false
 | op (o:Str) (i j:Int):Je (.op o (.num i) (.num j)) (Xc o i j) false
theorem Nc {e e':Ex}{c:Bool}(h:red e=some (e',c)):Je e e' c:=by
 cases e with
 | cal a v =>
  cases a with
  | fn x b=>cases h;exact .fn x b v
  | rc f x b=>cases h;exact .rc f x b v
  | _=>cases h
 | lt x v b=>cases h;exact .lt x v b
 | wh a b d =>
  cases a with
  | tru t=>cases h;exact .wh t b d
  | _=>cases h
 | opn a x y b =>
  cases a with
  | pr v w=>cases h;exact .opn v w x y b
  | _=>cases h
 | spl a b x y d =>
  cases a with
  | emp=>cases h;exact .emp _ x y d
  | lk v w=>cases h;exact .lk v w b x y d
  | _=>cases h
 | op o a b =>
  cases a with
  | num i =>
   cases b with
   | num j=>cases h;exact .op o i j
   | _=>cases h
  | _=>cases h
 | _=>cases h
theorem G0 {k:Nat}{e e':Ex}{c:Bool}(T:Tr k e)(h:red e=some (e',c))(hr:∀ a b,(e=.cal a b->isV b=true)/\(∀ x,e=.lt x a b->isV a=true)/\(∀ x y,e=.opn a x y b->isV a=true)/\∀ x y d,e=.spl a b x y d->isV a=true):
  Tr k e'/\dep dz e'<=dep dz e+grow k c:=by
 obtain ⟨hc,ho,n,K⟩:=T
 cases Nc h with
 | fn x b v =>
  obtain ⟨⟨n1,K1⟩,K2⟩:=K.two rfl
  obtain ⟨nb,hn,iA⟩:=K1.body (.inl ⟨x,rfl⟩)
  have hv:=(hr _ _).1 rfl
  obtain ⟨t1,t2⟩:=Nb (x:=x) (b:=b) ⟨hc.2,ho.2,K2⟩ hv hc.1 ho.1 ⟨_,iA⟩
  refine ⟨t1,?_⟩
  rw [t2]
  simp only [dep,Ir,grow,if_true]
  have:=iA.dep (ρ:=dz.up x (dep dz v)) (m:=max (1+dep dz b) (dep dz v)) (D0 x (λy=>by simp [dz]) ()) ()
  omega
 | rc f x b v =>
  obtain ⟨K1,K2⟩:=K.two rfl
  obtain ⟨n1,K1'⟩:=id K1
  obtain ⟨nb,hn,iA⟩:=K1'.body (.inr ⟨f,x,rfl⟩)
  have hv:=(hr _ _).1 rfl
  obtain ⟨t1,t2⟩:=Hl (x:=f) (y:=x) (v:=.rc f x b) (w:=v) (b:=b) ⟨hc.1,ho.1,K1⟩ rfl ⟨hc.2,ho.2,K2⟩ hv hc.1 ho.1 ⟨_,iA⟩
  refine ⟨t1,?_⟩
  rw [t2]
  simp only [dep,Ir,grow,if_true]
  have:=iA.dep (ρ:=(dz.up f (1+dep dz b)).up x (dep dz v)) (m:=max (1+dep dz b) (dep dz v)) (D0 x (D0 f (λy=>by simp [dz]) ()) ()) ()
  omega
 | lt x v b =>
  obtain ⟨K1,K2⟩:=K.two rfl
  obtain ⟨t1,t2⟩:=Nb (x:=x) (b:=b) ⟨hc.1,ho.1,K1⟩ ((hr _ _).2.1 _ rfl) hc.2 ho.2 K2
  refine ⟨t1,?_⟩
  rw [t2]
  simp only [dep]
  omega
 | wh d a b =>
  obtain ⟨_,K2,K3⟩:=K.three rfl
  simp only [dep]
  cases d
  ·exact ⟨⟨hc.2.2,ho.2.2,K3⟩,by simp;omega⟩
  ·exact ⟨⟨hc.2.1,ho.2.1,K2⟩,by simp;omega⟩
 | opn v w x y b =>
  obtain ⟨K1,K2⟩:=K.two rfl
  obtain ⟨n1,K1⟩:=K1
  obtain ⟨K3,K4⟩:=K1.two rfl
  have hv:=(hr _ _).2.2.1 _ _ rfl
  simp only [isV,Bool.and_eq_true] at hv
  obtain ⟨t1,t2⟩:=Hl (x:=x) (y:=y) (b:=b) ⟨hc.1.1,ho.1.1,K3⟩ hv.1 ⟨hc.1.2,ho.1.2,K4⟩ hv.2 hc.2 ho.2 K2
  refine ⟨t1,?_⟩
  rw [t2]
  have:dep ((dz.up x (dep dz v)).up y (dep dz w)) b<=dep ((dz.up x (1+max (dep dz v) (dep dz w))).up y (1+max (dep dz v) (dep dz w))) b :=
   EL (d:=0) (CC y (CC x (λ_=>Nat.le_refl _) ()) ())
  simp only [dep]
  omega
 | emp a x y b =>
  obtain ⟨_,K2,_⟩:=K.three rfl
  simp only [dep]
  exact ⟨⟨hc.2.1,ho.2.1,K2⟩,()⟩
 | lk v w a x y b =>
  obtain ⟨K1,_,K2⟩:=K.three rfl
  obtain ⟨n1,K1⟩:=K1
  obtain ⟨K3,K4⟩:=K1.two rfl
  have hv:=(hr _ _).2.2.2 _ _ _ rfl
  simp only [isV,Bool.and_eq_true] at hv
  obtain ⟨t1,t2⟩:=Hl (x:=x) (y:=y) (b:=b) ⟨hc.1.1,ho.1.1,K3⟩ hv.1 ⟨hc.1.2,ho.1.2,K4⟩ hv.2 hc.2.2 ho.2.2 K2
  refine ⟨t1,?_⟩
  rw [t2]
  have:dep ((dz.up x (dep dz v)).up y (dep dz w)) b<=dep ((dz.up x (1+max (dep dz v) (dep dz w))).up y (1+max (dep dz v) (dep dz w))) b :=
   EL (d:=0) (CC y (CC x (λ_=>Nat.le_refl _) ()) ())
  simp only [dep]
  omega
 | op o i j =>
  simp only [Xc]
  split
  ·exact ⟨⟨trivial,trivial,_,.num _⟩,Nat.zero_le _⟩
  ·split
   ·exact ⟨⟨trivial,trivial,_,.num _⟩,Nat.zero_le _⟩
   ·split <;> exact ⟨⟨trivial,trivial,_,.tru _⟩,Nat.zero_le _⟩
theorem Ct {C:Ex->Ex}{o:Option (Ex × Bool)}{e:Ex}{c:Bool}(h:Lc C o=some (e,c)):∃ a,o=some (a,c)/\e=C a:=by
 cases o with
 | none=>cases h
 | some p=>simp only [Lc,Option.some.injEq,Prod.mk.injEq] at h;exact ⟨p.1,by rw [<- h.2],h.1.symm⟩
theorem Xf {k:Nat}{e:Ex}:∀ {e':Ex} {c:Bool},Tr k e->Cy e=some (e',c)->Tr k e'/\dep dz e'<=dep dz e+grow k c:=by
 induction e with
 | nm _ | num _ | tru _ | emp | fn _ _ _ | rc _ _ _ _=>intro e' c _ h;cases h
 | cal a b ia ib =>
  intro e' c T h
  unfold Cy at h
  obtain ⟨hc,ho,n,K⟩:=id T
  obtain ⟨K1,K2⟩:=K.two rfl
  split at h
  ·rename_i hv
   split at h
   ·rename_i hw
    exact G0 T h λa b=>⟨λz=>(by cases z;exact hw),λ_ z=>(by cases z),λ_ _ z=>(by cases z),λ_ _ _ z=>(by cases z)⟩
   ·obtain ⟨b',e1,rfl⟩:=Ct h
    obtain ⟨⟨t1,t2,n2,t3⟩,t4⟩:=ib ⟨hc.2,ho.2,K2⟩ e1
    obtain ⟨n1,K1⟩:=K1
    exact ⟨⟨⟨hc.1,t1⟩,⟨ho.1,t2⟩,_,.cal K1 t3⟩,by simp only [dep];omega⟩
  ·obtain ⟨a',e1,rfl⟩:=Ct h
   obtain ⟨⟨t1,t2,n2,t3⟩,t4⟩:=ia ⟨hc.1,ho.1,K1⟩ e1
   obtain ⟨n1,K2⟩:=K2
   exact ⟨⟨⟨t1,hc.2⟩,⟨t2,ho.2⟩,_,.cal t3 K2⟩,by simp only [dep];omega⟩
 | pr a b ia ib =>
  intro e' c T h
  unfold Cy at h
  obtain ⟨hc,ho,n,K⟩:=id T
  obtain ⟨K1,K2⟩:=K.two rfl
  split at h
  ·split at h
   ·cases h
   ·obtain ⟨b',e1,rfl⟩:=Ct h
    obtain ⟨⟨t1,t2,n2,t3⟩,t4⟩:=ib ⟨hc.2,ho.2,K2⟩ e1
    obtain ⟨n1,K1⟩:=K1
    exact ⟨⟨⟨hc.1,t1⟩,⟨ho.1,t2⟩,_,.pr K1 t3⟩,by simp only [dep];omega⟩
  ·obtain ⟨a',e1,rfl⟩:=Ct h
   obtain ⟨⟨t1,t2,n2,t3⟩,t4⟩:=ia ⟨hc.1,ho.1,K1⟩ e1
   obtain ⟨n1,K2⟩:=K2
   exact ⟨⟨⟨t1,hc.2⟩,⟨t2,ho.2⟩,_,.pr t3 K2⟩,by simp only [dep];omega⟩
 | lk a b ia ib =>
  intro e' c T h
  unfold Cy at h
  obtain ⟨hc,ho,n,K⟩:=id T
  obtain ⟨K1,K2⟩:=K.two rfl
  split at h
  ·split at h
   ·cases h
   ·obtain ⟨b',e1,rfl⟩:=Ct h
    obtain ⟨⟨t1,t2,n2,t3⟩,t4⟩:=ib ⟨hc.2,ho.2,K2⟩ e1
    obtain ⟨n1,K1⟩:=K1
    exact ⟨⟨⟨hc.1,t1⟩,⟨ho.1,t2⟩,_,.lk K1 t3⟩,by simp only [dep];omega⟩
  ·obtain ⟨a',e1,rfl⟩:=Ct h
   obtain ⟨⟨t1,t2,n2,t3⟩,t4⟩:=ia ⟨hc.1,ho.1,K1⟩ e1
   obtain ⟨n1,K2⟩:=K2
   exact ⟨⟨⟨t1,hc.2⟩,⟨t2,ho.2⟩,_,.lk t3 K2⟩,by simp only [dep];omega⟩
 | op o a b ia ib =>
  intro e' c T h
  unfold Cy at h
  obtain ⟨hc,ho,n,K⟩:=id T
  obtain ⟨K1,K2⟩:=K.two rfl
  split at h
  ·split at h
   ·exact G0 T h λa b=>⟨λz=>(by cases z),λ_ z=>(by cases z),λ_ _ z=>(by cases z),λ_ _ _ z=>(by cases z)⟩
   ·obtain ⟨b',e1,rfl⟩:=Ct h
    obtain ⟨⟨t1,t2,n2,t3⟩,t4⟩:=ib ⟨hc.2,ho.2.2,K2⟩ e1
    obtain ⟨n1,K1⟩:=K1
    exact ⟨⟨⟨hc.1,t1⟩,⟨ho.1,ho.2.1,t2⟩,_,.op K1 t3⟩,by simp only [dep];omega⟩
  ·obtain ⟨a',e1,rfl⟩:=Ct h
   obtain ⟨⟨t1,t2,n2,t3⟩,t4⟩:=ia ⟨hc.1,ho.2.1,K1⟩ e1
   obtain ⟨n1,K2⟩:=K2
   exact ⟨⟨⟨t1,hc.2⟩,⟨ho.1,t2,ho.2.2⟩,_,.op t3 K2⟩,by simp only [dep];omega⟩
 | lt x a b ia ib =>
  intro e' c T h
  unfold Cy at h
  obtain ⟨hc,ho,n,K⟩:=id T
  obtain ⟨K1,K2⟩:=K.two rfl
  split at h
  ·rename_i hv
   exact G0 T h λa b=>⟨λz=>(by cases z),λ_ z=>(by cases z;exact hv),λ_ _ z=>(by cases z),λ_ _ _ z=>(by cases z)⟩
  ·obtain ⟨a',e1,rfl⟩:=Ct h
   obtain ⟨⟨t1,t2,n2,t3⟩,t4⟩:=ia ⟨hc.1,ho.1,K1⟩ e1
   obtain ⟨n1,K2⟩:=K2
   refine ⟨⟨⟨t1,hc.2⟩,⟨t2,ho.2⟩,_,.lt t3 K2⟩,?_⟩
   have:=EL (e:=b) (CC (ρ:=dz) (ρ':=dz) x (λy=>Nat.le_add_right _ _) t4)
   simp only [dep];omega
 | wh a b d ia ib ic =>
  intro e' c T h
  unfold Cy at h
  obtain ⟨hc,ho,n,K⟩:=id T
  obtain ⟨K1,⟨n1,K2⟩,⟨n3,K3⟩⟩:=K.three rfl
  split at h
  ·exact G0 T h λa b=>⟨λz=>(by cases z),λ_ z=>(by cases z),λ_ _ z=>(by cases z),λ_ _ _ z=>(by cases z)⟩
  ·obtain ⟨a',e1,rfl⟩:=Ct h
   obtain ⟨⟨t1,t2,n2,t3⟩,t4⟩:=ia ⟨hc.1,ho.1,K1⟩ e1
   exact ⟨⟨⟨t1,hc.2⟩,⟨t2,ho.2⟩,_,.wh t3 K2 K3⟩,by simp only [dep];omega⟩
 | opn a x y b ia ib =>
  intro e' c T h
  unfold Cy at h
  obtain ⟨hc,ho,n,K⟩:=id T
  obtain ⟨K1,K2⟩:=K.two rfl
  split at h
  ·rename_i hv
   exact G0 T h λa b=>⟨λz=>(by cases z),λ_ z=>(by cases z),λ_ _ z=>(by cases z;exact hv),λ_ _ _ z=>(by cases z)⟩
  ·obtain ⟨a',e1,rfl⟩:=Ct h
   obtain ⟨⟨t1,t2,n2,t3⟩,t4⟩:=ia ⟨hc.1,ho.1,K1⟩ e1
   obtain ⟨n1,K2⟩:=K2
   refine ⟨⟨⟨t1,hc.2⟩,⟨t2,ho.2⟩,_,.opn t3 K2⟩,?_⟩
   have:=EL (e:=b) (CC y (CC (ρ:=dz) (ρ':=dz) x (λy=>Nat.le_add_right _ _) t4) t4)
   simp only [dep];omega
 | spl a b x y d ia ib ic =>
  intro e' c T h
  unfold Cy at h
  obtain ⟨hc,ho,n,K⟩:=id T
  obtain ⟨K1,⟨n1,K2⟩,⟨n3,K3⟩⟩:=K.three rfl
  split at h
  ·rename_i hv
   exact G0 T h λa b=>⟨λz=>(by cases z),λ_ z=>(by cases z),λ_ _ z=>(by cases z),λ_ _ _ z=>(by cases z;exact hv)⟩
  ·obtain ⟨a',e1,rfl⟩:=Ct h
   obtain ⟨⟨t1,t2,n2,t3⟩,t4⟩:=ia ⟨hc.1,ho.1,K1⟩ e1
   refine ⟨⟨⟨t1,hc.2⟩,⟨t2,ho.2⟩,_,.spl t3 K2 K3⟩,?_⟩
   have:=EL (e:=d) (CC y (CC (ρ:=dz) (ρ':=dz) x (λy=>Nat.le_add_right _ _) t4) t4)
   simp only [dep];omega
end KX
namespace L2
open PySem PySem.Spec PyProof.Rows KS
noncomputable def Nx (n i:Nat)(Pv:Nat->List V->Hp->Prop)(ys:List V)(H:Hp):Prop:=∃ m,m < n - i/\m=n - (i+1)/\i+1<=n/\Pv (i+1) ys H
theorem Nx.mk {n i:Nat}{Pv:Nat->List V->Hp->Prop}{ys:List V}{H:Hp}(hi:i < n)(h:Pv (i+1) ys H):Nx n i Pv ys H:=⟨n - (i+1),(),rfl,hi,h⟩
section
variable {g:TG}{tt:TT}{te:TE}{σ:St}{Fin:List V->Hp->Prop}{K:W.Frag}{a:Addr}{xs:List V}{H:Hp}
theorem Fx {J:It}{n:Nat}(Pv:Nat->List V->Hp->Prop)(h0:Pv 0 [] H)(hn:n < sizeLine)(hy:∀ i ys H,Pv i ys H->ys.length<=i)
  (qW:∀ i ys H,i < n->Pv i ys H->J.go i H) (JL:∀ ys H,Pv n ys H->J.stop n H)
  (hs:∀ i ys H x H',i < n->Pv i ys H->J.yld i H x H'->g x σ H' fun σ2 H2=>Ext σ σ2/\tt σ2 H2 λb H3=>if b=true then te σ2 H3 λy H4=>Nx n i Pv (ys++[y]) H4 else Nx n i Pv ys H3)
  (hd:∀ ys H,Pv n ys H->Fin ys H):Er J H σ g tt te Fin:=by
 refine ⟨λi m ys H=>m=n - i/\i<=n/\Pv i ys H,⟨n,by simp,Nat.zero_le _,h0⟩,?_⟩
 rintro i m ys H ⟨rfl,hi,p⟩
 have hyl:=hy i ys H p
 refine ⟨(),?_⟩
 by_cases DN:i < n
 ·exact .inr ⟨qW i ys H DN p,(),λx H' y=>hs i ys H x H' DN p y⟩
 ·have e:i=n:=by omega
  subst e
  exact .inl ⟨JL ys H p,hd ys H p⟩
theorem EM (Pv:Nat->List V->Hp->Prop)(h0:Pv 0 [] H)(hl:∀ i ys H,Pv i ys H->B3 K H a xs)(hn:xs.length < sizeLine)(hy:∀ i ys H,Pv i ys H->ys.length<=i)(e0:σ[0]?=some none)
  (hs:∀ i x ys H,xs[i]?=some x->Pv i ys H->tt (σ.set 0 (some x)) H λb H3=>if b=true then te (σ.set 0 (some x)) H3 λy H4=>Nx xs.length i Pv (ys++[y]) H4 else Nx xs.length i Pv ys H3)
  (hd:∀ ys H,Pv xs.length ys H->Fin ys H):Er (Ws K a) H σ (D2 0) tt te Fin :=
 Fx Pv h0 hn hy (λi ys H hi p=>⟨xs,xs[i],hl i ys H p,by simp [hi]⟩) (λys H p=>⟨xs,hl _ ys H p,Nat.le_refl _⟩)
  (λi ys H x H' hi p y=>by
   obtain ⟨rfl,y⟩:=y
   exact ⟨Ext.set e0,hs i x ys _ (y xs (hl i ys _ p)) p⟩) hd
theorem K9 (Pv:Nat->List V->Hp->Prop)(h0:Pv 0 [] H)(hl:∀ i ys H,Pv i ys H->Av K H a xs)(hn:xs.length < sizeLine)(hy:∀ i ys H,Pv i ys H->ys.length<=i)(e0:σ[0]?=some none)
  (hs:∀ i x ys H,xs[i]?=some x->Pv i ys H->tt (σ.set 0 (some x)) H λb H3=>if b=true then te (σ.set 0 (some x)) H3 λy H4=>Nx xs.length i Pv (ys++[y]) H4 else Nx xs.length i Pv ys H3)
  (hd:∀ ys H,Pv xs.length ys H->Fin ys H):Er (fD K a) H σ (D2 0) tt te Fin :=
 Fx Pv h0 hn hy (λi ys H hi p=>⟨xs,xs[i],hl i ys H p,by simp [hi]⟩) (λys H p=>⟨xs,hl _ ys H p,Nat.le_refl _⟩)
  (λi ys H x H' hi p y=>by
   obtain ⟨rfl,y⟩:=y
   exact ⟨Ext.set e0,hs i x ys _ (y xs (hl i ys _ p)) p⟩) hd
theorem Ka {lo:Int}{n:Nat}(Pv:Nat->List V->Hp->Prop)(h0:Pv 0 [] H)(hn:n < sizeLine)(hy:∀ i ys H,Pv i ys H->ys.length<=i)(e0:σ[0]?=some none)
  (hs:∀ i ys H,i < n->Pv i ys H->tt (σ.set 0 (some (.int (lo+i)))) H λb H3=>if b=true then te (σ.set 0 (some (.int (lo+i)))) H3 λy H4=>Nx n i Pv (ys++[y]) H4 else Nx n i Pv ys H3)
  (hd:∀ ys H,Pv n ys H->Fin ys H):Er (V4 lo n) H σ (D2 0) tt te Fin :=
 Fx Pv h0 hn hy (λi ys H hi p=>hi) (λys H p=>Nat.le_refl _)
  (λi ys H x H' hi p y=>by
   obtain ⟨rfl,rfl⟩:=y
   exact ⟨Ext.set e0,hs i ys _ hi p⟩) hd
theorem Kc {L:It}{n:Nat}(Pv:Nat->List V->Hp->Prop)(h0:Pv 0 [] H)(hn:n < sizeLine)(hy:∀ i ys H,Pv i ys H->ys.length<=i)(e0:σ[0]?=some none)(e1:σ[1]?=some none)
  (qW:∀ i ys H,i < n->Pv i ys H->L.go i H) (JL:∀ ys H,Pv n ys H->L.stop n H)
  (hs:∀ i ys H x H',i < n->Pv i ys H->L.yld i H x H'->∃ q u v,x=.ref q/\Av K H' q [u,v]/\tt ((σ.set 0 (some u)).set 1 (some v)) H' λb H3=>if b=true then te ((σ.set 0 (some u)).set 1 (some v)) H3 λy H4=>Nx n i Pv (ys++[y]) H4 else Nx n i Pv ys H3)
  (hd:∀ ys H,Pv n ys H->Fin ys H):Er L H σ (Lm K 2 (El (D2 0) (El (D2 1) NQ))) tt te Fin :=
 Fx Pv h0 hn hy qW JL (λi ys H x H' hi p y=>by
   obtain ⟨q,u,v,rfl,h1,h2⟩:=hs i ys H x H' hi p y
   refine ⟨q,[u,v],rfl,h1,rfl,u,[v],rfl,v,[],rfl,rfl,⟨by simp,λj z hj=>?_⟩,h2⟩
   cases j with
   | zero=>rw [e0] at hj;cases hj
   | succ j=>cases j with
    | zero=>rw [e1] at hj;cases hj
    | succ j=>simpa using hj) hd
theorem T5 {t u:TS}{D:Ends}(Jn:St->Hp->Prop)(fin:∀ σ' H',Jn σ' H'->u D σ' H')(q:(∀ σ' H',Jn σ' H'->u D σ' H')->Be t u D σ H):Be t u D σ H:=q fin
theorem CL {t u:TS}{D:Ends}(Jn:St->Hp->Prop)(fin:∀ σ' H',Jn σ' H'->u D σ' H')(q:∀ N:St->Hp->Prop,(∀ σ' H',Jn σ' H'->N σ' H')->t { D with nx:=N } σ H):Be t u D σ H:=q (u D) fin
theorem QC {c:TT}{t e u:TS}{D:Ends}(q:c σ H λb H1=>if b=true then t { D with nx:=u D } σ H1 else e { D with nx:=u D } σ H1):Be (NP c t e) u D σ H:=q
theorem qX {QB:Bool->Hp->Prop}(q:QB true H):HM σ H QB:=q
theorem nW {own:List Str}{js:List Nat}{wi:TI}{Q:VK}(q:wi σ H λJ H1=>Er J H1 (Du own js σ) g tt te λys H2=>LX 0 (.lst ys) H2 Q):MW own js wi g tt te σ H Q:=by
 have e:(λys (H2:Hp)=>LX 0 (.lst ys) H2 Q)=λys H2=>∀ D,H2 D=none->Q (.ref D) (upd H2 D (.lst ys)):=by funext ys H2;exact propext ⟨λh=>h.2,λh=>⟨Nat.zero_le _,h⟩⟩
 rw [e] at q
 exact q
theorem Vk {own:List Str}{js:List Nat}{wi:TI}{i:Nat}{u:TS}{D:Ends}(q:wi σ H λJ H1=>Er J H1 (Du own js σ) g tt te λys H2=>LX 0 (.lst ys) H2 λv H3=>u D (σ.set i (some v)) H3):Be (LP i own js wi g tt te) u D σ H:=by
 have e:(λys (H2:Hp)=>LX 0 (.lst ys) H2 λv H3=>u D (σ.set i (some v)) H3)=λys H2=>∀ a,H2 a=none->u D (σ.set i (some (.ref a))) (upd H2 a (.lst ys)):=by funext ys H2;exact propext ⟨λh=>h.2,λh=>⟨Nat.zero_le _,h⟩⟩
 rw [e] at q
 exact q
theorem iB {tl:TE}{R:It->Hp->Prop}(q:tl σ H λx H1=>Lr K R x H1):MD K tl σ H R:=q
theorem nX {tl:TE}{R:It->Hp->Prop}(q:tl σ H λx H1=>Pn K R x H1):Wt K tl σ H R:=q
theorem Bi {neg:Bool}{x:V}{p:Addr}{ys:List V}{Q:VK}(h:B3 K H p ys\/Av K H p ys)(fx:DQ x=true)(fy:ys.all DQ=true)(q:Q (.bl (if neg then !Cr x ys else Cr x ys)) H):FT K neg x (.ref p) H Q:=⟨p,ys,rfl,h,fx,fy,q⟩
end
section
variable {σ:St}{H:Hp}{Q:VK}{K:W.Frag}
theorem iC {td ty tx:TE}(q:td σ H λx H1=>∃ a,x=.ref a/\qi H1 a/\ty σ H1 λy H2=>tx σ H2 λz H3=>∃ o,Dx H3 a y o/\Q (o.getD z) H3):LM td ty tx σ H Q:=q
theorem nY {td ty:TE}(q:td σ H λx H1=>ty σ H1 λy H2=>LK Q x y H2):MT td ty σ H Q:=q
theorem qY {td ty:TE}(q:ty σ H λy H1=>td σ H1 λx H2=>PY Q y x H2):WT ty td σ H Q:=q
theorem nZ {R:List (V × V)->Hp->Prop}(q:R [] H):F7 [] σ H R:=q
theorem qZ {tk tv:TE}{r:List (TE × TE)}{R:List (V × V)->Hp->Prop}(q:tk σ H λk H1=>tv σ H1 λv H2=>F7 r σ H2 λps H3=>R ((k,v)::ps) H3):F7 ((tk,tv)::r) σ H R:=q
theorem Fy {Il:List (TE × TE)}(q:∀ p H1,H p=none->An H H1->H1 p=some (.dK [])->F7 Il σ H1 λps H2=>H2 p=some (.dK [])/\∃ AI:List (Key × V),ps=AI.map (λkv=>(kV kv.1,kv.2))/\AI.length<=15/\∀ H3,(∀ b,b≠p->H3 b=H2 b)->H3 p=some (.dK (Cf [] AI))->Q (.ref p) H3):Q6 Il σ H Q:=λp hp=>by
 have h:=q p _ hp (An.new hp) AG
 have e:(λps (H2:Hp)=>H2 p=some (.dK [])/\∃ AI:List (Key × V),ps=AI.map (λkv=>(kV kv.1,kv.2))/\AI.length<=15/\∀ H3,(∀ b,b≠p->H3 b=H2 b)->H3 p=some (.dK (Cf [] AI))->Q (.ref p) H3) =
  λps (H2:Hp)=>H2 p=some (.dK [])/\∃ AI:List (Key × V),ps=AI.map (λkv=>(kV kv.1,kv.2))/\AI.length<=15/\Q (.ref p) (upd H2 p (.dK (Cf [] AI))):=by
  funext ps H2
  refine propext ⟨?_,?_⟩
  ·rintro ⟨h1,AI,h2,h3,h4⟩
   exact ⟨h1,AI,h2,h3,h4 _ (λb hb=>AQ hb) AG⟩
  ·rintro ⟨h1,AI,h2,h3,h4⟩
   refine ⟨h1,AI,h2,h3,λH3 a b=>?_⟩
   have:H3=upd H2 p (.dK (Cf [] AI)):=by
    funext c
    by_cases hc:c=p
    ·subst hc;rw [b,AG]
    ·rw [a c hc,AQ hc]
   rw [this];exact h4
 rw [e] at h
 exact h
theorem Afs {r:V->Option Int->Option Int->Hp->VK->Prop}{te:TE}{tl th:TO}(q:te σ H λx H1=>tl σ H1 λl H2=>th σ H2 λu H3=>r x l u H3 Q):nt r te tl th σ H Q:=q
theorem fI {R:Option Int->Hp->Prop}(q:R none H):Gz σ H R:=q
theorem o6 {t:TE}{R:Option Int->Hp->Prop}(q:t σ H λx H1=>∃ i,x=.int i/\R (some i) H1):MM t σ H R:=q
theorem r6 {i:Int}{P:Int->Prop}(q:P i):∃ k,V.int i=V.int k/\P k:=⟨i,rfl,q⟩
theorem D9 {a:Addr}{xs:List V}{lo hi:Option Int}(h:Av K H a xs)(n:¬ (HT.sIx xs.length 0 lo=0/\HT.sIx xs.length xs.length hi=xs.length))(q:∀ p H2,H p=none->An H H2->H2 p=some (.tup (D7 xs lo hi))->Q (.ref p) H2):F6 K (.ref a) lo hi H Q:=⟨a,xs,rfl,h,n,λp hp=>q p _ hp (An.new hp) AG⟩
theorem Hn {a:Addr}{xs:List V}{lo hi:Option Int}(h:B3 K H a xs)(q:∀ p H2,H p=none->An H H2->H2 p=some (.lst (D7 xs lo hi))->Q (.ref p) H2):O3 K (.ref a) lo hi H Q:=⟨a,xs,rfl,h,λp hp=>q p _ hp (An.new hp) AG⟩
theorem Fz {a b:Addr}{xs ys:List V}(ha:Av K H a xs)(hb:Av K H b ys)(n:xs≠[])(hn:xs.length+ys.length<=sizeLine)(h1:ys=[]->Q (.ref a) H)(h2:∀ p H2,H p=none->An H H2->H2 p=some (.tup (xs++ys))->Q (.ref p) H2):Fp K (.ref a) (.ref b) H Q:=⟨a,b,xs,ys,rfl,rfl,ha,hb,n,hn,h1,λ_ p hp=>h2 p _ hp (An.new hp) AG⟩
end
end L2
local macro_rules | `(tactic| fail)=>`(tactic| first
 | with_reducible refine L2.iC ?_
 | with_reducible refine L2.nY ?_
 | with_reducible refine L2.qY ?_
 | with_reducible refine L2.nZ ?_
 | with_reducible refine L2.qZ ?_
 | with_reducible refine L2.Afs ?_
 | with_reducible refine L2.fI ?_
 | with_reducible refine L2.o6 ?_
 | with_reducible refine L2.r6 ?_)
local macro_rules | `(tactic| fail)=>`(tactic| first
 | with_reducible refine L2.qX ?_
 | with_reducible refine L2.nW ?_
 | with_reducible refine L2.Vk ?_
 | with_reducible refine L2.iB ?_
 | with_reducible refine L2.nX ?_)
namespace L2
open PySem PySem.Spec PyProof.Rows KS
theorem Paired.len {α β:Type}{F:α->β->Prop}{a:List α}{b:List β}(h:Paired F a b):a.length=b.length:=Paired.length h
theorem Paired.at1 {α β:Type}{F:α->β->Prop}:∀ {a:List α} {b:List β} {i:Nat} {x:α},Paired F a b->a[i]?=some x->∃ y,b[i]?=some y/\F x y
 | _,_,_,_,.nil,e=>by simp at e
 | _,_,0,_,.cons r _,e=>by simp at e;subst e;exact ⟨_,rfl,r⟩
 | _,_,i+1,_,.cons _ rs,e=>by
  obtain ⟨y,h1,h2⟩:=Paired.at1 (i:=i) rs (by simpa using e)
  exact ⟨y,by simpa using h1,h2⟩
noncomputable def strOf:Value->Str
 | .str x _=>x
 | _=>Str.empty
noncomputable def Jf:Value->Bool
 | .str _ _=>true
 | _=>false
noncomputable def M4 (w:World)(e:DictEntry):DictEntry:=⟨hashStr w (strOf e.key),e.key,e.val⟩
noncomputable def Vl (es:List DictEntry):List (Str × Value):=es.map λe=>(strOf e.key,e.val)
structure FA (w:World)(K:W.Frag)(a:Addr)(rows:List (Str × Value)):Prop where
 ex:∃ es ep,K.lookup a=some ⟨.type "dict",none,.dict es ep,#[]⟩/\es.toList=es.toList.map (M4 w)/\(es.toList.all λe=>Jf e.key)=true/\Vl es.toList=rows
 nd:(rows.map (·.1)).Nodup
theorem Vm {P:Program}{w:World}{K:W.Frag}{a:Addr}{rows:List (Str × Value)}(d:FA w K a rows){h:Heap}(hk:∀ o,K.lookup a=some o->h.get? a=some o):h.DictOf (Bm P w) a (rows.map λr=>(.inr r.1,r.2)):=by
 obtain ⟨⟨es,ep,hl,hh,ha,rfl⟩,nd⟩:=d
 refine ⟨_,es,ep,hk _ hl,⟨rfl,rfl,rfl⟩,rfl,λe he=>?_,?_,?_⟩
 ·have Ol:e∈es.toList:=by simpa using he
  have hs:=List.all_eq_true.mp ha e Ol
  rw [hh] at Ol
  obtain ⟨e0,h0,rfl⟩:=List.mem_map.mp Ol
  have Ja:Jf e0.key=true:=hs
  obtain ⟨qj,key,val⟩:=e0
  cases key with
  | str x t=>exact ⟨.inr x,Ej P w x t,rfl⟩
  | _=>cases Ja
 ·generalize es.toList=l at ha
  clear hh hl nd
  induction l with
  | nil=>exact .nil
  | cons e r ih =>
   rw [List.all_cons,Bool.and_eq_true] at ha
   refine .cons ?_ rfl (ih ha.2)
   obtain ⟨qj,key,val⟩:=e
   cases key with
   | str x t=>exact Ej P w x t
   | _=>exact (show false=true from ha.1) |> λz=>by cases z
 ·rw [List.map_map]
  have e:(Vl es.toList).map (λr=>(Sum.inr r.1:Key))=((Vl es.toList).map (·.1)).map Sum.inr:=by rw [List.map_map];rfl
  show ((Vl es.toList).map (λr=>(Sum.inr r.1:Key))).Nodup
  rw [e]
  have inj:∀ (l:List Str),l.Nodup->(l.map (Sum.inr:Str->Key)).Nodup:=λl hl=>by
   induction hl with
   | nil=>exact .nil
   | cons h1 h2 ih =>
    refine List.nodup_cons.mpr ⟨λz=>?_,ih⟩
    obtain ⟨y,hy,e⟩:=List.mem_map.mp z
    cases e
    exact h1 _ hy rfl
  exact inj _ nd
noncomputable def rowAt (rows:List (Str × Value))(x:Str):Option Value:=(rows.find? λr=>decide (r.1=x)).map (·.2)
theorem Ke (rows:List (Str × Value))(x:Str):valueAt (rows.map λr=>((.inr r.1:Key),r.2)) (.inr x)=rowAt rows x:=by
 unfold valueAt rowAt
 induction rows with
 | nil=>rfl
 | cons r l ih =>
  rw [List.map_cons,List.find?_cons,List.find?_cons]
  by_cases e:r.1=x
  ·have h1:decide ((Sum.inr r.1:Key)=Sum.inr x)=true:=by rw [Lk];exact decide_eq_true e
   rw [h1,decide_eq_true e]
   rfl
  ·have h1:decide ((Sum.inr r.1:Key)=Sum.inr x)=false:=by rw [Lk];exact decide_eq_false e
   rw [h1,decide_eq_false e]
   exact ih
section
variable {X:Cx}{x:Str}{a:Addr}{rows:List (Str × Value)}{i:Expr}{ty:TE}{p pos:Pos}
noncomputable def QD (rows:List (Str × Value))(ty:TE):TE:=fun σ H Q=>ty σ H λy H1=>∃ (k:Str) (u:Value) (v:V),y=.str k/\rowAt rows k=some u/\RelV v u/\Q v H1
theorem T6 (d:FA X.w X.K a rows)(hg:Gl X x)(hm:X.mg x=some (.ref a))(hi:PE X i ty)(hs:LJ i)(FR:(x==("__debug__":Str))=false:=by decide):PE X (.Subscript (.Name x p) i pos) (QD rows ty):=by
 intro pins s σ H Q I h
 refine J6 PySem.F.slot_dict_getitem.lookup hs (BD (IS (v:=.ref a) hg hm rfl FR pins s σ H (λy H1=>y=.ref a/\H1=H) I ⟨rfl,rfl⟩) λu s1 ⟨x',H1,I1,rx,e1,e2⟩=>?_)
 subst e1 e2
 obtain rfl:u=Value.ref a:=rx
 refine BD (hi pins s1 σ H1 _ I1 h) λiv s2 ⟨y,H2,I2,ry,k,u,v,ey,hk,rv,q⟩=>?_
 subst ey
 have dd:s2.heap.DictOf (Bm X.prog X.w) a (rows.map λr=>(.inr r.1,r.2)):=Vm d λo ho=>I2.kIn a o ho
 refine ⟨dd.typeIs,wpAny_getItem_of (Fw (k:=.inr k) ry) dd.mapOf (v:=u) (by rw [Ke];exact hk) ⟨v,H2,I2.tok _,rv,q⟩⟩
theorem Xg (d:FA X.w X.K a rows)(hg:Gl X x)(hm:X.mg x=some (.ref a))(hi:SE X i ty)(hs:LJ i)(FR:(x==("__debug__":Str))=false:=by decide):SE X (.Subscript (.Name x p) i pos) (QD rows ty):=⟨T6 d hg hm hi.out hs FR⟩
variable {CX:LA}{k:Nat}{ps:List Str}{E:XK}{e:Expr}{es:List Expr}{t:TA}{Nd:List (Str × Sp)}{pn:Pos}
noncomputable def G3 (P:Program)(w:World)(K:W.Frag)(mg:Str->Option Value)(base:Heap)(CX:LA)(k:Nat)(ps:List Str)(rows:List (Str × Value))(Nd:List (Str × Sp)):Prop :=
 ∀ x sp,(x,sp)∈Nd->∃ f fd,rowAt rows x=some (.ref f)/\AY P w K mg base CX k f fd ps sp/\W.keepIn K (.ref f)=true/\Binds K fd ps []
noncomputable def M5 (Nd:List (Str × Sp))(E:XK)(ty:TE)(t:TA):TE:=fun σ H Q=>ty σ H λy H1=>∃ (x:Str) (sp:Sp),y=.str x/\(x,sp)∈Nd/\t σ H1 λvs H2=>sp vs H2 Q E
theorem QE (d:FA X.w X.K a rows)(R:G3 X.prog X.w X.K X.mg X.base CX k ps rows Nd)(hx:Passes CX X E)(hr:Bh k X.A)(hg:Gl X x)(hm:X.mg x=some (.ref a))(hi:PE X i ty)(hs:LJ i)(ha:PA X (e::es) t)(FR:(x==("__debug__":Str))=false:=by decide)
  (he:starEach (e::es) X.env=(false,eval e X.env)::starEach es X.env:=by rfl) (E4:(backTo pos (starEach es X.env)).any (·.1)=false:=by rfl):PE X (.Call (.Subscript (.Name x pn) i p) (e::es) [] pos) (M5 Nd E ty t):=by
 intro pins s σ H Q I h
 have arm:eval (.Call (.Subscript (.Name x pn) i p) (e::es) [] pos) X.env=(eval (.Subscript (.Name x pn) i p) X.env >>= λf=>callWith pos f [] (backTo pos (starEach (e::es) X.env)) (backToKw pos (keywordEach [] X.env))):=rfl
 rw [arm]
 refine wpAny_bind ?_
 refine J6 PySem.F.slot_dict_getitem.lookup hs (BD (IS (v:=.ref a) hg hm rfl FR pins s σ H (λy H1=>y=.ref a/\H1=H) I ⟨rfl,rfl⟩) λu s1 ⟨x',H1,I1,rx,e1,e2⟩=>?_)
 subst e1 e2
 obtain rfl:u=Value.ref a:=rx
 refine BD (hi pins s1 σ H1 _ I1 h) λiv s2 ⟨y,H2,I2,ry,x',sp,ey,Kf,q⟩=>?_
 subst ey
 obtain ⟨f,fd,Xh,F,hk,hb⟩:=R x' sp Kf
 have dd:s2.heap.DictOf (Bm X.prog X.w) a (rows.map λr=>(.inr r.1,r.2)):=Vm d λo ho=>I2.kIn a o ho
 refine ⟨dd.typeIs,wpAny_getItem_of (Fw (k:=.inr x') ry) dd.mapOf (v:=.ref f) (by rw [Ke];exact Xh) ?_⟩
 have I3:=I2.tok (s2.toks+1)
 refine W.callWith_K (h₀:=X.base) I3.ok.mod.kin hk (BD (ha pos pins _ σ H2 _ I3 q) λus s4 ⟨vs,H4,I4,r,q⟩=>⟨I4.kIn,?_⟩) he E4
 exact GU F hr hb .nil hx I4 r (by rw [List.append_nil];exact q)
theorem T7 (d:FA X.w X.K a rows)(R:G3 X.prog X.w X.K X.mg X.base CX k ps rows Nd)(hx:Passes CX X E)(hr:Bh k X.A)(hg:Gl X x)(hm:X.mg x=some (.ref a))(hi:SE X i ty)(hs:LJ i)(ha:SA X (e::es) t)(FR:(x==("__debug__":Str))=false:=by decide)
  (he:starEach (e::es) X.env=(false,eval e X.env)::starEach es X.env:=by rfl) (E4:(backTo pos (starEach es X.env)).any (·.1)=false:=by rfl):SE X (.Call (.Subscript (.Name x pn) i p) (e::es) [] pos) (M5 Nd E ty t):=⟨QE d R hx hr hg hm hi.out hs ha.out FR he E4⟩
end
end L2
namespace PySem
open AutoSeq1 (wpAny_loadPart')
namespace F
theorem lri_nolen:typeLookup (.type "list_reverseiterator") "__len__"=pure none:=by rw [typeLookup_type,builtinLookup_eq_fast];kernel_rfl
theorem lri_hint:Slot "list_reverseiterator" "__length_hint__" "list_reverseiterator.__length_hint__" :=
 .of (owner:="list_reverseiterator") (n:="__length_hint__") (by rw [typeLookup_type,builtinLookup_eq_fast];kernel_rfl) (by decide +kernel) (by decide +kernel) (by decide +kernel) (by first | exact .inl (by decide +kernel) | exact .inr (by decide +kernel)) (by rw [isSubtype_type];kernel_rfl)
theorem lri_sub:isSubtype (.type "list_reverseiterator") (.type "list_reverseiterator")=pure true:=by rw [isSubtype_type];kernel_rfl
end F
section
variable {prog:Program}{w:World}{A:Around}{E:Value->Shared->Prop}{s:Shared}
theorem Ho {it l:Addr}{i:Int}{Q:Bool->Shared->Prop}(hit:s.heap.IsRevIter it l i)(h:∀ b tk,Q b { s with toks:=tk }):
  wpAny (model prog w) A (Builtin.List.listLengthHint (.ref it)) Q E s:=by
 obtain ⟨o,ho,hc,hd⟩:=id hit
 unfold Builtin.List.listLengthHint
 refine wpAny_bind (wpAny_specialOf hit.typeIs F.lri_nolen ?_)
 show wpAny _ A (specialOf (Value.ref it) (Str.ofString "__length_hint__") >>= _) _ _ _
 refine wpAny_bind (wpAny_specialOf hit.typeIs F.lri_hint.lookup ?_)
 generalize hid:("list_reverseiterator.__length_hint__":String)=id0
 wp_delta
 rw [show splitId id0=some ("list_reverseiterator","__length_hint__") from by subst hid;decide +kernel]
 subst hid
 refine wpAny_bind (wpAny_isInstance (T:="list_reverseiterator") (b:=true) hit.typeIs F.lri_sub ?_)
 refine wpAny_ite_split (λT8=>absurd T8 ⟨⟩) (λ_=>?_)
 refine wpAny_ite_split (λ_=>?_) (λT8=>absurd (by decide +kernel) T8)
 refine wpAny_ite_split (λT8=>absurd T8 (by decide +kernel)) (λ_=>?_)
 exact wpAny_pure (h _ _)
theorem M6 {R:Result->Shared->Prop}{I l:Addr}{items:Array Value}(hh:A.handled=none)(hI:s.heap.IsRevIter I l ((items.size:Int) - 1))(hl:s.heap.IsList l items)(Ld:l≠I)(hlen:items.size < 2 ^ 20)(S:Addr)(res:Value)(c0:Nat)(hS:s.heap.get? S=some { cls:=.type "list",data:=.seq #[] c0 })(rd:S≠I)(hSl:S≠l)
  (hR:∀ h' tk Jg c',(∀ b o,b≠S->b≠I->s.heap.get? b=some o->h'.get? b=some o)->h'.get? S=some { cls:=.type "list",dict:=none,data:=.seq Jg c',slots:=#[] } ->
   ItemsOf (λi v=>items[items.size - 1 - i]?=some v) Jg items.size->R (.ok (.ret res)) { s with heap:=h',toks:=tk }) :
  wpAny (model prog w) A.in1 (Builtin.List.listExtendWith (.ref S) (.ref I) res)
   (λfin s'=>match fin with | .done f=>R (.ok f) s' | .again c'=>c'.quiet=true/\codeAny (model prog w) A c' R s') (λe s'=>R (.error e) s') s:=by
 have W:=(Walks.listRev (prog:=prog) (w:=w) (A:=A.in1) hh I l Ld items).toS
 have hSf:S∉[I,l]:=by simp [rd,hSl]
 have hT:s.TypeIs (.ref I) "list_reverseiterator":=hI.typeIs
 have key:∀ (h:Heap) (c1 tk:Nat),h.IsRevIter I l ((items.size:Int) - 1)->h.IsList l items->(∀ b o,b≠S->s.heap.get? b=some o->h.get? b=some o)->h.get? S=some { cls:=.type "list",data:=.seq #[] c1 } ->
   codeAny (model prog w) A (.builtin "list.extend.loop" ⟨[.ref S,.ref I,res],[]⟩) R { s with heap:=h,toks:=tk }:=by
  intro h c1 tk hit htu hk o7
  refine codeAny_extend_loopS W (by rw [sizeLine_eq];omega) S hSf res items.size 0 _ #[] c1 rfl (Nat.zero_le _) ⟨Nat.zero_le _,by simpa using hit,htu⟩ o7 (ItemsOf.nil _) λs' Jg c' hm ik Hc=>?_
  rw [Moved.eq_with hm]
  refine hR s'.heap s'.toks Jg c' (λb o hb hbI e=>hm.heap b o (λKf=>?_) (hk b o hb e)) ik Hc
  rcases List.mem_cons.mp Kf with e' | Kf
  ·exact hb e'
  ·exact hbI (List.mem_singleton.mp Kf)
 unfold Builtin.List.listExtendWith
 refine wpAny_bind (wpAny_typeOf hT ?_)
 have h1:Builtin.List.listSameRef (.ref S) (.ref I)=false:=by simp [Builtin.List.listSameRef,rd]
 have h2:(Value.type "list_reverseiterator"==Value.type "list")=false:=by decide
 have h3:(Value.type "list_reverseiterator"==Value.type "tuple")=false:=by decide
 simp only [h1,h2,h3,Bool.or_false,Bool.false_eq_true,if_false]
 refine wpAny_bind (wpAny_pyIter_revIter hI ?_)
 refine wpAny_bind (wpAny_holding (Ho hI λb tk=>?_))
 have o7:({ s with toks:=tk }:Shared).heap.get? S=some { cls:=.type "list",data:=.seq #[] c0 }:=hS
 refine wpAny_ite_split (λ_=>?_) (λ_=>wpAny_pure ⟨plainId_quiet F.plain_extend_loop _,key _ c0 _ hI hl (λb o _ e=>e) hS⟩)
 refine wpAny_bind (wpAny_rule ?_)
 refine wpAny_bind ?_
 show wpAny _ _ (updateSeq S (·.push .none) >>= λ_=>updateSeq S (·.pop)) _ _ _
 refine wpAny_bind (wpAny_updateSeq o7 rfl ?_)
 have iD:=Heap.get?_update_self (Obj.mapSeq (·.push Value.none)) o7 rfl
 refine wpAny_updateSeq (hz:=by seq_fits) iD rfl ?_
 have hS3:=Heap.get?_update_self (Obj.mapSeq (·.pop)) iD rfl
 have Xi:∀ b o,b≠S->s.heap.get? b=some o->((s.heap.update S (Obj.mapSeq (·.push Value.none))).update S (Obj.mapSeq (·.pop))).get? b=some o:=λb o hb e =>
  (Heap.get?_update_other _ _ (Ne.symm hb)).trans ((Heap.get?_update_other _ _ (Ne.symm hb)).trans e)
 exact wpAny_pure ⟨plainId_quiet F.plain_extend_loop _,key _ _ _ (hI.at λo e=>Xi I o (Ne.symm rd) e) (hl.at λo e=>Xi l o (Ne.symm hSl) e) Xi hS3⟩
theorem HR {Q:Value->Shared->Prop}{I l:Addr}{items:Array Value}(hh:A.handled=none)(hI:s.heap.IsRevIter I l ((items.size:Int) - 1))(hl:s.heap.IsList l items)(Ld:l≠I)(hlen:items.size < 2 ^ 20)
  (hQ:∀ h' tk Jg c',(∀ b o,b≠I->s.heap.get? b=some o->h'.get? b=some o)->h'.get? s.heap.objs.size=some { cls:=.type "list",dict:=none,data:=.seq Jg c',slots:=#[] } ->
   ItemsOf (λi v=>items[items.size - 1 - i]?=some v) Jg items.size->Q (.ref s.heap.objs.size) { s with heap:=h',toks:=tk }):wpAny (model prog w) A (call (.type "list") [.ref I]) Q E s:=by
 have iE:I < s.heap.objs.size:=by obtain ⟨o,ho,_⟩:=hI;exact Heap.lt_size ho
 have iF:l < s.heap.objs.size:=by obtain ⟨o,ho,_⟩:=hl;exact Heap.lt_size ho
 refine callType_codes (Q₁:=λobj s1=>obj=.ref s.heap.objs.size/\s1={ s with heap:=s.heap.push { cls:=.type "list",data:=.seq #[] } }) F.called_list (F.typeCall_list_1 _) F.entry_list_init (code_list_new _ ⟨rfl,rfl⟩) λobj s1 q1=>?_
 obtain ⟨rfl,rfl⟩:=q1
 have hS:(s.heap.push { cls:=.type "list",data:=.seq #[] }).get? s.heap.objs.size=some { cls:=.type "list",data:=.seq #[] }:=Heap.get?_push_size _ rfl
 refine ⟨⟨_,hS,rfl⟩,F.args_list_init_2 _ _,?_⟩
 show wpAny _ _ (do let old <- Builtin.List.listItems (.ref s.heap.objs.size);Builtin.List.listUpdate (.ref s.heap.objs.size) (λ_=>#[]);letGo old.toList.reverse;Builtin.List.listExtendWith (.ref s.heap.objs.size) (.ref I) .none) _ _ _
 refine wpAny_bind ?_
 unfold Builtin.List.listItems
 refine wpAny_bind (wpAny_seqItems hS rfl (wpAny_pure ?_))
 show wpAny _ _ (updateSeq s.heap.objs.size (λ_=>#[]) >>= λ_=>letGo (#[]:Array Value).toList.reverse >>= λ_=>Builtin.List.listExtendWith (.ref s.heap.objs.size) (.ref I) .none) _ _ _
 refine wpAny_bind (wpAny_updateSeq hS rfl ?_)
 have iD:=Heap.get?_update_self (Obj.mapSeq (λ_=>(#[]:Array Value))) hS rfl
 have Xi:∀ b o,b≠s.heap.objs.size->s.heap.get? b=some o->((s.heap.push { cls:=.type "list",data:=.seq #[] }).update s.heap.objs.size (Obj.mapSeq (λ_=>(#[]:Array Value)))).get? b=some o :=
  λb o hb e=>(Heap.get?_update_other _ _ (Ne.symm hb)).trans (Heap.get?_push_of_some _ e)
 refine wpAny_bind (wpAny_letGo ?_)
 refine M6 (A:=A.in1) (I:=I) (l:=l) (items:=items) hh (hI.at λo e=>Xi I o (Nat.ne_of_lt iE) e) (hl.at λo e=>Xi l o (Nat.ne_of_lt iF) e) Ld hlen _ .none _ iD (Ne.symm (Nat.ne_of_lt iE)) (Ne.symm (Nat.ne_of_lt iF)) λh' tk Jg c' hk ik Hc=>?_
 exact ⟨rfl,hQ h' tk Jg c' (λb o hb e=>hk b o (Nat.ne_of_lt (Heap.lt_size e)) hb (Xi b o (Nat.ne_of_lt (Heap.lt_size e)) e)) ik Hc⟩
end
end PySem
namespace L2
open PySem PySem.Spec PyProof.Rows KS
section
variable {X:Cx}
noncomputable def G4 (K:W.Frag)(ta:TA):TE:=fun σ H Q=>ta σ H λvs H1=>∃ a xs,vs=[.ref a]/\B3 K H1 a xs/\xs.length < 1000000/\∀ l,H1 l=none->Q (.ref l) (upd H1 l (.lst xs.reverse))
theorem Kg {a:Expr}{ta:TA}{p1 p2 Qo HQ:Pos}(hc:X.calm=true)(rh:Gl X "list")(ri:X.mg "list"=none)(rj:Gl X "reversed")(rl:X.mg "reversed"=none)(ha:PA X [a] ta)
  (hs:starEach [a] X.env=[(false,eval a X.env)]:=by rfl)
  (he:starEach [.Call (.Name "reversed" p2) [a] [] HQ] X.env=(false,eval (.Call (.Name "reversed" p2) [a] [] HQ) X.env)::starEach [] X.env:=by rfl) :
  PE X (.Call (.Name "list" p1) [.Call (.Name "reversed" p2) [a] [] HQ] [] Qo) (G4 X.K ta):=by
 intro pins s σ H Q I h
 refine wpAny_Call_Name_kw (Ek I rh ri boot_list ?_)
 refine PyProof.Rows.callWith_type1 ?_ he rfl
 rw [he]
 show wpAny _ _ (spliced ((false,eval (.Call (.Name "reversed" p2) [a] [] HQ) X.env)::backTo Qo (starEach [] X.env))) _ _ s
 refine Calls.spliced_cons ?_
 refine Call_ (Ek I rj rl boot_reversed (PyProof.Rows.callWith_type1 (BD (ha HQ pins s σ H _ I h) λus s1 q1=>?_) hs rfl))
 obtain ⟨vs,H1,I1,r1,t,xs,rfl,hq,hx,q⟩:=q1
 obtain ⟨u,rfl,ru⟩:=vals1 r1
 obtain rfl:u=Value.ref t:=ru
 obtain ⟨its,rv,pl,hz⟩:=I1.list hq
 have hlen:=rv.length
 refine call_reversed_list pl.isList ?_
 refine Calls.spliced_nil ?_
 have ltt:t < s1.heap.objs.size:=by obtain ⟨o,n,e,_⟩:=pl;exact Heap.lt_size e
 have hT:s1.heap.objs.size≠t:=Ne.symm (Nat.ne_of_lt ltt)
 have I2:Inv X pins σ H1 { s1 with heap:=s1.heap.push (revObj t ((its.toArray.size:Int) - 1)) }:=I1.kept (t':=s1.toks) λb o z=>Heap.get?_push_of_some _ z
 refine HR (I:=s1.heap.objs.size) (l:=t) (items:=its.toArray) (I.ok.hd hc) ⟨_,Heap.get?_push_size _ rfl,rfl,rfl⟩ (pl.isList.at λo z=>Heap.get?_push_of_some _ z) (Ne.symm hT) (by rw [List.size_toArray];omega) λh' tk acc c' hk hS hA=>?_
 have nI:H1 s1.heap.objs.size=none:=I1.hok.fresh (Nat.le_refl _)
 obtain ⟨f0,f1,_,f3,f4,f5⟩:=I1.fpOk (H':=H1) (Nat.le_refl _) nI
 have I3:Inv X pins σ H1 { s1 with heap:=h',toks:=tk }:=I2.turned (t':=tk) hk f0 f1 f3 f4 f5
 have nS:H1 (s1.heap.push (revObj t ((its.toArray.size:Int) - 1))).objs.size=none:=I2.hok.fresh (Nat.le_refl _)
 have rv2:=Od rv hA
 have I4:Inv X pins σ (upd H1 (s1.heap.push (revObj t ((its.toArray.size:Int) - 1))).objs.size (.lst xs.reverse)) { s1 with heap:=h',toks:=tk }:=by
  refine I2.call' (ch:=[s1.heap.objs.size]) rfl ?_ (I3.hok.track nS ⟨by rw [List.length_reverse];exact hz,acc.toList,c',rv2,by simpa using hS⟩) I2.bare ?_
  ·have u0:Un (frs X.stack) [s1.heap.objs.size] H1 H1 (s1.heap.push (revObj t ((its.toArray.size:Int) - 1))) h':=by
    have kk:∀ b o,b∉[s1.heap.objs.size]->(s1.heap.push (revObj t ((its.toArray.size:Int) - 1))).get? b=some o->h'.get? b=some o:=λb o hb z=>hk b o (λy=>hb (by simp [y])) z
    exact ⟨λb o z _ _ hx=>kk b o hx z,λb o z _ _ hx=>⟨o.slots,kk b o hx z⟩,λb o z n _=>n,λb o z hx=>⟨o,kk b o hx z⟩,λ_ _ z=>z,λ_ _ _ z=>z,λb ps z=>⟨#[],by rw [z];simp⟩⟩
   exact u0.track nS (Heap.get?_none_of_le (Nat.le_refl _))
  ·intro b hb
   obtain rfl:=List.mem_singleton.mp hb
   exact ⟨f3,f1,f4,f5⟩
 exact ⟨.ref _,_,I4,rfl,q _ nS⟩
theorem M7 {a:Expr}{ta:TA}{p1 p2 Qo HQ:Pos}(hc:X.calm=true)(rh:Gl X "list")(ri:X.mg "list"=none)(rj:Gl X "reversed")(rl:X.mg "reversed"=none)(ha:SA X [a] ta)
  (hs:starEach [a] X.env=[(false,eval a X.env)]:=by rfl)
  (he:starEach [.Call (.Name "reversed" p2) [a] [] HQ] X.env=(false,eval (.Call (.Name "reversed" p2) [a] [] HQ) X.env)::starEach [] X.env:=by rfl) :
  SE X (.Call (.Name "list" p1) [.Call (.Name "reversed" p2) [a] [] HQ] [] Qo) (G4 X.K ta):=⟨Kg hc rh ri rj rl ha.out hs he⟩
end
section
variable {X:Cx}{o e value:Expr}{f x:Str}{pos gO p pos':Pos}{ta tv te:TE}{es:List Expr}{t:TA}
theorem iG {i:Nat}{op:Operator}{ti:gH}(hN:X.N.Nodup)(hi:X.N[i]?=some x)(hx:Loc X.env.scope x)(ho:pT X op ti)(he:SE X e te)(hf:X.fn x=true\/X.env.scope.names.lookup x=some .local:=by first | exact .inl rfl | exact .inr rfl | assumption):
  SS X (.AugAssign (.Name x pos') op e pos) (Wo i te ti):=⟨Wq hN hi hx he.out ho hf⟩
theorem M8 {C fi:Addr}{k:Nat}{fd:FuncData}{ps:List Str}{sp:Sp}(M:Mk X.K C fi)(F:AY X.prog X.w X.K X.mg X.base C5 k fi fd ps sp)(hb:Binds X.K fd ps [])(hm:X.mg x=some (.ref C))(hr:Bh (k+1) X.A)(hg:Gl X x)(ha:SA X (e::es) t)(FR:(x==("__debug__":Str))=false:=by decide)
  (he:starEach (e::es) X.env=(false,eval e X.env)::starEach es X.env:=by first | exact Es | exact DB | exact DA | exact Et | exact Eu | exact Ew | exact Gj | rfl) (E4:(backTo pos (starEach es X.env)).any (·.1)=false:=by rfl) :
  SE X (.Call (.Name x p) (e::es) [] pos) (PD C sp [] E0 t):=⟨Se M F hr hg hm hb .nil Ha ha.out FR he E4⟩
end
section
variable {K:W.Frag}{σ:St}{H:Hp}{Q:VK}{D:Ends}{ta tv te:TE}{f:Str}{t:TA}{C:Addr}{sp:Sp}{E:XK}{u:TS}
theorem rn (q:ta σ H λx H1=>Pz K f Q x H1):WD K ta f σ H Q:=q
theorem o8 (q:t σ H λvs H1=>∀ x dx,H1 x=none->H1 dx=none->dx≠x->sp (.ref x::(vs++[])) (upd (upd H1 dx (.own x)) x (.ins C dx [])) (λv H2=>v=.non/\Q (.ref x) H2) E):PD C sp [] E t σ H Q:=q
theorem oa (q:tv σ H λy H1=>ta σ H1 λx H2=>MI K f D.nx σ y x H2):S9 K ta tv f D σ H:=q
theorem Xj (q:tv σ H λy H1=>ta σ H1 λx H2=>MI K f (u D) σ y x H2):Be (S9 K ta tv f) u D σ H:=q
theorem Xk {td ty:TE}(q:tv σ H λv H1=>td σ H1 λx H2=>ty σ H2 λy H3=>LL (u D) σ v x y H3):Be (PZ td ty tv) u D σ H:=q
theorem rp {i:Nat}{x:V}{g:Int->Int->Int}(h:σ[i]?=some (some x))(q:te σ H λy H1=>∃ a b,x=.int a/\y=.int b/\D.nx (σ.set i (some (.int (g a b)))) H1):Wo i te (ipI g) D σ H:=⟨x,h,q⟩
noncomputable def rA (J:It)(g:TG)(tb:TS)(D:Ends)(σ:St)(H:Hp):Prop:=∃ W:Nat->Nat->St->Hp->Prop,(∃ m,W 0 m σ H)/\∀ i m σ H,W i m σ H ->
 (J.stop i H/\D.nx σ H)\/(J.go i H/\∃ N:St->Hp->Prop,(∀ σ' H',N σ' H'->∃ m',m' < m/\W (i+1) m' σ' H')/\∀ x H',J.yld i H x H'->g x σ H' fun σ2 H2=>tb { D with nx:=N,ct:=N,bk:=D.nx } σ2 H2)
theorem fJ {wi:TI}{g:TG}{tb:TS}(q:wi σ H λJ H1=>rA J g tb { D with nx:=u D } σ H1):Be (Wv wi g tb) u D σ H:=q
theorem oe {R:It->Hp->Prop}(q:t σ H λvs H1=>Qb K R vs H1):W' K t σ H R:=q
theorem QF {i:Nat}{x:V}{R:St->Hp->Prop}(q:R (σ.set i (some x)) H):D2 i x σ H R:=q
theorem og {rows:List (Str × Value)}(q:ta σ H λy H1=>∃ (k:Str) (u:Value) (v:V),y=.str k/\rowAt rows k=some u/\RelV v u/\Q v H1):QD rows ta σ H Q:=q
theorem iH {Nd:List (Str × Sp)}(q:ta σ H λy H1=>∃ (x:Str) (sp:Sp),y=.str x/\(x,sp)∈Nd/\t σ H1 λvs H2=>sp vs H2 Q E):M5 Nd E ta t σ H Q:=q
theorem Xl {T:String}{r:V->List V->Hp->VK->Prop}(q:ta σ H λx H1=>gT K T x H1/\r x [] H1 Q):Sj K T r ta σ H Q:=q
theorem Afu {T:String}{r:V->List V->Hp->VK->Prop}(q:ta σ H λx H1=>gT K T x H1/\t σ H1 λxs H2=>r x xs H2 Q):qc K T r ta t σ H Q:=q
theorem Vn (q:t σ H λvs H1=>∃ a xs,vs=[.ref a]/\B3 K H1 a xs/\xs.length < 1000000/\∀ l,H1 l=none->Q (.ref l) (upd H1 l (.lst xs.reverse))):G4 K t σ H Q:=q
end
end L2
local macro_rules | `(tactic| fail)=>`(tactic| first
 | with_reducible refine L2.rn ?_
 | with_reducible refine L2.o8 ?_
 | with_reducible refine L2.Xj ?_
 | with_reducible refine L2.oa ?_
 | with_reducible refine L2.Xk ?_
 | with_reducible refine T9 ?_
 | with_reducible refine fK ?_
 | with_reducible refine L2.og ?_
 | with_reducible refine L2.fJ ?_
 | with_reducible refine L2.QF ?_
 | with_reducible refine L2.oe ?_
 | with_reducible refine L2.iH ?_
 | with_reducible refine L2.Xl ?_
 | with_reducible refine L2.Afu ?_
 | with_reducible refine oh ?_
 | with_reducible refine L2.Vn ?_
 | ((with_reducible refine L2.rp (x:=?v) ?h ?q);(case h=>rfl)))
namespace L2
open PySem PySem.Spec PyProof.Rows KS
noncomputable def Kh (K:W.Frag)(a:Addr)(xs:List V):Prop:=∃ (o:Obj) (its:Array Value) (n:Nat),K.lookup a=some o/\o.cls=.type "tuple"/\o.data=.seq its n/\its.size<=sizeLine/\Vals xs its.toList
theorem Kh.sq {K:W.Frag}{a:Addr}{xs:List V}(h:Kh K a xs)(H:Hp):Av K H a xs:=.inr h
end L2
namespace KX
open PySem
namespace Ex
noncomputable def wd:Ex->Str
 | nm _=>"name" | num _=>"number" | tru _=>"truth" | emp=>"empty" | fn _ _=>"fun" | rc _ _ _=>"rec" | cal _ _=>"call" | lt _ _ _=>"let" | wh _ _ _=>"when" | pr _ _=>"pair"
 | opn _ _ _ _=>"open" | lk _ _=>"link" | spl _ _ _ _ _=>"split" | op _ _ _=>"op"
noncomputable def prt:Ex->List (Ex × List Str)
 | nm _ | num _ | tru _ | emp=>[]
 | fn x b=>[(b,[x])] | rc f x b=>[(b,[f,x])] | cal a b=>[(a,[]),(b,[])] | lt x a b=>[(a,[]),(b,[x])] | wh a b c=>[(a,[]),(b,[]),(c,[])] | pr a b=>[(a,[]),(b,[])]
 | opn a x y b=>[(a,[]),(b,[x,y])] | lk a b=>[(a,[]),(b,[])] | spl a b x y c=>[(a,[]),(b,[]),(c,[x,y])] | op _ a b=>[(a,[]),(b,[])]
noncomputable def plc:Ex->List (Nat × List Nat)
 | nm _ | num _ | tru _ | emp=>[]
 | fn _ _=>[(2,[1])] | rc _ _ _=>[(3,[1,2])] | cal _ _=>[(1,[]),(2,[])] | lt _ _ _=>[(2,[]),(3,[1])] | wh _ _ _=>[(1,[]),(2,[]),(3,[])] | pr _ _=>[(1,[]),(2,[])]
 | opn _ _ _ _=>[(1,[]),(4,[2,3])] | lk _ _=>[(1,[]),(2,[])] | spl _ _ _ _ _=>[(1,[]),(2,[]),(5,[3,4])] | op _ _ _=>[(2,[]),(3,[])]
end Ex
end KX
namespace L2
open PySem PySem.Spec PyProof.Rows KS KX
noncomputable def rB (H:Hp)(us:List V)(row:Nat × List Nat)(pt:Ex × List Str):Prop:=(∃ re,us[row.1]?=some re/\B9 H pt.1 re)/\Paired (λn x=>us[n]?=some (V.str x)) row.2 pt.2
theorem B9.look {H:Hp}{e:Ex}{r:V}(h:B9 H e r):∃ p us,r=.ref p/\H p=some (.tup (.str e.wd::us))/\Paired (rB H (.str e.wd::us)) e.plc e.prt/\us.length<=5:=by
 cases e with
 | nm _=>obtain ⟨p,h1,h2⟩:=h;exact ⟨p,_,h1,h2,.nil,by simp⟩
 | num _=>obtain ⟨p,h1,h2⟩:=h;exact ⟨p,_,h1,h2,.nil,by simp⟩
 | tru _=>obtain ⟨p,h1,h2⟩:=h;exact ⟨p,_,h1,h2,.nil,by simp⟩
 | emp=>obtain ⟨p,h1,h2⟩:=h;exact ⟨p,_,h1,h2,.nil,by simp⟩
 | fn _ _=>obtain ⟨p,rb,h1,h2,h3⟩:=h;exact ⟨p,_,h1,h2,.cons ⟨⟨rb,rfl,h3⟩,.cons rfl .nil⟩ .nil,by simp⟩
 | rc _ _ _=>obtain ⟨p,rb,h1,h2,h3⟩:=h;exact ⟨p,_,h1,h2,.cons ⟨⟨rb,rfl,h3⟩,.cons rfl (.cons rfl .nil)⟩ .nil,by simp⟩
 | cal _ _=>obtain ⟨p,ra,rb,h1,h2,h3,h4⟩:=h;exact ⟨p,_,h1,h2,.cons ⟨⟨ra,rfl,h3⟩,.nil⟩ (.cons ⟨⟨rb,rfl,h4⟩,.nil⟩ .nil),by simp⟩
 | lt _ _ _=>obtain ⟨p,ra,rb,h1,h2,h3,h4⟩:=h;exact ⟨p,_,h1,h2,.cons ⟨⟨ra,rfl,h3⟩,.nil⟩ (.cons ⟨⟨rb,rfl,h4⟩,.cons rfl .nil⟩ .nil),by simp⟩
 | wh _ _ _=>obtain ⟨p,ra,rb,rc,h1,h2,h3,h4,h5⟩:=h;exact ⟨p,_,h1,h2,.cons ⟨⟨ra,rfl,h3⟩,.nil⟩ (.cons ⟨⟨rb,rfl,h4⟩,.nil⟩ (.cons ⟨⟨rc,rfl,h5⟩,.nil⟩ .nil)),by simp⟩
 | pr _ _=>obtain ⟨p,ra,rb,h1,h2,h3,h4⟩:=h;exact ⟨p,_,h1,h2,.cons ⟨⟨ra,rfl,h3⟩,.nil⟩ (.cons ⟨⟨rb,rfl,h4⟩,.nil⟩ .nil),by simp⟩
 | opn _ _ _ _=>obtain ⟨p,ra,rb,h1,h2,h3,h4⟩:=h;exact ⟨p,_,h1,h2,.cons ⟨⟨ra,rfl,h3⟩,.nil⟩ (.cons ⟨⟨rb,rfl,h4⟩,.cons rfl (.cons rfl .nil)⟩ .nil),by simp⟩
 | lk _ _=>obtain ⟨p,ra,rb,h1,h2,h3,h4⟩:=h;exact ⟨p,_,h1,h2,.cons ⟨⟨ra,rfl,h3⟩,.nil⟩ (.cons ⟨⟨rb,rfl,h4⟩,.nil⟩ .nil),by simp⟩
 | spl _ _ _ _ _=>obtain ⟨p,ra,rb,rc,h1,h2,h3,h4,h5⟩:=h;exact ⟨p,_,h1,h2,.cons ⟨⟨ra,rfl,h3⟩,.nil⟩ (.cons ⟨⟨rb,rfl,h4⟩,.nil⟩ (.cons ⟨⟨rc,rfl,h5⟩,.cons rfl (.cons rfl .nil)⟩ .nil)),by simp⟩
 | op _ _ _=>obtain ⟨p,ra,rb,h1,h2,h3,h4⟩:=h;exact ⟨p,_,h1,h2,.cons ⟨⟨ra,rfl,h3⟩,.nil⟩ (.cons ⟨⟨rb,rfl,h4⟩,.nil⟩ .nil),by simp⟩
noncomputable def Ta (K:W.Frag)(row:Nat × List Nat)(u:V):Prop:=∃ b c,u=.ref b/\Kh K b [.int row.1,.ref c]/\Kh K c (row.2.map λn:Nat=>V.int n)
noncomputable def KPl (K:W.Frag)(rows:List (Str × Value)):Prop:=∀ e:Ex,∃ a us,rowAt rows e.wd=some (.ref a)/\Kh K a us/\Paired (Ta K) e.plc us
end L2
namespace KX
open PySem L2
inductive Itm where
 | sc (v:V) | pt (e:Ex)
namespace Ex
noncomputable def its:Ex->List Itm
 | nm x=>[.sc (.str x)] | num i=>[.sc (.int i)] | tru b=>[.sc (.bl b)] | emp=>[]
 | fn x b=>[.sc (.str x),.pt b] | rc f x b=>[.sc (.str f),.sc (.str x),.pt b] | cal a b=>[.pt a,.pt b] | lt x a b=>[.sc (.str x),.pt a,.pt b] | wh a b c=>[.pt a,.pt b,.pt c] | pr a b=>[.pt a,.pt b]
 | opn a x y b=>[.pt a,.sc (.str x),.sc (.str y),.pt b] | lk a b=>[.pt a,.pt b] | spl a b x y c=>[.pt a,.pt b,.sc (.str x),.sc (.str y),.pt c] | op o a b=>[.sc (.str o),.pt a,.pt b]
noncomputable def given:Ex->List Str
 | fn x _=>[x] | rc f x _=>[f,x] | lt x _ _=>[x] | opn _ x y _=>[x,y] | spl _ _ x y _=>[x,y]
 | _=>[]
noncomputable def fst:Ex->Nat
 | cal a b | pr a b | lk a b=>if isV a then (if isV b then 0 else 2) else 1
 | op _ a b=>if isV a then (if isV b then 0 else 3) else 2
 | lt _ a _=>if isV a then 0 else 2
 | wh a _ _ | opn a _ _ _ | spl a _ _ _ _=>if isV a then 0 else 1
 | _=>0
end Ex
open Ex
noncomputable def gI (x:Str)(v:Ex):Itm->Itm
 | .sc u=>.sc u
 | .pt e=>.pt (give x v e)
noncomputable def Le (x:Str)(v:Ex)(hid:Bool):List Itm->List Itm
 | []=>[]
 | [i]=>[if hid then i else gI x v i]
 | i::r=>gI x v i::Le x v hid r
theorem QG (x y:Str)(v:Ex):(Su.one x v).rm y=if x=y then λ_=>none else Su.one x v:=by
 funext z
 simp only [Su.rm,Su.one]
 by_cases e:x=y
 ·subst e;by_cases e':z=x <;> simp [e']
 ·rw [if_neg e]
  simp only [Su.one]
  by_cases e':z=y
  ·subst e';simp;exact λh=>e h.symm
  ·simp [e']
theorem Hq (e:Ex):sub (λ_=>none) e=e:=by
 have rm:∀ x:Str,Su.rm (λ_=>none) x=λ_=>none:=λx=>by funext y;simp [Su.rm]
 induction e with
 | nm _ | num _ | tru _ | emp=>rfl
 | fn x b ih=>simp only [sub,rm,ih]
 | rc f x b ih=>simp only [sub,rm,ih]
 | cal a b ia ib | pr a b ia ib | lk a b ia ib=>simp only [sub,ia,ib]
 | op o a b ia ib=>simp only [sub,ia,ib]
 | lt x a b ia ib=>simp only [sub,rm,ia,ib]
 | wh a b c ia ib ic=>simp only [sub,ia,ib,ic]
 | opn a x y b ia ib=>simp only [sub,rm,ia,ib]
 | spl a b x y c ia ib ic=>simp only [sub,rm,ia,ib,ic]
theorem Xm (x:Str):Su.rm (λ_=>none) x=λ_=>none:=by funext y;simp [Su.rm]
theorem Jh (x y:Str)(v b:Ex):sub ((Su.one x v).rm y) b=if x=y then b else give x v b:=by
 rw [QG]
 by_cases e:x=y
 ·simp only [e,if_true];exact Hq b
 ·simp only [e,if_false];rfl
theorem Hr (x y z:Str)(v b:Ex):sub (((Su.one x v).rm y).rm z) b=if x=y\/x=z then b else give x v b:=by
 rw [QG]
 by_cases e:x=y
 ·simp only [e,if_true,true_or,Xm];exact Hq b
 ·simp only [e,if_false,false_or];exact Jh x z v b
theorem QH {x:Str}{v e:Ex}(h:∀ y,e≠.nm y):(give x v e).its=Le x v (decide (x∈e.given)) e.its/\(give x v e).wd=e.wd:=by
 cases e with
 | nm y=>exact absurd rfl (h y)
 | num _ | tru _=>exact ⟨rfl,rfl⟩
 | emp=>exact ⟨rfl,rfl⟩
 | fn y b=>simp only [give,sub,its,given,Le,gI,Jh,wd,List.mem_singleton,decide_eq_true_eq,and_true];split <;> simp
 | rc f y b=>simp only [give,sub,its,given,Le,gI,Hr,wd,List.mem_cons,List.not_mem_nil,or_false,decide_eq_true_eq,and_true];split <;> simp
 | cal a b | pr a b | lk a b=>simp [give,sub,its,given,Le,gI,wd]
 | op o a b=>simp [give,sub,its,given,Le,gI,wd]
 | lt y a b=>simp only [give,sub,its,given,Le,gI,Jh,wd,List.mem_singleton,decide_eq_true_eq,and_true];split <;> simp
 | wh a b c=>simp [give,sub,its,given,Le,gI,wd]
 | opn a y z b=>simp only [give,sub,its,given,Le,gI,Hr,wd,List.mem_cons,List.not_mem_nil,or_false,decide_eq_true_eq,and_true];split <;> simp
 | spl a b y z c=>simp only [give,sub,its,given,Le,gI,Hr,wd,List.mem_cons,List.not_mem_nil,or_false,decide_eq_true_eq,and_true];split <;> simp
noncomputable def put:Ex->Nat->Ex->Ex
 | cal a b,k,z=>if k=1 then cal z b else cal a z
 | pr a b,k,z=>if k=1 then pr z b else pr a z
 | lk a b,k,z=>if k=1 then lk z b else lk a z
 | op o a b,k,z=>if k=2 then op o z b else op o a z
 | lt x _ b,_,z=>lt x z b
 | wh _ b c,_,z=>wh z b c
 | opn _ x y b,_,z=>opn z x y b
 | spl _ b x y c,_,z=>spl z b x y c
 | e,_,_=>e
theorem Tb (e:Ex):(e.fst=0/\Cy e=red e)\/∃ a,e.fst<=3/\1<=e.fst/\e.its[e.fst - 1]?=some (.pt a)/\isV a=false/\Cy e=Lc (put e e.fst) (Cy a)/\(∀ z,(put e e.fst z).its=e.its.set (e.fst - 1) (.pt z)/\(put e e.fst z).wd=e.wd):=by
 cases e with
 | nm _ | num _ | tru _ | emp | fn _ _ | rc _ _ _=>exact .inl ⟨rfl,rfl⟩
 | cal a b | pr a b | lk a b =>
  simp only [fst,Cy]
  cases ha:isV a
  ·exact .inr ⟨a,by simp,by simp,by simp [its],ha,by simp;rfl,λz=>by simp [put,its,wd]⟩
  ·cases hb:isV b
   ·exact .inr ⟨b,by simp,by simp,by simp [its],hb,by simp;rfl,λz=>by simp [put,its,wd]⟩
   ·exact .inl ⟨rfl,rfl⟩
 | op o a b =>
  simp only [fst,Cy]
  cases ha:isV a
  ·exact .inr ⟨a,by simp,by simp,by simp [its],ha,by simp;rfl,λz=>by simp [put,its,wd]⟩
  ·cases hb:isV b
   ·exact .inr ⟨b,by simp,by simp,by simp [its],hb,by simp;rfl,λz=>by simp [put,its,wd]⟩
   ·exact .inl ⟨rfl,rfl⟩
 | lt x a b =>
  simp only [fst,Cy]
  cases ha:isV a
  ·exact .inr ⟨a,by simp,by simp,by simp [its],ha,by simp;rfl,λz=>by simp [put,its,wd]⟩
  ·exact .inl ⟨rfl,rfl⟩
 | wh a b c =>
  simp only [fst,Cy]
  cases ha:isV a
  ·exact .inr ⟨a,by simp,by simp,by simp [its],ha,by simp;rfl,λz=>by simp [put,its,wd]⟩
  ·exact .inl ⟨rfl,rfl⟩
 | opn a x y b =>
  simp only [fst,Cy]
  cases ha:isV a
  ·exact .inr ⟨a,by simp,by simp,by simp [its],ha,by simp;rfl,λz=>by simp [put,its,wd]⟩
  ·exact .inl ⟨rfl,rfl⟩
 | spl a b x y c =>
  simp only [fst,Cy]
  cases ha:isV a
  ·exact .inr ⟨a,by simp,by simp,by simp [its],ha,by simp;rfl,λz=>by simp [put,its,wd]⟩
  ·exact .inl ⟨rfl,rfl⟩
end KX
namespace L2
open PySem PySem.Spec PyProof.Rows KS KX
noncomputable def Fc (H:Hp):Itm->V->Prop
 | .sc v,u=>u=v
 | .pt e,u=>B9 H e u
theorem Fc.mono {H H':Hp}(s:Au H H'):∀ {i:Itm} {u:V},Fc H i u->Fc H' i u
 | .sc _,_,h=>h
 | .pt _,_,h=>B9.mono s h
theorem B9.its {H:Hp}{e:Ex}{r:V}(h:B9 H e r):D1 λp us=>r=.ref p/\H p=some (.tup (.str e.wd::us))/\Paired (Fc H) e.its us:=by
 cases e with
 | nm _=>obtain ⟨p,h1,h2⟩:=h;exact ⟨p,_,h1,h2,.cons rfl .nil⟩
 | num _=>obtain ⟨p,h1,h2⟩:=h;exact ⟨p,_,h1,h2,.cons rfl .nil⟩
 | tru _=>obtain ⟨p,h1,h2⟩:=h;exact ⟨p,_,h1,h2,.cons rfl .nil⟩
 | emp=>obtain ⟨p,h1,h2⟩:=h;exact ⟨p,_,h1,h2,.nil⟩
 | fn _ _=>obtain ⟨p,rb,h1,h2,h3⟩:=h;exact ⟨p,_,h1,h2,.cons rfl (.cons h3 .nil)⟩
 | rc _ _ _=>obtain ⟨p,rb,h1,h2,h3⟩:=h;exact ⟨p,_,h1,h2,.cons rfl (.cons rfl (.cons h3 .nil))⟩
 | cal _ _=>obtain ⟨p,ra,rb,h1,h2,h3,h4⟩:=h;exact ⟨p,_,h1,h2,.cons h3 (.cons h4 .nil)⟩
 | lt _ _ _=>obtain ⟨p,ra,rb,h1,h2,h3,h4⟩:=h;exact ⟨p,_,h1,h2,.cons rfl (.cons h3 (.cons h4 .nil))⟩
 | wh _ _ _=>obtain ⟨p,ra,rb,rc,h1,h2,h3,h4,h5⟩:=h;exact ⟨p,_,h1,h2,.cons h3 (.cons h4 (.cons h5 .nil))⟩
 | pr _ _=>obtain ⟨p,ra,rb,h1,h2,h3,h4⟩:=h;exact ⟨p,_,h1,h2,.cons h3 (.cons h4 .nil)⟩
 | opn _ _ _ _=>obtain ⟨p,ra,rb,h1,h2,h3,h4⟩:=h;exact ⟨p,_,h1,h2,.cons h3 (.cons rfl (.cons rfl (.cons h4 .nil)))⟩
 | lk _ _=>obtain ⟨p,ra,rb,h1,h2,h3,h4⟩:=h;exact ⟨p,_,h1,h2,.cons h3 (.cons h4 .nil)⟩
 | spl _ _ _ _ _=>obtain ⟨p,ra,rb,rc,h1,h2,h3,h4,h5⟩:=h;exact ⟨p,_,h1,h2,.cons h3 (.cons h4 (.cons rfl (.cons rfl (.cons h5 .nil))))⟩
 | op _ _ _=>obtain ⟨p,ra,rb,h1,h2,h3,h4⟩:=h;exact ⟨p,_,h1,h2,.cons rfl (.cons h3 (.cons h4 .nil))⟩
theorem Fm {α β:Type}{F:α->β->Prop}{ms:List β}(h:Paired F [] ms):ms=[]:=by cases h;rfl
theorem Cs {α β:Type}{F:α->β->Prop}{a:α}{as:List α}{ms:List β}(h:Paired F (a::as) ms):D1 λx xs=>ms=x::xs/\F a x/\Paired F as xs:=by
 cases h with
 | cons r t=>exact ⟨_,_,rfl,r,t⟩
theorem B9.of_its {H:Hp}{e:Ex}{p:Addr}{us:List V}(h1:H p=some (.tup (.str e.wd::us)))(h2:Paired (Fc H) e.its us):B9 H e (.ref p):=by
 cases e with
 | emp=>cases Fm h2;exact ⟨p,rfl,h1⟩
 | nm _ | num _ | tru _=>obtain ⟨a,_,rfl,ha,h2⟩:=Cs h2;cases Fm h2;cases ha;exact ⟨p,rfl,h1⟩
 | fn _ _=>obtain ⟨a,_,rfl,ha,h2⟩:=Cs h2;obtain ⟨b,_,rfl,hb,h2⟩:=Cs h2;cases Fm h2;cases ha;exact ⟨p,b,rfl,h1,hb⟩
 | rc _ _ _=>obtain ⟨a,_,rfl,ha,h2⟩:=Cs h2;obtain ⟨b,_,rfl,hb,h2⟩:=Cs h2;obtain ⟨c,_,rfl,hc,h2⟩:=Cs h2;cases Fm h2;cases ha;cases hb;exact ⟨p,c,rfl,h1,hc⟩
 | cal _ _ | pr _ _ | lk _ _=>obtain ⟨a,_,rfl,ha,h2⟩:=Cs h2;obtain ⟨b,_,rfl,hb,h2⟩:=Cs h2;cases Fm h2;exact ⟨p,a,b,rfl,h1,ha,hb⟩
 | lt _ _ _ | op _ _ _=>obtain ⟨a,_,rfl,ha,h2⟩:=Cs h2;obtain ⟨b,_,rfl,hb,h2⟩:=Cs h2;obtain ⟨c,_,rfl,hc,h2⟩:=Cs h2;cases Fm h2;cases ha;exact ⟨p,b,c,rfl,h1,hb,hc⟩
 | wh _ _ _=>obtain ⟨a,_,rfl,ha,h2⟩:=Cs h2;obtain ⟨b,_,rfl,hb,h2⟩:=Cs h2;obtain ⟨c,_,rfl,hc,h2⟩:=Cs h2;cases Fm h2;exact ⟨p,a,b,c,rfl,h1,ha,hb,hc⟩
 | opn _ _ _ _=>obtain ⟨a,_,rfl,ha,h2⟩:=Cs h2;obtain ⟨b,_,rfl,hb,h2⟩:=Cs h2;obtain ⟨c,_,rfl,hc,h2⟩:=Cs h2;obtain ⟨d,_,rfl,hd,h2⟩:=Cs h2;cases Fm h2;cases hb;cases hc;exact ⟨p,a,d,rfl,h1,ha,hd⟩
 | spl _ _ _ _ _=>obtain ⟨a,_,rfl,ha,h2⟩:=Cs h2;obtain ⟨b,_,rfl,hb,h2⟩:=Cs h2;obtain ⟨c,_,rfl,hc,h2⟩:=Cs h2;obtain ⟨d,_,rfl,hd,h2⟩:=Cs h2;obtain ⟨e,_,rfl,he,h2⟩:=Cs h2;cases Fm h2;cases hc;cases hd;exact ⟨p,a,b,e,rfl,h1,ha,hb,he⟩
end L2
namespace KX
open PySem Ex
theorem q1 (a b:Nat):a < 1+max a b:=by omega
theorem q3 {a b v:Nat}(h:v<=b):v < 1+max a b:=by omega
theorem q4 (a b c:Nat):a < 1+max a (max b c):=by omega
theorem q5 (a b c:Nat):b < 1+max a (max b c):=by omega
theorem q6 {a b c v:Nat}(h:v<=c):v < 1+max a (max b c):=by omega
theorem C0 {e a:Ex}(h:Itm.pt a∈e.its):dep dz a < dep dz e:=by
 have two:∀ {u v:Ex},a=u\/a=v->∀ n,dep dz v<=n->dep dz a < 1+max (dep dz u) n:=λ{u v} h n hn=>by
  rcases h with rfl | rfl
  ·exact q1 _ _
  ·exact q3 hn
 have three:∀ {u v w:Ex},a=u\/a=v\/a=w->∀ n,dep dz w<=n->dep dz a < 1+max (dep dz u) (max (dep dz v) n):=λ{u v w} h n hn=>by
  rcases h with rfl | rfl | rfl
  ·exact q4 _ _ _
  ·exact q5 _ _ _
  ·exact q6 hn
 cases e with
 | nm _ | num _ | tru _ | emp=>simp [its] at h
 | fn x b=>simp [its] at h;subst h;simp only [dep,Ir];exact Nat.lt_add_of_pos_left Nat.one_pos
 | rc f x b=>simp [its] at h;subst h;simp only [dep,Ir];exact Nat.lt_add_of_pos_left Nat.one_pos
 | cal u v | pr u v | lk u v=>simp [its] at h;exact two h _ (Nat.le_refl _)
 | op o u v=>simp [its] at h;exact two h _ (Nat.le_refl _)
 | lt x u v=>simp [its] at h;exact two h _ (DW (Na _))
 | wh u v w=>simp [its] at h;exact three h _ (Nat.le_refl _)
 | opn u x y v=>simp [its] at h;exact two h _ (DW (Na _))
 | spl u v x y w=>simp [its] at h;exact three h _ (DW (Na _))
open L2
theorem Nf {x:Str}{v:Ex}{hid:Bool}:∀ {l:List Itm} {i:Nat} {it:Itm},l[i]?=some it->(Le x v hid l)[i]?=some (if hid=true/\i+1=l.length then it else gI x v it)
 | [],_,_,h=>by simp at h
 | [a],0,_,h=>by
  simp at h;subst h
  cases hid <;> simp [Le]
 | [_],_+1,_,h=>by simp at h
 | a::b::r,0,_,h=>by
  simp at h;subst h
  simp [Le]
 | a::b::r,i+1,_,h=>by
  have:=Nf (x:=x) (v:=v) (hid:=hid) (l:=b::r) (i:=i) (by simpa using h)
  simp only [Le,List.getElem?_cons_succ,List.length_cons] at this ⊢
  rw [this]
  simp
theorem Ji (x:Str)(v:Ex)(hid:Bool):∀ l:List Itm,(Le x v hid l).length=l.length
 | []=>rfl
 | [a]=>rfl
 | a::b::r=>by simp only [Le,List.length_cons];rw [Ji x v hid (b::r)];rfl
noncomputable def oi:V->Bool
 | .str _ | .int _ | .bl _=>true
 | _=>false
theorem M9 {e:Ex}{u:V}(h:Itm.sc u∈e.its):oi u=true:=by
 cases e <;> simp [its] at h <;> first | (subst h;rfl) | (rcases h with rfl | rfl <;> rfl)
theorem GG (e:Ex):e.its.length<=5:=by cases e <;> simp [its]
end KX
namespace KX
open PySem Ex
noncomputable def Ex.pls:Ex->List Nat
 | cal _ _ | pr _ _ | lk _ _=>[1,2]
 | op _ _ _=>[2,3]
 | lt _ _ _=>[2]
 | wh _ _ _ | opn _ _ _ _ | spl _ _ _ _ _=>[1]
 | _=>[]
noncomputable def Om (e:Ex)(k:Nat):Bool:=match e.its[k - 1]? with
 | some (.pt a)=>!isV a
 | _=>false
theorem Ng (e:Ex):e.fst=((e.pls).find? (Om e)).getD 0:=by
 cases e with
 | nm _ | num _ | tru _ | emp | fn _ _ | rc _ _ _=>rfl
 | cal a b | pr a b | lk a b | op _ a b=>cases ha:isV a <;> cases hb:isV b <;> simp [fst,pls,Om,its,List.find?,ha,hb]
 | lt _ a _ | wh a _ _ | opn a _ _ _ | spl a _ _ _ _=>cases ha:isV a <;> simp [fst,pls,Om,its,List.find?,ha]
theorem Xn {e:Ex}{k:Nat}(h:k∈e.pls):∃ a,e.its[k - 1]?=some (.pt a)/\1<=k:=by
 cases e <;> simp [pls] at h <;> first | (rcases h with rfl | rfl <;> exact ⟨_,rfl,⟨⟩⟩) | (subst h;exact ⟨_,rfl,⟨⟩⟩)
end KX
namespace KX
open PySem L2
inductive MS where
 | num (i:Int) | tru (b:Bool) | emp | nm (n:Nat) | fn (n:Nat) | rc (n:Nat) | pr | lk | op (o:Str) | call | back | lt | opn | drop (n:Nat) | jump (n:Nat) | wh (n:Nat) | spl (n:Nat) | fin
namespace MS
noncomputable def cnt:MS->List V
 | num i=>[.str "number",.int i] | tru b=>[.str "truth",.bl b] | emp=>[.str "empty"] | nm n=>[.str "name",.int n] | fn n=>[.str "fun",.int n] | rc n=>[.str "rec",.int n]
 | pr=>[.str "pair"] | lk=>[.str "link"] | op o=>[.str "op",.str o] | call=>[.str "call"] | back=>[.str "back"] | lt=>[.str "let"] | opn=>[.str "open"]
 | drop n=>[.str "drop",.int n] | jump n=>[.str "jump",.int n] | wh n=>[.str "when",.int n] | spl n=>[.str "split",.int n] | fin=>[.str "end"]
noncomputable def ok:MS->Prop
 | op o=>Ex.isOp o
 | _=>True
noncomputable def pl:MS->Nat
 | pr | lk=>1
 | _=>0
end MS
noncomputable def GH:List MS->Nat
 | []=>0
 | s::r=>s.pl+GH r
theorem Tc (a b:List MS):GH (a++b)=GH a+GH b:=by
 induction a with
 | nil=>simp [GH]
 | cons s r ih=>simp only [List.cons_append,GH,ih];omega
end KX
namespace L2
open PySem PySem.Spec PyProof.Rows KS KX
noncomputable def QI (H:Hp)(s:MS)(r:V):Prop:=∃ p,r=.ref p/\H p=some (.tup s.cnt)
theorem QI.mono {H H':Hp}(t:Au H H'){s:MS}{r:V}(h:QI H s r):QI H' s r:=by
 obtain ⟨p,h1,h2⟩:=h
 exact ⟨p,h1,t _ _ h2⟩
noncomputable def Nh (H:Hp)(l:Addr)(code:List MS):Prop:=∃ vs,H l=some (.lst vs)/\Paired (QI H) code vs
theorem Nh.mono {H H':Hp}(s:An H H'){l:Addr}{c:List MS}(h:Nh H l c):Nh H' l c:=by
 obtain ⟨vs,h1,h2⟩:=h
 exact ⟨vs,s _ _ h1,Paired.mapP h2 λ_ _ z=>z.mono (Au.of_same s)⟩
theorem Bn {H:Hp}{Q:VK}{a b:Addr}{c d:List MS}(ha:Nh H a c)(hb:Nh H b d)(hn:c.length+d.length<=100000)(q:∀ p H2,H p=none->An H H2->Nh H2 p (c++d)->Q (.ref p) H2):LI (.ref a) (.ref b) H Q:=by
 obtain ⟨xs,h1,h2⟩:=ha
 obtain ⟨ys,h3,h4⟩:=hb
 have l1:=Paired.len h2
 have l2:=Paired.len h4
 refine Dp h1 h3 (BX ()) λp H2 hp s2 e2=>q p H2 hp s2 ⟨_,e2,Paired.app (Paired.mapP h2 λ_ _ z=>z.mono (Au.of_same s2)) (Paired.mapP h4 λ_ _ z=>z.mono (Au.of_same s2))⟩
theorem D6 {H:Hp}{p q:Addr}{s:MS}(h1:H p=some (.tup s.cnt))(h2:H q=some (.lst [.ref p])):Nh H q [s]:=⟨_,h2,.cons ⟨p,rfl,h1⟩ .nil⟩
theorem Td {α β:Type}{F:α->β->Prop}{ms:List β}(h:Paired F [] ms):ms=[]:=by cases h;rfl
theorem Dq {α β:Type}{F:α->β->Prop}{a:α}{ms:List β}(h:Paired F [a] ms):∃ x,ms=[x]/\F a x:=by
 cases h with
 | cons r t=>cases t;exact ⟨_,rfl,r⟩
theorem Dh {α β:Type}{F:α->β->Prop}{a b:α}{ms:List β}(h:Paired F [a,b] ms):D1 λx y=>ms=[x,y]/\F a x/\F b y:=by
 cases h with
 | cons r t=>obtain ⟨y,rfl,h⟩:=Dq t;exact ⟨_,y,rfl,r,h⟩
theorem Ni {α β:Type}{F:α->β->Prop}{a b c:α}{ms:List β}(h:Paired F [a,b,c] ms):Dw λx y z=>ms=[x,y,z]/\F a x/\F b y/\F c z:=by
 cases h with
 | cons r t=>obtain ⟨y,z,rfl,h⟩:=Dh t;exact ⟨_,y,z,rfl,r,h⟩
section
variable {X:Cx}
noncomputable def rC:R2:=λx y H Q=>Iv8 λ(p r:Addr) (a b:Str) (q:Addr) (us ts:List V) (c:Bool)=>x=.ref p/\y=.ref r/\H p=some (.tup (.str a::.ref q::us))/\H q=some (.tup ts)/\H r=some (.tup [.str b,.bl c])/\a≠b/\Q (.bl false) H
theorem Xo (hu:X.A.units+64 < cLine):EG X (compareOp .Eq) rC:=by
 intro pins s σ H x y v u Q I rx ry h
 obtain ⟨p,r,a,b,q,us,ts,c,rfl,rfl,hp,hq,hr,T8,k⟩:=h
 cases rx
 cases ry
 obtain ⟨i1,r1,p1,_⟩:=I.tuple (Av.of (K:=X.K) hp)
 obtain ⟨i2,r2,p2,_⟩:=I.tuple (Av.of (K:=X.K) hr)
 obtain ⟨i3,r3,p3,_⟩:=I.tuple (Av.of (K:=X.K) hq)
 cases r1 with | cons ra r1=>cases r1 with | cons rq r1 =>
 cases r2 with | cons rb r2=>cases r2 with | cons rc r2 =>
 cases r2
 obtain ⟨ta,rfl⟩:=ra
 obtain ⟨tb,rfl⟩:=rb
 cases rq
 cases rc
 have hb:(a==b)=false:=by simpa using T8
 have hu1:X.A.in1.units < cLine:=by
  simp only [Around.in1_units];omega
 refine PySem.SeqAt.eq_tupleAt (e:=λ_=>false) p1 p2 () (λj h1 h2=>?_) (B8 I k ?_)
 ·cases j with
  | zero =>
   have:=PySem.SeqAt.EqAt.str_str (A:=X.A.in1) (s:=s) a ta b tb
   rw [hb] at this
   exact this
  | succ j=>cases j with
   | zero=>exact PySem.SeqAt.EqAt.tuple_bool c p3 hu1
   | succ j=>simp at h2;omega
 ·have e2:∀ (l:List Value) (x y z t:Value),min (x::y::l).toArray.size [z,t].toArray.size=2:=λl x y z t=>by simp
  rw [e2]
  rfl
end
end L2
section
local macro_rules | `(tactic| omega)=>`(tactic| lia)
namespace KX
open PySem L2
inductive MV where
 | num (i:Int) | tru (b:Bool) | emp | fn (r:Bool) (p:Nat) (h:List MV) | two (l:Bool) (a b:MV)
mutual
noncomputable def HS:MV->Nat
 | .num _ | .tru _ | .emp=>0
 | .fn _ _ h=>Oo h
 | .two _ a b=>1+max (HS a) (HS b)
noncomputable def Oo:List MV->Nat
 | []=>0
 | v::r=>max (HS v) (Oo r)
end
mutual
noncomputable def G5:MV->Nat
 | .num _ | .tru _ | .emp=>0
 | .fn _ _ h=>max h.length (Oq h)
 | .two _ a b=>max (G5 a) (G5 b)
noncomputable def Oq:List MV->Nat
 | []=>0
 | v::r=>max (G5 v) (Oq r)
end
theorem Jj {h:List MV}{n:Nat}:Oo h<=n↔∀ v∈h,HS v<=n:=by
 induction h with
 | nil=>simp [Oo]
 | cons v r ih=>simp only [Oo,List.mem_cons,forall_eq_or_imp,<- ih];omega
theorem Jk {h:List MV}{n:Nat}:Oq h<=n↔∀ v∈h,G5 v<=n:=by
 induction h with
 | nil=>simp [Oq]
 | cons v r ih=>simp only [Oq,List.mem_cons,forall_eq_or_imp,<- ih];omega
structure Ma where
 at':Nat
 calls:Nat
 pile:List MV
 held:List MV
 frs:List (Nat × List MV)
inductive Rs where
 | go (s:Ma) | stuck | told (v:MV)
noncomputable def FC (o:Str)(i j:Int):MV :=
 if o="plus" then .num (i+j) else if o="minus" then .num (i - j) else if o="less" then .tru (decide (i < j)) else .tru (decide (i=j))
noncomputable def exec:MS->Ma->Rs
 | .num i,s=>.go { s with at':=s.at'+1,pile:=.num i::s.pile }
 | .tru b,s=>.go { s with at':=s.at'+1,pile:=.tru b::s.pile }
 | .emp,s=>.go { s with at':=s.at'+1,pile:=.emp::s.pile }
 | .nm n,s=>match (if n < s.held.length then s.held[s.held.length - 1 - n]? else none) with
  | some v=>.go { s with at':=s.at'+1,pile:=v::s.pile }
  | none=>.stuck
 | .fn n,s=>.go { s with at':=s.at'+1+n,pile:=.fn false (s.at'+1) s.held::s.pile }
 | .rc n,s=>.go { s with at':=s.at'+1+n,pile:=.fn true (s.at'+1) s.held::s.pile }
 | .pr,s=>match s.pile with
  | b::a::r=>.go { s with at':=s.at'+1,pile:=.two false a b::r }
  | _=>.stuck
 | .lk,s=>match s.pile with
  | b::a::r=>.go { s with at':=s.at'+1,pile:=.two true a b::r }
  | _=>.stuck
 | .op o,s=>match s.pile with
  | .num j::.num i::r=>.go { s with at':=s.at'+1,pile:=FC o i j::r }
  | _=>.stuck
 | .call,s=>match s.pile with
  | v::.fn r a h::p=>.go ⟨a,s.calls+1,p,h++(if r then [.fn r a h,v] else [v]),(s.at'+1,s.held)::s.frs⟩
  | _=>.stuck
 | .back,s=>match s.frs with
  | (a,h)::r=>.go ⟨a,s.calls,s.pile,h,r⟩
  | []=>.stuck
 | .lt,s=>match s.pile with
  | v::p=>.go { s with at':=s.at'+1,pile:=p,held:=s.held++[v] }
  | []=>.stuck
 | .opn,s=>match s.pile with
  | .two false a b::p=>.go { s with at':=s.at'+1,pile:=p,held:=s.held++[a,b] }
  | _=>.stuck
 | .drop n,s=>if n<=s.held.length then .go { s with at':=s.at'+1,held:=s.held.take (s.held.length - n) } else .stuck
 | .jump n,s=>.go { s with at':=s.at'+1+n }
 | .wh n,s=>match s.pile with
  | .tru b::p=>.go { s with at':=if b then s.at'+1 else s.at'+1+n,pile:=p }
  | _=>.stuck
 | .spl n,s=>match s.pile with
  | .emp::p=>.go { s with at':=s.at'+1,pile:=p }
  | .two true a b::p=>.go { s with at':=s.at'+1+n,pile:=p,held:=s.held++[a,b] }
  | _=>.stuck
 | .fin,s=>match s.pile with
  | v::_=>.told v
  | []=>.stuck
noncomputable def step (code:List MS)(s:Ma):Rs:=match code[s.at']? with
 | some st=>exec st s
 | none=>.stuck
inductive Out where
 | none | stuck | told (v:MV) (c:Nat)
inductive Ends (code:List MS)(most:Nat):Nat->Ma->Out->Prop
 | over {s:Ma}:most < s.calls->Ends code most 0 s .none
 | stuck {s:Ma}:s.calls<=most->step code s=.stuck->Ends code most 0 s .stuck
 | told {s:Ma} {v:MV}:s.calls<=most->step code s=.told v->Ends code most 0 s (.told v s.calls)
 | go {n:Nat} {s s':Ma} {o:Out}:s.calls<=most->step code s=.go s'->Ends code most n s' o->Ends code most (n+1) s o
noncomputable def fL (L:Nat):List (Nat × List MV)->Nat
 | []=>0
 | f::r=>(L - f.1+1)+fL L r
noncomputable def Ma.mu (L most:Nat)(s:Ma):Nat:=(most+1 - s.calls) * (L+2)+(L - s.at')+fL L s.frs
noncomputable def iI (code:List MS):List (Nat × List MV)->Nat
 | []=>0
 | f::r=>GH (code.drop f.1)+iI code r
noncomputable def Ma.pot (code:List MS)(most:Nat)(s:Ma):Nat:=(most - s.calls) * GH code+GH (code.drop s.at')+iI code s.frs
theorem Ki (code:List MS)(n:Nat):GH (code.drop n)<=GH code:=by
 have:=Tc (code.take n) (code.drop n)
 rw [List.take_append_drop] at this
 omega
theorem Kj (code:List MS){n m:Nat}(h:n<=m):GH (code.drop m)<=GH (code.drop n):=by
 have:code.drop m=(code.drop n).drop (m - n):=by rw [List.drop_drop];congr 1;omega
 rw [this]
 exact Ki _ _
theorem Xp {code:List MS}{n:Nat}{st:MS}(h:code[n]?=some st):GH (code.drop n)=st.pl+GH (code.drop (n+1)):=by
 obtain ⟨hl,e⟩:=List.getElem?_eq_some_iff.mp h
 rw [List.drop_eq_getElem_cons hl,e]
 rfl
structure Good (code:List MS)(most B B2:Nat)(s:Ma):Prop where
 ex:D1 λD Hm=>(∀ v∈s.pile,HS v<=D/\G5 v<=Hm)/\(∀ v∈s.held,HS v<=D/\G5 v<=Hm)/\(∀ f∈s.frs,f.2.length<=Hm/\∀ v∈f.2,HS v<=D/\G5 v<=Hm)/\s.held.length<=Hm /\
  D+s.pot code most<=B/\Hm+2 * s.mu code.length most<=B2
 pl:s.pile.length+s.mu code.length most<=B2
 fr:s.frs.length<=s.calls
theorem Good.loc {code:List MS}{most B B2:Nat}{s s':Ma}(G:Good code most B B2 s)(k:Nat)(Vo:s.at' < code.length)(h1:s.at' < s'.at')(hc:s'.calls=s.calls)(hf:s'.frs=s.frs)
  (hn:GH (code.drop s'.at')+k<=GH (code.drop s.at')) (hp:s'.pile.length<=s.pile.length+1) (hh:s'.held.length<=s.held.length+2)
  (hv:∀ D Hm,(∀ v∈s.pile,HS v<=D/\G5 v<=Hm)->(∀ v∈s.held,HS v<=D/\G5 v<=Hm)->s.held.length<=Hm->(∀ v∈s'.pile,HS v<=D+k/\G5 v<=Hm)/\∀ v∈s'.held,HS v<=D+k/\G5 v<=Hm) :
  Good code most B B2 s'/\s'.mu code.length most < s.mu code.length most:=by
 obtain ⟨⟨D,Hm,g1,g2,g3,g4,g5,g6⟩,g7,g8⟩:=G
 have mu:s'.mu code.length most < s.mu code.length most:=by
  unfold Ma.mu
  rw [hc,hf]
  omega
 obtain ⟨v1,v2⟩:=hv D Hm g1 g2 g4
 refine ⟨⟨⟨D+k,Hm+2,λv h=>⟨(v1 v h).1,by have:=(v1 v h).2;omega⟩,λv h=>⟨(v2 v h).1,by have:=(v2 v h).2;omega⟩,λf h=>?_,(),?_,()⟩,(),by rw [hc,hf];exact g8⟩,mu⟩
 ·rw [hf] at h
  obtain ⟨a,b⟩:=g3 f h
  exact ⟨(),λv hv=>⟨by have:=(b v hv).1;omega,by have:=(b v hv).2;omega⟩⟩
 ·have e:s'.pot code most+k<=s.pot code most:=by
   unfold Ma.pot
   rw [hc,hf]
   omega
  omega
theorem Good.step {code:List MS}{most B B2:Nat}{s s':Ma}(G:Good code most B B2 s)(hc:s.calls<=most)(h:step code s=.go s'):(s'.calls<=most->Good code most B B2 s')/\s'.mu code.length most < s.mu code.length most:=by
 unfold KX.step at h
 cases e:code[s.at']? with
 | none=>rw [e] at h;cases h
 | some st =>
  rw [e] at h
  have Vo:=(List.getElem?_eq_some_iff.mp e).1
  have np:=Xp e
  have h:exec st s=.go s':=h
  have nd:∀ n,GH (code.drop (s.at'+1+n))<=GH (code.drop (s.at'+1)):=λn=>Kj code ()
  have loc:=λ(k:Nat)=>Good.loc (s':=s') G k Vo
  cases st with
  | num i =>
   cases h
   have:=loc 0 (by simp) rfl rfl (by simp only;omega) (by simp) (by simp) λD Hm a b c=>⟨λv hv=>by
    rcases List.mem_cons.mp hv with rfl | hv
    ·simp [HS,G5]
    ·exact a v hv,b⟩
   exact ⟨λ_=>this.1,this.2⟩
  | tru i =>
   cases h
   have:=loc 0 (by simp) rfl rfl (by simp only;omega) (by simp) (by simp) λD Hm a b c=>⟨λv hv=>by
    rcases List.mem_cons.mp hv with rfl | hv
    ·simp [HS,G5]
    ·exact a v hv,b⟩
   exact ⟨λ_=>this.1,this.2⟩
  | emp =>
   cases h
   have:=loc 0 (by simp) rfl rfl (by simp only;omega) (by simp) (by simp) λD Hm a b c=>⟨λv hv=>by
    rcases List.mem_cons.mp hv with rfl | hv
    ·simp [HS,G5]
    ·exact a v hv,b⟩
   exact ⟨λ_=>this.1,this.2⟩
  | nm n =>
   simp only [exec] at h
   split at h
   ·rename_i v0 e0
    cases h
    split at e0
    ·have hm:=List.mem_of_getElem? e0
     have:=loc 0 (by simp) rfl rfl (by simp only;omega) (by simp) (by simp) λD Hm a b c=>⟨λv hv=>by
      rcases List.mem_cons.mp hv with rfl | hv
      ·exact b _ hm
      ·exact a v hv,b⟩
     exact ⟨λ_=>this.1,this.2⟩
    ·cases e0
   ·cases h
  | fn n =>
   cases h
   have:=loc 0 (by simp only;omega) rfl rfl (by simp only;have:=nd n;omega) (by simp) (by simp) λD Hm a b c=>⟨λv hv=>by
    rcases List.mem_cons.mp hv with rfl | hv
    ·simp only [HS,G5,Nat.add_zero]
     exact ⟨Jj.mpr λv hv=>(b v hv).1,Nat.max_le.mpr ⟨c,Jk.mpr λv hv=>(b v hv).2⟩⟩
    ·exact a v hv,b⟩
   exact ⟨λ_=>this.1,this.2⟩
  | rc n =>
   cases h
   have:=loc 0 (by simp only;omega) rfl rfl (by simp only;have:=nd n;omega) (by simp) (by simp) λD Hm a b c=>⟨λv hv=>by
    rcases List.mem_cons.mp hv with rfl | hv
    ·simp only [HS,G5,Nat.add_zero]
     exact ⟨Jj.mpr λv hv=>(b v hv).1,Nat.max_le.mpr ⟨c,Jk.mpr λv hv=>(b v hv).2⟩⟩
    ·exact a v hv,b⟩
   exact ⟨λ_=>this.1,this.2⟩
  | pr =>
   simp only [exec] at h
   split at h
   ·rename_i b0 a0 r0 e0
    cases h
    have:=loc 1 (by simp) rfl rfl (by simp only [MS.pl] at np;simp only;omega) (by rw [e0];simp <;> omega) (by simp) λD Hm a b c=>⟨λv hv=>by
     rw [e0] at a
     rcases List.mem_cons.mp hv with rfl | hv
     ·have h1:=a b0 (.head _)
      have h2:=a a0 (.tail _ (.head _))
      simp only [HS,G5];omega
     ·have:=a v (.tail _ (.tail _ hv));omega,λv hv=>by have:=b v hv;omega⟩
    exact ⟨λ_=>this.1,this.2⟩
   ·cases h
  | lk =>
   simp only [exec] at h
   split at h
   ·rename_i b0 a0 r0 e0
    cases h
    have:=loc 1 (by simp) rfl rfl (by simp only [MS.pl] at np;simp only;omega) (by rw [e0];simp <;> omega) (by simp) λD Hm a b c=>⟨λv hv=>by
     rw [e0] at a
     rcases List.mem_cons.mp hv with rfl | hv
     ·have h1:=a b0 (.head _)
      have h2:=a a0 (.tail _ (.head _))
      simp only [HS,G5];omega
     ·have:=a v (.tail _ (.tail _ hv));omega,λv hv=>by have:=b v hv;omega⟩
    exact ⟨λ_=>this.1,this.2⟩
   ·cases h
  | op o =>
   simp only [exec] at h
   split at h
   ·rename_i j0 i0 r0 e0
    cases h
    have:=loc 0 (by simp) rfl rfl (by simp only;omega) (by rw [e0];simp <;> omega) (by simp) λD Hm a b c=>⟨λv hv=>by
     rw [e0] at a
     rcases List.mem_cons.mp hv with rfl | hv
     ·have:HS (FC o i0 j0)=0/\G5 (FC o i0 j0)=0:=by
       unfold FC
       split
       ·exact ⟨rfl,rfl⟩
       ·split
        ·exact ⟨rfl,rfl⟩
        ·split <;> exact ⟨rfl,rfl⟩
      omega
     ·have:=a v (.tail _ (.tail _ hv));omega,λv hv=>by have:=b v hv;omega⟩
    exact ⟨λ_=>this.1,this.2⟩
   ·cases h
  | call =>
   simp only [exec] at h
   split at h
   ·rename_i v0 r0 a0 h0 p0 e0
    cases h
    obtain ⟨⟨D,Hm,g1,g2,g3,g4,g5,g6⟩,g7,g8⟩:=G
    have mu:Ma.mu code.length most ⟨a0,s.calls+1,p0,h0++(if r0=true then [.fn r0 a0 h0,v0] else [v0]),(s.at'+1,s.held)::s.frs⟩ < s.mu code.length most:=by
     unfold Ma.mu
     simp only [fL]
     have e1:(most+1 - s.calls)=(most+1 - (s.calls+1))+1:=by omega
     rw [e1,Nat.add_mul]
     omega
    refine ⟨λHI=>?_,mu⟩
    rw [e0] at g1
    have gv:=g1 v0 (.head _)
    have gf:=g1 (.fn r0 a0 h0) (.tail _ (.head _))
    have gf1:Oo h0<=D:=gf.1
    have gf2:max h0.length (Oq h0)<=Hm:=gf.2
    have hl:(h0++(if r0=true then [MV.fn r0 a0 h0,v0] else [v0])).length<=Hm+2:=by
     rw [List.length_append]
     split <;> simp <;> omega
    refine ⟨⟨D,Hm+2,λv hv=>?_,λv hv=>?_,λf hf=>?_,hl,?_,()⟩,?_,?_⟩
    ·have:=g1 v (.tail _ (.tail _ hv));omega
    ·rcases List.mem_append.mp hv with hv | hv
     ·exact ⟨Jj.mp gf1 v hv,Nat.le_trans (Jk.mp (Nat.le_trans (Nat.le_max_right _ _) gf2) v hv) ()⟩
     ·split at hv
      ·simp only [List.mem_cons,List.not_mem_nil,or_false] at hv
       rcases hv with rfl | rfl
       ·exact ⟨gf.1,by have:=gf.2;omega⟩
       ·exact ⟨gv.1,by have:=gv.2;omega⟩
      ·rw [List.mem_singleton.mp hv]
       exact ⟨gv.1,by have:=gv.2;omega⟩
    ·rcases List.mem_cons.mp hf with rfl | hf
     ·exact ⟨by simp only;omega,λv hv=>by have:=g2 v hv;omega⟩
     ·obtain ⟨a,b⟩:=g3 f hf
      exact ⟨(),λv hv=>by have:=b v hv;omega⟩
    ·have e:Ma.pot code most ⟨a0,s.calls+1,p0,h0++(if r0=true then [.fn r0 a0 h0,v0] else [v0]),(s.at'+1,s.held)::s.frs⟩<=s.pot code most:=by
      unfold Ma.pot
      simp only [iI]
      have HK:s.calls+1<=most:=HI
      have e1:(most - s.calls)=(most - (s.calls+1))+1:=by omega
      have e2:=Ki code a0
      have e3:=nd 0
      rw [e1,Nat.add_mul]
      simp only [Nat.add_zero] at e3
      omega
     omega
    ·rw [e0] at g7;simp at g7;simp only;omega
    ·simp;omega
   ·cases h
  | back =>
   simp only [exec] at h
   split at h
   ·rename_i a0 h0 r0 e0
    cases h
    obtain ⟨⟨D,Hm,g1,g2,g3,g4,g5,g6⟩,g7,g8⟩:=G
    have mu:Ma.mu code.length most ⟨a0,s.calls,s.pile,h0,r0⟩ < s.mu code.length most:=by
     unfold Ma.mu
     rw [e0]
     simp only [fL]
     omega
    refine ⟨λHI=>?_,mu⟩
    rw [e0] at g3
    obtain ⟨f1,f2⟩:=g3 (a0,h0) (.head _)
    refine ⟨⟨D,Hm,g1,f2,λf hf=>g3 f (.tail _ hf),f1,?_,()⟩,by simp only;omega,by rw [e0] at g8;simp at g8;simp only;omega⟩
    have e:Ma.pot code most ⟨a0,s.calls,s.pile,h0,r0⟩<=s.pot code most:=by
     unfold Ma.pot
     rw [e0]
     simp only [iI]
     omega
    omega
   ·cases h
  | lt =>
   simp only [exec] at h
   split at h
   ·rename_i v0 p0 e0
    cases h
    have:=loc 0 (by simp) rfl rfl (by simp only;omega) (by rw [e0];simp <;> omega) (by simp) λD Hm a b c=>⟨λv hv=>by rw [e0] at a;exact a v (.tail _ hv),λv hv=>by
     rw [e0] at a
     rcases List.mem_append.mp hv with hv | hv
     ·exact b v hv
     ·rw [List.mem_singleton.mp hv];exact a v0 (.head _)⟩
    exact ⟨λ_=>this.1,this.2⟩
   ·cases h
  | opn =>
   simp only [exec] at h
   split at h
   ·rename_i a0 b0 p0 e0
    cases h
    have:=loc 0 (by simp) rfl rfl (by simp only;omega) (by rw [e0];simp <;> omega) (by simp) λD Hm a b c=>⟨λv hv=>by rw [e0] at a;exact a v (.tail _ hv),λv hv=>by
     rw [e0] at a
     have:=a _ (.head _)
     simp only [HS,G5] at this
     rcases List.mem_append.mp hv with hv | hv
     ·exact b v hv
     ·simp only [List.mem_cons,List.not_mem_nil,or_false] at hv
      rcases hv with rfl | rfl <;> omega⟩
    exact ⟨λ_=>this.1,this.2⟩
   ·cases h
  | drop n =>
   simp only [exec] at h
   split at h
   ·cases h
    have:=loc 0 (by simp) rfl rfl (by simp only;omega) (by simp) (by simp;omega) λD Hm a b c=>⟨a,λv hv=>b v (List.mem_of_mem_take hv)⟩
    exact ⟨λ_=>this.1,this.2⟩
   ·cases h
  | jump n =>
   cases h
   have:=loc 0 (by simp only;omega) rfl rfl (by simp only;have:=nd n;omega) (by simp) (by simp) λD Hm a b c=>⟨a,b⟩
   exact ⟨λ_=>this.1,this.2⟩
  | wh n =>
   simp only [exec] at h
   split at h
   ·rename_i b0 p0 e0
    cases h
    have:=loc 0 (by simp only;split <;> omega) rfl rfl (by simp only;have:=nd n;split <;> omega) (by rw [e0];simp <;> omega) (by simp) λD Hm a b c=>⟨λv hv=>by rw [e0] at a;exact a v (.tail _ hv),b⟩
    exact ⟨λ_=>this.1,this.2⟩
   ·cases h
  | spl n =>
   simp only [exec] at h
   split at h
   ·rename_i p0 e0
    cases h
    have:=loc 0 (by simp) rfl rfl (by simp only;omega) (by rw [e0];simp <;> omega) (by simp) λD Hm a b c=>⟨λv hv=>by rw [e0] at a;exact a v (.tail _ hv),b⟩
    exact ⟨λ_=>this.1,this.2⟩
   ·rename_i a0 b0 p0 e0
    cases h
    have:=loc 0 (by simp only;omega) rfl rfl (by simp only;have:=nd n;omega) (by rw [e0];simp <;> omega) (by simp) λD Hm a b c=>⟨λv hv=>by rw [e0] at a;exact a v (.tail _ hv),λv hv=>by
     rw [e0] at a
     have:=a _ (.head _)
     simp only [HS,G5] at this
     rcases List.mem_append.mp hv with hv | hv
     ·exact b v hv
     ·simp only [List.mem_cons,List.not_mem_nil,or_false] at hv
      rcases hv with rfl | rfl <;> omega⟩
    exact ⟨λ_=>this.1,this.2⟩
   ·cases h
  | fin =>
   simp only [exec] at h
   split at h <;> cases h
noncomputable def tw:Bool->Str
 | false=>"pair"
 | true=>"link"
noncomputable def fw:Bool->Str
 | false=>"fun"
 | true=>"rec"
end KX
namespace L2
open PySem PySem.Spec PyProof.Rows KS KX
noncomputable def Dy (H:Hp):MV->V->Prop
 | .num i,r=>∃ p,r=.ref p/\H p=some (.tup [.str "number",.int i])
 | .tru b,r=>∃ p,r=.ref p/\H p=some (.tup [.str "truth",.bl b])
 | .emp,r=>∃ p,r=.ref p/\H p=some (.tup [.str "empty"])
 | .fn _ _ _,r=>∃ p,r=.ref p/\H p=some (.tup [.str "fun"])
 | .two l a b,r=>Dw λp ra rb=>r=.ref p/\H p=some (.tup [.str (tw l),ra,rb])/\Dy H a ra/\Dy H b rb
theorem Dy.mono {H H':Hp}(s:Au H H'):∀ {v:MV} {r:V},Dy H v r->Dy H' v r
 | .num _,_,⟨p,h1,h2⟩=>⟨p,h1,s _ _ h2⟩
 | .tru _,_,⟨p,h1,h2⟩=>⟨p,h1,s _ _ h2⟩
 | .emp,_,⟨p,h1,h2⟩=>⟨p,h1,s _ _ h2⟩
 | .fn _ _ _,_,⟨p,h1,h2⟩=>⟨p,h1,s _ _ h2⟩
 | .two _ _ _,_,⟨p,ra,rb,h1,h2,h3,h4⟩=>⟨p,ra,rb,h1,s _ _ h2,Dy.mono s h3,Dy.mono s h4⟩
mutual
noncomputable def RK (H:Hp):MV->V->Prop
 | .num i,r=>Dw λp s q=>r=.ref p/\H p=some (.tup [s,.ref q])/\Dy H (.num i) s/\H q=some (.tup [])
 | .tru b,r=>Dw λp s q=>r=.ref p/\H p=some (.tup [s,.ref q])/\Dy H (.tru b) s/\H q=some (.tup [])
 | .emp,r=>Dw λp s q=>r=.ref p/\H p=some (.tup [s,.ref q])/\Dy H .emp s/\H q=some (.tup [])
 | .fn c a h,r=>RF λp s q k us=>r=.ref p/\H p=some (.tup [s,.ref q])/\Dy H (.fn c a h) s/\H q=some (.tup [.int a,.ref k,.bl c])/\H k=some (.tup us)/\Kk H h us
 | .two l a b,r=>RF λp s q ra rb=>r=.ref p/\H p=some (.tup [s,.ref q])/\Dy H (.two l a b) s/\H q=some (.tup [ra,rb])/\RK H a ra/\RK H b rb
noncomputable def Kk (H:Hp):List MV->List V->Prop
 | [],[]=>True
 | v::vs,r::rs=>RK H v r/\Kk H vs rs
 | _,_=>False
end
theorem Kl {H:Hp}:∀ {vs:List MV} {rs:List V},Kk H vs rs↔Paired (RK H) vs rs
 | [],[]=>⟨λ_=>.nil,λ_=>trivial⟩
 | [],_::_=>⟨λh=>h.elim,λh=>by cases h⟩
 | _::_,[]=>⟨λh=>h.elim,λh=>by cases h⟩
 | v::vs,r::rs=>⟨λh=>.cons h.1 (Kl.mp h.2),λh=>by cases h with | cons a b=>exact ⟨a,Kl.mpr b⟩⟩
mutual
theorem RK.mono {H H':Hp}(s:Au H H'):∀ {v:MV} {r:V},RK H v r->RK H' v r
 | .num _,_,⟨p,z,q,h1,h2,h3,h4⟩=>⟨p,z,q,h1,s _ _ h2,Dy.mono s h3,s _ _ h4⟩
 | .tru _,_,⟨p,z,q,h1,h2,h3,h4⟩=>⟨p,z,q,h1,s _ _ h2,Dy.mono s h3,s _ _ h4⟩
 | .emp,_,⟨p,z,q,h1,h2,h3,h4⟩=>⟨p,z,q,h1,s _ _ h2,Dy.mono s h3,s _ _ h4⟩
 | .fn _ _ _,_,⟨p,z,q,k,us,h1,h2,h3,h4,h5,h6⟩=>⟨p,z,q,k,us,h1,s _ _ h2,Dy.mono s h3,s _ _ h4,s _ _ h5,Kk.mono s h6⟩
 | .two _ _ _,_,⟨p,z,q,ra,rb,h1,h2,h3,h4,h5,h6⟩=>⟨p,z,q,ra,rb,h1,s _ _ h2,Dy.mono s h3,s _ _ h4,RK.mono s h5,RK.mono s h6⟩
theorem Kk.mono {H H':Hp}(s:Au H H'):∀ {vs:List MV} {rs:List V},Kk H vs rs->Kk H' vs rs
 | [],[],_=>trivial
 | [],_::_,h=>h.elim
 | _::_,[],h=>h.elim
 | _::_,_::_,h=>⟨RK.mono s h.1,Kk.mono s h.2⟩
end
mutual
noncomputable def CK (H:Hp):MV->V->Prop
 | .num i,r=>∃ p,r=.ref p/\H p=some (.tup [.str "number",.int i])
 | .tru b,r=>∃ p,r=.ref p/\H p=some (.tup [.str "truth",.bl b])
 | .emp,r=>∃ p,r=.ref p/\H p=some (.tup [.str "empty"])
 | .fn c a h,r=>Dw λp k us=>r=.ref p/\H p=some (.tup [.str (fw c),.int a,.ref k])/\H k=some (.lst us)/\FD H h us
 | .two l a b,r=>Dw λp ra rb=>r=.ref p/\H p=some (.tup [.str (tw l),ra,rb])/\CK H a ra/\CK H b rb
noncomputable def FD (H:Hp):List MV->List V->Prop
 | [],[]=>True
 | v::vs,r::rs=>CK H v r/\FD H vs rs
 | _,_=>False
end
theorem DX {H:Hp}:∀ {vs:List MV} {rs:List V},FD H vs rs↔Paired (CK H) vs rs
 | [],[]=>⟨λ_=>.nil,λ_=>trivial⟩
 | [],_::_=>⟨λh=>h.elim,λh=>by cases h⟩
 | _::_,[]=>⟨λh=>h.elim,λh=>by cases h⟩
 | v::vs,r::rs=>⟨λh=>.cons h.1 (DX.mp h.2),λh=>by cases h with | cons a b=>exact ⟨a,DX.mpr b⟩⟩
mutual
theorem CK.mono {H H':Hp}(s:An H H'):∀ {v:MV} {r:V},CK H v r->CK H' v r
 | .num _,_,⟨p,h1,h2⟩=>⟨p,h1,s _ _ h2⟩
 | .tru _,_,⟨p,h1,h2⟩=>⟨p,h1,s _ _ h2⟩
 | .emp,_,⟨p,h1,h2⟩=>⟨p,h1,s _ _ h2⟩
 | .fn _ _ _,_,⟨p,k,us,h1,h2,h3,h4⟩=>⟨p,k,us,h1,s _ _ h2,s _ _ h3,FD.mono s h4⟩
 | .two _ _ _,_,⟨p,ra,rb,h1,h2,h3,h4⟩=>⟨p,ra,rb,h1,s _ _ h2,CK.mono s h3,CK.mono s h4⟩
theorem FD.mono {H H':Hp}(s:An H H'):∀ {vs:List MV} {rs:List V},FD H vs rs->FD H' vs rs
 | [],[],_=>trivial
 | [],_::_,h=>h.elim
 | _::_,[],h=>h.elim
 | _::_,_::_,h=>⟨CK.mono s h.1,FD.mono s h.2⟩
end
theorem Paired.last {α β:Type}{F:α->β->Prop}{v:α}{r:List α}{vs:List β}(h:Paired F (v::r).reverse vs):D1 λus x=>vs=us++[x]/\Paired F r.reverse us/\F v x:=by
 rw [List.reverse_cons] at h
 obtain ⟨us,rest,rfl,h1,h2⟩:=Paired.split h
 obtain ⟨x,rfl,hx⟩:=Dq h2
 exact ⟨us,x,rfl,h1,hx⟩
theorem Paired.take {α β:Type}{F:α->β->Prop}:∀ (n:Nat) {a:List α} {b:List β},Paired F a b->Paired F (a.take n) (b.take n)
 | 0,_,_,_=>by simp;exact .nil
 | n+1,_,_,.nil=>by simp;exact .nil
 | n+1,_,_,.cons r t=>.cons r (Paired.take n t)
local macro_rules | `(tactic| fail)=>`(tactic| with_reducible refine iJ ?_)
end L2
namespace K
open PySem L2
noncomputable def top (i:Nat):Stmt:=PySem.Challenge.pw_kindspan_k40_whole_code_tells.main.body.getD i (.Pass ⟨0,0,0,0⟩)
abbrev Mb:Stmt:=top 1
abbrev E8:Stmt:=top 2
abbrev Co:Stmt:=top 5
abbrev B5:Stmt:=top 6
abbrev BM:Stmt:=inClass (top 8) 0
abbrev C8:Stmt:=top 9
abbrev Bj:Stmt:=top 10
abbrev BP:Stmt:=top 11
abbrev Bo:Stmt:=top 12
abbrev Bg:Stmt:=top 13
abbrev C9:Stmt:=top 14
abbrev Cp:Stmt:=top 15
abbrev Ca:Stmt:=top 16
abbrev BQ:Stmt:=top 17
abbrev BR:Stmt:=top 18
abbrev By:Stmt:=top 19
abbrev Dc:Stmt:=top 21
abbrev CW:Stmt:=top 22
abbrev Hs:Stmt:=top 24
abbrev Mc:Stmt:=top 25
abbrev EB:Stmt:=top 28
abbrev E9:Stmt:=top 29
abbrev CY:Stmt:=top 30
abbrev CD:Stmt:=top 31
abbrev BH:Stmt:=top 32
abbrev BI:Stmt:=top 33
abbrev BJ:Stmt:=top 34
abbrev Bp:Stmt:=top 35
abbrev C1:Stmt:=top 36
abbrev CF:Stmt:=top 37
abbrev Fd:Stmt:=top 38
abbrev Bk:Stmt:=top 39
abbrev Ci:Stmt:=top 40
abbrev Bz:Stmt:=top 41
abbrev Cq:Stmt:=top 42
abbrev Cj:Stmt:=top 43
abbrev CZ:Stmt:=top 44
abbrev BK:Stmt:=top 45
abbrev Bq:Stmt:=top 46
abbrev Bt:Stmt:=top 47
abbrev BL:Stmt:=top 48
abbrev C3:Stmt:=top 49
abbrev BA:Stmt:=top 50
abbrev CG:Stmt:=top 51
abbrev CH:Stmt:=top 52
abbrev BS:Stmt:=top 53
abbrev BU:Stmt:=top 54
abbrev Ht:Stmt:=top 55
open KM
open KS
open KX
section
variable {Pr:Program}{w:World}{K:W.Frag}{mg:Str->Option Value}{base:Heap}
inductive Iu (n:Nat)(vs:(List V))(H:Hp)(Q:VK)(z3:XK):Prop
 | mk (e:Ex) (r:V) (h1:vs=[r]) (h2:B9 H e r) (h3:dep dz e<=n) (h4:∀ H',An H H'->Q (.bl e.isV) H'):Iu n vs H Q z3
noncomputable def Xq:Nat->Sp
 | 0=>Gv
 | n+1=>Iu n
theorem flN {l:List Str}:(l.map V.str).all DQ=true:=by induction l with
 | nil=>rfl
 | cons a b ih=>simp [DQ,ih]
theorem Xr {e:Ex}(h:∀ a b,e≠.pr a b/\e≠.lk a b):Cr (.str e.wd) [.str "pair",.str "link"]=false/\Cr (.str e.wd) [.str "number",.str "truth",.str "empty",.str "fun",.str "rec"]=e.isV:=by
 cases e with
 | pr a b=>exact absurd rfl (h a b).1
 | lk a b=>exact absurd rfl (h a b).2
 | _=>simp only [Ex.wd,Ex.isV];decide
theorem rD:AE ["_law_tree"] ["_law_tree"] (Ae Bk):=nofun
theorem QJ {n:Nat}{f:Addr}{fd:FuncData}(F:D4 K "_law_is_value" "_law_is_value" Bk f fd)(cS:Cl Pr w K mg base n "_law_is_value" ["_law_tree"] (Xq n)):AY Pr w K mg base C5 (n+1) f fd ["_law_tree"] (Iu n):=by
 refine F.okS rD (λvs H Q E h=>?_) (λBV A outer s H vs Q E hr h=>?_)
 ·obtain ⟨v,r,rfl,_⟩:=h;rfl
 ·obtain ⟨e,r,rfl,he,hd,q⟩:=h
  refine ⟨_,(Ah (B7 (Aw (r:=FT K false) B0 (Ao (r:=AA K) Aj (Ai 0) Ab AO) (Aq (Aa Af (Aa Af Ac))) rfl) (Al (Ar (Gm (B1 cS hr rfl (Aa (Ao (r:=AA K) Aj (Ai 0) Ab AO) Ac)) (EY (B1 cS hr rfl (Aa (Ao (r:=AA K) Aj (Ai 0) Ab AO) Ac)))))) AN)
   (Al (Ar (Cc (r:=FT K false) B0 (Ao (r:=AA K) Aj (Ai 0) Ab AO) (Aq (Aa Af (Aa Af (Aa Af (Aa Af (Aa Af Ac)))))) rfl)))),?_⟩
  obtain ⟨p,us,rfl,hp,hi⟩:=he.its
  left
  refine Ad (Av.of hp) (v:=.str e.wd) (Ak (j:=0) rfl) ?_
  left
  intros t1 H1 s1 e1
  refine Bi (.inr (Av.of e1)) rfl rfl ?_
  left
  by_cases pl:D1 λa b=>e=.pr a b\/e=.lk a b
  ·obtain ⟨a,b,h1,h2,h3,h4,h5⟩:D1 λ(a b:Ex)=>e.its=[.pt a,.pt b]/\e.isV=(a.isV && b.isV)/\dep dz a < n/\dep dz b < n/\Cr (.str e.wd) [.str "pair",.str "link"]=true:=by
    obtain ⟨a,b,rfl | rfl⟩:=pl
    ·simp only [dep] at hd
     exact ⟨a,b,rfl,rfl,(),(),show Cr (.str "pair") [.str "pair",.str "link"]=true by decide⟩
    ·simp only [dep] at hd
     exact ⟨a,b,rfl,rfl,(),(),show Cr (.str "link") [.str "pair",.str "link"]=true by decide⟩
   obtain ⟨ra,_,rfl,ha,hi⟩:=Cs (h1▸hi)
   obtain ⟨rb,_,rfl,hb,hi⟩:=Cs hi
   cases Fm hi
   refine AW h5 ?_
   left
   cases n with
   | zero=>omega
   | succ n =>
   refine Ad (Av.of (s1 _ _ hp)) (v:=ra) rfl ?_
   left
   refine ⟨a,ra,rfl,B9.mono (Au.of_same s1) ha,(),λH2 s2=>?_⟩
   left
   cases ea:a.isV
   ·refine Cm ?_
    have:=q H2 (s1.trans s2)
    rw [h2,ea] at this
    exact this
   ·refine CT ?_
    left
    refine Ad (Av.of (s2 _ _ (s1 _ _ hp))) (v:=rb) rfl ?_
    left
    refine ⟨b,rb,rfl,B9.mono (Au.of_same (s1.trans s2)) hb,(),λH3 s3=>?_⟩
    have:=q H3 (s1.trans (s2.trans s3))
    rw [h2,ea] at this
    exact this
  ·obtain ⟨w1,w2⟩:=Xr (e:=e) λa b=>⟨λz=>pl ⟨a,b,.inl z⟩,λz=>pl ⟨a,b,.inr z⟩⟩
   refine AF (λz=>by rw [w1] at z;cases z) ?_
   left
   refine Ad (Av.of (s1 _ _ hp)) (v:=.str e.wd) (Ak (j:=0) rfl) ?_
   left
   intros t2 H2 s2 e2
   refine Bi (.inr (Av.of e2)) rfl rfl ?_
   have:=q H2 (s1.trans s2)
   rw [<- w2] at this
   exact this
theorem Vp {f:Addr}{fd:FuncData}(D:Df K mg "_law_is_value" Bk ["_law_tree"] f fd):∀ n,Cl Pr w K mg base (n+1) "_law_is_value" ["_law_tree"] (Iu n)
 | 0=>D.cl (QJ (n:=0) D.F (D.cl Ez))
 | n+1=>D.cl (QJ (n:=n+1) D.F (Vp D n))
end
end K
namespace L2
open PySem KX
theorem fM {t:TA}{σ:St}{H:Hp}{R:It->Hp->Prop}(q:t σ H λvs H1=>IU R vs H1):ME t σ H R:=q
end L2
local macro_rules | `(tactic| fail)=>`(tactic| with_reducible refine L2.fM ?_)
namespace K
open PySem L2 KM KS KX
section
variable {Pr:Program}{w:World}{K:W.Frag}{mg:Str->Option Value}{base:Heap}
inductive Fe (n:Nat)(vs:(List V))(H:Hp)(Q:VK)(z3:XK):Prop
 | mk (e v:Ex) (x:Str) (r rv:V) (h1:vs=[r,.str x,rv]) (h2:B9 H e r) (h3:B9 H v rv) (h4:dep dz e<=n) (h5:∀ r' H',An H H'->B9 H' (give x v e) r'->Q r' H'):Fe n vs H Q z3
noncomputable def Te:Nat->Sp
 | 0=>Gv
 | n+1=>Fe n
theorem Km (x:Str):∀ l:List Str,Cr (.str x) (l.map V.str)=decide (x∈l)
 | []=>by simp [Cr]
 | a::r=>by
  have:=Km x r
  simp only [Cr,List.map_cons,List.any_cons,List.mem_cons] at this ⊢
  rw [this]
  by_cases e:x=a
  ·subst e;simp [PL]
  ·have e':¬ a=x:=λz=>e z.symm
   simp [PL,e,e']
theorem iK {e:Ex}(h:¬ D1 λy b=>e=.fn y b\/(∃ f,e=.rc f y b)\/∃ a,e=.lt y a b):Cr (.str e.wd) [.str "fun",.str "rec",.str "let"]=false:=by
 cases e with
 | fn y b=>exact absurd ⟨y,b,.inl rfl⟩ h
 | rc f y b=>exact absurd ⟨y,b,.inr (.inl ⟨f,rfl⟩)⟩ h
 | lt y a b=>exact absurd ⟨y,b,.inr (.inr ⟨a,rfl⟩)⟩ h
 | _=>simp only [Ex.wd];decide
theorem iL {e:Ex}(h:¬ Dw λy1 y2 b=>(∃ a,e=.opn a y1 y2 b)\/D1 λa c=>e=.spl a c y1 y2 b):Cr (.str e.wd) [.str "open",.str "split"]=false:=by
 cases e with
 | opn a x y b=>exact absurd ⟨x,y,b,.inl ⟨a,rfl⟩⟩ h
 | spl a c x y b=>exact absurd ⟨x,y,b,.inr ⟨a,c,rfl⟩⟩ h
 | _=>simp only [Ex.wd];decide
theorem iM {e:Ex}(h:¬ D1 λy b=>e=.fn y b\/(∃ f,e=.rc f y b)\/∃ a,e=.lt y a b)(g:¬ Dw λy1 y2 b=>(∃ a,e=.opn a y1 y2 b)\/D1 λa c=>e=.spl a c y1 y2 b):e.given=[]:=by
 cases e with
 | fn y b=>exact absurd ⟨y,b,.inl rfl⟩ h
 | rc f y b=>exact absurd ⟨y,b,.inr (.inl ⟨f,rfl⟩)⟩ h
 | lt y a b=>exact absurd ⟨y,b,.inr (.inr ⟨a,rfl⟩)⟩ h
 | opn a x y b=>exact absurd ⟨x,y,b,.inl ⟨a,rfl⟩⟩ g
 | spl a c x y b=>exact absurd ⟨x,y,b,.inr ⟨a,c,rfl⟩⟩ g
 | _=>rfl
theorem iN {e:Ex}(h:∀ y,e≠.nm y):e.wd≠"name":=by
 cases e with
 | nm y=>exact absurd rfl (h y)
 | _=>simp only [Ex.wd];decide
theorem ET {x y:Str}(h:x≠y):¬ decide (V.str x=V.str y)=true:=by simpa using h
theorem Kn:AE ["_law_tree","_law_name_here","_law_one","_law_word","_law_given","_law_found","_law_k","_law_hides"] ["_law_tree","_law_name_here","_law_one"] (Ae Ci):=nofun
theorem QK {n:Nat}{f:Addr}{fd:FuncData}(F:D4 K "_law_give" "_law_give" Ci f fd)(CI:mg "int"=none)(CO:mg "list"=none)(AV:mg "tuple"=none)(Ap:mg "isinstance"=none)(B6:mg "len"=none)(Cd:mg "range"=none)
  (cS:Cl Pr w K mg base n "_law_give" ["_law_tree","_law_name_here","_law_one"] (Te n)):AY Pr w K mg base C5 (n+1) f fd ["_law_tree","_law_name_here","_law_one"] (Fe n):=by
 refine F.okS Kn (λvs H Q E h=>?_) (λBV A outer s H vs Q E hr h=>?_)
 ·obtain ⟨e,v,x,r,rv,rfl,_⟩:=h;rfl
 ·obtain ⟨e,v,x,r,rv,rfl,he,hv,hd,q⟩:=h
  refine ⟨_,(Ah (Ay (i:=3) Kn.nd rfl (.inl rfl) (Ao (r:=AA K) Aj (Ai 0) Ab AO))
   (Ah (B7 (Aw AK (Ai 3) Af (Am _)) (Al (Ar (JY (Aw AK (Ao (r:=AA K) Aj (Ai 0) Ab AO) (Ai 1) (Am _)) (Ai 2) (Ai 0)))) AN)
   (Ah (Ay (i:=4) Kn.nd rfl (.inl rfl) (AS Ac))
   (Ah (B7 (Aw (r:=FT K false) B0 (Ai 3) (Aq (Aa Af (Aa Af (Aa Af Ac)))) rfl) (Al (Ay (i:=4) Kn.nd rfl (.inl rfl) (As Bf (AS (Aa (Ao (r:=AA K) Aj (Ai 0) Ab AO) Ac)) (As WS (AS (Aa (Ao (r:=AA K) Aj (Ai 0) Ab AO) Ac)) (Cg DO (by rfl) CI PyProof.Rows.boot_int (Aa (Cc AK (Ai 3) Af (Am _)) Ac)))))) (Al (B7 (Aw (r:=FT K false) B0 (Ai 3) (Aq (Aa Af (Aa Af Ac))) rfl) (Al (Ay (i:=4) Kn.nd rfl (.inl rfl) (Cg E5 (by rfl) CO PyProof.Rows.boot_list (Aa (Cn (r:=F6 K) Dt (Ai 0) (Cv (LZ F5 Ab)) (Cv (LZ F5 Ab))) Ac)))) AN)))
   (Ah (Ay (i:=5) Kn.nd rfl (.inl rfl) (AS Ac))
   (Ah (J' PassesOwn.never rfl (Hg rfl Cd (Aa (AH Ax (by rfl) B6 PySem.boot_len (Aa (Ai 0) Ac)) Ac)) (BF (i:=6) Kn.nd rfl (.inl rfl)) (Ah (Ay (i:=7) Kn.nd rfl (.inl rfl) (Gm (Cc AK (Ai 6) (As Cu (AH Ax (by rfl) B6 PySem.boot_len (Aa (Ai 0) Ac)) Ab) (Am _)) (EY (Cc (r:=FT K false) B0 (Ai 1) (Ai 4) rfl))))
   (Al (B7 (Gk (w_and (DC (AH BO (by rfl) Ap PyProof.Rows.boot_isinstance (Aa (Ao (r:=AA K) Aj (Ai 0) (Ai 6) AO) (Aa (CV (v:=.ty "tuple") rfl AV PyProof.Rows.boot_tuple rfl) Ac)))) (CN (DU (E6 (Ai 7)))))) (Al (Hf (Qh PySem.F.plainAttrs_list PySem.F.slot_list_append PySem.F.type_list_append EH (Ai 5) (Aa (B1 cS hr rfl (Aa (Ao (r:=AA K) Aj (Ai 0) (Ai 6) AO) (Aa (Ai 1) (Aa (Ai 2) Ac)))) Ac)))) (Al (Hf (Qh PySem.F.plainAttrs_list PySem.F.slot_list_append PySem.F.type_list_append EH (Ai 5) (Aa (Ao (r:=AA K) Aj (Ai 0) (Ai 6) AO) Ac))))))))
   (Al (Ar (Cg DJ (by rfl) AV PyProof.Rows.boot_tuple (Aa (Ai 5) Ac)))))))))),?_⟩
  obtain ⟨p,us,rfl,hp,hi⟩:=he.its
  left
  refine Ad (Av.of hp) (v:=.str e.wd) (Ak (j:=0) rfl) ?_
  left
  by_cases nm:∃ y,e=.nm y
  ·obtain ⟨y,rfl⟩:=nm
   obtain ⟨a,_,rfl,ha,hi⟩:=Cs hi
   cases Fm hi
   cases ha
   refine AW (decide_eq_true rfl) ?_
   left
   refine Ad (Av.of hp) (v:=.str y) rfl ?_
   left
   by_cases e:y=x
   ·subst e
    refine AW (decide_eq_true rfl) ?_
    left
    refine q _ H (An.refl _) ?_
    simp only [give,Ex.sub,Su.one,if_true,Option.getD_some]
    exact hv
   ·refine AF (by simpa using e) ?_
    left
    refine q _ H (An.refl _) ?_
    simp only [give,Ex.sub,Su.one,e,if_false,Option.getD_none]
    exact he
  ·have ne:∀ y,e≠.nm y:=λy z=>nm ⟨y,z⟩
   obtain ⟨gi,gw⟩:=QH (x:=x) (v:=v) ne
   have l1:=Paired.len hi
   have l2:=GG e
   refine AF (ET (iN ne)) ?_
   left
   intros lg H1 s1 e1
   refine CL (fun σ' H'=>∃ lg,σ'=[some (.ref p),some (.str x),some rv,some (.str e.wd),some (.ref lg),none,none,none]/\An H H'/\H' lg=some (.lst (e.given.map V.str))) ?_ λN fin=>?_
   ·rintro σ' H2 ⟨lg,rfl,s2,e2⟩
    left
    intros lf H3 s3 e3
    left
    refine ⟨p,_,rfl,.inr (Av.of (s3 _ _ (s2 _ _ hp))),?_⟩
    left
    refine ⟨_,rfl,by simp;omega,by simp;omega,?_⟩
    rw [Int.toNat_natCast]
    rename_i EU
    refine I0 (λi σ' H'=>Dw λo1 o2 fs=>σ'=[some (.ref p),some (.str x),some rv,some (.str e.wd),some (.ref lg),some (.ref lf),o1,o2]/\An H2 H'/\H' lf=some (.lst fs)/\Paired (Fc H') ((.sc (.str e.wd)::(give x v e).its).take i) fs) ⟨none,none,[],rfl,s3,e3,.nil⟩ (λi σ' H4 hi4 z=>?_) (fun σ' H4 z=>?_)
    ·obtain ⟨o1,o2,fs,rfl,s4,e4,p4⟩:=z
     obtain ⟨it,hit⟩:∃ it,(Itm.sc (.str e.wd)::e.its)[i]?=some it:=⟨_,List.getElem?_eq_getElem (by simp at hi4 ⊢;omega)⟩
     have J7:Paired (Fc H) (.sc (.str e.wd)::e.its) (.str e.wd::us):=.cons rfl hi
     obtain ⟨u,hu,oj⟩:=Paired.at1 J7 hit
     have Ko:=s2.trans s4
     refine QF ?_
     refine CL (fun σ' H'=>σ'=[some (.ref p),some (.str x),some rv,some (.str e.wd),some (.ref lg),some (.ref lf),some (.int i),some (.bl (decide (i=us.length) && decide (x∈e.given)))]/\H4=H') ?_ λN fin=>?_
     ·rintro _ _ ⟨rfl,rfl⟩
      left
      refine Ad (Av.of (Ko _ _ hp)) (v:=u) (Ak hu) ?_
      left
      have nx:∀ (r':V) (H6:Hp) (rE:Itm),(Itm.sc (.str e.wd)::(give x v e).its)[i]?=some rE->An H2 H6->H6 lf=some (.lst fs)->Au H4 H6->Fc H6 rE r'->Dw λo1 o2 OZ=>[some (.ref p),some (.str x),some rv,some (.str e.wd),some (.ref lg),some (.ref lf),some (.int i),some (.bl (decide (i=us.length) && decide (x∈e.given)))]=[some (.ref p),some (.str x),some rv,some (.str e.wd),some (.ref lg),some (.ref lf),o1,o2]/\An H2 (upd H6 lf (.lst (fs++[r'])))/\(upd H6 lf (.lst (fs++[r']))) lf=some (.lst OZ)/\Paired (Fc (upd H6 lf (.lst (fs++[r'])))) ((.sc (.str e.wd)::(give x v e).its).take (i+1)) OZ:=λr' H6 rE g1 g2 g3 g4 g5=>by
       have tp:Au H6 (upd H6 lf (.lst (fs++[r']))):=Au.put λxs z=>by rw [g3] at z;cases z
       refine ⟨_,_,fs++[r'],rfl,An.put g2 EU,AG,?_⟩
       rw [List.take_succ,g1]
       exact Paired.app (Paired.mapP p4 λ_ _ z=>z.mono (g4.trans tp)) (.cons (g5.mono tp) .nil)
      have lf4:fs.length<=6:=by
       rw [<- Paired.len p4,List.length_take]
       simp only [List.length_cons,gi,Ji]
       omega
      have gx:(Itm.sc (.str e.wd)::(give x v e).its)[i]?=some (if (decide (x∈e.given))=true/\i=us.length then it else gI x v it):=by
       rw [gi]
       cases i with
       | zero =>
        simp at hit;subst hit
        simp [gI]
       | succ i =>
        simp only [List.getElem?_cons_succ] at hit ⊢
        rw [Nf hit,l1]
      cases it with
      | sc z =>
       cases oj
       obtain ⟨t,t1,t2⟩:∃ t,C6 K H4 u t/\W.kitOne K t (.type "tuple")=some false:=by
        have fl:oi u=true:=by
         cases i with
         | zero=>simp at hit;subst hit;rfl
         | succ i=>exact M9 (List.mem_of_getElem? (by simpa using hit))
        cases u with
        | str z=>exact ⟨_,C6.str z,rfl⟩
        | int z=>exact ⟨_,C6.int z,rfl⟩
        | bl z=>exact ⟨_,C6.bl z,rfl⟩
        | _=>cases fl
       refine ⟨u,t,_,false,rfl,t1,t2,?_⟩
       left
       refine Cm (Cm ?_)
       left
       refine ⟨.inl ⟨rfl,_,B3.of e4⟩,?_⟩
       left
       refine Ad (Av.of (Ko _ _ hp)) (v:=u) (Ak hu) ?_
       left
       refine ⟨lf,fs,u,rfl,rfl,e4,D5 (),?_⟩
       left
       exact nx u H4 _ gx s4 e4 (Au.refl _) (by split <;> rfl)
      | pt a =>
       obtain ⟨pa,ua,rfl,ha,_⟩:=B9.its oj
       refine ⟨.ref pa,_,_,true,rfl,C6.tup (Ko _ _ ha),rfl,?_⟩
       left
       refine CT ?_
       left
       refine ⟨_,rfl,?_⟩
       dsimp only
       by_cases hh:(decide (i=us.length) && decide (x∈e.given))=true
       ·refine AF (by rw [hh];decide) ?_
        left
        refine ⟨.inl ⟨rfl,_,B3.of e4⟩,?_⟩
        left
        refine Ad (Av.of (Ko _ _ hp)) (v:=.ref pa) (Ak hu) ?_
        left
        refine ⟨lf,fs,.ref pa,rfl,rfl,e4,D5 (),?_⟩
        left
        simp only [Bool.and_eq_true,decide_eq_true_eq] at hh
        refine nx (.ref pa) H4 (.pt a) ?_ s4 e4 (Au.refl _) (B9.mono (Au.of_same Ko) oj)
        rw [gx,if_pos ⟨decide_eq_true hh.2,hh.1⟩]
       ·refine AW (by rw [Bool.not_eq_true] at hh;rw [hh];rfl) ?_
        left
        refine ⟨.inl ⟨rfl,_,B3.of e4⟩,?_⟩
        left
        refine Ad (Av.of (Ko _ _ hp)) (v:=.ref pa) (Ak hu) ?_
        left
        have da:dep dz a < dep dz e:=C0 (by
         cases i with
         | zero=>simp at hit
         | succ i=>exact List.mem_of_getElem? (by simpa using hit))
        cases n with
        | zero=>omega
        | succ n =>
        refine ⟨a,v,x,_,_,rfl,B9.mono (Au.of_same Ko) oj,B9.mono (Au.of_same Ko) hv,(),λr5 H5 s5 a5=>?_⟩
        left
        refine ⟨lf,fs,r5,rfl,rfl,s5 _ _ e4,D5 (),?_⟩
        left
        refine nx r5 H5 (.pt (give x v a)) ?_ (s4.trans s5) (s5 _ _ e4) (Au.of_same s5) a5
        rw [gx,if_neg]
        ·rfl
        ·rintro ⟨z1,z2⟩
         exact hh (by rw [z1,decide_eq_true z2];rfl)
     ·left
      refine ⟨p,_,rfl,.inr (Av.of (Ko _ _ hp)),?_⟩
      left
      have el:((0:Int)+(i:Int)=((V.str e.wd::us).length:Int) - 1)↔i=us.length:=by simp;omega
      by_cases c:i=us.length
      ·refine AW (by simp only [V.int.injEq];exact decide_eq_true (el.mpr c)) ?_
       left
       refine Bi (.inl (B3.of (s4 _ _ e2))) rfl flN ?_
       refine fin _ _ ⟨?_,rfl⟩
       have fN:Cr (.str x) (e.given.map V.str)=decide (x∈e.given):=Km x e.given
       simp [c,fN]
      ·refine AF (by simp only [V.int.injEq];exact λz=>c (el.mp (of_decide_eq_true z))) ?_
       refine fin _ _ ⟨?_,rfl⟩
       simp [c]
    ·obtain ⟨o1,o2,fs,rfl,s4,e4,p4⟩:=z
     left
     refine ⟨lf,fs,rfl,.inl ⟨B3.of e4,λl hl=>?_⟩⟩
     have tk:((.sc (.str e.wd)::(give x v e).its:List Itm).take (V.str e.wd::us).length)=.sc (.str e.wd)::(give x v e).its:=by
      refine List.take_of_length_le ?_
      simp only [List.length_cons,gi,Ji]
      omega
     rw [tk] at p4
     obtain ⟨a0,fs,rfl,ha0,p5⟩:=Cs p4
     cases ha0
     refine q _ _ (s2.trans (s4.trans (An.new hl))) (B9.of_its (us:=fs) ?_ (Paired.mapP p5 λ_ _ z=>Fc.mono (Au.new hl) z))
     rw [AG,gw]
   ·left
    intros t2 H2 s2 e2
    refine Bi (.inr (Av.of e2)) rfl rfl ?_
    left
    have BN:=s1.trans s2
    by_cases g1:D1 λy b=>e=.fn y b\/(∃ f,e=.rc f y b)\/∃ a,e=.lt y a b
    ·refine AW (by obtain ⟨y,b,rfl | ⟨f,rfl⟩ | ⟨a,rfl⟩⟩:=g1 <;> rfl) ?_
     obtain ⟨y1,t3,rest,O5,hg⟩:Dw λ(y1:Str) (t3:V) (rest:List V)=>us=.str y1::t3::rest/\e.given.map V.str=[.str y1]++(List.replicate (if decide (V.str e.wd=V.str "rec")=true then (1:Int) else 0).toNat [t3]).flatten:=by
      obtain ⟨y,b,rfl | ⟨f,rfl⟩ | ⟨a,rfl⟩⟩:=g1
      ·obtain ⟨a1,_,rfl,h1,hi⟩:=Cs hi
       obtain ⟨a2,_,rfl,h2,hi⟩:=Cs hi
       cases Fm hi;cases h1
       exact ⟨y,a2,[],rfl,rfl⟩
      ·obtain ⟨a1,_,rfl,h1,hi⟩:=Cs hi
       obtain ⟨a2,_,rfl,h2,hi⟩:=Cs hi
       obtain ⟨a3,_,rfl,h3,hi⟩:=Cs hi
       cases Fm hi;cases h1;cases h2
       exact ⟨f,_,_,rfl,rfl⟩
      ·obtain ⟨a1,_,rfl,h1,hi⟩:=Cs hi
       obtain ⟨a2,_,rfl,h2,hi⟩:=Cs hi
       obtain ⟨a3,_,rfl,h3,hi⟩:=Cs hi
       cases Fm hi;cases h1
       exact ⟨y,_,_,rfl,rfl⟩
     subst O5
     left
     refine Ad (Av.of (BN _ _ hp)) (v:=.str y1) (Ak (j:=1) rfl) ?_
     left
     intros p3 H3 s3 e3
     left
     refine Ad (Av.of (s3 _ _ (BN _ _ hp))) (v:=t3) (Ak (j:=2) rfl) ?_
     left
     intros p4 H4 s4 e4
     left
     refine .inr ⟨_,rfl,?_⟩
     refine ⟨p4,_,_,rfl,rfl,e4,by split <;> decide,by split <;> decide,by split <;> exact BX (by simp),λp5 Lf=>?_⟩
     refine Dp (An.new Lf _ _ (s4 _ _ e3)) AG ?_ λp6 H6 RL s6 e6=>?_
     ·rw [len_rep];split <;> exact BX (by simp)
     ·exact fin _ _ ⟨p6,rfl,BN.trans (s3.trans (s4.trans ((An.new Lf).trans s6))),by rw [e6,hg]⟩
    ·refine AF (by rw [iK g1];decide) ?_
     left
     intros t3 H3 s3 e3
     refine Bi (.inr (Av.of e3)) rfl rfl ?_
     left
     have D3:=BN.trans s3
     by_cases g2:Dw λy1 y2 b=>(∃ a,e=.opn a y1 y2 b)\/D1 λa c=>e=.spl a c y1 y2 b
     ·refine AW (by obtain ⟨y1,y2,b,⟨a,rfl⟩ | ⟨a,c,rfl⟩⟩:=g2 <;> rfl) ?_
      obtain ⟨hg,hw⟩:D7 (.str e.wd::us) (some (-3)) (some (-1))=e.given.map V.str/\¬ (HT.sIx (V.str e.wd::us).length 0 (some (-3))=0/\HT.sIx (V.str e.wd::us).length (V.str e.wd::us).length (some (-1))=(V.str e.wd::us).length):=by
       obtain ⟨y1,y2,b,⟨a,rfl⟩ | ⟨a,c,rfl⟩⟩:=g2
       ·obtain ⟨a1,_,rfl,h1,hi⟩:=Cs hi
        obtain ⟨a2,_,rfl,h2,hi⟩:=Cs hi
        obtain ⟨a3,_,rfl,h3,hi⟩:=Cs hi
        obtain ⟨a4,_,rfl,h4,hi⟩:=Cs hi
        cases Fm hi;cases h2;cases h3
        exact ⟨rfl,by simp [HT.sIx]⟩
       ·obtain ⟨a1,_,rfl,h1,hi⟩:=Cs hi
        obtain ⟨a2,_,rfl,h2,hi⟩:=Cs hi
        obtain ⟨a3,_,rfl,h3,hi⟩:=Cs hi
        obtain ⟨a4,_,rfl,h4,hi⟩:=Cs hi
        obtain ⟨a5,_,rfl,h5,hi⟩:=Cs hi
        cases Fm hi;cases h3;cases h4
        exact ⟨rfl,by simp [HT.sIx]⟩
      left
      refine D9 (Av.of (D3 _ _ hp)) hw λp4 H4 Md s4 e4=>?_
      left
      refine ⟨p4,_,rfl,.inr (Av.of e4),λp5 Lf=>?_⟩
      exact fin _ _ ⟨p5,rfl,D3.trans (s4.trans (An.new Lf)),by rw [AG,hg]⟩
     ·refine AF (by rw [iL g2];decide) ?_
      left
      refine fin _ _ ⟨lg,rfl,D3,?_⟩
      rw [s3 _ _ (s2 _ _ e1),iM g1 g2]
      rfl
theorem Vq {f:Addr}{fd:FuncData}(D:Df K mg "_law_give" Ci ["_law_tree","_law_name_here","_law_one"] f fd)(CI:mg "int"=none)(CO:mg "list"=none)(AV:mg "tuple"=none)(Ap:mg "isinstance"=none)(B6:mg "len"=none)(Cd:mg "range"=none):
  ∀ n,Cl Pr w K mg base (n+1) "_law_give" ["_law_tree","_law_name_here","_law_one"] (Fe n)
 | 0=>D.cl (QK (n:=0) D.F CI CO AV Ap B6 Cd (D.cl Ez))
 | n+1=>D.cl (QK (n:=n+1) D.F CI CO AV Ap B6 Cd (Vq D CI CO AV Ap B6 Cd n))
end
end K
namespace L2
open PySem PySem.Spec PyProof.Rows KS
noncomputable def Xs (K:W.Frag):R2:=λx y H Q=>Bw K x y H Q\/AA K x y H Q
theorem Jl {X:Cx}:gS X (Xs X.K):=λvalue slice pins s σ H x y v u Q I rx ry h hs=>h.elim (λh=>AJ value slice pins s σ H x y v u Q I rx ry h hs) λh=>Aj value slice pins s σ H x y v u Q I rx ry h hs
noncomputable def Xt (H:Hp)(p:Addr)(a b:V):Prop:=H p=some (.lst [a,b])\/H p=some (.tup [a,b])
theorem Xt.mono {H H':Hp}(s:An H H'){p:Addr}{a b:V}:Xt H p a b->Xt H' p a b:=Or.imp (s _ _) (s _ _)
theorem Nj {K:W.Frag}{H:Hp}{Q:VK}{p:Addr}{a b:V}(h:Xt H p a b)(q:Q a H):Xs K (.ref p) (.int 0) H Q:=h.imp (λh=>⟨p,_,0,a,rfl,rfl,B3.of h,rfl,q⟩) λh=>⟨p,_,0,a,rfl,rfl,Av.of h,rfl,q⟩
theorem Nk {K:W.Frag}{H:Hp}{Q:VK}{p:Addr}{a b:V}(h:Xt H p a b)(q:Q b H):Xs K (.ref p) (.int 1) H Q:=h.imp (λh=>⟨p,_,1,b,rfl,rfl,B3.of h,rfl,q⟩) λh=>⟨p,_,1,b,rfl,rfl,Av.of h,rfl,q⟩
end L2
namespace K
open PySem L2 KM KS KX
section
variable {Pr:Program}{w:World}{K:W.Frag}{mg:Str->Option Value}{base:Heap}
inductive Kp (n:Nat)(vs:(List V))(H:Hp)(Q:VK)(z3:XK):Prop
 | mk (e v w:Ex) (x y:Str) (r rv rw:V) (pn pv:Addr) (h1:vs=[r,.ref pn,.ref pv]) (h2:B9 H e r) (h3:B9 H v rv) (h4:B9 H w rw) (h5:Xt H pn (.str x) (.str y)) (h6:Xt H pv rv rw) (h7:dep dz e<=n) (h8:dep dz (give y w e)<=n) (h9:∀ r' H',An H H'->B9 H' (Dj x y v w e) r'->Q r' H'):Kp n vs H Q z3
theorem rF:AE ["_law_tree","_law_names","_law_values"] ["_law_tree","_law_names","_law_values"] (Ae Bz):=nofun
theorem iO {n:Nat}{f:Addr}{fd:FuncData}(F:D4 K "_law_give_two" "_law_give_two" Bz f fd)(cG:Cl Pr w K mg base (n+1) "_law_give" ["_law_tree","_law_name_here","_law_one"] (Fe n)):AY Pr w K mg base C5 (n+2) f fd ["_law_tree","_law_names","_law_values"] (Kp n):=by
 refine F.okS rF (λvs H Q E h=>?_) (λBV A outer s H vs Q E hr h=>?_)
 ·obtain ⟨e,v,w,x,y,r,rv,rw,pn,pv,rfl,_⟩:=h;rfl
 ·obtain ⟨e,v,w',x,y,r,rv,P1,pn,pv,rfl,he,hv,hw,tn,tv,Tf,hd2,q⟩:=h
  refine ⟨_,(Al (Ar (B1 cG hr rfl (Aa (B1 cG hr rfl (Aa (Ai 0) (Aa (Ao Jl (Ai 1) Ab AO) (Aa (Ao Jl (Ai 2) Ab AO) Ac)))) (Aa (Ao Jl (Ai 1) Ab AO) (Aa (Ao Jl (Ai 2) Ab AO) Ac)))))),?_⟩
  left
  refine Nk tn ?_
  left
  refine Nk tv ?_
  left
  refine ⟨e,w',y,_,_,rfl,he,hw,Tf,λr1 H1 s1 e1=>?_⟩
  left
  refine Nj (tn.mono s1) ?_
  left
  refine Nj (tv.mono s1) ?_
  left
  exact ⟨_,v,x,_,_,rfl,e1,B9.mono (Au.of_same s1) hv,hd2,λr2 H2 s2 e2=>q r2 H2 (s1.trans s2) e2⟩
inductive Kq (n:Nat)(vs:(List V))(H:Hp)(Q:VK)(z3:XK):Prop
 | mk (e:Ex) (r:V) (h1:vs=[r]) (h2:B9 H e r) (h3:dep dz e<=n) (h4:∀ H',An H H'->Q (.int e.fst) H'):Kq n vs H Q z3
theorem Ot {α:Type}{p:α->Bool}{l:List α}{i:Nat}{a:α}(h:∀ b∈l.take i,p b=false)(e:l[i]?=some a)(ha:p a=true):l.find? p=some a:=by
 induction l generalizing i with
 | nil=>simp at e
 | cons b r ih =>
  cases i with
  | zero=>simp at e;subst e;simp [List.find?,ha]
  | succ i =>
   have h0:=h b (by simp)
   simp only [List.find?,h0]
   exact ih (i:=i) (λc hc=>h c (by simp [hc])) (by simpa using e)
theorem QL {α:Type}{p:α->Bool}{l:List α}(h:∀ b∈l,p b=false):l.find? p=none:=by
 rw [List.find?_eq_none];intro b hb;simp [h b hb]
theorem Iw {f:V->V}:∀ (l:List (Key × V)) {A A':List (Key × V)},(∀ j,C7 A' j=(C7 A j).map f)->∀ j,C7 (Cf A' (l.map λkv=>(kv.1,f kv.2))) j=(C7 (Cf A l) j).map f
 | [],_,_,h,j=>h j
 | kv::r,A,A',h,j=>Iw r (A:=putK A kv.1 kv.2) (A':=putK A' kv.1 (f kv.2)) (λj=>by
   rw [Fv,Fv]
   by_cases e:j=kv.1
   ·simp [e]
   ·simp only [e,if_false];exact h j) j
noncomputable def fO:List (Key × V):=[(.inr "call",.int 1),(.inr "pair",.int 2),(.inr "link",.int 3),(.inr "op",.int 4),(.inr "let",.int 5),(.inr "when",.int 6),(.inr "open",.int 7),(.inr "split",.int 8)]
noncomputable def Xu:Ex->V
 | .cal _ _=>.int 1 | .pr _ _=>.int 2 | .lk _ _=>.int 3 | .op _ _ _=>.int 4 | .lt _ _ _=>.int 5 | .wh _ _ _=>.int 6 | .opn _ _ _ _=>.int 7 | .spl _ _ _ _ _=>.int 8
 | _=>.non
theorem Xv (e:Ex):(C7 (Cf [] fO) (Sum.inr e.wd:Key)).getD .non=Xu e:=by
 cases e <;> simp only [Ex.wd,Xu] <;> decide +kernel
noncomputable def om (l1 l2 l3 l4 l5 l6 l7 l8:Addr):V->V
 | .int 1=>.ref l1 | .int 2=>.ref l2 | .int 3=>.ref l3 | .int 4=>.ref l4 | .int 5=>.ref l5 | .int 6=>.ref l6 | .int 7=>.ref l7 | .int 8=>.ref l8
 | v=>v
theorem Tg (e:Ex)(l1 l2 l3 l4 l5 l6 l7 l8 l0:Addr):(C7 (Cf [] (fO.map λkv=>(kv.1,om l1 l2 l3 l4 l5 l6 l7 l8 kv.2))) (.inr e.wd:Key)).getD (V.ref l0)=(if Xu e=.non then .ref l0 else om l1 l2 l3 l4 l5 l6 l7 l8 (Xu e)):=by
 rw [Iw fO (A:=[]) (A':=[]) (λ_=>rfl),<- Xv]
 have hn:C7 (Cf [] fO) (Sum.inr e.wd:Key)≠some .non:=by
  cases e <;> simp only [Ex.wd,Xu] <;> decide +kernel
 cases h:C7 (Cf [] fO) (Sum.inr e.wd:Key) with
 | none=>rfl
 | some v =>
  rw [h] at hn
  simp only [Option.map_some,Option.getD_some]
  rw [if_neg λz=>hn (by rw [z])]
theorem QM:AE ["_law_tree","_law_places","_law_k"] ["_law_tree"] (Ae Cq):=nofun
theorem iP {n:Nat}{f:Addr}{fd:FuncData}(F:D4 K "_law_first" "_law_first" Cq f fd)(cI:Cl Pr w K mg base (n+1) "_law_is_value" ["_law_tree"] (Iu n)):AY Pr w K mg base C5 (n+2) f fd ["_law_tree"] (Kq n):=by
 refine F.okS QM (λvs H Q E h=>?_) (λBV A outer s H vs Q E hr h=>?_)
 ·obtain ⟨e,r,rfl,_⟩:=h;rfl
 ·obtain ⟨e,r,rfl,he,hd,q⟩:=h
  have hu:=Hb hr
  refine ⟨_,(Ah (Ay (i:=1) QM.nd rfl (.inl rfl) (He (BW Af (AS (Aa Ab (Aa Ab Ac))) (BW Af (AS (Aa Ab (Aa Ab Ac))) (BW Af (AS (Aa Ab (Aa Ab Ac))) (BW Af (AS (Aa Ab (Aa Ab Ac))) (BW Af (AS (Aa Ab Ac)) (BW Af (AS (Aa Ab Ac)) (BW Af (AS (Aa Ab Ac)) (BW Af (AS (Aa Ab Ac)) JZ)))))))) rfl rfl (by simp) ⟨⟩))
   (Ah (J' PassesOwn.never rfl (E7 (EK hu (Ai 1) (Ao (r:=AA K) Aj (Ai 0) Ab AO) (AS Ac) ⟨rfl,rfl,rfl,rfl⟩)) (BF (i:=2) QM.nd rfl (.inl rfl)) (Al (B7 (DU (DC (B1 cI hr rfl (Aa (Ao (r:=AA K) Aj (Ai 0) (Ai 2) AO) Ac)))) (Al (Ar (Ai 2))) AN)))
   (Al (Ar Ab)))),?_⟩
  obtain ⟨p,us,rfl,hp,hi⟩:=he.its
  left
  refine Fy λp4 H4 Xw s4 e4=>?_
  left
  intros l1 H5 s5 e5
  left
  intros l2 H6 s6 e6
  left
  intros l3 H7 s7 e7
  left
  intros l4 H8 s8 e8
  left
  intros l5 H9 s9 e9
  left
  intros l6 GJ CP Jm
  left
  intros l7 F0 CA FE
  left
  intros l8 Ou Ei Iy
  left
  have iQ:=Ei
  have CJ:=CA.trans Ei
  have iR:=CP.trans CJ
  have iS:=s9.trans iR
  have iT:=s8.trans iS
  have iU:=s7.trans iT
  have iV:=s6.trans iU
  have Xx:=s5.trans iV
  refine ⟨Xx _ _ e4,fO.map λkv=>(kv.1,om l1 l2 l3 l4 l5 l6 l7 l8 kv.2),rfl,Nat.le_of_ble_eq_true rfl,λTi o13 Vr=>?_⟩
  have iW:An H Ti:=λb o hb=>by
   have Tj:b≠p4:=λz=>by rw [z,Xw] at hb;cases hb
   rw [o13 b Tj];exact Xx _ _ (s4 _ _ hb)
  have ow:∀ b xs,Ou b=some (.lst xs)->Ti b=some (.lst xs):=λb xs hb=>by
   rw [o13 b (λz=>by have h2:=Xx _ _ e4;rw [z,h2] at hb;cases hb)];exact hb
  have h1:=ow _ _ (iV _ _ e5)
  have h2:=ow _ _ (iU _ _ e6)
  have h3:=ow _ _ (iT _ _ e7)
  have h4:=ow _ _ (iS _ _ e8)
  have h5:=ow _ _ (iR _ _ e9)
  have h6:=ow _ _ (CJ _ _ Jm)
  have h7:=ow _ _ (iQ _ _ FE)
  have h8:=ow _ _ Iy
  left
  refine ⟨p4,rfl,.inl ⟨_,.inl Vr⟩,?_⟩
  left
  refine Ad (Av.of (iW _ _ hp)) (v:=.str e.wd) (Ak (j:=0) rfl) ?_
  left
  intros l0 Vs Eh Lg
  refine ⟨_,Dx.k (k:=.inr e.wd) (Eh _ _ Vr),?_⟩
  have iX:=iW.trans Eh
  obtain ⟨pl,E4,hl⟩:∃ pl,(if Xu e=.non then .ref l0 else om l1 l2 l3 l4 l5 l6 l7 l8 (Xu e))=.ref pl/\Vs pl=some (.lst (e.pls.map λk:Nat=>V.int k)):=by
   cases e with
   | cal _ _=>exact ⟨l1,rfl,Eh _ _ h1⟩
   | pr _ _=>exact ⟨l2,rfl,Eh _ _ h2⟩
   | lk _ _=>exact ⟨l3,rfl,Eh _ _ h3⟩
   | op _ _ _=>exact ⟨l4,rfl,Eh _ _ h4⟩
   | lt _ _ _=>exact ⟨l5,rfl,Eh _ _ h5⟩
   | wh _ _ _=>exact ⟨l6,rfl,Eh _ _ h6⟩
   | opn _ _ _ _=>exact ⟨l7,rfl,Eh _ _ h7⟩
   | spl _ _ _ _ _=>exact ⟨l8,rfl,Eh _ _ h8⟩
   | _=>exact ⟨l0,rfl,Lg⟩
  rw [Tg,E4]
  refine ⟨pl,rfl,⟨_,B3.of hl⟩,?_⟩
  refine Pp (xs:=e.pls.map λk:Nat=>V.int k) (λi σ' H'=>∃ o1,σ'=[some (.ref p),some (.ref p4),o1]/\An Vs H'/\∀ b∈(e.pls).take i,Om e b=false) ⟨none,rfl,An.refl _,by simp⟩ (λi σ' H' _ z=>?_) (λi x σ' H' hx z=>?_) (fun σ' H' z=>?_)
  ·obtain ⟨o1,_,z2,_⟩:=z
   exact B3.of (z2 _ _ hl)
  ·obtain ⟨o1,rfl,z2,z3⟩:=z
   obtain ⟨k,hk,rfl⟩:∃ k,(e.pls)[i]?=some k/\x=V.int (k:Nat):=by
    simp only [List.getElem?_map,Option.map_eq_some_iff] at hx
    obtain ⟨k,h1,h2⟩:=hx
    exact ⟨k,h1,h2.symm⟩
   obtain ⟨a,ha,rG⟩:=Xn (List.mem_of_getElem? hk)
   obtain ⟨u,hu',QN⟩:=Paired.at1 hi ha
   have s0:=iX.trans z2
   left
   refine Ad (Av.of (s0 _ _ hp)) (v:=u) (Ak (j:=k) (by
    obtain ⟨k,rfl⟩:∃ m,k=m+1:=⟨k - 1,()⟩
    simpa using hu')) ?_
   left
   have da:=C0 (List.mem_of_getElem? ha)
   refine ⟨a,u,rfl,B9.mono (Au.of_same s0) QN,(),λH' s'=>?_⟩
   left
   have nv:Om e k=!a.isV:=by simp only [Om,ha]
   cases av:a.isV
   ·refine CT ?_
    left
    have:=q H' (s0.trans s')
    rw [Ng,Ot z3 hk (by rw [nv,av];rfl)] at this
    exact this
   ·refine Cm ?_
    left
    refine ⟨_,rfl,z2.trans s',λb hb=>?_⟩
    rw [List.take_succ,hk] at hb
    rcases List.mem_append.mp hb with hb | hb
    ·exact z3 b hb
    ·simp at hb;subst hb;rw [nv,av];rfl
  ·obtain ⟨o1,rfl,z2,z3⟩:=z
   left
   have:=q H' (iX.trans z2)
   rw [List.length_map,List.take_length] at z3
   rw [Ng,QL z3] at this
   exact this
end
end K
namespace L2
open PySem PySem.Spec PyProof.Rows KS KX
noncomputable def iY:R2:=λx y H Q=>Dw λ(p:Addr) (xs:List V) (z:Str)=>x=.ref p/\H p=some (.tup xs)/\y=.str z/\Q (.bl false) H
theorem Jo {X:Cx}(hu:X.A.units+64 < cLine):EG X (compareOp .Eq) iY:=by
 intro pins s σ H x y v u Q I rx ry h
 obtain ⟨p,xs,z,rfl,hp,rfl,k⟩:=h
 cases rx
 obtain ⟨t,rfl⟩:=ry
 obtain ⟨its,r,p1,_⟩:=I.tuple (Av.of (K:=X.K) hp)
 exact PySem.SeqAt.RcAt.tuple_str z t p1 () X.prog X.w X.xe _ (B8 I k rfl)
theorem AY.exi {α:Type}{P:Program}{w:World}{K:W.Frag}{mg:Str->Option Value}{base:Heap}{CX:LA}{k:Nat}{f:Addr}{fd:FuncData}{ps:List Str}{sp:α->Sp}(F:∀ a,AY P w K mg base CX k f fd ps (sp a)):AY P w K mg base CX k f fd ps (λvs H Q E=>∃ a,sp a vs H Q E) :=
 ⟨λvs H Q E ⟨a,h⟩=>(F a).len vs H Q E h,λA outer s H args us vs Q E hr he hb hv ⟨a,h⟩=>(F a).run A outer s H args us vs Q E hr he hb hv h⟩
theorem Me {P:Program}{w:World}{K:W.Frag}{mg:Str->Option Value}{base:Heap}{CX:LA}{k:Nat}{ps:List Str}{rows:List (Str × Value)}:G3 P w K mg base CX k ps rows []:=λ_ _ h=>by cases h
theorem Bd {P:Program}{w:World}{K:W.Frag}{mg:Str->Option Value}{base:Heap}{CX:LA}{k:Nat}{ps:List Str}{rows:List (Str × Value)}{x:Str}{sp:Sp}{Nd:List (Str × Sp)}(h:∃ f fd,rowAt rows x=some (.ref f)/\AY P w K mg base CX k f fd ps sp/\W.keepIn K (.ref f)=true/\Binds K fd ps [])
  (t:G3 P w K mg base CX k ps rows Nd):G3 P w K mg base CX k ps rows ((x,sp)::Nd):=λy sp' hm=>by
 rcases List.mem_cons.mp hm with e | hm
 ·cases e;exact h
 ·exact t y sp' hm
end L2
namespace KX
open PySem Ex L2
theorem Xy {e:Ex}(h:e.wd="call"):D1 λa b=>e=.cal a b:=by cases e <;> first | exact ⟨_,_,rfl⟩ | exact absurd h (by simp only [Ex.wd];decide)
theorem iZ {e:Ex}(h:e.wd="let"):Dw λx a b=>e=.lt x a b:=by cases e <;> first | exact ⟨_,_,_,rfl⟩ | exact absurd h (by simp only [Ex.wd];decide)
theorem i' {e:Ex}(h:e.wd="when"):Dw λa b c=>e=.wh a b c:=by cases e <;> first | exact ⟨_,_,_,rfl⟩ | exact absurd h (by simp only [Ex.wd];decide)
theorem Xz {e:Ex}(h:e.wd="open"):Lb λa x y b=>e=.opn a x y b:=by cases e <;> first | exact ⟨_,_,_,_,rfl⟩ | exact absurd h (by simp only [Ex.wd];decide)
theorem XA {e:Ex}(h:e.wd="split"):RF λa b x y c=>e=.spl a b x y c:=by cases e <;> first | exact ⟨_,_,_,_,_,rfl⟩ | exact absurd h (by simp only [Ex.wd];decide)
theorem j4 {e:Ex}(h:e.wd="op"):Dw λo a b=>e=.op o a b:=by cases e <;> first | exact ⟨_,_,_,rfl⟩ | exact absurd h (by simp only [Ex.wd];decide)
theorem XB {e:Ex}(h:e.wd="truth"):∃ b,e=.tru b:=by cases e <;> first | exact ⟨_,rfl⟩ | exact absurd h (by simp only [Ex.wd];decide)
theorem QO {e:Ex}(h:e.wd="number"):∃ i,e=.num i:=by cases e <;> first | exact ⟨_,rfl⟩ | exact absurd h (by simp only [Ex.wd];decide)
theorem j6 {e:Ex}(h:e.wd="pair"):D1 λa b=>e=.pr a b:=by cases e <;> first | exact ⟨_,_,rfl⟩ | exact absurd h (by simp only [Ex.wd];decide)
theorem Vt {e:Ex}:(Cr (.str e.wd) [.str "fun",.str "rec"]=true/\((D1 λx b=>e=.fn x b)\/Dw λf x b=>e=.rc f x b))\/(Cr (.str e.wd) [.str "fun",.str "rec"]=false/\(∀ x b,e≠.fn x b)/\∀ f x b,e≠.rc f x b):=by
 cases e with
 | fn x b=>exact .inl ⟨by simp only [Ex.wd];decide,.inl ⟨x,b,rfl⟩⟩
 | rc f x b=>exact .inl ⟨by simp only [Ex.wd];decide,.inr ⟨f,x,b,rfl⟩⟩
 | _=>exact .inr ⟨by simp only [Ex.wd];decide,λ_ _ z=>(by cases z),λ_ _ _ z=>(by cases z)⟩
theorem j7 {e:Ex}:(Cr (.str e.wd) [.str "empty",.str "link"]=true/\(e=.emp\/D1 λa b=>e=.lk a b))\/(Cr (.str e.wd) [.str "empty",.str "link"]=false/\e≠.emp/\∀ a b,e≠.lk a b):=by
 cases e with
 | emp=>exact .inl ⟨by simp only [Ex.wd];decide,.inl rfl⟩
 | lk a b=>exact .inl ⟨by simp only [Ex.wd];decide,.inr ⟨a,b,rfl⟩⟩
 | _=>exact .inr ⟨by simp only [Ex.wd];decide,λz=>(by cases z),λ_ _ z=>(by cases z)⟩
theorem QP {e:Ex}(n1:∀ a b,e=.cal a b->(∀ x c,a≠.fn x c)/\∀ f x c,a≠.rc f x c)(n2:∀ x a b,e≠.lt x a b)(n3:∀ a b c,e=.wh a b c->∀ t,a≠.tru t)(n4:∀ a x y b,e=.opn a x y b->∀ u v,a≠.pr u v)(n5:∀ a b x y c,e=.spl a b x y c->a≠.emp/\∀ u v,a≠.lk u v)(n6:∀ o a b,e=.op o a b->∀ i j,¬ (a=.num i/\b=.num j)):red e=none:=by
 cases hr:red e with
 | none=>rfl
 | some p =>
  obtain ⟨e',c⟩:=p
  cases Nc hr with
  | fn=>exact absurd rfl ((n1 _ _ rfl).1 _ _)
  | rc=>exact absurd rfl ((n1 _ _ rfl).2 _ _ _)
  | lt=>exact absurd rfl (n2 _ _ _)
  | wh=>exact absurd rfl (n3 _ _ _ rfl _)
  | opn=>exact absurd rfl (n4 _ _ _ _ rfl _ _)
  | emp=>exact absurd rfl (n5 _ _ _ _ _ rfl).1
  | lk=>exact absurd rfl ((n5 _ _ _ _ _ rfl).2 _ _)
  | op=>exact absurd ⟨rfl,rfl⟩ (n6 _ _ _ rfl _ _)
theorem XC {x:Str}{v:Ex}(h:v.cl []):(Su.one x v).Cl:=by
 intro y w e
 simp only [Su.one] at e
 by_cases q:y=x
 ·simp only [q,if_true,Option.some.injEq] at e;exact e▸h
 ·simp [q] at e
theorem Hu {x:Str}{v e:Ex}(h:v.cl []):dep dz (give x v e)=dep (dz.up x (dep dz v)) e:=by
 unfold give;rw [Jc (XC h),Jd]
theorem Vu {x y:Str}{m A:Nat}(h:m<=A):∀ z,dz.up y m z<=(dz.up x A).up y A z:=by
 intro z
 simp only [Dn.up,dz]
 by_cases e:z=y
 ·simp only [e,if_true];exact h
 ·simp [e]
theorem Tn {a v b:Ex}{x y:Str}(hv:v.cl [])(h:dep dz v<=dep dz a):dep dz (give y v b) < dep dz (.opn a x y b):=by
 rw [Hu hv]
 have:=DW (e:=b) (Vu (x:=x) (y:=y) h)
 simp only [dep];omega
theorem To {a v b c:Ex}{x y:Str}(hv:v.cl [])(h:dep dz v<=dep dz a):dep dz (give y v b) < dep dz (.spl a c x y b):=by
 rw [Hu hv]
 have:=DW (e:=b) (Vu (x:=x) (y:=y) h)
 simp only [dep];omega
theorem Mf {x:Str}{u v e:Ex}(h:v.cl []):Dj x x u v e=give x v e:=by
 rw [Hj h]
 unfold give
 congr 1
 funext y
 simp only [Su.or,Su.one]
 by_cases q:y=x <;> simp [q]
theorem XD {k:Nat}{e a:Ex}(T:Tr k e)(h1:1<=e.fst)(h:e.its[e.fst - 1]?=some (.pt a)):Tr k a:=by
 obtain ⟨hc,ho,n,K⟩:=T
 cases e with
 | cal u v | pr u v | lk u v =>
  obtain ⟨k1,k2⟩:=K.two (a:=u) (b:=v) rfl
  simp only [fst] at h h1
  split at h <;> (try split at h) <;> simp [its] at h
  all_goals first | (subst h;first | exact ⟨hc.1,ho.1,k1⟩ | exact ⟨hc.2,ho.2,k2⟩) | (rename_i z1 z2;simp [z1,z2] at h1)
 | op o u v =>
  obtain ⟨k1,k2⟩:=K.two (a:=u) (b:=v) rfl
  simp only [fst] at h h1
  split at h <;> (try split at h) <;> simp [its] at h
  all_goals first | (subst h;first | exact ⟨hc.1,ho.2.1,k1⟩ | exact ⟨hc.2,ho.2.2,k2⟩) | (rename_i z1 z2;simp [z1,z2] at h1)
 | lt x u v =>
  obtain ⟨k1,k2⟩:=K.two (a:=u) (b:=v) rfl
  simp only [fst] at h h1
  split at h <;> simp [its] at h
  all_goals first | (subst h;exact ⟨hc.1,ho.1,k1⟩) | (rename_i z1;simp [z1] at h1)
 | opn u x y v =>
  obtain ⟨k1,k2⟩:=K.two (a:=u) (b:=v) rfl
  simp only [fst] at h h1
  split at h <;> simp [its] at h
  all_goals first | (subst h;exact ⟨hc.1,ho.1,k1⟩) | (rename_i z1;simp [z1] at h1)
 | wh u v w =>
  obtain ⟨k1,k2,k3⟩:=K.three (a:=u) (b:=v) (c:=w) rfl
  simp only [fst] at h h1
  split at h <;> simp [its] at h
  all_goals first | (subst h;exact ⟨hc.1,ho.1,k1⟩) | (rename_i z1;simp [z1] at h1)
 | spl u v x y w =>
  obtain ⟨k1,k2,k3⟩:=K.three (a:=u) (b:=v) (c:=w) rfl
  simp only [fst] at h h1
  split at h <;> simp [its] at h
  all_goals first | (subst h;exact ⟨hc.1,ho.1,k1⟩) | (rename_i z1;simp [z1] at h1)
 | _=>simp [fst] at h1
end KX
namespace L2
open PySem PySem.Spec PyProof.Rows KS KX
theorem Paired.set {α β:Type}{F:α->β->Prop}{a:α}{b:β}(h:F a b):∀ (i:Nat) {as:List α} {bs:List β},Paired F as bs->Paired F (as.set i a) (bs.set i b)
 | _,_,_,.nil=>.nil
 | 0,_,_,.cons _ t=>.cons h t
 | i+1,_,_,.cons r t=>.cons r (Paired.set h i t)
theorem Kr (xs:List V)(k:Nat):D7 xs none (some (k:Int))=xs.take k:=by
 unfold D7
 rw [HT.sIx_none,HT.sIx_nat]
 simp only [List.drop_zero,Nat.sub_zero]
 rw [Nat.min_comm,List.take_eq_take_iff]
 omega
theorem Ks (xs:List V)(k:Nat):D7 xs (some (k:Int)) none=xs.drop k:=by
 unfold D7
 rw [HT.sIx_none,HT.sIx_nat]
 by_cases h:k<=xs.length
 ·rw [Nat.min_eq_left h,List.take_of_length_le (by simp)]
 ·rw [Nat.min_eq_right (),List.drop_eq_nil_of_le (Nat.le_refl _),List.drop_eq_nil_of_le ()];simp
theorem Nl (xs:List V)(k:Nat)(v:V)(h:k < xs.length):xs.take k++[v]++xs.drop (k+1)=xs.set k v:=by
 rw [List.set_eq_take_append_cons_drop,if_pos h];simp
end L2
namespace K
open PySem L2 KM KS KX
section
variable {Pr:Program}{w:World}{K:W.Frag}{mg:Str->Option Value}{base:Heap}
inductive Kt (k n:Nat)(vs:(List V))(H:Hp)(Q:VK)(z3:XK):Prop
 | mk (e:Ex) (r:V) (h1:vs=[r]) (h2:B9 H e r) (h3:Tr k e) (h4:dep dz e<=n) (h5:(Cy e=none->∀ H',An H H'->Q (.str "stuck") H')) (h6:∀ e' c,Cy e=some (e',c)->∀ p r' H',An H H'->H' p=some (.tup [r',.bl c])->B9 H' e' r'->Q (.ref p) H'):Kt k n vs H Q z3
noncomputable def XE (k:Nat):Nat->Sp
 | 0=>Gv
 | n+1=>Kt k n
abbrev XF (H:Hp)(p:Addr)(e:Ex)(N:Prop)(σ':St)(H':Hp):Prop:=σ'=[some (.ref p),some (.int e.fst),none,none,none,none,none,none,none]/\An H H'/\N
theorem FF:AE ["_law_tree","_law_at","_law_inner","_law_deed","_law_names","_law_one","_law_other","_law_many","_law_good"] ["_law_tree"] (Ae Cj):=nofun
theorem QQ {k n:Nat}{f:Addr}{fd:FuncData}(F:D4 K "_law_step" "_law_step" Cj f fd)(CI:mg "int"=none)
  (cS:Cl Pr w K mg base (n+k+2) "_law_step" ["_law_tree"] (XE k n)) (cF:Cl Pr w K mg base (n+2) "_law_first" ["_law_tree"] (Kq n)) (cG:Cl Pr w K mg base (n+k+1) "_law_give" ["_law_tree","_law_name_here","_law_one"] (Fe (n+k)))
  (cT:Cl Pr w K mg base (n+k+2) "_law_give_two" ["_law_tree","_law_names","_law_values"] (Kp (n+k))):AY Pr w K mg base C5 (n+k+3) f fd ["_law_tree"] (Kt k n):=by
 refine F.okS FF (λvs H Q E h=>?_) (λBV A outer s H vs Q E hr h=>?_)
 ·obtain ⟨e,r,rfl,_⟩:=h;rfl
 ·obtain ⟨e,r,rfl,he,T,hd,q1,q2⟩:=h
  have hrF:Bh (n+2) _:=hr.mono ()
  have hrG:Bh (n+k+1) _:=hr.mono ()
  have FG:=hr.units
  refine ⟨_,(Ah (Ay (i:=1) FF.nd rfl (.inl rfl) (B1 cF hrF rfl (Aa (Ai 0) Ac)))
   (Ah (B7 (Aw Ia (Ai 1) Ab (Am _)) (Ah (Ay (i:=2) FF.nd rfl (.inl rfl) (B1 cS hr rfl (Aa (Ao (r:=AA K) Aj (Ai 0) (Ai 1) AO) Ac)))
   (Ah (B7 (Aw (AK.or (Jo FG)) (Ai 2) Af (Am _)) (Al (Ar (Ai 2))) AN)
   (Al (Ar (Aq (Aa (As (r:=Fp K) Fq (As (r:=Fp K) Fq (Cn (r:=F6 K) Dt (Ai 0) Dm (Cv (Ai 1))) (Aq (Aa (Ao (r:=AA K) Aj (Ai 2) Ab AO) Ac))) (Cn (r:=F6 K) Dt (Ai 0) (Cv (As AZ (Ai 1) Ab)) Dm)) (Aa (Ao (r:=AA K) Aj (Ai 2) Ab AO) Ac))))))) AN)
   (Ah (B7 (Gk (w_and (Aw AK (Ao (r:=AA K) Aj (Ai 0) Ab AO) Af (Am _)) (CN (Aw (r:=FT K false) B0 (Ao (r:=AA K) Aj (Ao (r:=AA K) Aj (Ai 0) Ab AO) Ab AO) (Aq (Aa Af (Aa Af Ac))) rfl)))) (Ah (Ay (i:=3) FF.nd rfl (.inl rfl) (Ao (r:=AA K) Aj (Ai 0) Ab AO))
   (Ah (Ay (i:=4) FF.nd rfl (.inl rfl) (AS (Aa (Ao (r:=AA K) Aj (Ai 3) Ab AO) (Aa (Ao (r:=AA K) Aj (Ai 3) (LZ F5 Ab) AO) Ac))))
   (Al (Ar (Aq (Aa (B1 cT hr rfl (Aa (Ao (r:=AA K) Aj (Ai 3) (LZ F5 Ab) AO) (Aa (Ai 4) (Aa (AS (Aa (Ai 3) (Aa (Ao (r:=AA K) Aj (Ai 0) Ab AO) Ac))) Ac)))) (Aa ES Ac))))))) AN)
   (Ah (B7 (Aw AK (Ao (r:=AA K) Aj (Ai 0) Ab AO) Af (Am _)) (Al (Ar (Aq (Aa (B1 cG hrG rfl (Aa (Ao (r:=AA K) Aj (Ai 0) Ab AO) (Aa (Ao (r:=AA K) Aj (Ai 0) Ab AO) (Aa (Ao (r:=AA K) Aj (Ai 0) Ab AO) Ac)))) (Aa ES Ac))))) AN)
   (Ah (B7 (Gk (w_and (Aw AK (Ao (r:=AA K) Aj (Ai 0) Ab AO) Af (Am _)) (CN (Aw AK (Ao (r:=AA K) Aj (Ao (r:=AA K) Aj (Ai 0) Ab AO) Ab AO) Af (Am _))))) (Al (Ar (Aq (Aa (Ao (r:=AA K) Aj (Ai 0) (As AZ Ab (Cg DO (by rfl) CI PyProof.Rows.boot_int (Aa (Ve (Ao (r:=AA K) Aj (Ao (r:=AA K) Aj (Ai 0) Ab AO) Ab AO)) Ac))) AO) (Aa ES Ac))))) AN)
   (Ah (B7 (Gk (w_and (Aw AK (Ao (r:=AA K) Aj (Ai 0) Ab AO) Af (Am _)) (CN (Aw AK (Ao (r:=AA K) Aj (Ao (r:=AA K) Aj (Ai 0) Ab AO) Ab AO) Af (Am _))))) (Al (Ar (Aq (Aa (B1 cT hr rfl (Aa (Ao (r:=AA K) Aj (Ai 0) Ab AO) (Aa (Cn (r:=F6 K) Dt (Ai 0) (Cv Ab) (Cv Ab)) (Aa (Cn (r:=F6 K) Dt (Ao (r:=AA K) Aj (Ai 0) Ab AO) (Cv Ab) Dm) Ac)))) (Aa ES Ac))))) AN)
   (Ah (B7 (Gk (w_and (Aw AK (Ao (r:=AA K) Aj (Ai 0) Ab AO) Af (Am _)) (CN (Aw (r:=FT K false) B0 (Ao (r:=AA K) Aj (Ao (r:=AA K) Aj (Ai 0) Ab AO) Ab AO) (Aq (Aa Af (Aa Af Ac))) rfl)))) (Ah (B7 (Aw AK (Ao (r:=AA K) Aj (Ao (r:=AA K) Aj (Ai 0) Ab AO) Ab AO) Af (Am _)) (Al (Ar (Aq (Aa (Ao (r:=AA K) Aj (Ai 0) Ab AO) (Aa ES Ac))))) AN)
   (Al (Ar (Aq (Aa (B1 cT hr rfl (Aa (Ao (r:=AA K) Aj (Ai 0) Ab AO) (Aa (Cn (r:=F6 K) Dt (Ai 0) (Cv Ab) (Cv Ab)) (Aa (Cn (r:=F6 K) Dt (Ao (r:=AA K) Aj (Ai 0) Ab AO) (Cv Ab) Dm) Ac)))) (Aa ES Ac)))))) AN)
   (Ah (B7 (Gk (w_and (Aw AK (Ao (r:=AA K) Aj (Ai 0) Ab AO) Af (Am _)) (w_and (Aw AK (Ao (r:=AA K) Aj (Ao (r:=AA K) Aj (Ai 0) Ab AO) Ab AO) Af (Am _)) (CN (Aw AK (Ao (r:=AA K) Aj (Ao (r:=AA K) Aj (Ai 0) Ab AO) Ab AO) Af (Am _)))))) (Ah (Ay (i:=5) FF.nd rfl (.inl rfl) (Ao (r:=AA K) Aj (Ao (r:=AA K) Aj (Ai 0) Ab AO) Ab AO))
   (Ah (Ay (i:=6) FF.nd rfl (.inl rfl) (Ao (r:=AA K) Aj (Ao (r:=AA K) Aj (Ai 0) Ab AO) Ab AO))
   (Ah (B7 (Aw (r:=FT K false) B0 (Ao (r:=AA K) Aj (Ai 0) Ab AO) (Aq (Aa Af (Aa Af Ac))) rfl) (Ah (Ay (i:=7) FF.nd rfl (.inl rfl) (JY (Aw AK (Ao (r:=AA K) Aj (Ai 0) Ab AO) Af (Am _)) (As AZ (Ai 5) (Ai 6)) (As Cu (Ai 5) (Ai 6))))
   (Al (Ar (Aq (Aa (Aq (Aa Af (Aa (Ai 7) Ac))) (Aa ES Ac)))))) AN)
   (Ah (Ay (i:=8) FF.nd rfl (.inl rfl) (JY (Aw AK (Ao (r:=AA K) Aj (Ai 0) Ab AO) Af (Am _)) (Cc Gf (Ai 5) (Ai 6) (Am _)) (Cc AK (Ai 5) (Ai 6) (Am _))))
   (Al (Ar (Aq (Aa (Aq (Aa Af (Aa (Ai 8) Ac))) (Aa ES Ac))))))))) AN)
   (Al (Ar Af)))))))))),?_⟩
  obtain ⟨p,us,rfl,hp,hi⟩:=he.its
  left
  refine ⟨e,_,rfl,he,hd,λH1 s1=>?_⟩
  have l1:=Paired.len hi
  have l2:=GG e
  refine CL (XF H p e (e.fst=0/\Cy e=red e)) ?_ λN XG=>?_
  ·rintro _ H1 ⟨rfl,s1,f0,fs⟩
   refine CL (XF H p e (∀ a b,e=.cal a b->(∀ x c,a≠.fn x c)/\∀ f x c,a≠.rc f x c)) ?_ λN fin=>?_
   ·rintro _ H2 ⟨rfl,s2,n1⟩
    refine CL (XF H p e (∀ x a b,e≠.lt x a b)) ?_ λN fin=>?_
    ·rintro _ H3 ⟨rfl,s3,n2⟩
     refine CL (XF H p e (∀ a b c,e=.wh a b c->∀ t,a≠.tru t)) ?_ λN fin=>?_
     ·rintro _ H4 ⟨rfl,s4,n3⟩
      refine CL (XF H p e (∀ a x y b,e=.opn a x y b->∀ u v,a≠.pr u v)) ?_ λN fin=>?_
      ·rintro _ H5 ⟨rfl,s5,n4⟩
       refine CL (XF H p e (∀ a b x y c,e=.spl a b x y c->a≠.emp/\∀ u v,a≠.lk u v)) ?_ λN fin=>?_
       ·rintro _ H6 ⟨rfl,s6,n5⟩
        refine CL (XF H p e (∀ o a b,e=.op o a b->∀ i j,¬ (a=.num i/\b=.num j))) ?_ λN fin=>?_
        ·rintro _ H7 ⟨rfl,s7,n6⟩
         left
         exact q1 (fs.trans (QP n1 n2 n3 n4 n5 n6)) _ s7
        ·left
         refine Ad (Av.of (s6 _ _ hp)) (v:=.str e.wd) (Ak (j:=0) rfl) ?_
         left
         by_cases w:e.wd="op"
         ·obtain ⟨o,a,b,rfl⟩:=j4 w
          obtain ⟨ro,_,rfl,ho,hi⟩:=Cs hi
          obtain ⟨ra,_,rfl,ha,hi⟩:=Cs hi
          obtain ⟨rb,_,rfl,hb,hi⟩:=Cs hi
          cases Fm hi
          cases ho
          obtain ⟨pa,ua,rfl,HU,F1⟩:=B9.its ha
          obtain ⟨pb,ub,rfl,oo,rH⟩:=B9.its hb
          refine AW (decide_eq_true rfl) ?_
          left
          refine Ad (Av.of (s6 _ _ hp)) (v:=.ref pa) rfl ?_
          left
          refine Ad (Av.of (s6 _ _ HU)) (v:=.str a.wd) (Ak (j:=0) rfl) ?_
          left
          by_cases w2:a.wd="number"
          ·obtain ⟨i,rfl⟩:=QO w2
           obtain ⟨ua0,_,rfl,h0,F1⟩:=Cs F1
           cases Fm F1
           cases h0
           refine AW (decide_eq_true rfl) ?_
           left
           refine Ad (Av.of (s6 _ _ hp)) (v:=.ref pb) rfl ?_
           left
           refine Ad (Av.of (s6 _ _ oo)) (v:=.str b.wd) (Ak (j:=0) rfl) ?_
           left
           by_cases w3:b.wd="number"
           ·obtain ⟨j,rfl⟩:=QO w3
            obtain ⟨ub0,_,rfl,h0,rH⟩:=Cs rH
            cases Fm rH
            cases h0
            refine AW (decide_eq_true rfl) ?_
            left
            refine Ad (Av.of (s6 _ _ hp)) (v:=.ref pa) rfl ?_
            left
            refine Ad (Av.of (s6 _ _ HU)) (v:=.int i) rfl ?_
            left
            refine Ad (Av.of (s6 _ _ hp)) (v:=.ref pb) rfl ?_
            left
            refine Ad (Av.of (s6 _ _ oo)) (v:=.int j) rfl ?_
            left
            refine Ad (Av.of (s6 _ _ hp)) (v:=.str o) rfl ?_
            left
            intros t7 H7 s7 e7
            refine Bi (.inr (Av.of e7)) rfl rfl ?_
            left
            have Ku:=s6.trans s7
            have fin2:∀ (z:Ex),red (.op o (.num i) (.num j))=some (z,false)->∀ p8 H8,An H7 H8->B9 H8 z (.ref p8)->∀ p9 H9,An H8 H9->H9 p9=some (.tup [.ref p8,.bl false])->Q (.ref p9) H9:=λz hz p8 H8 s8 e8 p9 H9 s9 e9=>q2 _ _ (fs.trans hz) _ _ _ (Ku.trans (s8.trans s9)) e9 (B9.mono (Au.of_same s9) e8)
            by_cases o1:o="plus"
            ·subst o1
             refine AW ⟨⟩ ?_
             left
             refine Ad (Av.of (Ku _ _ hp)) (v:=.str "plus") rfl ?_
             left
             refine AW (decide_eq_true rfl) ?_
             left
             intros p8 H8 s8 e8
             left
             intros p9 H9 s9 e9
             exact fin2 (.num (i+j)) rfl p8 H8 s8 ⟨p8,rfl,e8⟩ p9 H9 s9 e9
            ·by_cases o2:o="minus"
             ·subst o2
              refine AW ⟨⟩ ?_
              left
              refine Ad (Av.of (Ku _ _ hp)) (v:=.str "minus") rfl ?_
              left
              refine AF (ET o1) ?_
              left
              intros p8 H8 s8 e8
              left
              intros p9 H9 s9 e9
              exact fin2 (.num (i - j)) rfl p8 H8 s8 ⟨p8,rfl,e8⟩ p9 H9 s9 e9
             ·refine AF (by simp [Cr,PL];exact ⟨λz=>o1 z.symm,λz=>o2 z.symm⟩) ?_
              left
              refine Ad (Av.of (Ku _ _ hp)) (v:=.str o) rfl ?_
              left
              by_cases o3:o="less"
              ·subst o3
               refine AW (decide_eq_true rfl) ?_
               left
               intros p8 H8 s8 e8
               left
               intros p9 H9 s9 e9
               exact fin2 (.tru (decide (i < j))) rfl p8 H8 s8 ⟨p8,rfl,e8⟩ p9 H9 s9 e9
              ·refine AF (ET o3) ?_
               left
               intros p8 H8 s8 e8
               left
               intros p9 H9 s9 e9
               refine fin2 (.tru (decide (i=j))) (by simp only [red,Xc,o1,o2,o3,if_false]) p8 H8 s8 ⟨p8,rfl,?_⟩ p9 H9 s9 e9
               simpa using e8
           ·refine AF (ET w3) ?_
            refine fin _ _ ⟨rfl,s6,λ_ _ _ z i j=>?_⟩
            cases z
            rintro ⟨_,rfl⟩
            exact w3 rfl
          ·refine AF (ET w2) ?_
           refine fin _ _ ⟨rfl,s6,λ_ _ _ z i j=>?_⟩
           cases z
           rintro ⟨rfl,_⟩
           exact w2 rfl
         ·refine AF (ET w) ?_
          exact fin _ _ ⟨rfl,s6,λ_ _ _ z=>absurd (z▸rfl) w⟩
       ·left
        refine Ad (Av.of (s5 _ _ hp)) (v:=.str e.wd) (Ak (j:=0) rfl) ?_
        left
        by_cases w:e.wd="split"
        ·obtain ⟨a,c,x,y,b,rfl⟩:=XA w
         obtain ⟨ra,_,rfl,ha,hi⟩:=Cs hi
         obtain ⟨rc,_,rfl,hc,hi⟩:=Cs hi
         obtain ⟨rx,_,rfl,hx,hi⟩:=Cs hi
         obtain ⟨ry,_,rfl,hy,hi⟩:=Cs hi
         obtain ⟨rb,_,rfl,hb,hi⟩:=Cs hi
         cases Fm hi
         cases hx
         cases hy
         obtain ⟨pa,ua,rfl,HU,F1⟩:=B9.its ha
         refine AW (decide_eq_true rfl) ?_
         left
         refine Ad (Av.of (s5 _ _ hp)) (v:=.ref pa) rfl ?_
         left
         refine Ad (Av.of (s5 _ _ HU)) (v:=.str a.wd) (Ak (j:=0) rfl) ?_
         left
         intros t6 H6 s6 e6
         refine Bi (.inr (Av.of e6)) rfl rfl ?_
         left
         have HV:=s5.trans s6
         rcases j7 (e:=a) with ⟨c',hf⟩ | ⟨c',n1,n2⟩
         ·refine AW c' ?_
          left
          refine Ad (Av.of (HV _ _ hp)) (v:=.ref pa) rfl ?_
          left
          refine Ad (Av.of (HV _ _ HU)) (v:=.str a.wd) (Ak (j:=0) rfl) ?_
          left
          rcases hf with rfl | ⟨u,v,rfl⟩
          ·refine AW (decide_eq_true rfl) ?_
           left
           refine Ad (Av.of (HV _ _ hp)) (v:=rc) rfl ?_
           left
           intros p7 H7 s7 e7
           exact q2 _ _ fs _ _ _ (HV.trans s7) e7 (B9.mono (Au.of_same (HV.trans s7)) hc)
          ·refine AF (show ¬ decide (V.str "link"=V.str "empty")=true by decide) ?_
           obtain ⟨ru,_,rfl,hu,F1⟩:=Cs F1
           obtain ⟨rv,_,rfl,hv,F1⟩:=Cs F1
           cases Fm F1
           left
           refine Ad (Av.of (HV _ _ hp)) (v:=rb) rfl ?_
           left
           refine D9 (Av.of (HV _ _ hp)) (by simp [HT.sIx]) λp7 H7 XH s7 e7=>?_
           left
           have Ku:=HV.trans s7
           refine Ad (Av.of (Ku _ _ hp)) (v:=.ref pa) rfl ?_
           left
           refine D9 (Av.of (Ku _ _ HU)) (by simp [HT.sIx]) λp8 H8 oq s8 e8=>?_
           left
           have j8:=Ku.trans s8
           have rJ:=Au.of_same j8
           have d1:=C0 (e:=.spl (.lk u v) c x y b) (a:=b) (by simp [Ex.its])
           have d2:=C0 (e:=.lk u v) (a:=v) (by simp [Ex.its])
           have d3:=To (a:=.lk u v) (x:=x) (y:=y) (b:=b) (c:=c) T.cl.1.2 ()
           refine ⟨b,u,v,x,y,_,_,_,_,_,rfl,B9.mono rJ hb,B9.mono rJ hu,B9.mono rJ hv,.inr (s8 _ _ e7),.inr e8,(),(),λr9 H9 s9 e9=>?_⟩
           left
           intros ot GJ CP Jm
           exact q2 _ _ fs _ _ _ (j8.trans (s9.trans CP)) Jm (B9.mono (Au.of_same CP) e9)
         ·refine AF (by rw [c'];decide) ?_
          refine fin _ _ ⟨rfl,HV,λ_ _ _ _ _ z=>?_⟩
          cases z
          exact ⟨n1,n2⟩
        ·refine AF (ET w) ?_
         exact fin _ _ ⟨rfl,s5,λ_ _ _ _ _ z=>absurd (z▸rfl) w⟩
      ·left
       refine Ad (Av.of (s4 _ _ hp)) (v:=.str e.wd) (Ak (j:=0) rfl) ?_
       left
       by_cases w:e.wd="open"
       ·obtain ⟨a,x,y,b,rfl⟩:=Xz w
        obtain ⟨ra,_,rfl,ha,hi⟩:=Cs hi
        obtain ⟨rx,_,rfl,hx,hi⟩:=Cs hi
        obtain ⟨ry,_,rfl,hy,hi⟩:=Cs hi
        obtain ⟨rb,_,rfl,hb,hi⟩:=Cs hi
        cases Fm hi
        cases hx
        cases hy
        obtain ⟨pa,ua,rfl,HU,F1⟩:=B9.its ha
        refine AW (decide_eq_true rfl) ?_
        left
        refine Ad (Av.of (s4 _ _ hp)) (v:=.ref pa) rfl ?_
        left
        refine Ad (Av.of (s4 _ _ HU)) (v:=.str a.wd) (Ak (j:=0) rfl) ?_
        left
        by_cases w2:a.wd="pair"
        ·obtain ⟨u,v,rfl⟩:=j6 w2
         obtain ⟨ru,_,rfl,hu,F1⟩:=Cs F1
         obtain ⟨rv,_,rfl,hv,F1⟩:=Cs F1
         cases Fm F1
         refine AW (decide_eq_true rfl) ?_
         left
         refine Ad (Av.of (s4 _ _ hp)) (v:=rb) rfl ?_
         left
         refine D9 (Av.of (s4 _ _ hp)) (by simp [HT.sIx]) λp5 H5 Lf s5 e5=>?_
         left
         have HW:=s4.trans s5
         refine Ad (Av.of (HW _ _ hp)) (v:=.ref pa) rfl ?_
         left
         refine D9 (Av.of (HW _ _ HU)) (by simp [HT.sIx]) λp6 H6 RL s6 e6=>?_
         left
         have HV:=HW.trans s6
         have rK:=Au.of_same HV
         have d1:=C0 (e:=.opn (.pr u v) x y b) (a:=b) (by simp [Ex.its])
         have d2:=C0 (e:=.pr u v) (a:=v) (by simp [Ex.its])
         have d3:=Tn (a:=.pr u v) (x:=x) (y:=y) (b:=b) T.cl.1.2 ()
         refine ⟨b,u,v,x,y,_,_,_,_,_,rfl,B9.mono rK hb,B9.mono rK hu,B9.mono rK hv,.inr (s6 _ _ e5),.inr e6,(),(),λr7 H7 s7 e7=>?_⟩
         left
         intros p8 H8 s8 e8
         exact q2 _ _ fs _ _ _ (HV.trans (s7.trans s8)) e8 (B9.mono (Au.of_same s8) e7)
        ·refine AF (ET w2) ?_
         refine fin _ _ ⟨rfl,s4,λ_ _ _ _ z u v=>?_⟩
         cases z
         rintro rfl
         exact w2 rfl
       ·refine AF (ET w) ?_
        exact fin _ _ ⟨rfl,s4,λ_ _ _ _ z=>absurd (z▸rfl) w⟩
     ·left
      refine Ad (Av.of (s3 _ _ hp)) (v:=.str e.wd) (Ak (j:=0) rfl) ?_
      left
      by_cases w:e.wd="when"
      ·obtain ⟨a,b,c,rfl⟩:=i' w
       obtain ⟨ra,_,rfl,ha,hi⟩:=Cs hi
       obtain ⟨rb,_,rfl,hb,hi⟩:=Cs hi
       obtain ⟨rc,_,rfl,hc,hi⟩:=Cs hi
       cases Fm hi
       obtain ⟨pa,ua,rfl,HU,F1⟩:=B9.its ha
       refine AW (decide_eq_true rfl) ?_
       left
       refine Ad (Av.of (s3 _ _ hp)) (v:=.ref pa) rfl ?_
       left
       refine Ad (Av.of (s3 _ _ HU)) (v:=.str a.wd) (Ak (j:=0) rfl) ?_
       left
       by_cases w2:a.wd="truth"
       ·obtain ⟨t,rfl⟩:=XB w2
        obtain ⟨ua0,_,rfl,h0,F1⟩:=Cs F1
        cases Fm F1
        cases h0
        refine AW (decide_eq_true rfl) ?_
        left
        refine Ad (Av.of (s3 _ _ hp)) (v:=.ref pa) rfl ?_
        left
        refine Ad (Av.of (s3 _ _ HU)) (v:=.bl t) rfl ?_
        left
        refine .inr ⟨_,rfl,?_⟩
        cases t with
        | true =>
         refine ⟨_,_,rfl,rfl,?_⟩
         refine Ad (Av.of (s3 _ _ hp)) (v:=rb) rfl ?_
         left
         intros p4 H4 s4 e4
         exact q2 _ _ fs _ _ _ (s3.trans s4) e4 (B9.mono (Au.of_same (s3.trans s4)) hb)
        | false =>
         refine ⟨_,_,rfl,rfl,?_⟩
         refine Ad (Av.of (s3 _ _ hp)) (v:=rc) rfl ?_
         left
         intros p4 H4 s4 e4
         exact q2 _ _ fs _ _ _ (s3.trans s4) e4 (B9.mono (Au.of_same (s3.trans s4)) hc)
       ·refine AF (ET w2) ?_
        refine fin _ _ ⟨rfl,s3,λ_ _ _ z t=>?_⟩
        cases z
        rintro rfl
        exact w2 rfl
      ·refine AF (ET w) ?_
       exact fin _ _ ⟨rfl,s3,λ_ _ _ z=>absurd (z▸rfl) w⟩
    ·left
     refine Ad (Av.of (s2 _ _ hp)) (v:=.str e.wd) (Ak (j:=0) rfl) ?_
     left
     by_cases w:e.wd="let"
     ·obtain ⟨x,a,b,rfl⟩:=iZ w
      obtain ⟨rx,_,rfl,hx,hi⟩:=Cs hi
      obtain ⟨ra,_,rfl,ha,hi⟩:=Cs hi
      obtain ⟨rb,_,rfl,hb,hi⟩:=Cs hi
      cases Fm hi
      cases hx
      refine AW (decide_eq_true rfl) ?_
      left
      refine Ad (Av.of (s2 _ _ hp)) (v:=rb) rfl ?_
      left
      refine Ad (Av.of (s2 _ _ hp)) (v:=.str x) rfl ?_
      left
      refine Ad (Av.of (s2 _ _ hp)) (v:=ra) rfl ?_
      left
      have db:=C0 (e:=.lt x a b) (a:=b) (by simp [Ex.its])
      refine ⟨b,a,x,_,_,rfl,B9.mono (Au.of_same s2) hb,B9.mono (Au.of_same s2) ha,(),λr3 H3 s3 e3=>?_⟩
      left
      intros p4 H4 s4 e4
      exact q2 _ _ fs _ _ _ (s2.trans (s3.trans s4)) e4 (B9.mono (Au.of_same s4) e3)
     ·refine AF (ET w) ?_
      exact fin _ _ ⟨rfl,s2,λ_ _ _ z=>absurd (z▸rfl) w⟩
   ·left
    refine Ad (Av.of (s1 _ _ hp)) (v:=.str e.wd) (Ak (j:=0) rfl) ?_
    left
    by_cases w:e.wd="call"
    ·obtain ⟨a,b,rfl⟩:=Xy w
     obtain ⟨ra,_,rfl,ha,hi⟩:=Cs hi
     obtain ⟨rb,_,rfl,hb,hi⟩:=Cs hi
     cases Fm hi
     obtain ⟨pa,ua,rfl,HU,F1⟩:=B9.its ha
     refine AW (decide_eq_true rfl) ?_
     left
     refine Ad (Av.of (s1 _ _ hp)) (v:=.ref pa) rfl ?_
     left
     refine Ad (Av.of (s1 _ _ HU)) (v:=.str a.wd) (Ak (j:=0) rfl) ?_
     left
     intros t2 H2 s2 e2
     refine Bi (.inr (Av.of e2)) rfl rfl ?_
     left
     rcases Vt (e:=a) with ⟨c,hf⟩ | ⟨c,n1,n2⟩
     ·refine AW c ?_
      obtain ⟨x,y,d,rL,i1,i2,i3,IP,rM,⟨nb,hnb,Kd⟩,hdd⟩:Lb λ(x y:Str) (d:Ex) (rL:V)=>MN (V.str a.wd::ua) 1=some (.str x)/\MN (V.str a.wd::ua) (-2)=some (.str y)/\MN (V.str a.wd::ua) (-1)=some rL/\B9 H d rL/\red (.cal a b)=some (Dj x y a b d,true)/\(∃ nb,nb<=k/\Kb k d nb)/\dep dz d<=n:=by
       obtain ⟨hc,ho,m,K'⟩:=T
       obtain ⟨⟨m1,K1⟩,K2⟩:=K'.two rfl
       rcases hf with ⟨x,d,rfl⟩ | ⟨f,x,d,rfl⟩
       ·obtain ⟨u1,_,rfl,h1,F1⟩:=Cs F1
        obtain ⟨u2,_,rfl,h2,F1⟩:=Cs F1
        cases Fm F1;cases h1
        have:=C0 (e:=.fn x d) (a:=d) (by simp [Ex.its])
        have:=C0 (e:=.cal (.fn x d) b) (a:=.fn x d) (by simp [Ex.its])
        exact ⟨x,x,d,u2,rfl,rfl,rfl,h2,by rw [Mf hc.2];rfl,K1.body (.inl ⟨x,rfl⟩),()⟩
       ·obtain ⟨u1,_,rfl,h1,F1⟩:=Cs F1
        obtain ⟨u2,_,rfl,h2,F1⟩:=Cs F1
        obtain ⟨u3,_,rfl,h3,F1⟩:=Cs F1
        cases Fm F1;cases h1;cases h2
        have:=C0 (e:=.rc f x d) (a:=d) (by simp [Ex.its])
        have:=C0 (e:=.cal (.rc f x d) b) (a:=.rc f x d) (by simp [Ex.its])
        exact ⟨f,x,d,u3,rfl,rfl,rfl,h3,rfl,K1.body (.inr ⟨f,x,rfl⟩),()⟩
      have BN:=s1.trans s2
      left
      refine Ad (Av.of (BN _ _ hp)) (v:=.ref pa) rfl ?_
      left
      refine Ad (Av.of (BN _ _ HU)) i1 ?_
      left
      refine Ad (Av.of (BN _ _ HU)) i2 ?_
      left
      intros p3 H3 s3 e3
      left
      have D3:=BN.trans s3
      refine Ad (Av.of (D3 _ _ HU)) i3 ?_
      left
      refine Ad (Av.of (D3 _ _ hp)) (v:=rb) rfl ?_
      left
      intros p4 H4 s4 e4
      have Jp:=D3.trans s4
      have QR:=Au.of_same Jp
      have db:=C0 (e:=.cal a b) (a:=b) (by simp [Ex.its])
      have dg:dep dz (give y b d)<=n+k:=by
       rw [Hu T.cl.2]
       have:=Kd.dep (ρ:=dz.up y (dep dz b)) (m:=n) (D0 y (λ_=>Nat.zero_le _) ()) hdd
       omega
      refine ⟨d,a,b,x,y,_,_,_,_,_,rfl,B9.mono QR IP,B9.mono QR ha,B9.mono QR hb,.inl (s4 _ _ e3),.inl e4,(),dg,λr5 H5 s5 e5=>?_⟩
      left
      intros p6 H6 s6 e6
      exact q2 _ _ (fs.trans rM) _ _ _ (Jp.trans (s5.trans s6)) e6 (B9.mono (Au.of_same s6) e5)
     ·refine AF (by rw [c];decide) ?_
      refine fin _ _ ⟨rfl,s1.trans s2,λ_ _ z=>?_⟩
      cases z
      exact ⟨n1,n2⟩
    ·refine AF (ET w) ?_
     exact fin _ _ ⟨rfl,s1,λ_ _ z=>absurd (z▸rfl) w⟩
  ·left
   rcases Tb e with ⟨f0,fs⟩ | ⟨a,f3,f1,fa,fv,fs,fp⟩
   ·refine AF (λz=>by have:=of_decide_eq_true z;omega) ?_
    exact XG _ _ ⟨rfl,s1,f0,fs⟩
   ·refine AW (decide_eq_true ()) ?_
    obtain ⟨u,hu,QN⟩:=Paired.at1 hi fa
    have hk:∃ m,e.fst=m+1:=⟨e.fst - 1,()⟩
    have O5:(V.str e.wd::us)[e.fst]?=some u:=by
     obtain ⟨m,hm⟩:=hk
     rw [hm] at hu ⊢
     simpa using hu
    have DN:e.fst - 1 < us.length:=(List.getElem?_eq_some_iff.mp hu).1
    left
    refine Ad (Av.of (s1 _ _ hp)) (v:=u) (Ak O5) ?_
    left
    have da:=C0 (List.mem_of_getElem? fa)
    cases n with
    | zero=>omega
    | succ n =>
    refine ⟨a,u,rfl,B9.mono (Au.of_same s1) QN,XD T f1 fa,(),λst H2 s2=>?_,λe' c st pi r' H2 s2 h2 Ol=>?_⟩
    ·left
     refine .inl ⟨rfl,⟨_,rfl,AW (decide_eq_true rfl) ?_⟩⟩
     left
     exact q1 (by rw [fs,st];rfl) _ (s1.trans s2)
    ·left
     refine .inr ⟨pi,_,_,rfl,h2,rfl,⟨_,rfl,Cm ?_⟩⟩
     left
     have BN:=s1.trans s2
     refine D9 (Av.of (BN _ _ hp)) ?_ λp3 H3 Tp s3 e3=>?_
     ·rintro ⟨_,z⟩
      rw [HT.sIx_nat] at z
      simp only [List.length_cons] at z
      omega
     rw [Kr] at e3
     left
     refine Ad (Av.of (s3 _ _ h2)) (v:=r') rfl ?_
     left
     intros p4 H4 s4 e4
     have lt:((V.str e.wd::us).take e.fst).length=e.fst:=by
      rw [List.length_take,List.length_cons];omega
     refine Fz (Av.of (s4 _ _ e3)) (Av.of e4) (λz=>by rw [z] at lt;simp at lt;omega) (by rw [lt];exact BX (by simp;omega)) (λz=>by cases z) λp5 H5 Lf s5 e5=>?_
     have HW:=BN.trans (s3.trans (s4.trans s5))
     left
     refine D9 (Av.of (HW _ _ hp)) ?_ λp6 H6 RL s6 e6=>?_
     ·rintro ⟨z,_⟩
      rw [show ((e.fst:Int)+1)=((e.fst+1:Nat):Int) by omega,HT.sIx_nat] at z
      simp only [List.length_cons] at z
      omega
     rw [show ((e.fst:Int)+1)=((e.fst+1:Nat):Int) by omega,Ks] at e6
     have HV:=HW.trans s6
     have rN:=s3.trans (s4.trans (s5.trans s6))
     have fin:∀ p7 H7,An H6 H7->H7 p7=some (.tup ((V.str e.wd::us).take e.fst++[r']++(V.str e.wd::us).drop (e.fst+1)))->∀ p8 H8,An H7 H8->H8 p8=some (.tup [.ref p7,.bl c])->Q (.ref p8) H8:=λp7 H7 s7 e7 p8 H8 s8 e8=>by
      refine q2 (put e e.fst e') c (by rw [fs,st];rfl) p8 _ H8 (HV.trans (s7.trans s8)) e8 ?_
      rw [Nl _ _ _ (by simp;omega)] at e7
      obtain ⟨m,hm⟩:=hk
      rw [hm,List.set_cons_succ] at e7
      have t8:=Au.of_same (HV.trans (s7.trans s8))
      refine B9.of_its (us:=us.set m r') (by rw [(fp e').2];exact s8 _ _ e7) ?_
      rw [(fp e').1,hm]
      exact Paired.set (show Fc H8 (.pt e') r' from B9.mono (Au.of_same (rN.trans (s7.trans s8))) Ol) m (Paired.mapP hi λ_ _ z=>Fc.mono t8 z)
     refine Fz (Av.of (s6 _ _ e5)) (Av.of e6) (by simp) ?_ (λz=>?_) λp7 H7 XH s7 e7=>?_
     ·refine BX ?_
      simp only [List.length_append,lt,List.length_cons,List.length_nil,List.length_drop]
      omega
     ·left
      refine Ad (Av.of (rN _ _ h2)) (v:=.bl c) rfl ?_
      left
      intros p8 H8 s8 e8
      exact fin p5 H6 (An.refl _) (by rw [z,List.append_nil];exact s6 _ _ e5) p8 H8 s8 e8
     ·left
      refine Ad (Av.of (s7 _ _ (rN _ _ h2))) (v:=.bl c) rfl ?_
      left
      intros p8 H8 s8 e8
      exact fin p7 H7 s7 e7 p8 H8 s8 e8
theorem Vv {k:Nat}{f:Addr}{fd:FuncData}(D:Df K mg "_law_step" Cj ["_law_tree"] f fd)(CI:mg "int"=none)(cF:∀ n,Cl Pr w K mg base (n+2) "_law_first" ["_law_tree"] (Kq n))(cG:∀ n,Cl Pr w K mg base (n+1) "_law_give" ["_law_tree","_law_name_here","_law_one"] (Fe n))
  (cT:∀ n,Cl Pr w K mg base (n+2) "_law_give_two" ["_law_tree","_law_names","_law_values"] (Kp n)):∀ n,Cl Pr w K mg base (n+k+3) "_law_step" ["_law_tree"] (Kt k n)
 | 0=>D.cl (QQ (n:=0) D.F CI (D.cl Ez) (cF 0) (cG _) (cT _))
 | n+1=>D.cl (QQ (n:=n+1) D.F CI (by have:=Vv (k:=k) D CI cF cG cT n;rw [show n+k+3=n+1+k+2 by omega] at this;exact this) (cF _) (cG _) (cT _))
end
end K
namespace KX
open PySem
namespace Ex
noncomputable def kn:Ex->Nat
 | nm _ | num _ | tru _ | emp=>0
 | fn _ b=>1+kn b | rc _ _ b=>1+kn b | cal a b=>1+max (kn a) (kn b) | lt _ a b=>1+kn a+kn b | wh a b c=>1+max (kn a) (max (kn b) (kn c)) | pr a b=>1+max (kn a) (kn b)
 | opn a _ _ b=>1+kn a+kn b | lk a b=>1+max (kn a) (kn b) | spl a b _ _ c=>1+max (kn b) (kn a+kn c) | op _ a b=>1+max (kn a) (kn b)
noncomputable def opj (k:Nat):Ex->Prop
 | nm _ | num _ | tru _ | emp=>True
 | fn _ b=>opj k b/\kn b<=k | rc _ _ b=>opj k b/\kn b<=k | cal a b=>opj k a/\opj k b | lt _ a b=>opj k a/\opj k b | wh a b c=>opj k a/\opj k b/\opj k c | pr a b=>opj k a/\opj k b
 | opn a _ _ b=>opj k a/\opj k b | lk a b=>opj k a/\opj k b | spl a b _ _ c=>opj k a/\opj k b/\opj k c | op o a b=>isOp o/\opj k a/\opj k b
end Ex
open Ex
theorem Tq {k:Nat}{e:Ex}:e.opj k->e.opk:=by
 induction e with
 | nm _ | num _ | tru _ | emp=>exact λ_=>trivial
 | fn x b ih=>exact λh=>ih h.1
 | rc f x b ih=>exact λh=>ih h.1
 | cal a b ia ib | pr a b ia ib | lk a b ia ib=>exact λh=>⟨ia h.1,ib h.2⟩
 | lt x a b ia ib=>exact λh=>⟨ia h.1,ib h.2⟩
 | opn a x y b ia ib=>exact λh=>⟨ia h.1,ib h.2⟩
 | op o a b ia ib=>exact λh=>⟨h.1,ia h.2.1,ib h.2.2⟩
 | wh a b c ia ib ic=>exact λh=>⟨ia h.1,ib h.2.1,ic h.2.2⟩
 | spl a b x y c ia ib ic=>exact λh=>⟨ia h.1,ib h.2.1,ic h.2.2⟩
theorem XI {k:Nat}{e:Ex}:e.opj k->Kb k e e.kn:=by
 induction e with
 | nm x=>exact λ_=>.nm x
 | num i=>exact λ_=>.num i
 | tru b=>exact λ_=>.tru b
 | emp=>exact λ_=>.emp
 | fn x b ih=>exact λh=>.fn (ih h.1) h.2
 | rc f x b ih=>exact λh=>.rc (ih h.1) h.2
 | cal a b ia ib=>exact λh=>.cal (ia h.1) (ib h.2)
 | pr a b ia ib=>exact λh=>.pr (ia h.1) (ib h.2)
 | lk a b ia ib=>exact λh=>.lk (ia h.1) (ib h.2)
 | lt x a b ia ib=>exact λh=>.lt (ia h.1) (ib h.2)
 | opn a x y b ia ib=>exact λh=>.opn (ia h.1) (ib h.2)
 | op o a b ia ib=>exact λh=>.op (ia h.2.1) (ib h.2.2)
 | wh a b c ia ib ic=>exact λh=>.wh (ia h.1) (ib h.2.1) (ic h.2.2)
 | spl a b x y c ia ib ic=>exact λh=>.spl (ia h.1) (ib h.2.1) (ic h.2.2)
theorem QS {e:Ex}:∀ {ρ:Dn} {m:Nat},(∀ y,ρ y<=m)->dep ρ e<=e.kn+m:=by
 have up:∀ {ρ:Dn} {m:Nat} (n:Nat),(∀ y,ρ y<=m)->∀ y,ρ y<=n+m:=λn h y=>Nat.le_trans (h y) (Nat.le_add_left _ _)
 induction e with
 | nm x=>intro ρ m h;exact Nat.le_trans (h x) (Nat.le_add_left _ _)
 | num _ | tru _ | emp=>intros;exact Nat.zero_le _
 | fn x b ih=>intro ρ m h;exact m1 (ih (D0 x h (Nat.zero_le m)))
 | rc f x b ih=>intro ρ m h;exact m1 (ih (D0 x (D0 f h (Nat.zero_le m)) (Nat.zero_le m)))
 | cal a b ia ib | pr a b ia ib | lk a b ia ib=>intro ρ m h;exact m2 (ia h) (ib h)
 | op o a b ia ib=>intro ρ m h;exact m2 (ia h) (ib h)
 | wh a b c ia ib ic=>intro ρ m h;exact m3 (ia h) (ib h) (ic h)
 | lt x a b ia ib=>intro ρ m h;exact m4 (ia h) (ib (ρ:=ρ.up x (dep ρ a)) (m:=a.kn+m) (D0 x (up _ h) (ia h)))
 | opn a x y b ia ib=>intro ρ m h;exact m4 (ia h) (ib (ρ:=(ρ.up x (dep ρ a)).up y (dep ρ a)) (m:=a.kn+m) (D0 y (D0 x (up _ h) (ia h)) (ia h)))
 | spl a b x y c ia ib ic=>intro ρ m h;exact m5 (ia h) (ib h) (ic (ρ:=(ρ.up x (dep ρ a)).up y (dep ρ a)) (m:=a.kn+m) (D0 y (D0 x (up _ h) (ia h)) (ia h)))
structure Ov (xs:List Str)(b c:Nat)(e:Ex):Prop where
 cl:e.cl xs
 op:e.opj 29
 np:e.kn<=b
 sz:e.sz<=c
open L2
noncomputable def Ow:Ex->Nat->Ex->Ex
 | fn x _,_,z=>fn x z | rc f x _,_,z=>rc f x z | cal a b,i,z=>if i=0 then cal z b else cal a z | pr a b,i,z=>if i=0 then pr z b else pr a z | lk a b,i,z=>if i=0 then lk z b else lk a z
 | lt x a b,i,z=>if i=1 then lt x z b else lt x a z | op o a b,i,z=>if i=1 then op o z b else op o a z | opn a x y b,i,z=>if i=0 then opn z x y b else opn a x y z
 | wh a b c,i,z=>if i=0 then wh z b c else if i=1 then wh a z c else wh a b z | spl a b x y c,i,z=>if i=0 then spl z b x y c else if i=1 then spl a z x y c else spl a b x y z
 | e,_,_=>e
theorem QT {e a z:Ex}{i:Nat}(h:e.its[i]?=some (.pt a)):(Ow e i z).its=e.its.set i (.pt z)/\(Ow e i z).wd=e.wd:=by
 cases e <;> rcases i with _ | _ | _ | _ | _ | i <;> simp [its] at h <;> simp [Ow,its,wd]
inductive fQ:Ex->Ex->Prop
 | here (e:Ex) {v:Ex}:v=.num 3\/v=.tru true\/v=.emp->fQ e v
 | at' {e a a':Ex} {i:Nat}:e.its[i]?=some (.pt a)->fQ a a'->fQ e (Ow e i a')
theorem sz_pos (e:Ex):1<=e.sz:=by cases e <;> simp [sz] <;> omega
theorem k1 {a b c d:Nat}(h:a<=b)(g:c<=d):1+max a c<=1+max b d:=by omega
theorem k2 {a b c d e f:Nat}(h:a<=b)(g:c<=d)(q:e<=f):1+max a (max c e)<=1+max b (max d f):=by omega
theorem k3 {a b c d:Nat}(h:a<=b)(g:c<=d):1+a+c<=1+b+d:=by omega
theorem k4 {a b c d e f:Nat}(h:a<=b)(g:c<=d)(q:e<=f):1+max c (a+e)<=1+max d (b+f):=by omega
theorem k5 {a b c d e f:Nat}(h:a<=b)(g:c<=d)(q:e<=f):1+a+c+e<=1+b+d+f:=by omega
theorem fQ.ok {e e':Ex}(h:fQ e e'):(∀ xs,e.cl xs->e'.cl xs)/\(e.opj 29->e'.opj 29)/\e'.kn<=e.kn/\e'.sz<=e.sz:=by
 induction h with
 | here e hv =>
  have:=sz_pos e
  rcases hv with rfl | rfl | rfl <;> exact ⟨λ_ _=>trivial,λ_=>trivial,Nat.zero_le _,this⟩
 | @at' e a a' i hi _ ih =>
  obtain ⟨i1,i2,i3,i4⟩:=ih
  cases e with
  | nm _ | num _ | tru _ | emp=>rcases i with _ | i <;> simp [its] at hi
  | fn x b =>
   rcases i with _ | _ | i <;> simp [its] at hi
   subst hi
   exact ⟨λxs c=>i1 _ c,λo=>⟨i2 o.1,Nat.le_trans i3 o.2⟩,Nat.add_le_add_left i3 1,Nat.add_le_add_left i4 1⟩
  | rc f x b =>
   rcases i with _ | _ | _ | i <;> simp [its] at hi
   subst hi
   exact ⟨λxs c=>i1 _ c,λo=>⟨i2 o.1,Nat.le_trans i3 o.2⟩,Nat.add_le_add_left i3 1,Nat.add_le_add_left i4 1⟩
  | cal u v | pr u v | lk u v =>
   rcases i with _ | _ | i <;> simp [its] at hi <;> subst hi <;> simp only [Ow,if_true,Nat.add_eq_zero_iff,Nat.succ_ne_self,and_false,if_false,Nat.zero_add,Nat.one_ne_zero]
   ·exact ⟨λxs c=>⟨i1 _ c.1,c.2⟩,λo=>⟨i2 o.1,o.2⟩,k1 i3 (Nat.le_refl _),k3 i4 (Nat.le_refl _)⟩
   ·exact ⟨λxs c=>⟨c.1,i1 _ c.2⟩,λo=>⟨o.1,i2 o.2⟩,k1 (Nat.le_refl _) i3,k3 (Nat.le_refl _) i4⟩
  | lt x u v =>
   rcases i with _ | _ | _ | i <;> simp [its] at hi <;> subst hi
   ·exact ⟨λxs c=>⟨i1 _ c.1,c.2⟩,λo=>⟨i2 o.1,o.2⟩,k3 i3 (Nat.le_refl _),k3 i4 (Nat.le_refl _)⟩
   ·exact ⟨λxs c=>⟨c.1,i1 _ c.2⟩,λo=>⟨o.1,i2 o.2⟩,k3 (Nat.le_refl _) i3,k3 (Nat.le_refl _) i4⟩
  | op o u v =>
   rcases i with _ | _ | _ | i <;> simp [its] at hi <;> subst hi
   ·exact ⟨λxs c=>⟨i1 _ c.1,c.2⟩,λo=>⟨o.1,i2 o.2.1,o.2.2⟩,k1 i3 (Nat.le_refl _),k3 i4 (Nat.le_refl _)⟩
   ·exact ⟨λxs c=>⟨c.1,i1 _ c.2⟩,λo=>⟨o.1,o.2.1,i2 o.2.2⟩,k1 (Nat.le_refl _) i3,k3 (Nat.le_refl _) i4⟩
  | opn u x y v =>
   rcases i with _ | _ | _ | _ | i <;> simp [its] at hi <;> subst hi
   ·exact ⟨λxs c=>⟨i1 _ c.1,c.2⟩,λo=>⟨i2 o.1,o.2⟩,k3 i3 (Nat.le_refl _),k3 i4 (Nat.le_refl _)⟩
   ·exact ⟨λxs c=>⟨c.1,i1 _ c.2⟩,λo=>⟨o.1,i2 o.2⟩,k3 (Nat.le_refl _) i3,k3 (Nat.le_refl _) i4⟩
  | wh u v w =>
   rcases i with _ | _ | _ | i <;> simp [its] at hi <;> subst hi
   ·exact ⟨λxs c=>⟨i1 _ c.1,c.2⟩,λo=>⟨i2 o.1,o.2⟩,k2 i3 (Nat.le_refl _) (Nat.le_refl _),k5 i4 (Nat.le_refl _) (Nat.le_refl _)⟩
   ·exact ⟨λxs c=>⟨c.1,i1 _ c.2.1,c.2.2⟩,λo=>⟨o.1,i2 o.2.1,o.2.2⟩,k2 (Nat.le_refl _) i3 (Nat.le_refl _),k5 (Nat.le_refl _) i4 (Nat.le_refl _)⟩
   ·exact ⟨λxs c=>⟨c.1,c.2.1,i1 _ c.2.2⟩,λo=>⟨o.1,o.2.1,i2 o.2.2⟩,k2 (Nat.le_refl _) (Nat.le_refl _) i3,k5 (Nat.le_refl _) (Nat.le_refl _) i4⟩
  | spl u v x y w =>
   rcases i with _ | _ | _ | _ | _ | i <;> simp [its] at hi <;> subst hi
   ·exact ⟨λxs c=>⟨i1 _ c.1,c.2⟩,λo=>⟨i2 o.1,o.2⟩,k4 i3 (Nat.le_refl _) (Nat.le_refl _),k5 i4 (Nat.le_refl _) (Nat.le_refl _)⟩
   ·exact ⟨λxs c=>⟨c.1,i1 _ c.2.1,c.2.2⟩,λo=>⟨o.1,i2 o.2.1,o.2.2⟩,k4 (Nat.le_refl _) i3 (Nat.le_refl _),k5 (Nat.le_refl _) i4 (Nat.le_refl _)⟩
   ·exact ⟨λxs c=>⟨c.1,c.2.1,i1 _ c.2.2⟩,λo=>⟨o.1,o.2.1,i2 o.2.2⟩,k4 (Nat.le_refl _) (Nat.le_refl _) i3,k5 (Nat.le_refl _) (Nat.le_refl _) i4⟩
end KX
namespace K
open PySem L2 KM KS
section
variable {Pr:Program}{w:World}{K:W.Frag}{mg:Str->Option Value}{base:Heap}
inductive Mg (K:W.Frag)(vs:(List V))(H:Hp)(Q:VK)(z3:XK):Prop
 | mk (a:Addr) (ns:List Int) (k:Int) (h1:vs=[.ref a,.int k]) (h2:B3 K H a (ns.map V.int)) (h3:∀ n,Q (.int n) H):Mg K vs H Q z3
theorem XJ:AE HG HG (Ae Hs):=nofun
theorem Ts {f:Addr}{fd:FuncData}(F:D4 K "_law_cell" "_law_cell" Hs f fd)(Mh:mg "len"=none):AY Pr w K mg base C5 1 f fd HG (Mg K):=by
 refine F.ok XJ (λvs H Q E h=>?_) (λBV A outer s H vs Q E hr h=>?_)
 ·obtain ⟨a,ns,k,rfl,_⟩:=h
  rfl
 ·obtain ⟨a,ns,k,rfl,hs,q⟩:=h
  refine ⟨_,Fn (V3 (JO (pv 0) (λ_=>rfl)) (Gx (IT (V8 AJ (pv 0) (Ec Bc (pv 1) (JR Ax (by rfl) Mh PySem.boot_len (Gy (pv 0) Lz))) AO))) Mz) (Gx (IT DI)),?_⟩
  refine ⟨_,rfl,!(ns.map V.int).isEmpty,.inl ⟨_,hs,rfl⟩,?_⟩
  cases ns with
  | nil=>exact Cm (q _)
  | cons n ns =>
   refine CT ?_
   have Jq:(0:Int) < (((n::ns).map V.int).length:Nat):=by simp
   refine ⟨_,rfl,_,rfl,_,rfl,a,_,rfl,.inl hs,_,_,rfl,rfl,Jq,?_⟩
   obtain ⟨v,hv,hm⟩:=Qm (xs:=(n::ns).map V.int) (i:=k % (((n::ns).map V.int).length:Int)) (Int.emod_nonneg _ ()) (Int.emod_lt_of_pos _ Jq)
   obtain ⟨z,_,rfl⟩:=List.mem_map.mp hm
   exact ⟨a,_,_,_,rfl,rfl,hs,hv,q z⟩
inductive DY (K:W.Frag)(vs:(List V))(H:Hp)(Q:VK)(z3:XK):Prop
 | mk (a:Addr) (ns:List Int) (k:Int) (h1:vs=[.ref a,.int k]) (h2:B3 K H a (ns.map V.int)) (h3:∀ n,0<=n->Q (.int n) H):DY K vs H Q z3
theorem QU:AE ["_law_script","_law_k","_law_number"] HG (Ae Mc):=nofun
theorem XM {f fC:Addr}{fd fdC:FuncData}(F:D4 K "_law_mix" "_law_mix" Mc f fd)(G:AY Pr w K mg base C5 1 fC fdC HG (Mg K))(kC:W.keepIn K (.ref fC)=true)(bC:Binds K fdC HG [])(mC:mg "_law_cell"=some (.ref fC)):AY Pr w K mg base C5 2 f fd HG (DY K):=by
 refine F.ok QU (λvs H Q E h=>?_) (λBV A outer s H vs Q E hr h=>?_)
 ·obtain ⟨a,ns,k,rfl,_⟩:=h
  rfl
 ·obtain ⟨a,ns,k,rfl,hs,q⟩:=h
  refine ⟨_,Fn (Ln (i:=2) QU.nd rfl (.inl rfl) (Ec Bc (Ec AZ (MJ G hr rfl mC kC bC .nil Ha (Gy (pv 0) (Gy (pv 1) Lz))) (Ec BE DI (Ec AZ (pv 1) DI))) DI))
   (Fn (Ln (i:=2) QU.nd rfl (.inl rfl) (Ec Bc (Ec BE (pv 2) DI) DI))
   (Gx (IT (Ec Bc (Ec AZ (Ec BE (Ec Ck (pv 2) DI) DI) (pv 2)) DI)))),?_⟩
  refine ⟨_,rfl,_,rfl,a,ns,k,rfl,hs,λn=>⟨_,rfl,_,_,rfl,rfl,_,_,rfl,rfl,.inl ⟨⟨⟩,⟨⟩⟩,_,_,rfl,rfl,_,_,rfl,rfl,(by show (0:Int) < 4294967291;decide),?_⟩⟩
  refine ⟨_,rfl,_,_,rfl,rfl,.inr ⟨⟨⟩,⟨⟩⟩,_,_,rfl,rfl,(by show (0:Int) < 4294967279;decide),?_⟩
  refine ⟨_,rfl,_,_,rfl,rfl,⟨⟨⟩,⟨⟩⟩,_,_,rfl,rfl,.inr ⟨⟨⟩,⟨⟩⟩,_,rfl,_,_,rfl,rfl,_,_,rfl,rfl,(by show (0:Int) < 4294967231;decide),?_⟩
  exact q _ (Int.emod_nonneg _ ⟨⟩)
end
open KX
section
variable {Pr:Program}{w:World}{K:W.Frag}{mg:Str->Option Value}{base:Heap}
inductive Kv (K:W.Frag)(n:Nat)(vs:(List V))(H:Hp)(Q:VK)(z3:XK):Prop
 | mk (a:Addr) (ns:List Int) (k:Int) (e:Ex) (r:V) (h1:vs=[.ref a,.int k,r]) (h2:B3 K H a (ns.map V.int)) (h3:B9 H e r) (h4:dep dz e<=n) (h5:∀ e' r' H',An H H'->B9 H' e' r'->fQ e e'->Q r' H'):Kv K n vs H Q z3
noncomputable def XN (K:W.Frag):Nat->Sp
 | 0=>Gv
 | n+1=>Kv K n
theorem QV:AE ["_law_script","_law_k","_law_tree","_law_number","_law_at"] ["_law_script","_law_k","_law_tree"] (Ae Bt):=nofun
theorem QW {n:Nat}{f:Addr}{fd:FuncData}(F:D4 K "_law_spoiled" "_law_spoiled" Bt f fd)(B6:mg "len"=none)(Ap:mg "isinstance"=none)(AV:mg "tuple"=none)(cM:Cl Pr w K mg base 2 "_law_mix" HG (DY K))
  (cS:Cl Pr w K mg base (n+2) "_law_spoiled" ["_law_script","_law_k","_law_tree"] (XN K n)):AY Pr w K mg base C5 (n+3) f fd ["_law_script","_law_k","_law_tree"] (Kv K n):=by
 refine F.okS QV (λvs H Q E h=>?_) (λBV A outer s H vs Q E hr h=>?_)
 ·obtain ⟨a,ns,k,e,r,rfl,_⟩:=h;rfl
 ·obtain ⟨a,ns,k,e,r,rfl,hs,he,hd,q⟩:=h
  have GK:Bh 2 _:=hr.mono ()
  refine ⟨_,(Ah (Ay (i:=3) QV.nd rfl (.inl rfl) (B1 cM GK rfl (Aa (Ai 0) (Aa (Ai 1) Ac))))
   (Ah (Ay (i:=4) QV.nd rfl (.inl rfl) (As AZ Ab (As Bc (As Ck (Ai 3) Ab) (AH Ax (by rfl) B6 PySem.boot_len (Aa (Ai 2) Ac)))))
   (Ah (B7 (Gk (w_or (Aw Px (Ai 4) (AH Ax (by rfl) B6 PySem.boot_len (Aa (Ai 2) Ac)) (Am _)) (EX (DU (DC (AH BO (by rfl) Ap PyProof.Rows.boot_isinstance (Aa (Ao (r:=AA K) Aj (Ai 2) (Ai 4) AO) (Aa (CV (v:=.ty "tuple") rfl AV PyProof.Rows.boot_tuple rfl) Ac)))))))) (Al (Ar (Ao (r:=Bw K) AJ (AS (Aa (Aq (Aa Af (Aa Ab Ac))) (Aa (Aq (Aa Af (Aa ES Ac))) (Aa (Aq (Aa Af Ac)) Ac)))) (As Bc (As Ck (Ai 3) Ab) Ab) AO))) AN)
   (Al (Ar (As (r:=Fp K) Fq (As (r:=Fp K) Fq (Cn (r:=F6 K) Dt (Ai 2) Dm (Cv (Ai 4))) (Aq (Aa (B1 cS hr rfl (Aa (Ai 0) (Aa (As AZ (As BE Ab (Ai 1)) Ab) (Aa (Ao (r:=AA K) Aj (Ai 2) (Ai 4) AO) Ac)))) Ac))) (Cn (r:=F6 K) Dt (Ai 2) (Cv (As AZ (Ai 4) Ab)) Dm))))))),?_⟩
  obtain ⟨p,us,rfl,hp,hi⟩:=he.its
  have l1:=Paired.len hi
  have l2:=GG e
  left
  refine ⟨a,ns,k,rfl,hs,λm hm=>?_⟩
  left
  refine ⟨p,_,rfl,.inr (Av.of hp),?_⟩
  have Jq:(0:Int) < ((V.str e.wd::us).length:Nat):=by simp
  refine N5 Jq ?_
  obtain ⟨j,hj,hjl⟩:∃ j:Nat,1+m / 3 % ((V.str e.wd::us).length:Int)=((j+1:Nat):Int)/\j < us.length+1:=by
   have h1:=Int.emod_nonneg (m / 3) (b:=((V.str e.wd::us).length:Int)) ()
   have h2:=Int.emod_lt_of_pos (m / 3) Jq
   refine ⟨(m / 3 % ((V.str e.wd::us).length:Int)).toNat,(),?_⟩
   simp only [List.length_cons] at *;omega
  left
  rw [hj]
  left
  refine ⟨p,_,rfl,.inr (Av.of hp),?_⟩
  left
  by_cases c:j < us.length
  ·refine AF (λz=>by have:=of_decide_eq_true z;simp only [List.length_cons] at this;omega) ?_
   obtain ⟨it,hit⟩:∃ it,e.its[j]?=some it:=⟨_,List.getElem?_eq_getElem ()⟩
   obtain ⟨u,hu,QN⟩:=Paired.at1 hi hit
   have O5:(V.str e.wd::us)[j+1]?=some u:=by simpa using hu
   left
   refine Ad (Av.of hp) (v:=u) (Ak O5) ?_
   left
   cases it with
   | sc z =>
    cases QN
    obtain ⟨t,t1,t2⟩:∃ t,C6 K H u t/\W.kitOne K t (.type "tuple")=some false:=by
     have fl:oi u=true:=M9 (List.mem_of_getElem? hit)
     cases u with
     | str z=>exact ⟨_,C6.str z,rfl⟩
     | int z=>exact ⟨_,C6.int z,rfl⟩
     | bl z=>exact ⟨_,C6.bl z,rfl⟩
     | _=>cases fl
    refine ⟨u,t,_,false,rfl,t1,t2,?_⟩
    left
    refine CT ?_
    left
    intros q1 J1 t1 f1
    left
    intros q2 J2 t2 f2
    left
    intros q3 J3 t3 f3
    left
    intros q4 J4 t4 f4
    left
    refine Dg (B3.of f4) () (by simp;omega) λv hv=>?_
    have QR:=t1.trans (t2.trans (t3.trans t4))
    simp only [List.mem_cons,List.not_mem_nil,or_false] at hv
    rcases hv with rfl | rfl | rfl
    ·exact q (.num 3) _ J4 QR ⟨q1,rfl,t4 _ _ (t3 _ _ (t2 _ _ f1))⟩ (.here _ (.inl rfl))
    ·exact q (.tru true) _ J4 QR ⟨q2,rfl,t4 _ _ (t3 _ _ f2)⟩ (.here _ (.inr (.inl rfl)))
    ·exact q .emp _ J4 QR ⟨q3,rfl,t4 _ _ f3⟩ (.here _ (.inr (.inr rfl)))
   | pt a1 =>
    obtain ⟨pa,ua,rfl,ha,_⟩:=B9.its QN
    refine ⟨.ref pa,_,_,true,rfl,C6.tup ha,rfl,?_⟩
    left
    refine Cm ?_
    left
    refine D9 (Av.of hp) ?_ λp3 H3 Tp s3 e3=>?_
    ·rintro ⟨_,z⟩
     rw [HT.sIx_nat] at z
     simp only [List.length_cons] at z
     omega
    rw [Kr] at e3
    left
    refine Ad (Av.of (s3 _ _ hp)) (v:=.ref pa) (Ak O5) ?_
    left
    have da:=C0 (List.mem_of_getElem? hit)
    cases n with
    | zero=>omega
    | succ n =>
    refine ⟨a,ns,_,a1,_,rfl,s3.seq hs,B9.mono (Au.of_same s3) QN,(),λa' r' H4 s4 Ol RH=>?_⟩
    left
    intros p5 H5 s5 e5
    have lt:((V.str e.wd::us).take (j+1)).length=j+1:=by
     rw [List.length_take,List.length_cons];omega
    have QX:=s4.trans s5
    refine Fz (Av.of (QX _ _ e3)) (Av.of e5) (λz=>by rw [z] at lt;simp at lt) (by rw [lt];exact BX (by simp;omega)) (λz=>by cases z) λp6 H6 RL s6 e6=>?_
    have HV:=s3.trans (QX.trans s6)
    left
    refine D9 (Av.of (HV _ _ hp)) ?_ λp7 H7 XH s7 e7=>?_
    ·rintro ⟨z,_⟩
     rw [show (((j+1:Nat):Int)+1)=((j+1+1:Nat):Int) by omega,HT.sIx_nat] at z
     simp only [List.length_cons] at z
     omega
    rw [show (((j+1:Nat):Int)+1)=((j+1+1:Nat):Int) by omega,Ks] at e7
    have Ku:=HV.trans s7
    have fin:∀ p8 H8,An H7 H8->H8 p8=some (.tup ((V.str e.wd::us).take (j+1)++[r']++(V.str e.wd::us).drop (j+1+1)))->Q (.ref p8) H8:=λp8 H8 s8 e8=>by
     refine q (Ow e j a') _ H8 (Ku.trans s8) ?_ (.at' hit RH)
     rw [Nl _ _ _ (by simp;omega),List.set_cons_succ] at e8
     have fp:=QT (z:=a') hit
     refine B9.of_its (us:=us.set j r') (by rw [fp.2];exact e8) ?_
     rw [fp.1]
     exact Paired.set (show Fc H8 (.pt a') r' from B9.mono (Au.of_same (s5.trans (s6.trans (s7.trans s8)))) Ol) j (Paired.mapP hi λ_ _ z=>Fc.mono (Au.of_same (Ku.trans s8)) z)
    refine Fz (Av.of (s7 _ _ e6)) (Av.of e7) (by simp) ?_ (λz=>?_) λp8 H8 oq s8 e8=>?_
    ·refine BX ?_
     simp only [List.length_append,lt,List.length_cons,List.length_nil,List.length_drop]
     omega
    ·exact fin p6 H7 (An.refl _) (by rw [z,List.append_nil];exact s7 _ _ e6)
    ·exact fin p8 H8 s8 e8
  ·refine AW (decide_eq_true (by simp only [List.length_cons];omega)) ?_
   refine CT ?_
   left
   intros q1 J1 t1 f1
   left
   intros q2 J2 t2 f2
   left
   intros q3 J3 t3 f3
   left
   intros q4 J4 t4 f4
   left
   refine Dg (B3.of f4) () (by simp;omega) λv hv=>?_
   have QR:=t1.trans (t2.trans (t3.trans t4))
   simp only [List.mem_cons,List.not_mem_nil,or_false] at hv
   rcases hv with rfl | rfl | rfl
   ·exact q (.num 3) _ J4 QR ⟨q1,rfl,t4 _ _ (t3 _ _ (t2 _ _ f1))⟩ (.here _ (.inl rfl))
   ·exact q (.tru true) _ J4 QR ⟨q2,rfl,t4 _ _ (t3 _ _ f2)⟩ (.here _ (.inr (.inl rfl)))
   ·exact q .emp _ J4 QR ⟨q3,rfl,t4 _ _ f3⟩ (.here _ (.inr (.inr rfl)))
theorem Vw {f:Addr}{fd:FuncData}(D:Df K mg "_law_spoiled" Bt ["_law_script","_law_k","_law_tree"] f fd)(B6:mg "len"=none)(Ap:mg "isinstance"=none)(AV:mg "tuple"=none)(cM:Cl Pr w K mg base 2 "_law_mix" HG (DY K)):∀ n,Cl Pr w K mg base (n+3) "_law_spoiled" ["_law_script","_law_k","_law_tree"] (Kv K n)
 | 0=>D.cl (QW (n:=0) D.F B6 Ap AV cM (D.cl Ez))
 | n+1=>D.cl (QW (n:=n+1) D.F B6 Ap AV cM (Vw D B6 Ap AV cM n))
end
end K
namespace L2
open PySem PySem.Spec PyProof.Rows KS
section
variable {X:Cx}
theorem Kw:∀ {ns:List Int} {its:List Value},Vals (ns.map V.int) its->IntsAre its ns
 | [],_,h=>by cases h;exact .nil
 | n::ns,_,h=>by
  cases h with
  | cons r t =>
   obtain ⟨tk,rfl⟩:=r
   exact .cons n tk (Kw t)
theorem Ox (hc:X.calm=true):Ds X (.builtin "sum") (λxs H Q=>∃ (l:Addr) (ns:List Int),xs=[.ref l]/\H l=some (.lst (ns.map V.int))/\Q (.int ns.sum) H):=by
 intro pins s σ H xs us Q I r h
 obtain ⟨l,ns,rfl,hl,q⟩:=h
 obtain ⟨u,rfl,ru⟩:=vals1 r
 obtain rfl:u=Value.ref l:=ru
 obtain ⟨hz,its,n,rv,e⟩:=(show Br X.prog X.w H s.heap l (.lst (ns.map V.int)) from I.hok l _ hl)
 have hL:s.heap.IsList l its.toArray:=⟨_,e,rfl,n,rfl⟩
 have hh:X.A.in1.handled=none:=I.ok.hd hc
 have hi:=Kw rv
 obtain ⟨xs,hx⟩:=hi.allInts.items
 have pL:s.heap.IsList l (intItems xs):=hx▸hL
 refine sum_intListG hh pL λh' tk t' hk=>?_
 have e1:ns=xs.toList.map (·.1):=by
  rw [<- nums_intItems,<- hx]
  exact (show numsOf its.toArray.toList=ns from hi.numsOf).symm
 have e2:preSum (numAt xs) xs.size=ns.sum:=by
  rw [preSum_eq,List.take_of_length_le (by simp),e1]
 rw [e2]
 exact ⟨.int ns.sum,H,I.kept hk,⟨t',rfl⟩,q⟩
end
end L2
namespace L2
open PySem
noncomputable def Kx:Expr:=.Constant .none 0 ⟨0,0,0,0⟩
noncomputable def XO:Stmt->Expr
 | .If t _ _ _=>t
 | _=>Kx
noncomputable def XQ:Stmt->Stmt
 | .If _ (b::_) _ _=>b
 | s=>s
noncomputable def j9:Stmt->Expr
 | .Return (some e) _=>e
 | _=>Kx
noncomputable def rO (n:Nat):Expr->Expr
 | .BoolOp _ es _=>es.getD n Kx
 | _=>Kx
noncomputable def rP:Expr->Expr
 | .UnaryOp _ e _=>e
 | _=>Kx
noncomputable def rQ:Expr->Expr
 | .BinOp _ _ e _=>e
 | _=>Kx
noncomputable def Jr:Expr->Expr
 | .Call _ es _ _=>es.getD 0 Kx
 | _=>Kx
end L2
namespace KX
open PySem Ex L2
noncomputable def Li:List Itm->List Int
 | []=>[]
 | .pt a::r=>(a.sz:Int)::Li r
 | .sc _::r=>Li r
theorem Js:∀ (l m:List Itm),Li (l++m)=Li l++Li m
 | [],_=>rfl
 | .pt a::r,m=>by simp only [List.cons_append,Li];rw [Js r m]
 | .sc _::r,m=>by simp only [List.cons_append,Li];exact Js r m
theorem Jt:∀ l:List Itm,(Li l).length<=l.length
 | []=>Nat.le_refl _
 | .pt a::r=>by have:=Jt r;simp only [Li,List.length_cons];omega
 | .sc _::r=>by have:=Jt r;simp only [Li,List.length_cons];omega
theorem Tt (e:Ex):1+(Li (.sc (.str e.wd)::e.its)).sum=(e.sz:Int):=by
 cases e <;> simp [Li,its,sz] <;> omega
end KX
namespace K
open PySem L2 KM KS KX
noncomputable def rR (K:W.Frag):List V->Hp->VK->Prop:=λxs H Q=>∃ x t T b,xs=[x,.ty T]/\C6 K H x t/\W.kitOne K t (.type T)=some b/\Q (.bl b) H
section
variable {Pr:Program}{w:World}{K:W.Frag}{mg:Str->Option Value}{base:Heap}
inductive Hv (n:Nat)(vs:(List V))(H:Hp)(Q:VK)(z3:XK):Prop
 | mk (e:Ex) (r:V) (h1:vs=[r]) (h2:B9 H e r) (h3:dep dz e<=n) (h4:∀ H',An H H'->Q (.int e.sz) H'):Hv n vs H Q z3
noncomputable def Nm:Nat->Sp
 | 0=>Gv
 | n+1=>Hv n
theorem ja:AE ["_law_tree"] ["_law_tree"] (Ae BL):=nofun
theorem QY {n:Nat}{f:Addr}{fd:FuncData}(F:D4 K "_law_size" "_law_size" BL f fd)(Ky:mg "sum"=none)(Ap:mg "isinstance"=none)(AV:mg "tuple"=none)(cS:Cl Pr w K mg base n "_law_size" ["_law_tree"] (Nm n)):AY Pr w K mg base C5 (n+1) f fd ["_law_tree"] (Hv n):=by
 refine F.okS ja (λvs H Q E h=>?_) (λBV A outer s H vs Q E hr h=>?_)
 ·obtain ⟨e,r,rfl,_⟩:=h;rfl
 ·obtain ⟨e,r,rfl,he,hd,q⟩:=h
  have S:Bx (DP C5 Pr w K mg base ["_law_tree"] "_law_size" (Ae BL) f BV A outer s H E).nox (Cw (Jr (rQ (j9 (inDef BL 0))))) [] ["_law_piece"] [] [] :=
   ⟨rfl,by decide +kernel,rfl,by decide +kernel,rfl,rfl,rfl,rfl⟩
  have Hw:(["_law_piece"]:List Str).Nodup:=by decide +kernel
  refine ⟨_,(Al (Ar (As AZ Ab (AH (Ox rfl) (by rfl) Ky rfl (Aa (F9 (tt:=tB (Sf (rR K) (BB (Bv 0) (BB (tC (.ty "tuple")) Em)))) (te:=Ed (Nm n) [] E0 (BB (Bv 0) Em)) S rfl (M' (Ai 0)) (λC s0 H0 ex=>BF (i:=0) Hw rfl (.inl rfl)) (λC s0 H0 ex=>Qk (DC (AH BO (by rfl) Ap PyProof.Rows.boot_isinstance (Aa (Ai 0) (Aa (CV (v:=.ty "tuple") rfl AV PyProof.Rows.boot_tuple rfl) Ac))))) (λC s0 H0 ex=>B1 cS hr rfl (Aa (Ai 0) Ac))) Ac))))),?_⟩
  obtain ⟨p,us,rfl,hp,hi⟩:=he.its
  have l1:=Paired.len hi
  have l2:=GG e
  left
  have J7:Paired (Fc H) (.sc (.str e.wd)::e.its) (.str e.wd::us):=.cons rfl hi
  refine ⟨p,rfl,⟨_,Av.of hp⟩,?_⟩
  refine K9 (K:=K) (a:=p) (xs:=.str e.wd::us) (λi ys H'=>An H H'/\ys=(Li ((.sc (.str e.wd)::e.its).take i)).map V.int) ⟨An.refl _,rfl⟩ (λi ys H' z=>Av.of (z.1 _ _ hp)) (D5 (by simp only [List.length_cons];omega)) (λi ys H' z=>?_) rfl (λi x ys H1 hx z=>?_) (λys H1 z=>?_)
  ·rw [z.2,List.length_map]
   exact Nat.le_trans (Jt _) (List.length_take_le _ _)
  ·obtain ⟨s1,rfl⟩:=z
   have DN:=(List.getElem?_eq_some_iff.mp hx).1
   obtain ⟨it,hit,QN⟩:=Paired.at J7 hx
   have tk:∀ z:List Int,Li [it]=z->(Li ((.sc (.str e.wd)::e.its).take (i+1)))=Li ((.sc (.str e.wd)::e.its).take i)++z:=λz hz=>by
    rw [List.take_succ,hit,Js];exact hz▸rfl
   left
   cases it with
   | sc v =>
    cases QN
    obtain ⟨t,t1,t2⟩:∃ t,C6 K H1 x t/\W.kitOne K t (.type "tuple")=some false:=by
     have fl:oi x=true:=by
      cases i with
      | zero=>simp at hit;subst hit;rfl
      | succ i=>exact M9 (List.mem_of_getElem? (by simpa using hit))
     cases x with
     | str z=>exact ⟨_,C6.str z,rfl⟩
     | int z=>exact ⟨_,C6.int z,rfl⟩
     | bl z=>exact ⟨_,C6.bl z,rfl⟩
     | _=>cases fl
    refine ⟨x,t,_,false,rfl,t1,t2,?_⟩
    left
    refine Cm (Nx.mk DN ⟨s1,?_⟩)
    rw [tk [] rfl,List.append_nil]
   | pt a =>
    obtain ⟨pa,ua,rfl,ha,_⟩:=B9.its QN
    refine ⟨.ref pa,_,_,true,rfl,C6.tup (s1 _ _ ha),rfl,?_⟩
    left
    refine CT ?_
    left
    have da:dep dz a < dep dz e:=C0 (by
     cases i with
     | zero=>simp at hit
     | succ i=>exact List.mem_of_getElem? (by simpa using hit))
    cases n with
    | zero=>omega
    | succ n =>
    refine ⟨a,_,rfl,B9.mono (Au.of_same s1) QN,(),λH2 s2=>?_⟩
    refine Nx.mk DN ⟨s1.trans s2,?_⟩
    rw [tk [(a.sz:Int)] rfl,List.map_append]
    rfl
  ·obtain ⟨s1,rfl⟩:=z
   rw [List.take_of_length_le (by simp only [List.length_cons];omega)]
   refine BG (Nat.zero_le _) λl2 H2 GC s2 e2=>?_
   left
   refine ⟨l2,_,rfl,e2,?_⟩
   refine ⟨_,_,rfl,rfl,?_⟩
   have:=q H2 (s1.trans s2)
   rw [<- Tt] at this
   exact this
theorem Vx {f:Addr}{fd:FuncData}(D:Df K mg "_law_size" BL ["_law_tree"] f fd)(Ky:mg "sum"=none)(Ap:mg "isinstance"=none)(AV:mg "tuple"=none):∀ n,Cl Pr w K mg base (n+1) "_law_size" ["_law_tree"] (Hv n)
 | 0=>D.cl (QY (n:=0) D.F Ky Ap AV (D.cl Ez))
 | n+1=>D.cl (QY (n:=n+1) D.F Ky Ap AV (Vx D Ky Ap AV n))
end
end K
namespace KX
open PySem L2
noncomputable def MS.wd:MS->Str
 | num _=>"number" | tru _=>"truth" | emp=>"empty" | nm _=>"name" | fn _=>"fun" | rc _=>"rec" | pr=>"pair" | lk=>"link" | op _=>"op" | call=>"call" | back=>"back" | lt=>"let" | opn=>"open" | drop _=>"drop" | jump _=>"jump" | wh _=>"when" | spl _=>"split" | fin=>"end"
theorem MS.cnt_wd (s:MS):∃ us,s.cnt=.str s.wd::us:=by cases s <;> exact ⟨_,rfl⟩
theorem MS.not_end {s:MS}(h:s.wd="end"):s=.fin:=by
 cases s with
 | fin=>rfl
 | _=>simp only [MS.wd] at h;exact absurd h ⟨⟩
end KX
namespace K
open PySem L2 KX
abbrev ma0:Ma:=⟨0,0,[],[],[]⟩
structure Bs (s:Ma):Prop where
 p:s.pile.length<=900000
 h:s.held.length<=900000
 f:s.frs.length<=900000
 v:∀ v∈s.pile,G5 v<=900000
theorem Tv {code:List MS}{most B:Nat}{s:Ma}(G:Good code most B 900000 s)(hm:most<=900000)(hc:s.calls<=most):Bs s:=by
 obtain ⟨⟨D,Hm,g1,g2,g3,g4,g5,g6⟩,g7,g8⟩:=G
 exact ⟨(),(),(),λv hv=>by have:=(g1 v hv).2;omega⟩
end K
namespace KX
open PySem L2
noncomputable def MS.bare:MS->Bool
 | emp | pr | lk | call | back | lt | opn | fin=>true
 | _=>false
theorem Tw (s:MS):Cr (.str s.wd) [.str "empty",.str "pair",.str "link",.str "call",.str "back",.str "let",.str "open",.str "end"]=s.bare:=by
 cases s <;> simp only [MS.wd,MS.bare] <;> decide
theorem QZ {s:MS}(h:s.bare=true):s.cnt=[.str s.wd]:=by
 cases s <;> first | rfl | cases h
theorem R0 {s:MS}(h:s.bare=false):(∃ b,s=.tru b)\/(∃ o,s=.op o)\/(∃ i,s=.num i)\/∃ n:Nat,s.cnt=[.str s.wd,.int n]/\s.wd≠"truth"/\s.wd≠"op"/\s.wd≠"number"/\Cr (.str s.wd) [.str "name",.str "fun",.str "rec",.str "drop",.str "jump",.str "when",.str "split"]=true:=by
 cases s with
 | tru b=>exact .inl ⟨b,rfl⟩
 | op o=>exact .inr (.inl ⟨o,rfl⟩)
 | num i=>exact .inr (.inr (.inl ⟨i,rfl⟩))
 | nm n | fn n | rc n | drop n | jump n | wh n | spl n=>exact .inr (.inr (.inr ⟨n,rfl,by simp only [MS.wd];decide⟩))
 | _=>cases h
end KX
namespace L2
open PySem KX
theorem Nn {ta tb:TE}{σ:St}{H:Hp}{Q:VK}(q:ta σ H λx H1=>∃ k,x=.bl k/\if k=true then Q (.bl true) H1 else tb σ H1 Q):RU ta tb σ H Q:=q
end L2
namespace K
open PySem L2 KM KS KX
section
variable {Pr:Program}{w:World}{K:W.Frag}{mg:Str->Option Value}{base:Heap}
inductive Np (vs:(List V))(H:Hp)(Q:VK)(z3:XK):Prop
 | mk (i:Int) (h1:vs=[.int i]) (h2:Q (.bl true) H):Np vs H Q z3
theorem jb:AE ["_law_found"] ["_law_found"] (Ae Fd):=nofun
theorem XR {f:Addr}{fd:FuncData}(F:D4 K "_law_whole" "_law_whole" Fd f fd)(Ap:mg "isinstance"=none)(CI:mg "int"=none)(DL:mg "bool"=none):AY Pr w K mg base C5 1 f fd ["_law_found"] Np:=by
 refine F.okS jb (λvs H Q E h=>?_) (λBV A outer s H vs Q E hr h=>?_)
 ·obtain ⟨i,rfl,_⟩:=h;rfl
 ·obtain ⟨i,rfl,q⟩:=h
  refine ⟨_,(Al (Ar (Gm (AH BO (by rfl) Ap PyProof.Rows.boot_isinstance (Aa (Ai 0) (Aa (CV (v:=.ty "int") rfl CI PyProof.Rows.boot_int rfl) Ac))) (EY (Ve (AH BO (by rfl) Ap PyProof.Rows.boot_isinstance (Aa (Ai 0) (Aa (CV (v:=.ty "bool") rfl DL PyProof.Rows.boot_bool rfl) Ac)))))))),?_⟩
  left
  refine ⟨_,_,_,true,rfl,C6.int i,rfl,?_⟩
  left
  refine CT ?_
  left
  refine ⟨_,_,_,false,rfl,C6.int i,rfl,?_⟩
  left
  exact q
inductive Kz (vs:(List V))(H:Hp)(Q:VK)(z3:XK):Prop
 | mk (st:MS) (p:Addr) (h1:vs=[.ref p]) (h2:H p=some (.tup st.cnt)) (h3:st.ok) (h4:∀ H',An H H'->Q (.bl true) H'):Kz vs H Q z3
theorem jc:AE ["_law_found"] ["_law_found"] (Ae BU):=nofun
theorem Tx {f:Addr}{fd:FuncData}(F:D4 K "_law_is_step" "_law_is_step" BU f fd)(Ap:mg "isinstance"=none)(CI:mg "int"=none)(DL:mg "bool"=none)(Vy:mg "str"=none)(AV:mg "tuple"=none)(B6:mg "len"=none)(cW:Cl Pr w K mg base 1 "_law_whole" ["_law_found"] Np):AY Pr w K mg base C5 2 f fd ["_law_found"] Kz:=by
 refine F.okS jc (λvs H Q E h=>?_) (λBV A outer s H vs Q E hr h=>?_)
 ·obtain ⟨st,p,rfl,_⟩:=h;rfl
 ·obtain ⟨st,p,rfl,hp,ok,q⟩:=h
  refine ⟨_,(Ah (B7 (Gk (w_or (DU (DC (AH BO (by rfl) Ap PyProof.Rows.boot_isinstance (Aa (Ai 0) (Aa (CV (v:=.ty "tuple") rfl AV PyProof.Rows.boot_tuple rfl) Ac))))) (w_or (DU (E6 (Ai 0))) (EX (DU (DC (AH BO (by rfl) Ap PyProof.Rows.boot_isinstance (Aa (Ao (r:=AA K) Aj (Ai 0) Ab AO) (Aa (CV (v:=.ty "str") rfl Vy PyProof.Rows.boot_str rfl) Ac))))))))) (Al (Ar ES)) AN)
   (Ah (B7 (Aw (r:=FT K false) B0 (Ao (r:=AA K) Aj (Ai 0) Ab AO) (Aq (Aa Af (Aa Af (Aa Af (Aa Af (Aa Af (Aa Af (Aa Af (Aa Af Ac))))))))) rfl) (Al (Ar (Cc AK (AH Ax (by rfl) B6 PySem.boot_len (Aa (Ai 0) Ac)) Ab (Am _)))) AN)
   (Ah (B7 (Aw Pw (AH Ax (by rfl) B6 PySem.boot_len (Aa (Ai 0) Ac)) Ab (Am _)) (Al (Ar ES)) AN)
   (Ah (B7 (Aw AK (Ao (r:=AA K) Aj (Ai 0) Ab AO) Af (Am _)) (Al (Ar (AH BO (by rfl) Ap PyProof.Rows.boot_isinstance (Aa (Ao (r:=AA K) Aj (Ai 0) Ab AO) (Aa (CV (v:=.ty "bool") rfl DL PyProof.Rows.boot_bool rfl) Ac))))) AN)
   (Ah (B7 (Aw AK (Ao (r:=AA K) Aj (Ai 0) Ab AO) Af (Am _)) (Al (Ar (Gm (AH BO (by rfl) Ap PyProof.Rows.boot_isinstance (Aa (Ao (r:=AA K) Aj (Ai 0) Ab AO) (Aa (CV (v:=.ty "str") rfl Vy PyProof.Rows.boot_str rfl) Ac))) (EY (Cc (r:=FT K false) B0 (Ao (r:=AA K) Aj (Ai 0) Ab AO) (Aq (Aa Af (Aa Af (Aa Af (Aa Af Ac))))) rfl))))) AN)
   (Ah (B7 (DU (DC (B1 cW hr rfl (Aa (Ao (r:=AA K) Aj (Ai 0) Ab AO) Ac)))) (Al (Ar ES)) AN)
   (Al (Ar (i9 (Cc AK (Ao (r:=AA K) Aj (Ai 0) Ab AO) Af (Am _)) (EY (Gm (Cc Px (Ao (r:=AA K) Aj (Ai 0) Ab AO) Ab (Am _)) (EY (Cc (r:=FT K false) B0 (Ao (r:=AA K) Aj (Ai 0) Ab AO) (Aq (Aa Af (Aa Af (Aa Af (Aa Af (Aa Af (Aa Af (Aa Af Ac)))))))) rfl))))))))))))),?_⟩
  left
  refine ⟨_,_,_,true,rfl,C6.tup hp,rfl,?_⟩
  left
  refine Cm ?_
  obtain ⟨us,fR⟩:=st.cnt_wd
  have EC:=hp
  rw [fR] at EC
  left
  refine ⟨true,.inr (.inl ⟨_,Av.of hp,by rw [fR];rfl⟩),?_⟩
  left
  refine Cm ?_
  left
  refine Ad (Av.of EC) (v:=.str st.wd) (Ak (j:=0) rfl) ?_
  left
  refine ⟨_,_,_,true,rfl,C6.str _,rfl,?_⟩
  left
  refine Cm ?_
  left
  refine Ad (Av.of EC) (v:=.str st.wd) (Ak (j:=0) rfl) ?_
  left
  intros t1 H1 s1 e1
  refine Bi (.inr (Av.of e1)) rfl rfl ?_
  left
  rw [Tw]
  cases hb:st.bare
  ·refine Cm ?_
   left
   refine ⟨p,_,rfl,.inr (Av.of (s1 _ _ hp)),?_⟩
   left
   rcases R0 hb with ⟨b,rfl⟩ | ⟨o,rfl⟩ | ⟨i,rfl⟩ | ⟨n,hc,w1,w2,w3,w4⟩
   ·refine AF (by simp [MS.cnt]) ?_
    left
    refine Ad (Av.of (s1 _ _ hp)) (v:=.str "truth") rfl ?_
    left
    refine AW (decide_eq_true rfl) ?_
    left
    refine Ad (Av.of (s1 _ _ hp)) (v:=.bl b) rfl ?_
    left
    exact ⟨_,_,_,true,rfl,C6.bl b,rfl,q H1 s1⟩
   ·refine AF (by simp [MS.cnt]) ?_
    left
    refine Ad (Av.of (s1 _ _ hp)) (v:=.str "op") rfl ?_
    left
    refine AF ⟨⟩ ?_
    left
    refine Ad (Av.of (s1 _ _ hp)) (v:=.str "op") rfl ?_
    left
    refine AW (decide_eq_true rfl) ?_
    left
    refine Ad (Av.of (s1 _ _ hp)) (v:=.str o) rfl ?_
    left
    refine ⟨_,_,_,true,rfl,C6.str o,rfl,?_⟩
    left
    refine CT ?_
    left
    refine Ad (Av.of (s1 _ _ hp)) (v:=.str o) rfl ?_
    left
    intros t2 H2 s2 e2
    refine Bi (.inr (Av.of e2)) rfl rfl ?_
    have e:Cr (.str o) [.str "plus",.str "minus",.str "less",.str "same"]=true:=by
     rcases (show Ex.isOp o from ok) with rfl | rfl | rfl | rfl <;> decide
    rw [e]
    exact q H2 (s1.trans s2)
   ·refine AF (by simp [MS.cnt]) ?_
    left
    refine Ad (Av.of (s1 _ _ hp)) (v:=.str "number") rfl ?_
    left
    refine AF ⟨⟩ ?_
    left
    refine Ad (Av.of (s1 _ _ hp)) (v:=.str "number") rfl ?_
    left
    refine AF ⟨⟩ ?_
    left
    refine Ad (Av.of (s1 _ _ hp)) (v:=.int i) rfl ?_
    left
    refine ⟨i,rfl,?_⟩
    left
    refine Cm ?_
    left
    refine Nn ?_
    left
    refine Ad (Av.of (s1 _ _ hp)) (v:=.str "number") rfl ?_
    left
    exact AW (decide_eq_true rfl) (q H1 s1)
   ·have Oy:H1 p=some (.tup [.str st.wd,.int n]):=by rw [<- hc];exact s1 _ _ hp
    refine AF (by rw [hc];simp) ?_
    left
    refine Ad (Av.of Oy) (v:=.str st.wd) rfl ?_
    left
    refine AF (ET w1) ?_
    left
    refine Ad (Av.of Oy) (v:=.str st.wd) rfl ?_
    left
    refine AF (ET w2) ?_
    left
    refine Ad (Av.of Oy) (v:=.int n) rfl ?_
    left
    refine ⟨n,rfl,?_⟩
    left
    refine Cm ?_
    left
    refine Nn ?_
    left
    refine Ad (Av.of Oy) (v:=.str st.wd) rfl ?_
    left
    refine AF (ET w3) ?_
    left
    refine Ad (Av.of Oy) (v:=.int n) rfl ?_
    left
    refine AW (decide_eq_true ()) ?_
    left
    refine Ad (Av.of Oy) (v:=.str st.wd) rfl ?_
    left
    intros t2 H2 s2 e2
    refine Bi (.inr (Av.of e2)) rfl rfl ?_
    rw [w4]
    exact q H2 (s1.trans s2)
  ·refine CT ?_
   left
   refine ⟨p,_,rfl,.inr (Av.of (s1 _ _ hp)),?_⟩
   rw [QZ hb]
   left
   exact q H1 s1
end
end K
namespace KX
open PySem Ex
noncomputable def comp:List Str->Ex->List MS
 | xs,.nm x=>[.nm (xs.idxOf x)] | _,.num i=>[.num i] | _,.tru b=>[.tru b] | _,.emp=>[.emp]
 | xs,.fn x b=>.fn ((comp (x::xs) b).length+1)::(comp (x::xs) b++[.back]) | xs,.rc f x b=>.rc ((comp (x::f::xs) b).length+1)::(comp (x::f::xs) b++[.back])
 | xs,.cal a b=>comp xs a++(comp xs b++[.call]) | xs,.pr a b=>comp xs a++(comp xs b++[.pr]) | xs,.lk a b=>comp xs a++(comp xs b++[.lk]) | xs,.op o a b=>comp xs a++(comp xs b++[.op o])
 | xs,.lt x a b=>comp xs a++(.lt::(comp (x::xs) b++[.drop 1])) | xs,.opn a x y b=>comp xs a++(.opn::(comp (y::x::xs) b++[.drop 2]))
 | xs,.wh a b c=>comp xs a++(.wh ((comp xs b).length+1)::(comp xs b++(.jump (comp xs c).length::comp xs c)))
 | xs,.spl a b x y c=>comp xs a++(.spl ((comp xs b).length+1)::(comp xs b++(.jump ((comp (y::x::xs) c).length+1)::(comp (y::x::xs) c++[.drop 2]))))
noncomputable def At (code:List MS)(p:Nat)(c:List MS):Prop:=∀ i s,c[i]?=some s->code[p+i]?=some s
theorem At.l {code c d:List MS}{p:Nat}(h:At code p (c++d)):At code p c:=λi s e=>h i s (by
 rw [List.getElem?_append_left (List.getElem?_eq_some_iff.mp e).1];exact e)
theorem At.r {code c d:List MS}{p:Nat}(h:At code p (c++d)):At code (p+c.length) d:=λi s e=>by
 have:=h (c.length+i) s (by rw [List.getElem?_append_right ()];simpa using e)
 rw [<- Nat.add_assoc] at this;exact this
theorem At.hd {code c:List MS}{s:MS}{p:Nat}(h:At code p (s::c)):code[p]?=some s:=h 0 s rfl
theorem At.tl {code c:List MS}{s:MS}{p:Nat}(h:At code p (s::c)):At code (p+1) c:=λi t e=>by
 have:=h (i+1) t (by simpa using e)
 rw [show p+(i+1)=p+1+i by omega] at this;exact this
inductive VR (code:List MS):MV->Ex->Prop
 | num (i:Int):VR code (.num i) (.num i)
 | tru (b:Bool):VR code (.tru b) (.tru b)
 | emp:VR code .emp .emp
 | pr {a b:MV} {v w:Ex}:VR code a v->VR code b w->VR code (.two false a b) (.pr v w)
 | lk {a b:MV} {v w:Ex}:VR code a v->VR code b w->VR code (.two true a b) (.lk v w)
 | fn {p:Nat} {h:List MV} {x:Str} {b:Ex} {xs:List Str} {σ:Su} {wv:Str->Ex} {vv:Str->MV}:h.length=xs.length->(∀ y,y∉xs->σ y=none)->(∀ y∈xs,σ y=some (wv y))->(∀ y∈xs,h[h.length - 1 - xs.idxOf y]?=some (vv y))->(∀ y∈xs,VR code (vv y) (wv y)) ->
   b.cl (x::xs)->At code p (comp (x::xs) b++[.back])->VR code (.fn false p h) (.fn x (sub (σ.rm x) b))
 | rc {p:Nat} {h:List MV} {f x:Str} {b:Ex} {xs:List Str} {σ:Su} {wv:Str->Ex} {vv:Str->MV}:h.length=xs.length->(∀ y,y∉xs->σ y=none)->(∀ y∈xs,σ y=some (wv y))->(∀ y∈xs,h[h.length - 1 - xs.idxOf y]?=some (vv y))->(∀ y∈xs,VR code (vv y) (wv y)) ->
   b.cl (x::f::xs)->At code p (comp (x::f::xs) b++[.back])->VR code (.fn true p h) (.rc f x (sub ((σ.rm f).rm x) b))
structure KA (code:List MS)(xs:List Str)(h:List MV)(σ:Su):Prop where
 len:h.length=xs.length
 no:∀ y,y∉xs->σ y=none
 at':D1 λ(wv:Str->Ex) (vv:Str->MV)=>(∀ y∈xs,σ y=some (wv y))/\(∀ y∈xs,h[h.length - 1 - xs.idxOf y]?=some (vv y))/\∀ y∈xs,VR code (vv y) (wv y)
theorem R1 {σ:Su}{xs:List Str}{wv:Str->Ex}(h1:∀ y,y∉xs->σ y=none)(h2:∀ y∈xs,σ y=some (wv y))(h3:∀ y∈xs,(wv y).cl []):σ.Cl:=by
 intro y v e
 by_cases q:y∈xs
 ·rw [h2 y q] at e;cases e;exact h3 y q
 ·rw [h1 y q] at e;cases e
theorem VR.cl {code:List MS}{v:MV}{w:Ex}(h:VR code v w):w.cl []:=by
 induction h with
 | num _ | tru _ | emp=>trivial
 | pr _ _ ia ib | lk _ _ ia ib=>exact ⟨ia,ib⟩
 | @fn p h x b xs σ wv vv h1 h2 h3 h4 h5 h6 h7 ih =>
  refine L' (xs:=x::xs) ((R1 h2 h3 ih).rm x) (λy hy=>?_) h6
  by_cases e:y=x
  ·exact .inr (by simp [e])
  ·refine .inl ?_;simp only [Su.rm,e,if_false];rw [h3 y ((List.mem_cons.mp hy).resolve_left e)];rfl
 | @rc p h f x b xs σ wv vv h1 h2 h3 h4 h5 h6 h7 ih =>
  refine L' (xs:=x::f::xs) (((R1 h2 h3 ih).rm f).rm x) (λy hy=>?_) h6
  by_cases e:y=x
  ·exact .inr (by simp [e])
  ·by_cases e':y=f
   ·exact .inr (by simp [e'])
   ·refine .inl ?_;simp only [Su.rm,e,e',if_false];rw [h3 y ((List.mem_cons.mp ((List.mem_cons.mp hy).resolve_left e)).resolve_left e')];rfl
theorem VR.isV {code:List MS}{v:MV}{w:Ex}(h:VR code v w):w.isV=true:=by
 induction h with
 | num _ | tru _ | emp=>rfl
 | pr _ _ ia ib | lk _ _ ia ib=>simp [Ex.isV,ia,ib]
 | fn | rc=>rfl
theorem KA.cl {code:List MS}{xs:List Str}{h:List MV}{σ:Su}(E:KA code xs h σ):σ.Cl:=by
 obtain ⟨wv,vv,h1,h2,h3⟩:=E.at'
 exact R1 E.no h1 λy hy=>(h3 y hy).cl
theorem KA.add {code:List MS}{xs:List Str}{h:List MV}{σ:Su}(E:KA code xs h σ)(x:Str){v:MV}{w:Ex}(r:VR code v w):KA code (x::xs) (h++[v]) ((Su.one x w).or σ):=by
 obtain ⟨wv,vv,h1,h2,h3⟩:=E.at'
 have hl:=E.len
 refine ⟨by simp [hl],λy hy=>?_,λy=>if y=x then w else wv y,λy=>if y=x then v else vv y,λy hy=>?_,λy hy=>?_,λy hy=>?_⟩
 ·simp only [List.mem_cons,not_or] at hy
  simp only [Su.or,Su.one,hy.1,if_false]
  exact E.no y hy.2
 ·by_cases e:y=x
  ·simp [Su.or,Su.one,e]
  ·simp only [Su.or,Su.one,e,if_false];exact h1 y ((List.mem_cons.mp hy).resolve_left e)
 ·by_cases e:y=x
  ·subst e;simp
  ·have m:=(List.mem_cons.mp hy).resolve_left e
   have:=List.idxOf_lt_length_iff.mpr m
   have q:=h2 y m
   have ne:¬ x=y:=λz=>e z.symm
   simp only [e,if_false,List.idxOf_cons,ne,beq_eq_false_iff_ne.mpr ne,cond_false,List.length_append,List.length_cons,List.length_nil]
   rw [List.getElem?_append_left (),show h.length+(0+1) - 1 - (xs.idxOf y+1)=h.length - 1 - xs.idxOf y by omega]
   exact q
 ·by_cases e:y=x
  ·simp only [e,if_true];exact r
  ·simp only [e,if_false];exact h3 y ((List.mem_cons.mp hy).resolve_left e)
theorem XS {σ:Su}(x:Str)(w:Ex):(σ.rm x).or (Su.one x w)=(Su.one x w).or σ:=by
 funext y
 simp only [Su.or,Su.one,Su.rm]
 by_cases e:y=x
 ·simp [e]
 ·simp only [e,if_false];cases σ y <;> rfl
theorem XT {σ:Su}(x y:Str)(v w:Ex):((σ.rm x).rm y).or ((Su.one y w).or (Su.one x v))=(Su.one y w).or ((Su.one x v).or σ):=by
 funext z
 simp only [Su.or,Su.one,Su.rm]
 by_cases e:z=y
 ·simp [e]
 ·by_cases e':z=x
  ·simp [e,e']
  ·simp only [e,e',if_false];cases σ z <;> rfl
theorem KC {σ:Su}(h:σ.Cl)(x:Str)(w b:Ex):give x w (sub (σ.rm x) b)=sub ((Su.one x w).or σ) b:=by
 unfold give;rw [sub_sub (h.rm x),XS]
theorem G6 {σ:Su}(h:σ.Cl)(x y:Str)(v:Ex){w:Ex}(hw:w.cl [])(b:Ex):Dj x y v w (sub ((σ.rm x).rm y) b)=sub ((Su.one y w).or ((Su.one x v).or σ)) b:=by
 rw [Hj hw,sub_sub ((h.rm x).rm y),XT]
section
variable {most:Nat}{code:List MS}
inductive JE (most:Nat):Ex->Nat->Ex->Nat->Prop
 | refl (e:Ex) (c:Nat):JE most e c e c
 | go {e e' Vz:Ex} {b:Bool} {c jd:Nat}:isV e=false->Cy e=some (e',b)->c+b.toNat<=most->JE most e' (c+b.toNat) Vz jd->JE most e c Vz jd
noncomputable def Mi (most:Nat)(e:Ex)(c:Nat):Prop:=D1 λe' c'=>JE most e c e' c'/\isV e'=false/\Cy e'=none
noncomputable def XU (most:Nat)(e:Ex)(c:Nat):Prop:=Lb λe' c' Vz b=>JE most e c e' c'/\isV e'=false/\Cy e'=some (Vz,b)/\most < c'+b.toNat
theorem JE.trans {e e' Vz:Ex}{c c' jd:Nat}(h:JE most e c e' c')(g:JE most e' c' Vz jd):JE most e c Vz jd:=by
 induction h with
 | refl=>exact g
 | go h1 h2 h3 _ ih=>exact .go h1 h2 h3 (ih g)
theorem Mi.pre {e e':Ex}{c c':Nat}(h:JE most e c e' c')(g:Mi most e' c'):Mi most e c:=by
 obtain ⟨a,b,g1,g2⟩:=g;exact ⟨a,b,h.trans g1,g2⟩
theorem XU.pre {e e':Ex}{c c':Nat}(h:JE most e c e' c')(g:XU most e' c'):XU most e c:=by
 obtain ⟨a,b,d,f,g1,g2⟩:=g;exact ⟨a,b,d,f,h.trans g1,g2⟩
structure Fr (C:Ex->Ex):Prop where
 nv:∀ e,isV e=false->isV (C e)=false
 st:∀ e,isV e=false->Cy (C e)=Lc C (Cy e)
theorem JE.fr {C:Ex->Ex}(F:Fr C){e e':Ex}{c c':Nat}(h:JE most e c e' c'):JE most (C e) c (C e') c':=by
 induction h with
 | refl=>exact .refl _ _
 | go h1 h2 h3 _ ih=>exact .go (F.nv _ h1) (by rw [F.st _ h1,h2];rfl) h3 ih
theorem Mi.fr {C:Ex->Ex}(F:Fr C){e:Ex}{c:Nat}(h:Mi most e c):Mi most (C e) c:=by
 obtain ⟨a,b,g1,g2,g3⟩:=h;exact ⟨C a,b,g1.fr F,F.nv _ g2,by rw [F.st _ g2,g3];rfl⟩
theorem XU.fr {C:Ex->Ex}(F:Fr C){e:Ex}{c:Nat}(h:XU most e c):XU most (C e) c:=by
 obtain ⟨a,b,d,f,g1,g2,g3,g4⟩:=h;exact ⟨C a,b,C d,f,g1.fr F,F.nv _ g2,by rw [F.st _ g2,g3];rfl,g4⟩
inductive Nq (code:List MS)(most:Nat):Ma->Ma->Prop
 | refl (s:Ma):Nq code most s s
 | go {s s' PH:Ma}:s.calls<=most->step code s=.go s'->Nq code most s' PH->Nq code most s PH
theorem Nq.trans {s s' PH:Ma}(h:Nq code most s s')(g:Nq code most s' PH):Nq code most s PH:=by
 induction h with
 | refl=>exact g
 | go h1 h2 _ ih=>exact .go h1 h2 (ih g)
theorem Nq.ends {s s':Ma}{n:Nat}{o:Out}(h:Nq code most s s')(g:Ends code most n s' o):∃ m,Ends code most m s o:=by
 induction h with
 | refl=>exact ⟨n,g⟩
 | go h1 h2 _ ih=>obtain ⟨m,h⟩:=ih g;exact ⟨m+1,.go h1 h2 h⟩
noncomputable def MSt (code:List MS)(most:Nat)(s:Ma):Prop:=∃ s',Nq code most s s'/\s'.calls<=most/\step code s'=.stuck
noncomputable def MOv (code:List MS)(most:Nat)(s:Ma):Prop:=∃ s',Nq code most s s'/\most < s'.calls
noncomputable def Res (code:List MS)(most:Nat)(e:Ex)(c:Nat)(s:Ma)(fin:Nat->MV->Ma):Prop :=
 (Dw λw c' v=>JE most e c w c'/\VR code v w/\Nq code most s (fin c' v)/\c<=c'/\c'<=most)\/(Mi most e c/\MSt code most s)\/(XU most e c/\MOv code most s)
theorem Res.seq {A:Ex}{C:Ex->Ex}{c:Nat}{s:Ma}{f1 f2:Nat->MV->Ma}(h:Res code most A c s f1)(F:Fr C)(g:∀ w c' v,VR code v w->c<=c'->c'<=most->Res code most (C w) c' (f1 c' v) f2):Res code most (C A) c s f2:=by
 rcases h with ⟨w,c',v,h1,h2,h3,h4,h5⟩ | ⟨h1,h2⟩ | ⟨h1,h2⟩
 ·rcases g w c' v h2 h4 h5 with ⟨w2,c2,v2,g1,g2,g3,g4,g5⟩ | ⟨g1,g2⟩ | ⟨g1,g2⟩
  ·exact .inl ⟨w2,c2,v2,(h1.fr F).trans g1,g2,h3.trans g3,(),g5⟩
  ·obtain ⟨s',k1,k2⟩:=g2;exact .inr (.inl ⟨g1.pre (h1.fr F),s',h3.trans k1,k2⟩)
  ·obtain ⟨s',k1,k2⟩:=g2;exact .inr (.inr ⟨g1.pre (h1.fr F),s',h3.trans k1,k2⟩)
 ·exact .inr (.inl ⟨h1.fr F,h2⟩)
 ·exact .inr (.inr ⟨h1.fr F,h2⟩)
theorem Res.mst {e:Ex}{c:Nat}{s s':Ma}{f:Nat->MV->Ma}(h1:s.calls<=most)(h2:step code s=.go s')(h:Res code most e c s' f):Res code most e c s f:=by
 have k:Nq code most s s':=.go h1 h2 (.refl _)
 rcases h with ⟨w,c',v,g1,g2,g3,g4⟩ | ⟨g1,s2,g2,g3⟩ | ⟨g1,s2,g2,g3⟩
 ·exact .inl ⟨w,c',v,g1,g2,k.trans g3,g4⟩
 ·exact .inr (.inl ⟨g1,s2,k.trans g2,g3⟩)
 ·exact .inr (.inr ⟨g1,s2,k.trans g2,g3⟩)
theorem Res.lst {e e':Ex}{b:Bool}{c:Nat}{s:Ma}{f:Nat->MV->Ma}(h1:isV e=false)(h2:Cy e=some (e',b))(h3:c+b.toNat<=most)(h:Res code most e' (c+b.toNat) s f):Res code most e c s f:=by
 have k:JE most e c e' (c+b.toNat):=.go h1 h2 h3 (.refl _ _)
 rcases h with ⟨w,c',v,g1,g2,g3,g4,g5⟩ | ⟨g1,g2⟩ | ⟨g1,g2⟩
 ·exact .inl ⟨w,c',v,k.trans g1,g2,g3,(),g5⟩
 ·exact .inr (.inl ⟨g1.pre k,g2⟩)
 ·exact .inr (.inr ⟨g1.pre k,g2⟩)
theorem Res.stuck {e:Ex}{c:Nat}{s:Ma}{f:Nat->MV->Ma}(h1:isV e=false)(h2:Cy e=none)(h3:s.calls<=most)(h4:step code s=.stuck):Res code most e c s f :=
 .inr (.inl ⟨⟨e,c,.refl _ _,h1,h2⟩,s,.refl _,h3,h4⟩)
theorem Res.val {w:Ex}{v:MV}{c:Nat}{s:Ma}{f:Nat->MV->Ma}(h:VR code v w)(hc:c<=most)(e:s=f c v):Res code most w c s f:=.inl ⟨w,c,v,.refl _ _,h,e▸.refl _,Nat.le_refl _,hc⟩
theorem Res.imp {e:Ex}{c:Nat}{s:Ma}{f g:Nat->MV->Ma}(h:Res code most e c s f)(k:∀ c' v,c'<=most->Nq code most (f c' v) (g c' v)):Res code most e c s g:=by
 rcases h with ⟨w,c',v,h1,h2,h3,h4,h5⟩ | h | h
 ·exact .inl ⟨w,c',v,h1,h2,h3.trans (k c' v h5),h4,h5⟩
 ·exact .inr (.inl h)
 ·exact .inr (.inr h)
end
theorem step_at {code:List MS}{s:Ma}{st:MS}(h:code[s.at']?=some st):step code s=exec st s:=by unfold step;rw [h]
theorem Tz (b:Ex):Fr λz=>cal z b:=⟨λ_ _=>rfl,λe h=>by simp [Cy,h]⟩
theorem TB {a:Ex}(h:isV a=true):Fr (cal a):=⟨λ_ _=>rfl,λe h'=>by simp [Cy,h,h']⟩
theorem XW (b:Ex):Fr λz=>pr z b:=⟨λ_ h=>by simp [isV,h],λe h=>by simp [Cy,h]⟩
theorem XX {a:Ex}(h:isV a=true):Fr (pr a):=⟨λ_ h=>by simp [isV,h],λe h'=>by simp [Cy,h,h']⟩
theorem XY (b:Ex):Fr λz=>lk z b:=⟨λ_ h=>by simp [isV,h],λe h=>by simp [Cy,h]⟩
theorem XZ {a:Ex}(h:isV a=true):Fr (lk a):=⟨λ_ h=>by simp [isV,h],λe h'=>by simp [Cy,h,h']⟩
theorem X' (o:Str)(b:Ex):Fr λz=>op o z b:=⟨λ_ _=>rfl,λe h=>by simp [Cy,h]⟩
theorem Y0 (o:Str){a:Ex}(h:isV a=true):Fr (op o a):=⟨λ_ _=>rfl,λe h'=>by simp [Cy,h,h']⟩
theorem je (x:Str)(b:Ex):Fr λz=>lt x z b:=⟨λ_ _=>rfl,λe h=>by simp [Cy,h]⟩
theorem jf (b c:Ex):Fr λz=>wh z b c:=⟨λ_ _=>rfl,λe h=>by simp [Cy,h]⟩
theorem Y1 (x y:Str)(b:Ex):Fr λz=>opn z x y b:=⟨λ_ _=>rfl,λe h=>by simp [Cy,h]⟩
theorem Y2 (b:Ex)(x y:Str)(c:Ex):Fr λz=>spl z b x y c:=⟨λ_ _=>rfl,λe h=>by simp [Cy,h]⟩
abbrev fS (q:Nat)(pile held:List MV)(frs:List (Nat × List MV)):Nat->MV->Ma:=λc v=>⟨q,c,v::pile,held,frs⟩
theorem VR.op {code:List MS}(o:Str)(i j:Int):VR code (FC o i j) (Xc o i j):=by
 unfold FC Xc
 split
 ·exact .num _
 ·split
  ·exact .num _
  ·split <;> exact .tru _
theorem Hx (h t:List MV):(h++t).take ((h++t).length - t.length)=h:=by simp
theorem both {code:List MS}{most:Nat}:∀ (m:Nat) (e:Ex) (xs:List Str) (h:List MV) (σ:Su) (p c q:Nat) (pile:List MV) (frs:List (Nat × List MV)),most+1 - c<=m->c<=most->KA code xs h σ->e.cl xs->At code p (comp xs e)->q=p+(comp xs e).length ->
  Res code most (sub σ e) c ⟨p,c,pile,h,frs⟩ (fS q pile h frs):=by
 intro m
 induction m with
 | zero=>intros;omega
 | succ m IH =>
 intro e
 induction e with
 | nm x =>
  intro xs h σ p c q pile frs hm hc E cl A hq
  obtain ⟨wv,vv,h1,h2,h3⟩:=E.at'
  have hx:x∈xs:=cl
  have e1:sub σ (.nm x)=wv x:=by simp [sub,h1 x hx]
  have hi:=List.idxOf_lt_length_iff.mpr hx
  have hl:=E.len
  rw [e1]
  refine Res.mst (s':=⟨p+1,c,vv x::pile,h,frs⟩) hc ?_ (Res.val (h3 x hx) hc (by simp [comp] at hq;rw [hq]))
  rw [step_at (st:=.nm (xs.idxOf x)) A.hd]
  simp only [exec]
  rw [if_pos (),h2 x hx]
 | num i =>
  intro xs h σ p c q pile frs hm hc E cl A hq
  exact Res.mst (s':=⟨p+1,c,.num i::pile,h,frs⟩) hc (by rw [step_at (st:=.num i) A.hd];rfl) (Res.val (.num i) hc (by simp [comp] at hq;rw [hq]))
 | tru i =>
  intro xs h σ p c q pile frs hm hc E cl A hq
  exact Res.mst (s':=⟨p+1,c,.tru i::pile,h,frs⟩) hc (by rw [step_at (st:=.tru i) A.hd];rfl) (Res.val (.tru i) hc (by simp [comp] at hq;rw [hq]))
 | emp =>
  intro xs h σ p c q pile frs hm hc E cl A hq
  exact Res.mst (s':=⟨p+1,c,.emp::pile,h,frs⟩) hc (by rw [step_at (st:=.emp) A.hd];rfl) (Res.val .emp hc (by simp [comp] at hq;rw [hq]))
 | fn x b _ =>
  intro xs h σ p c q pile frs hm hc E cl A hq
  obtain ⟨wv,vv,h1,h2,h3⟩:=E.at'
  refine Res.mst (s':=⟨p+1+((comp (x::xs) b).length+1),c,.fn false (p+1) h::pile,h,frs⟩) hc (by rw [step_at (st:=.fn _) A.hd];rfl) (Res.val (.fn E.len E.no h1 h2 h3 cl A.tl) hc ?_)
  simp [comp] at hq
  rw [hq]
  simp only [fS,Ma.mk.injEq,true_and,and_true];omega
 | rc f x b _ =>
  intro xs h σ p c q pile frs hm hc E cl A hq
  obtain ⟨wv,vv,h1,h2,h3⟩:=E.at'
  refine Res.mst (s':=⟨p+1+((comp (x::f::xs) b).length+1),c,.fn true (p+1) h::pile,h,frs⟩) hc (by rw [step_at (st:=.rc _) A.hd];rfl) (Res.val (.rc E.len E.no h1 h2 h3 cl A.tl) hc ?_)
  simp [comp] at hq
  rw [hq]
  simp only [fS,Ma.mk.injEq,true_and,and_true];omega
 | pr a b ia ib =>
  intro xs h σ p c q pile frs hm hc E cl A hq
  refine Res.seq (C:=λz=>.pr z (sub σ b)) (A:=sub σ a) (ia xs h σ p c _ pile frs hm hc E cl.1 A.l rfl) (XW _) λw1 c1 v1 r1 k1 F2=>?_
  refine Res.seq (C:=.pr w1) (A:=sub σ b) (ib xs h σ _ c1 _ (v1::pile) frs () F2 E cl.2 A.r.l rfl) (XX r1.isV) λw2 c2 v2 r2 k2 KD=>?_
  refine Res.mst (s':=⟨p+(comp xs a).length+(comp xs b).length+1,c2,.two false v1 v2::pile,h,frs⟩) KD (by rw [step_at (st:=.pr) A.r.r.hd];rfl) (Res.val (.pr r1 r2) KD ?_)
  simp [comp] at hq
  rw [hq]
  simp only [fS,Ma.mk.injEq,true_and,and_true];omega
 | lk a b ia ib =>
  intro xs h σ p c q pile frs hm hc E cl A hq
  refine Res.seq (C:=λz=>.lk z (sub σ b)) (A:=sub σ a) (ia xs h σ p c _ pile frs hm hc E cl.1 A.l rfl) (XY _) λw1 c1 v1 r1 k1 F2=>?_
  refine Res.seq (C:=.lk w1) (A:=sub σ b) (ib xs h σ _ c1 _ (v1::pile) frs () F2 E cl.2 A.r.l rfl) (XZ r1.isV) λw2 c2 v2 r2 k2 KD=>?_
  refine Res.mst (s':=⟨p+(comp xs a).length+(comp xs b).length+1,c2,.two true v1 v2::pile,h,frs⟩) KD (by rw [step_at (st:=.lk) A.r.r.hd];rfl) (Res.val (.lk r1 r2) KD ?_)
  simp [comp] at hq
  rw [hq]
  simp only [fS,Ma.mk.injEq,true_and,and_true];omega
 | op o a b ia ib =>
  intro xs h σ p c q pile frs hm hc E cl A hq
  refine Res.seq (C:=λz=>.op o z (sub σ b)) (A:=sub σ a) (ia xs h σ p c _ pile frs hm hc E cl.1 A.l rfl) (X' o _) λw1 c1 v1 r1 k1 F2=>?_
  refine Res.seq (C:=.op o w1) (A:=sub σ b) (ib xs h σ _ c1 _ (v1::pile) frs () F2 E cl.2 A.r.l rfl) (Y0 o r1.isV) λw2 c2 v2 r2 k2 KD=>?_
  have e1:=step_at (s:=⟨p+(comp xs a).length+(comp xs b).length,c2,v2::v1::pile,h,frs⟩) (st:=.op o) A.r.r.hd
  have i1:=r1.isV
  have i2:=r2.isV
  have st:Cy (.op o w1 w2)=red (.op o w1 w2):=by simp [Cy,i1,i2]
  cases r1 with
  | num i =>
   cases r2 with
   | num j =>
    refine Res.mst (s':=⟨p+(comp xs a).length+(comp xs b).length+1,c2,FC o i j::pile,h,frs⟩) KD (by rw [e1];rfl) ?_
    refine Res.lst (e':=Xc o i j) (b:=false) rfl (by rw [st];rfl) KD (Res.val (.op o i j) KD ?_)
    simp [comp] at hq
    rw [hq]
    simp only [fS,Ma.mk.injEq,true_and,and_true,Bool.toNat_false,Nat.add_zero];omega
   | _=>exact Res.stuck rfl (by rw [st];rfl) KD (by rw [e1];rfl)
  | _=>cases r2 <;> exact Res.stuck rfl (by rw [st];rfl) KD (by rw [e1];rfl)
 | lt x a b ia ib =>
  intro xs h σ p c q pile frs hm hc E cl A hq
  refine Res.seq (C:=λz=>.lt x z (sub (σ.rm x) b)) (A:=sub σ a) (ia xs h σ p c _ pile frs hm hc E cl.1 A.l rfl) (je x _) λw1 c1 v1 r1 k1 F2=>?_
  refine Res.mst (s':=⟨p+(comp xs a).length+1,c1,pile,h++[v1],frs⟩) F2 (by rw [step_at (st:=.lt) A.r.hd];rfl) ?_
  refine Res.lst (e':=give x w1 (sub (σ.rm x) b)) (b:=false) rfl (by simp only [Cy,r1.isV,if_true];rfl) F2 ?_
  rw [KC E.cl]
  refine Res.imp (ib (x::xs) (h++[v1]) _ _ _ _ pile frs (by simp;omega) F2 (E.add x r1) cl.2 A.r.tl.l rfl) λc' v HI=>?_
  refine .go HI (s':=⟨q,c',v::pile,h,frs⟩) ?_ (.refl _)
  rw [step_at (st:=.drop 1) A.r.tl.r.hd]
  simp only [exec]
  rw [if_pos (by simp)]
  have:=Hx h [v1]
  simp only [List.length_cons,List.length_nil] at this
  simp [comp] at hq
  rw [hq]
  simp only [Rs.go.injEq,Ma.mk.injEq,true_and,and_true]
  exact ⟨(),this⟩
 | wh a b d ia ib ic =>
  intro xs h σ p c q pile frs hm hc E cl A hq
  refine Res.seq (C:=λz=>.wh z (sub σ b) (sub σ d)) (A:=sub σ a) (ia xs h σ p c _ pile frs hm hc E cl.1 A.l rfl) (jf _ _) λw1 c1 v1 r1 k1 F2=>?_
  have e1:=step_at (s:=⟨p+(comp xs a).length,c1,v1::pile,h,frs⟩) (st:=.wh ((comp xs b).length+1)) A.r.hd
  have i1:=r1.isV
  have st:Cy (.wh w1 (sub σ b) (sub σ d))=red (.wh w1 (sub σ b) (sub σ d)):=by simp [Cy,i1]
  simp [comp] at hq
  cases r1 with
  | tru t =>
   cases t with
   | true =>
    refine Res.mst (s':=⟨p+(comp xs a).length+1,c1,pile,h,frs⟩) F2 (by rw [e1];rfl) ?_
    refine Res.lst (e':=sub σ b) (b:=false) rfl (by rw [st];rfl) F2 ?_
    refine Res.imp (ib xs h σ _ _ _ pile frs (by simp;omega) F2 E cl.2.1 A.r.tl.l rfl) λc' v HI=>?_
    refine .go HI (s':=⟨q,c',v::pile,h,frs⟩) ?_ (.refl _)
    rw [step_at (st:=.jump (comp xs d).length) A.r.tl.r.hd]
    simp only [exec,hq,Rs.go.injEq,Ma.mk.injEq,true_and,and_true]
    omega
   | false =>
    refine Res.mst (s':=⟨p+(comp xs a).length+1+((comp xs b).length+1),c1,pile,h,frs⟩) F2 (by rw [e1];rfl) ?_
    refine Res.lst (e':=sub σ d) (b:=false) rfl (by rw [st];rfl) F2 ?_
    have A':=A.r.tl.r.tl
    rw [show p+(comp xs a).length+1+(comp xs b).length+1=p+(comp xs a).length+1+((comp xs b).length+1) by omega] at A'
    exact ic xs h σ _ _ _ pile frs (by simp;omega) F2 E cl.2.2 A' ()
  | _=>exact Res.stuck rfl (by rw [st];rfl) F2 (by rw [e1];rfl)
 | opn a x y b ia ib =>
  intro xs h σ p c q pile frs hm hc E cl A hq
  refine Res.seq (C:=λz=>.opn z x y (sub ((σ.rm x).rm y) b)) (A:=sub σ a) (ia xs h σ p c _ pile frs hm hc E cl.1 A.l rfl) (Y1 x y _) λw1 c1 v1 r1 k1 F2=>?_
  have e1:=step_at (s:=⟨p+(comp xs a).length,c1,v1::pile,h,frs⟩) (st:=.opn) A.r.hd
  have i1:=r1.isV
  have st:Cy (.opn w1 x y (sub ((σ.rm x).rm y) b))=red (.opn w1 x y (sub ((σ.rm x).rm y) b)):=by simp [Cy,i1]
  simp [comp] at hq
  cases r1 with
  | @pr va vb wa wb ra rb =>
   refine Res.mst (s':=⟨p+(comp xs a).length+1,c1,pile,h++[va,vb],frs⟩) F2 (by rw [e1];rfl) ?_
   refine Res.lst (e':=Dj x y wa wb (sub ((σ.rm x).rm y) b)) (b:=false) rfl (by rw [st];rfl) F2 ?_
   rw [G6 E.cl x y wa rb.cl]
   have E2:=(E.add x ra).add y rb
   rw [List.append_assoc] at E2
   refine Res.imp (ib (y::x::xs) (h++[va,vb]) _ _ _ _ pile frs (by simp;omega) F2 E2 cl.2 A.r.tl.l rfl) λc' v HI=>?_
   refine .go HI (s':=⟨q,c',v::pile,h,frs⟩) ?_ (.refl _)
   rw [step_at (st:=.drop 2) A.r.tl.r.hd]
   simp only [exec]
   rw [if_pos (by simp)]
   have:=Hx h [va,vb]
   simp only [List.length_cons,List.length_nil] at this
   rw [hq]
   simp only [Rs.go.injEq,Ma.mk.injEq,true_and,and_true]
   exact ⟨(),this⟩
  | _=>exact Res.stuck rfl (by rw [st];rfl) F2 (by rw [e1];rfl)
 | spl a b x y d ia ib ic =>
  intro xs h σ p c q pile frs hm hc E cl A hq
  refine Res.seq (C:=λz=>.spl z (sub σ b) x y (sub ((σ.rm x).rm y) d)) (A:=sub σ a) (ia xs h σ p c _ pile frs hm hc E cl.1 A.l rfl) (Y2 _ x y _) λw1 c1 v1 r1 k1 F2=>?_
  have e1:=step_at (s:=⟨p+(comp xs a).length,c1,v1::pile,h,frs⟩) (st:=.spl ((comp xs b).length+1)) A.r.hd
  have i1:=r1.isV
  have st:Cy (.spl w1 (sub σ b) x y (sub ((σ.rm x).rm y) d))=red (.spl w1 (sub σ b) x y (sub ((σ.rm x).rm y) d)):=by simp [Cy,i1]
  simp [comp] at hq
  cases r1 with
  | emp =>
   refine Res.mst (s':=⟨p+(comp xs a).length+1,c1,pile,h,frs⟩) F2 (by rw [e1];rfl) ?_
   refine Res.lst (e':=sub σ b) (b:=false) rfl (by rw [st];rfl) F2 ?_
   refine Res.imp (ib xs h σ _ _ _ pile frs (by simp;omega) F2 E cl.2.1 A.r.tl.l rfl) λc' v HI=>?_
   refine .go HI (s':=⟨q,c',v::pile,h,frs⟩) ?_ (.refl _)
   rw [step_at (st:=.jump ((comp (y::x::xs) d).length+1)) A.r.tl.r.hd]
   simp only [exec,hq,Rs.go.injEq,Ma.mk.injEq,true_and,and_true]
   omega
  | @lk va vb wa wb ra rb =>
   refine Res.mst (s':=⟨p+(comp xs a).length+1+((comp xs b).length+1),c1,pile,h++[va,vb],frs⟩) F2 (by rw [e1];rfl) ?_
   refine Res.lst (e':=Dj x y wa wb (sub ((σ.rm x).rm y) d)) (b:=false) rfl (by rw [st];rfl) F2 ?_
   rw [G6 E.cl x y wa rb.cl]
   have E2:=(E.add x ra).add y rb
   rw [List.append_assoc] at E2
   have A':=A.r.tl.r.tl
   rw [show p+(comp xs a).length+1+(comp xs b).length+1=p+(comp xs a).length+1+((comp xs b).length+1) by omega] at A'
   refine Res.imp (ic (y::x::xs) (h++[va,vb]) _ _ _ _ pile frs (by simp;omega) F2 E2 cl.2.2 A'.l rfl) λc' v HI=>?_
   refine .go HI (s':=⟨q,c',v::pile,h,frs⟩) ?_ (.refl _)
   rw [step_at (st:=.drop 2) A'.r.hd]
   simp only [exec]
   rw [if_pos (by simp)]
   have:=Hx h [va,vb]
   simp only [List.length_cons,List.length_nil] at this
   rw [hq]
   simp only [Rs.go.injEq,Ma.mk.injEq,true_and,and_true]
   exact ⟨(),this⟩
  | _=>exact Res.stuck rfl (by rw [st];rfl) F2 (by rw [e1];rfl)
 | cal a b ia ib =>
  intro xs h σ p c q pile frs hm hc E cl A hq
  refine Res.seq (C:=λz=>.cal z (sub σ b)) (A:=sub σ a) (ia xs h σ p c _ pile frs hm hc E cl.1 A.l rfl) (Tz _) λw1 c1 v1 r1 k1 F2=>?_
  refine Res.seq (C:=.cal w1) (A:=sub σ b) (ib xs h σ _ c1 _ (v1::pile) frs () F2 E cl.2 A.r.l rfl) (TB r1.isV) λw2 c2 v2 r2 k2 KD=>?_
  have e1:=step_at (s:=⟨p+(comp xs a).length+(comp xs b).length,c2,v2::v1::pile,h,frs⟩) (st:=.call) A.r.r.hd
  have i1:=r1.isV
  have i2:=r2.isV
  have st:Cy (.cal w1 w2)=red (.cal w1 w2):=by simp [Cy,i1,i2]
  simp [comp] at hq
  cases r1 with
  | @fn p' h' x b' TC σ' wv vv g1 g2 g3 g4 g5 g6 g7 =>
   have E':KA code TC h' σ':=⟨g1,g2,wv,vv,g3,g4,g5⟩
   by_cases ov:c2+1<=most
   ·refine Res.mst (s':=⟨p',c2+1,pile,h'++[v2],(p+(comp xs a).length+(comp xs b).length+1,h)::frs⟩) KD (by rw [e1];rfl) ?_
    refine Res.lst (e':=give x w2 (sub (σ'.rm x) b')) (b:=true) rfl (by rw [st];rfl) ov ?_
    rw [KC E'.cl]
    refine Res.imp (IH b' (x::TC) (h'++[v2]) _ p' (c2+1) _ pile _ () ov (E'.add x r2) g6 g7.l rfl) λc' v HI=>?_
    refine .go HI (s':=⟨q,c',v::pile,h,frs⟩) ?_ (.refl _)
    rw [step_at (st:=.back) g7.r.hd]
    simp only [exec,hq,Rs.go.injEq,Ma.mk.injEq,true_and,and_true]
    omega
   ·exact .inr (.inr ⟨⟨_,c2,_,true,.refl _ _,rfl,st,by simp;omega⟩,⟨p',c2+1,pile,h'++[v2],(p+(comp xs a).length+(comp xs b).length+1,h)::frs⟩,.go KD (by rw [e1];rfl) (.refl _),by simp;omega⟩)
  | @rc p' h' f x b' TC σ' wv vv g1 g2 g3 g4 g5 g6 g7 =>
   have E':KA code TC h' σ':=⟨g1,g2,wv,vv,g3,g4,g5⟩
   have R':VR code (.fn true p' h') (.rc f x (sub ((σ'.rm f).rm x) b')):=.rc g1 g2 g3 g4 g5 g6 g7
   by_cases ov:c2+1<=most
   ·refine Res.mst (s':=⟨p',c2+1,pile,h'++[.fn true p' h',v2],(p+(comp xs a).length+(comp xs b).length+1,h)::frs⟩) KD (by rw [e1];rfl) ?_
    refine Res.lst (e':=Dj f x (.rc f x (sub ((σ'.rm f).rm x) b')) w2 (sub ((σ'.rm f).rm x) b')) (b:=true) rfl (by rw [st];rfl) ov ?_
    rw [G6 E'.cl f x _ r2.cl]
    have E2:=(E'.add f R').add x r2
    rw [List.append_assoc] at E2
    refine Res.imp (IH b' (x::f::TC) (h'++[.fn true p' h',v2]) _ p' (c2+1) _ pile _ () ov E2 g6 g7.l rfl) λc' v HI=>?_
    refine .go HI (s':=⟨q,c',v::pile,h,frs⟩) ?_ (.refl _)
    rw [step_at (st:=.back) g7.r.hd]
    simp only [exec,hq,Rs.go.injEq,Ma.mk.injEq,true_and,and_true]
    omega
   ·exact .inr (.inr ⟨⟨_,c2,_,true,.refl _ _,rfl,st,by simp;omega⟩,⟨p',c2+1,pile,h'++[.fn true p' h',v2],(p+(comp xs a).length+(comp xs b).length+1,h)::frs⟩,.go KD (by rw [e1];rfl) (.refl _),by simp;omega⟩)
  | _=>exact Res.stuck rfl (by rw [st];rfl) KD (by rw [e1];rfl)
open L2
theorem Bu:∀ (e:Ex) (xs:List Str),(comp xs e).length<=3 * e.sz:=by
 intro e
 induction e with
 | nm _ | num _ | tru _ | emp=>intro xs;simp [comp,sz]
 | fn x b ih=>intro xs;have:=ih (x::xs);simp only [comp,sz,List.length_cons,List.length_append,List.length_nil];omega
 | rc f x b ih=>intro xs;have:=ih (x::f::xs);simp only [comp,sz,List.length_cons,List.length_append,List.length_nil];omega
 | cal a b ia ib | pr a b ia ib | lk a b ia ib=>intro xs;have:=ia xs;have:=ib xs;simp only [comp,sz,List.length_cons,List.length_append,List.length_nil];omega
 | op o a b ia ib=>intro xs;have:=ia xs;have:=ib xs;simp only [comp,sz,List.length_cons,List.length_append,List.length_nil];omega
 | lt x a b ia ib=>intro xs;have:=ia xs;have:=ib (x::xs);simp only [comp,sz,List.length_cons,List.length_append,List.length_nil];omega
 | opn a x y b ia ib=>intro xs;have:=ia xs;have:=ib (y::x::xs);simp only [comp,sz,List.length_cons,List.length_append,List.length_nil];omega
 | wh a b c ia ib ic=>intro xs;have:=ia xs;have:=ib xs;have:=ic xs;simp only [comp,sz,List.length_cons,List.length_append,List.length_nil];omega
 | spl a b x y c ia ib ic=>intro xs;have:=ia xs;have:=ib xs;have:=ic (y::x::xs);simp only [comp,sz,List.length_cons,List.length_append,List.length_nil];omega
theorem TF:∀ (e:Ex) (xs:List Str),e.opk->∀ s∈comp xs e,s.ok:=by
 intro e
 induction e with
 | nm _ | num _ | tru _ | emp=>intro xs _ s h;simp [comp] at h;subst h;trivial
 | fn x b ih=>intro xs o s h;simp only [comp,List.mem_cons,List.mem_append,List.not_mem_nil,or_false] at h;rcases h with rfl | h | rfl <;> first | trivial | exact ih _ o _ h
 | rc f x b ih=>intro xs o s h;simp only [comp,List.mem_cons,List.mem_append,List.not_mem_nil,or_false] at h;rcases h with rfl | h | rfl <;> first | trivial | exact ih _ o _ h
 | cal a b ia ib | pr a b ia ib | lk a b ia ib=>intro xs o s h;simp only [comp,List.mem_cons,List.mem_append,List.not_mem_nil,or_false] at h;rcases h with h | h | rfl <;> first | exact ia _ o.1 _ h | exact ib _ o.2 _ h | trivial
 | op p a b ia ib=>intro xs o s h;simp only [comp,List.mem_cons,List.mem_append,List.not_mem_nil,or_false] at h;rcases h with h | h | rfl <;> first | exact ia _ o.2.1 _ h | exact ib _ o.2.2 _ h | exact o.1
 | lt x a b ia ib=>intro xs o s h;simp only [comp,List.mem_cons,List.mem_append,List.not_mem_nil,or_false] at h;rcases h with h | rfl | h | rfl <;> first | exact ia _ o.1 _ h | exact ib _ o.2 _ h | trivial
 | opn a x y b ia ib=>intro xs o s h;simp only [comp,List.mem_cons,List.mem_append,List.not_mem_nil,or_false] at h;rcases h with h | rfl | h | rfl <;> first | exact ia _ o.1 _ h | exact ib _ o.2 _ h | trivial
 | wh a b c ia ib ic=>intro xs o s h;simp only [comp,List.mem_cons,List.mem_append,List.not_mem_nil,or_false] at h;rcases h with h | rfl | h | rfl | h <;> first | exact ia _ o.1 _ h | exact ib _ o.2.1 _ h | exact ic _ o.2.2 _ h | trivial
 | spl a b x y c ia ib ic=>intro xs o s h;simp only [comp,List.mem_cons,List.mem_append,List.not_mem_nil,or_false] at h;rcases h with h | rfl | h | rfl | h | rfl <;> first | exact ia _ o.1 _ h | exact ib _ o.2.1 _ h | exact ic _ o.2.2 _ h | trivial
noncomputable def dps:MV->Nat
 | .two _ a b=>1+max (dps a) (dps b)
 | _=>0
theorem VR.dps {code:List MS}{v:MV}{w:Ex}(h:VR code v w):KX.dps v<=dep dz w:=by
 induction h with
 | pr _ _ ia ib=>simp only [KX.dps,dep];omega
 | lk _ _ ia ib=>simp only [KX.dps,dep];omega
 | _=>exact Nat.zero_le _
inductive LO where
 | val (e:Ex) (c:Nat) | stuck | over
inductive R3 (most:Nat):Nat->Ex->Nat->LO->Prop
 | val {e:Ex} (c:Nat):isV e=true->R3 most 0 e c (.val e c)
 | stuck {e:Ex} (c:Nat):isV e=false->Cy e=none->R3 most 0 e c .stuck
 | over {e e':Ex} {b:Bool} {c:Nat}:isV e=false->Cy e=some (e',b)->most < c+b.toNat->R3 most 0 e c .over
 | go {e e':Ex} {b:Bool} {c m:Nat} {o:LO}:isV e=false->Cy e=some (e',b)->c+b.toNat<=most->R3 most m e' (c+b.toNat) o->R3 most (m+1) e c o
theorem JE.en {most:Nat}{e w:Ex}{c c':Nat}(h:JE most e c w c'){m:Nat}{o:LO}(g:R3 most m w c' o):∃ m,R3 most m e c o:=by
 induction h with
 | refl=>exact ⟨m,g⟩
 | go h1 h2 h3 _ ih=>obtain ⟨k,h⟩:=ih g;exact ⟨k+1,.go h1 h2 h3 h⟩
inductive Ag (code:List MS):Out->LO->Prop
 | val {v:MV} {w:Ex} (c:Nat):VR code v w->Ag code (.told v c) (.val w c)
 | stuck:Ag code .stuck .stuck
 | over:Ag code .none .over
theorem agree {e:Ex}{most:Nat}(hc:e.cl []):Lb λn m O o=>Ends (comp [] e++[.fin]) most n K.ma0 O/\R3 most m e 0 o/\Ag (comp [] e++[.fin]) O o:=by
 have at0:At (comp [] e++[.fin]) 0 (comp [] e):=λi s h=>by
  rw [Nat.zero_add,List.getElem?_append_left (List.getElem?_eq_some_iff.mp h).1];exact h
 have B:=both (code:=comp [] e++[.fin]) (most:=most) (most+1) e [] [] (λ_=>none) 0 0 (comp [] e).length [] [] () (Nat.zero_le _) ⟨rfl,λ_ _=>rfl,λ_=>.emp,λ_=>.emp,λ_ h=>(by cases h),λ_ h=>(by cases h),λ_ h=>(by cases h)⟩ hc at0 ()
 rw [Hq] at B
 rcases B with ⟨w,c,v,g1,g2,g3,g4,g5⟩ | ⟨⟨e',c',g1,g2,g3⟩,s',k1,k2,k3⟩ | ⟨⟨e',c',Vz,b,g1,g2,g3,g4⟩,s',k1,k2⟩
 ·obtain ⟨m,h⟩:=g1.en (.val c g2.isV)
  have hs:step (comp [] e++[.fin]) ⟨(comp [] e).length,c,[v],[],[]⟩=.told v:=by
   rw [step_at (st:=.fin) (by simp)];rfl
  obtain ⟨n,hn⟩:=g3.ends (.told (s:=⟨(comp [] e).length,c,[v],[],[]⟩) g5 hs)
  exact ⟨n,m,_,_,hn,h,.val c g2⟩
 ·obtain ⟨m,h⟩:=g1.en (.stuck c' g2 g3)
  obtain ⟨n,hn⟩:=k1.ends (.stuck k2 k3)
  exact ⟨n,m,_,_,hn,h,.stuck⟩
 ·obtain ⟨m,h⟩:=g1.en (.over g2 g3 g4)
  obtain ⟨n,hn⟩:=k1.ends (.over k2)
  exact ⟨n,m,_,_,hn,h,.over⟩
theorem Y3 {code:List MS}{most:Nat}(hm:most<=6)(hl:code.length<=20000):Good code most (7 * GH code) 900000 K.ma0:=by
 have h1:(most+1 - 0) * (code.length+2)<=7 * (code.length+2):=Nat.mul_le_mul_right _ ()
 have h2:(most - 0) * GH code<=6 * GH code:=Nat.mul_le_mul_right _ ()
 have h3:GH (code.drop 0)=GH code:=by simp
 refine ⟨⟨0,0,λv h=>(by cases h),λv h=>(by cases h),λf h=>(by cases h),Nat.le_refl _,?_,?_⟩,?_,Nat.le_refl _⟩
 ·simp only [Ma.pot,iI];omega
 ·simp only [Ma.mu,fL];omega
 ·simp only [Ma.mu,fL,List.length_nil];omega
end KX
namespace K
open PySem L2 KM KS KX
section
variable {Pr:Program}{w:World}{K:W.Frag}{mg:Str->Option Value}{base:Heap}
inductive Nr (k n:Nat)(vs:(List V))(H:Hp)(Q:VK)(z3:XK):Prop
 | mk (e:Ex) (r:V) (most m d:Nat) (o:LO) (h1:vs=[r,.int most]) (h2:B9 H e r) (h3:Tr k e) (h4:dep dz e<=d) (h5:d+k * most<=n) (h6:R3 most m e 0 o) (h7:(o=.over->∀ H',An H H'->Q .non H')) (h8:(o=.stuck->∀ H',An H H'->Q (.str "stuck") H')) (h9:∀ e' c,o=.val e' c->∀ p r' H',An H H'->H' p=some (.tup [r',.int c])->B9 H' e' r'->dep dz e'<=n->Tr k e'->Q (.ref p) H'):Nr k n vs H Q z3
inductive rS (k most d:Nat)(o:LO)(H:Hp)(m:Nat)(σ':St)(H':Hp):Prop
 | mk (e:Ex) (r:V) (c:Nat) (o3:Option V) (h0:σ'=[some r,some (.int most),some (.int c),o3]) (h1:An H H') (h2:B9 H' e r) (h3:Tr k e) (h4:dep dz e<=d+k * c) (h5:c<=most) (h6:R3 most m e c o):rS k most d o H m σ' H'
theorem KH:AE ["_law_tree","_law_most","_law_calls","_law_behind"] ["_law_tree","_law_most"] (Ae CZ):=nofun
theorem jg {k n:Nat}{f:Addr}{fd:FuncData}(F:D4 K "_law_run" "_law_run" CZ f fd)(CI:mg "int"=none)
  (cI:Cl Pr w K mg base (n+1) "_law_is_value" ["_law_tree"] (Iu n)) (cS:Cl Pr w K mg base (n+k+3) "_law_step" ["_law_tree"] (Kt k n)):AY Pr w K mg base C5 (n+k+4) f fd ["_law_tree","_law_most"] (Nr k n):=by
 refine F.okS KH (λvs H Q E h=>?_) (λBV A outer s H vs Q E hr h=>?_)
 ·obtain ⟨e,r,most,m,d,o,rfl,_⟩:=h;rfl
 ·obtain ⟨e,r,most,m,d,o,rfl,he,T,hd,hn,hE,q1,q2,q3⟩:=h
  have hrI:Bh (n+1) _:=hr.mono ()
  have FG:=hr.units
  refine ⟨_,(Ah (Ay (i:=2) KH.nd rfl (.inl rfl) Ab)
   (Ah (J8 PassesOwn.never (DU (DC (B1 cI hrI rfl (Aa (Ai 0) Ac)))) (Ah (Ay (i:=3) KH.nd rfl (.inl rfl) (B1 cS hr rfl (Aa (Ai 0) Ac)))
   (Ah (B7 (Aw (AK.or (Jo FG)) (Ai 3) Af (Am _)) (Al (Ar Af)) AN)
   (Ah (Ay (i:=2) KH.nd rfl (.inl rfl) (As AZ (Ai 2) (Cg DO (by rfl) CI PyProof.Rows.boot_int (Aa (Ao (r:=AA K) Aj (Ai 3) Ab AO) Ac))))
   (Ah (B7 (Aw Ia (Ai 2) (Ai 1) (Am _)) (Al (Ar Hd)) AN)
   (Al (Ay (i:=0) KH.nd rfl (.inl rfl) (Ao (r:=AA K) Aj (Ai 3) Ab AO))))))))
   (Al (Ar (Aq (Aa (Ai 0) (Aa (Ai 2) Ac))))))),?_⟩
  left
  refine ⟨rS k most d o H,⟨m,e,r,0,none,rfl,An.refl _,he,T,(),Nat.zero_le _,hE⟩,?_⟩
  clear he T hd hE
  rintro m σ' H1 ⟨e,r,c,o3,rfl,s1,he,T,hd,hc,hE⟩
  have hk:k * c<=k * most:=Nat.mul_le_mul_left k hc
  left
  refine ⟨e,r,rfl,he,(),λH2 s2=>?_⟩
  left
  have BN:=s1.trans s2
  have he2:=B9.mono (Au.of_same s2) he
  cases ev:e.isV
  ·refine CT ⟨fun σ' H'=>∃ m',m' < m/\rS k most d o H m' σ' H',fun σ' H' q=>q,?_⟩
   left
   refine ⟨e,r,rfl,he2,T,(),λst H3 s3=>?_,λe' b st p r' H3 s3 h3 Ol=>?_⟩
   ·left
    refine .inl ⟨rfl,⟨_,rfl,AW (decide_eq_true rfl) ?_⟩⟩
    left
    refine q2 ?_ _ (BN.trans s3)
    cases hE with
    | val _ z=>rw [ev] at z;cases z
    | stuck=>rfl
    | over _ z=>rw [st] at z;cases z
    | go _ z=>rw [st] at z;cases z
   ·left
    refine .inr ⟨p,_,_,rfl,h3,rfl,⟨_,rfl,Cm ?_⟩⟩
    left
    refine Ad (Av.of h3) (v:=.bl b) rfl ?_
    left
    refine .inr ⟨_,rfl,?_⟩
    refine ⟨_,_,rfl,rfl,?_⟩
    left
    have eb:((c:Int)+if b=true then 1 else 0)=((c+b.toNat:Nat):Int):=by cases b <;> rfl
    rw [eb]
    obtain ⟨T',IP⟩:=Xf T st
    by_cases HI:c+b.toNat<=most
    ·refine AF (λz=>by have:=of_decide_eq_true z;omega) ?_
     left
     refine Ad (Av.of h3) (v:=r') rfl ?_
     left
     obtain ⟨m',rT,TH⟩:∃ m',m' < m/\R3 most m' e' (c+b.toNat) o:=by
      cases hE with
      | val _ z=>rw [ev] at z;cases z
      | stuck _ _ z=>rw [st] at z;cases z
      | over _ z z'=>rw [st] at z;cases z;omega
      | go _ z _ TH=>rw [st] at z;cases z;exact ⟨_,Nat.lt_succ_self _,TH⟩
     refine ⟨m',rT,e',r',c+b.toNat,_,(by rw [<- eb];rfl),BN.trans s3,Ol,T',?_,HI,TH⟩
     cases b
     ·simp only [grow] at IP
      simpa using Nat.le_trans IP (by simpa using hd)
     ·simp only [grow,if_true] at IP
      simp only [Bool.toNat_true,Nat.mul_add,Nat.mul_one]
      omega
    ·refine AW (decide_eq_true ()) ?_
     left
     refine q1 ?_ _ (BN.trans s3)
     cases hE with
     | val _ z=>rw [ev] at z;cases z
     | stuck _ _ z=>rw [st] at z;cases z
     | over _ z z'=>rfl
     | go _ z z' TH=>rw [st] at z;cases z;omega
  ·refine Cm ?_
   left
   intros p3 H3 s3 e3
   refine q3 e c ?_ p3 r H3 (BN.trans s3) e3 (B9.mono (Au.of_same s3) he2) () T
   cases hE with
   | val=>rfl
   | stuck _ z=>rw [ev] at z;cases z
   | over z=>rw [ev] at z;cases z
   | go z=>rw [ev] at z;cases z
end
end K
namespace KX
open PySem L2
noncomputable def AU:MS->Nat
 | .pr | .lk | .op _ | .call=>2
 | .lt | .opn | .wh _ | .spl _ | .fin=>1
 | _=>0
noncomputable def fit:MS->List MV->Bool
 | .op _,tk=>match tk with
  | [.num _,.num _]=>true
  | _=>false
 | .call,tk=>match tk with
  | .fn _ _ _::_=>true
  | _=>false
 | .spl _,tk=>match tk with
  | .emp::_=>true
  | .two true _ _::_=>true
  | _=>false
 | .wh _,tk=>match tk with
  | [.tru _]=>true
  | _=>false
 | .opn,tk=>match tk with
  | [.two false _ _]=>true
  | _=>false
 | _,_=>true
noncomputable def leap:MS->List MV->Bool
 | .jump _,_ | .fn _,_ | .rc _,_=>true
 | .wh _,tk=>match tk with
  | [.tru b]=>!b
  | _=>false
 | .spl _,tk=>match tk with
  | [.two true _ _]=>true
  | _=>false
 | _,_=>false
noncomputable def ln:MS->Nat
 | .nm n | .fn n | .rc n | .drop n | .jump n | .wh n | .spl n=>n
 | _=>0
noncomputable def VA:MS->List MV->List MV->List MV
 | .drop n,_,h=>h.take (h.length - n)
 | .lt,tk,h=>h++tk
 | .opn,tk,h=>match tk with
  | [.two _ a b]=>h++[a,b]
  | _=>h
 | .spl _,tk,h=>match tk with
  | [.two _ a b]=>h++[a,b]
  | _=>h
 | .call,tk,h=>match tk with
  | [.fn r a k,v]=>k++(if r then [.fn r a k] else [])++[v]
  | _=>h
 | _,_,h=>h
noncomputable def VB:MS->List MV->Nat->List MV->Option MV
 | .num i,_,_,_=>some (.num i)
 | .tru b,_,_,_=>some (.tru b)
 | .emp,_,_,_=>some .emp
 | .nm n,_,_,h=>if n < h.length then h[h.length - 1 - n]? else none
 | .fn _,_,a,h=>some (.fn false a h)
 | .rc _,_,a,h=>some (.fn true a h)
 | .op o,tk,_,_=>match tk with
  | [.num i,.num j]=>some (FC o i j)
  | _=>none
 | .pr,tk,_,_=>match tk with
  | [a,b]=>some (.two false a b)
  | _=>none
 | .lk,tk,_,_=>match tk with
  | [a,b]=>some (.two true a b)
  | _=>none
 | _,_,_,_=>none
noncomputable def Dl (st:MS)(s:Ma):List MV:=(s.pile.take (AU st)).reverse
theorem Y4 {st:MS}{s:Ma}(h:s.pile.length < AU st):exec st s=.stuck:=by
 cases st <;> simp only [AU] at h <;> try omega
 all_goals
  simp only [exec]
  split
  all_goals first
   | rfl
   | (rename_i e;rw [e] at h;simp only [List.length_cons] at h;omega)
theorem Y5 {st:MS}{s:Ma}(h:fit st (Dl st s)=false):exec st s=.stuck:=by
 cases st <;> simp only [fit,Dl,AU] at h <;> try (exact absurd h ⟨⟩)
 all_goals
  simp only [exec]
  split
  all_goals first
   | rfl
   | (rename_i e;rw [e] at h;simp at h)
theorem TJ {s:Ma}(h:s.frs=[]):exec .back s=.stuck:=by simp only [exec];rw [h]
theorem TK {n:Nat}{s:Ma}(h:s.held.length < n):exec (.drop n) s=.stuck:=by simp only [exec];rw [if_neg ()]
theorem jh {n:Nat}{s:Ma}(h:s.held.length<=n):exec (.nm n) s=.stuck:=by simp only [exec];rw [if_neg ()]
theorem Jy {s:Ma}(h:2<=s.pile.length):Dw λb a r=>s.pile=b::a::r:=by
 rcases e:s.pile with _ | ⟨b,_ | ⟨a,r⟩⟩
 ·rw [e] at h;simp at h
 ·rw [e] at h;simp at h
 ·exact ⟨b,a,r,rfl⟩
theorem Ff {s:Ma}(h:1<=s.pile.length):D1 λa r=>s.pile=a::r:=by
 rcases e:s.pile with _ | ⟨a,r⟩
 ·rw [e] at h;simp at h
 ·exact ⟨a,r,rfl⟩
theorem Y6 {s:Ma}(h:1<=s.pile.length):∃ v,Dl .fin s=[v]/\exec .fin s=.told v:=by
 obtain ⟨a,r,e⟩:=Ff h
 exact ⟨a,by simp only [Dl,AU,e];rfl,by simp only [exec];rw [e]⟩
theorem TL {s:Ma}(h:2<=s.pile.length)(hf:fit .call (Dl .call s)=true):Lb λr a k v=>Dl .call s=[.fn r a k,v]/\exec .call s=.go ⟨a,s.calls+1,s.pile.drop 2,VA .call (Dl .call s) s.held,(s.at'+1,s.held)::s.frs⟩:=by
 obtain ⟨b,a,p,e⟩:=Jy h
 have et:Dl .call s=[a,b]:=by simp only [Dl,AU,e];rfl
 rw [et] at hf ⊢
 cases a with
 | fn r q k =>
  refine ⟨r,q,k,b,rfl,?_⟩
  simp only [exec,e]
  cases r <;> simp [VA]
 | _=>simp [fit] at hf
theorem Y7 {st:MS}{s:Ma}(hg:st=.lt\/st=.opn\/(∃ n,st=.spl n)\/∃ n,st=.drop n)(hl:AU st<=s.pile.length)(hf:fit st (Dl st s)=true)(hd:∀ n,st=.drop n->n<=s.held.length):
  exec st s=.go { s with at':=s.at'+1+(if leap st (Dl st s) then ln st else 0),pile:=s.pile.drop (AU st),held:=VA st (Dl st s) s.held }:=by
 rcases hg with rfl | rfl | ⟨n,rfl⟩ | ⟨n,rfl⟩
 ·obtain ⟨a,r,e⟩:=Ff hl
  simp only [exec,Dl,AU,e];rfl
 ·obtain ⟨a,r,e⟩:=Ff hl
  have et:Dl .opn s=[a]:=by simp only [Dl,AU,e];rfl
  rw [et] at hf ⊢
  cases a with
  | two l x y=>cases l <;> simp [fit] at hf;simp only [exec,AU,e];rfl
  | _=>simp [fit] at hf
 ·obtain ⟨a,r,e⟩:=Ff hl
  have et:Dl (.spl n) s=[a]:=by simp only [Dl,AU,e];rfl
  rw [et] at hf ⊢
  cases a with
  | two l x y=>cases l <;> simp [fit] at hf;simp only [exec,AU,e];rfl
  | emp=>simp only [exec,AU,e];rfl
  | _=>simp [fit] at hf
 ·have h:=hd n rfl
  simp only [exec]
  rw [if_pos h]
  rfl
theorem ji {st:MS}{s:Ma}(hg:(∃ n,st=.jump n)\/∃ n,st=.wh n)(hl:AU st<=s.pile.length)(hf:fit st (Dl st s)=true):
  exec st s=.go { s with at':=s.at'+1+(if leap st (Dl st s) then ln st else 0),pile:=s.pile.drop (AU st) }:=by
 rcases hg with ⟨n,rfl⟩ | ⟨n,rfl⟩
 ·simp only [exec];rfl
 ·obtain ⟨a,r,e⟩:=Ff hl
  have et:Dl (.wh n) s=[a]:=by simp only [Dl,AU,e];rfl
  rw [et] at hf ⊢
  cases a with
  | tru b=>simp only [exec,AU,e];cases b <;> rfl
  | _=>simp [fit] at hf
noncomputable def GL:MS->Bool
 | .num _ | .tru _ | .emp | .nm _ | .fn _ | .rc _ | .op _ | .pr | .lk=>true
 | _=>false
theorem Y8 {st:MS}{s:Ma}(hb:GL st=true)(hl:AU st<=s.pile.length)(hf:fit st (Dl st s)=true)(hn:∀ n,st=.nm n->n < s.held.length):
  ∃ v,VB st (Dl st s) (s.at'+1) s.held=some v/\exec st s=.go { s with at':=s.at'+1+(if leap st (Dl st s) then ln st else 0),pile:=v::s.pile.drop (AU st) }:=by
 cases st with
 | num i=>exact ⟨_,rfl,rfl⟩
 | tru i=>exact ⟨_,rfl,rfl⟩
 | emp=>exact ⟨_,rfl,rfl⟩
 | nm n =>
  have h:=hn n rfl
  have e:s.held[s.held.length - 1 - n]?=some (s.held[s.held.length - 1 - n]'()):=by rw [List.getElem?_eq_getElem]
  refine ⟨s.held[s.held.length - 1 - n]'(),?_,?_⟩
  ·simp only [VB];rw [if_pos h];exact e
  ·simp only [exec];rw [if_pos h,e];rfl
 | fn n=>exact ⟨_,rfl,rfl⟩
 | rc n=>exact ⟨_,rfl,rfl⟩
 | op o =>
  obtain ⟨b,a,r,e⟩:=Jy hl
  have et:Dl (.op o) s=[a,b]:=by simp only [Dl,AU,e];rfl
  rw [et] at hf ⊢
  cases a with
  | num i=>cases b with
   | num j=>exact ⟨_,rfl,by simp only [exec,AU,e];rfl⟩
   | _=>simp [fit] at hf
  | _=>simp [fit] at hf
 | pr =>
  obtain ⟨b,a,r,e⟩:=Jy hl
  have et:Dl .pr s=[a,b]:=by simp only [Dl,AU,e];rfl
  rw [et]
  exact ⟨_,rfl,by simp only [exec,AU,e];rfl⟩
 | lk =>
  obtain ⟨b,a,r,e⟩:=Jy hl
  have et:Dl .lk s=[a,b]:=by simp only [Dl,AU,e];rfl
  rw [et]
  exact ⟨_,rfl,by simp only [exec,AU,e];rfl⟩
 | _=>cases hb
end KX
namespace KX
open PySem
noncomputable def G7:MV->Str
 | .num _=>"number" | .tru _=>"truth" | .emp=>"empty" | .fn r _ _=>fw r | .two l _ _=>tw l
end KX
namespace L2
open PySem KX
theorem jj {t:TA}{σ:St}{H:Hp}{R:It->Hp->Prop}(q:t σ H λvs H1=>IU R vs H1):ME t σ H R:=q
end L2
local macro_rules | `(tactic| fail)=>`(tactic| with_reducible refine L2.jj ?_)
namespace K
open PySem L2 KM KS KX
section
variable {Pr:Program}{w:World}{K:W.Frag}{mg:Str->Option Value}{base:Heap}
theorem CK.look {H:Hp}:∀ {v:MV} {r:V},CK H v r->D1 λp us=>r=.ref p/\H p=some (.tup (.str (G7 v)::us))/\us.length<=2
 | .num _,_,⟨p,h1,h2⟩=>⟨p,_,h1,h2,by simp⟩
 | .tru _,_,⟨p,h1,h2⟩=>⟨p,_,h1,h2,by simp⟩
 | .emp,_,⟨p,h1,h2⟩=>⟨p,_,h1,h2,by simp⟩
 | .fn _ _ _,_,⟨p,k,us,h1,h2,_⟩=>⟨p,_,h1,h2,by simp⟩
 | .two _ _ _,_,⟨p,ra,rb,h1,h2,_⟩=>⟨p,_,h1,h2,by simp⟩
inductive R4 (n:Nat)(vs:(List V))(H:Hp)(Q:VK)(z3:XK):Prop
 | mk (v:MV) (r:V) (h1:vs=[r]) (h2:CK H v r) (h3:dps v<=n) (h4:∀ r' H',An H H'->Dy H' v r'->Q r' H'):R4 n vs H Q z3
noncomputable def jk:Nat->Sp
 | 0=>Gv
 | n+1=>R4 n
theorem CU (a b:Str):([V.str a,V.str b]:List V).all DQ=true:=rfl
theorem jl:AE ["_law_value"] ["_law_value"] (Ae BK):=nofun
theorem R5 {n:Nat}{f:Addr}{fd:FuncData}(F:D4 K "_law_show" "_law_show" BK f fd)(cS:Cl Pr w K mg base n "_law_show" ["_law_value"] (jk n)):AY Pr w K mg base C5 (n+1) f fd ["_law_value"] (R4 n):=by
 refine F.okS jl (λvs H Q E h=>?_) (λBV A outer s H vs Q E hr h=>?_)
 ·obtain ⟨v,r,rfl,_⟩:=h;rfl
 ·obtain ⟨v,r,rfl,hv,hd,q⟩:=h
  refine ⟨_,(Ah (B7 (Aw (r:=FT K false) B0 (Ao (r:=AA K) Aj (Ai 0) Ab AO) (Aq (Aa Af (Aa Af Ac))) rfl) (Al (Ar (Aq (Aa Af Ac)))) AN)
   (Ah (B7 (Aw (r:=FT K false) B0 (Ao (r:=AA K) Aj (Ai 0) Ab AO) (Aq (Aa Af (Aa Af Ac))) rfl) (Al (Ar (Aq (Aa (Ao (r:=AA K) Aj (Ai 0) Ab AO) (Aa (B1 cS hr rfl (Aa (Ao (r:=AA K) Aj (Ai 0) Ab AO) Ac)) (Aa (B1 cS hr rfl (Aa (Ao (r:=AA K) Aj (Ai 0) Ab AO) Ac)) Ac)))))) AN)
   (Al (Ar (Ai 0))))),?_⟩
  obtain ⟨p,us,rfl,hp,_⟩:=CK.look hv
  left
  refine Ad (Av.of hp) (v:=.str (G7 v)) (Ak (j:=0) rfl) ?_
  left
  intros t1 H1 s1 e1
  refine Bi (.inr (Av.of e1)) rfl (CU _ _) ?_
  left
  cases v with
  | fn c a h =>
   refine AW (show Cr (.str (fw c)) [.str "fun",.str "rec"]=true by cases c <;> decide) ?_
   left
   intros t2 H2 s2 e2
   exact q _ H2 (s1.trans s2) ⟨t2,rfl,e2⟩
  | two l a b =>
   obtain ⟨_,ra,rb,e0,hp,ha,hb⟩:=hv
   cases e0
   refine AF (show ¬ Cr (.str (tw l)) [.str "fun",.str "rec"]=true by cases l <;> decide) ?_
   left
   refine Ad (Av.of (s1 _ _ hp)) (v:=.str (tw l)) rfl ?_
   left
   intros t2 H2 s2 e2
   refine Bi (.inr (Av.of e2)) rfl (CU _ _) ?_
   left
   refine AW (by cases l <;> decide) ?_
   left
   have BN:=s1.trans s2
   refine Ad (Av.of (BN _ _ hp)) (v:=.str (tw l)) rfl ?_
   left
   refine Ad (Av.of (BN _ _ hp)) (v:=ra) rfl ?_
   left
   cases n with
   | zero=>simp only [dps] at hd;omega
   | succ n =>
    simp only [dps] at hd
    refine ⟨a,ra,rfl,ha.mono BN,(),λr1 H3 s3 a3=>?_⟩
    left
    refine Ad (Av.of (s3 _ _ (BN _ _ hp))) (v:=rb) rfl ?_
    left
    refine ⟨b,rb,rfl,(hb.mono BN).mono s3,(),λr2 H4 s4 a4=>?_⟩
    left
    intros t5 H5 s5 e5
    exact q _ H5 (BN.trans (s3.trans (s4.trans s5))) ⟨t5,r1,r2,rfl,e5,a3.mono (Au.of_same (s4.trans s5)),a4.mono (Au.of_same s5)⟩
  | num i =>
   obtain ⟨_,e0,hp⟩:=hv
   cases e0
   refine AF (show ¬ Cr (.str "number") [.str "fun",.str "rec"]=true by decide) ?_
   left
   refine Ad (Av.of (s1 _ _ hp)) (v:=.str "number") rfl ?_
   left
   intros t2 H2 s2 e2
   refine Bi (.inr (Av.of e2)) rfl (CU _ _) ?_
   left
   refine AF ⟨⟩ ?_
   left
   exact q _ H2 (s1.trans s2) ⟨p,rfl,s2 _ _ (s1 _ _ hp)⟩
  | tru b =>
   obtain ⟨_,e0,hp⟩:=hv
   cases e0
   refine AF (show ¬ Cr (.str "truth") [.str "fun",.str "rec"]=true by decide) ?_
   left
   refine Ad (Av.of (s1 _ _ hp)) (v:=.str "truth") rfl ?_
   left
   intros t2 H2 s2 e2
   refine Bi (.inr (Av.of e2)) rfl (CU _ _) ?_
   left
   refine AF ⟨⟩ ?_
   left
   exact q _ H2 (s1.trans s2) ⟨p,rfl,s2 _ _ (s1 _ _ hp)⟩
  | emp =>
   obtain ⟨_,e0,hp⟩:=hv
   cases e0
   refine AF (show ¬ Cr (.str "empty") [.str "fun",.str "rec"]=true by decide) ?_
   left
   refine Ad (Av.of (s1 _ _ hp)) (v:=.str "empty") rfl ?_
   left
   intros t2 H2 s2 e2
   refine Bi (.inr (Av.of e2)) rfl (CU _ _) ?_
   left
   refine AF ⟨⟩ ?_
   left
   exact q _ H2 (s1.trans s2) ⟨p,rfl,s2 _ _ (s1 _ _ hp)⟩
theorem VC {f:Addr}{fd:FuncData}(D:Df K mg "_law_show" BK ["_law_value"] f fd):∀ n,Cl Pr w K mg base (n+1) "_law_show" ["_law_value"] (R4 n)
 | 0=>D.cl (R5 (n:=0) D.F (D.cl Ez))
 | n+1=>D.cl (R5 (n:=n+1) D.F (VC D n))
noncomputable def ou:V->Bool
 | .str _ | .int _ | .bl _=>true
 | _=>false
noncomputable def AL (H:Hp):Nat->V->V->Prop
 | 0,x,y=>ou x=true/\x=y
 | n+1,x,y=>(ou x=true/\x=y)\/Lb λp q us vs=>x=.ref p/\y=.ref q/\H p=some (.tup us)/\H q=some (.tup vs)/\us.length<=3/\Paired (AL H n) us vs
theorem AL.up {H:Hp}:∀ {n:Nat} {x y:V},AL H n x y->AL H (n+1) x y
 | 0,_,_,h=>.inl h
 | n+1,_,_,.inl h=>.inl h
 | n+1,_,_,.inr ⟨p,q,us,vs,h1,h2,h3,h4,h5,h6⟩=>.inr ⟨p,q,us,vs,h1,h2,h3,h4,h5,Paired.mapP h6 λ_ _ z=>z.up⟩
theorem AL.le {H:Hp}{n m:Nat}{x y:V}(h:AL H n x y)(hm:n<=m):AL H m x y:=by
 induction hm with
 | refl=>exact h
 | step _ ih=>exact ih.up
theorem AL.sc {H:Hp}{n:Nat}{x:V}(h:ou x=true):AL H n x x:=by
 cases n with
 | zero=>exact ⟨h,rfl⟩
 | succ n=>exact .inl ⟨h,rfl⟩
theorem AL.mono {H H':Hp}(s:Au H H'):∀ {n:Nat} {x y:V},AL H n x y->AL H' n x y
 | 0,_,_,h=>h
 | n+1,_,_,.inl h=>.inl h
 | n+1,_,_,.inr ⟨p,q,us,vs,h1,h2,h3,h4,h5,h6⟩=>.inr ⟨p,q,us,vs,h1,h2,s _ _ h3,s _ _ h4,h5,Paired.mapP h6 λ_ _ z=>z.mono s⟩
theorem AL.of {H:Hp}:∀ {v:MV} {x y:V},Dy H v x->Dy H v y->AL H (dps v+1) x y
 | .num i,_,_,⟨p,e1,h1⟩,⟨q,e2,h2⟩=>.inr ⟨p,q,_,_,e1,e2,h1,h2,by simp,.cons (.sc rfl) (.cons (.sc rfl) .nil)⟩
 | .tru i,_,_,⟨p,e1,h1⟩,⟨q,e2,h2⟩=>.inr ⟨p,q,_,_,e1,e2,h1,h2,by simp,.cons (.sc rfl) (.cons (.sc rfl) .nil)⟩
 | .emp,_,_,⟨p,e1,h1⟩,⟨q,e2,h2⟩=>.inr ⟨p,q,_,_,e1,e2,h1,h2,by simp,.cons (.sc rfl) .nil⟩
 | .fn _ _ _,_,_,⟨p,e1,h1⟩,⟨q,e2,h2⟩=>.inr ⟨p,q,_,_,e1,e2,h1,h2,by simp,.cons (.sc rfl) .nil⟩
 | .two l a b,_,_,⟨p,ra,rb,e1,h1,ha,hb⟩,⟨q,sa,sb,e2,h2,ha',ox⟩=>by
  refine .inr ⟨p,q,_,_,e1,e2,h1,h2,by simp,.cons (.sc rfl) (.cons ((AL.of ha ha').le ?_) (.cons ((AL.of hb ox).le ?_) .nil))⟩ <;> (simp only [dps];omega)
inductive R6 (n:Nat)(vs:(List V))(H:Hp)(Q:VK)(z3:XK):Prop
 | mk (x y:V) (h1:vs=[x,y]) (h2:AL H n x y) (h3:∀ H',An H H'->Q (.bl true) H'):R6 n vs H Q z3
noncomputable def VD:Nat->Sp
 | 0=>Gv
 | n+1=>R6 n
theorem jm:AE ["_law_one","_law_other","_law_same"] ["_law_one","_law_other"] (Ae Bq):=nofun
theorem R7 {n:Nat}{f:Addr}{fd:FuncData}(F:D4 K "_law_alike" "_law_alike" Bq f fd)(Ap:mg "isinstance"=none)(AV:mg "tuple"=none)(DL:mg "bool"=none)(Hy:mg "all"=none)(B6:mg "len"=none)(KI:mg "min"=none)(Cd:mg "range"=none)
  (cA:Cl Pr w K mg base n "_law_alike" ["_law_one","_law_other"] (VD n)):AY Pr w K mg base C5 (n+1) f fd ["_law_one","_law_other"] (R6 n):=by
 refine F.okS jm (λvs H Q E h=>?_) (λBV A outer s H vs Q E hr h=>?_)
 ·obtain ⟨x,y,rfl,_⟩:=h;rfl
 ·obtain ⟨x,y,rfl,ha,q⟩:=h
  have S:Bx (DP C5 Pr w K mg base ["_law_one","_law_other","_law_same"] "_law_alike" (Ae Bq) f BV A outer s H E).nox (Cw (valueOf (XQ (inDef Bq 0)))) [("_law_other",s.heap.objs.size+2),("_law_one",s.heap.objs.size+1)] ["_law_k"] ["_law_other","_law_one"] [1,0] :=
   ⟨rfl,by decide +kernel,rfl,by decide +kernel,rfl,rfl,rfl,rfl⟩
  have Hw:(["_law_k","_law_other","_law_one"]:List Str).Nodup:=by decide +kernel
  refine ⟨_,(Ah (B7 (Gk (w_and (DC (AH BO (by rfl) Ap PyProof.Rows.boot_isinstance (Aa (Ai 0) (Aa (CV (v:=.ty "tuple") rfl AV PyProof.Rows.boot_tuple rfl) Ac)))) (CN (DC (AH BO (by rfl) Ap PyProof.Rows.boot_isinstance (Aa (Ai 1) (Aa (CV (v:=.ty "tuple") rfl AV PyProof.Rows.boot_tuple rfl) Ac))))))) (Ah (F' (i:=2) jm.nd rfl (.inl rfl) (tt:=HM) (te:=Ed (VD n) [] E0 (BB (Fl (AA K) (Bv 2) (Bv 0)) (BB (Fl (AA K) (Bv 1) (Bv 0)) Em))) S rfl (Hg rfl Cd (Aa (AH (NX rfl) rfl KI PyProof.Rows.boot_min (Aa (AH Ax rfl B6 PySem.boot_len (Aa (Ai 0) Ac)) (Aa (AH Ax rfl B6 PySem.boot_len (Aa (Ai 1) Ac)) Ac))) Ac)) (λC s0 H0 ex=>BF (i:=0) Hw rfl (.inl rfl)) (λ_ _ _ _=>EZ) (λC s0 H0 ex=>B1 cA hr rfl (Aa (Ao Aj (Ai 2) (Ai 0) AO) (Aa (Ao Aj (Ai 1) (Ai 0) AO) Ac))))
   (Al (Ar (Gm (Cc AK (AH Ax (by rfl) B6 PySem.boot_len (Aa (Ai 0) Ac)) (AH Ax (by rfl) B6 PySem.boot_len (Aa (Ai 1) Ac)) (Am _)) (EY (AH (FY rfl) (by rfl) Hy PyProof.Rows.boot_all (Aa (Ai 2) Ac))))))) AN)
   (Al (Ar (Gm (Cc AK (AH BO (by rfl) Ap PyProof.Rows.boot_isinstance (Aa (Ai 0) (Aa (CV (v:=.ty "bool") rfl DL PyProof.Rows.boot_bool rfl) Ac))) (AH BO (by rfl) Ap PyProof.Rows.boot_isinstance (Aa (Ai 1) (Aa (CV (v:=.ty "bool") rfl DL PyProof.Rows.boot_bool rfl) Ac))) (Am _)) (EY (Cc AK (Ai 0) (Ai 1) (Am _))))))),?_⟩
  have cs:(ou x=true/\x=y)\/RF λm p r us vs=>n=m+1/\x=.ref p/\y=.ref r/\H p=some (.tup us)/\H r=some (.tup vs)/\us.length<=3/\Paired (AL H m) us vs:=by
   cases n with
   | zero=>exact .inl ha
   | succ m =>
    rcases ha with h | ⟨p,r,us,vs,h⟩
    ·exact .inl h
    ·exact .inr ⟨m,p,r,us,vs,rfl,h⟩
  rcases cs with ⟨hf,rfl⟩ | ⟨m,p,r,us,vs,rfl,rfl,rfl,h3,h4,h5,h6⟩
  ·have ty:D1 λt b=>C6 K H x t/\W.kitOne K t (.type "tuple")=some false/\W.kitOne K t (.type "bool")=some b/\Pt x x=true:=by
    cases x with
    | str z=>exact ⟨_,false,C6.str z,rfl,rfl,rfl⟩
    | int z=>exact ⟨_,false,C6.int z,rfl,rfl,rfl⟩
    | bl z=>exact ⟨_,true,C6.bl z,rfl,rfl,rfl⟩
    | _=>cases hf
   obtain ⟨t,b,t1,t2,t3,t4⟩:=ty
   left
   refine ⟨x,t,_,false,rfl,t1,t2,?_⟩
   left
   refine Cm (Cm ?_)
   left
   refine ⟨x,t,_,b,rfl,t1,t3,?_⟩
   left
   refine ⟨x,t,_,b,rfl,t1,t3,?_⟩
   left
   refine AW (decide_eq_true rfl) ?_
   left
   refine Hi t4 ?_
   rw [decide_eq_true rfl]
   exact q H (An.refl _)
  ·have l6:=Paired.len h6
   left
   refine ⟨.ref p,_,_,true,rfl,C6.tup h3,rfl,?_⟩
   left
   refine CT ?_
   left
   refine ⟨.ref r,_,_,true,rfl,C6.tup h4,rfl,?_⟩
   left
   refine CT ?_
   left
   refine ⟨p,us,rfl,.inr (Av.of h3),?_⟩
   left
   refine ⟨r,vs,rfl,.inr (Av.of h4),?_⟩
   left
   refine ⟨_,_,rfl,?_⟩
   left
   have ej:(if (vs.length:Int) < (us.length:Int) then (vs.length:Int) else (us.length:Int))=(us.length:Int):=by split <;> omega
   rw [ej]
   refine ⟨_,rfl,(),(),?_⟩
   rw [Int.toNat_natCast]
   refine Ka (n:=us.length) (λi ys H'=>An H H'/\ys=(List.replicate i true).map V.bl) ⟨An.refl _,rfl⟩ (by exact D5 ()) (λi ys H' z=>by rw [z.2];simp) rfl (λi ys H1 hi z=>?_) (λys H1 z=>?_)
   ·obtain ⟨s1,rfl⟩:=z
    have hx:us[i]?=some us[i]:=by simp [hi]
    obtain ⟨y,hy,ay⟩:=Paired.at1 h6 hx
    left
    refine CT ?_
    left
    rw [show (0:Int)+(i:Int)=(i:Int) by omega]
    refine Ad (Av.of (s1 _ _ h3)) (Ak hx) ?_
    left
    refine Ad (Av.of (s1 _ _ h4)) (Ak hy) ?_
    left
    refine ⟨_,_,rfl,ay.mono (Au.of_same s1),λH2 s2=>?_⟩
    refine Nx.mk hi ⟨s1.trans s2,?_⟩
    rw [List.replicate_succ']
    simp
   ·obtain ⟨s1,rfl⟩:=z
    intros l H2 s2 e2
    left
    have BN:=s1.trans s2
    refine ⟨p,us,rfl,.inr (Av.of (BN _ _ h3)),?_⟩
    left
    refine ⟨r,vs,rfl,.inr (Av.of (BN _ _ h4)),?_⟩
    left
    refine AW (decide_eq_true (by rw [l6])) ?_
    left
    refine ⟨l,_,rfl,e2,?_⟩
    have rV:(List.replicate us.length true).all id=true:=by simp
    rw [rV]
    exact q H2 BN
theorem VE {f:Addr}{fd:FuncData}(D:Df K mg "_law_alike" Bq ["_law_one","_law_other"] f fd)(Ap:mg "isinstance"=none)(AV:mg "tuple"=none)(DL:mg "bool"=none)(Hy:mg "all"=none)(B6:mg "len"=none)(KI:mg "min"=none)(Cd:mg "range"=none):
  ∀ n,Cl Pr w K mg base (n+1) "_law_alike" ["_law_one","_law_other"] (R6 n)
 | 0=>D.cl (R7 (n:=0) D.F Ap AV DL Hy B6 KI Cd (D.cl Ez))
 | n+1=>D.cl (R7 (n:=n+1) D.F Ap AV DL Hy B6 KI Cd (VE D Ap AV DL Hy B6 KI Cd n))
inductive Nt (vs:(List V))(H:Hp)(Q:VK)(z3:XK):Prop
 | mk (st:MS) (lt:Addr) (us:List V) (tk:List MV) (h1:vs=[.str st.wd,.ref lt]) (h2:H lt=some (.lst us)) (h3:Paired (CK H) tk us) (h4:tk.length=AU st) (h5:∀ H',An H H'->Q (.bl (fit st tk)) H'):Nt vs H Q z3
noncomputable def FH (tk:List MV):PyData:=.list (tk.map λv=>.str (G7 v))
theorem FI {H:Hp}{l:Addr}{tk:List MV}(h:H l=some (.lst (tk.map λv=>V.str (G7 v)))):K6 H (FH tk) (.ref l):=by
 refine .lst h ?_
 clear h
 induction tk with
 | nil=>exact .nil
 | cons v r ih=>exact .cons (.str _) ih
theorem KJ:∀ xs:List Str,xs.all PyData.strOk=true->PyData.canLayAll0 (xs.map PyData.str)=true
 | [],_=>by simp [PyData.canLayAll0]
 | x::xs,h=>by
  rw [List.all_cons,Bool.and_eq_true] at h
  simp [PyData.canLayAll0,PyData.canLay0,KJ xs h.2,h.1]
theorem Hz:∀ xs:List Str,PyData.depthAll (xs.map PyData.str)=0
 | []=>by simp [PyData.depthAll]
 | x::xs=>by simp [PyData.depthAll,PyData.depth,Hz xs]
theorem DH {xs:List Str}(h:xs.all PyData.strOk=true):SeqAt.shaped (.list (xs.map PyData.str))=true:=by
 unfold SeqAt.shaped
 simp [PyData.canLay0,PyData.depth,KJ xs h,Hz]
theorem Y9 (v:MV):PyData.strOk (G7 v)=true:=by
 cases v with
 | num _=>exact (show PyData.strOk (Str.ofString "number")=true by decide +kernel)
 | tru _=>exact (show PyData.strOk (Str.ofString "truth")=true by decide +kernel)
 | emp=>exact (show PyData.strOk (Str.ofString "empty")=true by decide +kernel)
 | fn r _ _=>cases r;exact (show PyData.strOk (Str.ofString "fun")=true by decide +kernel);exact (show PyData.strOk (Str.ofString "rec")=true by decide +kernel)
 | two r _ _=>cases r;exact (show PyData.strOk (Str.ofString "pair")=true by decide +kernel);exact (show PyData.strOk (Str.ofString "link")=true by decide +kernel)
theorem GN (tk:List MV):SeqAt.shaped (FH tk)=true:=by
 have e:FH tk=.list ((tk.map G7).map PyData.str):=by unfold FH;rw [List.map_map];rfl
 rw [e]
 refine DH ?_
 rw [List.all_eq_true]
 intro x hx
 obtain ⟨v,_,rfl⟩:=List.mem_map.mp hx
 exact Y9 v
noncomputable def VF:MV->Bool
 | .fn _ _ _=>true
 | _=>false
noncomputable def VG:MV->Bool
 | .emp=>true
 | .two true _ _=>true
 | _=>false
theorem Nu (v:MV):(G7 v==Str.ofString "number")=(match v with | .num _=>true | _=>false):=by
 cases v with
 | num _=>rfl
 | tru _=>exact (show (Str.ofString "truth"==Str.ofString "number")=false by decide)
 | emp=>exact (show (Str.ofString "empty"==Str.ofString "number")=false by decide)
 | fn r _ _=>cases r;exact (show (Str.ofString "fun"==Str.ofString "number")=false by decide);exact (show (Str.ofString "rec"==Str.ofString "number")=false by decide)
 | two r _ _=>cases r;exact (show (Str.ofString "pair"==Str.ofString "number")=false by decide);exact (show (Str.ofString "link"==Str.ofString "number")=false by decide)
theorem TM (v:MV):(G7 v==Str.ofString "truth")=(match v with | .tru _=>true | _=>false):=by
 cases v with
 | num _=>exact (show (Str.ofString "number"==Str.ofString "truth")=false by decide)
 | tru _=>rfl
 | emp=>exact (show (Str.ofString "empty"==Str.ofString "truth")=false by decide)
 | fn r _ _=>cases r;exact (show (Str.ofString "fun"==Str.ofString "truth")=false by decide);exact (show (Str.ofString "rec"==Str.ofString "truth")=false by decide)
 | two r _ _=>cases r;exact (show (Str.ofString "pair"==Str.ofString "truth")=false by decide);exact (show (Str.ofString "link"==Str.ofString "truth")=false by decide)
theorem R8 (v:MV):(G7 v==Str.ofString "pair")=(match v with | .two false _ _=>true | _=>false):=by
 cases v with
 | num _=>exact (show (Str.ofString "number"==Str.ofString "pair")=false by decide)
 | tru _=>exact (show (Str.ofString "truth"==Str.ofString "pair")=false by decide)
 | emp=>exact (show (Str.ofString "empty"==Str.ofString "pair")=false by decide)
 | fn r _ _=>cases r;exact (show (Str.ofString "fun"==Str.ofString "pair")=false by decide);exact (show (Str.ofString "rec"==Str.ofString "pair")=false by decide)
 | two r _ _=>cases r;rfl;exact (show (Str.ofString "link"==Str.ofString "pair")=false by decide)
theorem Ya (v:MV):Cr (.str (G7 v)) [.str "fun",.str "rec"]=VF v:=by
 cases v with
 | num _=>exact (show Cr (.str "number") [.str "fun",.str "rec"]=false by decide)
 | tru _=>exact (show Cr (.str "truth") [.str "fun",.str "rec"]=false by decide)
 | emp=>exact (show Cr (.str "empty") [.str "fun",.str "rec"]=false by decide)
 | fn r _ _=>cases r;exact (show Cr (.str "fun") [.str "fun",.str "rec"]=true by decide);exact (show Cr (.str "rec") [.str "fun",.str "rec"]=true by decide)
 | two r _ _=>cases r;exact (show Cr (.str "pair") [.str "fun",.str "rec"]=false by decide);exact (show Cr (.str "link") [.str "fun",.str "rec"]=false by decide)
theorem Yb (v:MV):Cr (.str (G7 v)) [.str "empty",.str "link"]=VG v:=by
 cases v with
 | num _=>exact (show Cr (.str "number") [.str "empty",.str "link"]=false by decide)
 | tru _=>exact (show Cr (.str "truth") [.str "empty",.str "link"]=false by decide)
 | emp=>exact (show Cr (.str "empty") [.str "empty",.str "link"]=true by decide)
 | fn r _ _=>cases r;exact (show Cr (.str "fun") [.str "empty",.str "link"]=false by decide);exact (show Cr (.str "rec") [.str "empty",.str "link"]=false by decide)
 | two r _ _=>cases r;exact (show Cr (.str "pair") [.str "empty",.str "link"]=false by decide);exact (show Cr (.str "link") [.str "empty",.str "link"]=true by decide)
theorem KL:∀ tk:List MV,PyData.eqv (FH tk) (FH tk)=true
 | []=>rfl
 | v::r=>by
  show (PyData.eqv (.str (G7 v)) (.str (G7 v)) && PyData.eqvAll (r.map λv=>.str (G7 v)) (r.map λv=>.str (G7 v)))=true
  rw [Bool.and_eq_true]
  exact ⟨by show (G7 v==G7 v)=true;simp,KL r⟩
theorem jn:AE ["_law_word","_law_taken_here","_law_kinds"] ["_law_word","_law_taken_here"] (Ae C3):=nofun
theorem Yc {f:Addr}{fd:FuncData}(F:D4 K "_law_fits" "_law_fits" C3 f fd):AY Pr w K mg base C5 1 f fd ["_law_word","_law_taken_here"] Nt:=by
 refine F.okS jn (λvs H Q E h=>?_) (λBV A outer s H vs Q E hr h=>?_)
 ·obtain ⟨st,lt,us,tk,rfl,_⟩:=h;rfl
 ·obtain ⟨st,lt,us,tk,rfl,hl,hp,hn,q⟩:=h
  have hu:=Hb hr
  have FG:=hr.units
  have S:Bx (DP C5 Pr w K mg base ["_law_word","_law_taken_here","_law_kinds"] "_law_fits" (Ae C3) f BV A outer s H E).nox (Cw (valueOf (inDef C3 0))) [] ["_law_one"] [] [] :=
   ⟨rfl,by decide +kernel,rfl,by decide +kernel,rfl,rfl,rfl,rfl⟩
  have Hw:(["_law_one"]:List Str).Nodup:=by decide +kernel
  refine ⟨_,(Ah (F' (i:=2) jn.nd rfl (.inl rfl) (tt:=HM) (te:=Fl (AA K) (Bv 0) (tC (.int 0))) S rfl (E7 (Ai 1)) (λC s0 H0 ex=>BF (i:=0) Hw rfl (.inl rfl)) (λ_ _ _ _=>EZ) (λC s0 H0 ex=>Ao Aj (Ai 0) Ab AO))
   (Ah (B7 (Aw AK (Ai 0) Af (Am _)) (Al (Ar (Cc (FZ FG) (Ai 2) (AS (Aa Af (Aa Af Ac))) (Am _)))) AN)
   (Ah (B7 (Aw AK (Ai 0) Af (Am _)) (Al (Ar (Cc (r:=FT K false) B0 (Ao (r:=Bw K) AJ (Ai 2) Ab AO) (Aq (Aa Af (Aa Af Ac))) rfl))) AN)
   (Ah (B7 (Aw AK (Ai 0) Af (Am _)) (Al (Ar (Cc (r:=FT K false) B0 (Ao (r:=Bw K) AJ (Ai 2) Ab AO) (Aq (Aa Af (Aa Af Ac))) rfl))) AN)
   (Al (Ar (Cc (FZ FG) (Ai 2) (EK hu (He (BW Af (AS (Aa Af Ac)) (BW Af (AS (Aa Af Ac)) JZ)) rfl rfl (by simp) ⟨⟩) (Ai 0) (Ai 2) ⟨rfl,rfl,rfl,rfl⟩) (Am _)))))))),?_⟩
  have l1:=Paired.len hp
  have n2:AU st<=2:=by cases st <;> simp [AU]
  left
  refine ⟨lt,rfl,⟨_,B3.of hl⟩,?_⟩
  refine EM (K:=K) (a:=lt) (xs:=us) (λi ys H'=>H'=H/\ys=(tk.take i).map λv=>V.str (G7 v)) ⟨rfl,rfl⟩ (λi ys H' z=>B3.of (by rw [z.1];exact hl)) (by exact D5 ()) (λi ys H' z=>by rw [z.2,List.length_map,List.length_take];omega) rfl (λi x ys H1 hx z=>?_) (λys H1 z=>?_)
  ·obtain ⟨rfl,rfl⟩:=z
   obtain ⟨v,hv,av⟩:=Paired.at hp hx
   obtain ⟨p,VH,rfl,Yd,_⟩:=CK.look av
   left
   refine CT ?_
   left
   refine Ad (Av.of Yd) (v:=.str (G7 v)) (Ak (j:=0) rfl) ?_
   refine Nx.mk (List.getElem?_eq_some_iff.mp hx).1 ⟨rfl,?_⟩
   rw [List.take_succ,hv]
   simp
  ·obtain ⟨rfl,rfl⟩:=z
   rw [<- l1,List.take_length]
   intros kl H2 s2 e2
   left
   by_cases w1:st.wd="op"
   ·obtain ⟨o,rfl⟩:∃ o,st=.op o:=by cases st <;> first | exact ⟨_,rfl⟩ | (simp only [MS.wd] at w1;exact absurd w1 ⟨⟩)
    refine AW (decide_eq_true rfl) ?_
    left
    intros l3 H3 s3 e3
    refine ⟨FH tk,.list [.str "number",.str "number"],FI (s3 _ _ e2),.lst e3 (.cons (.str _) (.cons (.str _) .nil)),GN tk,DH (xs:=["number","number"]) (by decide +kernel),?_⟩
    ·have e:PyData.eqv (FH tk) (.list [.str "number",.str "number"])=fit (.op o) tk:=by
      rcases tk with _ | ⟨a,_ | ⟨b,_ | ⟨c,r⟩⟩⟩ <;> (try (simp [AU] at hn;done))
      show ((G7 a==Str.ofString "number") && ((G7 b==Str.ofString "number") && true))=_
      rw [Nu,Nu]
      cases a <;> cases b <;> rfl
     rw [e]
     exact q H3 (s2.trans s3)
   ·refine AF (by simpa using w1) ?_
    left
    by_cases w2:st.wd="call"
    ·obtain rfl:st=.call:=by cases st <;> first | rfl | (simp only [MS.wd] at w2;exact absurd w2 ⟨⟩)
     refine AW (decide_eq_true rfl) ?_
     left
     rcases tk with _ | ⟨a,r⟩
     ·simp [AU] at hn
     refine AX (B3.of e2) (v:=.str (G7 a)) (Ak (j:=0) rfl) ?_
     left
     intros t3 H3 s3 e3
     refine Bi (.inr (Av.of e3)) rfl (CU _ _) ?_
     show Q (.bl (Cr (.str (G7 a)) [.str "fun",.str "rec"])) H3
     rw [Ya]
     have e:VF a=fit .call (a::r):=by cases a <;> rfl
     rw [e]
     exact q H3 (s2.trans s3)
    ·refine AF (by simpa using w2) ?_
     left
     by_cases w3:st.wd="split"
     ·obtain ⟨n,rfl⟩:∃ n,st=.spl n:=by cases st <;> first | exact ⟨_,rfl⟩ | (simp only [MS.wd] at w3;exact absurd w3 ⟨⟩)
      refine AW (decide_eq_true rfl) ?_
      left
      rcases tk with _ | ⟨a,r⟩
      ·simp [AU] at hn
      refine AX (B3.of e2) (v:=.str (G7 a)) (Ak (j:=0) rfl) ?_
      left
      intros t3 H3 s3 e3
      refine Bi (.inr (Av.of e3)) rfl (CU _ _) ?_
      show Q (.bl (Cr (.str (G7 a)) [.str "empty",.str "link"])) H3
      rw [Yb]
      have e:VG a=fit (.spl n) (a::r):=by
       cases a with
       | two l _ _=>cases l <;> rfl
       | _=>rfl
      rw [e]
      exact q H3 (s2.trans s3)
     ·refine AF (by simpa using w3) ?_
      left
      refine Fy λp4 H4 Xw s4 e4=>?_
      left
      intros l5 H5 s5 e5
      left
      intros l6 H6 s6 e6
      left
      have RM:=s5.trans s6
      refine ⟨RM _ _ e4,[(.inr "when",.ref l5),(.inr "open",.ref l6)],rfl,Nat.le_of_ble_eq_true rfl,λH9 o9 e9=>?_⟩
      have s29:An H2 H9:=λb o hb=>by
       have Tj:b≠p4:=λz=>by rw [z,Xw] at hb;cases hb
       rw [o9 b Tj];exact RM _ _ (s4 _ _ hb)
      have ow:∀ b o,H6 b=some o->b≠p4->H9 b=some o:=λb o hb Ld=>by rw [o9 b Ld];exact hb
      have h5:H9 l5=some (.lst [.str "truth"]):=ow _ _ (s6 _ _ e5) (λz=>by have h1:=s6 _ _ e5;have h2:=RM _ _ e4;rw [z,h2] at h1;cases h1)
      have h6:H9 l6=some (.lst [.str "pair"]):=ow _ _ e6 (λz=>by have h1:=e6;have h2:=RM _ _ e4;rw [z,h2] at h1;cases h1)
      have oy:=s29 _ _ e2
      refine ⟨p4,rfl,.inl ⟨_,.inl e9⟩,?_⟩
      left
      refine ⟨_,Dx.k (k:=.inr st.wd) e9,?_⟩
      have VI:=s2.trans s29
      by_cases w4:st.wd="when"
      ·obtain ⟨n,rfl⟩:∃ n,st=.wh n:=by cases st <;> first | exact ⟨_,rfl⟩ | (simp only [MS.wd] at w4;exact absurd w4 ⟨⟩)
       refine ⟨FH tk,.list [.str "truth"],FI oy,show K6 H9 _ (.ref l5) from .lst h5 (.cons (.str _) .nil),GN tk,DH (xs:=["truth"]) (by decide +kernel),?_⟩
       ·have e:PyData.eqv (FH tk) (.list [.str "truth"])=fit (.wh n) tk:=by
         rcases tk with _ | ⟨a,_ | ⟨b,r⟩⟩ <;> (try (simp [AU] at hn;done))
         show ((G7 a==Str.ofString "truth") && true)=_
         rw [TM]
         cases a <;> rfl
        rw [e]
        exact q H9 VI
      ·by_cases w5:st.wd="open"
       ·obtain rfl:st=.opn:=by cases st <;> first | rfl | (simp only [MS.wd] at w5;exact absurd w5 ⟨⟩)
        refine ⟨FH tk,.list [.str "pair"],FI oy,show K6 H9 _ (.ref l6) from .lst h6 (.cons (.str _) .nil),GN tk,DH (xs:=["pair"]) (by decide +kernel),?_⟩
        ·have e:PyData.eqv (FH tk) (.list [.str "pair"])=fit .opn tk:=by
          rcases tk with _ | ⟨a,_ | ⟨b,r⟩⟩ <;> (try (simp [AU] at hn;done))
          show ((G7 a==Str.ofString "pair") && true)=_
          rw [R8]
          cases a with
          | two l _ _=>cases l <;> rfl
          | _=>rfl
         rw [e]
         exact q H9 VI
       ·have hv:C7 (Cf [] [(Sum.inr "when",V.ref l5),(Sum.inr "open",V.ref l6)]) (Sum.inr st.wd:Key)=none:=by
         show C7 [(Sum.inr (Str.ofString "when"),V.ref l5),(Sum.inr (Str.ofString "open"),V.ref l6)] (Sum.inr st.wd:Key)=none
         rw [Ce (by intro z;exact w4 (Sum.inr.inj z).symm),Ce (by intro z;exact w5 (Sum.inr.inj z).symm)]
         rfl
        rw [hv]
        have sh:=GN tk
        refine ⟨FH tk,FH tk,FI oy,FI oy,sh,sh,?_⟩
        have ef:fit st tk=true:=by
         cases st <;> first | rfl | exact absurd rfl w1 | exact absurd rfl w2 | exact absurd rfl w3 | exact absurd rfl w4 | exact absurd rfl w5
        rw [KL,<- ef]
        exact q H9 VI
inductive Nv (vs:(List V))(H:Hp)(Q:VK)(z3:XK):Prop
 | mk (o:Str) (i j:Int) (r1 r2:V) (h1:vs=[.str o,r1,r2]) (h2:Ex.isOp o) (h3:CK H (.num i) r1) (h4:CK H (.num j) r2) (h5:∀ r H',An H H'->CK H' (FC o i j) r->Q r H'):Nv vs H Q z3
theorem jo:AE ["_law_op","_law_one","_law_other"] ["_law_op","_law_one","_law_other"] (Ae BA):=nofun
theorem Ye {f:Addr}{fd:FuncData}(F:D4 K "_law_reckoned" "_law_reckoned" BA f fd)(CI:mg "int"=none):AY Pr w K mg base C5 1 f fd ["_law_op","_law_one","_law_other"] Nv:=by
 refine F.okS jo (λvs H Q E h=>?_) (λBV A outer s H vs Q E hr h=>?_)
 ·obtain ⟨o,i,j,r1,r2,rfl,_⟩:=h;rfl
 ·obtain ⟨o,i,j,r1,r2,rfl,io,⟨p1,rfl,h1⟩,⟨p2,rfl,h2⟩,q⟩:=h
  refine ⟨_,(Ah (B7 (Aw (r:=FT K false) B0 (Ai 0) (Aq (Aa Af (Aa Af Ac))) rfl) (Al (Ar (Aq (Aa Af (Aa (As AZ (Ao (r:=AA K) Aj (Ai 1) Ab AO) (As BE (Ao (r:=AA K) Aj (Ai 2) Ab AO) (Ao (r:=Bw K) AJ (AS (Aa Ab (Aa (LZ F5 Ab) Ac))) (Cg DO (by rfl) CI PyProof.Rows.boot_int (Aa (Cc AK (Ai 0) Af (Am _)) Ac)) AO))) Ac))))) AN)
   (Al (Ar (Aq (Aa Af (Aa (JY (Aw AK (Ai 0) Af (Am _)) (Cc Gf (Ao (r:=AA K) Aj (Ai 1) Ab AO) (Ao (r:=AA K) Aj (Ai 2) Ab AO) (Am _)) (Cc AK (Ao (r:=AA K) Aj (Ai 1) Ab AO) (Ao (r:=AA K) Aj (Ai 2) Ab AO) (Am _))) Ac)))))),?_⟩
  left
  intros t1 H1 s1 e1
  refine Bi (.inr (Av.of e1)) rfl (CU _ _) ?_
  left
  have g1:=s1 _ _ h1
  have g2:=s1 _ _ h2
  rcases io with rfl | rfl | rfl | rfl
  ·refine AW ⟨⟩ ?_
   left
   refine Ad (Av.of g1) (v:=.int i) rfl ?_
   left
   refine Ad (Av.of g2) (v:=.int j) rfl ?_
   left
   intros l2 H2 s2 e2
   left
   refine .inr ⟨_,rfl,?_⟩
   refine AX (B3.of e2) (v:=.int 1) rfl ?_
   refine N5 (.inr ⟨⟨⟩,⟨⟩⟩) ?_
   left
   intros t3 H3 s3 e3
   refine q _ H3 (s1.trans (s2.trans s3)) ⟨t3,rfl,?_⟩
   rw [e3,Int.mul_one]
  ·refine AW ⟨⟩ ?_
   left
   refine Ad (Av.of g1) (v:=.int i) rfl ?_
   left
   refine Ad (Av.of g2) (v:=.int j) rfl ?_
   left
   intros l2 H2 s2 e2
   left
   refine .inr ⟨_,rfl,?_⟩
   refine AX (B3.of e2) (v:=.int (-1)) rfl ?_
   refine N5 (.inr ⟨⟨⟩,⟨⟩⟩) ?_
   left
   intros t3 H3 s3 e3
   refine q _ H3 (s1.trans (s2.trans s3)) ⟨t3,rfl,?_⟩
   rw [e3,show i+j * -1=i - j by omega]
  ·refine AF ⟨⟩ ?_
   left
   refine AW (decide_eq_true rfl) ?_
   left
   refine Ad (Av.of g1) (v:=.int i) rfl ?_
   left
   refine Ad (Av.of g2) (v:=.int j) rfl ?_
   left
   intros t3 H3 s3 e3
   exact q _ H3 (s1.trans s3) ⟨t3,rfl,e3⟩
  ·refine AF ⟨⟩ ?_
   left
   refine AF ⟨⟩ ?_
   left
   refine Ad (Av.of g1) (v:=.int i) rfl ?_
   left
   refine Ad (Av.of g2) (v:=.int j) rfl ?_
   left
   intros t3 H3 s3 e3
   refine q _ H3 (s1.trans s3) ⟨t3,rfl,?_⟩
   rw [e3]
   congr 5
   simp
noncomputable def TN (st:MS):Prop:=st=.call\/st=.lt\/st=.opn\/(∃ n,st=.spl n)\/∃ n,st=.drop n
inductive Nw (vs:(List V))(H:Hp)(Q:VK)(z3:XK):Prop
 | mk (st:MS) (lv:V) (lt lh:Addr) (us hs:List V) (tk held:List MV) (h1:vs=[.str st.wd,lv,.ref lt,.ref lh]) (h2:TN st) (h3:(∀ n,st=.drop n->lv=.int n/\n<=held.length)) (h4:H lt=some (.lst us)) (h5:Paired (CK H) tk us) (h6:tk.length=AU st) (h7:fit st tk=true) (h8:H lh=some (.lst hs)) (h9:Paired (CK H) held hs) (rW:held.length<=900000) (h11:(∀ v∈tk,G5 v<=900000)) (h12:∀ p Ja H',An H H'->H p=none->H' p=some (.lst Ja)->Paired (CK H') (VA st tk held) Ja->Q (.ref p) H'):Nw vs H Q z3
theorem VJ:AE ["_law_word","_law_last","_law_taken_here","_law_held_here","_law_deed"] ["_law_word","_law_last","_law_taken_here","_law_held_here"] (Ae CH):=nofun
theorem Yf {f:Addr}{fd:FuncData}(F:D4 K "_law_held" "_law_held" CH f fd)(CO:mg "list"=none)(B6:mg "len"=none):AY Pr w K mg base C5 1 f fd ["_law_word","_law_last","_law_taken_here","_law_held_here"] Nw:=by
 refine F.okS VJ (λvs H Q E h=>?_) (λBV A outer s H vs Q E hr h=>?_)
 ·obtain ⟨st,lv,lt,lh,us,hs,tk,held,rfl,_⟩:=h;rfl
 ·obtain ⟨st,lv,lt,lh,us,hs,tk,held,rfl,hg,hd,hl,hp,hn,hf,hh,R9,b1,b2,q⟩:=h
  refine ⟨_,(Ah (B7 (Aw AK (Ai 0) Af (Am _)) (Al (Ar (Cn (r:=O3 K) GA (Ai 3) Dm (Cv (As Cu (AH Ax (by rfl) B6 PySem.boot_len (Aa (Ai 3) Ac)) (Ai 1)))))) AN)
   (Ah (B7 (Aw AK (Ai 0) Af (Am _)) (Al (Ar (As Bf (Ai 3) (Ai 2)))) AN)
   (Ah (B7 (Aw AK (Ai 0) Af (Am _)) (Ah (Ay (i:=4) VJ.nd rfl (.inl rfl) (Ao (r:=Bw K) AJ (Ai 2) Ab AO))
   (Al (Ar (As Bf (As Bf (Ao (r:=AA K) Aj (Ai 4) Ab AO) (JY (Aw AK (Ao (r:=AA K) Aj (Ai 4) Ab AO) Af (Am _)) (AS (Aa (Ai 4) Ac)) (AS Ac))) (AS (Aa (Ao (r:=Bw K) AJ (Ai 2) Ab AO) Ac)))))) AN)
   (Al (Ar (As Bf (Ai 3) (Cg E5 (by rfl) CO PyProof.Rows.boot_list (Aa (Cn (r:=F6 K) Dt (Ao (r:=Bw K) AJ (Ai 2) Ab AO) (Cv Ab) Dm) Ac)))))))),?_⟩
  have lu:=Paired.len hp
  have rX:=Paired.len R9
  have tail:∀ (D:Ends),D.rt=Q->(Lb λ(p:Addr) (w:Str) (rs:List V) (ms:List MV)=>us=[.ref p]/\H p=some (.tup (.str w::rs))/\rs.length<=2/\Paired (CK H) ms rs/\VA st tk held=held++ms) ->
    NO (Fl LI (Bv 3) (Sf (λxs H Q=>∃ p ys,xs=[.ref p]/\(B3 K H p ys\/Av K H p ys)/\∀ l,H l=none->Q (.ref l) (upd H l (.lst ys))) (BB (nt (F6 K) (Fl (Bw K) (Bv 2) (tC (.int 0))) (MM (tC (.int 1))) Gz) Em))) D [some (.str st.wd),some lv,some (.ref lt),some (.ref lh),none] H:=by
   rintro D hD ⟨p,w,rs,ms,rfl,DM,hrs,oz,hhl⟩
   left
   refine AX (B3.of hl) (v:=.ref p) rfl ?_
   left
   refine D9 (Av.of DM) (λz=>absurd (show min 1 (rs.length+1)=0 from z.1) ()) λp2 H2 JD s2 e2=>?_
   left
   refine ⟨p2,_,rfl,.inr (Av.of e2),λl3 jq=>?_⟩
   have ec:D7 (.str w::rs) (some 1) none=rs:=by
    rcases rs with _ | ⟨a,_ | ⟨b,_ | ⟨c,r⟩⟩⟩ <;> first | rfl | (exfalso;simp only [List.length_cons] at hrs;omega)
   rw [ec]
   have s3:An H2 (upd H2 l3 (.lst rs)):=An.new jq
   have e3:(upd H2 l3 (.lst rs)) l3=some (.lst rs):=AG
   generalize upd H2 l3 (.lst rs)=H3 at s3 e3 ⊢
   have D3:=s2.trans s3
   left
   refine Dp (D3 _ _ hh) e3 (BX ()) λp4 H4 Md s4 e4=>?_
   rw [hD]
   have Jp:=D3.trans s4
   refine q p4 _ H4 Jp (D3.free Md) e4 ?_
   rw [hhl]
   exact Paired.app (Paired.mapP R9 λ_ _ z=>z.mono Jp) (Paired.mapP oz λ_ _ z=>z.mono Jp)
  left
  rcases hg with rfl | rfl | rfl | ⟨n,rfl⟩ | ⟨n,rfl⟩
  ·refine AF (show ¬ decide (V.str "call"=V.str "drop")=true by decide) ?_
   left
   refine AF (show ¬ decide (V.str "call"=V.str "let")=true by decide) ?_
   left
   refine AW (decide_eq_true rfl) ?_
   left
   rcases tk with _ | ⟨a,_ | ⟨v,_ | ⟨c,r⟩⟩⟩ <;> (try (simp [AU] at hn;done))
   cases a with
   | fn b a k =>
    obtain ⟨x,y,rfl,⟨p,kl,ks,rfl,DM,hk,jr⟩,hv⟩:=Dh hp
    have jt:=DX.mp jr
    have lk:=Paired.len jt
    have G5:G5 (.fn b a k)<=900000:=b2 _ (.head _)
    have hlk:k.length<=900000:=Nat.le_trans (Nat.le_max_left _ _) G5
    refine AX (B3.of hl) (v:=.ref p) rfl ?_
    left
    refine Ad (Av.of DM) (v:=.ref kl) rfl ?_
    left
    refine Ad (Av.of DM) (v:=.str (fw b)) rfl ?_
    left
    have fin:∀ (H2:Hp) (pm:Addr) (more:List V) (ms:List MV),An H H2->H2 pm=some (.lst more)->Paired (CK H2) ms more->ms=(if b then [MV.fn b a k] else []) ->
      LI (.ref kl) (.ref pm) H2 λx H3=>Sd (BB (Fl (Bw K) (Bv 2) (tC (.int 1))) Em) [some (.str "call"),some lv,some (.ref lt),some (.ref lh),some (.ref p)] H3 λy H4=>LI x y H4 Q:=by
     intro H2 pm more ms s2 fT hm oz
     have lm:=Paired.len hm
     have lms:ms.length<=1:=by rw [oz];split <;> simp
     refine Dp (s2 _ _ hk) fT (BX ()) λp3 H3 Tp s3 e3=>?_
     left
     have D3:=s2.trans s3
     refine AX (B3.of (D3 _ _ hl)) (v:=y) rfl ?_
     left
     refine BG (BX (Nat.le_of_ble_eq_true rfl)) λp4 H4 Md s4 e4=>?_
     refine Dp (s4 _ _ e3) e4 (BX (by simp;omega)) λp5 H5 Lf s5 e5=>?_
     have Jp:=D3.trans s4
     have HW:=Jp.trans s5
     refine q p5 _ H5 HW (Jp.free Lf) e5 ?_
     show Paired (CK H5) (k++(if b then [MV.fn b a k] else [])++[v]) _
     rw [<- oz]
     exact Paired.app (Paired.app (Paired.mapP jt λ_ _ z=>z.mono HW) (Paired.mapP hm λ_ _ z=>z.mono (s3.trans (s4.trans s5)))) (.cons (hv.mono HW) .nil)
    cases b with
    | true =>
     refine AW ⟨⟩ ?_
     left
     refine BG (BX (Nat.le_of_ble_eq_true rfl)) λpm H2 fT s2 e2=>?_
     exact fin H2 pm _ [.fn true a k] s2 e2 (.cons (show CK H2 (.fn true a k) (.ref p) from ⟨p,kl,ks,rfl,s2 _ _ DM,s2 _ _ hk,FD.mono s2 jr⟩) .nil) rfl
    | false =>
     refine AF ⟨⟩ ?_
     left
     refine BG (BX ⟨⟩) λpm H2 fT s2 e2=>?_
     exact fin H2 pm _ _ s2 e2 .nil rfl
   | _=>simp [fit] at hf
  ·refine AF (show ¬ decide (V.str "let"=V.str "drop")=true by decide) ?_
   left
   refine AW (decide_eq_true rfl) ?_
   left
   have l1:tk.length=1:=hn
   refine Dp hh hl (BX ()) λp4 H4 Md s4 e4=>?_
   exact q p4 _ H4 s4 Md e4 (Paired.app (Paired.mapP R9 λ_ _ z=>z.mono s4) (Paired.mapP hp λ_ _ z=>z.mono s4))
  ·refine AF (show ¬ decide (V.str "open"=V.str "drop")=true by decide) ?_
   left
   refine AF (show ¬ decide (V.str "open"=V.str "let")=true by decide) ?_
   left
   refine AF (show ¬ decide (V.str "open"=V.str "call")=true by decide) ?_
   refine tail _ rfl ?_
   rcases tk with _ | ⟨a,_ | ⟨c,r⟩⟩ <;> (try (simp [AU] at hn;done))
   obtain ⟨x,rfl,hx⟩:=Dq hp
   cases a with
   | two l a b =>
    obtain ⟨p,ra,rb,rfl,DM,ha,hb⟩:=hx
    exact ⟨p,tw l,_,[a,b],rfl,DM,by simp,.cons ha (.cons hb .nil),rfl⟩
   | _=>simp [fit] at hf
  ·refine AF (show ¬ decide (V.str "split"=V.str "drop")=true by decide) ?_
   left
   refine AF (show ¬ decide (V.str "split"=V.str "let")=true by decide) ?_
   left
   refine AF (show ¬ decide (V.str "split"=V.str "call")=true by decide) ?_
   refine tail _ rfl ?_
   rcases tk with _ | ⟨a,_ | ⟨c,r⟩⟩ <;> (try (simp [AU] at hn;done))
   obtain ⟨x,rfl,hx⟩:=Dq hp
   cases a with
   | two l a b =>
    obtain ⟨p,ra,rb,rfl,DM,ha,hb⟩:=hx
    exact ⟨p,tw l,_,[a,b],rfl,DM,by simp,.cons ha (.cons hb .nil),rfl⟩
   | emp =>
    obtain ⟨p,rfl,DM⟩:=hx
    exact ⟨p,"empty",[],[],rfl,DM,by simp,.nil,by simp [VA]⟩
   | _=>simp [fit] at hf
  ·refine AW (decide_eq_true rfl) ?_
   obtain ⟨rfl,hle⟩:=hd n rfl
   left
   refine ⟨lh,hs,rfl,.inl (B3.of hh),?_⟩
   left
   refine Hn (B3.of hh) λp4 H4 Md s4 e4=>?_
   have ec:D7 hs none (some ((hs.length:Int) - n))=hs.take (hs.length - n):=by
    unfold D7
    rw [show (hs.length:Int) - n=((hs.length - n:Nat):Int) by omega,HT.sIx_none,HT.sIx_nat]
    simp
   rw [ec] at e4
   refine q p4 _ H4 s4 Md e4 ?_
   show Paired (CK H4) (held.take (held.length - n)) _
   rw [rX]
   exact Paired.take _ (Paired.mapP R9 λ_ _ z=>z.mono s4)
inductive Ny (vs:(List V))(H:Hp)(Q:VK)(z3:XK):Prop
 | mk (st:MS) (r:V) (lt lh:Addr) (us hs:List V) (tk held:List MV) (a:Nat) (v:MV) (h1:vs=[r,.ref lt,.int a,.ref lh]) (h2:QI H st r) (h3:st.ok) (h4:H lt=some (.lst us)) (h5:Paired (CK H) tk us) (h6:H lh=some (.lst hs)) (h7:Paired (CK H) held hs) (h8:VB st tk a held=some v) (h9:∀ r' H',An H H'->CK H' v r'->Q r' H'):Ny vs H Q z3
theorem rY:AE ["_law_one","_law_taken_here","_law_at","_law_held_here"] ["_law_one","_law_taken_here","_law_at","_law_held_here"] (Ae BS):=nofun
theorem Yg {f:Addr}{fd:FuncData}(F:D4 K "_law_brought" "_law_brought" BS f fd)(B6:mg "len"=none)(cR:Cl Pr w K mg base 1 "_law_reckoned" ["_law_op","_law_one","_law_other"] Nv):AY Pr w K mg base C5 2 f fd ["_law_one","_law_taken_here","_law_at","_law_held_here"] Ny:=by
 refine F.okS rY (λvs H Q E h=>?_) (λBV A outer s H vs Q E hr h=>?_)
 ·obtain ⟨st,r,lt,lh,us,hs,tk,held,a,v,rfl,_⟩:=h;rfl
 ·obtain ⟨st,r,lt,lh,us,hs,tk,held,a,v,rfl,⟨p,rfl,hp⟩,ok,hl,P0,hh,R9,hb,q⟩:=h
  refine ⟨_,(Ah (B7 (Aw AK (Ao (r:=AA K) Aj (Ai 0) Ab AO) Af (Am _)) (Al (Ar (Ao (r:=Bw K) AJ (Ai 3) (As Cu (As Cu (AH Ax (by rfl) B6 PySem.boot_len (Aa (Ai 3) Ac)) Ab) (Ao (r:=AA K) Aj (Ai 0) Ab AO)) AO))) AN)
   (Ah (B7 (Aw (r:=FT K false) B0 (Ao (r:=AA K) Aj (Ai 0) Ab AO) (Aq (Aa Af (Aa Af Ac))) rfl) (Al (Ar (Aq (Aa (Ao (r:=AA K) Aj (Ai 0) Ab AO) (Aa (Ai 2) (Aa (Ai 3) Ac)))))) AN)
   (Ah (B7 (Aw AK (Ao (r:=AA K) Aj (Ai 0) Ab AO) Af (Am _)) (Al (Ar (B1 cR hr rfl (Aa (Ao (r:=AA K) Aj (Ai 0) Ab AO) (Aa (Ao (r:=Bw K) AJ (Ai 1) Ab AO) (Aa (Ao (r:=Bw K) AJ (Ai 1) Ab AO) Ac)))))) AN)
   (Ah (B7 (Aw (r:=FT K false) B0 (Ao (r:=AA K) Aj (Ai 0) Ab AO) (Aq (Aa Af (Aa Af Ac))) rfl) (Al (Ar (Aq (Aa (Ao (r:=AA K) Aj (Ai 0) Ab AO) (Aa (Ao (r:=Bw K) AJ (Ai 1) Ab AO) (Aa (Ao (r:=Bw K) AJ (Ai 1) Ab AO) Ac)))))) AN)
   (Al (Ar (Ai 0))))))),?_⟩
  obtain ⟨cs,fR⟩:=st.cnt_wd
  have EC:=hp
  rw [fR] at EC
  have rX:=Paired.len R9
  left
  refine Ad (Av.of EC) (v:=.str st.wd) (Ak (j:=0) rfl) ?_
  left
  cases st with
  | nm n =>
   refine AW (decide_eq_true rfl) ?_
   left
   refine ⟨lh,hs,rfl,.inl (B3.of hh),?_⟩
   left
   refine Ad (Av.of hp) (v:=.int n) rfl ?_
   left
   simp only [VB] at hb
   split at hb
   ·rename_i DN
    obtain ⟨x,hx,ax⟩:=Paired.at1 R9 hb
    rw [show (hs.length:Int) - 1 - (n:Int)=((hs.length - 1 - n:Nat):Int) by omega]
    refine AX (B3.of hh) (v:=x) (Ak (by rw [<- rX];exact hx)) ?_
    exact q x H (An.refl _) ax
   ·cases hb
  | fn n =>
   refine AF (show ¬ decide (V.str "fun"=V.str "name")=true by decide) ?_
   left
   refine Ad (Av.of EC) (v:=.str "fun") (Ak (j:=0) rfl) ?_
   left
   intros t1 H1 s1 e1
   refine Bi (.inr (Av.of e1)) rfl (CU _ _) ?_
   left
   refine AW (show Cr (.str "fun") [.str "fun",.str "rec"]=true by decide) ?_
   left
   refine Ad (Av.of (s1 _ _ EC)) (v:=.str "fun") (Ak (j:=0) rfl) ?_
   left
   intros t2 H2 s2 e2
   have BN:=s1.trans s2
   cases hb
   exact q _ H2 BN ⟨t2,lh,hs,rfl,e2,BN _ _ hh,DX.mpr (Paired.mapP R9 λ_ _ z=>z.mono BN)⟩
  | rc n =>
   refine AF (show ¬ decide (V.str "rec"=V.str "name")=true by decide) ?_
   left
   refine Ad (Av.of EC) (v:=.str "rec") (Ak (j:=0) rfl) ?_
   left
   intros t1 H1 s1 e1
   refine Bi (.inr (Av.of e1)) rfl (CU _ _) ?_
   left
   refine AW (show Cr (.str "rec") [.str "fun",.str "rec"]=true by decide) ?_
   left
   refine Ad (Av.of (s1 _ _ EC)) (v:=.str "rec") (Ak (j:=0) rfl) ?_
   left
   intros t2 H2 s2 e2
   have BN:=s1.trans s2
   cases hb
   exact q _ H2 BN ⟨t2,lh,hs,rfl,e2,BN _ _ hh,DX.mpr (Paired.mapP R9 λ_ _ z=>z.mono BN)⟩
  | op o =>
   refine AF (show ¬ decide (V.str "op"=V.str "name")=true by decide) ?_
   left
   refine Ad (Av.of EC) (v:=.str "op") (Ak (j:=0) rfl) ?_
   left
   intros t1 H1 s1 e1
   refine Bi (.inr (Av.of e1)) rfl (CU _ _) ?_
   left
   refine AF (show ¬ Cr (.str "op") [.str "fun",.str "rec"]=true by decide) ?_
   left
   refine Ad (Av.of (s1 _ _ EC)) (v:=.str "op") (Ak (j:=0) rfl) ?_
   left
   refine AW (decide_eq_true rfl) ?_
   left
   simp only [VB] at hb
   split at hb
   ·rename_i i j
    cases hb
    obtain ⟨x,y,rfl,ax,ay⟩:=Dh P0
    refine Ad (Av.of (s1 _ _ hp)) (v:=.str o) rfl ?_
    left
    refine AX (B3.of (s1 _ _ hl)) (v:=x) rfl ?_
    left
    refine AX (B3.of (s1 _ _ hl)) (v:=y) rfl ?_
    left
    exact ⟨o,i,j,x,y,rfl,ok,ax.mono s1,ay.mono s1,λr' H' s' a'=>q r' H' (s1.trans s') a'⟩
   ·cases hb
  | pr =>
   refine AF (show ¬ decide (V.str "pair"=V.str "name")=true by decide) ?_
   left
   refine Ad (Av.of EC) (v:=.str "pair") (Ak (j:=0) rfl) ?_
   left
   intros t1 H1 s1 e1
   refine Bi (.inr (Av.of e1)) rfl (CU _ _) ?_
   left
   refine AF (show ¬ Cr (.str "pair") [.str "fun",.str "rec"]=true by decide) ?_
   left
   refine Ad (Av.of (s1 _ _ EC)) (v:=.str "pair") (Ak (j:=0) rfl) ?_
   left
   refine AF (show ¬ decide (V.str "pair"=V.str "op")=true by decide) ?_
   left
   refine Ad (Av.of (s1 _ _ EC)) (v:=.str "pair") (Ak (j:=0) rfl) ?_
   left
   intros t2 H2 s2 e2
   refine Bi (.inr (Av.of e2)) rfl (CU _ _) ?_
   left
   refine AW (show Cr (.str "pair") [.str "pair",.str "link"]=true by decide) ?_
   left
   have BN:=s1.trans s2
   refine Ad (Av.of (BN _ _ EC)) (v:=.str "pair") (Ak (j:=0) rfl) ?_
   left
   simp only [VB] at hb
   split at hb
   ·rename_i b c
    cases hb
    obtain ⟨x,y,rfl,ax,ay⟩:=Dh P0
    refine AX (B3.of (BN _ _ hl)) (v:=x) rfl ?_
    left
    refine AX (B3.of (BN _ _ hl)) (v:=y) rfl ?_
    left
    intros t3 H3 s3 e3
    have D3:=BN.trans s3
    exact q _ H3 D3 ⟨t3,x,y,rfl,e3,ax.mono D3,ay.mono D3⟩
   ·cases hb
  | lk =>
   refine AF (show ¬ decide (V.str "link"=V.str "name")=true by decide) ?_
   left
   refine Ad (Av.of EC) (v:=.str "link") (Ak (j:=0) rfl) ?_
   left
   intros t1 H1 s1 e1
   refine Bi (.inr (Av.of e1)) rfl (CU _ _) ?_
   left
   refine AF (show ¬ Cr (.str "link") [.str "fun",.str "rec"]=true by decide) ?_
   left
   refine Ad (Av.of (s1 _ _ EC)) (v:=.str "link") (Ak (j:=0) rfl) ?_
   left
   refine AF (show ¬ decide (V.str "link"=V.str "op")=true by decide) ?_
   left
   refine Ad (Av.of (s1 _ _ EC)) (v:=.str "link") (Ak (j:=0) rfl) ?_
   left
   intros t2 H2 s2 e2
   refine Bi (.inr (Av.of e2)) rfl (CU _ _) ?_
   left
   refine AW (show Cr (.str "link") [.str "pair",.str "link"]=true by decide) ?_
   left
   have BN:=s1.trans s2
   refine Ad (Av.of (BN _ _ EC)) (v:=.str "link") (Ak (j:=0) rfl) ?_
   left
   simp only [VB] at hb
   split at hb
   ·rename_i b c
    cases hb
    obtain ⟨x,y,rfl,ax,ay⟩:=Dh P0
    refine AX (B3.of (BN _ _ hl)) (v:=x) rfl ?_
    left
    refine AX (B3.of (BN _ _ hl)) (v:=y) rfl ?_
    left
    intros t3 H3 s3 e3
    have D3:=BN.trans s3
    exact q _ H3 D3 ⟨t3,x,y,rfl,e3,ax.mono D3,ay.mono D3⟩
   ·cases hb
  | num i =>
   refine AF (show ¬ decide (V.str "number"=V.str "name")=true by decide) ?_
   left
   refine Ad (Av.of EC) (v:=.str "number") (Ak (j:=0) rfl) ?_
   left
   intros t1 H1 s1 e1
   refine Bi (.inr (Av.of e1)) rfl (CU _ _) ?_
   left
   refine AF (show ¬ Cr (.str "number") [.str "fun",.str "rec"]=true by decide) ?_
   left
   refine Ad (Av.of (s1 _ _ EC)) (v:=.str "number") (Ak (j:=0) rfl) ?_
   left
   refine AF (show ¬ decide (V.str "number"=V.str "op")=true by decide) ?_
   left
   refine Ad (Av.of (s1 _ _ EC)) (v:=.str "number") (Ak (j:=0) rfl) ?_
   left
   intros t2 H2 s2 e2
   refine Bi (.inr (Av.of e2)) rfl (CU _ _) ?_
   left
   refine AF (show ¬ Cr (.str "number") [.str "pair",.str "link"]=true by decide) ?_
   left
   cases hb
   exact q _ H2 (s1.trans s2) ⟨p,rfl,s2 _ _ (s1 _ _ hp)⟩
  | tru i =>
   refine AF (show ¬ decide (V.str "truth"=V.str "name")=true by decide) ?_
   left
   refine Ad (Av.of EC) (v:=.str "truth") (Ak (j:=0) rfl) ?_
   left
   intros t1 H1 s1 e1
   refine Bi (.inr (Av.of e1)) rfl (CU _ _) ?_
   left
   refine AF (show ¬ Cr (.str "truth") [.str "fun",.str "rec"]=true by decide) ?_
   left
   refine Ad (Av.of (s1 _ _ EC)) (v:=.str "truth") (Ak (j:=0) rfl) ?_
   left
   refine AF (show ¬ decide (V.str "truth"=V.str "op")=true by decide) ?_
   left
   refine Ad (Av.of (s1 _ _ EC)) (v:=.str "truth") (Ak (j:=0) rfl) ?_
   left
   intros t2 H2 s2 e2
   refine Bi (.inr (Av.of e2)) rfl (CU _ _) ?_
   left
   refine AF (show ¬ Cr (.str "truth") [.str "pair",.str "link"]=true by decide) ?_
   left
   cases hb
   exact q _ H2 (s1.trans s2) ⟨p,rfl,s2 _ _ (s1 _ _ hp)⟩
  | emp =>
   refine AF (show ¬ decide (V.str "empty"=V.str "name")=true by decide) ?_
   left
   refine Ad (Av.of EC) (v:=.str "empty") (Ak (j:=0) rfl) ?_
   left
   intros t1 H1 s1 e1
   refine Bi (.inr (Av.of e1)) rfl (CU _ _) ?_
   left
   refine AF (show ¬ Cr (.str "empty") [.str "fun",.str "rec"]=true by decide) ?_
   left
   refine Ad (Av.of (s1 _ _ EC)) (v:=.str "empty") (Ak (j:=0) rfl) ?_
   left
   refine AF (show ¬ decide (V.str "empty"=V.str "op")=true by decide) ?_
   left
   refine Ad (Av.of (s1 _ _ EC)) (v:=.str "empty") (Ak (j:=0) rfl) ?_
   left
   intros t2 H2 s2 e2
   refine Bi (.inr (Av.of e2)) rfl (CU _ _) ?_
   left
   refine AF (show ¬ Cr (.str "empty") [.str "pair",.str "link"]=true by decide) ?_
   left
   cases hb
   exact q _ H2 (s1.trans s2) ⟨p,rfl,s2 _ _ (s1 _ _ hp)⟩
  | _=>simp [VB] at hb
end
end K
namespace L2
open PySem KX
section
variable {σ:St}{H:Hp}{Q:VK}{D:Ends}{ta tb:TE}
theorem rZ (q:ta σ H λx H1=>∃ c,x=.bl c/\if c=true then Q (.bl true) H1 else tb σ H1 Q):RU ta tb σ H Q:=q
theorem Oz {t0 t1 t2 t3 t4 t5 t6 t7 t8 t9 se TQ sf u:TS}(Jn:St->Hp->Prop)(fin:∀ σ' H',Jn σ' H'->u D σ' H')
  (q:∀ N:St->Hp->Prop,(∀ σ' H',Jn σ' H'->N σ' H')->Be t0 (Be t1 (Be t2 (Be t3 (Be t4 (Be t5 (Be t6 (Be t7 (Be t8 (Be t9 (Be se (Be TQ sf))))))))))) { D with nx:=N } σ H):Be t0 (Be t1 (Be t2 (Be t3 (Be t4 (Be t5 (Be t6 (Be t7 (Be t8 (Be t9 (Be se (Be TQ (Be sf u)))))))))))) D σ H:=q (u D) fin
theorem Ra {t0 t1 u:TS}(Jn:St->Hp->Prop)(fin:∀ σ' H',Jn σ' H'->u D σ' H')(q:∀ N:St->Hp->Prop,(∀ σ' H',Jn σ' H'->N σ' H')->Be t0 t1 { D with nx:=N } σ H):Be t0 (Be t1 u) D σ H:=q (u D) fin
end
end L2
local macro_rules | `(tactic| fail)=>`(tactic| with_reducible refine L2.rZ ?_)
namespace L2
open PySem KX
theorem Paired.drop {α β:Type}{F:α->β->Prop}:∀ (n:Nat) {a:List α} {b:List β},Paired F a b->Paired F (a.drop n) (b.drop n)
 | 0,_,_,h=>by simpa using h
 | n+1,_,_,.nil=>by simp;exact .nil
 | n+1,_,_,.cons r t=>by simpa using Paired.drop n t
end L2
namespace K
open PySem L2 KM KS KX
noncomputable def Pc (H:Hp)(f:Nat × List MV)(r:V):Prop:=Dw λq h hs=>r=.ref q/\H q=some (.tup [.int f.1,.ref h])/\H h=some (.lst hs)/\Paired (CK H) f.2 hs
theorem Pc.mono {H H':Hp}(t:An H H'){f:Nat × List MV}{r:V}(h:Pc H f r):Pc H' f r:=by
 obtain ⟨q,h',hs,h1,h2,h3,h4⟩:=h
 exact ⟨q,h',hs,h1,t _ _ h2,t _ _ h3,Paired.mapP h4 λ_ _ z=>z.mono t⟩
section
variable {H:Hp}{lf:Addr}{e:V}{es:List V}{o:HO}
theorem TR (EU:H lf=some (.lst (e::es)))(he:Dw λq x us=>e=.ref q/\H q=some (.tup (.int x::us))){k:Addr}{h:List MV}{us:List V}(hk:H k=some (.lst us))(O5:Paired (CK H) h us):k≠lf:=by
 intro z
 subst z
 rw [hk] at EU
 cases EU
 cases O5 with
 | cons a b =>
  obtain ⟨q,x,us,rfl,h1⟩:=he
  obtain ⟨p,VH,e',h2,_⟩:=CK.look a
  cases e'
  rw [h1] at h2
  cases h2
mutual
theorem CK.put (EU:H lf=some (.lst (e::es)))(he:Dw λq x us=>e=.ref q/\H q=some (.tup (.int x::us))):∀ {v:MV} {r:V},CK H v r->CK (upd H lf o) v r
 | .num _,_,⟨p,h1,h2⟩=>⟨p,h1,by rw [AQ (Ge h2 EU (by intro z;cases z))];exact h2⟩
 | .tru _,_,⟨p,h1,h2⟩=>⟨p,h1,by rw [AQ (Ge h2 EU (by intro z;cases z))];exact h2⟩
 | .emp,_,⟨p,h1,h2⟩=>⟨p,h1,by rw [AQ (Ge h2 EU (by intro z;cases z))];exact h2⟩
 | .fn _ _ _,_,⟨p,k,us,h1,h2,h3,h4⟩=>⟨p,k,us,h1,by rw [AQ (Ge h2 EU (by intro z;cases z))];exact h2,by rw [AQ (TR EU he h3 (DX.mp h4))];exact h3,FD.put EU he h4⟩
 | .two _ _ _,_,⟨p,ra,rb,h1,h2,h3,h4⟩=>⟨p,ra,rb,h1,by rw [AQ (Ge h2 EU (by intro z;cases z))];exact h2,CK.put EU he h3,CK.put EU he h4⟩
theorem FD.put (EU:H lf=some (.lst (e::es)))(he:Dw λq x us=>e=.ref q/\H q=some (.tup (.int x::us))):∀ {vs:List MV} {rs:List V},FD H vs rs->FD (upd H lf o) vs rs
 | [],[],_=>trivial
 | [],_::_,h=>h.elim
 | _::_,[],h=>h.elim
 | _::_,_::_,h=>⟨CK.put EU he h.1,FD.put EU he h.2⟩
end
end
structure Mi (H:Hp)(s:Ma)(lp lh lf:Addr):Prop where
 p:∃ vs,H lp=some (.lst vs)/\Paired (CK H) s.pile.reverse vs
 h:∃ hs,H lh=some (.lst hs)/\Paired (CK H) s.held hs
 f:∃ fs,H lf=some (.lst fs)/\Paired (Pc H) s.frs.reverse fs
theorem Mi.mono {H H':Hp}(t:An H H'){s:Ma}{lp lh lf:Addr}(L:Mi H s lp lh lf):Mi H' s lp lh lf:=by
 obtain ⟨⟨vs,h1,h2⟩,⟨hs,h3,h4⟩,⟨fs,h5,h6⟩⟩:=L
 exact ⟨⟨vs,t _ _ h1,Paired.mapP h2 λ_ _ z=>z.mono t⟩,⟨hs,t _ _ h3,Paired.mapP h4 λ_ _ z=>z.mono t⟩,⟨fs,t _ _ h5,Paired.mapP h6 λ_ _ z=>z.mono t⟩⟩
noncomputable def oA:List (Key × V):=[(.inr "pair",.int 2),(.inr "link",.int 2),(.inr "op",.int 2),(.inr "call",.int 2),(.inr "let",.int 1),(.inr "open",.int 1),(.inr "when",.int 1),(.inr "split",.int 1),(.inr "end",.int 1)]
theorem Rb (st:MS):(C7 (Cf [] oA) (Sum.inr st.wd:Key)).getD (.int 0)=.int (AU st):=by
 cases st <;> simp only [MS.wd] <;> first | rfl | decide +kernel
noncomputable def lastOf:MS->V
 | .num i=>.int i | .tru b=>.bl b | .emp=>.str "empty" | .nm n=>.int n | .fn n=>.int n | .rc n=>.int n | .pr=>.str "pair" | .lk=>.str "link" | .op o=>.str o | .call=>.str "call" | .back=>.str "back" | .lt=>.str "let" | .opn=>.str "open"
 | .drop n=>.int n | .jump n=>.int n | .wh n=>.int n | .spl n=>.int n | .fin=>.str "end"
theorem TU (st:MS):MN st.cnt (-1)=some (lastOf st):=by cases st <;> rfl
theorem G8 {st:MS}{tk:List MV}(h:leap st tk=true):lastOf st=.int (ln st):=by
 cases st <;> first | rfl | (simp [leap] at h)
section
variable {Pr:Program}{w:World}{K:W.Frag}{mg:Str->Option Value}{base:Heap}{code:List MS}
theorem fU {x y:Str}(h:x≠y):¬ decide (V.str x=V.str y)=true:=by simpa using h
abbrev Rc:List V:=[.str "call",.str "let",.str "open",.str "split",.str "drop"]
theorem KN {st:MS}(h:GL st=true):st.wd≠"end"/\st.wd≠"call"/\Cr (.str st.wd) Rc=false/\st.wd≠"back"/\Cr (.str st.wd) [.str "jump",.str "when"]=false:=by
 cases st <;> simp only [GL,Bool.false_eq_true] at h <;> simp only [MS.wd] <;> decide
theorem Mj {st:MS}(h:st=.lt\/st=.opn\/(∃ n,st=.spl n)\/∃ n,st=.drop n):st.wd≠"end"/\st.wd≠"call"/\Cr (.str st.wd) Rc=true:=by
 rcases h with rfl | rfl | ⟨n,rfl⟩ | ⟨n,rfl⟩ <;> simp only [MS.wd] <;> decide
theorem Rf {st:MS}{tk:List MV}(h1:∀ n,st≠.wh n)(h2:∀ n,st≠.spl n):Cr (.str st.wd) [.str "jump",.str "fun",.str "rec"]=leap st tk/\Cr (.str st.wd) [.str "when",.str "split"]=false:=by
 cases st with
 | wh n=>exact absurd rfl (h1 n)
 | spl n=>exact absurd rfl (h2 n)
 | _=>simp only [MS.wd,leap] <;> decide
structure LSp (H:Hp)(Q:VK)(o:Out)(ND:Nat):Prop where
 n:o=.none->∀ H',An H H'->Q .non H'
 s:o=.stuck->∀ H',An H H'->Q (.str "stuck") H'
 t:∀ v c,o=.told v c->dps v<=ND/\∀ p r H',An H H'->H' p=some (.tup [r,.int c])->Dy H' v r->Q (.ref p) H'
inductive Iv (code:List MS)(most B:Nat)(o:Out)(H:Hp)(lc nd:Addr)(m:Nat)(σ':St)(H':Hp):Prop
 | mk (s:Ma) (lp lh lf:Addr) (w8 w9 w10 RN:Option V) (h0:Ends code most m s o) (h1:s.calls<=most) (h2:Good code most B 900000 s) (h3:σ'=[some (.ref lc),some (.int most),some (.ref nd),some (.int s.at'),some (.int s.calls),some (.ref lp),some (.ref lh),some (.ref lf),w8,w9,w10,RN]) (h4:An H H') (h5:Mi H' s lp lh lf) (h6:H lf=none) (h7:H' nd=some (.dK (Cf [] oA))):Iv code most B o H lc nd m σ' H'
inductive Jv (most:Nat)(H:Hp)(lc nd:Addr)(st:MS)(s:Ma)(σ':St)(H':Hp):Prop
 | mk (a2:Nat) (s2:Ma) (ju jv fV:Addr) (b:Bool) (tv:V) (h0:σ'=[some (.ref lc),some (.int most),some (.ref nd),some (.int a2),some (.int s2.calls),some (.ref ju),some (.ref jv),some (.ref fV),some (.str st.wd),some (lastOf st),some tv,some (.bl b)]) (h1:An H H') (h2:(b=true->lastOf st=.int (ln st))) (h3:exec st s=.go { s2 with at':=a2+(if b then ln st else 0) }) (h4:Mi H' s2 ju jv fV) (h5:H fV=none) (h6:H' nd=some (.dK (Cf [] oA))):Jv most H lc nd st s σ' H'
inductive Jw (most:Nat)(lc nd:Addr)(st:MS)(s:Ma)(lp lh lf lt:Addr)(RN:Option V)(H7:Hp)(σ':St)(H':Hp):Prop
 | mk (h0:σ'=[some (.ref lc),some (.int most),some (.ref nd),some (.int ((s.at'+1:Nat):Int)),some (.int s.calls),some (.ref lp),some (.ref lh),some (.ref lf),some (.str st.wd),some (lastOf st),some (.ref lt),RN]) (h1:H'=H7) (h2:(st=.back->s.frs≠[])) (h3:(∀ n,st=.drop n->n<=s.held.length)) (h4:(∀ n,st=.nm n->n < s.held.length)):Jw most lc nd st s lp lh lf lt RN H7 σ' H'
inductive Jx (most:Nat)(lc nd:Addr)(st:MS)(s:Ma)(lp lh lf lt:Addr)(H9:Hp)(σ':St)(H':Hp):Prop
 | mk (h0:σ'=[some (.ref lc),some (.int most),some (.ref nd),some (.int ((s.at'+1:Nat):Int)),some (.int s.calls),some (.ref lp),some (.ref lh),some (.ref lf),some (.str st.wd),some (lastOf st),some (.ref lt),some (.bl (leap st (Dl st s)))]) (h1:An H9 H'):Jx most lc nd st s lp lh lf lt H9 σ' H'
inductive Ju (most:Nat)(lc nd:Addr)(st:MS)(s:Ma)(lp lh lf lt:Addr)(RN:Option V)(H7:Hp)(σ':St)(H':Hp):Prop
 | mk (h0:σ'=[some (.ref lc),some (.int most),some (.ref nd),some (.int ((s.at'+1:Nat):Int)),some (.int s.calls),some (.ref lp),some (.ref lh),some (.ref lf),some (.str st.wd),some (lastOf st),some (.ref lt),RN]) (h1:H'=H7) (h2:(st=.back->s.frs≠[])) (h3:(∀ n,st=.drop n->n<=s.held.length)):Ju most lc nd st s lp lh lf lt RN H7 σ' H'
inductive Yh (code:List MS)(ND:Nat)(vs:(List V))(H:Hp)(Q:VK)(z3:XK):Prop
 | mk (lc:Addr) (most n B:Nat) (o:Out) (h1:vs=[.ref lc,.int most]) (h2:Nh H lc code) (h3:(∀ s∈code,s.ok)) (h4:Ends code most n ma0 o) (h5:Good code most B 900000 ma0) (h6:most<=1000) (h7:LSp H Q o ND):Yh code ND vs H Q z3
theorem Dz:AE ["_law_code","_law_most","_law_needs","_law_at","_law_calls","_law_pile","_law_held_here","_law_froms","_law_word","_law_last","_law_taken_here","_law_leaps"] ["_law_code","_law_most"] (Ae CG):=nofun
theorem jw {ND:Nat}{f:Addr}{fd:FuncData}(F:D4 K "_law_done" "_law_done" CG f fd)(B6:mg "len"=none)(Iz:mg "max"=none)(hND:2<=ND)
  (cF:Cl Pr w K mg base 1 "_law_fits" ["_law_word","_law_taken_here"] Nt) (cS:Cl Pr w K mg base (ND+1) "_law_show" ["_law_value"] (R4 ND))
  (cH:Cl Pr w K mg base 1 "_law_held" ["_law_word","_law_last","_law_taken_here","_law_held_here"] Nw) (cB:Cl Pr w K mg base 2 "_law_brought" ["_law_one","_law_taken_here","_law_at","_law_held_here"] Ny) :
  AY Pr w K mg base C5 (ND+2) f fd ["_law_code","_law_most"] (Yh code ND):=by
 refine F.okS Dz (λvs H Q E h=>?_) (λBV A outer s0 H vs Q E hr h=>?_)
 ·obtain ⟨lc,most,n,B,o,rfl,_⟩:=h;rfl
 ·obtain ⟨lc,most,n,B,o,rfl,hc,hok,hE,hG,hm,hD⟩:=h
  have Nz:Bh 1 _:=hr.mono ()
  have GK:Bh 2 _:=hr.mono ()
  have hu:=Hb hr
  have FG:=hr.units
  refine ⟨_,(Ah (Ay (i:=2) Dz.nd rfl (.inl rfl) (He (BW Af Ab (BW Af Ab (BW Af Ab (BW Af Ab (BW Af Ab (BW Af Ab (BW Af Ab (BW Af Ab (BW Af Ab JZ))))))))) rfl rfl (by simp) ⟨⟩))
   (Ah (Ay (i:=3) Dz.nd rfl (.inl rfl) Ab)
   (Ah (Ay (i:=4) Dz.nd rfl (.inl rfl) Ab)
   (Ah (Ay (i:=5) Dz.nd rfl (.inl rfl) (AS Ac))
   (Ah (Ay (i:=6) Dz.nd rfl (.inl rfl) (AS Ac))
   (Ah (Ay (i:=7) Dz.nd rfl (.inl rfl) (AS Ac))
   (Ah (J8 PassesOwn.never (Aw Gf (Ai 3) (AH Ax (by rfl) B6 PySem.boot_len (Aa (Ai 0) Ac)) (Am _)) (Ah (Ay (i:=8) Dz.nd rfl (.inl rfl) (Ao (r:=AA K) Aj (Ao (r:=Bw K) AJ (Ai 0) (Ai 3) AO) Ab AO))
   (Ah (Ay (i:=9) Dz.nd rfl (.inl rfl) (Ao (r:=AA K) Aj (Ao (r:=Bw K) AJ (Ai 0) (Ai 3) AO) (LZ F5 Ab) AO))
   (Ah (Ay (i:=3) Dz.nd rfl (.inl rfl) (As AZ (Ai 3) Ab))
   (Ah (Ay (i:=10) Dz.nd rfl (.inl rfl) (Cn (r:=O3 K) GA (Ai 5) (Cv (AH (Ib rfl) (by rfl) Iz PyProof.Rows.boot_max (Aa Ab (Aa (As Cu (AH Ax (by rfl) B6 PySem.boot_len (Aa (Ai 5) Ac)) (EK hu (Ai 2) (Ai 8) Ab ⟨rfl,rfl,rfl,rfl⟩)) Ac)))) Dm))
   (Ah (B7 (Gk (w_or (Aw Gf (AH Ax (by rfl) B6 PySem.boot_len (Aa (Ai 10) Ac)) (EK hu (Ai 2) (Ai 8) Ab ⟨rfl,rfl,rfl,rfl⟩) (Am _)) (EX (DU (DC (B1 cF Nz rfl (Aa (Ai 8) (Aa (Ai 10) Ac)))))))) (Al (Ar Af)) AN)
   (Ah (B7 (Gk (w_or (Gk (w_and (Aw AK (Ai 8) Af (Am _)) (CN (DU (E6 (Ai 7)))))) (EX (Gk (w_and (Aw AK (Ai 8) Af (Am _)) (CN (Aw Ia (Ai 9) (AH Ax (by rfl) B6 PySem.boot_len (Aa (Ai 6) Ac)) (Am _)))))))) (Al (Ar Af)) AN)
   (Ah (B7 (Gk (w_and (Aw AK (Ai 8) Af (Am _)) (CN (Aw Px (Ai 9) (AH Ax (by rfl) B6 PySem.boot_len (Aa (Ai 6) Ac)) (Am _))))) (Al (Ar Af)) AN)
   (Ah (Ay (i:=5) Dz.nd rfl (.inl rfl) (Cn (r:=O3 K) GA (Ai 5) Dm (Cv (As Cu (AH Ax (by rfl) B6 PySem.boot_len (Aa (Ai 5) Ac)) (AH Ax (by rfl) B6 PySem.boot_len (Aa (Ai 10) Ac))))))
   (Ah (Ay (i:=11) Dz.nd rfl (.inl rfl) (Cc (r:=FT K false) B0 (Ai 8) (Aq (Aa Af (Aa Af (Aa Af Ac)))) rfl))
   (Ah (B7 (Aw (r:=FT K false) B0 (Ai 8) (Aq (Aa Af (Aa Af Ac))) rfl) (Al (Ay (i:=11) Dz.nd rfl (.inl rfl) (i9 (Cc ((FZ FG).or (Xo FG)) (Ao (r:=Bw K) AJ (Ai 10) Ab AO) (Aq (Aa Af (Aa ES Ac))) (Am _)) (EY (Cc AK (Ao (r:=AA K) Aj (Ao (r:=Bw K) AJ (Ai 10) Ab AO) Ab AO) Af (Am _)))))) AN)
   (Ah (B7 (Aw AK (Ai 8) Af (Am _)) (Al (Ar (Aq (Aa (B1 cS hr rfl (Aa (Ao (r:=Bw K) AJ (Ai 10) Ab AO) Ac)) (Aa (Ai 4) Ac))))) AN)
   (Ah (B7 (Aw AK (Ai 8) Af (Am _)) (Ah (Ay (i:=4) Dz.nd rfl (.inl rfl) (As AZ (Ai 4) Ab))
   (Ah (Ay (i:=7) Dz.nd rfl (.inl rfl) (As Bf (Ai 7) (AS (Aa (Aq (Aa (Ai 3) (Aa (Ai 6) Ac))) Ac))))
   (Al (Ay (i:=3) Dz.nd rfl (.inl rfl) (Ao (r:=AA K) Aj (Ao (r:=Bw K) AJ (Ai 10) Ab AO) Ab AO))))) AN)
   (Ah (B7 (Aw (r:=FT K false) B0 (Ai 8) (Aq (Aa Af (Aa Af (Aa Af (Aa Af (Aa Af Ac)))))) rfl) (Al (Ay (i:=6) Dz.nd rfl (.inl rfl) (B1 cH Nz rfl (Aa (Ai 8) (Aa (Ai 9) (Aa (Ai 10) (Aa (Ai 6) Ac))))))) (Al (B7 (Aw AK (Ai 8) Af (Am _)) (Al (ip (MZ PySem.F.plainAttrs_list PySem.F.slot_list_pop PySem.F.type_list_pop IZ (Ai 7)) (K7 rfl (De (BF (i:=3) Dz.nd rfl (.inl rfl)) (De (BF (i:=6) Dz.nd rfl (.inl rfl)) Hh))))) (Al (B7 (Aw (r:=FT K true) Ft (Ai 8) (Aq (Aa Af (Aa Af Ac))) rfl) (Al (Ay (i:=5) Dz.nd rfl (.inl rfl) (As Bf (Ai 5) (AS (Aa (B1 cB GK rfl (Aa (Ao (r:=Bw K) AJ (Ai 0) (As Cu (Ai 3) Ab) AO) (Aa (Ai 10) (Aa (Ai 3) (Aa (Ai 6) Ac))))) Ac))))) AN)))))
   (Ah (B7 (E6 (Ai 11)) (Al (Ay (i:=3) Dz.nd rfl (.inl rfl) (As AZ (Ai 3) (Ai 9)))) AN)
   (Al (B7 (Aw Ia (Ai 4) (Ai 1) (Am _)) (Al (Ar Hd)) AN)))))))))))))))))
   (Al (Ar Af))))))))),?_⟩
  left
  refine Fy λnd H0 hnd sg e0=>?_
  left
  refine ⟨e0,oA,rfl,⟨⟩,λH1 o1 e1=>?_⟩
  have oB:An H H1:=λb o hb=>by
   have Tj:b≠nd:=λz=>by rw [z,hnd] at hb;cases hb
   rw [o1 b Tj];exact sg _ _ hb
  left
  refine BG (BX ⟨⟩) λlp H2 hlp s2 e2=>?_
  left
  refine BG (BX ⟨⟩) λlh H3 hlh s3 e3=>?_
  left
  refine BG (BX ⟨⟩) λlf H4 EU s4 e4=>?_
  left
  have Eh:=s2.trans (s3.trans s4)
  have Jp:=oB.trans Eh
  refine ⟨Iv code most B o H lc nd,
   ⟨n,ma0,lp,lh,lf,none,none,none,none,hE,Nat.zero_le _,hG,rfl,Jp,⟨⟨[],s4 _ _ (s3 _ _ e2),.nil⟩,⟨[],s4 _ _ e3,.nil⟩,⟨[],e4,.nil⟩⟩,oB.free (s2.free (s3.free EU)),Eh _ _ e1⟩,?_⟩
  clear hE hG e4 e3 e2 hlp hlh EU s2 s3 s4 Eh Jp
  rintro m σ' H5 ⟨s,lp,lh,lf,w8,w9,w10,RN,hE,hcm,hG,rfl,sH,L,EU,Yi⟩
  obtain ⟨cs,c1,c2⟩:=hc.mono sH
  have lcs:=Paired.len c2
  left
  refine ⟨lc,cs,rfl,.inl (B3.of c1),?_⟩
  left
  have stuck:KX.step code s=.stuck->o=.stuck:=λz=>by
   cases hE with
   | over z'=>omega
   | stuck _ _=>rfl
   | told _ z'=>rw [z] at z';cases z'
   | go _ z' _=>rw [z] at z';cases z'
  by_cases Vo:s.at' < code.length
  ·refine AW (decide_eq_true ()) ⟨fun σ' H'=>∃ m',m' < m/\Iv code most B o H lc nd m' σ' H',fun σ' H' q=>q,?_⟩
   obtain ⟨st,JL⟩:∃ st,code[s.at']?=some st:=⟨code[s.at'],by simp [Vo]⟩
   have Cy:KX.step code s=exec st s:=by unfold KX.step;rw [JL]
   rw [Cy] at stuck
   have sok:=hok st (List.mem_of_getElem? JL)
   obtain ⟨r,si,p,rfl,hp⟩:=Paired.at1 c2 JL
   obtain ⟨us0,fR⟩:=st.cnt_wd
   have EC:=hp
   rw [fR] at EC
   have bs:=Tv hG () hcm
   refine Oz (Jv most H lc nd st s) ?_ λN13 fin=>?_
   ·rintro σ' H6 ⟨a2,s2,ju,jv,fV,b,tv,rfl,jx,hbl,hex,L2,sj,OB⟩
    have VL:∀ (a3:Nat),exec st s=.go { s2 with at':=a3 }->NP (JN (Fl (NW λi j=>.bl (decide (j < i))) (Bv 4) (Bv 1))) (NO (tC .non)) JK { nx:=fun σ' H'=>∃ m',m' < m/\Iv code most B o H lc nd m' σ' H',rt:=Q }
      [some (.ref lc),some (.int most),some (.ref nd),some (.int a3),some (.int s2.calls),some (.ref ju),some (.ref jv),some (.ref fV),some (.str st.wd),some (lastOf st),some tv,some (.bl b)] H6:=by
     intro a3 hex
     have e0:KX.step code s=.go { s2 with at':=a3 }:=by rw [Cy];exact hex
     obtain ⟨m',rT,TH⟩:∃ m',m' < m/\Ends code most m' { s2 with at':=a3 } o:=by
      cases hE with
      | over z'=>omega
      | stuck _ z'=>rw [e0] at z';cases z'
      | told _ z'=>rw [e0] at z';cases z'
      | go _ z' TH=>rw [e0] at z';cases z';exact ⟨_,Nat.lt_succ_self _,TH⟩
     left
     by_cases HK:s2.calls<=most
     ·refine AF (λz=>by have:=of_decide_eq_true z;omega) ?_
      left
      exact ⟨m',rT,{ s2 with at':=a3 },ju,jv,fV,_,_,_,_,TH,HK,(hG.step hcm e0).1 HK,rfl,jx,⟨L2.p,L2.h,L2.f⟩,sj,OB⟩
     ·refine AW (decide_eq_true ()) ?_
      left
      have ho:o=.none:=by
       cases TH with
       | over z'=>rfl
       | stuck z' _=>exact absurd z' HK
       | told z' _=>exact absurd z' HK
       | go z' _ _=>exact absurd z' HK
      exact hD.n ho H6 jx
    left
    refine ⟨b,rfl,?_⟩
    cases b with
    | true =>
     refine CT ?_
     refine Qw (iu (Jb (v:=.int a2) rfl (Jb (v:=lastOf st) rfl ?_)))
     refine ⟨a2,ln st,rfl,hbl rfl,?_⟩
     have e3:(a2:Int)+(ln st:Int)=((a2+ln st:Nat):Int):=by omega
     have Lg:=VL (a2+ln st) hex
     rw [<- e3] at Lg
     exact Lg
    | false =>
     refine Cm ?_
     exact VL a2 hex
   ·obtain ⟨⟨vs,sr,hpp⟩,⟨hs,hhv,R9⟩,⟨fs,hfv,nE⟩⟩:=id L
    have oC:=Paired.len hpp
    rw [List.length_reverse] at oC
    have lhs:=Paired.len R9
    have su:=Paired.len nE
    rw [List.length_reverse] at su
    left
    refine AX (B3.of c1) (v:=.ref p) (Ak si) ?_
    left
    refine Ad (Av.of EC) (v:=.str st.wd) (Ak (j:=0) rfl) ?_
    left
    refine AX (B3.of c1) (v:=.ref p) (Ak si) ?_
    left
    refine Ad (Av.of hp) (v:=lastOf st) (TU st) ?_
    left
    refine ⟨lp,vs,rfl,.inl (B3.of sr),?_⟩
    left
    refine ⟨nd,rfl,.inl ⟨_,.inl Yi⟩,?_⟩
    left
    refine ⟨_,Dx.k (k:=.inr st.wd) Yi,?_⟩
    rw [Rb]
    left
    refine ⟨_,_,rfl,?_⟩
    left
    have elo:(if (vs.length:Int) - (AU st:Int) > 0 then (vs.length:Int) - (AU st:Int) else 0)=((vs.length - AU st:Nat):Int):=by split <;> omega
    rw [elo]
    refine Hn (B3.of sr) λlt H6 DN s6 e6=>?_
    have Yj:D7 vs (some ((vs.length - AU st:Nat):Int)) none=vs.drop (vs.length - AU st):=by
     unfold D7
     rw [HT.sIx_none,HT.sIx_nat,Nat.min_eq_left ()]
     rw [List.take_of_length_le (by rw [List.length_drop];omega)]
    rw [Yj] at e6
    have P0:Paired (CK H6) (Dl st s) (vs.drop (vs.length - AU st)):=by
     have h1:=Paired.drop (vs.length - AU st) (Paired.mapP hpp λ_ _ z=>CK.mono s6 z)
     have e:s.pile.reverse.drop (vs.length - AU st)=Dl st s:=by
      unfold Dl
      rw [<- oC,List.reverse_take]
     rw [e] at h1
     exact h1
    generalize O5:vs.drop (vs.length - AU st)=us at e6 P0
    have lus:us.length=min vs.length (AU st):=by rw [<- O5,List.length_drop];omega
    have ltk:=Paired.len P0
    have L6:=L.mono s6
    have jx:=sH.trans s6
    have OB:=s6 _ _ Yi
    left
    refine ⟨lt,us,rfl,.inl (B3.of e6),?_⟩
    left
    refine ⟨nd,rfl,.inl ⟨_,.inl OB⟩,?_⟩
    left
    refine ⟨_,Dx.k (k:=.inr st.wd) OB,?_⟩
    rw [Rb]
    left
    by_cases few:vs.length < AU st
    ·refine AW (decide_eq_true ()) (CT ?_)
     left
     exact hD.s (stuck (Y4 ())) H6 jx
    refine AF (λz=>by have:=of_decide_eq_true z;omega) ?_
    left
    have Yk:(Dl st s).length=AU st:=by omega
    refine ⟨st,lt,us,Dl st s,rfl,e6,P0,Yk,λH7 s7=>?_⟩
    have jy:=jx.trans s7
    left
    cases Fu:fit st (Dl st s) with
    | false =>
     refine AW rfl ?_
     left
     exact hD.s (stuck (Y5 Fu)) H7 jy
    | true =>
    refine AF ⟨⟩ ?_
    have e7:=s7 _ _ e6
    have jz:=Paired.mapP P0 λ_ _ z=>CK.mono s7 z
    have L7:=L6.mono s7
    have sv:=s7 _ _ OB
    have jA:=s6.trans s7
    clear e6 P0 L6 OB
    obtain ⟨⟨MY,TV,sx⟩,⟨Ja,Rg,sy⟩,⟨OZ,TX,Yl⟩⟩:=id L7
    have ev:MY=vs:=by rw [jA _ _ sr] at TV;cases TV;rfl
    have eh:Ja=hs:=by rw [jA _ _ hhv] at Rg;cases Rg;rfl
    have ef:OZ=fs:=by rw [jA _ _ hfv] at TX;cases TX;rfl
    subst ev eh ef
    clear O5
    have Ym:AU st<=s.pile.length:=by omega
    refine Ra (Jw most lc nd st s lp lh lf lt RN H7) ?_ λN7 jB=>?_
    ·rintro σ' H' ⟨rfl,rfl,k1,k2,k3⟩
     left
     refine ⟨lp,MY,rfl,.inl (B3.of TV),?_⟩
     left
     refine ⟨lt,us,rfl,.inl (B3.of e7),?_⟩
     left
     refine Hn (B3.of TV) λlq H8 hlq s8 e8=>?_
     have Yj:D7 MY none (some ((MY.length:Int) - (us.length:Int)))=MY.take (MY.length - AU st):=by
      unfold D7
      rw [show (MY.length:Int) - (us.length:Int)=((MY.length - AU st:Nat):Int) by omega,HT.sIx_none,HT.sIx_nat,Nat.min_eq_left ()]
      simp
     rw [Yj] at e8
     have hq8:Paired (CK H8) (s.pile.drop (AU st)).reverse (MY.take (MY.length - AU st)):=by
      have h1:=Paired.take (MY.length - AU st) (Paired.mapP sx λ_ _ z=>CK.mono s8 z)
      have e:s.pile.reverse.take (MY.length - AU st)=(s.pile.drop (AU st)).reverse:=by
       rw [<- oC,List.reverse_drop]
      rw [e] at h1
      exact h1
     left
     intros t9 H9 s9 e9
     refine Bi (.inr (Av.of e9)) rfl rfl ?_
     have oE:=s8.trans s9
     have sH9:=jy.trans oE
     have fW:=oE _ _ e7
     have TY:=Paired.mapP jz λ_ _ z=>CK.mono oE z
     refine CL (Jx most lc nd st s lq lh lf lt H9) ?_ λN10 KO=>?_
     ·rintro σ' GJ ⟨rfl,CP⟩
      have Jz:=oE.trans CP
      have Ml:=sH9.trans CP
      have jC:=s9.trans CP
      have Rh:=jC _ _ e8
      have KP:=Paired.mapP hq8 λ_ _ z=>CK.mono jC z
      have Ri:=Jz _ _ e7
      have IA:=Paired.mapP jz λ_ _ z=>CK.mono Jz z
      have Rj:=Jz _ _ Rg
      have KQ:=Paired.mapP sy λ_ _ z=>CK.mono Jz z
      have U0:=Jz _ _ TX
      have NA:=Paired.mapP Yl λ_ _ z=>Pc.mono Jz z
      have IB:=Jz _ _ sv
      have sC:GJ lc=some (.lst cs):=(jA.trans Jz) _ _ c1
      have jD:=(jA.trans Jz) _ _ hp
      left
      have Lp:∀ {H':Hp} (s':An GJ H') {pl:List MV} {jE:Addr} {xs:List V},H' jE=some (.lst xs)->Paired (CK H') pl.reverse xs->∀ (a c:Nat),Mi H' ⟨a,c,pl,s.held,s.frs⟩ jE lh lf:=λ{H'} s' {pl jE xs} h1 h2 a c =>
       ⟨⟨xs,h1,h2⟩,⟨Ja,s' _ _ Rj,Paired.mapP KQ λ_ _ z=>CK.mono s' z⟩,⟨OZ,s' _ _ U0,Paired.mapP NA λ_ _ z=>Pc.mono s' z⟩⟩
      have Lh:∀ {H':Hp} (s':An GJ H') {hl:List MV} {sD:Addr} {xs:List V},H' sD=some (.lst xs)->Paired (CK H') hl xs->∀ (a c:Nat),Mi H' ⟨a,c,s.pile.drop (AU st),hl,s.frs⟩ lq sD lf:=λ{H'} s' {hl sD xs} h1 h2 a c =>
       ⟨⟨_,s' _ _ Rh,Paired.mapP KP λ_ _ z=>CK.mono s' z⟩,⟨xs,h1,h2⟩,⟨OZ,s' _ _ U0,Paired.mapP NA λ_ _ z=>Pc.mono s' z⟩⟩
      have tkb:∀ v∈Dl st s,G5 v<=900000:=λv hv=>bs.v v (by unfold Dl at hv;exact List.mem_of_mem_take (List.mem_reverse.mp hv))
      by_cases wf:st=.fin
      ·subst wf
       refine AW (decide_eq_true rfl) ?_
       left
       obtain ⟨v,ev,hex⟩:=Y6 Ym
       rw [ev] at IA
       obtain ⟨x,rfl,hx⟩:=Dq IA
       have ho:o=.told v s.calls:=by
        cases hE with
        | over z'=>omega
        | stuck _ z'=>rw [Cy,hex] at z';cases z'
        | told _ z'=>rw [Cy,hex] at z';cases z';rfl
        | go _ z' _=>rw [Cy,hex] at z';cases z'
       obtain ⟨hdv,hDt⟩:=hD.t v s.calls ho
       refine AX (B3.of Ri) (v:=x) rfl ?_
       left
       refine ⟨v,x,rfl,hx,hdv,λr' F0 CA pD=>?_⟩
       left
       intros pt Ou Ei Iy
       exact hDt pt r' Ou (Ml.trans (CA.trans Ei)) Iy (pD.mono (Au.of_same Ei))
      refine AF (fU λz=>wf (MS.not_end z)) ?_
      left
      by_cases wc:st=.call
      ·subst wc
       refine AW (decide_eq_true rfl) ?_
       obtain ⟨c,a,k,v,et,hex⟩:=TL Ym Fu
       have VM:=IA
       rw [et] at VM
       obtain ⟨x,y,rfl,⟨q,kl,ks,rfl,hq,hk,jr⟩,hy⟩:=Dh VM
       left
       intros TQ F0 CA FE
       left
       refine BG (BX (Nat.le_of_ble_eq_true rfl)) λl12 Ou Ajq Ei Iy=>?_
       have CJ:=CA.trans Ei
       have bf:=bs.f
       refine Dp (CJ _ _ U0) Iy (BX (by simp;omega)) λlfn Ti sE Gp Vr=>?_
       left
       have Rk:=CJ.trans Gp
       refine AX (B3.of (Rk _ _ Ri)) (v:=.ref q) rfl ?_
       left
       refine Ad (Av.of (Rk _ _ hq)) (v:=.int a) rfl ?_
       dsimp only
       refine Qx ?_
       left
       intros t14 Vs Eh Lg
       refine Bi (.inr (Av.of Lg)) rfl rfl ?_
       left
       refine AW (show Cr (.str "call") Rc=true by decide) ?_
       left
       have Gq:=Rk.trans Eh
       refine ⟨.call,lastOf .call,lt,lh,_,Ja,Dl .call s,s.held,rfl,.inl rfl,(λn e=>by cases e),Gq _ _ Ri,Paired.mapP IA (λ_ _ z=>CK.mono Gq z),Yk,Fu,Gq _ _ Rj,Paired.mapP KQ (λ_ _ z=>CK.mono Gq z),bs.h,tkb,λph hsn H15 U1 hph sF p15=>?_⟩
       have Ef:=Gq.trans U1
       have VN:=Eh.trans U1
       refine fin _ _ ⟨a,⟨a,s.calls+1,s.pile.drop 2,VA .call (Dl .call s) s.held,(s.at'+1,s.held)::s.frs⟩,lq,ph,lfn,false,.ref lt,?_,Ml.trans Ef,(λz=>by cases z),hex,⟨⟨_,Ef _ _ Rh,Paired.mapP KP λ_ _ z=>CK.mono Ef z⟩,⟨hsn,sF,p15⟩,⟨_,VN _ _ Vr,?_⟩⟩,(Ml.trans CJ).free sE,Ef _ _ IB⟩
       ·rw [show ((s.calls+1:Nat):Int)=(s.calls:Int)+1 by omega]
        rfl
       ·rw [List.reverse_cons]
        have jF:=Gp.trans VN
        exact Paired.app (Paired.mapP NA λ_ _ z=>Pc.mono Ef z) (.cons ⟨TQ,lh,Ja,rfl,jF _ _ (Ei _ _ FE),Ef _ _ Rj,Paired.mapP KQ λ_ _ z=>CK.mono Ef z⟩ .nil)
      refine AF (fU λz=>wc (by cases st <;> first | rfl | (simp only [MS.wd] at z;exact absurd z ⟨⟩))) ?_
      refine Qx ?_
      left
      intros TQ F0 CA FE
      refine Bi (.inr (Av.of FE)) rfl rfl ?_
      left
      by_cases wh:st=.lt\/st=.opn\/(∃ n,st=.spl n)\/∃ n,st=.drop n
      ·refine AW (Mj wh).2.2 ?_
       left
       refine ⟨st,lastOf st,lt,lh,us,Ja,Dl st s,s.held,rfl,.inr wh,(λn e=>by subst e;exact ⟨rfl,k2 n rfl⟩),CA _ _ Ri,Paired.mapP IA (λ_ _ z=>CK.mono CA z),Yk,Fu,CA _ _ Rj,Paired.mapP KQ (λ_ _ z=>CK.mono CA z),bs.h,tkb,λph hsn Ou Ei hph Iy oF=>?_⟩
       have CJ:=CA.trans Ei
       exact fin _ _ ⟨s.at'+1,⟨0,s.calls,s.pile.drop (AU st),VA st (Dl st s) s.held,s.frs⟩,lq,ph,lf,leap st (Dl st s),.ref lt,rfl,Ml.trans CJ,λz=>G8 z,Y7 wh Ym Fu k2,Lh CJ Iy oF 0 s.calls,EU,CJ _ _ IB⟩
      have whf:Cr (.str st.wd) Rc=false:=by
       cases st <;> first | exact absurd rfl wc | exact absurd (.inl rfl) wh | exact absurd (.inr (.inl rfl)) wh | exact absurd (.inr (.inr (.inl ⟨_,rfl⟩))) wh | exact absurd (.inr (.inr (.inr ⟨_,rfl⟩))) wh | (simp only [MS.wd];decide)
      refine AF (show ¬ Cr (.str st.wd) Rc=true by rw [whf];decide) ?_
      left
      have sG:=Ml.trans CA
      by_cases wb:st=.back
      ·subst wb
       refine AW (decide_eq_true rfl) ?_
       rcases sI:s.frs with _ | ⟨⟨a,hd⟩,rf⟩
       ·exact absurd sI (k1 rfl)
       have VO:=Paired.mapP NA λ_ _ z=>Pc.mono CA z
       rw [sI] at VO
       obtain ⟨fX,x,rfl,Yn,q,hk,jr,rfl,hq,hhk,jG⟩:=Paired.last VO
       have Yo:=CA _ _ U0
       obtain ⟨e0,sJ,eq0,oG⟩:D1 λe0 sJ=>fX++[V.ref q]=e0::sJ/\Dw λq x us=>e0=.ref q/\F0 q=some (.tup (.int x::us)):=by
        cases fX with
        | nil=>exact ⟨_,_,rfl,q,_,_,rfl,hq⟩
        | cons u r =>
         refine ⟨u,r++[.ref q],rfl,?_⟩
         have hm:∀ {fr:List (Nat × List MV)} {us:List V},Paired (Pc F0) fr us->∀ u∈us,Dw λq x us=>u=.ref q/\F0 q=some (.tup (.int x::us)):=by
          intro fr us h
          induction h with
          | nil=>intro u hu;cases hu
          | cons z _ ih =>
           intro u hu
           rcases List.mem_cons.mp hu with rfl | hu
           ·obtain ⟨q',h',SJ,z1,z2,_⟩:=z
            exact ⟨q',_,_,z1,z2⟩
           ·exact ih u hu
         exact hm Yn u (.head _)
       have IC:F0 lf=some (.lst (e0::sJ)):=by rw [<- eq0];exact Yo
       have put:∀ {v:MV} {r:V},CK F0 v r->CK (upd F0 lf (.lst fX)) v r:=λz=>CK.put IC oG z
       have HA:=CA _ _ Rh
       have VP:=Paired.mapP KP λ_ _ z=>CK.mono CA z
       have jH:∀ (b:Addr) (xs:List V),F0 b=some (.tup xs)->(upd F0 lf (.lst fX)) b=some (.tup xs):=λb xs e=>by rw [AQ (Ge e IC (by intro z;cases z))];exact e
       have Eg:∀ {f:Nat × List MV} {r:V},Pc F0 f r->Pc (upd F0 lf (.lst fX)) f r:=λ{f r} z=>by
        obtain ⟨q',h',SJ,z1,z2,z3,z4⟩:=z
        exact ⟨q',h',SJ,z1,jH _ _ z2,by rw [AQ (TR IC oG z3 z4)];exact z3,Paired.mapP z4 λ_ _ y=>put y⟩
       refine Xl (Jb (v:=.ref lf) rfl ⟨.inl ⟨rfl,_,B3.of Yo⟩,lf,_,.ref q,rfl,rfl,Yo,by simp,?_⟩)
       rw [List.dropLast_concat]
       refine ⟨q,_,rfl,Av.of (jH _ _ hq),rfl,_,_,rfl,_,_,rfl,rfl,?_⟩
       have hnn:nd≠lf:=Ge (CA _ _ IB) IC (by intro z;cases z)
       refine fin _ _ ⟨a,⟨a,s.calls,s.pile,hd,rf⟩,lq,hk,lf,false,.ref lt,rfl,An.put sG EU,(λz=>by cases z),?_,⟨⟨_,?_,Paired.mapP VP λ_ _ z=>put z⟩,⟨jr,?_,Paired.mapP jG λ_ _ z=>put z⟩,⟨fX,AG,Paired.mapP Yn λ_ _ z=>Eg z⟩⟩,EU,?_⟩
       ·simp only [KX.exec];rw [sI];rfl
       ·rw [AQ (TR IC oG HA VP)];exact HA
       ·rw [AQ (TR IC oG hhk jG)];exact hhk
       ·rw [AQ hnn];exact CA _ _ IB
      refine AF (fU λz=>wb (by cases st <;> first | rfl | (simp only [MS.wd] at z;exact absurd z ⟨⟩))) ?_
      left
      intros sf Ou Ei Iy
      refine Bi (.inr (Av.of Iy)) rfl rfl ?_
      left
      have CJ:=CA.trans Ei
      by_cases wj:(∃ n,st=.jump n)\/∃ n,st=.wh n
      ·have wjt:Cr (.str st.wd) [.str "jump",.str "when"]=true:=by
        rcases wj with ⟨n,rfl⟩ | ⟨n,rfl⟩ <;> simp only [MS.wd] <;> decide
       refine AF (show ¬ (!Cr (.str st.wd) [.str "jump",.str "when"])=true by rw [wjt];decide) ?_
       exact fin _ _ ⟨s.at'+1,⟨0,s.calls,s.pile.drop (AU st),s.held,s.frs⟩,lq,lh,lf,leap st (Dl st s),.ref lt,rfl,Ml.trans CJ,λz=>G8 z,ji wj Ym Fu,Lp CJ (CJ _ _ Rh) (Paired.mapP KP λ_ _ z=>CK.mono CJ z) 0 s.calls,EU,CJ _ _ IB⟩
      have wbr:GL st=true:=by
       cases st <;> first | rfl | exact absurd rfl wf | exact absurd rfl wc | exact absurd rfl wb | exact absurd (.inl rfl) wh | exact absurd (.inr (.inl rfl)) wh | exact absurd (.inr (.inr (.inl ⟨_,rfl⟩))) wh | exact absurd (.inr (.inr (.inr ⟨_,rfl⟩))) wh | exact absurd (.inl ⟨_,rfl⟩) wj | exact absurd (.inr ⟨_,rfl⟩) wj
      have wjf:=(KN wbr).2.2.2.2
      refine AW (show (!Cr (.str st.wd) [.str "jump",.str "when"])=true by rw [wjf];rfl) ?_
      left
      rw [Oj]
      obtain ⟨v,hb,hex⟩:=Y8 wbr Ym Fu k3
      refine AX (B3.of (CJ _ _ sC)) (v:=.ref p) (Ak si) ?_
      left
      refine ⟨st,.ref p,lt,lh,us,Ja,Dl st s,s.held,s.at'+1,v,rfl,⟨p,rfl,CJ _ _ jD⟩,sok,CJ _ _ Ri,Paired.mapP IA (λ_ _ z=>CK.mono CJ z),CJ _ _ Rj,Paired.mapP KQ (λ_ _ z=>CK.mono CJ z),hb,λr' Ti Gp pF=>?_⟩
      left
      refine BG (BX (Nat.le_of_ble_eq_true rfl)) λl14 Vs Ajz Eh Lg=>?_
      have Gq:=CJ.trans (Gp.trans Eh)
      have bp:=bs.p
      refine Dp (Gq _ _ Rh) Lg (BX (by simp;omega)) λjE H15 Aj0 U1 sF=>?_
      have Ef:=Gq.trans U1
      refine fin _ _ ⟨s.at'+1,⟨0,s.calls,v::s.pile.drop (AU st),s.held,s.frs⟩,jE,lh,lf,leap st (Dl st s),.ref lt,rfl,Ml.trans Ef,λz=>G8 z,hex,Lp Ef sF ?_ 0 s.calls,EU,Ef _ _ IB⟩
      rw [List.reverse_cons]
      exact Paired.app (Paired.mapP KP λ_ _ z=>CK.mono Ef z) (.cons (CK.mono (Eh.trans U1) pF) .nil)
     ·left
      intros se GJ CP Jm
      refine Bi (.inr (Av.of Jm)) rfl rfl ?_
      left
      by_cases ww:∃ n,st=.wh n
      ·obtain ⟨n,rfl⟩:=ww
       refine AW (show Cr (.str "when") [.str "when",.str "split"]=true by decide) ?_
       left
       obtain ⟨a,r0,ea⟩:=Ff Ym
       have et:Dl (.wh n) s=[a]:=by unfold Dl;rw [ea];rfl
       rw [et] at Fu TY
       obtain ⟨x,rfl,hx⟩:=Dq TY
       cases a with
       | tru b =>
        obtain ⟨q,rfl,hq⟩:=hx
        refine AX (B3.of (CP _ _ fW)) (v:=.ref q) rfl ?_
        left
        intros TQ F0 CA FE
        have HA:=CA _ _ (CP _ _ hq)
        refine .inl ⟨.tuple [.str "truth",.bool b],.tuple [.str "truth",.bool false],.tup HA (.cons (.str _) (.cons (.bl _) .nil)),.tup FE (.cons (.str _) (.cons (.bl _) .nil)),by cases b <;> decide +kernel,by decide +kernel,?_⟩
        have sL:PyData.eqv (.tuple [.str "truth",.bool b]) (.tuple [.str "truth",.bool false])=!b:=by cases b <;> decide +kernel
        rw [sL]
        left
        cases b with
        | false =>
         refine AW rfl ?_
         exact KO _ _ ⟨by rw [et];rfl,CP.trans CA⟩
        | true =>
         refine AF ⟨⟩ ?_
         left
         refine AX (B3.of (CA _ _ (CP _ _ fW))) (v:=.ref q) rfl ?_
         left
         refine Ad (Av.of HA) (v:=.str "truth") rfl ?_
         refine LY (Hi rfl ?_)
         exact KO _ _ ⟨by rw [et];rfl,CP.trans CA⟩
       | _=>simp [fit] at Fu
      by_cases ws:∃ n,st=.spl n
      ·obtain ⟨n,rfl⟩:=ws
       refine AW (show Cr (.str "split") [.str "when",.str "split"]=true by decide) ?_
       left
       obtain ⟨a,r0,ea⟩:=Ff Ym
       have et:Dl (.spl n) s=[a]:=by unfold Dl;rw [ea];rfl
       rw [et] at Fu TY
       obtain ⟨x,rfl,hx⟩:=Dq TY
       cases a with
       | emp =>
        obtain ⟨q,rfl,hq⟩:=hx
        refine AX (B3.of (CP _ _ fW)) (v:=.ref q) rfl ?_
        left
        intros TQ F0 CA FE
        have HA:=CA _ _ (CP _ _ hq)
        refine .inl ⟨.tuple [.str "empty"],.tuple [.str "truth",.bool false],.tup HA (.cons (.str _) .nil),.tup FE (.cons (.str _) (.cons (.bl _) .nil)),by decide +kernel,by decide +kernel,?_⟩
        have sL:PyData.eqv (.tuple [.str "empty"]) (.tuple [.str "truth",.bool false])=false:=by decide +kernel
        rw [sL]
        left
        refine AF ⟨⟩ ?_
        left
        refine AX (B3.of (CA _ _ (CP _ _ fW))) (v:=.ref q) rfl ?_
        left
        refine Ad (Av.of HA) (v:=.str "empty") rfl ?_
        refine LY (Hi rfl ?_)
        exact KO _ _ ⟨by rw [et];rfl,CP.trans CA⟩
       | two l a b =>
        cases l with
        | false=>simp [fit] at Fu
        | true =>
        obtain ⟨q,ra,rb,rfl,hq,ha,hb⟩:=hx
        obtain ⟨pa,usa,rfl,HU,_⟩:=CK.look ha
        refine AX (B3.of (CP _ _ fW)) (v:=.ref q) rfl ?_
        left
        intros TQ F0 CA FE
        have HA:=CA _ _ (CP _ _ hq)
        refine .inr ⟨q,TQ,"link","truth",pa,_,_,false,rfl,rfl,HA,CA _ _ (CP _ _ HU),FE,⟨⟩,?_⟩
        left
        refine AF ⟨⟩ ?_
        left
        refine AX (B3.of (CA _ _ (CP _ _ fW))) (v:=.ref q) rfl ?_
        left
        refine Ad (Av.of HA) (v:=.str "link") rfl ?_
        refine LY (Hi rfl ?_)
        exact KO _ _ ⟨by rw [et];rfl,CP.trans CA⟩
       | _=>simp [fit] at Fu
      have pl:=Rf (st:=st) (tk:=Dl st s) (λn e=>ww ⟨n,e⟩) (λn e=>ws ⟨n,e⟩)
      refine AF (show ¬ Cr (.str st.wd) [.str "when",.str "split"]=true by rw [pl.2];decide) ?_
      refine KO _ _ ⟨?_,CP⟩
      rw [<- pl.1]
      rfl
    ·rw [show (s.at':Int)+1=((s.at'+1:Nat):Int) by omega]
     refine CL (Ju most lc nd st s lp lh lf lt RN H7) ?_ λN6 Yp=>?_
     ·rintro σ' H' ⟨rfl,rfl,k1,k2⟩
      left
      by_cases wn:∃ n,st=.nm n
      ·obtain ⟨n,rfl⟩:=wn
       refine AW (decide_eq_true rfl) ?_
       left
       refine ⟨lh,Ja,rfl,.inl (B3.of Rg),n,_,rfl,rfl,?_⟩
       left
       by_cases hn:Ja.length<=n
       ·refine AW (decide_eq_true ()) ?_
        left
        exact hD.s (stuck (jh ())) _ jy
       ·refine AF (λz=>hn (by have:=of_decide_eq_true z;omega)) ?_
        exact jB _ _ ⟨rfl,rfl,k1,k2,λn' e=>by cases e;omega⟩
      ·refine AF (fU λz=>wn (by cases st <;> first | exact ⟨_,rfl⟩ | (simp only [MS.wd] at z;exact absurd z ⟨⟩))) (Cm ?_)
       exact jB _ _ ⟨rfl,rfl,k1,k2,λn' e=>absurd ⟨n',e⟩ wn⟩
     ·left
      by_cases wb:st=.back
      ·subst wb
       refine AW (decide_eq_true rfl) ?_
       left
       refine ⟨!OZ.isEmpty,.inl ⟨OZ,B3.of TX,rfl⟩,?_⟩
       by_cases Yn:s.frs=[]
       ·rw [Yn] at Yl
        obtain rfl:=Td Yl
        refine AW rfl (CT ?_)
        left
        exact hD.s (stuck (TJ Yn)) _ jy
       ·have Ld:OZ.isEmpty=false:=by
         cases OZ with
         | nil=>rw [List.length_nil] at su;exact absurd (List.length_eq_zero_iff.mp su) Yn
         | cons=>rfl
        rw [Ld]
        refine AF ⟨⟩ ?_
        left
        refine AF (show ¬ decide (V.str "back"=V.str "drop")=true by decide) (Cm ?_)
        exact Yp _ _ ⟨rfl,rfl,λ_=>Yn,λn e=>by cases e⟩
      ·refine AF (fU λz=>wb (by cases st <;> first | rfl | (simp only [MS.wd] at z;exact absurd z ⟨⟩))) (Cm ?_)
       left
       by_cases wd:∃ n,st=.drop n
       ·obtain ⟨n,rfl⟩:=wd
        refine AW (decide_eq_true rfl) ?_
        left
        refine ⟨lh,Ja,rfl,.inl (B3.of Rg),n,_,rfl,rfl,?_⟩
        left
        by_cases hn:Ja.length < n
        ·refine AW (decide_eq_true ()) ?_
         left
         exact hD.s (stuck (TK ())) _ jy
        ·refine AF (λz=>hn (by have:=of_decide_eq_true z;omega)) ?_
         exact Yp _ _ ⟨rfl,rfl,λe=>absurd e wb,λn' e=>by cases e;omega⟩
       ·refine AF (fU λz=>wd (by cases st <;> first | exact ⟨_,rfl⟩ | (simp only [MS.wd] at z;exact absurd z ⟨⟩))) (Cm ?_)
        exact Yp _ _ ⟨rfl,rfl,λe=>absurd e wb,λn' e=>absurd ⟨n',e⟩ wd⟩
  ·refine AF (λz=>Vo (by have:=of_decide_eq_true z;omega)) ?_
   left
   have Cy:KX.step code s=.stuck:=by unfold KX.step;rw [List.getElem?_eq_none ()]
   exact hD.s (stuck Cy) H5 sH
end
end K
namespace L2
open PySem PySem.Spec PyProof.Rows KS KX
noncomputable def JF (H:Hp):Ex->V->Prop
 | .num i,r=>∃ p,r=.ref p/\H p=some (.tup [.str "number",.int i])
 | .tru b,r=>∃ p,r=.ref p/\H p=some (.tup [.str "truth",.bl b])
 | .emp,r=>∃ p,r=.ref p/\H p=some (.tup [.str "empty"])
 | .fn _ _,r | .rc _ _ _,r=>∃ p,r=.ref p/\H p=some (.tup [.str "fun"])
 | .pr a b,r=>Dw λp ra rb=>r=.ref p/\H p=some (.tup [.str "pair",ra,rb])/\JF H a ra/\JF H b rb
 | .lk a b,r=>Dw λp ra rb=>r=.ref p/\H p=some (.tup [.str "link",ra,rb])/\JF H a ra/\JF H b rb
 | _,_=>False
theorem JF.mono {H H':Hp}(s:Au H H'):∀ {e:Ex} {r:V},JF H e r->JF H' e r
 | .num _,_,⟨p,h1,h2⟩=>⟨p,h1,s _ _ h2⟩
 | .tru _,_,⟨p,h1,h2⟩=>⟨p,h1,s _ _ h2⟩
 | .emp,_,⟨p,h1,h2⟩=>⟨p,h1,s _ _ h2⟩
 | .fn _ _,_,⟨p,h1,h2⟩=>⟨p,h1,s _ _ h2⟩
 | .rc _ _ _,_,⟨p,h1,h2⟩=>⟨p,h1,s _ _ h2⟩
 | .pr _ _,_,⟨p,ra,rb,h1,h2,h3,h4⟩=>⟨p,ra,rb,h1,s _ _ h2,JF.mono s h3,JF.mono s h4⟩
 | .lk _ _,_,⟨p,ra,rb,h1,h2,h3,h4⟩=>⟨p,ra,rb,h1,s _ _ h2,JF.mono s h3,JF.mono s h4⟩
theorem JF.sh {H:Hp}{code:List MS}{v:MV}{e:Ex}(h:VR code v e):∀ {r:V},JF H e r->Dy H v r:=by
 induction h with
 | num _ | tru _ | emp=>exact id
 | pr _ _ ia ib=>rintro r ⟨p,ra,rb,h1,h2,h3,h4⟩;exact ⟨p,ra,rb,h1,h2,ia h3,ib h4⟩
 | lk _ _ ia ib=>rintro r ⟨p,ra,rb,h1,h2,h3,h4⟩;exact ⟨p,ra,rb,h1,h2,ia h3,ib h4⟩
 | fn | rc=>exact id
end L2
namespace K
open PySem L2 KM KS KX
section
variable {Pr:Program}{w:World}{K:W.Frag}{mg:Str->Option Value}{base:Heap}
inductive KU (n:Nat)(vs:(List V))(H:Hp)(Q:VK)(z3:XK):Prop
 | mk (e:Ex) (r:V) (h1:vs=[r]) (h2:B9 H e r) (h3:e.isV=true) (h4:dep dz e<=n) (h5:∀ r' H',An H H'->JF H' e r'->Q r' H'):KU n vs H Q z3
noncomputable def Yq:Nat->Sp
 | 0=>Gv
 | n+1=>KU n
theorem jI {e:Ex}:(Cr (.str e.wd) [.str "pair",.str "link"]=true/\D1 λa b=>e=.pr a b\/e=.lk a b)\/(Cr (.str e.wd) [.str "pair",.str "link"]=false/\∀ a b,e≠.pr a b/\e≠.lk a b):=by
 cases e with
 | pr a b=>exact .inl ⟨by simp only [Ex.wd];decide,a,b,.inl rfl⟩
 | lk a b=>exact .inl ⟨by simp only [Ex.wd];decide,a,b,.inr rfl⟩
 | _=>exact .inr ⟨by simp only [Ex.wd];decide,λ_ _=>⟨λz=>(by cases z),λz=>(by cases z)⟩⟩
theorem NB {n:Nat}{f:Addr}{fd:FuncData}(F:D4 K "_law_show" "_law_show" BK f fd)(cS:Cl Pr w K mg base n "_law_show" ["_law_value"] (Yq n)):AY Pr w K mg base C5 (n+1) f fd ["_law_value"] (KU n):=by
 refine F.okS jl (λvs H Q E h=>?_) (λBV A outer s H vs Q E hr h=>?_)
 ·obtain ⟨v,r,rfl,_⟩:=h;rfl
 ·obtain ⟨e,r,rfl,he,hv,hd,q⟩:=h
  refine ⟨_,(Ah (B7 (Aw (r:=FT K false) B0 (Ao (r:=AA K) Aj (Ai 0) Ab AO) (Aq (Aa Af (Aa Af Ac))) rfl) (Al (Ar (Aq (Aa Af Ac)))) AN)
   (Ah (B7 (Aw (r:=FT K false) B0 (Ao (r:=AA K) Aj (Ai 0) Ab AO) (Aq (Aa Af (Aa Af Ac))) rfl) (Al (Ar (Aq (Aa (Ao (r:=AA K) Aj (Ai 0) Ab AO) (Aa (B1 cS hr rfl (Aa (Ao (r:=AA K) Aj (Ai 0) Ab AO) Ac)) (Aa (B1 cS hr rfl (Aa (Ao (r:=AA K) Aj (Ai 0) Ab AO) Ac)) Ac)))))) AN)
   (Al (Ar (Ai 0))))),?_⟩
  obtain ⟨p,us,rfl,hp,hi⟩:=he.its
  left
  refine Ad (Av.of hp) (v:=.str e.wd) (Ak (j:=0) rfl) ?_
  left
  intros t1 H1 s1 e1
  refine Bi (.inr (Av.of e1)) rfl rfl ?_
  left
  rcases Vt (e:=e) with ⟨c,hf⟩ | ⟨c,n1,n2⟩
  ·refine AW c ?_
   left
   intros t2 H2 s2 e2
   refine q _ H2 (s1.trans s2) ?_
   rcases hf with ⟨x,b,rfl⟩ | ⟨g,x,b,rfl⟩ <;> exact ⟨t2,rfl,e2⟩
  ·refine AF (by rw [c];decide) ?_
   left
   refine Ad (Av.of (s1 _ _ hp)) (v:=.str e.wd) (Ak (j:=0) rfl) ?_
   left
   intros t2 H2 s2 e2
   refine Bi (.inr (Av.of e2)) rfl rfl ?_
   left
   have BN:=s1.trans s2
   rcases jI (e:=e) with ⟨c',a,b,T8⟩ | ⟨c',n3⟩
   ·refine AW c' ?_
    obtain ⟨h1,h2,h3,h4⟩:e.its=[.pt a,.pt b]/\a.isV=true/\b.isV=true/\∀ p ra rb H',H' p=some (.tup [.str e.wd,ra,rb])->JF H' a ra->JF H' b rb->JF H' e (.ref p):=by
     rcases T8 with rfl | rfl
     ·simp only [Ex.isV,Bool.and_eq_true] at hv
      exact ⟨rfl,hv.1,hv.2,λp ra rb H' h1 h2 h3=>⟨p,ra,rb,rfl,h1,h2,h3⟩⟩
     ·simp only [Ex.isV,Bool.and_eq_true] at hv
      exact ⟨rfl,hv.1,hv.2,λp ra rb H' h1 h2 h3=>⟨p,ra,rb,rfl,h1,h2,h3⟩⟩
    have da:=C0 (e:=e) (a:=a) (by rw [h1];simp)
    have db:=C0 (e:=e) (a:=b) (by rw [h1];simp)
    rw [h1] at hi
    obtain ⟨ra,_,rfl,ha,hi⟩:=Cs hi
    obtain ⟨rb,_,rfl,hb,hi⟩:=Cs hi
    cases Fm hi
    left
    refine Ad (Av.of (BN _ _ hp)) (v:=.str e.wd) (Ak (j:=0) rfl) ?_
    left
    refine Ad (Av.of (BN _ _ hp)) (v:=ra) rfl ?_
    left
    cases n with
    | zero=>omega
    | succ n =>
    refine ⟨a,ra,rfl,B9.mono (Au.of_same BN) ha,h2,(),λr3 H3 s3 a3=>?_⟩
    left
    have D3:=BN.trans s3
    refine Ad (Av.of (D3 _ _ hp)) (v:=rb) rfl ?_
    left
    refine ⟨b,rb,rfl,B9.mono (Au.of_same D3) hb,h3,(),λr4 H4 s4 a4=>?_⟩
    left
    intros t5 H5 s5 e5
    exact q _ H5 (D3.trans (s4.trans s5)) (h4 _ _ _ _ e5 (a3.mono (Au.of_same (s4.trans s5))) (a4.mono (Au.of_same s5)))
   ·refine AF (by rw [c'];decide) ?_
    left
    refine q _ H2 BN ?_
    have:=B9.mono (Au.of_same BN) he
    cases e with
    | num i=>exact this
    | tru b=>exact this
    | emp=>exact this
    | fn x b=>exact absurd rfl (n1 x b)
    | rc g x b=>exact absurd rfl (n2 g x b)
    | pr a b=>exact absurd rfl (n3 a b).1
    | lk a b=>exact absurd rfl (n3 a b).2
    | _=>cases hv
theorem Rl {f:Addr}{fd:FuncData}(D:Df K mg "_law_show" BK ["_law_value"] f fd):∀ n,Cl Pr w K mg base (n+1) "_law_show" ["_law_value"] (KU n)
 | 0=>D.cl (NB (n:=0) D.F (D.cl Ez))
 | n+1=>D.cl (NB (n:=n+1) D.F (Rl D n))
inductive KW (vs:(List V))(H:Hp)(Q:VK)(z3:XK):Prop
 | mk (m:Int) (h1:vs=[.int m]) (h2:∀ i H',An H H'->Q (.int i) H'):KW vs H Q z3
theorem VQ:AE ["_law_number","_law_some"] ["_law_number"] (Ae CY):=nofun
theorem Yr {f:Addr}{fd:FuncData}(F:D4 K "_law_int" "_law_int" CY f fd):AY Pr w K mg base C5 1 f fd ["_law_number"] KW:=by
 refine F.okS VQ (λvs H Q E h=>?_) (λBV A outer s H vs Q E hr h=>?_)
 ·obtain ⟨m,rfl,_⟩:=h;rfl
 ·obtain ⟨m,rfl,q⟩:=h
  refine ⟨_,(Ah (Ay (i:=1) VQ.nd rfl (.inl rfl) (AS (Aa Ab (Aa Ab (Aa (LZ F5 Ab) (Aa Ab (Aa Ab (Aa (As Cu (As Pq Ab Ab) Ab) (Aa (As Cu Ab (As Pq Ab Ab)) (Aa (As Bc (Ai 0) Ab) Ac))))))))))
   (Al (Ar (Ao (r:=Bw K) AJ (Ai 1) (As Bc (As Ck (Ai 0) Ab) Ab) AO)))),?_⟩
  left
  intros l H2 s2 e2
  left
  refine Dg (B3.of e2) (Int.emod_nonneg _ ⟨⟩) (Int.emod_lt_of_pos _ ⟨⟩) λv hv=>?_
  simp only [List.mem_cons,List.not_mem_nil,or_false] at hv
  rcases hv with rfl | rfl | rfl | rfl | rfl | rfl | rfl | rfl <;> exact q _ _ s2
inductive G9 (vs:(List V))(H:Hp)(Q:VK)(z3:XK):Prop
 | mk (m:Int) (h1:vs=[.int m]) (h2:∀ x H',An H H'->Q (.str x) H'):G9 vs H Q z3
theorem Ys:AE ["_law_number"] ["_law_number"] (Ae CD):=nofun
theorem U2 {f:Addr}{fd:FuncData}(F:D4 K "_law_name" "_law_name" CD f fd):AY Pr w K mg base C5 1 f fd ["_law_number"] G9:=by
 refine F.okS Ys (λvs H Q E h=>?_) (λBV A outer s H vs Q E hr h=>?_)
 ·obtain ⟨m,rfl,_⟩:=h;rfl
 ·obtain ⟨m,rfl,q⟩:=h
  refine ⟨_,(Al (Ar (Ao (r:=Bw K) AJ (AS (Aa Af (Aa Af (Aa Af (Aa Af (Aa Af Ac)))))) (As Bc (Ai 0) Ab) AO))),?_⟩
  left
  intros l H2 s2 e2
  left
  refine Dg (B3.of e2) (Int.emod_nonneg _ ⟨⟩) (Int.emod_lt_of_pos _ ⟨⟩) λv hv=>?_
  simp only [List.mem_cons,List.not_mem_nil,or_false] at hv
  rcases hv with rfl | rfl | rfl | rfl | rfl <;> exact q _ _ s2
noncomputable def Rm:Kd->Prop
 | .num | .tru=>True
 | .gap _=>False
 | .ls a=>Rm a
 | .fn a b=>Rm a/\Rm b
 | .pr a b=>Rm a/\Rm b
inductive Dk (K:W.Frag)(n:Nat)(vs:(List V))(H:Hp)(Q:VK)(z3:XK):Prop
 | mk (a:Addr) (ns:List Int) (k:Int) (j:Nat) (h1:vs=[.ref a,.int k,.int j]) (h2:j<=n) (h3:B3 K H a (ns.map V.int)) (h4:∀ t r H',An H H'->BY H' t r->Rm t->dp t<=j->Q r H'):Dk K n vs H Q z3
noncomputable def OD (K:W.Frag):Nat->Sp
 | 0=>Gv
 | n+1=>Dk K n
theorem HB:AE ["_law_script","_law_k","_law_deep","_law_number","_law_word"] ["_law_script","_law_k","_law_deep"] (Ae BH):=nofun
theorem HC {n:Nat}{f:Addr}{fd:FuncData}(F:D4 K "_law_ground" "_law_ground" BH f fd)
  (cM:Cl Pr w K mg base 2 "_law_mix" HG (DY K)) (cG:Cl Pr w K mg base (n+2) "_law_ground" ["_law_script","_law_k","_law_deep"] (OD K n)) :
  AY Pr w K mg base C5 (n+3) f fd ["_law_script","_law_k","_law_deep"] (Dk K n):=by
 refine F.okS HB (λvs H Q E h=>?_) (λBV A outer s H vs Q E hr h=>?_)
 ·obtain ⟨a,ns,k,j,rfl,_⟩:=h;rfl
 ·obtain ⟨a,ns,k,j,rfl,hj,hs,q⟩:=h
  have GK:Bh 2 _:=hr.mono ()
  refine ⟨_,(Ah (Ay (i:=3) HB.nd rfl (.inl rfl) (B1 cM GK rfl (Aa (Ai 0) (Aa (Ai 1) Ac))))
   (Ah (B7 (Gk (w_or (Aw AK (Ai 2) Ab (Am _)) (EX (Aw Gf (As Bc (Ai 3) Ab) Ab (Am _))))) (Al (Ar (Ao (r:=Bw K) AJ (AS (Aa (Aq (Aa Af Ac)) (Aa (Aq (Aa Af Ac)) Ac))) (As Bc (As Ck (Ai 3) Ab) Ab) AO))) AN)
   (Ah (B7 (Aw AK (As Bc (Ai 3) Ab) Ab (Am _)) (Al (Ar (Aq (Aa Af (Aa (B1 cG hr rfl (Aa (Ai 0) (Aa (As AZ (As BE Ab (Ai 1)) Ab) (Aa (As Cu (Ai 2) Ab) Ac)))) Ac))))) AN)
   (Ah (Ay (i:=4) HB.nd rfl (.inl rfl) (Ao (r:=Bw K) AJ (AS (Aa Af (Aa Af Ac))) (As Bc (Ai 3) Ab) AO))
   (Al (Ar (Aq (Aa (Ai 4) (Aa (B1 cG hr rfl (Aa (Ai 0) (Aa (As AZ (As BE Ab (Ai 1)) Ab) (Aa (As Cu (Ai 2) Ab) Ac)))) (Aa (B1 cG hr rfl (Aa (Ai 0) (Aa (As AZ (As BE Ab (Ai 1)) Ab) (Aa (As Cu (Ai 2) Ab) Ac)))) Ac)))))))))),?_⟩
  left
  refine ⟨a,ns,k,rfl,hs,λm hm=>?_⟩
  left
  refine nU ?_ λh0 leaf=>?_
  ·left
   intros p1 H2 s2 e1
   left
   intros p2 H3 s3 e2
   left
   intros p3 H4 s4 e3
   left
   refine Dg (B3.of e3) (Int.emod_nonneg _ ⟨⟩) (Int.emod_lt_of_pos _ ⟨⟩) λv hv=>?_
   have st:=s2.trans (s3.trans s4)
   simp only [List.mem_cons,List.not_mem_nil,or_false] at hv
   rcases hv with rfl | rfl
   ·exact q .num _ _ st ⟨p1,rfl,s4 _ _ (s3 _ _ e1)⟩ trivial (Nat.zero_le _)
   ·exact q .tru _ _ st ⟨p2,rfl,s4 _ _ e2⟩ trivial (Nat.zero_le _)
  ·left
   refine Ep (λ_=>leaf) λ_=>?_
   cases j with
   | zero=>exact absurd (decide_eq_true rfl) h0
   | succ j =>
    obtain ⟨n,rfl⟩:∃ m,n=m+1:=⟨n - 1,()⟩
    left
    refine Ep (λ_=>?_) λ_=>?_
    ·left
     refine ⟨a,ns,_,j,by rw [Oj],(),hs,λt r H1 s1 ha hg hd=>?_⟩
     left
     intros p H2 s2 e2
     exact q (.ls t) _ _ (s1.trans s2) ⟨p,r,rfl,e2,BY.mono (Au.of_same s2) ha⟩ hg (by simp only [dp];omega)
    ·left
     intros l H1 s1 e1
     left
     refine Dg (B3.of e1) (Int.emod_nonneg _ ⟨⟩) (Int.emod_lt_of_pos _ ⟨⟩) λv hv=>?_
     left
     refine ⟨a,ns,_,j,by rw [Oj],(),s1.seq hs,λt1 r1 H2 s2 sM hg1 Tf=>?_⟩
     left
     refine ⟨a,ns,_,j,by rw [Oj],(),(s1.trans s2).seq hs,λt2 r2 H3 s3 ha2 hg2 hd2=>?_⟩
     left
     intros p H4 s4 e4
     have st:=s1.trans (s2.trans (s3.trans s4))
     have k1:=BY.mono (Au.of_same (s3.trans s4)) sM
     have k2:=BY.mono (Au.of_same s4) ha2
     simp only [List.mem_cons,List.not_mem_nil,or_false] at hv
     rcases hv with rfl | rfl
     ·exact q (.fn t1 t2) _ _ st ⟨p,r1,r2,rfl,e4,k1,k2⟩ ⟨hg1,hg2⟩ (by simp only [dp];omega)
     ·exact q (.pr t1 t2) _ _ st ⟨p,r1,r2,rfl,e4,k1,k2⟩ ⟨hg1,hg2⟩ (by simp only [dp];omega)
theorem ID {f:Addr}{fd:FuncData}(DG:Df K mg "_law_ground" BH ["_law_script","_law_k","_law_deep"] f fd)(cM:Cl Pr w K mg base 2 "_law_mix" HG (DY K)):
  ∀ n,Cl Pr w K mg base (n+3) "_law_ground" ["_law_script","_law_k","_law_deep"] (Dk K n)
 | 0=>DG.cl (HC (n:=0) DG.F cM (DG.cl Ez))
 | n+1=>DG.cl (HC (n:=n+1) DG.F cM (ID DG cM n))
noncomputable def U3 (H:Hp)(r:V)(x:Str × Kd):Prop:=D1 λp rk=>r=.ref p/\H p=some (.tup [.str x.1,rk])/\BY H x.2 rk
theorem U3.mono {H H':Hp}(s:Au H H'){r:V}{x:Str × Kd}(h:U3 H r x):U3 H' r x:=by
 obtain ⟨p,rk,h1,h2,h3⟩:=h
 exact ⟨p,rk,h1,s _ _ h2,BY.mono s h3⟩
noncomputable def Yt (H:Hp)(rs:List V)(xs:List (Str × Kd)):Prop:=Paired (U3 H) rs xs
theorem Yt.mono {H H':Hp}(s:Au H H'){rs:List V}{xs:List (Str × Kd)}(h:Yt H rs xs):Yt H' rs xs:=Paired.mapP h λ_ _ z=>U3.mono s z
noncomputable def HD (H:Hp)(l:Addr)(xs:List (Str × Kd)):Prop:=∃ rs,H l=some (.lst rs)/\Yt H rs xs
theorem HD.mono {H H':Hp}(s:An H H'){l:Addr}{xs:List (Str × Kd)}(h:HD H l xs):HD H' l xs:=by
 obtain ⟨rs,h1,h2⟩:=h
 exact ⟨rs,s _ _ h1,h2.mono (Au.of_same s)⟩
noncomputable def Gr (more:List (Str × Kd))(x:Str × Kd):Bool:=!Cr (.str x.1) (more.map λm=>V.str m.1)
noncomputable def jJ (xs more:List (Str × Kd)):List (Str × Kd):=xs.filter (Gr more)++more
theorem EN {xs more:List (Str × Kd)}{z:Str × Kd}(h:z∈jJ xs more):z∈more\/z∈xs:=by
 rcases List.mem_append.mp h with h | h
 ·exact .inr (List.mem_filter.mp h).1
 ·exact .inl h
theorem FJ (xs more:List (Str × Kd)):(jJ xs more).length<=xs.length+more.length:=by
 unfold jJ
 rw [List.length_append]
 have:=List.length_filter_le (Gr more) xs
 omega
inductive Fg (vs:(List V))(H:Hp)(Q:VK)(z3:XK):Prop
 | mk (l m:Addr) (xs more:List (Str × Kd)) (h1:vs=[.ref l,.ref m]) (h2:HD H l xs) (h3:HD H m more) (h4:xs.length+more.length<=10000) (h5:∀ p H',An H H'->HD H' p (jJ xs more)->Q (.ref p) H'):Fg vs H Q z3
theorem Rn:AE ["_law_names","_law_more","_law_kept"] ["_law_names","_law_more"] (Ae BI):=nofun
noncomputable def Mm:Expr:=valueOf (inDef BI 0)
noncomputable def Yu:Expr:=match Mm with
 | .ListComp _ [⟨_,_,[.Compare _ _ [e] _],_⟩] _ _=>e
 | _=>.Constant .none 0 ⟨0,0,0,0⟩
theorem U4 {f:Addr}{fd:FuncData}(F:D4 K "_law_with" "_law_with" BI f fd):AY Pr w K mg base C5 1 f fd ["_law_names","_law_more"] Fg:=by
 refine F.okS Rn (λvs H Q E h=>?_) (λBV A outer s H vs Q E hr h=>?_)
 ·obtain ⟨l,m,xs,more,rfl,_⟩:=h;rfl
 ·obtain ⟨l,m,xs,more,rfl,hl,hm,hn,q⟩:=h
  have S:Bx (DP C5 Pr w K mg base ["_law_names","_law_more","_law_kept"] "_law_with" (Ae BI) f BV A outer s H E).nox (Cw Mm) [("_law_more",s.heap.objs.size+1)] ["_law_one"] ["_law_more"] [1] :=
   ⟨rfl,by decide +kernel,rfl,by decide +kernel,rfl,rfl,rfl,rfl⟩
  have S2:∀ C s0 H0 ex,Bx ((DP C5 Pr w K mg base ["_law_names","_law_more","_law_kept"] "_law_with" (Ae BI) f BV A outer s H E).nox.cmp (Cw Mm) [("_law_more",s.heap.objs.size+1)] ["_law_one"] ["_law_more"] C s0 H0 ex) (Cw Yu) [] ["_law_new"] [] [] :=
   λC s0 H0 ex=>⟨rfl,by decide +kernel,rfl,by decide +kernel,rfl,rfl,rfl,rfl⟩
  have Hw:(["_law_one","_law_more"]:List Str).Nodup:=by decide +kernel
  have nd2:(["_law_new"]:List Str).Nodup:=by decide +kernel
  refine ⟨_,Ah (F' (i:=2) Rn.nd rfl (.inl rfl) (tt:=JN (Fl (FT K true) (Fl (AA K) (Bv 0) (tC (.int 0))) (MW ["_law_new"] [] (MD K (Bv 1)) (D2 0) HM (Fl (AA K) (Bv 0) (tC (.int 0)))))) (te:=Bv 0) S rfl (E7 (Ai 0)) (λC s0 H0 ex=>BF (i:=0) Hw rfl (.inl rfl))
    (λC s0 H0 ex=>Qk (Aw Ft (Ao Aj (Ai 0) Ab AO) (F9 (te:=Fl (AA K) (Bv 0) (tC (.int 0))) (S2 C s0 H0 ex) rfl (E7 (Ai 1)) (λC' sg H0' ex'=>BF (i:=0) nd2 rfl (.inl rfl)) (λ_ _ _ _=>EZ) (λC' sg H0' ex'=>Ao Aj (Ai 0) Ab AO)) rfl))
    (λC s0 H0 ex=>Ai 0))
   (Al (Ar (As Bf (Ai 2) (Ai 1)))),?_⟩
  obtain ⟨rs,Pa,GC⟩:=hl
  obtain ⟨ms,Yv,oH⟩:=hm
  have lr:=Paired.len GC
  have lm:=Paired.len oH
  left
  refine ⟨l,rfl,⟨_,B3.of Pa⟩,?_⟩
  refine EM (K:=K) (a:=l) (xs:=rs) (λi ys H'=>An H H'/\Yt H' ys ((xs.take i).filter (Gr more))) ⟨An.refl _,.nil⟩ (λi ys H' z=>B3.of (z.1 _ _ Pa)) (by exact D5 ()) (λi ys H' z=>?_) rfl (λi x ys H1 hx z=>?_) (λys H1 z=>?_)
  ·rw [Paired.len z.2]
   exact Nat.le_trans (List.length_filter_le _ _) (by rw [List.length_take];omega)
  ·obtain ⟨s1,z⟩:=z
   obtain ⟨x0,jK,p,rk,rfl,h2,h3⟩:=Paired.at1 GC hx
   left
   refine Ad (Av.of (s1 _ _ h2)) rfl ?_
   left
   refine ⟨m,rfl,⟨_,B3.of (s1 _ _ Yv)⟩,?_⟩
   refine EM (K:=K) (a:=m) (xs:=ms) (λj zs H'=>H'=H1/\zs=(more.take j).map λm=>V.str m.1) ⟨rfl,rfl⟩ (λj zs H' z=>B3.of (by rw [z.1];exact s1 _ _ Yv)) (by exact D5 ()) (λj zs H' z=>?_) rfl (λj y zs H2 hy z=>?_) (λzs H2 z=>?_)
   ·rw [z.2,List.length_map,List.length_take];omega
   ·obtain ⟨rfl,rfl⟩:=z
    obtain ⟨y0,hy0,p',rk',rfl,h2',h3'⟩:=Paired.at1 oH hy
    have hj:=(List.getElem?_eq_some_iff.mp hy0).1
    left
    refine CT ?_
    left
    refine Ad (Av.of (s1 _ _ h2')) rfl ?_
    refine Nx.mk () ⟨rfl,?_⟩
    rw [List.take_succ,hy0]
    simp
   ·obtain ⟨rfl,rfl⟩:=z
    intros d H3 s3 e3
    refine Bi (.inl (B3.of e3)) rfl (by rw [List.all_eq_true];intro v hv;obtain ⟨_,_,rfl⟩:=List.mem_map.mp hv;rfl) ?_
    left
    have hi:=(List.getElem?_eq_some_iff.mp jK).1
    have e5:(more.take ms.length)=more:=by rw [lm,List.take_length]
    rw [e5]
    have hk:(if true=true then !Cr (.str x0.1) (more.map λm=>V.str m.1) else Cr (.str x0.1) (more.map λm=>V.str m.1))=Gr more x0:=rfl
    rw [hk]
    cases ek:Gr more x0 with
    | true =>
     refine CT ?_
     left
     refine Nx.mk () ⟨s1.trans s3,?_⟩
     rw [List.take_succ,jK,List.filter_append]
     refine Paired.app (z.mono (Au.of_same s3)) ?_
     show Yt H3 [.ref p] (List.filter (Gr more) [x0])
     rw [List.filter_cons,ek]
     exact .cons ⟨p,rk,rfl,s3 _ _ (s1 _ _ h2),BY.mono (Au.of_same (s1.trans s3)) h3⟩ .nil
    | false =>
     refine Cm (Nx.mk () ⟨s1.trans s3,?_⟩)
     rw [List.take_succ,jK,List.filter_append]
     show Yt H3 ys (_++List.filter (Gr more) [x0])
     rw [List.filter_cons,ek]
     simp only [Bool.false_eq_true,↓reduceIte,List.filter_nil,List.append_nil]
     exact z.mono (Au.of_same s3)
  ·obtain ⟨s1,z⟩:=z
   rw [lr,List.take_length] at z
   intros d H2 s2 e2
   left
   have ly:=Paired.len z
   have lf:=List.length_filter_le (Gr more) xs
   refine Dp e2 (s2 _ _ (s1 _ _ Yv)) (BX ()) λp H3 _ s3 e3=>?_
   exact q p H3 (s1.trans (s2.trans s3)) ⟨_,e3,Paired.app (z.mono (Au.of_same (s2.trans s3))) (oH.mono (Au.of_same (s1.trans (s2.trans s3))))⟩
end
end K
namespace K
open PySem L2 KM KS
noncomputable def OG:List Kd->List Kd->Option (List (Int × Kd))
 | a::as,b::bs=>(prs a b).bind λx=>(OG as bs).map λy=>x++y
 | [],[]=>some []
 | _,_=>none
theorem OI {a b:Kd}(g:Ee a=false)(h:word a=word b):prs a b=OG (parts a) (parts b)/\(parts a).length=(parts b).length/\Ee b=false:=by
 have ht:tag a=tag b:=by
  rw [GD,GD] at h
  have:=JX (tag a) (by cases a <;> simp [tag]) (tag b) (by cases b <;> simp [tag])
  rw [h] at this
  simpa using this
 cases a <;> cases b <;> simp [Ee,tag] at g ht
 ·exact ⟨rfl,rfl,rfl⟩
 ·exact ⟨rfl,rfl,rfl⟩
 ·rename_i a1 a2 b1 b2
  refine ⟨?_,rfl,rfl⟩
  show (prs a1 b1).bind _=(prs a1 b1).bind λx=>((prs a2 b2).bind λy=>some (y++[])).map λy=>x++y
  cases prs a1 b1 <;> cases prs a2 b2 <;> simp
 ·rename_i a1 a2 b1 b2
  refine ⟨?_,rfl,rfl⟩
  show (prs a1 b1).bind _=(prs a1 b1).bind λx=>((prs a2 b2).bind λy=>some (y++[])).map λy=>x++y
  cases prs a1 b1 <;> cases prs a2 b2 <;> simp
 ·rename_i a1 b1
  refine ⟨?_,rfl,rfl⟩
  show prs a1 b1=(prs a1 b1).bind λx=>some (x++[])
  cases prs a1 b1 <;> simp
theorem Mn {a b:Kd}(g:Ee a=false)(h:word a≠word b):prs a b=none:=by
 cases a <;> cases b <;> first | rfl | (simp [Ee] at g;done) | exact absurd rfl h
theorem Fh:∀ {as bs cs ds:List Kd},as.length=bs.length->OG (as++cs) (bs++ds)=(OG as bs).bind λx=>(OG cs ds).map λy=>x++y
 | [],[],cs,ds,_=>by simp [OG]
 | a::as,b::bs,cs,ds,h=>by
  have ih:=Fh (cs:=cs) (ds:=ds) (show as.length=bs.length by simpa using h)
  simp only [List.cons_append,OG,ih]
  cases prs a b <;> cases OG as bs <;> cases OG cs ds <;> simp
abbrev ED (H:Hp):List (Int × Kd)->List V->Prop:=Paired (λp v=>D1 λa u=>v=.ref a/\H a=some (.tup [.int p.1,u])/\BY H p.2 u)
theorem ED.mono {H H':Hp}(s:Au H H'){ps:List (Int × Kd)}{us:List V}(h:ED H ps us):ED H' ps us :=
 Paired.mapP h λp v ⟨a,u,e,h1,h2⟩=>⟨a,u,e,s _ _ h1,BY.mono s h2⟩
section
variable {Pr:Program}{w:World}{K:W.Frag}{mg:Str->Option Value}{base:Heap}
inductive FK (n:Nat)(vs:(List V))(H:Hp)(Q:VK)(z3:XK):Prop
 | mk (a b:Kd) (v u:V) (h1:vs=[v,u]) (h2:BY H a v) (h3:BY H b u) (h4:dp a<=n) (h5:sz a<=1000) (h6:(prs a b=none->∀ H',An H H'->Q .non H')) (h7:∀ ps,prs a b=some ps->∀ l us H',An H H'->H l=none->H' l=some (.lst us)->ED H' ps us->Q (.ref l) H'):FK n vs H Q z3
noncomputable def Ro:Nat->Sp
 | 0=>Gv
 | n+1=>FK n
theorem FL:AE ["_law_wide","_law_kind","_law_found","_law_k","_law_more"] ["_law_wide","_law_kind"] (Ae EB):=nofun
theorem Rp {t s:Kd}(h:s∈parts t):sz s < sz t:=by
 cases t <;> simp [parts] at h
 ·rcases h with rfl | rfl <;> simp only [sz] <;> omega
 ·rcases h with rfl | rfl <;> simp only [sz] <;> omega
 ·subst h;simp only [sz];omega
theorem NC:∀ (as bs:List Kd) (l:List (Int × Kd)),OG as bs=some l->l.length<=szs as
 | [],[],l,h=>by cases h;simp
 | [],_::_,l,h=>by cases h
 | _::_,[],l,h=>by cases h
 | a::as,b::bs,l,h=>by
  obtain ⟨u,v,h1,h2,rfl⟩:=EA h
  have i1:=DE a b u h1
  have i2:=NC as bs v h2
  simp only [List.length_append,szs]
  omega
theorem OJ (ts:List Kd)(i:Nat):szs (ts.take i)<=szs ts:=by
 conv=>rhs;rw [<- List.take_append_drop i ts]
 rw [F8]
 omega
theorem NF {x:V}{us:List V}{i:Nat}{v:V}(h:us[i]?=some v):MN (x::us) (1+(i:Int))=some v:=by
 rw [show (1:Int)+(i:Int)=((i+1:Nat):Int) by omega]
 exact Ak (by simpa using h)
theorem IE {f:Addr}{fd:FuncData}{n:Nat}(F:D4 K "_law_pairs" "_law_pairs" EB f fd)(bi:Binds K fd ["_law_wide","_law_kind"] [])(mf:mg "_law_pairs"=some (.ref f))(mR:mg "range"=none)(Mh:mg "len"=none)
  (G:AY Pr w K mg base C5 (n+1) f fd ["_law_wide","_law_kind"] (Ro n)):AY Pr w K mg base C5 (n+2) f fd ["_law_wide","_law_kind"] (FK n):=by
 refine F.okS FL (λvs H Q E h=>?_) (λBV A outer s H vs Q E hr h=>?_)
 ·obtain ⟨a,b,v,u,rfl,_⟩:=h
  rfl
 ·obtain ⟨a,b,v,u,rfl,kv,ku,hdp,hsz,qn,qs⟩:=h
  have hb:=Ey
  obtain ⟨pa,us,ea,ha,HU,jL,oI⟩:=kv.look
  subst ea
  obtain ⟨pb,VH,eb,ox,oo,hgb,Aj5⟩:=ku.look
  subst eb
  refine ⟨_,Ah (B7 (Aw AK (Ao Aj (Ai 0) Ab AO) Af (Am _)) (Al (Ar (AS (Aa (Aq (Aa (Ao Aj (Ai 0) Ab AO) (Aa (Ai 1) Ac))) Ac)))) AN)
   (Ah (B7 (Aw Pw (Ao Aj (Ai 0) Ab AO) (Ao Aj (Ai 1) Ab AO) (Am _)) (Al (Ar Hd)) AN)
   (Ah (Ay (i:=2) FL.nd rfl (.inl rfl) (AS Ac))
   (Ah (J' PassesOwn.never rfl (Qj rfl mR (Aa Ab (Aa (AH Ax rfl Mh PySem.boot_len (Aa (Ai 0) Ac)) Ac))) (BF (i:=3) FL.nd rfl (.inl rfl))
    (Ah (Ay (i:=4) FL.nd rfl (.inl rfl) (LQ G hr rfl mf F.kp bi (Aa (Ao Aj (Ai 0) (Ai 3) AO) (Aa (Ao Aj (Ai 1) (Ai 3) AO) Ac))))
    (Ah (B7 (Aw Ls (Ai 4) Hd rfl) (Al (Ar Hd)) AN)
    (Al (Ay (i:=2) FL.nd rfl (.inl rfl) (As Bf (Ai 2) (Ai 4)))))))
   (Al (Ar (Ai 2)))))),?_⟩
  refine ⟨_,rfl,pa,_,_,_,rfl,rfl,Av.of ha,Ak (j:=0) rfl,rfl,_,rfl,?_⟩
  rw [SY]
  cases e:Ee a with
  | true =>
   obtain ⟨k,rfl⟩:∃ k,a=.gap k:=by cases a <;> simp [Ee] at e;exact ⟨_,rfl⟩
   obtain rfl:=jL k rfl
   refine CT ⟨_,rfl,pa,_,_,_,rfl,rfl,Av.of ha,Ak (j:=1) rfl,_,rfl,by show 2<=sizeLine;omega,λp hp=>⟨by show 1<=sizeLine;omega,λl hl=>?_⟩⟩
   have oJ:p≠l:=λz=>by rw [<- z,AG] at hl;cases hl
   have sN:H l=none:=by rw [AQ (Ne.symm oJ)] at hl;exact hl
   have sm:An H (upd (upd H p (.tup [.int k,.ref pb])) l (.lst [.ref p])):=An.put (An.new hp) sN
   exact qs _ rfl l _ _ sm sN AG (.cons ⟨p,_,rfl,by rw [AQ oJ,AG],BY.mono (Au.of_same sm) ku⟩ .nil)
  | false =>
   refine Cm ⟨_,rfl,pa,_,_,_,rfl,rfl,Av.of ha,Ak (j:=0) rfl,_,rfl,pb,_,_,_,rfl,rfl,Av.of ox,Ak (j:=0) rfl,rfl,_,rfl,?_⟩
   by_cases hw:word a=word b
   ·refine AF (by simp [hw]) ?_
    obtain ⟨ep,jM,egb⟩:=OI e hw
    have pk:=HU e
    have pk':=oo egb
    have hlen:us.length=(parts a).length:=(Paired.length pk).symm
    have Vc:VH.length=(parts b).length:=(Paired.length pk').symm
    have E4:=Oc a
    have Aj7:=Ob a
    refine ⟨by simp,λlf EU=>?_⟩
    have sM:(upd H lf (.lst [])) pa=some (.tup (.str (word a)::us)):=by rw [AQ (Ba ha EU)];exact ha
    have Agi:(((us.length+1:Nat):Int) - 1).toNat=us.length:=by omega
    refine ⟨_,rfl,pa,_,rfl,.inr (Av.of sM),1,_,rfl,⟨(),(),by show -(2 ^ 62)<=((us.length+1:Nat):Int);omega,by show ((us.length+1:Nat):Int) < 2 ^ 62;omega⟩,?_⟩
    show ∃ W:Nat->Nat->St->Hp->Prop,_
    have jN:(((V.str (word a)::us).length:Int) - 1).toNat=us.length:=by simp
    rw [jN]
    refine I0 (λi σ H2=>RF λlg kk mm acc VS=>σ=[some (.ref pa),some (.ref pb),some (.ref lg),kk,mm]/\An H H2/\OG ((parts a).take i) ((parts b).take i)=some acc/\H lg=none/\H2 lg=some (.lst VS)/\ED H2 acc VS)
     ⟨lf,none,none,[],[],rfl,An.new EU,rfl,EU,AG,.nil⟩ (λi σ H2 hi z=>?_) (fun σ H2 z=>?_)
    ·obtain ⟨lg,kk,mm,acc,VS,rfl,sm,Hc,jO,sO,U5⟩:=z
     obtain ⟨x,hx⟩:∃ x,us[i]?=some x:=⟨_,List.getElem?_eq_getElem ()⟩
     obtain ⟨x',QA⟩:∃ x',VH[i]?=some x':=⟨_,List.getElem?_eq_getElem ()⟩
     obtain ⟨s1,oK,kx⟩:=Paired.at pk hx
     obtain ⟨s2,Po,nA⟩:=Paired.at pk' QA
     have Kf:=List.mem_of_getElem? oK
     have DN:=S' Kf
     have Aj8:=Rp Kf
     have hal:=NC _ _ _ Hc
     have Aj9:=OJ (parts a) i
     have taken:((parts a).take i).length=((parts b).take i).length:=by rw [List.length_take,List.length_take,jM]
     have VT:OG ((parts a).take (i+1)) ((parts b).take (i+1))=(prs s1 s2).map λy=>acc++y:=by
      rw [List.take_add_one,List.take_add_one,oK,Po]
      show OG (_++[s1]) (_++[s2])=_
      rw [Fh taken,Hc]
      show (((prs s1 s2).bind λx=>some (x++[])).map λy=>acc++y)=_
      cases prs s1 s2 <;> simp
     refine ⟨_,rfl,_,rfl,pa,_,_,_,rfl,rfl,Av.of (sm pa _ ha),NF hx,_,rfl,_,rfl,pb,_,_,_,rfl,rfl,Av.of (sm pb _ ox),NF QA,?_⟩
     cases n with
     | zero=>omega
     | succ n =>
      refine ⟨s1,s2,x,x',rfl,BY.mono (Au.of_same sm) kx,BY.mono (Au.of_same sm) nA,(),(),λen H3 VU=>?_,λps Yw l3 sP H3 VU Aka jq p3=>?_⟩
      ·refine ⟨_,rfl,rfl,_,rfl,AW rfl ?_⟩
       refine qn ?_ H3 (An.trans sm VU)
       rw [ep,<- List.take_append_drop (i+1) (parts a),<- List.take_append_drop (i+1) (parts b),Fh (by rw [List.length_take,List.length_take,jM]),VT,en]
       rfl
      ·refine ⟨_,rfl,rfl,_,rfl,AF (by simp) ?_⟩
       have hg3:=VU lg _ sO
       have oM:=DE _ _ _ Yw
       have h2l:VS.length=acc.length:=(Paired.length U5).symm
       have h3l:sP.length=ps.length:=(Paired.length p3).symm
       refine ⟨_,rfl,_,rfl,lg,l3,VS,sP,rfl,rfl,hg3,jq,(),λr sQ=>?_⟩
       have sm':=An.trans sm VU
       have jP:H r=none:=sm'.free sQ
       refine ⟨r,_,_,acc++ps,VS++sP,rfl,An.put sm' jP,?_,jP,AG,?_⟩
       ·rw [VT,Yw];rfl
       ·exact Paired.app (ED.mono (Au.trans (Au.of_same VU) (Au.new sQ)) U5) (ED.mono (Au.new sQ) p3)
    ·obtain ⟨lg,kk,mm,acc,VS,rfl,sm,Hc,jO,sO,U5⟩:=z
     refine ⟨_,rfl,?_⟩
     have h1:(parts a).take us.length=parts a:=List.take_of_length_le ()
     have h2:(parts b).take us.length=parts b:=List.take_of_length_le ()
     rw [h1,h2] at Hc
     exact qs acc (by rw [ep];exact Hc) lg VS H2 sm jO sO U5
   ·refine AW (by simp [hw]) ?_
    exact qn (Mn e hw) H (An.refl H)
theorem KY {f:Addr}{fd:FuncData}(F:D4 K "_law_pairs" "_law_pairs" EB f fd)(bi:Binds K fd ["_law_wide","_law_kind"] [])(mf:mg "_law_pairs"=some (.ref f))(mR:mg "range"=none)(Mh:mg "len"=none):
  ∀ n,AY Pr w K mg base C5 (n+2) f fd ["_law_wide","_law_kind"] (FK n)
 | 0=>IE F bi mf mR Mh Ez
 | n+1=>IE F bi mf mR Mh (KY F bi mf mR Mh n)
theorem ED.list {H:Hp}:∀ {ps:List (Int × Kd)} {us:List V},ED H ps us->∃ qs:List (Addr × Key × V),us=qs.map (λq=>V.ref q.1)/\(∀ q∈qs,H q.1=some (.tup [kV q.2.1,q.2.2]))/\Paired (λp q=>q.2.1=(Sum.inl p.1:Key)/\BY H p.2 q.2.2) ps qs
 | _,_,.nil=>⟨[],rfl,(λq hq=>by cases hq),.nil⟩
 | _,_,.cons (a:=p) ⟨a,u,e,h1,h2⟩ t=>by
  obtain ⟨qs,e2,h3,h4⟩:=ED.list t
  subst e
  refine ⟨(a,Sum.inl p.1,u)::qs,by rw [e2];rfl,λq hq=>?_,.cons ⟨rfl,h2⟩ h4⟩
  rcases List.mem_cons.mp hq with rfl | hq
  ·exact h1
  ·exact h3 q hq
theorem IF {H:Hp}:∀ {ps:List (Int × Kd)} {qs:List (Addr × Key × V)} (AI:List (Key × V)) (m:Int->Option Kd),Paired (λp q=>q.2.1=(Sum.inl p.1:Key)/\BY H p.2 q.2.2) ps qs->DD H AI m ->
  DD H (qs.foldl (λm p=>putK m p.2.1 p.2.2) AI) (λk=>ps.foldl (λm p=>if p.1=k then some p.2 else m) (m k))
 | _,_,AI,m,.nil,h=>h
 | _,_,AI,m,.cons (a:=p) (b:=q) ⟨e,kq⟩ t,h=>by
  have ih:=IF (putK AI q.2.1 q.2.2) (λj=>if j=p.1 then some p.2 else m j) t (by rw [e];exact DD.put h kq)
  have e2:∀ k,(if p.1=k then some p.2 else m k)=(if k=p.1 then some p.2 else m k):=λk=>by
   by_cases z:p.1=k
   ·rw [if_pos z,if_pos z.symm]
   ·rw [if_neg z,if_neg (λy=>z y.symm)]
  simp only [List.foldl_cons,e2]
  exact ih
inductive EO (n:Nat)(vs:(List V))(H:Hp)(Q:VK)(z3:XK):Prop
 | mk (a b:Kd) (v u:V) (h1:vs=[v,u]) (h2:BY H a v) (h3:BY H b u) (h4:dp a<=n) (h5:sz a<=1000) (h6:dp b<=60) (h7:∀ H',An H H'->Q (.bl (wd a b)) H'):EO n vs H Q z3
theorem JA:AE ["_law_wide","_law_kind","_law_pairs_here","_law_told"] ["_law_wide","_law_kind"] (Ae E9):=nofun
theorem Rq {f fP:Addr}{fd jQ:FuncData}{n:Nat}(F:D4 K "_law_wider" "_law_wider" E9 f fd)(mD:mg "dict"=none)(mA:mg "all"=none)
  (GP:AY Pr w K mg base C5 (n+2) fP jQ ["_law_wide","_law_kind"] (FK n)) (kP:W.keepIn K (.ref fP)=true) (bP:Binds K jQ ["_law_wide","_law_kind"] []) (mP:mg "_law_pairs"=some (.ref fP)) :
  AY Pr w K mg base C5 (n+3) f fd ["_law_wide","_law_kind"] (EO n):=by
 refine F.okS JA (λvs H Q E h=>?_) (λBV A outer s H vs Q E hr h=>?_)
 ·obtain ⟨a,b,v,u,rfl,_⟩:=h
  rfl
 ·obtain ⟨a,b,v,u,rfl,kv,ku,hdp,hsz,FR,q⟩:=h
  have hb:=Ey
  have hu:=Hb hr
  have FG:=hr.units
  have S:Bx (DP C5 Pr w K mg base ["_law_wide","_law_kind","_law_pairs_here","_law_told"] "_law_wider" (Ae E9) f BV A outer s H E).nox (Cw (Jr (valueOf (inDef E9 3)))) [("_law_told",s.heap.objs.size+1)] ["_law_gap","_law_part"] ["_law_told"] [3] :=
   ⟨rfl,by decide +kernel,rfl,by decide +kernel,rfl,rfl,rfl,rfl⟩
  refine ⟨_,Ah (Ay (i:=2) JA.nd rfl (.inl rfl) (LQ GP hr rfl mP kP bP (Aa (Ai 0) (Aa (Ai 1) Ac))))
   (Ah (B7 (Aw Ls (Ai 2) Hd rfl) (Al (Ar ES)) AN)
   (Ah (Ay (i:=3) JA.nd rfl (.inr rfl) (Cg (HN rfl) rfl mD PyProof.Rows.boot_dict (Aa (Ai 2) Ac)))
   (Al (Ar (AH (FY rfl) rfl mA PyProof.Rows.boot_all (Aa (F9 (g:=Lm K 2 (El (D2 0) (El (D2 1) NQ))) (te:=Fl X3 (MT (Bv 2) (Bv 0)) (Bv 1)) S rfl (E7 (Ai 2))
    (λC s0 H0 ex=>K7 rfl (De (BF (i:=0) (show (["_law_gap","_law_part","_law_told"]:List Str).Nodup by decide +kernel) rfl (.inl rfl)) (De (BF (i:=1) (show (["_law_gap","_law_part","_law_told"]:List Str).Nodup by decide +kernel) rfl (.inl rfl)) Hh)))
    (λ_ _ _ _=>EZ) (λC s0 H0 ex=>Cc (X4 FG) (Qi hu (Ai 2) (Ai 0) AO) (Ai 1) (Am _))) Ac)))))),?_⟩
  refine ⟨_,rfl,_,rfl,a,b,v,u,rfl,kv,ku,hdp,hsz,λen H1 jR=>?_,λps Yw l us H1 jR sN Pa pu=>?_⟩
  ·refine ⟨_,rfl,rfl,_,rfl,AW rfl ?_⟩
   have e1:wd a b=false:=by unfold wd;rw [en]
   have:=q H1 jR
   rw [e1] at this
   exact this
  ·refine ⟨_,rfl,rfl,_,rfl,AF (by simp) ?_⟩
   obtain ⟨qs,eu,hq,pq⟩:=ED.list pu
   subst eu
   have hql:qs.length=ps.length:=(Paired.length pq).symm
   have E4:=DE _ _ _ Yw
   refine ⟨_,rfl,l,qs,rfl,Pa,hq,λd hd=>?_⟩
   have dk0:DD H1 (putAll qs) (Iq ps):=IF [] (λ_=>none) pq DD.nil
   have sd:An H1 (upd H1 d (.dK (putAll qs))):=An.new hd
   have GC:(upd H1 d (.dK (putAll qs))) l=some (.lst (qs.map λq=>V.ref q.1)):=sd l _ Pa
   generalize hH2:upd H1 d (.dK (putAll qs))=H2 at sd GC ⊢
   have hd2:H2 d=some (.dK (putAll qs)):=by rw [<- hH2,AG]
   have dk:=DD.mono (Au.of_same sd) dk0
   refine ⟨_,rfl,l,rfl,⟨_,B3.of GC⟩,?_⟩
   refine Oi (K:=K) (a:=l) (xs:=qs.map λq=>V.ref q.1) (λi ys H3=>H3=H2/\ys=((ps.take i).map λp=>decide (Iq ps p.1=some p.2)).map V.bl) ⟨rfl,rfl⟩ (λi ys H3 z=>by rw [z.1];exact B3.of GC) (by rw [List.length_map];omega)
    (λi ys H3 z=>?_) (λi x ys H3 hx z=>?_) (λx σ H Q Q' h z=>?_) (fun σ H Q Q' h z=>h _ _ z) (fun σ H Q Q' h z=>?_) (λys H3 z=>?_)
   ·rw [z.2,List.length_map,List.length_map,List.length_take];omega
   ·obtain ⟨rfl,rfl⟩:=z
    rw [List.getElem?_map] at hx
    cases eq:qs[i]? with
    | none=>rw [eq] at hx;cases hx
    | some q0 =>
     rw [eq] at hx
     cases hx
     obtain ⟨p0,EC,ek,kq⟩:=Paired.at pq eq
     have ht:=sd _ _ (hq q0 (List.mem_of_getElem? eq))
     refine ⟨q0.1,_,rfl,Av.of ht,rfl,_,_,rfl,_,_,rfl,rfl,⟨rfl,?_⟩,Ql ?_⟩
     ·intro j v hj
      cases j with
      | zero=>cases hj
      | succ j=>cases j with
       | zero=>cases hj
       | succ j=>exact hj
     ·have hmp:=List.mem_of_getElem? EC
      obtain ⟨p1,Oy,FE,Iy⟩:=Og hmp
      rcases dk p0.1 with ⟨_,z2⟩ | ⟨v',t',z1,z2,z3⟩
      ·rw [Iy] at z2;cases z2
      refine ⟨_,rfl,_,rfl,d,v',rfl,?_,_,rfl,t',p0.2,z3,BY.mono (Au.of_same sd) kq,?_,?_,?_⟩
      ·have:=Dx.k (k:=q0.2.1) hd2
       rw [ek,z1] at this
       rw [ek]
       exact this
      ·rw [Iy] at z2
       cases z2
       exact Nat.le_trans (Fb _ _ _ Yw p1 Oy) FR
      ·exact Nat.le_trans (Fb _ _ _ Yw p0 hmp) FR
      ·refine ⟨rfl,?_⟩
       rw [List.take_add_one,EC,List.map_append,List.map_append]
       show _=_++[V.bl (decide (Iq ps p0.1=some p0.2))]
       have e3:decide (some t'=some p0.2)=decide (t'=p0.2):=by simp
       rw [z2,e3]
   ·obtain ⟨a1,x1,z1,z2,z3,v1,r1,z4,v2,r2,z5,z6,z7⟩:=z
    exact ⟨a1,x1,z1,z2,z3,v1,r1,z4,v2,r2,z5,z6,h _ _ z7⟩
   ·obtain ⟨v1,z1,v2,z2,a1,v3,z3,z4,v4,z5,t1,t2,z6,z7,z8,z9,z10⟩:=z
    exact ⟨v1,z1,v2,z2,a1,v3,z3,z4,v4,z5,t1,t2,z6,z7,z8,z9,h _ _ z10⟩
   ·obtain ⟨rfl,rfl⟩:=z
    intro D hD
    refine ⟨D,_,rfl,AG,?_⟩
    rw [List.length_map,hql,List.take_length]
    have e1:((ps.map λp=>decide (Iq ps p.1=some p.2)).all id)=wd a b:=by
     unfold wd
     rw [Yw,List.all_map]
     rfl
    rw [e1]
    exact q _ (An.put (An.trans jR sd) ((An.trans jR sd).free hD))
end
open KX
section
variable {Pr:Program}{w:World}{K:W.Frag}{mg:Str->Option Value}{base:Heap}
noncomputable def sk:Kd->Nat
 | .num | .tru | .gap _=>1
 | .ls a=>1+sk a
 | .fn _ b=>1+sk b
 | .pr a b=>1+sk a+sk b
theorem Yx (t:Kd):1<=sk t:=by cases t <;> simp [sk] <;> omega
noncomputable def cc:Nat->Nat
 | 0=>0
 | d+1=>2 * cc d+4
noncomputable def B (d p:Nat):Nat:=p+cc d
noncomputable def C:Nat->Nat->Nat
 | 0,s=>s
 | d+1,s=>1+C d 11+C d (1+s)+2 * C d s
theorem Ea (d:Nat){p q:Nat}(h:p<=q):B d p<=B d q:=Nat.add_le_add_right h _
theorem Dd:∀ (d:Nat) {p q:Nat},p<=q->C d p<=C d q
 | 0,_,_,h=>h
 | d+1,p,q,h=>by have:=Dd d h;have:=Dd d (Nat.add_le_add_left h 1);simp only [C];omega
theorem jS:∀ (d p:Nat),p<=C d p
 | 0,_=>Nat.le_refl _
 | d+1,p=>by have:=jS d p;simp only [C];omega
theorem IG:∀ t,sk t+1<=2 ^ (dp t+1)
 | .num | .tru | .gap _=>by simp [sk,dp]
 | .ls a=>by have:=IG a;simp only [sk,dp,Nat.pow_succ] at *;omega
 | .fn a b=>by
  have:=IG b
  have h:=Nat.pow_le_pow_right (n:=2) ⟨⟩ (Nat.le_max_right (dp a) (dp b))
  simp only [sk,dp,Nat.pow_succ] at *;omega
 | .pr a b=>by
  have h1:=IG a
  have h2:=IG b
  have h3:=Nat.pow_le_pow_right (n:=2) ⟨⟩ (Nat.le_max_left (dp a) (dp b))
  have h4:=Nat.pow_le_pow_right (n:=2) ⟨⟩ (Nat.le_max_right (dp a) (dp b))
  simp only [sk,dp,Nat.pow_succ] at *;omega
theorem II:∀ t,sz t+1<=2 ^ (dp t+1)
 | .num | .tru | .gap _=>by simp [sz,dp]
 | .ls a=>by have:=II a;simp only [sz,dp,Nat.pow_succ] at *;omega
 | .fn a b=>by
  have h1:=II a
  have h2:=II b
  have h3:=Nat.pow_le_pow_right (n:=2) ⟨⟩ (Nat.le_max_left (dp a) (dp b))
  have h4:=Nat.pow_le_pow_right (n:=2) ⟨⟩ (Nat.le_max_right (dp a) (dp b))
  simp only [sz,dp,Nat.pow_succ] at *;omega
 | .pr a b=>by
  have h1:=II a
  have h2:=II b
  have h3:=Nat.pow_le_pow_right (n:=2) ⟨⟩ (Nat.le_max_left (dp a) (dp b))
  have h4:=Nat.pow_le_pow_right (n:=2) ⟨⟩ (Nat.le_max_right (dp a) (dp b))
  simp only [sz,dp,Nat.pow_succ] at *;omega
theorem sz8 {t:Kd}(h:dp t<=8):sz t<=1000:=by
 have h1:=II t
 have h2:2 ^ (dp t+1)<=2 ^ 9:=Nat.pow_le_pow_right ⟨⟩ ()
 have h3:2 ^ 9=512:=rfl
 omega
theorem sR {t:Kd}(h:dp t<=2):dp t<=3/\sk t<=7:=by
 have h2:=IG t
 have h4:2 ^ (dp t+1)<=2 ^ 3:=Nat.pow_le_pow_right ⟨⟩ ()
 have h6:2 ^ 3=8:=rfl
 omega
theorem pk1 {t:Kd}(h:dp t<=1):dp t<=1/\sk t<=3:=by
 have h2:=IG t
 have h4:2 ^ (dp t+1)<=2 ^ 2:=Nat.pow_le_pow_right ⟨⟩ ()
 have h5:2 ^ 2=4:=rfl
 omega
noncomputable def Pm (d:Nat)(g:Kd):Prop:=d<=3\/(d=4/\dp g<=2)
noncomputable def Pb (d:Nat)(g:Kd):Prop:=d<=2\/(d=3/\dp g<=2)
noncomputable def mu:Nat->Kd->Nat
 | 0,g=>dp g
 | d+1,g=>max 3 (dp g)+2 * (d+1)
structure Ga (K:W.Frag)(H:Hp)(a:Addr)(ns:List Int)(g:Kd)(rg:V)(l:Addr)(xs:List (Str × Kd)):Prop where
 hs:B3 K H a (ns.map V.int)
 hg:BY H g rg
 gd:Rm g
 hl:HD H l xs
 hx:∀ x∈xs,dp x.2<=8
theorem Ga.mono {K:W.Frag}{H H':Hp}{a:Addr}{ns:List Int}{g:Kd}{rg:V}{l:Addr}{xs:List (Str × Kd)}(s:An H H')(h:Ga K H a ns g rg l xs):Ga K H' a ns g rg l xs :=
 ⟨s.seq h.hs,BY.mono (Au.of_same s) h.hg,h.gd,h.hl.mono s,h.hx⟩
abbrev Lj (xs:List (Str × Kd)):List Str:=xs.map (·.1)
inductive Mp (K:W.Frag)(n:Nat)(vs:(List V))(H:Hp)(Q:VK)(z3:XK):Prop
 | mk (a:Addr) (ns:List Int) (k:Int) (g:Kd) (rg:V) (l:Addr) (xs:List (Str × Kd)) (d:Nat) (h1:vs=[.ref a,.int k,rg,.ref l,.int d]) (h2:Ga K H a ns g rg l xs) (h3:mu d g<=n) (h4:max 3 (dp g)+d<=8) (h5:Pm d g) (h6:xs.length+2 * n<=1000) (h7:∀ e r H',An H H'->B9 H' e r->Ov (Lj xs) (B d (dp g)) (C d (sk g)) e->Q r H'):Mp K n vs H Q z3
noncomputable def Dr (K:W.Frag):Nat->Sp
 | 0=>Gv
 | n+1=>Mp K n
noncomputable def Bb:Nat->Nat->Nat
 | 0,p=>p
 | d+1,p=>1+B (d+1) p
noncomputable def Cb:Nat->Nat->Nat
 | 0,s=>s
 | d+1,s=>1+2 * C (d+1) s
inductive EE (K:W.Frag)(n:Nat)(vs:(List V))(H:Hp)(Q:VK)(z3:XK):Prop
 | mk (a:Addr) (ns:List Int) (k:Int) (g:Kd) (rg:V) (l:Addr) (xs:List (Str × Kd)) (d:Nat) (h1:vs=[.ref a,.int k,rg,.ref l,.int d]) (h2:Ga K H a ns g rg l xs) (h3:(d=0->dp g<=n)) (h4:(0 < d->max 3 (dp g)+2 * d+1<=n)) (h5:max 3 (dp g)+d<=8) (h6:Pb d g) (h7:xs.length+2 * n<=1000) (h8:∀ e r H',An H H'->B9 H' e r->Ov (Lj xs) (Bb d (dp g)) (Cb d (sk g)) e->Q r H'):EE K n vs H Q z3
inductive JB (K:W.Frag)(n:Nat)(vs:(List V))(H:Hp)(Q:VK)(z3:XK):Prop
 | mk (a:Addr) (ns:List Int) (k:Int) (g:Kd) (rg:V) (l:Addr) (xs:List (Str × Kd)) (d:Nat) (h1:vs=[.ref a,.int k,rg,.ref l,.int d]) (h2:Ga K H a ns g rg l xs) (h3:max 3 (dp g)+2 * d+2<=n) (h4:max 3 (dp g)+d+1<=8) (h5:d<=3) (h6:xs.length+2 * n<=1000) (h7:∀ e r H',An H H'->B9 H' e r->Ov (Lj xs) (B (d+1) (dp g)) (C (d+1) (sk g)) e->Q r H'):JB K n vs H Q z3
theorem jT (d p:Nat):Bb d p<=B (d+1) p:=by
 cases d with
 | zero=>simp only [Bb,B,cc];omega
 | succ d=>simp only [Bb,B,cc];omega
theorem jU (d p:Nat):Cb d p<=C (d+1) p:=by
 cases d with
 | zero=>simp only [Cb,C];omega
 | succ d=>simp only [Cb];show 1+2 * C (d+1) p<=1+C (d+1) 11+C (d+1) (1+p)+2 * C (d+1) p;omega
theorem Mq:AE ["_law_script","_law_k","_law_goal","_law_names","_law_deep","_law_number","_law_good"] GO (Ae BJ):=nofun
theorem Rr {n r:Nat}{f:Addr}{fd:FuncData}(F:D4 K "_law_made" "_law_made" BJ f fd)(B6:mg "len"=none)(Iz:mg "max"=none)(Yy:11<=r)
  (cM:Cl Pr w K mg base 2 "_law_mix" HG (DY K)) (cW:Cl Pr w K mg base 11 "_law_wider" ["_law_wide","_law_kind"] (EO 8))
  (cB:Cl Pr w K mg base r "_law_built" GO (EE K n)) (cT:Cl Pr w K mg base r "_law_taken" GO (JB K n)) :
  AY Pr w K mg base C5 (r+1) f fd GO (Mp K n):=by
 refine F.okS Mq (λvs H Q E h=>?_) (λBV A outer s H vs Q E hr h=>?_)
 ·obtain ⟨a,ns,k,g,rg,l,xs,d,rfl,_⟩:=h;rfl
 ·obtain ⟨a,ns,k,g,rg,l,xs,d,rfl,P,Yz,h8,hPm,hx,q⟩:=h
  have GK:Bh 2 _:=hr.mono ()
  have sS:Bh 11 _:=hr.mono ()
  have S:Bx (DP C5 Pr w K mg base ["_law_script","_law_k","_law_goal","_law_names","_law_deep","_law_number","_law_good"] "_law_made" (Ae BJ) f BV A outer s H E).nox (Cw (valueOf (inDef BJ 1))) [("_law_goal",s.heap.objs.size+1)] ["_law_one"] ["_law_goal"] [2] :=
   ⟨rfl,by decide +kernel,rfl,by decide +kernel,rfl,rfl,rfl,rfl⟩
  have Hw:(["_law_one","_law_goal"]:List Str).Nodup:=by decide +kernel
  refine ⟨_,(Ah (Ay (i:=5) Mq.nd rfl (.inl rfl) (B1 cM GK rfl (Aa (Ai 0) (Aa (Ai 1) Ac))))
   (Ah (F' (i:=6) Mq.nd rfl (.inl rfl) (tt:=tB (Ed (EO 8) [] E0 (BB (Fl (AA K) (Bv 0) (tC (.int 1))) (BB (Bv 1) Em)))) (te:=Fl (AA K) (Bv 0) (tC (.int 0))) S rfl (E7 (Ai 3)) (λC s0 H0 ex=>BF (i:=0) Hw rfl (.inl rfl)) (λC s0 H0 ex=>Qk (DC (B1 cW sS rfl (Aa (Ao Aj (Ai 0) Ab AO) (Aa (Ai 1) Ac))))) (λC s0 H0 ex=>Ao Aj (Ai 0) Ab AO))
   (Ah (B7 (Gk (w_and (E6 (Ai 6)) (CN (Aw AK (As Bc (Ai 5) Ab) Ab (Am _))))) (Al (Ar (Aq (Aa Af (Aa (Ao (r:=Bw K) AJ (Ai 6) (As Bc (As Ck (Ai 5) Ab) (AH Ax (by rfl) B6 PySem.boot_len (Aa (Ai 6) Ac))) AO) Ac))))) AN)
   (Ah (B7 (Gk (w_and (Aw Ia (Ai 4) Ab (Am _)) (CN (Aw Gf (As Bc (Ai 5) Ab) Ab (Am _))))) (Al (Ar (B1 cT hr rfl (Aa (Ai 0) (Aa (Ai 1) (Aa (Ai 2) (Aa (Ai 3) (Aa (As Cu (Ai 4) Ab) Ac)))))))) AN)
   (Al (Ar (B1 cB hr rfl (Aa (Ai 0) (Aa (Ai 1) (Aa (Ai 2) (Aa (Ai 3) (Aa (AH (Ib rfl) (by rfl) Iz PyProof.Rows.boot_max (Aa Ab (Aa (As Cu (Ai 4) Ab) Ac))) Ac)))))))))))),?_⟩
  left
  refine ⟨a,ns,k,rfl,P.hs,λm hm=>?_⟩
  left
  obtain ⟨rs,Pa,GC⟩:=P.hl
  have lr:=Paired.len GC
  refine ⟨l,rfl,⟨_,B3.of Pa⟩,?_⟩
  refine EM (K:=K) (a:=l) (xs:=rs) (λi ys H'=>An H H'/\ys.length<=i/\∀ y∈ys,∃ x∈xs,y=.str x.1) ⟨An.refl _,Nat.zero_le _,λy hy=>by cases hy⟩ (λi ys H' z=>B3.of (z.1 _ _ Pa)) (by exact D5 ()) (λi ys H' z=>z.2.1) rfl (λi x ys H1 hx z=>?_) (λys H1 z=>?_)
  ·obtain ⟨s1,z1,z2⟩:=z
   obtain ⟨x0,jK,p,rk,rfl,h2,h3⟩:=Paired.at1 GC hx
   have hi:=(List.getElem?_eq_some_iff.mp hx).1
   have sT:=List.mem_of_getElem? jK
   left
   refine Ad (Av.of (s1 _ _ h2)) rfl ?_
   left
   have fY:=P.hx x0 sT
   refine ⟨x0.2,g,rk,rg,rfl,BY.mono (Au.of_same s1) h3,BY.mono (Au.of_same s1) P.hg,fY,sz8 fY,(),λH2 s2=>?_⟩
   left
   refine Ep (λ_=>?_) λ_=>?_
   ·left
    refine Ad (Av.of (s2 _ _ (s1 _ _ h2))) rfl ?_
    refine Nx.mk hi ⟨s1.trans s2,by rw [List.length_append];simp;omega,λy hy=>?_⟩
    rcases List.mem_append.mp hy with hy | hy
    ·exact z2 y hy
    ·rw [List.mem_singleton.mp hy]
     exact ⟨x0,sT,rfl⟩
   ·exact Nx.mk hi ⟨s1.trans s2,(),z2⟩
  ·obtain ⟨s1,z1,z2⟩:=z
   intros gl H2 s2 e2
   left
   refine ⟨!ys.isEmpty,.inl ⟨_,B3.of e2,rfl⟩,?_⟩
   have BN:=s1.trans s2
   have P2:=P.mono BN
   refine iw ?_ λhc rest=>?_
   ·left
    have tk:∀ d',d=d'+1->∀ r,Ov (Lj xs) (B (d'+1) (dp g)) (C (d'+1) (sk g)) r->Ov (Lj xs) (B d (dp g)) (C d (sk g)) r:=λd' e r h=>e▸h
    have blt:∀ d':Nat,(d=0/\d'=0)\/d=d'+1->EE K n [.ref a,.int k,rg,.ref l,.int d'] H2 Q E0:=λd' hd=>by
     refine ⟨a,ns,k,g,rg,l,xs,d',rfl,P2,λz=>?_,λz=>?_,(),(by unfold Pm at hPm;unfold Pb;omega),(),λe r H3 s3 ha ho=>q e r H3 (BN.trans s3) ha ?_⟩
     ·rcases hd with ⟨h1,h2⟩ | hd
      ·subst h1;exact Yz
      ·subst hd;subst z;have:max 3 (dp g)+2 * (0+1)<=n:=Yz;omega
     ·rcases hd with ⟨h1,h2⟩ | hd
      ·omega
      ·subst hd;have:max 3 (dp g)+2 * (d'+1)<=n:=Yz;omega
     ·rcases hd with ⟨h1,h2⟩ | hd
      ·subst h1 h2;exact ho
      ·subst hd
       exact ⟨ho.cl,ho.op,Nat.le_trans ho.np (jT d' _),Nat.le_trans ho.sz (jU d' _)⟩
    have built:∀ D:Ends,D.rt=Q->NO (Ed (EE K n) [] E0 (BB (Bv 0) (BB (Bv 1) (BB (Bv 2) (BB (Bv 3) (BB (Sf (λxs H Q=>∃ i j,xs=[.int i,.int j]/\Q (.int (if j > i then j else i)) H) (BB (tC (.int 0)) (BB (Fl (NW λi j=>.int (i - j)) (Bv 4) (tC (.int 1))) Em))) Em)))))) D [some (.ref a),some (.int k),some rg,some (.ref l),some (.int d),some (.int m),some (.ref gl)] H2:=by
     intro D hD
     left
     refine ⟨_,_,rfl,?_⟩
     left
     rw [hD]
     cases d with
     | zero=>exact blt 0 (.inl ⟨rfl,rfl⟩)
     | succ d' =>
      rw [Oj]
      have e:(if (d':Int) > 0 then (d':Int) else 0)=(d':Int):=by split <;> omega
      rw [e]
      exact blt d' (.inr rfl)
    refine Ep (λc1=>?_) λ_=>Cm (built _ rfl)
    left
    refine Ep (λ_=>?_) λ_=>built _ rfl
    left
    cases d with
    | zero=>exact absurd (of_decide_eq_true c1) ⟨⟩
    | succ d' =>
     refine ⟨a,ns,k,g,rg,l,xs,d',by rw [Oj],P2,?_,?_,(by unfold Pm at hPm;omega),(),λe r H3 s3 ha ho=>q e r H3 (BN.trans s3) ha ho⟩
     ·have:max 3 (dp g)+2 * (d'+1)<=n:=Yz
      omega
     ·omega
   ·left
    refine Ep (λ_=>?_) λ_=>rest
    left
    refine ⟨gl,_,rfl,.inl (B3.of e2),?_⟩
    have Jq:(0:Int) < (ys.length:Nat):=by
     cases ys with
     | nil=>simp at hc
     | cons x xs=>simp
    refine N5 Jq (Dg (B3.of e2) (Int.emod_nonneg _ ()) (Int.emod_lt_of_pos _ Jq) λv hv=>?_)
    left
    intros p H3 s3 e3
    obtain ⟨x,hx,rfl⟩:=z2 v hv
    exact q (.nm x.1) _ _ (BN.trans s3) ⟨p,rfl,e3⟩ ⟨List.mem_map.mpr ⟨x,hx,rfl⟩,trivial,Nat.zero_le _,Nat.le_trans (Yx g) (jS d _)⟩
theorem jV:∀ d,C d 7+4<=C d 11
 | 0=>by simp [C]
 | d+1=>by have:=jV d;have:=Dd d (show 1+7<=1+11 by omega);simp only [C];omega
theorem YA {d s a b:Nat}(h1:a<=C d 7+4)(h2:b<=C d s):1+a+b<=C (d+1) s:=by have:=jV d;simp only [C];omega
theorem KZ {d s a b c:Nat}(h1:a<=C d 11)(h2:b<=C d s)(h3:c<=C d s):1+a+b+c<=C (d+1) s:=by simp only [C];omega
theorem YB {d s a b:Nat}(h1:a<=C d 11)(h2:b<=C d s):1+a+b<=C (d+1) s:=by simp only [C];omega
theorem YC {d s a b:Nat}(h1:a<=C d (1+s))(h2:b<=C d 11):1+a+b<=C (d+1) s:=by simp only [C];omega
theorem Rt {d p a b:Nat}(h1:a<=B d 3)(h2:b<=B d p):1+a+b<=B (d+1) p:=by simp only [B,cc] at *;omega
theorem jW {d p a b c:Nat}(h1:a<=B d 3)(h2:b<=B d p)(h3:c<=B d p):1+max a (max b c)<=B (d+1) p:=by simp only [B,cc] at *;omega
theorem YD {d p k a b:Nat}(hk:k<=2)(h1:a<=B d (max k p+1))(h2:b<=B d 3):1+max a b<=B (d+1) p:=by simp only [B,cc] at *;omega
theorem YE {d p a b c:Nat}(h1:a<=B d 3)(h2:b<=B d p)(h3:c<=B d p):1+max c (a+b)<=B (d+1) p:=by simp only [B,cc] at *;omega
inductive Ru (K:W.Frag)(n:Nat)(vs:(List V))(H:Hp)(Q:VK)(z3:XK):Prop
 | mk (a:Addr) (ns:List Int) (k:Int) (g:Kd) (rg:V) (l:Addr) (xs:List (Str × Kd)) (d:Nat) (x:Str) (kd:Kd) (rk:V) (h1:vs=[.ref a,.int k,rg,.ref l,.int d,.str x,rk]) (h2:Ga K H a ns g rg l xs) (h3:BY H kd rk) (h4:Rm kd) (h5:dp kd<=2) (h6:max 3 (dp g)+2 * d+2<=n) (h7:max 3 (dp g)+d+1<=8) (h8:d<=3) (h9:xs.length+2 * n<=1000) (rW:∀ e r H',An H H'->B9 H' e r->Ov (Lj xs) (B (d+1) (dp g)) (C (d+1) (sk g)) e->Q r H'):Ru K n vs H Q z3
theorem BZ {K:W.Frag}{n d:Nat}{H:Hp}{Q:VK}{E:XK}{a:Addr}{ns:List Int}{k:Int}{g:Kd}{rg:V}{l:Addr}{xs:List (Str × Kd)}{left:V}(P:Ga K H a ns g rg l xs)(hd:left=.int d)(h3:dp g<=max 3 (n - 1 - 2 * d))(hn:2 * d+4<=n)(h8:max 3 (dp g)+d<=8)(fZ:d<=3)(hx:xs.length+2 * n<=1002)
  (q:∀ e r H',An H H'->B9 H' e r->Ov (Lj xs) (B d (dp g)) (C d (sk g)) e->Q r H'):Dr K n [.ref a,.int k,rg,.ref l,left] H Q E:=by
 subst hd
 cases n with
 | zero=>omega
 | succ n =>
  refine ⟨a,ns,k,g,rg,l,xs,d,rfl,P,?_,h8,.inl fZ,(),q⟩
  cases d with
  | zero=>simp only [mu];omega
  | succ d=>simp only [mu];omega
theorem Ga.with {K:W.Frag}{H:Hp}{a:Addr}{ns:List Int}{g g':Kd}{rg rg':V}{l l':Addr}{xs TC:List (Str × Kd)}(P:Ga K H a ns g rg l xs)(hg:BY H g' rg')(gd:Rm g')(hl:HD H l' TC)(hx:∀ x∈TC,dp x.2<=8):Ga K H a ns g' rg' l' TC:=⟨P.hs,hg,gd,hl,hx⟩
theorem FN {xs more:List (Str × Kd)}{e:Ex}{ys:List Str}(h:e.cl (Lj (jJ xs more)))(hm:∀ m∈more,m.1∈ys)(hx:∀ x∈Lj xs,x∈ys):e.cl ys:=by
 refine Ex.cl.mono (λz hz=>?_) h
 obtain ⟨y,hy,rfl⟩:=List.mem_map.mp hz
 rcases EN hy with hy | hy
 ·exact hm y hy
 ·exact hx _ (List.mem_map.mpr ⟨y,hy,rfl⟩)
theorem F3:AE ["_law_script","_law_k","_law_goal","_law_names","_law_deep","_law_a","_law_kind","_law_number","_law_one","_law_wide"] ["_law_script","_law_k","_law_goal","_law_names","_law_deep","_law_a","_law_kind"] (Ae CF):=nofun
theorem YF {n r:Nat}{f:Addr}{fd:FuncData}(F:D4 K "_law_let" "_law_let" CF f fd)(Yy:11<=r)
  (cM:Cl Pr w K mg base 2 "_law_mix" HG (DY K)) (cV:Cl Pr w K mg base 1 "_law_with" ["_law_names","_law_more"] Fg)
  (cD:Cl Pr w K mg base r "_law_made" GO (Dr K n)) :
  AY Pr w K mg base C5 (r+1) f fd ["_law_script","_law_k","_law_goal","_law_names","_law_deep","_law_a","_law_kind"] (Ru K n):=by
 refine F.okS F3 (λvs H Q E h=>?_) (λBV A outer s H vs Q E hr h=>?_)
 ·obtain ⟨a,ns,k,g,rg,l,xs,d,x,kd,rk,rfl,_⟩:=h;rfl
 ·obtain ⟨a,ns,k,g,rg,l,xs,d,x,kd,rk,rfl,P,hk,gk,dk,Yz,h8,h3,hx,q⟩:=h
  have GK:Bh 2 _:=hr.mono ()
  have Nz:Bh 1 _:=hr.mono ()
  refine ⟨_,(Ah (Ay (i:=7) F3.nd rfl (.inl rfl) (B1 cM GK rfl (Aa (Ai 0) (Aa (As AZ (Ai 1) Ab) Ac))))
   (Ah (Ay (i:=8) F3.nd rfl (.inl rfl) (Aq (Aa Af Ac)))
   (Ah (Ay (i:=9) F3.nd rfl (.inl rfl) (Aq (Aa Af (Aa (Aq (Aa Af (Aa Ab Ac))) Ac))))
   (Ah (B7 (Aw AK (As Bc (Ai 7) Ab) Ab (Am _)) (Ah (Ay (i:=8) F3.nd rfl (.inl rfl) (Aq (Aa Af (Aa Af (Aa (Aq (Aa Af (Aa Af Ac))) Ac)))))
   (Al (Ay (i:=9) F3.nd rfl (.inl rfl) (Aq (Aa Af (Aa (Aq (Aa Af (Aa Ab Ac))) (Aa (Aq (Aa Af (Aa Ab Ac))) Ac))))))) (Al (B7 (Aw AK (As Bc (Ai 7) Ab) Ab (Am _)) (Ah (Ay (i:=8) F3.nd rfl (.inl rfl) (Aq (Aa Af (Aa Af (Aa (Aq (Aa Af (Aa (Aq (Aa Af (Aa Af Ac))) (Aa (Aq (Aa Af (Aa Af Ac))) Ac)))) Ac)))))
   (Al (Ay (i:=9) F3.nd rfl (.inl rfl) (Aq (Aa Af (Aa (Aq (Aa Af (Aa Ab Ac))) (Aa (Aq (Aa Af (Aa (Aq (Aa Af (Aa Ab Ac))) (Aa (Aq (Aa Af (Aa Ab Ac))) Ac)))) Ac))))))) (Al (B7 (Aw AK (As Bc (Ai 7) Ab) Ab (Am _)) (Ah (Ay (i:=8) F3.nd rfl (.inl rfl) (B1 cD hr rfl (Aa (Ai 0) (Aa (As AZ (As BE Ab (Ai 1)) Ab) (Aa (Ai 6) (Aa (Ai 3) (Aa (Ai 4) Ac)))))))
   (Al (Ay (i:=9) F3.nd rfl (.inl rfl) (Ai 6)))) AN)))))
   (Al (Ar (Aq (Aa Af (Aa (Ai 5) (Aa (Ai 8) (Aa (B1 cD hr rfl (Aa (Ai 0) (Aa (As AZ (As BE Ab (Ai 1)) Ab) (Aa (Ai 2) (Aa (B1 cV Nz rfl (Aa (Ai 3) (Aa (AS (Aa (Aq (Aa (Ai 5) (Aa (Ai 9) Ac))) Ac)) Ac))) (Aa (Ai 4) Ac)))))) Ac))))))))))),?_⟩
  left
  refine ⟨a,ns,_,rfl,P.hs,λm hm=>?_⟩
  left
  intros p1 H1 s1 e1
  left
  intros p2 H2 s2 e2
  left
  intros p3 H3 s3 e3
  left
  have D3:=s1.trans (s2.trans s3)
  refine T5 (fun σ' H'=>Lb λe1 r1 wk rw=>σ'=[some (.ref a),some (.int k),some rg,some (.ref l),some (.int d),some (.str x),some rk,some (.int m),some r1,some rw]/\An H3 H'/\B9 H' e1 r1/\e1.cl (Lj xs)/\e1.opj 29/\e1.kn<=B d 3/\e1.sz<=C d 7+4/\BY H' wk rw/\dp wk<=8) ?_ λfin=>?_
  ·rintro σ' H' ⟨e1,r1,wk,rw,rfl,s4,a1,c1,o1,n1,z1,kw,dw⟩
   have Jp:=D3.trans s4
   left
   intros p4 H5 s5 e5
   left
   intros p5 H6 s6 e6
   left
   have RM:=s5.trans s6
   have nm1:HD H6 p5 [(x,wk)]:=⟨_,e6,.cons ⟨p4,rw,rfl,s6 _ _ e5,BY.mono (Au.of_same RM) kw⟩ .nil⟩
   refine ⟨l,p5,xs,[(x,wk)],rfl,P.hl.mono (Jp.trans RM),nm1,by simp;omega,λl2 H7 s7 GC=>?_⟩
   left
   have P7:=P.mono (Jp.trans (RM.trans s7))
   refine BZ (P7.with P7.hg P.gd GC λy hy=>?_) rfl () () () h3 ?_ λe2 r2 H8 s8 a2 o2=>?_
   ·rcases EN hy with hy | hy
    ·rw [List.mem_singleton.mp hy];exact dw
    ·exact P.hx y hy
   ·have:=FJ xs [(x,wk)]
    simp at this;omega
   left
   intros p6 H9 s9 e9
   refine q (.lt x e1 e2) _ _ (Jp.trans (RM.trans (s7.trans (s8.trans s9)))) ⟨p6,r1,r2,rfl,e9,B9.mono (Au.of_same (RM.trans (s7.trans (s8.trans s9)))) a1,B9.mono (Au.of_same s9) a2⟩ ⟨⟨c1,?_⟩,⟨o1,o2.op⟩,?_,?_⟩
   ·exact FN o2.cl (λm hm=>by rw [List.mem_singleton.mp hm];exact .head _) (λz hz=>.tail _ hz)
   ·have h1:=o2.np
    exact Rt n1 h1
   ·exact YA z1 o2.sz
  ·refine QC ?_
   left
   refine Ep (λ_=>?_) λ_=>?_
   ·left
    intros p4 H4 s4 e4
    left
    intros p5 H5 s5 e5
    left
    intros p6 H6 s6 e6
    left
    intros p7 H7 s7 e7
    left
    intros p8 H8 s8 e8
    exact fin _ _ ⟨.fn "y" (.nm "y"),.ref p5,.fn (.gap 0) (.gap 0),.ref p8,rfl,s4.trans (s5.trans (s6.trans (s7.trans s8))),⟨p5,.ref p4,rfl,s8 _ _ (s7 _ _ (s6 _ _ e5)),p4,rfl,s8 _ _ (s7 _ _ (s6 _ _ (s5 _ _ e4)))⟩,by simp [Ex.cl],⟨trivial,⟨⟩⟩,by simp [Ex.kn,B];omega,by simp [Ex.sz],⟨p8,.ref p6,.ref p7,rfl,e8,⟨p6,rfl,s8 _ _ (s7 _ _ e6)⟩,⟨p7,rfl,s8 _ _ e7⟩⟩,by simp [dp]⟩
   left
   refine Ep (λ_=>?_) λ_=>?_
   ·left
    intros p4 H4 s4 e4
    left
    intros p5 H5 s5 e5
    left
    intros p6 H6 s6 e6
    left
    intros p7 H7 s7 e7
    left
    intros p8 H8 s8 e8
    left
    intros p9 H9 s9 e9
    left
    intros ot GJ CP Jm
    left
    intros oN F0 CA FE
    left
    intros oF Ou Ei Iy
    have t7:=s8.trans (s9.trans (CP.trans (CA.trans Ei)))
    exact fin _ _ ⟨.fn "y" (.pr (.nm "y") (.nm "y")),.ref p7,.fn (.gap 0) (.pr (.gap 0) (.gap 0)),.ref oF,rfl,s4.trans (s5.trans (s6.trans (s7.trans t7))),⟨p7,.ref p6,rfl,t7 _ _ e7,p6,.ref p4,.ref p5,rfl,t7 _ _ (s7 _ _ e6),⟨p4,rfl,t7 _ _ (s7 _ _ (s6 _ _ (s5 _ _ e4)))⟩,⟨p5,rfl,t7 _ _ (s7 _ _ (s6 _ _ e5))⟩⟩,by simp [Ex.cl],⟨⟨trivial,trivial⟩,⟨⟩⟩,by simp [Ex.kn,B];omega,by simp [Ex.sz],⟨oF,.ref p8,.ref oN,rfl,Iy,⟨p8,rfl,Ei _ _ (CA _ _ (CP _ _ (s9 _ _ e8)))⟩,oN,.ref p9,.ref ot,rfl,Ei _ _ FE,⟨p9,rfl,Ei _ _ (CA _ _ (CP _ _ e9))⟩,⟨ot,rfl,Ei _ _ (CA _ _ Jm)⟩⟩,by simp [dp]⟩
   left
   have hk3:=BY.mono (Au.of_same D3) hk
   refine Ep (λ_=>?_) λ_=>?_
   ·left
    have P3:=P.mono D3
    refine BZ (P3.with hk3 gk P3.hl P.hx) rfl () () () h3 () λe1 r1 H4 s4 a1 o1=>?_
    have hp:=sR dk
    refine Qw (Jb (v:=rk) rfl ?_)
    exact fin _ _ ⟨e1,r1,kd,rk,rfl,s4,a1,o1.cl,o1.op,Nat.le_trans o1.np (Ea d hp.1),Nat.le_trans o1.sz (Nat.le_trans (Dd d hp.2) ()),BY.mono (Au.of_same s4) hk3,()⟩
   ·exact fin _ _ ⟨.emp,.ref p1,.ls (.gap 0),.ref p3,rfl,An.refl _,⟨p1,rfl,s3 _ _ (s2 _ _ e1)⟩,trivial,trivial,by simp [Ex.kn],by simp [Ex.sz],⟨p3,.ref p2,rfl,e3,p2,rfl,s3 _ _ e2⟩,by simp [dp]⟩
theorem CM:AE ["_law_script","_law_k","_law_goal","_law_names","_law_deep","_law_number","_law_a","_law_b","_law_kind","_law_one","_law_other","_law_second","_law_word","_law_given","_law_last"] GO (Ae C1):=nofun
theorem Rv {n r:Nat}{f:Addr}{fd:FuncData}(F:D4 K "_law_taken" "_law_taken" C1 f fd)(CI:mg "int"=none)(Yy:11<=r)
  (cM:Cl Pr w K mg base 2 "_law_mix" HG (DY K)) (cN:Cl Pr w K mg base 1 "_law_name" ["_law_number"] G9) (cV:Cl Pr w K mg base 1 "_law_with" ["_law_names","_law_more"] Fg)
  (cG:Cl Pr w K mg base 5 "_law_ground" ["_law_script","_law_k","_law_deep"] (Dk K 2))
  (cD:Cl Pr w K mg base r "_law_made" GO (Dr K n)) (cL:Cl Pr w K mg base (r+1) "_law_let" ["_law_script","_law_k","_law_goal","_law_names","_law_deep","_law_a","_law_kind"] (Ru K n)) :
  AY Pr w K mg base C5 (r+2) f fd GO (JB K n):=by
 refine F.okS CM (λvs H Q E h=>?_) (λBV A outer s H vs Q E hr h=>?_)
 ·obtain ⟨a,ns,k,g,rg,l,xs,d,rfl,_⟩:=h;rfl
 ·obtain ⟨a,ns,k,g,rg,l,xs,d,rfl,P,Yz,h8,h3,hx,q⟩:=h
  have GK:Bh 2 _:=hr.mono ()
  have Nz:Bh 1 _:=hr.mono ()
  have hr4:Bh 4 _:=hr.mono ()
  have oO:Bh 5 _:=hr.mono ()
  have VW:Bh r _:=hr.mono ()
  refine ⟨_,(Ah (Ay (i:=5) CM.nd rfl (.inl rfl) (B1 cM GK rfl (Aa (Ai 0) (Aa (As AZ (Ai 1) Ab) Ac))))
   (Ah (Ay (i:=6) CM.nd rfl (.inl rfl) (B1 cN Nz rfl (Aa (As Ck (Ai 5) Ab) Ac)))
   (Ah (Ay (i:=7) CM.nd rfl (.inl rfl) (B1 cN Nz rfl (Aa (As Ck (Ai 5) Ab) Ac)))
   (Ah (Ay (i:=8) CM.nd rfl (.inl rfl) (B1 cG oO rfl (Aa (Ai 0) (Aa (As AZ (As BE Ab (Ai 1)) Ab) (Aa (As AZ Ab (As Bc (As Ck (Ai 5) Ab) Ab)) Ac)))))
   (Ah (B7 (Aw Gf (As Bc (Ai 5) Ab) Ab (Am _)) (Al (Ar (B1 cL hr rfl (Aa (Ai 0) (Aa (Ai 1) (Aa (Ai 2) (Aa (Ai 3) (Aa (Ai 4) (Aa (Ai 6) (Aa (Ai 8) Ac)))))))))) AN)
   (Ah (B7 (Aw AK (As Bc (Ai 5) Ab) Ab (Am _)) (Ah (Ay (i:=9) CM.nd rfl (.inl rfl) (B1 cD VW rfl (Aa (Ai 0) (Aa (As AZ (As BE Ab (Ai 1)) Ab) (Aa (Aq (Aa Af Ac)) (Aa (Ai 3) (Aa (Ai 4) Ac)))))))
   (Ah (Ay (i:=10) CM.nd rfl (.inl rfl) (B1 cD VW rfl (Aa (Ai 0) (Aa (As AZ (As BE Ab (Ai 1)) Ab) (Aa (Ai 2) (Aa (Ai 3) (Aa (Ai 4) Ac)))))))
   (Al (Ar (Aq (Aa Af (Aa (Ai 9) (Aa (Ai 10) (Aa (B1 cD VW rfl (Aa (Ai 0) (Aa (As AZ (As BE Ab (Ai 1)) Ab) (Aa (Ai 2) (Aa (Ai 3) (Aa (Ai 4) Ac)))))) Ac))))))))) AN)
   (Ah (B7 (Aw Gf (As Bc (Ai 5) Ab) Ab (Am _)) (Ah (Ay (i:=9) CM.nd rfl (.inl rfl) (B1 cD VW rfl (Aa (Ai 0) (Aa (As AZ (As BE Ab (Ai 1)) Ab) (Aa (Aq (Aa Af (Aa (Ai 8) (Aa (Ai 2) Ac)))) (Aa (Ai 3) (Aa (Ai 4) Ac)))))))
   (Al (Ar (Aq (Aa Af (Aa (Ai 9) (Aa (B1 cD VW rfl (Aa (Ai 0) (Aa (As AZ (As BE Ab (Ai 1)) Ab) (Aa (Ai 8) (Aa (Ai 3) (Aa (Ai 4) Ac)))))) Ac))))))) AN)
   (Ah (Ay (i:=11) CM.nd rfl (.inl rfl) (B1 cG oO rfl (Aa (Ai 0) (Aa (As AZ (As BE Ab (Ai 1)) Ab) (Aa Ab Ac)))))
   (Ah (Ay (i:=12) CM.nd rfl (.inl rfl) (Ao (r:=Bw K) AJ (AS (Aa Af (Aa Af Ac))) (As Cu (As Bc (Ai 5) Ab) Ab) AO))
   (Ah (Ay (i:=9) CM.nd rfl (.inl rfl) (B1 cD VW rfl (Aa (Ai 0) (Aa (As AZ (As BE Ab (Ai 1)) Ab) (Aa (JY (Aw AK (Ai 12) Af (Am _)) (Aq (Aa Af (Aa (Ai 8) (Aa (Ai 11) Ac)))) (Aq (Aa Af (Aa (Ai 8) Ac)))) (Aa (Ai 3) (Aa (Ai 4) Ac)))))))
   (Ah (Ay (i:=13) CM.nd rfl (.inl rfl) (Cn (r:=O3 K) GA (AS (Aa (Aq (Aa (Ai 6) (Aa (Ai 8) Ac))) (Aa (Aq (Aa (Ai 7) (Aa (JY (Aw AK (Ai 12) Af (Am _)) (Ai 11) (Aq (Aa Af (Aa (Ai 8) Ac)))) Ac))) Ac))) (Cv (Cg DO (by rfl) CI PyProof.Rows.boot_int (Aa (Cc AK (Ai 6) (Ai 7) (Am _)) Ac))) Dm))
   (Ah (Ay (i:=14) CM.nd rfl (.inl rfl) (B1 cD VW rfl (Aa (Ai 0) (Aa (As AZ (As BE Ab (Ai 1)) Ab) (Aa (Ai 2) (Aa (B1 cV Nz rfl (Aa (Ai 3) (Aa (Ai 13) Ac))) (Aa (Ai 4) Ac)))))))
   (Ah (B7 (Aw AK (Ai 12) Af (Am _)) (Al (Ar (Aq (Aa Af (Aa (Ai 9) (Aa (Ai 6) (Aa (Ai 7) (Aa (Ai 14) Ac)))))))) AN)
   (Al (Ar (Aq (Aa Af (Aa (Ai 9) (Aa (B1 cD VW rfl (Aa (Ai 0) (Aa (As AZ (As BE Ab (Ai 1)) Ab) (Aa (Ai 2) (Aa (Ai 3) (Aa (Ai 4) Ac)))))) (Aa (Ai 6) (Aa (Ai 7) (Aa (Ai 14) Ac)))))))))))))))))))))),?_⟩
  left
  refine ⟨a,ns,_,rfl,P.hs,λm hm=>?_⟩
  left
  refine ⟨_,rfl,λx H1 s1=>?_⟩
  left
  refine ⟨_,rfl,λy H2 s2=>?_⟩
  left
  have BN:=s1.trans s2
  have lo:=Int.emod_nonneg (m / 200) (b:=2) ⟨⟩
  have hi:=Int.emod_lt_of_pos (m / 200) (b:=2) ⟨⟩
  refine ⟨a,ns,3 * k+7,(1+m / 200 % 2).toNat,?_,(),BN.seq P.hs,λkd rk H3 s3 hk gk dk=>?_⟩
  ·rw [Int.toNat_of_nonneg ()]
  have dk2:dp kd<=2:=by omega
  have pk3:=sR dk2
  have D3:=BN.trans s3
  have P3:=P.mono D3
  left
  refine Ep (λ_=>?_) λw1=>?_
  ·left
   exact ⟨a,ns,k,g,rg,l,xs,d,x,kd,rk,rfl,P3,hk,gk,dk2,Yz,h8,h3,hx,λe r H' s' ha ho=>q e r H' (D3.trans s') ha ho⟩
  left
  refine Ep (λ_=>?_) λw2=>?_
  ·left
   intros p1 H4 s4 e4
   left
   have P4:=P3.mono s4
   refine BZ (P4.with (g':=.tru) ⟨p1,rfl,e4⟩ trivial P4.hl P.hx) rfl (by simp only [dp];omega) () (by simp only [dp];omega) h3 () λe1 r1 H5 s5 a1 o1=>?_
   left
   have P5:=P4.mono s5
   refine BZ P5 rfl () () () h3 () λe2 r2 H6 s6 a2 o2=>?_
   left
   have P6:=P5.mono s6
   refine BZ P6 rfl () () () h3 () λe3 r3 H7 s7 a3 o3=>?_
   left
   intros p2 H8 s8 e8
   have n1:=o1.np
   have n2:=o2.np
   have n3:=o3.np
   have z1:=o1.sz
   have z2:=o2.sz
   have z3:=o3.sz
   have b3:=Ea d (show dp .tru<=3 by simp [dp])
   have c3:=Dd d (show sk .tru<=11 by simp [sk])
   refine q (.wh e1 e2 e3) _ _ (D3.trans (s4.trans (s5.trans (s6.trans (s7.trans s8))))) ⟨p2,r1,r2,r3,rfl,e8,B9.mono (Au.of_same (s6.trans (s7.trans s8))) a1,B9.mono (Au.of_same (s7.trans s8)) a2,B9.mono (Au.of_same s8) a3⟩ ⟨⟨o1.cl,o2.cl,o3.cl⟩,⟨o1.op,o2.op,o3.op⟩,?_,?_⟩
   ·exact jW (Nat.le_trans n1 b3) n2 n3
   ·exact KZ (Nat.le_trans z1 c3) z2 z3
  left
  refine Ep (λ_=>?_) λw3=>?_
  ·left
   intros p1 H4 s4 e4
   left
   have P4:=P3.mono s4
   have oP:=BY.mono (Au.of_same s4) hk
   refine BZ (P4.with (g':=.fn kd g) ⟨p1,rk,rg,rfl,e4,oP,P4.hg⟩ ⟨gk,P.gd⟩ P4.hl P.hx) rfl (by simp only [dp];omega) () (by simp only [dp];omega) h3 () λe1 r1 H5 s5 a1 o1=>?_
   left
   have P5:=P4.mono s5
   refine BZ (P5.with (BY.mono (Au.of_same s5) oP) gk P5.hl P.hx) rfl () () () h3 () λe2 r2 H6 s6 a2 o2=>?_
   left
   intros p2 H8 s8 e8
   have n1:=o1.np
   have n2:=o2.np
   have z1:=o1.sz
   have z2:=o2.sz
   have b3:=Ea d pk3.1
   have c3:=Dd d (show sk kd<=11 by omega)
   refine q (.cal e1 e2) _ _ (D3.trans (s4.trans (s5.trans (s6.trans s8)))) ⟨p2,r1,r2,rfl,e8,B9.mono (Au.of_same (s6.trans s8)) a1,B9.mono (Au.of_same s8) a2⟩ ⟨⟨o1.cl,o2.cl⟩,⟨o1.op,o2.op⟩,?_,?_⟩
   ·exact YD () n1 (Nat.le_trans n2 b3)
   ·exact YC z1 (Nat.le_trans z2 c3)
  left
  refine ⟨a,ns,_,1,rfl,(),P3.hs,λsd rs H4 s4 Po gs ds=>?_⟩
  have ps:=pk1 ds
  have P4:=P3.mono s4
  have oP:=BY.mono (Au.of_same s4) hk
  left
  intros pw H5 s5 e5
  left
  have ne:∀ j:Int,¬ decide (V.int (m % 7)=V.int j)=true->m % 7≠j:=λj h z=>h (decide_eq_true (by rw [z]))
  have w2':=ne _ w2
  have w1':¬ m % 7 < 2:=λz=>w1 (decide_eq_true z)
  have w3':¬ m % 7 < 5:=λz=>w3 (decide_eq_true z)
  have lo7:=Int.emod_nonneg m (b:=7) ⟨⟩
  have hi7:=Int.emod_lt_of_pos m (b:=7) ⟨⟩
  have P5:=P4.mono s5
  have hk5:=BY.mono (Au.of_same s5) oP
  have qr:=BY.mono (Au.of_same s5) Po
  have HW:=D3.trans (s4.trans s5)
  have two:∀ z∈(if x=y then [y] else [x,y]),z=y\/z=x:=by
   intro z hz
   split at hz
   ·exact .inl (List.mem_singleton.mp hz)
   ·simp only [List.mem_cons,List.not_mem_nil,or_false] at hz
    exact hz.symm
  refine Dg (B3.of e5) () (by simp;omega) λv hv=>?_
  left
  have S6:v=.str "open"\/v=.str "split":=by simpa using hv
  rcases S6 with rfl | rfl
  ·left
   refine AW (decide_eq_true rfl) ?_
   left
   intros p1 H6 s6 e6
   left
   have P6:=P5.mono s6
   have jX:=BY.mono (Au.of_same s6) hk5
   have hs6:=BY.mono (Au.of_same s6) qr
   refine BZ (P6.with (g':=.pr kd sd) ⟨p1,rk,rs,rfl,e6,jX,hs6⟩ ⟨gk,gs⟩ P6.hl P.hx) rfl (by simp only [dp];omega) () (by simp only [dp];omega) h3 () λe1 r1 H7 s7 a1 o1=>?_
   left
   intros q1 H8 s8 e8
   left
   refine AW (decide_eq_true rfl) ?_
   left
   intros q2 H9 s9 e9
   left
   intros q3 GJ CP Jm
   left
   refine .inr ⟨_,rfl,?_⟩
   left
   have L0:=s7.trans (s8.trans (s9.trans CP))
   have U6:=BY.mono (Au.of_same L0) jX
   have sU:=BY.mono (Au.of_same L0) hs6
   refine Hn (B3.of Jm) λq4 F0 _ CA FE=>?_
   left
   have jY:=P6.mono (L0.trans CA)
   have ent:∃ more:List (Str × Kd),HD F0 q4 more/\more.length<=2/\(∀ z∈more,z.1=y\/z.1=x)/\∀ z∈more,dp z.2<=8:=by
    have n1:U3 F0 (.ref q1) (x,kd):=⟨q1,rk,rfl,CA _ _ (CP _ _ (s9 _ _ e8)),BY.mono (Au.of_same CA) U6⟩
    have n2:U3 F0 (.ref q2) (y,sd):=⟨q2,rs,rfl,CA _ _ (CP _ _ e9),BY.mono (Au.of_same CA) sU⟩
    by_cases jZ:x=y
    ·subst jZ
     simp only [decide_true,↓reduceIte] at FE
     exact ⟨[(x,sd)],⟨_,FE,.cons n2 .nil⟩,by simp,by simp,by simp;omega⟩
    ·have ed:decide (V.str x=V.str y)=false:=by simp [jZ]
     rw [ed] at FE
     exact ⟨[(x,kd),(y,sd)],⟨_,FE,.cons n1 (.cons n2 .nil)⟩,by simp,by simp,by simp;omega⟩
   obtain ⟨more,sV,oM,sW,sX⟩:=ent
   refine ⟨l,q4,xs,more,rfl,jY.hl,sV,(),λl2 Ou Ei GC=>?_⟩
   left
   have g0:=jY.mono Ei
   refine BZ (g0.with g0.hg P.gd GC λz hz=>?_) rfl () () () h3 ?_ λe2 r2 Ti Gp a2 o2=>?_
   ·rcases EN hz with hz | hz
    ·exact sX z hz
    ·exact P.hx z hz
   ·have:=FJ xs more
    omega
   left
   refine AW (decide_eq_true rfl) ?_
   left
   intros p2 Vs Eh Lg
   have n1:=o1.np
   have n2:=o2.np
   have z1:=o1.sz
   have z2:=o2.sz
   have b3:=Ea d (show dp (.pr kd sd)<=3 by simp only [dp];omega)
   have c3:=Dd d (show sk (.pr kd sd)<=11 by simp only [sk];omega)
   refine q (.opn e1 x y e2) _ _ (HW.trans (s6.trans (L0.trans (CA.trans (Ei.trans (Gp.trans Eh)))))) ⟨p2,r1,r2,rfl,Lg,B9.mono (Au.of_same (s8.trans (s9.trans (CP.trans (CA.trans (Ei.trans (Gp.trans Eh))))))) a1,B9.mono (Au.of_same Eh) a2⟩ ⟨⟨o1.cl,?_⟩,⟨o1.op,o2.op⟩,?_,?_⟩
   ·refine FN o2.cl (λm hm=>?_) (λz hz=>.tail _ (.tail _ hz))
    rcases sW m hm with h | h
    ·rw [h];exact .head _
    ·rw [h];exact .tail _ (.head _)
   ·exact Rt (Nat.le_trans n1 b3) n2
   ·exact YB (Nat.le_trans z1 c3) z2
  ·left
   refine AF ⟨⟩ ?_
   left
   intros p1 H6 s6 e6
   left
   have P6:=P5.mono s6
   have jX:=BY.mono (Au.of_same s6) hk5
   refine BZ (P6.with (g':=.ls kd) ⟨p1,rk,rfl,e6,jX⟩ gk P6.hl P.hx) rfl (by simp only [dp];omega) () (by simp only [dp];omega) h3 () λe1 r1 H7 s7 a1 o1=>?_
   left
   intros q1 H8 s8 e8
   left
   refine AF ⟨⟩ ?_
   left
   intros q0 H9' sY qm
   left
   intros q2 H9 s9 e9
   left
   intros q3 GJ CP Jm
   left
   refine .inr ⟨_,rfl,?_⟩
   left
   have L0:=s7.trans (s8.trans (sY.trans (s9.trans CP)))
   have U6:=BY.mono (Au.of_same L0) jX
   refine Hn (B3.of Jm) λq4 F0 _ CA FE=>?_
   left
   have jY:=P6.mono (L0.trans CA)
   have ent:∃ more:List (Str × Kd),HD F0 q4 more/\more.length<=2/\(∀ z∈more,z.1=y\/z.1=x)/\∀ z∈more,dp z.2<=8:=by
    have n1:U3 F0 (.ref q1) (x,kd):=⟨q1,rk,rfl,CA _ _ (CP _ _ (s9 _ _ (sY _ _ e8))),BY.mono (Au.of_same CA) U6⟩
    have n2:U3 F0 (.ref q2) (y,.ls kd):=⟨q2,.ref q0,rfl,CA _ _ (CP _ _ e9),q0,rk,rfl,CA _ _ (CP _ _ (s9 _ _ qm)),BY.mono (Au.of_same CA) U6⟩
    by_cases jZ:x=y
    ·subst jZ
     simp only [decide_true,↓reduceIte] at FE
     exact ⟨[(x,.ls kd)],⟨_,FE,.cons n2 .nil⟩,by simp,by simp,by simp [dp];omega⟩
    ·have ed:decide (V.str x=V.str y)=false:=by simp [jZ]
     rw [ed] at FE
     exact ⟨[(x,kd),(y,.ls kd)],⟨_,FE,.cons n1 (.cons n2 .nil)⟩,by simp,by simp,by simp [dp];omega⟩
   obtain ⟨more,sV,oM,sW,sX⟩:=ent
   refine ⟨l,q4,xs,more,rfl,jY.hl,sV,(),λl2 Ou Ei GC=>?_⟩
   left
   have g0:=jY.mono Ei
   refine BZ (g0.with g0.hg P.gd GC λz hz=>?_) rfl () () () h3 ?_ λe2 r2 Ti Gp a2 o2=>?_
   ·rcases EN hz with hz | hz
    ·exact sX z hz
    ·exact P.hx z hz
   ·have:=FJ xs more
    omega
   left
   refine AF ⟨⟩ ?_
   left
   have P13:=g0.mono Gp
   refine BZ P13 rfl () () () h3 () λe3 r3 H15 U1 a3 o3=>?_
   left
   intros p2 Vs Eh Lg
   have n1:=o1.np
   have n2:=o2.np
   have z1:=o1.sz
   have z2:=o2.sz
   have n3:=o3.np
   have z3:=o3.sz
   have b3:=Ea d (show dp (.ls kd)<=3 by simp only [dp];omega)
   have c3:=Dd d (show sk (.ls kd)<=11 by simp only [sk];omega)
   refine q (.spl e1 e3 x y e2) _ _ (HW.trans (s6.trans (L0.trans (CA.trans (Ei.trans (Gp.trans (U1.trans Eh))))))) ⟨p2,r1,r3,r2,rfl,Lg,B9.mono (Au.of_same (s8.trans (sY.trans (s9.trans (CP.trans (CA.trans (Ei.trans (Gp.trans (U1.trans Eh))))))))) a1,B9.mono (Au.of_same Eh) a3,B9.mono (Au.of_same (U1.trans Eh)) a2⟩ ⟨⟨o1.cl,o3.cl,?_⟩,⟨o1.op,o3.op,o2.op⟩,?_,?_⟩
   ·refine FN o2.cl (λm hm=>?_) (λz hz=>.tail _ (.tail _ hz))
    rcases sW m hm with h | h
    ·rw [h];exact .head _
    ·rw [h];exact .tail _ (.head _)
   ·exact YE (Nat.le_trans n1 b3) n2 n3
   ·exact KZ (Nat.le_trans z1 c3) z3 z2
end
end K
namespace L2
open PySem
section
variable {σ:St}{H:Hp}{D:Ends}
theorem OL {t0 t1 t2 t3 t4 t5 t6 t7 t8 t9 u:TS}(Jn:St->Hp->Prop)(fin:∀ σ' H',Jn σ' H'->u D σ' H')(q:∀ N:St->Hp->Prop,(∀ σ' H',Jn σ' H'->N σ' H')->Be t0 (Be t1 (Be t2 (Be t3 (Be t4 (Be t5 (Be t6 (Be t7 (Be t8 t9)))))))) { D with nx:=N } σ H):Be t0 (Be t1 (Be t2 (Be t3 (Be t4 (Be t5 (Be t6 (Be t7 (Be t8 (Be t9 u))))))))) D σ H:=q (u D) fin
theorem Rw {t0 t1 t2 u:TS}(Jn:St->Hp->Prop)(fin:∀ σ' H',Jn σ' H'->u D σ' H')(q:∀ N:St->Hp->Prop,(∀ σ' H',Jn σ' H'->N σ' H')->Be t0 (Be t1 t2) { D with nx:=N } σ H):Be t0 (Be t1 (Be t2 u)) D σ H:=q (u D) fin
end
end L2
namespace K
open PySem L2 KM KS KX
section
variable {Pr:Program}{w:World}{K:W.Frag}{mg:Str->Option Value}{base:Heap}
noncomputable def PB (H1:Hp)(YG:List Str)(d:Nat)(ka kb:Kd):Nat->List V->Hp->Prop
 | 0,ys,H'=>ys=[]/\An H1 H'
 | 1,ys,H'=>An H1 H'/\D1 λe1 r1=>ys=[r1]/\B9 H' e1 r1/\Ov YG (B d (dp ka)) (C d (sk ka)) e1
 | 2,ys,H'=>An H1 H'/\Lb λe1 r1 e2 r2=>ys=[r1,r2]/\B9 H' e1 r1/\Ov YG (B d (dp ka)) (C d (sk ka)) e1/\B9 H' e2 r2/\Ov YG (B d (dp kb)) (C d (sk kb)) e2
 | _,_,_=>False
theorem PB.same {H1:Hp}{YG:List Str}{d:Nat}{ka kb:Kd}:∀ {i:Nat} {ys:List V} {H':Hp},PB H1 YG d ka kb i ys H'->An H1 H'
 | 0,_,_,h=>h.2
 | 1,_,_,h=>h.1
 | 2,_,_,h=>h.1
 | _+3,_,_,h=>h.elim
theorem PB.len {H1:Hp}{YG:List Str}{d:Nat}{ka kb:Kd}:∀ {i:Nat} {ys:List V} {H':Hp},PB H1 YG d ka kb i ys H'->ys.length<=i
 | 0,_,_,h=>by rw [h.1];exact Nat.le_refl _
 | 1,_,_,⟨_,e1,r1,h,_⟩=>by rw [h];exact Nat.le_refl _
 | 2,_,_,⟨_,e1,r1,e2,r2,h,_⟩=>by rw [h];exact Nat.le_refl _
 | _+3,_,_,h=>h.elim
structure BSt (K:W.Frag)(H:Hp)(a:Addr)(ns:List Int)(g:Kd)(rg:V)(l:Addr)(xs:List (Str × Kd))(d n:Nat)(wl kl w1 w2:Addr)(o1 o2:Str)(ka kb:Kd)(ra rb:V):Prop where
 P:Ga K H a ns g rg l xs
 hw:H wl=some (.dK [(.inr "number",.ref w1),(.inr "truth",.ref w2)])
 h1:H w1=some (.tup [.str "op",.str o1])
 h2:H w2=some (.tup [.str "op",.str o2])
 i1:Ex.isOp o1
 i2:Ex.isOp o2
 hk:H kl=some (.lst [ra,rb])
 h3:BY H ka ra
 h4:BY H kb rb
 g1:Rm ka
 g2:Rm kb
 m1:max 3 (dp ka)+d<=8
 m2:max 3 (dp kb)+d<=8
 u1:mu d ka+1<=n
 u2:mu d kb+1<=n
 c:(g=.pr ka kb)\/(0 < d/\(g=.num\/g=.tru)/\ka=.num/\kb=.num)\/(0 < d/\g=.ls ka/\kb=g)
theorem oQ {K:W.Frag}{n d:Nat}{H:Hp}{Q:VK}{E:XK}{a:Addr}{ns:List Int}{k:Int}{g:Kd}{rg:V}{l:Addr}{xs:List (Str × Kd)}(P:Ga K H a ns g rg l xs)(hu:mu d g+1<=n)(h8:max 3 (dp g)+d<=8)(h3:d<=3)(hx:xs.length+2 * n<=1002)
  (q:∀ e r H',An H H'->B9 H' e r->Ov (Lj xs) (B d (dp g)) (C d (sk g)) e->Q r H'):Dr K n [.ref a,.int k,rg,.ref l,.int d] H Q E:=by
 cases n with
 | zero=>omega
 | succ n=>exact ⟨a,ns,k,g,rg,l,xs,d,rfl,P,(),h8,.inl h3,(),q⟩
theorem Di:AE ["_law_script","_law_k","_law_goal","_law_names","_law_deep","_law_number","_law_a","_law_b","_law_inner","_law_words","_law_kinds","_law_pieces"] GO (Ae Bp):=nofun
theorem OM {n r:Nat}{f:Addr}{fd:FuncData}(F:D4 K "_law_built" "_law_built" Bp f fd)(CO:mg "list"=none)(AV:mg "tuple"=none)(Cd:mg "range"=none)(Yy:11<=r)
  (cM:Cl Pr w K mg base 2 "_law_mix" HG (DY K)) (cN:Cl Pr w K mg base 1 "_law_name" ["_law_number"] G9) (cV:Cl Pr w K mg base 1 "_law_with" ["_law_names","_law_more"] Fg) (cI:Cl Pr w K mg base 1 "_law_int" ["_law_number"] KW)
  (cD:Cl Pr w K mg base r "_law_made" GO (Dr K n)) :
  AY Pr w K mg base C5 (r+1) f fd GO (EE K n):=by
 refine F.okS Di (λvs H Q E h=>?_) (λBV A outer s H vs Q E hr h=>?_)
 ·obtain ⟨a,ns,k,g,rg,l,xs,d,rfl,_⟩:=h;rfl
 ·obtain ⟨a,ns,k,g,rg,l,xs,d,rfl,P,fY,Tf,h8,sZ,hx,q⟩:=h
  have fZ:d<=3:=by unfold Pb at sZ;omega
  have GK:Bh 2 _:=hr.mono ()
  have Nz:Bh 1 _:=hr.mono ()
  have FG:=hr.units
  have hu:=Hb hr
  have S:Bx (DP C5 Pr w K mg base ["_law_script","_law_k","_law_goal","_law_names","_law_deep","_law_number","_law_a","_law_b","_law_inner","_law_words","_law_kinds","_law_pieces"] "_law_built" (Ae Bp) f BV A outer s H E).nox (Cw (valueOf (inDef Bp 10))) [("_law_script",s.heap.objs.size+1),("_law_names",s.heap.objs.size+3),("_law_kinds",s.heap.objs.size+5),("_law_k",s.heap.objs.size+2),("_law_deep",s.heap.objs.size+4)] ["_law_j"] ["_law_script","_law_names","_law_kinds","_law_k","_law_deep"] [0,3,10,1,4] :=
   ⟨rfl,by decide +kernel,rfl,by decide +kernel,rfl,rfl,rfl,rfl⟩
  have Hw:(["_law_j","_law_script","_law_names","_law_kinds","_law_k","_law_deep"]:List Str).Nodup:=by decide +kernel
  refine ⟨_,(Ah (Ay (i:=5) Di.nd rfl (.inl rfl) (B1 cM GK rfl (Aa (Ai 0) (Aa (As AZ (Ai 1) Ab) Ac))))
   (Ah (Ay (i:=6) Di.nd rfl (.inl rfl) (B1 cN Nz rfl (Aa (As Ck (Ai 5) Ab) Ac)))
   (Ah (Ay (i:=7) Di.nd rfl (.inl rfl) (B1 cN Nz rfl (Aa (As Ck (Ai 5) Ab) Ac)))
   (Ah (B7 (Aw AK (Ao (r:=AA K) Aj (Ai 2) Ab AO) Af (Am _)) (Ah (Ay (i:=8) Di.nd rfl (.inl rfl) (B1 cV Nz rfl (Aa (Ai 3) (Aa (AS (Aa (Aq (Aa (Ai 6) (Aa (Ao (r:=AA K) Aj (Ai 2) Ab AO) Ac))) Ac)) Ac))))
   (Ah (B7 (Gk (w_and (Aw Pw (Ai 6) (Ai 7) (Am _)) (CN (Aw AK (As Bc (Ai 5) Ab) Ab (Am _))))) (Ah (Ay (i:=8) Di.nd rfl (.inl rfl) (B1 cV Nz rfl (Aa (Ai 3) (Aa (AS (Aa (Aq (Aa (Ai 7) (Aa (Ai 2) Ac))) (Aa (Aq (Aa (Ai 6) (Aa (Ao (r:=AA K) Aj (Ai 2) Ab AO) Ac))) Ac))) Ac))))
   (Al (Ar (Aq (Aa Af (Aa (Ai 7) (Aa (Ai 6) (Aa (B1 cD hr rfl (Aa (Ai 0) (Aa (As AZ (As BE Ab (Ai 1)) Ab) (Aa (Ao (r:=AA K) Aj (Ai 2) Ab AO) (Aa (Ai 8) (Aa (Ai 4) Ac)))))) Ac)))))))) AN)
   (Al (Ar (Aq (Aa Af (Aa (Ai 6) (Aa (B1 cD hr rfl (Aa (Ai 0) (Aa (As AZ (As BE Ab (Ai 1)) Ab) (Aa (Ao (r:=AA K) Aj (Ai 2) Ab AO) (Aa (Ai 8) (Aa (Ai 4) Ac)))))) Ac)))))))) AN)
   (Ah (B7 (Gk (w_and (Aw AK (Ao (r:=AA K) Aj (Ai 2) Ab AO) Af (Am _)) (CN (Gk (w_or (Aw AK (Ai 4) Ab (Am _)) (EX (Aw AK (As Bc (Ai 5) Ab) Ab (Am _)))))))) (Al (Ar (Aq (Aa Af Ac)))) AN)
   (Ah (B7 (Gk (w_and (Aw AK (Ao (r:=AA K) Aj (Ai 2) Ab AO) Af (Am _)) (CN (Gk (w_or (Aw AK (Ai 4) Ab (Am _)) (EX (Aw AK (As Bc (Ai 5) Ab) Ab (Am _)))))))) (Al (Ar (Aq (Aa Af (Aa (B1 cI Nz rfl (Aa (As Ck (Ai 5) Ab) Ac)) Ac))))) AN)
   (Ah (B7 (Gk (w_and (Aw AK (Ao (r:=AA K) Aj (Ai 2) Ab AO) Af (Am _)) (CN (Gk (w_or (Aw AK (Ai 4) Ab (Am _)) (EX (Aw AK (As Bc (Ai 5) Ab) Ab (Am _)))))))) (Al (Ar (Aq (Aa Af (Aa (Cc AK (As Bc (As Ck (Ai 5) Ab) Ab) Ab (Am _)) Ac))))) AN)
   (Ah (Ay (i:=9) Di.nd rfl (.inl rfl) (He (BW Af (Aq (Aa Af (Aa (Ao (r:=Bw K) AJ (AS (Aa Af (Aa Af Ac))) (As Bc (As Ck (Ai 5) Ab) Ab) AO) Ac))) (BW Af (Aq (Aa Af (Aa (Ao (r:=Bw K) AJ (AS (Aa Af (Aa Af Ac))) (As Bc (As Ck (Ai 5) Ab) Ab) AO) Ac))) JZ)) rfl rfl (by simp) ⟨⟩))
   (Ah (Ay (i:=10) Di.nd rfl (.inr rfl) (JY (Aw AK (Ao (r:=AA K) Aj (Ai 2) Ab AO) Af (Am _)) (AS (Aa (Ao (r:=AA K) Aj (Ai 2) Ab AO) (Aa (Ai 2) Ac))) (Cg E5 (by rfl) CO PyProof.Rows.boot_list (Aa (Cn (r:=F6 K) Dt (Ai 2) (Cv Ab) Dm) Ac))))
   (Ah (B7 (il hu (Ao (r:=AA K) Aj (Ai 2) Ab AO) (Ai 9)) (Al (Ay (i:=10) Di.nd rfl (.inr rfl) (AS (Aa (Aq (Aa Af Ac)) (Aa (Aq (Aa Af Ac)) Ac))))) AN)
   (Ah (F' (i:=11) Di.nd rfl (.inl rfl) (tt:=HM) (te:=Ed (Dr K n) [] E0 (BB (Bv 1) (BB (Fl (NW λi j=>.int (i+j)) (Fl (NW λi j=>.int (i+j)) (Fl (rI S1 λi j=>.int (i * j)) (tC (.int 3)) (Bv 4)) (tC (.int 1))) (Bv 0)) (BB (Fl (Bw K) (Bv 3) (Bv 0)) (BB (Bv 2) (BB (Bv 5) Em)))))) S rfl (Hg rfl Cd (Aa Ab Ac)) (λC s0 H0 ex=>BF (i:=0) Hw rfl (.inl rfl)) (λC s0 H0 ex=>EZ) (λC s0 H0 ex=>B1 cD hr rfl (Aa (Ai 1) (Aa (As AZ (As AZ (As BE Ab (Ai 4)) Ab) (Ai 0)) (Aa (Ao AJ (Ai 3) (Ai 0) AO) (Aa (Ai 2) (Aa (Ai 5) Ac)))))))
   (Al (Ar (As (r:=Fp K) Fq (EK hu (Ai 9) (Ao (r:=AA K) Aj (Ai 2) Ab AO) (Aq (Aa (EK hu (He (BW Af Af JZ) rfl rfl (by simp) ⟨⟩) (Ao (r:=AA K) Aj (Ai 2) Ab AO) Af ⟨rfl,rfl,rfl,rfl⟩) Ac)) ⟨rfl,rfl,rfl,rfl⟩) (Cg DJ (by rfl) AV PyProof.Rows.boot_tuple (Aa (Ai 11) Ac)))))))))))))))),?_⟩
  refine OL (fun σ' H'=>gq λ(m:Int) (x y:V) (o:Option V) (wl kl w1 w2:Addr) (o1 o2:Str) (ka kb:Kd) (ra rb:V)=>σ'=[some (.ref a),some (.int k),some rg,some (.ref l),some (.int d),some (.int m),some x,some y,o,some (.ref wl),some (.ref kl),none]/\An H H'/\BSt K H' a ns g rg l xs d n wl kl w1 w2 o1 o2 ka kb ra rb) ?_ λN10 fin=>?_
  ·rintro σ' H1 ⟨m,x,y,o,wl,kl,w1,w2,o1,o2,ka,kb,ra,rb,rfl,oB,T⟩
   left
   refine ⟨2,rfl,⟨⟩,⟨⟩,?_⟩
   refine Ka (n:=2) (PB H1 (Lj xs) d ka kb) ⟨rfl,An.refl _⟩ (by exact D5 ⟨⟩) (λi ys H' z=>z.len) rfl (λi ys H2 hi z=>?_) (λys H2 z=>?_)
   ·have s2:=z.same
    have P2:=T.P.mono s2
    have oR:=s2 _ _ T.hk
    have t2:=Au.of_same s2
    left
    refine CT ?_
    left
    cases i with
    | zero =>
     refine AX (B3.of oR) (v:=ra) rfl ?_
     left
     refine oQ (P2.with (BY.mono t2 T.h3) T.g1 P2.hl P2.hx) T.u1 T.m1 fZ () λe r H3 s3 ha ho=>?_
     refine Nx.mk ⟨⟩ ⟨s2.trans s3,e,r,by rw [z.1];rfl,ha,ho⟩
    | succ i=>cases i with
     | zero =>
      obtain ⟨_,e1,r1,rfl,z2,z3⟩:=z
      refine AX (B3.of oR) (v:=rb) rfl ?_
      left
      refine oQ (P2.with (BY.mono t2 T.h4) T.g2 P2.hl P2.hx) T.u2 T.m2 fZ () λe r H3 s3 ha ho=>?_
      refine Nx.mk ⟨⟩ ⟨s2.trans s3,e1,r1,e,r,rfl,B9.mono (Au.of_same s3) z2,z3,ha,ho⟩
     | succ i=>omega
   ·obtain ⟨Ei,e1,r1,e2,r2,rfl,a1,k1,a2,k2⟩:=z
    intros pl H3 s3 e3
    left
    have Gp:=Ei.trans s3
    have j':=Gp _ _ T.hw
    have cO:=k1.op
    have n1:=k1.np
    have n2:=k2.np
    have z1:=k1.sz
    have z2:=k2.sz
    refine ⟨wl,rfl,.inl ⟨_,.inl j'⟩,?_⟩
    have pkb:B d (dp ka)<=B d (dp g)/\B d (dp kb)<=B d (dp g)/\C d (sk ka)<=C d (sk g)/\C d (sk kb)<=C d (sk g):=by
     rcases T.c with h | ⟨_,h | h,h1,h2⟩ | ⟨_,h,h1⟩
     ·subst h;exact ⟨Ea d (by simp only [dp];omega),Ea d (by simp only [dp];omega),Dd d (by simp only [sk];omega),Dd d (by simp only [sk];omega)⟩
     ·subst h h1 h2;exact ⟨Nat.le_refl _,Nat.le_refl _,Nat.le_refl _,Nat.le_refl _⟩
     ·subst h h1 h2;exact ⟨Nat.le_refl _,Nat.le_refl _,Nat.le_refl _,Nat.le_refl _⟩
     ·subst h1 h;exact ⟨Ea d (by simp only [dp];omega),Nat.le_refl _,Dd d (by simp only [sk];omega),Nat.le_refl _⟩
    have bnd:(0 < d\/g=.pr ka kb)->∀ e:Ex,e.kn<=1+max e1.kn e2.kn->e.sz<=1+e1.sz+e2.sz->e.kn<=Bb d (dp g)/\e.sz<=Cb d (sk g):=by
     intro hd e h1 h2
     cases d with
     | zero =>
      rcases hd with hd | hd
      ·omega
      ·subst hd
       simp only [B,C,cc] at n1 n2 z1 z2
       simp only [Bb,Cb,dp,sk]
       omega
     | succ d=>simp only [Bb,Cb];omega
    have IP:0 < d\/g=.pr ka kb:=by
     rcases T.c with h | ⟨h,_⟩ | ⟨h,_⟩
     ·exact .inr h
     ·exact .inl h
     ·exact .inl h
    have last:∀ (H4:Hp) (pw:Addr) (ws:List V) (e:Ex),An H3 H4->H4 pw=some (.tup ws)->ws≠[]->ws.length<=2->(∀ H5 p,An H4 H5->H5 p=some (.tup (ws++[r1,r2]))->B9 H5 e (.ref p))->Ov (Lj xs) (Bb d (dp g)) (Cb d (sk g)) e ->
      Sf (λxs H Q=>∃ p ys,xs=[.ref p]/\((B3 K H p ys/\∀ l,H l=none->Q (.ref l) (upd H l (.tup ys)))\/(Av K H p ys/\Q (.ref p) H))) (BB (Bv 11) Em) [some (.ref a),some (.int k),some rg,some (.ref l),some (.int d),some (.int m),some x,some y,o,some (.ref wl),some (.ref kl),some (.ref pl)] H4 λy' H5=>Fp K (.ref pw) y' H5 Q:=by
     intro H4 pw ws e s4 hw Ld g9 he hok
     left
     refine ⟨pl,_,rfl,.inl ⟨B3.of (s4 _ _ e3),λp hp=>?_⟩⟩
     have s5:An H4 (upd H4 p (.tup [r1,r2])):=An.new hp
     refine Fz (Av.of (s5 _ _ hw)) (Av.of AG) Ld (BX (by simp;omega)) (λz=>by cases z) λp6 H6 _ s6 e6=>?_
     exact q e _ H6 (oB.trans (Gp.trans (s4.trans (s5.trans s6)))) (he H6 p6 (s5.trans s6) e6) hok
    have mE:∀ {H5:Hp},An H3 H5->B9 H5 e1 r1/\B9 H5 e2 r2:=λh=>⟨B9.mono (Au.of_same (s3.trans h)) a1,B9.mono (Au.of_same (s3.trans h)) a2⟩
    have cs:Iv7 λ(pg:Addr) (wd:Str) (us:List V) (z1:V) (o2:Option Addr) (ws:List V) (e:Ex)=>rg=.ref pg/\H3 pg=some (.tup (.str wd::us))/\(C7 [(.inr "pair",V.str "pair")] (Sum.inr wd:Key)).getD (.str "link")=z1/\C7 [(.inr "number",V.ref w1),(.inr "truth",V.ref w2)] (Sum.inr wd:Key)=o2.map V.ref /\
      (o2=none->ws=[z1])/\(∀ p,o2=some p->H3 p=some (.tup ws))/\ws≠[]/\ws.length<=2/\(∀ H5 p,An H3 H5->H5 p=some (.tup (ws++[r1,r2]))->B9 H5 e (.ref p))/\Ov (Lj xs) (Bb d (dp g)) (Cb d (sk g)) e:=by
     have hG:=BY.mono (Au.of_same Gp) T.P.hg
     have b:=bnd IP
     rcases T.c with h | ⟨_,h | h,h1,h2⟩ | ⟨_,h,h1⟩
     ·subst h
      obtain ⟨pg,ga,gb,rfl,hg,_⟩:=hG
      have b:=b (.pr e1 e2) (by simp only [Ex.kn];omega) (by simp only [Ex.sz];omega)
      exact ⟨pg,_,_,.str "pair",none,[.str "pair"],.pr e1 e2,rfl,hg,rfl,rfl,λ_=>rfl,λp z=>(by cases z),by simp,by simp,λH5 p s5 h5=>⟨p,r1,r2,rfl,h5,mE s5⟩,⟨⟨k1.cl,k2.cl⟩,⟨k1.op,k2.op⟩,b.1,b.2⟩⟩
     ·subst h
      obtain ⟨pg,rfl,hg⟩:=hG
      have b:=b (.op o1 e1 e2) (by simp only [Ex.kn];omega) (by simp only [Ex.sz];omega)
      exact ⟨pg,_,_,.str "link",some w1,[.str "op",.str o1],.op o1 e1 e2,rfl,hg,rfl,rfl,λz=>(by cases z),λp z=>(by cases z;exact Gp _ _ T.h1),by simp,by simp,λH5 p s5 h5=>⟨p,r1,r2,rfl,h5,mE s5⟩,⟨⟨k1.cl,k2.cl⟩,⟨T.i1,k1.op,k2.op⟩,b.1,b.2⟩⟩
     ·subst h
      obtain ⟨pg,rfl,hg⟩:=hG
      have b:=b (.op o2 e1 e2) (by simp only [Ex.kn];omega) (by simp only [Ex.sz];omega)
      exact ⟨pg,_,_,.str "link",some w2,[.str "op",.str o2],.op o2 e1 e2,rfl,hg,rfl,rfl,λz=>(by cases z),λp z=>(by cases z;exact Gp _ _ T.h2),by simp,by simp,λH5 p s5 h5=>⟨p,r1,r2,rfl,h5,mE s5⟩,⟨⟨k1.cl,k2.cl⟩,⟨T.i2,k1.op,k2.op⟩,b.1,b.2⟩⟩
     ·subst h
      obtain ⟨pg,ga,rfl,hg,_⟩:=hG
      have b:=b (.lk e1 e2) (by simp only [Ex.kn];omega) (by simp only [Ex.sz];omega)
      exact ⟨pg,_,_,.str "link",none,[.str "link"],.lk e1 e2,rfl,hg,rfl,rfl,λ_=>rfl,λp z=>(by cases z),by simp,by simp,λH5 p s5 h5=>⟨p,r1,r2,rfl,h5,mE s5⟩,⟨⟨k1.cl,k2.cl⟩,⟨k1.op,k2.op⟩,b.1,b.2⟩⟩
    obtain ⟨pg,wd,us,z1,o2',ws,e,rfl,hg,hz,ho,hn1,oK,Ld,g9,Vo,hok⟩:=cs
    left
    refine Ad (Av.of hg) (v:=.str wd) (Ak (j:=0) rfl) ?_
    left
    refine Fy λp4 H4 Xw s4 e4=>?_
    left
    refine ⟨e4,[(.inr "pair",.str "pair")],rfl,⟨⟩,λH5 o5 e5=>?_⟩
    have QX:An H3 H5:=λb o hb=>by
     have Tj:b≠p4:=λz=>by rw [z,Xw] at hb;cases hb
     rw [o5 b Tj];exact s4 _ _ hb
    refine ⟨p4,rfl,.inl ⟨_,.inl e5⟩,?_⟩
    left
    refine Ad (Av.of (QX _ _ hg)) (v:=.str wd) (Ak (j:=0) rfl) ?_
    left
    refine ⟨_,Dx.k (k:=.inr wd) e5,?_⟩
    have hz':(C7 (Cf [] [(Sum.inr "pair",V.str "pair")]) (Sum.inr wd:Key)).getD (.str "link")=z1:=hz
    left
    rw [hz']
    intros p6 H6 s6 e6
    have gc:=QX.trans s6
    refine ⟨_,Dx.k (k:=.inr wd) (gc _ _ j'),?_⟩
    rw [ho]
    cases o2' with
    | none=>exact last H6 p6 ws e gc (by rw [hn1 rfl];exact e6) Ld g9 (λH5 p s5 h5=>Vo H5 p (gc.trans s5) h5) hok
    | some p7=>exact last H6 p7 ws e gc (gc _ _ (oK p7 rfl)) Ld g9 (λH5 p s5 h5=>Vo H5 p (gc.trans s5) h5) hok
  ·left
   refine ⟨a,ns,_,rfl,P.hs,λm hm=>?_⟩
   left
   refine ⟨_,rfl,λx H1 s1=>?_⟩
   left
   refine ⟨_,rfl,λy H2 s2=>?_⟩
   have BN:=s1.trans s2
   have P2:=P.mono BN
   obtain ⟨pg,us,rfl,hg,_⟩:=BY.look P2.hg
   have rest:(D1 λg1 g2=>g=.fn g1 g2)\/word g="number"\/word g="truth"\/word g="pair"\/word g="list":=by
    have:=P.gd
    cases g with
    | num=>exact .inr (.inl rfl)
    | tru=>exact .inr (.inr (.inl rfl))
    | gap i=>exact this.elim
    | fn a b=>exact .inl ⟨a,b,rfl⟩
    | pr a b=>exact .inr (.inr (.inr (.inl rfl)))
    | ls a=>exact .inr (.inr (.inr (.inr rfl)))
   refine CL (fun σ' H'=>(word g="number"\/word g="truth"\/word g="pair"\/word g="list")/\σ'=[some (.ref a),some (.int k),some (.ref pg),some (.ref l),some (.int d),some (.int m),some (.str x),some (.str y),none,none,none,none]/\H'=H2) ?_ λN0 XG=>?_
   ·rintro _ _ ⟨rest,rfl,rfl⟩
    refine Rw (fun σ' H'=>σ'=[some (.ref a),some (.int k),some (.ref pg),some (.ref l),some (.int d),some (.int m),some (.str x),some (.str y),none,none,none,none]/\An H H'/\(d=0->D1 λa b=>g=.pr a b)) ?_ λN3 fin2=>?_
    ·rintro σ' H3 ⟨rfl,D3,hd⟩
     left
     refine Fy λp4 H4 Xw s4 e4=>?_
     left
     intros l1 H5 s5 e5
     left
     refine Dg (B3.of e5) (Int.emod_nonneg _ ⟨⟩) (Int.emod_lt_of_pos _ ⟨⟩) λv1 X7=>?_
     left
     intros w1 H6 s6 e6
     left
     intros l2 H7 s7 e7
     left
     refine Dg (B3.of e7) (Int.emod_nonneg _ ⟨⟩) (Int.emod_lt_of_pos _ ⟨⟩) λv2 hv2=>?_
     left
     intros w2 H8 s8 e8
     left
     have oS:=s5.trans (s6.trans (s7.trans s8))
     refine ⟨oS _ _ e4,[(.inr "number",.ref w1),(.inr "truth",.ref w2)],rfl,Nat.le_of_ble_eq_true rfl,λH9 o9 e9=>?_⟩
     have s39:An H3 H9:=λb o hb=>by
      have Tj:b≠p4:=λz=>by rw [z,Xw] at hb;cases hb
      rw [o9 b Tj];exact oS _ _ (s4 _ _ hb)
     have ow:∀ b o,H8 b=some o->b≠p4->H9 b=some o:=λb o hb Ld=>by rw [o9 b Ld];exact hb
     have oT:H9 w1=some (.tup [.str "op",v1]):=ow _ _ (s8 _ _ (s7 _ _ e6)) (λz=>by have h1:=s8 _ _ (s7 _ _ e6);have h2:=oS _ _ e4;rw [z,h2] at h1;cases h1)
     have oU:H9 w2=some (.tup [.str "op",v2]):=ow _ _ e8 (λz=>by have h1:=e8;have h2:=oS _ _ e4;rw [z,h2] at h1;cases h1)
     obtain ⟨o1,rfl,oV⟩:∃ o1,v1=.str o1/\Ex.isOp o1:=by
      simp only [List.mem_cons,List.not_mem_nil,or_false] at X7
      rcases X7 with rfl | rfl
      ·exact ⟨_,rfl,.inl rfl⟩
      ·exact ⟨_,rfl,.inr (.inl rfl)⟩
     obtain ⟨o2,rfl,oW⟩:∃ o2,v2=.str o2/\Ex.isOp o2:=by
      simp only [List.mem_cons,List.not_mem_nil,or_false] at hv2
      rcases hv2 with rfl | rfl
      ·exact ⟨_,rfl,.inr (.inr (.inl rfl))⟩
      ·exact ⟨_,rfl,.inr (.inr (.inr rfl))⟩
     left
     have P9:=P.mono (D3.trans s39)
     have VI:=D3.trans s39
     cases g with
     | gap i=>exact P.gd.elim
     | fn a b=>exact (by rcases rest with h | h | h | h <;> exact absurd (show (Str.ofString "fun")=_ from h) ⟨⟩)
     | ls ka =>
      obtain ⟨p0,ga,e0,JG,jL⟩:=P9.hg
      cases e0
      refine Ad (Av.of JG) (v:=.str "list") rfl ?_
      left
      refine AW (decide_eq_true rfl) ?_
      left
      refine Ad (Av.of JG) (v:=ga) rfl ?_
      left
      intros kl GJ CP Jm
      left
      refine Ad (Av.of (CP _ _ JG)) (v:=.str "list") rfl ?_
      left
      refine ⟨p4,_,rfl,Dx.k (k:=.inr "list") (CP _ _ e9),?_⟩
      left
      refine AF (by show ¬ (false=true);decide) ?_
      have d0:0 < d:=Nat.pos_of_ne_zero λz=>by obtain ⟨_,_,h⟩:=hd z;cases h
      have h1:=Tf d0
      have dk:dp (Kd.ls ka)=dp ka+1:=rfl
      refine fin _ _ ⟨m,.str x,.str y,none,p4,kl,w1,w2,o1,o2,ka,.ls ka,ga,.ref pg,rfl,VI.trans CP,P9.mono CP,CP _ _ e9,CP _ _ oT,CP _ _ oU,oV,oW,Jm,BY.mono (Au.of_same CP) jL,BY.mono (Au.of_same CP) P9.hg,P.gd,P.gd,(),(),?_,?_,.inr (.inr ⟨d0,rfl,rfl⟩)⟩
      ·cases d with
       | zero=>omega
       | succ d=>simp only [mu];omega
      ·cases d with
       | zero=>omega
       | succ d=>simp only [mu];omega
     | pr ka kb =>
      obtain ⟨p0,ga,gb,e0,JG,jL,hgb⟩:=P9.hg
      cases e0
      refine Ad (Av.of JG) (v:=.str "pair") rfl ?_
      left
      refine AF ⟨⟩ ?_
      left
      refine D9 (Av.of JG) (λz=>absurd (show (1:Nat)=0 from z.1) ⟨⟩) λp5 GJ _ CP Jm=>?_
      left
      refine ⟨p5,_,rfl,.inr (Av.of Jm),λkl hl=>?_⟩
      have CA:An GJ (upd GJ kl (.lst (D7 [.str "pair",ga,gb] (some 1) none))):=An.new hl
      have FE:(upd GJ kl (.lst (D7 [.str "pair",ga,gb] (some 1) none))) kl=some (.lst [ga,gb]):=AG
      generalize (upd GJ kl (.lst (D7 [.str "pair",ga,gb] (some 1) none)))=F0 at CA FE ⊢
      have EF:=CP.trans CA
      left
      refine Ad (Av.of (EF _ _ JG)) (v:=.str "pair") rfl ?_
      left
      refine ⟨p4,_,rfl,Dx.k (k:=.inr "pair") (EF _ _ e9),?_⟩
      left
      refine AF (by show ¬ (false=true);decide) ?_
      have dk:dp (Kd.pr ka kb)=max (dp ka) (dp kb)+1:=rfl
      refine fin _ _ ⟨m,.str x,.str y,none,p4,kl,w1,w2,o1,o2,ka,kb,ga,gb,rfl,VI.trans EF,P9.mono EF,EF _ _ e9,EF _ _ oT,EF _ _ oU,oV,oW,FE,BY.mono (Au.of_same EF) jL,BY.mono (Au.of_same EF) hgb,P.gd.1,P.gd.2,(),(),?_,?_,.inl rfl⟩
      ·cases d with
       | zero=>have:=fY rfl;simp only [mu];omega
       | succ d=>have:=Tf (Nat.succ_pos _);simp only [mu];omega
      ·cases d with
       | zero=>have:=fY rfl;simp only [mu];omega
       | succ d=>have:=Tf (Nat.succ_pos _);simp only [mu];omega
     | num =>
      obtain ⟨p0,e0,JG⟩:=P9.hg
      cases e0
      refine Ad (Av.of JG) (v:=.str "number") rfl ?_
      left
      refine AF ⟨⟩ ?_
      left
      refine D9 (Av.of JG) (λz=>absurd (show (1:Nat)=0 from z.1) ⟨⟩) λp5 GJ _ CP Jm=>?_
      left
      refine ⟨p5,_,rfl,.inr (Av.of Jm),λkl hl=>?_⟩
      have CA:=An.new (o:=.lst (D7 [.str "number"] (some 1) none)) hl
      generalize upd GJ kl (.lst (D7 [.str "number"] (some 1) none))=F0 at CA ⊢
      have EF:=CP.trans CA
      left
      refine Ad (Av.of (EF _ _ JG)) (v:=.str "number") rfl ?_
      left
      refine ⟨p4,_,rfl,Dx.k (k:=.inr "number") (EF _ _ e9),?_⟩
      left
      refine AW rfl ?_
      left
      intros q1 Ou Ei Iy
      left
      intros q2 Ti Gp Vr
      left
      intros q3 Vs Eh Lg
      have HE:=EF.trans (Ei.trans (Gp.trans Eh))
      have d0:0 < d:=Nat.pos_of_ne_zero λz=>by obtain ⟨_,_,h⟩:=hd z;cases h
      have h1:=Tf d0
      have dk:dp Kd.num=0:=rfl
      refine fin _ _ ⟨m,.str x,.str y,none,p4,q3,w1,w2,o1,o2,.num,.num,.ref q1,.ref q2,rfl,VI.trans HE,P9.mono HE,HE _ _ e9,HE _ _ oT,HE _ _ oU,oV,oW,Lg,⟨q1,rfl,Eh _ _ (Gp _ _ Iy)⟩,⟨q2,rfl,Eh _ _ Vr⟩,P.gd,P.gd,(),(),?_,?_,.inr (.inl ⟨d0,.inl rfl,rfl,rfl⟩)⟩
      ·cases d with
       | zero=>omega
       | succ d=>simp only [mu];omega
      ·cases d with
       | zero=>omega
       | succ d=>simp only [mu];omega
     | tru =>
      obtain ⟨p0,e0,JG⟩:=P9.hg
      cases e0
      refine Ad (Av.of JG) (v:=.str "truth") rfl ?_
      left
      refine AF ⟨⟩ ?_
      left
      refine D9 (Av.of JG) (λz=>absurd (show (1:Nat)=0 from z.1) ⟨⟩) λp5 GJ _ CP Jm=>?_
      left
      refine ⟨p5,_,rfl,.inr (Av.of Jm),λkl hl=>?_⟩
      have CA:=An.new (o:=.lst (D7 [.str "truth"] (some 1) none)) hl
      generalize upd GJ kl (.lst (D7 [.str "truth"] (some 1) none))=F0 at CA ⊢
      have EF:=CP.trans CA
      left
      refine Ad (Av.of (EF _ _ JG)) (v:=.str "truth") rfl ?_
      left
      refine ⟨p4,_,rfl,Dx.k (k:=.inr "truth") (EF _ _ e9),?_⟩
      left
      refine AW rfl ?_
      left
      intros q1 Ou Ei Iy
      left
      intros q2 Ti Gp Vr
      left
      intros q3 Vs Eh Lg
      have HE:=EF.trans (Ei.trans (Gp.trans Eh))
      have d0:0 < d:=Nat.pos_of_ne_zero λz=>by obtain ⟨_,_,h⟩:=hd z;cases h
      have h1:=Tf d0
      have dk:dp Kd.num=0:=rfl
      have dk':dp Kd.tru=0:=rfl
      refine fin _ _ ⟨m,.str x,.str y,none,p4,q3,w1,w2,o1,o2,.num,.num,.ref q1,.ref q2,rfl,VI.trans HE,P9.mono HE,HE _ _ e9,HE _ _ oT,HE _ _ oU,oV,oW,Lg,⟨q1,rfl,Eh _ _ (Gp _ _ Iy)⟩,⟨q2,rfl,Eh _ _ Vr⟩,P.gd,P.gd,(),(),?_,?_,.inr (.inl ⟨d0,.inr rfl,rfl,rfl⟩)⟩
      ·cases d with
       | zero=>omega
       | succ d=>simp only [mu];omega
      ·cases d with
       | zero=>omega
       | succ d=>simp only [mu];omega
    ·left
     refine Ad (Av.of hg) (v:=.str (word g)) (Ak (j:=0) rfl) ?_
     left
     have ne:∀ j:Int,¬ decide (V.int d=V.int j)=true->(d:Int)≠j:=λj h z=>h (decide_eq_true (by rw [z]))
     have Agt:word g="number"\/word g="truth"\/word g="pair"->∀ {A B:Prop},B->if decide (V.str (word g)=V.str "list")=true then A else B:=λh A B hB=>AF (by rcases h with h | h | h <;> rw [h] <;> decide) hB
     cases g with
     | gap i=>exact P.gd.elim
     | fn a b=>exact (by rcases rest with h | h | h | h <;> exact absurd (show (Str.ofString "fun")=_ from h) ⟨⟩)
     | ls ka =>
      refine AW (decide_eq_true rfl) ?_
      left
      refine nU ?_ λh1 emp=>?_
      ·left
       intros p3 H3 s3 e3
       exact q .emp _ _ (BN.trans s3) ⟨p3,rfl,e3⟩ ⟨trivial,trivial,Nat.zero_le _,by cases d <;> simp only [Cb,Ex.sz,sk] <;> omega⟩
      ·left
       refine Ep (λ_=>emp) λ_=>?_
       left
       refine Ad (Av.of hg) (v:=.str "list") (Ak (j:=0) rfl) ?_
       left
       refine AF ⟨⟩ (Cm ?_)
       left
       refine Ad (Av.of hg) (v:=.str "list") (Ak (j:=0) rfl) ?_
       left
       refine AF ⟨⟩ (Cm ?_)
       exact fin2 _ _ ⟨rfl,BN,λz=>absurd (ne 0 h1) (by simp [z])⟩
     | pr ka kb =>
      refine AF (show ¬ decide (V.str "pair"=V.str "list")=true by decide) (Cm ?_)
      left
      refine Ad (Av.of hg) (v:=.str "pair") (Ak (j:=0) rfl) ?_
      left
      refine AF ⟨⟩ (Cm ?_)
      left
      refine Ad (Av.of hg) (v:=.str "pair") (Ak (j:=0) rfl) ?_
      left
      refine AF ⟨⟩ (Cm ?_)
      exact fin2 _ _ ⟨rfl,BN,λz=>⟨_,_,rfl⟩⟩
     | num =>
      refine AF ⟨⟩ (Cm ?_)
      left
      refine Ad (Av.of hg) (v:=.str "number") (Ak (j:=0) rfl) ?_
      left
      refine AW (decide_eq_true rfl) ?_
      left
      refine nU ?_ λh1 emp=>?_
      ·left
       refine ⟨_,rfl,λi H3 s3=>?_⟩
       left
       intros p3 H4 s4 e4
       exact q (.num i) _ _ (BN.trans (s3.trans s4)) ⟨p3,rfl,e4⟩ ⟨trivial,trivial,Nat.zero_le _,by cases d <;> simp only [Cb,Ex.sz,sk] <;> omega⟩
      ·left
       refine Ep (λ_=>emp) λ_=>?_
       left
       refine Ad (Av.of hg) (v:=.str "number") (Ak (j:=0) rfl) ?_
       left
       refine AF ⟨⟩ (Cm ?_)
       exact fin2 _ _ ⟨rfl,BN,λz=>absurd (ne 0 h1) (by simp [z])⟩
     | tru =>
      refine AF ⟨⟩ (Cm ?_)
      left
      refine Ad (Av.of hg) (v:=.str "truth") (Ak (j:=0) rfl) ?_
      left
      refine AF ⟨⟩ (Cm ?_)
      left
      refine Ad (Av.of hg) (v:=.str "truth") (Ak (j:=0) rfl) ?_
      left
      refine AW (decide_eq_true rfl) ?_
      left
      refine nU ?_ λh1 emp=>?_
      ·left
       intros p3 H4 s4 e4
       exact q (.tru _) _ _ (BN.trans s4) ⟨p3,rfl,e4⟩ ⟨trivial,trivial,Nat.zero_le _,by cases d <;> simp only [Cb,Ex.sz,sk] <;> omega⟩
      ·left
       refine Ep (λ_=>emp) λ_=>?_
       exact fin2 _ _ ⟨rfl,BN,λz=>absurd (ne 0 h1) (by simp [z])⟩
   ·left
    refine Ad (Av.of hg) (v:=.str (word g)) (Ak (j:=0) rfl) ?_
    left
    rcases rest with ⟨g1,g2,rfl⟩ | rest
    ·refine AW (decide_eq_true rfl) ?_
     obtain ⟨p0,r1,r2,e0,JG,rG,oR⟩:=P2.hg
     cases e0
     left
     refine Ad (Av.of JG) (v:=r1) rfl ?_
     left
     intros q1 H3 s3 e3
     left
     intros q2 H4 s4 e4
     left
     have Ko:=s3.trans s4
     have P4:=P2.mono Ko
     have dk:dp (Kd.fn g1 g2)=max (dp g1) (dp g2)+1:=rfl
     have Yv:mu d g2+1<=n:=by
      cases d with
      | zero=>have:=fY rfl;simp only [mu];omega
      | succ d=>have:=Tf (Nat.succ_pos _);simp only [mu];omega
     have k29:∀ e0:Ex,e0.kn<=B d (dp g2)->e0.kn<=29:=by
      intro e0 h0
      unfold Pb at sZ
      rcases sZ with h | ⟨h,h'⟩
      ·have pP:cc d<=12:=by
        rcases d with _ | _ | _ | d
        ·simp [cc]
        ·simp [cc]
        ·simp [cc]
        ·omega
       simp only [B] at h0;omega
      ·subst h;simp only [B,cc] at h0;omega
     have bnd:∀ (e0 e:Ex),e0.kn<=B d (dp g2)->e0.sz<=C d (sk g2)->e.kn=1+e0.kn->e.sz=1+e0.sz->e.kn<=Bb d (dp (.fn g1 g2))/\e.sz<=Cb d (sk (.fn g1 g2)):=by
      intro e0 e h1 h2 h3 h4
      cases d with
      | zero=>simp only [B,C,cc] at h1 h2;simp only [Bb,Cb,dp,sk];omega
      | succ d =>
       have:=Dd (d+1) (show sk g2<=1+sk g2 by omega)
       simp only [Bb,Cb,B,dp,sk] at *;omega
     refine ⟨l,q2,xs,[(x,g1)],rfl,P4.hl,⟨_,e4,.cons ⟨q1,r1,rfl,s4 _ _ e3,BY.mono (Au.of_same Ko) rG⟩ .nil⟩,by simp;omega,λl2 H5 s5 GC=>?_⟩
     left
     have P5:=P4.mono s5
     have k6:=BY.mono (Au.of_same (Ko.trans s5)) oR
     have tj:=BY.mono (Au.of_same (Ko.trans s5)) rG
     have tm:=s5 _ _ (Ko _ _ JG)
     refine iw ?_ λLd other=>?_
     ·left
      refine Ad (Av.of tm) (v:=r2) rfl ?_
      left
      refine oQ (P5.with k6 P.gd.2 GC λz hz=>?_) Yv () fZ ?_ λe2 tq H6 s6 a2 o2=>?_
      ·rcases EN hz with hz | hz
       ·rw [List.mem_singleton.mp hz];show dp g1<=8;omega
       ·exact P.hx z hz
      ·have:=FJ xs [(x,g1)];simp at this;omega
      left
      intros p7 H7 s7 e7
      have b:=bnd e2 (.fn x e2) o2.np o2.sz rfl rfl
      refine q (.fn x e2) _ _ (BN.trans (Ko.trans (s5.trans (s6.trans s7)))) ⟨p7,tq,rfl,e7,B9.mono (Au.of_same s7) a2⟩ ⟨?_,⟨o2.op,k29 e2 o2.np⟩,b.1,b.2⟩
      exact show e2.cl (x::Lj xs) from FN o2.cl (λm hm=>by rw [List.mem_singleton.mp hm];exact .head _) (λz hz=>.tail _ hz)
     ·left
      refine Ep (λ_=>?_) λ_=>other
      left
      intros q3 H6 s6 e6
      left
      refine Ad (Av.of (s6 _ _ tm)) (v:=r1) rfl ?_
      left
      intros q4 H7 s7 e7
      left
      intros q5 H8 s8 e8
      left
      have k7:=s6.trans (s7.trans s8)
      have P8:=P5.mono k7
      refine ⟨l,q5,xs,[(y,.fn g1 g2),(x,g1)],rfl,P8.hl,⟨_,e8,.cons ⟨q3,.ref pg,rfl,s8 _ _ (s7 _ _ e6),P8.hg⟩ (.cons ⟨q4,r1,rfl,s8 _ _ e7,BY.mono (Au.of_same k7) tj⟩ .nil)⟩,by simp;omega,λl3 H9 s9 jq=>?_⟩
      left
      have P9:=P8.mono s9
      refine Ad (Av.of (s9 _ _ (k7 _ _ tm))) (v:=r2) rfl ?_
      left
      refine oQ (P9.with (BY.mono (Au.of_same (k7.trans s9)) k6) P.gd.2 jq λz hz=>?_) Yv () fZ ?_ λe2 tq GJ CP a2 o2=>?_
      ·rcases EN hz with hz | hz
       ·simp only [List.mem_cons,List.not_mem_nil,or_false] at hz
        rcases hz with rfl | rfl
        ·show dp (Kd.fn g1 g2)<=8;omega
        ·show dp g1<=8;omega
       ·exact P.hx z hz
      ·have:=FJ xs [(y,.fn g1 g2),(x,g1)];simp at this;omega
      left
      intros p7 F0 CA FE
      have b:=bnd e2 (.rc y x e2) o2.np o2.sz rfl rfl
      refine q (.rc y x e2) _ _ (BN.trans (Ko.trans (s5.trans (k7.trans (s9.trans (CP.trans CA)))))) ⟨p7,tq,rfl,FE,B9.mono (Au.of_same CA) a2⟩ ⟨?_,⟨o2.op,k29 e2 o2.np⟩,b.1,b.2⟩
      refine show e2.cl (x::y::Lj xs) from FN o2.cl (λm hm=>?_) (λz hz=>.tail _ (.tail _ hz))
      simp only [List.mem_cons,List.not_mem_nil,or_false] at hm
      rcases hm with rfl | rfl
      ·exact .tail _ (.head _)
      ·exact .head _
    ·refine AF (by rcases rest with h | h | h | h <;> rw [h] <;> decide) ?_
     exact XG _ _ ⟨rest,rfl,rfl⟩
structure Fi (K:W.Frag)(mg:Str->Option Value)(C:Addr):Prop where
 cl:V6 K C
 nT:E3 K C "tree"
 nP:E3 K C "places"
 nH:E3 K C "held"
 mC:mg "Scope"=some (.ref C)
noncomputable def tD (t p:V)(h:V):List (Str × V):=[("tree",t),("places",p),("held",h)]
inductive ER (C:Addr)(vs:(List V))(H:Hp)(Q:VK)(z3:XK):Prop
 | mk (p dx:Addr) (v1 v2 v3:V) (h1:vs=[.ref p,v1,v2,v3]) (h2:H p=some (.ins C dx [])) (h3:Q .non (upd H p (.ins C dx (tD v1 v2 v3)))):ER C vs H Q z3
theorem U7:AE ["self","tree","places","held"] ["self","tree","places","held"] (Ae BM):=nofun
theorem Rx {f C:Addr}{fd:FuncData}(F:D4 K "__init__" "Scope.__init__" BM f fd)(T:Fi K mg C):AY Pr w K mg base C5 1 f fd ["self","tree","places","held"] (ER C):=by
 refine F.okS U7 (λvs H Q E h=>?_) (λBV A outer s H vs Q E hr h=>?_)
 ·obtain ⟨p,dx,v1,v2,v3,rfl,_⟩:=h;rfl
 ·obtain ⟨p,dx,v1,v2,v3,rfl,hp,q⟩:=h
  refine ⟨_,(Ah (Qp (Ai 0) (Ai 1))
   (Ah (Qp (Ai 0) (Ai 2))
   (Al (Qp (Ai 0) (Ai 3))))),?_⟩
  left
  refine ⟨p,C,dx,[],rfl,hp,T.cl,T.nT,by simp,?_⟩
  left
  refine ⟨p,C,dx,_,rfl,AG,T.cl,T.nP,(show ([("tree",v1)]:List (Str × V)).length < 1000 by simp),?_⟩
  left
  refine ⟨p,C,dx,_,rfl,AG,T.cl,T.nH,(show ([("tree",v1),("places",v2)]:List (Str × V)).length < 1000 by simp),?_⟩
  rw [IL,IL]
  exact q
theorem Gb {C:Addr}{H1:Hp}{Q:Addr->Hp->Prop}{v1 v2 v3:V}(q:∀ p dx H2,H1 p=none->An H1 H2->H2 p=some (.ins C dx (tD v1 v2 v3))->Q p H2):
  ∀ x dx,H1 x=none->H1 dx=none->dx≠x->ER C (.ref x::([v1,v2,v3]++[])) (upd (upd H1 dx (.own x)) x (.ins C dx [])) (λv H2=>v=.non/\Q x H2) E0:=by
 intro x dx hx hdx Ld
 refine ⟨x,dx,v1,v2,v3,rfl,AG,rfl,q x dx _ hx ?_ AG⟩
 intro b o hb
 rw [IL,AQ (Ba hb hx),AQ (Ba hb hdx)]
 exact hb
inductive L1 (K:W.Frag)(vs:(List V))(H:Hp)(Q:VK)(z3:XK):Prop
 | mk (p c:Addr) (us:List V) (ns:List Nat) (xs:List Str) (h1:vs=[.ref p,.ref c]) (h2:H p=some (.tup us)) (h3:Kh K c (ns.map λn:Nat=>V.int n)) (h4:Paired (λn x=>us[n]?=some (V.str x)) ns xs) (h5:ns.length<=10) (h6:∀ q H',An H H'->H' q=some (.tup (xs.map V.str))->Q (.ref q) H'):L1 K vs H Q z3
noncomputable def tE:Expr:=match valueOf (inDef Co 0) with
 | .Call _ [e] _ _=>e
 | _=>.Constant .none 0 ⟨0,0,0,0⟩
theorem k8:AE ["tree","places"] ["tree","places"] (Ae Co):=nofun
theorem YH {f:Addr}{fd:FuncData}(F:D4 K "names_at" "names_at" Co f fd)(AV:mg "tuple"=none):AY Pr w K mg base C5 1 f fd ["tree","places"] (L1 K):=by
 refine F.okS k8 (λvs H Q E h=>?_) (λBV A outer s H vs Q E hr h=>?_)
 ·obtain ⟨p,c,us,ns,xs,rfl,_⟩:=h;rfl
 ·obtain ⟨p,c,us,ns,xs,rfl,hp,hc,hx,hn,q⟩:=h
  have S:Bx (DP C5 Pr w K mg base ["tree","places"] "names_at" (Ae Co) f BV A outer s H E).nox (Cw tE) [("tree",s.heap.objs.size+1)] ["place"] ["tree"] [0] :=
   ⟨rfl,by decide +kernel,rfl,by decide +kernel,rfl,rfl,rfl,rfl⟩
  have Hw:(["place","tree"]:List Str).Nodup:=by decide +kernel
  refine ⟨_,(Al (Ar (Cg DJ rfl AV PyProof.Rows.boot_tuple (Aa (F9 (te:=Fl (AA K) (Bv 1) (Bv 0)) S rfl (M' (Ai 1)) (λC s0 H0 ex=>BF (i:=0) Hw rfl (.inl rfl)) (λ_ _ _ _=>EZ) (λC s0 H0 ex=>Ao Aj (Ai 1) (Ai 0) AO)) Ac)))),?_⟩
  left
  refine ⟨c,rfl,⟨_,hc.sq H⟩,?_⟩
  refine K9 (K:=K) (a:=c) (xs:=ns.map λn:Nat=>V.int n) (λi ys H'=>H'=H/\ys=(xs.take i).map V.str) ⟨rfl,rfl⟩ (λi ys H' z=>hc.sq H') (by rw [List.length_map];exact D5 ()) (λi ys H' z=>?_) rfl (λi x ys H1 QA z=>?_) (λys H1 z=>?_)
  ·rw [z.2,List.length_map,List.length_take];omega
  ·obtain ⟨rfl,rfl⟩:=z
   obtain ⟨n,nc,rfl⟩:∃ n,ns[i]?=some n/\V.int (n:Nat)=x:=by
    rw [List.getElem?_map] at QA
    exact Option.map_eq_some_iff.mp QA
   obtain ⟨x,gh,hxx⟩:=Paired.at1 hx nc
   have hi:=(List.getElem?_eq_some_iff.mp nc).1
   left
   refine CT ?_
   left
   refine Ad (Av.of hp) (Ak hxx) ?_
   refine Nx.mk (by rw [List.length_map];exact hi) ⟨rfl,?_⟩
   rw [List.take_succ,gh]
   simp
  ·obtain ⟨rfl,rfl⟩:=z
   intros d H2 s2 e2
   refine ⟨d,_,rfl,.inl ⟨B3.of e2,λl hl=>?_⟩⟩
   have e5:xs.take (ns.map λn:Nat=>V.int n).length=xs:=by rw [List.length_map,Paired.len hx,List.take_length]
   rw [e5]
   exact q l _ (s2.trans (An.new hl)) AG
noncomputable def Mr (H:Hp)(r:V)(pt:Ex × List Str):Prop:=Dw λp q re=>r=.ref p/\H p=some (.tup [re,.ref q])/\B9 H pt.1 re/\H q=some (.tup (pt.2.map V.str))
theorem Mr.mono {H H':Hp}(s:Au H H'){r:V}{pt:Ex × List Str}(h:Mr H r pt):Mr H' r pt:=by
 obtain ⟨p,q,re,h1,h2,h3,h4⟩:=h
 exact ⟨p,q,re,h1,s _ _ h2,B9.mono s h3,s _ _ h4⟩
inductive NG (vs:(List V))(H:Hp)(Q:VK)(z3:XK):Prop
 | mk (e:Ex) (re:V) (h1:vs=[re]) (h2:B9 H e re) (h3:∀ l rs H',An H H'->H' l=some (.lst rs)->Paired (Mr H') rs e.prt->Q (.ref l) H'):NG vs H Q z3
theorem k9:AE ["tree"] ["tree"] (Ae B5):=nofun
theorem ON (e:Ex):e.plc.length<=3/\∀ r∈e.plc,r.2.length<=2:=by
 cases e <;> simp [Ex.plc]
theorem YI {f gj:Addr}{fd:FuncData}{rows:List (Str × Value)}(F:D4 K "parts_with_names" "parts_with_names" B5 f fd)(kd:FA w K gj rows)(tF:mg "PLACES"=some (.ref gj))(kp:KPl K rows)
  (cN:Cl Pr w K mg base 1 "names_at" ["tree","places"] (L1 K)):AY Pr w K mg base C5 2 f fd ["tree"] NG:=by
 refine F.okS k9 (λvs H Q E h=>?_) (λBV A outer s H vs Q E hr h=>?_)
 ·obtain ⟨e,re,rfl,_⟩:=h;rfl
 ·obtain ⟨e,re,rfl,he,q⟩:=h
  have S:Bx (DP C5 Pr w K mg base ["tree"] "parts_with_names" (Ae B5) f BV A outer s H E).nox (Cw (valueOf (inDef B5 0))) [("tree",s.heap.objs.size+1)] ["place","names"] ["tree"] [0] :=
   ⟨rfl,by decide +kernel,rfl,by decide +kernel,rfl,rfl,rfl,rfl⟩
  have Hw:(["place","names","tree"]:List Str).Nodup:=by decide +kernel
  refine ⟨_,(Al (Ar (F9 (g:=Lm K 2 (El (D2 0) (El (D2 1) NQ))) (te:=Sb (BB (Fl (AA K) (Bv 2) (Bv 0)) (BB (Ed (L1 K) [] E0 (BB (Bv 2) (BB (Bv 1) Em))) Em))) S rfl (M' (Xg kd rfl tF (Ao Aj (Ai 0) Ab AO) AO)) (λC s0 H0 ex=>K7 rfl (De (BF (i:=0) Hw rfl (.inl rfl)) (De (BF (i:=1) Hw rfl (.inl rfl)) Hh))) (λ_ _ _ _=>EZ) (λC s0 H0 ex=>Aq (Aa (Ao Aj (Ai 2) (Ai 0) AO) (Aa (B1 cN hr rfl (Aa (Ai 2) (Aa (Ai 1) Ac))) Ac)))))),?_⟩
  obtain ⟨p,us,rfl,hp,DM,_⟩:=he.look
  obtain ⟨a,rs,Xh,oX,hkr⟩:=kp e
  obtain ⟨jR,sm2⟩:=ON e
  have lr:=Paired.len hkr
  have lp:=Paired.len DM
  left
  refine Ad (Av.of hp) (v:=.str e.wd) (Ak (j:=0) rfl) ?_
  refine ⟨e.wd,.ref a,.ref a,rfl,Xh,rfl,a,rfl,⟨_,oX.sq H⟩,?_⟩
  refine Kc (K:=K) (n:=rs.length) (λi ys H'=>An H H'/\Paired (Mr H') ys (e.prt.take i)) ⟨An.refl _,.nil⟩ (by exact D5 ()) (λi ys H' z=>?_) rfl rfl (λi ys H' hi z=>⟨rs,rs[i],oX.sq H',by simp [hi]⟩) (λys H' z=>⟨rs,oX.sq H',Nat.le_refl _⟩) (λi ys H1 x H1' hi z hy=>?_) (λys H1 z=>?_)
  ·rw [Paired.len z.2,List.length_take];omega
  ·obtain ⟨rfl,hy⟩:=hy
   obtain ⟨s1,z⟩:=z
   have gh:=hy rs (oX.sq _)
   have tG:i < e.plc.length:=by omega
   have VX:e.plc[i]?=some e.plc[i]:=by simp [tG]
   obtain ⟨x',QA,b,c,rfl,kb,kc⟩:=Paired.at1 hkr VX
   rw [QA] at gh;cases gh
   obtain ⟨pt,hpi,⟨re',hre,ae⟩,RI⟩:=Paired.at1 DM VX
   refine ⟨b,_,_,rfl,kb.sq _,?_⟩
   left
   refine CT ?_
   left
   refine Ad (Av.of (s1 _ _ hp)) (Ak hre) ?_
   left
   refine ⟨p,c,_,_,pt.2,rfl,s1 _ _ hp,kc,RI,Nat.le_trans (sm2 _ (List.getElem_mem tG)) ⟨⟩,λq' H2 s2 e2=>?_⟩
   left
   intros t H3 s3 e3
   refine Nx.mk hi ⟨s1.trans (s2.trans s3),?_⟩
   rw [List.take_succ,hpi]
   refine Paired.app (Paired.mapP z λ_ _ y=>Mr.mono (Au.of_same (s2.trans s3)) y) (.cons ⟨t,q',re',rfl,e3,B9.mono (Au.of_same (s1.trans (s2.trans s3))) ae,s3 _ _ e2⟩ .nil)
  ·obtain ⟨s1,z⟩:=z
   intros l H2 s2 e2
   rw [show rs.length=e.prt.length by omega,List.take_length] at z
   exact q l _ H2 (s1.trans s2) e2 (Paired.mapP z λ_ _ y=>Mr.mono (Au.of_same s2) y)
end
structure Sc where
 e:Ex
 xs:List Str
 ps:List (Key × V)
 h:Nat
namespace Sc
structure Ok (s:Sc):Prop where
 cl:s.e.cl s.xs
 op:s.e.opk
 at':∀ x∈s.xs,∃ n:Nat,C7 s.ps (.inr x)=some (.int n)/\n+1+s.xs.idxOf x=s.h
 len:s.ps.length<=s.h
 small:s.h+2 * s.e.sz<=9000
noncomputable def bnd:List (Key × V)->Nat->List Str->List (Key × V)
 | ps,_,[]=>ps
 | ps,h,x::r=>bnd (putK ps (.inr x) (.int h)) (h+1) r
theorem Ry:∀ (ns:List Str) (ps:List (Key × V)) (h:Nat) (xs:List Str),(∀ x∈xs,∃ n:Nat,C7 ps (.inr x)=some (.int n)/\n+1+xs.idxOf x=h)->∀ x∈ns.reverse++xs,∃ n:Nat,C7 (bnd ps h ns) (.inr x)=some (.int n)/\n+1+(ns.reverse++xs).idxOf x=h+ns.length
 | [],ps,h,xs,H=>by simpa [bnd] using H
 | z::r,ps,h,xs,H=>by
  intro x hx
  have h1:∀ x∈z::xs,∃ n:Nat,C7 (putK ps (.inr z) (.int h)) (.inr x)=some (.int n)/\n+1+(z::xs).idxOf x=h+1:=λx hx=>by
   rw [Fv]
   by_cases e:x=z
   ·subst e;rw [if_pos rfl];exact ⟨h,rfl,by simp⟩
   ·rw [if_neg (λq=>e (Sum.inr.inj q))]
    obtain ⟨n,h1,h2⟩:=H x ((List.mem_cons.mp hx).resolve_left e)
    refine ⟨n,h1,?_⟩
    have ne:¬ z=x:=λq=>e q.symm
    simp only [List.idxOf_cons,beq_eq_false_iff_ne.mpr ne,cond_false]
    omega
  have el:(z::r).reverse++xs=r.reverse++(z::xs):=by simp
  obtain ⟨n,h2,h3⟩:=Ry r _ (h+1) (z::xs) h1 x (by rw [<- el];exact hx)
  refine ⟨n,h2,?_⟩
  rw [el]
  simp only [List.length_cons]
  omega
theorem bnd_len:∀ (ns:List Str) (ps:List (Key × V)) (h:Nat),ps.length<=h->(bnd ps h ns).length<=h+ns.length
 | [],ps,h,H=>by simpa [bnd] using H
 | z::r,ps,h,H=>by
  have h1:=(Qr ps (.inr z) (.int h)).1
  have:=bnd_len r (putK ps (.inr z) (.int h)) (h+1) ()
  simp only [bnd,List.length_cons];omega
theorem bnd_app:∀ (ns:List Str) (ps:List (Key × V)) (h:Nat) (x:Str),bnd ps h (ns++[x])=putK (bnd ps h ns) (.inr x) (.int (h+ns.length:Nat))
 | [],ps,h,x=>rfl
 | z::r,ps,h,x=>by
  show bnd (putK ps (.inr z) (.int h)) (h+1) (r++[x])=_
  rw [bnd_app r]
  simp only [bnd,List.length_cons]
  congr 3
  omega
noncomputable def inn (s:Sc)(p:Ex × List Str):Sc:=⟨p.1,p.2.reverse++s.xs,bnd s.ps s.h p.2,s.h+p.2.length⟩
noncomputable def kids (s:Sc):List Sc:=s.e.prt.map s.inn
noncomputable def sz (s:Sc):Nat:=s.e.sz
theorem kids_sz (s:Sc):KG.szs sz (kids s)+1=s.sz:=by
 obtain ⟨e,xs,ps,h⟩:=s
 cases e <;> simp [kids,sz,Ex.prt,KG.szs,inn,Ex.sz] <;> omega
theorem YJ {s:Sc}(O:s.Ok){p:Ex × List Str}(hc:p.1.cl (p.2.reverse++s.xs))(ho:p.1.opk)(hs:p.2.length<=2)(hz:p.1.sz < s.e.sz):(s.inn p).Ok :=
 ⟨hc,ho,Ry p.2 s.ps s.h s.xs O.at',bnd_len p.2 s.ps s.h O.len,by have:=O.small;simp only [inn];omega⟩
theorem kids_ok {s:Sc}(O:s.Ok):∀ p∈s.e.prt,(s.inn p).Ok:=by
 have key:∀ p∈s.e.prt,p.1.cl (p.2.reverse++s.xs)/\p.1.opk/\p.2.length<=2/\p.1.sz < s.e.sz:=by
  have h1:=O.cl
  have h2:=O.op
  generalize s.e=e at h1 h2
  cases e <;> simp only [Ex.prt,List.mem_cons,List.not_mem_nil,or_false,forall_eq_or_imp,forall_eq,Ex.sz,false_imp_iff,implies_true] <;> simp only [Ex.cl,Ex.opk] at h1 h2
  ·exact ⟨h1,h2,by simp,()⟩
  ·exact ⟨h1,h2,by simp,()⟩
  ·exact ⟨⟨h1.1,h2.1,by simp,()⟩,h1.2,h2.2,by simp,()⟩
  ·exact ⟨⟨h1.1,h2.1,by simp,()⟩,h1.2,h2.2,by simp,()⟩
  ·exact ⟨⟨h1.1,h2.1,by simp,()⟩,⟨h1.2.1,h2.2.1,by simp,()⟩,h1.2.2,h2.2.2,by simp,()⟩
  ·exact ⟨⟨h1.1,h2.1,by simp,()⟩,h1.2,h2.2,by simp,()⟩
  ·exact ⟨⟨h1.1,h2.1,by simp,()⟩,h1.2,h2.2,by simp,()⟩
  ·exact ⟨⟨h1.1,h2.1,by simp,()⟩,h1.2,h2.2,by simp,()⟩
  ·exact ⟨⟨h1.1,h2.1,by simp,()⟩,⟨h1.2.1,h2.2.1,by simp,()⟩,h1.2.2,h2.2.2,by simp,()⟩
  ·exact ⟨⟨h1.1,h2.2.1,by simp,()⟩,h1.2,h2.2.2,by simp,()⟩
 intro p hp
 obtain ⟨h1,h2,h3,h4⟩:=key p hp
 exact YJ O h1 h2 h3 h4
end Sc
section
variable {Pr:Program}{w:World}{K:W.Frag}{mg:Str->Option Value}{base:Heap}
noncomputable def DZ (C:Addr)(H:Hp)(s:Sc)(r:V):Prop:=s.Ok/\Lb λp dx d re=>r=.ref p/\H p=some (.ins C dx (tD re (.ref d) (.int s.h)))/\B9 H s.e re/\H d=some (.dK s.ps)
noncomputable def NL (H H':Hp):Prop:=∀ b o,H b=some o->(∀ xs,o≠.lst xs)->H' b=some o
theorem NL.of_same {H H':Hp}(s:An H H'):NL H H':=λb o e _=>s b o e
theorem NL.trans {H1 H2 H3:Hp}(a:NL H1 H2)(b:NL H2 H3):NL H1 H3:=λc o e n=>b c o (a c o e n) n
theorem NL.put {H:Hp}{a:Addr}{xs ys:List V}(h:H a=some (.lst xs)):NL H (upd H a (.lst ys)):=λb o e n=>by
 rw [AQ]
 ·exact e
 ·intro z;subst z;rw [h] at e;exact n xs (Option.some.inj e).symm
theorem NL.tsub {H H':Hp}(s:NL H H'):Au H H':=λb xs e=>s b _ e (by intro _ z;cases z)
theorem DZ.mono {C:Addr}{H H':Hp}(s:NL H H'){sc:Sc}{r:V}(h:DZ C H sc r):DZ C H' sc r:=by
 obtain ⟨ok,p,dx,d,re,h1,h2,h3,h4⟩:=h
 exact ⟨ok,p,dx,d,re,h1,s _ _ h2 (by intro _ z;cases z),B9.mono s.tsub h3,s _ _ h4 (by intro _ z;cases z)⟩
inductive FO (C:Addr)(vs:(List V))(H:Hp)(Q:VK)(z3:XK):Prop
 | mk (sc:Sc) (r re:V) (q:Addr) (p:Ex × List Str) (h1:vs=[r,re,.ref q]) (h2:DZ C H sc r) (h3:(sc.inn p).Ok) (h4:B9 H p.1 re) (h5:H q=some (.tup (p.2.map V.str))) (h6:p.2.length<=2) (h7:∀ r' H',An H H'->DZ C H' (sc.inn p) r'->Q r' H'):FO C vs H Q z3
theorem L3:AE ["scope","part","names","places","held","name"] ["scope","part","names"] (Ae C8):=nofun
theorem YK {f fi C:Addr}{fd ke:FuncData}(F:D4 K "inner_scope" "inner_scope" C8 f fd)(T:Fi K mg C)(YL:mg "dict"=none)(MS:Mk K C fi)(GI:AY Pr w K mg base C5 1 fi ke ["self","tree","places","held"] (ER C))(bI:Binds K ke ["self","tree","places","held"] []):
  AY Pr w K mg base C5 3 f fd ["scope","part","names"] (FO C):=by
 refine F.okS L3 (λvs H Q E h=>?_) (λBV A outer s H vs Q E hr h=>?_)
 ·obtain ⟨sc,r,re,q,p,rfl,_⟩:=h;rfl
 ·obtain ⟨sc,r,re,q,p,rfl,⟨ok,pr,dx,d,rt,rfl,h1,h2,h3⟩,oY,he,hq,hl,k⟩:=h
  have hu:=Hb hr
  refine ⟨_,(Ah (B7 (DU (E6 (Ai 2))) (Al (Ar (M8 MS GI bI T.mC hr rfl (Aa (Ai 1) (Aa (DV (Ai 0)) (Aa (DV (Ai 0)) Ac)))))) AN)
   (Ah (Ay (i:=3) L3.nd rfl (.inl rfl) (Cg J9 (by rfl) YL PyProof.Rows.boot_dict (Aa (DV (Ai 0)) Ac)))
   (Ah (Ay (i:=4) L3.nd rfl (.inl rfl) (DV (Ai 0)))
   (Ah (J' PassesOwn.never rfl (M' (Ai 2)) (BF (i:=5) L3.nd rfl (.inl rfl)) (Ah (X6 hu (Ai 3) (Ai 5) (Ai 4) rfl)
   (Al (iG (i:=4) L3.nd rfl (.inl rfl) Wr Ab))))
   (Al (Ar (M8 MS GI bI T.mC hr rfl (Aa (Ai 1) (Aa (Ai 3) (Aa (Ai 4) Ac)))))))))),?_⟩
  left
  refine ⟨!(p.2.map V.str).isEmpty,.inr (.inl ⟨_,Av.of hq,rfl⟩),?_⟩
  left
  obtain ⟨e',ns⟩:=p
  cases ns with
  | nil =>
   refine AW rfl ?_
   left
   refine ⟨pr,C,dx,_,.ref d,rfl,h1,T.cl,T.nP,rfl,?_⟩
   left
   refine ⟨pr,C,dx,_,.int sc.h,rfl,h1,T.cl,T.nH,rfl,?_⟩
   left
   exact Gb λp2 tH H2 JD s2 e2=>k _ H2 s2 ⟨oY,p2,tH,d,re,rfl,e2,B9.mono (Au.of_same s2) he,s2 _ _ h3⟩
  | cons x ns =>
   refine AF (by show ¬ (false=true);decide) ?_
   left
   refine ⟨pr,C,dx,_,.ref d,rfl,h1,T.cl,T.nP,rfl,?_⟩
   left
   refine ⟨d,_,rfl,.inl h3,λpd oZ=>?_⟩
   have s1:An H (upd H pd (.dK sc.ps)):=An.new oZ
   have e1:(upd H pd (.dK sc.ps)) pd=some (.dK sc.ps):=AG
   generalize upd H pd (.dK sc.ps)=H1 at s1 e1 ⊢
   left
   refine ⟨pr,C,dx,_,.int sc.h,rfl,s1 _ _ h1,T.cl,T.nH,rfl,?_⟩
   left
   refine ⟨q,rfl,⟨_,Av.of (s1 _ _ hq)⟩,?_⟩
   have hb:=Ey
   have tI:=ok.len
   have NH:=ok.small
   refine S0 (K:=K) (a:=q) (xs:=(x::ns).map V.str) (λi σ' H'=>∃ o,σ'=[some (.ref pr),some re,some (.ref q),some (.ref pd),some (.int (sc.h+i:Nat)),o]/\An H H'/\H' pd=some (.dK (Sc.bnd sc.ps sc.h ((x::ns).take i)))) ⟨none,rfl,s1,e1⟩ (λi σ' H' _ z=>?_) (λi y σ' H' hy z=>?_) (fun σ' H' z=>?_)
   ·obtain ⟨o,rfl,sm,_⟩:=z
    exact Av.of (sm _ _ hq)
   ·obtain ⟨o,rfl,sm,IP⟩:=z
    obtain ⟨y',ny,rfl⟩:∃ z,(x::ns)[i]?=some z/\V.str z=y:=by
     rw [List.getElem?_map] at hy
     exact Option.map_eq_some_iff.mp hy
    have tG:=(List.getElem?_eq_some_iff.mp ny).1
    have GC:(x::ns).length<=2:=hl
    have lb:=Sc.bnd_len ((x::ns).take i) sc.ps sc.h tI
    have ltk:((x::ns).take i).length=i:=by rw [List.length_take];omega
    left
    refine ⟨pd,_,rfl,PX.k (k:=.inr y') IP (D5 ()),?_⟩
    left
    refine ⟨_,_,rfl,rfl,some (.str y'),?_,?_,?_⟩
    ·have e3:((sc.h+i:Nat):Int)+1=((sc.h+(i+1):Nat):Int):=by omega
     rw [e3];rfl
    ·exact An.put sm oZ
    ·rw [AG,List.take_succ,ny]
     show _=some (HO.dK (Sc.bnd sc.ps sc.h ((x::ns).take i++[y'])))
     rw [Sc.bnd_app,ltk]
   ·obtain ⟨o,rfl,sm,IP⟩:=z
    rw [List.length_map,List.take_length] at IP
    left
    refine Gb λp2 tH H2 JD s2 e2=>k _ H2 (sm.trans s2) ⟨oY,p2,tH,pd,re,rfl,?_,B9.mono (Au.of_same (sm.trans s2)) he,s2 _ _ IP⟩
    rw [List.length_map] at e2
    exact e2
inductive NI (C:Addr)(vs:(List V))(H:Hp)(Q:VK)(z3:XK):Prop
 | mk (sc:Sc) (r:V) (h1:vs=[r]) (h2:DZ C H sc r) (h3:∀ l us H',An H H'->H l=none->H' l=some (.lst us)->Paired (DZ C H') sc.kids us->Q (.ref l) H'):NI C vs H Q z3
theorem kg:AE ["scope"] ["scope"] (Ae Bj):=nofun
theorem YM {f C:Addr}{fd:FuncData}(F:D4 K "inner_scopes" "inner_scopes" Bj f fd)(T:Fi K mg C)(cP:Cl Pr w K mg base 2 "parts_with_names" ["tree"] NG)(cI:Cl Pr w K mg base 3 "inner_scope" ["scope","part","names"] (FO C)):
  AY Pr w K mg base C5 4 f fd ["scope"] (NI C):=by
 refine F.okS kg (λvs H Q E h=>?_) (λBV A outer s H vs Q E hr h=>?_)
 ·obtain ⟨sc,r,rfl,_⟩:=h;rfl
 ·obtain ⟨sc,r,rfl,⟨ok,pr,dx,d,rt,rfl,h1,h2,h3⟩,k⟩:=h
  have GK:Bh 2 _:=hr.mono ()
  have S:Bx (DP C5 Pr w K mg base ["scope"] "inner_scopes" (Ae Bj) f BV A outer s H E).nox (Cw (valueOf (inDef Bj 0))) [("scope",s.heap.objs.size+1)] ["part","names"] ["scope"] [0] :=
   ⟨rfl,by decide +kernel,rfl,by decide +kernel,rfl,rfl,rfl,rfl⟩
  have Hw:(["part","names","scope"]:List Str).Nodup:=by decide +kernel
  refine ⟨_,(Al (Ar (F9 (g:=Lm K 2 (El (D2 0) (El (D2 1) NQ))) (te:=Ed (FO C) [] E0 (BB (Bv 2) (BB (Bv 0) (BB (Bv 1) Em)))) S rfl (E7 (B1 cP GK rfl (Aa (DV (Ai 0)) Ac))) (λC s0 H0 ex=>K7 rfl (De (BF (i:=0) Hw rfl (.inl rfl)) (De (BF (i:=1) Hw rfl (.inl rfl)) Hh))) (λ_ _ _ _=>EZ) (λC s0 H0 ex=>B1 cI hr rfl (Aa (Ai 2) (Aa (Ai 0) (Aa (Ai 1) Ac))))))),?_⟩
  left
  refine ⟨pr,C,dx,_,rt,rfl,h1,T.cl,T.nT,rfl,?_⟩
  left
  refine ⟨sc.e,rt,rfl,h2,λl rs H1 s1 e1 pp=>?_⟩
  have lp:=Paired.len pp
  have l3:sc.e.prt.length<=3:=by cases sc.e <;> simp [Ex.prt]
  refine ⟨l,rfl,⟨_,B3.of e1⟩,?_⟩
  refine Kc (K:=K) (n:=rs.length) (λi ys H'=>An H1 H'/\Paired (DZ C H') (sc.kids.take i) ys) ⟨An.refl _,.nil⟩ (by exact D5 ()) (λi ys H' z=>?_) rfl rfl (λi ys H' hi z=>⟨rs,rs[i],B3.of (z.1 _ _ e1),by simp [hi]⟩) (λys H' z=>⟨rs,B3.of (z.1 _ _ e1),Nat.le_refl _⟩) (λi ys H2 x H2' hi z hy=>?_) (λys H2 z=>?_)
  ·rw [<- Paired.len z.2,List.length_take];omega
  ·obtain ⟨rfl,hy⟩:=hy
   obtain ⟨s2,z⟩:=z
   have gh:=hy rs (B3.of (s2 _ _ e1))
   obtain ⟨pt,DM,b,c,re,rfl,hb,he,hc⟩:=Paired.at1 pp gh
   have fT:=List.mem_of_getElem? DM
   have oY:=Sc.kids_ok ok pt fT
   have l2:pt.2.length<=2:=by
    revert fT
    generalize sc.e=e
    cases e <;> simp only [Ex.prt,List.mem_cons,List.not_mem_nil,or_false,false_imp_iff] <;> (intro hh;rcases hh with rfl | rfl | rfl <;> simp) <;> skip
   refine ⟨b,_,_,rfl,Av.of (s2 _ _ hb),?_⟩
   left
   refine CT ?_
   left
   refine ⟨sc,.ref pr,re,c,pt,rfl,DZ.mono (NL.of_same (s1.trans s2)) ⟨ok,pr,dx,d,rt,rfl,h1,h2,h3⟩,oY,B9.mono (Au.of_same s2) he,s2 _ _ hc,l2,λr' H3 s3 a3=>?_⟩
   refine Nx.mk hi ⟨s2.trans s3,?_⟩
   rw [List.take_succ,show sc.kids[i]?=some (sc.inn pt) by rw [Sc.kids,List.getElem?_map,DM];rfl]
   exact Paired.app (Paired.mapP z λ_ _ y=>DZ.mono (NL.of_same s3) y) (.cons a3 .nil)
  ·obtain ⟨s2,z⟩:=z
   refine BG (Nat.zero_le _) λl2 H3 hn s3 e3=>?_
   rw [show rs.length=sc.kids.length by rw [Sc.kids,List.length_map];exact lp,List.take_length] at z
   exact k l2 _ H3 (s1.trans (s2.trans s3)) ((s1.trans s2).free hn) e3 (Paired.mapP z λ_ _ y=>DZ.mono (NL.of_same s3) y)
noncomputable def Ms (C:Addr)(ls:List Addr)(H0 H:Hp)(s:Sc)(u:V):Prop:=Lb λp q x ws=>u=.ref p/\H p=some (.tup [x,.ref q])/\DZ C H s x/\H q=some (.lst ws)/\Paired (DZ C H) s.kids ws/\q∉ls/\H0 q=none
noncomputable def Gs (ls:List Addr)(H H':Hp):Prop:=∀ b o,H b=some o->b∉ls->H' b=some o
theorem Gs.of_same {ls:List Addr}{H H':Hp}(s:An H H'):Gs ls H H':=λb o e _=>s b o e
theorem Gs.trans {ls:List Addr}{H1 H2 H3:Hp}(a:Gs ls H1 H2)(b:Gs ls H2 H3):Gs ls H1 H3:=λc o e n=>b c o (a c o e n) n
theorem Gs.put {ls:List Addr}{H:Hp}{a:Addr}{o:HO}(h:a∈ls):Gs ls H (upd H a o):=λb o e n=>by
 rw [AQ]
 ·exact e
 ·intro z;subst z;exact n h
theorem Ms.mono {C:Addr}{ls:List Addr}{H0 H H':Hp}(s:NL H H')(b:Gs ls H H'){sc:Sc}{u:V}(h:Ms C ls H0 H sc u):Ms C ls H0 H' sc u:=by
 obtain ⟨p,q,x,ws,h1,h2,h3,h4,h5,h6,h7⟩:=h
 exact ⟨p,q,x,ws,h1,s _ _ h2 (by intro _ z;cases z),h3.mono s,b _ _ h4 h6,Paired.mapP h5 λ_ _ z=>z.mono s,h6,h7⟩
inductive JC (C fP:Addr)(vs:(List V))(H:Hp)(Q:VK)(z3:XK):Prop
 | mk (sc:Sc) (v:V) (h1:vs=[v,.ref fP]) (h2:DZ C H sc v) (h3:∀ l us H',An H H'->H l=none->H' l=some (.lst us)->Paired (Ms C [l] H H') (KG.P Sc.kids Sc.sz [sc]) us->Q (.ref l) H'):JC C fP vs H Q z3
theorem L4:AE ["top","parts_of","found","waiting","one","parts"] ["top","parts_of"] (Ae Mb):=nofun
theorem U8 {f fP C:Addr}{fd jQ:FuncData}(F:D4 K "all_within" "all_within" Mb f fd)(CO:mg "list"=none)(Fj:mg "reversed"=none)(GP:AY Pr w K mg base C5 4 fP jQ ["scope"] (NI C))(bP:Binds K jQ ["scope"] [])(kP:W.keepIn K (.ref fP)=true):
  AY Pr w K mg base C5 5 f fd ["top","parts_of"] (JC C fP):=by
 refine F.okS L4 (λvs H Q E h=>?_) (λBV A outer s H vs Q E hr h=>?_)
 ·obtain ⟨sc,v,rfl,_⟩:=h;rfl
 ·obtain ⟨sc,v,rfl,ht,k⟩:=h
  refine ⟨_,(Ah (Ay (i:=2) L4.nd rfl (.inl rfl) (AS Ac))
   (Ah (Ay (i:=3) L4.nd rfl (.inl rfl) (AS (Aa (Ai 0) Ac)))
   (Ah (J8 PassesOwn.never (E6 (Ai 3)) (Ah (Ay (i:=4) L4.nd rfl (.inl rfl) (MZ PySem.F.plainAttrs_list PySem.F.slot_list_pop PySem.F.type_list_pop IZ (Ai 3)))
   (Ah (Ay (i:=5) L4.nd rfl (.inl rfl) (N4 GP hr bP (i:=1) rfl (.inl rfl) (Aa (Ai 4) Ac)))
   (Ah (Hf (Qh PySem.F.plainAttrs_list PySem.F.slot_list_append PySem.F.type_list_append EH (Ai 2) (Aa (Aq (Aa (Ai 4) (Aa (Ai 5) Ac))) Ac)))
   (Al (Hf (Qh PySem.F.plainAttrs_list PySem.F.slot_list_extend PySem.F.type_list_extend O4 (Ai 3) (Aa (M7 rfl rfl CO rfl Fj (Aa (Ai 5) Ac)) Ac))))))))
   (Al (Ar (Ai 2)))))),?_⟩
  have hs:=Sc.kids_sz
  have hPl:=KG.P_one hs sc
  have NH:sc.sz<=4500:=by have:=ht.1.small;show sc.e.sz<=4500;omega
  left
  refine BG (BX (Nat.le_of_ble_eq_true rfl)) λlf H1 EU s1 e1=>?_
  left
  refine BG (BX (Nat.le_of_ble_eq_true rfl)) λlw H2 g9 s2 e2=>?_
  left
  have BN:=s1.trans s2
  have tJ:lf≠lw:=Ba e1 g9
  have hw0:H lw=none:=s1.free g9
  refine ⟨λm σ' H'=>gp λfs ws pt pp ts ds=>σ'=[some v,some (.ref fP),some (.ref lf),some (.ref lw),pt,pp]/\m=KG.szs Sc.sz ds/\An H H'/\H' lf=some (.lst fs)/\H' lw=some (.lst ws)/\Paired (Ms C [lf,lw] H H') ts fs/\Paired (DZ C H') ds ws.reverse/\ts++KG.P Sc.kids Sc.sz ds=KG.P Sc.kids Sc.sz [sc],
   ⟨KG.szs Sc.sz [sc],[],[v],none,none,[],[sc],rfl,rfl,BN,s2 _ _ e1,e2,.nil,.cons (ht.mono (NL.of_same BN)) .nil,rfl⟩,?_⟩
  rintro m σ' H' ⟨fs,ws,pt,pp,ts,ds,rfl,rfl,sm,hf,hw,kf,kw,e⟩
  left
  refine ⟨!ws.isEmpty,.inl ⟨ws,B3.of hw,rfl⟩,?_⟩
  cases ds with
  | nil =>
   have kh:ws=[]:=by
    have:=Paired.length kw
    simpa using this.symm
   subst kh
   refine Cm ?_
   left
   rw [KG.P_nil,List.append_nil] at e
   rw [e] at kf
   exact k lf fs H' sm EU hf (Paired.mapP kf λ_ _ z=>by
    obtain ⟨p,q,x,ws,z1,z2,z3,z4,z5,z6,z7⟩:=z
    exact ⟨p,q,x,ws,z1,z2,z3,z4,z5,λy=>z6 (by rw [List.mem_singleton.mp y];exact .head _),z7⟩)
  | cons d ds =>
   have hlen:fs.length=ts.length:=(Paired.length kf).symm
   have Akw:ts.length+KG.szs Sc.sz (d::ds)=sc.sz:=by
    have h1:=congrArg List.length e
    rw [List.length_append,hPl,KG.P_len hs _ (d::ds) rfl] at h1
    exact h1
   obtain ⟨x,xs,hx,kx,kxs⟩:D1 λx xs=>ws.reverse=x::xs/\DZ C H' d x/\Paired (DZ C H') ds xs:=by
    generalize ws.reverse=rs at kw
    cases kw with
    | cons k1 k2=>exact ⟨_,_,rfl,k1,k2⟩
   have kh:ws=xs.reverse++[x]:=by
    have:=congrArg List.reverse hx
    simpa using this
   have nz:ws.length<=KG.szs Sc.sz (d::ds):=by
    have h1:=KG.szs_len hs (d::ds)
    have h2:ws.length=(d::ds).length:=by
     have:=Paired.length kw
     simpa using this.symm
    omega
   have ne:(!ws.isEmpty)=true:=by rw [kh];simp
   rw [ne]
   refine CT ⟨fun σ' H'=>∃ m',m' < KG.szs Sc.sz (d::ds)/\gp λfs ws pt pp ts ds=>σ'=[some v,some (.ref fP),some (.ref lf),some (.ref lw),pt,pp]/\m'=KG.szs Sc.sz ds/\An H H'/\H' lf=some (.lst fs)/\H' lw=some (.lst ws)/\Paired (Ms C [lf,lw] H H') ts fs/\Paired (DZ C H') ds ws.reverse/\ts++KG.P Sc.kids Sc.sz ds=KG.P Sc.kids Sc.sz [sc],fun σ' H' q=>q,?_⟩
   left
   refine ⟨.inl ⟨rfl,_,B3.of hw⟩,lw,ws,x,rfl,rfl,hw,by rw [kh];simp,?_⟩
   have nl3:NL H' (upd H' lw (.lst ws.dropLast)):=NL.put hw
   have bt3:Gs [lf,lw] H' (upd H' lw (.lst ws.dropLast)):=Gs.put (by simp)
   have VU:An H (upd H' lw (.lst ws.dropLast)):=An.put sm hw0
   have hf3:(upd H' lw (.lst ws.dropLast)) lf=some (.lst fs):=by rw [AQ tJ];exact hf
   have j':(upd H' lw (.lst ws.dropLast)) lw=some (.lst ws.dropLast):=AG
   generalize upd H' lw (.lst ws.dropLast)=H3 at *
   left
   refine ⟨rfl,.inl kP,_,rfl,.inl kP,d,x,rfl,kx.mono nl3,λq us H4 s4 ki hq kq=>?_⟩
   have hf4:=s4 _ _ hf3
   have hw4:=s4 _ _ j'
   have tK:An H H4:=VU.trans s4
   have oI:us.length=(Sc.kids d).length:=(Paired.length kq).symm
   have hkl:=KG.kids_len hs d
   have hdz:Sc.sz d<=KG.szs Sc.sz (d::ds):=by simp only [KG.szs];omega
   left
   refine ⟨.inl ⟨rfl,_,B3.of hf4⟩,?_⟩
   left
   refine BG (BX (Nat.le_of_ble_eq_true rfl)) λp H5 Lf s5 e5=>?_
   have hf5:=s5 _ _ hf4
   have hw5:=s5 _ _ hw4
   have sm5:=tK.trans s5
   refine ⟨lf,fs,.ref p,rfl,rfl,hf5,D5 (),?_⟩
   have nl6:NL H5 (upd H5 lf (.lst (fs++[.ref p]))):=NL.put hf5
   have bt6:Gs [lf,lw] H5 (upd H5 lf (.lst (fs++[.ref p]))):=Gs.put (by simp)
   have sm6:An H (upd H5 lf (.lst (fs++[.ref p]))):=An.put sm5 EU
   have hw6:(upd H5 lf (.lst (fs++[.ref p]))) lw=some (.lst ws.dropLast):=by rw [AQ (Ne.symm tJ)];exact hw5
   have hf6:(upd H5 lf (.lst (fs++[.ref p]))) lf=some (.lst (fs++[.ref p])):=AG
   generalize upd H5 lf (.lst (fs++[.ref p]))=H6 at *
   have tL:q∉[lf,lw]:=λz=>by
    simp only [List.mem_cons,List.not_mem_nil,or_false] at z
    rcases z with z | z
    ·rw [z,hf3] at ki;cases ki
    ·rw [z,j'] at ki;cases ki
   have hq6:H6 q=some (.lst us):=bt6 _ _ (s5 _ _ hq) tL
   left
   refine ⟨.inl ⟨rfl,_,B3.of hw6⟩,?_⟩
   left
   refine ⟨q,us,rfl,B3.of hq6,(),λl hl=>?_⟩
   have s7:An H6 (upd H6 l (.lst us.reverse)):=An.new hl
   have e7:(upd H6 l (.lst us.reverse)) l=some (.lst us.reverse):=AG
   have sm7:=sm6.trans s7
   generalize upd H6 l (.lst us.reverse)=H7 at *
   have hw7:=s7 _ _ hw6
   have hf7:=s7 _ _ hf6
   refine ⟨lw,l,ws.dropLast,us.reverse,rfl,rfl,hw7,e7,by rw [List.length_dropLast,List.length_reverse];exact BX (),?_⟩
   have nl8:NL H7 (upd H7 lw (.lst (ws.dropLast++us.reverse))):=NL.put hw7
   have bt8:Gs [lf,lw] H7 (upd H7 lw (.lst (ws.dropLast++us.reverse))):=Gs.put (by simp)
   have YN:NL H4 (upd H7 lw (.lst (ws.dropLast++us.reverse))):=(NL.of_same s5).trans (nl6.trans ((NL.of_same s7).trans nl8))
   have kj:Gs [lf,lw] H4 (upd H7 lw (.lst (ws.dropLast++us.reverse))):=(Gs.of_same s5).trans (bt6.trans ((Gs.of_same s7).trans bt8))
   have tM:NL H' (upd H7 lw (.lst (ws.dropLast++us.reverse))):=nl3.trans ((NL.of_same s4).trans YN)
   have btA:Gs [lf,lw] H' (upd H7 lw (.lst (ws.dropLast++us.reverse))):=bt3.trans ((Gs.of_same s4).trans kj)
   refine ⟨KG.szs Sc.sz (Sc.kids d++ds),?_,fs++[.ref p],ws.dropLast++us.reverse,_,_,ts++[d],Sc.kids d++ds,rfl,rfl,An.put sm7 hw0,?_,AG,?_,?_,?_⟩
   ·have:=KG.szs_nxt hs d ds
    show KG.szs Sc.sz (KG.nxt Sc.kids (d::ds)) < _
    omega
   ·rw [AQ tJ];exact hf7
   ·refine Paired.app (Paired.mapP kf λ_ _ z=>z.mono tM btA) (.cons ⟨p,q,x,us,rfl,nl8 _ _ (s7 _ _ (nl6 _ _ e5 (by intro _ z;cases z))) (by intro _ z;cases z),kx.mono tM,kj _ _ hq tL,Paired.mapP kq λ_ _ z=>z.mono YN,tL,VU.free ki⟩ .nil)
   ·have e1:(ws.dropLast++us.reverse).reverse=us++xs:=by rw [kh];simp
    rw [e1]
    exact Paired.app (Paired.mapP kq λ_ _ z=>z.mono YN) (Paired.mapP kxs λ_ _ z=>z.mono tM)
   ·rw [<- e,KG.P_cons hs]
    simp
noncomputable def tN (H:Hp)(s:Sc)(m:V):Prop:=D1 λl code=>m=.ref l/\Nh H l code/\code=comp s.xs s.e
inductive Bl (C:Addr)(W:Ex->Prop)(vs:(List V))(H:Hp)(Q:VK)(z3:XK):Prop
 | mk (sc:Sc) (r:V) (l:Addr) (ms:List V) (h1:vs=[r,.ref l]) (h2:W sc.e) (h3:DZ C H sc r) (h4:H l=some (.lst ms)) (h5:Paired (tN H) sc.kids ms) (h6:∀ lr code H',An H H'->H lr=none->Nh H' lr code->code=comp sc.xs sc.e->Q (.ref lr) H'):Bl C W vs H Q z3
theorem tO:AE ["scope","codes"] ["scope","codes"] (Ae BP):=nofun
theorem YO {f C:Addr}{fd:FuncData}(F:D4 K "code_of_name" "code_of_name" BP f fd)(T:Fi K mg C):AY Pr w K mg base C5 1 f fd ["scope","codes"] (Bl C λe=>∃ x,e=.nm x):=by
 refine F.okS tO (λvs H Q E h=>?_) (λBV A outer s H vs Q E hr h=>?_)
 ·obtain ⟨sc,r,l,ms,rfl,_⟩:=h;rfl
 ·obtain ⟨sc,r,l,ms,rfl,hw,⟨ok,pr,dx,d,rt,rfl,h1,h2,h3⟩,hl,hm,q⟩:=h
  have hu:=Hb hr
  refine ⟨_,(Al (Ar (AS (Aa (Aq (Aa Af (Aa (As Cu (As Cu (DV (Ai 0)) Ab) (Qi hu (DV (Ai 0)) (Ao Aj (DV (Ai 0)) Ab AO) AO)) Ac))) Ac)))),?_⟩
  obtain ⟨e,xs,ps,h⟩:=sc
  have hw:∃ x,e=.nm x:=hw
  obtain ⟨x,rfl⟩:=hw
  obtain ⟨pt,rfl,DM⟩:=h2
  obtain ⟨n,hn,DN⟩:=ok.at' x ok.cl
  simp only at DN
  left
  refine ⟨pr,C,dx,_,_,rfl,h1,T.cl,T.nH,rfl,?_⟩
  left
  refine ⟨pr,C,dx,_,_,rfl,h1,T.cl,T.nP,rfl,?_⟩
  left
  refine ⟨pr,C,dx,_,_,rfl,h1,T.cl,T.nT,rfl,?_⟩
  left
  refine Ad (Av.of DM) (v:=.str x) rfl ?_
  refine ⟨d,.int n,rfl,by rw [<- hn];exact Dx.k (k:=.inr x) h3,?_⟩
  left
  intros p1 H1 s1 e1
  left
  refine BG (BX (Nat.le_of_ble_eq_true rfl)) λp2 H2 JD s2 e2=>?_
  have Ala:n < h:=by omega
  have en:(h:Int) - 1 - (n:Int)=((h - 1 - n:Nat):Int):=by omega
  have YQ:H1 p1=some (.tup (MS.nm (h - 1 - n)).cnt):=by
   show H1 p1=some (.tup [.str "name",.int ((h - 1 - n:Nat):Int)])
   rw [<- en];exact e1
  exact q p2 [.nm (h - 1 - n)] H2 (s1.trans s2) (s1.free JD) (D6 (s2 _ _ YQ) e2) (by show _=[MS.nm (xs.idxOf x)];congr 2;omega)
theorem tP:AE ["scope","codes"] ["scope","codes"] (Ae Bo):=nofun
theorem YR {f C:Addr}{fd:FuncData}(F:D4 K "code_of_itself" "code_of_itself" Bo f fd)(T:Fi K mg C):AY Pr w K mg base C5 1 f fd ["scope","codes"] (Bl C λe=>(∃ i,e=.num i)\/(∃ b,e=.tru b)\/e=.emp):=by
 refine F.okS tP (λvs H Q E h=>?_) (λBV A outer s H vs Q E hr h=>?_)
 ·obtain ⟨sc,r,l,ms,rfl,_⟩:=h;rfl
 ·obtain ⟨sc,r,l,ms,rfl,hw,⟨ok,pr,dx,d,rt,rfl,h1,h2,h3⟩,hl,hm,q⟩:=h
  refine ⟨_,(Al (Ar (AS (Aa (DV (Ai 0)) Ac)))),?_⟩
  obtain ⟨e,xs,ps,h⟩:=sc
  left
  refine ⟨pr,C,dx,_,_,rfl,h1,T.cl,T.nT,rfl,?_⟩
  left
  refine BG (BX (Nat.le_of_ble_eq_true rfl)) λp2 H2 JD s2 e2=>?_
  have hw:(∃ i,e=.num i)\/(∃ b,e=.tru b)\/e=.emp:=hw
  rcases hw with ⟨i,rfl⟩ | ⟨b,rfl⟩ | rfl
  ·obtain ⟨pt,rfl,DM⟩:=h2
   exact q p2 [.num _] H2 s2 JD (D6 (s2 _ _ DM) e2) rfl
  ·obtain ⟨pt,rfl,DM⟩:=h2
   exact q p2 [.tru _] H2 s2 JD (D6 (s2 _ _ DM) e2) rfl
  ·obtain ⟨pt,rfl,DM⟩:=h2
   exact q p2 [.emp] H2 s2 JD (D6 (s2 _ _ DM) e2) rfl
theorem tQ:AE ["scope","codes"] ["scope","codes"] (Ae Bg):=nofun
theorem YS {f C:Addr}{fd:FuncData}(F:D4 K "code_of_function" "code_of_function" Bg f fd)(T:Fi K mg C)(B6:mg "len"=none):AY Pr w K mg base C5 1 f fd ["scope","codes"] (Bl C λe=>(D1 λx b=>e=.fn x b)\/Dw λf x b=>e=.rc f x b):=by
 refine F.okS tQ (λvs H Q E h=>?_) (λBV A outer s H vs Q E hr h=>?_)
 ·obtain ⟨sc,r,l,ms,rfl,_⟩:=h;rfl
 ·obtain ⟨sc,r,l,ms,rfl,hw,⟨ok,pr,dx,d,rt,rfl,h1,h2,h3⟩,hl,hm,q⟩:=h
  refine ⟨_,(Al (Ar (As Bf (As Bf (AS (Aa (Aq (Aa (Ao (r:=AA K) Aj (DV (Ai 0)) Ab AO) (Aa (As AZ (AH Ax (by rfl) B6 PySem.boot_len (Aa (Ao (r:=Bw K) AJ (Ai 1) Ab AO) Ac)) Ab) Ac))) Ac)) (Ao (r:=Bw K) AJ (Ai 1) Ab AO)) (AS (Aa (Aq (Aa Af Ac)) Ac))))),?_⟩
  have cs:gp λ(b:Ex) (wd:Str) (us:List V) (pt:Addr) (mk:Nat->MS) (k:Sc)=>rt=.ref pt/\H pt=some (.tup (.str wd::us))/\(∀ n:Nat,(mk n).cnt=[.str wd,.int n]/\(mk n).ok/\(mk n).pl=0)/\k.e=b/\sc.kids=[k]/\comp sc.xs sc.e=mk ((comp k.xs k.e).length+1)::(comp k.xs k.e++[.back])/\sc.e.sz=1+b.sz:=by
   obtain ⟨e,xs,ps,h⟩:=sc
   have hw:(D1 λx b=>e=.fn x b)\/Dw λf x b=>e=.rc f x b:=hw
   rcases hw with ⟨x,b,rfl⟩ | ⟨f',x,b,rfl⟩
   ·obtain ⟨pt,rb,rfl,DM,_⟩:=h2
    exact ⟨_,_,_,pt,MS.fn,_,rfl,DM,λn=>⟨rfl,trivial,rfl⟩,rfl,rfl,rfl,rfl⟩
   ·obtain ⟨pt,rb,rfl,DM,_⟩:=h2
    exact ⟨_,_,_,pt,MS.rc,_,rfl,DM,λn=>⟨rfl,trivial,rfl⟩,rfl,rfl,rfl,rfl⟩
  obtain ⟨b,wd,us,pt,mkS,k,rfl,DM,hS,rfl,hk,tR,hsz⟩:=cs
  rw [hk] at hm
  obtain ⟨m1,rfl,l1,c1,rfl,Mt,IJ⟩:=Dq hm
  have NH:=ok.small
  have o1:=Bu k.e k.xs
  rw [<- IJ] at o1
  obtain ⟨km,X7,Oy⟩:=Mt
  have lv:=Paired.len Oy
  left
  refine ⟨pr,C,dx,_,_,rfl,h1,T.cl,T.nT,rfl,?_⟩
  left
  refine Ad (Av.of DM) (v:=.str wd) (Ak (j:=0) rfl) ?_
  left
  refine AX (B3.of hl) (v:=.ref l1) rfl ?_
  left
  refine ⟨l1,km,rfl,.inl (B3.of X7),?_⟩
  left
  intros p1 H1 s1 e1
  left
  refine BG (BX (Nat.le_of_ble_eq_true rfl)) λp2 H2 JD s2 e2=>?_
  left
  have BN:=s1.trans s2
  refine AX (B3.of (BN _ _ hl)) (v:=.ref l1) rfl ?_
  have Mt:Nh H l1 c1:=⟨km,X7,Oy⟩
  have YQ:H1 p1=some (.tup (mkS (km.length+1)).cnt):=by
   rw [(hS _).1]
   rw [show ((km.length+1:Nat):Int)=(km.length:Int)+1 by omega]
   exact e1
  refine Bn (D6 (s2 _ _ YQ) e2) (Mt.mono BN) (by simp;omega) λp3 H3 Tp s3 c3=>?_
  left
  intros p4 H4 s4 e4
  left
  refine BG (BX (Nat.le_of_ble_eq_true rfl)) λp5 H5 Lf s5 e5=>?_
  refine Bn (c3.mono (s4.trans s5)) (D6 (s:=.back) (s5 _ _ e4) e5) (by simp;omega) λp6 H6 RL s6 c6=>?_
  have sA:=BN.trans (s3.trans (s4.trans s5))
  refine q p6 _ H6 (sA.trans s6) (sA.free RL) c6 ?_
  ·rw [tR,<- IJ,lv];simp
theorem ko:AE ["scope","codes"] ["scope","codes"] (Ae C9):=nofun
theorem U9 {f C:Addr}{fd:FuncData}(F:D4 K "code_of_two" "code_of_two" C9 f fd)(T:Fi K mg C):AY Pr w K mg base C5 1 f fd ["scope","codes"] (Bl C λe=>(D1 λa b=>e=.cal a b)\/(D1 λa b=>e=.pr a b)\/D1 λa b=>e=.lk a b):=by
 refine F.okS ko (λvs H Q E h=>?_) (λBV A outer s H vs Q E hr h=>?_)
 ·obtain ⟨sc,r,l,ms,rfl,_⟩:=h;rfl
 ·obtain ⟨sc,r,l,ms,rfl,hw,⟨ok,pr,dx,d,rt,rfl,h1,h2,h3⟩,hl,hm,q⟩:=h
  refine ⟨_,(Al (Ar (As Bf (As Bf (Ao (r:=Bw K) AJ (Ai 1) Ab AO) (Ao (r:=Bw K) AJ (Ai 1) Ab AO)) (AS (Aa (Aq (Aa (Ao (r:=AA K) Aj (DV (Ai 0)) Ab AO) Ac)) Ac))))),?_⟩
  have NH:=ok.small
  have cs:gp λ(wd:Str) (us:List V) (pt:Addr) (st:MS) (k1 k2:Sc)=>rt=.ref pt/\H pt=some (.tup (.str wd::us))/\st.cnt=[.str wd]/\st.ok/\sc.kids=[k1,k2]/\comp sc.xs sc.e=comp k1.xs k1.e++(comp k2.xs k2.e++[st])/\sc.e.sz=1+k1.e.sz+k2.e.sz:=by
   obtain ⟨e,xs,ps,h⟩:=sc
   have hw:(D1 λa b=>e=.cal a b)\/(D1 λa b=>e=.pr a b)\/D1 λa b=>e=.lk a b:=hw
   rcases hw with ⟨a,b,rfl⟩ | ⟨a,b,rfl⟩ | ⟨a,b,rfl⟩
   ·obtain ⟨pt,ra,rb,rfl,DM,_⟩:=h2
    exact ⟨_,_,pt,.call,_,_,rfl,DM,rfl,trivial,rfl,rfl,rfl⟩
   ·obtain ⟨pt,ra,rb,rfl,DM,_⟩:=h2
    exact ⟨_,_,pt,.pr,_,_,rfl,DM,rfl,trivial,rfl,rfl,rfl⟩
   ·obtain ⟨pt,ra,rb,rfl,DM,_⟩:=h2
    exact ⟨_,_,pt,.lk,_,_,rfl,DM,rfl,trivial,rfl,rfl,rfl⟩
  obtain ⟨wd,us,pt,st,k1,k2,rfl,DM,hS,iD,hk,tR,hsz⟩:=cs
  rw [hk] at hm
  obtain ⟨m1,m2,rfl,⟨l1,c1,rfl,Mt,IJ⟩,⟨l2,c2,rfl,HK,L5⟩⟩:=Dh hm
  have o1:=Bu k1.e k1.xs
  rw [<- IJ] at o1
  have o2:=Bu k2.e k2.xs
  rw [<- L5] at o2
  left
  refine AX (B3.of hl) (v:=.ref l1) rfl ?_
  left
  refine AX (B3.of hl) (v:=.ref l2) rfl ?_
  refine Bn Mt HK () λp1 H1 Oy s1 c3=>?_
  left
  refine ⟨pr,C,dx,_,_,rfl,s1 _ _ h1,T.cl,T.nT,rfl,?_⟩
  left
  refine Ad (Av.of (s1 _ _ DM)) (v:=.str wd) (Ak (j:=0) rfl) ?_
  left
  intros p2 H2 s2 e2
  left
  refine BG (BX (Nat.le_of_ble_eq_true rfl)) λp3 H3 Tp s3 e3=>?_
  have VY:H2 p2=some (.tup st.cnt):=by rw [hS];exact e2
  refine Bn (c3.mono (s2.trans s3)) (D6 (s3 _ _ VY) e3) (by simp;omega) λp4 H4 Md s4 c4=>?_
  have sA:=s1.trans (s2.trans s3)
  refine q p4 _ H4 (sA.trans s4) (sA.free Md) c4 ?_
  ·rw [tR,<- IJ,<- L5];simp
theorem tS:AE ["scope","codes"] ["scope","codes"] (Ae Cp):=nofun
theorem YT {f C:Addr}{fd:FuncData}(F:D4 K "code_of_op" "code_of_op" Cp f fd)(T:Fi K mg C):AY Pr w K mg base C5 1 f fd ["scope","codes"] (Bl C λe=>Dw λo a b=>e=.op o a b):=by
 refine F.okS tS (λvs H Q E h=>?_) (λBV A outer s H vs Q E hr h=>?_)
 ·obtain ⟨sc,r,l,ms,rfl,_⟩:=h;rfl
 ·obtain ⟨sc,r,l,ms,rfl,hw,⟨ok,pr,dx,d,rt,rfl,h1,h2,h3⟩,hl,hm,q⟩:=h
  refine ⟨_,(Al (Ar (As Bf (As Bf (Ao (r:=Bw K) AJ (Ai 1) Ab AO) (Ao (r:=Bw K) AJ (Ai 1) Ab AO)) (AS (Aa (Aq (Aa Af (Aa (Ao (r:=AA K) Aj (DV (Ai 0)) Ab AO) Ac))) Ac))))),?_⟩
  have NH:=ok.small
  obtain ⟨e,xs,ps,h⟩:=sc
  have hw:Dw λo a b=>e=.op o a b:=hw
  obtain ⟨o,a,b,rfl⟩:=hw
  obtain ⟨pt,ra,rb,rfl,DM,_⟩:=h2
  obtain ⟨m1,m2,rfl,⟨l1,c1,rfl,Mt,IJ⟩,⟨l2,c2,rfl,HK,L5⟩⟩:=Dh hm
  have o1:c1.length<=3 * a.sz:=(IJ▸Bu _ _)
  have o2:c2.length<=3 * b.sz:=(L5▸Bu _ _)
  simp only [Ex.sz] at NH
  left
  refine AX (B3.of hl) (v:=.ref l1) rfl ?_
  left
  refine AX (B3.of hl) (v:=.ref l2) rfl ?_
  refine Bn Mt HK () λp1 H1 Oy s1 c3=>?_
  left
  refine ⟨pr,C,dx,_,_,rfl,s1 _ _ h1,T.cl,T.nT,rfl,?_⟩
  left
  refine Ad (Av.of (s1 _ _ DM)) (v:=.str o) rfl ?_
  left
  intros p2 H2 s2 e2
  left
  refine BG (BX (Nat.le_of_ble_eq_true rfl)) λp3 H3 Tp s3 e3=>?_
  refine Bn (c3.mono (s2.trans s3)) (D6 (s:=.op o) (s3 _ _ e2) e3) (by simp;omega) λp4 H4 Md s4 c4=>?_
  have sA:=s1.trans (s2.trans s3)
  refine q p4 _ H4 (sA.trans s4) (sA.free Md) c4 ?_
  ·have z1:c1=comp xs a:=IJ
   have z2:c2=comp xs b:=L5
   show _=comp xs (.op o a b)
   simp only [comp];rw [<- z1,<- z2];simp
theorem tT:AE ["scope","codes"] ["scope","codes"] (Ae Ca):=nofun
theorem YU {f C:Addr}{fd:FuncData}(F:D4 K "code_of_let" "code_of_let" Ca f fd)(T:Fi K mg C):AY Pr w K mg base C5 1 f fd ["scope","codes"] (Bl C λe=>Dw λx a b=>e=.lt x a b):=by
 refine F.okS tT (λvs H Q E h=>?_) (λBV A outer s H vs Q E hr h=>?_)
 ·obtain ⟨sc,r,l,ms,rfl,_⟩:=h;rfl
 ·obtain ⟨sc,r,l,ms,rfl,hw,⟨ok,pr,dx,d,rt,rfl,h1,h2,h3⟩,hl,hm,q⟩:=h
  refine ⟨_,(Al (Ar (As Bf (As Bf (As Bf (Ao (r:=Bw K) AJ (Ai 1) Ab AO) (AS (Aa (Aq (Aa Af Ac)) Ac))) (Ao (r:=Bw K) AJ (Ai 1) Ab AO)) (AS (Aa (Aq (Aa Af (Aa Ab Ac))) Ac))))),?_⟩
  have NH:=ok.small
  obtain ⟨e,xs,ps,h⟩:=sc
  have hw:Dw λx a b=>e=.lt x a b:=hw
  obtain ⟨x,a,b,rfl⟩:=hw
  obtain ⟨m1,m2,rfl,⟨l1,c1,rfl,Mt,IJ⟩,⟨l2,c2,rfl,HK,L5⟩⟩:=Dh hm
  have o1:c1.length<=3 * a.sz:=(IJ▸Bu _ _)
  have o2:c2.length<=3 * b.sz:=(L5▸Bu _ _)
  simp only [Ex.sz] at NH
  left
  refine AX (B3.of hl) (v:=.ref l1) rfl ?_
  left
  intros p1 H1 s1 e1
  left
  refine BG (BX (Nat.le_of_ble_eq_true rfl)) λp2 H2 JD s2 e2=>?_
  have BN:=s1.trans s2
  refine Bn (Mt.mono BN) (D6 (s:=.lt) (s2 _ _ e1) e2) (by simp;omega) λp3 H3 Tp s3 c3=>?_
  left
  have D3:=BN.trans s3
  refine AX (B3.of (D3 _ _ hl)) (v:=.ref l2) rfl ?_
  refine Bn c3 (HK.mono D3) (by simp;omega) λp4 H4 Md s4 c4=>?_
  left
  intros p5 H5 s5 e5
  left
  refine BG (BX (Nat.le_of_ble_eq_true rfl)) λp6 H6 RL s6 e6=>?_
  refine Bn (c4.mono (s5.trans s6)) (D6 (s:=.drop 1) (s6 _ _ e5) e6) (by simp;omega) λp7 H7 XH s7 c7=>?_
  have sA:=D3.trans (s4.trans (s5.trans s6))
  refine q p7 _ H7 (sA.trans s7) (sA.free XH) c7 ?_
  ·have z1:c1=comp xs a:=IJ
   have z2:c2=comp (x::xs) b:=L5
   show _=comp xs (.lt x a b)
   simp only [comp];rw [<- z1,<- z2];simp
theorem kr:AE ["scope","codes"] ["scope","codes"] (Ae BQ):=nofun
theorem Ua {f C:Addr}{fd:FuncData}(F:D4 K "code_of_open" "code_of_open" BQ f fd)(T:Fi K mg C):AY Pr w K mg base C5 1 f fd ["scope","codes"] (Bl C λe=>Lb λa x y b=>e=.opn a x y b):=by
 refine F.okS kr (λvs H Q E h=>?_) (λBV A outer s H vs Q E hr h=>?_)
 ·obtain ⟨sc,r,l,ms,rfl,_⟩:=h;rfl
 ·obtain ⟨sc,r,l,ms,rfl,hw,⟨ok,pr,dx,d,rt,rfl,h1,h2,h3⟩,hl,hm,q⟩:=h
  refine ⟨_,(Al (Ar (As Bf (As Bf (As Bf (Ao (r:=Bw K) AJ (Ai 1) Ab AO) (AS (Aa (Aq (Aa Af Ac)) Ac))) (Ao (r:=Bw K) AJ (Ai 1) Ab AO)) (AS (Aa (Aq (Aa Af (Aa Ab Ac))) Ac))))),?_⟩
  have NH:=ok.small
  obtain ⟨e,xs,ps,h⟩:=sc
  have hw:Lb λa x y b=>e=.opn a x y b:=hw
  obtain ⟨a,x,y,b,rfl⟩:=hw
  obtain ⟨m1,m2,rfl,⟨l1,c1,rfl,Mt,IJ⟩,⟨l2,c2,rfl,HK,L5⟩⟩:=Dh hm
  have o1:c1.length<=3 * a.sz:=(IJ▸Bu _ _)
  have o2:c2.length<=3 * b.sz:=(L5▸Bu _ _)
  simp only [Ex.sz] at NH
  left
  refine AX (B3.of hl) (v:=.ref l1) rfl ?_
  left
  intros p1 H1 s1 e1
  left
  refine BG (BX (Nat.le_of_ble_eq_true rfl)) λp2 H2 JD s2 e2=>?_
  have BN:=s1.trans s2
  refine Bn (Mt.mono BN) (D6 (s:=.opn) (s2 _ _ e1) e2) (by simp;omega) λp3 H3 Tp s3 c3=>?_
  left
  have D3:=BN.trans s3
  refine AX (B3.of (D3 _ _ hl)) (v:=.ref l2) rfl ?_
  refine Bn c3 (HK.mono D3) (by simp;omega) λp4 H4 Md s4 c4=>?_
  left
  intros p5 H5 s5 e5
  left
  refine BG (BX (Nat.le_of_ble_eq_true rfl)) λp6 H6 RL s6 e6=>?_
  refine Bn (c4.mono (s5.trans s6)) (D6 (s:=.drop 2) (s6 _ _ e5) e6) (by simp;omega) λp7 H7 XH s7 c7=>?_
  have sA:=D3.trans (s4.trans (s5.trans s6))
  refine q p7 _ H7 (sA.trans s7) (sA.free XH) c7 ?_
  ·have z1:c1=comp xs a:=IJ
   have z2:c2=comp (y::x::xs) b:=L5
   show _=comp xs (.opn a x y b)
   simp only [comp];rw [<- z1,<- z2];simp
theorem ky:AE ["scope","codes","second"] ["scope","codes"] (Ae BR):=nofun
theorem YV {f C:Addr}{fd:FuncData}(F:D4 K "code_of_when" "code_of_when" BR f fd)(T:Fi K mg C)(B6:mg "len"=none):AY Pr w K mg base C5 1 f fd ["scope","codes"] (Bl C λe=>Dw λa b c=>e=.wh a b c):=by
 refine F.okS ky (λvs H Q E h=>?_) (λBV A outer s H vs Q E hr h=>?_)
 ·obtain ⟨sc,r,l,ms,rfl,_⟩:=h;rfl
 ·obtain ⟨sc,r,l,ms,rfl,hw,⟨ok,pr,dx,d,rt,rfl,h1,h2,h3⟩,hl,hm,q⟩:=h
  refine ⟨_,(Ah (Ay (i:=2) ky.nd rfl (.inl rfl) (As Bf (Ao (r:=Bw K) AJ (Ai 1) Ab AO) (AS (Aa (Aq (Aa Af (Aa (AH Ax (by rfl) B6 PySem.boot_len (Aa (Ao (r:=Bw K) AJ (Ai 1) Ab AO) Ac)) Ac))) Ac))))
   (Al (Ar (As Bf (As Bf (As Bf (Ao (r:=Bw K) AJ (Ai 1) Ab AO) (AS (Aa (Aq (Aa Af (Aa (AH Ax (by rfl) B6 PySem.boot_len (Aa (Ai 2) Ac)) Ac))) Ac))) (Ai 2)) (Ao (r:=Bw K) AJ (Ai 1) Ab AO))))),?_⟩
  have NH:=ok.small
  obtain ⟨e,xs,ps,h⟩:=sc
  have hw:Dw λa b c=>e=.wh a b c:=hw
  obtain ⟨a,b,c,rfl⟩:=hw
  obtain ⟨m1,m2,m3,rfl,⟨l1,c1,rfl,Mt,IJ⟩,⟨l2,c2,rfl,HK,L5⟩,⟨l3,c3,rfl,pe,kz⟩⟩:=Ni hm
  have o1:c1.length<=3 * a.sz:=(IJ▸Bu _ _)
  have o2:c2.length<=3 * b.sz:=(L5▸Bu _ _)
  have o3:c3.length<=3 * c.sz:=(kz▸Bu _ _)
  simp only [Ex.sz] at NH
  obtain ⟨vs3,hv3,tU⟩:=id pe
  left
  refine AX (B3.of hl) (v:=.ref l2) rfl ?_
  left
  refine AX (B3.of hl) (v:=.ref l3) rfl ?_
  left
  refine ⟨l3,vs3,rfl,.inl (B3.of hv3),?_⟩
  left
  intros p1 H1 s1 e1
  left
  refine BG (BX (Nat.le_of_ble_eq_true rfl)) λp2 H2 JD s2 e2=>?_
  have BN:=s1.trans s2
  refine Bn (HK.mono BN) (D6 (s:=.jump vs3.length) (s2 _ _ e1) e2) (by simp;omega) λp3 H3 Tp s3 c4=>?_
  left
  have D3:=BN.trans s3
  refine AX (B3.of (D3 _ _ hl)) (v:=.ref l1) rfl ?_
  left
  obtain ⟨vs4,hv4,Md⟩:=id c4
  refine ⟨p3,vs4,rfl,.inl (B3.of hv4),?_⟩
  left
  intros p4 H4 s4 e4
  left
  refine BG (BX (Nat.le_of_ble_eq_true rfl)) λp5 H5 Lf s5 e5=>?_
  have QX:=s4.trans s5
  have HW:=D3.trans QX
  refine Bn (Mt.mono HW) (D6 (s:=.wh vs4.length) (s5 _ _ e4) e5) (by simp;omega) λp6 H6 RL s6 c6=>?_
  left
  refine Bn c6 (c4.mono (QX.trans s6)) (by simp;omega) λp7 H7 XH s7 c7=>?_
  left
  have Ku:=HW.trans (s6.trans s7)
  refine AX (B3.of (Ku _ _ hl)) (v:=.ref l3) rfl ?_
  refine Bn c7 (pe.mono Ku) (by simp;omega) λp8 H8 oq s8 c8=>?_
  refine q p8 _ H8 (Ku.trans s8) (Ku.free oq) c8 ?_
  ·have z1:c1=comp xs a:=IJ
   have z2:c2=comp xs b:=L5
   have z3:c3=comp xs c:=kz
   have l3:=Paired.len tU
   have l4:=Paired.len Md
   simp only [List.length_append,List.length_cons,List.length_nil] at l4
   show _=comp xs (.wh a b c)
   simp only [comp];rw [<- z1,<- z2,<- z3,<- l3,<- l4];simp
theorem Rz:AE ["scope","codes","last","second"] ["scope","codes"] (Ae By):=nofun
theorem Ub {f C:Addr}{fd:FuncData}(F:D4 K "code_of_split" "code_of_split" By f fd)(T:Fi K mg C)(B6:mg "len"=none):AY Pr w K mg base C5 1 f fd ["scope","codes"] (Bl C λe=>RF λa b x y c=>e=.spl a b x y c):=by
 refine F.okS Rz (λvs H Q E h=>?_) (λBV A outer s H vs Q E hr h=>?_)
 ·obtain ⟨sc,r,l,ms,rfl,_⟩:=h;rfl
 ·obtain ⟨sc,r,l,ms,rfl,hw,⟨ok,pr,dx,d,rt,rfl,h1,h2,h3⟩,hl,hm,q⟩:=h
  refine ⟨_,(Ah (Ay (i:=2) Rz.nd rfl (.inl rfl) (As Bf (Ao (r:=Bw K) AJ (Ai 1) Ab AO) (AS (Aa (Aq (Aa Af (Aa Ab Ac))) Ac))))
   (Ah (Ay (i:=3) Rz.nd rfl (.inl rfl) (As Bf (Ao (r:=Bw K) AJ (Ai 1) Ab AO) (AS (Aa (Aq (Aa Af (Aa (AH Ax (by rfl) B6 PySem.boot_len (Aa (Ai 2) Ac)) Ac))) Ac))))
   (Al (Ar (As Bf (As Bf (As Bf (Ao (r:=Bw K) AJ (Ai 1) Ab AO) (AS (Aa (Aq (Aa Af (Aa (AH Ax (by rfl) B6 PySem.boot_len (Aa (Ai 3) Ac)) Ac))) Ac))) (Ai 3)) (Ai 2)))))),?_⟩
  have NH:=ok.small
  obtain ⟨e,xs,ps,h⟩:=sc
  have hw:RF λa b x y c=>e=.spl a b x y c:=hw
  obtain ⟨a,b,x,y,c,rfl⟩:=hw
  obtain ⟨m1,m2,m3,rfl,⟨l1,c1,rfl,Mt,IJ⟩,⟨l2,c2,rfl,HK,L5⟩,⟨l3,c3,rfl,pe,kz⟩⟩:=Ni hm
  have o1:c1.length<=3 * a.sz:=(IJ▸Bu _ _)
  have o2:c2.length<=3 * b.sz:=(L5▸Bu _ _)
  have o3:c3.length<=3 * c.sz:=(kz▸Bu _ _)
  simp only [Ex.sz] at NH
  left
  refine AX (B3.of hl) (v:=.ref l3) rfl ?_
  left
  intros p1 H1 s1 e1
  left
  refine BG (BX (Nat.le_of_ble_eq_true rfl)) λp2 H2 JD s2 e2=>?_
  have BN:=s1.trans s2
  refine Bn (pe.mono BN) (D6 (s:=.drop 2) (s2 _ _ e1) e2) (by simp;omega) λp3 H3 Tp s3 c5=>?_
  left
  have D3:=BN.trans s3
  refine AX (B3.of (D3 _ _ hl)) (v:=.ref l2) rfl ?_
  left
  obtain ⟨vs5,hv5,tV⟩:=id c5
  refine ⟨p3,vs5,rfl,.inl (B3.of hv5),?_⟩
  left
  intros p4 H4 s4 e4
  left
  refine BG (BX (Nat.le_of_ble_eq_true rfl)) λp5 H5 Lf s5 e5=>?_
  have QX:=s4.trans s5
  have HW:=D3.trans QX
  refine Bn (HK.mono HW) (D6 (s:=.jump vs5.length) (s5 _ _ e4) e5) (by simp;omega) λp6 H6 RL s6 c6=>?_
  left
  have HV:=HW.trans s6
  refine AX (B3.of (HV _ _ hl)) (v:=.ref l1) rfl ?_
  left
  obtain ⟨vs6,hv6,tW⟩:=id c6
  refine ⟨p6,vs6,rfl,.inl (B3.of hv6),?_⟩
  left
  intros p7 H7 s7 e7
  left
  refine BG (BX (Nat.le_of_ble_eq_true rfl)) λp8 H8 oq s8 e8=>?_
  have tX:=s7.trans s8
  have j8:=HV.trans tX
  refine Bn (Mt.mono j8) (D6 (s:=.spl vs6.length) (s8 _ _ e7) e8) (by simp;omega) λp9 H9 hp9 s9 c9=>?_
  left
  refine Bn c9 (c6.mono (tX.trans s9)) (by simp;omega) λot GJ jD CP sC=>?_
  left
  refine Bn sC (c5.mono (QX.trans (s6.trans (tX.trans (s9.trans CP))))) (by simp;omega) λoN F0 tY CA c11=>?_
  have kA:=j8.trans (s9.trans CP)
  refine q oN _ F0 (kA.trans CA) (kA.free tY) c11 ?_
  ·have z1:c1=comp xs a:=IJ
   have z2:c2=comp xs b:=L5
   have z3:c3=comp (y::x::xs) c:=kz
   have l5:=Paired.len tV
   have l6:=Paired.len tW
   simp only [List.length_append,List.length_cons,List.length_nil] at l5 l6
   show _=comp xs (.spl a b x y c)
   simp only [comp];rw [<- z1,<- z2,<- z3,<- l5,<- l6];simp
noncomputable def kB (C:Addr):List (Str × Sp) :=
 [("name",Bl C λe=>∃ x,e=.nm x),("number",Bl C λe=>(∃ i,e=.num i)\/(∃ b,e=.tru b)\/e=.emp),("truth",Bl C λe=>(∃ i,e=.num i)\/(∃ b,e=.tru b)\/e=.emp),("empty",Bl C λe=>(∃ i,e=.num i)\/(∃ b,e=.tru b)\/e=.emp),
  ("fun",Bl C λe=>(D1 λx b=>e=.fn x b)\/Dw λf x b=>e=.rc f x b),("rec",Bl C λe=>(D1 λx b=>e=.fn x b)\/Dw λf x b=>e=.rc f x b),("call",Bl C λe=>(D1 λa b=>e=.cal a b)\/(D1 λa b=>e=.pr a b)\/D1 λa b=>e=.lk a b),("let",Bl C λe=>Dw λx a b=>e=.lt x a b),
  ("when",Bl C λe=>Dw λa b c=>e=.wh a b c),("pair",Bl C λe=>(D1 λa b=>e=.cal a b)\/(D1 λa b=>e=.pr a b)\/D1 λa b=>e=.lk a b),("open",Bl C λe=>Lb λa x y b=>e=.opn a x y b),("link",Bl C λe=>(D1 λa b=>e=.cal a b)\/(D1 λa b=>e=.pr a b)\/D1 λa b=>e=.lk a b),
  ("split",Bl C λe=>RF λa b x y c=>e=.spl a b x y c),("op",Bl C λe=>Dw λo a b=>e=.op o a b)]
theorem memC {α:Type}{l:List α}{x:α}(i:Nat)(h:l[i]?=some x):x∈l:=List.mem_of_getElem? h
theorem tZ (C:Addr):∀ e:Ex,∃ W:Ex->Prop,(e.wd,Bl C W)∈kB C/\W e
 | .nm x=>⟨_,memC 0 rfl,x,rfl⟩
 | .num i=>⟨_,memC 1 rfl,.inl ⟨i,rfl⟩⟩
 | .tru b=>⟨_,memC 2 rfl,.inr (.inl ⟨b,rfl⟩)⟩
 | .emp=>⟨_,memC 3 rfl,.inr (.inr rfl)⟩
 | .fn x b=>⟨_,memC 4 rfl,.inl ⟨x,b,rfl⟩⟩
 | .rc f x b=>⟨_,memC 5 rfl,.inr ⟨f,x,b,rfl⟩⟩
 | .cal a b=>⟨_,memC 6 rfl,.inl ⟨a,b,rfl⟩⟩
 | .lt x a b=>⟨_,memC 7 rfl,x,a,b,rfl⟩
 | .wh a b c=>⟨_,memC 8 rfl,a,b,c,rfl⟩
 | .pr a b=>⟨_,memC 9 rfl,.inr (.inl ⟨a,b,rfl⟩)⟩
 | .opn a x y b=>⟨_,memC 10 rfl,a,x,y,b,rfl⟩
 | .lk a b=>⟨_,memC 11 rfl,.inr (.inr ⟨a,b,rfl⟩)⟩
 | .spl a b x y c=>⟨_,memC 12 rfl,a,b,x,y,c,rfl⟩
 | .op o a b=>⟨_,memC 13 rfl,o,a,b,rfl⟩
theorem u4:AE ["scope","codes"] ["scope","codes"] (Ae Dc):=nofun
theorem kD {f C gm:Addr}{fd:FuncData}{rows:List (Str × Value)}(F:D4 K "code_of" "code_of" Dc f fd)(T:Fi K mg C)(kd:FA w K gm rows)(u5:mg "RULES"=some (.ref gm))(KR:G3 Pr w K mg base C5 1 ["scope","codes"] rows (kB C)):
  AY Pr w K mg base C5 2 f fd ["scope","codes"] (Bl C λ_=>True):=by
 refine F.okS u4 (λvs H Q E h=>?_) (λBV A outer s H vs Q E hr h=>?_)
 ·obtain ⟨sc,r,l,ms,rfl,_⟩:=h;rfl
 ·obtain ⟨sc,r,l,ms,rfl,_,hs,hl,hm,q⟩:=h
  refine ⟨_,(Al (Ar (T7 kd KR Ha hr rfl u5 (Ao Aj (DV (Ai 0)) Ab AO) AO (Aa (Ai 0) (Aa (Ai 1) Ac))))),?_⟩
  obtain ⟨ok,pr,dx,d,rt,rfl,h1,h2,h3⟩:=id hs
  obtain ⟨pt,us,rfl,DM,_⟩:=h2.look
  obtain ⟨W,hW,hw⟩:=tZ C sc.e
  left
  refine ⟨pr,C,dx,_,_,rfl,h1,T.cl,T.nT,rfl,?_⟩
  left
  refine Ad (Av.of DM) (v:=.str sc.e.wd) (Ak (j:=0) rfl) ?_
  refine ⟨_,_,rfl,hW,?_⟩
  left
  exact ⟨sc,.ref pr,l,ms,rfl,hw,hs,hl,hm,q⟩
noncomputable def YW (pl:Addr)(H:Hp)(s:Sc)(m:V):Prop:=D1 λl code=>m=.ref l/\l≠pl/\Nh H l code/\code=comp s.xs s.e
theorem YW.mono {pl:Addr}{H H':Hp}(t:NL H H')(b:Gs [pl] H H'){s:Sc}{m:V}(h:YW pl H s m):YW pl H' s m:=by
 obtain ⟨l,code,h1,h2,⟨vs,h3,h4⟩,h5⟩:=h
 exact ⟨l,code,h1,h2,⟨vs,b _ _ h3 (by simpa using h2),Paired.mapP h4 λ_ _ z=>z.mono t.tsub⟩,h5⟩
inductive FP (C fP fm:Addr)(vs:(List V))(H:Hp)(Q:VK)(z3:XK):Prop
 | mk (sc:Sc) (v:V) (h1:vs=[v,.ref fP,.ref fm]) (h2:DZ C H sc v) (h3:∀ l code H',An H H'->Nh H' l code->code=comp sc.xs sc.e->Q (.ref l) H'):FP C fP fm vs H Q z3
theorem RA:AE ["top","parts_of","make","pile","one","parts","made"] ["top","parts_of","make"] (Ae E8):=nofun
theorem kE {f fP fm C:Addr}{fd fdM:FuncData}(F:D4 K "built" "built" E8 f fd)(Fj:mg "reversed"=none)(cA:Cl Pr w K mg base 5 "all_within" ["top","parts_of"] (JC C fP))
  (GM:AY Pr w K mg base C5 2 fm fdM ["scope","codes"] (Bl C λ_=>True)) (bM:Binds K fdM ["scope","codes"] []) (kM:W.keepIn K (.ref fm)=true) :
  AY Pr w K mg base C5 6 f fd ["top","parts_of","make"] (FP C fP fm):=by
 refine F.okS RA (λvs H Q E h=>?_) (λBV A outer s H vs Q E hr h=>?_)
 ·obtain ⟨sc,v,rfl,_⟩:=h;rfl
 ·obtain ⟨sc,v,rfl,ht,k⟩:=h
  have GK:Bh 2 _:=hr.mono ()
  have Sc0:Bx (DP C5 Pr w K mg base ["top","parts_of","make","pile","one","parts","made"] "built" (Ae E8) f BV A outer s H E).nox (Cw (valueOf (ig (inDef E8 1) 0))) [("pile",s.heap.objs.size+1)] ["part"] ["pile"] [3] :=
   ⟨rfl,by decide +kernel,rfl,by decide +kernel,rfl,rfl,rfl,rfl⟩
  have Hw:(["part","pile"]:List Str).Nodup:=by decide +kernel
  refine ⟨_,(Ah (Ay (i:=3) RA.nd rfl (.inr rfl) (AS Ac))
   (Ah (J' PassesOwn.never rfl (ie rfl Fj (Aa (B1 cA hr rfl (Aa (Ai 0) (Aa (Ai 1) Ac))) Ac)) (K7 rfl (De (BF (i:=4) RA.nd rfl (.inl rfl)) (De (BF (i:=5) RA.nd rfl (.inl rfl)) Hh))) (Ah (F' (i:=6) RA.nd rfl (.inl rfl) (tt:=HM) (te:=Sj K "list" WR (Bv 1)) Sc0 rfl (E7 (Ai 5)) (λC s0 H0 ex=>BF (i:=0) Hw rfl (.inl rfl)) (λ_ _ _ _=>EZ) (λC s0 H0 ex=>MZ PySem.F.plainAttrs_list PySem.F.slot_list_pop PySem.F.type_list_pop IZ (Ai 1))) (Al (Hf (Qh PySem.F.plainAttrs_list PySem.F.slot_list_append PySem.F.type_list_append EH (Ai 3) (Aa (N4 GM GK bM (i:=2) rfl (.inl rfl) (Aa (Ai 4) (Aa (Ai 6) Ac))) Ac))))))
   (Al (Ar (MZ PySem.F.plainAttrs_list PySem.F.slot_list_pop PySem.F.type_list_pop IZ (Ai 3)))))),?_⟩
  have hs:=Sc.kids_sz
  have NH:sc.sz<=4500:=by have:=ht.1.small;show sc.e.sz<=4500;omega
  left
  refine BG (BX ⟨⟩) λpl H1 E4 s1 e1=>?_
  left
  refine ⟨sc,v,rfl,ht.mono (NL.of_same s1),λla us H2 s2 kF hla kus=>?_⟩
  refine ⟨la,us,rfl,B3.of hla,?_⟩
  have hP:=KG.P_one hs sc
  have hn:us.length=sc.sz:=by rw [<- hP];exact (Paired.length kus).symm
  have Jq:=KG.sz_pos hs sc
  have oJ:la≠pl:=λz=>by rw [z,e1] at kF;cases kF
  have BN:=s1.trans s2
  have hFo:KG.Fo Sc.kids [sc] us.length=[]:=by
   have:=KG.Fo_end hs [sc]
   rw [show KG.szs Sc.sz [sc]=us.length by rw [hn];simp [KG.szs]] at this
   exact this
  refine SM (K:=K) (a:=la) (xs:=us) (λi σ H2=>Lb λps pt pp md=>σ=[some v,some (.ref fP),some (.ref fm),some (.ref pl),pt,pp,md]/\An H H2/\H2 la=some (.lst us)/\Paired (Ms C [pl] H1 H2) (KG.P Sc.kids Sc.sz [sc]) us/\H2 pl=some (.lst ps)/\Paired (YW pl H2) (KG.Fo Sc.kids [sc] (us.length - i)) ps.reverse)
   ⟨[],none,none,none,rfl,BN,hla,Paired.mapP kus (λ_ _ z=>by
    obtain ⟨p,q,x,ws,z1,z2,z3,z4,z5,z6,z7⟩:=z
    exact ⟨p,q,x,ws,z1,z2,z3,z4,z5,(λy=>by rw [List.mem_singleton.mp y,e1] at z7;cases z7),z7⟩),s2 _ _ e1,by rw [Nat.sub_zero,hFo];exact .nil⟩ (λi σ H2 _ q=>?_) (λi x σ H2 hx q=>?_) (fun σ H2 q=>?_)
  ·obtain ⟨ps,pt,pp,md,rfl,_,Uc,_⟩:=q
   exact B3.of Uc
  ·obtain ⟨ps,pt,pp,md,rfl,sm,Uc,YX,hp,pr⟩:=q
   have hi:i < us.length:=by
    have:=(List.getElem?_eq_some_iff.mp hx).1
    simpa using this
   rw [List.getElem?_reverse hi] at hx
   obtain ⟨d,hd,kx⟩:=Paired.at YX hx
   obtain ⟨r,f1,f2⟩:=KG.Fo_step hs hd
   have ej:us.length - 1 - i+1=us.length - i:=by omega
   rw [ej] at f2
   rw [f2] at pr
   obtain ⟨ms,rest,Vg,pm,VZ⟩:=Paired.split pr
   have oM:ms.length=(Sc.kids d).length:=(Paired.length pm).symm
   have hdz:(Sc.kids d).length < sc.sz:=by
    have h1:=KG.kids_len hs d
    have h2:=KG.P_mem_sz hs _ [sc] d rfl (List.mem_of_getElem? hd)
    simp [KG.szs] at h2
    omega
   obtain ⟨p,q,x,VH,rfl,Yd,kx,hq,kq,u6,_⟩:=kx
   have u6:q≠pl:=by simpa using u6
   have oI:VH.length=ms.length:=by rw [oM];exact (Paired.length kq).symm
   refine ⟨p,_,rfl,Av.of Yd,rfl,_,_,rfl,_,_,rfl,rfl,?_⟩
   left
   refine ⟨q,rfl,⟨_,B3.of hq⟩,?_⟩
   refine EM (K:=K) (a:=q) (xs:=VH) (λj ys H3=>ys=ms.take j/\H3 pl=some (.lst ((ms.drop j++rest).reverse))/\∀ b,b≠pl->H3 b=H2 b) ⟨rfl,?_,λ_ _=>rfl⟩ (λj ys H3 z=>?_) (by exact D5 ()) (λj ys H3 z=>?_) rfl (λj x' ys H3 QA z=>?_) (λys H3 z=>?_)
   ·rw [hp,List.drop_zero,<- Vg,List.reverse_reverse]
   ·refine B3.of ?_
    rw [z.2.2 _ u6];exact hq
   ·rw [z.1];exact List.length_take_le _ _
   ·obtain ⟨YQ,VY,fN⟩:=z
    have Vh:j < ms.length:=by
     have:=(List.getElem?_eq_some_iff.mp QA).1
     omega
    have V':ms.drop j++rest=ms[j]::(ms.drop (j+1)++rest):=by rw [List.drop_eq_getElem_cons Vh];rfl
    left
    refine CT ?_
    left
    refine ⟨.inl ⟨rfl,_,B3.of VY⟩,pl,_,ms[j],rfl,rfl,VY,by rw [V'];exact rev_last _ _,?_⟩
    refine Nx.mk () ⟨?_,?_,λb hb=>?_⟩
    ·rw [YQ,List.take_succ,List.getElem?_eq_getElem Vh];rfl
    ·rw [AG,V'];simp
    ·rw [AQ hb];exact fN b hb
   ·obtain ⟨YQ,VY,fN⟩:=z
    have ety:ys=ms:=by rw [YQ,oI,List.take_length]
    have ed:ms.drop VH.length=[]:=by rw [oI,List.drop_length]
    rw [ed,List.nil_append] at VY
    refine BG (Nat.zero_le _) λa H4 ha s4 e4=>?_
    have YY:Gs [pl] H2 H4:=λb o e n=>s4 _ _ (by rw [fN b (by simpa using n)];exact e)
    have YZ:NL H2 H4:=λb o e n=>by
     by_cases hb:b=pl
     ·subst hb;rw [hp] at e;exact absurd (Option.some.inj e).symm (n _)
     ·exact s4 _ _ (by rw [fN b hb];exact e)
    have tK:An H H4:=λb o e=>YY b o (sm b o e) (by simp;exact Ba e E4)
    have Y':=s4 _ _ VY
    have npa:pl≠a:=Ba VY ha
    left
    refine ⟨.inl ⟨rfl,_,B3.of Y'⟩,?_⟩
    left
    subst ety
    refine ⟨rfl,.inl kM,_,rfl,_,rfl,.inl kM,d,x,a,_,rfl,trivial,kx.mono YZ,e4,Paired.mapP pm (λ_ _ z=>by
     obtain ⟨l,code,z1,z2,z3,z4⟩:=z.mono YZ YY
     exact ⟨l,code,z1,z3,z4⟩),λlr code H5 s5 hlr c5 ok5=>?_⟩
    have hrl:rest.length<=sc.sz:=by
     have h1:=KG.Fo_size hs (us.length - 1 - i) [sc]
     have h2:=KG.szs_len hs (KG.Fo Sc.kids [sc] (us.length - 1 - i))
     rw [f1] at h1 h2
     have h3:rest.length=r.length:=(Paired.length VZ).symm
     simp [KG.szs] at h1 h2
     omega
    have Lf:H5 pl=some (.lst rest.reverse):=s5 _ _ Y'
    refine ⟨pl,rest.reverse,.ref lr,rfl,rfl,Lf,by rw [List.length_reverse];exact D5 (),?_⟩
    have kG:NL H5 (upd H5 pl (.lst (rest.reverse++[.ref lr]))):=NL.put Lf
    have kH:Gs [pl] H5 (upd H5 pl (.lst (rest.reverse++[.ref lr]))):=Gs.put (by simp)
    have kI:=YZ.trans ((NL.of_same s5).trans kG)
    have Z0:=YY.trans ((Gs.of_same s5).trans kH)
    have nlr:lr≠pl:=λz=>by rw [z,Y'] at hlr;cases hlr
    refine ⟨rest.reverse++[.ref lr],_,_,_,rfl,An.put (tK.trans s5) E4,?_,Paired.mapP YX λ_ _ z=>z.mono kI Z0,AG,?_⟩
    ·exact Z0 _ _ Uc (by simpa using oJ)
    ·have e5:us.length - (i+1)=us.length - 1 - i:=by omega
     rw [e5,f1]
     have e6:(rest.reverse++[V.ref lr]).reverse=.ref lr::rest:=by simp
     rw [e6]
     refine .cons (YW.mono kG kH ⟨lr,code,rfl,nlr,c5,ok5⟩) (Paired.mapP VZ λ_ _ z=>z.mono kI Z0)
  ·obtain ⟨ps,pt,pp,md,rfl,sm,Uc,YX,hp,pr⟩:=q
   rw [Nat.sub_self] at pr
   have pr:Paired (YW pl H2) [sc] ps.reverse:=pr
   obtain ⟨r,Vg,l,code,rfl,nl,c1,o1⟩:=Dq pr
   have Vg:ps=[.ref l]:=by
    have:=congrArg List.reverse Vg
    simpa using this
   subst Vg
   left
   refine ⟨.inl ⟨rfl,_,B3.of hp⟩,pl,_,.ref l,rfl,rfl,hp,rfl,?_⟩
   obtain ⟨l',kJ,e',_,c2,o2⟩:=YW.mono (NL.put (ys:=([V.ref l]:List V).dropLast) hp) (Gs.put (by simp)) ⟨l,code,rfl,nl,c1,o1⟩
   cases e'
   exact k l kJ _ (An.put sm E4) c2 o2
inductive Eb (vs:(List V))(H:Hp)(Q:VK)(z3:XK):Prop
 | mk (e:Ex) (re:V) (h1:vs=[re]) (h2:B9 H e re) (h3:e.cl []) (h4:e.opk) (h5:e.sz<=4500) (h6:∀ l H',An H H'->Nh H' l (comp [] e++[.fin])->Q (.ref l) H'):Eb vs H Q z3
theorem u7:AE ["tree"] ["tree"] (Ae CW):=nofun
theorem kK {f C fi fP fm:Addr}{fd ke:FuncData}(F:D4 K "compiled" "compiled" CW f fd)(T:Fi K mg C)(MS:Mk K C fi)(GI:AY Pr w K mg base C5 1 fi ke ["self","tree","places","held"] (ER C))(bI:Binds K ke ["self","tree","places","held"] [])
  (cB:Cl Pr w K mg base 6 "built" ["top","parts_of","make"] (FP C fP fm)) (mIS:mg "inner_scopes"=some (.ref fP)) (mCO:mg "code_of"=some (.ref fm)):AY Pr w K mg base C5 7 f fd ["tree"] Eb:=by
 refine F.okS u7 (λvs H Q E h=>?_) (λBV A outer s H vs Q E hr h=>?_)
 ·obtain ⟨e,re,rfl,_⟩:=h;rfl
 ·obtain ⟨e,re,rfl,he,hc,ho,hz,q⟩:=h
  have GK:Bh 2 _:=hr.mono ()
  refine ⟨_,(Al (Ar (As Bf (B1 cB hr rfl (Aa (M8 MS GI bI T.mC GK rfl (Aa (Ai 0) (Aa X5 (Aa Ab Ac)))) (Aa (Qv rfl mIS) (Aa (Qv rfl mCO) Ac)))) (AS (Aa (Aq (Aa Af Ac)) Ac))))),?_⟩
  left
  refine λpd oZ=>?_
  have s1:An H (upd H pd (.dK [])):=An.new oZ
  have e1:(upd H pd (.dK [])) pd=some (.dK []):=AG
  generalize upd H pd (.dK [])=H1 at s1 e1 ⊢
  left
  refine Gb λp dx H2 hp s2 e2=>?_
  left
  refine ⟨⟨e,[],[],0⟩,.ref p,rfl,⟨⟨hc,ho,(λx hx=>by cases hx),Nat.le_refl _,(by show 0+2 * e.sz<=9000;omega)⟩,p,dx,pd,re,rfl,e2,B9.mono (Au.of_same (s1.trans s2)) he,s2 _ _ e1⟩,λl code H3 s3 c3 o3=>?_⟩
  left
  intros p4 H4 s4 e4
  left
  refine BG (BX (Nat.le_of_ble_eq_true rfl)) λp5 H5 Lf s5 e5=>?_
  have o3:code=comp [] e:=o3
  subst o3
  have l3:=Bu e []
  refine Bn (c3.mono (s4.trans s5)) (D6 (s:=.fin) (s5 _ _ e4) e5) (by simp;omega) λp6 H6 RL s6 c6=>?_
  exact q p6 H6 (s1.trans (s2.trans (s3.trans (s4.trans (s5.trans s6))))) c6
structure Tie (K:W.Frag)(mg:Str->Option Value)(fd ft fb fl:Addr)(dd dt db dl:FuncData):Prop where
 D:Df K mg "_law_made" BJ GO fd dd
 T:Df K mg "_law_taken" C1 GO ft dt
 B:Df K mg "_law_built" Bp GO fb db
 L:Df K mg "_law_let" CF ["_law_script","_law_k","_law_goal","_law_names","_law_deep","_law_a","_law_kind"] fl dl
theorem L8 {fd ft fb fl:Addr}{dd dt db dl:FuncData}(T:Tie K mg fd ft fb fl dd dt db dl)(B6:mg "len"=none)(Iz:mg "max"=none)(CI:mg "int"=none)(CO:mg "list"=none)(AV:mg "tuple"=none)(Cd:mg "range"=none)
  (cM:Cl Pr w K mg base 2 "_law_mix" HG (DY K)) (cN:Cl Pr w K mg base 1 "_law_name" ["_law_number"] G9) (cV:Cl Pr w K mg base 1 "_law_with" ["_law_names","_law_more"] Fg) (cI:Cl Pr w K mg base 1 "_law_int" ["_law_number"] KW)
  (cG:Cl Pr w K mg base 5 "_law_ground" ["_law_script","_law_k","_law_deep"] (Dk K 2)) (cW:Cl Pr w K mg base 11 "_law_wider" ["_law_wide","_law_kind"] (EO 8)) :
  ∀ n,Cl Pr w K mg base (12+3 * n) "_law_made" GO (Dr K n)
 | 0=>T.D.cl Ez
 | n+1=>by
  have c:=L8 T B6 Iz CI CO AV Cd cM cN cV cI cG cW n
  have cL:=T.L.cl (YF T.L.F () cM cV c)
  have cT:=T.T.cl (Rv T.T.F CI () cM cN cV cG c cL)
  have cB:=T.B.cl (OM T.B.F CO AV Cd () cM cN cV cI c)
  exact T.D.cl (Rr (r:=12+3 * n+2) T.D.F B6 Iz () cM cW (cB.mono ()) cT)
theorem C4 {d s:Nat}(h:d<=4)(hs:s<=7):C d s<=2752:=by
 have h1:=Dd d hs
 rcases d with _ | _ | _ | _ | _ | d
 ·exact Nat.le_trans h1 ⟨⟩
 ·exact Nat.le_trans h1 ⟨⟩
 ·exact Nat.le_trans h1 ⟨⟩
 ·exact Nat.le_trans h1 ⟨⟩
 ·exact Nat.le_trans h1 ⟨⟩
 ·omega
theorem B4 {d p:Nat}(h:d<=4)(hp:p<=2):B d p<=62:=by
 have h1:=Ea d hp
 rcases d with _ | _ | _ | _ | _ | d
 ·exact Nat.le_trans h1 ⟨⟩
 ·exact Nat.le_trans h1 ⟨⟩
 ·exact Nat.le_trans h1 ⟨⟩
 ·exact Nat.le_trans h1 ⟨⟩
 ·exact Nat.le_trans h1 ⟨⟩
 ·omega
noncomputable def W2:Sp:=λvs H Q E=>∃ code,Yh code 236 vs H Q E
theorem HF:AE ["_law_script","_law_tree","_law_most","_law_code","_law_due","_law_found"] ["_law_script"] (Ae Ht):=nofun
theorem Z1 {f:Addr}{fd:FuncData}(F:D4 K "law" "law" Ht f fd)(CO:mg "list"=none)(Ap:mg "isinstance"=none)(AV:mg "tuple"=none)(B6:mg "len"=none)(Hy:mg "all"=none)
  (cM:Cl Pr w K mg base 2 "_law_mix" HG (DY K)) (cG:Cl Pr w K mg base 5 "_law_ground" ["_law_script","_law_k","_law_deep"] (Dk K 2)) (cD:Cl Pr w K mg base 48 "_law_made" GO (Dr K 12))
  (cP:Cl Pr w K mg base 65 "_law_spoiled" ["_law_script","_law_k","_law_tree"] (Kv K 62)) (cC:Cl Pr w K mg base 7 "compiled" ["tree"] Eb) (cI:Cl Pr w K mg base 2 "_law_is_step" ["_law_found"] Kz) (cZ:Cl Pr w K mg base 63 "_law_size" ["_law_tree"] (Hv 62))
  (cR:Cl Pr w K mg base 269 "_law_run" ["_law_tree","_law_most"] (Nr 29 236)) (cL:Cl Pr w K mg base 238 "_law_done" ["_law_code","_law_most"] W2) (cA:Cl Pr w K mg base 239 "_law_alike" ["_law_one","_law_other"] (R6 238)) (cH:Cl Pr w K mg base 237 "_law_show" ["_law_value"] (KU 236)) :
  AY Pr w K mg base C5 270 f fd ["_law_script"] (Qg K 63 []):=by
 refine F.okS HF (λvs H Q E h=>?_) (λBV A outer s H vs Q E hr h=>?_)
 ·obtain ⟨a,ns,rfl,_⟩:=h;rfl
 ·obtain ⟨a,ns,rfl,hs,hlen,_,q⟩:=h
  have GK:Bh 2 _:=hr.mono ()
  have oO:Bh 5 _:=hr.mono ()
  have hr7:Bh 7 _:=hr.mono ()
  have u9:Bh 48 _:=hr.mono ()
  have uc:Bh 63 _:=hr.mono ()
  have ud:Bh 65 _:=hr.mono ()
  have kL:Bh 237 _:=hr.mono ()
  have kN:Bh 238 _:=hr.mono ()
  have kO:Bh 239 _:=hr.mono ()
  have FG:=hr.units
  have S:Bx (DP C5 Pr w K mg base ["_law_script","_law_tree","_law_most","_law_code","_law_due","_law_found"] "law" (Ae Ht) f BV A outer s H E).nox (Cw (Jr (rP (rO 1 (XO (inDef Ht 4)))))) [] ["_law_one"] [] [] :=
   ⟨rfl,by decide +kernel,rfl,by decide +kernel,rfl,rfl,rfl,rfl⟩
  have Hw:(["_law_one"]:List Str).Nodup:=by decide +kernel
  refine ⟨_,(Ah (Ay (i:=1) HF.nd rfl (.inl rfl) (B1 cD u9 rfl (Aa (Ai 0) (Aa Ab (Aa (B1 cG oO rfl (Aa (Ai 0) (Aa Ab (Aa Ab Ac)))) (Aa (AS Ac) (Aa (As AZ Ab (As Bc (B1 cM GK rfl (Aa (Ai 0) (Aa Ab Ac))) Ab)) Ac)))))))
   (Ah (B7 (Aw AK (As Bc (B1 cM GK rfl (Aa (Ai 0) (Aa Ab Ac))) Ab) Ab (Am _)) (Al (Ay (i:=1) HF.nd rfl (.inl rfl) (B1 cP ud rfl (Aa (Ai 0) (Aa Ab (Aa (Ai 1) Ac)))))) AN)
   (Ah (Ay (i:=2) HF.nd rfl (.inl rfl) (As Bc (B1 cM GK rfl (Aa (Ai 0) (Aa Ab Ac))) Ab))
   (Ah (Ay (i:=3) HF.nd rfl (.inl rfl) (B1 cC hr7 rfl (Aa (Ai 1) Ac)))
   (Ah (B7 (Gk (w_or (DU (DC (AH BO (by rfl) Ap PyProof.Rows.boot_isinstance (Aa (Ai 3) (Aa (CV (v:=.ty "list") rfl CO PyProof.Rows.boot_list rfl) Ac))))) (EX (DU (DC (AH (FY rfl) (by rfl) Hy PyProof.Rows.boot_all (Aa (F9 (te:=Ed Kz [] E0 (BB (Bv 0) Em)) S rfl (E7 (Ai 3)) (λC s0 H0 ex=>BF (i:=0) Hw rfl (.inl rfl)) (λ_ _ _ _=>EZ) (λC s0 H0 ex=>B1 cI GK rfl (Aa (Ai 0) Ac))) Ac))))))) (Al (Ar ES)) AN)
   (Ah (B7 (Aw Ia (AH Ax (by rfl) B6 PySem.boot_len (Aa (Ai 3) Ac)) (As AZ (As BE Ab (B1 cZ uc rfl (Aa (Ai 1) Ac))) Ab) (Am _)) (Al (Ar ES)) AN)
   (Ah (Ay (i:=4) HF.nd rfl (.inl rfl) (B1 cR hr rfl (Aa (Ai 1) (Aa (Ai 2) Ac))))
   (Ah (Ay (i:=5) HF.nd rfl (.inl rfl) (B1 cL kN rfl (Aa (Ai 3) (Aa (Ai 2) Ac))))
   (Ah (B7 (Gk (w_or (Aw Ls (Ai 4) Hd (Am _)) (EX (Aw (AK.or (Jo FG)) (Ai 4) Af (Am _))))) (Al (Ar (Cc AK (Ai 5) (Ai 4) (Am _)))) AN)
   (Al (Ar (Gm (AH BO (by rfl) Ap PyProof.Rows.boot_isinstance (Aa (Ai 5) (Aa (CV (v:=.ty "tuple") rfl AV PyProof.Rows.boot_tuple rfl) Ac))) (EY (B1 cA kO rfl (Aa (Ai 5) (Aa (Aq (Aa (B1 cH kL rfl (Aa (Ao (r:=AA K) Aj (Ai 4) Ab AO) Ac)) (Aa (Ao (r:=AA K) Aj (Ai 4) Ab AO) Ac))) Ac)))))))))))))))),?_⟩
  left
  refine ⟨a,ns,2,2,rfl,(),hs,λg rg H1 s1 hg gg dg=>?_⟩
  left
  intros l0 H2 s2 e2
  left
  have BN:=s1.trans s2
  refine ⟨a,ns,_,rfl,BN.seq hs,λm0 sT=>?_⟩
  left
  obtain ⟨d,hd,ue⟩:∃ d:Nat,1+m0 % 4=(d:Int)/\d<=4:=by
   have h1:=Int.emod_nonneg m0 (b:=4) ⟨⟩
   have h2:=Int.emod_lt_of_pos m0 (b:=4) ⟨⟩
   exact ⟨(1+m0 % 4).toNat,(),()⟩
  rw [hd]
  refine ⟨a,ns,1,g,rg,l0,[],d,rfl,⟨BN.seq hs,BY.mono (Au.of_same s2) hg,gg,⟨_,e2,.nil⟩,λx hx=>(by cases hx)⟩,?_,(),?_,by simp,λe r H3 s3 he ho=>?_⟩
  ·rcases d with _ | d
   ·simp only [mu];omega
   ·simp only [mu];omega
  ·unfold Pm;omega
  have D3:=BN.trans s3
  refine CL (fun σ' H'=>D1 λe r=>σ'=[some (.ref a),some r,none,none,none,none]/\An H H'/\B9 H' e r/\e.cl []/\e.opj 29/\e.kn<=62/\e.sz<=2752) ?_ λN fin=>?_
  ·clear he ho D3 s3 hd ue
   rintro _ H4 ⟨e,r,rfl,Jp,he,hc,ho,hk,hz⟩
   have uf:=Tq ho
   have T:Tr 29 e:=⟨hc,uf,_,XI ho⟩
   have ug:=QS (e:=e) (ρ:=dz) (m:=0) (λ_=>Nat.le_refl _)
   have pf:∀ s∈comp [] e++[MS.fin],s.ok:=λs hs=>by
    rcases List.mem_append.mp hs with h | h
    ·exact TF e [] uf s h
    ·rw [List.mem_singleton.mp h];trivial
   have lcp:=Bu e []
   have lcd:(comp [] e++[MS.fin]).length=(comp [] e).length+1:=by simp
   left
   refine ⟨a,ns,_,rfl,Jp.seq hs,λm2 oH=>?_⟩
   obtain ⟨most,kQ,hm6⟩:∃ most:Nat,m2 % 7=(most:Int)/\most<=6:=by
    have h1:=Int.emod_nonneg m2 (b:=7) ⟨⟩
    have h2:=Int.emod_lt_of_pos m2 (b:=7) ⟨⟩
    exact ⟨(m2 % 7).toNat,(),()⟩
   left
   rw [kQ]
   left
   refine ⟨e,r,rfl,he,hc,uf,(),λlc H5 s5 c5=>?_⟩
   left
   obtain ⟨vs,h1,h2⟩:=id c5
   have oC:=Paired.len h2
   have HW:=Jp.trans s5
   refine ⟨.ref lc,_,_,true,rfl,C6.lst h1,rfl,?_⟩
   left
   refine Cm ?_
   left
   refine ⟨lc,rfl,⟨_,B3.of h1⟩,?_⟩
   refine EM (K:=K) (a:=lc) (xs:=vs) (λi ys H'=>An H5 H'/\ys=(List.replicate i true).map V.bl) ⟨An.refl _,rfl⟩ (λi ys H' z=>B3.of (z.1 _ _ h1)) (D5 ()) (λi ys H' z=>by rw [z.2];simp) rfl (λi x ys H6 hx z=>?_) (λys H6 z=>?_)
   ·obtain ⟨s6,rfl⟩:=z
    have hi:=(List.getElem?_eq_some_iff.mp hx).1
    obtain ⟨st,JL,p,rfl,hp⟩:=Paired.at h2 hx
    left
    refine CT ?_
    left
    refine ⟨st,p,rfl,s6 _ _ hp,pf st (List.mem_of_getElem? JL),λH7 s7=>Nx.mk hi ⟨s6.trans s7,?_⟩⟩
    rw [List.replicate_succ',List.map_append]
    rfl
   ·obtain ⟨s6,rfl⟩:=z
    refine BG (Nat.zero_le _) λl7 H7 hl7 s7 e7=>?_
    left
    refine ⟨l7,_,rfl,e7,?_⟩
    have al:(List.replicate vs.length true).all id=true:=by simp
    rw [al]
    left
    refine Cm ?_
    left
    have pj:=s6.trans s7
    have Ku:=HW.trans pj
    refine ⟨lc,vs,rfl,.inl (B3.of (pj _ _ h1)),?_⟩
    left
    have he7:=B9.mono (Au.of_same (s5.trans pj)) he
    refine ⟨e,r,rfl,he7,(),λH8 s8=>?_⟩
    left
    refine AF (λz=>by have:=of_decide_eq_true z;omega) ?_
    left
    have he8:=B9.mono (Au.of_same s8) he7
    have c8:=c5.mono (pj.trans s8)
    obtain ⟨n,m,O,o,hE,hL,hA⟩:=agree (e:=e) (most:=most) hc
    have G:=Y3 (code:=comp [] e++[MS.fin]) hm6 ()
    refine ⟨e,r,most,m,62,o,rfl,he8,T,(),(),hL,λho H9 s9=>?_,λho H9 s9=>?_,λe' c ho p r' H9 s9 Yd Ol IP T'=>?_⟩
    ·subst ho
     cases hA
     left
     refine ⟨_,lc,most,n,_,_,rfl,c8.mono s9,pf,hE,G,(),⟨λ_ GJ CP=>?_,(λh=>by cases h),(λv c h=>by cases h)⟩⟩
     left
     refine ⟨rfl,?_⟩
     left
     refine AW (decide_eq_true rfl) (CT ?_)
     left
     exact q _
    ·subst ho
     cases hA
     left
     refine ⟨_,lc,most,n,_,_,rfl,c8.mono s9,pf,hE,G,(),⟨(λh=>by cases h),λ_ GJ CP=>?_,(λv c h=>by cases h)⟩⟩
     left
     refine ⟨rfl,?_⟩
     left
     refine AF ⟨⟩ ?_
     left
     refine .inl (Hi rfl ?_)
     left
     refine AW (decide_eq_true rfl) ?_
     left
     exact q _
    ·subst ho
     cases hA with
     | val _ hV =>
     left
     refine ⟨_,lc,most,n,_,_,rfl,c8.mono s9,pf,hE,G,(),⟨(λh=>by cases h),(λh=>by cases h),λv' c' h=>?_⟩⟩
     cases h
     have hdv:=hV.dps
     refine ⟨(),λp' r2 GJ CP JD sh2=>?_⟩
     left
     refine ⟨rfl,?_⟩
     left
     refine AF (by simp) ?_
     left
     refine .inr ⟨p,_,_,rfl,CP _ _ Yd,rfl,?_⟩
     left
     refine AF ⟨⟩ ?_
     left
     refine ⟨.ref p',_,_,true,rfl,C6.tup JD,rfl,?_⟩
     left
     refine CT ?_
     left
     refine Ad (Av.of (CP _ _ Yd)) (v:=r') rfl ?_
     left
     refine ⟨e',r',rfl,B9.mono (Au.of_same CP) Ol,hV.isV,(),λr3 F0 CA sh3=>?_⟩
     left
     refine Ad (Av.of (CA _ _ (CP _ _ Yd))) (v:=.int c) rfl ?_
     left
     intros p4 Ou Ei Iy
     refine ⟨.ref p',.ref p4,rfl,?_,λTi Gp=>q _⟩
     exact show AL Ou (237+1) (.ref p') (.ref p4) from .inr ⟨p',p4,_,_,rfl,rfl,Ei _ _ (CA _ _ JD),Iy,by simp,.cons ((AL.of (sh2.mono (Au.of_same (CA.trans Ei))) ((JF.sh hV sh3).mono (Au.of_same Ei))).le (show KX.dps _+1<=237 by omega)) (.cons (.sc rfl) .nil)⟩
  ·have hb:=B4 ue dg
   have hcz:=C4 ue (sR dg).2
   have o1:=ho.np
   have o2:=ho.sz
   left
   refine ⟨a,ns,_,rfl,D3.seq hs,λm1 Yv=>?_⟩
   left
   refine Ep (λ_=>?_) λ_=>?_
   ·left
    have ug:=QS (e:=e) (ρ:=dz) (m:=0) (λ_=>Nat.le_refl _)
    refine ⟨a,ns,_,e,r,rfl,D3.seq hs,he,(),λe' r' H4 s4 Ol RH=>?_⟩
    obtain ⟨k1,k2,k3,k4⟩:=RH.ok
    exact fin _ _ ⟨e',r',rfl,D3.trans s4,Ol,k1 _ ho.cl,k2 ho.op,(),()⟩
   ·exact fin _ _ ⟨e,r,rfl,D3,he,ho.cl,ho.op,(),()⟩
end
end K
end
namespace L2
open PySem PySem.Spec PyProof.Rows KS KX
noncomputable def IK (K:W.Frag):Value->Option (List Value)
 | .ref a=>match K.lookup a with
  | some ⟨.type "tuple",_,.seq its _,_⟩=>some its.toList
  | _=>none
 | _=>none
noncomputable def CQ:List Value->List Nat->Bool
 | [],[]=>true
 | .int i _::r,n::ns=>decide (i=(n:Int)) && CQ r ns
 | _,_=>false
noncomputable def RB (K:W.Frag)(v:Value)(row:Nat × List Nat):Bool:=match IK K v with
 | some [.int i _,.ref c]=>decide (i=(row.1:Int)) && (match IK K (.ref c) with
  | some xs=>CQ xs row.2
  | none=>false)
 | _=>false
noncomputable def Gd (K:W.Frag):List Value->List (Nat × List Nat)->Bool
 | [],[]=>true
 | v::vs,r::rs=>RB K v r && Gd K vs rs
 | _,_=>false
noncomputable def CS (K:W.Frag)(rows:List (Str × Value))(w:Str)(prs:List (Nat × List Nat)):Bool:=match rowAt rows w with
 | some (.ref a)=>(match IK K (.ref a) with
  | some xs=>Gd K xs prs
  | none=>false)
 | _=>false
noncomputable def RC (K:W.Frag)(rows:List (Str × Value)):Bool :=
 CS K rows "name" [] && CS K rows "number" [] && CS K rows "truth" [] && CS K rows "empty" [] && CS K rows "fun" [(2,[1])] && CS K rows "rec" [(3,[1,2])] && CS K rows "call" [(1,[]),(2,[])] && CS K rows "let" [(2,[]),(3,[1])] && CS K rows "when" [(1,[]),(2,[]),(3,[])]
 && CS K rows "pair" [(1,[]),(2,[])] && CS K rows "open" [(1,[]),(4,[2,3])] && CS K rows "link" [(1,[]),(2,[])] && CS K rows "split" [(1,[]),(2,[]),(5,[3,4])] && CS K rows "op" [(2,[]),(3,[])]
theorem Mu {K:W.Frag}{a:Addr}{xs:List Value}(h:IK K (.ref a)=some xs){vs:List V}(r:Vals vs xs)(hl:vs.length<=1000):Kh K a vs:=by
 simp only [IK] at h
 split at h
 ·rename_i od its n sl e
  cases h
  have:=r.length
  exact ⟨_,its,n,e,rfl,rfl,BX (by simp at this;omega),r⟩
 ·cases h
theorem ints_of:∀ {xs:List Value} {ns:List Nat},CQ xs ns=true->Vals (ns.map λn:Nat=>V.int n) xs
 | [],[],_=>.nil
 | .int i t::r,n::ns,h=>by
  simp only [CQ,Bool.and_eq_true,decide_eq_true_eq] at h
  obtain ⟨rfl,h⟩:=h
  exact .cons ⟨t,rfl⟩ (ints_of h)
 | [],_::_,h=>by simp [CQ] at h
 | v::_,[],h=>by cases v <;> simp [CQ] at h
 | .none::_,_::_,h=>by simp [CQ] at h
 | .ellipsis::_,_::_,h=>by simp [CQ] at h
 | .notImplemented::_,_::_,h=>by simp [CQ] at h
 | .bool _::_,_::_,h=>by simp [CQ] at h
 | .float _ _::_,_::_,h=>by simp [CQ] at h
 | .str _ _::_,_::_,h=>by simp [CQ] at h
 | .bytes _ _::_,_::_,h=>by simp [CQ] at h
 | .type _::_,_::_,h=>by simp [CQ] at h
 | .builtin _::_,_::_,h=>by simp [CQ] at h
 | .ref _::_,_::_,h=>by simp [CQ] at h
theorem Z2 {K:W.Frag}{v:Value}{row:Nat × List Nat}(hr:row.2.length<=10)(h:RB K v row=true):∃ b,v=.ref b/\Ta K row (.ref b):=by
 unfold RB at h
 split at h
 ·rename_i i t c e
  rw [Bool.and_eq_true,decide_eq_true_eq] at h
  obtain ⟨rfl,h⟩:=h
  split at h
  ·rename_i xs e2
   cases v with
   | ref b=>exact ⟨b,rfl,b,c,rfl,Mu e (.cons ⟨t,rfl⟩ (.cons rfl .nil)) (by simp),Mu e2 (ints_of h) (by simp;omega)⟩
   | _=>simp [IK] at e
  ·cases h
 ·cases h
theorem NJ {K:W.Frag}:∀ {vs:List Value} {rs:List (Nat × List Nat)},(∀ r∈rs,r.2.length<=10)->Gd K vs rs=true->∃ us,Vals us vs/\Paired (Ta K) rs us
 | [],[],_,_=>⟨[],.nil,.nil⟩
 | [],_::_,_,h=>by simp [Gd] at h
 | _::_,[],_,h=>by simp [Gd] at h
 | v::vs,r::rs,hr,h=>by
  simp only [Gd,Bool.and_eq_true] at h
  obtain ⟨b,rfl,kb⟩:=Z2 (hr r (.head _)) h.1
  obtain ⟨us,h1,h2⟩:=NJ (λr' h'=>hr r' (.tail _ h')) h.2
  exact ⟨.ref b::us,.cons rfl h1,.cons kb h2⟩
theorem Cz {K:W.Frag}{rows:List (Str × Value)}{w:Str}{prs:List (Nat × List Nat)}(hr:∀ r∈prs,r.2.length<=10)(hl:prs.length<=10)(h:CS K rows w prs=true):∃ a us,rowAt rows w=some (.ref a)/\Kh K a us/\Paired (Ta K) prs us:=by
 unfold CS at h
 split at h
 ·rename_i a e
  split at h
  ·rename_i xs e2
   obtain ⟨us,h1,h2⟩:=NJ hr h
   have:=Paired.len h2
   exact ⟨a,us,e,Mu e2 h1 (),h2⟩
  ·cases h
 ·cases h
theorem Z3 {K:W.Frag}{rows:List (Str × Value)}(h:RC K rows=true):KPl K rows:=by
 simp only [RC,Bool.and_eq_true] at h
 obtain ⟨⟨⟨⟨⟨⟨⟨⟨⟨⟨⟨⟨⟨h1,h2⟩,h3⟩,h4⟩,h5⟩,h6⟩,h7⟩,h8⟩,h9⟩,rW⟩,h11⟩,h12⟩,h13⟩,h14⟩:=h
 intro e
 cases e with
 | nm _=>exact Cz (by simp [Ex.plc]) (by simp [Ex.plc]) h1
 | num _=>exact Cz (by simp [Ex.plc]) (by simp [Ex.plc]) h2
 | tru _=>exact Cz (by simp [Ex.plc]) (by simp [Ex.plc]) h3
 | emp=>exact Cz (by simp [Ex.plc]) (by simp [Ex.plc]) h4
 | fn _ _=>exact Cz (by simp [Ex.plc]) (by simp [Ex.plc]) h5
 | rc _ _ _=>exact Cz (by simp [Ex.plc]) (by simp [Ex.plc]) h6
 | cal _ _=>exact Cz (by simp [Ex.plc]) (by simp [Ex.plc]) h7
 | lt _ _ _=>exact Cz (by simp [Ex.plc]) (by simp [Ex.plc]) h8
 | wh _ _ _=>exact Cz (by simp [Ex.plc]) (by simp [Ex.plc]) h9
 | pr _ _=>exact Cz (by simp [Ex.plc]) (by simp [Ex.plc]) rW
 | opn _ _ _ _=>exact Cz (by simp [Ex.plc]) (by simp [Ex.plc]) h11
 | lk _ _=>exact Cz (by simp [Ex.plc]) (by simp [Ex.plc]) h12
 | spl _ _ _ _ _=>exact Cz (by simp [Ex.plc]) (by simp [Ex.plc]) h13
 | op _ _ _=>exact Cz (by simp [Ex.plc]) (by simp [Ex.plc]) h14
end L2
namespace K
open PySem L2 KM KS KX
theorem all_mk {l:W.OpenLaw}{q:Program}{loose:List Str}{w:World}{K:W.Frag}{h:Heap}{mg mb:Str->Option Value}{SX:ExcName->Option Value}{fa:Addr}(X:K.In h)(T0:PyProof.Rows.Top q loose SX mg mb h)(hfa:mg "law"=some (.ref fa))
  {D:Addr}
  {f0:Addr} {o1 a2:Option Addr} {s3:Array (Option Value)} {o4 k5 d6 p7 c8 c9:Value}
  {px:Addr} {o11 pE:Option Addr} {Gp:Array (Option Value)} {o14 k15 d16 p17 c18 c19:Value}
  {pz:Addr} {o21 a22:Option Addr} {s23:Array (Option Value)} {o24 k25 d26 p27 c28 c29:Value}
  {pA:Addr} {o31 a32:Option Addr} {s33:Array (Option Value)} {o34 k35 d36 p37 c38 c39:Value}
  {pB:Addr} {o41 a42:Option Addr} {s43:Array (Option Value)} {o44 k45 d46 p47 c48 c49:Value}
  {pC:Addr} {o51 a52:Option Addr} {s53:Array (Option Value)} {o54 k55 d56 p57 c58 c59:Value}
  {Z4:Addr} {o61 a62:Option Addr} {s63:Array (Option Value)} {o64 k65 d66 p67 c68 c69:Value}
  {gn:Addr} {o71 a72:Option Addr} {s73:Array (Option Value)} {o74 k75 d76 p77 c78 c79:Value}
  {RO:Addr} {o81 a82:Option Addr} {s83:Array (Option Value)} {o84 k85 d86 p87 c88 c89:Value}
  {W3:Addr} {o91 a92:Option Addr} {s93:Array (Option Value)} {o94 k95 d96 p97 c98 c99:Value}
  {HX:Addr} {uh ui:Option Addr} {uj:Array (Option Value)} {uk um uo uq ur kR:Value}
  {OO:Addr} {uu uv:Option Addr} {uw:Array (Option Value)} {ux uy uz uA uB kS:Value}
  {OQ:Addr} {uC uD:Option Addr} {uE:Array (Option Value)} {uF uG uH uI uJ kT:Value}
  {OR:Addr} {uK uL:Option Addr} {uM:Array (Option Value)} {uN uO uP uQ uR kU:Value}
  {OS:Addr} {uS uT:Option Addr} {uU:Array (Option Value)} {uV uW uX uY uZ kW:Value}
  {OU:Addr} {v5 v7:Option Addr} {v8:Array (Option Value)} {v9 vd ve vf vg kX:Value}
  {OV:Addr} {vh vi:Option Addr} {vj:Array (Option Value)} {vk vm vn vo vp kY:Value}
  {Ud:Addr} {vq vt:Option Addr} {vw:Array (Option Value)} {vx vy vz vA vB kZ:Value}
  {Ue:Addr} {vC vD:Option Addr} {vE:Array (Option Value)} {vF vG vH vI vJ l9:Value}
  {Ug:Addr} {vK vL:Option Addr} {vM:Array (Option Value)} {vN vO vP vQ vR lj:Value}
  {Uh:Addr} {vS vT:Option Addr} {vU:Array (Option Value)} {vV vW vX vY vZ ll:Value}
  {Ui:Addr} {w6 we:Option Addr} {wg:Array (Option Value)} {wm wo wq wt wu lx:Value}
  {Uj:Addr} {wx wy:Option Addr} {wz:Array (Option Value)} {wA wB wC wD wF lz:Value}
  {Uk:Addr} {wG wH:Option Addr} {wI:Array (Option Value)} {wJ wK wL wM wN lA:Value}
  {Ul:Addr} {wO wQ:Option Addr} {wR:Array (Option Value)} {wU wV wW wX wY lB:Value}
  {Um:Addr} {wZ x3:Option Addr} {x4:Array (Option Value)} {x5 x6 x8 x9 xa lC:Value}
  {Uo:Addr} {xb xc:Option Addr} {xf:Array (Option Value)} {xg xh xi xj xk lD:Value}
  {Up:Addr} {xl xm:Option Addr} {xn:Array (Option Value)} {xo xp xq xr xt lE:Value}
  {Uq:Addr} {xu xv:Option Addr} {xw:Array (Option Value)} {xx xy xA xB xC lF:Value}
  {Ur:Addr} {xD xE:Option Addr} {xF:Array (Option Value)} {xG xH xI xJ xK lG:Value}
  {Us:Addr} {xM xN:Option Addr} {xO:Array (Option Value)} {xP xQ xR xS xT lH:Value}
  {Ut:Addr} {xU xV:Option Addr} {xW:Array (Option Value)} {xX xY xZ y3 y4 lI:Value}
  {Uu:Addr} {y6 y7:Option Addr} {y8:Array (Option Value)} {y9 ya yb yc yd lJ:Value}
  {Uv:Addr} {ye yf:Option Addr} {yg:Array (Option Value)} {yh yi yj yk yl lK:Value}
  {Uw:Addr} {ym yn:Option Addr} {yo:Array (Option Value)} {yp yq yr yt yu lL:Value}
  {Ux:Addr} {yv yw:Option Addr} {yx:Array (Option Value)} {yy yz yA yB yC lM:Value}
  {Uy:Addr} {yD yE:Option Addr} {yF:Array (Option Value)} {yG yH yI yJ yK lN:Value}
  {Uz:Addr} {yL yM:Option Addr} {yN:Array (Option Value)} {yO yP yQ yR yS lO:Value}
  {UA:Addr} {yT yU:Option Addr} {yV:Array (Option Value)} {yW yX yY yZ z0 lP:Value}
  {UB:Addr} {za zb:Option Addr} {zc:Array (Option Value)} {zd ze zf zg zh lQ:Value}
  {UC:Addr} {zi zj:Option Addr} {zk:Array (Option Value)} {zl zo zp zq zr lR:Value}
  {UD:Addr} {zt zu:Option Addr} {zw:Array (Option Value)} {zx zy zz zA zB lS:Value}
  {UE:Addr} {zC zD:Option Addr} {zE:Array (Option Value)} {zF zG zH zI zJ lT:Value}
  {UG:Addr} {zK zL:Option Addr} {zM:Array (Option Value)} {zN zO zP zQ zR lU:Value}
  {UH:Addr} {zS zT:Option Addr} {zU:Array (Option Value)} {zV zW zX zY zZ lV:Value}
  {UI:Addr} {Aaa Aab:Option Addr} {Aac:Array (Option Value)} {Aad Aae Aaf Aag Aah lW:Value}
  {UJ:Addr} {Aai Aaj:Option Addr} {Aak:Array (Option Value)} {Aal Aam Aan Aao Aap lX:Value}
  {Z5:Addr} {Aaq lY:Option Addr} {Aar:Array (Option Value)} {Aas lZ m6 m7 m8 Z6:Value}
  {gj gm:Addr} {L9 OW:Array DictEntry} {m9 ma:Nat}
  (aD:W.nsIn K mainGlobals "Scope"=some (some (.ref D)))
  (UK:W.findIn K (.ref D) "__init__"=some (some (.ref f0)))
  (UL:W.isFn K (.ref f0)=true)
  (Z7:K.lookup f0=some ⟨o4,o1,.func (W.fnOf "__init__" "Scope.__init__" (AB BM) (Az BM) (Ae BM) .none k5 d6 p7 a2 c9 c8),s3⟩)
  (Z8:W.codeIn K c9 "Scope.__init__"=true)
  (UM:W.keepIn K (.ref f0)=true)
  (pgD:W.plainGet K D Str.empty=true)
  (hdD:W.hasDictIn K D=true)
  (poD:W.plainOver K D=true)
  (saD:W.findIn K (.ref D) "__setattr__"=some (some (.builtin "object.__setattr__")))
  (mkD:W.makesIn K D=true)
  (kcD:W.keepIn K (.ref D)=true)
  (nDT:W.findIn K (.ref D) "tree"=some none)
  (nDP:W.findIn K (.ref D) "places"=some none)
  (nDH:W.findIn K (.ref D) "held"=some none)
  (Z9:W.nsIn K mainGlobals "all_within"=some (some (.ref px)))
  (Za:K.lookup px=some ⟨o14,o11,.func (W.fnOf "all_within" "all_within" (AB Mb) (Az Mb) (Ae Mb) .none k15 d16 p17 pE c19 c18),Gp⟩)
  (Zb:W.codeIn K c19 "all_within"=true)
  (Zc:W.keepIn K (.ref px)=true)
  (Zd:W.nsIn K mainGlobals "built"=some (some (.ref pz)))
  (Ze:K.lookup pz=some ⟨o24,o21,.func (W.fnOf "built" "built" (AB E8) (Az E8) (Ae E8) .none k25 d26 p27 a22 c29 c28),s23⟩)
  (Zf:W.codeIn K c29 "built"=true)
  (Zg:W.keepIn K (.ref pz)=true)
  (Zh:W.nsIn K mainGlobals "names_at"=some (some (.ref pA)))
  (Zi:K.lookup pA=some ⟨o34,o31,.func (W.fnOf "names_at" "names_at" (AB Co) (Az Co) (Ae Co) .none k35 d36 p37 a32 c39 c38),s33⟩)
  (Zj:W.codeIn K c39 "names_at"=true)
  (Zk:W.keepIn K (.ref pA)=true)
  (Zl:W.nsIn K mainGlobals "parts_with_names"=some (some (.ref pB)))
  (Zm:K.lookup pB=some ⟨o44,o41,.func (W.fnOf "parts_with_names" "parts_with_names" (AB B5) (Az B5) (Ae B5) .none k45 d46 p47 a42 c49 c48),s43⟩)
  (Zn:W.codeIn K c49 "parts_with_names"=true)
  (Zo:W.keepIn K (.ref pB)=true)
  (Zp:W.nsIn K mainGlobals "inner_scope"=some (some (.ref pC)))
  (Zq:K.lookup pC=some ⟨o54,o51,.func (W.fnOf "inner_scope" "inner_scope" (AB C8) (Az C8) (Ae C8) .none k55 d56 p57 a52 c59 c58),s53⟩)
  (Zr:W.codeIn K c59 "inner_scope"=true)
  (Zs:W.keepIn K (.ref pC)=true)
  (Zt:W.nsIn K mainGlobals "inner_scopes"=some (some (.ref Z4)))
  (Zu:K.lookup Z4=some ⟨o64,o61,.func (W.fnOf "inner_scopes" "inner_scopes" (AB Bj) (Az Bj) (Ae Bj) .none k65 d66 p67 a62 c69 c68),s63⟩)
  (Zv:W.codeIn K c69 "inner_scopes"=true)
  (UN:W.keepIn K (.ref Z4)=true)
  (Zw:W.nsIn K mainGlobals "code_of_name"=some (some (.ref gn)))
  (Zx:K.lookup gn=some ⟨o74,o71,.func (W.fnOf "code_of_name" "code_of_name" (AB BP) (Az BP) (Ae BP) .none k75 d76 p77 a72 c79 c78),s73⟩)
  (Zy:W.codeIn K c79 "code_of_name"=true)
  (UO:W.keepIn K (.ref gn)=true)
  (Zz:W.nsIn K mainGlobals "code_of_itself"=some (some (.ref RO)))
  (ZA:K.lookup RO=some ⟨o84,o81,.func (W.fnOf "code_of_itself" "code_of_itself" (AB Bo) (Az Bo) (Ae Bo) .none k85 d86 p87 a82 c89 c88),s83⟩)
  (ZC:W.codeIn K c89 "code_of_itself"=true)
  (OX:W.keepIn K (.ref RO)=true)
  (ZD:W.nsIn K mainGlobals "code_of_function"=some (some (.ref W3)))
  (ZE:K.lookup W3=some ⟨o94,o91,.func (W.fnOf "code_of_function" "code_of_function" (AB Bg) (Az Bg) (Ae Bg) .none k95 d96 p97 a92 c99 c98),s93⟩)
  (ZF:W.codeIn K c99 "code_of_function"=true)
  (RD:W.keepIn K (.ref W3)=true)
  (ZG:W.nsIn K mainGlobals "code_of_two"=some (some (.ref HX)))
  (ZH:K.lookup HX=some ⟨uk,uh,.func (W.fnOf "code_of_two" "code_of_two" (AB C9) (Az C9) (Ae C9) .none um uo uq ui kR ur),uj⟩)
  (ZI:W.codeIn K kR "code_of_two"=true)
  (OY:W.keepIn K (.ref HX)=true)
  (ZJ:W.nsIn K mainGlobals "code_of_op"=some (some (.ref OO)))
  (ZK:K.lookup OO=some ⟨ux,uu,.func (W.fnOf "code_of_op" "code_of_op" (AB Cp) (Az Cp) (Ae Cp) .none uy uz uA uv kS uB),uw⟩)
  (ZL:W.codeIn K kS "code_of_op"=true)
  (UP:W.keepIn K (.ref OO)=true)
  (ZM:W.nsIn K mainGlobals "code_of_let"=some (some (.ref OQ)))
  (ZN:K.lookup OQ=some ⟨uF,uC,.func (W.fnOf "code_of_let" "code_of_let" (AB Ca) (Az Ca) (Ae Ca) .none uG uH uI uD kT uJ),uE⟩)
  (ZO:W.codeIn K kT "code_of_let"=true)
  (UQ:W.keepIn K (.ref OQ)=true)
  (ZP:W.nsIn K mainGlobals "code_of_open"=some (some (.ref OR)))
  (ZQ:K.lookup OR=some ⟨uN,uK,.func (W.fnOf "code_of_open" "code_of_open" (AB BQ) (Az BQ) (Ae BQ) .none uO uP uQ uL kU uR),uM⟩)
  (ZR:W.codeIn K kU "code_of_open"=true)
  (UR:W.keepIn K (.ref OR)=true)
  (ZS:W.nsIn K mainGlobals "code_of_when"=some (some (.ref OS)))
  (ZT:K.lookup OS=some ⟨uV,uS,.func (W.fnOf "code_of_when" "code_of_when" (AB BR) (Az BR) (Ae BR) .none uW uX uY uT kW uZ),uU⟩)
  (ZU:W.codeIn K kW "code_of_when"=true)
  (US:W.keepIn K (.ref OS)=true)
  (ZV:W.nsIn K mainGlobals "code_of_split"=some (some (.ref OU)))
  (ZW:K.lookup OU=some ⟨v9,v5,.func (W.fnOf "code_of_split" "code_of_split" (AB By) (Az By) (Ae By) .none vd ve vf v7 kX vg),v8⟩)
  (ZX:W.codeIn K kX "code_of_split"=true)
  (UT:W.keepIn K (.ref OU)=true)
  (ZY:W.nsIn K mainGlobals "code_of"=some (some (.ref OV)))
  (ZZ:K.lookup OV=some ⟨vk,vh,.func (W.fnOf "code_of" "code_of" (AB Dc) (Az Dc) (Ae Dc) .none vm vn vo vi kY vp),vj⟩)
  (Z':W.codeIn K kY "code_of"=true)
  (UU:W.keepIn K (.ref OV)=true)
  (af:W.nsIn K mainGlobals "compiled"=some (some (.ref Ud)))
  (ag:K.lookup Ud=some ⟨vx,vq,.func (W.fnOf "compiled" "compiled" (AB CW) (Az CW) (Ae CW) .none vy vz vA vt kZ vB),vw⟩)
  (ah:W.codeIn K kZ "compiled"=true)
  (ai:W.keepIn K (.ref Ud)=true)
  (aj:W.nsIn K mainGlobals "_law_cell"=some (some (.ref Ue)))
  (ak:K.lookup Ue=some ⟨vF,vC,.func (W.fnOf "_law_cell" "_law_cell" (AB Hs) (Az Hs) (Ae Hs) .none vG vH vI vD l9 vJ),vE⟩)
  (ao:W.codeIn K l9 "_law_cell"=true)
  (UW:W.keepIn K (.ref Ue)=true)
  (aq:W.nsIn K mainGlobals "_law_mix"=some (some (.ref Ug)))
  (ar:K.lookup Ug=some ⟨vN,vK,.func (W.fnOf "_law_mix" "_law_mix" (AB Mc) (Az Mc) (Ae Mc) .none vO vP vQ vL lj vR),vM⟩)
  (au:W.codeIn K lj "_law_mix"=true)
  (aw:W.keepIn K (.ref Ug)=true)
  (az:W.nsIn K mainGlobals "_law_pairs"=some (some (.ref Uh)))
  (aA:K.lookup Uh=some ⟨vV,vS,.func (W.fnOf "_law_pairs" "_law_pairs" (AB EB) (Az EB) (Ae EB) .none vW vX vY vT ll vZ),vU⟩)
  (aB:W.codeIn K ll "_law_pairs"=true)
  (UX:W.keepIn K (.ref Uh)=true)
  (aC:W.nsIn K mainGlobals "_law_wider"=some (some (.ref Ui)))
  (aE:K.lookup Ui=some ⟨wm,w6,.func (W.fnOf "_law_wider" "_law_wider" (AB E9) (Az E9) (Ae E9) .none wo wq wt we lx wu),wg⟩)
  (aF:W.codeIn K lx "_law_wider"=true)
  (aG:W.keepIn K (.ref Ui)=true)
  (aH:W.nsIn K mainGlobals "_law_int"=some (some (.ref Uj)))
  (aI:K.lookup Uj=some ⟨wA,wx,.func (W.fnOf "_law_int" "_law_int" (AB CY) (Az CY) (Ae CY) .none wB wC wD wy lz wF),wz⟩)
  (aJ:W.codeIn K lz "_law_int"=true)
  (aK:W.keepIn K (.ref Uj)=true)
  (aL:W.nsIn K mainGlobals "_law_name"=some (some (.ref Uk)))
  (aM:K.lookup Uk=some ⟨wJ,wG,.func (W.fnOf "_law_name" "_law_name" (AB CD) (Az CD) (Ae CD) .none wK wL wM wH lA wN),wI⟩)
  (aN:W.codeIn K lA "_law_name"=true)
  (aO:W.keepIn K (.ref Uk)=true)
  (aP:W.nsIn K mainGlobals "_law_ground"=some (some (.ref Ul)))
  (aQ:K.lookup Ul=some ⟨wU,wO,.func (W.fnOf "_law_ground" "_law_ground" (AB BH) (Az BH) (Ae BH) .none wV wW wX wQ lB wY),wR⟩)
  (aR:W.codeIn K lB "_law_ground"=true)
  (aS:W.keepIn K (.ref Ul)=true)
  (aT:W.nsIn K mainGlobals "_law_with"=some (some (.ref Um)))
  (aU:K.lookup Um=some ⟨x5,wZ,.func (W.fnOf "_law_with" "_law_with" (AB BI) (Az BI) (Ae BI) .none x6 x8 x9 x3 lC xa),x4⟩)
  (aV:W.codeIn K lC "_law_with"=true)
  (aW:W.keepIn K (.ref Um)=true)
  (aX:W.nsIn K mainGlobals "_law_made"=some (some (.ref Uo)))
  (aY:K.lookup Uo=some ⟨xg,xb,.func (W.fnOf "_law_made" "_law_made" (AB BJ) (Az BJ) (Ae BJ) .none xh xi xj xc lD xk),xf⟩)
  (aZ:W.codeIn K lD "_law_made"=true)
  (b6:W.keepIn K (.ref Uo)=true)
  (b7:W.nsIn K mainGlobals "_law_built"=some (some (.ref Up)))
  (b8:K.lookup Up=some ⟨xo,xl,.func (W.fnOf "_law_built" "_law_built" (AB Bp) (Az Bp) (Ae Bp) .none xp xq xr xm lE xt),xn⟩)
  (b9:W.codeIn K lE "_law_built"=true)
  (bb:W.keepIn K (.ref Up)=true)
  (bc:W.nsIn K mainGlobals "_law_taken"=some (some (.ref Uq)))
  (bg:K.lookup Uq=some ⟨xx,xu,.func (W.fnOf "_law_taken" "_law_taken" (AB C1) (Az C1) (Ae C1) .none xy xA xB xv lF xC),xw⟩)
  (bh:W.codeIn K lF "_law_taken"=true)
  (bj:W.keepIn K (.ref Uq)=true)
  (bo:W.nsIn K mainGlobals "_law_let"=some (some (.ref Ur)))
  (bq:K.lookup Ur=some ⟨xG,xD,.func (W.fnOf "_law_let" "_law_let" (AB CF) (Az CF) (Ae CF) .none xH xI xJ xE lG xK),xF⟩)
  (br:W.codeIn K lG "_law_let"=true)
  (bt:W.keepIn K (.ref Ur)=true)
  (bu:W.nsIn K mainGlobals "_law_show"=some (some (.ref Us)))
  (bw:K.lookup Us=some ⟨xP,xM,.func (W.fnOf "_law_show" "_law_show" (AB BK) (Az BK) (Ae BK) .none xQ xR xS xN lH xT),xO⟩)
  (bx:W.codeIn K lH "_law_show"=true)
  (bz:W.keepIn K (.ref Us)=true)
  (bA:W.nsIn K mainGlobals "_law_alike"=some (some (.ref Ut)))
  (bB:K.lookup Ut=some ⟨xX,xU,.func (W.fnOf "_law_alike" "_law_alike" (AB Bq) (Az Bq) (Ae Bq) .none xY xZ y3 xV lI y4),xW⟩)
  (bD:W.codeIn K lI "_law_alike"=true)
  (bE:W.keepIn K (.ref Ut)=true)
  (bF:W.nsIn K mainGlobals "_law_fits"=some (some (.ref Uu)))
  (bG:K.lookup Uu=some ⟨y9,y6,.func (W.fnOf "_law_fits" "_law_fits" (AB C3) (Az C3) (Ae C3) .none ya yb yc y7 lJ yd),y8⟩)
  (bH:W.codeIn K lJ "_law_fits"=true)
  (bJ:W.keepIn K (.ref Uu)=true)
  (bK:W.nsIn K mainGlobals "_law_reckoned"=some (some (.ref Uv)))
  (bL:K.lookup Uv=some ⟨yh,ye,.func (W.fnOf "_law_reckoned" "_law_reckoned" (AB BA) (Az BA) (Ae BA) .none yi yj yk yf lK yl),yg⟩)
  (bN:W.codeIn K lK "_law_reckoned"=true)
  (bO:W.keepIn K (.ref Uv)=true)
  (bQ:W.nsIn K mainGlobals "_law_done"=some (some (.ref Uw)))
  (bR:K.lookup Uw=some ⟨yp,ym,.func (W.fnOf "_law_done" "_law_done" (AB CG) (Az CG) (Ae CG) .none yq yr yt yn lL yu),yo⟩)
  (bS:W.codeIn K lL "_law_done"=true)
  (bT:W.keepIn K (.ref Uw)=true)
  (bU:W.nsIn K mainGlobals "_law_held"=some (some (.ref Ux)))
  (bV:K.lookup Ux=some ⟨yy,yv,.func (W.fnOf "_law_held" "_law_held" (AB CH) (Az CH) (Ae CH) .none yz yA yB yw lM yC),yx⟩)
  (bW:W.codeIn K lM "_law_held"=true)
  (bX:W.keepIn K (.ref Ux)=true)
  (bY:W.nsIn K mainGlobals "_law_brought"=some (some (.ref Uy)))
  (bZ:K.lookup Uy=some ⟨yG,yD,.func (W.fnOf "_law_brought" "_law_brought" (AB BS) (Az BS) (Ae BS) .none yH yI yJ yE lN yK),yF⟩)
  (cb:W.codeIn K lN "_law_brought"=true)
  (cf:W.keepIn K (.ref Uy)=true)
  (cg:W.nsIn K mainGlobals "_law_whole"=some (some (.ref Uz)))
  (cj:K.lookup Uz=some ⟨yO,yL,.func (W.fnOf "_law_whole" "_law_whole" (AB Fd) (Az Fd) (Ae Fd) .none yP yQ yR yM lO yS),yN⟩)
  (ck:W.codeIn K lO "_law_whole"=true)
  (cm:W.keepIn K (.ref Uz)=true)
  (cn:W.nsIn K mainGlobals "_law_is_value"=some (some (.ref UA)))
  (cp:K.lookup UA=some ⟨yW,yT,.func (W.fnOf "_law_is_value" "_law_is_value" (AB Bk) (Az Bk) (Ae Bk) .none yX yY yZ yU lP z0),yV⟩)
  (cq:W.codeIn K lP "_law_is_value"=true)
  (cu:W.keepIn K (.ref UA)=true)
  (cv:W.nsIn K mainGlobals "_law_give"=some (some (.ref UB)))
  (cw:K.lookup UB=some ⟨zd,za,.func (W.fnOf "_law_give" "_law_give" (AB Ci) (Az Ci) (Ae Ci) .none ze zf zg zb lQ zh),zc⟩)
  (cx:W.codeIn K lQ "_law_give"=true)
  (cy:W.keepIn K (.ref UB)=true)
  (cz:W.nsIn K mainGlobals "_law_give_two"=some (some (.ref UC)))
  (cE:K.lookup UC=some ⟨zl,zi,.func (W.fnOf "_law_give_two" "_law_give_two" (AB Bz) (Az Bz) (Ae Bz) .none zo zp zq zj lR zr),zk⟩)
  (cJ:W.codeIn K lR "_law_give_two"=true)
  (cK:W.keepIn K (.ref UC)=true)
  (cQ:W.nsIn K mainGlobals "_law_first"=some (some (.ref UD)))
  (cU:K.lookup UD=some ⟨zx,zt,.func (W.fnOf "_law_first" "_law_first" (AB Cq) (Az Cq) (Ae Cq) .none zy zz zA zu lS zB),zw⟩)
  (cX:W.codeIn K lS "_law_first"=true)
  (cY:W.keepIn K (.ref UD)=true)
  (d4:W.nsIn K mainGlobals "_law_step"=some (some (.ref UE)))
  (d5:K.lookup UE=some ⟨zF,zC,.func (W.fnOf "_law_step" "_law_step" (AB Cj) (Az Cj) (Ae Cj) .none zG zH zI zD lT zJ),zE⟩)
  (d7:W.codeIn K lT "_law_step"=true)
  (d8:W.keepIn K (.ref UE)=true)
  (d9:W.nsIn K mainGlobals "_law_run"=some (some (.ref UG)))
  (dc:K.lookup UG=some ⟨zN,zK,.func (W.fnOf "_law_run" "_law_run" (AB CZ) (Az CZ) (Ae CZ) .none zO zP zQ zL lU zR),zM⟩)
  (de:W.codeIn K lU "_law_run"=true)
  (df:W.keepIn K (.ref UG)=true)
  (dh:W.nsIn K mainGlobals "_law_spoiled"=some (some (.ref UH)))
  (di:K.lookup UH=some ⟨zV,zS,.func (W.fnOf "_law_spoiled" "_law_spoiled" (AB Bt) (Az Bt) (Ae Bt) .none zW zX zY zT lV zZ),zU⟩)
  (dj:W.codeIn K lV "_law_spoiled"=true)
  (dm:W.keepIn K (.ref UH)=true)
  (dq:W.nsIn K mainGlobals "_law_size"=some (some (.ref UI)))
  (dr:K.lookup UI=some ⟨Aad,Aaa,.func (W.fnOf "_law_size" "_law_size" (AB BL) (Az BL) (Ae BL) .none Aae Aaf Aag Aab lW Aah),Aac⟩)
  (du:W.codeIn K lW "_law_size"=true)
  (dv:W.keepIn K (.ref UI)=true)
  (dy:W.nsIn K mainGlobals "_law_is_step"=some (some (.ref UJ)))
  (dA:K.lookup UJ=some ⟨Aal,Aai,.func (W.fnOf "_law_is_step" "_law_is_step" (AB BU) (Az BU) (Ae BU) .none Aam Aan Aao Aaj lX Aap),Aak⟩)
  (dB:W.codeIn K lX "_law_is_step"=true)
  (dC:W.keepIn K (.ref UJ)=true)
  (UY:W.nsIn K mainGlobals "law"=some (some (.ref Z5)))
  (dD:K.lookup Z5=some ⟨Aas,Aaq,.func (W.fnOf "law" "law" (AB Ht) (Az Ht) (Ae Ht) .none lZ m6 m7 lY Z6 m8),Aar⟩)
  (dE:W.codeIn K Z6 "law"=true)
  (dF:W.keepIn K (.ref Z5)=true)
  (dG:W.nsIn K mainGlobals "range"=some none)
  (dH:W.nsIn K mainGlobals "dict"=some none)
  (dI:W.nsIn K mainGlobals "list"=some none)
  (dJ:W.nsIn K mainGlobals "reversed"=some none)
  (dM:W.nsIn K mainGlobals "tuple"=some none)
  (dN:W.nsIn K mainGlobals "len"=some none)
  (dO:W.nsIn K mainGlobals "isinstance"=some none)
  (dP:W.nsIn K mainGlobals "int"=some none)
  (dQ:W.nsIn K mainGlobals "bool"=some none)
  (dR:W.nsIn K mainGlobals "str"=some none)
  (dS:W.nsIn K mainGlobals "all"=some none)
  (dU:W.nsIn K mainGlobals "max"=some none)
  (dW:W.nsIn K mainGlobals "min"=some none)
  (dX:W.nsIn K mainGlobals "sum"=some none)
  (gPL:W.nsIn K mainGlobals "PLACES"=some (some (.ref gj)))
  (dPL:K.lookup gj=some ⟨.type "dict",none,.dict L9 m9,#[]⟩)
  (hPL:L9.toList=L9.toList.map (M4 w))
  (sPL:(L9.toList.all λe=>Jf e.key)=true)
  (gRC:W.nsIn K mainGlobals "RULES"=some (some (.ref gm)))
  (dRC:K.lookup gm=some ⟨.type "dict",none,.dict OW ma,#[]⟩)
  (hRC:OW.toList=OW.toList.map (M4 w))
  (sRC:(OW.toList.all λe=>Jf e.key)=true)
  (vPL:(Vl L9.toList).map (·.1)=(["name","number","truth","empty","fun","rec","call","let","when","pair","open","link","split","op"]:List Str))
  (pPL:RC K (Vl L9.toList)=true)
  (vRC:Vl OW.toList=([("name",.ref gn),("number",.ref RO),("truth",.ref RO),("empty",.ref RO),("fun",.ref W3),("rec",.ref W3),("call",.ref HX),("let",.ref OQ),("when",.ref OS),("pair",.ref HX),("open",.ref OR),("link",.ref HX),("split",.ref OU),("op",.ref OO)]:List (Str × Value)))
  (hK:W.noTabs K=true) :
  ∃ (fd:FuncData) (tabs:List (Addr × Addr)),W.noTabs K=true/\W.TabsAt tabs h/\(∀ (s:Shared) (u:Value),BindsTo s fd ⟨[u],[]⟩ [("_law_script",u)]) /\
    ∀ base:Heap,K.In base->base.Ns mainGlobals mg->(∀ q∈tabs,MX base mg q.1 q.2)->AY l.prog w K mg base C5 270 fa fd ["_law_script"] (Qg K 63 (tabs.map (·.2))):=by
 have G:=T0.g
 have e0:=hfa.symm.trans (W.mg_of X G UY)
 cases e0
 have mgD:=W.mg_of X G aD
 have mh:=AR (st:=BM) Z7 Z8 UM
 have mj:=mh.binds (ps:=["self","tree","places","held"]) λ_ _ _ _ _ _=>X8 (λ_ _ _ _=>rfl)
 have An1:Meth K D "__init__" f0:=⟨UK,UL,UM⟩
 have dY:=AR (st:=Mb) Za Zb Zc
 have Abd:=W.mg_of X G Z9
 have Abe:=dY.binds (ps:=["top","parts_of"]) λ_ _ _ _ _ _=>DK AO
 have Abf:Df K mg "all_within" Mb ["top","parts_of"] px _:=⟨dY,Abe,Abd⟩
 have dZ:=AR (st:=E8) Ze Zf Zg
 have Abg:=W.mg_of X G Zd
 have Abh:=dZ.binds (ps:=["top","parts_of","make"]) λ_ _ _ _ _ _=>LW (λ_ _ _=>rfl)
 have Abi:Df K mg "built" E8 ["top","parts_of","make"] pz _:=⟨dZ,Abh,Abg⟩
 have er:=AR (st:=Co) Zi Zj Zk
 have Abj:=W.mg_of X G Zh
 have Abk:=er.binds (ps:=["tree","places"]) λ_ _ _ _ _ _=>DK AO
 have Abl:Df K mg "names_at" Co ["tree","places"] pA _:=⟨er,Abk,Abj⟩
 have ez:=AR (st:=B5) Zm Zn Zo
 have Abm:=W.mg_of X G Zl
 have Abn:=ez.binds (ps:=["tree"]) λ_ _ _ _ _ _=>Gw (λ_=>rfl)
 have Abo:Df K mg "parts_with_names" B5 ["tree"] pB _:=⟨ez,Abn,Abm⟩
 have eA:=AR (st:=C8) Zq Zr Zs
 have Abp:=W.mg_of X G Zp
 have Abq:=eA.binds (ps:=["scope","part","names"]) λ_ _ _ _ _ _=>LW (λ_ _ _=>rfl)
 have Abr:Df K mg "inner_scope" C8 ["scope","part","names"] pC _:=⟨eA,Abq,Abp⟩
 have eB:=AR (st:=Bj) Zu Zv UN
 have ml:=W.mg_of X G Zt
 have mn:=eB.binds (ps:=["scope"]) λ_ _ _ _ _ _=>Gw (λ_=>rfl)
 have An2:Df K mg "inner_scopes" Bj ["scope"] Z4 _:=⟨eB,mn,ml⟩
 have eC:=AR (st:=BP) Zx Zy UO
 have Abs:=W.mg_of X G Zw
 have mq:=eC.binds (ps:=["scope","codes"]) λ_ _ _ _ _ _=>DK AO
 have An3:Df K mg "code_of_name" BP ["scope","codes"] gn _:=⟨eC,mq,Abs⟩
 have eE:=AR (st:=Bo) ZA ZC OX
 have Abt:=W.mg_of X G Zz
 have UZ:=eE.binds (ps:=["scope","codes"]) λ_ _ _ _ _ _=>DK AO
 have An4:Df K mg "code_of_itself" Bo ["scope","codes"] RO _:=⟨eE,UZ,Abt⟩
 have eF:=AR (st:=Bg) ZE ZF RD
 have Abu:=W.mg_of X G ZD
 have eG:=eF.binds (ps:=["scope","codes"]) λ_ _ _ _ _ _=>DK AO
 have An5:Df K mg "code_of_function" Bg ["scope","codes"] W3 _:=⟨eF,eG,Abu⟩
 have eI:=AR (st:=C9) ZH ZI OY
 have Abv:=W.mg_of X G ZG
 have U':=eI.binds (ps:=["scope","codes"]) λ_ _ _ _ _ _=>DK AO
 have An6:Df K mg "code_of_two" C9 ["scope","codes"] HX _:=⟨eI,U',Abv⟩
 have eJ:=AR (st:=Cp) ZK ZL UP
 have Abw:=W.mg_of X G ZJ
 have mr:=eJ.binds (ps:=["scope","codes"]) λ_ _ _ _ _ _=>DK AO
 have An7:Df K mg "code_of_op" Cp ["scope","codes"] OO _:=⟨eJ,mr,Abw⟩
 have eK:=AR (st:=Ca) ZN ZO UQ
 have Abx:=W.mg_of X G ZM
 have mv:=eK.binds (ps:=["scope","codes"]) λ_ _ _ _ _ _=>DK AO
 have An8:Df K mg "code_of_let" Ca ["scope","codes"] OQ _:=⟨eK,mv,Abx⟩
 have eL:=AR (st:=BQ) ZQ ZR UR
 have Aby:=W.mg_of X G ZP
 have mw:=eL.binds (ps:=["scope","codes"]) λ_ _ _ _ _ _=>DK AO
 have An9:Df K mg "code_of_open" BQ ["scope","codes"] OR _:=⟨eL,mw,Aby⟩
 have eM:=AR (st:=BR) ZT ZU US
 have Abz:=W.mg_of X G ZS
 have mx:=eM.binds (ps:=["scope","codes"]) λ_ _ _ _ _ _=>DK AO
 have Aoa:Df K mg "code_of_when" BR ["scope","codes"] OS _:=⟨eM,mx,Abz⟩
 have eN:=AR (st:=By) ZW ZX UT
 have Ab0:=W.mg_of X G ZV
 have my:=eN.binds (ps:=["scope","codes"]) λ_ _ _ _ _ _=>DK AO
 have Aob:Df K mg "code_of_split" By ["scope","codes"] OU _:=⟨eN,my,Ab0⟩
 have eO:=AR (st:=Dc) ZZ Z' UU
 have mz:=W.mg_of X G ZY
 have mB:=eO.binds (ps:=["scope","codes"]) λ_ _ _ _ _ _=>DK AO
 have Aoc:Df K mg "code_of" Dc ["scope","codes"] OV _:=⟨eO,mB,mz⟩
 have eP:=AR (st:=CW) ag ah ai
 have Ab1:=W.mg_of X G af
 have Ab2:=eP.binds (ps:=["tree"]) λ_ _ _ _ _ _=>Gw (λ_=>rfl)
 have Ab3:Df K mg "compiled" CW ["tree"] Ud _:=⟨eP,Ab2,Ab1⟩
 have eQ:=AR (st:=Hs) ak ao UW
 have mF:=W.mg_of X G aj
 have mG:=eQ.binds (ps:=HG) λ_ _ _ _ _ _=>DK AO
 have Aod:Df K mg "_law_cell" Hs HG Ue _:=⟨eQ,mG,mF⟩
 have eR:=AR (st:=Mc) ar au aw
 have Ab4:=W.mg_of X G aq
 have Ab5:=eR.binds (ps:=HG) λ_ _ _ _ _ _=>DK AO
 have Ab6:Df K mg "_law_mix" Mc HG Ug _:=⟨eR,Ab5,Ab4⟩
 have eS:=AR (st:=EB) aA aB UX
 have eT:=W.mg_of X G az
 have eU:=eS.binds (ps:=["_law_wide","_law_kind"]) λ_ _ _ _ _ _=>DK AO
 have Aoe:Df K mg "_law_pairs" EB ["_law_wide","_law_kind"] Uh _:=⟨eS,eU,eT⟩
 have eV:=AR (st:=E9) aE aF aG
 have Ab7:=W.mg_of X G aC
 have Ab8:=eV.binds (ps:=["_law_wide","_law_kind"]) λ_ _ _ _ _ _=>DK AO
 have Ab9:Df K mg "_law_wider" E9 ["_law_wide","_law_kind"] Ui _:=⟨eV,Ab8,Ab7⟩
 have eW:=AR (st:=CY) aI aJ aK
 have Aca:=W.mg_of X G aH
 have Acb:=eW.binds (ps:=["_law_number"]) λ_ _ _ _ _ _=>Gw (λ_=>rfl)
 have Acd:Df K mg "_law_int" CY ["_law_number"] Uj _:=⟨eW,Acb,Aca⟩
 have eX:=AR (st:=CD) aM aN aO
 have Ace:=W.mg_of X G aL
 have Acf:=eX.binds (ps:=["_law_number"]) λ_ _ _ _ _ _=>Gw (λ_=>rfl)
 have Acg:Df K mg "_law_name" CD ["_law_number"] Uk _:=⟨eX,Acf,Ace⟩
 have mH:=AR (st:=BH) aQ aR aS
 have Ach:=W.mg_of X G aP
 have Aci:=mH.binds (ps:=["_law_script","_law_k","_law_deep"]) λ_ _ _ _ _ _=>LW (λ_ _ _=>rfl)
 have Acj:Df K mg "_law_ground" BH ["_law_script","_law_k","_law_deep"] Ul _:=⟨mH,Aci,Ach⟩
 have eY:=AR (st:=BI) aU aV aW
 have Ack:=W.mg_of X G aT
 have Acl:=eY.binds (ps:=["_law_names","_law_more"]) λ_ _ _ _ _ _=>DK AO
 have Acm:Df K mg "_law_with" BI ["_law_names","_law_more"] Um _:=⟨eY,Acl,Ack⟩
 have mI:=AR (st:=BJ) aY aZ b6
 have Acn:=W.mg_of X G aX
 have Aco:=mI.binds (ps:=GO) λ_ _ _ _ _ _=>X9 (λ_ _ _ _ _=>rfl)
 have Acp:Df K mg "_law_made" BJ GO Uo _:=⟨mI,Aco,Acn⟩
 have mJ:=AR (st:=Bp) b8 b9 bb
 have Acq:=W.mg_of X G b7
 have Acr:=mJ.binds (ps:=GO) λ_ _ _ _ _ _=>X9 (λ_ _ _ _ _=>rfl)
 have Acs:Df K mg "_law_built" Bp GO Up _:=⟨mJ,Acr,Acq⟩
 have mK:=AR (st:=C1) bg bh bj
 have Acu:=W.mg_of X G bc
 have Acv:=mK.binds (ps:=GO) λ_ _ _ _ _ _=>X9 (λ_ _ _ _ _=>rfl)
 have Acw:Df K mg "_law_taken" C1 GO Uq _:=⟨mK,Acv,Acu⟩
 have mL:=AR (st:=CF) bq br bt
 have Acx:=W.mg_of X G bo
 have Acy:=mL.binds (ps:=["_law_script","_law_k","_law_goal","_law_names","_law_deep","_law_a","_law_kind"]) λ_ _ _ _ _ _=>qK (λ_ _ _ _ _ _ _=>rfl)
 have Acz:Df K mg "_law_let" CF ["_law_script","_law_k","_law_goal","_law_names","_law_deep","_law_a","_law_kind"] Ur _:=⟨mL,Acy,Acx⟩
 have mM:=AR (st:=BK) bw bx bz
 have Ac0:=W.mg_of X G bu
 have Ac1:=mM.binds (ps:=["_law_value"]) λ_ _ _ _ _ _=>Gw (λ_=>rfl)
 have mN:Df K mg "_law_show" BK ["_law_value"] Us _:=⟨mM,Ac1,Ac0⟩
 have mO:=AR (st:=Bq) bB bD bE
 have Ac2:=W.mg_of X G bA
 have Ac3:=mO.binds (ps:=["_law_one","_law_other"]) λ_ _ _ _ _ _=>DK AO
 have Ac4:Df K mg "_law_alike" Bq ["_law_one","_law_other"] Ut _:=⟨mO,Ac3,Ac2⟩
 have eZ:=AR (st:=C3) bG bH bJ
 have Ac5:=W.mg_of X G bF
 have Ac6:=eZ.binds (ps:=["_law_word","_law_taken_here"]) λ_ _ _ _ _ _=>DK AO
 have Ac7:Df K mg "_law_fits" C3 ["_law_word","_law_taken_here"] Uu _:=⟨eZ,Ac6,Ac5⟩
 have f6:=AR (st:=BA) bL bN bO
 have Ac8:=W.mg_of X G bK
 have Ac9:=f6.binds (ps:=["_law_op","_law_one","_law_other"]) λ_ _ _ _ _ _=>LW (λ_ _ _=>rfl)
 have Ada:Df K mg "_law_reckoned" BA ["_law_op","_law_one","_law_other"] Uv _:=⟨f6,Ac9,Ac8⟩
 have f7:=AR (st:=CG) bR bS bT
 have Adb:=W.mg_of X G bQ
 have Adc:=f7.binds (ps:=["_law_code","_law_most"]) λ_ _ _ _ _ _=>DK AO
 have Ade:Df K mg "_law_done" CG ["_law_code","_law_most"] Uw _:=⟨f7,Adc,Adb⟩
 have f9:=AR (st:=CH) bV bW bX
 have Adf:=W.mg_of X G bU
 have Adg:=f9.binds (ps:=["_law_word","_law_last","_law_taken_here","_law_held_here"]) λ_ _ _ _ _ _=>X8 (λ_ _ _ _=>rfl)
 have Adh:Df K mg "_law_held" CH ["_law_word","_law_last","_law_taken_here","_law_held_here"] Ux _:=⟨f9,Adg,Adf⟩
 have fc:=AR (st:=BS) bZ cb cf
 have Adi:=W.mg_of X G bY
 have Adj:=fc.binds (ps:=["_law_one","_law_taken_here","_law_at","_law_held_here"]) λ_ _ _ _ _ _=>X8 (λ_ _ _ _=>rfl)
 have Adk:Df K mg "_law_brought" BS ["_law_one","_law_taken_here","_law_at","_law_held_here"] Uy _:=⟨fc,Adj,Adi⟩
 have fe:=AR (st:=Fd) cj ck cm
 have Adl:=W.mg_of X G cg
 have Adm:=fe.binds (ps:=["_law_found"]) λ_ _ _ _ _ _=>Gw (λ_=>rfl)
 have Adn:Df K mg "_law_whole" Fd ["_law_found"] Uz _:=⟨fe,Adm,Adl⟩
 have mQ:=AR (st:=Bk) cp cq cu
 have Ado:=W.mg_of X G cn
 have Adp:=mQ.binds (ps:=["_law_tree"]) λ_ _ _ _ _ _=>Gw (λ_=>rfl)
 have Adq:Df K mg "_law_is_value" Bk ["_law_tree"] UA _:=⟨mQ,Adp,Ado⟩
 have mS:=AR (st:=Ci) cw cx cy
 have Adr:=W.mg_of X G cv
 have Ads:=mS.binds (ps:=["_law_tree","_law_name_here","_law_one"]) λ_ _ _ _ _ _=>LW (λ_ _ _=>rfl)
 have Adt:Df K mg "_law_give" Ci ["_law_tree","_law_name_here","_law_one"] UB _:=⟨mS,Ads,Adr⟩
 have ff:=AR (st:=Bz) cE cJ cK
 have Adu:=W.mg_of X G cz
 have Adv:=ff.binds (ps:=["_law_tree","_law_names","_law_values"]) λ_ _ _ _ _ _=>LW (λ_ _ _=>rfl)
 have Adw:Df K mg "_law_give_two" Bz ["_law_tree","_law_names","_law_values"] UC _:=⟨ff,Adv,Adu⟩
 have fg:=AR (st:=Cq) cU cX cY
 have Adx:=W.mg_of X G cQ
 have Ady:=fg.binds (ps:=["_law_tree"]) λ_ _ _ _ _ _=>Gw (λ_=>rfl)
 have Adz:Df K mg "_law_first" Cq ["_law_tree"] UD _:=⟨fg,Ady,Adx⟩
 have mT:=AR (st:=Cj) d5 d7 d8
 have Ad0:=W.mg_of X G d4
 have Ad1:=mT.binds (ps:=["_law_tree"]) λ_ _ _ _ _ _=>Gw (λ_=>rfl)
 have Ad2:Df K mg "_law_step" Cj ["_law_tree"] UE _:=⟨mT,Ad1,Ad0⟩
 have fh:=AR (st:=CZ) dc de df
 have Ad3:=W.mg_of X G d9
 have Ad4:=fh.binds (ps:=["_law_tree","_law_most"]) λ_ _ _ _ _ _=>DK AO
 have Ad5:Df K mg "_law_run" CZ ["_law_tree","_law_most"] UG _:=⟨fh,Ad4,Ad3⟩
 have mU:=AR (st:=Bt) di dj dm
 have Ad6:=W.mg_of X G dh
 have Ad7:=mU.binds (ps:=["_law_script","_law_k","_law_tree"]) λ_ _ _ _ _ _=>LW (λ_ _ _=>rfl)
 have Ad8:Df K mg "_law_spoiled" Bt ["_law_script","_law_k","_law_tree"] UH _:=⟨mU,Ad7,Ad6⟩
 have mV:=AR (st:=BL) dr du dv
 have Ad9:=W.mg_of X G dq
 have Aea:=mV.binds (ps:=["_law_tree"]) λ_ _ _ _ _ _=>Gw (λ_=>rfl)
 have Aeb:Df K mg "_law_size" BL ["_law_tree"] UI _:=⟨mV,Aea,Ad9⟩
 have fj:=AR (st:=BU) dA dB dC
 have Aec:=W.mg_of X G dy
 have Aed:=fj.binds (ps:=["_law_found"]) λ_ _ _ _ _ _=>Gw (λ_=>rfl)
 have Aee:Df K mg "_law_is_step" BU ["_law_found"] UJ _:=⟨fj,Aed,Aec⟩
 have Aef:=AR (st:=Ht) dD dE dF
 have Aof:=W.mg_of X G UY
 have V0:=W.mg_none_of X G dG
 have mW:=W.mg_none_of X G dH
 have RE:=W.mg_none_of X G dI
 have mX:=W.mg_none_of X G dJ
 have La:=W.mg_none_of X G dM
 have FQ:=W.mg_none_of X G dN
 have Mv:=W.mg_none_of X G dO
 have Mw:=W.mg_none_of X G dP
 have fk:=W.mg_none_of X G dQ
 have Aeg:=W.mg_none_of X G dR
 have fq:=W.mg_none_of X G dS
 have mY:=W.mg_none_of X G dU
 have Aeh:=W.mg_none_of X G dW
 have Aei:=W.mg_none_of X G dX
 refine ⟨_,[],hK,?_,λs v=>(.of_eq rfl:BindsTo s (W.fnOf "law" "law" (AB Ht) (Az Ht) (Ae Ht) .none lZ m6 m7 lY Z6 m8) ⟨[v],[]⟩ [("_law_script",v)]),λbase KB GB hN=>?_⟩
 ·intro q hq
  cases hq
 ·skip
  have TS:Fi K mg D:=⟨⟨pgD,hdD,poD,saD⟩,nDT,nDP,nDH,mgD⟩
  have tF:=W.mg_of X G gPL
  have u5:=W.mg_of X G gRC
  have Aej:FA w K gj (Vl L9.toList):=⟨⟨L9,m9,dPL,hPL,sPL,rfl⟩,by rw [vPL];decide +kernel⟩
  have Aek:FA w K gm _:=⟨⟨OW,ma,dRC,hRC,sRC,vRC⟩,by simp only [List.map_cons,List.map_nil];decide +kernel⟩
  have cM:Cl l.prog w K mg base 2 "_law_mix" HG (DY K):=Ab6.cl (XM eR (Ts eQ FQ) UW mG mF)
  have cI:Cl l.prog w K mg base 1 "_law_int" ["_law_number"] KW:=Acd.cl (Yr eW)
  have cN:Cl l.prog w K mg base 1 "_law_name" ["_law_number"] G9:=Acg.cl (U2 eX)
  have cV:Cl l.prog w K mg base 1 "_law_with" ["_law_names","_law_more"] Fg:=Acm.cl (U4 eY)
  have cG:Cl l.prog w K mg base 5 "_law_ground" ["_law_script","_law_k","_law_deep"] (Dk K 2):=ID Acj cM 2
  have GP:=λn=>KY (Pr:=l.prog) (w:=w) (base:=base) eS eU eT V0 FQ n
  have cW:Cl l.prog w K mg base 11 "_law_wider" ["_law_wide","_law_kind"] (EO 8):=Ab9.cl (Rq (n:=8) eV mW fq (GP 8) UX eU eT)
  have cMd:Cl l.prog w K mg base 48 "_law_made" GO (Dr K 12):=L8 ⟨Acp,Acw,Acs,Acz⟩ FQ mY Mw RE La V0 cM cN cV cI cG cW 12
  have GI:AY l.prog w K mg base C5 1 f0 _ ["self","tree","places","held"] (ER D):=Rx mh TS
  have MS:Mk K D f0:=⟨mkD,UK,UL,kcD⟩
  have Ael:Cl l.prog w K mg base 1 "names_at" ["tree","places"] (L1 K):=Abl.cl (YH er La)
  have cP:Cl l.prog w K mg base 2 "parts_with_names" ["tree"] NG:=Abo.cl (YI ez Aej tF (Z3 pPL) Ael)
  have cIn:Cl l.prog w K mg base 3 "inner_scope" ["scope","part","names"] (FO D):=Abr.cl (YK eA TS mW MS GI mj)
  have GIs:AY l.prog w K mg base C5 4 Z4 _ ["scope"] (NI D):=YM eB TS cP cIn
  have Aem:Cl l.prog w K mg base 5 "all_within" ["top","parts_of"] (JC D Z4):=Abf.cl (U8 dY RE mX GIs mn UN)
  have Aen:=YO (Pr:=l.prog) (w:=w) (base:=base) eC TS
  have fu:=YR (Pr:=l.prog) (w:=w) (base:=base) eE TS
  have mZ:=YS (Pr:=l.prog) (w:=w) (base:=base) eF TS FQ
  have fz:=U9 (Pr:=l.prog) (w:=w) (base:=base) eI TS
  have Aeo:=YT (Pr:=l.prog) (w:=w) (base:=base) eJ TS
  have Aep:=YU (Pr:=l.prog) (w:=w) (base:=base) eK TS
  have Aeq:=Ua (Pr:=l.prog) (w:=w) (base:=base) eL TS
  have Aer:=YV (Pr:=l.prog) (w:=w) (base:=base) eM TS FQ
  have Aes:=Ub (Pr:=l.prog) (w:=w) (base:=base) eN TS FQ
  have GCo:AY l.prog w K mg base C5 2 OV _ ["scope","codes"] (Bl D λ_=>True):=kD eO TS Aek u5 (Bd ⟨gn,_,rfl,Aen,UO,mq⟩ (Bd ⟨RO,_,rfl,fu,OX,UZ⟩ (Bd ⟨RO,_,rfl,fu,OX,UZ⟩ (Bd ⟨RO,_,rfl,fu,OX,UZ⟩ (Bd ⟨W3,_,rfl,mZ,RD,eG⟩ (Bd ⟨W3,_,rfl,mZ,RD,eG⟩ (Bd ⟨HX,_,rfl,fz,OY,U'⟩ (Bd ⟨OQ,_,rfl,Aep,UQ,mv⟩ (Bd ⟨OS,_,rfl,Aer,US,mx⟩ (Bd ⟨HX,_,rfl,fz,OY,U'⟩ (Bd ⟨OR,_,rfl,Aeq,UR,mw⟩ (Bd ⟨HX,_,rfl,fz,OY,U'⟩ (Bd ⟨OU,_,rfl,Aes,UT,my⟩ (Bd ⟨OO,_,rfl,Aeo,UP,mr⟩ Me))))))))))))))
  have cBu:Cl l.prog w K mg base 6 "built" ["top","parts_of","make"] (FP D Z4 OV):=Abi.cl (kE dZ mX Aem GCo mB UU)
  have cC:Cl l.prog w K mg base 7 "compiled" ["tree"] Eb:=Ab3.cl (kK eP TS MS GI mj cBu ml mz)
  have cS:=VC (Pr:=l.prog) (w:=w) (base:=base) mN 236
  have cF:Cl l.prog w K mg base 1 "_law_fits" ["_law_word","_law_taken_here"] Nt:=Ac7.cl (Yc eZ)
  have cR:Cl l.prog w K mg base 1 "_law_reckoned" ["_law_op","_law_one","_law_other"] Nv:=Ada.cl (Ye f6 Mw)
  have cH:Cl l.prog w K mg base 1 "_law_held" ["_law_word","_law_last","_law_taken_here","_law_held_here"] Nw:=Adh.cl (Yf f9 RE FQ)
  have cB:Cl l.prog w K mg base 2 "_law_brought" ["_law_one","_law_taken_here","_law_at","_law_held_here"] Ny:=Adk.cl (Yg fc FQ cR)
  have cL:Cl l.prog w K mg base 238 "_law_done" ["_law_code","_law_most"] W2:=Ade.cl (AY.exi λcode=>jw f7 FQ mY ⟨⟩ cF cS cH cB)
  have cA:=VE (Pr:=l.prog) (w:=w) (base:=base) Ac4 Mv La fk fq FQ Aeh V0 238
  have cIv:=λn=>Vp (Pr:=l.prog) (w:=w) (base:=base) Adq n
  have cGv:=λn=>Vq (Pr:=l.prog) (w:=w) (base:=base) Adt Mw RE La Mv FQ V0 n
  have cG2:∀ n,Cl l.prog w K mg base (n+2) "_law_give_two" ["_law_tree","_law_names","_law_values"] (Kp n):=λn=>Adw.cl (iO ff (cGv n))
  have cFi:∀ n,Cl l.prog w K mg base (n+2) "_law_first" ["_law_tree"] (Kq n):=λn=>Adz.cl (iP fg (cIv n))
  have cSt:=Vv (Pr:=l.prog) (w:=w) (base:=base) (k:=29) Ad2 Mw cFi cGv cG2
  have cRu:Cl l.prog w K mg base 269 "_law_run" ["_law_tree","_law_most"] (Nr 29 236):=Ad5.cl (jg fh Mw (cIv 236) (cSt 236))
  have cSp:=Vw (Pr:=l.prog) (w:=w) (base:=base) Ad8 FQ Mv La cM 62
  have cSz:=Vx (Pr:=l.prog) (w:=w) (base:=base) Aeb Aei Mv La 62
  have cWh:Cl l.prog w K mg base 1 "_law_whole" ["_law_found"] Np:=Adn.cl (XR fe Mv Mw fk)
  have cIs:Cl l.prog w K mg base 2 "_law_is_step" ["_law_found"] Kz:=Aee.cl (Tx fj Mv Mw fk Aeg La FQ cWh)
  have cSE:=Rl (Pr:=l.prog) (w:=w) (base:=base) mN 236
  exact Z1 Aef RE Mv La FQ fq cM cG cMd cSp cC cIs cSz cRu cL cA cSE
end K
namespace PySem.W.Fast
def tw18362160333508965149:=0
def tw2182315911957991272:=0
def tw4256566379129543958:=0
def tw15826771625237591687:=0
def tw9428232347453767702:=0
def tw8413532704980931053:=0
def tw2605663447135967175:=0
def tw16920630654378721363:=0
def tw2286087403045197363:=0
def tw6502454386800717674:=0
def tw3998091285213217804:=0
def tw7470883181948424788:=0
def tw12888421049749542859:=0
def tw12616953316455319254:=0
def tw9716697815490413275:=0
def tw7976866684352837451:=0
def tw17880691410659598165:=0
def tw18090966007520945834:=0
def tw10146470112109679562:=0
def tw18210853644245041516:=0
def tw5421556502827623836:=0
def tw15348456771559700241:=0
def tw12339842339686629458:=0
def tw15196344491656204881:=0
def tw7284863045179288944:=0
def tw3555990071315744227:=0
def tw12749199994136343073:=0
def tw2199157683056619978:=0
def tw11462373015154770832:=0
def tw7263755593808049425:=0
def tw6503075091572181705:=0
def tw13972227164315307404:=0
def tw1417139643168608077:=0
def tw10468042981616353287:=0
def tw2525335354963551132:=0
def tw11641567009518555944:=0
def tw4327376084817301359:=0
def tw14275135323851152977:=0
def tw7541240918251864522:=0
def tw11839502120175658420:=0
def tw3290671500373746492:=0
def tw9511011688551859204:=0
def tw13683098979314960640:=0
def tw5533268555138352328:=0
def tw10014087306160896672:=0
def tw2929315718819908218:=0
def tw17428302783661728586:=0
def tw15793548533694488674:=0
def tw3578232055699087800:=0
def tw9342709566460181051:=0
def tw3008746676092259941:=0
def tw15474541797716037093:=0
def tw7110955366365799735:=0
def tw16890477208498169341:=0
def tw2897508315996783501:=0
def tw4383928168623455818:=0
def tw18172303259877708334:=0
def tw382489846088173103:=0
def tw16446334229870821039:=0
def tw514703671597907798:=0
def tw3386187718449879151:=0
def tw10466076542055370880:=0
def tw2778057138970484706:=0
def tw15732791297404350908:=0
def tw12595514488183024941:=0
def tw10726605158457435197:=0
def tw3991583683011811412:=0
def tw12454237617731518251:=0
def tw7864312333156916770:=0
def tw15031076356439627354:=0
def tw18047779917289518981:=0
def tw7697420525495590969:=0
def tw1936849927464746510:=0
def tw11658166454228860107:=0
def tw18274683248663934768:=0
def tw6267376731722677668:=0
def tw3792076338919612742:=0
def tw15817447331704085862:=0
def tw12871079390920234654:=0
def tw16471603174528224632:=0
def tw8368278371005914751:=0
def tw5490158881733530372:=0
def tw7958640117183931527:=0
def tw2033203967834506883:=0
def tw12003106225046000179:=0
def tw17213342296335281036:=0
def tw2236874718761725161:=0
def tw10650742027993043238:=0
def tw2761726598588031967:=0
def tw4836291644915790942:=0
def tw14054747354783274314:=0
def tw12242891678935647325:=0
def tw17744881663295503092:=0
def tw2172331896455333532:=0
def tw16531150244124342644:=0
def tw3446811558929282581:=0
def tw17047170572906770485:=0
def tw7300104790998405923:=0
def tw4552614477755476645:=0
def tw7325706884689618941:=0
def tw18012757808235689448:=0
def tw6364409995700627280:=0
def tw6780313812800498601:=0
def tw5717406220732769041:=0
def tw14904499417714821680:=0
def tw1943936591678012411:=0
def tw2680079005329504133:=0
def tw16781261722673911902:=0
def tw16704632831156584179:=0
def tw3582627752789396922:=0
def tw9840192370719691587:=0
def tw895110515480440927:=0
def tw16249730069586413550:=0
def tw9474607092456034968:=0
def tw7203484489934777560:=0
def tw11768149474978209937:=0
def tw12683869130171099271:=0
def tw7715428645238436484:=0
def tw9802341976628887238:=0
def tw13106943588201709337:=0
def tw4107102401456875942:=0
def tw9666475513313776595:=0
def tw432277959982214581:=0
def tw7221776962477476372:=0
def tw8268036685955195293:=0
def tw8375631753794595237:=0
def tw18077439115039179086:=0
def tw8407920911806586461:=0
def tw16992929000183676699:=0
def tw2705928557755656627:=0
def tw8369704860689579869:=0
def tw10342315519342856998:=0
def tw14644459250214497032:=0
def tw5436105580964981786:=0
def tw17981335773979996220:=0
def tw5762067814043239705:=0
def tw6050780713809760282:=0
def tw18371950155813893545:=0
def tw2345801613711579268:=0
def tw2806027686674329923:=0
def tw9169098366220207271:=0
def tw6110121908969516667:=0
def tw9540422547805161649:=0
def tw7868343529105320504:=0
def tw2573985124413752957:=0
def tw6631954405442505268:=0
def tw10774325074898750095:=0
def tw16936162923864940537:=0
def tw12348311848031127532:=0
def tw1197813669719295613:=0
def tw710462961226645907:=0
def tw9744017708170055351:=0
def tw6999619035364094039:=0
def tw9029059191189731532:=0
def tw6196835422288679551:=0
def tw14347448973244142999:=0
def tw17834932415888586845:=0
def tw14594444022062741064:=0
def tw1856886413399957712:=0
def tw11363114778245780637:=0
def tw4831624246539528544:=0
def tw14289786769521857775:=0
def tw1996334496246331133:=0
def tw1241774698829346997:=0
def tw10289589071499870965:=0
def tw5966975392478828904:=0
def tw16862415911130101860:=0
def tw3638201379682301421:=0
def tw12387881811833933790:=0
def tw9028800234322723581:=0
def tw7773705812426218683:=0
def tw11897387108876585059:=0
def tw5379994561830641131:=0
def tw9046741238819804782:=0
def tw9023478720385230859:=0
def tw7004468667865542666:=0
def tw3839562439432695173:=0
def tw14340137594337372875:=0
def tw12765815024060766122:=0
def tw12335756539523901767:=0
def tw10101367129502906097:=0
def tw9680562112316975389:=0
def tw5608430812751997058:=0
def tw317063951970262226:=0
def tw278277129056163991:=0
def tw16310660566374512216:=0
def tw15499894563336537954:=0
def tw1469288606857592032:=0
def tw12532658495478037970:=0
def tw6804440852168630949:=0
def tw13369475793066119229:=0
def tw16529027842293766480:=0
def tw9950091673152711308:=0
def tw9338232055843611867:=0
def tw8517948478081114120:=0
def tw8490195780667075098:=0
def tw5892141446441202147:=0
def tw5455712944942579953:=0
def tw4437494841364241868:=0
def tw3360371330907347530:=0
def tw2457998700699101400:=0
def tw17823289200598741571:=0
def tw1635364541523403594:=0
def tw15260659089018407424:=0
def tw1439368994631019228:=0
def tw14143677779472831537:=0
def tw13503827674777940200:=0
def tw13412967438161772783:=0
def tw13276221568234691089:=0
def tw12377980388619257050:=0
def tw11612010194156308136:=0
def tw11409224443267096392:=0
def tw109105239601278434:=0
def tw10702937615067388734:=0
def tw10179118575137569632:=0
def tw15623487330464072050:=0
def tw7984803572594201382:=0
def tw3465531515951634207:=0
def tw16310211247677388097:=0
def tw11381352181979572897:=0
def tw11164938248225047840:=0
def tw17663543524712706127:=0
def tw15928855415151713:=0
def tw1582281515932906260:=0
def tw14180075804828752254:=0
def tw10064782371146681988:=0
def tw18273476307858722218:=0
def tw411072357941557404:=0
def tw13154015540776234293:=0
def tw3545925476638765570:=0
def tw16691916788214781378:=0
def tw7250943085656909276:=0
def tw6822399756219016694:=0
def tw3825043634042451596:=0
end PySem.W.Fast
open PySem PySem.W PyProof.Rows
set_option maxRecDepth 100000 in
set_option maxHeartbeats 0 in
theorem PySem.Challenge.cw_kindspan_k40_whole_code_tells_holds : PySem.Challenge.rw_kindspan_k40_whole_code_tells.Holds := by
 w_on;o_law;k_head;(case hw=>w_witness2)
 k_fill
 refine L2.i8 (l:=PySem.Challenge.rw_kindspan_k40_whole_code_tells) (n:=63) (k:=270) (x:="_law_script") rfl (by decide) rfl ⟨rfl,by decide,by decide⟩ (fun w h Y=>PySem.W.kIn_of Y) ?F
 case F =>
  intro w mg mb SX fa h KX T gX
  refine' K.all_mk KX T gX ?aDz_ ?UKz_ ?ULz_ ?Z7z_ ?Z8z_ ?UMz_ ?pgDz_ ?hdDz_ ?poDz_ ?saDz_ ?mkDz_ ?kcDz_ ?nDTz_ ?nDPz_ ?nDHz_ ?Z9z_ ?Zaz_ ?Zbz_ ?Zcz_ ?Zdz_ ?Zez_ ?Zfz_ ?Zgz_ ?Zhz_ ?Ziz_ ?Zjz_ ?Zkz_ ?Zlz_ ?Zmz_ ?Znz_ ?Zoz_ ?Zpz_ ?Zqz_ ?Zrz_ ?Zsz_ ?Ztz_ ?Zuz_ ?Zvz_ ?UNz_ ?Zwz_ ?Zxz_ ?Zyz_ ?UOz_ ?Zzz_ ?ZAz_ ?ZCz_ ?OXz_ ?ZDz_ ?ZEz_ ?ZFz_ ?RDz_ ?ZGz_ ?ZHz_ ?ZIz_ ?OYz_ ?ZJz_ ?ZKz_ ?ZLz_ ?UPz_ ?ZMz_ ?ZNz_ ?ZOz_ ?UQz_ ?ZPz_ ?ZQz_ ?ZRz_ ?URz_ ?ZSz_ ?ZTz_ ?ZUz_ ?USz_ ?ZVz_ ?ZWz_ ?ZXz_ ?UTz_ ?ZYz_ ?ZZz_ ?Z'z_ ?UUz_ ?afz_ ?agz_ ?ahz_ ?aiz_ ?ajz_ ?akz_ ?aoz_ ?UWz_ ?aqz_ ?arz_ ?auz_ ?awz_ ?azz_ ?aAz_ ?aBz_ ?UXz_ ?aCz_ ?aEz_ ?aFz_ ?aGz_ ?aHz_ ?aIz_ ?aJz_ ?aKz_ ?aLz_ ?aMz_ ?aNz_ ?aOz_ ?aPz_ ?aQz_ ?aRz_ ?aSz_ ?aTz_ ?aUz_ ?aVz_ ?aWz_ ?aXz_ ?aYz_ ?aZz_ ?b6z_ ?b7z_ ?b8z_ ?b9z_ ?bbz_ ?bcz_ ?bgz_ ?bhz_ ?bjz_ ?boz_ ?bqz_ ?brz_ ?btz_ ?buz_ ?bwz_ ?bxz_ ?bzz_ ?bAz_ ?bBz_ ?bDz_ ?bEz_ ?bFz_ ?bGz_ ?bHz_ ?bJz_ ?bKz_ ?bLz_ ?bNz_ ?bOz_ ?bQz_ ?bRz_ ?bSz_ ?bTz_ ?bUz_ ?bVz_ ?bWz_ ?bXz_ ?bYz_ ?bZz_ ?cbz_ ?cfz_ ?cgz_ ?cjz_ ?ckz_ ?cmz_ ?cnz_ ?cpz_ ?cqz_ ?cuz_ ?cvz_ ?cwz_ ?cxz_ ?cyz_ ?czz_ ?cEz_ ?cJz_ ?cKz_ ?cQz_ ?cUz_ ?cXz_ ?cYz_ ?d4z_ ?d5z_ ?d7z_ ?d8z_ ?d9z_ ?dcz_ ?dez_ ?dfz_ ?dhz_ ?diz_ ?djz_ ?dmz_ ?dqz_ ?drz_ ?duz_ ?dvz_ ?dyz_ ?dAz_ ?dBz_ ?dCz_ ?UYz_ ?dDz_ ?dEz_ ?dFz_ ?dGz_ ?dHz_ ?dIz_ ?dJz_ ?dMz_ ?dNz_ ?dOz_ ?dPz_ ?dQz_ ?dRz_ ?dSz_ ?dUz_ ?dWz_ ?dXz_ ?gPLz_ ?dPLz_ ?hPLz_ ?sPLz_ ?gRCz_ ?dRCz_ ?hRCz_ ?sRCz_ ?vPLz_ ?pPLz_ ?vRCz_ ?hKz_
  (case aDz_|UKz_|ULz_|Z7z_|Z8z_|UMz_|pgDz_|hdDz_|poDz_|saDz_|mkDz_|kcDz_|nDTz_|nDPz_|nDHz_|Z9z_|Zaz_|Zbz_|Zcz_|Zdz_|Zez_|Zfz_|Zgz_|Zhz_|Ziz_|Zjz_|Zkz_|Zlz_|Zmz_|Znz_|Zoz_|Zpz_|Zqz_|Zrz_|Zsz_|Ztz_|Zuz_|Zvz_|UNz_|Zwz_|Zxz_|Zyz_|UOz_|Zzz_|ZAz_|ZCz_|OXz_|ZDz_|ZEz_|ZFz_|RDz_|ZGz_|ZHz_|ZIz_|OYz_|ZJz_|ZKz_|ZLz_|UPz_|ZMz_|ZNz_|ZOz_|UQz_|ZPz_|ZQz_|ZRz_|URz_|ZSz_|ZTz_|ZUz_|USz_|ZVz_|ZWz_|ZXz_|UTz_|ZYz_|ZZz_|Z'z_|UUz_|afz_|agz_|ahz_|aiz_|ajz_|akz_|aoz_|UWz_|aqz_|arz_|auz_|awz_|azz_|aAz_|aBz_|UXz_|aCz_|aEz_|aFz_|aGz_|aHz_|aIz_|aJz_|aKz_|aLz_|aMz_|aNz_|aOz_|aPz_|aQz_|aRz_|aSz_|aTz_|aUz_|aVz_|aWz_|aXz_|aYz_|aZz_|b6z_|b7z_|b8z_|b9z_|bbz_|bcz_|bgz_|bhz_|bjz_|boz_|bqz_|brz_|btz_|buz_|bwz_|bxz_|bzz_|bAz_|bBz_|bDz_|bEz_|bFz_|bGz_|bHz_|bJz_|bKz_|bLz_|bNz_|bOz_|bQz_|bRz_|bSz_|bTz_|bUz_|bVz_|bWz_|bXz_|bYz_|bZz_|cbz_|cfz_|cgz_|cjz_|ckz_|cmz_|cnz_|cpz_|cqz_|cuz_|cvz_|cwz_|cxz_|cyz_|czz_|cEz_|cJz_|cKz_|cQz_|cUz_|cXz_|cYz_|d4z_|d5z_|d7z_|d8z_|d9z_|dcz_|dez_|dfz_|dhz_|diz_|djz_|dmz_|dqz_|drz_|duz_|dvz_|dyz_|dAz_|dBz_|dCz_|UYz_|dDz_|dEz_|dFz_|dGz_|dHz_|dIz_|dJz_|dMz_|dNz_|dOz_|dPz_|dQz_|dRz_|dSz_|dUz_|dWz_|dXz_|gPLz_|dPLz_=>k_is)
  (case hPLz_=>rfl)
  (case sPLz_=>rfl)
  (case gRCz_|dRCz_=>k_is)
  (case hRCz_=>rfl)
  (case sRCz_=>rfl)
  (case vPLz_=>rfl)
  (case pPLz_=>first | rfl | kernel_rfl)
  (case vRCz_=>rfl)
  (case hKz_=>kernel_rfl)
